import PyProof.Rows.All
import Wide.All
import OpenK.AllK
import Wide.FinOn
import HandS.ForMost
import HandS.IsInst
import HandS.Wide
import HandS.AnyAll
import HandS.HeadHook1
import HandS.HeadHook2
import HandS.HeadHook4
import HandS.More
import HandS.Defaults
import HandS.DeepEq
import KE.KEqDict
import PyProof.StrLawsIn
import PyProof.FitsReplace
import HandS.Head0
import HandS.Head1
import HandS.Head2
import HandS.Head3
import HandS.HeadEnd
import HandS.HeadWalk
import HandS.HeadHook3
import PySem.Challenge.RW_slotfitter_k01_names
set_option Elab.async false
set_option linter.all false
set_option maxRecDepth 100000
set_option maxHeartbeats 8000000
/-! Pv1: data without the heap. What a slot of a def holds is said by data alone; the heap is carried once, here. -/
namespace PV
open PySem PySem.Spec PyProof.Rows L2

/-- data -/
inductive D where
  | non | bl (b : Bool) | int (i : Int) | str (x : Str) | lst (xs : List D) | tup (xs : List D) | dK (kvs : List (Key × D)) | scr (ns : List Int)

mutual
inductive Rp (K : PySem.W.Frag) (R : Hp) : V → D → Prop
  | non : Rp K R .non .non
  | bl (b : Bool) : Rp K R (.bl b) (.bl b)
  | int (i : Int) : Rp K R (.int i) (.int i)
  | str (x : Str) : Rp K R (.str x) (.str x)
  | lst {a : Addr} {xs : List V} {ds : List D} : R a = some (.lst xs) → RpA K R xs ds → Rp K R (.ref a) (.lst ds)
  | scr {a : Addr} {ns : List Int} : SqL K R a (ns.map V.int) → Rp K R (.ref a) (.scr ns)
  | tup {a : Addr} {xs : List V} {ds : List D} : SqT K R a xs → RpA K R xs ds → Rp K R (.ref a) (.tup ds)
  | dK {a : Addr} {kvs : List (Key × V)} {kds : List (Key × D)} : R a = some (.dK kvs) → RpK K R kvs kds → Rp K R (.ref a) (.dK kds)
inductive RpA (K : PySem.W.Frag) (R : Hp) : List V → List D → Prop
  | nil : RpA K R [] []
  | cons {v : V} {vs : List V} {d : D} {ds : List D} : Rp K R v d → RpA K R vs ds → RpA K R (v :: vs) (d :: ds)
inductive RpK (K : PySem.W.Frag) (R : Hp) : List (Key × V) → List (Key × D) → Prop
  | nil : RpK K R [] []
  | cons {k : Key} {v : V} {vs : List (Key × V)} {d : D} {ds : List (Key × D)} : Rp K R v d → RpK K R vs ds → RpK K R ((k, v) :: vs) ((k, d) :: ds)
end

/-- no table of a code object -/
def NT : HO → Prop
  | .tbl _ => False
  | _ => True
/-- all that is tracked is as it was (the tables may grow) -/
structure Sm (H H' : Hp) : Prop where
  k : ∀ b o, H b = some o → NT o → H' b = some o
  t : ∀ b ps, H b = some (.tbl ps) → ∃ ps', H' b = some (.tbl ps') ∧ (TriplesOk ps.toList → TriplesOk ps'.toList)
theorem Sm.refl (H : Hp) : Sm H H := ⟨fun _ _ h _ => h, fun _ ps h => ⟨ps, h, id⟩⟩
theorem Sm.trans {H H1 H2 : Hp} (a : Sm H H1) (b : Sm H1 H2) : Sm H H2 := ⟨fun c o h n => b.k c o (a.k c o h n) n, fun c ps h => by
  obtain ⟨p1, h1, t1⟩ := a.t c ps h
  obtain ⟨p2, h2, t2⟩ := b.t c p1 h1
  exact ⟨p2, h2, fun z => t2 (t1 z)⟩⟩
theorem Sm.has {H H' : Hp} (e : Sm H H') {l : Addr} {o : HO} (h : H l = some o) : ∃ o', H' l = some o' := by
  by_cases n : NT o
  · exact ⟨o, e.k l o h n⟩
  · cases o <;> first | exact absurd trivial n | skip
    obtain ⟨p, q, _⟩ := e.t l _ h
    exact ⟨_, q⟩
theorem Sm.free {H H' : Hp} (e : Sm H H') {l : Addr} (h : H' l = Option.none) : H l = Option.none := by
  cases q : H l with
  | none => rfl
  | some o =>
    obtain ⟨o', z⟩ := e.has q
    rw [h] at z; cases z
theorem Sm.seq {K : PySem.W.Frag} {H H' : Hp} {a : Addr} {xs : List V} (e : Sm H H') (h : SqL K H a xs) : SqL K H' a xs := by
  rcases h with (h | ⟨o, h⟩) | h
  · exact .inl (.inl (e.k _ _ h trivial))
  · exact .inl (.inr ⟨o, e.k _ _ h trivial⟩)
  · exact .inr h
/-- a new thing is laid -/
theorem Sm.upd {H H' : Hp} (e : Sm H H') {p : Addr} {o : HO} (n : H' p = none) : Sm H (upd H' p o) := by
  refine e.trans ⟨fun b x h _ => ?_, fun b ps h => ⟨ps, ?_, id⟩⟩
  · rw [upd_ne (ne_of_none h n)]; exact h
  · rw [upd_ne (ne_of_none h n)]; exact h
/-- a place that H does not know is written -/
theorem Sm.put {H H' : Hp} (e : Sm H H') {p : Addr} {o : HO} (n : H p = none) : Sm H (L2.upd H' p o) := by
  refine ⟨fun b x h nt => ?_, fun b ps h => ?_⟩
  · rw [upd_ne (ne_of_none h n)]; exact e.k b x h nt
  · rw [upd_ne (ne_of_none h n)]; exact e.t b ps h
theorem Sm.seqT {K : PySem.W.Frag} {H H' : Hp} {a : Addr} {xs : List V} (e : Sm H H') (h : SqT K H a xs) : SqT K H' a xs := by
  rcases h with (h | ⟨o, h⟩) | h
  · exact .inl (.inl (e.k _ _ h trivial))
  · exact .inl (.inr ⟨o, e.k _ _ h trivial⟩)
  · exact .inr h

section
variable {K : PySem.W.Frag} {R R' H H' : Hp}
mutual
theorem Rp.mono (s : Sm R R') : ∀ {v : V} {d : D}, Rp K R v d → Rp K R' v d
  | _, _, .non => .non
  | _, _, .bl b => .bl b
  | _, _, .int i => .int i
  | _, _, .str x => .str x
  | _, _, .lst h r => .lst (s.k _ _ h trivial) (RpA.mono s r)
  | _, _, .scr h => .scr (s.seq h)
  | _, _, .tup h r => .tup (Sm.seqT s h) (RpA.mono s r)
  | _, _, .dK h r => .dK (s.k _ _ h trivial) (RpK.mono s r)
theorem RpA.mono (s : Sm R R') : ∀ {v : List V} {d : List D}, RpA K R v d → RpA K R' v d
  | _, _, .nil => .nil
  | _, _, .cons h r => .cons (Rp.mono s h) (RpA.mono s r)
theorem RpK.mono (s : Sm R R') : ∀ {v : List (Key × V)} {d : List (Key × D)}, RpK K R v d → RpK K R' v d
  | _, _, .nil => .nil
  | _, _, .cons h r => .cons (Rp.mono s h) (RpK.mono s r)
end
theorem RpA.len : ∀ {vs : List V} {ds : List D}, RpA K R vs ds → vs.length = ds.length
  | _, _, .nil => rfl
  | _, _, .cons _ r => by rw [List.length_cons, List.length_cons, RpA.len r]
theorem RpK.len : ∀ {vs : List (Key × V)} {ds : List (Key × D)}, RpK K R vs ds → vs.length = ds.length
  | _, _, .nil => rfl
  | _, _, .cons _ r => by rw [List.length_cons, List.length_cons, RpK.len r]
theorem RpA.get : ∀ {vs : List V} {ds : List D} {i : Nat} {d : D}, RpA K R vs ds → ds[i]? = some d → ∃ v, vs[i]? = some v ∧ Rp K R v d
  | _, _, _, _, .nil, e => by simp at e
  | _, _, 0, _, .cons h _, e => by simp at e; subst e; exact ⟨_, rfl, h⟩
  | _, _, i + 1, d, .cons _ r, e => by
    obtain ⟨v, h1, h2⟩ := RpA.get (i := i) (d := d) r (by simpa using e)
    exact ⟨v, by simpa using h1, h2⟩
theorem RpA.get' : ∀ {vs : List V} {ds : List D} {i : Nat} {v : V}, RpA K R vs ds → vs[i]? = some v → ∃ d, ds[i]? = some d ∧ Rp K R v d
  | _, _, _, _, .nil, e => by simp at e
  | _, _, 0, _, .cons h _, e => by simp at e; subst e; exact ⟨_, rfl, h⟩
  | _, _, i + 1, v, .cons _ r, e => by
    obtain ⟨d, h1, h2⟩ := RpA.get' (i := i) (v := v) r (by simpa using e)
    exact ⟨d, by simpa using h1, h2⟩
theorem RpA.app : ∀ {vs us : List V} {ds es : List D}, RpA K R vs ds → RpA K R us es → RpA K R (vs ++ us) (ds ++ es)
  | _, _, _, _, .nil, s => s
  | _, _, _, _, .cons h r, s => .cons h (RpA.app r s)
theorem RpA.take : ∀ {vs : List V} {ds : List D} (n : Nat), RpA K R vs ds → RpA K R (vs.take n) (ds.take n)
  | _, _, 0, _ => .nil
  | _, _, _ + 1, .nil => .nil
  | _, _, n + 1, .cons h r => .cons h (RpA.take n r)
theorem RpA.drop : ∀ {vs : List V} {ds : List D} (n : Nat), RpA K R vs ds → RpA K R (vs.drop n) (ds.drop n)
  | _, _, 0, r => r
  | _, _, _ + 1, .nil => .nil
  | _, _, n + 1, .cons _ r => RpA.drop n r
theorem RpA.set {v : V} {d : D} (h : Rp K R v d) : ∀ {vs : List V} {ds : List D} (n : Nat), RpA K R vs ds → RpA K R (vs.set n v) (ds.set n d)
  | _, _, _, .nil => .nil
  | _, _, 0, .cons _ r => .cons h r
  | _, _, n + 1, .cons g r => .cons g (RpA.set h n r)
theorem RpA.ints : ∀ {vs : List V} {ns : List Int}, RpA K R vs (ns.map D.int) → vs = ns.map V.int
  | _, [], h => by cases h; rfl
  | _, n :: ns, h => by
    cases h with
    | cons h r => cases h; rw [RpA.ints r]; rfl
theorem RpA.of_ints : ∀ (ns : List Int), RpA K R (ns.map V.int) (ns.map D.int)
  | [] => .nil
  | n :: ns => .cons (.int n) (RpA.of_ints ns)
theorem RpA.strs : ∀ {vs : List V} {ns : List Str}, RpA K R vs (ns.map D.str) → vs = ns.map V.str
  | _, [], h => by cases h; rfl
  | _, n :: ns, h => by
    cases h with
    | cons h r => cases h; rw [RpA.strs r]; rfl
theorem RpA.of_strs : ∀ (ns : List Str), RpA K R (ns.map V.str) (ns.map D.str)
  | [] => .nil
  | n :: ns => .cons (.str n) (RpA.of_strs ns)
theorem RpA.bls : ∀ {vs : List V} {ns : List Bool}, RpA K R vs (ns.map D.bl) → vs = ns.map V.bl
  | _, [], h => by cases h; rfl
  | _, n :: ns, h => by
    cases h with
    | cons h r => cases h; rw [RpA.bls r]; rfl
end

/-! ### data that nothing can change -/
mutual
def imm : D → Bool
  | .non => true
  | .bl _ => true
  | .int _ => true
  | .str _ => true
  | .lst _ => false
  | .tup ds => immA ds
  | .dK _ => false
  | .scr _ => false
def immA : List D → Bool
  | [] => true
  | d :: ds => imm d && immA ds
end
theorem immA_map {α : Type} {f : α → D} (h : ∀ a, imm (f a) = true) : ∀ l : List α, immA (l.map f) = true
  | [] => rfl
  | a :: l => by
    show (imm (f a) && immA (l.map f)) = true
    rw [h a, immA_map h l]; rfl
theorem immA_app : ∀ {a b : List D}, immA a = true → immA b = true → immA (a ++ b) = true
  | [], _, _, h => h
  | x :: a, b, h, h' => by
    have h : (imm x && immA a) = true := h
    obtain ⟨h1, h2⟩ := Bool.and_eq_true_iff.mp h
    show (imm x && immA (a ++ b)) = true
    rw [h1, immA_app h2 h']; rfl
/-- all the tuples of H stand in R -/
def Tp (R H : Hp) : Prop := ∀ a xs, H a = some (.tup xs) → R a = some (.tup xs)
/-- as Tp, of tuples that are known to the object too -/
def TpF (R H : Hp) : Prop := ∀ a o xs, H a = some (.frz o (.tup xs)) → R a = some (.frz o (.tup xs))
section
variable {K : PySem.W.Frag} {R H : Hp}
theorem SqT.tp {a : Addr} {xs : List V} (t : Tp R H) (f : TpF R H) (h : SqT K H a xs) : SqT K R a xs := by
  rcases h with (h | ⟨o, h⟩) | h
  · exact .inl (.inl (t _ _ h))
  · exact .inl (.inr ⟨o, f _ _ _ h⟩)
  · exact .inr h
mutual
theorem Rp.imm (t : Tp R H) (f : TpF R H) : ∀ {v : V} {d : D}, Rp K H v d → imm d = true → Rp K R v d
  | _, _, .non, _ => .non
  | _, _, .bl b, _ => .bl b
  | _, _, .int i, _ => .int i
  | _, _, .str x, _ => .str x
  | _, _, .lst h r, e => nomatch e
  | _, _, .scr h, e => nomatch e
  | _, _, .tup h r, e => .tup (SqT.tp t f h) (RpA.imm t f r e)
  | _, _, .dK h r, e => nomatch e
theorem RpA.imm (t : Tp R H) (f : TpF R H) : ∀ {v : List V} {d : List D}, RpA K H v d → immA d = true → RpA K R v d
  | _, _, .nil, _ => .nil
  | _, _, .cons (d := d) (ds := ds) h r, e => by
    have e : (PV.imm d && immA ds) = true := e
    obtain ⟨e1, e2⟩ := Bool.and_eq_true_iff.mp e
    exact .cons (Rp.imm t f h e1) (RpA.imm t f r e2)
end
end

/-! ### the tables of the defs that hold a generator expression -/
def genDefs : List (Str × Option Str) := [("is_name", none)]
def TabsK (K : PySem.W.Frag) (H : Hp) : Prop := ∀ p ∈ genDefs, (∃ a, PySem.W.nsIn K mainGlobals p.1 = some (some (.ref a))) → GxR.TabG H (He.cT K p).2
theorem TabG.sm {H H' : Hp} {P : Addr} (s : Sm H H') (h : GxR.TabG H P) : GxR.TabG H' P := by
  obtain ⟨ps, h1, h2⟩ := h
  obtain ⟨ps', h3, h4⟩ := s.t P ps h1
  exact ⟨ps', h3, h4 h2⟩
theorem TabsK.sm {K : PySem.W.Frag} {H H' : Hp} (s : Sm H H') (h : TabsK K H) : TabsK K H' := fun p hp e => TabG.sm s (h p hp e)

/-! ### a tree of lists and tuples of its own, its leaves shared and fixed -/
mutual
inductive Ow (K : PySem.W.Frag) (R H : Hp) : V → D → List Addr → Prop
  | leaf {v : V} {d : D} : Rp K R v d → imm d = true → Ow K R H v d []
  | lst {p : Addr} {xs : List V} {ds : List D} {f : List Addr} : H p = some (.lst xs) → OwA K R H xs ds f → p ∉ f → Ow K R H (.ref p) (.lst ds) (p :: f)
  | tup {p : Addr} {xs : List V} {ds : List D} {f : List Addr} : R p = some (.tup xs) → OwA K R H xs ds f → Ow K R H (.ref p) (.tup ds) f
inductive OwA (K : PySem.W.Frag) (R H : Hp) : List V → List D → List Addr → Prop
  | nil : OwA K R H [] [] []
  | cons {v : V} {vs : List V} {d : D} {ds : List D} {f g : List Addr} : Ow K R H v d f → OwA K R H vs ds g → (∀ a ∈ f, a ∉ g) → OwA K R H (v :: vs) (d :: ds) (f ++ g)
end
section
variable {K : PySem.W.Frag} {R R' H H' : Hp}
mutual
theorem Ow.mono (s : Sm R R') : ∀ {v : V} {d : D} {f : List Addr}, Ow K R H v d f → (∀ p ∈ f, ∀ xs, H p = some (.lst xs) → H' p = some (.lst xs)) → Ow K R' H' v d f
  | _, _, _, .leaf h e, _ => .leaf (Rp.mono s h) e
  | _, _, _, .lst h r n, k => .lst (k _ List.mem_cons_self _ h) (OwA.mono s r fun p hp => k p (List.mem_cons_of_mem _ hp)) n
  | _, _, _, .tup h r, k => .tup (s.k _ _ h trivial) (OwA.mono s r k)
theorem OwA.mono (s : Sm R R') : ∀ {v : List V} {d : List D} {f : List Addr}, OwA K R H v d f → (∀ p ∈ f, ∀ xs, H p = some (.lst xs) → H' p = some (.lst xs)) → OwA K R' H' v d f
  | _, _, _, .nil, _ => .nil
  | _, _, _, .cons h r n, k => .cons (Ow.mono s h fun p hp => k p (List.mem_append_left _ hp)) (OwA.mono s r fun p hp => k p (List.mem_append_right _ hp)) n
end
mutual
theorem Ow.rp (s : Sm R H) : ∀ {v : V} {d : D} {f : List Addr}, Ow K R H v d f → Rp K H v d
  | _, _, _, .leaf h e => Rp.mono s h
  | _, _, _, .lst h r n => .lst h (OwA.rp s r)
  | _, _, _, .tup h r => .tup (SqT.of (s.k _ _ h trivial)) (OwA.rp s r)
theorem OwA.rp (s : Sm R H) : ∀ {v : List V} {d : List D} {f : List Addr}, OwA K R H v d f → RpA K H v d
  | _, _, _, .nil => .nil
  | _, _, _, .cons h r n => .cons (Ow.rp s h) (OwA.rp s r)
end
mutual
theorem Ow.at : ∀ {v : V} {d : D} {f : List Addr}, Ow K R H v d f → ∀ p ∈ f, ∃ xs, H p = some (.lst xs)
  | _, _, _, .leaf h e, p, hp => by cases hp
  | _, _, _, .lst h r n, p, hp => by
    rcases List.mem_cons.mp hp with rfl | hp
    · exact ⟨_, h⟩
    · exact OwA.at r p hp
  | _, _, _, .tup h r, p, hp => OwA.at r p hp
theorem OwA.at : ∀ {v : List V} {d : List D} {f : List Addr}, OwA K R H v d f → ∀ p ∈ f, ∃ xs, H p = some (.lst xs)
  | _, _, _, .nil, p, hp => by cases hp
  | _, _, _, .cons h r n, p, hp => by
    rcases List.mem_append.mp hp with hp | hp
    · exact Ow.at h p hp
    · exact OwA.at r p hp
end
theorem OwA.len : ∀ {v : List V} {d : List D} {f : List Addr}, OwA K R H v d f → v.length = d.length
  | _, _, _, .nil => rfl
  | _, _, _, .cons _ r _ => by rw [List.length_cons, List.length_cons, OwA.len r]
theorem OwA.leafs : ∀ {v : List V} {d : List D}, RpA K R v d → immA d = true → OwA K R H v d []
  | _, _, .nil, _ => .nil
  | _, _, .cons (d := d) (ds := ds) h r, e => by
    have e : (imm d && immA ds) = true := e
    obtain ⟨e1, e2⟩ := Bool.and_eq_true_iff.mp e
    exact .cons (f := []) (g := []) (.leaf h e1) (OwA.leafs r e2) (fun a ha => by cases ha)
theorem OwA.app : ∀ {v u : List V} {d e : List D} {f g : List Addr}, OwA K R H v d f → OwA K R H u e g → (∀ a ∈ f, a ∉ g) → OwA K R H (v ++ u) (d ++ e) (f ++ g)
  | _, _, _, _, _, _, .nil, s, _ => s
  | _, u, _, e, _, g, .cons (f := f1) (g := g1) h r n, s, k => by
    rw [List.append_assoc]
    refine .cons h (OwA.app r s fun a ha => k a (List.mem_append_right _ ha)) fun a ha z => ?_
    rcases List.mem_append.mp z with z | z
    · exact n a ha z
    · exact k a (List.mem_append_left _ ha) z
end
/-- the data at a path -/
def getP : D → List Nat → Option D
  | d, [] => some d
  | .lst ds, i :: r => (ds[i]?).bind fun d => getP d r
  | .tup ds, i :: r => (ds[i]?).bind fun d => getP d r
  | _, _ :: _ => none
def setP : D → List Nat → D → D
  | _, [], e => e
  | .lst ds, i :: r, e => .lst (ds.modify i fun d => setP d r e)
  | .tup ds, i :: r, e => .tup (ds.modify i fun d => setP d r e)
  | d, _ :: _, _ => d
/-- the value at a path -/
inductive At (K : PySem.W.Frag) (H : Hp) : V → List Nat → V → Prop
  | nil {v : V} : At K H v [] v
  | lst {p : Addr} {xs : List V} {i : Nat} {r : List Nat} {u w : V} : H p = some (.lst xs) → xs[i]? = some u → At K H u r w → At K H (.ref p) (i :: r) w
  | tup {p : Addr} {xs : List V} {i : Nat} {r : List Nat} {u w : V} : H p = some (.tup xs) → xs[i]? = some u → At K H u r w → At K H (.ref p) (i :: r) w
section
variable {K : PySem.W.Frag} {R R' H H' : Hp}
mutual
theorem Ow.imm' : ∀ {v : V} {d : D} {f : List Addr}, Ow K R H v d f → imm d = true → f = [] ∧ Rp K R v d
  | _, _, _, .leaf h e, _ => ⟨rfl, h⟩
  | _, _, _, .lst h r n, e => nomatch e
  | _, _, _, .tup h r, e => by
    obtain ⟨h1, h2⟩ := OwA.imm' r e
    exact ⟨h1, .tup (SqT.of h) h2⟩
theorem OwA.imm' : ∀ {v : List V} {d : List D} {f : List Addr}, OwA K R H v d f → immA d = true → f = [] ∧ RpA K R v d
  | _, _, _, .nil, _ => ⟨rfl, .nil⟩
  | _, _, _, .cons (d := d) (ds := ds) h r n, e => by
    have e : (imm d && immA ds) = true := e
    obtain ⟨e1, e2⟩ := Bool.and_eq_true_iff.mp e
    obtain ⟨h1, h2⟩ := Ow.imm' h e1
    obtain ⟨h3, h4⟩ := OwA.imm' r e2
    exact ⟨by rw [h1, h3]; rfl, .cons h2 h4⟩
end
theorem immA_get : ∀ {ds : List D} {i : Nat} {d : D}, immA ds = true → ds[i]? = some d → imm d = true
  | [], i, d, _, h => by simp at h
  | x :: r, i, d, e, h => by
    have e : (imm x && immA r) = true := e
    obtain ⟨e1, e2⟩ := Bool.and_eq_true_iff.mp e
    cases i with
    | zero => simp at h; subst h; exact e1
    | succ i => exact immA_get e2 (i := i) (by simpa using h)
theorem getP_imm : ∀ (path : List Nat) {d e : D}, imm d = true → getP d path = some e → imm e = true
  | [], d, e, h, q => by
    have : d = e := by cases d <;> exact Option.some.inj q
    subst this; exact h
  | i :: r, d, e, h, q => by
    cases d with
    | tup ds =>
      have q : ((ds[i]?).bind fun d => getP d r) = some e := q
      cases z : ds[i]? with
      | none => rw [z] at q; cases q
      | some x => rw [z] at q; exact getP_imm r (immA_get h z) q
    | lst ds => cases h
    | _ => cases q
theorem OwA.get : ∀ {vs : List V} {ds : List D} {f : List Addr} {i : Nat} {d : D}, OwA K R H vs ds f → ds[i]? = some d → ∃ v g, vs[i]? = some v ∧ Ow K R H v d g ∧ ∀ a ∈ g, a ∈ f
  | _, _, _, _, _, .nil, e => by simp at e
  | _, _, _, 0, _, .cons h r n, e => by simp at e; subst e; exact ⟨_, _, rfl, h, fun a ha => List.mem_append_left _ ha⟩
  | _, _, _, i + 1, d, .cons h r n, e => by
    obtain ⟨v, g, h1, h2, h3⟩ := OwA.get (i := i) (d := d) r (by simpa using e)
    exact ⟨v, g, by simpa using h1, h2, fun a ha => List.mem_append_right _ (h3 a ha)⟩
/-- what stands at a path stands in the tree -/
theorem Ow.sub (sb : Sm R H) : ∀ (path : List Nat) {v w : V} {d e : D} {f : List Addr}, Ow K R H v d f → At K H v path w → getP d path = some e → imm e = false → ∃ g, Ow K R H w e g ∧ ∀ a ∈ g, a ∈ f
  | [], v, w, d, e, f, h, a, q, _ => by
    have : d = e := by cases d <;> exact Option.some.inj q
    subst this
    cases a
    exact ⟨f, h, fun _ z => z⟩
  | i :: r, v, w, d, e, f, h, a, q, ne => by
    cases h with
    | leaf h im => rw [getP_imm _ im q] at ne; cases ne
    | @lst p xs ds f hp r' n =>
      have q : ((ds[i]?).bind fun d => getP d r) = some e := q
      cases z : ds[i]? with
      | none => rw [z] at q; cases q
      | some x =>
        rw [z] at q
        obtain ⟨u, g, hu1, hu2, hu3⟩ := r'.get z
        cases a with
        | lst k1 k2 k3 =>
          rw [hp] at k1
          cases k1
          rw [hu1] at k2
          cases k2
          obtain ⟨g2, h1, h2⟩ := Ow.sub sb r hu2 k3 q ne
          exact ⟨g2, h1, fun a ha => List.mem_cons_of_mem _ (hu3 a (h2 a ha))⟩
        | tup k1 k2 k3 => rw [hp] at k1; cases k1
    | @tup p xs ds f hp r' =>
      have q : ((ds[i]?).bind fun d => getP d r) = some e := q
      have hp := sb.k _ _ hp trivial
      cases z : ds[i]? with
      | none => rw [z] at q; cases q
      | some x =>
        rw [z] at q
        obtain ⟨u, g, hu1, hu2, hu3⟩ := r'.get z
        cases a with
        | tup k1 k2 k3 =>
          rw [hp] at k1
          cases k1
          rw [hu1] at k2
          cases k2
          obtain ⟨g2, h1, h2⟩ := Ow.sub sb r hu2 k3 q ne
          exact ⟨g2, h1, fun a ha => hu3 a (h2 a ha)⟩
        | lst k1 k2 k3 => rw [hp] at k1; cases k1
/-- a list of the tree, at a path, is written: its items old and new are fixed -/
def Put (K : PySem.W.Frag) (R H : Hp) (w : V) (es : List D) (f : List Addr) (k : Addr → List V → List D → Prop) : Prop :=
  ∃ p xs, w = .ref p ∧ p ∈ f ∧ H p = some (.lst xs) ∧ RpA K R xs es ∧ ∀ ys es', RpA K R ys es' → immA es' = true → k p ys es'
theorem modify_cons_succ {α : Type} (g : α → α) (x : α) (r : List α) (i : Nat) : (x :: r).modify (i + 1) g = x :: r.modify i g := rfl
theorem modify_cons_zero {α : Type} (g : α → α) (x : α) (r : List α) : (x :: r).modify 0 g = g x :: r := rfl
theorem OwA.keep {p : Addr} {o : HO} {v : List V} {d : List D} {f : List Addr} (h : OwA K R H v d f) (n : p ∉ f) : OwA K R (upd H p o) v d f :=
  OwA.mono (Sm.refl R) h fun q hq xs e => by rw [upd_ne (fun z => n (by rw [← z]; exact hq))]; exact e
theorem Ow.keep {p : Addr} {o : HO} {v : V} {d : D} {f : List Addr} (h : Ow K R H v d f) (n : p ∉ f) : Ow K R (upd H p o) v d f :=
  Ow.mono (Sm.refl R) h fun q hq xs e => by rw [upd_ne (fun z => n (by rw [← z]; exact hq))]; exact e
theorem OwA.put {w u : V} {es : List D} {r : List Nat} (ih : ∀ {v : V} {d : D} {f : List Addr}, Ow K R H v d f → At K H v r w → getP d r = some (.lst es) → Put K R H w es f fun p ys es' => Ow K R (upd H p (.lst ys)) v (setP d r (.lst es')) f)
    (ka : At K H u r w) : ∀ {vs : List V} {ds : List D} {f : List Addr} {i : Nat} {x : D}, OwA K R H vs ds f → ds[i]? = some x → vs[i]? = some u → getP x r = some (.lst es) →
    Put K R H w es f fun p ys es' => OwA K R (upd H p (.lst ys)) vs (ds.modify i fun d => setP d r (.lst es')) f
  | _, _, _, _, _, .nil, e, _, _ => by simp at e
  | _, _, _, 0, x, .cons h r' n, e, e2, q => by
    simp at e e2
    subst e e2
    obtain ⟨p, xs, h1, h2, h3, h4, h5⟩ := ih h ka q
    refine ⟨p, xs, h1, List.mem_append_left _ h2, h3, h4, fun ys es' a b => ?_⟩
    show OwA K R (upd H p (.lst ys)) _ (_ :: _) _
    exact .cons (h5 ys es' a b) (r'.keep (n p h2)) n
  | _, _, _, i + 1, x, .cons h r' n, e, e2, q => by
    obtain ⟨p, xs, h1, h2, h3, h4, h5⟩ := OwA.put ih ka r' (i := i) (x := x) (by simpa using e) (by simpa using e2) q
    refine ⟨p, xs, h1, List.mem_append_right _ h2, h3, h4, fun ys es' a b => ?_⟩
    show OwA K R (upd H p (.lst ys)) _ (_ :: _) _
    exact .cons (h.keep fun z => n p z h2) (h5 ys es' a b) n
theorem Ow.put (sb : Sm R H) {w : V} {es : List D} (he : immA es = true) : ∀ (path : List Nat) {v : V} {d : D} {f : List Addr}, Ow K R H v d f → At K H v path w → getP d path = some (.lst es) → Put K R H w es f fun p ys es' => Ow K R (upd H p (.lst ys)) v (setP d path (.lst es')) f
  | [], v, d, f, h, a, q => by
    have : d = .lst es := by cases d <;> exact Option.some.inj q
    subst this
    cases a
    cases h with
    | leaf h im => cases im
    | @lst p xs _ f hp r n =>
      obtain ⟨rfl, hr⟩ := r.imm' he
      exact ⟨p, xs, rfl, List.mem_cons_self, hp, hr, fun ys es' a b => .lst upd_same (OwA.leafs a b) (fun z => by cases z)⟩
  | i :: r, v, d, f, h, a, q => by
    cases h with
    | leaf h im => have := getP_imm _ im q; cases this
    | @lst p0 xs ds f hp r' n =>
      have q : ((ds[i]?).bind fun d => getP d r) = some (.lst es) := q
      cases z : ds[i]? with
      | none => rw [z] at q; cases q
      | some x =>
        rw [z] at q
        cases a with
        | lst k1 k2 k3 =>
          rw [hp] at k1
          cases k1
          obtain ⟨p, ys, h1, h2, h3, h4, h5⟩ := OwA.put (fun {v d f} h a q => Ow.put sb he r h a q) k3 r' z k2 q
          refine ⟨p, ys, h1, List.mem_cons_of_mem _ h2, h3, h4, fun zs es' a b => ?_⟩
          exact .lst (by rw [upd_ne (fun z => n (by rw [z]; exact h2))]; exact hp) (h5 zs es' a b) n
        | tup k1 k2 k3 => rw [hp] at k1; cases k1
    | @tup p0 xs ds f hp r' =>
      have q : ((ds[i]?).bind fun d => getP d r) = some (.lst es) := q
      have hp' := sb.k _ _ hp trivial
      cases z : ds[i]? with
      | none => rw [z] at q; cases q
      | some x =>
        rw [z] at q
        cases a with
        | tup k1 k2 k3 =>
          rw [hp'] at k1
          cases k1
          obtain ⟨p, ys, h1, h2, h3, h4, h5⟩ := OwA.put (fun {v d f} h a q => Ow.put sb he r h a q) k3 r' z k2 q
          exact ⟨p, ys, h1, h2, h3, h4, fun zs es' a b => .tup hp (h5 zs es' a b)⟩
        | lst k1 k2 k3 => rw [hp'] at k1; cases k1
end
end PV

namespace PV
open PySem PySem.Spec PyProof.Rows L2

/-- from the shared part R of the heap H to R' of H': nothing tracked is lost, what is new in R' is new in H' -/
structure Step (R H R' H' : Hp) : Prop where
  rr : Sm R R'
  rh : Sm R' H'
  hh : Sm H H'
  nw : ∀ a, R a = none → R' a ≠ none → H a = none
  tp : Tp R' H'
  tf : TpF R' H'
theorem Step.free {R H R' H' : Hp} (s : Step R H R' H') {a : Addr} (h : R a = none) (h' : H a ≠ none) : R' a = none := by
  cases q : R' a with
  | none => rfl
  | some o => exact absurd (s.nw a h (by rw [q]; intro z; cases z)) h'
theorem Step.trans {R H R1 H1 R2 H2 : Hp} (s : Step R H R1 H1) (t : Step R1 H1 R2 H2) : Step R H R2 H2 :=
  ⟨s.rr.trans t.rr, t.rh, s.hh.trans t.hh, fun a h h2 => by
    cases q : R1 a with
    | none => exact Sm.free s.hh (t.nw a q h2)
    | some o => exact s.nw a h (by rw [q]; intro z; cases z), t.tp, t.tf⟩
/-- where one may stand: R is a part of H that has all tuples -/
structure Sub (R H : Hp) : Prop where
  rh : Sm R H
  tp : Tp R H
  tf : TpF R H
theorem Sub.step {R H : Hp} (s : Sub R H) : Step R H R H := ⟨Sm.refl _, s.rh, Sm.refl _, fun a h h' => absurd h h', s.tp, s.tf⟩
theorem Step.sub {R H R' H' : Hp} (s : Step R H R' H') : Sub R' H' := ⟨s.rh, s.tp, s.tf⟩
theorem Sub.self (H : Hp) : Sub H H := ⟨Sm.refl _, fun _ _ h => h, fun _ _ _ h => h⟩

/-- a slot: nothing is said; shared data; a list or dict of its own; data that stands until something owned is changed -/
inductive Sl where
  | no | sh (d : D) | ow (d : D) | al (d : D) | od (d : D)
/-- a value: shared, just made, or to be read until something owned is changed -/
inductive Rs where
  | sh (d : D) | nw (d : D) | al (d : D) | nd (d : D)
def Rs.dat : Rs → D
  | .sh d => d
  | .nw d => d
  | .al d => d
  | .nd d => d
def Rs.sl : Rs → Sl
  | .sh d => .sh d
  | .nw d => .ow d
  | .al d => .al d
  | .nd d => .od d
/-- what the object o holds, its items shared -/
def ObjD (K : PySem.W.Frag) (R : Hp) : HO → D → Prop
  | .lst xs, .lst ds => RpA K R xs ds
  | .dK kvs, .dK kds => RpK K R kvs kds
  | _, _ => False
section
variable {K : PySem.W.Frag} {R R' H H' R1 H1 R2 H2 : Hp} {o : HO} {d : D}
theorem ObjD.mono (s : Sm R R') (h : ObjD K R o d) : ObjD K R' o d := by
  cases o <;> cases d <;> first | exact h.elim | exact RpA.mono s h | exact RpK.mono s h
theorem ObjD.rp (h : ObjD K R o d) {p : Addr} (e : R p = some o) : Rp K R (.ref p) d := by
  cases o <;> cases d <;> first | exact h.elim | exact .lst e h | exact .dK e h
theorem ObjD.nt (h : ObjD K R o d) : NT o := by
  cases o <;> cases d <;> first | exact h.elim | trivial
theorem ObjD.ntup (h : ObjD K R o d) {xs : List V} : o ≠ .tup xs := by
  rintro rfl
  cases d <;> exact h
theorem ObjD.nfrz (h : ObjD K R o d) {u : Obj} {v : HO} : o ≠ .frz u v := by
  rintro rfl
  cases d <;> exact h

def Own (K : PySem.W.Frag) (R H : Hp) (p : Addr) (d : D) : Prop := R p = none ∧ ∃ o, H p = some o ∧ ObjD K R o d
theorem Own.step (s : Step R1 H1 R2 H2) {p : Addr} (h : Own K R1 H1 p d) : Own K R2 H2 p d := by
  obtain ⟨h1, o, h2, h3⟩ := h
  exact ⟨s.free h1 (by rw [h2]; intro z; cases z), o, s.hh.k _ _ h2 h3.nt, h3.mono s.rr⟩
theorem Own.rp (s : Sub R H) {p : Addr} (h : Own K R H p d) : Rp K H (.ref p) d := by
  obtain ⟨_, o, h2, h3⟩ := h
  exact (h3.mono s.rh).rp h2
theorem Ow.step (s : Step R1 H1 R2 H2) {v : V} {f : List Addr} (h : Ow K R1 H1 v d f) : Ow K R2 H2 v d f := Ow.mono s.rr h fun p hp xs e => s.hh.k _ _ e trivial
/-- a new tree: its lists are new since H and not shared -/
def Nd (K : PySem.W.Frag) (H R' H' : Hp) (v : V) (d : D) (f : List Addr) : Prop := Ow K R' H' v d f ∧ ∀ p ∈ f, H p = none ∧ R' p = none
/-- H: where the evaluation began -/
def Res (K : PySem.W.Frag) (H R' H' : Hp) (v : V) : Rs → Prop
  | .sh d => Rp K R' v d
  | .nw d => ∃ p, v = .ref p ∧ H p = none ∧ Own K R' H' p d
  | .al d => Rp K H' v d
  | .nd d => ∃ f, Nd K H R' H' v d f
theorem Nd.step {v : V} {f : List Addr} (s : Step R1 H1 R2 H2) (h : Nd K H R1 H1 v d f) : Nd K H R2 H2 v d f := ⟨h.1.step s, fun p hp => ⟨(h.2 p hp).1, by
  obtain ⟨xs, e⟩ := h.1.at p hp
  exact s.free (h.2 p hp).2 (by rw [e]; intro z; cases z)⟩⟩
theorem Res.step {r : Rs} {v : V} (s : Step R1 H1 R2 H2) (h : Res K H R1 H1 v r) : Res K H R2 H2 v r := by
  cases r with
  | sh d => exact Rp.mono s.rr h
  | nw d => obtain ⟨p, e, n, w⟩ := h; exact ⟨p, e, n, w.step s⟩
  | al d => exact Rp.mono s.hh h
  | nd d => obtain ⟨f, h⟩ := h; exact ⟨f, h.step s⟩
/-- an evaluation that began later began earlier too -/
theorem Res.back {r : Rs} {v : V} (s : Sm H H1) (h : Res K H1 R2 H2 v r) : Res K H R2 H2 v r := by
  cases r with
  | sh d => exact h
  | nw d => obtain ⟨p, e, n, w⟩ := h; exact ⟨p, e, Sm.free s n, w⟩
  | al d => exact h
  | nd d => obtain ⟨f, h⟩ := h; exact ⟨f, h.1, fun p hp => ⟨Sm.free s (h.2 p hp).1, (h.2 p hp).2⟩⟩
theorem Res.rp {r : Rs} {v : V} (s : Sub R' H') (h : Res K H R' H' v r) : Rp K H' v r.dat := by
  cases r with
  | sh d => exact Rp.mono s.rh h
  | nw d => obtain ⟨p, rfl, n, w⟩ := h; exact w.rp s
  | al d => exact h
  | nd d => obtain ⟨f, h⟩ := h; exact h.1.rp s.rh

/-- a slot's value; f: the lists and dicts that are its own -/
def SlOk (K : PySem.W.Frag) (B R H : Hp) (v : Option V) (f : List Addr) : Sl → Prop
  | .no => f = []
  | .sh d => f = [] ∧ ∃ x, v = some x ∧ Rp K R x d
  | .ow d => ∃ p, v = some (.ref p) ∧ f = [p] ∧ B p = none ∧ Own K R H p d
  | .al d => f = [] ∧ ∃ x, v = some x ∧ Rp K H x d
  | .od d => ∃ x, v = some x ∧ Ow K R H x d f ∧ ∀ p ∈ f, B p = none ∧ R p = none
theorem SlOk.step {B : Hp} {s : Sl} {v : Option V} {f : List Addr} (t : Step R1 H1 R2 H2) (h : SlOk K B R1 H1 v f s) : SlOk K B R2 H2 v f s := by
  cases s with
  | no => exact h
  | sh d => obtain ⟨z, x, e, r⟩ := h; exact ⟨z, x, e, Rp.mono t.rr r⟩
  | ow d => obtain ⟨p, e, z, b, w⟩ := h; exact ⟨p, e, z, b, w.step t⟩
  | al d => obtain ⟨z, x, e, r⟩ := h; exact ⟨z, x, e, Rp.mono t.hh r⟩
  | od d =>
    obtain ⟨x, e, w, k⟩ := h
    refine ⟨x, e, w.step t, fun p hp => ⟨(k p hp).1, ?_⟩⟩
    obtain ⟨xs, q⟩ := w.at p hp
    exact t.free (k p hp).2 (by rw [q]; intro z; cases z)
theorem SlOk.own {B : Hp} {s : Sl} {v : Option V} {f : List Addr} (h : SlOk K B R H v f s) : ∀ p ∈ f, B p = none ∧ R p = none ∧ ∃ o, H p = some o := by
  cases s with
  | no => intro p hp; rw [show f = [] from h] at hp; cases hp
  | sh d => intro p hp; rw [h.1] at hp; cases hp
  | ow d =>
    obtain ⟨q, e, z, b, w⟩ := h
    intro p hp
    rw [z] at hp
    rw [List.mem_singleton.mp hp]
    obtain ⟨w1, o, w2, _⟩ := w
    exact ⟨b, w1, o, w2⟩
  | al d => intro p hp; rw [h.1] at hp; cases hp
  | od d =>
    obtain ⟨x, e, w, k⟩ := h
    intro p hp
    obtain ⟨xs, q⟩ := w.at p hp
    exact ⟨(k p hp).1, (k p hp).2, _, q⟩
/-- the footprints of the slots -/
structure Fps (K : PySem.W.Frag) (B R : Hp) (ρ : List Sl) (σ : L2.St) (H : Hp) (φ : Nat → List Addr) : Prop where
  sl : ∀ (i : Nat) (s : Sl) (v : Option V), ρ[i]? = some s → σ[i]? = some v → SlOk K B R H v (φ i) s
  out : ∀ i, ρ.length ≤ i → φ i = []
  df : ∀ i j p, i ≠ j → p ∈ φ i → p ∉ φ j

/-- the state of a def: B, R0 its heap at the entry -/
structure St (K : PySem.W.Frag) (B R0 R : Hp) (ρ : List Sl) (σ : L2.St) (H : Hp) : Prop where
  stp : Step R0 B R H
  tb : TabsK K B
  len : ρ.length = σ.length
  fps : ∃ φ, Fps K B R ρ σ H φ
variable {B R0 : Hp} {ρ ρ' : List Sl} {σ σ' : L2.St}
theorem St.sub (h : St K B R0 R ρ σ H) : Sub R H := h.stp.sub
theorem St.tabs (h : St K B R0 R ρ σ H) : TabsK K H := h.tb.sm h.stp.hh
theorem Fps.step {φ : Nat → List Addr} (h : Fps K B R1 ρ σ H1 φ) (t : Step R1 H1 R2 H2) : Fps K B R2 ρ σ H2 φ := ⟨fun i s v e1 e2 => (h.sl i s v e1 e2).step t, h.out, h.df⟩
theorem St.step (h : St K B R0 R1 ρ σ H1) (t : Step R1 H1 R2 H2) : St K B R0 R2 ρ σ H2 :=
  ⟨h.stp.trans t, h.tb, h.len, let ⟨φ, f⟩ := h.fps; ⟨φ, f.step t⟩⟩
theorem St.at (h : St K B R0 R ρ σ H) {i : Nat} {s : Sl} (e : ρ[i]? = some s) : ∃ v f, σ[i]? = some v ∧ SlOk K B R H v f s := by
  obtain ⟨hi, _⟩ := List.getElem?_eq_some_iff.mp e
  have hi' : i < σ.length := by rw [← h.len]; exact hi
  obtain ⟨φ, f⟩ := h.fps
  exact ⟨σ[i], φ i, List.getElem?_eq_getElem hi', f.sl i s _ e (List.getElem?_eq_getElem hi')⟩
/-- every footprint is of something tracked -/
theorem Fps.own {φ : Nat → List Addr} (h : Fps K B R ρ σ H φ) (len : ρ.length = σ.length) {i : Nat} {p : Addr} (hp : p ∈ φ i) : B p = none ∧ R p = none ∧ ∃ o, H p = some o := by
  by_cases hl : i < ρ.length
  · exact (h.sl i _ _ (List.getElem?_eq_getElem hl) (List.getElem?_eq_getElem (by rw [← len]; exact hl))).own p hp
  · rw [h.out i (by omega)] at hp; cases hp
/-- a value is stored -/
theorem St.set (h : St K B R0 R ρ σ H) {R' H' : Hp} (t : Step R H R' H') {v : V} {r : Rs} (hr : Res K H R' H' v r) (i : Nat) : St K B R0 R' (ρ.set i r.sl) (σ.set i (some v)) H' := by
  have h' := h.step t
  obtain ⟨φ, fp⟩ := h.fps
  have fp' := fp.step t
  obtain ⟨f, hf, fn⟩ : ∃ f, SlOk K B R' H' (some v) f r.sl ∧ ∀ p ∈ f, H p = none := by
    cases r with
    | sh d => exact ⟨[], ⟨rfl, v, rfl, hr⟩, fun p hp => by cases hp⟩
    | al d => exact ⟨[], ⟨rfl, v, rfl, hr⟩, fun p hp => by cases hp⟩
    | nw d =>
      obtain ⟨p, rfl, n, w⟩ := hr
      exact ⟨[p], ⟨p, rfl, rfl, Sm.free h.stp.hh n, w⟩, fun q hq => by rw [List.mem_singleton.mp hq]; exact n⟩
    | nd d =>
      obtain ⟨f, w, k⟩ := hr
      exact ⟨f, ⟨v, rfl, w, fun p hp => ⟨Sm.free h.stp.hh (k p hp).1, (k p hp).2⟩⟩, fun p hp => (k p hp).1⟩
  refine ⟨h'.stp, h'.tb, by rw [List.length_set, List.length_set, h'.len], fun j => if j = i ∧ i < ρ.length then f else if j = i then [] else φ j, fun j s w e1 e2 => ?_, fun j hj => ?_, fun j k p jk hp hk => ?_⟩
  · rw [List.getElem?_set] at e1 e2
    by_cases hij : i = j
    · rw [if_pos hij] at e1 e2
      by_cases hl : i < ρ.length
      · rw [if_pos hl] at e1
        rw [if_pos (by rw [← h'.len]; exact hl)] at e2
        cases e1; cases e2
        rw [if_pos ⟨hij.symm, hl⟩]
        exact hf
      · rw [if_neg hl] at e1; cases e1
    · rw [if_neg hij] at e1 e2
      rw [if_neg (fun z => hij z.1.symm), if_neg (fun z => hij z.symm)]
      exact fp'.sl j s w e1 e2
  · rw [List.length_set] at hj
    rw [if_neg (fun z => by omega)]
    split
    · rfl
    · exact fp.out j hj
  ·
    have new : ∀ {q k}, q ∈ f → q ∈ φ k → False := fun {q k} h1 h2 => by
      obtain ⟨_, _, o, e⟩ := fp.own h.len h2
      rw [fn q h1] at e; cases e
    split at hp
    · rename_i z1
      rw [if_neg (fun z => jk (z1.1.trans z.1.symm)), if_neg (fun z => jk (z1.1.trans z.symm))] at hk
      exact new hp hk
    · split at hp
      · cases hp
      · split at hk
        · exact new hk hp
        · split at hk
          · cases hk
          · exact fp.df j k p jk hp hk
/-- what is said of a slot may be forgotten -/
inductive Lt : List Sl → List Sl → Prop
  | nil : Lt [] []
  | no {s : Sl} {a b : List Sl} : Lt a b → Lt (.no :: a) (s :: b)
  | eq {s : Sl} {a b : List Sl} : Lt a b → Lt (s :: a) (s :: b)
theorem Lt.refl : ∀ ρ : List Sl, Lt ρ ρ
  | [] => .nil
  | _ :: r => .eq (Lt.refl r)
theorem Lt.len : ∀ {a b : List Sl}, Lt a b → a.length = b.length
  | _, _, .nil => rfl
  | _, _, .no t => by rw [List.length_cons, List.length_cons, Lt.len t]
  | _, _, .eq t => by rw [List.length_cons, List.length_cons, Lt.len t]
theorem Lt.get : ∀ {a b : List Sl}, Lt a b → ∀ {i : Nat} {s : Sl}, a[i]? = some s → s = .no ∨ b[i]? = some s
  | _, _, .nil, i, s, e => by simp at e
  | _, _, .no t, 0, s, e => by simp at e; exact .inl e.symm
  | _, _, .no t, i + 1, s, e => Lt.get t (i := i) (by simpa using e)
  | _, _, .eq t, 0, s, e => .inr (by simpa using e)
  | _, _, .eq t, i + 1, s, e => Lt.get t (i := i) (by simpa using e)
/-- slots are told anew, with parts of their footprints -/
theorem Fps.sub {φ ψ : Nat → List Addr} {R' H' : Hp} {σ' : L2.St} (h : Fps K B R ρ σ H φ) (len : ρ'.length = ρ.length) (sl : ∀ (i : Nat) (s : Sl) (v : Option V), ρ'[i]? = some s → σ'[i]? = some v → SlOk K B R' H' v (ψ i) s) (le : ∀ i p, p ∈ ψ i → p ∈ φ i) : Fps K B R' ρ' σ' H' ψ :=
  ⟨sl, (fun i hi => by
    cases e : ψ i with
    | nil => rfl
    | cons a r =>
      have : a ∈ φ i := le i a (by rw [e]; exact List.mem_cons_self)
      rw [h.out i (by omega)] at this
      cases this), fun i j p ij a b => h.df i j p ij (le i p a) (le j p b)⟩
theorem St.weak (h : St K B R0 R ρ σ H) (l : Lt ρ' ρ) : St K B R0 R ρ' σ H := by
  obtain ⟨φ, fp⟩ := h.fps
  refine ⟨h.stp, h.tb, by rw [l.len, h.len], fun i => match ρ'[i]? with | some .no => [] | _ => φ i, fp.sub l.len (fun i s v e1 e2 => ?_) fun i p hp => ?_⟩
  · rcases l.get e1 with rfl | e
    · rw [e1]; rfl
    · rw [e1]
      cases s with
      | no => rfl
      | _ => exact fp.sl i _ v e e2
  · split at hp
    · cases hp
    · exact hp
/-- behind a change of what is owned -/
def Sl.dr : Sl → Sl
  | .al d => if imm d = true then .sh d else .no
  | .no => .no
  | .sh d => .sh d
  | .ow d => .ow d
  | .od d => .od d
theorem Sl.dr_t {d : D} (h : imm d = true) : Sl.dr (.al d) = .sh d := if_pos h
theorem Sl.dr_f {d : D} (h : ¬ imm d = true) : Sl.dr (.al d) = .no := if_neg h
def dr (ρ : List Sl) : List Sl := ρ.map Sl.dr
/-- an object of the slot i is changed: p is of its footprint -/
theorem St.write' (h : St K B R0 R ρ σ H) {i : Nat} {s s' : Sl} {v : Option V} {p : Addr} {o : HO} {d' : D} (e : ρ[i]? = some s) (ev : σ[i]? = some v) (ho : ObjD K R o d') (k : ∀ f, SlOk K B R H v f s → p ∈ f ∧ SlOk K B R (upd H p o) v f s') : St K B R0 R ((dr ρ).set i s') σ (upd H p o) := by
  obtain ⟨φ, fp⟩ := h.fps
  have hi := fp.sl i s v e ev
  obtain ⟨hpf, hs'⟩ := k _ hi
  obtain ⟨hb, hr, _⟩ := hi.own p hpf
  have tu : ∀ a xs, (upd H p o) a = some (.tup xs) → H a = some (.tup xs) := fun a xs q => by
    by_cases z : a = p
    · subst z; rw [upd_same] at q; cases q; exact absurd rfl ho.ntup
    · rw [upd_ne z] at q; exact q
  have tf : ∀ a u v, (upd H p o) a = some (.frz u v) → H a = some (.frz u v) := fun a u v q => by
    by_cases z : a = p
    · subst z; rw [upd_same] at q; cases q; exact absurd rfl ho.nfrz
    · rw [upd_ne z] at q; exact q
  have stp : Step R0 B R (upd H p o) := ⟨h.stp.rr, h.stp.rh.put hr, h.stp.hh.put hb, h.stp.nw,
    fun a xs q => h.stp.tp a xs (tu a xs q), fun a u xs q => h.stp.tf a u xs (tf a u _ q)⟩
  have slot : ∀ (j : Nat) (s : Sl), (dr ρ)[j]? = some s → ∃ s0, ρ[j]? = some s0 ∧ s = s0.dr := fun j s q => by
    unfold dr at q
    rw [List.getElem?_map] at q
    cases z : ρ[j]? with
    | none => rw [z] at q; cases q
    | some s0 => rw [z] at q; cases q; exact ⟨s0, rfl, rfl⟩
  have len : ((dr ρ).set i s').length = ρ.length := by rw [List.length_set]; unfold dr; rw [List.length_map]
  refine ⟨stp, h.tb, by rw [len, h.len], φ, fp.sub len (fun j t w e1 e2 => ?_) fun _ _ z => z⟩
  rw [List.getElem?_set] at e1
  by_cases hij : i = j
  · rw [if_pos hij] at e1
    split at e1
    · cases e1
      subst hij
      rw [ev] at e2; cases e2
      exact hs'
    · cases e1
  · rw [if_neg hij] at e1
    obtain ⟨s0, e0, rfl⟩ := slot j t e1
    have q := fp.sl j s0 w e0 e2
    have np : ∀ a ∈ φ j, a ≠ p := fun a ha z => fp.df i j p hij hpf (by rw [← z]; exact ha)
    cases s0 with
    | no => exact q
    | sh d => exact q
    | ow d2 =>
      obtain ⟨p2, rfl, f2, b2, r2, o2, h2, od⟩ := q
      exact ⟨p2, rfl, f2, b2, r2, o2, by rw [upd_ne (np p2 (by rw [f2]; exact List.mem_cons_self))]; exact h2, od⟩
    | al d2 =>
      obtain ⟨f2, x, rfl, r⟩ := q
      by_cases z : imm d2 = true
      · rw [Sl.dr_t z]; exact ⟨f2, x, rfl, Rp.imm h.stp.tp h.stp.tf r z⟩
      · rw [Sl.dr_f z]; exact f2
    | od d2 =>
      obtain ⟨x, rfl, w2, k2⟩ := q
      exact ⟨x, rfl, w2.keep fun z => np p z rfl, k2⟩
/-- the object of the slot i is changed -/
theorem St.write (h : St K B R0 R ρ σ H) {i : Nat} {d d' : D} {p : Addr} {o : HO} (e : ρ[i]? = some (.ow d)) (ep : σ[i]? = some (some (.ref p))) (ho : ObjD K R o d') : St K B R0 R ((dr ρ).set i (.ow d')) σ (upd H p o) :=
  h.write' e ep ho fun f q => by
    obtain ⟨p', e', z, hb, hr, u, hu, hd⟩ := q
    cases e'
    exact ⟨by rw [z]; exact List.mem_cons_self, p, rfl, z, hb, hr, o, upd_same, ho⟩
/-- a list of the tree in slot i, at a path, is changed -/
theorem St.writeD (h : St K B R0 R ρ σ H) {i : Nat} {d : D} {x w : V} {path : List Nat} {es : List D} (e : ρ[i]? = some (.od d)) (ev : σ[i]? = some (some x)) (a : At K H x path w) (q : getP d path = some (.lst es)) (he : immA es = true) :
    ∃ p xs, w = .ref p ∧ H p = some (.lst xs) ∧ RpA K R xs es ∧ ∀ ys es', RpA K R ys es' → immA es' = true → St K B R0 R ((dr ρ).set i (.od (setP d path (.lst es')))) σ (upd H p (.lst ys)) := by
  obtain ⟨φ, fp⟩ := h.fps
  obtain ⟨x', e', w1, k1⟩ := fp.sl i _ _ e ev
  cases e'
  obtain ⟨p, xs, h1, h2, h3, h4, h5⟩ := w1.put h.stp.rh he path a q
  refine ⟨p, xs, h1, h3, h4, fun ys es' r i' => h.write' (d' := .lst es') e ev (show RpA K R ys es' from r) fun f s => ?_⟩
  obtain ⟨x'', e'', w2, k2⟩ := s
  cases e''
  obtain ⟨p2, xs2, g1, g2, g3, g4, g5⟩ := w2.put h.stp.rh he path a q
  rw [h1] at g1
  cases g1
  exact ⟨g2, x, rfl, g5 ys es' r i', k2⟩
end

/-! ### a new thing is shared -/
theorem Step.share {K : PySem.W.Frag} {R H R' H' : Hp} (s : Step R H R' H') {p : Addr} {d : D} (n : H p = none) (w : Own K R' H' p d) : ∃ R2, Step R H R2 H' ∧ Rp K R2 (.ref p) d ∧ Sm R' R2 := by
  obtain ⟨hr, o, ho, od⟩ := w
  have sm : Sm R' (upd R' p o) := (Sm.refl R').upd hr
  have rh : Sm (upd R' p o) H' := by
    refine ⟨fun b x e nt => ?_, fun b ps e => ?_⟩
    · by_cases z : b = p
      · subst z; rw [upd_same] at e; cases e; exact ho
      · rw [upd_ne z] at e; exact s.rh.k b x e nt
    · by_cases z : b = p
      · subst z; rw [upd_same] at e; cases e; exact od.nt.elim
      · rw [upd_ne z] at e; exact s.rh.t b ps e
  have tp : Tp (upd R' p o) H' := fun a xs e => sm.k _ _ (s.tp a xs e) trivial
  have tf : TpF (upd R' p o) H' := fun a u xs e => sm.k _ _ (s.tf a u xs e) trivial
  refine ⟨upd R' p o, ⟨s.rr.trans sm, rh, s.hh, fun a h h' => ?_, tp, tf⟩, (od.mono sm).rp upd_same, sm⟩
  by_cases z : a = p
  · subst z; exact n
  · rw [upd_ne z] at h'; exact s.nw a h h'
/-- R and the places of g, as H has them -/
def shr (R H : Hp) (g : List Addr) : Hp := fun a => if a ∈ g then H a else R a
theorem shr_in {R H : Hp} {g : List Addr} {a : Addr} (h : a ∈ g) : shr R H g a = H a := if_pos h
theorem shr_out {R H : Hp} {g : List Addr} {a : Addr} (h : a ∉ g) : shr R H g a = R a := if_neg h
theorem shr_sm {R H : Hp} {g : List Addr} (n : ∀ a ∈ g, R a = none) : Sm R (shr R H g) := by
  refine ⟨fun b o e _ => ?_, fun b ps e => ⟨ps, ?_, id⟩⟩
  · rw [shr_out fun z => by rw [n b z] at e; cases e]; exact e
  · rw [shr_out fun z => by rw [n b z] at e; cases e]; exact e
section
variable {K : PySem.W.Frag} {R H : Hp} {g : List Addr}
mutual
theorem Ow.shr (n : ∀ a ∈ g, R a = none) : ∀ {v : V} {d : D} {f : List Addr}, Ow K R H v d f → (∀ a ∈ f, a ∈ g) → Rp K (shr R H g) v d
  | _, _, _, .leaf h e, _ => Rp.mono (shr_sm n) h
  | _, _, _, .lst h r _, k => .lst (by rw [shr_in (k _ List.mem_cons_self)]; exact h) (OwA.shr n r fun a ha => k a (List.mem_cons_of_mem _ ha))
  | _, _, _, .tup h r, k => .tup (SqT.of ((shr_sm n).k _ _ h trivial)) (OwA.shr n r k)
theorem OwA.shr (n : ∀ a ∈ g, R a = none) : ∀ {v : List V} {d : List D} {f : List Addr}, OwA K R H v d f → (∀ a ∈ f, a ∈ g) → RpA K (shr R H g) v d
  | _, _, _, .nil, _ => .nil
  | _, _, _, .cons h r _, k => .cons (Ow.shr n h fun a ha => k a (List.mem_append_left _ ha)) (OwA.shr n r fun a ha => k a (List.mem_append_right _ ha))
end
end
theorem Step.shareD {K : PySem.W.Frag} {R H R' H' : Hp} (s : Step R H R' H') {v : V} {d : D} {f : List Addr} (w : Nd K H R' H' v d f) : ∃ R2, Step R H R2 H' ∧ Rp K R2 v d ∧ Sm R' R2 := by
  have n : ∀ a ∈ f, R' a = none := fun a ha => (w.2 a ha).2
  have sm : Sm R' (PV.shr R' H' f) := shr_sm n
  have rh : Sm (PV.shr R' H' f) H' := by
    refine ⟨fun b x e nt => ?_, fun b ps e => ?_⟩
    · by_cases z : b ∈ f
      · rw [shr_in z] at e; exact e
      · rw [shr_out z] at e; exact s.rh.k b x e nt
    · by_cases z : b ∈ f
      · rw [shr_in z] at e; exact ⟨ps, e, id⟩
      · rw [shr_out z] at e; exact s.rh.t b ps e
  have tp : Tp (PV.shr R' H' f) H' := fun a xs e => sm.k _ _ (s.tp a xs e) trivial
  have tf : TpF (PV.shr R' H' f) H' := fun a u xs e => sm.k _ _ (s.tf a u xs e) trivial
  refine ⟨PV.shr R' H' f, ⟨s.rr.trans sm, rh, s.hh, fun a h h' => ?_, tp, tf⟩, Ow.shr n w.1 fun _ z => z, sm⟩
  by_cases z : a ∈ f
  · exact (w.2 a z).1
  · rw [shr_out z] at h'; exact s.nw a h h'
end PV

namespace PV
open PySem PySem.Spec PyProof.Rows L2

/-! ### what a piece of syntax does, as a reading -/
def tE (X : Cx) (e : Expr) : TE := fun σ H Q => ∀ pins s, Inv X pins σ H s → wpAny (model X.prog X.w) X.A (eval e X.env) (EP X pins σ Q) X.xe s
def tT (X : Cx) (e : Expr) : TT := fun σ H Q => ∀ pins s, Inv X pins σ H s → wpAny (model X.prog X.w) X.A (isTrue e X.env (eval e X.env)) (TP X pins σ Q) X.xe s
def tW (X : Cx) (e : Expr) : TT := fun σ H Q => ∀ (whole : Sem Value) pins s, Inv X pins σ H s → wpAny (model X.prog X.w) X.A (isTrue e X.env whole) (TP X pins σ Q) X.xe s
def tA (X : Cx) (es : List Expr) : TA := fun σ H Q => ∀ (pos : Pos) pins s, Inv X pins σ H s → wpAny (model X.prog X.w) X.A (spliced (backTo pos (starEach es X.env))) (AP X pins σ Q) X.xe s
def tS (X : Cx) (st : Stmt) : TS := fun D σ H => ∀ pins s, Inv X pins σ H s → wpAny (model X.prog X.w) X.A (exec st X.env) (SP X pins D) X.xe s
def tSs (X : Cx) (st : List Stmt) : TS := fun D σ H => ∀ pins s, Inv X pins σ H s → wpAny (model X.prog X.w) X.A (execs st X.env) (SP X pins D) X.xe s
section
variable {X : Cx}
theorem pe_sem {e : Expr} : PE X e (tE X e) := ⟨fun pins s σ H Q I h => h pins s I⟩
theorem pt_sem {e : Expr} : PT X e (tT X e) := ⟨fun pins s σ H Q I h => h pins s I⟩
theorem pw_sem {e : Expr} : PW X e (tW X e) := ⟨fun wh pins s σ H Q I h => h wh pins s I⟩
theorem pa_sem {es : List Expr} : PA X es (tA X es) := ⟨fun pos pins s σ H Q I h => h pos pins s I⟩
theorem ps_sem {st : Stmt} : PS X st (tS X st) := ⟨fun pins s σ H D I h => h pins s I⟩
theorem pss_sem {st : List Stmt} : PSs X st (tSs X st) := ⟨fun pins s σ H D I h => h pins s I⟩
end

/-! ### a reading by data -/
section
variable (K : PySem.W.Frag)
def Ev (t : TE) (ρ : List Sl) (r : Rs) : Prop := ∀ B R0 R σ H (Q : VK), St K B R0 R ρ σ H → (∀ v R' H', Step R H R' H' → Res K H R' H' v r → Q v H') → t σ H Q
def Tv (t : TT) (ρ : List Sl) (b : Bool) : Prop := ∀ B R0 R σ H (Q : Bool → Hp → Prop), St K B R0 R ρ σ H → (∀ R' H', Step R H R' H' → Q b H') → t σ H Q
inductive ResA (H R' H' : Hp) : List V → List Rs → Prop
  | nil : ResA H R' H' [] []
  | cons {v : V} {vs : List V} {r : Rs} {rs : List Rs} : Res K H R' H' v r → ResA H R' H' vs rs → ResA H R' H' (v :: vs) (r :: rs)
def Av (t : TA) (ρ : List Sl) (rs : List Rs) : Prop := ∀ B R0 R σ H (Q : List V → Hp → Prop), St K B R0 R ρ σ H → (∀ vs R' H', Step R H R' H' → ResA K H R' H' vs rs → Q vs H') → t σ H Q
/-- what is wanted behind a statement -/
structure Post where
  nx : List Sl → Prop
  rt : Rs → Prop
  bk : List Sl → Prop := fun _ => False
  ct : List Sl → Prop := fun _ => False
structure Ens (B R0 : Hp) (P : Post) (D : Ends) : Prop where
  nx : ∀ ρ' R' σ' H', P.nx ρ' → St K B R0 R' ρ' σ' H' → D.nx σ' H'
  rt : ∀ r v R' H', P.rt r → Step R0 B R' H' → Res K B R' H' v r → D.rt v H'
  bk : ∀ ρ' R' σ' H', P.bk ρ' → St K B R0 R' ρ' σ' H' → D.bk σ' H'
  ct : ∀ ρ' R' σ' H', P.ct ρ' → St K B R0 R' ρ' σ' H' → D.ct σ' H'
def Sv (t : TS) (ρ : List Sl) (P : Post) : Prop := ∀ B R0 R σ H (D : Ends), St K B R0 R ρ σ H → Ens K B R0 P D → t D σ H
end
def EX (X : Cx) (e : Expr) (ρ : List Sl) (r : Rs) : Prop := Ev X.K (tE X e) ρ r
def TX (X : Cx) (e : Expr) (ρ : List Sl) (b : Bool) : Prop := Tv X.K (tT X e) ρ b
def WX (X : Cx) (e : Expr) (ρ : List Sl) (b : Bool) : Prop := Tv X.K (tW X e) ρ b
def AX (X : Cx) (es : List Expr) (ρ : List Sl) (rs : List Rs) : Prop := Av X.K (tA X es) ρ rs
def SX (X : Cx) (st : Stmt) (ρ : List Sl) (P : Post) : Prop := Sv X.K (tS X st) ρ P
def SXs (X : Cx) (st : List Stmt) (ρ : List Sl) (P : Post) : Prop := Sv X.K (tSs X st) ρ P
section
variable {X : Cx} {ρ : List Sl}
theorem EX.of {e : Expr} {t : TE} {r : Rs} (p : PE X e t) (h : Ev X.K t ρ r) : EX X e ρ r := fun B R0 R σ H Q s k pins sh I => p.run pins sh σ H Q I (h B R0 R σ H Q s k)
theorem TX.of {e : Expr} {t : TT} {b : Bool} (p : PT X e t) (h : Tv X.K t ρ b) : TX X e ρ b := fun B R0 R σ H Q s k pins sh I => p.run pins sh σ H Q I (h B R0 R σ H Q s k)
theorem WX.of {e : Expr} {t : TT} {b : Bool} (p : PW X e t) (h : Tv X.K t ρ b) : WX X e ρ b := fun B R0 R σ H Q s k wh pins sh I => p.run wh pins sh σ H Q I (h B R0 R σ H Q s k)
theorem AX.of {es : List Expr} {t : TA} {rs : List Rs} (p : PA X es t) (h : Av X.K t ρ rs) : AX X es ρ rs := fun B R0 R σ H Q s k pos pins sh I => p.run pos pins sh σ H Q I (h B R0 R σ H Q s k)
theorem SX.of {st : Stmt} {t : TS} {P : Post} (p : PS X st t) (h : Sv X.K t ρ P) : SX X st ρ P := fun B R0 R σ H D s k pins sh I => p.run pins sh σ H D I (h B R0 R σ H D s k)
theorem SXs.of {st : List Stmt} {t : TS} {P : Post} (p : PSs X st t) (h : Sv X.K t ρ P) : SXs X st ρ P := fun B R0 R σ H D s k pins sh I => p.run pins sh σ H D I (h B R0 R σ H D s k)
end

section
variable {X : Cx} {ρ : List Sl} {pos : Pos} {a b c e : Expr}
theorem Res.int {K H R' H' v i} {r : Rs} (s : Sub R' H') (h : Res K H R' H' v r) (e : r.dat = .int i) : v = .int i := by
  have q := h.rp s
  rw [e] at q
  cases q; rfl
theorem Res.str {K H R' H' v x} {r : Rs} (s : Sub R' H') (h : Res K H R' H' v r) (e : r.dat = .str x) : v = .str x := by
  have q := h.rp s
  rw [e] at q
  cases q; rfl
theorem Res.bl {K H R' H' v x} {r : Rs} (s : Sub R' H') (h : Res K H R' H' v r) (e : r.dat = .bl x) : v = .bl x := by
  have q := h.rp s
  rw [e] at q
  cases q; rfl
theorem Res.non {K H R' H' v} {r : Rs} (s : Sub R' H') (h : Res K H R' H' v r) (e : r.dat = .non) : v = .non := by
  have q := h.rp s
  rw [e] at q
  cases q; rfl

/-! ### expressions: names, constants -/
theorem ex_var {i : Nat} {d : D} (p : PE X e (tVar i)) (h : ρ[i]? = some (.sh d)) : EX X e ρ (.sh d) := .of p fun B R0 R σ H Q s k => by
  obtain ⟨v, f, e, _, x, rfl, r⟩ := s.at h
  exact ⟨x, e, k x R H s.sub.step r⟩
theorem ex_varA {i : Nat} {d : D} (p : PE X e (tVar i)) (h : ρ[i]? = some (.al d)) : EX X e ρ (.al d) := .of p fun B R0 R σ H Q s k => by
  obtain ⟨v, f, e, _, x, rfl, r⟩ := s.at h
  exact ⟨x, e, k x R H s.sub.step r⟩
theorem ex_varO {i : Nat} {d : D} (p : PE X e (tVar i)) (h : ρ[i]? = some (.ow d)) : EX X e ρ (.al d) := .of p fun B R0 R σ H Q s k => by
  obtain ⟨v, f, e, p, rfl, _, hb, w⟩ := s.at h
  exact ⟨.ref p, e, k _ R H s.sub.step (w.rp s.sub)⟩
theorem ex_varD {i : Nat} {d : D} (p : PE X e (tVar i)) (h : ρ[i]? = some (.od d)) : EX X e ρ (.al d) := .of p fun B R0 R σ H Q s k => by
  obtain ⟨v, f, e, x, rfl, w, _⟩ := s.at h
  exact ⟨x, e, k _ R H s.sub.step (w.rp s.sub.rh)⟩
theorem ex_c {v : V} {d : D} (p : PE X e (tC v)) (h : ∀ R, Rp X.K R v d) : EX X e ρ (.sh d) := .of p fun B R0 R σ H Q s k => k v R H s.sub.step (h R)
theorem ex_int {i j} : EX X (.Constant (.int i) j pos) ρ (.sh (.int i)) := ex_c pe_int fun _ => .int i
theorem ex_bl {b j} : EX X (.Constant (.bool b) j pos) ρ (.sh (.bl b)) := ex_c pe_bl fun _ => .bl b
theorem ex_non {j} : EX X (.Constant .none j pos) ρ (.sh .non) := ex_c pe_non fun _ => .non
theorem ex_str {x j} : EX X (.Constant (.str x) j pos) ρ (.sh (.str x)) := ex_c pe_str fun _ => .str x
/-- data that nothing can change is shared -/
theorem Ev.imm {K t r} (h : Ev K t ρ r) (hi : imm r.dat = true) : Ev K t ρ (.sh r.dat) := fun B R0 R σ H Q s k => h B R0 R σ H Q s fun v R' H' st hr => by
  refine k v R' H' st ?_
  cases r with
  | sh d => exact hr
  | nw d =>
    obtain ⟨p, rfl, n, h1, o, h2, od⟩ := hr
    cases o <;> cases d <;> first | exact od.elim | cases hi
  | al d => exact Rp.imm st.tp st.tf hr hi
  | nd d =>
    obtain ⟨f, w, _⟩ := hr
    exact (w.imm' hi).2
theorem ex_imm {r} (h : EX X e ρ r) (hi : imm r.dat = true) : EX X e ρ (.sh r.dat) := Ev.imm h hi
/-- what is new is shared -/
theorem Ev.share {K t d} (h : Ev K t ρ (.nw d)) : Ev K t ρ (.sh d) := fun B R0 R σ H Q s k => h B R0 R σ H Q s fun v R' H' st hr => by
  obtain ⟨p, rfl, n, w⟩ := hr
  obtain ⟨R2, s2, r2, _⟩ := st.share n w
  exact k _ R2 H' s2 r2
theorem ex_share {d} (h : EX X e ρ (.nw d)) : EX X e ρ (.sh d) := Ev.share h
theorem Ev.shareD {K t d} (h : Ev K t ρ (.nd d)) : Ev K t ρ (.sh d) := fun B R0 R σ H Q s k => h B R0 R σ H Q s fun v R' H' st hr => by
  obtain ⟨f, w⟩ := hr
  obtain ⟨R2, s2, r2, _⟩ := st.shareD w
  exact k _ R2 H' s2 r2
theorem ex_shareD {d} (h : EX X e ρ (.nd d)) : EX X e ρ (.sh d) := Ev.shareD h
theorem ex_al {r} (h : EX X e ρ r) : EX X e ρ (.al r.dat) := fun B R0 R σ H Q s k => h B R0 R σ H Q s fun v R' H' st hr => k v R' H' st (hr.rp st.sub)

/-! ### operations by values -/
def Op2 (K : PySem.W.Frag) (r : R2) (ra rb rc : Rs) : Prop := ∀ (H0 R H : Hp) (x y : V) (Q : VK), Sub R H → Sm H0 H → Res K H0 R H x ra → Res K H0 R H y rb → (∀ v R' H', Step R H R' H' → Res K H R' H' v rc → Q v H') → r x y H Q
theorem Ev.op2 {K} {r : R2} {ta tb : TE} {ra rb rc : Rs} (ha : Ev K ta ρ ra) (hb : Ev K tb ρ rb) (c : Op2 K r ra rb rc) : Ev K (tOp r ta tb) ρ rc := fun B R0 R σ H Q s k =>
  ha B R0 R σ H _ s fun x R1 H1 s1 r1 => hb B R0 R1 σ H1 _ (s.step s1) fun y R2 H2 s2 r2 =>
    c H R2 H2 x y Q s2.sub (s1.hh.trans s2.hh) (r1.step s2) (r2.back s1.hh) fun v R3 H3 s3 r3 => k v R3 H3 ((s1.trans s2).trans s3) (r3.back (s1.hh.trans s2.hh))
theorem ex_bin {op : Operator} {r : R2} {ra rb rc : Rs} (ho : OpR X (binaryOp op) r) (c : Op2 X.K r ra rb rc) (ha : EX X a ρ ra) (hb : EX X b ρ rb) : EX X (.BinOp a op b pos) ρ rc :=
  .of (pe_op ho pe_sem pe_sem) (Ev.op2 ha hb c)
theorem ex_cmp {op : CmpOp} {r : R2} {ra rb rc : Rs} (ho : OpR X (compareOp op) r) (c : Op2 X.K r ra rb rc) (ha : EX X a ρ ra) (hb : EX X b ρ rb) (hm : behindInMarks op b = false) : EX X (.Compare a [op] [b] pos) ρ rc :=
  .of (pe_cmpR ho pe_sem pe_sem hm) (Ev.op2 ha hb c)
theorem Tv.of_ev {K} {t : TE} {k : Bool} (h : Ev K t ρ (.sh (.bl k))) : Tv K (tTest t) ρ k := fun B R0 R σ H Q s kk => h B R0 R σ H _ s fun v R' H' st hr => ⟨k, Res.bl st.sub hr rfl, kk R' H' st⟩
theorem tx_cmp {op : CmpOp} {r : R2} {ra rb : Rs} {k : Bool} (ho : OpR X (compareOp op) r) (c : Op2 X.K r ra rb (.sh (.bl k))) (ha : EX X a ρ ra) (hb : EX X b ρ rb) (hm : behindInMarks op b = false) : TX X (.Compare a [op] [b] pos) ρ k :=
  .of (pt_cmpR ho pe_sem pe_sem hm) (Tv.of_ev (Ev.op2 ha hb c))
theorem ex_ix {r : R2} {ra rb rc : Rs} (hr : IxR X r) (c : Op2 X.K r ra rb rc) (ha : EX X a ρ ra) (hb : EX X b ρ rb) (hs : PlainIx b := by exact fun _ _ => rfl) : EX X (.Subscript a b pos) ρ rc :=
  .of (pe_ix hr pe_sem pe_sem hs) (Ev.op2 ha hb c)
/-- an expression whose value is a bool, as a test -/
theorem tx_val {k : Bool} (h : EX X e ρ (.sh (.bl k))) (he : ∀ whole, isTrue e X.env whole = (do let v ← whole; standAt e.pos; holding [v] (truthy v)) := by intro _; rfl) : TX X e ρ k :=
  .of (pt_val pe_sem he) (Tv.of_ev h)
theorem wx_pt {k : Bool} {t : TT} (p : PW X e t) (h : Tv X.K t ρ k) : TX X e ρ k := .of p.pt h
theorem wx_and1 {k : Bool} (h : TX X a ρ k) : WX X (.BoolOp .And [a] pos) ρ k := .of (pw_and1 pt_sem) h
theorem wx_or1 {k : Bool} (h : TX X a ρ k) : WX X (.BoolOp .Or [a] pos) ρ k := .of (pw_or1 pt_sem) h
theorem wx_and {rest : List Expr} {j k : Bool} (h : TX X a ρ j) (h2 : j = true → WX X (.BoolOp .And (b :: rest) pos) ρ k) : WX X (.BoolOp .And (a :: b :: rest) pos) ρ (j && k) :=
  .of (pw_and pt_sem pw_sem) fun B R0 R σ H Q s kk => h B R0 R σ H _ s fun R1 H1 s1 => by
    cases j with
    | true => rw [if_pos rfl]; exact h2 rfl B R0 R1 σ H1 _ (s.step s1) fun R2 H2 s2 => kk R2 H2 (s1.trans s2)
    | false => rw [if_neg Bool.false_ne_true]; exact kk R1 H1 s1
theorem wx_or {rest : List Expr} {j k : Bool} (h : TX X a ρ j) (h2 : j = false → WX X (.BoolOp .Or (b :: rest) pos) ρ k) : WX X (.BoolOp .Or (a :: b :: rest) pos) ρ (j || k) :=
  .of (pw_or pt_sem pw_sem) fun B R0 R σ H Q s kk => h B R0 R σ H _ s fun R1 H1 s1 => by
    cases j with
    | false => rw [if_neg Bool.false_ne_true]; exact h2 rfl B R0 R1 σ H1 _ (s.step s1) fun R2 H2 s2 => kk R2 H2 (s1.trans s2)
    | true => rw [if_pos rfl]; exact kk R1 H1 s1
theorem tx_w {k : Bool} (h : WX X e ρ k) : TX X e ρ k := TX.of (PW.pt pw_sem) h
theorem tx_not {k : Bool} (h : TX X a ρ k) : TX X (.UnaryOp .Not a pos) ρ (!k) := .of (pt_not pt_sem) fun B R0 R σ H Q s kk => h B R0 R σ H _ s fun R1 H1 s1 => kk R1 H1 s1
theorem ex_not {k : Bool} (h : EX X a ρ (.sh (.bl k))) : EX X (.UnaryOp .Not a pos) ρ (.sh (.bl (!k))) := .of (pe_not pe_sem) fun B R0 R σ H Q s kk => h B R0 R σ H _ s fun v R1 H1 s1 r1 => ⟨k, Res.bl s1.sub r1 rfl, kk _ R1 H1 s1 (Rp.bl _)⟩
theorem ex_one {op} {r : Rs} (h : EX X a ρ r) : EX X (.BoolOp op [a] pos) ρ r := .of (pe_one pe_sem) h
theorem ex_and {rest : List Expr} {j k : Bool} (h : EX X a ρ (.sh (.bl j))) (h2 : j = true → EX X (.BoolOp .And (b :: rest) pos) ρ (.sh (.bl k))) : EX X (.BoolOp .And (a :: b :: rest) pos) ρ (.sh (.bl (j && k))) :=
  .of (pe_and pe_sem pe_sem) fun B R0 R σ H Q s kk => h B R0 R σ H _ s fun v R1 H1 s1 r1 => ⟨j, Res.bl s1.sub r1 rfl, by
    cases j with
    | true => rw [if_pos rfl]; exact h2 rfl B R0 R1 σ H1 _ (s.step s1) fun w R2 H2 s2 r2 => kk w R2 H2 (s1.trans s2) (r2.back s1.hh)
    | false => rw [if_neg Bool.false_ne_true]; exact kk _ R1 H1 s1 (Rp.bl _)⟩
theorem ex_or {rest : List Expr} {j k : Bool} (h : EX X a ρ (.sh (.bl j))) (h2 : j = false → EX X (.BoolOp .Or (b :: rest) pos) ρ (.sh (.bl k))) : EX X (.BoolOp .Or (a :: b :: rest) pos) ρ (.sh (.bl (j || k))) :=
  .of (pe_or pe_sem pe_sem) fun B R0 R σ H Q s kk => h B R0 R σ H _ s fun v R1 H1 s1 r1 => ⟨j, Res.bl s1.sub r1 rfl, by
    cases j with
    | false => rw [if_neg Bool.false_ne_true]; exact h2 rfl B R0 R1 σ H1 _ (s.step s1) fun w R2 H2 s2 r2 => kk w R2 H2 (s1.trans s2) (r2.back s1.hh)
    | true => rw [if_pos rfl]; exact kk _ R1 H1 s1 (Rp.bl _)⟩
theorem ex_if {k : Bool} {r : Rs} (h : TX X c ρ k) (h1 : k = true → EX X a ρ r) (h2 : k = false → EX X b ρ r) : EX X (.IfExp c a b pos) ρ r :=
  .of (pe_ifExp pt_sem pe_sem pe_sem) fun B R0 R σ H Q s kk => h B R0 R σ H _ s fun R1 H1 s1 => by
    cases k with
    | true => rw [if_pos rfl]; exact h1 rfl B R0 R1 σ H1 _ (s.step s1) fun w R2 H2 s2 r2 => kk w R2 H2 (s1.trans s2) (r2.back s1.hh)
    | false => rw [if_neg Bool.false_ne_true]; exact h2 rfl B R0 R1 σ H1 _ (s.step s1) fun w R2 H2 s2 r2 => kk w R2 H2 (s1.trans s2) (r2.back s1.hh)
theorem Ev.chain {K} {r r' : R2} {ta tb tc : TE} {ra rb rc : Rs} {j k : Bool} (ha : Ev K ta ρ ra) (hb : Ev K tb ρ rb) (o1 : Op2 K r ra rb (.sh (.bl j))) (hc : j = true → Ev K tc ρ rc) (o2 : j = true → Op2 K r' rb rc (.sh (.bl k))) : Ev K (tChain r r' ta tb tc) ρ (.sh (.bl (j && k))) := fun B R0 R σ H Q s kk =>
  ha B R0 R σ H _ s fun x R1 H1 s1 r1 => hb B R0 R1 σ H1 _ (s.step s1) fun y R2 H2 s2 r2 =>
    o1 H R2 H2 x y _ s2.sub (s1.hh.trans s2.hh) (r1.step s2) (r2.back s1.hh) fun v R3 H3 s3 r3 => ⟨j, Res.bl s3.sub r3 rfl, by
      have s13 := (s1.trans s2).trans s3
      cases j with
      | false => rw [if_neg Bool.false_ne_true]; exact kk _ R3 H3 s13 (Rp.bl _)
      | true =>
        rw [if_pos rfl]
        exact hc rfl B R0 R3 σ H3 _ (s.step s13) fun z R4 H4 s4 r4 => o2 rfl H R4 H4 y z Q s4.sub (s13.hh.trans s4.hh) ((r2.back s1.hh).step (s3.trans s4)) (r4.back s13.hh) fun w R5 H5 s5 r5 => kk w R5 H5 ((s13.trans s4).trans s5) (r5.back (s13.hh.trans s4.hh))⟩
theorem ex_chain {op op' : CmpOp} {r r' : R2} {ra rb rc : Rs} {j k : Bool} (ho : OpR X (compareOp op) r) (ho' : OpR X (compareOp op') r') (o1 : Op2 X.K r ra rb (.sh (.bl j))) (o2 : j = true → Op2 X.K r' rb rc (.sh (.bl k)))
    (ha : EX X a ρ ra) (hb : EX X b ρ rb) (hc : j = true → EX X c ρ rc) (hm : lastMarks [op, op'] [b, c] = false := by with_unfolding_all rfl) : EX X (.Compare a [op, op'] [b, c] pos) ρ (.sh (.bl (j && k))) :=
  .of (pe_chain ho ho' pe_sem pe_sem pe_sem hm) (Ev.chain ha hb o1 hc o2)
theorem tx_chain {op op' : CmpOp} {r r' : R2} {ra rb rc : Rs} {j k : Bool} (ho : OpR X (compareOp op) r) (ho' : OpR X (compareOp op') r') (o1 : Op2 X.K r ra rb (.sh (.bl j))) (o2 : j = true → Op2 X.K r' rb rc (.sh (.bl k)))
    (ha : EX X a ρ ra) (hb : EX X b ρ rb) (hc : j = true → EX X c ρ rc) (hm : lastMarks [op, op'] [b, c] = false := by with_unfolding_all rfl) : TX X (.Compare a [op, op'] [b, c] pos) ρ (j && k) :=
  .of (pt_chain ho ho' pe_sem pe_sem pe_sem hm) (Tv.of_ev (Ev.chain ha hb o1 hc o2))
end
end PV

namespace PV
open PySem PySem.Spec PyProof.Rows L2
section
variable {X : Cx} {ρ : List Sl} {pos : Pos} {a b c e : Expr} {K : PySem.W.Frag}

/-! ### operators -/
theorem o2_I {C : Int → Int → Prop} {g : Int → Int → V} {i j : Int} {d : D} (hc : C i j) (h : ∀ R, Rp K R (g i j) d) : Op2 K (rI C g) (.sh (.int i)) (.sh (.int j)) (.sh d) := fun H0 R H x y Q s _ rx ry k =>
  ⟨i, j, Res.int s rx rfl, Res.int s ry rfl, hc, k _ R H s.step (h R)⟩
theorem o2_I0 {g : Int → Int → V} {i j : Int} {d : D} (h : ∀ R, Rp K R (g i j) d) : Op2 K (rI0 g) (.sh (.int i)) (.sh (.int j)) (.sh d) := fun H0 R H x y Q s _ rx ry k =>
  ⟨i, j, Res.int s rx rfl, Res.int s ry rfl, k _ R H s.step (h R)⟩
variable {i j : Int}
theorem ex_add (ha : EX X a ρ (.sh (.int i))) (hb : EX X b ρ (.sh (.int j))) : EX X (.BinOp a .Add b pos) ρ (.sh (.int (i + j))) := ex_bin op_add (o2_I0 fun _ => .int _) ha hb
theorem ex_sub (ha : EX X a ρ (.sh (.int i))) (hb : EX X b ρ (.sh (.int j))) : EX X (.BinOp a .Sub b pos) ρ (.sh (.int (i - j))) := ex_bin op_sub (o2_I0 fun _ => .int _) ha hb
theorem ex_mul (ha : EX X a ρ (.sh (.int i))) (hb : EX X b ρ (.sh (.int j))) (hc : CMul i j) : EX X (.BinOp a .Mult b pos) ρ (.sh (.int (i * j))) := ex_bin op_mul (o2_I hc fun _ => .int _) ha hb
theorem ex_mulW (ha : EX X a ρ (.sh (.int i))) (hb : EX X b ρ (.sh (.int j))) (hc : CMulW i j) : EX X (.BinOp a .Mult b pos) ρ (.sh (.int (i * j))) := ex_bin op_mulW (o2_I hc fun _ => .int _) ha hb
theorem ex_mod (ha : EX X a ρ (.sh (.int i))) (hb : EX X b ρ (.sh (.int j))) (hc : 0 < j) : EX X (.BinOp a .Mod b pos) ρ (.sh (.int (i % j))) := ex_bin op_mod (o2_I hc fun _ => .int _) ha hb
theorem ex_fdiv (ha : EX X a ρ (.sh (.int i))) (hb : EX X b ρ (.sh (.int j))) (hc : CDiv i j) : EX X (.BinOp a .FloorDiv b pos) ρ (.sh (.int (i / j))) := ex_bin op_fdiv (o2_I hc fun _ => .int _) ha hb
theorem ex_pow (ha : EX X a ρ (.sh (.int i))) (hb : EX X b ρ (.sh (.int j))) (hc : CPow i j) : EX X (.BinOp a .Pow b pos) ρ (.sh (.int (i ^ j.toNat))) := ex_bin op_pow (o2_I hc fun _ => .int _) ha hb
theorem ex_lt (ha : EX X a ρ (.sh (.int i))) (hb : EX X b ρ (.sh (.int j))) : EX X (.Compare a [.Lt] [b] pos) ρ (.sh (.bl (decide (i < j)))) := ex_cmp op_lt (o2_I0 fun _ => .bl _) ha hb (nomark _)
theorem ex_le (ha : EX X a ρ (.sh (.int i))) (hb : EX X b ρ (.sh (.int j))) : EX X (.Compare a [.LtE] [b] pos) ρ (.sh (.bl (decide (i ≤ j)))) := ex_cmp op_le (o2_I0 fun _ => .bl _) ha hb (nomark _)
theorem ex_gt (ha : EX X a ρ (.sh (.int i))) (hb : EX X b ρ (.sh (.int j))) : EX X (.Compare a [.Gt] [b] pos) ρ (.sh (.bl (decide (j < i)))) := ex_cmp op_gt (o2_I0 fun _ => .bl _) ha hb (nomark _)
theorem ex_ge (ha : EX X a ρ (.sh (.int i))) (hb : EX X b ρ (.sh (.int j))) : EX X (.Compare a [.GtE] [b] pos) ρ (.sh (.bl (decide (j ≤ i)))) := ex_cmp op_ge (o2_I0 fun _ => .bl _) ha hb (nomark _)
theorem tx_lt (ha : EX X a ρ (.sh (.int i))) (hb : EX X b ρ (.sh (.int j))) : TX X (.Compare a [.Lt] [b] pos) ρ (decide (i < j)) := tx_cmp op_lt (o2_I0 fun _ => .bl _) ha hb (nomark _)
theorem tx_le (ha : EX X a ρ (.sh (.int i))) (hb : EX X b ρ (.sh (.int j))) : TX X (.Compare a [.LtE] [b] pos) ρ (decide (i ≤ j)) := tx_cmp op_le (o2_I0 fun _ => .bl _) ha hb (nomark _)
theorem tx_gt (ha : EX X a ρ (.sh (.int i))) (hb : EX X b ρ (.sh (.int j))) : TX X (.Compare a [.Gt] [b] pos) ρ (decide (j < i)) := tx_cmp op_gt (o2_I0 fun _ => .bl _) ha hb (nomark _)
theorem tx_ge (ha : EX X a ρ (.sh (.int i))) (hb : EX X b ρ (.sh (.int j))) : TX X (.Compare a [.GtE] [b] pos) ρ (decide (j ≤ i)) := tx_cmp op_ge (o2_I0 fun _ => .bl _) ha hb (nomark _)
theorem o2_lt : Op2 K (rI0 fun i j => .bl (decide (i < j))) (.sh (.int i)) (.sh (.int j)) (.sh (.bl (decide (i < j)))) := o2_I0 fun _ => .bl _
theorem o2_le : Op2 K (rI0 fun i j => .bl (decide (i ≤ j))) (.sh (.int i)) (.sh (.int j)) (.sh (.bl (decide (i ≤ j)))) := o2_I0 fun _ => .bl _
/-- == of ints, texts, bools -/
theorem o2_eq {x y : V} {d1 d2 : D} (h1 : ∀ R v, Rp K R v d1 → v = x) (h2 : ∀ R v, Rp K R v d2 → v = y) (hs : scal x y = true) : Op2 K rEq (.sh d1) (.sh d2) (.sh (.bl (decide (x = y)))) := fun H0 R H v u Q s _ rx ry k => by
  rw [h1 _ _ rx, h2 _ _ ry]
  exact ⟨hs, k _ R H s.step (Rp.bl _)⟩
theorem o2_ne {x y : V} {d1 d2 : D} (h1 : ∀ R v, Rp K R v d1 → v = x) (h2 : ∀ R v, Rp K R v d2 → v = y) (hs : scal x y = true) : Op2 K rNe (.sh d1) (.sh d2) (.sh (.bl (!decide (x = y)))) := fun H0 R H v u Q s _ rx ry k => by
  rw [h1 _ _ rx, h2 _ _ ry]
  exact ⟨hs, k _ R H s.step (Rp.bl _)⟩
theorem is_int (R : Hp) (v : V) (h : Rp K R v (.int i)) : v = .int i := by cases h; rfl
theorem is_str {x : Str} (R : Hp) (v : V) (h : Rp K R v (.str x)) : v = .str x := by cases h; rfl
theorem is_bl {x : Bool} (R : Hp) (v : V) (h : Rp K R v (.bl x)) : v = .bl x := by cases h; rfl
theorem is_non (R : Hp) (v : V) (h : Rp K R v .non) : v = .non := by cases h; rfl
theorem dec_int : decide (V.int i = V.int j) = decide (i = j) := by
  by_cases h : i = j
  · subst h; simp
  · rw [decide_eq_false h, decide_eq_false fun z => h (V.int.inj z)]
theorem dec_str {x y : Str} : decide (V.str x = V.str y) = decide (x = y) := by
  by_cases h : x = y
  · subst h; simp
  · rw [decide_eq_false h, decide_eq_false fun z => h (V.str.inj z)]
theorem dec_bl {x y : Bool} : decide (V.bl x = V.bl y) = decide (x = y) := by
  by_cases h : x = y
  · subst h; simp
  · rw [decide_eq_false h, decide_eq_false fun z => h (V.bl.inj z)]
theorem o2_eqI : Op2 K rEq (.sh (.int i)) (.sh (.int j)) (.sh (.bl (decide (i = j)))) := dec_int ▸ o2_eq is_int is_int rfl
theorem o2_neI : Op2 K rNe (.sh (.int i)) (.sh (.int j)) (.sh (.bl (!decide (i = j)))) := dec_int ▸ o2_ne is_int is_int rfl
theorem o2_eqS {x y : Str} : Op2 K rEq (.sh (.str x)) (.sh (.str y)) (.sh (.bl (decide (x = y)))) := dec_str ▸ o2_eq is_str is_str rfl
theorem o2_neS {x y : Str} : Op2 K rNe (.sh (.str x)) (.sh (.str y)) (.sh (.bl (!decide (x = y)))) := dec_str ▸ o2_ne is_str is_str rfl
theorem o2_eqB {x y : Bool} : Op2 K rEq (.sh (.bl x)) (.sh (.bl y)) (.sh (.bl (decide (x = y)))) := dec_bl ▸ o2_eq is_bl is_bl rfl
theorem ex_eqI (ha : EX X a ρ (.sh (.int i))) (hb : EX X b ρ (.sh (.int j))) : EX X (.Compare a [.Eq] [b] pos) ρ (.sh (.bl (decide (i = j)))) := ex_cmp op_eq o2_eqI ha hb (nomark _)
theorem ex_neI (ha : EX X a ρ (.sh (.int i))) (hb : EX X b ρ (.sh (.int j))) : EX X (.Compare a [.NotEq] [b] pos) ρ (.sh (.bl (!decide (i = j)))) := ex_cmp op_ne o2_neI ha hb (nomark _)
theorem tx_eqI (ha : EX X a ρ (.sh (.int i))) (hb : EX X b ρ (.sh (.int j))) : TX X (.Compare a [.Eq] [b] pos) ρ (decide (i = j)) := tx_cmp op_eq o2_eqI ha hb (nomark _)
theorem tx_neI (ha : EX X a ρ (.sh (.int i))) (hb : EX X b ρ (.sh (.int j))) : TX X (.Compare a [.NotEq] [b] pos) ρ (!decide (i = j)) := tx_cmp op_ne o2_neI ha hb (nomark _)
theorem ex_eqS {x y : Str} (ha : EX X a ρ (.sh (.str x))) (hb : EX X b ρ (.sh (.str y))) : EX X (.Compare a [.Eq] [b] pos) ρ (.sh (.bl (decide (x = y)))) := ex_cmp op_eq o2_eqS ha hb (nomark _)
theorem tx_eqS {x y : Str} (ha : EX X a ρ (.sh (.str x))) (hb : EX X b ρ (.sh (.str y))) : TX X (.Compare a [.Eq] [b] pos) ρ (decide (x = y)) := tx_cmp op_eq o2_eqS ha hb (nomark _)
theorem tx_neS {x y : Str} (ha : EX X a ρ (.sh (.str x))) (hb : EX X b ρ (.sh (.str y))) : TX X (.Compare a [.NotEq] [b] pos) ρ (!decide (x = y)) := tx_cmp op_ne o2_neS ha hb (nomark _)
theorem ex_neS {x y : Str} (ha : EX X a ρ (.sh (.str x))) (hb : EX X b ρ (.sh (.str y))) : EX X (.Compare a [.NotEq] [b] pos) ρ (.sh (.bl (!decide (x = y)))) := ex_cmp op_ne o2_neS ha hb (nomark _)
theorem ex_eqB {x y : Bool} (ha : EX X a ρ (.sh (.bl x))) (hb : EX X b ρ (.sh (.bl y))) : EX X (.Compare a [.Eq] [b] pos) ρ (.sh (.bl (decide (x = y)))) := ex_cmp op_eq o2_eqB ha hb (nomark _)
theorem ex_addS {x y : Str} (ha : EX X a ρ (.sh (.str x))) (hb : EX X b ρ (.sh (.str y))) (hl : x.length + y.length ≤ sizeLine) : EX X (.BinOp a .Add b pos) ρ (.sh (.str (x ++ y))) :=
  ex_bin (ra := .sh (.str x)) (rb := .sh (.str y)) op_add_str (fun H0 R H v u Q s _ rx ry k => ⟨x, y, Res.str s rx rfl, Res.str s ry rfl, hl, k _ R H s.step (Rp.str _)⟩) ha hb
/-- is None -/
def isNon : D → Bool
  | .non => true
  | _ => false
theorem isNon_of {R : Hp} {v : V} {d : D} (h : Rp K R v d) : decide (v = .non) = isNon d := by
  cases h <;> first | rfl | exact decide_eq_false fun z => nomatch z
theorem o2_isN {r : Rs} : Op2 K (fun x y H Q => y = .non ∧ Q (.bl (decide (x = .non))) H) r (.sh .non) (.sh (.bl (isNon r.dat))) := fun H0 R H x y Q s _ rx ry k =>
  ⟨is_non _ _ ry, k _ R H s.step (by rw [isNon_of (rx.rp s)]; exact Rp.bl _)⟩
theorem o2_notN {r : Rs} : Op2 K (fun x y H Q => y = .non ∧ Q (.bl (!decide (x = .non))) H) r (.sh .non) (.sh (.bl (!isNon r.dat))) := fun H0 R H x y Q s _ rx ry k =>
  ⟨is_non _ _ ry, k _ R H s.step (by rw [isNon_of (rx.rp s)]; exact Rp.bl _)⟩
theorem tx_isN {r : Rs} {j p'} (ha : EX X a ρ r) : TX X (.Compare a [.Is] [.Constant .none j p'] pos) ρ (isNon r.dat) := tx_cmp op_isN o2_isN ha ex_non (nomark _)
theorem tx_notN {r : Rs} {j p'} (ha : EX X a ρ r) : TX X (.Compare a [.IsNot] [.Constant .none j p'] pos) ρ (!isNon r.dat) := tx_cmp op_notN o2_notN ha ex_non (nomark _)

/-! ### items -/
theorem RpA.atI {R : Hp} {vs : List V} {ds : List D} {k : Int} {d : D} (h : RpA K R vs ds) (e : L2.atI ds k = some d) : ∃ v, L2.atI vs k = some v ∧ Rp K R v d := by
  unfold L2.atI at e ⊢
  rw [h.len]
  cases q : ixN ds.length k with
  | none => rw [q] at e; cases e
  | some j => rw [q] at e; exact RpA.get h e
theorem o2_ixL {ds : List D} {d : D} (e : atI ds i = some d) : Op2 K (rIxL K) (.sh (.lst ds)) (.sh (.int i)) (.sh d) := fun H0 R H x y Q s _ rx ry k => by
  cases rx with
  | lst h r =>
    obtain ⟨v, e1, e2⟩ := RpA.atI r e
    exact ⟨_, _, i, v, rfl, is_int _ _ ry, SqL.of (s.rh.k _ _ h trivial), e1, k v R H s.step e2⟩
theorem o2_ixLA {ds : List D} {d : D} (e : atI ds i = some d) : Op2 K (rIxL K) (.al (.lst ds)) (.sh (.int i)) (.al d) := fun H0 R H x y Q s _ rx ry k => by
  cases rx with
  | lst h r =>
    obtain ⟨v, e1, e2⟩ := RpA.atI r e
    exact ⟨_, _, i, v, rfl, is_int _ _ ry, SqL.of h, e1, k v R H s.step e2⟩
theorem o2_ixT {ds : List D} {d : D} (e : atI ds i = some d) : Op2 K (rIxT K) (.sh (.tup ds)) (.sh (.int i)) (.sh d) := fun H0 R H x y Q s _ rx ry k => by
  cases rx with
  | tup h r =>
    obtain ⟨v, e1, e2⟩ := RpA.atI r e
    exact ⟨_, _, i, v, rfl, is_int _ _ ry, Sm.seqT s.rh h, e1, k v R H s.step e2⟩
theorem o2_ixTA {ds : List D} {d : D} (e : atI ds i = some d) : Op2 K (rIxT K) (.al (.tup ds)) (.sh (.int i)) (.al d) := fun H0 R H x y Q s _ rx ry k => by
  cases rx with
  | tup h r =>
    obtain ⟨v, e1, e2⟩ := RpA.atI r e
    exact ⟨_, _, i, v, rfl, is_int _ _ ry, h, e1, k v R H s.step e2⟩
theorem o2_ixC {ns : List Int} {n : Int} (e : L2.atI ns i = some n) : Op2 K (rIxL K) (.sh (.scr ns)) (.sh (.int i)) (.sh (.int n)) := fun H0 R H x y Q s _ rx ry k => by
  cases rx with
  | scr h =>
    refine ⟨_, _, i, .int n, rfl, is_int _ _ ry, s.rh.seq h, ?_, k _ R H s.step (Rp.int _)⟩
    unfold L2.atI at e ⊢
    rw [List.length_map]
    cases q : ixN ns.length i with
    | none => rw [q] at e; cases e
    | some j =>
      rw [q] at e
      have e : ns[j]? = some n := e
      show (ns.map V.int)[j]? = some (.int n)
      rw [List.getElem?_map, e]; rfl
theorem o2_ixS {z : Str} {c : Nat} (hl : z.length ≤ sizeLine) (e : atI z.cps.toList i = some c) : Op2 K rIxS (.sh (.str z)) (.sh (.int i)) (.sh (.str ⟨#[c]⟩)) := fun H0 R H x y Q s _ rx ry k =>
  ⟨z, i, c, is_str _ _ rx, is_int _ _ ry, hl, e, k _ R H s.step (Rp.str _)⟩

/-! ### arguments, displays -/
theorem ax_nil : AX X [] ρ [] := .of pa_nil fun B R0 R σ H Q s k => k [] R H s.sub.step .nil
theorem ResA.step {H R1 H1 R2 H2 : Hp} (s : Step R1 H1 R2 H2) : ∀ {vs : List V} {rs : List Rs}, ResA K H R1 H1 vs rs → ResA K H R2 H2 vs rs
  | _, _, .nil => .nil
  | _, _, .cons h r => .cons (h.step s) (ResA.step s r)
theorem ResA.back {H0 H R2 H2 : Hp} (s : Sm H0 H) : ∀ {vs : List V} {rs : List Rs}, ResA K H R2 H2 vs rs → ResA K H0 R2 H2 vs rs
  | _, _, .nil => .nil
  | _, _, .cons h r => .cons (h.back s) (ResA.back s r)
theorem ax_cons {es : List Expr} {r : Rs} {rs : List Rs} (ha : EX X e ρ r) (hr : AX X es ρ rs) (hs : starEach (e :: es) X.env = (false, eval e X.env) :: starEach es X.env := by rfl) : AX X (e :: es) ρ (r :: rs) :=
  .of (pa_cons pe_sem pa_sem hs) fun B R0 R σ H Q s k => ha B R0 R σ H _ s fun x R1 H1 s1 r1 => hr B R0 R1 σ H1 _ (s.step s1) fun vs R2 H2 s2 r2 =>
    k _ R2 H2 (s1.trans s2) (.cons (r1.step s2) (r2.back s1.hh))
theorem ResA.shs {H R' H' : Hp} : ∀ {vs : List V} {ds : List D}, ResA K H R' H' vs (ds.map Rs.sh) → RpA K R' vs ds
  | _, [], h => by cases h; exact .nil
  | _, d :: ds, h => by cases h with | cons h r => exact .cons h (ResA.shs r)
theorem ResA.rp {H R' H' : Hp} (s : Sub R' H') : ∀ {vs : List V} {rs : List Rs}, ResA K H R' H' vs rs → RpA K H' vs (rs.map Rs.dat)
  | _, _, .nil => .nil
  | _, _, .cons h r => .cons (h.rp s) (ResA.rp s r)
theorem ResA.len {H R' H' : Hp} : ∀ {vs : List V} {rs : List Rs}, ResA K H R' H' vs rs → vs.length = rs.length
  | _, _, .nil => rfl
  | _, _, .cons h r => by rw [List.length_cons, List.length_cons, ResA.len r]
/-- a new object is laid, not shared yet -/
theorem Step.new {R H R' H' : Hp} (s : Step R H R' H') {p : Addr} {o : HO} (n : H' p = none) (nt : ∀ xs, o ≠ .tup xs) (nf : ∀ u v, o ≠ .frz u v) : Step R H R' (upd H' p o) := by
  refine ⟨s.rr, s.rh.upd n, s.hh.upd n, s.nw, fun b xs e => ?_, fun b u xs e => ?_⟩
  · by_cases z : b = p
    · subst z; rw [upd_same] at e; exact absurd (Option.some.inj e) (nt xs)
    · rw [upd_ne z] at e; exact s.tp b xs e
  · by_cases z : b = p
    · subst z; rw [upd_same] at e; exact absurd (Option.some.inj e) (nf u _)
    · rw [upd_ne z] at e; exact s.tf b u xs e
/-- a new object is laid and shared -/
theorem Step.newS {R H R' H' : Hp} (s : Step R H R' H') {p : Addr} {o : HO} (n : H' p = none) : Step R H (upd R' p o) (upd H' p o) := by
  have nr : R' p = none := Sm.free s.rh n
  refine ⟨s.rr.upd nr, ⟨fun b x e nt => ?_, fun b ps e => ?_⟩, s.hh.upd n, fun a h h' => ?_, fun b xs e => ?_, fun b u xs e => ?_⟩
  · by_cases z : b = p
    · subst z; rw [upd_same] at e ⊢; exact e
    · rw [upd_ne z] at e ⊢; exact s.rh.k b x e nt
  · by_cases z : b = p
    · subst z; rw [upd_same] at e ⊢; exact ⟨ps, e, id⟩
    · rw [upd_ne z] at e ⊢; exact s.rh.t b ps e
  · by_cases z : a = p
    · subst z; exact Sm.free s.hh n
    · rw [upd_ne z] at h'; exact s.nw a h h'
  · by_cases z : b = p
    · subst z; rw [upd_same] at e ⊢; exact e
    · rw [upd_ne z] at e ⊢; exact s.tp b xs e
  · by_cases z : b = p
    · subst z; rw [upd_same] at e ⊢; exact e
    · rw [upd_ne z] at e ⊢; exact s.tf b u xs e
theorem Own.new {R H : Hp} (s : Sub R H) {p : Addr} {o : HO} {d : D} (n : H p = none) (h : ObjD K R o d) : Own K R (upd H p o) p d :=
  ⟨Sm.free s.rh n, o, upd_same, h⟩
/-- (e, ..) of shared things -/
theorem ex_tup {es : List Expr} {x1} {ds : List D} (h : AX X es ρ (ds.map Rs.sh)) (hl : ds.length ≤ sizeLine) : EX X (.Tuple es x1 pos) ρ (.sh (.tup ds)) :=
  .of (pe_tup pa_sem) fun B R0 R σ H Q s k => h B R0 R σ H _ s fun vs R1 H1 s1 r1 => by
    have r := r1.shs
    refine ⟨by rw [r.len]; exact hl, fun p np => ?_⟩
    have st := s1.newS (o := .tup vs) np
    exact k _ _ _ st (Rp.tup (SqT.of upd_same) (RpA.mono ((Sm.refl R1).upd (Sm.free s1.rh np)) r))
/-- [e, ..] of shared things -/
theorem ex_lst {es : List Expr} {ds : List D} (h : AX X es ρ (ds.map Rs.sh)) (hl : ds.length ≤ sizeLine) : EX X (.List es pos) ρ (.nw (.lst ds)) :=
  .of (pe_lst pa_sem) fun B R0 R σ H Q s k => h B R0 R σ H _ s fun vs R1 H1 s1 r1 => by
    have r := r1.shs
    refine ⟨by rw [r.len]; exact hl, fun p np => ?_⟩
    have hn := Sm.free s1.hh np
    exact k _ R1 _ (s1.new np (fun _ z => nomatch z) fun _ _ z => nomatch z) ⟨p, rfl, hn, Own.new s1.sub np r⟩
theorem ex_dnew : EX X (.Dict [] [] pos) ρ (.nw (.dK [])) :=
  .of pe_dnewK fun B R0 R σ H Q s k p np => k _ R _ (s.sub.step.new np (fun _ z => nomatch z) fun _ _ z => nomatch z) ⟨p, rfl, np, Own.new s.sub np .nil⟩

/-! ### calls of builtins -/
def OpN (K : PySem.W.Frag) (r : List V → Hp → VK → Prop) (rs : List Rs) (rc : Rs) : Prop := ∀ (H0 R H : Hp) (xs : List V) (Q : VK), Sub R H → Sm H0 H → ResA K H0 R H xs rs → (∀ v R' H', Step R H R' H' → Res K H R' H' v rc → Q v H') → r xs H Q
theorem Ev.opN {r : List V → Hp → VK → Prop} {t : TA} {rs : List Rs} {rc : Rs} (h : Av K t ρ rs) (c : OpN K r rs rc) : Ev K (tCB r t) ρ rc := fun B R0 R σ H Q s k =>
  h B R0 R σ H _ s fun xs R1 H1 s1 r1 => c H R1 H1 xs Q s1.sub s1.hh r1 fun v R2 H2 s2 r2 => k v R2 H2 (s1.trans s2) (r2.back s1.hh)
theorem ex_callB {r : List V → Hp → VK → Prop} {id : String} {x : Str} {p : Pos} {es : List Expr} {rs : List Rs} {rc : Rs} (hc : CallR X (.builtin id) r) (c : OpN X.K r rs rc) (hg : Gl X x) (hm : X.mg x = none) (hv : bootBuiltins x = some (.builtin id)) (ha : AX X (e :: es) ρ rs)
    (hn : x ≠ "__name__" := by decide) (hdb : (x == ("__debug__" : Str)) = false := by decide) (hst : starEach (e :: es) X.env = (false, eval e X.env) :: starEach es X.env := by rfl) (hpl : (backTo pos (starEach es X.env)).any (·.1) = false := by rfl) : EX X (.Call (.Name x p) (e :: es) [] pos) ρ rc :=
  .of (pe_callB hc hg hm hv pa_sem hn hdb hst hpl) (Ev.opN ha c)
theorem ex_callTy {r : List V → Hp → VK → Prop} {T : String} {x : Str} {p : Pos} {es : List Expr} {rs : List Rs} {rc : Rs} (hc : CallR X (.type T) r) (c : OpN X.K r rs rc) (hg : Gl X x) (hm : X.mg x = none) (hv : bootBuiltins x = some (.type T)) (ha : AX X (e :: es) ρ rs)
    (hn : x ≠ "__name__" := by decide) (hdb : (x == ("__debug__" : Str)) = false := by decide) (hst : starEach (e :: es) X.env = (false, eval e X.env) :: starEach es X.env := by rfl) (hpl : (backTo pos (starEach es X.env)).any (·.1) = false := by rfl) : EX X (.Call (.Name x p) (e :: es) [] pos) ρ rc :=
  .of (pe_callTy hc hg hm hv pa_sem hn hdb hst hpl) (Ev.opN ha c)
end
end PV

namespace PV
open PySem PySem.Spec PyProof.Rows L2
section
variable {X : Cx} {ρ : List Sl} {pos : Pos} {a b c e o : Expr} {K : PySem.W.Frag}

/-! ### what builtins do, by data -/
theorem ResA.one {H R' H' : Hp} {vs : List V} {r : Rs} (h : ResA K H R' H' vs [r]) : ∃ v, vs = [v] ∧ Res K H R' H' v r := by
  cases h with | cons h t => cases t; exact ⟨_, rfl, h⟩
theorem ResA.two {H R' H' : Hp} {vs : List V} {r q : Rs} (h : ResA K H R' H' vs [r, q]) : ∃ v u, vs = [v, u] ∧ Res K H R' H' v r ∧ Res K H R' H' u q := by
  cases h with | cons h t => obtain ⟨u, rfl, h2⟩ := t.one; exact ⟨_, _, rfl, h, h2⟩
theorem Rp.lst' {R : Hp} {v : V} {ds : List D} (h : Rp K R v (.lst ds)) : ∃ a xs, v = .ref a ∧ R a = some (.lst xs) ∧ RpA K R xs ds := by
  cases h with | lst h r => exact ⟨_, _, rfl, h, r⟩
theorem Rp.tup' {R : Hp} {v : V} {ds : List D} (h : Rp K R v (.tup ds)) : ∃ a xs, v = .ref a ∧ SqT K R a xs ∧ RpA K R xs ds := by
  cases h with | tup h r => exact ⟨_, _, rfl, h, r⟩
theorem Rp.dK' {R : Hp} {v : V} {kds : List (Key × D)} (h : Rp K R v (.dK kds)) : ∃ a kvs, v = .ref a ∧ R a = some (.dK kvs) ∧ RpK K R kvs kds := by
  cases h with | dK h r => exact ⟨_, _, rfl, h, r⟩
/-- the items of a list or tuple -/
def sq : D → Option (List D)
  | .lst ds => some ds
  | .tup ds => some ds
  | _ => none
theorem sq_of {R : Hp} {v : V} {d : D} {ds : List D} (h : Rp K R v d) (e : sq d = some ds) : ∃ a xs, v = .ref a ∧ (SqL K R a xs ∨ SqT K R a xs) ∧ RpA K R xs ds := by
  cases h <;> first | (cases e; done) | skip
  · rename_i h r
    cases e
    exact ⟨_, _, rfl, .inl (SqL.of h), r⟩
  · rename_i h r
    cases e
    exact ⟨_, _, rfl, .inr h, r⟩
theorem on_len {r : Rs} {ds : List D} (e : sq r.dat = some ds) : OpN K (fun xs H Q => ∃ p ys, xs = [.ref p] ∧ (SqL K H p ys ∨ SqT K H p ys) ∧ Q (.int ys.length) H) [r] (.sh (.int ds.length)) := fun H0 R H xs Q s _ rs k => by
  obtain ⟨v, rfl, h⟩ := rs.one
  obtain ⟨p, ys, rfl, h1, h2⟩ := sq_of (h.rp s) e
  exact ⟨p, ys, rfl, h1, by rw [h2.len]; exact k _ R H s.step (Rp.int _)⟩
theorem on_lenC {ns : List Int} : OpN K (fun xs H Q => ∃ p ys, xs = [.ref p] ∧ (SqL K H p ys ∨ SqT K H p ys) ∧ Q (.int ys.length) H) [.sh (.scr ns)] (.sh (.int ns.length)) := fun H0 R H xs Q s _ rs k => by
  obtain ⟨v, rfl, h⟩ := rs.one
  cases h with
  | scr h => exact ⟨_, _, rfl, .inl (s.rh.seq h), by rw [List.length_map]; exact k _ R H s.step (Rp.int _)⟩
theorem on_lenS {z : Str} (hl : z.length ≤ sizeLine) : OpN K (fun xs H Q => ∃ z : Str, xs = [.str z] ∧ z.length ≤ sizeLine ∧ Q (.int z.length) H) [.sh (.str z)] (.sh (.int z.length)) := fun H0 R H xs Q s _ rs k => by
  obtain ⟨v, rfl, h⟩ := rs.one
  exact ⟨z, by rw [Res.str s h rfl], hl, k _ R H s.step (Rp.int _)⟩
theorem on_min2 {i j : Int} : OpN K (fun xs H Q => ∃ i j, xs = [.int i, .int j] ∧ Q (.int (if j < i then j else i)) H) [.sh (.int i), .sh (.int j)] (.sh (.int (if j < i then j else i))) := fun H0 R H xs Q s _ rs k => by
  obtain ⟨v, u, rfl, h1, h2⟩ := rs.two
  exact ⟨i, j, by rw [Res.int s h1 rfl, Res.int s h2 rfl], k _ R H s.step (Rp.int _)⟩
theorem on_max2 {i j : Int} : OpN K (fun xs H Q => ∃ i j, xs = [.int i, .int j] ∧ Q (.int (if j > i then j else i)) H) [.sh (.int i), .sh (.int j)] (.sh (.int (if j > i then j else i))) := fun H0 R H xs Q s _ rs k => by
  obtain ⟨v, u, rfl, h1, h2⟩ := rs.two
  exact ⟨i, j, by rw [Res.int s h1 rfl, Res.int s h2 rfl], k _ R H s.step (Rp.int _)⟩
theorem on_intB {x : Bool} : OpN K (fun xs H Q => (∃ i, xs = [.int i] ∧ Q (.int i) H) ∨ ∃ k, xs = [.bl k] ∧ Q (.int (if k then 1 else 0)) H) [.sh (.bl x)] (.sh (.int (if x then 1 else 0))) := fun H0 R H xs Q s _ rs k => by
  obtain ⟨v, rfl, h⟩ := rs.one
  exact .inr ⟨x, by rw [Res.bl s h rfl], k _ R H s.step (Rp.int _)⟩
theorem on_intI {x : Int} : OpN K (fun xs H Q => (∃ i, xs = [.int i] ∧ Q (.int i) H) ∨ ∃ k, xs = [.bl k] ∧ Q (.int (if k then 1 else 0)) H) [.sh (.int x)] (.sh (.int x)) := fun H0 R H xs Q s _ rs k => by
  obtain ⟨v, rfl, h⟩ := rs.one
  exact .inl ⟨x, by rw [Res.int s h rfl], k _ R H s.step (Rp.int _)⟩
/-- items that may go into a new list: shared ones, or ones that nothing can change -/
def Sharable (r : Rs) (ds : List D) : Prop := (∃ d, r = .sh d) ∨ immA ds = true
theorem items_of {H0 R H : Hp} {v : V} {r : Rs} {ds : List D} (s : Sub R H) (h : Res K H0 R H v r) (e : sq r.dat = some ds) (sh : Sharable r ds) : ∃ a xs, v = .ref a ∧ (SqL K H a xs ∨ SqT K H a xs) ∧ RpA K R xs ds := by
  rcases sh with ⟨d, rfl⟩ | hi
  · obtain ⟨a, xs, rfl, h1, h2⟩ := sq_of (show Rp K R v d from h) e
    exact ⟨a, xs, rfl, h1.imp (fun z => s.rh.seq z) (fun z => Sm.seqT s.rh z), h2⟩
  · obtain ⟨a, xs, rfl, h1, h2⟩ := sq_of (h.rp s) e
    exact ⟨a, xs, rfl, h1, RpA.imm s.tp s.tf h2 hi⟩
theorem new_lst {H0 R H : Hp} {p : Addr} {xs : List V} {ds : List D} {Q : VK} (s : Sub R H) (s0 : Sm H0 H) (np : H p = none) (r : RpA K R xs ds) (k : ∀ v R' H', Step R H R' H' → Res K H R' H' v (.nw (.lst ds)) → Q v H') : Q (.ref p) (upd H p (.lst xs)) :=
  k _ R _ (s.step.new np (fun _ z => nomatch z) fun _ _ z => nomatch z) ⟨p, rfl, np, Own.new s np r⟩
theorem on_list {r : Rs} {ds : List D} (e : sq r.dat = some ds) (sh : Sharable r ds) : OpN K (fun xs H Q => ∃ p ys, xs = [.ref p] ∧ (SqL K H p ys ∨ SqT K H p ys) ∧ ∀ l, H l = none → Q (.ref l) (upd H l (.lst ys))) [r] (.nw (.lst ds)) := fun H0 R H xs Q s s0 rs k => by
  obtain ⟨v, rfl, h⟩ := rs.one
  obtain ⟨p, ys, rfl, h1, h2⟩ := items_of s h e sh
  exact ⟨p, ys, rfl, h1, fun l nl => new_lst s s0 nl h2 k⟩
theorem on_tuple {r : Rs} {ds : List D} (e : r.dat = .lst ds) (sh : Sharable r ds) : OpN K (fun xs H Q => ∃ p ys, xs = [.ref p] ∧ ((SqL K H p ys ∧ ∀ l, H l = none → Q (.ref l) (upd H l (.tup ys))) ∨ (SqT K H p ys ∧ Q (.ref p) H))) [r] (.sh (.tup ds)) := fun H0 R H xs Q s s0 rs k => by
  obtain ⟨v, rfl, h⟩ := rs.one
  have h3 := h.rp s
  rw [e] at h3
  obtain ⟨p, ys, rfl, h1, h2⟩ := h3.lst'
  obtain ⟨p', ys', e', h1', h2'⟩ := items_of s h (by rw [e]; rfl) sh
  cases e'
  refine ⟨p, ys, rfl, .inl ⟨SqL.of h1, fun l nl => ?_⟩⟩
  have : RpA K R ys ds := by
    rcases sh with ⟨d, rfl⟩ | hi
    · obtain rfl : d = .lst ds := e
      obtain ⟨p2, ys2, e2, h12, h22⟩ := (show Rp K R (.ref p) (.lst ds) from h).lst'
      cases e2
      have z := s.rh.k _ _ h12 trivial
      rw [h1] at z
      cases z
      exact h22
    · exact RpA.imm s.tp s.tf h2 hi
  have nr : R l = none := Sm.free s.rh nl
  exact k _ _ _ (s.step.newS nl) (Rp.tup (SqT.of upd_same) (RpA.mono ((Sm.refl R).upd nr) this))
theorem RpK.imm {R H : Hp} (t : Tp R H) (f : TpF R H) : ∀ {v : List (Key × V)} {d : List (Key × D)}, RpK K H v d → immA (d.map (·.2)) = true → RpK K R v d
  | _, _, .nil, _ => .nil
  | _, _, .cons (d := d) (ds := ds) h r, e => by
    have e : (PV.imm d && immA (ds.map (·.2))) = true := e
    obtain ⟨e1, e2⟩ := Bool.and_eq_true_iff.mp e
    exact .cons (Rp.imm t f h e1) (RpK.imm t f r e2)
theorem on_dict {r : Rs} {kds : List (Key × D)} (e : r.dat = .dK kds) (hi : immA (kds.map (·.2)) = true) : OpN K (fun xs H Q => ∃ (a : Addr) (kvs : List (Key × V)), xs = [.ref a] ∧ Rd H a (.dK kvs) ∧ ∀ p, H p = none → Q (.ref p) (upd H p (.dK kvs))) [r] (.nw (.dK kds)) := fun H0 R H xs Q s s0 rs k => by
  obtain ⟨v, rfl, h⟩ := rs.one
  have h3 := h.rp s
  rw [e] at h3
  obtain ⟨p, kvs, rfl, h1, h2⟩ := h3.dK'
  exact ⟨p, kvs, rfl, .inl h1, fun l nl => k _ R _ (s.step.new nl (fun _ z => nomatch z) fun _ _ z => nomatch z) ⟨l, rfl, nl, Own.new s nl (RpK.imm s.tp s.tf h2 hi)⟩⟩
def keyD : Key → D
  | .inl i => .int i
  | .inr x => .str x
theorem key_rp (R : Hp) : ∀ k : Key, Rp K R (kV k) (keyD k)
  | .inl i => .int i
  | .inr x => .str x
theorem RpK.keys {R R' : Hp} : ∀ {kvs : List (Key × V)} {kds : List (Key × D)}, RpK K R kvs kds → RpA K R' (kvs.map fun kv => kV kv.1) (kds.map fun kd => keyD kd.1)
  | _, _, .nil => .nil
  | _, _, .cons (k := k) h r => .cons (key_rp R' k) (RpK.keys r)
theorem on_listD {r : Rs} {kds : List (Key × D)} (e : r.dat = .dK kds) : OpN K (fun xs H Q => ∃ (a : Addr) (kvs : List (Key × V)), xs = [.ref a] ∧ Rd H a (.dK kvs) ∧ ∀ p, H p = none → Q (.ref p) (upd H p (.lst (kvs.map fun kv => kV kv.1)))) [r] (.nw (.lst (kds.map fun kd => keyD kd.1))) := fun H0 R H xs Q s s0 rs k => by
  obtain ⟨v, rfl, h⟩ := rs.one
  have h3 := h.rp s
  rw [e] at h3
  obtain ⟨p, kvs, rfl, h1, h2⟩ := h3.dK'
  exact ⟨p, kvs, rfl, .inl h1, fun l nl => new_lst s s0 nl h2.keys k⟩
theorem on_allB {bs : List Bool} {r : Rs} (e : r.dat = .lst (bs.map D.bl)) : OpN K (rAll K) [r] (.sh (.bl (bs.all id))) := fun H0 R H xs Q s s0 rs k => by
  obtain ⟨v, rfl, h⟩ := rs.one
  have h3 := h.rp s
  rw [e] at h3
  obtain ⟨p, ys, rfl, h1, h2⟩ := h3.lst'
  exact ⟨p, bs, rfl, SqL.of (by rw [← RpA.bls h2]; exact h1), k _ R H s.step (Rp.bl _)⟩
theorem on_anyB {bs : List Bool} {r : Rs} (e : r.dat = .lst (bs.map D.bl)) : OpN K (rAny K) [r] (.sh (.bl (bs.any id))) := fun H0 R H xs Q s s0 rs k => by
  obtain ⟨v, rfl, h⟩ := rs.one
  have h3 := h.rp s
  rw [e] at h3
  obtain ⟨p, ys, rfl, h1, h2⟩ := h3.lst'
  exact ⟨p, bs, rfl, SqL.of (by rw [← RpA.bls h2]; exact h1), k _ R H s.step (Rp.bl _)⟩
theorem on_sortI {ns out : List Int} {r : Rs} (e : r.dat = .lst (ns.map D.int)) (hl : ns.length < 64) (ho : ∀ ns' : List Int, ns'.Perm ns → ns'.Pairwise (· ≤ ·) → ns' = out) : OpN K (rSorted K) [r] (.nw (.lst (out.map D.int))) := fun H0 R H xs Q s s0 rs k => by
  obtain ⟨v, rfl, h⟩ := rs.one
  have h3 := h.rp s
  rw [e] at h3
  obtain ⟨p, ys, rfl, h1, h2⟩ := h3.lst'
  refine ⟨p, ns, rfl, SqL.of (by rw [← RpA.ints h2]; exact h1), hl, fun ns' l hp hs nl => ?_⟩
  rw [ho ns' hp hs]
  exact new_lst s s0 nl (RpA.of_ints _) k
theorem on_sortS {ns out : List Str} {r : Rs} (e : r.dat = .lst (ns.map D.str)) (hl : ns.length < 64) (ho : ∀ ns' : List Str, ns'.Perm ns → sortedS ns' = true → ns' = out) : OpN K (rSortedS K) [r] (.nw (.lst (out.map D.str))) := fun H0 R H xs Q s s0 rs k => by
  obtain ⟨v, rfl, h⟩ := rs.one
  have h3 := h.rp s
  rw [e] at h3
  obtain ⟨p, ys, rfl, h1, h2⟩ := h3.lst'
  refine ⟨p, ns, rfl, SqL.of (by rw [← RpA.strs h2]; exact h1), hl, fun ns' l hp hs nl => ?_⟩
  rw [ho ns' hp hs]
  exact new_lst s s0 nl (RpA.of_strs _) k
theorem on_str {i : Int} (hl : i.natAbs.log2 < 1920) : OpN K (fun xs H Q => ∃ i, xs = [.int i] ∧ i.natAbs.log2 < 1920 ∧ Q (.str (toString i)) H) [.sh (.int i)] (.sh (.str (toString i))) := fun H0 R H xs Q s _ rs k => by
  obtain ⟨v, rfl, h⟩ := rs.one
  exact ⟨i, by rw [Res.int s h rfl], hl, k _ R H s.step (Rp.str _)⟩
/-- isinstance(x, T) -/
def tyD : D → String
  | .non => "NoneType"
  | .bl _ => "bool"
  | .int _ => "int"
  | .str _ => "str"
  | .lst _ => "list"
  | .tup _ => "tuple"
  | .dK _ => "dict"
  | .scr _ => "list"
theorem tyX_of {R : Hp} {v : V} {d : D} (h : Rp K R v d) : TyX K R v (.type (tyD d)) := by
  cases h with
  | non => exact .base .non
  | bl b => exact .base (.bl b)
  | int i => exact .base (.int i)
  | str x => exact .base (.str x)
  | lst h r => exact .base (.lst h)
  | scr h =>
    rcases h with (h | ⟨o, h⟩) | ⟨o, its, n, h, hc, _⟩
    · exact .base (.lst h)
    · exact .base (.frz h)
    · exact .kList h hc
  | tup h r =>
    rcases h with (h | ⟨o, h⟩) | ⟨o, its, n, h, hc, _⟩
    · exact .base (.tup h)
    · exact .fTuple h
    · exact .kTuple h hc
  | dK h r => exact .base (.dK h)
end
/-- a built-in class, as a value -/
theorem ex_isi {X : Cx} {ρ : List Sl} {pos p pT : Pos} {e : Expr} {T : Str} {n : String} {r : Rs} {k : Bool} (hg : Gl X "isinstance") (hm : X.mg "isinstance" = none) (hgT : Gl X T) (hmT : X.mg T = none) (hvT : bootBuiltins T = some (.type n)) (hx : EX X e ρ r)
    (hk : kitB (tyD r.dat) n = some k) (hnT : T ≠ "__name__" := by decide) (hdT : (T == ("__debug__" : Str)) = false := by decide)
    (hs : starEach [e, .Name T pT] X.env = (false, eval e X.env) :: starEach [.Name T pT] X.env := by rfl) (hs2 : starEach [.Name T pT] X.env = (false, eval (.Name T pT) X.env) :: starEach [] X.env := by rfl) (hpl : (backTo pos (starEach [.Name T pT] X.env)).any (·.1) = false := by rfl) :
    EX X (.Call (.Name "isinstance" p) [e, .Name T pT] [] pos) ρ (.sh (.bl k)) := by
  refine .of (pe_callB call_isi hg hm (by decide +kernel) (pa_cons pe_sem (pa_cons (pe_bltn (v := .ty n) hgT hmT hvT rfl hnT hdT) pa_nil hs2) hs) (by decide) (by decide) hs hpl) fun B R0 R σ H Q s kk => ?_
  refine hx B R0 R σ H _ s fun v R1 H1 s1 r1 => ?_
  exact ⟨v, .ty n, _, _, k, rfl, .ty n, tyX_of (r1.rp s1.sub), hk, kk _ R1 H1 s1 (Rp.bl _)⟩
end PV

namespace PV
open PySem PySem.Spec PyProof.Rows L2
section
variable {K : PySem.W.Frag} {B R0 R R1 H H1 R' H' : Hp} {ρ ρ' : List Sl} {σ : L2.St}
theorem Step.unbase (a : Step R0 B R1 H1) (b : Step R1 B R' H') : Step R0 B R' H' :=
  ⟨a.rr.trans b.rr, b.rh, b.hh, fun x h h' => by
    cases q : R1 x with
    | none => exact b.nw x q h'
    | some o => exact a.nw x h (by rw [q]; intro z; cases z), b.tp, b.tf⟩
theorem St.base (h : St K B R0 R ρ σ H) : St K B R R ρ σ H :=
  ⟨⟨Sm.refl _, h.stp.rh, h.stp.hh, fun a e e' => absurd e e', h.stp.tp, h.stp.tf⟩, h.tb, h.len, h.fps⟩
theorem St.unbase (a : Step R0 B R1 H1) (h : St K B R1 R ρ σ H) : St K B R0 R ρ σ H := ⟨a.unbase h.stp, h.tb, h.len, h.fps⟩
theorem Ens.rebase {P : Post} {D : Ends} (a : Step R0 B R1 H1) (h : Ens K B R0 P D) : Ens K B R1 P D :=
  ⟨fun ρ' R' σ' H' p s => h.nx ρ' R' σ' H' p (s.unbase a), fun r v R' H' p s q => h.rt r v R' H' p (a.unbase s) q, fun ρ' R' σ' H' p s => h.bk ρ' R' σ' H' p (s.unbase a), fun ρ' R' σ' H' p s => h.ct ρ' R' σ' H' p (s.unbase a)⟩
end
section
variable {X : Cx} {ρ ρ' : List Sl} {pos : Pos} {a b c e o : Expr} {st : Stmt} {rest : List Stmt} {P : Post}

/-! ### blocks -/
theorem sxs_nil (h : P.nx ρ) : SXs X [] ρ P := .of pss_nil fun B R0 R σ H D s n => n.nx ρ R σ H h s
theorem sxs_cons (h : SX X st ρ ⟨fun ρ' => SXs X rest ρ' P, P.rt, P.bk, P.ct⟩) : SXs X (st :: rest) ρ P := .of (pss_cons ps_sem pss_sem) fun B R0 R σ H D s n =>
  h B R0 R σ H _ s ⟨fun ρ' R' σ' H' p s' => p B R0 R' σ' H' D s' n, n.rt, n.bk, n.ct⟩
theorem sxs_one (h : SX X st ρ P) : SXs X [st] ρ P := .of (pss_one ps_sem) fun B R0 R σ H D s n => h B R0 R σ H D s n
theorem SXs.weak {sts : List Stmt} (l : Lt ρ' ρ) (h : SXs X sts ρ' P) : SXs X sts ρ P := fun B R0 R σ H D s n => h B R0 R σ H D (s.weak l) n
theorem SXs.imp {sts : List Stmt} {P' : Post} (h : SXs X sts ρ P) (h1 : ∀ r, P.nx r → P'.nx r) (h2 : ∀ r, P.rt r → P'.rt r) (h3 : ∀ r, P.bk r → P'.bk r) (h4 : ∀ r, P.ct r → P'.ct r) : SXs X sts ρ P' := fun B R0 R σ H D s n =>
  h B R0 R σ H D s ⟨fun ρ' R' σ' H' p => n.nx ρ' R' σ' H' (h1 _ p), fun r v R' H' p => n.rt r v R' H' (h2 _ p), fun ρ' R' σ' H' p => n.bk ρ' R' σ' H' (h3 _ p), fun ρ' R' σ' H' p => n.ct ρ' R' σ' H' (h4 _ p)⟩
theorem sx_pass (h : P.nx ρ) : SX X (.Pass pos) ρ P := .of ps_pass fun B R0 R σ H D s n => n.nx ρ R σ H h s
theorem sx_break (h : P.bk ρ) : SX X (.Break pos) ρ P := .of ps_break fun B R0 R σ H D s n => n.bk ρ R σ H h s
theorem sx_cont (h : P.ct ρ) : SX X (.Continue pos) ρ P := .of ps_continue fun B R0 R σ H D s n => n.ct ρ R σ H h s
theorem sx_doc {x j p'} (h : P.nx ρ) : SX X (.Expr (.Constant (.str x) j p') pos) ρ P := .of ps_doc fun B R0 R σ H D s n => n.nx ρ R σ H h s
theorem sx_expr {r : Rs} (he : EX X e ρ r) (h : P.nx ρ) (hs : swapsWith e none pos.line X.env = pure false := by rfl) : SX X (.Expr e pos) ρ P := .of (ps_expr pe_sem hs) fun B R0 R σ H D s n =>
  he B R0 R σ H _ s fun v R' H' t _ => n.nx ρ R' σ H' h (s.step t)
theorem Ret.of {K : PySem.W.Frag} {B R0 R R' H H' : Hp} {σ : L2.St} {v : V} {r : Rs} (s : St K B R0 R ρ σ H) (t : Step R H R' H') (q : Res K H R' H' v r) : Step R0 B R' H' ∧ Res K B R' H' v r := ⟨s.stp.trans t, q.back s.stp.hh⟩
theorem sx_ret {r : Rs} (he : EX X e ρ r) (h : P.rt r) : SX X (.Return (some e) pos) ρ P := .of (ps_ret pe_sem) fun B R0 R σ H D s n =>
  he B R0 R σ H _ s fun v R' H' t q => n.rt r v R' H' h (s.stp.trans t) (q.back s.stp.hh)
/-- what is owned is handed back -/
theorem sx_retO {i : Nat} {d : D} (p : PE X e (tVar i)) (hi : ρ[i]? = some (.ow d)) (h : P.rt (.nw d)) : SX X (.Return (some e) pos) ρ P := .of (ps_ret p) fun B R0 R σ H D s n => by
  obtain ⟨v, f, e, q, rfl, _, hb, w⟩ := s.at hi
  exact ⟨.ref q, e, n.rt _ _ R H h s.stp ⟨q, rfl, hb, w⟩⟩
theorem sx_retD {i : Nat} {d : D} (p : PE X e (tVar i)) (hi : ρ[i]? = some (.od d)) (h : P.rt (.nd d)) : SX X (.Return (some e) pos) ρ P := .of (ps_ret p) fun B R0 R σ H D s n => by
  obtain ⟨v, f, e, x, rfl, w, k⟩ := s.at hi
  exact ⟨x, e, n.rt _ _ R H h s.stp ⟨f, w, k⟩⟩
theorem sx_retN (h : P.rt (.sh .non)) : SX X (.Return none pos) ρ P := .of ps_retN fun B R0 R σ H D s n => n.rt _ _ R H h s.stp (Rp.non)
theorem sx_if {k : Bool} {t u : List Stmt} (hc : TX X c ρ k) (h1 : k = true → SXs X t ρ P) (h2 : k = false → SXs X u ρ P) : SX X (.If c t u pos) ρ P := .of (ps_if pt_sem pss_sem pss_sem) fun B R0 R σ H D s n =>
  hc B R0 R σ H _ s fun R1 H1 s1 => by
    cases k with
    | true => rw [if_pos rfl]; exact h1 rfl B R0 R1 σ H1 D (s.step s1) n
    | false => rw [if_neg Bool.false_ne_true]; exact h2 rfl B R0 R1 σ H1 D (s.step s1) n
theorem sx_never (h : False) : SX X st ρ P := h.elim

/-! ### targets -/
def VOk (K : PySem.W.Frag) (R H : Hp) (v : V) : Rs → Prop
  | .sh d => Rp K R v d
  | .al d => Rp K H v d
  | .nw _ => False
  | .nd _ => False
def Gv (K : PySem.W.Frag) (g : TG) (ρ : List Sl) (r : Rs) (ρ' : List Sl) : Prop := ∀ B R0 R (σ : L2.St) H v (Q : L2.St → Hp → Prop), St K B R0 R ρ σ H → VOk K R H v r → (∀ σ', St K B R0 R ρ' σ' H → Q σ' H) → g v σ H Q
def Gvs (K : PySem.W.Frag) (g : TGs) (ρ : List Sl) (ds : List D) (ρ' : List Sl) : Prop := ∀ B R0 R (σ : L2.St) H vs (Q : L2.St → Hp → Prop), St K B R0 R ρ σ H → RpA K R vs ds → (∀ σ', St K B R0 R ρ' σ' H → Q σ' H) → g vs σ H Q
variable {K : PySem.W.Frag}
theorem VOk.res {R H : Hp} {v : V} {r : Rs} (h : VOk K R H v r) : Res K H R H v r := by
  cases r with
  | sh d => exact h
  | al d => exact h
  | nw d => exact h.elim
  | nd d => exact h.elim
theorem gv_name {i : Nat} {r : Rs} : Gv K (gName i) ρ r (ρ.set i r.sl) := fun B R0 R σ H v Q s h k => k _ (s.set s.sub.step h.res i)
theorem gvs_nil : Gvs K gNil ρ [] ρ := fun B R0 R σ H vs Q s h k => by
  cases h
  exact ⟨rfl, k σ s⟩
theorem gvs_cons {g : TG} {gs : TGs} {d : D} {ds : List D} {ρ1 ρ2 : List Sl} (h1 : Gv K g ρ (.sh d) ρ1) (h2 : Gvs K gs ρ1 ds ρ2) : Gvs K (gCons g gs) ρ (d :: ds) ρ2 := fun B R0 R σ H vs Q s h k => by
  cases h with
  | cons h r => exact ⟨_, _, rfl, h1 B R0 R σ H _ _ s h fun σ1 s1 => h2 B R0 R σ1 H _ Q s1 r k⟩
theorem gv_tup {gs : TGs} {ds : List D} {n : Nat} (h : Gvs K gs ρ ds ρ') (hn : ds.length = n := by rfl) : Gv K (gTup K n gs) ρ (.sh (.tup ds)) ρ' := fun B R0 R σ H v Q s hv k => by
  obtain ⟨p, xs, rfl, h1, h2⟩ := (show Rp K R v (.tup ds) from hv).tup'
  exact ⟨p, xs, rfl, Sm.seqT s.stp.rh h1, by rw [h2.len, hn], h B R0 R σ H xs Q s h2 k⟩

/-! ### stores -/
theorem sx_set {i : Nat} {r : Rs} {x : Str} {p' : Pos} (hN : X.N.Nodup) (hi : X.N[i]? = some x) (hx : Loc X.env.scope x) (he : EX X e ρ r) (h : P.nx (ρ.set i r.sl)) (hs : swapsWith e (some (.Name x p')) pos.line X.env = pure false := by rfl)
    (hf : X.fn x = true ∨ X.env.scope.names.lookup x = some .local := by first | exact .inl rfl | exact .inr rfl) : SX X (.Assign [.Name x p'] e pos) ρ P := .of (ps_set hN hi hx pe_sem hs hf) fun B R0 R σ H D s n =>
  he B R0 R σ H _ s fun v R' H' t q => n.nx _ R' _ H' h (s.set t q i)
theorem sx_asg {tg : Expr} {g : TG} {r : Rs} {ρ' : List Sl} (hg : PG X tg g) (he : EX X e ρ r) (hr : ∀ d, r ≠ .nw d ∧ r ≠ .nd d) (gv : Gv X.K g ρ r ρ') (h : P.nx ρ') (hs : swapsWithSole [tg] e pos.line X.env = pure false := by rfl) (hw : swappedStores [tg] e X.env = pure none := by rfl)
    (h1 : (assignEach [tg] X.env).map (·.2) = [assign tg X.env] := by rfl) : SX X (.Assign [tg] e pos) ρ P := .of (ps_asg pe_sem hg hs hw h1) fun B R0 R σ H D s n =>
  he B R0 R σ H _ s fun v R' H' t q => gv B R0 R' σ H' v _ (s.step t) (by
    cases r with
    | sh d => exact q
    | al d => exact q
    | nw d => exact absurd rfl (hr d).1
    | nd d => exact absurd rfl (hr d).2) fun σ' s' => n.nx _ R' σ' H' h s'
theorem sx_augI {i : Nat} {x : Str} {m k : Int} {p' : Pos} (hN : X.N.Nodup) (hi : X.N[i]? = some x) (hx : Loc X.env.scope x) (hv : ρ[i]? = some (.sh (.int m))) (he : EX X e ρ (.sh (.int k))) (h : P.nx (ρ.set i (.sh (.int (m + k)))))
    (hf : X.fn x = true ∨ X.env.scope.names.lookup x = some .local := by first | exact .inl rfl | exact .inr rfl) : SX X (.AugAssign (.Name x p') .Add e pos) ρ P := .of (ps_aug hN hi hx pe_sem ip_add hf) fun B R0 R σ H D s n => by
  obtain ⟨v, f, ev, _, y, rfl, ry⟩ := s.at hv
  cases is_int _ _ ry
  refine ⟨.int m, ev, he B R0 R σ H _ s fun w R' H' t q => ⟨m, k, rfl, Res.int t.sub q rfl, ?_⟩⟩
  exact n.nx _ R' _ H' h (s.set t (r := .sh (.int (m + k))) (Rp.int _) i)

/-! ### what is owned is changed -/
theorem St.wr {K : PySem.W.Frag} {B R0 R H R' H' : Hp} {σ : L2.St} (s : St K B R0 R ρ σ H) {i : Nat} {d d' : D} {p : Addr} {u : HO} (e : ρ[i]? = some (.ow d)) (ep : σ[i]? = some (some (.ref p))) (t : Step R H R' H') (ho : ObjD K R' u d') :
    St K B R0 R' ((dr ρ).set i (.ow d')) σ (upd H' p u) := (s.step t).write e ep ho
theorem St.own {K : PySem.W.Frag} {B R0 R H : Hp} {σ : L2.St} (s : St K B R0 R ρ σ H) {i : Nat} {ds : List D} (e : ρ[i]? = some (.ow (.lst ds))) : ∃ p xs, σ[i]? = some (some (.ref p)) ∧ H p = some (.lst xs) ∧ RpA K R xs ds := by
  obtain ⟨v, f, ev, p, rfl, _, hb, hr, u, hu, od⟩ := s.at e
  cases u <;> first | exact od.elim | skip
  exact ⟨p, _, ev, hu, od⟩
theorem St.ownK {K : PySem.W.Frag} {B R0 R H : Hp} {σ : L2.St} (s : St K B R0 R ρ σ H) {i : Nat} {kds : List (Key × D)} (e : ρ[i]? = some (.ow (.dK kds))) : ∃ p kvs, σ[i]? = some (some (.ref p)) ∧ H p = some (.dK kvs) ∧ RpK K R kvs kds := by
  obtain ⟨v, f, ev, p, rfl, _, hb, hr, u, hu, od⟩ := s.at e
  cases u <;> first | exact od.elim | skip
  exact ⟨p, _, ev, hu, od⟩
theorem sx_app {i : Nat} {ds : List D} {d : D} {apos cpos : Pos} (po : PE X o (tVar i)) (hi : ρ[i]? = some (.ow (.lst ds))) (he : EX X e ρ (.sh d)) (hl : ds.length < sizeLine) (h : P.nx ((dr ρ).set i (.ow (.lst (ds ++ [d])))))
    (hbase : attributeBase o "append" X.env (eval o X.env) = eval o X.env := by rfl)
    (hfew : ((backTo cpos (starEach [e] X.env)).all (fun x => !x.1) && (backToKw cpos (keywordEach [] X.env)).all (fun x => x.1.isSome)
      && decide (([e] : List Expr).length + ([] : List Keyword).length + (if ([] : List Keyword).isEmpty then 0 else 1) < 30)) = true := by rfl)
    (hline : (apos.endLine == cpos.line) = true := by rfl) (hst : starEach [e] X.env = (false, eval e X.env) :: starEach [] X.env := by rfl) (hplain : (backTo cpos (starEach [] X.env)).any (·.1) = false := by rfl)
    (hs : swapsWith (.Call (.Attribute o "append" apos) [e] [] cpos) none pos.line X.env = pure false := by rfl) : SX X (.Expr (.Call (.Attribute o "append" apos) [e] [] cpos) pos) ρ P :=
  .of (ps_expr (pe_bm PySem.F.plainAttrs_list PySem.F.slot_list_append PySem.F.type_list_append mt_append po (pa_cons pe_sem pa_nil hst) hbase hfew hline hst hplain) hs) fun B R0 R σ H D s n => by
    obtain ⟨p, xs, ep, hp, hx⟩ := s.own hi
    refine ⟨.ref p, ep, .inl ⟨rfl, xs, SqL.of hp⟩, he B R0 R σ H _ s fun v R' H' t q => ?_⟩
    have hp' := t.hh.k _ _ hp trivial
    exact ⟨p, xs, v, rfl, rfl, hp', by rw [hx.len]; exact hl, n.nx _ R' _ _ h (s.wr hi ep t (show RpA X.K R' (xs ++ [v]) (ds ++ [d]) from (RpA.mono t.rr hx).app (.cons q .nil)))⟩
/-- d[k] = v of a dict of its own -/
theorem RpK.has {K : PySem.W.Frag} {R : Hp} (k : Key) : ∀ {kvs : List (Key × V)} {kds : List (Key × D)}, RpK K R kvs kds → (kvs.any fun kv => decide (kv.1 = k)) = (kds.any fun kd => decide (kd.1 = k))
  | _, _, .nil => rfl
  | _, _, .cons h r => by rw [List.any_cons, List.any_cons, RpK.has k r]
/-- a dict's pairs behind d[k] = v -/
def putD (kds : List (Key × D)) (k : Key) (d : D) : List (Key × D) :=
  if (kds.any fun kd => decide (kd.1 = k)) = true then kds.map (fun kd => if kd.1 = k then (kd.1, d) else kd) else kds ++ [(k, d)]
def getD (kds : List (Key × D)) (k : Key) : Option D := (kds.find? fun kd => decide (kd.1 = k)).map (·.2)
theorem RpK.app {K : PySem.W.Frag} {R : Hp} : ∀ {kvs us : List (Key × V)} {kds es : List (Key × D)}, RpK K R kvs kds → RpK K R us es → RpK K R (kvs ++ us) (kds ++ es)
  | _, _, _, _, .nil, s => s
  | _, _, _, _, .cons h r, s => .cons h (RpK.app r s)
theorem RpK.put {K : PySem.W.Frag} {R : Hp} {k : Key} {v : V} {d : D} (hd : Rp K R v d) {kvs : List (Key × V)} {kds : List (Key × D)} (h : RpK K R kvs kds) : RpK K R (putK kvs k v) (putD kds k d) := by
  have mp : ∀ {kvs : List (Key × V)} {kds : List (Key × D)}, RpK K R kvs kds → RpK K R (kvs.map (fun kv => if kv.1 = k then (kv.1, v) else kv)) (kds.map (fun kd => if kd.1 = k then (kd.1, d) else kd)) := by
    intro kvs kds h
    induction kvs generalizing kds with
    | nil => cases h; exact .nil
    | cons kv r ih =>
      cases h with
      | @cons k' v' vs d' ds h t =>
        rw [List.map_cons, List.map_cons]
        by_cases z : k' = k
        · rw [if_pos z, if_pos z]; exact .cons hd (ih t)
        · rw [if_neg z, if_neg z]; exact .cons h (ih t)
  unfold putK putD
  rw [h.has k]
  split
  · exact mp h
  · exact h.app (.cons hd .nil)
theorem RpK.get {K : PySem.W.Frag} {R : Hp} (k : Key) : ∀ {kvs : List (Key × V)} {kds : List (Key × D)}, RpK K R kvs kds → (valV kvs k = none ∧ getD kds k = none) ∨ ∃ v d, valV kvs k = some v ∧ getD kds k = some d ∧ Rp K R v d
  | _, _, .nil => .inl ⟨rfl, rfl⟩
  | _, _, .cons (k := k') (v := v) (d := d) h r => by
    by_cases z : k' = k
    · refine .inr ⟨v, d, ?_, ?_, h⟩
      · exact valV_pos (p := (k', v)) z
      · simp [getD, List.find?_cons, z]
    · have e1 : ∀ {vs}, valV ((k', v) :: vs) k = valV vs k := fun {vs} => by simp [valV, List.find?_cons, z]
      have e2 : ∀ {ds}, getD ((k', d) :: ds) k = getD ds k := fun {ds} => by simp [getD, List.find?_cons, z]
      rw [e1, e2]
      exact RpK.get k r
theorem sx_dput {i : Nat} {ix val : Expr} {kds : List (Key × D)} {k : Key} {d : D} {p' : Pos} (hu : X.A.units + 1 < cLine) (po : PE X o (tVar i)) (hi : ρ[i]? = some (.ow (.dK kds))) (hv : EX X val ρ (.sh d)) (hk : EX X ix ρ (.sh (keyD k))) (hl : kds.length < sizeLine) (h : P.nx ((dr ρ).set i (.ow (.dK (putD kds k d)))))
    (hs : swapsWith val (some (.Subscript o ix p')) pos.line X.env = pure false := by rfl) : SX X (.Assign [.Subscript o ix p'] val pos) ρ P := .of (ps_dput hu po pe_sem pe_sem hs) fun B R0 R σ H D s n => by
  refine hv B R0 R σ H _ s fun v R1 H1 t1 q1 => ?_
  have s1 := s.step t1
  obtain ⟨p, kvs, ep, hp, hx⟩ := s1.ownK hi
  refine ⟨.ref p, ep, hk B R0 R1 σ H1 _ s1 fun y R2 H2 t2 q2 => ?_⟩
  have ey : y = kV k := by
    cases k with
    | inl i => exact is_int _ _ q2
    | inr x => exact is_str _ _ q2
  have hp2 := t2.hh.k _ _ hp trivial
  have hx2 := RpK.mono t2.rr hx
  refine ⟨p, upd H2 p (.dK (putK kvs k v)), rfl, by rw [ey]; exact DPut.k hp2 (by rw [hx.len]; exact hl), ?_⟩
  exact n.nx _ R2 _ _ h (s1.wr hi ep t2 (show RpK X.K R2 _ _ from hx2.put (Rp.mono t2.rr q1)))
end
end PV

namespace PV
open PySem PySem.Spec PyProof.Rows L2
section
variable {X : Cx} {ρ ρ' : List Sl} {pos : Pos} {a b c e o : Expr} {st : Stmt} {P : Post}

/-! ### d.get(k, x), d[k], k in d -/
theorem dk_of {K : PySem.W.Frag} {H0 R H : Hp} {v : V} {r : Rs} {kds : List (Key × D)} (s : Sub R H) (h : Res K H0 R H v r) (e : r.dat = .dK kds) : ∃ a kvs, v = .ref a ∧ H a = some (.dK kvs) ∧ RpK K H kvs kds := by
  have h3 := h.rp s
  rw [e] at h3
  exact h3.dK'
theorem keyV {K : PySem.W.Frag} {R : Hp} {y : V} {k : Key} (h : Rp K R y (keyD k)) : y = kV k := by
  cases k with
  | inl i => exact is_int _ _ h
  | inr x => exact is_str _ _ h
theorem ex_dget2 {r : Rs} {kds : List (Key × D)} {k : Key} {d : D} {f : Expr} {apos cpos : Pos} (hu : X.A.units + 1 < cLine) (ho : EX X o ρ r) (e1 : r.dat = .dK kds) (hk : EX X e ρ (.sh (keyD k))) (hf : EX X f ρ (.sh d)) (hi : imm ((getD kds k).getD d) = true) (m : M2 X o "get" apos e f cpos) :
    EX X (.Call (.Attribute o "get" apos) [e, f] [] cpos) ρ (.sh ((getD kds k).getD d)) := .of (pe_dget2 hu pe_sem pe_sem pe_sem m) fun B R0 R σ H Q s kk => by
  refine ho B R0 R σ H _ s fun x R1 H1 t1 q1 => ?_
  obtain ⟨p, kvs, rfl, hp, hx⟩ := dk_of t1.sub q1 e1
  refine ⟨p, rfl, .inl ⟨kvs, .inl hp⟩, hk B R0 R1 σ H1 _ (s.step t1) fun y R2 H2 t2 q2 => hf B R0 R2 σ H2 _ ((s.step t1).step t2) fun z R3 H3 t3 q3 => ?_⟩
  have hp3 := (t2.trans t3).hh.k _ _ hp trivial
  obtain rfl := keyV q2
  refine ⟨valV kvs k, DGet.k hp3, kk _ R3 H3 ((t1.trans t2).trans t3) ?_⟩
  rcases hx.get k with ⟨h1, h2⟩ | ⟨v, d', h1, h2, h3⟩
  · rw [h1, h2]; exact q3
  · rw [h2] at hi
    rw [h1, h2]
    exact Rp.imm t3.tp t3.tf (Rp.mono (t2.trans t3).hh h3) hi
theorem ex_dget {r : Rs} {kds : List (Key × D)} {k : Key} {d : D} (hu : X.A.units + 1 < cLine) (ho : EX X o ρ r) (e1 : r.dat = .dK kds) (hk : EX X e ρ (.sh (keyD k))) (hg : getD kds k = some d) (hi : imm d = true) (hs : NoSl e := by exact fun _ _ => rfl) :
    EX X (.Subscript o e pos) ρ (.sh d) := .of (pe_dget hu pe_sem pe_sem hs) fun B R0 R σ H Q s kk => by
  refine ho B R0 R σ H _ s fun x R1 H1 t1 q1 => hk B R0 R1 σ H1 _ (s.step t1) fun y R2 H2 t2 q2 => ?_
  obtain ⟨p, kvs, rfl, hp, hx⟩ := dk_of t1.sub q1 e1
  obtain rfl := keyV q2
  have hp2 := t2.hh.k _ _ hp trivial
  rcases hx.get k with ⟨h1, h2⟩ | ⟨v, d', h1, h2, h3⟩
  · rw [h2] at hg; cases hg
  · rw [h2] at hg; cases hg
    exact ⟨p, v, rfl, by rw [← h1]; exact DGet.k hp2, kk _ R2 H2 (t1.trans t2) (Rp.imm t2.tp t2.tf (Rp.mono t2.hh h3) hi)⟩
theorem RpK.some {K : PySem.W.Frag} {R : Hp} {kvs : List (Key × V)} {kds : List (Key × D)} (h : RpK K R kvs kds) (k : Key) : (valV kvs k).isSome = (getD kds k).isSome := by
  rcases h.get k with ⟨h1, h2⟩ | ⟨v, d', h1, h2, h3⟩
  · rw [h1, h2]; rfl
  · rw [h1, h2]; rfl
theorem Ev.din {K : PySem.W.Frag} {ty td : TE} {r : Rs} {kds : List (Key × D)} {k : Key} (hk : Ev K ty ρ (.sh (keyD k))) (ho : Ev K td ρ r) (e1 : r.dat = .dK kds) : Ev K (tDIn ty td) ρ (.sh (.bl (getD kds k).isSome)) := fun B R0 R σ H Q s kk => by
  refine hk B R0 R σ H _ s fun y R1 H1 t1 q1 => ho B R0 R1 σ H1 _ (s.step t1) fun x R2 H2 t2 q2 => ?_
  obtain ⟨p, kvs, rfl, hp, hx⟩ := dk_of t2.sub q2 e1
  obtain rfl := keyV q1
  exact ⟨p, _, rfl, DGet.k hp, kk _ R2 H2 (t1.trans t2) (by rw [hx.some k]; exact Rp.bl _)⟩
theorem Ev.dnotin {K : PySem.W.Frag} {ty td : TE} {r : Rs} {kds : List (Key × D)} {k : Key} (hk : Ev K ty ρ (.sh (keyD k))) (ho : Ev K td ρ r) (e1 : r.dat = .dK kds) : Ev K (tDNotIn ty td) ρ (.sh (.bl (!(getD kds k).isSome))) := fun B R0 R σ H Q s kk => by
  refine hk B R0 R σ H _ s fun y R1 H1 t1 q1 => ho B R0 R1 σ H1 _ (s.step t1) fun x R2 H2 t2 q2 => ?_
  obtain ⟨p, kvs, rfl, hp, hx⟩ := dk_of t2.sub q2 e1
  obtain rfl := keyV q1
  exact ⟨p, _, rfl, DGet.k hp, kk _ R2 H2 (t1.trans t2) (by rw [hx.some k]; exact Rp.bl _)⟩
theorem Tv.of_evB {K} {t : TE} {k : Bool} (h : Ev K t ρ (.sh (.bl k))) : Tv K (tB t) ρ k := fun B R0 R σ H Q s kk => h B R0 R σ H _ s fun v R' H' st hr => ⟨k, Res.bl st.sub hr rfl, kk R' H' st⟩
theorem ex_din {r : Rs} {kds : List (Key × D)} {k : Key} (hu : X.A.units + 1 < cLine) (hk : EX X e ρ (.sh (keyD k))) (ho : EX X o ρ r) (e1 : r.dat = .dK kds) (hm : behindInMarks .In o = false := by rfl) : EX X (.Compare e [.In] [o] pos) ρ (.sh (.bl (getD kds k).isSome)) := .of (pe_cmp (pc_din hu pe_sem pe_sem) hm) (Ev.din hk ho e1)
theorem tx_din {r : Rs} {kds : List (Key × D)} {k : Key} (hu : X.A.units + 1 < cLine) (hk : EX X e ρ (.sh (keyD k))) (ho : EX X o ρ r) (e1 : r.dat = .dK kds) (hm : behindInMarks .In o = false := by rfl) : TX X (.Compare e [.In] [o] pos) ρ (getD kds k).isSome := .of (pt_cmp (pc_din hu pe_sem pe_sem) hm) (Tv.of_evB (Ev.din hk ho e1))
theorem tx_dnotin {r : Rs} {kds : List (Key × D)} {k : Key} (hu : X.A.units + 1 < cLine) (hk : EX X e ρ (.sh (keyD k))) (ho : EX X o ρ r) (e1 : r.dat = .dK kds) (hm : behindInMarks .NotIn o = false := by rfl) : TX X (.Compare e [.NotIn] [o] pos) ρ (!(getD kds k).isSome) := .of (pt_cmp (pc_dnotin hu pe_sem pe_sem) hm) (Tv.of_evB (Ev.dnotin hk ho e1))

/-! ### slices, join -/
def Pv (K : PySem.W.Frag) (t : TO) (ρ : List Sl) (x : Option Int) : Prop := ∀ B R0 R (σ : L2.St) H (Q : Option Int → Hp → Prop), St K B R0 R ρ σ H → (∀ R' H', Step R H R' H' → Q x H') → t σ H Q
structure OX (X : Cx) (e : Option Expr) (ρ : List Sl) (x : Option Int) : Prop where
  ex : ∃ t, PO X e t ∧ Pv X.K t ρ x
theorem ox_none : OX X none ρ none := ⟨_, po_none, fun B R0 R σ H Q s k => k R H s.sub.step⟩
theorem ox_some {i : Int} (h : EX X e ρ (.sh (.int i))) : OX X (some e) ρ (some i) := ⟨_, po_some pe_sem, fun B R0 R σ H Q s k => h B R0 R σ H _ s fun v R' H' t q => ⟨i, Res.int t.sub q rfl, k R' H' t⟩⟩
theorem Ev.slice {K : PySem.W.Frag} {r : V → Option Int → Option Int → Hp → VK → Prop} {te : TE} {tl th : TO} {ra rc : Rs} {l u : Option Int} (he : Ev K te ρ ra) (hl : Pv K tl ρ l) (hh : Pv K th ρ u)
    (op : ∀ (H0 R H : Hp) (x : V) (Q : VK), Sub R H → Sm H0 H → Res K H0 R H x ra → (∀ v R' H', Step R H R' H' → Res K H R' H' v rc → Q v H') → r x l u H Q) : Ev K (tSl r te tl th) ρ rc := fun B R0 R σ H Q s k =>
  he B R0 R σ H _ s fun x R1 H1 t1 q1 => hl B R0 R1 σ H1 _ (s.step t1) fun R2 H2 t2 => hh B R0 R2 σ H2 _ ((s.step t1).step t2) fun R3 H3 t3 =>
    have t := (t1.trans t2).trans t3
    op H R3 H3 x Q t3.sub t.hh (q1.step (t2.trans t3)) fun v R4 H4 t4 q4 => k v R4 H4 (t.trans t4) (q4.back t.hh)
def cutD (ds : List D) (lo hi : Option Int) : List D := (ds.drop (HT.sIx ds.length 0 lo)).take (HT.sIx ds.length ds.length hi - HT.sIx ds.length 0 lo)
theorem RpA.cut {K : PySem.W.Frag} {R : Hp} {vs : List V} {ds : List D} (h : RpA K R vs ds) (lo hi : Option Int) : RpA K R (cutV vs lo hi) (cutD ds lo hi) := by
  unfold cutV cutD
  rw [h.len]
  exact (h.drop _).take _
theorem items_ofL {K : PySem.W.Frag} {H0 R H : Hp} {v : V} {r : Rs} {ds : List D} (s : Sub R H) (h : Res K H0 R H v r) (e : r.dat = .lst ds) (sh : Sharable r ds) : ∃ a xs, v = .ref a ∧ H a = some (.lst xs) ∧ RpA K R xs ds := by
  rcases sh with ⟨d, rfl⟩ | hi
  · obtain rfl : d = .lst ds := e
    obtain ⟨a, xs, rfl, h1, h2⟩ := (show Rp K R v (.lst ds) from h).lst'
    exact ⟨a, xs, rfl, s.rh.k _ _ h1 trivial, h2⟩
  · have h3 := h.rp s
    rw [e] at h3
    obtain ⟨a, xs, rfl, h1, h2⟩ := h3.lst'
    exact ⟨a, xs, rfl, h1, RpA.imm s.tp s.tf h2 hi⟩
theorem ex_slL {r : Rs} {ds : List D} {lo hi : Option Expr} {l u : Option Int} {p2 : Pos} (he : EX X e ρ r) (e1 : r.dat = .lst ds) (sh : Sharable r ds) (hl : OX X lo ρ l) (hh : OX X hi ρ u) : EX X (.Subscript e (.Slice lo hi none p2) pos) ρ (.nw (.lst (cutD ds l u))) := by
  obtain ⟨tl, pl, vl⟩ := hl.ex
  obtain ⟨th, ph, vh⟩ := hh.ex
  refine .of (pe_slice sl_list pe_sem pl ph) (Ev.slice he vl vh fun H0 R H x Q s s0 q k => ?_)
  obtain ⟨p, ys, rfl, h1, h2⟩ := items_ofL s q e1 sh
  exact ⟨p, ys, rfl, SqL.of h1, fun l nl => new_lst s s0 nl (h2.cut _ _) k⟩
theorem ex_slS {z : Str} {lo hi : Option Expr} {l u : Option Int} {p2 : Pos} (he : EX X e ρ (.sh (.str z))) (hz : z.length ≤ sizeLine) (hl : OX X lo ρ l) (hh : OX X hi ρ u) : EX X (.Subscript e (.Slice lo hi none p2) pos) ρ (.sh (.str (cutS z l u))) := by
  obtain ⟨tl, pl, vl⟩ := hl.ex
  obtain ⟨th, ph, vh⟩ := hh.ex
  exact .of (pe_slice sl_str pe_sem pl ph) (Ev.slice he vl vh fun H0 R H x Q s s0 q k => ⟨z, Res.str s q rfl, hz, k _ R H s.step (Rp.str _)⟩)
/-- sep.join(list of texts) -/
theorem ex_join {z : Str} {ys : List Str} {r : Rs} {apos cpos : Pos} (ho : EX X o ρ (.sh (.str z))) (he : EX X e ρ r) (e1 : sq r.dat = some (ys.map D.str)) (hl : (ys.map (·.length)).sum + ys.length * z.length ≤ 16777216)
    (hs : starEach [e] X.env = [(false, eval e X.env)] := by rfl) (hbase : attributeBase o "join" X.env (eval o X.env) = eval o X.env := by rfl) (hline : (apos.endLine == cpos.line) = true := by rfl) :
    EX X (.Call (.Attribute o "join" apos) [e] [] cpos) ρ (.sh (.str (Txt.join z ys))) := .of (pe_join pe_sem pe_sem hs hbase hline) fun B R0 R σ H Q s kk => by
  refine ho B R0 R σ H _ s fun x R1 H1 t1 q1 => ⟨⟨z, Res.str t1.sub q1 rfl⟩, he B R0 R1 σ H1 _ (s.step t1) fun y R2 H2 t2 q2 => ?_⟩
  obtain ⟨p, xs, rfl, h1, h2⟩ := sq_of (q2.rp t2.sub) e1
  obtain rfl := RpA.strs h2
  exact ⟨z, p, ys, Res.str t1.sub q1 rfl, rfl, h1, hl, kk _ R2 H2 (t1.trans t2) (Rp.str _)⟩

/-! ### == of data -/
mutual
def toPy : D → PyData
  | .non => .none
  | .bl b => .bool b
  | .int i => .int i
  | .str x => .str x
  | .lst ds => .list (toPyA ds)
  | .tup ds => .tuple (toPyA ds)
  | .dK _ => .none
  | .scr ns => .list (ns.map PyData.int)
def toPyA : List D → List PyData
  | [] => []
  | d :: ds => toPy d :: toPyA ds
end
mutual
/-- no dict within -/
def noD : D → Bool
  | .lst ds => noDA ds
  | .tup ds => noDA ds
  | .dK _ => false
  | _ => true
def noDA : List D → Bool
  | [] => true
  | d :: ds => noD d && noDA ds
end
mutual
theorem Rp.dp {K : PySem.W.Frag} {H : Hp} : ∀ {v : V} {d : D}, Rp K H v d → noD d = true → Dp K H v (toPy d)
  | _, _, .non, _ => .non
  | _, _, .bl b, _ => .bl b
  | _, _, .int i, _ => .int i
  | _, _, .str x, _ => .str x
  | _, _, .lst h r, e => .lst (SqL.of h) (RpA.dp r e)
  | _, _, .scr (ns := ns) h, _ => .lst h (by
      show DpAll K H (ns.map V.int) (ns.map PyData.int)
      clear h
      induction ns with
      | nil => exact .nil
      | cons n ns ih => exact .cons (.int n) (ih rfl))
  | _, _, .tup h r, e => .tup h (RpA.dp r e)
  | _, _, .dK h r, e => nomatch e
theorem RpA.dp {K : PySem.W.Frag} {H : Hp} : ∀ {v : List V} {d : List D}, RpA K H v d → noDA d = true → DpAll K H v (toPyA d)
  | _, _, .nil, _ => .nil
  | _, _, .cons (d := d) (ds := ds) h r, e => by
    have e : (noD d && noDA ds) = true := e
    obtain ⟨e1, e2⟩ := Bool.and_eq_true_iff.mp e
    exact .cons (Rp.dp h e1) (RpA.dp r e2)
end
def okD (d : D) : Bool := noD d && SeqAt.shaped (toPy d)
theorem o2_eqD {K : PySem.W.Frag} {ra rb : Rs} (ha : okD ra.dat = true) (hb : okD rb.dat = true) : Op2 K (rEqD K) ra rb (.sh (.bl (PyData.eqv (toPy ra.dat) (toPy rb.dat)))) := fun H0 R H x y Q s _ rx ry k => by
  obtain ⟨a1, a2⟩ := Bool.and_eq_true_iff.mp ha
  obtain ⟨b1, b2⟩ := Bool.and_eq_true_iff.mp hb
  exact ⟨_, _, (rx.rp s).dp a1, (ry.rp s).dp b1, a2, b2, k _ R H s.step (Rp.bl _)⟩
theorem o2_neD {K : PySem.W.Frag} {ra rb : Rs} (ha : okD ra.dat = true) (hb : okD rb.dat = true) : Op2 K (rNeD K) ra rb (.sh (.bl (!PyData.eqv (toPy ra.dat) (toPy rb.dat)))) := fun H0 R H x y Q s _ rx ry k => by
  obtain ⟨a1, a2⟩ := Bool.and_eq_true_iff.mp ha
  obtain ⟨b1, b2⟩ := Bool.and_eq_true_iff.mp hb
  exact ⟨_, _, (rx.rp s).dp a1, (ry.rp s).dp b1, a2, b2, k _ R H s.step (Rp.bl _)⟩
theorem ex_eqD {ra rb : Rs} (hu : X.A.units + 64 < cLine) (h1 : EX X a ρ ra) (h2 : EX X b ρ rb) (ha : okD ra.dat = true) (hb : okD rb.dat = true) : EX X (.Compare a [.Eq] [b] pos) ρ (.sh (.bl (PyData.eqv (toPy ra.dat) (toPy rb.dat)))) := ex_cmp (op_eqD hu) (o2_eqD ha hb) h1 h2 (nomark _)
theorem tx_eqD {ra rb : Rs} (hu : X.A.units + 64 < cLine) (h1 : EX X a ρ ra) (h2 : EX X b ρ rb) (ha : okD ra.dat = true) (hb : okD rb.dat = true) : TX X (.Compare a [.Eq] [b] pos) ρ (PyData.eqv (toPy ra.dat) (toPy rb.dat)) := tx_cmp (op_eqD hu) (o2_eqD ha hb) h1 h2 (nomark _)
theorem ex_neD {ra rb : Rs} (hu : X.A.units + 64 < cLine) (h1 : EX X a ρ ra) (h2 : EX X b ρ rb) (ha : okD ra.dat = true) (hb : okD rb.dat = true) : EX X (.Compare a [.NotEq] [b] pos) ρ (.sh (.bl (!PyData.eqv (toPy ra.dat) (toPy rb.dat)))) := ex_cmp (op_neD hu) (o2_neD ha hb) h1 h2 (nomark _)
theorem tx_neD {ra rb : Rs} (hu : X.A.units + 64 < cLine) (h1 : EX X a ρ ra) (h2 : EX X b ρ rb) (ha : okD ra.dat = true) (hb : okD rb.dat = true) : TX X (.Compare a [.NotEq] [b] pos) ρ (!PyData.eqv (toPy ra.dat) (toPy rb.dat)) := tx_cmp (op_neD hu) (o2_neD ha hb) h1 h2 (nomark _)

/-! ### xs + ys -/
theorem ex_cat {ra rb : Rs} {ds es : List D} (h1 : EX X a ρ ra) (h2 : EX X b ρ rb) (e1 : ra.dat = .lst ds) (e2 : rb.dat = .lst es) (s1 : Sharable ra ds) (s2 : Sharable rb es) (hl : ds.length + es.length ≤ sizeLine) : EX X (.BinOp a .Add b pos) ρ (.nw (.lst (ds ++ es))) :=
  ex_bin op_cat (fun H0 R H x y Q s s0 rx ry k => by
    obtain ⟨p, ys, rfl, h1, h2⟩ := items_ofL s rx e1 s1
    obtain ⟨q, zs, rfl, h3, h4⟩ := items_ofL s ry e2 s2
    exact ⟨p, q, ys, zs, rfl, rfl, h1, h3, by rw [h2.len, h4.len]; exact hl, fun l nl => new_lst s s0 nl (h2.app h4) k⟩) h1 h2
end
end PV

namespace PV
open PySem PySem.Spec PyProof.Rows L2
section
variable {X : Cx} {ρ ρ' : List Sl} {pos : Pos} {a b c e o : Expr} {st : Stmt} {P : Post} {body : List Stmt}

/-! ### for -/
/-- the loop's own post: W behind a turn -/
def turnP (P : Post) (W : List Sl → Prop) : Post := ⟨W, P.rt, P.nx, W⟩
/-- over a shared list -/
theorem sx_for {tg iter : Expr} {g : TG} {ds : List D} (W : Nat → List Sl → Prop) (hp : PassesOwn (model X.prog X.w) X.A X.env X.xe) (hc : X.calm = true) (hi : EX X iter ρ (.sh (.lst ds))) (hg : PG X tg g) (h0 : W 0 ρ)
    (hs : ∀ i d ρ1, ds[i]? = some d → W i ρ1 → ∃ ρ2, Gv X.K g ρ1 (.sh d) ρ2 ∧ SXs X body ρ2 (turnP P (W (i + 1)))) (hd : ∀ ρ1, W ds.length ρ1 → P.nx ρ1)
    (hf : ∀ x, foldedSetIterable iter X.env x = pure x := by intro _; rfl) : SX X (.For tg iter body [] pos) ρ P := .of (ps_for hp hc (pi_list pe_sem) hg pss_sem hf) fun B R0 R σ H D s n => by
  refine hi B R0 R σ H _ s fun v R1 H1 t1 q1 => ?_
  obtain ⟨p, xs, rfl, hx, hr⟩ := (show Rp X.K R1 v (.lst ds) from q1).lst'
  have s1 := s.step t1
  have n1 : Ens X.K B R1 P D := n.rebase s1.stp
  refine ⟨p, rfl, ⟨xs, SqL.of (t1.rh.k _ _ hx trivial)⟩, ?_⟩
  refine for_list (xs := xs) (fun i σ H => ∃ R' ρ1, W i ρ1 ∧ St X.K B R1 R' ρ1 σ H) ⟨R1, ρ, h0, s1.base⟩ (fun i σ H _ ⟨R', ρ1, w, s'⟩ => SqL.of (s'.stp.rh.k _ _ (s'.stp.rr.k _ _ hx trivial) trivial)) (fun i x σ2 H2 hx2 ⟨R', ρ1, w, s'⟩ => ?_) (fun σ H ⟨R', ρ1, w, s'⟩ => n1.nx ρ1 R' σ H (hd ρ1 (by rw [← hr.len]; exact w)) s')
  obtain ⟨d, hd1, hd2⟩ := hr.get' hx2
  obtain ⟨ρ2, gv, sb⟩ := hs i d ρ1 hd1 w
  refine gv B R1 R' σ2 H2 x _ s' (Rp.mono s'.stp.rr hd2) fun σ3 s3 => sb B R1 R' σ3 H2 _ s3 ⟨?_, ?_, ?_, ?_⟩
  · exact fun ρ' R' σ' H' w' s' => ⟨R', ρ', w', s'⟩
  · exact fun r v R' H' p t q => n1.rt r v R' H' p t q
  · exact fun ρ' R' σ' H' p s' => n1.nx ρ' R' σ' H' p s'
  · exact fun ρ' R' σ' H' w' s' => ⟨R', ρ', w', s'⟩
/-- over a shared tuple -/
theorem sx_forT {tg iter : Expr} {g : TG} {ds : List D} (W : Nat → List Sl → Prop) (hp : PassesOwn (model X.prog X.w) X.A X.env X.xe) (hc : X.calm = true) (hi : EX X iter ρ (.sh (.tup ds))) (hg : PG X tg g) (h0 : W 0 ρ)
    (hs : ∀ i d ρ1, ds[i]? = some d → W i ρ1 → ∃ ρ2, Gv X.K g ρ1 (.sh d) ρ2 ∧ SXs X body ρ2 (turnP P (W (i + 1)))) (hd : ∀ ρ1, W ds.length ρ1 → P.nx ρ1)
    (hf : ∀ x, foldedSetIterable iter X.env x = pure x := by intro _; rfl) : SX X (.For tg iter body [] pos) ρ P := .of (ps_for hp hc (pi_tup pe_sem) hg pss_sem hf) fun B R0 R σ H D s n => by
  refine hi B R0 R σ H _ s fun v R1 H1 t1 q1 => ?_
  obtain ⟨p, xs, rfl, hx, hr⟩ := (show Rp X.K R1 v (.tup ds) from q1).tup'
  have s1 := s.step t1
  have n1 : Ens X.K B R1 P D := n.rebase s1.stp
  refine ⟨p, rfl, ⟨xs, Sm.seqT t1.rh hx⟩, ?_⟩
  refine for_tup (xs := xs) (fun i σ H => ∃ R' ρ1, W i ρ1 ∧ St X.K B R1 R' ρ1 σ H) ⟨R1, ρ, h0, s1.base⟩ (fun i σ H _ ⟨R', ρ1, w, s'⟩ => Sm.seqT s'.stp.rh (Sm.seqT s'.stp.rr hx)) (fun i x σ2 H2 hx2 ⟨R', ρ1, w, s'⟩ => ?_) (fun σ H ⟨R', ρ1, w, s'⟩ => n1.nx ρ1 R' σ H (hd ρ1 (by rw [← hr.len]; exact w)) s')
  obtain ⟨d, hd1, hd2⟩ := hr.get' hx2
  obtain ⟨ρ2, gv, sb⟩ := hs i d ρ1 hd1 w
  refine gv B R1 R' σ2 H2 x _ s' (Rp.mono s'.stp.rr hd2) fun σ3 s3 => sb B R1 R' σ3 H2 _ s3 ⟨?_, ?_, ?_, ?_⟩
  · exact fun ρ' R' σ' H' w' s' => ⟨R', ρ', w', s'⟩
  · exact fun r v R' H' p t q => n1.rt r v R' H' p t q
  · exact fun ρ' R' σ' H' p s' => n1.nx ρ' R' σ' H' p s'
  · exact fun ρ' R' σ' H' w' s' => ⟨R', ρ', w', s'⟩
/-- over the signs of a text -/
theorem sx_forS {tg iter : Expr} {g : TG} {z : Str} (W : Nat → List Sl → Prop) (hp : PassesOwn (model X.prog X.w) X.A X.env X.xe) (hc : X.calm = true) (hi : EX X iter ρ (.sh (.str z))) (hg : PG X tg g) (h0 : W 0 ρ)
    (hs : ∀ i c ρ1, z.cps[i]? = some c → W i ρ1 → ∃ ρ2, Gv X.K g ρ1 (.sh (.str ⟨#[c]⟩)) ρ2 ∧ SXs X body ρ2 (turnP P (W (i + 1)))) (hd : ∀ ρ1, W z.cps.size ρ1 → P.nx ρ1)
    (hf : ∀ x, foldedSetIterable iter X.env x = pure x := by intro _; rfl) : SX X (.For tg iter body [] pos) ρ P := .of (ps_for hp hc (pi_str pe_sem) hg pss_sem hf) fun B R0 R σ H D s n => by
  refine hi B R0 R σ H _ s fun v R1 H1 t1 q1 => ⟨z, is_str _ _ q1, ?_⟩
  have s1 := s.step t1
  have n1 : Ens X.K B R1 P D := n.rebase s1.stp
  refine ⟨fun i m σ H => m = z.cps.size - i ∧ i ≤ z.cps.size ∧ ∃ R' ρ1, W i ρ1 ∧ St X.K B R1 R' ρ1 σ H, ⟨z.cps.size, by simp, Nat.zero_le _, R1, ρ, h0, s1.base⟩, ?_⟩
  rintro i m σ2 H2 ⟨rfl, hle, R', ρ1, w, s'⟩
  by_cases hlt : i < z.cps.size
  · refine .inr ⟨hlt, fun σ H => ∃ R' ρ1, W (i + 1) ρ1 ∧ St X.K B R1 R' ρ1 σ H, fun σ' H' q => ⟨z.cps.size - (i + 1), by omega, rfl, hlt, q⟩, fun x H' y => ?_⟩
    obtain ⟨e, c, hc1, rfl⟩ := y
    subst e
    obtain ⟨ρ2, gv, sb⟩ := hs i c ρ1 hc1 w
    refine gv B R1 R' σ2 H' _ _ s' (Rp.str _) fun σ3 s3 => sb B R1 R' σ3 H' _ s3 ⟨?_, ?_, ?_, ?_⟩
    · exact fun ρ' R' σ' H' w' s' => ⟨R', ρ', w', s'⟩
    · exact fun r v R' H' p t q => n1.rt r v R' H' p t q
    · exact fun ρ' R' σ' H' p s' => n1.nx ρ' R' σ' H' p s'
    · exact fun ρ' R' σ' H' w' s' => ⟨R', ρ', w', s'⟩
  · have e : i = z.cps.size := by omega
    subst e
    exact .inl ⟨Nat.le_refl _, n1.nx ρ1 R' σ2 H2 (hd ρ1 w) s'⟩
/-- range's turns -/
theorem Sv.range {K : PySem.W.Frag} {tb : TS} {g : TG} {lo : Int} {n : Nat} {B R0 R H : Hp} {σ : L2.St} {D : Ends} (W : Nat → List Sl → Prop) (s : St K B R0 R ρ σ H) (en : Ens K B R0 P D) (h0 : W 0 ρ)
    (hs : ∀ i ρ1, i < n → W i ρ1 → ∃ ρ2, Gv K g ρ1 (.sh (.int (lo + i))) ρ2 ∧ Sv K tb ρ2 (turnP P (W (i + 1)))) (hd : ∀ ρ1, W n ρ1 → P.nx ρ1) :
    ∃ W : Nat → Nat → L2.St → Hp → Prop, (∃ m, W 0 m σ H) ∧ ∀ i m σ H, W i m σ H →
      ((Itr lo n).stop i H ∧ D.nx σ H) ∨ ((Itr lo n).go i H ∧ ∃ N : L2.St → Hp → Prop, (∀ σ' H', N σ' H' → ∃ m', m' < m ∧ W (i + 1) m' σ' H') ∧ ∀ x H', (Itr lo n).yld i H x H' → g x σ H' fun σ2 H2 => tb { D with nx := N, ct := N, bk := D.nx } σ2 H2) := by
  refine for_range (fun i σ H => ∃ R' ρ1, W i ρ1 ∧ St K B R0 R' ρ1 σ H) ⟨R, ρ, h0, s⟩ (fun i σ2 H2 hlt ⟨R', ρ1, w, s'⟩ => ?_) (fun σ H ⟨R', ρ1, w, s'⟩ => en.nx ρ1 R' σ H (hd ρ1 w) s')
  obtain ⟨ρ2, gv, sb⟩ := hs i ρ1 hlt w
  refine gv B R0 R' σ2 H2 _ _ s' (Rp.int _) fun σ3 s3 => sb B R0 R' σ3 H2 _ s3 ⟨?_, ?_, ?_, ?_⟩
  · exact fun ρ' R' σ' H' w' s' => ⟨R', ρ', w', s'⟩
  · exact fun r v R' H' p t q => en.rt r v R' H' p t q
  · exact fun ρ' R' σ' H' p s' => en.nx ρ' R' σ' H' p s'
  · exact fun ρ' R' σ' H' w' s' => ⟨R', ρ', w', s'⟩
theorem sx_range1 {tg : Expr} {g : TG} {j : Int} {p p2 : Pos} (W : Nat → List Sl → Prop) (hp : PassesOwn (model X.prog X.w) X.A X.env X.xe) (hc : X.calm = true) (hgl : Gl X "range") (hm : X.mg "range" = none) (ha : AX X [a] ρ [.sh (.int j)]) (hj : -(2 ^ 62) ≤ j ∧ j < 2 ^ 62) (hg : PG X tg g) (h0 : W 0 ρ)
    (hs : ∀ (i : Nat) ρ1, (i : Int) < j → W i ρ1 → ∃ ρ2, Gv X.K g ρ1 (.sh (.int i)) ρ2 ∧ SXs X body ρ2 (turnP P (W (i + 1)))) (hd : ∀ ρ1, W j.toNat ρ1 → P.nx ρ1)
    (hst : starEach [a] X.env = [(false, eval a X.env)] := by rfl) (hf : ∀ x, foldedSetIterable (.Call (.Name "range" p) [a] [] p2) X.env x = pure x := by intro _; rfl) : SX X (.For tg (.Call (.Name "range" p) [a] [] p2) body [] pos) ρ P :=
  .of (ps_for hp hc (pi_range1 hgl hm pa_sem hst) hg pss_sem hf) fun B R0 R σ H D s n => by
    refine ha B R0 R σ H _ s fun vs R1 H1 t1 q1 => ?_
    obtain ⟨v, rfl, q⟩ := q1.one
    refine ⟨j, by rw [Res.int t1.sub q rfl], hj.1, hj.2, Sv.range W (s.step t1) n h0 (fun i ρ1 hi w => ?_) hd⟩
    obtain ⟨ρ2, gv, sb⟩ := hs i ρ1 (by omega) w
    exact ⟨ρ2, by rw [Int.zero_add]; exact gv, sb⟩

/-! ### comprehensions -/
def wipeS (ρ : List Sl) : List Nat → List Sl
  | [] => ρ
  | v :: vs => (wipeS ρ vs).set v .no
theorem St.wipe {K : PySem.W.Frag} {B R0 R H : Hp} {σ : L2.St} (s : St K B R0 R ρ σ H) : ∀ vs : List Nat, St K B R0 R (wipeS ρ vs) (L2.wipe σ vs) H
  | [] => s
  | v :: vs => by
    have h := St.wipe s vs
    obtain ⟨φ, fp⟩ := h.fps
    have l1 : ((wipeS ρ vs).set v .no).length = (wipeS ρ vs).length := by rw [List.length_set]
    refine ⟨h.stp, h.tb, by show (List.set _ _ _).length = (List.set _ _ _).length; rw [List.length_set, List.length_set, h.len], fun i => if i = v then [] else φ i, fp.sub l1 (fun i t w e1 e2 => ?_) fun i p hp => ?_⟩
    · have e1 : ((wipeS ρ vs).set v .no)[i]? = some t := e1
      have e2 : ((L2.wipe σ vs).set v none)[i]? = some w := e2
      rw [List.getElem?_set] at e1 e2
      by_cases z : v = i
      · rw [if_pos z] at e1
        rw [if_pos z.symm]
        split at e1
        · cases e1; rfl
        · cases e1
      · rw [if_neg z] at e1 e2
        rw [if_neg fun q => z q.symm]
        exact fp.sl i t w e1 e2
    · split at hp
      · cases hp
      · exact hp
/-- a block's reading, whatever its context -/
def tBlkE (X : Cx) (scope : Scope) (e : Expr) : TE := fun σ H Q => ∀ (s : Shared) (H0 : Hp) (C : Addr) (cl : List (Str × Addr)) (fp : List Addr), tE (X.blk s H0 scope (compEnvC scope cl C X.env) fp) e σ H Q
/-- the turns of a comprehension: what is made so far is acc i -/
structure LcW (K : PySem.W.Frag) (B R1 H1 : Hp) (Dd : Addr) (acc : List D) (H : Hp) : Prop where
  ex : ∃ R xs, Step R1 H1 R H ∧ R Dd = none ∧ H Dd = some (.lst xs) ∧ RpA K R xs acc
end
end PV

namespace PV
open PySem PySem.Spec PyProof.Rows L2
section
variable {X : Cx} {ρ ρ' : List Sl} {pos : Pos} {a b c e o : Expr} {st : Stmt} {P : Post} {body : List Stmt} {K : PySem.W.Frag}
def tTs (X : Cx) (ifs : List Expr) : TT := fun σ H Q => ∀ pins s, Inv X pins σ H s →
  wpAny (model X.prog X.w) X.A (forIn ifs true fun c r => if r = true then do let ok ← isTrue c X.env (eval c X.env); pure (ForInStep.yield ok) else pure (ForInStep.yield r)) (TP X pins σ Q) X.xe s
theorem pts_sem {ifs : List Expr} : PTs X ifs (tTs X ifs) := ⟨fun pins s σ H Q I h => h pins s I⟩
/-- the tests of a comprehension -/
def TXs (X : Cx) (ifs : List Expr) (ρ : List Sl) (b : Bool) : Prop := Tv X.K (tTs X ifs) ρ b
theorem txs_nil : TXs X [] ρ true := fun B R0 R σ H Q s k pins sh I => pts_nil.run pins sh σ H Q I (k R H s.sub.step)
theorem txs_one {k : Bool} (h : TX X c ρ k) : TXs X [c] ρ k := fun B R0 R σ H Q s kk pins sh I => (pts_one pt_sem).run pins sh σ H Q I (h B R0 R σ H Q s kk)
def tBlkT (X : Cx) (scope : Scope) (ifs : List Expr) : TT := fun σ H Q => ∀ (s : Shared) (H0 : Hp) (C : Addr) (cl : List (Str × Addr)) (fp : List Addr), tTs (X.blk s H0 scope (compEnvC scope cl C X.env) fp) ifs σ H Q
/-- a target sets no slot but those of vs -/
def Only (vs : List Nat) (σ σ' : L2.St) : Prop := σ'.length = σ.length ∧ ∀ k, k ∉ vs → σ'[k]? = σ[k]?
def GSet (g : TG) (vs : List Nat) : Prop := ∀ v (σ : L2.St) H (Q Q' : L2.St → Hp → Prop), g v σ H Q → (∀ σ' H', Only vs σ σ' → Q σ' H' → Q' σ' H') → g v σ H Q'
def GSets (g : TGs) (vs : List Nat) : Prop := ∀ v (σ : L2.St) H (Q Q' : L2.St → Hp → Prop), g v σ H Q → (∀ σ' H', Only vs σ σ' → Q σ' H' → Q' σ' H') → g v σ H Q'
theorem only_set {i : Nat} {vs : List Nat} (h : i ∈ vs) {σ : L2.St} {v : Option V} : Only vs σ (σ.set i v) := ⟨by rw [List.length_set], fun k hk => by
  rw [List.getElem?_set, if_neg (fun z => hk (by subst z; exact h))]⟩
theorem Only.trans {vs : List Nat} {σ σ1 σ2 : L2.St} (a : Only vs σ σ1) (b : Only vs σ1 σ2) : Only vs σ σ2 := ⟨b.1.trans a.1, fun k hk => (b.2 k hk).trans (a.2 k hk)⟩
theorem gset_name {i : Nat} {vs : List Nat} (h : i ∈ vs) : GSet (gName i) vs := fun v σ H Q Q' q k => k _ _ (only_set h) q
theorem gsets_nil {vs : List Nat} : GSets gNil vs := fun v σ H Q Q' q k => ⟨q.1, k _ _ ⟨rfl, fun _ _ => rfl⟩ q.2⟩
theorem gsets_cons {g : TG} {gs : TGs} {vs : List Nat} (h : GSet g vs) (h2 : GSets gs vs) : GSets (gCons g gs) vs := fun v σ H Q Q' ⟨x, r, e, q⟩ k =>
  ⟨x, r, e, h x σ H _ _ q fun σ1 H1 o1 q1 => h2 r σ1 H1 _ _ q1 fun σ2 H2 o2 q2 => k σ2 H2 (o1.trans o2) q2⟩
theorem gset_tup {n : Nat} {gs : TGs} {vs : List Nat} (h : GSets gs vs) : GSet (gTup K n gs) vs := fun v σ H Q Q' ⟨a, xs, e, h1, h2, q⟩ k => ⟨a, xs, e, h1, h2, h xs σ H Q Q' q k⟩
theorem wipe_at {σ : L2.St} {i : Nat} : ∀ {vs : List Nat}, i ∈ vs → (wipe σ vs)[i]? = if i < σ.length then some none else none
  | v :: vs, h => by
    show ((wipe σ vs).set v none)[i]? = _
    rw [List.getElem?_set]
    by_cases z : v = i
    · rw [if_pos z, wipe_length, z]
    · rw [if_neg z]
      exact wipe_at ((List.mem_cons.mp h).resolve_left fun q => z q.symm)
theorem wipe_only {vs : List Nat} {σ σ' : L2.St} (o : Only vs σ σ') : wipe σ' vs = wipe σ vs := by
  apply List.ext_getElem?
  intro i
  by_cases h : i ∈ vs
  · rw [wipe_at h, wipe_at h, o.1]
  · rw [wipe_out h, wipe_out h, o.2 i h]
theorem wipe_wipe {vs : List Nat} {σ : L2.St} : wipe (wipe σ vs) vs = wipe σ vs := wipe_only ⟨wipe_length σ vs, fun k hk => wipe_out hk⟩

theorem Step.putNew {R H R' H' : Hp} (s : Step R H R' H') {p : Addr} {o : HO} (n : H p = none) (nr : R' p = none) (nt : ∀ xs, o ≠ .tup xs) (nf : ∀ u v, o ≠ .frz u v) : Step R H R' (upd H' p o) := by
  refine ⟨s.rr, s.rh.put nr, s.hh.put n, s.nw, fun b xs e => ?_, fun b u xs e => ?_⟩
  · by_cases z : b = p
    · subst z; rw [upd_same] at e; exact absurd (Option.some.inj e) (nt xs)
    · rw [upd_ne z] at e; exact s.tp b xs e
  · by_cases z : b = p
    · subst z; rw [upd_same] at e; exact absurd (Option.some.inj e) (nf u _)
    · rw [upd_ne z] at e; exact s.tf b u xs e
/-- what a turn of a comprehension does -/
theorem lc_turn {α : Type} {g : TG} {vs : List Nat} {scope : Scope} {elt : Expr} {ifs : List Expr} {B R0 R1 H1 : Hp} {σ : L2.St} {Dd : Addr} (s1 : St X.K B R0 R1 ρ σ H1) (hD : H1 Dd = none) (gs : GSet g vs)
    {H : Hp} {acc : List D} {x : V} {d f : D} {k : Bool} {Nx : Hp → Prop} (w : LcW X.K B R1 H1 Dd acc H) (hx : ∀ R, Sm R1 R → Rp X.K R x d)
    (ht : ∃ ρ2, Gv X.K g (wipeS ρ vs) (.sh d) ρ2 ∧ (∀ (s : Shared) (H : Hp) (C : Addr) (cl : List (Str × Addr)) (fp : List Addr), TXs (X.blk s H scope (compEnvC scope cl C X.env) fp) ifs ρ2 k) ∧
      (k = true → ∀ (s : Shared) (H : Hp) (C : Addr) (cl : List (Str × Addr)) (fp : List Addr), EX (X.blk s H scope (compEnvC scope cl C X.env) fp) elt ρ2 (.sh f)))
    (hl : acc.length < sizeLine) (n1 : k = true → ∀ H, LcW X.K B R1 H1 Dd (acc ++ [f]) H → Nx H) (n2 : k = false → ∀ H, LcW X.K B R1 H1 Dd acc H → Nx H) :
    g x (wipe σ vs) H fun σ2 H2 => wipe σ2 vs = wipe σ vs ∧ tBlkT X scope ifs σ2 H2 fun b H3 => if b = true then tBlkE X scope elt σ2 H3 fun y H4 => ∃ acc, H4 Dd = some (.lst acc) ∧ acc.length < sizeLine ∧ Nx (upd H4 Dd (.lst (acc ++ [y]))) else Nx H3 := by
  obtain ⟨R, xs, t, nr, hd, ra⟩ := w.ex
  obtain ⟨ρ2, gv, tt, te⟩ := ht
  have sw : St X.K B R0 R (wipeS ρ vs) (wipe σ vs) H := (s1.step t).wipe vs
  have q := gv B R0 R (wipe σ vs) H x (fun σ2 H2 => H2 = H ∧ St X.K B R0 R ρ2 σ2 H) sw (hx R t.rr) fun σ2 s2 => ⟨rfl, s2⟩
  refine gs x _ H _ _ q fun σ2 H2 o2 ⟨e2, s2⟩ => ?_
  subst e2
  refine ⟨by rw [wipe_only o2, wipe_wipe], fun s H0 C cl fp => tt s H0 C cl fp B R0 R σ2 H2 _ s2 fun R3 H3 t3 => ?_⟩
  cases k with
  | false =>
    rw [if_neg Bool.false_ne_true]
    exact n2 rfl H3 ⟨R3, xs, t.trans t3, t3.free nr (by rw [hd]; intro z; cases z), t3.hh.k _ _ hd trivial, RpA.mono t3.rr ra⟩
  | true =>
    rw [if_pos rfl]
    refine fun s H0 C cl fp => te rfl s H0 C cl fp B R0 R3 σ2 H3 _ (s2.step t3) fun v R4 H4 t4 q4 => ?_
    have t34 := t3.trans t4
    have nr4 : R4 Dd = none := t34.free nr (by rw [hd]; intro z; cases z)
    refine ⟨xs, t34.hh.k _ _ hd trivial, by rw [ra.len]; exact hl, n1 rfl _ ⟨R4, xs ++ [v], (t.trans t34).putNew hD nr4 (fun _ z => (nomatch z)) fun _ _ z => (nomatch z), nr4, upd_same, ?_⟩⟩
    exact (RpA.mono t34.rr ra).app (.cons q4 .nil)
theorem take_snoc {α β : Type} {l : List α} {i : Nat} {a : α} (h : l[i]? = some a) (keep : α → Bool) (f : α → β) : ((l.take (i + 1)).filter keep).map f = ((l.take i).filter keep).map f ++ (if keep a = true then [f a] else []) := by
  rw [List.take_add_one, h]
  show ((l.take i ++ [a]).filter keep).map f = _
  rw [List.filter_append, List.map_append]
  congr 1
  by_cases z : keep a = true
  · rw [if_pos z, List.filter_cons, if_pos z]; rfl
  · rw [if_neg z, List.filter_cons, if_neg z]; rfl
theorem acc_lt {α β : Type} {l : List α} {i : Nat} (keep : α → Bool) (f : α → β) (h : i < l.length) (hl : l.length ≤ sizeLine) : (((l.take i).filter keep).map f).length < sizeLine := by
  rw [List.length_map]
  refine Nat.lt_of_le_of_lt (List.length_filter_le _ _) ?_
  rw [List.length_take]
  omega
theorem LcW.res {B R1 H1 : Hp} {Dd : Addr} {acc : List D} {H : Hp} {Q : VK} (w : LcW K B R1 H1 Dd acc H) {R H0 : Hp} (t : Step R H0 R1 H1) (hD : H1 Dd = none) (k : ∀ v R' H', Step R H0 R' H' → Res K H0 R' H' v (.nw (.lst acc)) → Q v H') : Q (.ref Dd) H := by
  obtain ⟨R2, xs, t2, nr, hd, ra⟩ := w.ex
  exact k _ R2 H (t.trans t2) ⟨Dd, rfl, Sm.free t.hh hD, nr, _, hd, ra⟩
/-- [elt for target in xs if ..], xs shared -/
theorem ev_lc {α : Type} {iter elt : Expr} {ifs : List Expr} {scope : Scope} {g : TG} {vs : List Nat} (l : List α) (emb : α → D) (keep : α → Bool) (f : α → D) (hi : EX X iter ρ (.sh (.lst (l.map emb)))) (gs : GSet g vs) (hl : l.length ≤ sizeLine)
    (ht : ∀ (i : Nat) (a : α), l[i]? = some a → ∃ ρ2, Gv X.K g (wipeS ρ vs) (.sh (emb a)) ρ2 ∧ (∀ (s : Shared) (H : Hp) (C : Addr) (cl : List (Str × Addr)) (fp : List Addr), TXs (X.blk s H scope (compEnvC scope cl C X.env) fp) ifs ρ2 (keep a)) ∧
      (keep a = true → ∀ (s : Shared) (H : Hp) (C : Addr) (cl : List (Str × Addr)) (fp : List Addr), EX (X.blk s H scope (compEnvC scope cl C X.env) fp) elt ρ2 (.sh (f a)))) :
    Ev X.K (tLc (iList X.K (tE X iter)) g (tBlkT X scope ifs) (tBlkE X scope elt) vs) ρ (.nw (.lst ((l.filter keep).map f))) := fun B R0 R σ H Q s k => by
  refine hi B R0 R σ H _ s fun v R1 H1 t1 q1 => ?_
  obtain ⟨p, xs, rfl, hx, hr⟩ := (show Rp X.K R1 v (.lst (l.map emb)) from q1).lst'
  have s1 := s.step t1
  have ln : xs.length = l.length := by rw [hr.len, List.length_map]
  refine ⟨p, rfl, ⟨xs, SqL.of (t1.rh.k _ _ hx trivial)⟩, fun Dd hD => ?_⟩
  refine lc_list (xs := xs) (fun i H => LcW X.K B R1 H1 Dd (((l.take i).filter keep).map f) H) ?_ (fun i H _ w => ?_) (fun i x H hix w => ?_) fun H w => ?_
  · exact ⟨R1, [], s1.sub.step.new hD (fun _ z => (nomatch z)) fun _ _ z => (nomatch z), Sm.free s1.sub.rh hD, upd_same, .nil⟩
  · obtain ⟨R2, xs2, t2, _⟩ := w.ex
    exact SqL.of (t2.rh.k _ _ (t2.rr.k _ _ hx trivial) trivial)
  · obtain ⟨d, hd1, hd2⟩ := hr.get' hix
    rw [List.getElem?_map] at hd1
    cases ha : l[i]? with
    | none => rw [ha] at hd1; cases hd1
    | some a =>
      rw [ha] at hd1
      cases hd1
      obtain ⟨hlt, _⟩ := List.getElem?_eq_some_iff.mp ha
      refine lc_turn (α := α) s1 hD gs w (fun R t => Rp.mono t hd2) (ht i a ha) (acc_lt keep f hlt hl) (fun e H w => ?_) fun e H w => ?_
      · rw [take_snoc ha, if_pos e]; exact w
      · rw [take_snoc ha, if_neg (by rw [e]; exact Bool.false_ne_true), List.append_nil]; exact w
  · rw [ln, List.take_length] at w
    exact w.res t1 hD k
/-- .. over range(n) -/
theorem ev_lcR {elt : Expr} {ifs : List Expr} {scope : Scope} {g : TG} {vs : List Nat} {j : Int} (keep : Nat → Bool) (f : Nat → D) (ha : AX X [a] ρ [.sh (.int j)]) (hj : -(2 ^ 62) ≤ j ∧ j < 2 ^ 62) (gs : GSet g vs) (hl : j.toNat ≤ sizeLine)
    (ht : ∀ i : Nat, (i : Int) < j → ∃ ρ2, Gv X.K g (wipeS ρ vs) (.sh (.int i)) ρ2 ∧ (∀ (s : Shared) (H : Hp) (C : Addr) (cl : List (Str × Addr)) (fp : List Addr), TXs (X.blk s H scope (compEnvC scope cl C X.env) fp) ifs ρ2 (keep i)) ∧
      (keep i = true → ∀ (s : Shared) (H : Hp) (C : Addr) (cl : List (Str × Addr)) (fp : List Addr), EX (X.blk s H scope (compEnvC scope cl C X.env) fp) elt ρ2 (.sh (f i)))) :
    Ev X.K (tLc (iRng1 (tA X [a])) g (tBlkT X scope ifs) (tBlkE X scope elt) vs) ρ (.nw (.lst (((List.range j.toNat).filter keep).map f))) := fun B R0 R σ H Q s k => by
  refine ha B R0 R σ H _ s fun us R1 H1 t1 q1 => ?_
  obtain ⟨v, rfl, q⟩ := q1.one
  have s1 := s.step t1
  refine ⟨j, by rw [Res.int t1.sub q rfl], hj.1, hj.2, fun Dd hD => ?_⟩
  refine lc_range (fun i H => LcW X.K B R1 H1 Dd ((((List.range j.toNat).take i).filter keep).map f) H) ?_ (fun i H hlt w => ?_) fun H w => ?_
  · exact ⟨R1, [], s1.sub.step.new hD (fun _ z => (nomatch z)) fun _ _ z => (nomatch z), Sm.free s1.sub.rh hD, upd_same, .nil⟩
  · have hi : (List.range j.toNat)[i]? = some i := by rw [List.getElem?_range hlt]
    rw [Int.zero_add]
    refine lc_turn (α := Nat) s1 hD gs w (fun R t => Rp.int _) (ht i (by omega)) (acc_lt keep f (by rw [List.length_range]; exact hlt) (by rw [List.length_range]; exact hl)) (fun e H w => ?_) fun e H w => ?_
    · rw [take_snoc hi, if_pos e]; exact w
    · rw [take_snoc hi, if_neg (by rw [e]; exact Bool.false_ne_true), List.append_nil]; exact w
  · rw [show (List.range j.toNat).take j.toNat = List.range j.toNat from List.take_of_length_le (by rw [List.length_range]; exact Nat.le_refl _)] at w
    exact w.res t1 hD k
theorem peB {scope : Scope} {elt : Expr} : ∀ (s : Shared) (H : Hp) (C : Addr) (cl : List (Str × Addr)) (fp : List Addr), PE (X.blk s H scope (compEnvC scope cl C X.env) fp) elt (tBlkE X scope elt) := fun s H C cl fp => ⟨fun pins s' σ H' Q I h => h s H C cl fp pins s' I⟩
theorem ptB {scope : Scope} {ifs : List Expr} : ∀ (s : Shared) (H : Hp) (C : Addr) (cl : List (Str × Addr)) (fp : List Addr), PTs (X.blk s H scope (compEnvC scope cl C X.env) fp) ifs (tBlkT X scope ifs) := fun s H C cl fp => ⟨fun pins s' σ H' Q I h => h s H C cl fp pins s' I⟩
theorem ex_lc {elt tg iter : Expr} {ifs : List Expr} {scope : Scope} {own : List (Str × Nat)} {wi : TI} {g : TG} {r : Rs} (hc : X.calm = true) (hN : X.N.Nodup) (hi : PI X tg iter wi) (ok : BlkOk X.N X.env.scope scope own)
    (hg : ∀ (s : Shared) (H : Hp) (C : Addr) (cl : List (Str × Addr)) (fp : List Addr), PG (X.blk s H scope (compEnvC scope cl C X.env) fp) tg g) (h : Ev X.K (tLc wi g (tBlkT X scope ifs) (tBlkE X scope elt) (own.map (·.2))) ρ r)
    (hs : ∀ x, foldedSetIterable iter X.env x = pure x := by intro _; rfl) : EX X (.ListComp elt [⟨tg, iter, ifs, 0⟩] scope pos) ρ r := .of (pe_lc hc hN hi ok hg ptB peB hs) h
theorem sx_setLc {i : Nat} {y : Str} {py : Pos} {elt tg iter : Expr} {ifs : List Expr} {scope : Scope} {own : List (Str × Nat)} {pos spos : Pos} {wi : TI} {g : TG} {r : Rs} (hc : X.calm = true) (hN : X.N.Nodup) (hy : X.N[i]? = some y) (hyl : X.env.scope.names.lookup y = some .local)
    (hsw : swapsWith (.ListComp elt [⟨tg, iter, ifs, 0⟩] scope pos) (some (.Name y py)) spos.line X.env = pure true) (hi : PI X tg iter wi) (ok : BlkOk X.N X.env.scope scope own)
    (hg : ∀ (s : Shared) (H : Hp) (C : Addr) (cl : List (Str × Addr)) (fp : List Addr), PG (X.blk s H scope (compEnvC scope cl C X.env) fp) tg g) (h : Ev X.K (tLc wi g (tBlkT X scope ifs) (tBlkE X scope elt) (own.map (·.2))) ρ r) (hP : P.nx (ρ.set i r.sl))
    (hs : ∀ x, foldedSetIterable iter X.env x = pure x := by intro _; rfl) : SX X (.Assign [.Name y py] (.ListComp elt [⟨tg, iter, ifs, 0⟩] scope pos) spos) ρ P :=
  .of (ps_setLc hc hN hy hyl hsw hi ok hg ptB peB hs) fun B R0 R σ H D s n => h B R0 R σ H _ s fun v R' H' t q => n.nx _ R' _ H' hP (s.set t q i)

/-! ### defs -/
/-- what a def hands back, from its arguments' data: Rel ds r -/
def spR (K : PySem.W.Frag) (Rel : List D → Rs → Prop) : Sp := fun vs H Q _ => ∃ R0 ds r, TabsK K H ∧ Sub R0 H ∧ RpA K R0 vs ds ∧ Rel ds r ∧ ∀ v R' H', Step R0 H R' H' → Res K H R' H' v r → Q v H'
section
variable {CX : CXT} {E : XK} {k : Nat} {f : Addr} {fd : FuncData} {ps : List Str} {Rel : List D → Rs → Prop} {x : Str} {p : Pos} {es : List Expr}
/-- a call, the arguments shared -/
theorem ex_call {ds : List D} {r : Rs} (F : FnOk X.prog X.w X.K X.mg X.base CX k f fd ps (spR X.K Rel)) (hr : Room k X.A) (hg : Gl X x) (hm : X.mg x = some (.ref f)) (hk : PySem.W.keepIn X.K (.ref f) = true) (hb : Binds X.K fd ps []) (hx : Passes CX X E)
    (ha : AX X (e :: es) ρ (ds.map Rs.sh)) (hR : Rel ds r) (hdb : (x == ("__debug__" : Str)) = false := by decide) (he : starEach (e :: es) X.env = (false, eval e X.env) :: starEach es X.env := by rfl) (hpl : (backTo pos (starEach es X.env)).any (·.1) = false := by rfl) :
    EX X (.Call (.Name x p) (e :: es) [] pos) ρ r := .of (pe_call F hr hg hm hk hb .nil hx pa_sem hdb he hpl) fun B R0 R σ H Q s kk => ha B R0 R σ H _ s fun vs R1 H1 t1 q1 => by
  have q1 : RpA X.K R1 vs ds := ResA.shs q1
  show spR X.K Rel (vs ++ []) H1 Q E
  rw [List.append_nil]
  exact ⟨R1, ds, r, (s.step t1).tabs, t1.sub, q1, hR, fun v R' H' t q => kk v R' H' (t1.trans t) (q.back t1.hh)⟩
/-- a result that leans on nothing that is owned -/
def immR : Rs → Bool
  | .sh d => imm d
  | .nw (.lst ds) => immA ds
  | .nw (.dK kds) => immA (kds.map (·.2))
  | .nw _ => false
  | .al _ => true
  | .nd _ => true
/-- R and the tuples of H' -/
def withT (R H' : Hp) : Hp := fun a => match R a with
  | some o => some o
  | none => match H' a with
    | some (.tup xs) => some (.tup xs)
    | some (.frz u (.tup xs)) => some (.frz u (.tup xs))
    | _ => none
theorem withT_some {R H' : Hp} {a : Addr} {o : HO} (h : R a = some o) : withT R H' a = some o := by unfold withT; rw [h]
theorem withT_none {R H' : Hp} {a : Addr} (h : R a = none) {o : HO} (h2 : withT R H' a = some o) : H' a = some o ∧ ((∃ xs, o = .tup xs) ∨ ∃ u xs, o = .frz u (.tup xs)) := by
  unfold withT at h2
  rw [h] at h2
  dsimp only at h2
  split at h2
  · rename_i xs e; cases h2; exact ⟨e, .inl ⟨_, rfl⟩⟩
  · rename_i u xs e; cases h2; exact ⟨e, .inr ⟨_, _, rfl⟩⟩
  · cases h2
theorem Step.tups {R H R' H' : Hp} (s : Sub R H) (t : Step H H R' H') : Step R H (withT R H') H' := by
  have old : ∀ a o, H a = some o → ((∃ xs, H' a = some (.tup xs)) ∨ ∃ u xs, H' a = some (.frz u (.tup xs))) → R a ≠ none := fun a o e z q => by
    by_cases n : NT o
    · have e' := t.hh.k a o e n
      rcases z with ⟨xs, z⟩ | ⟨u, xs, z⟩
      · rw [e'] at z; cases z; rw [s.tp a xs e] at q; cases q
      · rw [e'] at z; cases z; rw [s.tf a u xs e] at q; cases q
    · cases o <;> first | exact absurd trivial n | skip
      obtain ⟨ps, e', _⟩ := t.hh.t a _ e
      rcases z with ⟨xs, z⟩ | ⟨u, xs, z⟩
      · rw [e'] at z; cases z
      · rw [e'] at z; cases z
  have rh : Sm R H' := s.rh.trans t.hh
  refine ⟨⟨fun b o e _ => withT_some e, fun b ps e => ⟨ps, withT_some e, id⟩⟩, ⟨fun b o e n => ?_, fun b ps e => ?_⟩, t.hh, fun a h h' => ?_, fun a xs e => ?_, fun a u xs e => ?_⟩
  · cases q : R b with
    | some o' => rw [withT_some q] at e; cases e; exact rh.k b o q n
    | none => exact (withT_none q e).1
  · cases q : R b with
    | some o' => rw [withT_some q] at e; cases e; exact rh.t b ps q
    | none =>
      obtain ⟨_, ⟨xs, z⟩ | ⟨u, xs, z⟩⟩ := withT_none q e
      · cases z
      · cases z
  · cases q : H a with
    | none => rfl
    | some o =>
      cases q2 : withT R H' a with
      | none => exact absurd q2 h'
      | some o2 =>
        obtain ⟨e1, e2⟩ := withT_none h q2
        refine absurd h (old a o q ?_)
        rcases e2 with ⟨xs, rfl⟩ | ⟨u, xs, rfl⟩
        · exact .inl ⟨xs, e1⟩
        · exact .inr ⟨u, xs, e1⟩
  · cases q : R a with
    | none => unfold withT; rw [q]; dsimp only; rw [e]
    | some o =>
      rw [withT_some q]
      by_cases n : NT o
      · rw [rh.k a o q n] at e; exact e
      · cases o <;> first | exact absurd trivial n | skip
        obtain ⟨ps, e', _⟩ := rh.t a _ q
        rw [e'] at e; cases e
  · cases q : R a with
    | none => unfold withT; rw [q]; dsimp only; rw [e]
    | some o =>
      rw [withT_some q]
      by_cases n : NT o
      · rw [rh.k a o q n] at e; exact e
      · cases o <;> first | exact absurd trivial n | skip
        obtain ⟨ps, e', _⟩ := rh.t a _ q
        rw [e'] at e; cases e
mutual
theorem Ow.reb {K : PySem.W.Frag} {R R2 H : Hp} (sb : Sm R H) (t : Tp R2 H) (f : TpF R2 H) : ∀ {v : V} {d : D} {g : List Addr}, Ow K R H v d g → Ow K R2 H v d g
  | _, _, _, .leaf h e => .leaf (Rp.imm t f (Rp.mono sb h) e) e
  | _, _, _, .lst h r n => .lst h (OwA.reb sb t f r) n
  | _, _, _, .tup h r => .tup (t _ _ (sb.k _ _ h trivial)) (OwA.reb sb t f r)
theorem OwA.reb {K : PySem.W.Frag} {R R2 H : Hp} (sb : Sm R H) (t : Tp R2 H) (f : TpF R2 H) : ∀ {v : List V} {d : List D} {g : List Addr}, OwA K R H v d g → OwA K R2 H v d g
  | _, _, _, .nil => .nil
  | _, _, _, .cons h r n => .cons (Ow.reb sb t f h) (OwA.reb sb t f r) n
end
/-- a call, the arguments of any kind: its result leans on none of them -/
theorem ex_callA {rs : List Rs} {r : Rs} (F : FnOk X.prog X.w X.K X.mg X.base CX k f fd ps (spR X.K Rel)) (hr : Room k X.A) (hg : Gl X x) (hm : X.mg x = some (.ref f)) (hk : PySem.W.keepIn X.K (.ref f) = true) (hb : Binds X.K fd ps []) (hx : Passes CX X E)
    (ha : AX X (e :: es) ρ rs) (hR : Rel (rs.map Rs.dat) r) (hi : immR r = true) (hdb : (x == ("__debug__" : Str)) = false := by decide) (he : starEach (e :: es) X.env = (false, eval e X.env) :: starEach es X.env := by rfl) (hpl : (backTo pos (starEach es X.env)).any (·.1) = false := by rfl) :
    EX X (.Call (.Name x p) (e :: es) [] pos) ρ r := .of (pe_call F hr hg hm hk hb .nil hx pa_sem hdb he hpl) fun B R0 R σ H Q s kk => ha B R0 R σ H _ s fun vs R1 H1 t1 q1 => by
  have q1 : RpA X.K H1 vs (rs.map Rs.dat) := ResA.rp t1.sub q1
  show spR X.K Rel (vs ++ []) H1 Q E
  rw [List.append_nil]
  refine ⟨H1, rs.map Rs.dat, r, (s.step t1).tabs, Sub.self H1, q1, hR, fun v R' H' t q => ?_⟩
  have t2 := Step.tups t1.sub t
  refine kk v _ H' (t1.trans t2) (Res.back t1.hh ?_)
  cases r with
  | sh d => exact Rp.imm t2.tp t2.tf (Rp.mono t.rh q) hi
  | al d => exact q
  | nw d =>
    obtain ⟨p, rfl, n, nr, o, ho, od⟩ := q
    refine ⟨p, rfl, n, ?_, o, ho, ?_⟩
    · cases q : withT R1 H' p with
      | none => rfl
      | some o2 =>
        obtain ⟨e1, e2⟩ := withT_none (Sm.free t1.sub.rh n) q
        rw [ho] at e1
        cases e1
        rcases e2 with ⟨xs, rfl⟩ | ⟨u, xs, rfl⟩
        · exact absurd rfl od.ntup
        · exact absurd rfl od.nfrz
    · cases o <;> cases d <;> first | exact od.elim | skip
      · exact RpA.imm t2.tp t2.tf (RpA.mono t.rh od) hi
      · exact RpK.imm t2.tp t2.tf (RpK.mono t.rh od) hi
  | nd d =>
    obtain ⟨f, w, n⟩ := q
    refine ⟨f, w.reb t.rh t2.tp t2.tf, fun p hp => ⟨(n p hp).1, ?_⟩⟩
    cases q : withT R1 H' p with
    | none => rfl
    | some o2 =>
      obtain ⟨e1, e2⟩ := withT_none (Sm.free t1.sub.rh (n p hp).1) q
      obtain ⟨xs, e⟩ := w.at p hp
      rw [e] at e1
      cases e1
      rcases e2 with ⟨xs, z⟩ | ⟨u, xs, z⟩ <;> cases z
/-- how a def begins -/
def begin (N : List Str) (ds : List D) : List Sl := ds.map Sl.sh ++ List.replicate (N.length - ds.length) .no
theorem begin_st {K : PySem.W.Frag} {R0 H : Hp} {N : List Str} {vs : List V} {ds : List D} (tb : TabsK K H) (s : Sub R0 H) (h : RpA K R0 vs ds) : St K H R0 R0 (begin N ds) (L2.start N vs) H := by
  refine ⟨s.step, tb, ?_, fun _ => [], fun i t v e1 e2 => ?_, fun _ _ => rfl, fun _ _ _ _ z => nomatch z⟩
  · unfold begin L2.start
    rw [List.length_append, List.length_append, List.length_map, List.length_map, List.length_replicate, List.length_replicate, h.len]
  · unfold begin at e1
    unfold L2.start at e2
    rw [List.getElem?_append] at e1 e2
    rw [List.length_map] at e1 e2
    rw [h.len] at e2
    split at e1
    · rename_i hl
      rw [if_pos hl] at e2
      rw [List.getElem?_map] at e1 e2
      cases q : ds[i]? with
      | none => rw [q] at e1; cases e1
      | some d =>
        rw [q] at e1
        cases e1
        obtain ⟨x, h1, h2⟩ := h.get q
        rw [h1] at e2
        cases e2
        exact ⟨rfl, x, rfl, h2⟩
    · rw [List.getElem?_replicate] at e1
      split at e1 <;> cases e1
      rfl
end
section
variable {Pg : Program} {w : World} {mg : Str → Option Value} {base : Heap} {q nm : Str} {params : Arguments} {bd : List Stmt} {scope : Scope} {kws : List (Str × V)} {f : Addr} {fd : FuncData} {N ps : List Str} {k : Nat} {Rel : List D → Rs → Prop}
/-- THE RULE for a def that raises nothing -/
theorem ok_fn (F : FunD K nm q params bd scope [] kws f fd) (S : FnScope N ps scope) (len : ∀ ds r, Rel ds r → ds.length = ps.length)
    (h : ∀ (cdv : Value) (A : Around) (outer : List Env) (s : Shared) (H : Hp) (ds : List D) (r : Rs) (E : XK), Room k (A.deeper (envOfC q scope s.heap.objs.size f cdv)) → Rel ds r →
      SXs (cxOf CX0 Pg w K mg base N q scope f cdv A outer s H E).nox bd (begin N ds) ⟨fun _ => r = .sh .non, fun r' => r' = r, fun _ => False, fun _ => False⟩) : FnOk Pg w K mg base CX0 (k + 1) f fd ps (spR K Rel) := by
  refine F.ok S (fun vs H Q E hs => ?_) fun cdv A outer s H vs Q E hr hs => ?_
  · obtain ⟨R0, ds, r, _, _, h1, h2, _⟩ := hs
    rw [h1.len, len ds r h2]
  · obtain ⟨R0, ds, r, tb, h0, h1, h2, kk⟩ := hs
    refine ⟨_, PSs.nox pss_sem, h cdv A outer s H ds r E hr h2 H R0 R0 _ H _ (begin_st tb h0 h1) ⟨fun ρ' R' σ' H' e s' => ?_, fun r' v R' H' e t q => ?_, fun _ _ _ _ z => z.elim, fun _ _ _ _ z => z.elim⟩⟩
    · subst e
      exact kk _ R' H' s'.stp Rp.non
    · subst e
      exact kk v R' H' t q
end
end
end PV

namespace PV
open PySem PySem.Spec PyProof.Rows L2
section
variable {X : Cx} {ρ ρ' : List Sl} {pos : Pos} {a b c e o : Expr} {st : Stmt} {P : Post} {body : List Stmt} {K : PySem.W.Frag}
theorem Gv.weak {g : TG} {r : Rs} {ρ1 ρ2 : List Sl} (l : Lt ρ ρ1) (h : Gv K g ρ r ρ2) : Gv K g ρ1 r ρ2 := fun B R0 R σ H v Q s hv k => h B R0 R σ H v Q (s.weak l) hv k
theorem Lt.eq' {s s' : Sl} {a b : List Sl} (e : s' = s) (h : Lt a b) : Lt (s' :: a) (s :: b) := by subst e; exact .eq h
/-- the loops by their state at each turn: S i; I i: what else is known -/
def turnS (P : Post) (I : Nat → Prop) (S : Nat → List Sl) (i : Nat) : Post := ⟨fun ρ' => I (i + 1) ∧ Lt (S (i + 1)) ρ', P.rt, P.nx, fun ρ' => I (i + 1) ∧ Lt (S (i + 1)) ρ'⟩
theorem sx_rng {tg : Expr} {g : TG} {j : Int} {p p2 : Pos} (I : Nat → Prop) (S : Nat → List Sl) (hp : PassesOwn (model X.prog X.w) X.A X.env X.xe) (hc : X.calm = true) (hgl : Gl X "range") (hm : X.mg "range" = none) (ha : EX X a ρ (.sh (.int j))) (hj : -(2 ^ 62) ≤ j ∧ j < 2 ^ 62) (hg : PG X tg g) (h0 : I 0 ∧ Lt (S 0) ρ)
    (hs : ∀ i : Nat, (i : Int) < j → I i → ∃ ρ2, Gv X.K g (S i) (.sh (.int i)) ρ2 ∧ SXs X body ρ2 (turnS P I S i)) (hd : I j.toNat → ∀ ρ1, Lt (S j.toNat) ρ1 → P.nx ρ1)
    (hst : starEach [a] X.env = [(false, eval a X.env)] := by rfl) (hf : ∀ x, foldedSetIterable (.Call (.Name "range" p) [a] [] p2) X.env x = pure x := by intro _; rfl) : SX X (.For tg (.Call (.Name "range" p) [a] [] p2) body [] pos) ρ P :=
  sx_range1 (fun i ρ => I i ∧ Lt (S i) ρ) hp hc hgl hm (ax_cons ha ax_nil hst) hj hg h0 (fun i ρ1 hi ⟨w1, w2⟩ => by
    obtain ⟨ρ2, gv, sb⟩ := hs i hi w1
    exact ⟨ρ2, gv.weak w2, sb⟩) (fun ρ1 ⟨w1, w2⟩ => hd w1 ρ1 w2) hst hf
theorem sx_forL {α : Type} {tg iter : Expr} {g : TG} (l : List α) (emb : α → D) (I : Nat → Prop) (S : Nat → List Sl) (hp : PassesOwn (model X.prog X.w) X.A X.env X.xe) (hc : X.calm = true) (hi : EX X iter ρ (.sh (.lst (l.map emb)))) (hg : PG X tg g) (h0 : I 0 ∧ Lt (S 0) ρ)
    (hs : ∀ (i : Nat) (a : α), l[i]? = some a → I i → ∃ ρ2, Gv X.K g (S i) (.sh (emb a)) ρ2 ∧ SXs X body ρ2 (turnS P I S i)) (hd : I l.length → ∀ ρ1, Lt (S l.length) ρ1 → P.nx ρ1)
    (hf : ∀ x, foldedSetIterable iter X.env x = pure x := by intro _; rfl) : SX X (.For tg iter body [] pos) ρ P :=
  sx_for (fun i ρ => I i ∧ Lt (S i) ρ) hp hc hi hg h0 (fun i d ρ1 hi ⟨w1, w2⟩ => by
    rw [List.getElem?_map] at hi
    cases q : l[i]? with
    | none => rw [q] at hi; cases hi
    | some a =>
      rw [q] at hi
      cases hi
      obtain ⟨ρ2, gv, sb⟩ := hs i a q w1
      exact ⟨ρ2, gv.weak w2, sb⟩) (fun ρ1 ⟨w1, w2⟩ => hd (by rw [List.length_map] at w1; exact w1) ρ1 (by rw [List.length_map] at w2; exact w2)) hf
theorem sx_forTu {α : Type} {tg iter : Expr} {g : TG} (l : List α) (emb : α → D) (I : Nat → Prop) (S : Nat → List Sl) (hp : PassesOwn (model X.prog X.w) X.A X.env X.xe) (hc : X.calm = true) (hi : EX X iter ρ (.sh (.tup (l.map emb)))) (hg : PG X tg g) (h0 : I 0 ∧ Lt (S 0) ρ)
    (hs : ∀ (i : Nat) (a : α), l[i]? = some a → I i → ∃ ρ2, Gv X.K g (S i) (.sh (emb a)) ρ2 ∧ SXs X body ρ2 (turnS P I S i)) (hd : I l.length → ∀ ρ1, Lt (S l.length) ρ1 → P.nx ρ1)
    (hf : ∀ x, foldedSetIterable iter X.env x = pure x := by intro _; rfl) : SX X (.For tg iter body [] pos) ρ P :=
  sx_forT (fun i ρ => I i ∧ Lt (S i) ρ) hp hc hi hg h0 (fun i d ρ1 hi ⟨w1, w2⟩ => by
    rw [List.getElem?_map] at hi
    cases q : l[i]? with
    | none => rw [q] at hi; cases hi
    | some a =>
      rw [q] at hi
      cases hi
      obtain ⟨ρ2, gv, sb⟩ := hs i a q w1
      exact ⟨ρ2, gv.weak w2, sb⟩) (fun ρ1 ⟨w1, w2⟩ => hd (by rw [List.length_map] at w1; exact w1) ρ1 (by rw [List.length_map] at w2; exact w2)) hf
theorem sx_forC {tg iter : Expr} {g : TG} {z : Str} (I : Nat → Prop) (S : Nat → List Sl) (hp : PassesOwn (model X.prog X.w) X.A X.env X.xe) (hc : X.calm = true) (hi : EX X iter ρ (.sh (.str z))) (hg : PG X tg g) (h0 : I 0 ∧ Lt (S 0) ρ)
    (hs : ∀ (i c : Nat), z.cps[i]? = some c → I i → ∃ ρ2, Gv X.K g (S i) (.sh (.str ⟨#[c]⟩)) ρ2 ∧ SXs X body ρ2 (turnS P I S i)) (hd : I z.cps.size → ∀ ρ1, Lt (S z.cps.size) ρ1 → P.nx ρ1)
    (hf : ∀ x, foldedSetIterable iter X.env x = pure x := by intro _; rfl) : SX X (.For tg iter body [] pos) ρ P :=
  sx_forS (fun i ρ => I i ∧ Lt (S i) ρ) hp hc hi hg h0 (fun i c ρ1 hi ⟨w1, w2⟩ => by
    obtain ⟨ρ2, gv, sb⟩ := hs i c hi w1
    exact ⟨ρ2, gv.weak w2, sb⟩) (fun ρ1 ⟨w1, w2⟩ => hd w1 ρ1 w2) hf

/-! ### places, as numbers -/
theorem at_map {α : Type} {l : List α} {emb : α → D} {i : Int} {a : α} (e : atI l i = some a) : atI (l.map emb) i = some (emb a) := by
  unfold atI at e ⊢
  rw [List.length_map]
  cases q : ixN l.length i with
  | none => rw [q] at e; cases e
  | some j =>
    rw [q] at e
    have e : l[j]? = some a := e
    show (l.map emb)[j]? = some (emb a)
    rw [List.getElem?_map, e]; rfl
theorem at_pos {α : Type} {l : List α} {i : Int} (d : α) (h0 : 0 ≤ i) (h : i < l.length) : atI l i = some (l.getD i.toNat d) := by
  unfold atI ixN
  rw [if_pos h0, if_pos h]
  show l[i.toNat]? = _
  have : i.toNat < l.length := by omega
  rw [List.getElem?_eq_getElem this, List.getD_eq_getElem?_getD, List.getElem?_eq_getElem this]
  rfl
end
end PV
namespace PV
theorem Lt.eqq {s s' : Sl} {a b : List Sl} (e : s' = s) (h : Lt a b) : Lt (s' :: a) (s :: b) := Lt.eq' e h
end PV

namespace PV
open PySem PySem.Spec PyProof.Rows L2
/-! ### == and != of dicts that are equal -/
def EqK (xs ys : List (Key × D)) : Prop := xs.length = ys.length ∧ ∀ p ∈ xs, ∃ d, getD ys p.1 = some d ∧ okD p.2 = true ∧ okD d = true ∧ PyData.eqv (toPy p.2) (toPy d) = true
def rEqK (K : PySem.W.Frag) (neg : Bool) : R2 := fun x y H Q => ∃ a b ks ls k1 k2, x = .ref a ∧ y = .ref b ∧ H a = some (.dK ks) ∧ H b = some (.dK ls) ∧ RpK K H ks k1 ∧ RpK K H ls k2 ∧ EqK k1 k2 ∧ Q (.bl (!neg)) H
section
variable {X : Cx} {pins : List (Addr × Obj)} {σ : L2.St} {H : Hp} {s : Shared}
theorem hits_of (I : Inv X pins σ H s) {A : Around} (hu : A.in1.units + 64 < cLine) {ls : List (Key × V)} {vb : List (Key × Value)} (rb : KV ls vb) {k2 : List (Key × D)} (r2 : RpK X.K H ls k2) :
    ∀ {ks : List (Key × V)} {va : List (Key × Value)} {k1 : List (Key × D)}, KV ks va → RpK X.K H ks k1 → (∀ p ∈ k1, ∃ d, getD k2 p.1 = some d ∧ okD p.2 = true ∧ okD d = true ∧ PyData.eqv (toPy p.2) (toPy d) = true) → PySem.W.KeqHits A.in1 s vb va true
  | [], _, _, ra, r1, _ => by cases ra; exact .nil
  | (k, v) :: ks, _, _, ra, r1, h => by
    unfold KV at ra
    cases ra with
    | @cons p q ps qs h1 t =>
      obtain ⟨h1, h2⟩ := h1
      obtain ⟨key, u⟩ := q
      cases r1 with
      | @cons k' v' vs d ds hd r1 =>
        obtain ⟨d2, g2, o1, o2, e⟩ := h (k, d) List.mem_cons_self
        obtain ⟨o11, o12⟩ := Bool.and_eq_true_iff.mp o1
        obtain ⟨o21, o22⟩ := Bool.and_eq_true_iff.mp o2
        rcases r2.get k with ⟨_, g3⟩ | ⟨v3, d3, g3, g4, rp3⟩
        · rw [g2] at g3; cases g3
        · rw [g2] at g4
          cases g4
          have rr : RelO (some v3) (valueAt vb k) := by rw [← g3]; exact rb.val k
          obtain ⟨y, hy, ry⟩ := rr.some_of
          have hk : k = key := h1
          subst hk
          obtain ⟨as, ra1⟩ := Dp.reads I _ _ u (hd.dp o11) h2
          obtain ⟨bs, rb1⟩ := Dp.reads I _ _ y (rp3.dp o21) ry
          have q := PySem.W.keq_at (A := A) ra1 rb1 o12 o22 hu
          rw [e] at q
          show PySem.W.KeqHits A.in1 s vb ((k, u) :: qs) (true && true)
          exact .hit hy q (hits_of I hu rb r2 t r1 fun p hp => h p (List.mem_cons_of_mem _ hp))
end
section
variable {X : Cx}
theorem op_neK (hu : X.A.units + 100 < cLine) : OpR X (compareOp .NotEq) (rEqK X.K true) := by
  intro pins s σ H x y v u Q I rx ry h
  obtain ⟨a, b, ks, ls, k1, k2, rfl, rfl, ha, hb, r1, r2, ⟨hl, he⟩, q⟩ := h
  cases (show v = Value.ref a from rx)
  cases (show u = Value.ref b from ry)
  obtain ⟨_, ya, va, ra, da⟩ := (show ObjOk X.prog X.w H s.heap a (.dK ks) from I.hok a _ ha)
  obtain ⟨_, yb, vb, rb, db⟩ := (show ObjOk X.prog X.w H s.heap b (.dK ls) from I.hok b _ hb)
  refine PySem.W.keq_ne (knd := mixKind X.prog X.w) (r := true) ya yb da db (by omega) (fun _ => hits_of I (by show X.A.units + 1 + 64 < cLine; omega) rb r2 ra r1 he) ?_
  have e : va.length = vb.length := by rw [← ra.length, ← rb.length, r1.len, r2.len]; exact hl
  rw [show (!(va.length == vb.length && true)) = false from by rw [e]; simp]
  exact ⟨.bl false, H, I, rfl, q⟩
theorem op_eqK (hu : X.A.units + 100 < cLine) : OpR X (compareOp .Eq) (rEqK X.K false) := by
  intro pins s σ H x y v u Q I rx ry h
  obtain ⟨a, b, ks, ls, k1, k2, rfl, rfl, ha, hb, r1, r2, ⟨hl, he⟩, q⟩ := h
  cases (show v = Value.ref a from rx)
  cases (show u = Value.ref b from ry)
  obtain ⟨_, ya, va, ra, da⟩ := (show ObjOk X.prog X.w H s.heap a (.dK ks) from I.hok a _ ha)
  obtain ⟨_, yb, vb, rb, db⟩ := (show ObjOk X.prog X.w H s.heap b (.dK ls) from I.hok b _ hb)
  refine PySem.W.keq_eq (knd := mixKind X.prog X.w) (r := true) ya yb da db (by omega) (fun _ => hits_of I (by show X.A.units + 1 + 64 < cLine; omega) rb r2 ra r1 he) ?_
  have e : va.length = vb.length := by rw [← ra.length, ← rb.length, r1.len, r2.len]; exact hl
  rw [show (va.length == vb.length && true) = true from by rw [e]; simp]
  exact ⟨.bl true, H, I, rfl, q⟩
theorem hu100 {A : Around} {k : Nat} (hr : Room k A) : A.units + 100 < cLine := by have := hr.un; omega
variable {ρ : List Sl} {pos : Pos} {a b : Expr}
theorem o2_K {K : PySem.W.Frag} {neg : Bool} {ra rb : Rs} {k1 k2 : List (Key × D)} (e1 : ra.dat = .dK k1) (e2 : rb.dat = .dK k2) (h : EqK k1 k2) : Op2 K (rEqK K neg) ra rb (.sh (.bl (!neg))) := fun H0 R H x y Q s _ rx ry k => by
  obtain ⟨p, ks, rfl, hp, r1⟩ := dk_of s rx e1
  obtain ⟨q, ls, rfl, hq, r2⟩ := dk_of s ry e2
  exact ⟨p, q, ks, ls, k1, k2, rfl, rfl, hp, hq, r1, r2, h, k _ R H s.step (Rp.bl _)⟩
theorem tx_neK {ra rb : Rs} {k1 k2 : List (Key × D)} (hu : X.A.units + 100 < cLine) (ha : EX X a ρ ra) (hb : EX X b ρ rb) (e1 : ra.dat = .dK k1) (e2 : rb.dat = .dK k2) (h : EqK k1 k2) : TX X (.Compare a [.NotEq] [b] pos) ρ false := tx_cmp (op_neK hu) (o2_K e1 e2 h) ha hb (nomark _)
theorem tx_eqK {ra rb : Rs} {k1 k2 : List (Key × D)} (hu : X.A.units + 100 < cLine) (ha : EX X a ρ ra) (hb : EX X b ρ rb) (e1 : ra.dat = .dK k1) (e2 : rb.dat = .dK k2) (h : EqK k1 k2) : TX X (.Compare a [.Eq] [b] pos) ρ true := tx_cmp (op_eqK hu) (o2_K e1 e2 h) ha hb (nomark _)
end
/-! ### two ways join -/
section
variable {X : Cx} {ρ : List Sl} {pos : Pos} {c : Expr} {P : Post} {t u : List Stmt}
theorem sx_ifJ (S : List Sl) {k : Bool} (hc : TX X c ρ k) (h1 : k = true → SXs X t ρ ⟨fun ρ' => Lt S ρ', P.rt, P.bk, P.ct⟩) (h2 : k = false → SXs X u ρ ⟨fun ρ' => Lt S ρ', P.rt, P.bk, P.ct⟩) (h : ∀ ρ', Lt S ρ' → P.nx ρ') : SX X (.If c t u pos) ρ P :=
  sx_if hc (fun e => (h1 e).imp h (fun _ z => z) (fun _ z => z) fun _ z => z) (fun e => (h2 e).imp h (fun _ z => z) (fun _ z => z) fun _ z => z)
/-- truth of a list, a tuple -/
theorem tx_seq {e : Expr} {r : Rs} {ds : List D} (h : EX X e ρ r) (e1 : sq r.dat = some ds) (he : ∀ whole, isTrue e X.env whole = (do let v ← whole; standAt e.pos; holding [v] (truthy v)) := by intro _; rfl) : TX X e ρ (!ds.isEmpty) :=
  .of (pt_truth pe_sem he) fun B R0 R σ H Q s k => h B R0 R σ H _ s fun v R1 H1 t1 q1 => by
    obtain ⟨p, ys, rfl, h1, h2⟩ := sq_of (q1.rp t1.sub) e1
    refine ⟨!ds.isEmpty, ?_, k R1 H1 t1⟩
    have e : (!ys.isEmpty) = (!ds.isEmpty) := by cases h2 <;> rfl
    rw [← e]
    rcases h1 with h1 | h1
    · exact .inl ⟨ys, h1, rfl⟩
    · exact .inr (.inl ⟨ys, h1, rfl⟩)
end
/-! ### places of texts -/
theorem Str.len_app (a b : Str) : (a ++ b).length = a.length + b.length := by
  show (a.cps ++ b.cps).size = _
  rw [Array.size_append]; rfl
end PV

namespace PV
open PySem PySem.Spec PyProof.Rows L2
section
variable {X : Cx} {ρ : List Sl} {pos : Pos} {CX : CXT} {E : XK} {k : Nat} {f : Addr} {fd : FuncData} {ps : List Str} {Rel : List D → Rs → Prop} {x : Str} {p : Pos} {r : Rs}
theorem ex_call1 {e0 : Expr} {d0 : D} (F : FnOk X.prog X.w X.K X.mg X.base CX k f fd ps (spR X.K Rel)) (hr : Room k X.A) (hg : Gl X x) (hm : X.mg x = some (.ref f)) (hk : PySem.W.keepIn X.K (.ref f) = true) (hb : Binds X.K fd ps []) (hx : Passes CX X E)
    (ha : AX X [e0] ρ [.sh d0]) (hR : Rel [d0] r) (hdb : (x == ("__debug__" : Str)) = false := by decide) (he : starEach [e0] X.env = (false, eval e0 X.env) :: starEach [] X.env := by rfl) (hpl : (backTo pos (starEach [] X.env)).any (·.1) = false := by rfl) :
    EX X (.Call (.Name x p) [e0] [] pos) ρ r := ex_call (ds := [d0]) F hr hg hm hk hb hx ha hR hdb he hpl
theorem ex_call2 {e0 e1 : Expr} {d0 d1 : D} (F : FnOk X.prog X.w X.K X.mg X.base CX k f fd ps (spR X.K Rel)) (hr : Room k X.A) (hg : Gl X x) (hm : X.mg x = some (.ref f)) (hk : PySem.W.keepIn X.K (.ref f) = true) (hb : Binds X.K fd ps []) (hx : Passes CX X E)
    (ha : AX X [e0, e1] ρ [.sh d0, .sh d1]) (hR : Rel [d0, d1] r) (hdb : (x == ("__debug__" : Str)) = false := by decide) (he : starEach [e0, e1] X.env = (false, eval e0 X.env) :: starEach [e1] X.env := by rfl) (hpl : (backTo pos (starEach [e1] X.env)).any (·.1) = false := by rfl) :
    EX X (.Call (.Name x p) [e0, e1] [] pos) ρ r := ex_call (ds := [d0, d1]) F hr hg hm hk hb hx ha hR hdb he hpl
theorem ex_call3 {e0 e1 e2 : Expr} {d0 d1 d2 : D} (F : FnOk X.prog X.w X.K X.mg X.base CX k f fd ps (spR X.K Rel)) (hr : Room k X.A) (hg : Gl X x) (hm : X.mg x = some (.ref f)) (hk : PySem.W.keepIn X.K (.ref f) = true) (hb : Binds X.K fd ps []) (hx : Passes CX X E)
    (ha : AX X [e0, e1, e2] ρ [.sh d0, .sh d1, .sh d2]) (hR : Rel [d0, d1, d2] r) (hdb : (x == ("__debug__" : Str)) = false := by decide) (he : starEach [e0, e1, e2] X.env = (false, eval e0 X.env) :: starEach [e1, e2] X.env := by rfl) (hpl : (backTo pos (starEach [e1, e2] X.env)).any (·.1) = false := by rfl) :
    EX X (.Call (.Name x p) [e0, e1, e2] [] pos) ρ r := ex_call (ds := [d0, d1, d2]) F hr hg hm hk hb hx ha hR hdb he hpl
theorem ex_call4 {e0 e1 e2 e3 : Expr} {d0 d1 d2 d3 : D} (F : FnOk X.prog X.w X.K X.mg X.base CX k f fd ps (spR X.K Rel)) (hr : Room k X.A) (hg : Gl X x) (hm : X.mg x = some (.ref f)) (hk : PySem.W.keepIn X.K (.ref f) = true) (hb : Binds X.K fd ps []) (hx : Passes CX X E)
    (ha : AX X [e0, e1, e2, e3] ρ [.sh d0, .sh d1, .sh d2, .sh d3]) (hR : Rel [d0, d1, d2, d3] r) (hdb : (x == ("__debug__" : Str)) = false := by decide) (he : starEach [e0, e1, e2, e3] X.env = (false, eval e0 X.env) :: starEach [e1, e2, e3] X.env := by rfl) (hpl : (backTo pos (starEach [e1, e2, e3] X.env)).any (·.1) = false := by rfl) :
    EX X (.Call (.Name x p) [e0, e1, e2, e3] [] pos) ρ r := ex_call (ds := [d0, d1, d2, d3]) F hr hg hm hk hb hx ha hR hdb he hpl
theorem ex_call5 {e0 e1 e2 e3 e4 : Expr} {d0 d1 d2 d3 d4 : D} (F : FnOk X.prog X.w X.K X.mg X.base CX k f fd ps (spR X.K Rel)) (hr : Room k X.A) (hg : Gl X x) (hm : X.mg x = some (.ref f)) (hk : PySem.W.keepIn X.K (.ref f) = true) (hb : Binds X.K fd ps []) (hx : Passes CX X E)
    (ha : AX X [e0, e1, e2, e3, e4] ρ [.sh d0, .sh d1, .sh d2, .sh d3, .sh d4]) (hR : Rel [d0, d1, d2, d3, d4] r) (hdb : (x == ("__debug__" : Str)) = false := by decide) (he : starEach [e0, e1, e2, e3, e4] X.env = (false, eval e0 X.env) :: starEach [e1, e2, e3, e4] X.env := by rfl) (hpl : (backTo pos (starEach [e1, e2, e3, e4] X.env)).any (·.1) = false := by rfl) :
    EX X (.Call (.Name x p) [e0, e1, e2, e3, e4] [] pos) ρ r := ex_call (ds := [d0, d1, d2, d3, d4]) F hr hg hm hk hb hx ha hR hdb he hpl
theorem ex_call6 {e0 e1 e2 e3 e4 e5 : Expr} {d0 d1 d2 d3 d4 d5 : D} (F : FnOk X.prog X.w X.K X.mg X.base CX k f fd ps (spR X.K Rel)) (hr : Room k X.A) (hg : Gl X x) (hm : X.mg x = some (.ref f)) (hk : PySem.W.keepIn X.K (.ref f) = true) (hb : Binds X.K fd ps []) (hx : Passes CX X E)
    (ha : AX X [e0, e1, e2, e3, e4, e5] ρ [.sh d0, .sh d1, .sh d2, .sh d3, .sh d4, .sh d5]) (hR : Rel [d0, d1, d2, d3, d4, d5] r) (hdb : (x == ("__debug__" : Str)) = false := by decide) (he : starEach [e0, e1, e2, e3, e4, e5] X.env = (false, eval e0 X.env) :: starEach [e1, e2, e3, e4, e5] X.env := by rfl) (hpl : (backTo pos (starEach [e1, e2, e3, e4, e5] X.env)).any (·.1) = false := by rfl) :
    EX X (.Call (.Name x p) [e0, e1, e2, e3, e4, e5] [] pos) ρ r := ex_call (ds := [d0, d1, d2, d3, d4, d5]) F hr hg hm hk hb hx ha hR hdb he hpl
theorem ex_tup0 {x1} (h : AX X [] ρ []) : EX X (.Tuple [] x1 pos) ρ (.sh (.tup [])) := ex_tup (ds := []) h (by show 0 ≤ sizeLine; decide)
theorem ex_lst0 (h : AX X [] ρ []) : EX X (.List [] pos) ρ (.nw (.lst [])) := ex_lst (ds := []) h (by show 0 ≤ sizeLine; decide)
theorem ex_tup1 {e0 : Expr} {d0 : D} {x1} (h : AX X [e0] ρ [.sh d0]) : EX X (.Tuple [e0] x1 pos) ρ (.sh (.tup [d0])) := ex_tup (ds := [d0]) h (by show 1 ≤ sizeLine; decide)
theorem ex_lst1 {e0 : Expr} {d0 : D} (h : AX X [e0] ρ [.sh d0]) : EX X (.List [e0] pos) ρ (.nw (.lst [d0])) := ex_lst (ds := [d0]) h (by show 1 ≤ sizeLine; decide)
theorem ex_tup2 {e0 e1 : Expr} {d0 d1 : D} {x1} (h : AX X [e0, e1] ρ [.sh d0, .sh d1]) : EX X (.Tuple [e0, e1] x1 pos) ρ (.sh (.tup [d0, d1])) := ex_tup (ds := [d0, d1]) h (by show 2 ≤ sizeLine; decide)
theorem ex_lst2 {e0 e1 : Expr} {d0 d1 : D} (h : AX X [e0, e1] ρ [.sh d0, .sh d1]) : EX X (.List [e0, e1] pos) ρ (.nw (.lst [d0, d1])) := ex_lst (ds := [d0, d1]) h (by show 2 ≤ sizeLine; decide)
theorem ex_tup3 {e0 e1 e2 : Expr} {d0 d1 d2 : D} {x1} (h : AX X [e0, e1, e2] ρ [.sh d0, .sh d1, .sh d2]) : EX X (.Tuple [e0, e1, e2] x1 pos) ρ (.sh (.tup [d0, d1, d2])) := ex_tup (ds := [d0, d1, d2]) h (by show 3 ≤ sizeLine; decide)
theorem ex_lst3 {e0 e1 e2 : Expr} {d0 d1 d2 : D} (h : AX X [e0, e1, e2] ρ [.sh d0, .sh d1, .sh d2]) : EX X (.List [e0, e1, e2] pos) ρ (.nw (.lst [d0, d1, d2])) := ex_lst (ds := [d0, d1, d2]) h (by show 3 ≤ sizeLine; decide)
theorem ex_tup4 {e0 e1 e2 e3 : Expr} {d0 d1 d2 d3 : D} {x1} (h : AX X [e0, e1, e2, e3] ρ [.sh d0, .sh d1, .sh d2, .sh d3]) : EX X (.Tuple [e0, e1, e2, e3] x1 pos) ρ (.sh (.tup [d0, d1, d2, d3])) := ex_tup (ds := [d0, d1, d2, d3]) h (by show 4 ≤ sizeLine; decide)
theorem ex_lst4 {e0 e1 e2 e3 : Expr} {d0 d1 d2 d3 : D} (h : AX X [e0, e1, e2, e3] ρ [.sh d0, .sh d1, .sh d2, .sh d3]) : EX X (.List [e0, e1, e2, e3] pos) ρ (.nw (.lst [d0, d1, d2, d3])) := ex_lst (ds := [d0, d1, d2, d3]) h (by show 4 ≤ sizeLine; decide)
theorem ex_tup5 {e0 e1 e2 e3 e4 : Expr} {d0 d1 d2 d3 d4 : D} {x1} (h : AX X [e0, e1, e2, e3, e4] ρ [.sh d0, .sh d1, .sh d2, .sh d3, .sh d4]) : EX X (.Tuple [e0, e1, e2, e3, e4] x1 pos) ρ (.sh (.tup [d0, d1, d2, d3, d4])) := ex_tup (ds := [d0, d1, d2, d3, d4]) h (by show 5 ≤ sizeLine; decide)
theorem ex_lst5 {e0 e1 e2 e3 e4 : Expr} {d0 d1 d2 d3 d4 : D} (h : AX X [e0, e1, e2, e3, e4] ρ [.sh d0, .sh d1, .sh d2, .sh d3, .sh d4]) : EX X (.List [e0, e1, e2, e3, e4] pos) ρ (.nw (.lst [d0, d1, d2, d3, d4])) := ex_lst (ds := [d0, d1, d2, d3, d4]) h (by show 5 ≤ sizeLine; decide)
end
end PV
namespace PV
open PySem PySem.Spec PyProof.Rows L2
section
variable {X : Cx} {ρ : List Sl} {pos : Pos} {a b c e o : Expr} {P : Post}
/-! ### dicts by texts -/
theorem ex_dget2S {r : Rs} {kds : List (Key × D)} {k : Str} {d d' : D} {f : Expr} {apos cpos : Pos} (hu : X.A.units + 1 < cLine) (ho : EX X o ρ r) (e1 : r.dat = .dK kds) (hk : EX X e ρ (.sh (.str k))) (hf : EX X f ρ (.sh d)) (he : (getD kds (.inr k)).getD d = d') (hi : imm d' = true) (m : M2 X o "get" apos e f cpos) :
    EX X (.Call (.Attribute o "get" apos) [e, f] [] cpos) ρ (.sh d') := he ▸ ex_dget2 (k := .inr k) hu ho e1 hk hf (he ▸ hi) m
theorem ex_dgetS {r : Rs} {kds : List (Key × D)} {k : Str} {d : D} (hu : X.A.units + 1 < cLine) (ho : EX X o ρ r) (e1 : r.dat = .dK kds) (hk : EX X e ρ (.sh (.str k))) (hg : getD kds (.inr k) = some d) (hi : imm d = true) (hs : NoSl e := by exact fun _ _ => rfl) :
    EX X (.Subscript o e pos) ρ (.sh d) := ex_dget (k := .inr k) hu ho e1 hk hg hi hs
theorem ex_dinS {r : Rs} {kds : List (Key × D)} {k : Str} (hu : X.A.units + 1 < cLine) (hk : EX X e ρ (.sh (.str k))) (ho : EX X o ρ r) (e1 : r.dat = .dK kds) (hm : behindInMarks .In o = false := by rfl) : EX X (.Compare e [.In] [o] pos) ρ (.sh (.bl (getD kds (.inr k)).isSome)) := ex_din (k := .inr k) hu hk ho e1 hm
theorem tx_dinS {r : Rs} {kds : List (Key × D)} {k : Str} (hu : X.A.units + 1 < cLine) (hk : EX X e ρ (.sh (.str k))) (ho : EX X o ρ r) (e1 : r.dat = .dK kds) (hm : behindInMarks .In o = false := by rfl) : TX X (.Compare e [.In] [o] pos) ρ (getD kds (.inr k)).isSome := tx_din (k := .inr k) hu hk ho e1 hm
theorem tx_dnotinS {r : Rs} {kds : List (Key × D)} {k : Str} (hu : X.A.units + 1 < cLine) (hk : EX X e ρ (.sh (.str k))) (ho : EX X o ρ r) (e1 : r.dat = .dK kds) (hm : behindInMarks .NotIn o = false := by rfl) : TX X (.Compare e [.NotIn] [o] pos) ρ (!(getD kds (.inr k)).isSome) := tx_dnotin (k := .inr k) hu hk ho e1 hm
theorem sx_dputS {i : Nat} {ix val : Expr} {kds : List (Key × D)} {k : Str} {d : D} {p' : Pos} (hu : X.A.units + 1 < cLine) (po : PE X o (tVar i)) (hi : ρ[i]? = some (.ow (.dK kds))) (hv : EX X val ρ (.sh d)) (hk : EX X ix ρ (.sh (.str k))) (hl : kds.length < sizeLine) (h : P.nx ((dr ρ).set i (.ow (.dK (putD kds (.inr k) d)))))
    (hs : swapsWith val (some (.Subscript o ix p')) pos.line X.env = pure false := by rfl) : SX X (.Assign [.Subscript o ix p'] val pos) ρ P := sx_dput (k := .inr k) hu po hi hv hk hl h hs
end
end PV
namespace PV
open PySem PySem.Spec PyProof.Rows L2
def isI : D → Bool
  | .int _ => true | .bl _ => true | _ => false
def isB : D → Bool
  | .bl _ => true | _ => false
def isS : D → Bool
  | .str _ => true | _ => false
def isL : D → Bool
  | .lst _ => true | .scr _ => true | _ => false
def isTu : D → Bool
  | .tup _ => true | _ => false
def isDi : D → Bool
  | .dK _ => true | _ => false
theorem kit_I (d : D) : kitB (tyD d) "int" = some (isI d) := by
  have h1 : kitB "NoneType" "int" = some (isI .non) := by decide +kernel
  have h2 : kitB "bool" "int" = some (isI (.bl true)) := by decide +kernel
  have h3 : kitB "int" "int" = some (isI (.int 0)) := by decide +kernel
  have h4 : kitB "str" "int" = some (isI (.str "")) := by decide +kernel
  have h5 : kitB "list" "int" = some (isI (.lst [])) := by decide +kernel
  have h6 : kitB "tuple" "int" = some (isI (.tup [])) := by decide +kernel
  have h7 : kitB "dict" "int" = some (isI (.dK [])) := by decide +kernel
  cases d <;> assumption
theorem kit_B (d : D) : kitB (tyD d) "bool" = some (isB d) := by
  have h1 : kitB "NoneType" "bool" = some (isB .non) := by decide +kernel
  have h2 : kitB "bool" "bool" = some (isB (.bl true)) := by decide +kernel
  have h3 : kitB "int" "bool" = some (isB (.int 0)) := by decide +kernel
  have h4 : kitB "str" "bool" = some (isB (.str "")) := by decide +kernel
  have h5 : kitB "list" "bool" = some (isB (.lst [])) := by decide +kernel
  have h6 : kitB "tuple" "bool" = some (isB (.tup [])) := by decide +kernel
  have h7 : kitB "dict" "bool" = some (isB (.dK [])) := by decide +kernel
  cases d <;> assumption
theorem kit_S (d : D) : kitB (tyD d) "str" = some (isS d) := by
  have h1 : kitB "NoneType" "str" = some (isS .non) := by decide +kernel
  have h2 : kitB "bool" "str" = some (isS (.bl true)) := by decide +kernel
  have h3 : kitB "int" "str" = some (isS (.int 0)) := by decide +kernel
  have h4 : kitB "str" "str" = some (isS (.str "")) := by decide +kernel
  have h5 : kitB "list" "str" = some (isS (.lst [])) := by decide +kernel
  have h6 : kitB "tuple" "str" = some (isS (.tup [])) := by decide +kernel
  have h7 : kitB "dict" "str" = some (isS (.dK [])) := by decide +kernel
  cases d <;> assumption
theorem kit_L (d : D) : kitB (tyD d) "list" = some (isL d) := by
  have h1 : kitB "NoneType" "list" = some (isL .non) := by decide +kernel
  have h2 : kitB "bool" "list" = some (isL (.bl true)) := by decide +kernel
  have h3 : kitB "int" "list" = some (isL (.int 0)) := by decide +kernel
  have h4 : kitB "str" "list" = some (isL (.str "")) := by decide +kernel
  have h5 : kitB "list" "list" = some (isL (.lst [])) := by decide +kernel
  have h6 : kitB "tuple" "list" = some (isL (.tup [])) := by decide +kernel
  have h7 : kitB "dict" "list" = some (isL (.dK [])) := by decide +kernel
  cases d <;> assumption
theorem kit_Tu (d : D) : kitB (tyD d) "tuple" = some (isTu d) := by
  have h1 : kitB "NoneType" "tuple" = some (isTu .non) := by decide +kernel
  have h2 : kitB "bool" "tuple" = some (isTu (.bl true)) := by decide +kernel
  have h3 : kitB "int" "tuple" = some (isTu (.int 0)) := by decide +kernel
  have h4 : kitB "str" "tuple" = some (isTu (.str "")) := by decide +kernel
  have h5 : kitB "list" "tuple" = some (isTu (.lst [])) := by decide +kernel
  have h6 : kitB "tuple" "tuple" = some (isTu (.tup [])) := by decide +kernel
  have h7 : kitB "dict" "tuple" = some (isTu (.dK [])) := by decide +kernel
  cases d <;> assumption
theorem kit_Di (d : D) : kitB (tyD d) "dict" = some (isDi d) := by
  have h1 : kitB "NoneType" "dict" = some (isDi .non) := by decide +kernel
  have h2 : kitB "bool" "dict" = some (isDi (.bl true)) := by decide +kernel
  have h3 : kitB "int" "dict" = some (isDi (.int 0)) := by decide +kernel
  have h4 : kitB "str" "dict" = some (isDi (.str "")) := by decide +kernel
  have h5 : kitB "list" "dict" = some (isDi (.lst [])) := by decide +kernel
  have h6 : kitB "tuple" "dict" = some (isDi (.tup [])) := by decide +kernel
  have h7 : kitB "dict" "dict" = some (isDi (.dK [])) := by decide +kernel
  cases d <;> assumption
section
variable {X : Cx} {ρ : List Sl} {pos p pT : Pos} {e : Expr} {T : Str} {n : String} {r : Rs} {f : D → Bool}
theorem ex_isF {d : D} (hk : ∀ d, kitB (tyD d) n = some (f d)) (hg : Gl X "isinstance") (hm : X.mg "isinstance" = none) (hgT : Gl X T) (hmT : X.mg T = none) (hvT : bootBuiltins T = some (.type n)) (hx : EX X e ρ r) (hd : r.dat = d := by rfl)
    (hnT : T ≠ "__name__" := by decide) (hdT : (T == ("__debug__" : Str)) = false := by decide)
    (hs : starEach [e, .Name T pT] X.env = (false, eval e X.env) :: starEach [.Name T pT] X.env := by rfl) (hs2 : starEach [.Name T pT] X.env = (false, eval (.Name T pT) X.env) :: starEach [] X.env := by rfl) (hpl : (backTo pos (starEach [.Name T pT] X.env)).any (·.1) = false := by rfl) :
    EX X (.Call (.Name "isinstance" p) [e, .Name T pT] [] pos) ρ (.sh (.bl (f d))) := hd ▸ ex_isi hg hm hgT hmT hvT hx (hk r.dat) hnT hdT hs hs2 hpl
end
end PV

/-! PvG: all(.. for x in text) where the test reads the module's names. -/
namespace PV
open PySem PySem.Spec PyProof.Rows L2 GxR

/-- the test of one sign; the module's names are known to it -/
def ElG (X : Cx) (scope : Scope) (x : Str) (elt : Expr) (pb : Nat → Bool) : Prop :=
  ∀ (ce : Env) (A2 : Around) (E2 : Value → Shared → Prop) (n : Nat) (t : Tok) (z : Shared) (ml : Str → Option Value),
    ce.scope = scope → ce.globals = X.env.globals → z.heap.Ns X.env.globals X.mg →
    z.heap.Ns ce.locals ml → ml x = some (.str ⟨#[n]⟩ t) →
    wpAny (model X.prog X.w) A2 (eval elt ce) (fun y z2 => y = .bool (pb n) ∧ Keeps z z2) E2 z
theorem elG_in {X : Cx} {scope : Scope} {x g k : Str} {tk : Tok} {p1 p2 p3 : Pos}
    (kd : scope.kind = .function) (lx : scope.names.lookup x = some .local)
    (lg : scope.names.lookup g = some .globalImplicit) (hm : X.mg g = some (.str k tk))
    (dx : (x == ("__debug__" : Str)) = false := by decide) (dg : (g == ("__debug__" : Str)) = false := by decide) :
    ElG X scope x (.Compare (.Name x p1) [.In] [.Name g p2] p3) fun n => decide (n ∈ k.cps.toList) := by
  intro ce A2 E2 n t z ml es eg ng nl hx
  have kd2 : ce.scope.kind = .function := by rw [es]; exact kd
  refine wpAny_Compare1 (wpAny_Name (wpAny_loadName_local kd2 ?_ nl hx ?_) dx)
  · show ce.scope.names.lookup x = _
    rw [es]; exact lx
  · refine Calls.Name_function_global kd2 ?_ (Calls.loadGlobal_global (by rw [eg]; exact ng) hm ?_) dg
    · show ce.scope.names.lookup g = _
      rw [es]; exact lg
    · exact PySem.P.in_str ⟨by rw [StrLaws.found_one], keeps_refl z⟩

section
variable {X : Cx} {pins : List (Addr × Obj)} {σ : L2.St} {H : Hp} {s : Shared}
/-- behind the making of the code: the heap has grown, the table perhaps -/
def After (P : Addr) (ps : Array Value) (z z3 : Shared) : Prop :=
  ∃ h tk more, z3 = { z with heap := h, toks := tk } ∧ Heap.ExtBut P z.heap h ∧ z.heap.objs.size ≤ h.objs.size ∧
    h.get? P = some { cls := .none, data := .fields (ps ++ more) } ∧ TriplesOk (ps ++ more).toList
theorem code_after {c P : Addr} {q : Str} {gp : Pos} {scope : Scope} {ps : Array Value} {z : Shared} {E : Value → Shared → Prop}
    (hc : X.env.code = .ref c) (cd : PySem.W.CodeHd z.heap c P) (hP : z.heap.get? P = some { cls := .none, data := .fields ps }) (ok : TriplesOk ps.toList) :
    wpAny (model X.prog X.w) X.A (genexprCode X.env gp q scope) (fun _ z3 => After P ps z z3) E z := by
  cases f : codeAmong gp ps.toList with
  | some v =>
    refine wpAny_genexprCode_hit hc (cd.code hP ok) f ?_
    exact ⟨z.heap, z.toks, #[], rfl, Heap.ExtBut.refl _ _, Nat.le_refl _, by simpa using hP, by simpa using ok⟩
  | none =>
    refine wpAny_genexprCodeX hc (cd.code hP ok) (cd.tab hP) f ?_
    intro v h tk ext ge lt k1 k2 k3 k4
    obtain ⟨o1, vs, f1, tf, fl, tg, inF, tx, tt, op, _, _, _, _, _, _, _, _, _, tr, _⟩ := k1
    exact ⟨h, tk, _, rfl, ext, Nat.le_trans ge (Nat.le_of_lt lt), k3.2, tr⟩

/-- the heap with the iterator on it -/
structure CodeKeep (X : Cx) (z : Shared) (o : Obj) (c P : Addr) (ps : Array Value) : Prop where
  cd : PySem.W.CodeHd (z.heap.push o) c P
  at_ : (z.heap.push o).get? P = some { cls := .none, data := .fields ps }
  lim : (z.heap.push o).NoLimit
theorem gen_made {c P : Addr} {elt iter : Expr} {x : Str} {px gp : Pos} {scope : Scope} {pb : Nat → Bool} {te : TE} {k : Nat} {Q' : Value → Shared → Prop} {W : Str → Hp → Prop}
    (room : Room k X.A) (tb : TabB X.base X.mg c P) (hc : X.env.code = .ref c) (gs : GenS X.env scope x) (pi : PE X iter te) (el : ElG X scope x elt pb)
    (fold : ∀ v, genFold iter X.env v = pure v) (I : Inv X pins σ H s) (run : te σ H fun v H1 => ∃ a : Str, v = .str a ∧ TabG H1 P ∧ W a H1)
    (fin : ∀ a H1 g z, W a H1 → Ready X pins σ H1 P a pb g z → Q' (.ref g) z) :
    wpAny (model X.prog X.w) X.A (eval (.GeneratorExp elt [⟨.Name x px, iter, [], 0⟩] scope gp) X.env) Q' X.xe s := by
  have hroom : X.A.depth < recursionLimit := by have := room.dp; omega
  refine wpAny_GeneratorExp_walksQ room.hd gs.co (closure_ok gs.free) gs.cell gs.dot gs.loc gs.kind hroom ?_ fold
  refine thn (pi.run pins s σ H _ I run) ?_
  rintro xv z ⟨v, H1, I1, rv, a, rfl, ⟨ps, hP, hok⟩, hW⟩
  obtain ⟨t, rfl⟩ := _root_.id rv
  refine wpAny_pyIter_str fun o It Wk it0 => ?_
  have pObj : z.heap.get? P = some { cls := .none, data := .fields ps } := I1.hok P _ hP
  have pLow : P < z.heap.objs.size := Heap.lt_size pObj
  have two : CodeKeep X z o c P ps := ⟨tb.code.keeps fun b u e => Heap.get?_push_of_some _ (I1.bk b u e), Heap.get?_push_of_some _ pObj, I1.nolimit.push o⟩
  refine ⟨two.lim, wpAny_mono (code_after hc two.cd two.at_ hok) ?_ fun _ _ e => e⟩
  rintro code z3 ⟨h, tk, more, rfl, ext, big, atP, okM⟩
  have old : ∀ b u, b ≠ P → z.heap.get? b = some u → h.get? b = some u := fun b u n e => ext b u n (Heap.get?_push_of_some _ e)
  have names : h.Ns mainGlobals X.mg := ((I1.mod.glob.keeps I1.bk).push o).extBut ext tb.gP
  have glob : X.env.globals = mainGlobals := I1.ok.glob
  have cLow : cStatics < z.heap.objs.size := by
    obtain ⟨_, q, _⟩ := I1.nolimit
    exact q.lt
  have cP : cStatics ≠ P := by
    intro e
    obtain ⟨_, ⟨o2, es, ep, h1, h2, _⟩, _⟩ := I1.nolimit
    rw [e, pObj] at h1
    cases h1; cases h2
  have gLow : mainGlobals < z.heap.objs.size := by
    have q := I1.mod.glob.keeps I1.bk
    exact q.lt
  have grow : z.heap.objs.size < h.objs.size := by
    have e : (z.heap.push o).objs.size = z.heap.objs.size + 1 := Heap.size_push ..
    have big : (z.heap.push o).objs.size ≤ h.objs.size := big
    omega
  obtain ⟨bm, ob, b1, b2, b3, b4, b5, b6, b7, b8⟩ := tb.bm
  refine wpAny_builtinsFor (m := X.mg) (by rw [glob]; exact names) b1 b2 (old _ _ b4 (I1.bk _ _ b5)) b6 b7 b8 ?_
  have low : ∀ b ∈ [z.heap.objs.size], b < h.objs.size := by
    intro b hb
    rw [List.mem_singleton.mp hb]
    exact grow
  refine ⟨_, _, _, _, _, It, fun _ => true, fun i y => ∃ n, a.cps[i]? = some n ∧ y = .bool (pb n), rfl, Wk, ?first, low, ?nolim, ?cnot, ?quiet, ?made⟩
  case first =>
    refine (Wk X.A room.hd).frame _ _ _ it0 fun b hb u e => ext b u ?_ e
    rw [List.mem_singleton.mp hb]
    exact (Nat.ne_of_lt pLow).symm
  case nolim => exact two.lim.extBut ext cP
  case cnot =>
    intro hb
    exact Nat.ne_of_lt cLow (List.mem_singleton.mp hb)
  case quiet =>
    intro href hh
    constructor
    · intro A2 E2 i v z2 m2 _ _ _ _ _
      simp only [List.forIn_nil]
      exact wpAny_pure ⟨rfl, keeps_refl _⟩
    · rintro A2 E2 i v z2 m2 _ ⟨n, u, hn, rfl⟩ _ nm hx kp
      have ng : z2.heap.Ns X.env.globals X.mg := by
        obtain ⟨o2, es, ep, h1, r⟩ := names
        rw [glob]
        refine ⟨o2, es, ep, kp mainGlobals (List.mem_range.mpr (Nat.lt_trans gLow grow)) ?_ _ (hh _ _ h1), r⟩
        intro q
        exact Nat.ne_of_lt gLow (List.mem_singleton.mp q)
      exact wpAny_mono (el _ A2 E2 n u z2 m2 rfl rfl ng nm hx) (fun y z4 r => ⟨⟨n, hn, r.1⟩, r.2⟩) fun _ _ e => e
  case made =>
    intro g h5 tk5 gens bare above sz5 k5 W5 at5
    simp only [GxR.passing_true, List.length_range] at W5
    refine fin a H1 g _ hW ⟨_, _, _, _, _, W5.in4_1, at5, ?truth, ?later⟩
    case truth =>
      rintro j y z6 Q6 E6 ⟨i, hi, n, hn, rfl⟩ q
      obtain ⟨hj, ej⟩ := List.getElem?_eq_some_iff.mp hi
      rw [List.getElem_range] at ej
      subst ej
      have q : Q6 (trF pb a.cps.toList j) z6 := q
      rw [trF_some (show a.cps.toList[j]? = some n by rw [Array.getElem?_toList]; exact hn)] at q
      exact wpAny_truthy_bool q
    case later =>
      intro z7 mv
      have off : ∀ b u, z.heap.get? b = some u → b ∉ h.objs.size :: [z.heap.objs.size] := by
        intro b u e q
        have lt := Heap.lt_size e
        rcases List.mem_cons.mp q with q | q
        · rw [q] at lt; exact Nat.lt_asymm lt grow
        · rw [List.mem_singleton.mp q] at lt; exact Nat.lt_irrefl _ lt
      have J := inv_tab (more := more) (h' := z7.heap) (g' := z7.gens) (d' := z7.drawn) (t' := z7.toks) I1 hP
        (fun b u n e => mv.heap b u (off b u e) (k5 b u (old b u n e)))
        (mv.heap P _ (off P _ pObj) (k5 P _ atP)) (AllBare.movedS (I1.bare.push bare) mv)
      rw [sh_eta z z7 mv.os] at J
      exact ⟨_, ⟨⟨_, upd_same, okM⟩, fun b n => upd_ne n⟩, J⟩
theorem pe_all {c P : Addr} {elt iter : Expr} {x : Str} {px p pos gp : Pos} {scope : Scope} {pb : Nat → Bool} {te : TE} {k : Nat}
    (room : Room k X.A) (hg : Gl X "all") (hm : X.mg "all" = none) (tb : TabB X.base X.mg c P) (hc : X.env.code = .ref c) (gs : GenS X.env scope x) (pi : PE X iter te) (el : ElG X scope x elt pb)
    (fold : ∀ v, genFold iter X.env v = pure v)
    (star : starEach [.GeneratorExp elt [⟨.Name x px, iter, [], 0⟩] scope gp] X.env = [(false, eval (.GeneratorExp elt [⟨.Name x px, iter, [], 0⟩] scope gp) X.env)] := by rfl) :
    PE X (.Call (.Name "all" p) [.GeneratorExp elt [⟨.Name x px, iter, [], 0⟩] scope gp] [] pos) (tAllS P pb te) := by
  constructor
  intro pins s σ H Q I run
  refine wpAny_Call_Name_kw (ld_blt I hg hm (by with_unfolding_all rfl) (PyProof.Rows.callWith_builtin1 ?_ star (by rfl)))
  rw [star]
  refine Calls.spliced_cons (gen_made (W := fun a H1 => ∀ H2, Tabbed P H1 H2 → Q (.bl (a.cps.toList.all pb)) H2) room tb hc gs pi el fold I run ?_)
  rintro a H1 g z hW ⟨fp, wr, G, F, It, W5, at5, tr, later⟩
  refine Calls.spliced_nil (call_all_walkS (W5.self 0 _ _ _ at5 ⟨g, fp, wr, G, _, F, It, _, rfl, W5, at5, tr, ?_⟩))
  intro z7 mv
  obtain ⟨H2, ht, J⟩ := later z7 mv
  refine ⟨.bl _, H2, J, rfl, ?_⟩
  have e := all_signs a pb
  rw [e]
  exact hW H2 ht
end

section
/-- a table has grown -/
theorem Step.tab {R H H2 : Hp} {P : Addr} (s : Sub R H) (h : TabG H P) (t : Tabbed P H H2) : Step R H R H2 := by
  obtain ⟨⟨qs, q1, q2⟩, same⟩ := t
  obtain ⟨ps, p1, p2⟩ := h
  have sm : Sm H H2 := by
    refine ⟨fun b o e n => ?_, fun b us e => ?_⟩
    · by_cases z : b = P
      · rw [z, p1] at e; cases e; exact n.elim
      · rw [same b z]; exact e
    · by_cases z : b = P
      · rw [z]; exact ⟨qs, q1, fun _ => q2⟩
      · exact ⟨us, by rw [same b z]; exact e, id⟩
  refine ⟨Sm.refl R, s.rh.trans sm, sm, fun a h h' => absurd h h', fun a xs e => ?_, fun a u xs e => ?_⟩
  · by_cases z : a = P
    · rw [z, q1] at e; cases e
    · rw [same a z] at e; exact s.tp a xs e
  · by_cases z : a = P
    · rw [z, q1] at e; cases e
    · rw [same a z] at e; exact s.tf a u xs e
variable {X : Cx} {ρ : List Sl}
theorem ex_allG {elt iter : Expr} {x : Str} {px p pos gp : Pos} {scope : Scope} {pb : Nat → Bool} {k : Nat} {a : Str} {g : Addr}
    (d : Str × Option Str) (hd : d ∈ genDefs) (hn : PySem.W.nsIn X.K mainGlobals d.1 = some (some (.ref g)))
    (room : Room k X.A) (hg : Gl X "all") (hm : X.mg "all" = none) (tb : TabB X.base X.mg (He.cT X.K d).1 (He.cT X.K d).2) (hc : X.env.code = .ref (He.cT X.K d).1)
    (gs : GenS X.env scope x) (el : ElG X scope x elt pb) (fold : ∀ v, genFold iter X.env v = pure v) (h : EX X iter ρ (.sh (.str a)))
    (star : starEach [.GeneratorExp elt [⟨.Name x px, iter, [], 0⟩] scope gp] X.env = [(false, eval (.GeneratorExp elt [⟨.Name x px, iter, [], 0⟩] scope gp) X.env)] := by rfl) :
    EX X (.Call (.Name "all" p) [.GeneratorExp elt [⟨.Name x px, iter, [], 0⟩] scope gp] [] pos) ρ (.sh (.bl (a.cps.toList.all pb))) :=
  EX.of (pe_all room hg hm tb hc gs pe_sem el fold star) fun B R0 R σ H Q s kk => h B R0 R σ H _ s fun v R1 H1 t1 q1 => by
    have tg := (s.step t1).tabs d hd ⟨g, hn⟩
    exact ⟨a, Res.str t1.sub q1 rfl, tg, fun H2 t => kk _ R1 H2 (t1.trans (Step.tab t1.sub tg t)) (Rp.bl _)⟩
end
section
variable {Pg : Program} {w : World} {mg : Str → Option Value} {base : Heap} {K : PySem.W.Frag} {q nm : Str} {params : Arguments} {bd : List Stmt} {scope : Scope} {kws : List (Str × V)} {fd : FuncData} {N ps : List Str} {k : Nat} {Rel : List D → Rs → Prop} {p : Str × Option Str}
/-- the rule for a def with a generator expression: its code's address is known -/
theorem ok_fnC (F : FunD K nm q params bd scope [] kws (He.fAd K p) fd) (S : FnScope N ps scope) (len : ∀ ds r, Rel ds r → ds.length = ps.length)
    (h : ∀ (A : Around) (outer : List Env) (s : Shared) (H : Hp) (ds : List D) (r : Rs) (E : XK), Room k (A.deeper (envOfC q scope s.heap.objs.size (He.fAd K p) (.ref (He.cT K p).1))) → Rel ds r →
      SXs (cxOf CX0 Pg w K mg base N q scope (He.fAd K p) (.ref (He.cT K p).1) A outer s H E).nox bd (begin N ds) ⟨fun _ => r = .sh .non, fun r' => r' = r, fun _ => False, fun _ => False⟩) : FnOk Pg w K mg base CX0 (k + 1) (He.fAd K p) fd ps (spR K Rel) := by
  obtain ⟨oc, od, dV, kV, doc, pm, an, cdv, ct, osl, rfl, lk, hcd, _, _⟩ := F.ex
  obtain ⟨c, rfl⟩ := He.codeIn_ref hcd
  have ec : He.codeOf K p = c := He.codeOf_eq lk rfl
  refine fn_of lk hcd S (fun vs H Q E hs => ?_) fun A outer s H vs Q E hr hs => ?_
  · obtain ⟨R0, ds, r, _, _, h1, h2, _⟩ := hs
    rw [h1.len, len ds r h2]
  · obtain ⟨R0, ds, r, tb, h0, h1, h2, kk⟩ := hs
    have h := h A outer s H ds r E
    rw [show (He.cT K p).1 = c from ec] at h
    refine ⟨_, PSs.nox pss_sem, h hr h2 H R0 R0 _ H _ (begin_st tb h0 h1) ⟨fun ρ' R' σ' H' e s' => ?_, fun r' v R' H' e t q => ?_, fun _ _ _ _ z => z.elim, fun _ _ _ _ z => z.elim⟩⟩
    · subst e
      exact kk _ R' H' s'.stp Rp.non
    · subst e
      exact kk v R' H' t q
end
end PV

/-! PvH: a sign in a text; the scope of a generator expression. -/
namespace PV
open PySem PySem.Spec PyProof.Rows L2 GxR
section
variable {X : Cx} {ρ : List Sl} {pos : Pos} {a b : Expr} {c : Nat} {z : Str}
theorem ex_inS (ha : EX X a ρ (.sh (.str ⟨#[c]⟩))) (hb : EX X b ρ (.sh (.str z))) (hm : behindInMarks .In b = false := by rfl) : EX X (.Compare a [.In] [b] pos) ρ (.sh (.bl (decide (c ∈ z.cps.toList)))) :=
  ex_cmp op_in_str (fun H0 R H x y Q s _ rx ry k => ⟨⟨#[c]⟩, z, Res.str s rx rfl, Res.str s ry rfl, by rw [StrLaws.found_one]; exact k _ R H s.step (Rp.bl _)⟩) ha hb hm
theorem tx_inS (ha : EX X a ρ (.sh (.str ⟨#[c]⟩))) (hb : EX X b ρ (.sh (.str z))) (hm : behindInMarks .In b = false := by rfl) : TX X (.Compare a [.In] [b] pos) ρ (decide (c ∈ z.cps.toList)) :=
  tx_cmp op_in_str (fun H0 R H x y Q s _ rx ry k => ⟨⟨#[c]⟩, z, Res.str s rx rfl, Res.str s ry rfl, by rw [StrLaws.found_one]; exact k _ R H s.step (Rp.bl _)⟩) ha hb hm
theorem tx_notinS (ha : EX X a ρ (.sh (.str ⟨#[c]⟩))) (hb : EX X b ρ (.sh (.str z))) (hm : behindInMarks .NotIn b = false := by rfl) : TX X (.Compare a [.NotIn] [b] pos) ρ (!decide (c ∈ z.cps.toList)) :=
  tx_cmp op_notin_str (fun H0 R H x y Q s _ rx ry k => ⟨⟨#[c]⟩, z, Res.str s rx rfl, Res.str s ry rfl, by rw [StrLaws.found_one]; exact k _ R H s.step (Rp.bl _)⟩) ha hb hm
theorem genS_of {env : Env} {scope : Scope} {x : Str} (h1 : scope.kind = .function) (h2 : scope.isCoroutine = false) (h3 : (scope.names.all fun y => !decide (y.2 = .cell) && !decide (y.2 = .free)) = true)
    (h4 : scope.names.lookup (".0" : Str) = some NameKind.local) (h5 : scope.names.lookup x = some .local) : GenS env scope x := by
  have k : ∀ y ∈ scope.names, y.2 ≠ .cell ∧ y.2 ≠ .free := fun y hy => by
    have q := List.all_eq_true.mp h3 y hy
    obtain ⟨q1, q2⟩ := Bool.and_eq_true_iff.mp q
    simp at q1 q2
    exact ⟨q1, q2⟩
  exact ⟨h1, h2, fun y hy => (k y hy).1, h4, h5, fun y hy e => absurd e (k y hy).2⟩
end
/-! ### lengths of slices -/
theorem cutS_lo {z : Str} {i : Int} (h0 : 0 ≤ i) (h : i ≤ z.length) : (cutS z none (some i)).length = i.toNat := by
  show (((z.cps.toList.drop (HT.sIx z.length 0 none)).take (HT.sIx z.length z.length (some i) - HT.sIx z.length 0 none)).toArray).size = _
  have e : HT.sIx z.length z.length (some i) = i.toNat := by
    show (if i < 0 then _ else min i.toNat z.length) = _
    rw [if_neg (by omega)]; omega
  rw [e, HT.sIx_none, List.drop_zero, List.size_toArray, List.length_take, Array.length_toList]
  have : z.length = z.cps.size := rfl
  omega
theorem cutS_hi {z : Str} {i : Int} (h0 : 0 ≤ i) (h : i ≤ z.length) : (cutS z (some i) none).length = z.length - i.toNat := by
  show (((z.cps.toList.drop (HT.sIx z.length 0 (some i))).take (HT.sIx z.length z.length none - HT.sIx z.length 0 (some i))).toArray).size = _
  have e : HT.sIx z.length 0 (some i) = i.toNat := by
    show (if i < 0 then _ else min i.toNat z.length) = _
    rw [if_neg (by omega)]; omega
  rw [e, HT.sIx_none, List.size_toArray, List.length_take, List.length_drop, Array.length_toList]
  have : z.length = z.cps.size := rfl
  omega
end PV
namespace PV
open PySem PySem.Spec PyProof.Rows
theorem noTriples : TriplesOk (#[] : Array Value).toList := by
  first | trivial | decide | exact fun _ h => nomatch h | (intro _ h; cases h) | simp [TriplesOk]
end PV

/-! Mir: what the drawn programs are, in plain Lean. -/
namespace SF
open PySem PySem.Spec PyProof.Rows L2 PV
@[irreducible] def cellAt (s : List Int) (k : Int) : Int :=
  if k < s.length then s.getD k.toNat 0 else if (s.length : Int) = 0 then 97 * k * k + 13 * k else s.getD (k % s.length).toNat 0 * (2 * k + 1) + 97 * k * k + 13 * k
@[irreducible] def drawn (s : List Int) (k : Int) : Int := cellAt s k * 48271 % 2147483647
theorem drawn_lo (s : List Int) (k : Int) : 0 ≤ drawn s k := by unfold drawn; exact Int.emod_nonneg _ (by decide)
theorem drawn_hi (s : List Int) (k : Int) : drawn s k < 2147483647 := by unfold drawn; exact Int.emod_lt_of_pos _ (by decide)
def abc : Str := "abcdefghijklmnopqrstuvwxyz"
theorem abc_len : abc.length = 26 := by decide +kernel
/-- the letter at a place -/
def let1 (i : Int) : Str := ⟨#[abc.cps.toList.getD i.toNat 97]⟩
theorem let1_len (i : Int) : (let1 i).length = 1 := rfl
theorem abc_at {i : Int} (h0 : 0 ≤ i) (h : i < 26) : atI abc.cps.toList i = some (abc.cps.toList.getD i.toNat 97) := at_pos 97 h0 (by
  have : abc.cps.toList.length = 26 := by decide +kernel
  omega)
def restGo (cell : Int) : Nat → Int × Str
  | 0 => (cell, "")
  | n + 1 => ((restGo cell n).1 / 7 + 31 * n, (restGo cell n).2 ++ let1 (((restGo cell n).1 / 7 + 31 * n) % 26))
theorem restGo_len (cell : Int) : ∀ n, (restGo cell n).2.length = n
  | 0 => rfl
  | n + 1 => by
    show ((restGo cell n).2 ++ let1 _).length = n + 1
    rw [Str.len_app, restGo_len cell n, let1_len]
@[irreducible] def restBy (cell most : Int) : Str := (restGo cell (cell % most).toNat).2
theorem restBy_len {cell most : Int} (h : 0 < most) : ((restBy cell most).length : Int) < most := by
  have h1 := Int.emod_lt_of_pos cell h
  have h2 := Int.emod_nonneg cell (show most ≠ 0 by omega)
  unfold restBy
  rw [restGo_len]
  omega
/-- x[lo:hi] of texts, lo and hi no less than 0 -/
theorem cutS_len (z : Str) (lo hi : Option Int) : (cutS z lo hi).length ≤ z.length := by
  show (((z.cps.toList.drop (HT.sIx z.length 0 lo)).take (HT.sIx z.length z.length hi - HT.sIx z.length 0 lo)).toArray).size ≤ z.cps.size
  rw [List.size_toArray, List.length_take, List.length_drop, Array.length_toList]
  omega
def imin (i j : Int) : Int := if j < i then j else i
def ownAt (s : List Int) (k : Int) : Int := imin (drawn s 630 / 2 % 11) (restBy (drawn s (631 + k * (drawn s 630 % 2))) 11).length
def ownFar (s : List Int) (k : Int) : Int := imin (ownAt s k + drawn s 630 / 22 % 11) (restBy (drawn s (631 + k * (drawn s 630 % 2))) 11).length
def ownSign (s : List Int) (k : Int) : Str :=
  cutS (restBy (drawn s (631 + k * (drawn s 630 % 2))) 11) none (some (ownAt s k)) ++ let1 (k / 26) ++ cutS (restBy (drawn s (631 + k * (drawn s 630 % 2))) 11) (some (ownAt s k)) (some (ownFar s k))
    ++ let1 ((drawn s 630 / 242 + k) % 26) ++ cutS (restBy (drawn s (631 + k * (drawn s 630 % 2))) 11) (some (ownFar s k)) none
/-! ### the relations of the defs -/
def R_cell_at (ds : List D) (r : Rs) : Prop := ∃ (s : List Int) (k : Int), ds = [.scr s, .int k] ∧ 0 ≤ k ∧ k < 2 ^ 40 ∧ r = .sh (.int (cellAt s k))
def R_drawn (ds : List D) (r : Rs) : Prop := ∃ (s : List Int) (k : Int), ds = [.scr s, .int k] ∧ 0 ≤ k ∧ k < 2 ^ 40 ∧ r = .sh (.int (drawn s k))
def R_rest_by (ds : List D) (r : Rs) : Prop := ∃ (c m : Int), ds = [.int c, .int m] ∧ 0 < m ∧ m ≤ 100 ∧ r = .sh (.str (restBy c m))
def R_own_sign (ds : List D) (r : Rs) : Prop := ∃ (s : List Int) (k : Int), ds = [.scr s, .int k] ∧ 0 ≤ k ∧ k < 676 ∧ r = .sh (.str (ownSign s k))
theorem line_of {n : Nat} (h : n ≤ 10000) : n ≤ sizeLine := Nat.le_trans h (by decide)
end SF
namespace SF
open PySem PySem.Spec PyProof.Rows L2 PV
theorem par (k x : Int) (h : 0 ≤ k) : 0 ≤ k * (x % 2) ∧ k * (x % 2) ≤ k := by
  have h1 := Int.emod_nonneg x (show (2 : Int) ≠ 0 by decide)
  have h2 := Int.emod_lt_of_pos x (show (0 : Int) < 2 by decide)
  rcases (show x % 2 = 0 ∨ x % 2 = 1 by omega) with e | e <;> rw [e] <;> omega
theorem add_ok {a b : Str} {n m : Nat} (h1 : a.length ≤ n) (h2 : b.length ≤ m) (h : n + m ≤ 10000 := by decide) : a.length + b.length ≤ sizeLine := line_of (by omega)
theorem app_ok {a b : Str} {n m : Nat} (h1 : a.length ≤ n) (h2 : b.length ≤ m) : (a ++ b).length ≤ n + m := by rw [Str.len_app]; omega
theorem cut_ok {z : Str} {lo hi : Option Int} {n : Nat} (h : z.length ≤ n) : (cutS z lo hi).length ≤ n := Nat.le_trans (cutS_len z lo hi) h
theorem one_ok {c : Nat} : (⟨#[c]⟩ : Str).length ≤ 1 := Nat.le_of_eq rfl
theorem rest_ok (x : Int) : (restBy x 11).length ≤ 10 := by have := restBy_len (cell := x) (most := 11) (by decide); omega
theorem ownSign_len (s : List Int) (k : Int) : (ownSign s k).length ≤ 32 := app_ok (app_ok (app_ok (app_ok (cut_ok (rest_ok _)) one_ok) (cut_ok (rest_ok _))) one_ok) (cut_ok (rest_ok _))
/-! ### names -/
@[irreducible] def manyOf (s : List Int) : Int := if drawn s 4 % 8 = 1 then 1 + drawn s 4 / 8 % 60 else 1 + drawn s 0 / 43200 % 5
theorem manyOf_t {s : List Int} (h : drawn s 4 % 8 = 1) : manyOf s = 1 + drawn s 4 / 8 % 60 := by unfold manyOf; exact if_pos h
theorem manyOf_f {s : List Int} (h : ¬ drawn s 4 % 8 = 1) : manyOf s = 1 + drawn s 0 / 43200 % 5 := by unfold manyOf; exact if_neg h
theorem manyOf_lo (s : List Int) : 1 ≤ manyOf s := by unfold manyOf; split <;> omega
theorem manyOf_hi (s : List Int) : manyOf s ≤ 60 := by unfold manyOf; split <;> omega
def nameRest (s : List Int) (k : Int) : Str := restBy (drawn s (601 + k * (drawn s 600 % 2))) 11
def nameAt (s : List Int) (k : Int) : Int := imin (drawn s 600 / 2 % 12) (nameRest s k).length
def name1 (s : List Int) (k : Int) : Str := cutS (nameRest s k) none (some (nameAt s k)) ++ let1 ((drawn s 600 / 24 + k) % 26) ++ cutS (nameRest s k) (some (nameAt s k)) none
def nameOf (s : List Int) (k : Int) : Str := if 26 < manyOf s then let1 (k / 26) ++ name1 s k else name1 s k
def namesBy (s : List Int) : List Str := (List.range (manyOf s).toNat).map fun (k : Nat) => nameOf s k
theorem namesBy_len (s : List Int) : ((namesBy s).length : Int) = manyOf s := by
  unfold namesBy
  rw [List.length_map, List.length_range]
  have := manyOf_lo s
  omega
theorem range_snoc {α : Type} (f : Nat → α) (i : Nat) : (List.range (i + 1)).map f = (List.range i).map f ++ [f i] := by rw [List.range_succ, List.map_append]; rfl
theorem name1_ok (s : List Int) (k : Int) : (name1 s k).length ≤ 21 := app_ok (app_ok (cut_ok (rest_ok _)) one_ok) (cut_ok (rest_ok _))
theorem nameOf_ok (s : List Int) (k : Int) : (nameOf s k).length ≤ 22 := by
  unfold nameOf
  split
  · exact Nat.le_trans (app_ok one_ok (name1_ok s k)) (by decide)
  · exact Nat.le_trans (name1_ok s k) (by decide)
def R_names_by (ds : List D) (r : Rs) : Prop := ∃ (s : List Int), ds = [.scr s] ∧ r = .nw (.lst ((namesBy s).map D.str))
/-! ### rows -/
inductive Row where
  | tell (slot : Str)
  | make (slot sign : Str) (reads : List Str)
  deriving DecidableEq
def rowL : Row → List D
  | .tell a => [.str "tell", .str a]
  | .make a g rs => [.str "make", .str a, .str g, .tup (rs.map D.str)]
def rowD (r : Row) : D := .tup (rowL r)
def Row.kind : Row → Str
  | .tell _ => "tell"
  | .make _ _ _ => "make"
def Row.slot : Row → Str
  | .tell a => a
  | .make a _ _ => a
def Row.isT : Row → Bool
  | .tell _ => true
  | .make _ _ _ => false
theorem row_at0 (r : Row) : atI (rowL r) 0 = some (.str r.kind) := by cases r <;> rfl
theorem row_at1 (r : Row) : atI (rowL r) 1 = some (.str r.slot) := by cases r <;> rfl
theorem tell_ne : ¬ ("make" : Str) = "tell" := by decide +kernel
theorem kind_tell (r : Row) : decide (r.kind = ("tell" : Str)) = r.isT := by
  cases r with
  | tell a => exact decide_eq_true rfl
  | make a g rs => exact decide_eq_false tell_ne
theorem kind_make (r : Row) : decide (r.kind = ("make" : Str)) = !r.isT := by
  cases r with
  | tell a => exact decide_eq_false fun z => tell_ne z.symm
  | make a g rs => exact decide_eq_true rfl
def rowBy (cell : Int) (names : List Str) (sign : Str) : Row :=
  if cell % 3 = 0 then .tell (names.getD (cell / 3 % names.length).toNat "")
  else .make (names.getD (cell / 3 % names.length).toNat "") sign
    ([names.getD (cell / 3 / names.length / 3 % names.length).toNat "", names.getD (cell / 3 / names.length / 3 / names.length % names.length).toNat ""].take (cell / 3 / names.length % 3).toNat)
def R_row_by (ds : List D) (r : Rs) : Prop := ∃ (c : Int) (names : List Str) (g : Str), ds = [.int c, .lst (names.map D.str), .str g] ∧ 0 < names.length ∧ names.length ≤ 100 ∧ r = .sh (rowD (rowBy c names g))
theorem imm_strs (l : List Str) : immA (l.map D.str) = true := immA_map (fun _ => rfl) l
theorem imm_row : ∀ r : Row, imm (rowD r) = true
  | .tell _ => rfl
  | .make _ _ rs => by
    show (true && (true && (true && (immA (rs.map D.str) && true)))) = true
    rw [imm_strs]; rfl
theorem cutD_take {ds : List D} {k : Int} (h0 : 0 ≤ k) : PV.cutD ds none (some k) = ds.take k.toNat := by
  unfold PV.cutD
  rw [HT.sIx_none]
  obtain ⟨n, rfl⟩ : ∃ n : Nat, k = n := ⟨k.toNat, by omega⟩
  rw [HT.sIx_nat, Int.toNat_natCast, List.drop_zero, Nat.sub_zero]
  by_cases h : n ≤ ds.length
  · rw [Nat.min_eq_left h]
  · rw [Nat.min_eq_right (by omega), List.take_of_length_le (Nat.le_refl _), List.take_of_length_le (by omega)]
/-! ### numbers, the start -/
@[irreducible] def numberBy (c : Int) : Int := if c % 4 = 1 then c / 4 % (2 * 10 ^ (30 : Int).toNat - 1) - 10 ^ (30 : Int).toNat + 1 else c / 4 % 19 - 9
def R_number_by (ds : List D) (r : Rs) : Prop := ∃ c : Int, ds = [.int c] ∧ r = .sh (.int (numberBy c))
/-- dicts whose keys are texts -/
abbrev Dic (α : Type) := List (Str × α)
def dicG {α : Type} (emb : α → D) (d : Dic α) : List (Key × D) := d.map fun p => (.inr p.1, emb p.2)
def dput {α : Type} (d : Dic α) (k : Str) (v : α) : Dic α := if (d.any fun p => decide (p.1 = k)) = true then d.map (fun p => if p.1 = k then (p.1, v) else p) else d ++ [(k, v)]
def dget {α : Type} (d : Dic α) (k : Str) : Option α := (d.find? fun p => decide (p.1 = k)).map (·.2)
section
variable {α : Type} {emb : α → D}
theorem dicG_any (d : Dic α) (k : Str) : ((dicG emb d).any fun p => decide (p.1 = Sum.inr k)) = d.any fun p => decide (p.1 = k) := by
  unfold dicG
  rw [List.any_map]
  congr 1
  funext p
  exact key_rr p.1 k
theorem dicG_put (d : Dic α) (k : Str) (v : α) : putD (dicG emb d) (.inr k) (emb v) = dicG emb (dput d k v) := by
  unfold putD dput
  rw [dicG_any]
  split
  · unfold dicG
    rw [List.map_map, List.map_map]
    congr 1
    funext p
    show (if (Sum.inr p.1 : Key) = Sum.inr k then (_, _) else _) = ((Sum.inr (if p.1 = k then (p.1, v) else p).1 : Key), emb (if p.1 = k then (p.1, v) else p).2)
    by_cases h : p.1 = k
    · rw [if_pos h, if_pos (by rw [h])]
    · rw [if_neg h, if_neg fun z => h (Sum.inr.inj z)]
  · unfold dicG
    rw [List.map_append]; rfl
theorem dicG_get (d : Dic α) (k : Str) : getD (dicG emb d) (.inr k) = (dget d k).map emb := by
  induction d with
  | nil => rfl
  | cons p r ih =>
    by_cases h : p.1 = k
    · have h' : (Sum.inr p.1 : Key) = Sum.inr k := by rw [h]
      simp [getD, dget, dicG, List.find?_cons, h]
    · have h' : ¬ (Sum.inr p.1 : Key) = Sum.inr k := fun z => h (Sum.inr.inj z)
      have e1 : getD (dicG emb (p :: r)) (.inr k) = getD (dicG emb r) (.inr k) := by simp [getD, dicG, List.find?_cons, h]
      have e2 : dget (p :: r) k = dget r k := by simp [dget, List.find?_cons, h]
      rw [e1, e2, ih]
theorem dicG_getD (d : Dic α) (k : Str) (x : α) : (getD (dicG emb d) (.inr k)).getD (emb x) = emb ((dget d k).getD x) := by
  rw [dicG_get]
  cases dget d k <;> rfl
theorem dput_len (d : Dic α) (k : Str) (v : α) : (dput d k v).length ≤ d.length + 1 := by
  unfold dput
  split
  · rw [List.length_map]; omega
  · rw [List.length_append]; exact Nat.le_refl _
theorem dicG_len (d : Dic α) : (dicG emb d).length = d.length := List.length_map ..
theorem dicG_imm (h : ∀ a, imm (emb a) = true) (d : Dic α) : immA ((dicG emb d).map (·.2)) = true := by
  unfold dicG
  rw [List.map_map]
  exact immA_map (fun p => h p.2) d
theorem dget_put (d : Dic α) (k : Str) (v : α) : dget (dput d k v) k = some v := by
  unfold dget dput
  by_cases h : (d.any fun p => decide (p.1 = k)) = true
  · rw [if_pos h]
    induction d with
    | nil => simp at h
    | cons p r ih =>
      by_cases e : p.1 = k
      · simp [List.find?_cons, e]
      · have h2 : (r.any fun p => decide (p.1 = k)) = true := by simpa [e] using h
        have := ih h2
        simpa [List.find?_cons, e] using this
  · rw [if_neg h]
    have hn : d.find? (fun p => decide (p.1 = k)) = none := by
      rw [List.find?_eq_none]
      intro p hp z
      exact h (List.any_eq_true.mpr ⟨p, hp, z⟩)
    rw [List.find?_append, hn]
    simp
theorem dget_mem {d : Dic α} {k : Str} {v : α} (h : dget d k = some v) : ∃ p ∈ d, p.1 = k ∧ p.2 = v := by
  unfold dget at h
  obtain ⟨p, hp, e⟩ := Option.map_eq_some_iff.mp h
  have hd : decide (p.1 = k) = true := List.find?_some (p := fun p : Str × α => decide (p.1 = k)) hp
  exact ⟨p, List.mem_of_find?_eq_some hp, of_decide_eq_true hd, e⟩
theorem dput_mem {d : Dic α} {k : Str} {v : α} {p : Str × α} (h : p ∈ dput d k v) : p ∈ d ∨ p = (k, v) := by
  unfold dput at h
  split at h
  · obtain ⟨q, hq, e⟩ := List.mem_map.mp h
    by_cases z : q.1 = k
    · rw [if_pos z] at e
      exact .inr (by rw [← e, z])
    · rw [if_neg z] at e
      exact .inl (by rw [← e]; exact hq)
  · rcases List.mem_append.mp h with h | h
    · exact .inl h
    · exact .inr (List.mem_singleton.mp h)
/-- equal to itself, key by key -/
theorem EqK.same (h1 : ∀ a, okD (emb a) = true) (h2 : ∀ a, PyData.eqv (toPy (emb a)) (toPy (emb a)) = true) {d : Dic α} (nd : (d.map (·.1)).Nodup) : EqK (dicG emb d) (dicG emb d) := by
  refine ⟨rfl, fun p hp => ?_⟩
  obtain ⟨q, hq, rfl⟩ := List.mem_map.mp hp
  clear hp
  have e : dget d q.1 = some q.2 := by
    unfold dget
    induction d with
    | nil => cases hq
    | cons x r ih =>
      obtain ⟨n1, n2⟩ := List.nodup_cons.mp (show (x.1 :: r.map (·.1)).Nodup from nd)
      by_cases z : x.1 = q.1
      · have : q = x := by
          rcases List.mem_cons.mp hq with h | h
          · exact h
          · exact absurd (List.mem_map.mpr ⟨q, h, z.symm⟩) n1
        subst this
        simp
      · have hq' : q ∈ r := by
          rcases List.mem_cons.mp hq with h | h
          · exact absurd (by rw [h]) z
          · exact h
        have := ih n2 hq'
        simpa [List.find?_cons, z] using this
  exact ⟨emb q.2, by show getD _ (Sum.inr q.1) = _; rw [dicG_get, e]; rfl, h1 _, h1 _, h2 _⟩
theorem dput_nodup {d : Dic α} {k : Str} {v : α} (nd : (d.map (·.1)).Nodup) : ((dput d k v).map (·.1)).Nodup := by
  unfold dput
  split
  · rw [List.map_map]
    rw [show (((·.1) : Str × α → Str) ∘ fun p => if p.1 = k then (p.1, v) else p) = (·.1) from funext fun p => by
      show (if p.1 = k then (p.1, v) else p).1 = p.1
      split <;> rfl]
    exact nd
  · rename_i h
    rw [List.map_append]
    refine nd_snoc nd fun m => h ?_
    obtain ⟨p, hp, e⟩ := List.mem_map.mp m
    exact List.any_eq_true.mpr ⟨p, hp, decide_eq_true e⟩
end
abbrev dicD : Dic Int → List (Key × D) := dicG D.int
theorem imm_int (i : Int) : imm (.int i) = true := rfl
def startGo (s : List Int) (names : List Str) : Nat → Dic Int
  | 0 => []
  | k + 1 => if drawn s (560 + k) % 3 > 0 then dput (startGo s names k) (names.getD k "") (numberBy (cellAt s (500 + k))) else startGo s names k
theorem startGo_len (s : List Int) (names : List Str) : ∀ k, (startGo s names k).length ≤ k
  | 0 => Nat.le_refl _
  | k + 1 => by
    unfold startGo
    split
    · exact Nat.le_trans (dput_len _ _ _) (Nat.succ_le_succ (startGo_len s names k))
    · exact Nat.le_succ_of_le (startGo_len s names k)
def startBy (s : List Int) (names : List Str) : Dic Int := startGo s names names.length
def R_start_by (ds : List D) (r : Rs) : Prop := ∃ (s : List Int) (names : List Str), ds = [.scr s, .lst (names.map D.str)] ∧ names.length ≤ 100 ∧ r = .nw (.dK (dicD (startBy s names)))
end SF

namespace SF
open PySem PySem.Spec PyProof.Rows L2 PV
/-! ### what a row does -/
abbrev Wk := Int × Int × Int
def wkE (w : Wk) : D := .tup [.int w.1, .int w.2.1, .int w.2.2]
theorem imm_wk (w : Wk) : imm (wkE w) = true := rfl
def plainW : Wk := (1, 1, 0)
def heldBy (slots : Dic Int) (x : Str) : Int := (dget slots x).getD 0
def madeBy (slots : Dic Int) (works : Dic Wk) (g : Str) : List Str → Int
  | [] => ((dget works g).getD plainW).2.2
  | [x] => ((dget works g).getD plainW).1 * heldBy slots x + ((dget works g).getD plainW).2.2
  | x :: y :: _ => ((dget works g).getD plainW).1 * heldBy slots x + ((dget works g).getD plainW).2.1 * heldBy slots y + ((dget works g).getD plainW).2.2
def doneBy (slots : Dic Int) (works : Dic Wk) : Row → Dic Int
  | .tell _ => slots
  | .make a g rs => dput slots a (madeBy slots works g rs)
/-- all numbers below 2 ^ b -/
def Bn (b : Nat) (d : Dic Int) : Prop := ∀ p ∈ d, p.2.natAbs < 2 ^ b
def Bw (b : Nat) (d : Dic Wk) : Prop := ∀ p ∈ d, p.2.1.natAbs < 2 ^ b ∧ p.2.2.1.natAbs < 2 ^ b ∧ p.2.2.2.natAbs < 2 ^ b
theorem Bn.held {b : Nat} {d : Dic Int} (h : Bn b d) (x : Str) : (heldBy d x).natAbs < 2 ^ b := by
  unfold heldBy
  cases e : dget d x with
  | none => exact Nat.two_pow_pos b
  | some v =>
    obtain ⟨p, hp, _, e2⟩ := dget_mem e
    rw [← e2]; exact h p hp
theorem Bw.at {b : Nat} {d : Dic Wk} (h : Bw b d) (hb : 1 ≤ b) (g : Str) : ((dget d g).getD plainW).1.natAbs < 2 ^ b ∧ ((dget d g).getD plainW).2.1.natAbs < 2 ^ b ∧ ((dget d g).getD plainW).2.2.natAbs < 2 ^ b := by
  cases e : dget d g with
  | none =>
    have : (1 : Nat) < 2 ^ b := Nat.lt_of_lt_of_le (by decide : 1 < 2 ^ 1) (Nat.pow_le_pow_right (by decide) hb)
    exact ⟨this, this, Nat.two_pow_pos b⟩
  | some v =>
    obtain ⟨p, hp, _, e2⟩ := dget_mem e
    rw [← e2]; exact h p hp
def R_is_tell (ds : List D) (r : Rs) : Prop := ∃ row : Row, ds = [rowD row] ∧ r = .sh (.bl row.isT)
def R_held (ds : List D) (r : Rs) : Prop := ∃ (slots : Dic Int) (x : Str), ds = [.dK (dicD slots), .str x] ∧ r = .sh (.int (heldBy slots x))
def R_made (ds : List D) (r : Rs) : Prop := ∃ (slots : Dic Int) (works : Dic Wk) (a g : Str) (rs : List Str) (b : Nat), ds = [.dK (dicD slots), .dK (dicG wkE works), rowD (.make a g rs)] ∧ rs.length ≤ 2 ∧ Bn b slots ∧ Bw 101 works ∧ 0 < b ∧ b + 101 ≤ 1000000 ∧ r = .sh (.int (madeBy slots works g rs))
def R_done (ds : List D) (r : Rs) : Prop := ∃ (slots : Dic Int) (works : Dic Wk) (row : Row) (b : Nat), ds = [.dK (dicD slots), .dK (dicG wkE works), rowD row] ∧ (∀ a g rs, row = .make a g rs → rs.length ≤ 2) ∧ Bn b slots ∧ Bw 101 works ∧ 0 < b ∧ b + 101 ≤ 1000000 ∧ slots.length ≤ 1000 ∧ r = .nw (.dK (dicD (doneBy slots works row)))
theorem isT_f {row : Row} (h : row.isT = false) : ∃ a g rs, row = .make a g rs := by
  cases row with
  | tell a => cases h
  | make a g rs => exact ⟨a, g, rs, rfl⟩
theorem isT_t {row : Row} (h : row.isT = true) : ∃ a, row = .tell a := by
  cases row with
  | tell a => exact ⟨a, rfl⟩
  | make a g rs => cases h
def R_whole (ds : List D) (r : Rs) : Prop := ∃ i : Int, ds = [.int i] ∧ r = .sh (.bl true)
def R_slots_same (ds : List D) (r : Rs) : Prop := ∃ d : Dic Int, ds = [.dK (dicD d), .dK (dicD d)] ∧ (d.map (·.1)).Nodup ∧ d.length ≤ 1000 ∧ r = .sh (.bl true)
theorem map_bl {α : Type} (l : List α) (g : α → Bool) : D.lst ((l.filter fun _ => true).map fun a => D.bl (g a)) = D.lst ((l.map g).map D.bl) := by
  rw [List.filter_eq_self.mpr fun _ _ => rfl, List.map_map]; rfl
theorem all_tt {α : Type} (l : List α) : ((l.map fun _ => true).all id) = true := List.all_eq_true.mpr fun x hx => by
  obtain ⟨_, _, rfl⟩ := List.mem_map.mp hx; rfl
theorem eqv_int (i : Int) : PyData.eqv (.int i) (.int i) = true := by
  show (i == i) = true
  simp
theorem dicD_same {d : Dic Int} (nd : (d.map (·.1)).Nodup) : EqK (dicD d) (dicD d) := EqK.same (emb := D.int) (fun i => rfl) (fun i => eqv_int i) nd
theorem dicD_mem {d : Dic Int} {i : Nat} {kd : Key × D} (h : (dicD d)[i]? = some kd) : ∃ p, d[i]? = some p ∧ kd = (.inr p.1, .int p.2) := by
  show ∃ p, _
  have h : (d.map fun p => ((.inr p.1 : Key), D.int p.2))[i]? = some kd := h
  rw [List.getElem?_map] at h
  cases q : d[i]? with
  | none => rw [q] at h; cases h
  | some p => rw [q] at h; cases h; exact ⟨p, rfl, rfl⟩
theorem nil_of_hc {rs : List Str} (h : (!!(rs.map D.str).isEmpty) = true) : rs = [] := by
  cases rs with
  | nil => rfl
  | cons a r => cases h
theorem ne_of_hc {rs : List Str} (h : (!!(rs.map D.str).isEmpty) = false) : 0 < rs.length := by
  cases rs with
  | nil => cases h
  | cons a r => exact Nat.succ_pos _
theorem one_of_hc {rs : List Str} (h : decide (((rs.map D.str).length : Int) = 1) = true) : ∃ x, rs = [x] := by
  have h := of_decide_eq_true h
  rw [List.length_map] at h
  match rs, h with
  | [], h => cases h
  | [x], _ => exact ⟨x, rfl⟩
  | x :: y :: r, h => rw [List.length_cons, List.length_cons] at h; omega
theorem two_of_hc {rs : List Str} (h2 : rs.length ≤ 2) (h1 : (!!(rs.map D.str).isEmpty) = false) (h : decide (((rs.map D.str).length : Int) = 1) = false) : ∃ x y, rs = [x, y] := by
  have h := of_decide_eq_false h
  rw [List.length_map] at h
  match rs, h, h1, h2 with
  | [], _, h1, _ => cases h1
  | [x], h, _, _ => exact absurd rfl h
  | [x, y], _, _, _ => exact ⟨x, y, rfl⟩
  | x :: y :: z :: r, _, _, h2 => rw [List.length_cons, List.length_cons, List.length_cons] at h2; omega
theorem on_listDS {K : PySem.W.Frag} {α : Type} {emb : α → D} {d : Dic α} {r : Rs} (e : r.dat = .dK (dicG emb d)) : OpN K (fun xs H Q => ∃ (a : Addr) (kvs : List (Key × V)), xs = [.ref a] ∧ Rd H a (.dK kvs) ∧ ∀ p, H p = none → Q (.ref p) (upd H p (.lst (kvs.map fun kv => kV kv.1)))) [r] (.nw (.lst (d.map fun p => D.str p.1))) := by
  have h := on_listD (K := K) e
  rw [show (dicG emb d).map (fun kd => keyD kd.1) = d.map fun p => D.str p.1 from by unfold dicG; rw [List.map_map]; rfl] at h
  exact h
theorem dget_at {α : Type} {d : Dic α} (nd : (d.map (·.1)).Nodup) {i : Nat} {p : Str × α} (h : d[i]? = some p) : dget d p.1 = some p.2 := by
  unfold dget
  induction d generalizing i with
  | nil => simp at h
  | cons x r ih =>
    obtain ⟨n1, n2⟩ := List.nodup_cons.mp (show (x.1 :: r.map (·.1)).Nodup from nd)
    cases i with
    | zero =>
      simp at h
      subst h
      simp
    | succ i =>
      have h : r[i]? = some p := by simpa using h
      have z : ¬ x.1 = p.1 := fun z => n1 (List.mem_map.mpr ⟨p, List.mem_of_getElem? h, z.symm⟩)
      simpa [List.find?_cons, z] using ih n2 h
end SF

/-! Mir2: the law of a row done. -/
namespace SF
open PySem PySem.Spec PyProof.Rows L2 PV
theorem ten30 : (10 : Int) ^ (30 : Int).toNat = 1000000000000000000000000000000 := by decide +kernel
theorem two101 : (2 : Nat) ^ 101 = 2535301200456458802993406410752 := by decide +kernel
theorem numberBy_lt (c : Int) : (numberBy c).natAbs < 2 ^ 101 := by
  rw [two101]
  unfold numberBy
  rw [ten30]
  split <;> omega
theorem dput_dput {α : Type} (d : Dic α) (k : Str) (v u : α) : dput (dput d k v) k u = dput d k u := by
  by_cases h : (d.any fun p => decide (p.1 = k)) = true
  · have e : dput d k v = d.map (fun p => if p.1 = k then (p.1, v) else p) := by unfold dput; rw [if_pos h]
    have h2 : ((d.map (fun p => if p.1 = k then (p.1, v) else p)).any fun p => decide (p.1 = k)) = true := by
      rw [List.any_map]
      obtain ⟨p, hp, e⟩ := List.any_eq_true.mp h
      refine List.any_eq_true.mpr ⟨p, hp, ?_⟩
      have e : p.1 = k := of_decide_eq_true e
      show decide ((if p.1 = k then (p.1, v) else p).1 = k) = true
      rw [if_pos e]
      exact decide_eq_true e
    rw [e]
    unfold dput
    rw [if_pos h, if_pos h2, List.map_map]
    congr 1
    funext p
    show (if (if p.1 = k then (p.1, v) else p).1 = k then ((if p.1 = k then (p.1, v) else p).1, u) else (if p.1 = k then (p.1, v) else p)) = if p.1 = k then (p.1, u) else p
    by_cases z : p.1 = k
    · rw [if_pos z, if_pos z, if_pos z]
    · rw [if_neg z, if_neg z]
  · have hn : ∀ p ∈ d, ¬ p.1 = k := fun p hp z => h (List.any_eq_true.mpr ⟨p, hp, decide_eq_true z⟩)
    have e : dput d k v = d ++ [(k, v)] := by unfold dput; rw [if_neg h]
    have e2 : dput d k u = d ++ [(k, u)] := by unfold dput; rw [if_neg h]
    rw [e, e2]
    unfold dput
    rw [if_pos (by simp), List.map_append]
    congr 1
    · have : d.map (fun p => if p.1 = k then (p.1, u) else p) = d.map id := List.map_congr_left fun p hp => if_neg (hn p hp)
      rw [this, List.map_id]
    · show [if k = k then (k, u) else (k, v)] = [(k, u)]
      rw [if_pos rfl]
theorem startGo_nodup (s : List Int) (names : List Str) : ∀ k, ((startGo s names k).map (·.1)).Nodup
  | 0 => List.nodup_nil
  | k + 1 => by
    unfold startGo
    split
    · exact dput_nodup (startGo_nodup s names k)
    · exact startGo_nodup s names k
theorem startGo_bn (s : List Int) (names : List Str) : ∀ k, Bn 101 (startGo s names k)
  | 0 => fun p hp => by cases hp
  | k + 1 => by
    unfold startGo
    split
    · intro p hp
      rcases dput_mem hp with h | rfl
      · exact startGo_bn s names k p h
      · exact numberBy_lt _
    · exact startGo_bn s names k
def l2sign (s : List Int) : Str := ownSign s (drawn s 6 % 60)
def l2row (s : List Int) : Row := rowBy (drawn s 7) (namesBy s) (l2sign s)
def l2start (s : List Int) : Dic Int := startBy s (namesBy s)
def l2works1 (s : List Int) : Dic Wk := if 0 < drawn s 8 % 3 then [(l2sign s, (numberBy (cellAt s (9 + (0 : Nat))), numberBy (cellAt s (9 + (1 : Nat))), numberBy (cellAt s (9 + (2 : Nat)))))] else []
def l2works2 (s : List Int) : Dic Wk := if drawn s 8 / 3 % 2 = 1 then dput (l2works1 s) (ownSign s (drawn s 6 % 60 + 1)) (2, 3, 5) else l2works1 s
theorem l2works1_nd (s : List Int) : ((l2works1 s).map (·.1)).Nodup := by
  unfold l2works1
  split
  · exact List.nodup_cons.mpr ⟨List.not_mem_nil, List.nodup_nil⟩
  · exact List.nodup_nil
theorem l2works2_nd (s : List Int) : ((l2works2 s).map (·.1)).Nodup := by
  unfold l2works2
  split
  · exact dput_nodup (l2works1_nd s)
  · exact l2works1_nd s
theorem l2works1_bw (s : List Int) : Bw 101 (l2works1 s) := by
  unfold l2works1
  split
  · intro p hp
    rw [List.mem_singleton.mp hp]
    exact ⟨numberBy_lt _, numberBy_lt _, numberBy_lt _⟩
  · intro p hp; cases hp
theorem l2works2_bw (s : List Int) : Bw 101 (l2works2 s) := by
  unfold l2works2
  split
  · intro p hp
    rcases dput_mem hp with h | rfl
    · exact l2works1_bw s p h
    · rw [two101]; exact ⟨show (2 : Int).natAbs < 2535301200456458802993406410752 by decide, show (3 : Int).natAbs < 2535301200456458802993406410752 by decide, show (5 : Int).natAbs < 2535301200456458802993406410752 by decide⟩
  · exact l2works1_bw s
theorem l2works1_len (s : List Int) : (l2works1 s).length ≤ 1 := by
  unfold l2works1
  split
  · exact Nat.le_refl _
  · exact Nat.zero_le _
theorem rowBy_make {c : Int} {names : List Str} {sign a g : Str} {rs : List Str} (h : rowBy c names sign = .make a g rs) : g = sign ∧ rs.length ≤ 2 := by
  unfold rowBy at h
  split at h
  · cases h
  · cases h
    refine ⟨rfl, ?_⟩
    rw [List.length_take]
    exact Nat.min_le_right _ _
def dueA (st : Dic Int) (w : Wk) : List Str → Int
  | [] => w.2.2
  | x :: _ => w.2.2 + w.1 * heldBy st x
def dueB (st : Dic Int) (w : Wk) : List Str → Int
  | [] => w.2.2
  | [x] => w.2.2 + w.1 * heldBy st x
  | x :: y :: _ => w.2.2 + w.1 * heldBy st x + w.2.1 * heldBy st y
theorem dueB_made (st : Dic Int) (works : Dic Wk) (g : Str) : ∀ rs, dueB st ((dget works g).getD plainW) rs = madeBy st works g rs
  | [] => rfl
  | [x] => Int.add_comm _ _
  | x :: y :: _ => by
    show _ + _ + _ = _ + _ + _
    generalize ((dget works g).getD plainW).1 * heldBy st x = a
    generalize ((dget works g).getD plainW).2.1 * heldBy st y = b
    omega
theorem doneBy_nd {d : Dic Int} (nd : (d.map (·.1)).Nodup) (works : Dic Wk) (row : Row) : ((doneBy d works row).map (·.1)).Nodup := by
  cases row with
  | tell a => exact nd
  | make a g rs => exact dput_nodup nd
theorem doneBy_len (d : Dic Int) (works : Dic Wk) (row : Row) : (doneBy d works row).length ≤ d.length + 1 := by
  cases row with
  | tell a => exact Nat.le_succ _
  | make a g rs => exact dput_len _ _ _
theorem namesBy_le (s : List Int) : (namesBy s).length ≤ 60 := by have := namesBy_len s; have := manyOf_hi s; omega
theorem namesBy_pos (s : List Int) : 0 < (namesBy s).length := by have := namesBy_len s; have := manyOf_lo s; omega
theorem l2start_len (s : List Int) : (l2start s).length ≤ 60 := Nat.le_trans (startGo_len s _ _) (namesBy_le s)
theorem l2start_nd (s : List Int) : ((l2start s).map (·.1)).Nodup := startGo_nodup s _ _
theorem l2start_bn (s : List Int) : Bn 101 (l2start s) := startGo_bn s _ _
theorem eqv_wk (w : Wk) : PyData.eqv (toPy (wkE w)) (toPy (wkE w)) = true := by
  show ((w.1 == w.1) && ((w.2.1 == w.2.1) && ((w.2.2 == w.2.2) && true))) = true
  simp
theorem okD_wk (w : Wk) : okD (wkE w) = true := rfl
theorem wk_same {d : Dic Wk} (nd : (d.map (·.1)).Nodup) : EqK (dicG wkE d) (dicG wkE d) := EqK.same (emb := wkE) okD_wk eqv_wk nd
def R_law (ds : List D) (r : Rs) : Prop := ∃ s : List Int, ds = [.scr s] ∧ r = .sh (.bl true)
theorem getput (d : Dic Int) (k : Str) (v : Int) : getD (dicD (dput d k v)) (.inr k) = some (.int v) := by rw [dicG_get, dget_put]; rfl
theorem getput2 (d : Dic Int) (k : Str) (v : Int) : getD (putD (dicD d) (.inr k) (.int v)) (.inr k) = some (.int v) := by rw [dicG_put]; exact getput d k v
theorem putD_len (kds : List (Key × D)) (k : Key) (d : D) : (putD kds k d).length ≤ kds.length + 1 := by
  unfold putD
  split
  · rw [List.length_map]; exact Nat.le_succ _
  · rw [List.length_append]; exact Nat.le_refl _
theorem due_a (st : Dic Int) (w : Wk) (a : Str) (rs : List Str) (h : 0 < rs.length) : putD (putD (dicD st) (.inr a) (.int w.2.2)) (.inr a) (.int (w.2.2 + w.1 * heldBy st (rs.getD 0 ""))) = dicD (dput st a (dueA st w rs)) := by
  rw [dicG_put, dicG_put, dput_dput]
  cases rs with
  | nil => cases h
  | cons x r => rfl
theorem due_a0 (st : Dic Int) (w : Wk) (a : Str) (rs : List Str) (h : ¬ 0 < rs.length) : putD (dicD st) (.inr a) (.int w.2.2) = dicD (dput st a (dueA st w rs)) := by
  rw [dicG_put]
  cases rs with
  | nil => rfl
  | cons x r => exact absurd (Nat.succ_pos _) h
theorem due_b (st : Dic Int) (works : Dic Wk) (a g : Str) (rs : List Str) (h : 1 < rs.length) : putD (dicD (dput st a (dueA st ((dget works g).getD plainW) rs))) (.inr a) (.int (dueA st ((dget works g).getD plainW) rs + ((dget works g).getD plainW).2.1 * heldBy st (rs.getD 1 ""))) = dicD (doneBy st works (.make a g rs)) := by
  rw [dicG_put, dput_dput]
  show _ = dicD (dput st a (madeBy st works g rs))
  rw [← dueB_made]
  match rs, h with
  | [], h => cases h
  | [x], h => exact absurd h (by simp)
  | x :: y :: r, _ => rfl
theorem due_b0 (st : Dic Int) (works : Dic Wk) (a g : Str) (rs : List Str) (h : ¬ 1 < rs.length) : dicD (dput st a (dueA st ((dget works g).getD plainW) rs)) = dicD (doneBy st works (.make a g rs)) := by
  show _ = dicD (dput st a (madeBy st works g rs))
  rw [← dueB_made]
  match rs, h with
  | [], _ => rfl
  | [x], _ => rfl
  | x :: y :: r, h => exact absurd (by rw [List.length_cons, List.length_cons]; omega) h
theorem lenS {rs : List Str} {n : Nat} (h : decide ((n : Int) < ((rs.map D.str).length : Int)) = true) : n < rs.length := by
  have h := of_decide_eq_true h
  rw [List.length_map] at h
  omega
theorem lenS0 {rs : List Str} {n : Nat} (h : decide ((n : Int) < ((rs.map D.str).length : Int)) = false) : ¬ n < rs.length := by
  have h := of_decide_eq_false h
  rw [List.length_map] at h
  omega
end SF

/-! Mir1: the law of names. -/
namespace SF
open PySem PySem.Spec PyProof.Rows L2 PV
def pad1 : Str := " !\"#$&'()*+,-./0123456789:;<=>?@ABCDEFGHIJKLMNOPQRSTUVWXYZ[\\]^_`"
def pad2 : Str := "{|}~\n\tabcdefghijklmnopqrstuvwxyz"
theorem pad_len : (pad1 ++ pad2).cps.toList.length = 96 := by decide +kernel
theorem pad1_len : pad1.length = 64 := by decide +kernel
theorem pad2_len : pad2.length = 32 := by decide +kernel
theorem pads_le : (pad1 ++ pad2).length ≤ sizeLine := line_of (by rw [Str.len_app, pad1_len, pad2_len]; decide)
theorem pads_le2 : pad1.length + pad2.length ≤ sizeLine := line_of (by rw [pad1_len, pad2_len]; decide)
@[irreducible] def signBy (c : Int) : Str := ⟨#[(pad1 ++ pad2).cps.toList.getD (c % 96).toNat 97]⟩
theorem signBy_len (c : Int) : (signBy c).length = 1 := by unfold signBy; rfl
def R_sign_by (ds : List D) (r : Rs) : Prop := ∃ c : Int, ds = [.int c] ∧ r = .sh (.str (signBy c))
/-- a name, as the program holds it -/
def nameD : D → Bool
  | .str z => decide (1 ≤ (z.length : Int)) && decide ((z.length : Int) ≤ 12) && z.cps.toList.all fun n => decide (n ∈ abc.cps.toList)
  | _ => false
def R_is_name (ds : List D) (r : Rs) : Prop := ∃ d : D, ds = [d] ∧ (∀ z, d = .str z → z.length ≤ sizeLine) ∧ r = .sh (.bl (nameD d))
theorem nameD_not {d : D} (h : isS d = false) : nameD d = false := by cases d <;> first | rfl | cases h
theorem isS_str {d : D} (h : isS d = true) : ∃ z, d = .str z := by cases d <;> first | exact ⟨_, rfl⟩ | cases h
theorem not_f {b : Bool} (h : (!b) = true) : b = false := by cases b <;> first | rfl | cases h
theorem not_t {b : Bool} (h : (!b) = false) : b = true := by cases b <;> first | rfl | cases h
theorem nameD_str {z : Str} {b : Bool} (h : (decide (1 ≤ (z.length : Int)) && decide ((z.length : Int) ≤ 12)) = b) : nameD (.str z) = (b && z.cps.toList.all fun n => decide (n ∈ abc.cps.toList)) := by
  subst h; rfl
/-! ### the law's text -/
def n1size (s : List Int) : Int := cellAt s 0 % 15
theorem n1size_lo (s : List Int) : 0 ≤ n1size s := Int.emod_nonneg _ (by decide)
theorem n1size_hi (s : List Int) : n1size s < 15 := Int.emod_lt_of_pos _ (by decide)
def n1parts (s : List Int) : List Str := (List.range (n1size s).toNat).map fun (k : Nat) => let1 (cellAt s (3 + k) % 26)
@[irreducible] def n1base (s : List Int) : Str := Txt.join "" (n1parts s)
def n1kind (s : List Int) : Int := cellAt s 1 % 8
def n1at (s : List Int) : Int := cellAt s 1 / 8 % n1size s
@[irreducible] def n1text (s : List Int) : Str := if (decide (n1kind s < 3) && decide (n1size s > 0)) = true then cutS (n1base s) none (some (n1at s)) ++ signBy (cellAt s 2) ++ cutS (n1base s) (some (n1at s + 1)) none else n1base s
theorem n1parts_sum (s : List Int) : ((n1parts s).map (·.length)).sum = (n1size s).toNat := by
  unfold n1parts
  rw [List.map_map]
  have : ∀ l : List Nat, (l.map ((fun x : Str => x.length) ∘ fun (k : Nat) => let1 (cellAt s (3 + k) % 26))).sum = l.length := by
    intro l
    induction l with
    | nil => rfl
    | cons a l ih => rw [List.map_cons, List.sum_cons, ih, List.length_cons]; show 1 + l.length = l.length + 1; omega
  rw [this, List.length_range]
theorem n1base_len (s : List Int) : ((n1base s).length : Int) = n1size s := by
  unfold n1base
  have e : (Txt.join "" (n1parts s)).length = _ := size_glued ("" : Str) (n1parts s)
  rw [e, n1parts_sum]
  have := n1size_lo s
  show (((n1size s).toNat + _ * 0 : Nat) : Int) = _
  omega
theorem n1text_len (s : List Int) : ((n1text s).length : Int) = n1size s := by
  unfold n1text
  have h0 := n1base_len s
  split
  · rename_i h
    obtain ⟨_, h2⟩ := Bool.and_eq_true_iff.mp h
    have h2 := of_decide_eq_true h2
    have a0 : 0 ≤ n1at s := Int.emod_nonneg _ (by omega)
    have a1 : n1at s < n1size s := Int.emod_lt_of_pos _ (by omega)
    rw [Str.len_app, Str.len_app, cutS_lo a0 (by omega), signBy_len, cutS_hi (by omega) (by omega)]
    omega
  · exact h0
def n1pick (s : List Int) : D := [D.int (cellAt s 2), D.non, D.bl true, D.tup [D.str (n1text s)], D.lst [D.str (n1text s)]].getD (cellAt s 1 / 8 % 5).toNat .non
theorem n1pick_not (s : List Int) : isS (n1pick s) = false := by
  unfold n1pick
  have h0 := Int.emod_nonneg (cellAt s 1 / 8) (show (5 : Int) ≠ 0 by decide)
  have h1 := Int.emod_lt_of_pos (cellAt s 1 / 8) (show (0 : Int) < 5 by decide)
  generalize cellAt s 1 / 8 % 5 = i at h0 h1
  rcases (show i = 0 ∨ i = 1 ∨ i = 2 ∨ i = 3 ∨ i = 4 by omega) with rfl | rfl | rfl | rfl | rfl <;> rfl
@[irreducible] def n1thing (s : List Int) : D := if decide (n1kind s = 7) = true then n1pick s else .str (n1text s)
def n1due0 (s : List Int) : Bool := !decide (n1kind s = 7) && (decide (0 < n1size s) && decide (n1size s < 13))
def n1due (s : List Int) (i : Nat) : Bool := n1due0 s && ((n1text s).cps.toList.take i).all fun n => decide (n ∈ abc.cps.toList)
theorem n1due_succ {s : List Int} {i c : Nat} (h : (n1text s).cps[i]? = some c) : n1due s (i + 1) = (n1due s i && decide (c ∈ abc.cps.toList)) := by
  unfold n1due
  rw [List.take_add_one, show (n1text s).cps.toList[i]? = some c by rw [Array.getElem?_toList]; exact h, List.all_append, Bool.and_assoc]
  show (_ && (_ && (decide (c ∈ abc.cps.toList) && true))) = _
  rw [Bool.and_true]
theorem n1_ok (s : List Int) : nameD (n1thing s) = n1due s (n1text s).cps.size := by
  unfold n1thing n1due n1due0
  rw [List.take_of_length_le (by rw [Array.length_toList]; exact Nat.le_refl _)]
  by_cases h : n1kind s = 7
  · rw [if_pos (decide_eq_true h), nameD_not (n1pick_not s), decide_eq_true h]; rfl
  · rw [if_neg (by rw [decide_eq_false h]; exact Bool.false_ne_true), decide_eq_false h]
    have e := n1text_len s
    show (decide (1 ≤ ((n1text s).length : Int)) && decide (((n1text s).length : Int) ≤ 12) && _) = (true && (decide (0 < n1size s) && decide (n1size s < 13)) && _)
    rw [e]
    congr 1
    rw [Bool.true_and]
    congr 1 <;> exact decide_eq_decide.mpr ⟨fun _ => by omega, fun _ => by omega⟩
theorem n1thing_len (s : List Int) : ∀ z, n1thing s = .str z → z.length ≤ sizeLine := by
  intro z e
  unfold n1thing at e
  split at e
  · have := n1pick_not s
    rw [e] at this; cases this
  · cases e
    have := n1text_len s
    have := n1size_hi s
    exact line_of (by omega)
theorem n1text_t {s : List Int} (h : (decide (n1kind s < 3) && decide (n1size s > 0)) = true) : n1text s = cutS (Txt.join "" (n1parts s)) none (some (n1at s)) ++ signBy (cellAt s 2) ++ cutS (Txt.join "" (n1parts s)) (some (n1at s + 1)) none := by
  unfold n1text
  rw [if_pos h]
  unfold n1base
  rfl
theorem n1text_f {s : List Int} (h : (decide (n1kind s < 3) && decide (n1size s > 0)) = false) : n1text s = Txt.join "" (n1parts s) := by
  unfold n1text
  rw [h, if_neg Bool.false_ne_true]
  unfold n1base
  rfl
theorem n1thing_t {s : List Int} (h : decide (n1kind s = 7) = true) : n1thing s = n1pick s := by unfold n1thing; exact if_pos h
theorem n1thing_f {s : List Int} (h : decide (n1kind s = 7) = false) : n1thing s = .str (n1text s) := by unfold n1thing; exact if_neg (by rw [h]; exact Bool.false_ne_true)
theorem n1join_15 (s : List Int) : (Txt.join "" (n1parts s)).length ≤ 15 := by
  have e := n1base_len s
  unfold n1base at e
  have := n1size_hi s
  omega
theorem n1parts_D (s : List Int) : ((List.range (n1size s).toNat).filter (fun _ => true)).map (fun (k : Nat) => D.str (let1 (cellAt s (3 + k) % 26))) = (n1parts s).map D.str := by
  unfold n1parts
  rw [List.map_map, List.filter_eq_self.mpr (fun _ _ => rfl)]
  rfl
theorem n1due_0 (s : List Int) : n1due s 0 = n1due0 s := Bool.and_true _
end SF

namespace SF
open PySem PySem.Spec PyProof.Rows L2 PV
def topS (i : Nat) : Stmt := PySem.Challenge.pw_slotfitter_k01_names.main.body.getD i (.Pass ⟨0, 0, 0, 0⟩)
abbrev s_is_name : Stmt := topS 3
theorem sc_is_name : FnScope ["thing"] ["thing"] (defScope s_is_name) := ⟨rfl, rfl, rfl, by decide +kernel, rfl, by decide +kernel, by decide +kernel⟩
abbrev s_cell_at : Stmt := topS 5
theorem sc_cell_at : FnScope ["_law_script", "_law_k"] ["_law_script", "_law_k"] (defScope s_cell_at) := ⟨rfl, rfl, rfl, by decide +kernel, rfl, by decide +kernel, by decide +kernel⟩
abbrev s_sign_by : Stmt := topS 6
theorem sc_sign_by : FnScope ["_law_cell", "_law_some"] ["_law_cell"] (defScope s_sign_by) := ⟨rfl, rfl, rfl, by decide +kernel, rfl, by decide +kernel, by decide +kernel⟩
abbrev s_law : Stmt := topS 7
theorem sc_law : FnScope ["_law_script", "_law_some", "_law_size", "_law_k", "_law_text", "_law_kind", "_law_at", "_law_thing", "_law_due", "_law_letter", "_law_found"] ["_law_script"] (defScope s_law) := ⟨rfl, rfl, rfl, by decide +kernel, rfl, by decide +kernel, by decide +kernel⟩
/-- the top's facts -/
structure Txt (K : PySem.W.Frag) (mg : Str → Option Value) where
  fd_is_name : FuncData
  F_is_name : FunD K "is_name" "is_name" (defArgs s_is_name) (defBody s_is_name) (defScope s_is_name) [] [] (He.fAd K ("is_name", none)) fd_is_name
  g_is_name : mg "is_name" = some (.ref (He.fAd K ("is_name", none)))
  fd_cell_at : FuncData
  F_cell_at : FunD K "_law_cell_at" "_law_cell_at" (defArgs s_cell_at) (defBody s_cell_at) (defScope s_cell_at) [] [] (He.fAd K ("_law_cell_at", none)) fd_cell_at
  g_cell_at : mg "_law_cell_at" = some (.ref (He.fAd K ("_law_cell_at", none)))
  fd_sign_by : FuncData
  F_sign_by : FunD K "_law_sign_by" "_law_sign_by" (defArgs s_sign_by) (defBody s_sign_by) (defScope s_sign_by) [] [] (He.fAd K ("_law_sign_by", none)) fd_sign_by
  g_sign_by : mg "_law_sign_by" = some (.ref (He.fAd K ("_law_sign_by", none)))
  fd_law : FuncData
  F_law : FunD K "law" "law" (defArgs s_law) (defBody s_law) (defScope s_law) [] [] (He.fAd K ("law", none)) fd_law
  g_law : mg "law" = some (.ref (He.fAd K ("law", none)))
  n_is_name : PySem.W.nsIn K mainGlobals "is_name" = some (some (.ref (He.ga K "is_name")))
  v_LETTERS : Value
  c_LETTERS : mg "LETTERS" = some v_LETTERS
  r_LETTERS : RelV (.str "abcdefghijklmnopqrstuvwxyz") v_LETTERS
  d_LETTERS : ∀ R, Rp K R (.str "abcdefghijklmnopqrstuvwxyz") (.str "abcdefghijklmnopqrstuvwxyz")
  v_LONGEST_NAME : Value
  c_LONGEST_NAME : mg "LONGEST_NAME" = some v_LONGEST_NAME
  r_LONGEST_NAME : RelV (.int 12) v_LONGEST_NAME
  d_LONGEST_NAME : ∀ R, Rp K R (.int 12) (.int 12)
  g_all : mg "all" = none
  g_bool : mg "bool" = none
  g_isinstance : mg "isinstance" = none
  g_len : mg "len" = none
  g_letter : mg "letter" = none
  g_range : mg "range" = none
  g_str : mg "str" = none
section
variable {K : PySem.W.Frag} {mg : Str → Option Value}
theorem b_is_name (T : Txt K mg) : Binds K T.fd_is_name ["thing"] [] := T.F_is_name.bindsN fun _ _ _ _ _ _ us hl => match us, hl with | [_], _ => rfl
theorem b_cell_at (T : Txt K mg) : Binds K T.fd_cell_at ["_law_script", "_law_k"] [] := T.F_cell_at.bindsN fun _ _ _ _ _ _ us hl => match us, hl with | [_, _], _ => rfl
theorem b_sign_by (T : Txt K mg) : Binds K T.fd_sign_by ["_law_cell"] [] := T.F_sign_by.bindsN fun _ _ _ _ _ _ us hl => match us, hl with | [_], _ => rfl
theorem b_law (T : Txt K mg) : Binds K T.fd_law ["_law_script"] [] := T.F_law.bindsN fun _ _ _ _ _ _ us hl => match us, hl with | [_], _ => rfl
end
end SF

namespace SF
open PySem PySem.Spec PyProof.Rows L2 PV
section
variable {P : Program} {w : World} {K : PySem.W.Frag} {mg : Str → Option Value} {base : Heap}
theorem ok_is_name (T : Txt K mg) (TB : GxR.TabB base mg (He.cT K ("is_name", none)).1 (He.cT K ("is_name", none)).2) : FnOk P w K mg base CX0 1 (He.fAd K ("is_name", none)) T.fd_is_name ["thing"] (spR K R_is_name) := by
  refine ok_fnC (p := ("is_name", none)) T.F_is_name sc_is_name (fun ds r hR => ?_) (fun A outer s H ds r E hr hR => ?_)
  · obtain ⟨d, rfl, hlen, rfl⟩ := hR; rfl
  obtain ⟨d, rfl, hlen, rfl⟩ := hR
  obtain ⟨tk, etk⟩ := T.r_LETTERS
  have cG := T.c_LETTERS
  rw [etk] at cG
  refine' sxs_cons (sx_if (tx_not (tx_val (ex_isF kit_S (by rfl) T.g_isinstance (by rfl) T.g_str (by decide +kernel) (ex_var (pv 0) rfl)))) (fun hc1 => ?_) (fun hc1 => ?_))
  ·
    refine' sxs_cons (sx_ret ex_bl ?_)
    show Rs.sh (.bl false) = _; rw [nameD_not (d := d) (not_f hc1)]
  ·
    obtain ⟨z, rfl⟩ := isS_str (d := d) (not_t hc1)
    refine sxs_nil ?_
    refine' sxs_cons (sx_if (tx_not (tx_chain op_le op_le o2_le (fun _ => o2_le) ex_int (ex_callB call_len_str (on_lenS ?h1) (by rfl) T.g_len PySem.boot_len (ax_cons (ex_var (pv 0) rfl) ax_nil)) (fun hb => (ex_c (pe_glob rfl T.c_LONGEST_NAME T.r_LONGEST_NAME) T.d_LONGEST_NAME)))) (fun hc2 => ?_) (fun hc2 => ?_))
    (case h1 => exact hlen z rfl)
    ·
      refine' sxs_cons (sx_ret ex_bl ?_)
      rw [nameD_str (not_f hc2)]; rfl
    ·
      refine sxs_nil ?_
      refine' sxs_cons (sx_ret (ex_allG ("is_name", none) (by decide) T.n_is_name hr (by rfl) T.g_all TB rfl (genS_of rfl rfl (by decide +kernel) rfl rfl) (elG_in rfl rfl rfl cG) (fun _ => rfl) (ex_var (pv 0) rfl)) ?_)
      rw [nameD_str (not_t hc2)]; rfl
theorem ok_cell_at (T : Txt K mg) (TB : GxR.TabB base mg (He.cT K ("is_name", none)).1 (He.cT K ("is_name", none)).2) : FnOk P w K mg base CX0 1 (He.fAd K ("_law_cell_at", none)) T.fd_cell_at ["_law_script", "_law_k"] (spR K R_cell_at) := by
  refine ok_fn T.F_cell_at sc_cell_at (fun ds r hR => ?_) (fun cdv A outer s H ds r E hr hR => ?_)
  · obtain ⟨sc, k, rfl, hk0, hk1, rfl⟩ := hR; rfl
  obtain ⟨sc, k, rfl, hk0, hk1, rfl⟩ := hR
  refine' sxs_cons (sx_if (tx_lt (ex_var (pv 1) rfl) (ex_callB call_len_seq on_lenC (by rfl) T.g_len PySem.boot_len (ax_cons (ex_var (pv 0) rfl) ax_nil))) (fun hc1 => ?_) (fun hc1 => ?_))
  ·
    refine' sxs_cons (sx_ret (ex_ix ix_list (o2_ixC ?h1) (ex_var (pv 0) rfl) (ex_var (pv 1) rfl)) ?_)
    (case h1 => exact at_pos 0 hk0 (of_decide_eq_true hc1))
    unfold cellAt; rw [if_pos (of_decide_eq_true hc1)]
  ·
    refine sxs_nil ?_
    refine' sxs_cons (sx_if (tx_eqI (ex_callB call_len_seq on_lenC (by rfl) T.g_len PySem.boot_len (ax_cons (ex_var (pv 0) rfl) ax_nil)) ex_int) (fun hc2 => ?_) (fun hc2 => ?_))
    ·
      refine' sxs_cons (sx_ret (ex_add (ex_mul (ex_mul ex_int (ex_var (pv 1) rfl) (.inl ⟨by decide, by decide⟩)) (ex_var (pv 1) rfl) ?h2) (ex_mul ex_int (ex_var (pv 1) rfl) (.inl ⟨by decide, by decide⟩))) ?_)
      (case h2 => exact .inr ⟨by omega, by omega⟩)
      unfold cellAt; rw [if_neg (of_decide_eq_false hc1), if_pos (of_decide_eq_true hc2)]
    ·
      refine sxs_nil ?_
      refine' sxs_cons (sx_ret (ex_add (ex_add (ex_mul (ex_ix ix_list (o2_ixC ?h4) (ex_var (pv 0) rfl) (ex_mod (ex_var (pv 1) rfl) (ex_callB call_len_seq on_lenC (by rfl) T.g_len PySem.boot_len (ax_cons (ex_var (pv 0) rfl) ax_nil)) ?h3)) (ex_add (ex_mul ex_int (ex_var (pv 1) rfl) (.inl ⟨by decide, by decide⟩)) ex_int) ?h5) (ex_mul (ex_mul ex_int (ex_var (pv 1) rfl) (.inl ⟨by decide, by decide⟩)) (ex_var (pv 1) rfl) ?h6)) (ex_mul ex_int (ex_var (pv 1) rfl) (.inl ⟨by decide, by decide⟩))) ?_)
      (case h3 => have := of_decide_eq_false hc2; omega)
      (case h4 => exact at_pos 0 (Int.emod_nonneg _ (by have := of_decide_eq_false hc2; omega)) (Int.emod_lt_of_pos _ (by have := of_decide_eq_false hc2; omega)))
      (case h5 => exact .inr ⟨by omega, by omega⟩)
      (case h6 => exact .inr ⟨by omega, by omega⟩)
      unfold cellAt; rw [if_neg (of_decide_eq_false hc1), if_neg (of_decide_eq_false hc2)]
theorem ok_sign_by (T : Txt K mg) (TB : GxR.TabB base mg (He.cT K ("is_name", none)).1 (He.cT K ("is_name", none)).2) : FnOk P w K mg base CX0 1 (He.fAd K ("_law_sign_by", none)) T.fd_sign_by ["_law_cell"] (spR K R_sign_by) := by
  refine ok_fn T.F_sign_by sc_sign_by (fun ds r hR => ?_) (fun cdv A outer s H ds r E hr hR => ?_)
  · obtain ⟨c, rfl, rfl⟩ := hR; rfl
  obtain ⟨c, rfl, rfl⟩ := hR
  refine' sxs_cons (sx_set (i := 1) sc_sign_by.nd rfl (by first | exact .inl rfl | exact .inr (.inl rfl) | exact .inr rfl) ex_str ?_)
  refine' sxs_cons (sx_set (i := 1) sc_sign_by.nd rfl (by first | exact .inl rfl | exact .inr (.inl rfl) | exact .inr rfl) (ex_addS (ex_var (pv 1) rfl) ex_str ?h1) ?_)
  (case h1 => exact pads_le2)
  refine' sxs_cons (sx_ret (ex_ix ix_str (o2_ixS ?h2 ?h3) (ex_var (pv 1) rfl) (ex_mod (ex_var (pv 0) rfl) ex_int (by decide))) ?_)
  (case h2 => exact pads_le)
  (case h3 => exact at_pos 97 (Int.emod_nonneg _ (by decide)) (by have := Int.emod_lt_of_pos c (show (0 : Int) < 96 by decide); have e := pad_len; show c % 96 < (((pad1 ++ pad2).cps.toList.length : Nat) : Int); omega))
  unfold signBy; rfl
end
end SF

namespace SF
open PySem PySem.Spec PyProof.Rows L2 PV
section
variable {P : Program} {w : World} {K : PySem.W.Frag} {mg : Str → Option Value} {base : Heap}
theorem ok_law (T : Txt K mg) (TB : GxR.TabB base mg (He.cT K ("is_name", none)).1 (He.cT K ("is_name", none)).2) : FnOk P w K mg base CX0 2 (He.fAd K ("law", none)) T.fd_law ["_law_script"] (spR K R_law) := by
  refine ok_fn T.F_law sc_law (fun ds r hR => ?_) (fun cdv A outer s H ds r E hr hR => ?_)
  · obtain ⟨sc, rfl, rfl⟩ := hR; rfl
  obtain ⟨sc, rfl, rfl⟩ := hR
  refine' sxs_cons (sx_set (i := 1) sc_law.nd rfl (by first | exact .inl rfl | exact .inr (.inl rfl) | exact .inr rfl) ex_str ?_)
  refine' sxs_cons (sx_set (i := 2) sc_law.nd rfl (by first | exact .inl rfl | exact .inr (.inl rfl) | exact .inr rfl) (ex_mod (ex_call2 (ok_cell_at T TB) (hr.mono (by decide)) (by rfl) T.g_cell_at T.F_cell_at.kp (b_cell_at T) pass0 (ax_cons (ex_var (pv 0) rfl) (ax_cons ex_int ax_nil)) ?h1) ex_int (by decide)) ?_)
  (case h1 => exact ⟨_, _, rfl, by first | decide | omega, by first | decide | omega, rfl⟩)
  refine' sxs_cons (sx_set (i := 4) sc_law.nd rfl (by first | exact .inl rfl | exact .inr (.inl rfl) | exact .inr rfl) (ex_join (ys := n1parts sc) ex_str (ex_share (ex_lc (own := [("_law_k", 3)]) rfl sc_law.nd (pi_range1 (by rfl) T.g_range pa_sem) (blkOk_by (N := ["_law_script", "_law_some", "_law_size", "_law_k", "_law_text", "_law_kind", "_law_at", "_law_thing", "_law_due", "_law_letter", "_law_found"]) (sc := defScope s_law) (by decide +kernel)) (fun _ _ _ _ _ => (pg_name (i := 3) sc_law.nd rfl (by first | exact .inl rfl | exact .inr rfl))) (ev_lcR (fun _ => true) (fun k => .str (let1 (cellAt sc (3 + k) % 26))) (ax_cons (ex_var (pv 2) rfl) ax_nil) ?h2 (gset_name (by decide)) ?h3 (fun i hi => ⟨_, gv_name, fun _ _ _ _ _ => txs_nil, fun hk _ _ _ _ _ => (ex_ix ix_str (o2_ixS ?h5 ?h6) (ex_var (pv 1) rfl) (ex_mod (ex_call2 (ok_cell_at T TB) (hr.mono (by decide)) (by rfl) T.g_cell_at T.F_cell_at.kp (b_cell_at T) pass0 (ax_cons (ex_var (pv 0) rfl) (ax_cons (ex_add ex_int (ex_var (pv 3) rfl)) ax_nil)) ?h4) ex_int (by decide)))⟩)))) (congrArg some (n1parts_D sc)) ?h7) ?_)
  (case h2 => have := n1size_lo sc; have := n1size_hi sc; exact ⟨by show _ ≤ n1size sc; omega, by show n1size sc < _; omega⟩)
  (case h3 => exact line_of (by have := n1size_hi sc; have := n1size_lo sc; show (n1size sc).toNat ≤ 10000; omega))
  (case h4 => exact ⟨_, _, rfl, by first | decide | omega, by first | decide | omega, rfl⟩)
  (case h5 => exact line_of (show abc.length ≤ 10000 by rw [abc_len]; decide))
  (case h6 => exact abc_at (Int.emod_nonneg _ (by decide)) (Int.emod_lt_of_pos _ (by decide)))
  (case h7 => show _ + _ * 0 ≤ _; rw [n1parts_sum]; have := n1size_hi sc; omega)
  refine' sxs_cons (sx_set (i := 5) sc_law.nd rfl (by first | exact .inl rfl | exact .inr (.inl rfl) | exact .inr rfl) (ex_mod (ex_call2 (ok_cell_at T TB) (hr.mono (by decide)) (by rfl) T.g_cell_at T.F_cell_at.kp (b_cell_at T) pass0 (ax_cons (ex_var (pv 0) rfl) (ax_cons ex_int ax_nil)) ?h8) ex_int (by decide)) ?_)
  (case h8 => exact ⟨_, _, rfl, by first | decide | omega, by first | decide | omega, rfl⟩)
  refine' sxs_cons (sx_ifJ ([.sh (.scr sc), .sh (.str abc), .sh (.int (n1size sc)), .no, .sh (.str (n1text sc)), .sh (.int (n1kind sc)), .no, .no, .no, .no, .no]) (tx_w (wx_and (tx_lt (ex_var (pv 5) rfl) ex_int) (fun hb => (wx_and1 (tx_gt (ex_var (pv 2) rfl) ex_int))))) (fun hc1 => ?_) (fun hc1 => ?_) (fun ρ1 l1 => SXs.weak l1 ?_))
  ·
    refine' sxs_cons (sx_set (i := 6) sc_law.nd rfl (by first | exact .inl rfl | exact .inr (.inl rfl) | exact .inr rfl) (ex_mod (ex_fdiv (ex_call2 (ok_cell_at T TB) (hr.mono (by decide)) (by rfl) T.g_cell_at T.F_cell_at.kp (b_cell_at T) pass0 (ax_cons (ex_var (pv 0) rfl) (ax_cons ex_int ax_nil)) ?h9) ex_int ⟨by decide, by decide⟩) (ex_var (pv 2) rfl) ?h10) ?_)
    (case h9 => exact ⟨_, _, rfl, by first | decide | omega, by first | decide | omega, rfl⟩)
    (case h10 => have h := of_decide_eq_true (Bool.and_eq_true_iff.mp hc1).2; omega)
    refine' sxs_cons (sx_set (i := 4) sc_law.nd rfl (by first | exact .inl rfl | exact .inr (.inl rfl) | exact .inr rfl) (ex_addS (ex_addS (ex_slS (ex_var (pv 4) rfl) ?h11 ox_none (ox_some (ex_var (pv 6) rfl))) (ex_call1 (ok_sign_by T TB) (hr.mono (by decide)) (by rfl) T.g_sign_by T.F_sign_by.kp (b_sign_by T) pass0 (ax_cons (ex_call2 (ok_cell_at T TB) (hr.mono (by decide)) (by rfl) T.g_cell_at T.F_cell_at.kp (b_cell_at T) pass0 (ax_cons (ex_var (pv 0) rfl) (ax_cons ex_int ax_nil)) ?h12) ax_nil) ?h13) ?h14) (ex_slS (ex_var (pv 4) rfl) ?h15 (ox_some (ex_add (ex_var (pv 6) rfl) ex_int)) ox_none) ?h16) ?_)
    (case h11 => exact line_of (Nat.le_trans (n1join_15 sc) (by decide)))
    (case h12 => exact ⟨_, _, rfl, by first | decide | omega, by first | decide | omega, rfl⟩)
    (case h13 => exact ⟨_, rfl, rfl⟩)
    (case h14 => exact add_ok (n := 15) (m := 1) (cut_ok (n1join_15 sc)) (Nat.le_of_eq (signBy_len _)))
    (case h15 => exact line_of (Nat.le_trans (n1join_15 sc) (by decide)))
    (case h16 => exact add_ok (n := 16) (m := 15) (by rw [Str.len_app, signBy_len]; exact Nat.add_le_add_right (cut_ok (n1join_15 sc)) 1) (cut_ok (n1join_15 sc)))
    refine sxs_nil ?_
    first | (show Lt _ _; rw [n1text_t hc1]; (repeat first | exact Lt.nil | refine Lt.eq ?_ | refine Lt.no ?_); done) | (show Lt _ _; rw [n1text_f hc1]; (repeat first | exact Lt.nil | refine Lt.eq ?_ | refine Lt.no ?_); done)
  ·
    refine sxs_nil ?_
    first | (show Lt _ _; rw [n1text_t hc1]; (repeat first | exact Lt.nil | refine Lt.eq ?_ | refine Lt.no ?_); done) | (show Lt _ _; rw [n1text_f hc1]; (repeat first | exact Lt.nil | refine Lt.eq ?_ | refine Lt.no ?_); done)
  refine' sxs_cons (sx_set (i := 7) sc_law.nd rfl (by first | exact .inl rfl | exact .inr (.inl rfl) | exact .inr rfl) (ex_var (pv 4) rfl) ?_)
  refine' sxs_cons (sx_ifJ ([.sh (.scr sc), .sh (.str abc), .sh (.int (n1size sc)), .no, .sh (.str (n1text sc)), .sh (.int (n1kind sc)), .no, .sh (n1thing sc), .no, .no, .no]) (tx_eqI (ex_var (pv 5) rfl) ex_int) (fun hc2 => ?_) (fun hc2 => ?_) (fun ρ1 l1 => SXs.weak l1 ?_))
  ·
    refine' sxs_cons (sx_set (i := 7) sc_law.nd rfl (by first | exact .inl rfl | exact .inr (.inl rfl) | exact .inr rfl) (ex_ix ix_list (o2_ixL ?h19) (ex_share (ex_lst5 (ax_cons (ex_call2 (ok_cell_at T TB) (hr.mono (by decide)) (by rfl) T.g_cell_at T.F_cell_at.kp (b_cell_at T) pass0 (ax_cons (ex_var (pv 0) rfl) (ax_cons ex_int ax_nil)) ?h17) (ax_cons ex_non (ax_cons ex_bl (ax_cons (ex_tup1 (ax_cons (ex_var (pv 4) rfl) ax_nil)) (ax_cons (ex_share (ex_lst1 (ax_cons (ex_var (pv 4) rfl) ax_nil))) ax_nil))))))) (ex_mod (ex_fdiv (ex_call2 (ok_cell_at T TB) (hr.mono (by decide)) (by rfl) T.g_cell_at T.F_cell_at.kp (b_cell_at T) pass0 (ax_cons (ex_var (pv 0) rfl) (ax_cons ex_int ax_nil)) ?h18) ex_int ⟨by decide, by decide⟩) ex_int (by decide))) ?_)
    (case h17 => exact ⟨_, _, rfl, by first | decide | omega, by first | decide | omega, rfl⟩)
    (case h18 => exact ⟨_, _, rfl, by first | decide | omega, by first | decide | omega, rfl⟩)
    (case h19 => exact at_pos .non (Int.emod_nonneg _ (by decide)) (Int.emod_lt_of_pos _ (by decide)))
    refine sxs_nil ?_
    first | (show Lt _ _; rw [n1thing_t hc2]; (repeat first | exact Lt.nil | refine Lt.eq ?_ | refine Lt.no ?_); done) | (show Lt _ _; rw [n1thing_f hc2]; (repeat first | exact Lt.nil | refine Lt.eq ?_ | refine Lt.no ?_); done)
  ·
    refine sxs_nil ?_
    first | (show Lt _ _; rw [n1thing_t hc2]; (repeat first | exact Lt.nil | refine Lt.eq ?_ | refine Lt.no ?_); done) | (show Lt _ _; rw [n1thing_f hc2]; (repeat first | exact Lt.nil | refine Lt.eq ?_ | refine Lt.no ?_); done)
  refine' sxs_cons (sx_set (i := 8) sc_law.nd rfl (by first | exact .inl rfl | exact .inr (.inl rfl) | exact .inr rfl) (ex_and (ex_neI (ex_var (pv 5) rfl) ex_int) (fun hb => (ex_and (ex_lt ex_int (ex_var (pv 2) rfl)) (fun hb => (ex_one (ex_lt (ex_var (pv 2) rfl) ex_int)))))) ?_)
  refine' sxs_cons (sx_forC (fun _ => True) (fun i => [.sh (.scr sc), .sh (.str abc), .sh (.int (n1size sc)), .no, .sh (.str (n1text sc)), .sh (.int (n1kind sc)), .no, .sh (n1thing sc), .sh (.bl (n1due sc i)), .no, .no]) PassesOwn.never rfl (ex_var (pv 4) rfl) (pg_name (i := 9) sc_law.nd rfl (by first | exact .inl rfl | exact .inr rfl)) ?_ (fun i c hi hI => ⟨_, gv_name, ?_⟩) (fun hI ρ1 l1 => SXs.weak l1 ?_))
  · refine ⟨trivial, ?_⟩; show Lt _ _; rw [n1due_0]; (repeat first | exact Lt.nil | refine Lt.eq ?_ | refine Lt.no ?_)
  ·
    refine' sxs_cons (sx_if (tx_notinS (ex_var (pv 9) rfl) (ex_var (pv 1) rfl)) (fun hc3 => ?_) (fun hc3 => ?_))
    ·
      refine' sxs_cons (sx_set (i := 8) sc_law.nd rfl (by first | exact .inl rfl | exact .inr (.inl rfl) | exact .inr rfl) ex_bl ?_)
      refine sxs_nil ?_
      refine sxs_nil ?_
      first | (refine ⟨trivial, ?_⟩; show Lt _ _; dsimp only; rw [n1due_succ hi, not_f hc3, Bool.and_false]; (repeat first | exact Lt.nil | refine Lt.eq ?_ | refine Lt.no ?_); done) | (refine ⟨trivial, ?_⟩; show Lt _ _; dsimp only; rw [n1due_succ hi, not_t hc3, Bool.and_true]; (repeat first | exact Lt.nil | refine Lt.eq ?_ | refine Lt.no ?_); done)
    ·
      refine sxs_nil ?_
      refine sxs_nil ?_
      first | (refine ⟨trivial, ?_⟩; show Lt _ _; dsimp only; rw [n1due_succ hi, not_f hc3, Bool.and_false]; (repeat first | exact Lt.nil | refine Lt.eq ?_ | refine Lt.no ?_); done) | (refine ⟨trivial, ?_⟩; show Lt _ _; dsimp only; rw [n1due_succ hi, not_t hc3, Bool.and_true]; (repeat first | exact Lt.nil | refine Lt.eq ?_ | refine Lt.no ?_); done)
  refine' sxs_cons (sx_set (i := 10) sc_law.nd rfl (by first | exact .inl rfl | exact .inr (.inl rfl) | exact .inr rfl) (ex_call1 (ok_is_name T TB) (hr.mono (by decide)) (by rfl) T.g_is_name T.F_is_name.kp (b_is_name T) pass0 (ax_cons (ex_var (pv 7) rfl) ax_nil) ?h20) ?_)
  (case h20 => exact ⟨_, rfl, n1thing_len sc, rfl⟩)
  refine' sxs_cons (sx_ret (ex_and (ex_isF kit_B (by rfl) T.g_isinstance (by rfl) T.g_bool (by decide +kernel) (ex_var (pv 10) rfl)) (fun hb => (ex_one (ex_eqB (ex_var (pv 10) rfl) (ex_var (pv 8) rfl))))) ?_)
  show Rs.sh (.bl (true && decide (nameD (n1thing sc) = n1due sc _))) = _; rw [n1_ok, decide_eq_true rfl]; rfl
end
end SF

namespace SF
open PySem PySem.Spec PyProof.Rows L2 PV
def dd_is_name : He.DefD := ⟨("is_name", none), "is_name", "is_name", defArgs s_is_name, defBody s_is_name, defScope s_is_name, [], []⟩
def dd_cell_at : He.DefD := ⟨("_law_cell_at", none), "_law_cell_at", "_law_cell_at", defArgs s_cell_at, defBody s_cell_at, defScope s_cell_at, [], []⟩
def dd_sign_by : He.DefD := ⟨("_law_sign_by", none), "_law_sign_by", "_law_sign_by", defArgs s_sign_by, defBody s_sign_by, defScope s_sign_by, [], []⟩
def dd_law : He.DefD := ⟨("law", none), "law", "law", defArgs s_law, defBody s_law, defScope s_law, [], []⟩
def fnL : List He.DefD := [dd_is_name, dd_cell_at, dd_sign_by, dd_law]
def faL : List He.Fa := [.glo "is_name", .glo "_law_cell_at", .glo "_law_sign_by", .glo "law", .str "LETTERS" "abcdefghijklmnopqrstuvwxyz", .int "LONGEST_NAME" 12, .free "all", .free "bool", .free "isinstance", .free "len", .free "letter", .free "range", .free "str"]
def exL (K : PySem.W.Frag) : Bool := true
abbrev RwL : PySem.W.OpenRow := PySem.W.OpenLaw.row PySem.Challenge.rw_slotfitter_k01_names
abbrev hkL : PySem.W.Hook := He.hookX 4 faL fnL [] [("is_name", none)] exL
def obL (s : PySem.W.SharedT) : He.AlX := He.obsX 4 faL fnL [] [("is_name", none)] exL (HandSHeadRun.getT s)
theorem obL_eq (s : PySem.W.SharedT) : obL s = hkL.obs s.abs := He.obsX_eq (HandSHeadRun.getT_eq s)
def looseL : List PySem.Str := ["is_name", "_law_cell_at", "_law_sign_by", "LETTERS", "LONGEST_NAME"]
set_option maxHeartbeats 0 in
theorem runL (w : World) : HandSHeadRun.RunEq RwL (PySem.W.view RwL.prog [7]) hkL obL 1500 looseL w := by
  intro os
  kernel_rfl
theorem txt_of {w : World} {K : PySem.W.Frag} {h : Heap} {mg : Str → Option Value} (X : K.In h) (G : h.Ns mainGlobals mg) (c : He.SaysX faL fnL [] [("is_name", none)] exL w h K) : Nonempty (Txt K mg) := by
  obtain ⟨f_is_name, F_is_name⟩ := c.t.d.def_ 0 (d := dd_is_name) rfl
  obtain ⟨f_cell_at, F_cell_at⟩ := c.t.d.def_ 1 (d := dd_cell_at) rfl
  obtain ⟨f_sign_by, F_sign_by⟩ := c.t.d.def_ 2 (d := dd_sign_by) rfl
  obtain ⟨f_law, F_law⟩ := c.t.d.def_ 3 (d := dd_law) rfl
  obtain ⟨t_LETTERS, k_LETTERS⟩ := He.str_ok X G (c.t.d.fact 4 (f := .str "LETTERS" "abcdefghijklmnopqrstuvwxyz") rfl)
  obtain ⟨t_LONGEST_NAME, k_LONGEST_NAME⟩ := He.int_ok X G (c.t.d.fact 5 (f := .int "LONGEST_NAME" 12) rfl)
  exact ⟨({ fd_is_name := (f_is_name), F_is_name := (F_is_name), g_is_name := (He.glo_ok X G (c.t.d.fact 0 (f := .glo "is_name") rfl)), fd_cell_at := (f_cell_at), F_cell_at := (F_cell_at), g_cell_at := (He.glo_ok X G (c.t.d.fact 1 (f := .glo "_law_cell_at") rfl)), fd_sign_by := (f_sign_by), F_sign_by := (F_sign_by), g_sign_by := (He.glo_ok X G (c.t.d.fact 2 (f := .glo "_law_sign_by") rfl)), fd_law := (f_law), F_law := (F_law), g_law := (He.glo_ok X G (c.t.d.fact 3 (f := .glo "law") rfl)), v_LETTERS := (_), c_LETTERS := (k_LETTERS), r_LETTERS := (⟨t_LETTERS, rfl⟩), d_LETTERS := (fun R => .str _), v_LONGEST_NAME := (_), c_LONGEST_NAME := (k_LONGEST_NAME), r_LONGEST_NAME := (⟨t_LONGEST_NAME, rfl⟩), d_LONGEST_NAME := (fun R => .int _), n_is_name := (He.eqO_ok (c.t.d.fact 0 (f := .glo "is_name") rfl)), g_all := (He.free_ok X G (c.t.d.fact 6 (f := .free "all") rfl)), g_bool := (He.free_ok X G (c.t.d.fact 7 (f := .free "bool") rfl)), g_isinstance := (He.free_ok X G (c.t.d.fact 8 (f := .free "isinstance") rfl)), g_len := (He.free_ok X G (c.t.d.fact 9 (f := .free "len") rfl)), g_letter := (He.free_ok X G (c.t.d.fact 10 (f := .free "letter") rfl)), g_range := (He.free_ok X G (c.t.d.fact 11 (f := .free "range") rfl)), g_str := (He.free_ok X G (c.t.d.fact 12 (f := .free "str") rfl)) } : Txt K mg)⟩
theorem facts {Pg : Program} {w : World} {K : PySem.W.Frag} {h : Heap} {mg : Str → Option Value} {f : Addr} (X : K.In h) (G : h.Ns mainGlobals mg) (hfa : mg ("law" : Str) = some (.ref f)) (c : He.SaysX faL fnL [] [("is_name", none)] exL w h K) :
    ∃ fd : FuncData, (∀ (s : Shared) (v : Value), BindsTo s fd ⟨[v], []⟩ [("_law_script", v)]) ∧ ∀ base : Heap, K.In base → base.Ns mainGlobals mg → GxR.TabB base mg (He.cT K ("is_name", none)).1 (He.cT K ("is_name", none)).2 → FnOk Pg w K mg base CX0 2 f fd ["_law_script"] (spR K R_law) := by
  obtain ⟨T⟩ := txt_of X G c
  have e := hfa.symm.trans T.g_law
  cases e
  have b := FunD.bindsA (ps := ["_law_script"]) T.F_law fun _ _ _ _ _ _ us hl => match us, hl with | [_], _ => rfl
  exact ⟨T.fd_law, fun s v => b s [v] rfl, fun base _ _ TB => ok_law T TB⟩
end SF
open PySem PySem.W PySem.Calls PyProof.Rows
set_option maxHeartbeats 0 in
theorem PySem.Challenge.cw_slotfitter_k01_names_holds : PySem.Challenge.rw_slotfitter_k01_names.Holds := by
  w_on; o_law
  refine HandSHeadRun.head_any (r := OpenLaw.row PySem.Challenge.rw_slotfitter_k01_names) (q := view (OpenLaw.row PySem.Challenge.rw_slotfitter_k01_names).prog [7]) (H := SF.hkL) (ob := SF.obL) (M := 1500) (loose := SF.looseL) (d := HandSHeadRun.topDef (OpenLaw.row PySem.Challenge.rw_slotfitter_k01_names).prog 7) (kwd := []) SF.obL_eq
    (by kernel_rfl) (fun s => by kernel_rfl) SF.runL (by kernel_rfl) (by kernel_rfl) (by kernel_rfl) (by rfl) (by first | assumption | decide +kernel) (by decide +kernel) ⟨rfl, rfl, rfl, rfl, rfl, by decide +kernel⟩ ?hw ?hc
  case hw => w_witness2
  case hc =>
    refine LamX.walk_ofTsE (l := PySem.Challenge.rw_slotfitter_k01_names) (n := 63) (k := 2) (x := "_law_script") (CX := fun _ => L2.CX0) rfl (by decide) (by kernel_rfl) ⟨rfl, by decide, by decide⟩ ?F (fun _ _ _ _ _ z => z)
    intro w mg fa h Y G hmg0
    obtain ⟨K, KX, c⟩ := Y
    have hmg : mg ("law" : PySem.Str) = some (.ref fa) := by
      have e : (HandSHeadRun.topDef (OpenLaw.row PySem.Challenge.rw_slotfitter_k01_names).prog 7).name = ("law" : PySem.Str) := by kernel_rfl
      rw [← e]
      exact hmg0
    obtain ⟨fd, hb, hF⟩ := SF.facts (Pg := (PySem.Challenge.rw_slotfitter_k01_names).prog) (w := w) KX G hmg c
    have hm : ∀ p ∈ [He.cT K ("is_name", none)], p = He.cT K ("is_name", none) := fun p hp => List.mem_singleton.mp hp
    have m0 : (("is_name", none) : PySem.Str × Option PySem.Str) ∈ [(("is_name", none) : PySem.Str × Option PySem.Str)] := List.mem_singleton.mpr rfl
    refine ⟨K, KX, fd, [He.cT K ("is_name", none)], PV.spR K SF.R_law, fun p hp => by rw [hm p hp]; exact c.empty _ m0, fun p hp => by rw [hm p hp]; exact c.out _ m0, fun p hp => by rw [hm p hp]; exact PySem.W.codeHd_of_K KX (c.hd _ m0), hb, fun H a ns hl _ hT hS => ?_, fun base h1 h2 h3 => hF base h1 h2 (let t := h3 _ (List.mem_singleton.mpr rfl); ⟨t.code, t.bm, t.gP⟩)⟩
    have tb : PV.TabsK K H := by
      intro p hp _
      rw [List.mem_singleton.mp hp]
      exact ⟨#[], hT _ (List.mem_singleton.mpr rfl), PV.noTriples⟩
    exact ⟨H, [.scr ns], .sh (.bl true), tb, PV.Sub.self H, .cons (.scr hS) .nil, ⟨ns, rfl, rfl⟩, fun v R' H' t q => PV.is_bl _ _ q⟩


