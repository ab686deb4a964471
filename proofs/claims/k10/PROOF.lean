import PyProof.Rows.All
import Wide.All
import OpenK.AllK
import Wide.FinOn
import HandS.ForMost
import HandS.IsInst
import HandS.Wide
import HandS.AnyAll
import HandS.HeadHook1
import HandS.HeadHook2
import HandS.HeadHook4
import HandS.Nested
import HandS.Exc
import HandS.ExcOwn
import HandS.TryOnly
import HandS.More
import HandS.Defaults
import HandS.DeepEq
import KE.KEqDict
import PyProof.StrLawsIn
import HandS.Walk
import HandS.DictComp
import HandS.Rev
import HandS.RevRange
import HandS.SortInts
import HandS.Deep
import HandS.ListEq
import HandS.TupAny
import HandS.SetFor
import HandS.Strs
import HandS.ListItems
import KE.KDictZip
import HandS.Star
import PyProof.Rows.TupAssign
import HandS.Text
import HandS.Head0
import HandS.Head1
import HandS.Head2
import HandS.Head3
import HandS.HeadEnd
import HandS.HeadHook3
import HandS.HeadWalk
import PySem.Challenge.RW_slotfitter_k10_written
set_option Elab.async false
set_option linter.all false
set_option maxRecDepth 100000
set_option maxHeartbeats 8000000
namespace PV
open PySem PySem.Spec PyProof.Rows L2

inductive D where
  | non | bl (b : Bool) | int (i : Int) | str (x : Str) | lst (xs : List D) | tup (xs : List D) | dK (kvs : List (Key × D)) | dT (kvs : List (List Key × D)) | scr (ns : List Int) | key (ks : List Key)
  | fn (f : Addr) (F : NdefX.NF) (us : List V) (wds : List D)

mutual
inductive Rp (K : PySem.W.Frag) (R : Hp) : V → D → Prop
  | non : Rp K R .non .non
  | bl (b : Bool) : Rp K R (.bl b) (.bl b)
  | int (i : Int) : Rp K R (.int i) (.int i)
  | str (x : Str) : Rp K R (.str x) (.str x)
  | lst {a : Addr} {xs : List V} {ds : List D} : R a = some (.lst xs) → RpA K R xs ds → Rp K R (.ref a) (.lst ds)
  | scr {a : Addr} {ns : List Int} : SqL K R a (ns.map V.int) → Rp K R (.ref a) (.scr ns)
  | tup {a : Addr} {xs : List V} {ds : List D} : SqT K R a xs → RpA K R xs ds → Rp K R (.ref a) (.tup ds)
  | dK {a : Addr} {kvs : List (Key × V)} {kds : List (Key × D)} : R a = some (.dK kvs) → RpK K R kvs kds → Rp K R (.ref a) (.dK kds)
  | dT {a : Addr} {kvs : List (List Key × V)} {kds : List (List Key × D)} : R a = some (.dT kvs) → RpK K R kvs kds → Rp K R (.ref a) (.dT kds)
  | key {a : Addr} {ks : List Key} : R a = some (.tup (ks.map kV)) → Rp K R (.ref a) (.key ks)
  | fn {f : Addr} {F : NdefX.NF} {us : List V} {wds : List D} : R f = some (NdefX.FnO f F) → R F.c = some (LamX.CodeO F.c F.qual) → RpA K R us wds → Rp K R (.ref f) (.fn f F us wds)
inductive RpA (K : PySem.W.Frag) (R : Hp) : List V → List D → Prop
  | nil : RpA K R [] []
  | cons {v : V} {vs : List V} {d : D} {ds : List D} : Rp K R v d → RpA K R vs ds → RpA K R (v :: vs) (d :: ds)
inductive RpK (K : PySem.W.Frag) (R : Hp) : {κ : Type} → List (κ × V) → List (κ × D) → Prop
  | nil {κ : Type} : RpK K R (κ := κ) [] []
  | cons {κ : Type} {k : κ} {v : V} {vs : List (κ × V)} {d : D} {ds : List (κ × D)} : Rp K R v d → RpK K R vs ds → RpK K R ((k, v) :: vs) ((k, d) :: ds)
end

def keyD : Key → D
  | .inl i => .int i
  | .inr x => .str x
theorem key_rp {K : PySem.W.Frag} (R : Hp) : ∀ k : Key, Rp K R (kV k) (keyD k)
  | .inl i => .int i
  | .inr x => .str x
theorem keys_rp {K : PySem.W.Frag} (R : Hp) : ∀ ks : List Key, RpA K R (ks.map kV) (ks.map keyD)
  | [] => .nil
  | k :: ks => .cons (key_rp R k) (keys_rp R ks)
theorem Rp.unkey {K : PySem.W.Frag} {R : Hp} {v : V} {ks : List Key} (h : Rp K R v (.key ks)) : Rp K R v (.tup (ks.map keyD)) := by
  cases h with
  | key h => exact .tup (SqT.of h) (keys_rp R ks)
def NT : HO → Prop
  | .tbl _ => False
  | _ => True
structure Sm (H H' : Hp) : Prop where
  k : ∀ b o, H b = some o → NT o → H' b = some o
  t : ∀ b ps, H b = some (.tbl ps) → ∃ ps', H' b = some (.tbl ps') ∧ (TriplesOk ps.toList → TriplesOk ps'.toList)
theorem Sm.refl (H : Hp) : Sm H H := ⟨fun _ _ h _ => h, fun _ ps h => ⟨ps, h, id⟩⟩
theorem Sm.trans {H H1 H2 : Hp} (a : Sm H H1) (b : Sm H1 H2) : Sm H H2 := ⟨fun c o h n => b.k c o (a.k c o h n) n, fun c ps h => by
  obtain ⟨p1, h1, t1⟩ := a.t c ps h
  obtain ⟨p2, h2, t2⟩ := b.t c p1 h1
  exact ⟨p2, h2, fun z => t2 (t1 z)⟩⟩
theorem Sm.has {H H' : Hp} (e : Sm H H') {l : Addr} {o : HO} (h : H l = some o) : ∃ o', H' l = some o' := by
  by_cases n : NT o
  · exact ⟨o, e.k l o h n⟩
  · cases o <;> first | exact absurd trivial n | skip
    obtain ⟨p, q, _⟩ := e.t l _ h
    exact ⟨_, q⟩
theorem Sm.free {H H' : Hp} (e : Sm H H') {l : Addr} (h : H' l = Option.none) : H l = Option.none := by
  cases q : H l with
  | none => rfl
  | some o =>
    obtain ⟨o', z⟩ := e.has q
    rw [h] at z; cases z
theorem Sm.seq {K : PySem.W.Frag} {H H' : Hp} {a : Addr} {xs : List V} (e : Sm H H') (h : SqL K H a xs) : SqL K H' a xs := by
  rcases h with (h | ⟨o, h⟩) | h
  · exact .inl (.inl (e.k _ _ h trivial))
  · exact .inl (.inr ⟨o, e.k _ _ h trivial⟩)
  · exact .inr h
theorem Sm.upd {H H' : Hp} (e : Sm H H') {p : Addr} {o : HO} (n : H' p = none) : Sm H (upd H' p o) := by
  refine e.trans ⟨fun b x h _ => ?_, fun b ps h => ⟨ps, ?_, id⟩⟩
  · rw [upd_ne (ne_of_none h n)]; exact h
  · rw [upd_ne (ne_of_none h n)]; exact h
theorem Sm.put {H H' : Hp} (e : Sm H H') {p : Addr} {o : HO} (n : H p = none) : Sm H (L2.upd H' p o) := by
  refine ⟨fun b x h nt => ?_, fun b ps h => ?_⟩
  · rw [upd_ne (ne_of_none h n)]; exact e.k b x h nt
  · rw [upd_ne (ne_of_none h n)]; exact e.t b ps h
theorem Sm.seqT {K : PySem.W.Frag} {H H' : Hp} {a : Addr} {xs : List V} (e : Sm H H') (h : SqT K H a xs) : SqT K H' a xs := by
  rcases h with (h | ⟨o, h⟩) | h
  · exact .inl (.inl (e.k _ _ h trivial))
  · exact .inl (.inr ⟨o, e.k _ _ h trivial⟩)
  · exact .inr h

section
variable {K : PySem.W.Frag} {R R' H H' : Hp}
mutual
theorem Rp.mono (s : Sm R R') : ∀ {v : V} {d : D}, Rp K R v d → Rp K R' v d
  | _, _, .non => .non
  | _, _, .bl b => .bl b
  | _, _, .int i => .int i
  | _, _, .str x => .str x
  | _, _, .lst h r => .lst (s.k _ _ h trivial) (RpA.mono s r)
  | _, _, .scr h => .scr (s.seq h)
  | _, _, .tup h r => .tup (Sm.seqT s h) (RpA.mono s r)
  | _, _, .dK h r => .dK (s.k _ _ h trivial) (RpK.mono s r)
  | _, _, .dT h r => .dT (s.k _ _ h trivial) (RpK.mono s r)
  | _, _, .key h => .key (s.k _ _ h trivial)
  | _, _, .fn h c r => .fn (s.k _ _ h trivial) (s.k _ _ c trivial) (RpA.mono s r)
theorem RpA.mono (s : Sm R R') : ∀ {v : List V} {d : List D}, RpA K R v d → RpA K R' v d
  | _, _, .nil => .nil
  | _, _, .cons h r => .cons (Rp.mono s h) (RpA.mono s r)
theorem RpK.mono (s : Sm R R') : ∀ {κ : Type} {v : List (κ × V)} {d : List (κ × D)}, RpK K R v d → RpK K R' v d
  | _, _, _, .nil => .nil
  | _, _, _, .cons h r => .cons (Rp.mono s h) (RpK.mono s r)
end
theorem RpA.len : ∀ {vs : List V} {ds : List D}, RpA K R vs ds → vs.length = ds.length
  | _, _, .nil => rfl
  | _, _, .cons _ r => by rw [List.length_cons, List.length_cons, RpA.len r]
theorem RpK.len : ∀ {κ : Type} {vs : List (κ × V)} {ds : List (κ × D)}, RpK K R vs ds → vs.length = ds.length
  | _, _, _, .nil => rfl
  | _, _, _, .cons _ r => by rw [List.length_cons, List.length_cons, RpK.len r]
theorem RpA.get : ∀ {vs : List V} {ds : List D} {i : Nat} {d : D}, RpA K R vs ds → ds[i]? = some d → ∃ v, vs[i]? = some v ∧ Rp K R v d
  | _, _, _, _, .nil, e => by simp at e
  | _, _, 0, _, .cons h _, e => by simp at e; subst e; exact ⟨_, rfl, h⟩
  | _, _, i + 1, d, .cons _ r, e => by
    obtain ⟨v, h1, h2⟩ := RpA.get (i := i) (d := d) r (by simpa using e)
    exact ⟨v, by simpa using h1, h2⟩
theorem RpA.get' : ∀ {vs : List V} {ds : List D} {i : Nat} {v : V}, RpA K R vs ds → vs[i]? = some v → ∃ d, ds[i]? = some d ∧ Rp K R v d
  | _, _, _, _, .nil, e => by simp at e
  | _, _, 0, _, .cons h _, e => by simp at e; subst e; exact ⟨_, rfl, h⟩
  | _, _, i + 1, v, .cons _ r, e => by
    obtain ⟨d, h1, h2⟩ := RpA.get' (i := i) (v := v) r (by simpa using e)
    exact ⟨d, by simpa using h1, h2⟩
theorem RpA.app : ∀ {vs us : List V} {ds es : List D}, RpA K R vs ds → RpA K R us es → RpA K R (vs ++ us) (ds ++ es)
  | _, _, _, _, .nil, s => s
  | _, _, _, _, .cons h r, s => .cons h (RpA.app r s)
theorem RpA.take : ∀ {vs : List V} {ds : List D} (n : Nat), RpA K R vs ds → RpA K R (vs.take n) (ds.take n)
  | _, _, 0, _ => .nil
  | _, _, _ + 1, .nil => .nil
  | _, _, n + 1, .cons h r => .cons h (RpA.take n r)
theorem RpA.drop : ∀ {vs : List V} {ds : List D} (n : Nat), RpA K R vs ds → RpA K R (vs.drop n) (ds.drop n)
  | _, _, 0, r => r
  | _, _, _ + 1, .nil => .nil
  | _, _, n + 1, .cons _ r => RpA.drop n r
theorem RpA.set {v : V} {d : D} (h : Rp K R v d) : ∀ {vs : List V} {ds : List D} (n : Nat), RpA K R vs ds → RpA K R (vs.set n v) (ds.set n d)
  | _, _, _, .nil => .nil
  | _, _, 0, .cons _ r => .cons h r
  | _, _, n + 1, .cons g r => .cons g (RpA.set h n r)
theorem RpA.ints : ∀ {vs : List V} {ns : List Int}, RpA K R vs (ns.map D.int) → vs = ns.map V.int
  | _, [], h => by cases h; rfl
  | _, n :: ns, h => by
    cases h with
    | cons h r => cases h; rw [RpA.ints r]; rfl
theorem RpA.of_ints : ∀ (ns : List Int), RpA K R (ns.map V.int) (ns.map D.int)
  | [] => .nil
  | n :: ns => .cons (.int n) (RpA.of_ints ns)
theorem RpA.strs : ∀ {vs : List V} {ns : List Str}, RpA K R vs (ns.map D.str) → vs = ns.map V.str
  | _, [], h => by cases h; rfl
  | _, n :: ns, h => by
    cases h with
    | cons h r => cases h; rw [RpA.strs r]; rfl
theorem RpA.of_strs : ∀ (ns : List Str), RpA K R (ns.map V.str) (ns.map D.str)
  | [] => .nil
  | n :: ns => .cons (.str n) (RpA.of_strs ns)
theorem RpA.bls : ∀ {vs : List V} {ns : List Bool}, RpA K R vs (ns.map D.bl) → vs = ns.map V.bl
  | _, [], h => by cases h; rfl
  | _, n :: ns, h => by
    cases h with
    | cons h r => cases h; rw [RpA.bls r]; rfl
end

mutual
def imm : D → Bool
  | .non => true
  | .bl _ => true
  | .int _ => true
  | .str _ => true
  | .lst _ => false
  | .tup ds => immA ds
  | .dK _ => false
  | .dT _ => false
  | .scr _ => false
  | .key _ => true
  | .fn _ _ _ _ => false
def immA : List D → Bool
  | [] => true
  | d :: ds => imm d && immA ds
end
theorem immA_map {α : Type} {f : α → D} (h : ∀ a, imm (f a) = true) : ∀ l : List α, immA (l.map f) = true
  | [] => rfl
  | a :: l => by
    show (imm (f a) && immA (l.map f)) = true
    rw [h a, immA_map h l]; rfl
theorem immA_app : ∀ {a b : List D}, immA a = true → immA b = true → immA (a ++ b) = true
  | [], _, _, h => h
  | x :: a, b, h, h' => by
    have h : (imm x && immA a) = true := h
    obtain ⟨h1, h2⟩ := Bool.and_eq_true_iff.mp h
    show (imm x && immA (a ++ b)) = true
    rw [h1, immA_app h2 h']; rfl
def Tp (R H : Hp) : Prop := ∀ a xs, H a = some (.tup xs) → R a = some (.tup xs)
def TpF (R H : Hp) : Prop := ∀ a o xs, H a = some (.frz o (.tup xs)) → R a = some (.frz o (.tup xs))
def TpE (R H : Hp) : Prop := ∀ a φ, H a = some (.ext φ) → R a = some (.ext φ)
section
variable {K : PySem.W.Frag} {R H : Hp}
theorem SqT.tp {a : Addr} {xs : List V} (t : Tp R H) (f : TpF R H) (h : SqT K H a xs) : SqT K R a xs := by
  rcases h with (h | ⟨o, h⟩) | h
  · exact .inl (.inl (t _ _ h))
  · exact .inl (.inr ⟨o, f _ _ _ h⟩)
  · exact .inr h
mutual
theorem Rp.imm (t : Tp R H) (f : TpF R H) : ∀ {v : V} {d : D}, Rp K H v d → imm d = true → Rp K R v d
  | _, _, .non, _ => .non
  | _, _, .bl b, _ => .bl b
  | _, _, .int i, _ => .int i
  | _, _, .str x, _ => .str x
  | _, _, .lst h r, e => nomatch e
  | _, _, .scr h, e => nomatch e
  | _, _, .tup h r, e => .tup (SqT.tp t f h) (RpA.imm t f r e)
  | _, _, .dK h r, e => nomatch e
  | _, _, .dT h r, e => nomatch e
  | _, _, .key h, e => .key (t _ _ h)
  | _, _, .fn h _ _, e => nomatch e
theorem RpA.imm (t : Tp R H) (f : TpF R H) : ∀ {v : List V} {d : List D}, RpA K H v d → immA d = true → RpA K R v d
  | _, _, .nil, _ => .nil
  | _, _, .cons (d := d) (ds := ds) h r, e => by
    have e : (PV.imm d && immA ds) = true := e
    obtain ⟨e1, e2⟩ := Bool.and_eq_true_iff.mp e
    exact .cons (Rp.imm t f h e1) (RpA.imm t f r e2)
end
end

def nmG : Nat → Nat → Str
  | 15, 4 => "road_to.<locals>.look"
  | 52, 4 => "flow.<locals>.look"
  | 102, 4 => "road_to.<locals>.look"
  | 110, 4 => "flow.<locals>.look"
  | 115, 4 => "road_to.<locals>.look"
  | 123, 4 => "flow.<locals>.look"
  | 71, 17 => "trace.<locals>.<genexpr>"
  | 129, 17 => "trace.<locals>.<genexpr>"
  | 142, 17 => "trace.<locals>.<genexpr>"
  | 118, 15 => "is_way.<locals>.<genexpr>"
  | 128, 15 => "is_way.<locals>.<genexpr>"
  | _, _ => "is_name.<locals>.<genexpr>"
def genDefs : List (Str × Option Str) := [("is_name", none), ("is_way", none), ("trace", none), ("road_to", none), ("flow", none)]
def TabsK (K : PySem.W.Frag) (H : Hp) : Prop := ∀ p ∈ genDefs, (∃ a, PySem.W.nsIn K mainGlobals p.1 = some (some (.ref a))) → NdefX.TabN H (He.cT K p).2 nmG
theorem TabsK.upd {K : PySem.W.Frag} {H : Hp} {p : Addr} {o : HO} (h : TabsK K H) (n : H p = none) : TabsK K (L2.upd H p o) := fun q hq e => (h q hq e).ext fun b x e => by rw [upd_ne (ne_of_none e n)]; exact e
def NewC (R : Hp) (ps ps' : Array Value) : Prop := (TriplesOk ps.toList → TriplesOk ps'.toList) ∧ ∀ (pos : Pos) (cv : Value), codeAmong pos ps'.toList = some cv → codeAmong pos ps.toList = some cv ∨ ∃ c, cv = .ref c ∧ R c = some (LamX.CodeO c (nmG pos.line pos.col))
theorem NewC.same {R : Hp} {ps : Array Value} : NewC R ps ps := ⟨id, fun _ _ h => .inl h⟩
theorem NewC.mono {R R' : Hp} {ps ps' : Array Value} (s : Sm R R') (h : NewC R ps ps') : NewC R' ps ps' := ⟨h.1, fun pos cv e => (h.2 pos cv e).imp id fun ⟨c, e1, e2⟩ => ⟨c, e1, s.k _ _ e2 trivial⟩⟩
theorem NewC.put {R : Hp} {ps ps' : Array Value} {p : Addr} {o : HO} (h : NewC R ps ps') (n : ∀ φ, R p ≠ some (.ext φ)) : NewC (L2.upd R p o) ps ps' := ⟨h.1, fun pos cv e => (h.2 pos cv e).imp id fun ⟨c, e1, e2⟩ => ⟨c, e1, by
  rw [upd_ne fun z => n _ (by rw [← z]; exact e2)]
  exact e2⟩⟩
theorem NewC.new {R : Hp} {ps ps' : Array Value} {p : Addr} {o : HO} (h : NewC R ps ps') (n : R p = none) : NewC (L2.upd R p o) ps ps' := h.put fun φ z => by rw [n] at z; cases z
theorem NewC.trans {R R' : Hp} {ps p1 p2 : Array Value} (s : Sm R R') (h : NewC R ps p1) (k : NewC R' p1 p2) : NewC R' ps p2 := ⟨fun z => k.1 (h.1 z), fun pos cv e => (k.2 pos cv e).elim (fun z => (h.mono s).2 pos cv z) .inr⟩

def ObjD (K : PySem.W.Frag) (R : Hp) : HO → D → Prop
  | .lst xs, .lst ds => RpA K R xs ds
  | .dK kvs, .dK kds => RpK K R kvs kds
  | .dT kvs, .dT kds => RpK K R kvs kds
  | _, _ => False
def immO : D → Bool
  | .lst ds => immA ds
  | .dK kds => immA (kds.map (·.2))
  | .dT kds => immA (kds.map (·.2))
  | _ => false
def OwO : HO → Prop
  | .lst _ => True
  | .dK _ => True
  | .dT _ => True
  | _ => False
theorem OwO.nt {o : HO} (h : OwO o) : NT o := by cases o <;> first | exact h.elim | trivial
mutual
inductive Ow (K : PySem.W.Frag) (R H : Hp) : V → D → List Addr → Prop
  | leaf {v : V} {d : D} : Rp K R v d → imm d = true → Ow K R H v d []
  | lst {p : Addr} {xs : List V} {ds : List D} {f : List Addr} : H p = some (.lst xs) → OwA K R H xs ds f → p ∉ f → Ow K R H (.ref p) (.lst ds) (p :: f)
  | tup {p : Addr} {xs : List V} {ds : List D} {f : List Addr} : R p = some (.tup xs) → OwA K R H xs ds f → Ow K R H (.ref p) (.tup ds) f
  | dK {p : Addr} {kvs : List (Key × V)} {kds : List (Key × D)} : H p = some (.dK kvs) → RpK K R kvs kds → immA (kds.map (·.2)) = true → Ow K R H (.ref p) (.dK kds) [p]
  | dT {p : Addr} {kvs : List (List Key × V)} {kds : List (List Key × D)} : H p = some (.dT kvs) → RpK K R kvs kds → immA (kds.map (·.2)) = true → Ow K R H (.ref p) (.dT kds) [p]
inductive OwA (K : PySem.W.Frag) (R H : Hp) : List V → List D → List Addr → Prop
  | nil : OwA K R H [] [] []
  | cons {v : V} {vs : List V} {d : D} {ds : List D} {f g : List Addr} : Ow K R H v d f → OwA K R H vs ds g → (∀ a ∈ f, a ∉ g) → OwA K R H (v :: vs) (d :: ds) (f ++ g)
end
section
variable {K : PySem.W.Frag} {R R' H H' : Hp}
mutual
theorem Ow.mono (s : Sm R R') : ∀ {v : V} {d : D} {f : List Addr}, Ow K R H v d f → (∀ p ∈ f, ∀ o, OwO o → H p = some o → H' p = some o) → Ow K R' H' v d f
  | _, _, _, .leaf h e, _ => .leaf (Rp.mono s h) e
  | _, _, _, .lst h r n, k => .lst (k _ List.mem_cons_self _ trivial h) (OwA.mono s r fun p hp => k p (List.mem_cons_of_mem _ hp)) n
  | _, _, _, .tup h r, k => .tup (s.k _ _ h trivial) (OwA.mono s r k)
  | _, _, _, .dK h r e, k => .dK (k _ List.mem_cons_self _ trivial h) (RpK.mono s r) e
  | _, _, _, .dT h r e, k => .dT (k _ List.mem_cons_self _ trivial h) (RpK.mono s r) e
theorem OwA.mono (s : Sm R R') : ∀ {v : List V} {d : List D} {f : List Addr}, OwA K R H v d f → (∀ p ∈ f, ∀ o, OwO o → H p = some o → H' p = some o) → OwA K R' H' v d f
  | _, _, _, .nil, _ => .nil
  | _, _, _, .cons h r n, k => .cons (Ow.mono s h fun p hp => k p (List.mem_append_left _ hp)) (OwA.mono s r fun p hp => k p (List.mem_append_right _ hp)) n
end
mutual
theorem Ow.rp (s : Sm R H) : ∀ {v : V} {d : D} {f : List Addr}, Ow K R H v d f → Rp K H v d
  | _, _, _, .leaf h e => Rp.mono s h
  | _, _, _, .lst h r n => .lst h (OwA.rp s r)
  | _, _, _, .tup h r => .tup (SqT.of (s.k _ _ h trivial)) (OwA.rp s r)
  | _, _, _, .dK h r _ => .dK h (RpK.mono s r)
  | _, _, _, .dT h r _ => .dT h (RpK.mono s r)
theorem OwA.rp (s : Sm R H) : ∀ {v : List V} {d : List D} {f : List Addr}, OwA K R H v d f → RpA K H v d
  | _, _, _, .nil => .nil
  | _, _, _, .cons h r n => .cons (Ow.rp s h) (OwA.rp s r)
end
mutual
theorem Ow.at : ∀ {v : V} {d : D} {f : List Addr}, Ow K R H v d f → ∀ p ∈ f, ∃ o, OwO o ∧ H p = some o
  | _, _, _, .leaf h e, p, hp => by cases hp
  | _, _, _, .lst h r n, p, hp => by
    rcases List.mem_cons.mp hp with rfl | hp
    · exact ⟨.lst _, trivial, h⟩
    · exact OwA.at r p hp
  | _, _, _, .tup h r, p, hp => OwA.at r p hp
  | _, _, _, .dK h r _, p, hp => by rw [List.mem_singleton.mp hp]; exact ⟨.dK _, trivial, h⟩
  | _, _, _, .dT h r _, p, hp => by rw [List.mem_singleton.mp hp]; exact ⟨.dT _, trivial, h⟩
theorem OwA.at : ∀ {v : List V} {d : List D} {f : List Addr}, OwA K R H v d f → ∀ p ∈ f, ∃ o, OwO o ∧ H p = some o
  | _, _, _, .nil, p, hp => by cases hp
  | _, _, _, .cons h r n, p, hp => by
    rcases List.mem_append.mp hp with hp | hp
    · exact Ow.at h p hp
    · exact OwA.at r p hp
end
theorem Ow.has {v : V} {d : D} {f : List Addr} (h : Ow K R H v d f) {p : Addr} (hp : p ∈ f) : H p ≠ none := by
  obtain ⟨o, _, e⟩ := h.at p hp
  rw [e]; intro z; cases z
theorem OwA.has {v : List V} {d : List D} {f : List Addr} (h : OwA K R H v d f) {p : Addr} (hp : p ∈ f) : H p ≠ none := by
  obtain ⟨o, _, e⟩ := h.at p hp
  rw [e]; intro z; cases z
theorem OwA.len : ∀ {v : List V} {d : List D} {f : List Addr}, OwA K R H v d f → v.length = d.length
  | _, _, _, .nil => rfl
  | _, _, _, .cons _ r _ => by rw [List.length_cons, List.length_cons, OwA.len r]
theorem OwA.leafs : ∀ {v : List V} {d : List D}, RpA K R v d → immA d = true → OwA K R H v d []
  | _, _, .nil, _ => .nil
  | _, _, .cons (d := d) (ds := ds) h r, e => by
    have e : (imm d && immA ds) = true := e
    obtain ⟨e1, e2⟩ := Bool.and_eq_true_iff.mp e
    exact .cons (f := []) (g := []) (.leaf h e1) (OwA.leafs r e2) (fun a ha => by cases ha)
theorem OwA.app : ∀ {v u : List V} {d e : List D} {f g : List Addr}, OwA K R H v d f → OwA K R H u e g → (∀ a ∈ f, a ∉ g) → OwA K R H (v ++ u) (d ++ e) (f ++ g)
  | _, _, _, _, _, _, .nil, s, _ => s
  | _, u, _, e, _, g, .cons (f := f1) (g := g1) h r n, s, k => by
    rw [List.append_assoc]
    refine .cons h (OwA.app r s fun a ha => k a (List.mem_append_right _ ha)) fun a ha z => ?_
    rcases List.mem_append.mp z with z | z
    · exact n a ha z
    · exact k a (List.mem_append_left _ ha) z
end
def getP : D → List Nat → Option D
  | d, [] => some d
  | .lst ds, i :: r => (ds[i]?).bind fun d => getP d r
  | .tup ds, i :: r => (ds[i]?).bind fun d => getP d r
  | _, _ :: _ => none
def setP : D → List Nat → D → D
  | _, [], e => e
  | .lst ds, i :: r, e => .lst (ds.modify i fun d => setP d r e)
  | .tup ds, i :: r, e => .tup (ds.modify i fun d => setP d r e)
  | d, _ :: _, _ => d
inductive At (K : PySem.W.Frag) (H : Hp) : V → List Nat → V → Prop
  | nil {v : V} : At K H v [] v
  | lst {p : Addr} {xs : List V} {i : Nat} {r : List Nat} {u w : V} : H p = some (.lst xs) → xs[i]? = some u → At K H u r w → At K H (.ref p) (i :: r) w
  | tup {p : Addr} {xs : List V} {i : Nat} {r : List Nat} {u w : V} : H p = some (.tup xs) → xs[i]? = some u → At K H u r w → At K H (.ref p) (i :: r) w
section
variable {K : PySem.W.Frag} {R R' H H' : Hp}
mutual
theorem Ow.imm' : ∀ {v : V} {d : D} {f : List Addr}, Ow K R H v d f → imm d = true → f = [] ∧ Rp K R v d
  | _, _, _, .leaf h e, _ => ⟨rfl, h⟩
  | _, _, _, .lst h r n, e => nomatch e
  | _, _, _, .tup h r, e => by
    obtain ⟨h1, h2⟩ := OwA.imm' r e
    exact ⟨h1, .tup (SqT.of h) h2⟩
  | _, _, _, .dK h r _, e => nomatch e
  | _, _, _, .dT h r _, e => nomatch e
theorem OwA.imm' : ∀ {v : List V} {d : List D} {f : List Addr}, OwA K R H v d f → immA d = true → f = [] ∧ RpA K R v d
  | _, _, _, .nil, _ => ⟨rfl, .nil⟩
  | _, _, _, .cons (d := d) (ds := ds) h r n, e => by
    have e : (imm d && immA ds) = true := e
    obtain ⟨e1, e2⟩ := Bool.and_eq_true_iff.mp e
    obtain ⟨h1, h2⟩ := Ow.imm' h e1
    obtain ⟨h3, h4⟩ := OwA.imm' r e2
    exact ⟨by rw [h1, h3]; rfl, .cons h2 h4⟩
end
theorem immA_get : ∀ {ds : List D} {i : Nat} {d : D}, immA ds = true → ds[i]? = some d → imm d = true
  | [], i, d, _, h => by simp at h
  | x :: r, i, d, e, h => by
    have e : (imm x && immA r) = true := e
    obtain ⟨e1, e2⟩ := Bool.and_eq_true_iff.mp e
    cases i with
    | zero => simp at h; subst h; exact e1
    | succ i => exact immA_get e2 (i := i) (by simpa using h)
theorem getP_imm : ∀ (path : List Nat) {d e : D}, imm d = true → getP d path = some e → imm e = true
  | [], d, e, h, q => by
    have : d = e := by cases d <;> exact Option.some.inj q
    subst this; exact h
  | i :: r, d, e, h, q => by
    cases d with
    | tup ds =>
      have q : ((ds[i]?).bind fun d => getP d r) = some e := q
      cases z : ds[i]? with
      | none => rw [z] at q; cases q
      | some x => rw [z] at q; exact getP_imm r (immA_get h z) q
    | lst ds => cases h
    | _ => cases q
theorem OwA.get : ∀ {vs : List V} {ds : List D} {f : List Addr} {i : Nat} {d : D}, OwA K R H vs ds f → ds[i]? = some d → ∃ v g, vs[i]? = some v ∧ Ow K R H v d g ∧ ∀ a ∈ g, a ∈ f
  | _, _, _, _, _, .nil, e => by simp at e
  | _, _, _, 0, _, .cons h r n, e => by simp at e; subst e; exact ⟨_, _, rfl, h, fun a ha => List.mem_append_left _ ha⟩
  | _, _, _, i + 1, d, .cons h r n, e => by
    obtain ⟨v, g, h1, h2, h3⟩ := OwA.get (i := i) (d := d) r (by simpa using e)
    exact ⟨v, g, by simpa using h1, h2, fun a ha => List.mem_append_right _ (h3 a ha)⟩
theorem Ow.sub (sb : Sm R H) : ∀ (path : List Nat) {v w : V} {d e : D} {f : List Addr}, Ow K R H v d f → At K H v path w → getP d path = some e → imm e = false → ∃ g, Ow K R H w e g ∧ ∀ a ∈ g, a ∈ f
  | [], v, w, d, e, f, h, a, q, _ => by
    have : d = e := by cases d <;> exact Option.some.inj q
    subst this
    cases a
    exact ⟨f, h, fun _ z => z⟩
  | i :: r, v, w, d, e, f, h, a, q, ne => by
    cases h with
    | leaf h im => rw [getP_imm _ im q] at ne; cases ne
    | @lst p xs ds f hp r' n =>
      have q : ((ds[i]?).bind fun d => getP d r) = some e := q
      cases z : ds[i]? with
      | none => rw [z] at q; cases q
      | some x =>
        rw [z] at q
        obtain ⟨u, g, hu1, hu2, hu3⟩ := r'.get z
        cases a with
        | lst k1 k2 k3 =>
          rw [hp] at k1
          cases k1
          rw [hu1] at k2
          cases k2
          obtain ⟨g2, h1, h2⟩ := Ow.sub sb r hu2 k3 q ne
          exact ⟨g2, h1, fun a ha => List.mem_cons_of_mem _ (hu3 a (h2 a ha))⟩
        | tup k1 k2 k3 => rw [hp] at k1; cases k1
    | @tup p xs ds f hp r' =>
      have q : ((ds[i]?).bind fun d => getP d r) = some e := q
      have hp := sb.k _ _ hp trivial
      cases z : ds[i]? with
      | none => rw [z] at q; cases q
      | some x =>
        rw [z] at q
        obtain ⟨u, g, hu1, hu2, hu3⟩ := r'.get z
        cases a with
        | tup k1 k2 k3 =>
          rw [hp] at k1
          cases k1
          rw [hu1] at k2
          cases k2
          obtain ⟨g2, h1, h2⟩ := Ow.sub sb r hu2 k3 q ne
          exact ⟨g2, h1, fun a ha => hu3 a (h2 a ha)⟩
        | lst k1 k2 k3 => rw [hp] at k1; cases k1
    | dK _ _ _ => cases q
    | dT _ _ _ => cases q
def Put (K : PySem.W.Frag) (R H : Hp) (w : V) (e : D) (f : List Addr) (k : Addr → HO → D → Prop) : Prop :=
  ∃ p o, w = .ref p ∧ p ∈ f ∧ H p = some o ∧ ObjD K R o e ∧ ∀ o' e', ObjD K R o' e' → immO e' = true → k p o' e'
theorem OwA.keep {p : Addr} {o : HO} {v : List V} {d : List D} {f : List Addr} (h : OwA K R H v d f) (n : p ∉ f) : OwA K R (upd H p o) v d f :=
  OwA.mono (Sm.refl R) h fun q hq o' _ e => by rw [upd_ne (fun z => n (by rw [← z]; exact hq))]; exact e
theorem Ow.keep {p : Addr} {o : HO} {v : V} {d : D} {f : List Addr} (h : Ow K R H v d f) (n : p ∉ f) : Ow K R (upd H p o) v d f :=
  Ow.mono (Sm.refl R) h fun q hq o' _ e => by rw [upd_ne (fun z => n (by rw [← z]; exact hq))]; exact e
theorem Ow.obj {p : Addr} {o : HO} {e : D} (h : H p = some o) (r : ObjD K R o e) (i : immO e = true) : Ow K R H (.ref p) e [p] := by
  cases o <;> cases e <;> first | exact r.elim | skip
  · exact .lst h (OwA.leafs r i) (fun z => nomatch z)
  · exact .dK h r i
  · exact .dT h r i
theorem OwA.put {w u : V} {es : D} {r : List Nat} (ih : ∀ {v : V} {d : D} {f : List Addr}, Ow K R H v d f → At K H v r w → getP d r = some es → Put K R H w es f fun p o' es' => Ow K R (upd H p o') v (setP d r es') f)
    (ka : At K H u r w) : ∀ {vs : List V} {ds : List D} {f : List Addr} {i : Nat} {x : D}, OwA K R H vs ds f → ds[i]? = some x → vs[i]? = some u → getP x r = some es →
    Put K R H w es f fun p o' es' => OwA K R (upd H p o') vs (ds.modify i fun d => setP d r es') f
  | _, _, _, _, _, .nil, e, _, _ => by simp at e
  | _, _, _, 0, x, .cons h r' n, e, e2, q => by
    simp at e e2
    subst e e2
    obtain ⟨p, xs, h1, h2, h3, h4, h5⟩ := ih h ka q
    refine ⟨p, xs, h1, List.mem_append_left _ h2, h3, h4, fun ys es' a b => ?_⟩
    show OwA K R (upd H p ys) _ (_ :: _) _
    exact .cons (h5 ys es' a b) (r'.keep (n p h2)) n
  | _, _, _, i + 1, x, .cons h r' n, e, e2, q => by
    obtain ⟨p, xs, h1, h2, h3, h4, h5⟩ := OwA.put ih ka r' (i := i) (x := x) (by simpa using e) (by simpa using e2) q
    refine ⟨p, xs, h1, List.mem_append_right _ h2, h3, h4, fun ys es' a b => ?_⟩
    show OwA K R (upd H p ys) _ (_ :: _) _
    exact .cons (h.keep fun z => n p z h2) (h5 ys es' a b) n
theorem Ow.put (sb : Sm R H) {w : V} {es : D} (he : immO es = true) : ∀ (path : List Nat) {v : V} {d : D} {f : List Addr}, Ow K R H v d f → At K H v path w → getP d path = some es → Put K R H w es f fun p o' es' => Ow K R (upd H p o') v (setP d path es') f
  | [], v, d, f, h, a, q => by
    have : d = es := by cases d <;> exact Option.some.inj q
    subst this
    cases a
    cases h with
    | leaf h im =>
      exfalso
      cases d <;> first | exact Bool.noConfusion he | cases im
    | tup _ _ => exact Bool.noConfusion he
    | @lst p xs _ f hp r n =>
      obtain ⟨rfl, hr⟩ := r.imm' he
      refine ⟨p, .lst xs, rfl, List.mem_cons_self, hp, hr, fun ys es' a b => ?_⟩
      show Ow K R (upd H p ys) _ es' _
      exact Ow.obj upd_same a b
    | @dK p kvs kds hp r e =>
      refine ⟨p, .dK kvs, rfl, List.mem_cons_self, hp, r, fun ys es' a b => ?_⟩
      show Ow K R (upd H p ys) _ es' _
      exact Ow.obj upd_same a b
    | @dT p kvs kds hp r e =>
      refine ⟨p, .dT kvs, rfl, List.mem_cons_self, hp, r, fun ys es' a b => ?_⟩
      show Ow K R (upd H p ys) _ es' _
      exact Ow.obj upd_same a b
  | i :: r, v, d, f, h, a, q => by
    cases h with
    | leaf h im =>
      have z := getP_imm _ im q
      exfalso
      cases es <;> first | exact Bool.noConfusion he | cases z
    | dK _ _ _ => cases q
    | dT _ _ _ => cases q
    | @lst p0 xs ds f hp r' n =>
      have q : ((ds[i]?).bind fun d => getP d r) = some es := q
      cases z : ds[i]? with
      | none => rw [z] at q; cases q
      | some x =>
        rw [z] at q
        cases a with
        | lst k1 k2 k3 =>
          rw [hp] at k1
          cases k1
          obtain ⟨p, ys, h1, h2, h3, h4, h5⟩ := OwA.put (fun {v d f} h a q => Ow.put sb he r h a q) k3 r' z k2 q
          refine ⟨p, ys, h1, List.mem_cons_of_mem _ h2, h3, h4, fun zs es' a b => ?_⟩
          exact .lst (by rw [upd_ne (fun z => n (by rw [z]; exact h2))]; exact hp) (h5 zs es' a b) n
        | tup k1 k2 k3 => rw [hp] at k1; cases k1
    | @tup p0 xs ds f hp r' =>
      have q : ((ds[i]?).bind fun d => getP d r) = some es := q
      have hp' := sb.k _ _ hp trivial
      cases z : ds[i]? with
      | none => rw [z] at q; cases q
      | some x =>
        rw [z] at q
        cases a with
        | tup k1 k2 k3 =>
          rw [hp'] at k1
          cases k1
          obtain ⟨p, ys, h1, h2, h3, h4, h5⟩ := OwA.put (fun {v d f} h a q => Ow.put sb he r h a q) k3 r' z k2 q
          exact ⟨p, ys, h1, h2, h3, h4, fun zs es' a b => .tup hp (h5 zs es' a b)⟩
        | lst k1 k2 k3 => rw [hp'] at k1; cases k1
end
end PV

namespace PV
open PySem PySem.Spec PyProof.Rows L2

structure Step (R H R' H' : Hp) : Prop where
  rr : Sm R R'
  rh : Sm R' H'
  hh : Sm H H'
  nw : ∀ a, R a = none → R' a ≠ none → H a = none
  tp : Tp R' H'
  tf : TpF R' H'
  cd : ∀ b ps, H b = some (.tbl ps) → ∃ ps', H' b = some (.tbl ps') ∧ NewC H' ps ps'
  te : TpE R' H'
theorem Step.free {R H R' H' : Hp} (s : Step R H R' H') {a : Addr} (h : R a = none) (h' : H a ≠ none) : R' a = none := by
  cases q : R' a with
  | none => rfl
  | some o => exact absurd (s.nw a h (by rw [q]; intro z; cases z)) h'
theorem Step.trans {R H R1 H1 R2 H2 : Hp} (s : Step R H R1 H1) (t : Step R1 H1 R2 H2) : Step R H R2 H2 :=
  ⟨s.rr.trans t.rr, t.rh, s.hh.trans t.hh, fun a h h2 => by
    cases q : R1 a with
    | none => exact Sm.free s.hh (t.nw a q h2)
    | some o => exact s.nw a h (by rw [q]; intro z; cases z), t.tp, t.tf, fun b ps e => by
    obtain ⟨p1, e1, n1⟩ := s.cd b ps e
    obtain ⟨p2, e2, n2⟩ := t.cd b p1 e1
    exact ⟨p2, e2, n1.trans t.hh n2⟩, t.te⟩
theorem TabsK.step {K : PySem.W.Frag} {R H R' H' : Hp} (s : Step R H R' H') (h : TabsK K H) : TabsK K H' := fun p hp e => by
  obtain ⟨ps, h1, h2, h3⟩ := h p hp e
  obtain ⟨ps', e', k1, k2⟩ := s.cd _ ps h1
  refine ⟨ps', e', k1 h2, fun pos cv hc => ?_⟩
  rcases k2 pos cv hc with z | ⟨c, e1, e2⟩
  · obtain ⟨c, e1, e2⟩ := h3 pos cv z
    exact ⟨c, e1, s.hh.k _ _ e2 trivial⟩
  · exact ⟨c, e1, e2⟩
structure Sub (R H : Hp) : Prop where
  rh : Sm R H
  tp : Tp R H
  tf : TpF R H
  te : TpE R H
theorem Sub.step {R H : Hp} (s : Sub R H) : Step R H R H := ⟨Sm.refl _, s.rh, Sm.refl _, fun a h h' => absurd h h', s.tp, s.tf, fun b ps e => ⟨ps, e, NewC.same⟩, s.te⟩
theorem Step.sub {R H R' H' : Hp} (s : Step R H R' H') : Sub R' H' := ⟨s.rh, s.tp, s.tf, s.te⟩
theorem Sub.self (H : Hp) : Sub H H := ⟨Sm.refl _, fun _ _ h => h, fun _ _ _ h => h, fun _ _ h => h⟩

inductive Sl where
  | no | sh (d : D) | ow (d : D) | al (d : D) | od (pin : Option V) (d : D)
inductive Rs where
  | sh (d : D) | nw (d : D) | al (d : D) | nd (d : D)
def Rs.dat : Rs → D
  | .sh d => d
  | .nw d => d
  | .al d => d
  | .nd d => d
def Rs.sl : Rs → Sl
  | .sh d => .sh d
  | .nw d => .ow d
  | .al d => .al d
  | .nd d => .od none d
section
variable {K : PySem.W.Frag} {R R' H H' R1 H1 R2 H2 : Hp} {o : HO} {d : D}
theorem ObjD.mono (s : Sm R R') (h : ObjD K R o d) : ObjD K R' o d := by
  cases o <;> cases d <;> first | exact h.elim | exact RpA.mono s h | exact RpK.mono s h
theorem ObjD.rp (h : ObjD K R o d) {p : Addr} (e : R p = some o) : Rp K R (.ref p) d := by
  cases o <;> cases d <;> first | exact h.elim | exact .lst e h | exact .dK e h | exact .dT e h
theorem ObjD.nt (h : ObjD K R o d) : NT o := by
  cases o <;> cases d <;> first | exact h.elim | trivial
theorem ObjD.ntup (h : ObjD K R o d) {xs : List V} : o ≠ .tup xs := by
  rintro rfl
  cases d <;> exact h
theorem ObjD.nfrz (h : ObjD K R o d) {u : Obj} {v : HO} : o ≠ .frz u v := by
  rintro rfl
  cases d <;> exact h

def Own (K : PySem.W.Frag) (R H : Hp) (p : Addr) (d : D) : Prop := R p = none ∧ ∃ o, H p = some o ∧ ObjD K R o d
theorem Own.step (s : Step R1 H1 R2 H2) {p : Addr} (h : Own K R1 H1 p d) : Own K R2 H2 p d := by
  obtain ⟨h1, o, h2, h3⟩ := h
  exact ⟨s.free h1 (by rw [h2]; intro z; cases z), o, s.hh.k _ _ h2 h3.nt, h3.mono s.rr⟩
theorem Own.rp (s : Sub R H) {p : Addr} (h : Own K R H p d) : Rp K H (.ref p) d := by
  obtain ⟨_, o, h2, h3⟩ := h
  exact (h3.mono s.rh).rp h2
theorem Ow.step (s : Step R1 H1 R2 H2) {v : V} {f : List Addr} (h : Ow K R1 H1 v d f) : Ow K R2 H2 v d f := Ow.mono s.rr h fun p hp o w e => s.hh.k _ _ e w.nt
def Nd (K : PySem.W.Frag) (H R' H' : Hp) (v : V) (d : D) (f : List Addr) : Prop := Ow K R' H' v d f ∧ ∀ p ∈ f, H p = none ∧ R' p = none
def Res (K : PySem.W.Frag) (H R' H' : Hp) (v : V) : Rs → Prop
  | .sh d => Rp K R' v d
  | .nw d => ∃ p, v = .ref p ∧ H p = none ∧ Own K R' H' p d
  | .al d => Rp K H' v d
  | .nd d => ∃ f, Nd K H R' H' v d f
theorem Nd.step {v : V} {f : List Addr} (s : Step R1 H1 R2 H2) (h : Nd K H R1 H1 v d f) : Nd K H R2 H2 v d f := ⟨h.1.step s, fun p hp => ⟨(h.2 p hp).1, by
  exact s.free (h.2 p hp).2 (h.1.has hp)⟩⟩
theorem Res.step {r : Rs} {v : V} (s : Step R1 H1 R2 H2) (h : Res K H R1 H1 v r) : Res K H R2 H2 v r := by
  cases r with
  | sh d => exact Rp.mono s.rr h
  | nw d => obtain ⟨p, e, n, w⟩ := h; exact ⟨p, e, n, w.step s⟩
  | al d => exact Rp.mono s.hh h
  | nd d => obtain ⟨f, h⟩ := h; exact ⟨f, h.step s⟩
theorem Res.back {r : Rs} {v : V} (s : Sm H H1) (h : Res K H1 R2 H2 v r) : Res K H R2 H2 v r := by
  cases r with
  | sh d => exact h
  | nw d => obtain ⟨p, e, n, w⟩ := h; exact ⟨p, e, Sm.free s n, w⟩
  | al d => exact h
  | nd d => obtain ⟨f, h⟩ := h; exact ⟨f, h.1, fun p hp => ⟨Sm.free s (h.2 p hp).1, (h.2 p hp).2⟩⟩
theorem Res.rp {r : Rs} {v : V} (s : Sub R' H') (h : Res K H R' H' v r) : Rp K H' v r.dat := by
  cases r with
  | sh d => exact Rp.mono s.rh h
  | nw d => obtain ⟨p, rfl, n, w⟩ := h; exact w.rp s
  | al d => exact h
  | nd d => obtain ⟨f, h⟩ := h; exact h.1.rp s.rh

def SlOk (K : PySem.W.Frag) (B R H : Hp) (v : Option V) (f : List Addr) : Sl → Prop
  | .no => f = []
  | .sh d => f = [] ∧ ∃ x, v = some x ∧ Rp K R x d
  | .ow d => ∃ p, v = some (.ref p) ∧ f = [p] ∧ B p = none ∧ Own K R H p d
  | .al d => f = [] ∧ ∃ x, v = some x ∧ Rp K H x d
  | .od pin d => ∃ x, v = some x ∧ (∀ y, pin = some y → x = y) ∧ Ow K R H x d f ∧ ∀ p ∈ f, B p = none ∧ R p = none
theorem SlOk.step {B : Hp} {s : Sl} {v : Option V} {f : List Addr} (t : Step R1 H1 R2 H2) (h : SlOk K B R1 H1 v f s) : SlOk K B R2 H2 v f s := by
  cases s with
  | no => exact h
  | sh d => obtain ⟨z, x, e, r⟩ := h; exact ⟨z, x, e, Rp.mono t.rr r⟩
  | ow d => obtain ⟨p, e, z, b, w⟩ := h; exact ⟨p, e, z, b, w.step t⟩
  | al d => obtain ⟨z, x, e, r⟩ := h; exact ⟨z, x, e, Rp.mono t.hh r⟩
  | od pin d =>
    obtain ⟨x, e, pn, w, k⟩ := h
    exact ⟨x, e, pn, w.step t, fun p hp => ⟨(k p hp).1, t.free (k p hp).2 (w.has hp)⟩⟩
theorem SlOk.own {B : Hp} {s : Sl} {v : Option V} {f : List Addr} (h : SlOk K B R H v f s) : ∀ p ∈ f, B p = none ∧ R p = none ∧ ∃ o, H p = some o := by
  cases s with
  | no => intro p hp; rw [show f = [] from h] at hp; cases hp
  | sh d => intro p hp; rw [h.1] at hp; cases hp
  | ow d =>
    obtain ⟨q, e, z, b, w⟩ := h
    intro p hp
    rw [z] at hp
    rw [List.mem_singleton.mp hp]
    obtain ⟨w1, o, w2, _⟩ := w
    exact ⟨b, w1, o, w2⟩
  | al d => intro p hp; rw [h.1] at hp; cases hp
  | od pin d =>
    obtain ⟨x, e, pn, w, k⟩ := h
    intro p hp
    obtain ⟨o, _, q⟩ := w.at p hp
    exact ⟨(k p hp).1, (k p hp).2, _, q⟩
structure Fps (K : PySem.W.Frag) (B R : Hp) (ρ : List Sl) (σ : L2.St) (H : Hp) (φ : Nat → List Addr) : Prop where
  sl : ∀ (i : Nat) (s : Sl) (v : Option V), ρ[i]? = some s → σ[i]? = some v → SlOk K B R H v (φ i) s
  out : ∀ i, ρ.length ≤ i → φ i = []
  df : ∀ i j p, i ≠ j → p ∈ φ i → p ∉ φ j

structure St (K : PySem.W.Frag) (B R0 R : Hp) (ρ : List Sl) (σ : L2.St) (H : Hp) : Prop where
  stp : Step R0 B R H
  tb : TabsK K B
  len : ρ.length = σ.length
  fps : ∃ φ, Fps K B R ρ σ H φ
variable {B R0 : Hp} {ρ ρ' : List Sl} {σ σ' : L2.St}
theorem St.sub (h : St K B R0 R ρ σ H) : Sub R H := h.stp.sub
theorem St.tabs (h : St K B R0 R ρ σ H) : TabsK K H := h.tb.step h.stp
theorem Fps.step {φ : Nat → List Addr} (h : Fps K B R1 ρ σ H1 φ) (t : Step R1 H1 R2 H2) : Fps K B R2 ρ σ H2 φ := ⟨fun i s v e1 e2 => (h.sl i s v e1 e2).step t, h.out, h.df⟩
theorem St.step (h : St K B R0 R1 ρ σ H1) (t : Step R1 H1 R2 H2) : St K B R0 R2 ρ σ H2 :=
  ⟨h.stp.trans t, h.tb, h.len, let ⟨φ, f⟩ := h.fps; ⟨φ, f.step t⟩⟩
theorem St.at (h : St K B R0 R ρ σ H) {i : Nat} {s : Sl} (e : ρ[i]? = some s) : ∃ v f, σ[i]? = some v ∧ SlOk K B R H v f s := by
  obtain ⟨hi, _⟩ := List.getElem?_eq_some_iff.mp e
  have hi' : i < σ.length := by rw [← h.len]; exact hi
  obtain ⟨φ, f⟩ := h.fps
  exact ⟨σ[i], φ i, List.getElem?_eq_getElem hi', f.sl i s _ e (List.getElem?_eq_getElem hi')⟩
theorem SlOk.ownO {B : Hp} {s : Sl} {v : Option V} {f : List Addr} (h : SlOk K B R H v f s) : ∀ p ∈ f, ∃ o, OwO o ∧ H p = some o := by
  cases s with
  | no => intro p hp; rw [show f = [] from h] at hp; cases hp
  | sh d => intro p hp; rw [h.1] at hp; cases hp
  | ow d =>
    obtain ⟨q, e, z, b, w⟩ := h
    intro p hp
    rw [z] at hp
    rw [List.mem_singleton.mp hp]
    obtain ⟨w1, o, w2, od⟩ := w
    refine ⟨o, ?_, w2⟩
    cases o <;> cases d <;> first | exact od.elim | trivial
  | al d => intro p hp; rw [h.1] at hp; cases hp
  | od pin d =>
    obtain ⟨x, e, pn, w, k⟩ := h
    intro p hp
    exact w.at p hp
theorem Fps.own {φ : Nat → List Addr} (h : Fps K B R ρ σ H φ) (len : ρ.length = σ.length) {i : Nat} {p : Addr} (hp : p ∈ φ i) : B p = none ∧ R p = none ∧ ∃ o, H p = some o := by
  by_cases hl : i < ρ.length
  · exact (h.sl i _ _ (List.getElem?_eq_getElem hl) (List.getElem?_eq_getElem (by rw [← len]; exact hl))).own p hp
  · rw [h.out i (by omega)] at hp; cases hp
theorem Fps.ownO {φ : Nat → List Addr} (h : Fps K B R ρ σ H φ) (len : ρ.length = σ.length) {i : Nat} {p : Addr} (hp : p ∈ φ i) : ∃ o, OwO o ∧ H p = some o := by
  by_cases hi : i < ρ.length
  · exact (h.sl i ρ[i] σ[i] (List.getElem?_eq_getElem hi) (List.getElem?_eq_getElem (by rw [← len]; exact hi))).ownO p hp
  · rw [h.out i (by omega)] at hp; cases hp
theorem St.set (h : St K B R0 R ρ σ H) {R' H' : Hp} (t : Step R H R' H') {v : V} {r : Rs} (hr : Res K H R' H' v r) (i : Nat) : St K B R0 R' (ρ.set i r.sl) (σ.set i (some v)) H' := by
  have h' := h.step t
  obtain ⟨φ, fp⟩ := h.fps
  have fp' := fp.step t
  obtain ⟨f, hf, fn⟩ : ∃ f, SlOk K B R' H' (some v) f r.sl ∧ ∀ p ∈ f, H p = none := by
    cases r with
    | sh d => exact ⟨[], ⟨rfl, v, rfl, hr⟩, fun p hp => by cases hp⟩
    | al d => exact ⟨[], ⟨rfl, v, rfl, hr⟩, fun p hp => by cases hp⟩
    | nw d =>
      obtain ⟨p, rfl, n, w⟩ := hr
      exact ⟨[p], ⟨p, rfl, rfl, Sm.free h.stp.hh n, w⟩, fun q hq => by rw [List.mem_singleton.mp hq]; exact n⟩
    | nd d =>
      obtain ⟨f, w, k⟩ := hr
      exact ⟨f, ⟨v, rfl, (fun y z => nomatch z), w, fun p hp => ⟨Sm.free h.stp.hh (k p hp).1, (k p hp).2⟩⟩, fun p hp => (k p hp).1⟩
  refine ⟨h'.stp, h'.tb, by rw [List.length_set, List.length_set, h'.len], fun j => if j = i ∧ i < ρ.length then f else if j = i then [] else φ j, fun j s w e1 e2 => ?_, fun j hj => ?_, fun j k p jk hp hk => ?_⟩
  · rw [List.getElem?_set] at e1 e2
    by_cases hij : i = j
    · rw [if_pos hij] at e1 e2
      by_cases hl : i < ρ.length
      · rw [if_pos hl] at e1
        rw [if_pos (by rw [← h'.len]; exact hl)] at e2
        cases e1; cases e2
        rw [if_pos ⟨hij.symm, hl⟩]
        exact hf
      · rw [if_neg hl] at e1; cases e1
    · rw [if_neg hij] at e1 e2
      rw [if_neg (fun z => hij z.1.symm), if_neg (fun z => hij z.symm)]
      exact fp'.sl j s w e1 e2
  · rw [List.length_set] at hj
    rw [if_neg (fun z => by omega)]
    split
    · rfl
    · exact fp.out j hj
  ·
    have new : ∀ {q k}, q ∈ f → q ∈ φ k → False := fun {q k} h1 h2 => by
      obtain ⟨_, _, o, e⟩ := fp.own h.len h2
      rw [fn q h1] at e; cases e
    split at hp
    · rename_i z1
      rw [if_neg (fun z => jk (z1.1.trans z.1.symm)), if_neg (fun z => jk (z1.1.trans z.symm))] at hk
      exact new hp hk
    · split at hp
      · cases hp
      · split at hk
        · exact new hk hp
        · split at hk
          · cases hk
          · exact fp.df j k p jk hp hk
inductive Lt : List Sl → List Sl → Prop
  | nil : Lt [] []
  | no {s : Sl} {a b : List Sl} : Lt a b → Lt (.no :: a) (s :: b)
  | eq {s : Sl} {a b : List Sl} : Lt a b → Lt (s :: a) (s :: b)
theorem Lt.refl : ∀ ρ : List Sl, Lt ρ ρ
  | [] => .nil
  | _ :: r => .eq (Lt.refl r)
theorem Lt.len : ∀ {a b : List Sl}, Lt a b → a.length = b.length
  | _, _, .nil => rfl
  | _, _, .no t => by rw [List.length_cons, List.length_cons, Lt.len t]
  | _, _, .eq t => by rw [List.length_cons, List.length_cons, Lt.len t]
theorem Lt.get : ∀ {a b : List Sl}, Lt a b → ∀ {i : Nat} {s : Sl}, a[i]? = some s → s = .no ∨ b[i]? = some s
  | _, _, .nil, i, s, e => by simp at e
  | _, _, .no t, 0, s, e => by simp at e; exact .inl e.symm
  | _, _, .no t, i + 1, s, e => Lt.get t (i := i) (by simpa using e)
  | _, _, .eq t, 0, s, e => .inr (by simpa using e)
  | _, _, .eq t, i + 1, s, e => Lt.get t (i := i) (by simpa using e)
theorem Fps.sub {φ ψ : Nat → List Addr} {R' H' : Hp} {σ' : L2.St} (h : Fps K B R ρ σ H φ) (len : ρ'.length = ρ.length) (sl : ∀ (i : Nat) (s : Sl) (v : Option V), ρ'[i]? = some s → σ'[i]? = some v → SlOk K B R' H' v (ψ i) s) (le : ∀ i p, p ∈ ψ i → p ∈ φ i) : Fps K B R' ρ' σ' H' ψ :=
  ⟨sl, (fun i hi => by
    cases e : ψ i with
    | nil => rfl
    | cons a r =>
      have : a ∈ φ i := le i a (by rw [e]; exact List.mem_cons_self)
      rw [h.out i (by omega)] at this
      cases this), fun i j p ij a b => h.df i j p ij (le i p a) (le j p b)⟩
theorem St.weak (h : St K B R0 R ρ σ H) (l : Lt ρ' ρ) : St K B R0 R ρ' σ H := by
  obtain ⟨φ, fp⟩ := h.fps
  refine ⟨h.stp, h.tb, by rw [l.len, h.len], fun i => match ρ'[i]? with | some .no => [] | _ => φ i, fp.sub l.len (fun i s v e1 e2 => ?_) fun i p hp => ?_⟩
  · rcases l.get e1 with rfl | e
    · rw [e1]; rfl
    · rw [e1]
      cases s with
      | no => rfl
      | _ => exact fp.sl i _ v e e2
  · split at hp
    · cases hp
    · exact hp
def Sl.dr : Sl → Sl
  | .al d => if imm d = true then .sh d else .no
  | .no => .no
  | .sh d => .sh d
  | .ow d => .ow d
  | .od pin d => .od pin d
theorem Sl.dr_t {d : D} (h : imm d = true) : Sl.dr (.al d) = .sh d := if_pos h
theorem Sl.dr_f {d : D} (h : ¬ imm d = true) : Sl.dr (.al d) = .no := if_neg h
def dr (ρ : List Sl) : List Sl := ρ.map Sl.dr
theorem St.write' (h : St K B R0 R ρ σ H) {i : Nat} {s s' : Sl} {v : Option V} {p : Addr} {o : HO} {d' : D} (e : ρ[i]? = some s) (ev : σ[i]? = some v) (ho : ObjD K R o d') (k : ∀ f, SlOk K B R H v f s → p ∈ f ∧ SlOk K B R (upd H p o) v f s') : St K B R0 R ((dr ρ).set i s') σ (upd H p o) := by
  obtain ⟨φ, fp⟩ := h.fps
  have hi := fp.sl i s v e ev
  obtain ⟨hpf, hs'⟩ := k _ hi
  obtain ⟨hb, hr, _⟩ := hi.own p hpf
  have tu : ∀ a xs, (upd H p o) a = some (.tup xs) → H a = some (.tup xs) := fun a xs q => by
    by_cases z : a = p
    · subst z; rw [upd_same] at q; cases q; exact absurd rfl ho.ntup
    · rw [upd_ne z] at q; exact q
  have tf : ∀ a u v, (upd H p o) a = some (.frz u v) → H a = some (.frz u v) := fun a u v q => by
    by_cases z : a = p
    · subst z; rw [upd_same] at q; cases q; exact absurd rfl ho.nfrz
    · rw [upd_ne z] at q; exact q
  have stp : Step R0 B R (upd H p o) := ⟨h.stp.rr, h.stp.rh.put hr, h.stp.hh.put hb, h.stp.nw,
    fun a xs q => h.stp.tp a xs (tu a xs q), fun a u xs q => h.stp.tf a u xs (tf a u _ q), fun b ps e => by
      obtain ⟨ps', e', n'⟩ := h.stp.cd b ps e
      refine ⟨ps', by rw [upd_ne (ne_of_none e hb)]; exact e', n'.put fun φ z => ?_⟩
      obtain ⟨o2, w2, e2⟩ := fp.ownO h.len hpf
      rw [e2] at z; cases z; exact w2, fun a φ q => by
      by_cases z : a = p
      · subst z; rw [upd_same] at q; cases q; exact ho.elim
      · rw [upd_ne z] at q; exact h.stp.te a φ q⟩
  have slot : ∀ (j : Nat) (s : Sl), (dr ρ)[j]? = some s → ∃ s0, ρ[j]? = some s0 ∧ s = s0.dr := fun j s q => by
    unfold dr at q
    rw [List.getElem?_map] at q
    cases z : ρ[j]? with
    | none => rw [z] at q; cases q
    | some s0 => rw [z] at q; cases q; exact ⟨s0, rfl, rfl⟩
  have len : ((dr ρ).set i s').length = ρ.length := by rw [List.length_set]; unfold dr; rw [List.length_map]
  refine ⟨stp, h.tb, by rw [len, h.len], φ, fp.sub len (fun j t w e1 e2 => ?_) fun _ _ z => z⟩
  rw [List.getElem?_set] at e1
  by_cases hij : i = j
  · rw [if_pos hij] at e1
    split at e1
    · cases e1
      subst hij
      rw [ev] at e2; cases e2
      exact hs'
    · cases e1
  · rw [if_neg hij] at e1
    obtain ⟨s0, e0, rfl⟩ := slot j t e1
    have q := fp.sl j s0 w e0 e2
    have np : ∀ a ∈ φ j, a ≠ p := fun a ha z => fp.df i j p hij hpf (by rw [← z]; exact ha)
    cases s0 with
    | no => exact q
    | sh d => exact q
    | ow d2 =>
      obtain ⟨p2, rfl, f2, b2, r2, o2, h2, od⟩ := q
      exact ⟨p2, rfl, f2, b2, r2, o2, by rw [upd_ne (np p2 (by rw [f2]; exact List.mem_cons_self))]; exact h2, od⟩
    | al d2 =>
      obtain ⟨f2, x, rfl, r⟩ := q
      by_cases z : imm d2 = true
      · rw [Sl.dr_t z]; exact ⟨f2, x, rfl, Rp.imm h.stp.tp h.stp.tf r z⟩
      · rw [Sl.dr_f z]; exact f2
    | od pn2 d2 =>
      obtain ⟨x, rfl, e3, w2, k2⟩ := q
      exact ⟨x, rfl, e3, w2.keep fun z => np p z rfl, k2⟩
theorem St.write (h : St K B R0 R ρ σ H) {i : Nat} {d d' : D} {p : Addr} {o : HO} (e : ρ[i]? = some (.ow d)) (ep : σ[i]? = some (some (.ref p))) (ho : ObjD K R o d') : St K B R0 R ((dr ρ).set i (.ow d')) σ (upd H p o) :=
  h.write' e ep ho fun f q => by
    obtain ⟨p', e', z, hb, hr, u, hu, hd⟩ := q
    cases e'
    exact ⟨by rw [z]; exact List.mem_cons_self, p, rfl, z, hb, hr, o, upd_same, ho⟩
theorem St.writeD (h : St K B R0 R ρ σ H) {i : Nat} {pin : Option V} {d : D} {x w : V} {path : List Nat} {es : D} (e : ρ[i]? = some (.od pin d)) (ev : σ[i]? = some (some x)) (a : At K H x path w) (q : getP d path = some es) (he : immO es = true) :
    ∃ p o, w = .ref p ∧ H p = some o ∧ ObjD K R o es ∧ ∀ o' es', ObjD K R o' es' → immO es' = true → St K B R0 R ((dr ρ).set i (.od pin (setP d path es'))) σ (upd H p o') := by
  obtain ⟨φ, fp⟩ := h.fps
  obtain ⟨x', e', pn, w1, k1⟩ := fp.sl i _ _ e ev
  cases e'
  obtain ⟨p, o, h1, h2, h3, h4, h5⟩ := w1.put h.stp.rh he path a q
  refine ⟨p, o, h1, h3, h4, fun o' es' r i' => h.write' (d' := es') e ev r fun f s => ?_⟩
  obtain ⟨x'', e'', pn2, w2, k2⟩ := s
  cases e''
  obtain ⟨p2, o2, g1, g2, g3, g4, g5⟩ := w2.put h.stp.rh he path a q
  rw [h1] at g1
  cases g1
  exact ⟨g2, x, rfl, pn, g5 o' es' r i', k2⟩
end

theorem Step.share {K : PySem.W.Frag} {R H R' H' : Hp} (s : Step R H R' H') {p : Addr} {d : D} (n : H p = none) (w : Own K R' H' p d) : ∃ R2, Step R H R2 H' ∧ Rp K R2 (.ref p) d ∧ Sm R' R2 := by
  obtain ⟨hr, o, ho, od⟩ := w
  have sm : Sm R' (upd R' p o) := (Sm.refl R').upd hr
  have rh : Sm (upd R' p o) H' := by
    refine ⟨fun b x e nt => ?_, fun b ps e => ?_⟩
    · by_cases z : b = p
      · subst z; rw [upd_same] at e; cases e; exact ho
      · rw [upd_ne z] at e; exact s.rh.k b x e nt
    · by_cases z : b = p
      · subst z; rw [upd_same] at e; cases e; exact od.nt.elim
      · rw [upd_ne z] at e; exact s.rh.t b ps e
  have tp : Tp (upd R' p o) H' := fun a xs e => sm.k _ _ (s.tp a xs e) trivial
  have tf : TpF (upd R' p o) H' := fun a u xs e => sm.k _ _ (s.tf a u xs e) trivial
  refine ⟨upd R' p o, ⟨s.rr.trans sm, rh, s.hh, fun a h h' => ?_, tp, tf, s.cd, fun a φ e => sm.k _ _ (s.te a φ e) trivial⟩, (od.mono sm).rp upd_same, sm⟩
  by_cases z : a = p
  · subst z; exact n
  · rw [upd_ne z] at h'; exact s.nw a h h'
def shr (R H : Hp) (g : List Addr) : Hp := fun a => if a ∈ g then H a else R a
theorem shr_in {R H : Hp} {g : List Addr} {a : Addr} (h : a ∈ g) : shr R H g a = H a := if_pos h
theorem shr_out {R H : Hp} {g : List Addr} {a : Addr} (h : a ∉ g) : shr R H g a = R a := if_neg h
theorem shr_sm {R H : Hp} {g : List Addr} (n : ∀ a ∈ g, R a = none) : Sm R (shr R H g) := by
  refine ⟨fun b o e _ => ?_, fun b ps e => ⟨ps, ?_, id⟩⟩
  · rw [shr_out fun z => by rw [n b z] at e; cases e]; exact e
  · rw [shr_out fun z => by rw [n b z] at e; cases e]; exact e
section
variable {K : PySem.W.Frag} {R H : Hp} {g : List Addr}
mutual
theorem Ow.shr (n : ∀ a ∈ g, R a = none) : ∀ {v : V} {d : D} {f : List Addr}, Ow K R H v d f → (∀ a ∈ f, a ∈ g) → Rp K (shr R H g) v d
  | _, _, _, .leaf h e, _ => Rp.mono (shr_sm n) h
  | _, _, _, .lst h r _, k => .lst (by rw [shr_in (k _ List.mem_cons_self)]; exact h) (OwA.shr n r fun a ha => k a (List.mem_cons_of_mem _ ha))
  | _, _, _, .tup h r, k => .tup (SqT.of ((shr_sm n).k _ _ h trivial)) (OwA.shr n r k)
  | _, _, _, .dK h r _, k => .dK (by rw [shr_in (k _ List.mem_cons_self)]; exact h) (RpK.mono (shr_sm n) r)
  | _, _, _, .dT h r _, k => .dT (by rw [shr_in (k _ List.mem_cons_self)]; exact h) (RpK.mono (shr_sm n) r)
theorem OwA.shr (n : ∀ a ∈ g, R a = none) : ∀ {v : List V} {d : List D} {f : List Addr}, OwA K R H v d f → (∀ a ∈ f, a ∈ g) → RpA K (shr R H g) v d
  | _, _, _, .nil, _ => .nil
  | _, _, _, .cons h r _, k => .cons (Ow.shr n h fun a ha => k a (List.mem_append_left _ ha)) (OwA.shr n r fun a ha => k a (List.mem_append_right _ ha))
end
end
theorem Step.shareD {K : PySem.W.Frag} {R H R' H' : Hp} (s : Step R H R' H') {v : V} {d : D} {f : List Addr} (w : Nd K H R' H' v d f) : ∃ R2, Step R H R2 H' ∧ Rp K R2 v d ∧ Sm R' R2 := by
  have n : ∀ a ∈ f, R' a = none := fun a ha => (w.2 a ha).2
  have sm : Sm R' (PV.shr R' H' f) := shr_sm n
  have rh : Sm (PV.shr R' H' f) H' := by
    refine ⟨fun b x e nt => ?_, fun b ps e => ?_⟩
    · by_cases z : b ∈ f
      · rw [shr_in z] at e; exact e
      · rw [shr_out z] at e; exact s.rh.k b x e nt
    · by_cases z : b ∈ f
      · rw [shr_in z] at e; exact ⟨ps, e, id⟩
      · rw [shr_out z] at e; exact s.rh.t b ps e
  have tp : Tp (PV.shr R' H' f) H' := fun a xs e => sm.k _ _ (s.tp a xs e) trivial
  have tf : TpF (PV.shr R' H' f) H' := fun a u xs e => sm.k _ _ (s.tf a u xs e) trivial
  refine ⟨PV.shr R' H' f, ⟨s.rr.trans sm, rh, s.hh, fun a h h' => ?_, tp, tf, s.cd, fun a φ e => sm.k _ _ (s.te a φ e) trivial⟩, Ow.shr n w.1 fun _ z => z, sm⟩
  by_cases z : a ∈ f
  · exact (w.2 a z).1
  · rw [shr_out z] at h'; exact s.nw a h h'
end PV

namespace PV
open PySem PySem.Spec PyProof.Rows L2

def tE (X : Cx) (e : Expr) : TE := fun σ H Q => ∀ pins s, Inv X pins σ H s → wpAny (model X.prog X.w) X.A (eval e X.env) (EP X pins σ Q) X.xe s
def tT (X : Cx) (e : Expr) : TT := fun σ H Q => ∀ pins s, Inv X pins σ H s → wpAny (model X.prog X.w) X.A (isTrue e X.env (eval e X.env)) (TP X pins σ Q) X.xe s
def tW (X : Cx) (e : Expr) : TT := fun σ H Q => ∀ (whole : Sem Value) pins s, Inv X pins σ H s → wpAny (model X.prog X.w) X.A (isTrue e X.env whole) (TP X pins σ Q) X.xe s
def tA (X : Cx) (es : List Expr) : TA := fun σ H Q => ∀ (pos : Pos) pins s, Inv X pins σ H s → wpAny (model X.prog X.w) X.A (spliced (backTo pos (starEach es X.env))) (AP X pins σ Q) X.xe s
def tS (X : Cx) (st : Stmt) : TS := fun D σ H => ∀ pins s, Inv X pins σ H s → wpAny (model X.prog X.w) X.A (exec st X.env) (SP X pins D) X.xe s
def tSs (X : Cx) (st : List Stmt) : TS := fun D σ H => ∀ pins s, Inv X pins σ H s → wpAny (model X.prog X.w) X.A (execs st X.env) (SP X pins D) X.xe s
section
variable {X : Cx}
theorem pe_sem {e : Expr} : PE X e (tE X e) := ⟨fun pins s σ H Q I h => h pins s I⟩
theorem pt_sem {e : Expr} : PT X e (tT X e) := ⟨fun pins s σ H Q I h => h pins s I⟩
theorem pw_sem {e : Expr} : PW X e (tW X e) := ⟨fun wh pins s σ H Q I h => h wh pins s I⟩
theorem pa_sem {es : List Expr} : PA X es (tA X es) := ⟨fun pos pins s σ H Q I h => h pos pins s I⟩
theorem ps_sem {st : Stmt} : PS X st (tS X st) := ⟨fun pins s σ H D I h => h pins s I⟩
theorem pss_sem {st : List Stmt} : PSs X st (tSs X st) := ⟨fun pins s σ H D I h => h pins s I⟩
end

section
variable (K : PySem.W.Frag)
def Ev (t : TE) (ρ : List Sl) (r : Rs) : Prop := ∀ B R0 R σ H (Q : VK), St K B R0 R ρ σ H → (∀ v R' H', Step R H R' H' → Res K H R' H' v r → Q v H') → t σ H Q
def Tv (t : TT) (ρ : List Sl) (b : Bool) : Prop := ∀ B R0 R σ H (Q : Bool → Hp → Prop), St K B R0 R ρ σ H → (∀ R' H', Step R H R' H' → Q b H') → t σ H Q
inductive ResA (H R' H' : Hp) : List V → List Rs → Prop
  | nil : ResA H R' H' [] []
  | cons {v : V} {vs : List V} {r : Rs} {rs : List Rs} : Res K H R' H' v r → ResA H R' H' vs rs → ResA H R' H' (v :: vs) (r :: rs)
def Av (t : TA) (ρ : List Sl) (rs : List Rs) : Prop := ∀ B R0 R σ H (Q : List V → Hp → Prop), St K B R0 R ρ σ H → (∀ vs R' H', Step R H R' H' → ResA K H R' H' vs rs → Q vs H') → t σ H Q
structure Post where
  nx : List Sl → Prop
  rt : Rs → List Sl → Prop
  bk : List Sl → Prop := fun _ => False
  ct : List Sl → Prop := fun _ => False
  ex : Value → List Sl → Prop := fun _ _ => False
structure Ens (W : L2.WX) (B R0 : Hp) (P : Post) (D : Ends) : Prop where
  nx : ∀ ρ' R' σ' H', P.nx ρ' → St K B R0 R' ρ' σ' H' → D.nx σ' H'
  rt : ∀ r ρ' v R' σ' H', P.rt r ρ' → St K B R0 R' ρ' σ' H' → Res K B R' H' v r → D.rt v H'
  bk : ∀ ρ' R' σ' H', P.bk ρ' → St K B R0 R' ρ' σ' H' → D.bk σ' H'
  ct : ∀ ρ' R' σ' H', P.ct ρ' → St K B R0 R' ρ' σ' H' → D.ct σ' H'
  ex : ∀ c ρ' R' σ' H', P.ex c ρ' → St K B R0 R' ρ' σ' H' → W c none σ' H'
def Sv (W : L2.WX) (t : TS) (ρ : List Sl) (P : Post) : Prop := ∀ B R0 R σ H (D : Ends), St K B R0 R ρ σ H → Ens K W B R0 P D → t D σ H
end
def EX (X : Cx) (e : Expr) (ρ : List Sl) (r : Rs) : Prop := Ev X.K (tE X e) ρ r
def TX (X : Cx) (e : Expr) (ρ : List Sl) (b : Bool) : Prop := Tv X.K (tT X e) ρ b
def WX (X : Cx) (e : Expr) (ρ : List Sl) (b : Bool) : Prop := Tv X.K (tW X e) ρ b
def AX (X : Cx) (es : List Expr) (ρ : List Sl) (rs : List Rs) : Prop := Av X.K (tA X es) ρ rs
def SX (X : Cx) (W : L2.WX) (st : Stmt) (ρ : List Sl) (P : Post) : Prop := Sv X.K W (tS X st) ρ P
def SXs (X : Cx) (W : L2.WX) (st : List Stmt) (ρ : List Sl) (P : Post) : Prop := Sv X.K W (tSs X st) ρ P
section
variable {X : Cx} {ρ : List Sl}
theorem EX.of {e : Expr} {t : TE} {r : Rs} (p : PE X e t) (h : Ev X.K t ρ r) : EX X e ρ r := fun B R0 R σ H Q s k pins sh I => p.run pins sh σ H Q I (h B R0 R σ H Q s k)
theorem TX.of {e : Expr} {t : TT} {b : Bool} (p : PT X e t) (h : Tv X.K t ρ b) : TX X e ρ b := fun B R0 R σ H Q s k pins sh I => p.run pins sh σ H Q I (h B R0 R σ H Q s k)
theorem WX.of {e : Expr} {t : TT} {b : Bool} (p : PW X e t) (h : Tv X.K t ρ b) : WX X e ρ b := fun B R0 R σ H Q s k wh pins sh I => p.run wh pins sh σ H Q I (h B R0 R σ H Q s k)
theorem AX.of {es : List Expr} {t : TA} {rs : List Rs} (p : PA X es t) (h : Av X.K t ρ rs) : AX X es ρ rs := fun B R0 R σ H Q s k pos pins sh I => p.run pos pins sh σ H Q I (h B R0 R σ H Q s k)
theorem SX.of {W : L2.WX} {st : Stmt} {t : TS} {P : Post} (p : PS X st t) (h : Sv X.K W t ρ P) : SX X W st ρ P := fun B R0 R σ H D s k pins sh I => p.run pins sh σ H D I (h B R0 R σ H D s k)
theorem SXs.of {W : L2.WX} {st : List Stmt} {t : TS} {P : Post} (p : PSs X st t) (h : Sv X.K W t ρ P) : SXs X W st ρ P := fun B R0 R σ H D s k pins sh I => p.run pins sh σ H D I (h B R0 R σ H D s k)
end

section
variable {X : Cx} {ρ : List Sl} {pos : Pos} {a b c e : Expr}
theorem Res.int {K H R' H' v i} {r : Rs} (s : Sub R' H') (h : Res K H R' H' v r) (e : r.dat = .int i) : v = .int i := by
  have q := h.rp s
  rw [e] at q
  cases q; rfl
theorem Res.str {K H R' H' v x} {r : Rs} (s : Sub R' H') (h : Res K H R' H' v r) (e : r.dat = .str x) : v = .str x := by
  have q := h.rp s
  rw [e] at q
  cases q; rfl
theorem Res.bl {K H R' H' v x} {r : Rs} (s : Sub R' H') (h : Res K H R' H' v r) (e : r.dat = .bl x) : v = .bl x := by
  have q := h.rp s
  rw [e] at q
  cases q; rfl
theorem Res.non {K H R' H' v} {r : Rs} (s : Sub R' H') (h : Res K H R' H' v r) (e : r.dat = .non) : v = .non := by
  have q := h.rp s
  rw [e] at q
  cases q; rfl

theorem ex_var {i : Nat} {d : D} (p : PE X e (tVar i)) (h : ρ[i]? = some (.sh d)) : EX X e ρ (.sh d) := .of p fun B R0 R σ H Q s k => by
  obtain ⟨v, f, e, _, x, rfl, r⟩ := s.at h
  exact ⟨x, e, k x R H s.sub.step r⟩
theorem ex_varA {i : Nat} {d : D} (p : PE X e (tVar i)) (h : ρ[i]? = some (.al d)) : EX X e ρ (.al d) := .of p fun B R0 R σ H Q s k => by
  obtain ⟨v, f, e, _, x, rfl, r⟩ := s.at h
  exact ⟨x, e, k x R H s.sub.step r⟩
theorem ex_varO {i : Nat} {d : D} (p : PE X e (tVar i)) (h : ρ[i]? = some (.ow d)) : EX X e ρ (.al d) := .of p fun B R0 R σ H Q s k => by
  obtain ⟨v, f, e, p, rfl, _, hb, w⟩ := s.at h
  exact ⟨.ref p, e, k _ R H s.sub.step (w.rp s.sub)⟩
theorem ex_varD {i : Nat} {d : D} (p : PE X e (tVar i)) {pn : Option V} (h : ρ[i]? = some (.od pn d)) : EX X e ρ (.al d) := .of p fun B R0 R σ H Q s k => by
  obtain ⟨v, f, e, x, rfl, _, w, _⟩ := s.at h
  exact ⟨x, e, k _ R H s.sub.step (w.rp s.sub.rh)⟩
theorem ex_c {v : V} {d : D} (p : PE X e (tC v)) (h : ∀ R, Rp X.K R v d) : EX X e ρ (.sh d) := .of p fun B R0 R σ H Q s k => k v R H s.sub.step (h R)
theorem ex_int {i j} : EX X (.Constant (.int i) j pos) ρ (.sh (.int i)) := ex_c pe_int fun _ => .int i
theorem ex_bl {b j} : EX X (.Constant (.bool b) j pos) ρ (.sh (.bl b)) := ex_c pe_bl fun _ => .bl b
theorem ex_non {j} : EX X (.Constant .none j pos) ρ (.sh .non) := ex_c pe_non fun _ => .non
theorem ex_str {x j} : EX X (.Constant (.str x) j pos) ρ (.sh (.str x)) := ex_c pe_str fun _ => .str x
theorem Ev.imm {K t r} (h : Ev K t ρ r) (hi : imm r.dat = true) : Ev K t ρ (.sh r.dat) := fun B R0 R σ H Q s k => h B R0 R σ H Q s fun v R' H' st hr => by
  refine k v R' H' st ?_
  cases r with
  | sh d => exact hr
  | nw d =>
    obtain ⟨p, rfl, n, h1, o, h2, od⟩ := hr
    cases o <;> cases d <;> first | exact od.elim | cases hi
  | al d => exact Rp.imm st.tp st.tf hr hi
  | nd d =>
    obtain ⟨f, w, _⟩ := hr
    exact (w.imm' hi).2
theorem ex_imm {r} (h : EX X e ρ r) (hi : imm r.dat = true) : EX X e ρ (.sh r.dat) := Ev.imm h hi
theorem Ev.share {K t d} (h : Ev K t ρ (.nw d)) : Ev K t ρ (.sh d) := fun B R0 R σ H Q s k => h B R0 R σ H Q s fun v R' H' st hr => by
  obtain ⟨p, rfl, n, w⟩ := hr
  obtain ⟨R2, s2, r2, _⟩ := st.share n w
  exact k _ R2 H' s2 r2
theorem ex_share {d} (h : EX X e ρ (.nw d)) : EX X e ρ (.sh d) := Ev.share h
theorem Ev.shareD {K t d} (h : Ev K t ρ (.nd d)) : Ev K t ρ (.sh d) := fun B R0 R σ H Q s k => h B R0 R σ H Q s fun v R' H' st hr => by
  obtain ⟨f, w⟩ := hr
  obtain ⟨R2, s2, r2, _⟩ := st.shareD w
  exact k _ R2 H' s2 r2
theorem ex_shareD {d} (h : EX X e ρ (.nd d)) : EX X e ρ (.sh d) := Ev.shareD h
theorem ex_al {r} (h : EX X e ρ r) : EX X e ρ (.al r.dat) := fun B R0 R σ H Q s k => h B R0 R σ H Q s fun v R' H' st hr => k v R' H' st (hr.rp st.sub)

def Op2 (K : PySem.W.Frag) (r : R2) (ra rb rc : Rs) : Prop := ∀ (H0 R H : Hp) (x y : V) (Q : VK), Sub R H → Sm H0 H → Res K H0 R H x ra → Res K H0 R H y rb → (∀ v R' H', Step R H R' H' → Res K H R' H' v rc → Q v H') → r x y H Q
theorem Ev.op2 {K} {r : R2} {ta tb : TE} {ra rb rc : Rs} (ha : Ev K ta ρ ra) (hb : Ev K tb ρ rb) (c : Op2 K r ra rb rc) : Ev K (tOp r ta tb) ρ rc := fun B R0 R σ H Q s k =>
  ha B R0 R σ H _ s fun x R1 H1 s1 r1 => hb B R0 R1 σ H1 _ (s.step s1) fun y R2 H2 s2 r2 =>
    c H R2 H2 x y Q s2.sub (s1.hh.trans s2.hh) (r1.step s2) (r2.back s1.hh) fun v R3 H3 s3 r3 => k v R3 H3 ((s1.trans s2).trans s3) (r3.back (s1.hh.trans s2.hh))
theorem ex_bin {op : Operator} {r : R2} {ra rb rc : Rs} (ho : OpR X (binaryOp op) r) (c : Op2 X.K r ra rb rc) (ha : EX X a ρ ra) (hb : EX X b ρ rb) : EX X (.BinOp a op b pos) ρ rc :=
  .of (pe_op ho pe_sem pe_sem) (Ev.op2 ha hb c)
theorem ex_cmp {op : CmpOp} {r : R2} {ra rb rc : Rs} (ho : OpR X (compareOp op) r) (c : Op2 X.K r ra rb rc) (ha : EX X a ρ ra) (hb : EX X b ρ rb) (hm : behindInMarks op b = false) : EX X (.Compare a [op] [b] pos) ρ rc :=
  .of (pe_cmpR ho pe_sem pe_sem hm) (Ev.op2 ha hb c)
theorem Tv.of_ev {K} {t : TE} {k : Bool} (h : Ev K t ρ (.sh (.bl k))) : Tv K (tTest t) ρ k := fun B R0 R σ H Q s kk => h B R0 R σ H _ s fun v R' H' st hr => ⟨k, Res.bl st.sub hr rfl, kk R' H' st⟩
theorem tx_cmp {op : CmpOp} {r : R2} {ra rb : Rs} {k : Bool} (ho : OpR X (compareOp op) r) (c : Op2 X.K r ra rb (.sh (.bl k))) (ha : EX X a ρ ra) (hb : EX X b ρ rb) (hm : behindInMarks op b = false) : TX X (.Compare a [op] [b] pos) ρ k :=
  .of (pt_cmpR ho pe_sem pe_sem hm) (Tv.of_ev (Ev.op2 ha hb c))
theorem ex_ix {r : R2} {ra rb rc : Rs} (hr : IxR X r) (c : Op2 X.K r ra rb rc) (ha : EX X a ρ ra) (hb : EX X b ρ rb) (hs : PlainIx b := by exact fun _ _ => rfl) : EX X (.Subscript a b pos) ρ rc :=
  .of (pe_ix hr pe_sem pe_sem hs) (Ev.op2 ha hb c)
theorem tx_val {k : Bool} (h : EX X e ρ (.sh (.bl k))) (he : ∀ whole, isTrue e X.env whole = (do let v ← whole; standAt e.pos; holding [v] (truthy v)) := by intro _; rfl) : TX X e ρ k :=
  .of (pt_val pe_sem he) (Tv.of_ev h)
theorem wx_pt {k : Bool} {t : TT} (p : PW X e t) (h : Tv X.K t ρ k) : TX X e ρ k := .of p.pt h
theorem wx_and1 {k : Bool} (h : TX X a ρ k) : WX X (.BoolOp .And [a] pos) ρ k := .of (pw_and1 pt_sem) h
theorem wx_or1 {k : Bool} (h : TX X a ρ k) : WX X (.BoolOp .Or [a] pos) ρ k := .of (pw_or1 pt_sem) h
theorem wx_and {rest : List Expr} {j k : Bool} (h : TX X a ρ j) (h2 : j = true → WX X (.BoolOp .And (b :: rest) pos) ρ k) : WX X (.BoolOp .And (a :: b :: rest) pos) ρ (j && k) :=
  .of (pw_and pt_sem pw_sem) fun B R0 R σ H Q s kk => h B R0 R σ H _ s fun R1 H1 s1 => by
    cases j with
    | true => rw [if_pos rfl]; exact h2 rfl B R0 R1 σ H1 _ (s.step s1) fun R2 H2 s2 => kk R2 H2 (s1.trans s2)
    | false => rw [if_neg Bool.false_ne_true]; exact kk R1 H1 s1
theorem wx_or {rest : List Expr} {j k : Bool} (h : TX X a ρ j) (h2 : j = false → WX X (.BoolOp .Or (b :: rest) pos) ρ k) : WX X (.BoolOp .Or (a :: b :: rest) pos) ρ (j || k) :=
  .of (pw_or pt_sem pw_sem) fun B R0 R σ H Q s kk => h B R0 R σ H _ s fun R1 H1 s1 => by
    cases j with
    | false => rw [if_neg Bool.false_ne_true]; exact h2 rfl B R0 R1 σ H1 _ (s.step s1) fun R2 H2 s2 => kk R2 H2 (s1.trans s2)
    | true => rw [if_pos rfl]; exact kk R1 H1 s1
theorem tx_w {k : Bool} (h : WX X e ρ k) : TX X e ρ k := TX.of (PW.pt pw_sem) h
theorem tx_not {k : Bool} (h : TX X a ρ k) : TX X (.UnaryOp .Not a pos) ρ (!k) := .of (pt_not pt_sem) fun B R0 R σ H Q s kk => h B R0 R σ H _ s fun R1 H1 s1 => kk R1 H1 s1
theorem ex_not {k : Bool} (h : EX X a ρ (.sh (.bl k))) : EX X (.UnaryOp .Not a pos) ρ (.sh (.bl (!k))) := .of (pe_not pe_sem) fun B R0 R σ H Q s kk => h B R0 R σ H _ s fun v R1 H1 s1 r1 => ⟨k, Res.bl s1.sub r1 rfl, kk _ R1 H1 s1 (Rp.bl _)⟩
theorem ex_one {op} {r : Rs} (h : EX X a ρ r) : EX X (.BoolOp op [a] pos) ρ r := .of (pe_one pe_sem) h
theorem ex_and {rest : List Expr} {j k : Bool} (h : EX X a ρ (.sh (.bl j))) (h2 : j = true → EX X (.BoolOp .And (b :: rest) pos) ρ (.sh (.bl k))) : EX X (.BoolOp .And (a :: b :: rest) pos) ρ (.sh (.bl (j && k))) :=
  .of (pe_and pe_sem pe_sem) fun B R0 R σ H Q s kk => h B R0 R σ H _ s fun v R1 H1 s1 r1 => ⟨j, Res.bl s1.sub r1 rfl, by
    cases j with
    | true => rw [if_pos rfl]; exact h2 rfl B R0 R1 σ H1 _ (s.step s1) fun w R2 H2 s2 r2 => kk w R2 H2 (s1.trans s2) (r2.back s1.hh)
    | false => rw [if_neg Bool.false_ne_true]; exact kk _ R1 H1 s1 (Rp.bl _)⟩
theorem ex_or {rest : List Expr} {j k : Bool} (h : EX X a ρ (.sh (.bl j))) (h2 : j = false → EX X (.BoolOp .Or (b :: rest) pos) ρ (.sh (.bl k))) : EX X (.BoolOp .Or (a :: b :: rest) pos) ρ (.sh (.bl (j || k))) :=
  .of (pe_or pe_sem pe_sem) fun B R0 R σ H Q s kk => h B R0 R σ H _ s fun v R1 H1 s1 r1 => ⟨j, Res.bl s1.sub r1 rfl, by
    cases j with
    | false => rw [if_neg Bool.false_ne_true]; exact h2 rfl B R0 R1 σ H1 _ (s.step s1) fun w R2 H2 s2 r2 => kk w R2 H2 (s1.trans s2) (r2.back s1.hh)
    | true => rw [if_pos rfl]; exact kk _ R1 H1 s1 (Rp.bl _)⟩
theorem ex_if {k : Bool} {r : Rs} (h : TX X c ρ k) (h1 : k = true → EX X a ρ r) (h2 : k = false → EX X b ρ r) : EX X (.IfExp c a b pos) ρ r :=
  .of (pe_ifExp pt_sem pe_sem pe_sem) fun B R0 R σ H Q s kk => h B R0 R σ H _ s fun R1 H1 s1 => by
    cases k with
    | true => rw [if_pos rfl]; exact h1 rfl B R0 R1 σ H1 _ (s.step s1) fun w R2 H2 s2 r2 => kk w R2 H2 (s1.trans s2) (r2.back s1.hh)
    | false => rw [if_neg Bool.false_ne_true]; exact h2 rfl B R0 R1 σ H1 _ (s.step s1) fun w R2 H2 s2 r2 => kk w R2 H2 (s1.trans s2) (r2.back s1.hh)
theorem Ev.chain {K} {r r' : R2} {ta tb tc : TE} {ra rb rc : Rs} {j k : Bool} (ha : Ev K ta ρ ra) (hb : Ev K tb ρ rb) (o1 : Op2 K r ra rb (.sh (.bl j))) (hc : j = true → Ev K tc ρ rc) (o2 : j = true → Op2 K r' rb rc (.sh (.bl k))) : Ev K (tChain r r' ta tb tc) ρ (.sh (.bl (j && k))) := fun B R0 R σ H Q s kk =>
  ha B R0 R σ H _ s fun x R1 H1 s1 r1 => hb B R0 R1 σ H1 _ (s.step s1) fun y R2 H2 s2 r2 =>
    o1 H R2 H2 x y _ s2.sub (s1.hh.trans s2.hh) (r1.step s2) (r2.back s1.hh) fun v R3 H3 s3 r3 => ⟨j, Res.bl s3.sub r3 rfl, by
      have s13 := (s1.trans s2).trans s3
      cases j with
      | false => rw [if_neg Bool.false_ne_true]; exact kk _ R3 H3 s13 (Rp.bl _)
      | true =>
        rw [if_pos rfl]
        exact hc rfl B R0 R3 σ H3 _ (s.step s13) fun z R4 H4 s4 r4 => o2 rfl H R4 H4 y z Q s4.sub (s13.hh.trans s4.hh) ((r2.back s1.hh).step (s3.trans s4)) (r4.back s13.hh) fun w R5 H5 s5 r5 => kk w R5 H5 ((s13.trans s4).trans s5) (r5.back (s13.hh.trans s4.hh))⟩
theorem ex_chain {op op' : CmpOp} {r r' : R2} {ra rb rc : Rs} {j k : Bool} (ho : OpR X (compareOp op) r) (ho' : OpR X (compareOp op') r') (o1 : Op2 X.K r ra rb (.sh (.bl j))) (o2 : j = true → Op2 X.K r' rb rc (.sh (.bl k)))
    (ha : EX X a ρ ra) (hb : EX X b ρ rb) (hc : j = true → EX X c ρ rc) (hm : lastMarks [op, op'] [b, c] = false := by with_unfolding_all rfl) : EX X (.Compare a [op, op'] [b, c] pos) ρ (.sh (.bl (j && k))) :=
  .of (pe_chain ho ho' pe_sem pe_sem pe_sem hm) (Ev.chain ha hb o1 hc o2)
theorem tx_chain {op op' : CmpOp} {r r' : R2} {ra rb rc : Rs} {j k : Bool} (ho : OpR X (compareOp op) r) (ho' : OpR X (compareOp op') r') (o1 : Op2 X.K r ra rb (.sh (.bl j))) (o2 : j = true → Op2 X.K r' rb rc (.sh (.bl k)))
    (ha : EX X a ρ ra) (hb : EX X b ρ rb) (hc : j = true → EX X c ρ rc) (hm : lastMarks [op, op'] [b, c] = false := by with_unfolding_all rfl) : TX X (.Compare a [op, op'] [b, c] pos) ρ (j && k) :=
  .of (pt_chain ho ho' pe_sem pe_sem pe_sem hm) (Tv.of_ev (Ev.chain ha hb o1 hc o2))
end
end PV

namespace PV
open PySem PySem.Spec PyProof.Rows L2
section
variable {X : Cx} {ρ : List Sl} {pos : Pos} {a b c e : Expr} {K : PySem.W.Frag}

theorem o2_I {C : Int → Int → Prop} {g : Int → Int → V} {i j : Int} {d : D} (hc : C i j) (h : ∀ R, Rp K R (g i j) d) : Op2 K (rI C g) (.sh (.int i)) (.sh (.int j)) (.sh d) := fun H0 R H x y Q s _ rx ry k =>
  ⟨i, j, Res.int s rx rfl, Res.int s ry rfl, hc, k _ R H s.step (h R)⟩
theorem o2_I0 {g : Int → Int → V} {i j : Int} {d : D} (h : ∀ R, Rp K R (g i j) d) : Op2 K (rI0 g) (.sh (.int i)) (.sh (.int j)) (.sh d) := fun H0 R H x y Q s _ rx ry k =>
  ⟨i, j, Res.int s rx rfl, Res.int s ry rfl, k _ R H s.step (h R)⟩
variable {i j : Int}
theorem ex_add (ha : EX X a ρ (.sh (.int i))) (hb : EX X b ρ (.sh (.int j))) : EX X (.BinOp a .Add b pos) ρ (.sh (.int (i + j))) := ex_bin op_add (o2_I0 fun _ => .int _) ha hb
theorem ex_sub (ha : EX X a ρ (.sh (.int i))) (hb : EX X b ρ (.sh (.int j))) : EX X (.BinOp a .Sub b pos) ρ (.sh (.int (i - j))) := ex_bin op_sub (o2_I0 fun _ => .int _) ha hb
theorem ex_mul (ha : EX X a ρ (.sh (.int i))) (hb : EX X b ρ (.sh (.int j))) (hc : CMul i j) : EX X (.BinOp a .Mult b pos) ρ (.sh (.int (i * j))) := ex_bin op_mul (o2_I hc fun _ => .int _) ha hb
theorem ex_mulW (ha : EX X a ρ (.sh (.int i))) (hb : EX X b ρ (.sh (.int j))) (hc : CMulW i j) : EX X (.BinOp a .Mult b pos) ρ (.sh (.int (i * j))) := ex_bin op_mulW (o2_I hc fun _ => .int _) ha hb
theorem ex_mod (ha : EX X a ρ (.sh (.int i))) (hb : EX X b ρ (.sh (.int j))) (hc : 0 < j) : EX X (.BinOp a .Mod b pos) ρ (.sh (.int (i % j))) := ex_bin op_mod (o2_I hc fun _ => .int _) ha hb
theorem ex_fdiv (ha : EX X a ρ (.sh (.int i))) (hb : EX X b ρ (.sh (.int j))) (hc : CDiv i j) : EX X (.BinOp a .FloorDiv b pos) ρ (.sh (.int (i / j))) := ex_bin op_fdiv (o2_I hc fun _ => .int _) ha hb
theorem ex_pow (ha : EX X a ρ (.sh (.int i))) (hb : EX X b ρ (.sh (.int j))) (hc : CPow i j) : EX X (.BinOp a .Pow b pos) ρ (.sh (.int (i ^ j.toNat))) := ex_bin op_pow (o2_I hc fun _ => .int _) ha hb
theorem ex_lt (ha : EX X a ρ (.sh (.int i))) (hb : EX X b ρ (.sh (.int j))) : EX X (.Compare a [.Lt] [b] pos) ρ (.sh (.bl (decide (i < j)))) := ex_cmp op_lt (o2_I0 fun _ => .bl _) ha hb (nomark _)
theorem ex_le (ha : EX X a ρ (.sh (.int i))) (hb : EX X b ρ (.sh (.int j))) : EX X (.Compare a [.LtE] [b] pos) ρ (.sh (.bl (decide (i ≤ j)))) := ex_cmp op_le (o2_I0 fun _ => .bl _) ha hb (nomark _)
theorem ex_gt (ha : EX X a ρ (.sh (.int i))) (hb : EX X b ρ (.sh (.int j))) : EX X (.Compare a [.Gt] [b] pos) ρ (.sh (.bl (decide (j < i)))) := ex_cmp op_gt (o2_I0 fun _ => .bl _) ha hb (nomark _)
theorem ex_ge (ha : EX X a ρ (.sh (.int i))) (hb : EX X b ρ (.sh (.int j))) : EX X (.Compare a [.GtE] [b] pos) ρ (.sh (.bl (decide (j ≤ i)))) := ex_cmp op_ge (o2_I0 fun _ => .bl _) ha hb (nomark _)
theorem tx_lt (ha : EX X a ρ (.sh (.int i))) (hb : EX X b ρ (.sh (.int j))) : TX X (.Compare a [.Lt] [b] pos) ρ (decide (i < j)) := tx_cmp op_lt (o2_I0 fun _ => .bl _) ha hb (nomark _)
theorem tx_le (ha : EX X a ρ (.sh (.int i))) (hb : EX X b ρ (.sh (.int j))) : TX X (.Compare a [.LtE] [b] pos) ρ (decide (i ≤ j)) := tx_cmp op_le (o2_I0 fun _ => .bl _) ha hb (nomark _)
theorem tx_gt (ha : EX X a ρ (.sh (.int i))) (hb : EX X b ρ (.sh (.int j))) : TX X (.Compare a [.Gt] [b] pos) ρ (decide (j < i)) := tx_cmp op_gt (o2_I0 fun _ => .bl _) ha hb (nomark _)
theorem tx_ge (ha : EX X a ρ (.sh (.int i))) (hb : EX X b ρ (.sh (.int j))) : TX X (.Compare a [.GtE] [b] pos) ρ (decide (j ≤ i)) := tx_cmp op_ge (o2_I0 fun _ => .bl _) ha hb (nomark _)
theorem o2_lt : Op2 K (rI0 fun i j => .bl (decide (i < j))) (.sh (.int i)) (.sh (.int j)) (.sh (.bl (decide (i < j)))) := o2_I0 fun _ => .bl _
theorem o2_le : Op2 K (rI0 fun i j => .bl (decide (i ≤ j))) (.sh (.int i)) (.sh (.int j)) (.sh (.bl (decide (i ≤ j)))) := o2_I0 fun _ => .bl _
theorem o2_eq {x y : V} {d1 d2 : D} (h1 : ∀ R v, Rp K R v d1 → v = x) (h2 : ∀ R v, Rp K R v d2 → v = y) (hs : scal x y = true) : Op2 K rEq (.sh d1) (.sh d2) (.sh (.bl (decide (x = y)))) := fun H0 R H v u Q s _ rx ry k => by
  rw [h1 _ _ rx, h2 _ _ ry]
  exact ⟨hs, k _ R H s.step (Rp.bl _)⟩
theorem o2_ne {x y : V} {d1 d2 : D} (h1 : ∀ R v, Rp K R v d1 → v = x) (h2 : ∀ R v, Rp K R v d2 → v = y) (hs : scal x y = true) : Op2 K rNe (.sh d1) (.sh d2) (.sh (.bl (!decide (x = y)))) := fun H0 R H v u Q s _ rx ry k => by
  rw [h1 _ _ rx, h2 _ _ ry]
  exact ⟨hs, k _ R H s.step (Rp.bl _)⟩
theorem is_int (R : Hp) (v : V) (h : Rp K R v (.int i)) : v = .int i := by cases h; rfl
theorem is_str {x : Str} (R : Hp) (v : V) (h : Rp K R v (.str x)) : v = .str x := by cases h; rfl
theorem is_bl {x : Bool} (R : Hp) (v : V) (h : Rp K R v (.bl x)) : v = .bl x := by cases h; rfl
theorem is_non (R : Hp) (v : V) (h : Rp K R v .non) : v = .non := by cases h; rfl
theorem dec_int : decide (V.int i = V.int j) = decide (i = j) := by
  by_cases h : i = j
  · subst h; simp
  · rw [decide_eq_false h, decide_eq_false fun z => h (V.int.inj z)]
theorem dec_str {x y : Str} : decide (V.str x = V.str y) = decide (x = y) := by
  by_cases h : x = y
  · subst h; simp
  · rw [decide_eq_false h, decide_eq_false fun z => h (V.str.inj z)]
theorem dec_bl {x y : Bool} : decide (V.bl x = V.bl y) = decide (x = y) := by
  by_cases h : x = y
  · subst h; simp
  · rw [decide_eq_false h, decide_eq_false fun z => h (V.bl.inj z)]
theorem o2_eqI : Op2 K rEq (.sh (.int i)) (.sh (.int j)) (.sh (.bl (decide (i = j)))) := dec_int ▸ o2_eq is_int is_int rfl
theorem o2_neI : Op2 K rNe (.sh (.int i)) (.sh (.int j)) (.sh (.bl (!decide (i = j)))) := dec_int ▸ o2_ne is_int is_int rfl
theorem o2_eqS {x y : Str} : Op2 K rEq (.sh (.str x)) (.sh (.str y)) (.sh (.bl (decide (x = y)))) := dec_str ▸ o2_eq is_str is_str rfl
theorem o2_neS {x y : Str} : Op2 K rNe (.sh (.str x)) (.sh (.str y)) (.sh (.bl (!decide (x = y)))) := dec_str ▸ o2_ne is_str is_str rfl
theorem o2_eqB {x y : Bool} : Op2 K rEq (.sh (.bl x)) (.sh (.bl y)) (.sh (.bl (decide (x = y)))) := dec_bl ▸ o2_eq is_bl is_bl rfl
theorem ex_eqI (ha : EX X a ρ (.sh (.int i))) (hb : EX X b ρ (.sh (.int j))) : EX X (.Compare a [.Eq] [b] pos) ρ (.sh (.bl (decide (i = j)))) := ex_cmp op_eq o2_eqI ha hb (nomark _)
theorem ex_neI (ha : EX X a ρ (.sh (.int i))) (hb : EX X b ρ (.sh (.int j))) : EX X (.Compare a [.NotEq] [b] pos) ρ (.sh (.bl (!decide (i = j)))) := ex_cmp op_ne o2_neI ha hb (nomark _)
theorem tx_eqI (ha : EX X a ρ (.sh (.int i))) (hb : EX X b ρ (.sh (.int j))) : TX X (.Compare a [.Eq] [b] pos) ρ (decide (i = j)) := tx_cmp op_eq o2_eqI ha hb (nomark _)
theorem tx_neI (ha : EX X a ρ (.sh (.int i))) (hb : EX X b ρ (.sh (.int j))) : TX X (.Compare a [.NotEq] [b] pos) ρ (!decide (i = j)) := tx_cmp op_ne o2_neI ha hb (nomark _)
theorem ex_eqS {x y : Str} (ha : EX X a ρ (.sh (.str x))) (hb : EX X b ρ (.sh (.str y))) : EX X (.Compare a [.Eq] [b] pos) ρ (.sh (.bl (decide (x = y)))) := ex_cmp op_eq o2_eqS ha hb (nomark _)
theorem tx_eqS {x y : Str} (ha : EX X a ρ (.sh (.str x))) (hb : EX X b ρ (.sh (.str y))) : TX X (.Compare a [.Eq] [b] pos) ρ (decide (x = y)) := tx_cmp op_eq o2_eqS ha hb (nomark _)
theorem tx_neS {x y : Str} (ha : EX X a ρ (.sh (.str x))) (hb : EX X b ρ (.sh (.str y))) : TX X (.Compare a [.NotEq] [b] pos) ρ (!decide (x = y)) := tx_cmp op_ne o2_neS ha hb (nomark _)
theorem ex_neS {x y : Str} (ha : EX X a ρ (.sh (.str x))) (hb : EX X b ρ (.sh (.str y))) : EX X (.Compare a [.NotEq] [b] pos) ρ (.sh (.bl (!decide (x = y)))) := ex_cmp op_ne o2_neS ha hb (nomark _)
theorem ex_eqB {x y : Bool} (ha : EX X a ρ (.sh (.bl x))) (hb : EX X b ρ (.sh (.bl y))) : EX X (.Compare a [.Eq] [b] pos) ρ (.sh (.bl (decide (x = y)))) := ex_cmp op_eq o2_eqB ha hb (nomark _)
theorem ex_addS {x y : Str} (ha : EX X a ρ (.sh (.str x))) (hb : EX X b ρ (.sh (.str y))) (hl : x.length + y.length ≤ sizeLine) : EX X (.BinOp a .Add b pos) ρ (.sh (.str (x ++ y))) :=
  ex_bin (ra := .sh (.str x)) (rb := .sh (.str y)) op_add_str (fun H0 R H v u Q s _ rx ry k => ⟨x, y, Res.str s rx rfl, Res.str s ry rfl, hl, k _ R H s.step (Rp.str _)⟩) ha hb
def isNon : D → Bool
  | .non => true
  | _ => false
theorem isNon_of {R : Hp} {v : V} {d : D} (h : Rp K R v d) : decide (v = .non) = isNon d := by
  cases h <;> first | rfl | exact decide_eq_false fun z => nomatch z
theorem o2_isN {r : Rs} : Op2 K (fun x y H Q => y = .non ∧ Q (.bl (decide (x = .non))) H) r (.sh .non) (.sh (.bl (isNon r.dat))) := fun H0 R H x y Q s _ rx ry k =>
  ⟨is_non _ _ ry, k _ R H s.step (by rw [isNon_of (rx.rp s)]; exact Rp.bl _)⟩
theorem o2_notN {r : Rs} : Op2 K (fun x y H Q => y = .non ∧ Q (.bl (!decide (x = .non))) H) r (.sh .non) (.sh (.bl (!isNon r.dat))) := fun H0 R H x y Q s _ rx ry k =>
  ⟨is_non _ _ ry, k _ R H s.step (by rw [isNon_of (rx.rp s)]; exact Rp.bl _)⟩
theorem tx_isN {r : Rs} {j p'} (ha : EX X a ρ r) : TX X (.Compare a [.Is] [.Constant .none j p'] pos) ρ (isNon r.dat) := tx_cmp op_isN o2_isN ha ex_non (nomark _)
theorem tx_notN {r : Rs} {j p'} (ha : EX X a ρ r) : TX X (.Compare a [.IsNot] [.Constant .none j p'] pos) ρ (!isNon r.dat) := tx_cmp op_notN o2_notN ha ex_non (nomark _)

theorem RpA.atI {R : Hp} {vs : List V} {ds : List D} {k : Int} {d : D} (h : RpA K R vs ds) (e : L2.atI ds k = some d) : ∃ v, L2.atI vs k = some v ∧ Rp K R v d := by
  unfold L2.atI at e ⊢
  rw [h.len]
  cases q : ixN ds.length k with
  | none => rw [q] at e; cases e
  | some j => rw [q] at e; exact RpA.get h e
theorem o2_ixL {ds : List D} {d : D} (e : atI ds i = some d) : Op2 K (rIxL K) (.sh (.lst ds)) (.sh (.int i)) (.sh d) := fun H0 R H x y Q s _ rx ry k => by
  cases rx with
  | lst h r =>
    obtain ⟨v, e1, e2⟩ := RpA.atI r e
    exact ⟨_, _, i, v, rfl, is_int _ _ ry, SqL.of (s.rh.k _ _ h trivial), e1, k v R H s.step e2⟩
theorem o2_ixLA {ds : List D} {d : D} (e : atI ds i = some d) : Op2 K (rIxL K) (.al (.lst ds)) (.sh (.int i)) (.al d) := fun H0 R H x y Q s _ rx ry k => by
  cases rx with
  | lst h r =>
    obtain ⟨v, e1, e2⟩ := RpA.atI r e
    exact ⟨_, _, i, v, rfl, is_int _ _ ry, SqL.of h, e1, k v R H s.step e2⟩
theorem o2_ixT {ds : List D} {d : D} (e : atI ds i = some d) : Op2 K (rIxT K) (.sh (.tup ds)) (.sh (.int i)) (.sh d) := fun H0 R H x y Q s _ rx ry k => by
  cases rx with
  | tup h r =>
    obtain ⟨v, e1, e2⟩ := RpA.atI r e
    exact ⟨_, _, i, v, rfl, is_int _ _ ry, Sm.seqT s.rh h, e1, k v R H s.step e2⟩
theorem o2_ixTA {ds : List D} {d : D} (e : atI ds i = some d) : Op2 K (rIxT K) (.al (.tup ds)) (.sh (.int i)) (.al d) := fun H0 R H x y Q s _ rx ry k => by
  cases rx with
  | tup h r =>
    obtain ⟨v, e1, e2⟩ := RpA.atI r e
    exact ⟨_, _, i, v, rfl, is_int _ _ ry, h, e1, k v R H s.step e2⟩
theorem o2_ixC {ns : List Int} {n : Int} (e : L2.atI ns i = some n) : Op2 K (rIxL K) (.sh (.scr ns)) (.sh (.int i)) (.sh (.int n)) := fun H0 R H x y Q s _ rx ry k => by
  cases rx with
  | scr h =>
    refine ⟨_, _, i, .int n, rfl, is_int _ _ ry, s.rh.seq h, ?_, k _ R H s.step (Rp.int _)⟩
    unfold L2.atI at e ⊢
    rw [List.length_map]
    cases q : ixN ns.length i with
    | none => rw [q] at e; cases e
    | some j =>
      rw [q] at e
      have e : ns[j]? = some n := e
      show (ns.map V.int)[j]? = some (.int n)
      rw [List.getElem?_map, e]; rfl
theorem o2_ixS {z : Str} {c : Nat} (hl : z.length ≤ sizeLine) (e : atI z.cps.toList i = some c) : Op2 K rIxS (.sh (.str z)) (.sh (.int i)) (.sh (.str ⟨#[c]⟩)) := fun H0 R H x y Q s _ rx ry k =>
  ⟨z, i, c, is_str _ _ rx, is_int _ _ ry, hl, e, k _ R H s.step (Rp.str _)⟩

theorem ax_nil : AX X [] ρ [] := .of pa_nil fun B R0 R σ H Q s k => k [] R H s.sub.step .nil
theorem ResA.step {H R1 H1 R2 H2 : Hp} (s : Step R1 H1 R2 H2) : ∀ {vs : List V} {rs : List Rs}, ResA K H R1 H1 vs rs → ResA K H R2 H2 vs rs
  | _, _, .nil => .nil
  | _, _, .cons h r => .cons (h.step s) (ResA.step s r)
theorem ResA.back {H0 H R2 H2 : Hp} (s : Sm H0 H) : ∀ {vs : List V} {rs : List Rs}, ResA K H R2 H2 vs rs → ResA K H0 R2 H2 vs rs
  | _, _, .nil => .nil
  | _, _, .cons h r => .cons (h.back s) (ResA.back s r)
theorem ax_cons {es : List Expr} {r : Rs} {rs : List Rs} (ha : EX X e ρ r) (hr : AX X es ρ rs) (hs : starEach (e :: es) X.env = (false, eval e X.env) :: starEach es X.env := by rfl) : AX X (e :: es) ρ (r :: rs) :=
  .of (pa_cons pe_sem pa_sem hs) fun B R0 R σ H Q s k => ha B R0 R σ H _ s fun x R1 H1 s1 r1 => hr B R0 R1 σ H1 _ (s.step s1) fun vs R2 H2 s2 r2 =>
    k _ R2 H2 (s1.trans s2) (.cons (r1.step s2) (r2.back s1.hh))
theorem ResA.shs {H R' H' : Hp} : ∀ {vs : List V} {ds : List D}, ResA K H R' H' vs (ds.map Rs.sh) → RpA K R' vs ds
  | _, [], h => by cases h; exact .nil
  | _, d :: ds, h => by cases h with | cons h r => exact .cons h (ResA.shs r)
theorem ResA.rp {H R' H' : Hp} (s : Sub R' H') : ∀ {vs : List V} {rs : List Rs}, ResA K H R' H' vs rs → RpA K H' vs (rs.map Rs.dat)
  | _, _, .nil => .nil
  | _, _, .cons h r => .cons (h.rp s) (ResA.rp s r)
theorem ResA.len {H R' H' : Hp} : ∀ {vs : List V} {rs : List Rs}, ResA K H R' H' vs rs → vs.length = rs.length
  | _, _, .nil => rfl
  | _, _, .cons h r => by rw [List.length_cons, List.length_cons, ResA.len r]
theorem Step.new {R H R' H' : Hp} (s : Step R H R' H') {p : Addr} {o : HO} (n : H' p = none) (nt : ∀ xs, o ≠ .tup xs) (nf : ∀ u v, o ≠ .frz u v) (ne : ∀ φ, o ≠ .ext φ := by intro φ z; cases z) : Step R H R' (upd H' p o) := by
  refine ⟨s.rr, s.rh.upd n, s.hh.upd n, s.nw, fun b xs e => ?_, fun b u xs e => ?_, fun b ps e => let ⟨ps', e', n'⟩ := s.cd b ps e; ⟨ps', by rw [upd_ne (ne_of_none e' n)]; exact e', n'.new n⟩, fun b φ e => ?_⟩
  · by_cases z : b = p
    · subst z; rw [upd_same] at e; exact absurd (Option.some.inj e) (nt xs)
    · rw [upd_ne z] at e; exact s.tp b xs e
  · by_cases z : b = p
    · subst z; rw [upd_same] at e; exact absurd (Option.some.inj e) (nf u _)
    · rw [upd_ne z] at e; exact s.tf b u xs e
  · by_cases z : b = p
    · subst z; rw [upd_same] at e; exact absurd (Option.some.inj e) (ne φ)
    · rw [upd_ne z] at e; exact s.te b φ e
theorem Step.newS {R H R' H' : Hp} (s : Step R H R' H') {p : Addr} {o : HO} (n : H' p = none) : Step R H (upd R' p o) (upd H' p o) := by
  have nr : R' p = none := Sm.free s.rh n
  refine ⟨s.rr.upd nr, ⟨fun b x e nt => ?_, fun b ps e => ?_⟩, s.hh.upd n, fun a h h' => ?_, fun b xs e => ?_, fun b u xs e => ?_, fun b ps e => let ⟨ps', e', n'⟩ := s.cd b ps e; ⟨ps', by rw [upd_ne (ne_of_none e' n)]; exact e', n'.new n⟩, fun b φ e => ?_⟩
  · by_cases z : b = p
    · subst z; rw [upd_same] at e ⊢; exact e
    · rw [upd_ne z] at e ⊢; exact s.rh.k b x e nt
  · by_cases z : b = p
    · subst z; rw [upd_same] at e ⊢; exact ⟨ps, e, id⟩
    · rw [upd_ne z] at e ⊢; exact s.rh.t b ps e
  · by_cases z : a = p
    · subst z; exact Sm.free s.hh n
    · rw [upd_ne z] at h'; exact s.nw a h h'
  · by_cases z : b = p
    · subst z; rw [upd_same] at e ⊢; exact e
    · rw [upd_ne z] at e ⊢; exact s.tp b xs e
  · by_cases z : b = p
    · subst z; rw [upd_same] at e ⊢; exact e
    · rw [upd_ne z] at e ⊢; exact s.tf b u xs e
  · by_cases z : b = p
    · subst z; rw [upd_same] at e ⊢; exact e
    · rw [upd_ne z] at e ⊢; exact s.te b φ e
theorem Own.new {R H : Hp} (s : Sub R H) {p : Addr} {o : HO} {d : D} (n : H p = none) (h : ObjD K R o d) : Own K R (upd H p o) p d :=
  ⟨Sm.free s.rh n, o, upd_same, h⟩
theorem ex_tup {es : List Expr} {x1} {ds : List D} (h : AX X es ρ (ds.map Rs.sh)) (hl : ds.length ≤ sizeLine) : EX X (.Tuple es x1 pos) ρ (.sh (.tup ds)) :=
  .of (pe_tup pa_sem) fun B R0 R σ H Q s k => h B R0 R σ H _ s fun vs R1 H1 s1 r1 => by
    have r := r1.shs
    refine ⟨by rw [r.len]; exact hl, fun p np => ?_⟩
    have st := s1.newS (o := .tup vs) np
    exact k _ _ _ st (Rp.tup (SqT.of upd_same) (RpA.mono ((Sm.refl R1).upd (Sm.free s1.rh np)) r))
theorem ex_lst {es : List Expr} {ds : List D} (h : AX X es ρ (ds.map Rs.sh)) (hl : ds.length ≤ sizeLine) : EX X (.List es pos) ρ (.nw (.lst ds)) :=
  .of (pe_lst pa_sem) fun B R0 R σ H Q s k => h B R0 R σ H _ s fun vs R1 H1 s1 r1 => by
    have r := r1.shs
    refine ⟨by rw [r.len]; exact hl, fun p np => ?_⟩
    have hn := Sm.free s1.hh np
    exact k _ R1 _ (s1.new np (fun _ z => nomatch z) fun _ _ z => nomatch z) ⟨p, rfl, hn, Own.new s1.sub np r⟩
theorem ex_dnew : EX X (.Dict [] [] pos) ρ (.nw (.dK [])) :=
  .of pe_dnewK fun B R0 R σ H Q s k p np => k _ R _ (s.sub.step.new np (fun _ z => nomatch z) fun _ _ z => nomatch z) ⟨p, rfl, np, Own.new s.sub np .nil⟩

def OpN (K : PySem.W.Frag) (r : List V → Hp → VK → Prop) (rs : List Rs) (rc : Rs) : Prop := ∀ (H0 R H : Hp) (xs : List V) (Q : VK), Sub R H → Sm H0 H → ResA K H0 R H xs rs → (∀ v R' H', Step R H R' H' → Res K H R' H' v rc → Q v H') → r xs H Q
theorem Ev.opN {r : List V → Hp → VK → Prop} {t : TA} {rs : List Rs} {rc : Rs} (h : Av K t ρ rs) (c : OpN K r rs rc) : Ev K (tCB r t) ρ rc := fun B R0 R σ H Q s k =>
  h B R0 R σ H _ s fun xs R1 H1 s1 r1 => c H R1 H1 xs Q s1.sub s1.hh r1 fun v R2 H2 s2 r2 => k v R2 H2 (s1.trans s2) (r2.back s1.hh)
theorem ex_callB {r : List V → Hp → VK → Prop} {id : String} {x : Str} {p : Pos} {es : List Expr} {rs : List Rs} {rc : Rs} (hc : CallR X (.builtin id) r) (c : OpN X.K r rs rc) (hg : Gl X x) (hm : X.mg x = none) (hv : bootBuiltins x = some (.builtin id)) (ha : AX X (e :: es) ρ rs)
    (hn : x ≠ "__name__" := by decide) (hdb : (x == ("__debug__" : Str)) = false := by decide) (hst : starEach (e :: es) X.env = (false, eval e X.env) :: starEach es X.env := by rfl) (hpl : (backTo pos (starEach es X.env)).any (·.1) = false := by rfl) : EX X (.Call (.Name x p) (e :: es) [] pos) ρ rc :=
  .of (pe_callB hc hg hm hv pa_sem hn hdb hst hpl) (Ev.opN ha c)
theorem ex_callTy {r : List V → Hp → VK → Prop} {T : String} {x : Str} {p : Pos} {es : List Expr} {rs : List Rs} {rc : Rs} (hc : CallR X (.type T) r) (c : OpN X.K r rs rc) (hg : Gl X x) (hm : X.mg x = none) (hv : bootBuiltins x = some (.type T)) (ha : AX X (e :: es) ρ rs)
    (hn : x ≠ "__name__" := by decide) (hdb : (x == ("__debug__" : Str)) = false := by decide) (hst : starEach (e :: es) X.env = (false, eval e X.env) :: starEach es X.env := by rfl) (hpl : (backTo pos (starEach es X.env)).any (·.1) = false := by rfl) : EX X (.Call (.Name x p) (e :: es) [] pos) ρ rc :=
  .of (pe_callTy hc hg hm hv pa_sem hn hdb hst hpl) (Ev.opN ha c)
end
end PV

namespace PV
open PySem PySem.Spec PyProof.Rows L2
section
variable {X : Cx} {ρ : List Sl} {pos : Pos} {a b c e o : Expr} {K : PySem.W.Frag}

theorem ResA.one {H R' H' : Hp} {vs : List V} {r : Rs} (h : ResA K H R' H' vs [r]) : ∃ v, vs = [v] ∧ Res K H R' H' v r := by
  cases h with | cons h t => cases t; exact ⟨_, rfl, h⟩
theorem ResA.two {H R' H' : Hp} {vs : List V} {r q : Rs} (h : ResA K H R' H' vs [r, q]) : ∃ v u, vs = [v, u] ∧ Res K H R' H' v r ∧ Res K H R' H' u q := by
  cases h with | cons h t => obtain ⟨u, rfl, h2⟩ := t.one; exact ⟨_, _, rfl, h, h2⟩
theorem Rp.lst' {R : Hp} {v : V} {ds : List D} (h : Rp K R v (.lst ds)) : ∃ a xs, v = .ref a ∧ R a = some (.lst xs) ∧ RpA K R xs ds := by
  cases h with | lst h r => exact ⟨_, _, rfl, h, r⟩
theorem Rp.tup' {R : Hp} {v : V} {ds : List D} (h : Rp K R v (.tup ds)) : ∃ a xs, v = .ref a ∧ SqT K R a xs ∧ RpA K R xs ds := by
  cases h with | tup h r => exact ⟨_, _, rfl, h, r⟩
theorem Rp.dK' {R : Hp} {v : V} {kds : List (Key × D)} (h : Rp K R v (.dK kds)) : ∃ a kvs, v = .ref a ∧ R a = some (.dK kvs) ∧ RpK K R kvs kds := by
  cases h with | dK h r => exact ⟨_, _, rfl, h, r⟩
def sq : D → Option (List D)
  | .lst ds => some ds
  | .tup ds => some ds
  | .key ks => some (ks.map keyD)
  | _ => none
theorem sq_of {R : Hp} {v : V} {d : D} {ds : List D} (h : Rp K R v d) (e : sq d = some ds) : ∃ a xs, v = .ref a ∧ (SqL K R a xs ∨ SqT K R a xs) ∧ RpA K R xs ds := by
  cases h <;> first | (cases e; done) | skip
  · rename_i h r
    cases e
    exact ⟨_, _, rfl, .inl (SqL.of h), r⟩
  · rename_i h r
    cases e
    exact ⟨_, _, rfl, .inr h, r⟩
  · rename_i h
    cases e
    exact ⟨_, _, rfl, .inr (SqT.of h), keys_rp R _⟩
theorem on_len {r : Rs} {ds : List D} (e : sq r.dat = some ds) : OpN K (fun xs H Q => ∃ p ys, xs = [.ref p] ∧ (SqL K H p ys ∨ SqT K H p ys) ∧ Q (.int ys.length) H) [r] (.sh (.int ds.length)) := fun H0 R H xs Q s _ rs k => by
  obtain ⟨v, rfl, h⟩ := rs.one
  obtain ⟨p, ys, rfl, h1, h2⟩ := sq_of (h.rp s) e
  exact ⟨p, ys, rfl, h1, by rw [h2.len]; exact k _ R H s.step (Rp.int _)⟩
theorem on_lenC {ns : List Int} : OpN K (fun xs H Q => ∃ p ys, xs = [.ref p] ∧ (SqL K H p ys ∨ SqT K H p ys) ∧ Q (.int ys.length) H) [.sh (.scr ns)] (.sh (.int ns.length)) := fun H0 R H xs Q s _ rs k => by
  obtain ⟨v, rfl, h⟩ := rs.one
  cases h with
  | scr h => exact ⟨_, _, rfl, .inl (s.rh.seq h), by rw [List.length_map]; exact k _ R H s.step (Rp.int _)⟩
theorem on_lenS {z : Str} (hl : z.length ≤ sizeLine) : OpN K (fun xs H Q => ∃ z : Str, xs = [.str z] ∧ z.length ≤ sizeLine ∧ Q (.int z.length) H) [.sh (.str z)] (.sh (.int z.length)) := fun H0 R H xs Q s _ rs k => by
  obtain ⟨v, rfl, h⟩ := rs.one
  exact ⟨z, by rw [Res.str s h rfl], hl, k _ R H s.step (Rp.int _)⟩
theorem on_min2 {i j : Int} : OpN K (fun xs H Q => ∃ i j, xs = [.int i, .int j] ∧ Q (.int (if j < i then j else i)) H) [.sh (.int i), .sh (.int j)] (.sh (.int (if j < i then j else i))) := fun H0 R H xs Q s _ rs k => by
  obtain ⟨v, u, rfl, h1, h2⟩ := rs.two
  exact ⟨i, j, by rw [Res.int s h1 rfl, Res.int s h2 rfl], k _ R H s.step (Rp.int _)⟩
theorem on_max2 {i j : Int} : OpN K (fun xs H Q => ∃ i j, xs = [.int i, .int j] ∧ Q (.int (if j > i then j else i)) H) [.sh (.int i), .sh (.int j)] (.sh (.int (if j > i then j else i))) := fun H0 R H xs Q s _ rs k => by
  obtain ⟨v, u, rfl, h1, h2⟩ := rs.two
  exact ⟨i, j, by rw [Res.int s h1 rfl, Res.int s h2 rfl], k _ R H s.step (Rp.int _)⟩
theorem on_intB {x : Bool} : OpN K (fun xs H Q => (∃ i, xs = [.int i] ∧ Q (.int i) H) ∨ ∃ k, xs = [.bl k] ∧ Q (.int (if k then 1 else 0)) H) [.sh (.bl x)] (.sh (.int (if x then 1 else 0))) := fun H0 R H xs Q s _ rs k => by
  obtain ⟨v, rfl, h⟩ := rs.one
  exact .inr ⟨x, by rw [Res.bl s h rfl], k _ R H s.step (Rp.int _)⟩
theorem on_intI {x : Int} : OpN K (fun xs H Q => (∃ i, xs = [.int i] ∧ Q (.int i) H) ∨ ∃ k, xs = [.bl k] ∧ Q (.int (if k then 1 else 0)) H) [.sh (.int x)] (.sh (.int x)) := fun H0 R H xs Q s _ rs k => by
  obtain ⟨v, rfl, h⟩ := rs.one
  exact .inl ⟨x, by rw [Res.int s h rfl], k _ R H s.step (Rp.int _)⟩
def Sharable (r : Rs) (ds : List D) : Prop := (∃ d, r = .sh d) ∨ immA ds = true
theorem items_of {H0 R H : Hp} {v : V} {r : Rs} {ds : List D} (s : Sub R H) (h : Res K H0 R H v r) (e : sq r.dat = some ds) (sh : Sharable r ds) : ∃ a xs, v = .ref a ∧ (SqL K H a xs ∨ SqT K H a xs) ∧ RpA K R xs ds := by
  rcases sh with ⟨d, rfl⟩ | hi
  · obtain ⟨a, xs, rfl, h1, h2⟩ := sq_of (show Rp K R v d from h) e
    exact ⟨a, xs, rfl, h1.imp (fun z => s.rh.seq z) (fun z => Sm.seqT s.rh z), h2⟩
  · obtain ⟨a, xs, rfl, h1, h2⟩ := sq_of (h.rp s) e
    exact ⟨a, xs, rfl, h1, RpA.imm s.tp s.tf h2 hi⟩
theorem new_lst {H0 R H : Hp} {p : Addr} {xs : List V} {ds : List D} {Q : VK} (s : Sub R H) (s0 : Sm H0 H) (np : H p = none) (r : RpA K R xs ds) (k : ∀ v R' H', Step R H R' H' → Res K H R' H' v (.nw (.lst ds)) → Q v H') : Q (.ref p) (upd H p (.lst xs)) :=
  k _ R _ (s.step.new np (fun _ z => nomatch z) fun _ _ z => nomatch z) ⟨p, rfl, np, Own.new s np r⟩
theorem on_list {r : Rs} {ds : List D} (e : sq r.dat = some ds) (sh : Sharable r ds) : OpN K (fun xs H Q => ∃ p ys, xs = [.ref p] ∧ (SqL K H p ys ∨ SqT K H p ys) ∧ ∀ l, H l = none → Q (.ref l) (upd H l (.lst ys))) [r] (.nw (.lst ds)) := fun H0 R H xs Q s s0 rs k => by
  obtain ⟨v, rfl, h⟩ := rs.one
  obtain ⟨p, ys, rfl, h1, h2⟩ := items_of s h e sh
  exact ⟨p, ys, rfl, h1, fun l nl => new_lst s s0 nl h2 k⟩
theorem on_tuple {r : Rs} {ds : List D} (e : r.dat = .lst ds) (sh : Sharable r ds) : OpN K (fun xs H Q => ∃ p ys, xs = [.ref p] ∧ ((SqL K H p ys ∧ ∀ l, H l = none → Q (.ref l) (upd H l (.tup ys))) ∨ (SqT K H p ys ∧ Q (.ref p) H))) [r] (.sh (.tup ds)) := fun H0 R H xs Q s s0 rs k => by
  obtain ⟨v, rfl, h⟩ := rs.one
  have h3 := h.rp s
  rw [e] at h3
  obtain ⟨p, ys, rfl, h1, h2⟩ := h3.lst'
  obtain ⟨p', ys', e', h1', h2'⟩ := items_of s h (by rw [e]; rfl) sh
  cases e'
  refine ⟨p, ys, rfl, .inl ⟨SqL.of h1, fun l nl => ?_⟩⟩
  have : RpA K R ys ds := by
    rcases sh with ⟨d, rfl⟩ | hi
    · obtain rfl : d = .lst ds := e
      obtain ⟨p2, ys2, e2, h12, h22⟩ := (show Rp K R (.ref p) (.lst ds) from h).lst'
      cases e2
      have z := s.rh.k _ _ h12 trivial
      rw [h1] at z
      cases z
      exact h22
    · exact RpA.imm s.tp s.tf h2 hi
  have nr : R l = none := Sm.free s.rh nl
  exact k _ _ _ (s.step.newS nl) (Rp.tup (SqT.of upd_same) (RpA.mono ((Sm.refl R).upd nr) this))
theorem RpK.imm {R H : Hp} (t : Tp R H) (f : TpF R H) : ∀ {κ : Type} {v : List (κ × V)} {d : List (κ × D)}, RpK K H v d → immA (d.map (·.2)) = true → RpK K R v d
  | _, _, _, .nil, _ => .nil
  | _, _, _, .cons (d := d) (ds := ds) h r, e => by
    have e : (PV.imm d && immA (ds.map (·.2))) = true := e
    obtain ⟨e1, e2⟩ := Bool.and_eq_true_iff.mp e
    exact .cons (Rp.imm t f h e1) (RpK.imm t f r e2)
theorem on_dict {r : Rs} {kds : List (Key × D)} (e : r.dat = .dK kds) (hi : immA (kds.map (·.2)) = true) : OpN K (fun xs H Q => ∃ (a : Addr) (kvs : List (Key × V)), xs = [.ref a] ∧ Rd H a (.dK kvs) ∧ ∀ p, H p = none → Q (.ref p) (upd H p (.dK kvs))) [r] (.nw (.dK kds)) := fun H0 R H xs Q s s0 rs k => by
  obtain ⟨v, rfl, h⟩ := rs.one
  have h3 := h.rp s
  rw [e] at h3
  obtain ⟨p, kvs, rfl, h1, h2⟩ := h3.dK'
  exact ⟨p, kvs, rfl, .inl h1, fun l nl => k _ R _ (s.step.new nl (fun _ z => nomatch z) fun _ _ z => nomatch z) ⟨l, rfl, nl, Own.new s nl (RpK.imm s.tp s.tf h2 hi)⟩⟩
theorem RpK.keys {R R' : Hp} : ∀ {kvs : List (Key × V)} {kds : List (Key × D)}, RpK K R kvs kds → RpA K R' (kvs.map fun kv => kV kv.1) (kds.map fun kd => keyD kd.1)
  | _, _, .nil => .nil
  | _, _, .cons (k := k) h r => .cons (key_rp R' k) (RpK.keys r)
theorem on_listD {r : Rs} {kds : List (Key × D)} (e : r.dat = .dK kds) : OpN K (fun xs H Q => ∃ (a : Addr) (kvs : List (Key × V)), xs = [.ref a] ∧ Rd H a (.dK kvs) ∧ ∀ p, H p = none → Q (.ref p) (upd H p (.lst (kvs.map fun kv => kV kv.1)))) [r] (.nw (.lst (kds.map fun kd => keyD kd.1))) := fun H0 R H xs Q s s0 rs k => by
  obtain ⟨v, rfl, h⟩ := rs.one
  have h3 := h.rp s
  rw [e] at h3
  obtain ⟨p, kvs, rfl, h1, h2⟩ := h3.dK'
  exact ⟨p, kvs, rfl, .inl h1, fun l nl => new_lst s s0 nl h2.keys k⟩
theorem on_allB {bs : List Bool} {r : Rs} (e : r.dat = .lst (bs.map D.bl)) : OpN K (rAll K) [r] (.sh (.bl (bs.all id))) := fun H0 R H xs Q s s0 rs k => by
  obtain ⟨v, rfl, h⟩ := rs.one
  have h3 := h.rp s
  rw [e] at h3
  obtain ⟨p, ys, rfl, h1, h2⟩ := h3.lst'
  exact ⟨p, bs, rfl, SqL.of (by rw [← RpA.bls h2]; exact h1), k _ R H s.step (Rp.bl _)⟩
theorem on_anyB {bs : List Bool} {r : Rs} (e : r.dat = .lst (bs.map D.bl)) : OpN K (rAny K) [r] (.sh (.bl (bs.any id))) := fun H0 R H xs Q s s0 rs k => by
  obtain ⟨v, rfl, h⟩ := rs.one
  have h3 := h.rp s
  rw [e] at h3
  obtain ⟨p, ys, rfl, h1, h2⟩ := h3.lst'
  exact ⟨p, bs, rfl, SqL.of (by rw [← RpA.bls h2]; exact h1), k _ R H s.step (Rp.bl _)⟩
theorem on_sortI {ns out : List Int} {r : Rs} (e : r.dat = .lst (ns.map D.int)) (hl : ns.length < 64) (ho : ∀ ns' : List Int, ns'.Perm ns → ns'.Pairwise (· ≤ ·) → ns' = out) : OpN K (rSorted K) [r] (.nw (.lst (out.map D.int))) := fun H0 R H xs Q s s0 rs k => by
  obtain ⟨v, rfl, h⟩ := rs.one
  have h3 := h.rp s
  rw [e] at h3
  obtain ⟨p, ys, rfl, h1, h2⟩ := h3.lst'
  refine ⟨p, ns, rfl, SqL.of (by rw [← RpA.ints h2]; exact h1), hl, fun ns' l hp hs nl => ?_⟩
  rw [ho ns' hp hs]
  exact new_lst s s0 nl (RpA.of_ints _) k
theorem on_sortS {ns out : List Str} {r : Rs} (e : r.dat = .lst (ns.map D.str)) (hl : ns.length < 64) (ho : ∀ ns' : List Str, ns'.Perm ns → sortedS ns' = true → ns' = out) : OpN K (rSortedS K) [r] (.nw (.lst (out.map D.str))) := fun H0 R H xs Q s s0 rs k => by
  obtain ⟨v, rfl, h⟩ := rs.one
  have h3 := h.rp s
  rw [e] at h3
  obtain ⟨p, ys, rfl, h1, h2⟩ := h3.lst'
  refine ⟨p, ns, rfl, SqL.of (by rw [← RpA.strs h2]; exact h1), hl, fun ns' l hp hs nl => ?_⟩
  rw [ho ns' hp hs]
  exact new_lst s s0 nl (RpA.of_strs _) k
theorem on_str {i : Int} (hl : i.natAbs.log2 < 1920) : OpN K (fun xs H Q => ∃ i, xs = [.int i] ∧ i.natAbs.log2 < 1920 ∧ Q (.str (toString i)) H) [.sh (.int i)] (.sh (.str (toString i))) := fun H0 R H xs Q s _ rs k => by
  obtain ⟨v, rfl, h⟩ := rs.one
  exact ⟨i, by rw [Res.int s h rfl], hl, k _ R H s.step (Rp.str _)⟩
def tyD : D → String
  | .non => "NoneType"
  | .bl _ => "bool"
  | .int _ => "int"
  | .str _ => "str"
  | .lst _ => "list"
  | .tup _ => "tuple"
  | .dK _ => "dict"
  | .dT _ => "dict"
  | .scr _ => "list"
  | .key _ => "tuple"
  | .fn _ _ _ _ => "NoneType"
def noFn : D → Bool
  | .fn _ _ _ _ => false
  | _ => true
theorem tyX_of {R : Hp} {v : V} {d : D} (h : Rp K R v d) (nf : noFn d = true) : TyX K R v (.type (tyD d)) := by
  cases h with
  | non => exact .base .non
  | bl b => exact .base (.bl b)
  | int i => exact .base (.int i)
  | str x => exact .base (.str x)
  | lst h r => exact .base (.lst h)
  | scr h =>
    rcases h with (h | ⟨o, h⟩) | ⟨o, its, n, h, hc, _⟩
    · exact .base (.lst h)
    · exact .base (.frz h)
    · exact .kList h hc
  | tup h r =>
    rcases h with (h | ⟨o, h⟩) | ⟨o, its, n, h, hc, _⟩
    · exact .base (.tup h)
    · exact .fTuple h
    · exact .kTuple h hc
  | dK h r => exact .base (.dK h)
  | dT h r => exact .base (.dT h)
  | key h => exact .base (.tup h)
  | fn _ _ _ => cases nf
end
theorem ex_isi {X : Cx} {ρ : List Sl} {pos p pT : Pos} {e : Expr} {T : Str} {n : String} {r : Rs} {k : Bool} (hg : Gl X "isinstance") (hm : X.mg "isinstance" = none) (hgT : Gl X T) (hmT : X.mg T = none) (hvT : bootBuiltins T = some (.type n)) (hx : EX X e ρ r)
    (hk : kitB (tyD r.dat) n = some k) (nf : noFn r.dat = true) (hnT : T ≠ "__name__" := by decide) (hdT : (T == ("__debug__" : Str)) = false := by decide)
    (hs : starEach [e, .Name T pT] X.env = (false, eval e X.env) :: starEach [.Name T pT] X.env := by rfl) (hs2 : starEach [.Name T pT] X.env = (false, eval (.Name T pT) X.env) :: starEach [] X.env := by rfl) (hpl : (backTo pos (starEach [.Name T pT] X.env)).any (·.1) = false := by rfl) :
    EX X (.Call (.Name "isinstance" p) [e, .Name T pT] [] pos) ρ (.sh (.bl k)) := by
  refine .of (pe_callB call_isi hg hm (by decide +kernel) (pa_cons pe_sem (pa_cons (pe_bltn (v := .ty n) hgT hmT hvT rfl hnT hdT) pa_nil hs2) hs) (by decide) (by decide) hs hpl) fun B R0 R σ H Q s kk => ?_
  refine hx B R0 R σ H _ s fun v R1 H1 s1 r1 => ?_
  exact ⟨v, .ty n, _, _, k, rfl, .ty n, tyX_of (r1.rp s1.sub) nf, hk, kk _ R1 H1 s1 (Rp.bl _)⟩
end PV

namespace PV
open PySem PySem.Spec PyProof.Rows L2
section
variable {K : PySem.W.Frag} {B R0 R R1 H H1 R' H' : Hp} {ρ ρ' : List Sl} {σ : L2.St}
theorem Step.unbase (a : Step R0 B R1 H1) (b : Step R1 B R' H') : Step R0 B R' H' :=
  ⟨a.rr.trans b.rr, b.rh, b.hh, fun x h h' => by
    cases q : R1 x with
    | none => exact b.nw x q h'
    | some o => exact a.nw x h (by rw [q]; intro z; cases z), b.tp, b.tf, b.cd, b.te⟩
theorem St.base (h : St K B R0 R ρ σ H) : St K B R R ρ σ H :=
  ⟨⟨Sm.refl _, h.stp.rh, h.stp.hh, fun a e e' => absurd e e', h.stp.tp, h.stp.tf, h.stp.cd, h.stp.te⟩, h.tb, h.len, h.fps⟩
theorem St.unbase (a : Step R0 B R1 H1) (h : St K B R1 R ρ σ H) : St K B R0 R ρ σ H := ⟨a.unbase h.stp, h.tb, h.len, h.fps⟩
theorem Ens.rebase {W : L2.WX} {P : Post} {D : Ends} (a : Step R0 B R1 H1) (h : Ens K W B R0 P D) : Ens K W B R1 P D :=
  ⟨fun ρ' R' σ' H' p s => h.nx ρ' R' σ' H' p (s.unbase a), fun r ρ' v R' σ' H' p s q => h.rt r ρ' v R' σ' H' p (s.unbase a) q, fun ρ' R' σ' H' p s => h.bk ρ' R' σ' H' p (s.unbase a), fun ρ' R' σ' H' p s => h.ct ρ' R' σ' H' p (s.unbase a), fun c ρ' R' σ' H' p s => h.ex c ρ' R' σ' H' p (s.unbase a)⟩
end
section
variable {X : Cx} {W : L2.WX} {ρ ρ' : List Sl} {pos : Pos} {a b c e o : Expr} {st : Stmt} {rest : List Stmt} {P : Post}

theorem sxs_nil (h : P.nx ρ) : SXs X W [] ρ P := .of pss_nil fun B R0 R σ H D s n => n.nx ρ R σ H h s
theorem sxs_cons (h : SX X W st ρ ⟨fun ρ' => SXs X W rest ρ' P, P.rt, P.bk, P.ct, P.ex⟩) : SXs X W (st :: rest) ρ P := .of (pss_cons ps_sem pss_sem) fun B R0 R σ H D s n =>
  h B R0 R σ H _ s ⟨fun ρ' R' σ' H' p s' => p B R0 R' σ' H' D s' n, n.rt, n.bk, n.ct, n.ex⟩
theorem sxs_one (h : SX X W st ρ P) : SXs X W [st] ρ P := .of (pss_one ps_sem) fun B R0 R σ H D s n => h B R0 R σ H D s n
theorem SXs.weak {sts : List Stmt} (l : Lt ρ' ρ) (h : SXs X W sts ρ' P) : SXs X W sts ρ P := fun B R0 R σ H D s n => h B R0 R σ H D (s.weak l) n
theorem SXs.imp {sts : List Stmt} {P' : Post} (h : SXs X W sts ρ P) (h1 : ∀ r, P.nx r → P'.nx r) (h2 : ∀ r ρ', P.rt r ρ' → P'.rt r ρ') (h3 : ∀ r, P.bk r → P'.bk r) (h4 : ∀ r, P.ct r → P'.ct r) (h5 : ∀ c r, P.ex c r → P'.ex c r) : SXs X W sts ρ P' := fun B R0 R σ H D s n =>
  h B R0 R σ H D s ⟨fun ρ' R' σ' H' p => n.nx ρ' R' σ' H' (h1 _ p), fun r ρ' v R' σ' H' p => n.rt r ρ' v R' σ' H' (h2 _ _ p), fun ρ' R' σ' H' p => n.bk ρ' R' σ' H' (h3 _ p), fun ρ' R' σ' H' p => n.ct ρ' R' σ' H' (h4 _ p), fun c ρ' R' σ' H' p => n.ex c ρ' R' σ' H' (h5 _ _ p)⟩
theorem sx_pass (h : P.nx ρ) : SX X W (.Pass pos) ρ P := .of ps_pass fun B R0 R σ H D s n => n.nx ρ R σ H h s
theorem sx_break (h : P.bk ρ) : SX X W (.Break pos) ρ P := .of ps_break fun B R0 R σ H D s n => n.bk ρ R σ H h s
theorem sx_cont (h : P.ct ρ) : SX X W (.Continue pos) ρ P := .of ps_continue fun B R0 R σ H D s n => n.ct ρ R σ H h s
theorem sx_doc {x j p'} (h : P.nx ρ) : SX X W (.Expr (.Constant (.str x) j p') pos) ρ P := .of ps_doc fun B R0 R σ H D s n => n.nx ρ R σ H h s
theorem sx_expr {r : Rs} (he : EX X e ρ r) (h : P.nx ρ) (hs : swapsWith e none pos.line X.env = pure false := by rfl) : SX X W (.Expr e pos) ρ P := .of (ps_expr pe_sem hs) fun B R0 R σ H D s n =>
  he B R0 R σ H _ s fun v R' H' t _ => n.nx ρ R' σ H' h (s.step t)
theorem Ret.of {K : PySem.W.Frag} {B R0 R R' H H' : Hp} {σ : L2.St} {v : V} {r : Rs} (s : St K B R0 R ρ σ H) (t : Step R H R' H') (q : Res K H R' H' v r) : Step R0 B R' H' ∧ Res K B R' H' v r := ⟨s.stp.trans t, q.back s.stp.hh⟩
theorem sx_ret {r : Rs} (he : EX X e ρ r) (h : P.rt r ρ) : SX X W (.Return (some e) pos) ρ P := .of (ps_ret pe_sem) fun B R0 R σ H D s n =>
  he B R0 R σ H _ s fun v R' H' t q => n.rt r ρ v R' σ H' h (s.step t) (q.back s.stp.hh)
theorem sx_retO {i : Nat} {d : D} (p : PE X e (tVar i)) (hi : ρ[i]? = some (.ow d)) (h : P.rt (.nw d) ρ) : SX X W (.Return (some e) pos) ρ P := .of (ps_ret p) fun B R0 R σ H D s n => by
  obtain ⟨v, f, e, q, rfl, _, hb, w⟩ := s.at hi
  exact ⟨.ref q, e, n.rt _ _ _ R σ H h s ⟨q, rfl, hb, w⟩⟩
theorem sx_retD {i : Nat} {d : D} (p : PE X e (tVar i)) {pn : Option V} (hi : ρ[i]? = some (.od pn d)) (h : P.rt (.nd d) ρ) : SX X W (.Return (some e) pos) ρ P := .of (ps_ret p) fun B R0 R σ H D s n => by
  obtain ⟨v, f, e, x, rfl, _, w, k⟩ := s.at hi
  exact ⟨x, e, n.rt _ _ _ R σ H h s ⟨f, w, k⟩⟩
theorem sx_retN (h : P.rt (.sh .non) ρ) : SX X W (.Return none pos) ρ P := .of ps_retN fun B R0 R σ H D s n => n.rt _ _ _ R σ H h s (Rp.non)
theorem sx_if {k : Bool} {t u : List Stmt} (hc : TX X c ρ k) (h1 : k = true → SXs X W t ρ P) (h2 : k = false → SXs X W u ρ P) : SX X W (.If c t u pos) ρ P := .of (ps_if pt_sem pss_sem pss_sem) fun B R0 R σ H D s n =>
  hc B R0 R σ H _ s fun R1 H1 s1 => by
    cases k with
    | true => rw [if_pos rfl]; exact h1 rfl B R0 R1 σ H1 D (s.step s1) n
    | false => rw [if_neg Bool.false_ne_true]; exact h2 rfl B R0 R1 σ H1 D (s.step s1) n
theorem sx_never (h : False) : SX X W st ρ P := h.elim

def VOk (K : PySem.W.Frag) (R H : Hp) (v : V) : Rs → Prop
  | .sh d => Rp K R v d
  | .al d => Rp K H v d
  | .nw _ => False
  | .nd _ => False
def Gv (K : PySem.W.Frag) (g : TG) (ρ : List Sl) (r : Rs) (ρ' : List Sl) : Prop := ∀ B R0 R (σ : L2.St) H v (Q : L2.St → Hp → Prop), St K B R0 R ρ σ H → VOk K R H v r → (∀ σ', St K B R0 R ρ' σ' H → Q σ' H) → g v σ H Q
def Gvs (K : PySem.W.Frag) (g : TGs) (ρ : List Sl) (ds : List D) (ρ' : List Sl) : Prop := ∀ B R0 R (σ : L2.St) H vs (Q : L2.St → Hp → Prop), St K B R0 R ρ σ H → RpA K R vs ds → (∀ σ', St K B R0 R ρ' σ' H → Q σ' H) → g vs σ H Q
variable {K : PySem.W.Frag}
theorem VOk.res {R H : Hp} {v : V} {r : Rs} (h : VOk K R H v r) : Res K H R H v r := by
  cases r with
  | sh d => exact h
  | al d => exact h
  | nw d => exact h.elim
  | nd d => exact h.elim
theorem gv_name {i : Nat} {r : Rs} : Gv K (gName i) ρ r (ρ.set i r.sl) := fun B R0 R σ H v Q s h k => k _ (s.set s.sub.step h.res i)
theorem gvs_nil : Gvs K gNil ρ [] ρ := fun B R0 R σ H vs Q s h k => by
  cases h
  exact ⟨rfl, k σ s⟩
theorem gvs_cons {g : TG} {gs : TGs} {d : D} {ds : List D} {ρ1 ρ2 : List Sl} (h1 : Gv K g ρ (.sh d) ρ1) (h2 : Gvs K gs ρ1 ds ρ2) : Gvs K (gCons g gs) ρ (d :: ds) ρ2 := fun B R0 R σ H vs Q s h k => by
  cases h with
  | cons h r => exact ⟨_, _, rfl, h1 B R0 R σ H _ _ s h fun σ1 s1 => h2 B R0 R σ1 H _ Q s1 r k⟩
theorem gv_tup {gs : TGs} {ds : List D} {n : Nat} (h : Gvs K gs ρ ds ρ') (hn : ds.length = n := by rfl) : Gv K (gTup K n gs) ρ (.sh (.tup ds)) ρ' := fun B R0 R σ H v Q s hv k => by
  obtain ⟨p, xs, rfl, h1, h2⟩ := (show Rp K R v (.tup ds) from hv).tup'
  exact ⟨p, xs, rfl, Sm.seqT s.stp.rh h1, by rw [h2.len, hn], h B R0 R σ H xs Q s h2 k⟩

theorem sx_set {i : Nat} {r : Rs} {x : Str} {p' : Pos} (hN : X.N.Nodup) (hi : X.N[i]? = some x) (hx : Loc X.env.scope x) (he : EX X e ρ r) (h : P.nx (ρ.set i r.sl)) (hs : swapsWith e (some (.Name x p')) pos.line X.env = pure false := by rfl)
    (hf : X.fn x = true ∨ X.env.scope.names.lookup x = some .local := by first | exact .inl rfl | exact .inr rfl) : SX X W (.Assign [.Name x p'] e pos) ρ P := .of (ps_set hN hi hx pe_sem hs hf) fun B R0 R σ H D s n =>
  he B R0 R σ H _ s fun v R' H' t q => n.nx _ R' _ H' h (s.set t q i)
theorem sx_asg {tg : Expr} {g : TG} {r : Rs} {ρ' : List Sl} (hg : PG X tg g) (he : EX X e ρ r) (hr : ∀ d, r ≠ .nw d ∧ r ≠ .nd d) (gv : Gv X.K g ρ r ρ') (h : P.nx ρ') (hs : swapsWithSole [tg] e pos.line X.env = pure false := by rfl) (hw : swappedStores [tg] e X.env = pure none := by rfl)
    (h1 : (assignEach [tg] X.env).map (·.2) = [assign tg X.env] := by rfl) : SX X W (.Assign [tg] e pos) ρ P := .of (ps_asg pe_sem hg hs hw h1) fun B R0 R σ H D s n =>
  he B R0 R σ H _ s fun v R' H' t q => gv B R0 R' σ H' v _ (s.step t) (by
    cases r with
    | sh d => exact q
    | al d => exact q
    | nw d => exact absurd rfl (hr d).1
    | nd d => exact absurd rfl (hr d).2) fun σ' s' => n.nx _ R' σ' H' h s'
theorem sx_augI {i : Nat} {x : Str} {m k : Int} {p' : Pos} (hN : X.N.Nodup) (hi : X.N[i]? = some x) (hx : Loc X.env.scope x) (hv : ρ[i]? = some (.sh (.int m))) (he : EX X e ρ (.sh (.int k))) (h : P.nx (ρ.set i (.sh (.int (m + k)))))
    (hf : X.fn x = true ∨ X.env.scope.names.lookup x = some .local := by first | exact .inl rfl | exact .inr rfl) : SX X W (.AugAssign (.Name x p') .Add e pos) ρ P := .of (ps_aug hN hi hx pe_sem ip_add hf) fun B R0 R σ H D s n => by
  obtain ⟨v, f, ev, _, y, rfl, ry⟩ := s.at hv
  cases is_int _ _ ry
  refine ⟨.int m, ev, he B R0 R σ H _ s fun w R' H' t q => ⟨m, k, rfl, Res.int t.sub q rfl, ?_⟩⟩
  exact n.nx _ R' _ H' h (s.set t (r := .sh (.int (m + k))) (Rp.int _) i)

theorem St.wr {K : PySem.W.Frag} {B R0 R H R' H' : Hp} {σ : L2.St} (s : St K B R0 R ρ σ H) {i : Nat} {d d' : D} {p : Addr} {u : HO} (e : ρ[i]? = some (.ow d)) (ep : σ[i]? = some (some (.ref p))) (t : Step R H R' H') (ho : ObjD K R' u d') :
    St K B R0 R' ((dr ρ).set i (.ow d')) σ (upd H' p u) := (s.step t).write e ep ho
theorem St.own {K : PySem.W.Frag} {B R0 R H : Hp} {σ : L2.St} (s : St K B R0 R ρ σ H) {i : Nat} {ds : List D} (e : ρ[i]? = some (.ow (.lst ds))) : ∃ p xs, σ[i]? = some (some (.ref p)) ∧ H p = some (.lst xs) ∧ RpA K R xs ds := by
  obtain ⟨v, f, ev, p, rfl, _, hb, hr, u, hu, od⟩ := s.at e
  cases u <;> first | exact od.elim | skip
  exact ⟨p, _, ev, hu, od⟩
theorem St.ownK {K : PySem.W.Frag} {B R0 R H : Hp} {σ : L2.St} (s : St K B R0 R ρ σ H) {i : Nat} {kds : List (Key × D)} (e : ρ[i]? = some (.ow (.dK kds))) : ∃ p kvs, σ[i]? = some (some (.ref p)) ∧ H p = some (.dK kvs) ∧ RpK K R kvs kds := by
  obtain ⟨v, f, ev, p, rfl, _, hb, hr, u, hu, od⟩ := s.at e
  cases u <;> first | exact od.elim | skip
  exact ⟨p, _, ev, hu, od⟩
theorem sx_app {i : Nat} {ds : List D} {d : D} {apos cpos : Pos} (po : PE X o (tVar i)) (hi : ρ[i]? = some (.ow (.lst ds))) (he : EX X e ρ (.sh d)) (hl : ds.length < sizeLine) (h : P.nx ((dr ρ).set i (.ow (.lst (ds ++ [d])))))
    (hbase : attributeBase o "append" X.env (eval o X.env) = eval o X.env := by rfl)
    (hfew : ((backTo cpos (starEach [e] X.env)).all (fun x => !x.1) && (backToKw cpos (keywordEach [] X.env)).all (fun x => x.1.isSome)
      && decide (([e] : List Expr).length + ([] : List Keyword).length + (if ([] : List Keyword).isEmpty then 0 else 1) < 30)) = true := by rfl)
    (hline : (apos.endLine == cpos.line) = true := by rfl) (hst : starEach [e] X.env = (false, eval e X.env) :: starEach [] X.env := by rfl) (hplain : (backTo cpos (starEach [] X.env)).any (·.1) = false := by rfl)
    (hs : swapsWith (.Call (.Attribute o "append" apos) [e] [] cpos) none pos.line X.env = pure false := by rfl) : SX X W (.Expr (.Call (.Attribute o "append" apos) [e] [] cpos) pos) ρ P :=
  .of (ps_expr (pe_bm PySem.F.plainAttrs_list PySem.F.slot_list_append PySem.F.type_list_append mt_append po (pa_cons pe_sem pa_nil hst) hbase hfew hline hst hplain) hs) fun B R0 R σ H D s n => by
    obtain ⟨p, xs, ep, hp, hx⟩ := s.own hi
    refine ⟨.ref p, ep, .inl ⟨rfl, xs, SqL.of hp⟩, he B R0 R σ H _ s fun v R' H' t q => ?_⟩
    have hp' := t.hh.k _ _ hp trivial
    exact ⟨p, xs, v, rfl, rfl, hp', by rw [hx.len]; exact hl, n.nx _ R' _ _ h (s.wr hi ep t (show RpA X.K R' (xs ++ [v]) (ds ++ [d]) from (RpA.mono t.rr hx).app (.cons q .nil)))⟩
theorem RpK.has {K : PySem.W.Frag} {R : Hp} {κ : Type} [DecidableEq κ] (k : κ) : ∀ {kvs : List (κ × V)} {kds : List (κ × D)}, RpK K R kvs kds → (kvs.any fun kv => decide (kv.1 = k)) = (kds.any fun kd => decide (kd.1 = k))
  | _, _, .nil => rfl
  | _, _, .cons h r => by rw [List.any_cons, List.any_cons, RpK.has k r]
def putD {κ : Type} [DecidableEq κ] (kds : List (κ × D)) (k : κ) (d : D) : List (κ × D) :=
  if (kds.any fun kd => decide (kd.1 = k)) = true then kds.map (fun kd => if kd.1 = k then (kd.1, d) else kd) else kds ++ [(k, d)]
def getD {κ : Type} [DecidableEq κ] (kds : List (κ × D)) (k : κ) : Option D := (kds.find? fun kd => decide (kd.1 = k)).map (·.2)
theorem RpK.app {K : PySem.W.Frag} {R : Hp} {κ : Type} : ∀ {kvs us : List (κ × V)} {kds es : List (κ × D)}, RpK K R kvs kds → RpK K R us es → RpK K R (kvs ++ us) (kds ++ es)
  | _, _, _, _, .nil, s => s
  | _, _, _, _, .cons h r, s => .cons h (RpK.app r s)
theorem RpK.put {K : PySem.W.Frag} {R : Hp} {κ : Type} [DecidableEq κ] {k : κ} {v : V} {d : D} (hd : Rp K R v d) {kvs : List (κ × V)} {kds : List (κ × D)} (h : RpK K R kvs kds) : RpK K R (putK kvs k v) (putD kds k d) := by
  have mp : ∀ {kvs : List (κ × V)} {kds : List (κ × D)}, RpK K R kvs kds → RpK K R (kvs.map (fun kv => if kv.1 = k then (kv.1, v) else kv)) (kds.map (fun kd => if kd.1 = k then (kd.1, d) else kd)) := by
    intro kvs kds h
    induction kvs generalizing kds with
    | nil => cases h; exact .nil
    | cons kv r ih =>
      cases h with
      | @cons _ k' v' vs d' ds h t =>
        rw [List.map_cons, List.map_cons]
        by_cases z : k' = k
        · rw [if_pos z, if_pos z]; exact .cons hd (ih t)
        · rw [if_neg z, if_neg z]; exact .cons h (ih t)
  unfold putK putD
  rw [h.has k]
  split
  · exact mp h
  · exact h.app (.cons hd .nil)
theorem RpK.get {K : PySem.W.Frag} {R : Hp} {κ : Type} [DecidableEq κ] (k : κ) : ∀ {kvs : List (κ × V)} {kds : List (κ × D)}, RpK K R kvs kds → (valV kvs k = none ∧ getD kds k = none) ∨ ∃ v d, valV kvs k = some v ∧ getD kds k = some d ∧ Rp K R v d
  | _, _, .nil => .inl ⟨rfl, rfl⟩
  | _, _, .cons (k := k') (v := v) (d := d) h r => by
    by_cases z : k' = k
    · refine .inr ⟨v, d, ?_, ?_, h⟩
      · exact valV_pos (p := (k', v)) z
      · simp [getD, List.find?_cons, z]
    · have e1 : ∀ {vs}, valV ((k', v) :: vs) k = valV vs k := fun {vs} => by simp [valV, List.find?_cons, z]
      have e2 : ∀ {ds}, getD ((k', d) :: ds) k = getD ds k := fun {ds} => by simp [getD, List.find?_cons, z]
      rw [e1, e2]
      exact RpK.get k r
theorem sx_dput {i : Nat} {ix val : Expr} {kds : List (Key × D)} {k : Key} {d : D} {p' : Pos} (hu : X.A.units + 1 < cLine) (po : PE X o (tVar i)) (hi : ρ[i]? = some (.ow (.dK kds))) (hv : EX X val ρ (.sh d)) (hk : EX X ix ρ (.sh (keyD k))) (hl : kds.length < sizeLine) (h : P.nx ((dr ρ).set i (.ow (.dK (putD kds k d)))))
    (hs : swapsWith val (some (.Subscript o ix p')) pos.line X.env = pure false := by rfl) : SX X W (.Assign [.Subscript o ix p'] val pos) ρ P := .of (ps_dput hu po pe_sem pe_sem hs) fun B R0 R σ H D s n => by
  refine hv B R0 R σ H _ s fun v R1 H1 t1 q1 => ?_
  have s1 := s.step t1
  obtain ⟨p, kvs, ep, hp, hx⟩ := s1.ownK hi
  refine ⟨.ref p, ep, hk B R0 R1 σ H1 _ s1 fun y R2 H2 t2 q2 => ?_⟩
  have ey : y = kV k := by
    cases k with
    | inl i => exact is_int _ _ q2
    | inr x => exact is_str _ _ q2
  have hp2 := t2.hh.k _ _ hp trivial
  have hx2 := RpK.mono t2.rr hx
  refine ⟨p, upd H2 p (.dK (putK kvs k v)), rfl, by rw [ey]; exact DPut.k hp2 (by rw [hx.len]; exact hl), ?_⟩
  exact n.nx _ R2 _ _ h (s1.wr hi ep t2 (show RpK X.K R2 _ _ from hx2.put (Rp.mono t2.rr q1)))
end
end PV

namespace PV
open PySem PySem.Spec PyProof.Rows L2
section
variable {X : Cx} {ρ ρ' : List Sl} {pos : Pos} {a b c e o : Expr} {st : Stmt} {P : Post}

theorem dk_of {K : PySem.W.Frag} {H0 R H : Hp} {v : V} {r : Rs} {kds : List (Key × D)} (s : Sub R H) (h : Res K H0 R H v r) (e : r.dat = .dK kds) : ∃ a kvs, v = .ref a ∧ H a = some (.dK kvs) ∧ RpK K H kvs kds := by
  have h3 := h.rp s
  rw [e] at h3
  exact h3.dK'
theorem keyV {K : PySem.W.Frag} {R : Hp} {y : V} {k : Key} (h : Rp K R y (keyD k)) : y = kV k := by
  cases k with
  | inl i => exact is_int _ _ h
  | inr x => exact is_str _ _ h
theorem ex_dget2 {r : Rs} {kds : List (Key × D)} {k : Key} {d : D} {f : Expr} {apos cpos : Pos} (hu : X.A.units + 1 < cLine) (ho : EX X o ρ r) (e1 : r.dat = .dK kds) (hk : EX X e ρ (.sh (keyD k))) (hf : EX X f ρ (.sh d)) (hi : imm ((getD kds k).getD d) = true) (m : M2 X o "get" apos e f cpos) :
    EX X (.Call (.Attribute o "get" apos) [e, f] [] cpos) ρ (.sh ((getD kds k).getD d)) := .of (pe_dget2 hu pe_sem pe_sem pe_sem m) fun B R0 R σ H Q s kk => by
  refine ho B R0 R σ H _ s fun x R1 H1 t1 q1 => ?_
  obtain ⟨p, kvs, rfl, hp, hx⟩ := dk_of t1.sub q1 e1
  refine ⟨p, rfl, .inl ⟨kvs, .inl hp⟩, hk B R0 R1 σ H1 _ (s.step t1) fun y R2 H2 t2 q2 => hf B R0 R2 σ H2 _ ((s.step t1).step t2) fun z R3 H3 t3 q3 => ?_⟩
  have hp3 := (t2.trans t3).hh.k _ _ hp trivial
  obtain rfl := keyV q2
  refine ⟨valV kvs k, DGet.k hp3, kk _ R3 H3 ((t1.trans t2).trans t3) ?_⟩
  rcases hx.get k with ⟨h1, h2⟩ | ⟨v, d', h1, h2, h3⟩
  · rw [h1, h2]; exact q3
  · rw [h2] at hi
    rw [h1, h2]
    exact Rp.imm t3.tp t3.tf (Rp.mono (t2.trans t3).hh h3) hi
theorem ex_dget {r : Rs} {kds : List (Key × D)} {k : Key} {d : D} (hu : X.A.units + 1 < cLine) (ho : EX X o ρ r) (e1 : r.dat = .dK kds) (hk : EX X e ρ (.sh (keyD k))) (hg : getD kds k = some d) (hi : imm d = true) (hs : NoSl e := by exact fun _ _ => rfl) :
    EX X (.Subscript o e pos) ρ (.sh d) := .of (pe_dget hu pe_sem pe_sem hs) fun B R0 R σ H Q s kk => by
  refine ho B R0 R σ H _ s fun x R1 H1 t1 q1 => hk B R0 R1 σ H1 _ (s.step t1) fun y R2 H2 t2 q2 => ?_
  obtain ⟨p, kvs, rfl, hp, hx⟩ := dk_of t1.sub q1 e1
  obtain rfl := keyV q2
  have hp2 := t2.hh.k _ _ hp trivial
  rcases hx.get k with ⟨h1, h2⟩ | ⟨v, d', h1, h2, h3⟩
  · rw [h2] at hg; cases hg
  · rw [h2] at hg; cases hg
    exact ⟨p, v, rfl, by rw [← h1]; exact DGet.k hp2, kk _ R2 H2 (t1.trans t2) (Rp.imm t2.tp t2.tf (Rp.mono t2.hh h3) hi)⟩
theorem RpK.some {K : PySem.W.Frag} {R : Hp} {κ : Type} [DecidableEq κ] {kvs : List (κ × V)} {kds : List (κ × D)} (h : RpK K R kvs kds) (k : κ) : (valV kvs k).isSome = (getD kds k).isSome := by
  rcases h.get k with ⟨h1, h2⟩ | ⟨v, d', h1, h2, h3⟩
  · rw [h1, h2]; rfl
  · rw [h1, h2]; rfl
theorem Ev.din {K : PySem.W.Frag} {ty td : TE} {r : Rs} {kds : List (Key × D)} {k : Key} (hk : Ev K ty ρ (.sh (keyD k))) (ho : Ev K td ρ r) (e1 : r.dat = .dK kds) : Ev K (tDIn ty td) ρ (.sh (.bl (getD kds k).isSome)) := fun B R0 R σ H Q s kk => by
  refine hk B R0 R σ H _ s fun y R1 H1 t1 q1 => ho B R0 R1 σ H1 _ (s.step t1) fun x R2 H2 t2 q2 => ?_
  obtain ⟨p, kvs, rfl, hp, hx⟩ := dk_of t2.sub q2 e1
  obtain rfl := keyV q1
  exact ⟨p, _, rfl, DGet.k hp, kk _ R2 H2 (t1.trans t2) (by rw [hx.some k]; exact Rp.bl _)⟩
theorem Ev.dnotin {K : PySem.W.Frag} {ty td : TE} {r : Rs} {kds : List (Key × D)} {k : Key} (hk : Ev K ty ρ (.sh (keyD k))) (ho : Ev K td ρ r) (e1 : r.dat = .dK kds) : Ev K (tDNotIn ty td) ρ (.sh (.bl (!(getD kds k).isSome))) := fun B R0 R σ H Q s kk => by
  refine hk B R0 R σ H _ s fun y R1 H1 t1 q1 => ho B R0 R1 σ H1 _ (s.step t1) fun x R2 H2 t2 q2 => ?_
  obtain ⟨p, kvs, rfl, hp, hx⟩ := dk_of t2.sub q2 e1
  obtain rfl := keyV q1
  exact ⟨p, _, rfl, DGet.k hp, kk _ R2 H2 (t1.trans t2) (by rw [hx.some k]; exact Rp.bl _)⟩
theorem Tv.of_evB {K} {t : TE} {k : Bool} (h : Ev K t ρ (.sh (.bl k))) : Tv K (tB t) ρ k := fun B R0 R σ H Q s kk => h B R0 R σ H _ s fun v R' H' st hr => ⟨k, Res.bl st.sub hr rfl, kk R' H' st⟩
theorem ex_din {r : Rs} {kds : List (Key × D)} {k : Key} (hu : X.A.units + 1 < cLine) (hk : EX X e ρ (.sh (keyD k))) (ho : EX X o ρ r) (e1 : r.dat = .dK kds) (hm : behindInMarks .In o = false := by rfl) : EX X (.Compare e [.In] [o] pos) ρ (.sh (.bl (getD kds k).isSome)) := .of (pe_cmp (pc_din hu pe_sem pe_sem) hm) (Ev.din hk ho e1)
theorem tx_din {r : Rs} {kds : List (Key × D)} {k : Key} (hu : X.A.units + 1 < cLine) (hk : EX X e ρ (.sh (keyD k))) (ho : EX X o ρ r) (e1 : r.dat = .dK kds) (hm : behindInMarks .In o = false := by rfl) : TX X (.Compare e [.In] [o] pos) ρ (getD kds k).isSome := .of (pt_cmp (pc_din hu pe_sem pe_sem) hm) (Tv.of_evB (Ev.din hk ho e1))
theorem tx_dnotin {r : Rs} {kds : List (Key × D)} {k : Key} (hu : X.A.units + 1 < cLine) (hk : EX X e ρ (.sh (keyD k))) (ho : EX X o ρ r) (e1 : r.dat = .dK kds) (hm : behindInMarks .NotIn o = false := by rfl) : TX X (.Compare e [.NotIn] [o] pos) ρ (!(getD kds k).isSome) := .of (pt_cmp (pc_dnotin hu pe_sem pe_sem) hm) (Tv.of_evB (Ev.dnotin hk ho e1))

def Pv (K : PySem.W.Frag) (t : TO) (ρ : List Sl) (x : Option Int) : Prop := ∀ B R0 R (σ : L2.St) H (Q : Option Int → Hp → Prop), St K B R0 R ρ σ H → (∀ R' H', Step R H R' H' → Q x H') → t σ H Q
structure OX (X : Cx) (e : Option Expr) (ρ : List Sl) (x : Option Int) : Prop where
  ex : ∃ t, PO X e t ∧ Pv X.K t ρ x
theorem ox_none : OX X none ρ none := ⟨_, po_none, fun B R0 R σ H Q s k => k R H s.sub.step⟩
theorem ox_some {i : Int} (h : EX X e ρ (.sh (.int i))) : OX X (some e) ρ (some i) := ⟨_, po_some pe_sem, fun B R0 R σ H Q s k => h B R0 R σ H _ s fun v R' H' t q => ⟨i, Res.int t.sub q rfl, k R' H' t⟩⟩
theorem Ev.slice {K : PySem.W.Frag} {r : V → Option Int → Option Int → Hp → VK → Prop} {te : TE} {tl th : TO} {ra rc : Rs} {l u : Option Int} (he : Ev K te ρ ra) (hl : Pv K tl ρ l) (hh : Pv K th ρ u)
    (op : ∀ (H0 R H : Hp) (x : V) (Q : VK), Sub R H → Sm H0 H → Res K H0 R H x ra → (∀ v R' H', Step R H R' H' → Res K H R' H' v rc → Q v H') → r x l u H Q) : Ev K (tSl r te tl th) ρ rc := fun B R0 R σ H Q s k =>
  he B R0 R σ H _ s fun x R1 H1 t1 q1 => hl B R0 R1 σ H1 _ (s.step t1) fun R2 H2 t2 => hh B R0 R2 σ H2 _ ((s.step t1).step t2) fun R3 H3 t3 =>
    have t := (t1.trans t2).trans t3
    op H R3 H3 x Q t3.sub t.hh (q1.step (t2.trans t3)) fun v R4 H4 t4 q4 => k v R4 H4 (t.trans t4) (q4.back t.hh)
def cutD (ds : List D) (lo hi : Option Int) : List D := (ds.drop (HT.sIx ds.length 0 lo)).take (HT.sIx ds.length ds.length hi - HT.sIx ds.length 0 lo)
theorem RpA.cut {K : PySem.W.Frag} {R : Hp} {vs : List V} {ds : List D} (h : RpA K R vs ds) (lo hi : Option Int) : RpA K R (cutV vs lo hi) (cutD ds lo hi) := by
  unfold cutV cutD
  rw [h.len]
  exact (h.drop _).take _
theorem items_ofL {K : PySem.W.Frag} {H0 R H : Hp} {v : V} {r : Rs} {ds : List D} (s : Sub R H) (h : Res K H0 R H v r) (e : r.dat = .lst ds) (sh : Sharable r ds) : ∃ a xs, v = .ref a ∧ H a = some (.lst xs) ∧ RpA K R xs ds := by
  rcases sh with ⟨d, rfl⟩ | hi
  · obtain rfl : d = .lst ds := e
    obtain ⟨a, xs, rfl, h1, h2⟩ := (show Rp K R v (.lst ds) from h).lst'
    exact ⟨a, xs, rfl, s.rh.k _ _ h1 trivial, h2⟩
  · have h3 := h.rp s
    rw [e] at h3
    obtain ⟨a, xs, rfl, h1, h2⟩ := h3.lst'
    exact ⟨a, xs, rfl, h1, RpA.imm s.tp s.tf h2 hi⟩
theorem ex_slL {r : Rs} {ds : List D} {lo hi : Option Expr} {l u : Option Int} {p2 : Pos} (he : EX X e ρ r) (e1 : r.dat = .lst ds) (sh : Sharable r ds) (hl : OX X lo ρ l) (hh : OX X hi ρ u) : EX X (.Subscript e (.Slice lo hi none p2) pos) ρ (.nw (.lst (cutD ds l u))) := by
  obtain ⟨tl, pl, vl⟩ := hl.ex
  obtain ⟨th, ph, vh⟩ := hh.ex
  refine .of (pe_slice sl_list pe_sem pl ph) (Ev.slice he vl vh fun H0 R H x Q s s0 q k => ?_)
  obtain ⟨p, ys, rfl, h1, h2⟩ := items_ofL s q e1 sh
  exact ⟨p, ys, rfl, SqL.of h1, fun l nl => new_lst s s0 nl (h2.cut _ _) k⟩
theorem ex_slS {z : Str} {lo hi : Option Expr} {l u : Option Int} {p2 : Pos} (he : EX X e ρ (.sh (.str z))) (hz : z.length ≤ sizeLine) (hl : OX X lo ρ l) (hh : OX X hi ρ u) : EX X (.Subscript e (.Slice lo hi none p2) pos) ρ (.sh (.str (cutS z l u))) := by
  obtain ⟨tl, pl, vl⟩ := hl.ex
  obtain ⟨th, ph, vh⟩ := hh.ex
  exact .of (pe_slice sl_str pe_sem pl ph) (Ev.slice he vl vh fun H0 R H x Q s s0 q k => ⟨z, Res.str s q rfl, hz, k _ R H s.step (Rp.str _)⟩)
theorem ex_join {z : Str} {ys : List Str} {r : Rs} {apos cpos : Pos} (ho : EX X o ρ (.sh (.str z))) (he : EX X e ρ r) (e1 : sq r.dat = some (ys.map D.str)) (hl : (ys.map (·.length)).sum + ys.length * z.length ≤ 16777216)
    (hs : starEach [e] X.env = [(false, eval e X.env)] := by rfl) (hbase : attributeBase o "join" X.env (eval o X.env) = eval o X.env := by rfl) (hline : (apos.endLine == cpos.line) = true := by rfl) :
    EX X (.Call (.Attribute o "join" apos) [e] [] cpos) ρ (.sh (.str (Txt.join z ys))) := .of (pe_join pe_sem pe_sem hs hbase hline) fun B R0 R σ H Q s kk => by
  refine ho B R0 R σ H _ s fun x R1 H1 t1 q1 => ⟨⟨z, Res.str t1.sub q1 rfl⟩, he B R0 R1 σ H1 _ (s.step t1) fun y R2 H2 t2 q2 => ?_⟩
  obtain ⟨p, xs, rfl, h1, h2⟩ := sq_of (q2.rp t2.sub) e1
  obtain rfl := RpA.strs h2
  exact ⟨z, p, ys, Res.str t1.sub q1 rfl, rfl, h1, hl, kk _ R2 H2 (t1.trans t2) (Rp.str _)⟩

def keyP : Key → PyData
  | .inl i => .int i
  | .inr x => .str x
mutual
def toPy : D → PyData
  | .non => .none
  | .bl b => .bool b
  | .int i => .int i
  | .str x => .str x
  | .lst ds => .list (toPyA ds)
  | .tup ds => .tuple (toPyA ds)
  | .dK _ => .none
  | .dT _ => .none
  | .scr ns => .list (ns.map PyData.int)
  | .key ks => .tuple (ks.map keyP)
  | .fn _ _ _ _ => .none
def toPyA : List D → List PyData
  | [] => []
  | d :: ds => toPy d :: toPyA ds
end
mutual
def noD : D → Bool
  | .lst ds => noDA ds
  | .tup ds => noDA ds
  | .dK _ => false
  | .dT _ => false
  | .fn _ _ _ _ => false
  | _ => true
def noDA : List D → Bool
  | [] => true
  | d :: ds => noD d && noDA ds
end
mutual
theorem Rp.dp {K : PySem.W.Frag} {H : Hp} : ∀ {v : V} {d : D}, Rp K H v d → noD d = true → Dp K H v (toPy d)
  | _, _, .non, _ => .non
  | _, _, .bl b, _ => .bl b
  | _, _, .int i, _ => .int i
  | _, _, .str x, _ => .str x
  | _, _, .lst h r, e => .lst (SqL.of h) (RpA.dp r e)
  | _, _, .scr (ns := ns) h, _ => .lst h (by
      show DpAll K H (ns.map V.int) (ns.map PyData.int)
      clear h
      induction ns with
      | nil => exact .nil
      | cons n ns ih => exact .cons (.int n) (ih rfl))
  | _, _, .tup h r, e => .tup h (RpA.dp r e)
  | _, _, .dK h r, e => nomatch e
  | _, _, .dT h r, e => nomatch e
  | _, _, .fn _ _ _, e => nomatch e
  | _, _, .key (ks := ks) h, e => .tup (SqT.of h) (by
      show DpAll K H (ks.map kV) (ks.map keyP)
      clear h
      induction ks with
      | nil => exact .nil
      | cons k ks ih => exact .cons (by cases k with
        | inl i => exact .int i
        | inr x => exact .str x) (ih rfl))
theorem RpA.dp {K : PySem.W.Frag} {H : Hp} : ∀ {v : List V} {d : List D}, RpA K H v d → noDA d = true → DpAll K H v (toPyA d)
  | _, _, .nil, _ => .nil
  | _, _, .cons (d := d) (ds := ds) h r, e => by
    have e : (noD d && noDA ds) = true := e
    obtain ⟨e1, e2⟩ := Bool.and_eq_true_iff.mp e
    exact .cons (Rp.dp h e1) (RpA.dp r e2)
end
def okD (d : D) : Bool := noD d && SeqAt.shaped (toPy d)
theorem o2_eqD {K : PySem.W.Frag} {ra rb : Rs} (ha : okD ra.dat = true) (hb : okD rb.dat = true) : Op2 K (rEqD K) ra rb (.sh (.bl (PyData.eqv (toPy ra.dat) (toPy rb.dat)))) := fun H0 R H x y Q s _ rx ry k => by
  obtain ⟨a1, a2⟩ := Bool.and_eq_true_iff.mp ha
  obtain ⟨b1, b2⟩ := Bool.and_eq_true_iff.mp hb
  exact ⟨_, _, (rx.rp s).dp a1, (ry.rp s).dp b1, a2, b2, k _ R H s.step (Rp.bl _)⟩
theorem o2_neD {K : PySem.W.Frag} {ra rb : Rs} (ha : okD ra.dat = true) (hb : okD rb.dat = true) : Op2 K (rNeD K) ra rb (.sh (.bl (!PyData.eqv (toPy ra.dat) (toPy rb.dat)))) := fun H0 R H x y Q s _ rx ry k => by
  obtain ⟨a1, a2⟩ := Bool.and_eq_true_iff.mp ha
  obtain ⟨b1, b2⟩ := Bool.and_eq_true_iff.mp hb
  exact ⟨_, _, (rx.rp s).dp a1, (ry.rp s).dp b1, a2, b2, k _ R H s.step (Rp.bl _)⟩
theorem ex_eqD {ra rb : Rs} (hu : X.A.units + 64 < cLine) (h1 : EX X a ρ ra) (h2 : EX X b ρ rb) (ha : okD ra.dat = true) (hb : okD rb.dat = true) : EX X (.Compare a [.Eq] [b] pos) ρ (.sh (.bl (PyData.eqv (toPy ra.dat) (toPy rb.dat)))) := ex_cmp (op_eqD hu) (o2_eqD ha hb) h1 h2 (nomark _)
theorem tx_eqD {ra rb : Rs} (hu : X.A.units + 64 < cLine) (h1 : EX X a ρ ra) (h2 : EX X b ρ rb) (ha : okD ra.dat = true) (hb : okD rb.dat = true) : TX X (.Compare a [.Eq] [b] pos) ρ (PyData.eqv (toPy ra.dat) (toPy rb.dat)) := tx_cmp (op_eqD hu) (o2_eqD ha hb) h1 h2 (nomark _)
theorem ex_neD {ra rb : Rs} (hu : X.A.units + 64 < cLine) (h1 : EX X a ρ ra) (h2 : EX X b ρ rb) (ha : okD ra.dat = true) (hb : okD rb.dat = true) : EX X (.Compare a [.NotEq] [b] pos) ρ (.sh (.bl (!PyData.eqv (toPy ra.dat) (toPy rb.dat)))) := ex_cmp (op_neD hu) (o2_neD ha hb) h1 h2 (nomark _)
theorem tx_neD {ra rb : Rs} (hu : X.A.units + 64 < cLine) (h1 : EX X a ρ ra) (h2 : EX X b ρ rb) (ha : okD ra.dat = true) (hb : okD rb.dat = true) : TX X (.Compare a [.NotEq] [b] pos) ρ (!PyData.eqv (toPy ra.dat) (toPy rb.dat)) := tx_cmp (op_neD hu) (o2_neD ha hb) h1 h2 (nomark _)

theorem ex_cat {ra rb : Rs} {ds es : List D} (h1 : EX X a ρ ra) (h2 : EX X b ρ rb) (e1 : ra.dat = .lst ds) (e2 : rb.dat = .lst es) (s1 : Sharable ra ds) (s2 : Sharable rb es) (hl : ds.length + es.length ≤ sizeLine) : EX X (.BinOp a .Add b pos) ρ (.nw (.lst (ds ++ es))) :=
  ex_bin op_cat (fun H0 R H x y Q s s0 rx ry k => by
    obtain ⟨p, ys, rfl, h1, h2⟩ := items_ofL s rx e1 s1
    obtain ⟨q, zs, rfl, h3, h4⟩ := items_ofL s ry e2 s2
    exact ⟨p, q, ys, zs, rfl, rfl, h1, h3, by rw [h2.len, h4.len]; exact hl, fun l nl => new_lst s s0 nl (h2.app h4) k⟩) h1 h2
end
end PV

namespace PV
open PySem PySem.Spec PyProof.Rows L2
section
variable {X : Cx} {W₀ : L2.WX} {ρ ρ' : List Sl} {pos : Pos} {a b c e o : Expr} {st : Stmt} {P : Post} {body : List Stmt}

def turnP (P : Post) (W : List Sl → Prop) : Post := ⟨W, P.rt, P.nx, W, P.ex⟩
theorem sx_for {tg iter : Expr} {g : TG} {ds : List D} (W : Nat → List Sl → Prop) (hp : PassesOwn (model X.prog X.w) X.A X.env X.xe) (hc : X.calm = true) (hi : EX X iter ρ (.sh (.lst ds))) (hg : PG X tg g) (h0 : W 0 ρ)
    (hs : ∀ i d ρ1, ds[i]? = some d → W i ρ1 → ∃ ρ2, Gv X.K g ρ1 (.sh d) ρ2 ∧ SXs X W₀ body ρ2 (turnP P (W (i + 1)))) (hd : ∀ ρ1, W ds.length ρ1 → P.nx ρ1)
    (hf : ∀ x, foldedSetIterable iter X.env x = pure x := by intro _; rfl) : SX X W₀ (.For tg iter body [] pos) ρ P := .of (ps_for hp hc (pi_list pe_sem) hg pss_sem hf) fun B R0 R σ H D s n => by
  refine hi B R0 R σ H _ s fun v R1 H1 t1 q1 => ?_
  obtain ⟨p, xs, rfl, hx, hr⟩ := (show Rp X.K R1 v (.lst ds) from q1).lst'
  have s1 := s.step t1
  have n1 : Ens X.K W₀ B R1 P D := n.rebase s1.stp
  refine ⟨p, rfl, ⟨xs, SqL.of (t1.rh.k _ _ hx trivial)⟩, ?_⟩
  refine for_list (xs := xs) (fun i σ H => ∃ R' ρ1, W i ρ1 ∧ St X.K B R1 R' ρ1 σ H) ⟨R1, ρ, h0, s1.base⟩ (fun i σ H _ ⟨R', ρ1, w, s'⟩ => SqL.of (s'.stp.rh.k _ _ (s'.stp.rr.k _ _ hx trivial) trivial)) (fun i x σ2 H2 hx2 ⟨R', ρ1, w, s'⟩ => ?_) (fun σ H ⟨R', ρ1, w, s'⟩ => n1.nx ρ1 R' σ H (hd ρ1 (by rw [← hr.len]; exact w)) s')
  obtain ⟨d, hd1, hd2⟩ := hr.get' hx2
  obtain ⟨ρ2, gv, sb⟩ := hs i d ρ1 hd1 w
  refine gv B R1 R' σ2 H2 x _ s' (Rp.mono s'.stp.rr hd2) fun σ3 s3 => sb B R1 R' σ3 H2 _ s3 ⟨?_, ?_, ?_, ?_, ?_⟩
  · exact fun ρ' R' σ' H' w' s' => ⟨R', ρ', w', s'⟩
  · exact fun r ρ' v R' σ' H' p t q => n1.rt r ρ' v R' σ' H' p t q
  · exact fun ρ' R' σ' H' p s' => n1.nx ρ' R' σ' H' p s'
  · exact fun ρ' R' σ' H' w' s' => ⟨R', ρ', w', s'⟩
  · exact fun c ρ' R' σ' H' p s' => n1.ex c ρ' R' σ' H' p s'
theorem sx_forT {tg iter : Expr} {g : TG} {ds : List D} (W : Nat → List Sl → Prop) (hp : PassesOwn (model X.prog X.w) X.A X.env X.xe) (hc : X.calm = true) (hi : EX X iter ρ (.sh (.tup ds))) (hg : PG X tg g) (h0 : W 0 ρ)
    (hs : ∀ i d ρ1, ds[i]? = some d → W i ρ1 → ∃ ρ2, Gv X.K g ρ1 (.sh d) ρ2 ∧ SXs X W₀ body ρ2 (turnP P (W (i + 1)))) (hd : ∀ ρ1, W ds.length ρ1 → P.nx ρ1)
    (hf : ∀ x, foldedSetIterable iter X.env x = pure x := by intro _; rfl) : SX X W₀ (.For tg iter body [] pos) ρ P := .of (ps_for hp hc (pi_tup pe_sem) hg pss_sem hf) fun B R0 R σ H D s n => by
  refine hi B R0 R σ H _ s fun v R1 H1 t1 q1 => ?_
  obtain ⟨p, xs, rfl, hx, hr⟩ := (show Rp X.K R1 v (.tup ds) from q1).tup'
  have s1 := s.step t1
  have n1 : Ens X.K W₀ B R1 P D := n.rebase s1.stp
  refine ⟨p, rfl, ⟨xs, Sm.seqT t1.rh hx⟩, ?_⟩
  refine for_tup (xs := xs) (fun i σ H => ∃ R' ρ1, W i ρ1 ∧ St X.K B R1 R' ρ1 σ H) ⟨R1, ρ, h0, s1.base⟩ (fun i σ H _ ⟨R', ρ1, w, s'⟩ => Sm.seqT s'.stp.rh (Sm.seqT s'.stp.rr hx)) (fun i x σ2 H2 hx2 ⟨R', ρ1, w, s'⟩ => ?_) (fun σ H ⟨R', ρ1, w, s'⟩ => n1.nx ρ1 R' σ H (hd ρ1 (by rw [← hr.len]; exact w)) s')
  obtain ⟨d, hd1, hd2⟩ := hr.get' hx2
  obtain ⟨ρ2, gv, sb⟩ := hs i d ρ1 hd1 w
  refine gv B R1 R' σ2 H2 x _ s' (Rp.mono s'.stp.rr hd2) fun σ3 s3 => sb B R1 R' σ3 H2 _ s3 ⟨?_, ?_, ?_, ?_, ?_⟩
  · exact fun ρ' R' σ' H' w' s' => ⟨R', ρ', w', s'⟩
  · exact fun r ρ' v R' σ' H' p t q => n1.rt r ρ' v R' σ' H' p t q
  · exact fun ρ' R' σ' H' p s' => n1.nx ρ' R' σ' H' p s'
  · exact fun ρ' R' σ' H' w' s' => ⟨R', ρ', w', s'⟩
  · exact fun c ρ' R' σ' H' p s' => n1.ex c ρ' R' σ' H' p s'
theorem sx_forS {tg iter : Expr} {g : TG} {z : Str} (W : Nat → List Sl → Prop) (hp : PassesOwn (model X.prog X.w) X.A X.env X.xe) (hc : X.calm = true) (hi : EX X iter ρ (.sh (.str z))) (hg : PG X tg g) (h0 : W 0 ρ)
    (hs : ∀ i c ρ1, z.cps[i]? = some c → W i ρ1 → ∃ ρ2, Gv X.K g ρ1 (.sh (.str ⟨#[c]⟩)) ρ2 ∧ SXs X W₀ body ρ2 (turnP P (W (i + 1)))) (hd : ∀ ρ1, W z.cps.size ρ1 → P.nx ρ1)
    (hf : ∀ x, foldedSetIterable iter X.env x = pure x := by intro _; rfl) : SX X W₀ (.For tg iter body [] pos) ρ P := .of (ps_for hp hc (pi_str pe_sem) hg pss_sem hf) fun B R0 R σ H D s n => by
  refine hi B R0 R σ H _ s fun v R1 H1 t1 q1 => ⟨z, is_str _ _ q1, ?_⟩
  have s1 := s.step t1
  have n1 : Ens X.K W₀ B R1 P D := n.rebase s1.stp
  refine ⟨fun i m σ H => m = z.cps.size - i ∧ i ≤ z.cps.size ∧ ∃ R' ρ1, W i ρ1 ∧ St X.K B R1 R' ρ1 σ H, ⟨z.cps.size, by simp, Nat.zero_le _, R1, ρ, h0, s1.base⟩, ?_⟩
  rintro i m σ2 H2 ⟨rfl, hle, R', ρ1, w, s'⟩
  by_cases hlt : i < z.cps.size
  · refine .inr ⟨hlt, fun σ H => ∃ R' ρ1, W (i + 1) ρ1 ∧ St X.K B R1 R' ρ1 σ H, fun σ' H' q => ⟨z.cps.size - (i + 1), by omega, rfl, hlt, q⟩, fun x H' y => ?_⟩
    obtain ⟨e, c, hc1, rfl⟩ := y
    subst e
    obtain ⟨ρ2, gv, sb⟩ := hs i c ρ1 hc1 w
    refine gv B R1 R' σ2 H' _ _ s' (Rp.str _) fun σ3 s3 => sb B R1 R' σ3 H' _ s3 ⟨?_, ?_, ?_, ?_, ?_⟩
    · exact fun ρ' R' σ' H' w' s' => ⟨R', ρ', w', s'⟩
    · exact fun r ρ' v R' σ' H' p t q => n1.rt r ρ' v R' σ' H' p t q
    · exact fun ρ' R' σ' H' p s' => n1.nx ρ' R' σ' H' p s'
    · exact fun ρ' R' σ' H' w' s' => ⟨R', ρ', w', s'⟩
    · exact fun c ρ' R' σ' H' p s' => n1.ex c ρ' R' σ' H' p s'
  · have e : i = z.cps.size := by omega
    subst e
    exact .inl ⟨Nat.le_refl _, n1.nx ρ1 R' σ2 H2 (hd ρ1 w) s'⟩
theorem Sv.range {K : PySem.W.Frag} {tb : TS} {g : TG} {lo : Int} {n : Nat} {B R0 R H : Hp} {σ : L2.St} {D : Ends} (W : Nat → List Sl → Prop) (s : St K B R0 R ρ σ H) (en : Ens K W₀ B R0 P D) (h0 : W 0 ρ)
    (hs : ∀ i ρ1, i < n → W i ρ1 → ∃ ρ2, Gv K g ρ1 (.sh (.int (lo + i))) ρ2 ∧ Sv K W₀ tb ρ2 (turnP P (W (i + 1)))) (hd : ∀ ρ1, W n ρ1 → P.nx ρ1) :
    ∃ W : Nat → Nat → L2.St → Hp → Prop, (∃ m, W 0 m σ H) ∧ ∀ i m σ H, W i m σ H →
      ((Itr lo n).stop i H ∧ D.nx σ H) ∨ ((Itr lo n).go i H ∧ ∃ N : L2.St → Hp → Prop, (∀ σ' H', N σ' H' → ∃ m', m' < m ∧ W (i + 1) m' σ' H') ∧ ∀ x H', (Itr lo n).yld i H x H' → g x σ H' fun σ2 H2 => tb { D with nx := N, ct := N, bk := D.nx } σ2 H2) := by
  refine for_range (fun i σ H => ∃ R' ρ1, W i ρ1 ∧ St K B R0 R' ρ1 σ H) ⟨R, ρ, h0, s⟩ (fun i σ2 H2 hlt ⟨R', ρ1, w, s'⟩ => ?_) (fun σ H ⟨R', ρ1, w, s'⟩ => en.nx ρ1 R' σ H (hd ρ1 w) s')
  obtain ⟨ρ2, gv, sb⟩ := hs i ρ1 hlt w
  refine gv B R0 R' σ2 H2 _ _ s' (Rp.int _) fun σ3 s3 => sb B R0 R' σ3 H2 _ s3 ⟨?_, ?_, ?_, ?_, ?_⟩
  · exact fun ρ' R' σ' H' w' s' => ⟨R', ρ', w', s'⟩
  · exact fun r ρ' v R' σ' H' p t q => en.rt r ρ' v R' σ' H' p t q
  · exact fun ρ' R' σ' H' p s' => en.nx ρ' R' σ' H' p s'
  · exact fun ρ' R' σ' H' w' s' => ⟨R', ρ', w', s'⟩
  · exact fun c ρ' R' σ' H' p s' => en.ex c ρ' R' σ' H' p s'
theorem sx_range1 {tg : Expr} {g : TG} {j : Int} {p p2 : Pos} (W : Nat → List Sl → Prop) (hp : PassesOwn (model X.prog X.w) X.A X.env X.xe) (hc : X.calm = true) (hgl : Gl X "range") (hm : X.mg "range" = none) (ha : AX X [a] ρ [.sh (.int j)]) (hj : -(2 ^ 62) ≤ j ∧ j < 2 ^ 62) (hg : PG X tg g) (h0 : W 0 ρ)
    (hs : ∀ (i : Nat) ρ1, (i : Int) < j → W i ρ1 → ∃ ρ2, Gv X.K g ρ1 (.sh (.int i)) ρ2 ∧ SXs X W₀ body ρ2 (turnP P (W (i + 1)))) (hd : ∀ ρ1, W j.toNat ρ1 → P.nx ρ1)
    (hst : starEach [a] X.env = [(false, eval a X.env)] := by rfl) (hf : ∀ x, foldedSetIterable (.Call (.Name "range" p) [a] [] p2) X.env x = pure x := by intro _; rfl) : SX X W₀ (.For tg (.Call (.Name "range" p) [a] [] p2) body [] pos) ρ P :=
  .of (ps_for hp hc (pi_range1 hgl hm pa_sem hst) hg pss_sem hf) fun B R0 R σ H D s n => by
    refine ha B R0 R σ H _ s fun vs R1 H1 t1 q1 => ?_
    obtain ⟨v, rfl, q⟩ := q1.one
    refine ⟨j, by rw [Res.int t1.sub q rfl], hj.1, hj.2, Sv.range W (s.step t1) n h0 (fun i ρ1 hi w => ?_) hd⟩
    obtain ⟨ρ2, gv, sb⟩ := hs i ρ1 (by omega) w
    exact ⟨ρ2, by rw [Int.zero_add]; exact gv, sb⟩

def wipeS (ρ : List Sl) : List Nat → List Sl
  | [] => ρ
  | v :: vs => (wipeS ρ vs).set v .no
theorem St.wipe {K : PySem.W.Frag} {B R0 R H : Hp} {σ : L2.St} (s : St K B R0 R ρ σ H) : ∀ vs : List Nat, St K B R0 R (wipeS ρ vs) (L2.wipe σ vs) H
  | [] => s
  | v :: vs => by
    have h := St.wipe s vs
    obtain ⟨φ, fp⟩ := h.fps
    have l1 : ((wipeS ρ vs).set v .no).length = (wipeS ρ vs).length := by rw [List.length_set]
    refine ⟨h.stp, h.tb, by show (List.set _ _ _).length = (List.set _ _ _).length; rw [List.length_set, List.length_set, h.len], fun i => if i = v then [] else φ i, fp.sub l1 (fun i t w e1 e2 => ?_) fun i p hp => ?_⟩
    · have e1 : ((wipeS ρ vs).set v .no)[i]? = some t := e1
      have e2 : ((L2.wipe σ vs).set v none)[i]? = some w := e2
      rw [List.getElem?_set] at e1 e2
      by_cases z : v = i
      · rw [if_pos z] at e1
        rw [if_pos z.symm]
        split at e1
        · cases e1; rfl
        · cases e1
      · rw [if_neg z] at e1 e2
        rw [if_neg fun q => z q.symm]
        exact fp.sl i t w e1 e2
    · split at hp
      · cases hp
      · exact hp
def tBlkE (X : Cx) (scope : Scope) (e : Expr) : TE := fun σ H Q => ∀ (s : Shared) (H0 : Hp) (C : Addr) (cl : List (Str × Addr)) (fp : List Addr), tE (X.blk s H0 scope (compEnvC scope cl C X.env) fp) e σ H Q
structure LcW (K : PySem.W.Frag) (B R1 H1 : Hp) (Dd : Addr) (acc : List D) (H : Hp) : Prop where
  ex : ∃ R xs, Step R1 H1 R H ∧ R Dd = none ∧ H Dd = some (.lst xs) ∧ RpA K R xs acc
end
end PV

namespace PV
open PySem PySem.Spec PyProof.Rows L2
section
variable {X : Cx} {W : L2.WX} {ρ ρ' : List Sl} {pos : Pos} {a b c e o : Expr} {st : Stmt} {P : Post} {body : List Stmt} {K : PySem.W.Frag}
def tTs (X : Cx) (ifs : List Expr) : TT := fun σ H Q => ∀ pins s, Inv X pins σ H s →
  wpAny (model X.prog X.w) X.A (forIn ifs true fun c r => if r = true then do let ok ← isTrue c X.env (eval c X.env); pure (ForInStep.yield ok) else pure (ForInStep.yield r)) (TP X pins σ Q) X.xe s
theorem pts_sem {ifs : List Expr} : PTs X ifs (tTs X ifs) := ⟨fun pins s σ H Q I h => h pins s I⟩
def TXs (X : Cx) (ifs : List Expr) (ρ : List Sl) (b : Bool) : Prop := Tv X.K (tTs X ifs) ρ b
theorem txs_nil : TXs X [] ρ true := fun B R0 R σ H Q s k pins sh I => pts_nil.run pins sh σ H Q I (k R H s.sub.step)
theorem txs_one {k : Bool} (h : TX X c ρ k) : TXs X [c] ρ k := fun B R0 R σ H Q s kk pins sh I => (pts_one pt_sem).run pins sh σ H Q I (h B R0 R σ H Q s kk)
def tBlkT (X : Cx) (scope : Scope) (ifs : List Expr) : TT := fun σ H Q => ∀ (s : Shared) (H0 : Hp) (C : Addr) (cl : List (Str × Addr)) (fp : List Addr), tTs (X.blk s H0 scope (compEnvC scope cl C X.env) fp) ifs σ H Q
def Only (vs : List Nat) (σ σ' : L2.St) : Prop := σ'.length = σ.length ∧ ∀ k, k ∉ vs → σ'[k]? = σ[k]?
def GSet (g : TG) (vs : List Nat) : Prop := ∀ v (σ : L2.St) H (Q Q' : L2.St → Hp → Prop), g v σ H Q → (∀ σ' H', Only vs σ σ' → Q σ' H' → Q' σ' H') → g v σ H Q'
def GSets (g : TGs) (vs : List Nat) : Prop := ∀ v (σ : L2.St) H (Q Q' : L2.St → Hp → Prop), g v σ H Q → (∀ σ' H', Only vs σ σ' → Q σ' H' → Q' σ' H') → g v σ H Q'
theorem only_set {i : Nat} {vs : List Nat} (h : i ∈ vs) {σ : L2.St} {v : Option V} : Only vs σ (σ.set i v) := ⟨by rw [List.length_set], fun k hk => by
  rw [List.getElem?_set, if_neg (fun z => hk (by subst z; exact h))]⟩
theorem Only.trans {vs : List Nat} {σ σ1 σ2 : L2.St} (a : Only vs σ σ1) (b : Only vs σ1 σ2) : Only vs σ σ2 := ⟨b.1.trans a.1, fun k hk => (b.2 k hk).trans (a.2 k hk)⟩
theorem gset_name {i : Nat} {vs : List Nat} (h : i ∈ vs) : GSet (gName i) vs := fun v σ H Q Q' q k => k _ _ (only_set h) q
theorem gsets_nil {vs : List Nat} : GSets gNil vs := fun v σ H Q Q' q k => ⟨q.1, k _ _ ⟨rfl, fun _ _ => rfl⟩ q.2⟩
theorem gsets_cons {g : TG} {gs : TGs} {vs : List Nat} (h : GSet g vs) (h2 : GSets gs vs) : GSets (gCons g gs) vs := fun v σ H Q Q' ⟨x, r, e, q⟩ k =>
  ⟨x, r, e, h x σ H _ _ q fun σ1 H1 o1 q1 => h2 r σ1 H1 _ _ q1 fun σ2 H2 o2 q2 => k σ2 H2 (o1.trans o2) q2⟩
theorem gset_tup {n : Nat} {gs : TGs} {vs : List Nat} (h : GSets gs vs) : GSet (gTup K n gs) vs := fun v σ H Q Q' ⟨a, xs, e, h1, h2, q⟩ k => ⟨a, xs, e, h1, h2, h xs σ H Q Q' q k⟩
theorem wipe_at {σ : L2.St} {i : Nat} : ∀ {vs : List Nat}, i ∈ vs → (wipe σ vs)[i]? = if i < σ.length then some none else none
  | v :: vs, h => by
    show ((wipe σ vs).set v none)[i]? = _
    rw [List.getElem?_set]
    by_cases z : v = i
    · rw [if_pos z, wipe_length, z]
    · rw [if_neg z]
      exact wipe_at ((List.mem_cons.mp h).resolve_left fun q => z q.symm)
theorem wipe_only {vs : List Nat} {σ σ' : L2.St} (o : Only vs σ σ') : wipe σ' vs = wipe σ vs := by
  apply List.ext_getElem?
  intro i
  by_cases h : i ∈ vs
  · rw [wipe_at h, wipe_at h, o.1]
  · rw [wipe_out h, wipe_out h, o.2 i h]
theorem wipe_wipe {vs : List Nat} {σ : L2.St} : wipe (wipe σ vs) vs = wipe σ vs := wipe_only ⟨wipe_length σ vs, fun k hk => wipe_out hk⟩

theorem Step.putNew {R H R' H' : Hp} (s : Step R H R' H') {p : Addr} {o : HO} (n : H p = none) (nr : R' p = none) (nt : ∀ xs, o ≠ .tup xs) (nf : ∀ u v, o ≠ .frz u v) (ne : ∀ φ, H' p ≠ some (.ext φ)) (nx : ∀ φ, o ≠ .ext φ := by intro φ z; cases z) : Step R H R' (upd H' p o) := by
  refine ⟨s.rr, s.rh.put nr, s.hh.put n, s.nw, fun b xs e => ?_, fun b u xs e => ?_, fun b ps e => let ⟨ps', e', n'⟩ := s.cd b ps e; ⟨ps', by rw [upd_ne (ne_of_none e n)]; exact e', n'.put ne⟩, fun b φ e => ?_⟩
  · by_cases z : b = p
    · subst z; rw [upd_same] at e; exact absurd (Option.some.inj e) (nt xs)
    · rw [upd_ne z] at e; exact s.tp b xs e
  · by_cases z : b = p
    · subst z; rw [upd_same] at e; exact absurd (Option.some.inj e) (nf u _)
    · rw [upd_ne z] at e; exact s.tf b u xs e
  · by_cases z : b = p
    · subst z; rw [upd_same] at e; exact absurd (Option.some.inj e) (nx φ)
    · rw [upd_ne z] at e; exact s.te b φ e
theorem lc_turn {α : Type} {g : TG} {vs : List Nat} {scope : Scope} {elt : Expr} {ifs : List Expr} {B R0 R1 H1 : Hp} {σ : L2.St} {Dd : Addr} (s1 : St X.K B R0 R1 ρ σ H1) (hD : H1 Dd = none) (gs : GSet g vs)
    {H : Hp} {acc : List D} {x : V} {d f : D} {k : Bool} {Nx : Hp → Prop} (w : LcW X.K B R1 H1 Dd acc H) (hx : ∀ R, Sm R1 R → Rp X.K R x d)
    (ht : ∃ ρ2, Gv X.K g (wipeS ρ vs) (.sh d) ρ2 ∧ (∀ (s : Shared) (H : Hp) (C : Addr) (cl : List (Str × Addr)) (fp : List Addr), TXs (X.blk s H scope (compEnvC scope cl C X.env) fp) ifs ρ2 k) ∧
      (k = true → ∀ (s : Shared) (H : Hp) (C : Addr) (cl : List (Str × Addr)) (fp : List Addr), EX (X.blk s H scope (compEnvC scope cl C X.env) fp) elt ρ2 (.sh f)))
    (hl : acc.length < sizeLine) (n1 : k = true → ∀ H, LcW X.K B R1 H1 Dd (acc ++ [f]) H → Nx H) (n2 : k = false → ∀ H, LcW X.K B R1 H1 Dd acc H → Nx H) :
    g x (wipe σ vs) H fun σ2 H2 => wipe σ2 vs = wipe σ vs ∧ tBlkT X scope ifs σ2 H2 fun b H3 => if b = true then tBlkE X scope elt σ2 H3 fun y H4 => ∃ acc, H4 Dd = some (.lst acc) ∧ acc.length < sizeLine ∧ Nx (upd H4 Dd (.lst (acc ++ [y]))) else Nx H3 := by
  obtain ⟨R, xs, t, nr, hd, ra⟩ := w.ex
  obtain ⟨ρ2, gv, tt, te⟩ := ht
  have sw : St X.K B R0 R (wipeS ρ vs) (wipe σ vs) H := (s1.step t).wipe vs
  have q := gv B R0 R (wipe σ vs) H x (fun σ2 H2 => H2 = H ∧ St X.K B R0 R ρ2 σ2 H) sw (hx R t.rr) fun σ2 s2 => ⟨rfl, s2⟩
  refine gs x _ H _ _ q fun σ2 H2 o2 ⟨e2, s2⟩ => ?_
  subst e2
  refine ⟨by rw [wipe_only o2, wipe_wipe], fun s H0 C cl fp => tt s H0 C cl fp B R0 R σ2 H2 _ s2 fun R3 H3 t3 => ?_⟩
  cases k with
  | false =>
    rw [if_neg Bool.false_ne_true]
    exact n2 rfl H3 ⟨R3, xs, t.trans t3, t3.free nr (by rw [hd]; intro z; cases z), t3.hh.k _ _ hd trivial, RpA.mono t3.rr ra⟩
  | true =>
    rw [if_pos rfl]
    refine fun s H0 C cl fp => te rfl s H0 C cl fp B R0 R3 σ2 H3 _ (s2.step t3) fun v R4 H4 t4 q4 => ?_
    have t34 := t3.trans t4
    have nr4 : R4 Dd = none := t34.free nr (by rw [hd]; intro z; cases z)
    refine ⟨xs, t34.hh.k _ _ hd trivial, by rw [ra.len]; exact hl, n1 rfl _ ⟨R4, xs ++ [v], (t.trans t34).putNew hD nr4 (fun _ z => (nomatch z)) (fun _ _ z => (nomatch z)) (fun _ z => by rw [t34.hh.k _ _ hd trivial] at z; cases z), nr4, upd_same, ?_⟩⟩
    exact (RpA.mono t34.rr ra).app (.cons q4 .nil)
theorem take_snoc {α β : Type} {l : List α} {i : Nat} {a : α} (h : l[i]? = some a) (keep : α → Bool) (f : α → β) : ((l.take (i + 1)).filter keep).map f = ((l.take i).filter keep).map f ++ (if keep a = true then [f a] else []) := by
  rw [List.take_add_one, h]
  show ((l.take i ++ [a]).filter keep).map f = _
  rw [List.filter_append, List.map_append]
  congr 1
  by_cases z : keep a = true
  · rw [if_pos z, List.filter_cons, if_pos z]; rfl
  · rw [if_neg z, List.filter_cons, if_neg z]; rfl
theorem acc_lt {α β : Type} {l : List α} {i : Nat} (keep : α → Bool) (f : α → β) (h : i < l.length) (hl : l.length ≤ sizeLine) : (((l.take i).filter keep).map f).length < sizeLine := by
  rw [List.length_map]
  refine Nat.lt_of_le_of_lt (List.length_filter_le _ _) ?_
  rw [List.length_take]
  omega
theorem LcW.res {B R1 H1 : Hp} {Dd : Addr} {acc : List D} {H : Hp} {Q : VK} (w : LcW K B R1 H1 Dd acc H) {R H0 : Hp} (t : Step R H0 R1 H1) (hD : H1 Dd = none) (k : ∀ v R' H', Step R H0 R' H' → Res K H0 R' H' v (.nw (.lst acc)) → Q v H') : Q (.ref Dd) H := by
  obtain ⟨R2, xs, t2, nr, hd, ra⟩ := w.ex
  exact k _ R2 H (t.trans t2) ⟨Dd, rfl, Sm.free t.hh hD, nr, _, hd, ra⟩
theorem ev_lc {α : Type} {iter elt : Expr} {ifs : List Expr} {scope : Scope} {g : TG} {vs : List Nat} (l : List α) (emb : α → D) (keep : α → Bool) (f : α → D) (hi : EX X iter ρ (.sh (.lst (l.map emb)))) (gs : GSet g vs) (hl : l.length ≤ sizeLine)
    (ht : ∀ (i : Nat) (a : α), l[i]? = some a → ∃ ρ2, Gv X.K g (wipeS ρ vs) (.sh (emb a)) ρ2 ∧ (∀ (s : Shared) (H : Hp) (C : Addr) (cl : List (Str × Addr)) (fp : List Addr), TXs (X.blk s H scope (compEnvC scope cl C X.env) fp) ifs ρ2 (keep a)) ∧
      (keep a = true → ∀ (s : Shared) (H : Hp) (C : Addr) (cl : List (Str × Addr)) (fp : List Addr), EX (X.blk s H scope (compEnvC scope cl C X.env) fp) elt ρ2 (.sh (f a)))) :
    Ev X.K (tLc (iList X.K (tE X iter)) g (tBlkT X scope ifs) (tBlkE X scope elt) vs) ρ (.nw (.lst ((l.filter keep).map f))) := fun B R0 R σ H Q s k => by
  refine hi B R0 R σ H _ s fun v R1 H1 t1 q1 => ?_
  obtain ⟨p, xs, rfl, hx, hr⟩ := (show Rp X.K R1 v (.lst (l.map emb)) from q1).lst'
  have s1 := s.step t1
  have ln : xs.length = l.length := by rw [hr.len, List.length_map]
  refine ⟨p, rfl, ⟨xs, SqL.of (t1.rh.k _ _ hx trivial)⟩, fun Dd hD => ?_⟩
  refine lc_list (xs := xs) (fun i H => LcW X.K B R1 H1 Dd (((l.take i).filter keep).map f) H) ?_ (fun i H _ w => ?_) (fun i x H hix w => ?_) fun H w => ?_
  · exact ⟨R1, [], s1.sub.step.new hD (fun _ z => (nomatch z)) fun _ _ z => (nomatch z), Sm.free s1.sub.rh hD, upd_same, .nil⟩
  · obtain ⟨R2, xs2, t2, _⟩ := w.ex
    exact SqL.of (t2.rh.k _ _ (t2.rr.k _ _ hx trivial) trivial)
  · obtain ⟨d, hd1, hd2⟩ := hr.get' hix
    rw [List.getElem?_map] at hd1
    cases ha : l[i]? with
    | none => rw [ha] at hd1; cases hd1
    | some a =>
      rw [ha] at hd1
      cases hd1
      obtain ⟨hlt, _⟩ := List.getElem?_eq_some_iff.mp ha
      refine lc_turn (α := α) s1 hD gs w (fun R t => Rp.mono t hd2) (ht i a ha) (acc_lt keep f hlt hl) (fun e H w => ?_) fun e H w => ?_
      · rw [take_snoc ha, if_pos e]; exact w
      · rw [take_snoc ha, if_neg (by rw [e]; exact Bool.false_ne_true), List.append_nil]; exact w
  · rw [ln, List.take_length] at w
    exact w.res t1 hD k
theorem ev_lcR {elt : Expr} {ifs : List Expr} {scope : Scope} {g : TG} {vs : List Nat} {j : Int} (keep : Nat → Bool) (f : Nat → D) (ha : AX X [a] ρ [.sh (.int j)]) (hj : -(2 ^ 62) ≤ j ∧ j < 2 ^ 62) (gs : GSet g vs) (hl : j.toNat ≤ sizeLine)
    (ht : ∀ i : Nat, (i : Int) < j → ∃ ρ2, Gv X.K g (wipeS ρ vs) (.sh (.int i)) ρ2 ∧ (∀ (s : Shared) (H : Hp) (C : Addr) (cl : List (Str × Addr)) (fp : List Addr), TXs (X.blk s H scope (compEnvC scope cl C X.env) fp) ifs ρ2 (keep i)) ∧
      (keep i = true → ∀ (s : Shared) (H : Hp) (C : Addr) (cl : List (Str × Addr)) (fp : List Addr), EX (X.blk s H scope (compEnvC scope cl C X.env) fp) elt ρ2 (.sh (f i)))) :
    Ev X.K (tLc (iRng1 (tA X [a])) g (tBlkT X scope ifs) (tBlkE X scope elt) vs) ρ (.nw (.lst (((List.range j.toNat).filter keep).map f))) := fun B R0 R σ H Q s k => by
  refine ha B R0 R σ H _ s fun us R1 H1 t1 q1 => ?_
  obtain ⟨v, rfl, q⟩ := q1.one
  have s1 := s.step t1
  refine ⟨j, by rw [Res.int t1.sub q rfl], hj.1, hj.2, fun Dd hD => ?_⟩
  refine lc_range (fun i H => LcW X.K B R1 H1 Dd ((((List.range j.toNat).take i).filter keep).map f) H) ?_ (fun i H hlt w => ?_) fun H w => ?_
  · exact ⟨R1, [], s1.sub.step.new hD (fun _ z => (nomatch z)) fun _ _ z => (nomatch z), Sm.free s1.sub.rh hD, upd_same, .nil⟩
  · have hi : (List.range j.toNat)[i]? = some i := by rw [List.getElem?_range hlt]
    rw [Int.zero_add]
    refine lc_turn (α := Nat) s1 hD gs w (fun R t => Rp.int _) (ht i (by omega)) (acc_lt keep f (by rw [List.length_range]; exact hlt) (by rw [List.length_range]; exact hl)) (fun e H w => ?_) fun e H w => ?_
    · rw [take_snoc hi, if_pos e]; exact w
    · rw [take_snoc hi, if_neg (by rw [e]; exact Bool.false_ne_true), List.append_nil]; exact w
  · rw [show (List.range j.toNat).take j.toNat = List.range j.toNat from List.take_of_length_le (by rw [List.length_range]; exact Nat.le_refl _)] at w
    exact w.res t1 hD k
theorem peB {scope : Scope} {elt : Expr} : ∀ (s : Shared) (H : Hp) (C : Addr) (cl : List (Str × Addr)) (fp : List Addr), PE (X.blk s H scope (compEnvC scope cl C X.env) fp) elt (tBlkE X scope elt) := fun s H C cl fp => ⟨fun pins s' σ H' Q I h => h s H C cl fp pins s' I⟩
theorem ptB {scope : Scope} {ifs : List Expr} : ∀ (s : Shared) (H : Hp) (C : Addr) (cl : List (Str × Addr)) (fp : List Addr), PTs (X.blk s H scope (compEnvC scope cl C X.env) fp) ifs (tBlkT X scope ifs) := fun s H C cl fp => ⟨fun pins s' σ H' Q I h => h s H C cl fp pins s' I⟩
theorem ex_lc {elt tg iter : Expr} {ifs : List Expr} {scope : Scope} {own : List (Str × Nat)} {wi : TI} {g : TG} {r : Rs} (hc : X.calm = true) (hN : X.N.Nodup) (hi : PI X tg iter wi) (ok : BlkOk X.N X.env.scope scope own)
    (hg : ∀ (s : Shared) (H : Hp) (C : Addr) (cl : List (Str × Addr)) (fp : List Addr), PG (X.blk s H scope (compEnvC scope cl C X.env) fp) tg g) (h : Ev X.K (tLc wi g (tBlkT X scope ifs) (tBlkE X scope elt) (own.map (·.2))) ρ r)
    (hs : ∀ x, foldedSetIterable iter X.env x = pure x := by intro _; rfl) : EX X (.ListComp elt [⟨tg, iter, ifs, 0⟩] scope pos) ρ r := .of (pe_lc hc hN hi ok hg ptB peB hs) h
theorem sx_setLc {i : Nat} {y : Str} {py : Pos} {elt tg iter : Expr} {ifs : List Expr} {scope : Scope} {own : List (Str × Nat)} {pos spos : Pos} {wi : TI} {g : TG} {r : Rs} (hc : X.calm = true) (hN : X.N.Nodup) (hy : X.N[i]? = some y) (hyl : X.env.scope.names.lookup y = some .local)
    (hsw : swapsWith (.ListComp elt [⟨tg, iter, ifs, 0⟩] scope pos) (some (.Name y py)) spos.line X.env = pure true) (hi : PI X tg iter wi) (ok : BlkOk X.N X.env.scope scope own)
    (hg : ∀ (s : Shared) (H : Hp) (C : Addr) (cl : List (Str × Addr)) (fp : List Addr), PG (X.blk s H scope (compEnvC scope cl C X.env) fp) tg g) (h : Ev X.K (tLc wi g (tBlkT X scope ifs) (tBlkE X scope elt) (own.map (·.2))) ρ r) (hP : P.nx (ρ.set i r.sl))
    (hs : ∀ x, foldedSetIterable iter X.env x = pure x := by intro _; rfl) : SX X W (.Assign [.Name y py] (.ListComp elt [⟨tg, iter, ifs, 0⟩] scope pos) spos) ρ P :=
  .of (ps_setLc hc hN hy hyl hsw hi ok hg ptB peB hs) fun B R0 R σ H D s n => h B R0 R σ H _ s fun v R' H' t q => n.nx _ R' _ H' hP (s.set t q i)

def spR (K : PySem.W.Frag) (Rel : List D → Rs → Prop) : Sp := fun vs H Q _ => ∃ R0 ds r, TabsK K H ∧ Sub R0 H ∧ RpA K R0 vs ds ∧ Rel ds r ∧ ∀ v R' H', Step R0 H R' H' → Res K H R' H' v r → Q v H'
section
variable {CX : CXT} {E : XK} {k : Nat} {f : Addr} {fd : FuncData} {ps : List Str} {Rel : List D → Rs → Prop} {x : Str} {p : Pos} {es : List Expr}
theorem ex_call {ds : List D} {r : Rs} (F : FnOk X.prog X.w X.K X.mg X.base CX k f fd ps (spR X.K Rel)) (hr : Room k X.A) (hg : Gl X x) (hm : X.mg x = some (.ref f)) (hk : PySem.W.keepIn X.K (.ref f) = true) (hb : Binds X.K fd ps []) (hx : Passes CX X E)
    (ha : AX X (e :: es) ρ (ds.map Rs.sh)) (hR : Rel ds r) (hdb : (x == ("__debug__" : Str)) = false := by decide) (he : starEach (e :: es) X.env = (false, eval e X.env) :: starEach es X.env := by rfl) (hpl : (backTo pos (starEach es X.env)).any (·.1) = false := by rfl) :
    EX X (.Call (.Name x p) (e :: es) [] pos) ρ r := .of (pe_call F hr hg hm hk hb .nil hx pa_sem hdb he hpl) fun B R0 R σ H Q s kk => ha B R0 R σ H _ s fun vs R1 H1 t1 q1 => by
  have q1 : RpA X.K R1 vs ds := ResA.shs q1
  show spR X.K Rel (vs ++ []) H1 Q E
  rw [List.append_nil]
  exact ⟨R1, ds, r, (s.step t1).tabs, t1.sub, q1, hR, fun v R' H' t q => kk v R' H' (t1.trans t) (q.back t1.hh)⟩
def immR : Rs → Bool
  | .sh d => imm d
  | .nw (.lst ds) => immA ds
  | .nw (.dK kds) => immA (kds.map (·.2))
  | .nw (.dT kds) => immA (kds.map (·.2))
  | .nw _ => false
  | .al _ => true
  | .nd _ => true
def withT (R H' : Hp) : Hp := fun a => match R a with
  | some o => some o
  | none => match H' a with
    | some (.tup xs) => some (.tup xs)
    | some (.frz u (.tup xs)) => some (.frz u (.tup xs))
    | some (.ext φ) => some (.ext φ)
    | _ => none
theorem withT_some {R H' : Hp} {a : Addr} {o : HO} (h : R a = some o) : withT R H' a = some o := by unfold withT; rw [h]
theorem withT_none {R H' : Hp} {a : Addr} (h : R a = none) {o : HO} (h2 : withT R H' a = some o) : H' a = some o ∧ ((∃ xs, o = .tup xs) ∨ (∃ u xs, o = .frz u (.tup xs)) ∨ ∃ φ, o = .ext φ) := by
  unfold withT at h2
  rw [h] at h2
  dsimp only at h2
  split at h2
  · rename_i xs e; cases h2; exact ⟨e, .inl ⟨_, rfl⟩⟩
  · rename_i u xs e; cases h2; exact ⟨e, .inr (.inl ⟨_, _, rfl⟩)⟩
  · rename_i φ e; cases h2; exact ⟨e, .inr (.inr ⟨_, rfl⟩)⟩
  · cases h2
theorem Step.tups {R H R' H' : Hp} (s : Sub R H) (t : Step H H R' H') : Step R H (withT R H') H' := by
  have old : ∀ a o, H a = some o → ((∃ xs, H' a = some (.tup xs)) ∨ (∃ u xs, H' a = some (.frz u (.tup xs))) ∨ ∃ φ, H' a = some (.ext φ)) → R a ≠ none := fun a o e z q => by
    by_cases n : NT o
    · have e' := t.hh.k a o e n
      rcases z with ⟨xs, z⟩ | ⟨u, xs, z⟩ | ⟨φ, z⟩
      · rw [e'] at z; cases z; rw [s.tp a xs e] at q; cases q
      · rw [e'] at z; cases z; rw [s.tf a u xs e] at q; cases q
      · rw [e'] at z; cases z; rw [s.te a φ e] at q; cases q
    · cases o <;> first | exact absurd trivial n | skip
      obtain ⟨ps, e', _⟩ := t.hh.t a _ e
      rcases z with ⟨xs, z⟩ | ⟨u, xs, z⟩ | ⟨φ, z⟩
      · rw [e'] at z; cases z
      · rw [e'] at z; cases z
      · rw [e'] at z; cases z
  have rh : Sm R H' := s.rh.trans t.hh
  refine ⟨⟨fun b o e _ => withT_some e, fun b ps e => ⟨ps, withT_some e, id⟩⟩, ⟨fun b o e n => ?_, fun b ps e => ?_⟩, t.hh, fun a h h' => ?_, fun a xs e => ?_, fun a u xs e => ?_, t.cd, fun a φ e => ?_⟩
  · cases q : R b with
    | some o' => rw [withT_some q] at e; cases e; exact rh.k b o q n
    | none => exact (withT_none q e).1
  · cases q : R b with
    | some o' => rw [withT_some q] at e; cases e; exact rh.t b ps q
    | none =>
      obtain ⟨_, ⟨xs, z⟩ | ⟨u, xs, z⟩ | ⟨φ, z⟩⟩ := withT_none q e
      · cases z
      · cases z
      · cases z
  · cases q : H a with
    | none => rfl
    | some o =>
      cases q2 : withT R H' a with
      | none => exact absurd q2 h'
      | some o2 =>
        obtain ⟨e1, e2⟩ := withT_none h q2
        refine absurd h (old a o q ?_)
        rcases e2 with ⟨xs, rfl⟩ | ⟨u, xs, rfl⟩ | ⟨φ, rfl⟩
        · exact .inl ⟨xs, e1⟩
        · exact .inr (.inl ⟨u, xs, e1⟩)
        · exact .inr (.inr ⟨φ, e1⟩)
  · cases q : R a with
    | none => unfold withT; rw [q]; dsimp only; rw [e]
    | some o =>
      rw [withT_some q]
      by_cases n : NT o
      · rw [rh.k a o q n] at e; exact e
      · cases o <;> first | exact absurd trivial n | skip
        obtain ⟨ps, e', _⟩ := rh.t a _ q
        rw [e'] at e; cases e
  · cases q : R a with
    | none => unfold withT; rw [q]; dsimp only; rw [e]
    | some o =>
      rw [withT_some q]
      by_cases n : NT o
      · rw [rh.k a o q n] at e; exact e
      · cases o <;> first | exact absurd trivial n | skip
        obtain ⟨ps, e', _⟩ := rh.t a _ q
        rw [e'] at e; cases e
  · cases q : R a with
    | none => unfold withT; rw [q]; dsimp only; rw [e]
    | some o =>
      rw [withT_some q]
      by_cases n : NT o
      · rw [rh.k a o q n] at e; exact e
      · cases o <;> first | exact absurd trivial n | skip
        obtain ⟨ps, e', _⟩ := rh.t a _ q
        rw [e'] at e; cases e
mutual
theorem Ow.reb {K : PySem.W.Frag} {R R2 H : Hp} (sb : Sm R H) (t : Tp R2 H) (f : TpF R2 H) : ∀ {v : V} {d : D} {g : List Addr}, Ow K R H v d g → Ow K R2 H v d g
  | _, _, _, .leaf h e => .leaf (Rp.imm t f (Rp.mono sb h) e) e
  | _, _, _, .lst h r n => .lst h (OwA.reb sb t f r) n
  | _, _, _, .tup h r => .tup (t _ _ (sb.k _ _ h trivial)) (OwA.reb sb t f r)
  | _, _, _, .dK h r e => .dK h (RpK.imm t f (RpK.mono sb r) e) e
  | _, _, _, .dT h r e => .dT h (RpK.imm t f (RpK.mono sb r) e) e
theorem OwA.reb {K : PySem.W.Frag} {R R2 H : Hp} (sb : Sm R H) (t : Tp R2 H) (f : TpF R2 H) : ∀ {v : List V} {d : List D} {g : List Addr}, OwA K R H v d g → OwA K R2 H v d g
  | _, _, _, .nil => .nil
  | _, _, _, .cons h r n => .cons (Ow.reb sb t f h) (OwA.reb sb t f r) n
end
theorem ex_callA {rs : List Rs} {r : Rs} (F : FnOk X.prog X.w X.K X.mg X.base CX k f fd ps (spR X.K Rel)) (hr : Room k X.A) (hg : Gl X x) (hm : X.mg x = some (.ref f)) (hk : PySem.W.keepIn X.K (.ref f) = true) (hb : Binds X.K fd ps []) (hx : Passes CX X E)
    (ha : AX X (e :: es) ρ rs) (hR : Rel (rs.map Rs.dat) r) (hi : immR r = true) (hdb : (x == ("__debug__" : Str)) = false := by decide) (he : starEach (e :: es) X.env = (false, eval e X.env) :: starEach es X.env := by rfl) (hpl : (backTo pos (starEach es X.env)).any (·.1) = false := by rfl) :
    EX X (.Call (.Name x p) (e :: es) [] pos) ρ r := .of (pe_call F hr hg hm hk hb .nil hx pa_sem hdb he hpl) fun B R0 R σ H Q s kk => ha B R0 R σ H _ s fun vs R1 H1 t1 q1 => by
  have q1 : RpA X.K H1 vs (rs.map Rs.dat) := ResA.rp t1.sub q1
  show spR X.K Rel (vs ++ []) H1 Q E
  rw [List.append_nil]
  refine ⟨H1, rs.map Rs.dat, r, (s.step t1).tabs, Sub.self H1, q1, hR, fun v R' H' t q => ?_⟩
  have t2 := Step.tups t1.sub t
  refine kk v _ H' (t1.trans t2) (Res.back t1.hh ?_)
  cases r with
  | sh d => exact Rp.imm t2.tp t2.tf (Rp.mono t.rh q) hi
  | al d => exact q
  | nw d =>
    obtain ⟨p, rfl, n, nr, o, ho, od⟩ := q
    refine ⟨p, rfl, n, ?_, o, ho, ?_⟩
    · cases q : withT R1 H' p with
      | none => rfl
      | some o2 =>
        obtain ⟨e1, e2⟩ := withT_none (Sm.free t1.sub.rh n) q
        rw [ho] at e1
        cases e1
        rcases e2 with ⟨xs, rfl⟩ | ⟨u, xs, rfl⟩ | ⟨φ, rfl⟩
        · exact absurd rfl od.ntup
        · exact absurd rfl od.nfrz
        · exact od.elim
    · cases o <;> cases d <;> first | exact od.elim | skip
      · exact RpA.imm t2.tp t2.tf (RpA.mono t.rh od) hi
      · exact RpK.imm t2.tp t2.tf (RpK.mono t.rh od) hi
      · exact RpK.imm t2.tp t2.tf (RpK.mono t.rh od) hi
  | nd d =>
    obtain ⟨f, w, n⟩ := q
    refine ⟨f, w.reb t.rh t2.tp t2.tf, fun p hp => ⟨(n p hp).1, ?_⟩⟩
    cases q : withT R1 H' p with
    | none => rfl
    | some o2 =>
      obtain ⟨e1, e2⟩ := withT_none (Sm.free t1.sub.rh (n p hp).1) q
      obtain ⟨o3, ow3, e⟩ := w.at p hp
      rw [e] at e1
      cases e1
      rcases e2 with ⟨xs, rfl⟩ | ⟨u, xs, rfl⟩ | ⟨φ, rfl⟩ <;> exact ow3.elim
def begin (N : List Str) (ds : List D) : List Sl := ds.map Sl.sh ++ List.replicate (N.length - ds.length) .no
theorem begin_st {K : PySem.W.Frag} {R0 H : Hp} {N : List Str} {vs : List V} {ds : List D} (tb : TabsK K H) (s : Sub R0 H) (h : RpA K R0 vs ds) : St K H R0 R0 (begin N ds) (L2.start N vs) H := by
  refine ⟨s.step, tb, ?_, fun _ => [], fun i t v e1 e2 => ?_, fun _ _ => rfl, fun _ _ _ _ z => nomatch z⟩
  · unfold begin L2.start
    rw [List.length_append, List.length_append, List.length_map, List.length_map, List.length_replicate, List.length_replicate, h.len]
  · unfold begin at e1
    unfold L2.start at e2
    rw [List.getElem?_append] at e1 e2
    rw [List.length_map] at e1 e2
    rw [h.len] at e2
    split at e1
    · rename_i hl
      rw [if_pos hl] at e2
      rw [List.getElem?_map] at e1 e2
      cases q : ds[i]? with
      | none => rw [q] at e1; cases e1
      | some d =>
        rw [q] at e1
        cases e1
        obtain ⟨x, h1, h2⟩ := h.get q
        rw [h1] at e2
        cases e2
        exact ⟨rfl, x, rfl, h2⟩
    · rw [List.getElem?_replicate] at e1
      split at e1 <;> cases e1
      rfl
end
section
variable {Pg : Program} {w : World} {mg : Str → Option Value} {base : Heap} {q nm : Str} {params : Arguments} {bd : List Stmt} {scope : Scope} {kws : List (Str × V)} {f : Addr} {fd : FuncData} {N ps : List Str} {k : Nat} {Rel : List D → Rs → Prop}
theorem ok_fn (F : FunD K nm q params bd scope [] kws f fd) (S : FnScope N ps scope) (len : ∀ ds r, Rel ds r → ds.length = ps.length)
    (h : ∀ (cdv : Value) (A : Around) (outer : List Env) (s : Shared) (H : Hp) (ds : List D) (r : Rs) (E : XK) (W : L2.WX), Room k (A.deeper (envOfC q scope s.heap.objs.size f cdv)) → Rel ds r →
      SXs (cxOf CX0 Pg w K mg base N q scope f cdv A outer s H E).nox W bd (begin N ds) ⟨fun _ => r = .sh .non, fun r' _ => r' = r, fun _ => False, fun _ => False, fun _ _ => False⟩) : FnOk Pg w K mg base CX0 (k + 1) f fd ps (spR K Rel) := by
  refine F.ok S (fun vs H Q E hs => ?_) fun cdv A outer s H vs Q E hr hs => ?_
  · obtain ⟨R0, ds, r, _, _, h1, h2, _⟩ := hs
    rw [h1.len, len ds r h2]
  · obtain ⟨R0, ds, r, tb, h0, h1, h2, kk⟩ := hs
    refine ⟨_, PSs.nox pss_sem, h cdv A outer s H ds r E (fun _ _ _ _ => True) hr h2 H R0 R0 _ H _ (begin_st tb h0 h1) ⟨fun ρ' R' σ' H' e s' => ?_, fun r' ρ' v R' σ' H' e s' q => ?_, fun _ _ _ _ z => z.elim, fun _ _ _ _ z => z.elim, fun _ _ _ _ _ z => z.elim⟩⟩
    · subst e
      exact kk _ R' H' s'.stp Rp.non
    · subst e
      exact kk v R' H' s'.stp q
end
end
end PV

namespace PV
open PySem PySem.Spec PyProof.Rows L2
section
variable {X : Cx} {W : L2.WX} {ρ ρ' : List Sl} {pos : Pos} {a b c e o : Expr} {st : Stmt} {P : Post} {body : List Stmt} {K : PySem.W.Frag}
theorem Gv.weak {g : TG} {r : Rs} {ρ1 ρ2 : List Sl} (l : Lt ρ ρ1) (h : Gv K g ρ r ρ2) : Gv K g ρ1 r ρ2 := fun B R0 R σ H v Q s hv k => h B R0 R σ H v Q (s.weak l) hv k
theorem Lt.eq' {s s' : Sl} {a b : List Sl} (e : s' = s) (h : Lt a b) : Lt (s' :: a) (s :: b) := by subst e; exact .eq h
def turnS (P : Post) (I : Nat → Prop) (S : Nat → List Sl) (i : Nat) : Post := ⟨fun ρ' => I (i + 1) ∧ Lt (S (i + 1)) ρ', P.rt, P.nx, fun ρ' => I (i + 1) ∧ Lt (S (i + 1)) ρ', P.ex⟩
theorem sx_rng {tg : Expr} {g : TG} {j : Int} {p p2 : Pos} (I : Nat → Prop) (S : Nat → List Sl) (hp : PassesOwn (model X.prog X.w) X.A X.env X.xe) (hc : X.calm = true) (hgl : Gl X "range") (hm : X.mg "range" = none) (ha : EX X a ρ (.sh (.int j))) (hj : -(2 ^ 62) ≤ j ∧ j < 2 ^ 62) (hg : PG X tg g) (h0 : I 0 ∧ Lt (S 0) ρ)
    (hs : ∀ i : Nat, (i : Int) < j → I i → ∃ ρ2, Gv X.K g (S i) (.sh (.int i)) ρ2 ∧ SXs X W body ρ2 (turnS P I S i)) (hd : I j.toNat → ∀ ρ1, Lt (S j.toNat) ρ1 → P.nx ρ1)
    (hst : starEach [a] X.env = [(false, eval a X.env)] := by rfl) (hf : ∀ x, foldedSetIterable (.Call (.Name "range" p) [a] [] p2) X.env x = pure x := by intro _; rfl) : SX X W (.For tg (.Call (.Name "range" p) [a] [] p2) body [] pos) ρ P :=
  sx_range1 (fun i ρ => I i ∧ Lt (S i) ρ) hp hc hgl hm (ax_cons ha ax_nil hst) hj hg h0 (fun i ρ1 hi ⟨w1, w2⟩ => by
    obtain ⟨ρ2, gv, sb⟩ := hs i hi w1
    exact ⟨ρ2, gv.weak w2, sb⟩) (fun ρ1 ⟨w1, w2⟩ => hd w1 ρ1 w2) hst hf
theorem sx_forL {α : Type} {tg iter : Expr} {g : TG} (l : List α) (emb : α → D) (I : Nat → Prop) (S : Nat → List Sl) (hp : PassesOwn (model X.prog X.w) X.A X.env X.xe) (hc : X.calm = true) (hi : EX X iter ρ (.sh (.lst (l.map emb)))) (hg : PG X tg g) (h0 : I 0 ∧ Lt (S 0) ρ)
    (hs : ∀ (i : Nat) (a : α), l[i]? = some a → I i → ∃ ρ2, Gv X.K g (S i) (.sh (emb a)) ρ2 ∧ SXs X W body ρ2 (turnS P I S i)) (hd : I l.length → ∀ ρ1, Lt (S l.length) ρ1 → P.nx ρ1)
    (hf : ∀ x, foldedSetIterable iter X.env x = pure x := by intro _; rfl) : SX X W (.For tg iter body [] pos) ρ P :=
  sx_for (fun i ρ => I i ∧ Lt (S i) ρ) hp hc hi hg h0 (fun i d ρ1 hi ⟨w1, w2⟩ => by
    rw [List.getElem?_map] at hi
    cases q : l[i]? with
    | none => rw [q] at hi; cases hi
    | some a =>
      rw [q] at hi
      cases hi
      obtain ⟨ρ2, gv, sb⟩ := hs i a q w1
      exact ⟨ρ2, gv.weak w2, sb⟩) (fun ρ1 ⟨w1, w2⟩ => hd (by rw [List.length_map] at w1; exact w1) ρ1 (by rw [List.length_map] at w2; exact w2)) hf
theorem sx_forTu {α : Type} {tg iter : Expr} {g : TG} (l : List α) (emb : α → D) (I : Nat → Prop) (S : Nat → List Sl) (hp : PassesOwn (model X.prog X.w) X.A X.env X.xe) (hc : X.calm = true) (hi : EX X iter ρ (.sh (.tup (l.map emb)))) (hg : PG X tg g) (h0 : I 0 ∧ Lt (S 0) ρ)
    (hs : ∀ (i : Nat) (a : α), l[i]? = some a → I i → ∃ ρ2, Gv X.K g (S i) (.sh (emb a)) ρ2 ∧ SXs X W body ρ2 (turnS P I S i)) (hd : I l.length → ∀ ρ1, Lt (S l.length) ρ1 → P.nx ρ1)
    (hf : ∀ x, foldedSetIterable iter X.env x = pure x := by intro _; rfl) : SX X W (.For tg iter body [] pos) ρ P :=
  sx_forT (fun i ρ => I i ∧ Lt (S i) ρ) hp hc hi hg h0 (fun i d ρ1 hi ⟨w1, w2⟩ => by
    rw [List.getElem?_map] at hi
    cases q : l[i]? with
    | none => rw [q] at hi; cases hi
    | some a =>
      rw [q] at hi
      cases hi
      obtain ⟨ρ2, gv, sb⟩ := hs i a q w1
      exact ⟨ρ2, gv.weak w2, sb⟩) (fun ρ1 ⟨w1, w2⟩ => hd (by rw [List.length_map] at w1; exact w1) ρ1 (by rw [List.length_map] at w2; exact w2)) hf
theorem sx_forC {tg iter : Expr} {g : TG} {z : Str} (I : Nat → Prop) (S : Nat → List Sl) (hp : PassesOwn (model X.prog X.w) X.A X.env X.xe) (hc : X.calm = true) (hi : EX X iter ρ (.sh (.str z))) (hg : PG X tg g) (h0 : I 0 ∧ Lt (S 0) ρ)
    (hs : ∀ (i c : Nat), z.cps[i]? = some c → I i → ∃ ρ2, Gv X.K g (S i) (.sh (.str ⟨#[c]⟩)) ρ2 ∧ SXs X W body ρ2 (turnS P I S i)) (hd : I z.cps.size → ∀ ρ1, Lt (S z.cps.size) ρ1 → P.nx ρ1)
    (hf : ∀ x, foldedSetIterable iter X.env x = pure x := by intro _; rfl) : SX X W (.For tg iter body [] pos) ρ P :=
  sx_forS (fun i ρ => I i ∧ Lt (S i) ρ) hp hc hi hg h0 (fun i c ρ1 hi ⟨w1, w2⟩ => by
    obtain ⟨ρ2, gv, sb⟩ := hs i c hi w1
    exact ⟨ρ2, gv.weak w2, sb⟩) (fun ρ1 ⟨w1, w2⟩ => hd w1 ρ1 w2) hf

theorem at_map {α : Type} {l : List α} {emb : α → D} {i : Int} {a : α} (e : atI l i = some a) : atI (l.map emb) i = some (emb a) := by
  unfold atI at e ⊢
  rw [List.length_map]
  cases q : ixN l.length i with
  | none => rw [q] at e; cases e
  | some j =>
    rw [q] at e
    have e : l[j]? = some a := e
    show (l.map emb)[j]? = some (emb a)
    rw [List.getElem?_map, e]; rfl
theorem at_pos {α : Type} {l : List α} {i : Int} (d : α) (h0 : 0 ≤ i) (h : i < l.length) : atI l i = some (l.getD i.toNat d) := by
  unfold atI ixN
  rw [if_pos h0, if_pos h]
  show l[i.toNat]? = _
  have : i.toNat < l.length := by omega
  rw [List.getElem?_eq_getElem this, List.getD_eq_getElem?_getD, List.getElem?_eq_getElem this]
  rfl
end
end PV
namespace PV
theorem Lt.eqq {s s' : Sl} {a b : List Sl} (e : s' = s) (h : Lt a b) : Lt (s' :: a) (s :: b) := Lt.eq' e h
end PV

namespace PV
open PySem PySem.Spec PyProof.Rows L2
def EqK (xs ys : List (Key × D)) : Prop := xs.length = ys.length ∧ ∀ p ∈ xs, ∃ d, getD ys p.1 = some d ∧ okD p.2 = true ∧ okD d = true ∧ PyData.eqv (toPy p.2) (toPy d) = true
def rEqK (K : PySem.W.Frag) (neg : Bool) : R2 := fun x y H Q => ∃ a b ks ls k1 k2, x = .ref a ∧ y = .ref b ∧ H a = some (.dK ks) ∧ H b = some (.dK ls) ∧ RpK K H ks k1 ∧ RpK K H ls k2 ∧ EqK k1 k2 ∧ Q (.bl (!neg)) H
section
variable {X : Cx} {pins : List (Addr × Obj)} {σ : L2.St} {H : Hp} {s : Shared}
theorem hits_of (I : Inv X pins σ H s) {A : Around} (hu : A.in1.units + 64 < cLine) {ls : List (Key × V)} {vb : List (Key × Value)} (rb : KV ls vb) {k2 : List (Key × D)} (r2 : RpK X.K H ls k2) :
    ∀ {ks : List (Key × V)} {va : List (Key × Value)} {k1 : List (Key × D)}, KV ks va → RpK X.K H ks k1 → (∀ p ∈ k1, ∃ d, getD k2 p.1 = some d ∧ okD p.2 = true ∧ okD d = true ∧ PyData.eqv (toPy p.2) (toPy d) = true) → PySem.W.KeqHits A.in1 s vb va true
  | [], _, _, ra, r1, _ => by cases ra; exact .nil
  | (k, v) :: ks, _, _, ra, r1, h => by
    unfold KV at ra
    cases ra with
    | @cons p q ps qs h1 t =>
      obtain ⟨h1, h2⟩ := h1
      obtain ⟨key, u⟩ := q
      cases r1 with
      | @cons _ k' v' vs d ds hd r1 =>
        obtain ⟨d2, g2, o1, o2, e⟩ := h (k, d) List.mem_cons_self
        obtain ⟨o11, o12⟩ := Bool.and_eq_true_iff.mp o1
        obtain ⟨o21, o22⟩ := Bool.and_eq_true_iff.mp o2
        rcases r2.get k with ⟨_, g3⟩ | ⟨v3, d3, g3, g4, rp3⟩
        · rw [g2] at g3; cases g3
        · rw [g2] at g4
          cases g4
          have rr : RelO (some v3) (valueAt vb k) := by rw [← g3]; exact rb.val k
          obtain ⟨y, hy, ry⟩ := rr.some_of
          have hk : k = key := h1
          subst hk
          obtain ⟨as, ra1⟩ := Dp.reads I _ _ u (hd.dp o11) h2
          obtain ⟨bs, rb1⟩ := Dp.reads I _ _ y (rp3.dp o21) ry
          have q := PySem.W.keq_at (A := A) ra1 rb1 o12 o22 hu
          rw [e] at q
          show PySem.W.KeqHits A.in1 s vb ((k, u) :: qs) (true && true)
          exact .hit hy q (hits_of I hu rb r2 t r1 fun p hp => h p (List.mem_cons_of_mem _ hp))
end
section
variable {X : Cx}
theorem op_neK (hu : X.A.units + 100 < cLine) : OpR X (compareOp .NotEq) (rEqK X.K true) := by
  intro pins s σ H x y v u Q I rx ry h
  obtain ⟨a, b, ks, ls, k1, k2, rfl, rfl, ha, hb, r1, r2, ⟨hl, he⟩, q⟩ := h
  cases (show v = Value.ref a from rx)
  cases (show u = Value.ref b from ry)
  obtain ⟨_, ya, va, ra, da⟩ := (show ObjOk X.prog X.w H s.heap a (.dK ks) from I.hok a _ ha)
  obtain ⟨_, yb, vb, rb, db⟩ := (show ObjOk X.prog X.w H s.heap b (.dK ls) from I.hok b _ hb)
  refine PySem.W.keq_ne (knd := mixKind X.prog X.w) (r := true) ya yb da db (by omega) (fun _ => hits_of I (by show X.A.units + 1 + 64 < cLine; omega) rb r2 ra r1 he) ?_
  have e : va.length = vb.length := by rw [← ra.length, ← rb.length, r1.len, r2.len]; exact hl
  rw [show (!(va.length == vb.length && true)) = false from by rw [e]; simp]
  exact ⟨.bl false, H, I, rfl, q⟩
theorem op_eqK (hu : X.A.units + 100 < cLine) : OpR X (compareOp .Eq) (rEqK X.K false) := by
  intro pins s σ H x y v u Q I rx ry h
  obtain ⟨a, b, ks, ls, k1, k2, rfl, rfl, ha, hb, r1, r2, ⟨hl, he⟩, q⟩ := h
  cases (show v = Value.ref a from rx)
  cases (show u = Value.ref b from ry)
  obtain ⟨_, ya, va, ra, da⟩ := (show ObjOk X.prog X.w H s.heap a (.dK ks) from I.hok a _ ha)
  obtain ⟨_, yb, vb, rb, db⟩ := (show ObjOk X.prog X.w H s.heap b (.dK ls) from I.hok b _ hb)
  refine PySem.W.keq_eq (knd := mixKind X.prog X.w) (r := true) ya yb da db (by omega) (fun _ => hits_of I (by show X.A.units + 1 + 64 < cLine; omega) rb r2 ra r1 he) ?_
  have e : va.length = vb.length := by rw [← ra.length, ← rb.length, r1.len, r2.len]; exact hl
  rw [show (va.length == vb.length && true) = true from by rw [e]; simp]
  exact ⟨.bl true, H, I, rfl, q⟩
theorem hu100 {A : Around} {k : Nat} (hr : Room k A) : A.units + 100 < cLine := by have := hr.un; omega
variable {ρ : List Sl} {pos : Pos} {a b : Expr}
theorem o2_K {K : PySem.W.Frag} {neg : Bool} {ra rb : Rs} {k1 k2 : List (Key × D)} (e1 : ra.dat = .dK k1) (e2 : rb.dat = .dK k2) (h : EqK k1 k2) : Op2 K (rEqK K neg) ra rb (.sh (.bl (!neg))) := fun H0 R H x y Q s _ rx ry k => by
  obtain ⟨p, ks, rfl, hp, r1⟩ := dk_of s rx e1
  obtain ⟨q, ls, rfl, hq, r2⟩ := dk_of s ry e2
  exact ⟨p, q, ks, ls, k1, k2, rfl, rfl, hp, hq, r1, r2, h, k _ R H s.step (Rp.bl _)⟩
theorem tx_neK {ra rb : Rs} {k1 k2 : List (Key × D)} (hu : X.A.units + 100 < cLine) (ha : EX X a ρ ra) (hb : EX X b ρ rb) (e1 : ra.dat = .dK k1) (e2 : rb.dat = .dK k2) (h : EqK k1 k2) : TX X (.Compare a [.NotEq] [b] pos) ρ false := tx_cmp (op_neK hu) (o2_K e1 e2 h) ha hb (nomark _)
theorem tx_eqK {ra rb : Rs} {k1 k2 : List (Key × D)} (hu : X.A.units + 100 < cLine) (ha : EX X a ρ ra) (hb : EX X b ρ rb) (e1 : ra.dat = .dK k1) (e2 : rb.dat = .dK k2) (h : EqK k1 k2) : TX X (.Compare a [.Eq] [b] pos) ρ true := tx_cmp (op_eqK hu) (o2_K e1 e2 h) ha hb (nomark _)
end
section
variable {X : Cx} {W : L2.WX} {ρ : List Sl} {pos : Pos} {c : Expr} {P : Post} {t u : List Stmt}
theorem sx_ifJ (S : List Sl) {k : Bool} (hc : TX X c ρ k) (h1 : k = true → SXs X W t ρ ⟨fun ρ' => Lt S ρ', P.rt, P.bk, P.ct, P.ex⟩) (h2 : k = false → SXs X W u ρ ⟨fun ρ' => Lt S ρ', P.rt, P.bk, P.ct, P.ex⟩) (h : ∀ ρ', Lt S ρ' → P.nx ρ') : SX X W (.If c t u pos) ρ P :=
  sx_if hc (fun e => (h1 e).imp h (fun _ _ z => z) (fun _ z => z) (fun _ z => z) fun _ _ z => z) (fun e => (h2 e).imp h (fun _ _ z => z) (fun _ z => z) (fun _ z => z) fun _ _ z => z)
theorem tx_seq {e : Expr} {r : Rs} {ds : List D} (h : EX X e ρ r) (e1 : sq r.dat = some ds) (he : ∀ whole, isTrue e X.env whole = (do let v ← whole; standAt e.pos; holding [v] (truthy v)) := by intro _; rfl) : TX X e ρ (!ds.isEmpty) :=
  .of (pt_truth pe_sem he) fun B R0 R σ H Q s k => h B R0 R σ H _ s fun v R1 H1 t1 q1 => by
    obtain ⟨p, ys, rfl, h1, h2⟩ := sq_of (q1.rp t1.sub) e1
    refine ⟨!ds.isEmpty, ?_, k R1 H1 t1⟩
    have e : (!ys.isEmpty) = (!ds.isEmpty) := by cases h2 <;> rfl
    rw [← e]
    rcases h1 with h1 | h1
    · exact .inl ⟨ys, h1, rfl⟩
    · exact .inr (.inl ⟨ys, h1, rfl⟩)
end
theorem Str.len_app (a b : Str) : (a ++ b).length = a.length + b.length := by
  show (a.cps ++ b.cps).size = _
  rw [Array.size_append]; rfl
end PV

namespace PV
open PySem PySem.Spec PyProof.Rows L2
section
variable {X : Cx} {W : L2.WX} {ρ : List Sl} {pos : Pos} {CX : CXT} {E : XK} {k : Nat} {f : Addr} {fd : FuncData} {ps : List Str} {Rel : List D → Rs → Prop} {x : Str} {p : Pos} {r : Rs}
theorem ex_call1 {e0 : Expr} {d0 : D} (F : FnOk X.prog X.w X.K X.mg X.base CX k f fd ps (spR X.K Rel)) (hr : Room k X.A) (hg : Gl X x) (hm : X.mg x = some (.ref f)) (hk : PySem.W.keepIn X.K (.ref f) = true) (hb : Binds X.K fd ps []) (hx : Passes CX X E)
    (ha : AX X [e0] ρ [.sh d0]) (hR : Rel [d0] r) (hdb : (x == ("__debug__" : Str)) = false := by decide) (he : starEach [e0] X.env = (false, eval e0 X.env) :: starEach [] X.env := by rfl) (hpl : (backTo pos (starEach [] X.env)).any (·.1) = false := by rfl) :
    EX X (.Call (.Name x p) [e0] [] pos) ρ r := ex_call (ds := [d0]) F hr hg hm hk hb hx ha hR hdb he hpl
theorem ex_call2 {e0 e1 : Expr} {d0 d1 : D} (F : FnOk X.prog X.w X.K X.mg X.base CX k f fd ps (spR X.K Rel)) (hr : Room k X.A) (hg : Gl X x) (hm : X.mg x = some (.ref f)) (hk : PySem.W.keepIn X.K (.ref f) = true) (hb : Binds X.K fd ps []) (hx : Passes CX X E)
    (ha : AX X [e0, e1] ρ [.sh d0, .sh d1]) (hR : Rel [d0, d1] r) (hdb : (x == ("__debug__" : Str)) = false := by decide) (he : starEach [e0, e1] X.env = (false, eval e0 X.env) :: starEach [e1] X.env := by rfl) (hpl : (backTo pos (starEach [e1] X.env)).any (·.1) = false := by rfl) :
    EX X (.Call (.Name x p) [e0, e1] [] pos) ρ r := ex_call (ds := [d0, d1]) F hr hg hm hk hb hx ha hR hdb he hpl
theorem ex_call3 {e0 e1 e2 : Expr} {d0 d1 d2 : D} (F : FnOk X.prog X.w X.K X.mg X.base CX k f fd ps (spR X.K Rel)) (hr : Room k X.A) (hg : Gl X x) (hm : X.mg x = some (.ref f)) (hk : PySem.W.keepIn X.K (.ref f) = true) (hb : Binds X.K fd ps []) (hx : Passes CX X E)
    (ha : AX X [e0, e1, e2] ρ [.sh d0, .sh d1, .sh d2]) (hR : Rel [d0, d1, d2] r) (hdb : (x == ("__debug__" : Str)) = false := by decide) (he : starEach [e0, e1, e2] X.env = (false, eval e0 X.env) :: starEach [e1, e2] X.env := by rfl) (hpl : (backTo pos (starEach [e1, e2] X.env)).any (·.1) = false := by rfl) :
    EX X (.Call (.Name x p) [e0, e1, e2] [] pos) ρ r := ex_call (ds := [d0, d1, d2]) F hr hg hm hk hb hx ha hR hdb he hpl
theorem ex_call4 {e0 e1 e2 e3 : Expr} {d0 d1 d2 d3 : D} (F : FnOk X.prog X.w X.K X.mg X.base CX k f fd ps (spR X.K Rel)) (hr : Room k X.A) (hg : Gl X x) (hm : X.mg x = some (.ref f)) (hk : PySem.W.keepIn X.K (.ref f) = true) (hb : Binds X.K fd ps []) (hx : Passes CX X E)
    (ha : AX X [e0, e1, e2, e3] ρ [.sh d0, .sh d1, .sh d2, .sh d3]) (hR : Rel [d0, d1, d2, d3] r) (hdb : (x == ("__debug__" : Str)) = false := by decide) (he : starEach [e0, e1, e2, e3] X.env = (false, eval e0 X.env) :: starEach [e1, e2, e3] X.env := by rfl) (hpl : (backTo pos (starEach [e1, e2, e3] X.env)).any (·.1) = false := by rfl) :
    EX X (.Call (.Name x p) [e0, e1, e2, e3] [] pos) ρ r := ex_call (ds := [d0, d1, d2, d3]) F hr hg hm hk hb hx ha hR hdb he hpl
theorem ex_call5 {e0 e1 e2 e3 e4 : Expr} {d0 d1 d2 d3 d4 : D} (F : FnOk X.prog X.w X.K X.mg X.base CX k f fd ps (spR X.K Rel)) (hr : Room k X.A) (hg : Gl X x) (hm : X.mg x = some (.ref f)) (hk : PySem.W.keepIn X.K (.ref f) = true) (hb : Binds X.K fd ps []) (hx : Passes CX X E)
    (ha : AX X [e0, e1, e2, e3, e4] ρ [.sh d0, .sh d1, .sh d2, .sh d3, .sh d4]) (hR : Rel [d0, d1, d2, d3, d4] r) (hdb : (x == ("__debug__" : Str)) = false := by decide) (he : starEach [e0, e1, e2, e3, e4] X.env = (false, eval e0 X.env) :: starEach [e1, e2, e3, e4] X.env := by rfl) (hpl : (backTo pos (starEach [e1, e2, e3, e4] X.env)).any (·.1) = false := by rfl) :
    EX X (.Call (.Name x p) [e0, e1, e2, e3, e4] [] pos) ρ r := ex_call (ds := [d0, d1, d2, d3, d4]) F hr hg hm hk hb hx ha hR hdb he hpl
theorem ex_call6 {e0 e1 e2 e3 e4 e5 : Expr} {d0 d1 d2 d3 d4 d5 : D} (F : FnOk X.prog X.w X.K X.mg X.base CX k f fd ps (spR X.K Rel)) (hr : Room k X.A) (hg : Gl X x) (hm : X.mg x = some (.ref f)) (hk : PySem.W.keepIn X.K (.ref f) = true) (hb : Binds X.K fd ps []) (hx : Passes CX X E)
    (ha : AX X [e0, e1, e2, e3, e4, e5] ρ [.sh d0, .sh d1, .sh d2, .sh d3, .sh d4, .sh d5]) (hR : Rel [d0, d1, d2, d3, d4, d5] r) (hdb : (x == ("__debug__" : Str)) = false := by decide) (he : starEach [e0, e1, e2, e3, e4, e5] X.env = (false, eval e0 X.env) :: starEach [e1, e2, e3, e4, e5] X.env := by rfl) (hpl : (backTo pos (starEach [e1, e2, e3, e4, e5] X.env)).any (·.1) = false := by rfl) :
    EX X (.Call (.Name x p) [e0, e1, e2, e3, e4, e5] [] pos) ρ r := ex_call (ds := [d0, d1, d2, d3, d4, d5]) F hr hg hm hk hb hx ha hR hdb he hpl
theorem ex_tup0 {x1} (h : AX X [] ρ []) : EX X (.Tuple [] x1 pos) ρ (.sh (.tup [])) := ex_tup (ds := []) h (by show 0 ≤ sizeLine; decide)
theorem ex_lst0 (h : AX X [] ρ []) : EX X (.List [] pos) ρ (.nw (.lst [])) := ex_lst (ds := []) h (by show 0 ≤ sizeLine; decide)
theorem ex_tup1 {e0 : Expr} {d0 : D} {x1} (h : AX X [e0] ρ [.sh d0]) : EX X (.Tuple [e0] x1 pos) ρ (.sh (.tup [d0])) := ex_tup (ds := [d0]) h (by show 1 ≤ sizeLine; decide)
theorem ex_lst1 {e0 : Expr} {d0 : D} (h : AX X [e0] ρ [.sh d0]) : EX X (.List [e0] pos) ρ (.nw (.lst [d0])) := ex_lst (ds := [d0]) h (by show 1 ≤ sizeLine; decide)
theorem ex_tup2 {e0 e1 : Expr} {d0 d1 : D} {x1} (h : AX X [e0, e1] ρ [.sh d0, .sh d1]) : EX X (.Tuple [e0, e1] x1 pos) ρ (.sh (.tup [d0, d1])) := ex_tup (ds := [d0, d1]) h (by show 2 ≤ sizeLine; decide)
theorem ex_lst2 {e0 e1 : Expr} {d0 d1 : D} (h : AX X [e0, e1] ρ [.sh d0, .sh d1]) : EX X (.List [e0, e1] pos) ρ (.nw (.lst [d0, d1])) := ex_lst (ds := [d0, d1]) h (by show 2 ≤ sizeLine; decide)
theorem ex_tup3 {e0 e1 e2 : Expr} {d0 d1 d2 : D} {x1} (h : AX X [e0, e1, e2] ρ [.sh d0, .sh d1, .sh d2]) : EX X (.Tuple [e0, e1, e2] x1 pos) ρ (.sh (.tup [d0, d1, d2])) := ex_tup (ds := [d0, d1, d2]) h (by show 3 ≤ sizeLine; decide)
theorem ex_lst3 {e0 e1 e2 : Expr} {d0 d1 d2 : D} (h : AX X [e0, e1, e2] ρ [.sh d0, .sh d1, .sh d2]) : EX X (.List [e0, e1, e2] pos) ρ (.nw (.lst [d0, d1, d2])) := ex_lst (ds := [d0, d1, d2]) h (by show 3 ≤ sizeLine; decide)
theorem ex_tup4 {e0 e1 e2 e3 : Expr} {d0 d1 d2 d3 : D} {x1} (h : AX X [e0, e1, e2, e3] ρ [.sh d0, .sh d1, .sh d2, .sh d3]) : EX X (.Tuple [e0, e1, e2, e3] x1 pos) ρ (.sh (.tup [d0, d1, d2, d3])) := ex_tup (ds := [d0, d1, d2, d3]) h (by show 4 ≤ sizeLine; decide)
theorem ex_lst4 {e0 e1 e2 e3 : Expr} {d0 d1 d2 d3 : D} (h : AX X [e0, e1, e2, e3] ρ [.sh d0, .sh d1, .sh d2, .sh d3]) : EX X (.List [e0, e1, e2, e3] pos) ρ (.nw (.lst [d0, d1, d2, d3])) := ex_lst (ds := [d0, d1, d2, d3]) h (by show 4 ≤ sizeLine; decide)
theorem ex_tup5 {e0 e1 e2 e3 e4 : Expr} {d0 d1 d2 d3 d4 : D} {x1} (h : AX X [e0, e1, e2, e3, e4] ρ [.sh d0, .sh d1, .sh d2, .sh d3, .sh d4]) : EX X (.Tuple [e0, e1, e2, e3, e4] x1 pos) ρ (.sh (.tup [d0, d1, d2, d3, d4])) := ex_tup (ds := [d0, d1, d2, d3, d4]) h (by show 5 ≤ sizeLine; decide)
theorem ex_lst5 {e0 e1 e2 e3 e4 : Expr} {d0 d1 d2 d3 d4 : D} (h : AX X [e0, e1, e2, e3, e4] ρ [.sh d0, .sh d1, .sh d2, .sh d3, .sh d4]) : EX X (.List [e0, e1, e2, e3, e4] pos) ρ (.nw (.lst [d0, d1, d2, d3, d4])) := ex_lst (ds := [d0, d1, d2, d3, d4]) h (by show 5 ≤ sizeLine; decide)
end
end PV
namespace PV
open PySem PySem.Spec PyProof.Rows L2
section
variable {X : Cx} {W : L2.WX} {ρ : List Sl} {pos : Pos} {a b c e o : Expr} {P : Post}
theorem ex_dget2S {r : Rs} {kds : List (Key × D)} {k : Str} {d d' : D} {f : Expr} {apos cpos : Pos} (hu : X.A.units + 1 < cLine) (ho : EX X o ρ r) (e1 : r.dat = .dK kds) (hk : EX X e ρ (.sh (.str k))) (hf : EX X f ρ (.sh d)) (he : (getD kds (.inr k)).getD d = d') (hi : imm d' = true) (m : M2 X o "get" apos e f cpos) :
    EX X (.Call (.Attribute o "get" apos) [e, f] [] cpos) ρ (.sh d') := he ▸ ex_dget2 (k := .inr k) hu ho e1 hk hf (he ▸ hi) m
theorem ex_dgetS {r : Rs} {kds : List (Key × D)} {k : Str} {d : D} (hu : X.A.units + 1 < cLine) (ho : EX X o ρ r) (e1 : r.dat = .dK kds) (hk : EX X e ρ (.sh (.str k))) (hg : getD kds (.inr k) = some d) (hi : imm d = true) (hs : NoSl e := by exact fun _ _ => rfl) :
    EX X (.Subscript o e pos) ρ (.sh d) := ex_dget (k := .inr k) hu ho e1 hk hg hi hs
theorem ex_dinS {r : Rs} {kds : List (Key × D)} {k : Str} (hu : X.A.units + 1 < cLine) (hk : EX X e ρ (.sh (.str k))) (ho : EX X o ρ r) (e1 : r.dat = .dK kds) (hm : behindInMarks .In o = false := by rfl) : EX X (.Compare e [.In] [o] pos) ρ (.sh (.bl (getD kds (.inr k)).isSome)) := ex_din (k := .inr k) hu hk ho e1 hm
theorem tx_dinS {r : Rs} {kds : List (Key × D)} {k : Str} (hu : X.A.units + 1 < cLine) (hk : EX X e ρ (.sh (.str k))) (ho : EX X o ρ r) (e1 : r.dat = .dK kds) (hm : behindInMarks .In o = false := by rfl) : TX X (.Compare e [.In] [o] pos) ρ (getD kds (.inr k)).isSome := tx_din (k := .inr k) hu hk ho e1 hm
theorem tx_dnotinS {r : Rs} {kds : List (Key × D)} {k : Str} (hu : X.A.units + 1 < cLine) (hk : EX X e ρ (.sh (.str k))) (ho : EX X o ρ r) (e1 : r.dat = .dK kds) (hm : behindInMarks .NotIn o = false := by rfl) : TX X (.Compare e [.NotIn] [o] pos) ρ (!(getD kds (.inr k)).isSome) := tx_dnotin (k := .inr k) hu hk ho e1 hm
theorem sx_dputS {i : Nat} {ix val : Expr} {kds : List (Key × D)} {k : Str} {d : D} {p' : Pos} (hu : X.A.units + 1 < cLine) (po : PE X o (tVar i)) (hi : ρ[i]? = some (.ow (.dK kds))) (hv : EX X val ρ (.sh d)) (hk : EX X ix ρ (.sh (.str k))) (hl : kds.length < sizeLine) (h : P.nx ((dr ρ).set i (.ow (.dK (putD kds (.inr k) d)))))
    (hs : swapsWith val (some (.Subscript o ix p')) pos.line X.env = pure false := by rfl) : SX X W (.Assign [.Subscript o ix p'] val pos) ρ P := sx_dput (k := .inr k) hu po hi hv hk hl h hs
end
end PV
namespace PV
open PySem PySem.Spec PyProof.Rows L2
def isI : D → Bool
  | .int _ => true | .bl _ => true | _ => false
def isB : D → Bool
  | .bl _ => true | _ => false
def isS : D → Bool
  | .str _ => true | _ => false
def isL : D → Bool
  | .lst _ => true | .scr _ => true | _ => false
def isTu : D → Bool
  | .tup _ => true | .key _ => true | _ => false
def isDi : D → Bool
  | .dK _ => true | .dT _ => true | _ => false
theorem kit_I (d : D) : kitB (tyD d) "int" = some (isI d) := by
  have h1 : kitB "NoneType" "int" = some (isI .non) := by decide +kernel
  have h2 : kitB "bool" "int" = some (isI (.bl true)) := by decide +kernel
  have h3 : kitB "int" "int" = some (isI (.int 0)) := by decide +kernel
  have h4 : kitB "str" "int" = some (isI (.str "")) := by decide +kernel
  have h5 : kitB "list" "int" = some (isI (.lst [])) := by decide +kernel
  have h6 : kitB "tuple" "int" = some (isI (.tup [])) := by decide +kernel
  have h7 : kitB "dict" "int" = some (isI (.dK [])) := by decide +kernel
  cases d <;> assumption
theorem kit_B (d : D) : kitB (tyD d) "bool" = some (isB d) := by
  have h1 : kitB "NoneType" "bool" = some (isB .non) := by decide +kernel
  have h2 : kitB "bool" "bool" = some (isB (.bl true)) := by decide +kernel
  have h3 : kitB "int" "bool" = some (isB (.int 0)) := by decide +kernel
  have h4 : kitB "str" "bool" = some (isB (.str "")) := by decide +kernel
  have h5 : kitB "list" "bool" = some (isB (.lst [])) := by decide +kernel
  have h6 : kitB "tuple" "bool" = some (isB (.tup [])) := by decide +kernel
  have h7 : kitB "dict" "bool" = some (isB (.dK [])) := by decide +kernel
  cases d <;> assumption
theorem kit_S (d : D) : kitB (tyD d) "str" = some (isS d) := by
  have h1 : kitB "NoneType" "str" = some (isS .non) := by decide +kernel
  have h2 : kitB "bool" "str" = some (isS (.bl true)) := by decide +kernel
  have h3 : kitB "int" "str" = some (isS (.int 0)) := by decide +kernel
  have h4 : kitB "str" "str" = some (isS (.str "")) := by decide +kernel
  have h5 : kitB "list" "str" = some (isS (.lst [])) := by decide +kernel
  have h6 : kitB "tuple" "str" = some (isS (.tup [])) := by decide +kernel
  have h7 : kitB "dict" "str" = some (isS (.dK [])) := by decide +kernel
  cases d <;> assumption
theorem kit_L (d : D) : kitB (tyD d) "list" = some (isL d) := by
  have h1 : kitB "NoneType" "list" = some (isL .non) := by decide +kernel
  have h2 : kitB "bool" "list" = some (isL (.bl true)) := by decide +kernel
  have h3 : kitB "int" "list" = some (isL (.int 0)) := by decide +kernel
  have h4 : kitB "str" "list" = some (isL (.str "")) := by decide +kernel
  have h5 : kitB "list" "list" = some (isL (.lst [])) := by decide +kernel
  have h6 : kitB "tuple" "list" = some (isL (.tup [])) := by decide +kernel
  have h7 : kitB "dict" "list" = some (isL (.dK [])) := by decide +kernel
  cases d <;> assumption
theorem kit_Tu (d : D) : kitB (tyD d) "tuple" = some (isTu d) := by
  have h1 : kitB "NoneType" "tuple" = some (isTu .non) := by decide +kernel
  have h2 : kitB "bool" "tuple" = some (isTu (.bl true)) := by decide +kernel
  have h3 : kitB "int" "tuple" = some (isTu (.int 0)) := by decide +kernel
  have h4 : kitB "str" "tuple" = some (isTu (.str "")) := by decide +kernel
  have h5 : kitB "list" "tuple" = some (isTu (.lst [])) := by decide +kernel
  have h6 : kitB "tuple" "tuple" = some (isTu (.tup [])) := by decide +kernel
  have h7 : kitB "dict" "tuple" = some (isTu (.dK [])) := by decide +kernel
  cases d <;> assumption
theorem kit_Di (d : D) : kitB (tyD d) "dict" = some (isDi d) := by
  have h1 : kitB "NoneType" "dict" = some (isDi .non) := by decide +kernel
  have h2 : kitB "bool" "dict" = some (isDi (.bl true)) := by decide +kernel
  have h3 : kitB "int" "dict" = some (isDi (.int 0)) := by decide +kernel
  have h4 : kitB "str" "dict" = some (isDi (.str "")) := by decide +kernel
  have h5 : kitB "list" "dict" = some (isDi (.lst [])) := by decide +kernel
  have h6 : kitB "tuple" "dict" = some (isDi (.tup [])) := by decide +kernel
  have h7 : kitB "dict" "dict" = some (isDi (.dK [])) := by decide +kernel
  cases d <;> assumption
section
variable {X : Cx} {W : L2.WX} {ρ : List Sl} {pos p pT : Pos} {e : Expr} {T : Str} {n : String} {r : Rs} {f : D → Bool}
theorem ex_isF {d : D} (hk : ∀ d, kitB (tyD d) n = some (f d)) (hg : Gl X "isinstance") (hm : X.mg "isinstance" = none) (hgT : Gl X T) (hmT : X.mg T = none) (hvT : bootBuiltins T = some (.type n)) (hx : EX X e ρ r) (nf : noFn r.dat = true) (hd : r.dat = d := by rfl)
    (hnT : T ≠ "__name__" := by decide) (hdT : (T == ("__debug__" : Str)) = false := by decide)
    (hs : starEach [e, .Name T pT] X.env = (false, eval e X.env) :: starEach [.Name T pT] X.env := by rfl) (hs2 : starEach [.Name T pT] X.env = (false, eval (.Name T pT) X.env) :: starEach [] X.env := by rfl) (hpl : (backTo pos (starEach [.Name T pT] X.env)).any (·.1) = false := by rfl) :
    EX X (.Call (.Name "isinstance" p) [e, .Name T pT] [] pos) ρ (.sh (.bl (f d))) := hd ▸ ex_isi hg hm hgT hmT hvT hx (hk r.dat) nf hnT hdT hs hs2 hpl
end
end PV

namespace PV
open PySem PySem.Spec PyProof.Rows L2 GxR

def ElG (X : Cx) (scope : Scope) (x : Str) (elt : Expr) (pb : Nat → Bool) : Prop :=
  ∀ (ce : Env) (A2 : Around) (E2 : Value → Shared → Prop) (n : Nat) (t : Tok) (z : Shared) (ml : Str → Option Value),
    ce.scope = scope → ce.globals = X.env.globals → z.heap.Ns X.env.globals X.mg →
    z.heap.Ns ce.locals ml → ml x = some (.str ⟨#[n]⟩ t) →
    wpAny (model X.prog X.w) A2 (eval elt ce) (fun y z2 => y = .bool (pb n) ∧ Keeps z z2) E2 z
theorem elG_in {X : Cx} {scope : Scope} {x g k : Str} {tk : Tok} {p1 p2 p3 : Pos}
    (kd : scope.kind = .function) (lx : scope.names.lookup x = some .local)
    (lg : scope.names.lookup g = some .globalImplicit) (hm : X.mg g = some (.str k tk))
    (dx : (x == ("__debug__" : Str)) = false := by decide) (dg : (g == ("__debug__" : Str)) = false := by decide) :
    ElG X scope x (.Compare (.Name x p1) [.In] [.Name g p2] p3) fun n => decide (n ∈ k.cps.toList) := by
  intro ce A2 E2 n t z ml es eg ng nl hx
  have kd2 : ce.scope.kind = .function := by rw [es]; exact kd
  refine wpAny_Compare1 (wpAny_Name (wpAny_loadName_local kd2 ?_ nl hx ?_) dx)
  · show ce.scope.names.lookup x = _
    rw [es]; exact lx
  · refine Calls.Name_function_global kd2 ?_ (Calls.loadGlobal_global (by rw [eg]; exact ng) hm ?_) dg
    · show ce.scope.names.lookup g = _
      rw [es]; exact lg
    · exact PySem.P.in_str ⟨by rw [StrLaws.found_one], keeps_refl z⟩

section
variable {Pg : Program} {w : World} {mg : Str → Option Value} {base : Heap} {K : PySem.W.Frag} {q nm : Str} {params : Arguments} {bd : List Stmt} {scope : Scope} {kws : List (Str × V)} {fd : FuncData} {N ps : List Str} {k : Nat} {Rel : List D → Rs → Prop} {p : Str × Option Str}
theorem ok_fnC (F : FunD K nm q params bd scope [] kws (He.fAd K p) fd) (S : FnScope N ps scope) (len : ∀ ds r, Rel ds r → ds.length = ps.length)
    (h : ∀ (A : Around) (outer : List Env) (s : Shared) (H : Hp) (ds : List D) (r : Rs) (E : XK) (W : L2.WX), Room k (A.deeper (envOfC q scope s.heap.objs.size (He.fAd K p) (.ref (He.cT K p).1))) → Rel ds r →
      SXs (cxOf CX0 Pg w K mg base N q scope (He.fAd K p) (.ref (He.cT K p).1) A outer s H E).nox W bd (begin N ds) ⟨fun _ => r = .sh .non, fun r' _ => r' = r, fun _ => False, fun _ => False, fun _ _ => False⟩) : FnOk Pg w K mg base CX0 (k + 1) (He.fAd K p) fd ps (spR K Rel) := by
  obtain ⟨oc, od, dV, kV, doc, pm, an, cdv, ct, osl, rfl, lk, hcd, _, _⟩ := F.ex
  obtain ⟨c, rfl⟩ := He.codeIn_ref hcd
  have ec : He.codeOf K p = c := He.codeOf_eq lk rfl
  refine fn_of lk hcd S (fun vs H Q E hs => ?_) fun A outer s H vs Q E hr hs => ?_
  · obtain ⟨R0, ds, r, _, _, h1, h2, _⟩ := hs
    rw [h1.len, len ds r h2]
  · obtain ⟨R0, ds, r, tb, h0, h1, h2, kk⟩ := hs
    have h := h A outer s H ds r E (fun _ _ _ _ => True)
    rw [show (He.cT K p).1 = c from ec] at h
    refine ⟨_, PSs.nox pss_sem, h hr h2 H R0 R0 _ H _ (begin_st tb h0 h1) ⟨fun ρ' R' σ' H' e s' => ?_, fun r' ρ' v R' σ' H' e s' q => ?_, fun _ _ _ _ z => z.elim, fun _ _ _ _ z => z.elim, fun _ _ _ _ _ z => z.elim⟩⟩
    · subst e
      exact kk _ R' H' s'.stp Rp.non
    · subst e
      exact kk v R' H' s'.stp q
end
end PV

namespace PV
open PySem PySem.Spec PyProof.Rows L2 GxR
section
variable {X : Cx} {W : L2.WX} {ρ : List Sl} {pos : Pos} {a b : Expr} {c : Nat} {z : Str}
theorem ex_inS (ha : EX X a ρ (.sh (.str ⟨#[c]⟩))) (hb : EX X b ρ (.sh (.str z))) (hm : behindInMarks .In b = false := by rfl) : EX X (.Compare a [.In] [b] pos) ρ (.sh (.bl (decide (c ∈ z.cps.toList)))) :=
  ex_cmp op_in_str (fun H0 R H x y Q s _ rx ry k => ⟨⟨#[c]⟩, z, Res.str s rx rfl, Res.str s ry rfl, by rw [StrLaws.found_one]; exact k _ R H s.step (Rp.bl _)⟩) ha hb hm
theorem tx_inS (ha : EX X a ρ (.sh (.str ⟨#[c]⟩))) (hb : EX X b ρ (.sh (.str z))) (hm : behindInMarks .In b = false := by rfl) : TX X (.Compare a [.In] [b] pos) ρ (decide (c ∈ z.cps.toList)) :=
  tx_cmp op_in_str (fun H0 R H x y Q s _ rx ry k => ⟨⟨#[c]⟩, z, Res.str s rx rfl, Res.str s ry rfl, by rw [StrLaws.found_one]; exact k _ R H s.step (Rp.bl _)⟩) ha hb hm
theorem tx_notinS (ha : EX X a ρ (.sh (.str ⟨#[c]⟩))) (hb : EX X b ρ (.sh (.str z))) (hm : behindInMarks .NotIn b = false := by rfl) : TX X (.Compare a [.NotIn] [b] pos) ρ (!decide (c ∈ z.cps.toList)) :=
  tx_cmp op_notin_str (fun H0 R H x y Q s _ rx ry k => ⟨⟨#[c]⟩, z, Res.str s rx rfl, Res.str s ry rfl, by rw [StrLaws.found_one]; exact k _ R H s.step (Rp.bl _)⟩) ha hb hm
theorem genS_of {env : Env} {scope : Scope} {x : Str} (h1 : scope.kind = .function) (h2 : scope.isCoroutine = false) (h3 : (scope.names.all fun y => !decide (y.2 = .cell) && !decide (y.2 = .free)) = true)
    (h4 : scope.names.lookup (".0" : Str) = some NameKind.local) (h5 : scope.names.lookup x = some .local) : GenS env scope x := by
  have k : ∀ y ∈ scope.names, y.2 ≠ .cell ∧ y.2 ≠ .free := fun y hy => by
    have q := List.all_eq_true.mp h3 y hy
    obtain ⟨q1, q2⟩ := Bool.and_eq_true_iff.mp q
    simp at q1 q2
    exact ⟨q1, q2⟩
  exact ⟨h1, h2, fun y hy => (k y hy).1, h4, h5, fun y hy e => absurd e (k y hy).2⟩
end
theorem cutS_lo {z : Str} {i : Int} (h0 : 0 ≤ i) (h : i ≤ z.length) : (cutS z none (some i)).length = i.toNat := by
  show (((z.cps.toList.drop (HT.sIx z.length 0 none)).take (HT.sIx z.length z.length (some i) - HT.sIx z.length 0 none)).toArray).size = _
  have e : HT.sIx z.length z.length (some i) = i.toNat := by
    show (if i < 0 then _ else min i.toNat z.length) = _
    rw [if_neg (by omega)]; omega
  rw [e, HT.sIx_none, List.drop_zero, List.size_toArray, List.length_take, Array.length_toList]
  have : z.length = z.cps.size := rfl
  omega
theorem cutS_hi {z : Str} {i : Int} (h0 : 0 ≤ i) (h : i ≤ z.length) : (cutS z (some i) none).length = z.length - i.toNat := by
  show (((z.cps.toList.drop (HT.sIx z.length 0 (some i))).take (HT.sIx z.length z.length none - HT.sIx z.length 0 (some i))).toArray).size = _
  have e : HT.sIx z.length 0 (some i) = i.toNat := by
    show (if i < 0 then _ else min i.toNat z.length) = _
    rw [if_neg (by omega)]; omega
  rw [e, HT.sIx_none, List.size_toArray, List.length_take, List.length_drop, Array.length_toList]
  have : z.length = z.cps.size := rfl
  omega
end PV
namespace PV
open PySem PySem.Spec PyProof.Rows
theorem noTriples : TriplesOk (#[] : Array Value).toList := by
  first | trivial | decide | exact fun _ h => nomatch h | (intro _ h; cases h) | simp [TriplesOk]
end PV

namespace PV
open PySem PySem.Spec PyProof.Rows L2
section
variable {X : Cx} {W : L2.WX} {ρ : List Sl} {pos : Pos} {e o ix : Expr} {es : List Expr} {K : PySem.W.Frag} {P : Post}
theorem Ev.ndL {t : TE} {ds : List D} (h : Ev K t ρ (.nw (.lst ds))) (hi : immA ds = true) : Ev K t ρ (.nd (.lst ds)) := fun B R0 R σ H Q s k => h B R0 R σ H Q s fun v R' H' st hr => by
  obtain ⟨p, rfl, n, hn, u, hu, od⟩ := hr
  cases u <;> first | exact od.elim | skip
  refine k _ R' H' st ⟨[p], .lst hu (OwA.leafs od hi) (fun z => nomatch z), fun q hq => ?_⟩
  rw [List.mem_singleton.mp hq]
  exact ⟨n, hn⟩
theorem Ev.ndI {t : TE} {r : Rs} (h : Ev K t ρ r) (hi : PV.imm r.dat = true) : Ev K t ρ (.nd r.dat) := fun B R0 R σ H Q s k => (Ev.imm h hi) B R0 R σ H Q s fun v R' H' st hr =>
  k v R' H' st ⟨[], .leaf hr hi, fun q hq => nomatch hq⟩
theorem ex_ndL {ds : List D} (h : EX X e ρ (.nw (.lst ds))) (hi : immA ds = true) : EX X e ρ (.nd (.lst ds)) := Ev.ndL h hi
theorem ex_ndI {r : Rs} (h : EX X e ρ r) (hi : PV.imm r.dat = true) : EX X e ρ (.nd r.dat) := Ev.ndI h hi
def NdA (K : PySem.W.Frag) (H R' H' : Hp) (vs : List V) (ds : List D) (f : List Addr) : Prop := OwA K R' H' vs ds f ∧ ∀ p ∈ f, H p = none ∧ R' p = none
def AN (X : Cx) (es : List Expr) (ρ : List Sl) (ds : List D) : Prop := ∀ B R0 R σ H (Q : List V → Hp → Prop), St X.K B R0 R ρ σ H → (∀ vs R' H' f, Step R H R' H' → NdA X.K H R' H' vs ds f → Q vs H') → tA X es σ H Q
theorem AN.of {t : TA} {ds : List D} (p : PA X es t) (h : ∀ B R0 R σ H (Q : List V → Hp → Prop), St X.K B R0 R ρ σ H → (∀ vs R' H' f, Step R H R' H' → NdA X.K H R' H' vs ds f → Q vs H') → t σ H Q) : AN X es ρ ds := fun B R0 R σ H Q s k pos pins sh I => p.run pos pins sh σ H Q I (h B R0 R σ H Q s k)
theorem an_nil : AN X [] ρ [] := .of pa_nil fun B R0 R σ H Q s k => k [] R H [] s.sub.step ⟨.nil, fun q hq => nomatch hq⟩
theorem an_cons {d : D} {ds : List D} (ha : EX X e ρ (.nd d)) (hr : AN X es ρ ds) (hs : starEach (e :: es) X.env = (false, eval e X.env) :: starEach es X.env := by rfl) : AN X (e :: es) ρ (d :: ds) :=
  .of (pa_cons pe_sem pa_sem hs) fun B R0 R σ H Q s k => ha B R0 R σ H _ s fun x R1 H1 s1 ⟨f1, w1⟩ => hr B R0 R1 σ H1 _ (s.step s1) fun vs R2 H2 f2 s2 w2 => by
    have w1' := w1.step s2
    refine k _ R2 H2 (f1 ++ f2) (s1.trans s2) ⟨.cons w1'.1 w2.1 fun a ha hb => ?_, fun p hp => ?_⟩
    · exact w1.1.has ha (w2.2 a hb).1
    · rcases List.mem_append.mp hp with hp | hp
      · exact w1'.2 p hp
      · exact ⟨Sm.free s1.hh (w2.2 p hp).1, (w2.2 p hp).2⟩
theorem OwA.ups {R H : Hp} {vs : List V} {ds : List D} {f : List Addr} {p : Addr} {u : HO} {R2 : Hp} (w : OwA K R H vs ds f) (n : H p = none) (sm : Sm R R2) : OwA K R2 (upd H p u) vs ds f :=
  OwA.mono sm w fun q hq o _ e => by rw [upd_ne (ne_of_none e n)]; exact e
theorem ex_tupD {x1} {ds : List D} (h : AN X es ρ ds) (hl : ds.length ≤ sizeLine) : EX X (.Tuple es x1 pos) ρ (.nd (.tup ds)) :=
  .of (pe_tup pa_sem) fun B R0 R σ H Q s k => h B R0 R σ H _ s fun vs R1 H1 f s1 w => by
    refine ⟨by rw [w.1.len]; exact hl, fun p np => ?_⟩
    have st := s1.newS (o := .tup vs) np
    have nr : R1 p = none := Sm.free s1.rh np
    refine k _ _ _ st ⟨f, .tup upd_same (w.1.ups np ((Sm.refl R1).upd nr)), fun q hq => ⟨(w.2 q hq).1, ?_⟩⟩
    obtain ⟨o, _, z⟩ := w.1.at q hq
    rw [upd_ne (ne_of_none z np)]
    exact (w.2 q hq).2
theorem ex_lstD {ds : List D} (h : AN X es ρ ds) (hl : ds.length ≤ sizeLine) : EX X (.List es pos) ρ (.nd (.lst ds)) :=
  .of (pe_lst pa_sem) fun B R0 R σ H Q s k => h B R0 R σ H _ s fun vs R1 H1 f s1 w => by
    refine ⟨by rw [w.1.len]; exact hl, fun p np => ?_⟩
    have nf : p ∉ f := fun z => w.1.has z np
    refine k _ R1 _ (s1.new np (fun _ z => nomatch z) fun _ _ z => nomatch z) ⟨p :: f, .lst upd_same (w.1.ups np (Sm.refl R1)) nf, fun q hq => ?_⟩
    rcases List.mem_cons.mp hq with rfl | hq
    · exact ⟨Sm.free s1.hh np, Sm.free s1.rh np⟩
    · exact w.2 q hq

theorem At.snoc {H : Hp} {x v w : V} {i : Nat} : ∀ {path : List Nat}, At K H x path v → At K H v [i] w → At K H x (path ++ [i]) w
  | [], a, b => by cases a; exact b
  | j :: r, a, b => by
    cases a with
    | lst h1 h2 h3 => exact .lst h1 h2 (At.snoc h3 b)
    | tup h1 h2 h3 => exact .tup h1 h2 (At.snoc h3 b)
theorem At.step {R H R' H' : Hp} (s : Step R H R' H') {v : V} : ∀ {path : List Nat} {x : V}, At K H x path v → At K H' x path v
  | [], x, a => by cases a; exact .nil
  | i :: r, x, a => by
    cases a with
    | lst h1 h2 h3 => exact .lst (s.hh.k _ _ h1 trivial) h2 (At.step s h3)
    | tup h1 h2 h3 => exact .tup (s.hh.k _ _ h1 trivial) h2 (At.step s h3)
def PathX (X : Cx) (o : Expr) (ρ : List Sl) (i : Nat) (path : List Nat) : Prop := ∀ B R0 R σ H (Q : VK), St X.K B R0 R ρ σ H → (∀ x v R' H', σ[i]? = some (some x) → At X.K H' x path v → Step R H R' H' → Q v H') → tE X o σ H Q
theorem PathX.of {t : TE} {i : Nat} {path : List Nat} (p : PE X o t) (h : ∀ B R0 R σ H (Q : VK), St X.K B R0 R ρ σ H → (∀ x v R' H', σ[i]? = some (some x) → At X.K H' x path v → Step R H R' H' → Q v H') → t σ H Q) : PathX X o ρ i path := fun B R0 R σ H Q s k pins sh I => p.run pins sh σ H Q I (h B R0 R σ H Q s k)
theorem St.od {B R0 R H : Hp} {σ : L2.St} {d : D} (s : St K B R0 R ρ σ H) {i : Nat} {x : V} {pn : Option V} (hi : ρ[i]? = some (.od pn d)) (ev : σ[i]? = some (some x)) : ∃ f, Ow K R H x d f := by
  obtain ⟨v, f, e, y, rfl, _, w, _⟩ := s.at hi
  rw [e] at ev
  cases ev
  exact ⟨f, w⟩
theorem px_var {i : Nat} {pn : Option V} {d : D} (p : PE X o (tVar i)) (hi : ρ[i]? = some (.od pn d)) : PathX X o ρ i [] := .of p fun B R0 R σ H Q s k => by
  obtain ⟨v, f, e, x, rfl, _, w, _⟩ := s.at hi
  exact ⟨x, e, k x x R H e .nil s.sub.step⟩
theorem atI_nat {α : Type} {l : List α} {j : Int} {a : α} (e : L2.atI l j = some a) : ∃ n, ixN l.length j = some n ∧ l[n]? = some a := by
  unfold L2.atI at e
  cases q : ixN l.length j with
  | none => rw [q] at e; cases e
  | some n => rw [q] at e; exact ⟨n, rfl, e⟩
theorem px_ixL {i n : Nat} {pn : Option V} {j : Int} {d : D} {ds : List D} {path : List Nat} (ho : PathX X o ρ i path) (hi : ρ[i]? = some (.od pn d)) (hd : getP d path = some (.lst ds)) (hj : EX X ix ρ (.sh (.int j))) (hn : ixN ds.length j = some n) (hl : n < ds.length) (hs : PlainIx ix := by exact fun _ _ => rfl) :
    PathX X (.Subscript o ix pos) ρ i (path ++ [n]) := .of (pe_ix ix_list pe_sem pe_sem hs) fun B R0 R σ H Q s k => ho B R0 R σ H _ s fun x v R1 H1 ex ax s1 => by
  have st1 := s.step s1
  obtain ⟨f, w⟩ := st1.od hi ex
  obtain ⟨g, w2, _⟩ := w.sub st1.sub.rh path ax hd rfl
  cases w2 with
  | leaf h im => cases im
  | @lst p xs _ _ hp r _ =>
    refine hj B R0 R1 σ H1 _ st1 fun y R2 H2 s2 q2 => ?_
    have hp2 := s2.hh.k _ _ hp trivial
    have hx : ∃ u, xs[n]? = some u := ⟨_, List.getElem?_eq_getElem (by rw [r.len]; exact hl)⟩
    obtain ⟨u, hu⟩ := hx
    refine ⟨p, xs, j, u, rfl, Res.int s2.sub q2 rfl, SqL.of hp2, ?_, k x u R2 H2 ex ((ax.step s2).snoc (.lst hp2 hu .nil)) (s1.trans s2)⟩
    unfold L2.atI
    rw [r.len, hn]
    exact hu
theorem px_ixT {i n : Nat} {pn : Option V} {j : Int} {d : D} {ds : List D} {path : List Nat} (ho : PathX X o ρ i path) (hi : ρ[i]? = some (.od pn d)) (hd : getP d path = some (.tup ds)) (ni : immA ds = false) (hj : EX X ix ρ (.sh (.int j))) (hn : ixN ds.length j = some n) (hl : n < ds.length) (hs : PlainIx ix := by exact fun _ _ => rfl) :
    PathX X (.Subscript o ix pos) ρ i (path ++ [n]) := .of (pe_ix ix_tup pe_sem pe_sem hs) fun B R0 R σ H Q s k => ho B R0 R σ H _ s fun x v R1 H1 ex ax s1 => by
  have st1 := s.step s1
  obtain ⟨f, w⟩ := st1.od hi ex
  obtain ⟨g, w2, _⟩ := w.sub st1.sub.rh path ax hd ni
  cases w2 with
  | leaf h im => have im : immA ds = true := im; rw [ni] at im; cases im
  | @tup p xs _ _ hr r =>
    have hp := st1.sub.rh.k _ _ hr trivial
    refine hj B R0 R1 σ H1 _ st1 fun y R2 H2 s2 q2 => ?_
    have hp2 := s2.hh.k _ _ hp trivial
    have hx : ∃ u, xs[n]? = some u := ⟨_, List.getElem?_eq_getElem (by rw [r.len]; exact hl)⟩
    obtain ⟨u, hu⟩ := hx
    refine ⟨p, xs, j, u, rfl, Res.int s2.sub q2 rfl, SqT.of hp2, ?_, k x u R2 H2 ex ((ax.step s2).snoc (.tup hp2 hu .nil)) (s1.trans s2)⟩
    unfold L2.atI
    rw [r.len, hn]
    exact hu
theorem sx_appP {i : Nat} {pn : Option V} {d : D} {ds : List D} {a : D} {path : List Nat} {apos cpos : Pos} (po : PathX X o ρ i path) (hi : ρ[i]? = some (.od pn d)) (hd : getP d path = some (.lst ds)) (him : immA ds = true) (he : EX X e ρ (.sh a)) (ha : PV.imm a = true) (hl : ds.length < sizeLine)
    (h : P.nx ((dr ρ).set i (.od pn (setP d path (.lst (ds ++ [a]))))))
    (hbase : attributeBase o "append" X.env (eval o X.env) = eval o X.env := by rfl)
    (hfew : ((backTo cpos (starEach [e] X.env)).all (fun x => !x.1) && (backToKw cpos (keywordEach [] X.env)).all (fun x => x.1.isSome)
      && decide (([e] : List Expr).length + ([] : List Keyword).length + (if ([] : List Keyword).isEmpty then 0 else 1) < 30)) = true := by rfl)
    (hline : (apos.endLine == cpos.line) = true := by rfl) (hst : starEach [e] X.env = (false, eval e X.env) :: starEach [] X.env := by rfl) (hplain : (backTo cpos (starEach [] X.env)).any (·.1) = false := by rfl)
    (hs : swapsWith (.Call (.Attribute o "append" apos) [e] [] cpos) none pos.line X.env = pure false := by rfl) : SX X W (.Expr (.Call (.Attribute o "append" apos) [e] [] cpos) pos) ρ P :=
  .of (ps_expr (pe_bm PySem.F.plainAttrs_list PySem.F.slot_list_append PySem.F.type_list_append mt_append pe_sem (pa_cons pe_sem pa_nil hst) hbase hfew hline hst hplain) hs) fun B R0 R σ H D s n => by
    refine po B R0 R σ H _ s fun x v R1 H1 ex ax s1 => ?_
    have st1 := s.step s1
    obtain ⟨p, o, rfl, hp, hx, _⟩ := st1.writeD hi ex ax hd him
    cases o <;> first | exact hx.elim | skip
    rename_i xs
    refine ⟨.inl ⟨rfl, xs, SqL.of hp⟩, he B R0 R1 σ H1 _ st1 fun v R' H' t q => ?_⟩
    obtain ⟨p2, o2, e2, hp2, hx2, k⟩ := (st1.step t).writeD hi ex (ax.step t) hd him
    cases e2
    cases o2 <;> first | exact hx2.elim | skip
    rename_i xs2
    have hx2 : RpA X.K R' xs2 ds := hx2
    refine ⟨p, xs2, v, rfl, rfl, hp2, by rw [hx2.len]; exact hl, n.nx _ R' _ _ h (k (.lst (xs2 ++ [v])) (.lst (ds ++ [a])) (hx2.app (.cons q .nil)) (immA_app him ?_))⟩
    show (PV.imm a && immA []) = true
    rw [ha]; rfl
theorem OwA.step {R1 H1 R2 H2 : Hp} (s : Step R1 H1 R2 H2) {vs : List V} {ds : List D} {f : List Addr} (h : OwA K R1 H1 vs ds f) : OwA K R2 H2 vs ds f := OwA.mono s.rr h fun p hp o w e => s.hh.k _ _ e w.nt
theorem OwA.fresh {R0 R1 H1 R2 H2 : Hp} {vs : List V} {ds : List D} {f : List Addr} (h : OwA K R1 H1 vs ds f) (s : Step R1 H1 R2 H2) (n : ∀ p ∈ f, R0 p = none ∧ R1 p = none) {p : Addr} (hp : p ∈ f) : R2 p = none := by
  exact s.free (n p hp).2 (h.has hp)
structure LcD (K : PySem.W.Frag) (R1 H1 : Hp) (Dd : Addr) (acc : List D) (H : Hp) : Prop where
  ex : ∃ R xs f, Step R1 H1 R H ∧ R Dd = none ∧ H Dd = some (.lst xs) ∧ OwA K R H xs acc f ∧ Dd ∉ f ∧ ∀ p ∈ f, H1 p = none ∧ R p = none
variable {a : Expr}
theorem lcD_turn {α : Type} {g : TG} {vs : List Nat} {scope : Scope} {elt : Expr} {ifs : List Expr} {B R0 R1 H1 : Hp} {σ : L2.St} {Dd : Addr} (s1 : St X.K B R0 R1 ρ σ H1) (hD : H1 Dd = none) (gs : GSet g vs)
    {H : Hp} {acc : List D} {x : V} {d f : D} {k : Bool} {Nx : Hp → Prop} (w : LcD X.K R1 H1 Dd acc H) (hx : ∀ R, Sm R1 R → Rp X.K R x d)
    (ht : ∃ ρ2, Gv X.K g (wipeS ρ vs) (.sh d) ρ2 ∧ (∀ (s : Shared) (H : Hp) (C : Addr) (cl : List (Str × Addr)) (fp : List Addr), TXs (X.blk s H scope (compEnvC scope cl C X.env) fp) ifs ρ2 k) ∧
      (k = true → ∀ (s : Shared) (H : Hp) (C : Addr) (cl : List (Str × Addr)) (fp : List Addr), EX (X.blk s H scope (compEnvC scope cl C X.env) fp) elt ρ2 (.nd f)))
    (hl : acc.length < sizeLine) (n1 : k = true → ∀ H, LcD X.K R1 H1 Dd (acc ++ [f]) H → Nx H) (n2 : k = false → ∀ H, LcD X.K R1 H1 Dd acc H → Nx H) :
    g x (wipe σ vs) H fun σ2 H2 => wipe σ2 vs = wipe σ vs ∧ tBlkT X scope ifs σ2 H2 fun b H3 => if b = true then tBlkE X scope elt σ2 H3 fun y H4 => ∃ acc, H4 Dd = some (.lst acc) ∧ acc.length < sizeLine ∧ Nx (upd H4 Dd (.lst (acc ++ [y]))) else Nx H3 := by
  obtain ⟨R, xs, f0, t, nr, hd, ra, nD, fr⟩ := w.ex
  obtain ⟨ρ2, gv, tt, te⟩ := ht
  have sw : St X.K B R0 R (wipeS ρ vs) (wipe σ vs) H := (s1.step t).wipe vs
  have q := gv B R0 R (wipe σ vs) H x (fun σ2 H2 => H2 = H ∧ St X.K B R0 R ρ2 σ2 H) sw (hx R t.rr) fun σ2 s2 => ⟨rfl, s2⟩
  refine gs x _ H _ _ q fun σ2 H2 o2 ⟨e2, s2⟩ => ?_
  subst e2
  refine ⟨by rw [wipe_only o2, wipe_wipe], fun s H0 C cl fp => tt s H0 C cl fp B R0 R σ2 H2 _ s2 fun R3 H3 t3 => ?_⟩
  cases k with
  | false =>
    rw [if_neg Bool.false_ne_true]
    exact n2 rfl H3 ⟨R3, xs, f0, t.trans t3, t3.free nr (by rw [hd]; intro z; cases z), t3.hh.k _ _ hd trivial, ra.step t3, nD, fun p hp => ⟨(fr p hp).1, ra.fresh t3 fr hp⟩⟩
  | true =>
    rw [if_pos rfl]
    refine fun s H0 C cl fp2 => te rfl s H0 C cl fp2 B R0 R3 σ2 H3 _ (s2.step t3) fun v R4 H4 t4 ⟨g4, w4, n4⟩ => ?_
    have t34 := t3.trans t4
    have nr4 : R4 Dd = none := t34.free nr (by rw [hd]; intro z; cases z)
    have nD4 : Dd ∉ g4 := fun z => by
      have q := (n4 Dd z).1
      rw [t3.hh.k _ _ hd trivial] at q; cases q
    have cr := ((ra.step t34).keep (o := .lst (xs ++ [v])) nD).app (.cons (w4.keep (o := .lst (xs ++ [v])) nD4) .nil (fun a _ z => nomatch z)) (fun a ha z => by
      rw [List.append_nil] at z
      obtain ⟨o, ow, q⟩ := ra.at a ha
      have q2 := (n4 a z).1
      rw [t3.hh.k _ _ q ow.nt] at q2; cases q2)
    refine ⟨xs, t34.hh.k _ _ hd trivial, by rw [ra.len]; exact hl, n1 rfl _ ⟨R4, xs ++ [v], _, (t.trans t34).putNew hD nr4 (fun _ z => (nomatch z)) (fun _ _ z => (nomatch z)) (fun _ z => by rw [t34.hh.k _ _ hd trivial] at z; cases z), nr4, upd_same, cr, ?_, fun p hp => ?_⟩⟩
    · intro z
      rw [List.append_nil] at z
      rcases List.mem_append.mp z with z | z
      · exact nD z
      · exact nD4 z
    · rw [List.append_nil] at hp
      rcases List.mem_append.mp hp with hp | hp
      · exact ⟨(fr p hp).1, ra.fresh t34 fr hp⟩
      · exact ⟨Sm.free (t.hh.trans t3.hh) (n4 p hp).1, (n4 p hp).2⟩
theorem LcD.res {R1 H1 : Hp} {Dd : Addr} {acc : List D} {H : Hp} {Q : VK} (w : LcD K R1 H1 Dd acc H) {R H0 : Hp} (t : Step R H0 R1 H1) (hD : H1 Dd = none) (k : ∀ v R' H', Step R H0 R' H' → Res K H0 R' H' v (.nd (.lst acc)) → Q v H') : Q (.ref Dd) H := by
  obtain ⟨R2, xs, fp, t2, nr, hd, ra, nD, fr⟩ := w.ex
  refine k _ R2 H (t.trans t2) ⟨Dd :: fp, .lst hd ra nD, fun p hp => ?_⟩
  rcases List.mem_cons.mp hp with rfl | hp
  · exact ⟨Sm.free t.hh hD, nr⟩
  · exact ⟨Sm.free t.hh (fr p hp).1, (fr p hp).2⟩
theorem ev_lcD {α : Type} {iter elt : Expr} {ifs : List Expr} {scope : Scope} {g : TG} {vs : List Nat} (l : List α) (emb : α → D) (keep : α → Bool) (f : α → D) (hi : EX X iter ρ (.sh (.lst (l.map emb)))) (gs : GSet g vs) (hl : l.length ≤ sizeLine)
    (ht : ∀ (i : Nat) (a : α), l[i]? = some a → ∃ ρ2, Gv X.K g (wipeS ρ vs) (.sh (emb a)) ρ2 ∧ (∀ (s : Shared) (H : Hp) (C : Addr) (cl : List (Str × Addr)) (fp : List Addr), TXs (X.blk s H scope (compEnvC scope cl C X.env) fp) ifs ρ2 (keep a)) ∧
      (keep a = true → ∀ (s : Shared) (H : Hp) (C : Addr) (cl : List (Str × Addr)) (fp : List Addr), EX (X.blk s H scope (compEnvC scope cl C X.env) fp) elt ρ2 (.nd (f a)))) :
    Ev X.K (tLc (iList X.K (tE X iter)) g (tBlkT X scope ifs) (tBlkE X scope elt) vs) ρ (.nd (.lst ((l.filter keep).map f))) := fun B R0 R σ H Q s k => by
  refine hi B R0 R σ H _ s fun v R1 H1 t1 q1 => ?_
  obtain ⟨p, xs, rfl, hx, hr⟩ := (show Rp X.K R1 v (.lst (l.map emb)) from q1).lst'
  have s1 := s.step t1
  have ln : xs.length = l.length := by rw [hr.len, List.length_map]
  refine ⟨p, rfl, ⟨xs, SqL.of (t1.rh.k _ _ hx trivial)⟩, fun Dd hD => ?_⟩
  refine lc_list (xs := xs) (fun i H => LcD X.K R1 H1 Dd (((l.take i).filter keep).map f) H) ?_ (fun i H _ w => ?_) (fun i x H hix w => ?_) fun H w => ?_
  · exact ⟨R1, [], [], s1.sub.step.new hD (fun _ z => (nomatch z)) fun _ _ z => (nomatch z), Sm.free s1.sub.rh hD, upd_same, .nil, (fun z => nomatch z), fun p hp => nomatch hp⟩
  · obtain ⟨R2, xs2, _, t2, _⟩ := w.ex
    exact SqL.of (t2.rh.k _ _ (t2.rr.k _ _ hx trivial) trivial)
  · obtain ⟨d, hd1, hd2⟩ := hr.get' hix
    rw [List.getElem?_map] at hd1
    cases ha : l[i]? with
    | none => rw [ha] at hd1; cases hd1
    | some a =>
      rw [ha] at hd1
      cases hd1
      obtain ⟨hlt, _⟩ := List.getElem?_eq_some_iff.mp ha
      refine lcD_turn (α := α) s1 hD gs w (fun R t => Rp.mono t hd2) (ht i a ha) (acc_lt keep f hlt hl) (fun e H w => ?_) fun e H w => ?_
      · rw [take_snoc ha, if_pos e]; exact w
      · rw [take_snoc ha, if_neg (by rw [e]; exact Bool.false_ne_true), List.append_nil]; exact w
  · rw [ln, List.take_length] at w
    exact w.res t1 hD k
theorem ev_lcRD {elt : Expr} {ifs : List Expr} {scope : Scope} {g : TG} {vs : List Nat} {j : Int} (keep : Nat → Bool) (f : Nat → D) (ha : AX X [a] ρ [.sh (.int j)]) (hj : -(2 ^ 62) ≤ j ∧ j < 2 ^ 62) (gs : GSet g vs) (hl : j.toNat ≤ sizeLine)
    (ht : ∀ i : Nat, (i : Int) < j → ∃ ρ2, Gv X.K g (wipeS ρ vs) (.sh (.int i)) ρ2 ∧ (∀ (s : Shared) (H : Hp) (C : Addr) (cl : List (Str × Addr)) (fp : List Addr), TXs (X.blk s H scope (compEnvC scope cl C X.env) fp) ifs ρ2 (keep i)) ∧
      (keep i = true → ∀ (s : Shared) (H : Hp) (C : Addr) (cl : List (Str × Addr)) (fp : List Addr), EX (X.blk s H scope (compEnvC scope cl C X.env) fp) elt ρ2 (.nd (f i)))) :
    Ev X.K (tLc (iRng1 (tA X [a])) g (tBlkT X scope ifs) (tBlkE X scope elt) vs) ρ (.nd (.lst (((List.range j.toNat).filter keep).map f))) := fun B R0 R σ H Q s k => by
  refine ha B R0 R σ H _ s fun us R1 H1 t1 q1 => ?_
  obtain ⟨v, rfl, q⟩ := q1.one
  have s1 := s.step t1
  refine ⟨j, by rw [Res.int t1.sub q rfl], hj.1, hj.2, fun Dd hD => ?_⟩
  refine lc_range (fun i H => LcD X.K R1 H1 Dd ((((List.range j.toNat).take i).filter keep).map f) H) ?_ (fun i H hlt w => ?_) fun H w => ?_
  · exact ⟨R1, [], [], s1.sub.step.new hD (fun _ z => (nomatch z)) fun _ _ z => (nomatch z), Sm.free s1.sub.rh hD, upd_same, .nil, (fun z => nomatch z), fun p hp => nomatch hp⟩
  · have hi : (List.range j.toNat)[i]? = some i := by rw [List.getElem?_range hlt]
    rw [Int.zero_add]
    refine lcD_turn (α := Nat) s1 hD gs w (fun R t => Rp.int _) (ht i (by omega)) (acc_lt keep f (by rw [List.length_range]; exact hlt) (by rw [List.length_range]; exact hl)) (fun e H w => ?_) fun e H w => ?_
    · rw [take_snoc hi, if_pos e]; exact w
    · rw [take_snoc hi, if_neg (by rw [e]; exact Bool.false_ne_true), List.append_nil]; exact w
  · rw [show (List.range j.toNat).take j.toNat = List.range j.toNat from List.take_of_length_le (by rw [List.length_range]; exact Nat.le_refl _)] at w
    exact w.res t1 hD k
end
end PV

namespace PV
open PySem PySem.Spec PyProof.Rows L2
theorem immA_take : ∀ {ds : List D} (n : Nat), immA ds = true → immA (ds.take n) = true
  | _, 0, _ => rfl
  | [], _ + 1, _ => rfl
  | d :: ds, n + 1, h => by
    have h : (imm d && immA ds) = true := h
    obtain ⟨h1, h2⟩ := Bool.and_eq_true_iff.mp h
    show (imm d && immA (ds.take n)) = true
    rw [h1, immA_take n h2]; rfl
theorem immA_drop : ∀ {ds : List D} (n : Nat), immA ds = true → immA (ds.drop n) = true
  | _, 0, h => h
  | [], _ + 1, _ => rfl
  | d :: ds, n + 1, h => by
    have h : (imm d && immA ds) = true := h
    exact immA_drop n (Bool.and_eq_true_iff.mp h).2
theorem immA_erase : ∀ {ds : List D} (n : Nat), immA ds = true → immA (ds.eraseIdx n) = true
  | [], _, _ => rfl
  | d :: ds, 0, h => (Bool.and_eq_true_iff.mp (show (imm d && immA ds) = true from h)).2
  | d :: ds, n + 1, h => by
    have h : (imm d && immA ds) = true := h
    obtain ⟨h1, h2⟩ := Bool.and_eq_true_iff.mp h
    show (imm d && immA (ds.eraseIdx n)) = true
    rw [h1, immA_erase n h2]; rfl
theorem RpA.erase {K : PySem.W.Frag} {R : Hp} : ∀ {vs : List V} {ds : List D} (n : Nat), RpA K R vs ds → RpA K R (vs.eraseIdx n) (ds.eraseIdx n)
  | _, _, _, .nil => .nil
  | _, _, 0, .cons _ r => r
  | _, _, n + 1, .cons h r => .cons h (RpA.erase n r)
section
variable {X : Cx} {W : L2.WX} {ρ : List Sl} {pos : Pos} {e o ix : Expr} {P : Post}
theorem sx_ins {i : Nat} {j : Int} {ds : List D} {d : D} {apos cpos : Pos} (po : PE X o (tVar i)) (hi : ρ[i]? = some (.ow (.lst ds))) (hj : EX X ix ρ (.sh (.int j))) (he : EX X e ρ (.sh d)) (h0 : 0 ≤ j ∧ j < 2 ^ 63) (hl : ds.length < sizeLine)
    (h : P.nx ((dr ρ).set i (.ow (.lst (ds.take j.toNat ++ [d] ++ ds.drop j.toNat)))))
    (hbase : attributeBase o "insert" X.env (eval o X.env) = eval o X.env := by rfl)
    (hfew : ((backTo cpos (starEach [ix, e] X.env)).all (fun x => !x.1) && (backToKw cpos (keywordEach [] X.env)).all (fun x => x.1.isSome)
      && decide (([ix, e] : List Expr).length + ([] : List Keyword).length + (if ([] : List Keyword).isEmpty then 0 else 1) < 30)) = true := by rfl)
    (hline : (apos.endLine == cpos.line) = true := by rfl) (hst : starEach [ix, e] X.env = (false, eval ix X.env) :: starEach [e] X.env := by rfl) (hst2 : starEach [e] X.env = (false, eval e X.env) :: starEach [] X.env := by rfl) (hplain : (backTo cpos (starEach [e] X.env)).any (·.1) = false := by rfl)
    (hs : swapsWith (.Call (.Attribute o "insert" apos) [ix, e] [] cpos) none pos.line X.env = pure false := by rfl) : SX X W (.Expr (.Call (.Attribute o "insert" apos) [ix, e] [] cpos) pos) ρ P :=
  .of (ps_expr (pe_bm PySem.F.plainAttrs_list PySem.F.slot_list_insert PySem.F.type_list_insert mt_insert po (pa_cons pe_sem (pa_cons pe_sem pa_nil hst2) hst) hbase hfew hline hst hplain) hs) fun B R0 R σ H D s n => by
    obtain ⟨p, xs, ep, hp, hx⟩ := s.own hi
    refine ⟨.ref p, ep, .inl ⟨rfl, xs, SqL.of hp⟩, hj B R0 R σ H _ s fun w R1 H1 t1 q1 => he B R0 R1 σ H1 _ (s.step t1) fun v R' H' t2 q => ?_⟩
    have t := t1.trans t2
    have hp' := t.hh.k _ _ hp trivial
    have hx' := RpA.mono t.rr hx
    exact ⟨p, xs, j, v, rfl, by rw [Res.int t1.sub q1 rfl], hp', by rw [hx.len]; exact hl, h0.1, h0.2,
      n.nx _ R' _ _ h (s.wr hi ep t (show RpA X.K R' (xs.take j.toNat ++ [v] ++ xs.drop j.toNat) (ds.take j.toNat ++ [d] ++ ds.drop j.toNat) from ((RpA.take _ hx').app (.cons q .nil)).app (RpA.drop _ hx')))⟩
theorem sx_insP {i : Nat} {pn : Option V} {j : Int} {d : D} {ds : List D} {a : D} {path : List Nat} {apos cpos : Pos} (po : PathX X o ρ i path) (hi : ρ[i]? = some (.od pn d)) (hd : getP d path = some (.lst ds)) (him : immA ds = true) (hj : EX X ix ρ (.sh (.int j))) (he : EX X e ρ (.sh a)) (ha : PV.imm a = true) (h0 : 0 ≤ j ∧ j < 2 ^ 63) (hl : ds.length < sizeLine)
    (h : P.nx ((dr ρ).set i (.od pn (setP d path (.lst (ds.take j.toNat ++ [a] ++ ds.drop j.toNat))))))
    (hbase : attributeBase o "insert" X.env (eval o X.env) = eval o X.env := by rfl)
    (hfew : ((backTo cpos (starEach [ix, e] X.env)).all (fun x => !x.1) && (backToKw cpos (keywordEach [] X.env)).all (fun x => x.1.isSome)
      && decide (([ix, e] : List Expr).length + ([] : List Keyword).length + (if ([] : List Keyword).isEmpty then 0 else 1) < 30)) = true := by rfl)
    (hline : (apos.endLine == cpos.line) = true := by rfl) (hst : starEach [ix, e] X.env = (false, eval ix X.env) :: starEach [e] X.env := by rfl) (hst2 : starEach [e] X.env = (false, eval e X.env) :: starEach [] X.env := by rfl) (hplain : (backTo cpos (starEach [e] X.env)).any (·.1) = false := by rfl)
    (hs : swapsWith (.Call (.Attribute o "insert" apos) [ix, e] [] cpos) none pos.line X.env = pure false := by rfl) : SX X W (.Expr (.Call (.Attribute o "insert" apos) [ix, e] [] cpos) pos) ρ P :=
  .of (ps_expr (pe_bm PySem.F.plainAttrs_list PySem.F.slot_list_insert PySem.F.type_list_insert mt_insert pe_sem (pa_cons pe_sem (pa_cons pe_sem pa_nil hst2) hst) hbase hfew hline hst hplain) hs) fun B R0 R σ H D s n => by
    refine po B R0 R σ H _ s fun x v R1 H1 ex ax s1 => ?_
    have st1 := s.step s1
    obtain ⟨p, o, rfl, hp, hx, _⟩ := st1.writeD hi ex ax hd him
    cases o <;> first | exact hx.elim | skip
    rename_i xs
    refine ⟨.inl ⟨rfl, xs, SqL.of hp⟩, hj B R0 R1 σ H1 _ st1 fun w R2 H2 t1 q1 => he B R0 R2 σ H2 _ (st1.step t1) fun v R' H' t2 q => ?_⟩
    have t := t1.trans t2
    obtain ⟨p2, o2, e2, hp2, hx2, k⟩ := (st1.step t).writeD hi ex (ax.step t) hd him
    cases e2
    cases o2 <;> first | exact hx2.elim | skip
    rename_i xs2
    have hx2 : RpA X.K R' xs2 ds := hx2
    refine ⟨p, xs2, j, v, rfl, by rw [Res.int t1.sub q1 rfl], hp2, by rw [hx2.len]; exact hl, h0.1, h0.2, n.nx _ R' _ _ h (k (.lst _) (.lst _) (((RpA.take _ hx2).app (.cons q .nil)).app (RpA.drop _ hx2)) (immA_app (immA_app (immA_take _ him) ?_) (immA_drop _ him)))⟩
    show (PV.imm a && immA []) = true
    rw [ha]; rfl
theorem sx_popP {i m : Nat} {pn : Option V} {j : Int} {d : D} {ds : List D} {path : List Nat} {apos cpos : Pos} (po : PathX X o ρ i path) (hi : ρ[i]? = some (.od pn d)) (hd : getP d path = some (.lst ds)) (him : immA ds = true) (hj : EX X ix ρ (.sh (.int j))) (h0 : -(2 ^ 63) ≤ j ∧ j < 2 ^ 63) (hm : seqIndex? j ds.length = some m) (hl : m < ds.length)
    (h : P.nx ((dr ρ).set i (.od pn (setP d path (.lst (ds.eraseIdx m))))))
    (hbase : attributeBase o "pop" X.env (eval o X.env) = eval o X.env := by rfl)
    (hfew : ((backTo cpos (starEach [ix] X.env)).all (fun x => !x.1) && (backToKw cpos (keywordEach [] X.env)).all (fun x => x.1.isSome)
      && decide (([ix] : List Expr).length + ([] : List Keyword).length + (if ([] : List Keyword).isEmpty then 0 else 1) < 30)) = true := by rfl)
    (hline : (apos.endLine == cpos.line) = true := by rfl) (hst : starEach [ix] X.env = (false, eval ix X.env) :: starEach [] X.env := by rfl) (hplain : (backTo cpos (starEach [] X.env)).any (·.1) = false := by rfl)
    (hs : swapsWith (.Call (.Attribute o "pop" apos) [ix] [] cpos) none pos.line X.env = pure false := by rfl) : SX X W (.Expr (.Call (.Attribute o "pop" apos) [ix] [] cpos) pos) ρ P :=
  .of (ps_expr (pe_bm PySem.F.plainAttrs_list PySem.F.slot_list_pop PySem.F.type_list_pop mt_popAt pe_sem (pa_cons pe_sem pa_nil hst) hbase hfew hline hst hplain) hs) fun B R0 R σ H D s n => by
    refine po B R0 R σ H _ s fun x v R1 H1 ex ax s1 => ?_
    have st1 := s.step s1
    obtain ⟨p, o, rfl, hp, hx, _⟩ := st1.writeD hi ex ax hd him
    cases o <;> first | exact hx.elim | skip
    rename_i xs
    refine ⟨.inl ⟨rfl, xs, SqL.of hp⟩, hj B R0 R1 σ H1 _ st1 fun w R' H' t q1 => ?_⟩
    obtain ⟨p2, o2, e2, hp2, hx2, k⟩ := (st1.step t).writeD hi ex (ax.step t) hd him
    cases e2
    cases o2 <;> first | exact hx2.elim | skip
    rename_i xs2
    have hx2 : RpA X.K R' xs2 ds := hx2
    have hy : m < xs2.length := by rw [hx2.len]; exact hl
    refine ⟨p, xs2, j, m, xs2[m], rfl, by rw [Res.int t.sub q1 rfl], hp2, h0.1, h0.2, by rw [hx2.len]; exact hm, List.getElem?_eq_getElem hy, ?_⟩
    exact n.nx _ R' _ _ h (k (.lst _) (.lst _) (RpA.erase m hx2) (immA_erase m him))
end
end PV

namespace SH
open PySem
section
variable {α β σ ρ : Type}
@[inline] def letO (a : α) (f : α → Option β) : Option β := f a
theorem letO_e {a : α} {f : α → Option β} {o : Option β} (h : letO a f = o) : ∃ x, a = x ∧ f x = o := ⟨a, rfl, h⟩
def chk (p : Prop) [Decidable p] (k : Option β) : Option β := if p then k else none
theorem chk_e {p : Prop} [Decidable p] {k : Option β} {b : β} (h : chk p k = some b) : p ∧ k = some b := by
  unfold chk at h
  split at h
  · exact ⟨‹_›, h⟩
  · cases h
theorem chk_t {p : Prop} [Decidable p] (h : p) (k : Option β) : chk p k = k := if_pos h
theorem bO {m : Option α} {f : α → Option β} {o : β} (h : m.bind f = some o) : ∃ x, m = some x ∧ f x = some o := by
  cases m with
  | none => cases h
  | some x => exact ⟨x, rfl, h⟩
theorem ite_t {c : Bool} {a b o : Option β} (hc : c = true) (h : (if c = true then a else b) = o) : a = o := by rw [if_pos hc] at h; exact h
theorem ite_f {c : Bool} {a b o : Option β} (hc : c = false) (h : (if c = true then a else b) = o) : b = o := by rw [if_neg (by rw [hc]; exact Bool.false_ne_true)] at h; exact h
def foldO (f : α → σ → Option σ) : List α → σ → Option σ
  | [], s => some s
  | a :: l, s => (f a s).bind (foldO f l)
def foldB (f : α → σ → Option (σ ⊕ σ)) : List α → σ → Option σ
  | [], s => some s
  | a :: l, s => (f a s).bind fun r => match r with
    | .inl s => foldB f l s
    | .inr s => some s
def foldR (f : α → σ → Option (σ ⊕ ρ)) : List α → σ → Option (σ ⊕ ρ)
  | [], s => some (.inl s)
  | a :: l, s => (f a s).bind fun r => match r with
    | .inl s => foldR f l s
    | .inr v => some (.inr v)
def whileO (c : σ → Option Bool) (f : σ → Option σ) : Nat → σ → Option σ
  | 0, _ => none
  | n + 1, s => (c s).bind fun b => if b = true then (f s).bind (whileO c f n) else some s
def whileR (c : σ → Option Bool) (f : σ → Option (σ ⊕ ρ)) : Nat → σ → Option (σ ⊕ ρ)
  | 0, _ => none
  | n + 1, s => (c s).bind fun b => if b = true then (f s).bind (fun r => match r with
    | .inl s => whileR c f n s
    | .inr v => some (.inr v)) else some (.inl s)
def FUEL : Nat := 10000000
def ansO (c : σ ⊕ ρ) (w : ρ → Option β) (k : σ → Option β) : Option β := match c with
  | .inl s => k s
  | .inr v => w v
def mapO (f : α → Option β) : List α → Option (List β)
  | [] => some []
  | a :: l => (f a).bind fun b => (mapO f l).bind fun bs => some (b :: bs)
def compO (p : α → Option Bool) (f : α → Option β) : List α → Option (List β)
  | [] => some []
  | a :: l => (p a).bind fun b => if b = true then (f a).bind fun b => (compO p f l).bind fun bs => some (b :: bs) else compO p f l
def andO (a : Bool) (m : Option Bool) : Option Bool := if a = true then m else some false
def orO (a : Bool) (m : Option Bool) : Option Bool := if a = true then some true else m
theorem foldO_nil (f : α → σ → Option σ) (s : σ) : foldO f [] s = some s := rfl
theorem foldO_cons (f : α → σ → Option σ) (a : α) (l : List α) (s : σ) : foldO f (a :: l) s = (f a s).bind (foldO f l) := rfl
theorem foldO_app (f : α → σ → Option σ) (l m : List α) (s : σ) : foldO f (l ++ m) s = (foldO f l s).bind (foldO f m) := by
  induction l generalizing s with
  | nil => rfl
  | cons a l ih =>
    show (f a s).bind (foldO f (l ++ m)) = ((f a s).bind (foldO f l)).bind (foldO f m)
    cases f a s with
    | none => rfl
    | some s => exact ih s
theorem mapO_len {f : α → Option β} : ∀ {l : List α} {bs : List β}, mapO f l = some bs → bs.length = l.length
  | [], bs, h => by cases h; rfl
  | a :: l, bs, h => by
    obtain ⟨b, _, h⟩ := bO h
    obtain ⟨cs, e, h⟩ := bO h
    cases h
    rw [List.length_cons, List.length_cons, mapO_len e]
theorem mapO_at {f : α → Option β} : ∀ {l : List α} {bs : List β} {i : Nat} {a : α}, mapO f l = some bs → l[i]? = some a → ∃ b, bs[i]? = some b ∧ f a = some b
  | [], _, _, _, _, e => by simp at e
  | a :: l, bs, i, x, h, e => by
    obtain ⟨b, e1, h⟩ := bO h
    obtain ⟨cs, e2, h⟩ := bO h
    cases h
    cases i with
    | zero => simp at e; subst e; exact ⟨b, rfl, e1⟩
    | succ i =>
      obtain ⟨c, q1, q2⟩ := mapO_at (i := i) e2 (by simpa using e)
      exact ⟨c, by simpa using q1, q2⟩
theorem mapO_of {f : α → Option β} {g : α → β} : ∀ {l : List α}, (∀ a ∈ l, f a = some (g a)) → mapO f l = some (l.map g)
  | [], _ => rfl
  | a :: l, h => by
    show (f a).bind _ = _
    rw [h a List.mem_cons_self]
    show (mapO f l).bind _ = _
    rw [mapO_of fun x hx => h x (List.mem_cons_of_mem _ hx)]
    rfl

def rangeI (n : Int) : List Int := (List.range n.toNat).map fun (k : Nat) => (k : Int)
def enumI (l : List α) : List (Int × α) := l.zipIdx.map fun p => ((p.2 : Int), p.1)
theorem rangeI_len (n : Int) : (rangeI n).length = n.toNat := by unfold rangeI; rw [List.length_map, List.length_range]
variable {κ : Type} [DecidableEq κ]
def dget (d : List (κ × α)) (k : κ) : Option α := (d.find? fun p => decide (p.1 = k)).map (·.2)
def dmem (d : List (κ × α)) (k : κ) : Bool := (dget d k).isSome
def dput (d : List (κ × α)) (k : κ) (v : α) : List (κ × α) := if (d.any fun p => decide (p.1 = k)) = true then d.map (fun p => if p.1 = k then (p.1, v) else p) else d ++ [(k, v)]
def ddel (d : List (κ × α)) (k : κ) : List (κ × α) := d.filter fun p => !decide (p.1 = k)
end
inductive RowT where
  | tell (slot : Str)
  | make (slot sign : Str) (reads : List Str)
  deriving DecidableEq
instance : Inhabited RowT := ⟨.tell ""⟩
namespace RowT
def kind : RowT → Str
  | .tell _ => "tell"
  | .make _ _ _ => "make"
def isT : RowT → Bool
  | .tell _ => true
  | .make _ _ _ => false
def slot : RowT → Str
  | .tell a => a
  | .make a _ _ => a
def sign? : RowT → Option Str
  | .tell _ => none
  | .make _ g _ => some g
def reads? : RowT → Option (List Str)
  | .tell _ => none
  | .make _ _ rs => some rs
def parts? : RowT → Option (Str × Str × List Str)
  | .tell _ => none
  | .make a g rs => some (a, g, rs)
def size : RowT → Int
  | .tell _ => 2
  | .make _ _ _ => 4
end RowT
class SOk (α : Type) where
  sok : α → Bool
@[reducible] def sok {α : Type} [SOk α] (a : α) : Bool := SOk.sok a
instance : SOk Int := ⟨fun _ => true⟩
instance : SOk Bool := ⟨fun _ => true⟩
instance : SOk Unit := ⟨fun _ => true⟩
instance : SOk Str := ⟨PyData.strOk⟩
instance {α : Type} [SOk α] : SOk (List α) := ⟨fun l => l.all sok⟩
instance {α : Type} [SOk α] : SOk (Option α) := ⟨fun x => match x with | none => true | some x => sok x⟩
instance {α β : Type} [SOk α] [SOk β] : SOk (α × β) := ⟨fun x => sok x.1 && sok x.2⟩
instance : SOk RowT := ⟨fun r => match r with | .tell a => PyData.strOk a | .make a g rs => PyData.strOk a && (PyData.strOk g && rs.all PyData.strOk)⟩
end SH
namespace SH
open PySem
section
variable {α β κ : Type}
theorem compO_app {p : α → Option Bool} {f : α → Option β} (l m : List α) : compO p f (l ++ m) = (compO p f l).bind fun a => (compO p f m).bind fun b => some (a ++ b) := by
  induction l with
  | nil =>
    show compO p f m = (compO p f m).bind fun b => some b
    cases compO p f m <;> rfl
  | cons x l ih =>
    show (p x).bind _ = ((p x).bind _).bind _
    cases p x with
    | none => rfl
    | some b =>
      show (if b = true then (f x).bind fun y => (compO p f (l ++ m)).bind fun bs => some (y :: bs) else compO p f (l ++ m)) = (if b = true then (f x).bind fun y => (compO p f l).bind fun bs => some (y :: bs) else compO p f l).bind _
      cases b with
      | false => exact ih
      | true =>
        show ((f x).bind fun y => (compO p f (l ++ m)).bind fun bs => some (y :: bs)) = ((f x).bind fun y => (compO p f l).bind fun bs => some (y :: bs)).bind _
        cases f x with
        | none => rfl
        | some y =>
          show ((compO p f (l ++ m)).bind fun bs => some (y :: bs)) = ((compO p f l).bind fun bs => some (y :: bs)).bind _
          rw [ih]
          cases compO p f l with
          | none => rfl
          | some a =>
            show (((compO p f m).bind fun b => some (a ++ b)).bind fun bs => some (y :: bs)) = (compO p f m).bind fun b => some (y :: a ++ b)
            cases compO p f m <;> rfl
theorem compO_one {p : α → Option Bool} {f : α → Option β} {x : α} {c : List β} (h : compO p f [x] = some c) : (p x = some false ∧ c = []) ∨ ∃ y, p x = some true ∧ f x = some y ∧ c = [y] := by
  obtain ⟨b, e, h⟩ := bO h
  cases b with
  | false =>
    rw [if_neg Bool.false_ne_true] at h
    cases h
    exact .inl ⟨e, rfl⟩
  | true =>
    rw [if_pos rfl] at h
    obtain ⟨y, e2, h⟩ := bO h
    cases h
    exact .inr ⟨y, e, e2, rfl⟩
theorem compO_len {p : α → Option Bool} {f : α → Option β} : ∀ {l : List α} {bs : List β}, compO p f l = some bs → bs.length ≤ l.length
  | [], bs, h => by cases h; exact Nat.le_refl _
  | x :: l, bs, h => by
    obtain ⟨b, e, h⟩ := bO h
    cases b with
    | false =>
      rw [if_neg Bool.false_ne_true] at h
      exact Nat.le_succ_of_le (compO_len h)
    | true =>
      rw [if_pos rfl] at h
      obtain ⟨y, e2, h⟩ := bO h
      obtain ⟨ys, e3, h⟩ := bO h
      cases h
      exact Nat.succ_le_succ (compO_len e3)
theorem compO_step {p : α → Option Bool} {f : α → Option β} {l : List α} {bs acc : List β} {i : Nat} {x : α} (h : compO p f l = some bs) (ha : compO p f (l.take i) = some acc) (hx : l[i]? = some x) :
    (p x = some false ∧ compO p f (l.take (i + 1)) = some acc) ∨ ∃ y, p x = some true ∧ f x = some y ∧ compO p f (l.take (i + 1)) = some (acc ++ [y]) := by
  have e : l = l.take (i + 1) ++ l.drop (i + 1) := (List.take_append_drop (i + 1) l).symm
  rw [e, compO_app] at h
  obtain ⟨a1, h1, _⟩ := bO h
  have t : l.take (i + 1) = l.take i ++ [x] := by rw [List.take_add_one, hx]; rfl
  rw [t, compO_app] at h1
  obtain ⟨a2, h2, h3⟩ := bO h1
  rw [ha] at h2
  cases h2
  obtain ⟨c, h4, h5⟩ := bO h3
  rw [t, compO_app, ha]
  rcases compO_one h4 with ⟨q1, rfl⟩ | ⟨y, q1, q2, rfl⟩
  · refine .inl ⟨q1, ?_⟩
    show ((compO p f [x]).bind fun b => some (acc ++ b)) = some acc
    rw [h4]
    show some (acc ++ []) = some acc
    rw [List.append_nil]
  · refine .inr ⟨y, q1, q2, ?_⟩
    show ((compO p f [x]).bind fun b => some (acc ++ b)) = some (acc ++ [y])
    rw [h4]; rfl
theorem compO_map {f : α → Option β} : ∀ (l : List α), compO (fun _ => some true) f l = mapO f l
  | [] => rfl
  | x :: l => by
    show (f x).bind (fun y => (compO (fun _ => some true) f l).bind fun bs => some (y :: bs)) = (f x).bind fun y => (mapO f l).bind fun bs => some (y :: bs)
    rw [compO_map l]
variable [DecidableEq κ]
def dcO (k : α → Option κ) (v : α → Option β) : List α → List (κ × β) → Option (List (κ × β)) :=
  foldO fun x d => (k x).bind fun y => (v x).bind fun z => chk (d.length < sizeLine) (some (dput d y z))
end
end SH

namespace SH
open PySem
def leS (a b : Str) : Bool := !Spec.ltCps b.cps.toList a.cps.toList
def sortS (l : List Str) : List Str := l.mergeSort leS
def sortI (l : List Int) : List Int := l.mergeSort fun a b => decide (a ≤ b)
theorem leS_iff {a b : Str} : leS a b = true ↔ a.cps.toList ≤ b.cps.toList := by
  unfold leS
  rw [PyProof.Rows.ltCps_eq]
  simp
theorem leS_trans (a b c : Str) (h1 : leS a b = true) (h2 : leS b c = true) : leS a c = true := leS_iff.mpr (List.le_trans (leS_iff.mp h1) (leS_iff.mp h2))
theorem leS_total (a b : Str) : (leS a b || leS b a) = true := by
  rw [Bool.or_eq_true, leS_iff, leS_iff]
  exact List.le_total _ _
theorem leS_anti {a b : Str} (h1 : leS a b = true) (h2 : leS b a = true) : a = b := by
  have e := List.le_antisymm (leS_iff.mp h1) (leS_iff.mp h2)
  obtain ⟨x⟩ := a
  obtain ⟨y⟩ := b
  have : x = y := Array.toList_inj.mp e
  rw [this]
theorem leS_refl (a : Str) : leS a a = true := leS_iff.mpr (List.le_refl _)
theorem sortS_perm (l : List Str) : (sortS l).Perm l := List.mergeSort_perm l _
theorem sortS_pw (l : List Str) : (sortS l).Pairwise fun a b => leS a b = true := List.pairwise_mergeSort leS_trans leS_total l
theorem sortS_of {l m : List Str} (p : m.Perm l) (h : m.Pairwise fun a b => leS a b = true) : m = sortS l :=
  List.Perm.eq_of_pairwise (le := fun a b => leS a b = true) (fun a b _ _ h1 h2 => leS_anti h1 h2) h (sortS_pw l) (p.trans (sortS_perm l).symm)
theorem sortI_perm (l : List Int) : (sortI l).Perm l := List.mergeSort_perm l _
theorem sortI_pw (l : List Int) : (sortI l).Pairwise (· ≤ ·) := (List.pairwise_mergeSort (le := fun a b : Int => decide (a ≤ b)) (fun a b c h1 h2 => by simp at *; omega) (fun a b => by simp; omega) l).imp fun h => of_decide_eq_true h
theorem sortI_of {l m : List Int} (p : m.Perm l) (h : m.Pairwise (· ≤ ·)) : m = sortI l :=
  List.Perm.eq_of_pairwise (le := fun a b : Int => a ≤ b) (fun a b _ _ h1 h2 => by omega) h (sortI_pw l) (p.trans (sortI_perm l).symm)
theorem risingS_pw : ∀ (p : Str) (l : List Str), PyProof.Rows.risingS p l = true → (∀ x ∈ l, leS p x = true) ∧ l.Pairwise fun a b => leS a b = true
  | _, [], _ => ⟨(fun _ h => nomatch h), .nil⟩
  | p, x :: l, h => by
    have h : (!Spec.ltCps x.cps.toList p.cps.toList && PyProof.Rows.risingS x l) = true := h
    rw [Bool.and_eq_true] at h
    obtain ⟨h1, h2⟩ := risingS_pw x l h.2
    refine ⟨fun y hy => ?_, .cons h1 h2⟩
    rcases List.mem_cons.mp hy with rfl | hy
    · exact h.1
    · exact leS_trans _ _ _ h.1 (h1 y hy)
theorem sortedS_pw : ∀ {l : List Str}, PyProof.Rows.sortedS l = true → l.Pairwise fun a b => leS a b = true
  | [], _ => .nil
  | x :: l, h => .cons (risingS_pw x l h).1 (risingS_pw x l h).2
end SH

namespace SH
open PySem
def mulOk (i j : Int) : Prop := (-(2 ^ 64) < i ∧ i < 2 ^ 64) ∨ (-(2 ^ 64) < j ∧ j < 2 ^ 64) ∨ i.natAbs.log2 + j.natAbs.log2 < 1000000
instance (i j : Int) : Decidable (mulOk i j) := by unfold mulOk; infer_instance
def divOk (j : Int) : Prop := 0 < j ∧ j < 1073741824
instance (j : Int) : Decidable (divOk j) := by unfold divOk; infer_instance
def rngOk (j : Int) : Prop := -(2 ^ 62) ≤ j ∧ j < 2 ^ 62
instance (j : Int) : Decidable (rngOk j) := by unfold rngOk; infer_instance
end SH

namespace SH
section
variable {α β γ σ ρ : Type}
def optO (x : Option α) (a : Option β) (f : α → Option β) : Option β := match x with
  | none => a
  | some w => f w
theorem optO_e {x : Option α} {a : Option β} {f : α → Option β} {o : Option β} (h : optO x a f = o) : (x = none ∧ a = o) ∨ ∃ w, x = some w ∧ f w = o := by
  cases x with
  | none => exact .inl ⟨rfl, h⟩
  | some w => exact .inr ⟨w, rfl, h⟩
theorem ansO_r {c : σ ⊕ ρ} {w : ρ → Option β} {k : σ → Option β} {v : ρ} {o : Option β} (q : c = .inr v) (h : ansO c w k = o) : w v = o := by subst q; exact h
theorem ansO_l {c : σ ⊕ ρ} {w : ρ → Option β} {k : σ → Option β} {s : σ} {o : Option β} (q : c = .inl s) (h : ansO c w k = o) : k s = o := by subst q; exact h
theorem comp_map (l : List α) (f : α → β) : compO (fun _ => some true) (fun a => some (f a)) l = some (l.map f) := by
  rw [compO_map]
  exact mapO_of fun _ _ => rfl
theorem comp_filter (l : List α) (p : α → Bool) (f : α → β) : compO (fun a => some (p a)) (fun a => some (f a)) l = some ((l.filter p).map f) := by
  induction l with
  | nil => rfl
  | cons a l ih =>
    show (if p a = true then (compO (fun a => some (p a)) (fun a => some (f a)) l).bind fun bs => some (f a :: bs) else compO (fun a => some (p a)) (fun a => some (f a)) l) = _
    rw [ih]
    by_cases h : p a = true
    · rw [if_pos h, List.filter_cons_of_pos h]; rfl
    · rw [if_neg h, List.filter_cons_of_neg h]
end
end SH

namespace PV
open PySem PySem.Spec PyProof.Rows L2 SH
section
variable {X : Cx} {W : L2.WX} {ρ ρ' : List Sl} {pos : Pos} {a b c e o : Expr} {st : Stmt} {sts : List Stmt} {P : Post} {body : List Stmt} {K : PySem.W.Frag} {r r' : Rs}
theorem SXs.as (h : ρ = ρ') (k : SXs X W sts ρ' P) : SXs X W sts ρ P := h ▸ k
theorem ex_cv (h : EX X e ρ r) (q : r = r') : EX X e ρ r' := q ▸ h
theorem SX.cut {sts : List Stmt} {P' : Post} (h : SXs X W sts ρ P') (h1 : ∀ r, P'.nx r → P.nx r) (h2 : ∀ r ρ', P'.rt r ρ' → P.rt r ρ') (h3 : ∀ r, P'.bk r → P.bk r) (h4 : ∀ r, P'.ct r → P.ct r) (h5 : ∀ c r, P'.ex c r → P.ex c r) : SXs X W sts ρ P := h.imp h1 h2 h3 h4 h5
section
variable {α S : Type}
theorem foldO_step {f : α → S → Option S} {l : List α} {s0 s1 s : S} {i : Nat} {x : α} (hx : l[i]? = some x) (h : foldO f (l.drop i) s = some s1) : ∃ s', f x s = some s' ∧ foldO f (l.drop (i + 1)) s' = some s1 := by
  obtain ⟨hi, rfl⟩ := List.getElem?_eq_some_iff.mp hx
  rw [List.drop_eq_getElem_cons hi] at h
  exact bO h
theorem foldB_step {f : α → S → Option (S ⊕ S)} {l : List α} {s1 s : S} {i : Nat} {x : α} (hx : l[i]? = some x) (h : foldB f (l.drop i) s = some s1) : ∃ r, f x s = some r ∧ (∀ s', r = .inl s' → foldB f (l.drop (i + 1)) s' = some s1) ∧ ∀ s', r = .inr s' → s' = s1 := by
  obtain ⟨hi, rfl⟩ := List.getElem?_eq_some_iff.mp hx
  rw [List.drop_eq_getElem_cons hi] at h
  obtain ⟨r, e1, e2⟩ := bO h
  refine ⟨r, e1, fun s' z => ?_, fun s' z => ?_⟩
  · subst z; exact e2
  · subst z; exact Option.some.inj e2
theorem foldR_step {V' : Type} {f : α → S → Option (S ⊕ V')} {l : List α} {c1 : S ⊕ V'} {s : S} {i : Nat} {x : α} (hx : l[i]? = some x) (h : foldR f (l.drop i) s = some c1) : ∃ r, f x s = some r ∧ (∀ s', r = .inl s' → foldR f (l.drop (i + 1)) s' = some c1) ∧ ∀ v, r = .inr v → c1 = .inr v := by
  obtain ⟨hi, rfl⟩ := List.getElem?_eq_some_iff.mp hx
  rw [List.drop_eq_getElem_cons hi] at h
  obtain ⟨r, e1, e2⟩ := bO h
  refine ⟨r, e1, fun s' z => ?_, fun s' z => ?_⟩
  · subst z; exact e2
  · subst z; exact (Option.some.inj e2).symm
end
def pO {S : Type} (P : Post) (Z : S → List Sl) (s' : S) : Post := ⟨fun ρ' => Lt (Z s') ρ', P.rt, fun _ => False, fun ρ' => Lt (Z s') ρ', P.ex⟩
def pB {S : Type} (P : Post) (Z : S → List Sl) (r : S ⊕ S) : Post := ⟨fun ρ' => ∃ s', r = .inl s' ∧ Lt (Z s') ρ', P.rt, fun ρ' => ∃ s', r = .inr s' ∧ Lt (Z s') ρ', fun ρ' => ∃ s', r = .inl s' ∧ Lt (Z s') ρ', P.ex⟩
def pR {S V' : Type} (P : Post) (Z : S → List Sl) (r : S ⊕ V') : Post := ⟨fun ρ' => ∃ s', r = .inl s' ∧ Lt (Z s') ρ', P.rt, fun _ => False, fun ρ' => ∃ s', r = .inl s' ∧ Lt (Z s') ρ', P.ex⟩
def IterX (X : Cx) (tg iter : Expr) (ρ : List Sl) (ds : List D) : Prop :=
  ∀ (W : L2.WX) (P : Post) (g : TG) (body : List Stmt) (pos : Pos) (V₀ : Nat → List Sl → Prop), PassesOwn (model X.prog X.w) X.A X.env X.xe → PG X tg g → V₀ 0 ρ →
    (∀ i d ρ1, ds[i]? = some d → V₀ i ρ1 → ∃ ρ2, Gv X.K g ρ1 (.sh d) ρ2 ∧ SXs X W body ρ2 (turnP P (V₀ (i + 1)))) → (∀ ρ1, V₀ ds.length ρ1 → P.nx ρ1) → SX X W (.For tg iter body [] pos) ρ P
variable {tg iter : Expr} {g : TG} {ds : List D}
theorem ix_list' (hc : X.calm = true) (hi : EX X iter ρ (.sh (.lst ds))) (hf : ∀ x, foldedSetIterable iter X.env x = pure x := by intro _; rfl) : IterX X tg iter ρ ds :=
  fun W P g body pos V₀ hp hg h0 hs hd => sx_for V₀ hp hc hi hg h0 hs hd hf
theorem ix_tup' (hc : X.calm = true) (hi : EX X iter ρ (.sh (.tup ds))) (hf : ∀ x, foldedSetIterable iter X.env x = pure x := by intro _; rfl) : IterX X tg iter ρ ds :=
  fun W P g body pos V₀ hp hg h0 hs hd => sx_forT V₀ hp hc hi hg h0 hs hd hf
theorem ix_rng' {j : Int} {p p2 : Pos} (hc : X.calm = true) (hgl : Gl X "range") (hm : X.mg "range" = none) (ha : EX X a ρ (.sh (.int j))) (hj : -(2 ^ 62) ≤ j ∧ j < 2 ^ 62)
    (hst : starEach [a] X.env = [(false, eval a X.env)] := by rfl) (hf : ∀ x, foldedSetIterable (.Call (.Name "range" p) [a] [] p2) X.env x = pure x := by intro _; rfl) : IterX X tg (.Call (.Name "range" p) [a] [] p2) ρ ((rangeI j).map D.int) :=
  fun W P g body pos V₀ hp hg h0 hs hd => sx_range1 V₀ hp hc hgl hm (ax_cons ha ax_nil hst) hj hg h0 (fun i ρ1 hi w => hs i (.int i) ρ1 (by
    unfold rangeI
    rw [List.map_map, List.getElem?_map, List.getElem?_range (by omega)]; rfl) w) (fun ρ1 w => hd ρ1 (by rw [List.length_map, rangeI_len]; exact w)) hst hf
section
variable {α S V' : Type} {emb : α → D} {l : List α}
theorem sx_foldO {f : α → S → Option S} {s0 s1 : S} (Z : S → List Sl) (hp : PassesOwn (model X.prog X.w) X.A X.env X.xe) (hi : IterX X tg iter ρ (l.map emb)) (hg : PG X tg g) (h0 : Lt (Z s0) ρ) (h : foldO f l s0 = some s1)
    (hs : ∀ x s s', x ∈ l → f x s = some s' → ∃ ρ2, Gv X.K g (Z s) (.sh (emb x)) ρ2 ∧ SXs X W body ρ2 (pO P Z s')) (hd : ∀ ρ1, Lt (Z s1) ρ1 → P.nx ρ1) : SX X W (.For tg iter body [] pos) ρ P :=
  hi W P g body pos (fun i ρ1 => ∃ s, foldO f (l.drop i) s = some s1 ∧ Lt (Z s) ρ1) hp hg ⟨s0, h, h0⟩ (fun i d ρ1 hx ⟨s, e, w⟩ => by
    rw [List.getElem?_map] at hx
    cases q : l[i]? with
    | none => rw [q] at hx; cases hx
    | some x =>
      rw [q] at hx
      cases hx
      obtain ⟨s', e1, e2⟩ := foldO_step (s0 := s0) q e
      obtain ⟨ρ2, gv, sb⟩ := hs x s s' (List.mem_of_getElem? q) e1
      exact ⟨ρ2, gv.weak w, sb.imp (fun _ z => ⟨s', e2, z⟩) (fun _ _ z => z) (fun _ z => z.elim) (fun _ z => ⟨s', e2, z⟩) fun _ _ z => z⟩) (fun ρ1 ⟨s, e, w⟩ => by
    rw [List.length_map, List.drop_length] at e
    cases e
    exact hd ρ1 w)
theorem sx_foldB {f : α → S → Option (S ⊕ S)} {s0 s1 : S} (Z : S → List Sl) (hp : PassesOwn (model X.prog X.w) X.A X.env X.xe) (hi : IterX X tg iter ρ (l.map emb)) (hg : PG X tg g) (h0 : Lt (Z s0) ρ) (h : foldB f l s0 = some s1)
    (hs : ∀ x s r, x ∈ l → f x s = some r → ∃ ρ2, Gv X.K g (Z s) (.sh (emb x)) ρ2 ∧ SXs X W body ρ2 (pB P Z r)) (hd : ∀ ρ1, Lt (Z s1) ρ1 → P.nx ρ1) : SX X W (.For tg iter body [] pos) ρ P :=
  hi W P g body pos (fun i ρ1 => ∃ s, foldB f (l.drop i) s = some s1 ∧ Lt (Z s) ρ1) hp hg ⟨s0, h, h0⟩ (fun i d ρ1 hx ⟨s, e, w⟩ => by
    rw [List.getElem?_map] at hx
    cases q : l[i]? with
    | none => rw [q] at hx; cases hx
    | some x =>
      rw [q] at hx
      cases hx
      obtain ⟨r, e1, e2, e3⟩ := foldB_step q e
      obtain ⟨ρ2, gv, sb⟩ := hs x s r (List.mem_of_getElem? q) e1
      exact ⟨ρ2, gv.weak w, sb.imp (fun _ ⟨s', z1, z2⟩ => ⟨s', e2 s' z1, z2⟩) (fun _ _ z => z) (fun ρ3 ⟨s', z1, z2⟩ => by
        have := e3 s' z1
        subst this
        exact hd ρ3 z2) (fun _ ⟨s', z1, z2⟩ => ⟨s', e2 s' z1, z2⟩) fun _ _ z => z⟩) (fun ρ1 ⟨s, e, w⟩ => by
    rw [List.length_map, List.drop_length] at e
    cases e
    exact hd ρ1 w)
theorem sx_foldR {f : α → S → Option (S ⊕ V')} {s0 : S} {c1 : S ⊕ V'} (Z : S → List Sl) (hp : PassesOwn (model X.prog X.w) X.A X.env X.xe) (hi : IterX X tg iter ρ (l.map emb)) (hg : PG X tg g) (h0 : Lt (Z s0) ρ) (h : foldR f l s0 = some c1)
    (hs : ∀ x s r, x ∈ l → f x s = some r → (∀ v, r = .inr v → c1 = .inr v) → ∃ ρ2, Gv X.K g (Z s) (.sh (emb x)) ρ2 ∧ SXs X W body ρ2 (pR P Z r)) (hd : ∀ s1, c1 = .inl s1 → ∀ ρ1, Lt (Z s1) ρ1 → P.nx ρ1) : SX X W (.For tg iter body [] pos) ρ P :=
  hi W P g body pos (fun i ρ1 => ∃ s, foldR f (l.drop i) s = some c1 ∧ Lt (Z s) ρ1) hp hg ⟨s0, h, h0⟩ (fun i d ρ1 hx ⟨s, e, w⟩ => by
    rw [List.getElem?_map] at hx
    cases q : l[i]? with
    | none => rw [q] at hx; cases hx
    | some x =>
      rw [q] at hx
      cases hx
      obtain ⟨r, e1, e2, e3⟩ := foldR_step q e
      obtain ⟨ρ2, gv, sb⟩ := hs x s r (List.mem_of_getElem? q) e1 e3
      exact ⟨ρ2, gv.weak w, sb.imp (fun _ ⟨s', z1, z2⟩ => ⟨s', e2 s' z1, z2⟩) (fun _ _ z => z) (fun ρ3 z => z.elim) (fun _ ⟨s', z1, z2⟩ => ⟨s', e2 s' z1, z2⟩) fun _ _ z => z⟩) (fun ρ1 ⟨s, e, w⟩ => by
    rw [List.length_map, List.drop_length] at e
    cases e
    exact hd _ rfl ρ1 w)
theorem tT_mono {c : Expr} : ∀ (σ : L2.St) (H : Hp) (Q Q' : Bool → Hp → Prop), (∀ b H1, Q b H1 → Q' b H1) → tT X c σ H Q → tT X c σ H Q' := fun σ H Q Q' k h pins s I =>
  wpAny_mono (h pins s I) (fun b s2 ⟨H2, I2, q2⟩ => ⟨H2, I2, k b H2 q2⟩) fun _ _ z => z
theorem sx_whileO {c : S → Option Bool} {f : S → Option S} {n : Nat} {s0 s1 : S} {ce : Expr} (Z : S → List Sl) (hp : PassesOwn (model X.prog X.w) X.A X.env X.xe) (h0 : Lt (Z s0) ρ) (h : whileO c f n s0 = some s1)
    (hc : ∀ s b, c s = some b → TX X ce (Z s) b) (hs : ∀ s s', c s = some true → f s = some s' → SXs X W body (Z s) (pO P Z s')) (hd : ∀ ρ1, Lt (Z s1) ρ1 → P.nx ρ1) : SX X W (.While ce body [] pos) ρ P := .of (ps_while hp pt_sem pss_sem) fun B R0 R σ H D s en => by
  refine ⟨fun m σ H => ∃ s R', whileO c f m s = some s1 ∧ St X.K B R0 R' (Z s) σ H, ⟨n, s0, R, h, s.weak h0⟩, ?_⟩
  rintro m σ2 H2 ⟨z, R', e, s'⟩
  cases m with
  | zero => cases e
  | succ m =>
    obtain ⟨b, e1, e2⟩ := bO e
    refine hc z b e1 B R0 R' σ2 H2 _ s' fun R3 H3 t3 => ?_
    have s3 := s'.step t3
    cases b with
    | false =>
      rw [if_neg Bool.false_ne_true] at e2
      cases e2
      exact en.nx _ R3 σ2 H3 (hd _ (Lt.refl _)) s3
    | true =>
      rw [if_pos rfl] at e2
      obtain ⟨z', e3, e4⟩ := bO e2
      refine ⟨fun σ' H' => ∃ R', St X.K B R0 R' (Z z') σ' H', fun σ' H' ⟨R', q⟩ => ⟨m, Nat.lt_succ_self m, z', R', e4, q⟩, ?_⟩
      exact hs z z' e1 e3 B R0 R3 σ2 H3 _ s3 ⟨fun ρ' R' σ' H' l q => ⟨R', q.weak l⟩, en.rt, fun _ _ _ _ z => z.elim, fun ρ' R' σ' H' l q => ⟨R', q.weak l⟩, en.ex⟩
theorem sx_whileR {c : S → Option Bool} {f : S → Option (S ⊕ V')} {n : Nat} {s0 : S} {c1 : S ⊕ V'} {ce : Expr} (Z : S → List Sl) (hp : PassesOwn (model X.prog X.w) X.A X.env X.xe) (h0 : Lt (Z s0) ρ) (h : whileR c f n s0 = some c1)
    (hc : ∀ s b, c s = some b → TX X ce (Z s) b) (hs : ∀ s r, c s = some true → f s = some r → (∀ v, r = .inr v → c1 = .inr v) → SXs X W body (Z s) (pR P Z r)) (hd : ∀ s1, c1 = .inl s1 → ∀ ρ1, Lt (Z s1) ρ1 → P.nx ρ1) : SX X W (.While ce body [] pos) ρ P := .of (ps_while hp pt_sem pss_sem) fun B R0 R σ H D s en => by
  refine ⟨fun m σ H => ∃ s R', whileR c f m s = some c1 ∧ St X.K B R0 R' (Z s) σ H, ⟨n, s0, R, h, s.weak h0⟩, ?_⟩
  rintro m σ2 H2 ⟨z, R', e, s'⟩
  cases m with
  | zero => cases e
  | succ m =>
    obtain ⟨b, e1, e2⟩ := bO e
    refine hc z b e1 B R0 R' σ2 H2 _ s' fun R3 H3 t3 => ?_
    have s3 := s'.step t3
    cases b with
    | false =>
      rw [if_neg Bool.false_ne_true] at e2
      cases e2
      exact en.nx _ R3 σ2 H3 (hd _ rfl _ (Lt.refl _)) s3
    | true =>
      rw [if_pos rfl] at e2
      obtain ⟨r, e3, e4⟩ := bO e2
      refine ⟨fun σ' H' => ∃ z' R', r = .inl z' ∧ St X.K B R0 R' (Z z') σ' H', fun σ' H' ⟨z', R', q1, q⟩ => ?_, ?_⟩
      · subst q1; exact ⟨m, Nat.lt_succ_self m, z', R', e4, q⟩
      · refine hs z r e1 e3 (fun v hv => ?_) B R0 R3 σ2 H3 _ s3 ⟨fun ρ' R' σ' H' ⟨z', q1, l⟩ q => ⟨z', R', q1, q.weak l⟩, en.rt, fun _ _ _ _ z => z.elim, fun ρ' R' σ' H' ⟨z', q1, l⟩ q => ⟨z', R', q1, q.weak l⟩, en.ex⟩
        subst hv
        exact (Option.some.inj e4).symm
end
theorem ex_andO {rest : List Expr} {j v : Bool} {m : Option Bool} (h : EX X a ρ (.sh (.bl j))) (h2 : j = true → ∀ k, m = some k → EX X (.BoolOp .And (b :: rest) pos) ρ (.sh (.bl k))) (q : andO j m = some v) : EX X (.BoolOp .And (a :: b :: rest) pos) ρ (.sh (.bl v)) := by
  cases j with
  | false => cases q; exact ex_and (k := false) h fun z => nomatch z
  | true => exact ex_cv (ex_and (k := v) h fun z => h2 z v q) rfl
theorem ex_orO {rest : List Expr} {j v : Bool} {m : Option Bool} (h : EX X a ρ (.sh (.bl j))) (h2 : j = false → ∀ k, m = some k → EX X (.BoolOp .Or (b :: rest) pos) ρ (.sh (.bl k))) (q : orO j m = some v) : EX X (.BoolOp .Or (a :: b :: rest) pos) ρ (.sh (.bl v)) := by
  cases j with
  | true => cases q; exact ex_or (k := true) h fun z => nomatch z
  | false => exact ex_cv (ex_or (k := v) h fun z => h2 z v q) rfl
theorem wx_andO {rest : List Expr} {j v : Bool} {m : Option Bool} (h : TX X a ρ j) (h2 : j = true → ∀ k, m = some k → WX X (.BoolOp .And (b :: rest) pos) ρ k) (q : andO j m = some v) : WX X (.BoolOp .And (a :: b :: rest) pos) ρ v := by
  cases j with
  | false => cases q; exact wx_and (k := false) h fun z => nomatch z
  | true => exact (wx_and (k := v) h fun z => h2 z v q : WX X _ ρ (true && v))
theorem wx_orO {rest : List Expr} {j v : Bool} {m : Option Bool} (h : TX X a ρ j) (h2 : j = false → ∀ k, m = some k → WX X (.BoolOp .Or (b :: rest) pos) ρ k) (q : orO j m = some v) : WX X (.BoolOp .Or (a :: b :: rest) pos) ρ v := by
  cases j with
  | true => cases q; exact wx_or (k := true) h fun z => nomatch z
  | false => exact (wx_or (k := v) h fun z => h2 z v q : WX X _ ρ (false || v))
theorem ex_ifO {α : Type} {k : Bool} {ma mb : Option α} {v : α} {emb : α → Rs} (h : TX X c ρ k) (h1 : k = true → ∀ x, ma = some x → EX X a ρ (emb x)) (h2 : k = false → ∀ x, mb = some x → EX X b ρ (emb x)) (q : (if k = true then ma else mb) = some v) : EX X (.IfExp c a b pos) ρ (emb v) := by
  cases k with
  | true => rw [if_pos rfl] at q; exact ex_if h (fun z => h1 z v q) fun z => nomatch z
  | false => rw [if_neg Bool.false_ne_true] at q; exact ex_if h (fun z => nomatch z) fun z => h2 z v q
theorem ex_chainO {α : Type} {op op' : CmpOp} {r r' : R2} {ra rb : Rs} {rc : α → Rs} {j v : Bool} {m : Option α} {f : α → Bool} (ho : OpR X (compareOp op) r) (ho' : OpR X (compareOp op') r') (o1 : Op2 X.K r ra rb (.sh (.bl j))) (o2 : ∀ x, Op2 X.K r' rb (rc x) (.sh (.bl (f x))))
    (ha : EX X a ρ ra) (hb : EX X b ρ rb) (hc : j = true → ∀ x, m = some x → EX X c ρ (rc x)) (q : andO j (m.bind fun x => some (f x)) = some v) (hm : lastMarks [op, op'] [b, c] = false := by with_unfolding_all rfl) : EX X (.Compare a [op, op'] [b, c] pos) ρ (.sh (.bl v)) := by
  cases j with
  | false =>
    cases q
    exact .of (pe_chain ho ho' pe_sem pe_sem pe_sem hm) (Ev.chain (rc := .sh .non) (k := false) ha hb o1 (fun z => nomatch z) fun z => nomatch z)
  | true =>
    obtain ⟨x, e1, e2⟩ := bO (show (m.bind fun x => some (f x)) = some v from q)
    cases e2
    exact ex_chain ho ho' o1 (fun _ => o2 x) ha hb (fun z => hc z x e1) hm
theorem tx_ofE {k : Bool} (h : EX X e ρ (.sh (.bl k))) (he : ∀ whole, isTrue e X.env whole = (do let v ← whole; standAt e.pos; holding [v] (truthy v)) := by intro _; rfl) : TX X e ρ k := tx_val h he
theorem tx_cv {k k' : Bool} (h : TX X e ρ k) (q : k = k') : TX X e ρ k' := q ▸ h
end
end PV

namespace PV
class Fact' (p : Prop) : Prop where
  h : p
open PySem PySem.Spec PyProof.Rows L2 SH
section
variable {α β γ δ κ : Type}
@[reducible] def eL (e : α → D) (l : List α) : D := .lst (l.map e)
@[reducible] def eTU (e : α → D) (l : List α) : D := .tup (l.map e)
@[reducible] def eP2 (a : α → D) (b : β → D) (x : α × β) : D := .tup [a x.1, b x.2]
@[reducible] def eP3 (a : α → D) (b : β → D) (c : γ → D) (x : α × β × γ) : D := .tup [a x.1, b x.2.1, c x.2.2]
@[reducible] def eH2 (a : α → D) (b : β → D) (x : α × β) : D := .lst [a x.1, b x.2]
@[reducible] def eH3 (a : α → D) (b : β → D) (c : γ → D) (x : α × β × γ) : D := .lst [a x.1, b x.2.1, c x.2.2]
@[reducible] def eO (e : α → D) : Option α → D
  | none => .non
  | some x => e x
@[reducible] def eU (_ : Unit) : D := .non
@[reducible] def kS (x : Str) : Key := .inr x
@[reducible] def kI (i : Int) : Key := .inl i
@[reducible] def kII (x : Int × Int) : List Key := [.inl x.1, .inl x.2]
@[reducible] def kIS (x : Int × Str) : List Key := [.inl x.1, .inr x.2]
@[reducible] def eT (kt : κ → List Key) (x : κ) : D := .key (kt x)
@[reducible] def eDK (kk : κ → Key) (e : α → D) (d : List (κ × α)) : D := .dK (d.map fun p => (kk p.1, e p.2))
@[reducible] def eDT (kt : κ → List Key) (e : α → D) (d : List (κ × α)) : D := .dT (d.map fun p => (kt p.1, e p.2))
class Im (e : α → D) : Prop where
  h : ∀ a, imm (e a) = true
instance : Im D.int := ⟨fun _ => rfl⟩
instance : Im D.bl := ⟨fun _ => rfl⟩
instance : Im D.str := ⟨fun _ => rfl⟩
instance : Im eU := ⟨fun _ => rfl⟩
instance {kt : κ → List Key} : Im (eT kt) := ⟨fun _ => rfl⟩
theorem Im.all {e : α → D} (i : Im e) (l : List α) : immA (l.map e) = true := immA_map i.h l
instance {e : α → D} [i : Im e] : Im (eTU e) := ⟨fun l => i.all l⟩
instance {a : α → D} {b : β → D} [i : Im a] [j : Im b] : Im (eP2 a b) := ⟨fun x => by
  show (imm (a x.1) && (imm (b x.2) && true)) = true
  rw [i.h, j.h]; rfl⟩
instance {a : α → D} {b : β → D} {c : γ → D} [i : Im a] [j : Im b] [k : Im c] : Im (eP3 a b c) := ⟨fun x => by
  show (imm (a x.1) && (imm (b x.2.1) && (imm (c x.2.2) && true))) = true
  rw [i.h, j.h, k.h]; rfl⟩
instance {e : α → D} [i : Im e] : Im (eO e) := ⟨fun x => by cases x with
  | none => rfl
  | some x => exact i.h x⟩
class ImO (e : α → D) : Prop where
  h : ∀ a, immO (e a) = true
instance {e : α → D} [i : Im e] : ImO (eL e) := ⟨fun l => i.all l⟩
instance {kk : κ → Key} {e : α → D} [i : Im e] : ImO (eDK kk e) := ⟨fun d => by
  show immA ((d.map fun p => (kk p.1, e p.2)).map (·.2)) = true
  rw [List.map_map]
  exact immA_map (fun p => i.h p.2) d⟩
instance {kt : κ → List Key} {e : α → D} [i : Im e] : ImO (eDT kt e) := ⟨fun d => by
  show immA ((d.map fun p => (kt p.1, e p.2)).map (·.2)) = true
  rw [List.map_map]
  exact immA_map (fun p => i.h p.2) d⟩
def rowL : RowT → List D
  | .tell a => [.str "tell", .str a]
  | .make a g rs => [.str "make", .str a, .str g, .tup (rs.map D.str)]
@[reducible] def rowD (r : RowT) : D := .tup (rowL r)
instance : Im rowD := ⟨fun r => by
  cases r with
  | tell a => rfl
  | make a g rs =>
    show (true && (true && (true && (immA (rs.map D.str) && true)))) = true
    rw [Im.all (e := D.str) inferInstance]; rfl⟩
theorem row_at0 (r : RowT) : atI (rowL r) 0 = some (.str r.kind) := by cases r <;> rfl
theorem row_at1 (r : RowT) : atI (rowL r) 1 = some (.str r.slot) := by cases r <;> rfl
theorem row_at2 {r : RowT} {x : Str} (h : r.sign? = some x) : atI (rowL r) 2 = some (.str x) := by cases r <;> cases h; rfl
theorem row_at3 {r : RowT} {x : List Str} (h : r.reads? = some x) : atI (rowL r) 3 = some (eTU D.str x) := by cases r <;> cases h; rfl
theorem row_parts {r : RowT} {x : Str × Str × List Str} (h : r.parts? = some x) : rowD r = .tup [.str "make", .str x.1, .str x.2.1, eTU D.str x.2.2] := by cases r <;> cases h; rfl
theorem row_size (r : RowT) : ((rowL r).length : Int) = r.size := by cases r <;> rfl
class Eqv (e : α → D) [DecidableEq α] [SOk α] (n : outParam Nat) : Prop where
  ev : ∀ a b, PyData.eqv (toPy (e a)) (toPy (e b)) = decide (a = b)
  nd : ∀ a, noD (e a) = true
  ca : ∀ a, sok a = true → (toPy (e a)).canLay0 = true
  dp : ∀ a, (toPy (e a)).depth ≤ n
theorem beq_dec {α : Type} [DecidableEq α] (a b : α) : (a == b) = decide (a = b) := by
  by_cases h : a = b
  · subst h; simp
  · rw [decide_eq_false h]; simp [h]
instance : Eqv D.int 0 := ⟨fun a b => by show PyData.eqv (.int a) (.int b) = _; unfold PyData.eqv; exact beq_dec a b, fun _ => rfl, fun _ _ => rfl, fun _ => Nat.le_refl _⟩
instance : Eqv D.bl 0 := ⟨fun a b => by show PyData.eqv (.bool a) (.bool b) = _; unfold PyData.eqv; exact beq_dec a b, fun _ => rfl, fun _ _ => rfl, fun _ => Nat.le_refl _⟩
theorem str_beq (a b : Str) : (a == b) = decide (a = b) := by
  by_cases h : a = b
  · subst h; rw [decide_eq_true rfl]; simp
  · rw [decide_eq_false h]; simp [h]
instance : Eqv D.str 0 := ⟨fun a b => by show PyData.eqv (.str a) (.str b) = _; unfold PyData.eqv; exact str_beq a b, fun _ => rfl, fun a h => h, fun _ => Nat.le_refl _⟩
theorem eqvAll_of {e : α → D} [DecidableEq α] (h : ∀ a b, PyData.eqv (toPy (e a)) (toPy (e b)) = decide (a = b)) : ∀ l m : List α, PyData.eqvAll (toPyA (l.map e)) (toPyA (m.map e)) = decide (l = m)
  | [], [] => rfl
  | [], b :: m => by rw [decide_eq_false (fun z => nomatch z)]; rfl
  | a :: l, [] => by rw [decide_eq_false (fun z => nomatch z)]; rfl
  | a :: l, b :: m => by
    show (PyData.eqv (toPy (e a)) (toPy (e b)) && PyData.eqvAll (toPyA (l.map e)) (toPyA (m.map e))) = _
    rw [h, eqvAll_of h l m]
    by_cases h1 : a = b
    · by_cases h2 : l = m
      · subst h1 h2; simp
      · rw [decide_eq_false h2, decide_eq_false (fun z => h2 (List.cons.inj z).2), Bool.and_false]
    · rw [decide_eq_false h1, decide_eq_false (fun z => h1 (List.cons.inj z).1), Bool.false_and]
theorem noDA_of {e : α → D} (h : ∀ a, noD (e a) = true) : ∀ l : List α, noDA (l.map e) = true
  | [] => rfl
  | a :: l => by show (noD (e a) && noDA (l.map e)) = true; rw [h, noDA_of h l]; rfl
theorem can_of {e : α → D} [SOk α] (h : ∀ a, sok a = true → (toPy (e a)).canLay0 = true) : ∀ l : List α, l.all sok = true → PyData.canLayAll0 (toPyA (l.map e)) = true
  | [], _ => rfl
  | a :: l, z => by
    rw [List.all_cons, Bool.and_eq_true] at z
    show ((toPy (e a)).canLay0 && PyData.canLayAll0 (toPyA (l.map e))) = true
    rw [h a z.1, can_of h l z.2]; rfl
theorem dep_of {e : α → D} {n : Nat} (h : ∀ a, (toPy (e a)).depth ≤ n) : ∀ l : List α, PyData.depthAll (toPyA (l.map e)) ≤ n
  | [] => Nat.zero_le _
  | a :: l => Nat.max_le.mpr ⟨h a, dep_of h l⟩
instance {e : α → D} [DecidableEq α] [SOk α] {n : Nat} [i : Eqv e n] : Eqv (eL e) (n + 1) := ⟨fun a b => eqvAll_of i.ev a b, fun a => noDA_of i.nd a, fun a h => can_of i.ca a h, fun a => Nat.succ_le_succ (dep_of i.dp a)⟩
instance {e : α → D} [DecidableEq α] [SOk α] {n : Nat} [i : Eqv e n] : Eqv (eTU e) (n + 1) := ⟨fun a b => eqvAll_of i.ev a b, fun a => noDA_of i.nd a, fun a h => can_of i.ca a h, fun a => Nat.succ_le_succ (dep_of i.dp a)⟩
theorem pair_dec [DecidableEq α] [DecidableEq β] (x y : α × β) : (decide (x.1 = y.1) && (decide (x.2 = y.2) && true)) = decide (x = y) := by
  obtain ⟨a, b⟩ := x
  obtain ⟨c, d⟩ := y
  rw [Bool.and_true]
  by_cases h1 : a = c
  · by_cases h2 : b = d
    · subst h1 h2; simp
    · rw [decide_eq_false (show ¬ (a, b).2 = (c, d).2 from h2), decide_eq_false (fun z => h2 (Prod.mk.inj z).2), Bool.and_false]
  · rw [decide_eq_false (show ¬ (a, b).1 = (c, d).1 from h1), decide_eq_false (fun z => h1 (Prod.mk.inj z).1), Bool.false_and]
instance {a : α → D} {b : β → D} [DecidableEq α] [DecidableEq β] [SOk α] [SOk β] {n m : Nat} [i : Eqv a n] [j : Eqv b m] : Eqv (eP2 a b) (max n m + 1) := ⟨fun x y => by
    show (PyData.eqv (toPy (a x.1)) (toPy (a y.1)) && (PyData.eqv (toPy (b x.2)) (toPy (b y.2)) && true)) = _
    rw [i.ev, j.ev, pair_dec],
  fun x => by show (noD (a x.1) && (noD (b x.2) && true)) = true; rw [i.nd, j.nd]; rfl,
  fun x h => by
    have h : (sok x.1 && sok x.2) = true := h
    rw [Bool.and_eq_true] at h
    show ((toPy (a x.1)).canLay0 && ((toPy (b x.2)).canLay0 && true)) = true
    rw [i.ca _ h.1, j.ca _ h.2]; rfl,
  fun x => by
    show max _ (max _ 0) + 1 ≤ _
    have := i.dp x.1
    have := j.dp x.2
    omega⟩
instance {a : α → D} {b : β → D} [DecidableEq α] [DecidableEq β] [SOk α] [SOk β] {n m : Nat} [i : Eqv a n] [j : Eqv b m] : Eqv (eH2 a b) (max n m + 1) := ⟨fun x y => by
    show (PyData.eqv (toPy (a x.1)) (toPy (a y.1)) && (PyData.eqv (toPy (b x.2)) (toPy (b y.2)) && true)) = _
    rw [i.ev, j.ev, pair_dec],
  fun x => by show (noD (a x.1) && (noD (b x.2) && true)) = true; rw [i.nd, j.nd]; rfl,
  fun x h => by
    have h : (sok x.1 && sok x.2) = true := h
    rw [Bool.and_eq_true] at h
    show ((toPy (a x.1)).canLay0 && ((toPy (b x.2)).canLay0 && true)) = true
    rw [i.ca _ h.1, j.ca _ h.2]; rfl,
  fun x => by
    show max _ (max _ 0) + 1 ≤ _
    have := i.dp x.1
    have := j.dp x.2
    omega⟩
instance : Eqv (eT kII) 1 := ⟨fun x y => by
    show (PyData.eqv (.int x.1) (.int y.1) && (PyData.eqv (.int x.2) (.int y.2) && true)) = _
    have e : ∀ i j : Int, PyData.eqv (.int i) (.int j) = decide (i = j) := fun i j => by unfold PyData.eqv; exact beq_dec i j
    rw [e, e, pair_dec], fun _ => rfl, fun _ _ => rfl, fun _ => Nat.le_refl _⟩
instance : Eqv (eT kIS) 1 := ⟨fun x y => by
    show (PyData.eqv (.int x.1) (.int y.1) && (PyData.eqv (.str x.2) (.str y.2) && true)) = _
    have e : ∀ i j : Int, PyData.eqv (.int i) (.int j) = decide (i = j) := fun i j => by unfold PyData.eqv; exact beq_dec i j
    have e2 : ∀ i j : Str, PyData.eqv (.str i) (.str j) = decide (i = j) := fun i j => by unfold PyData.eqv; exact str_beq i j
    rw [e, e2, pair_dec], fun _ => rfl, fun x h => by
      have h : (true && PyData.strOk x.2) = true := h
      rw [Bool.true_and] at h
      show (true && (PyData.strOk x.2 && true)) = true
      rw [h]; rfl, fun _ => Nat.le_refl _⟩
theorem ok_tell : PyData.strOk "tell" = true := by decide +kernel
theorem ok_make : PyData.strOk "make" = true := by decide +kernel
theorem tell_ne : ¬ ("make" : Str) = "tell" := by decide +kernel
instance : Eqv rowD 2 := ⟨fun x y => by
    have es : ∀ i j : Str, PyData.eqv (.str i) (.str j) = decide (i = j) := fun i j => by unfold PyData.eqv; exact str_beq i j
    cases x with
    | tell a =>
      cases y with
      | tell b =>
        show (PyData.eqv (.str "tell") (.str "tell") && (PyData.eqv (.str a) (.str b) && true)) = _
        rw [es, es, decide_eq_true rfl, Bool.true_and, Bool.and_true]
        by_cases h : a = b
        · subst h; rw [decide_eq_true rfl, decide_eq_true rfl]
        · rw [decide_eq_false h, decide_eq_false (fun z => h (RowT.tell.inj z))]
      | make b g rs =>
        show (PyData.eqv (.str "tell") (.str "make") && PyData.eqvAll (toPyA [.str a]) (toPyA [.str b, .str g, .tup (rs.map D.str)])) = _
        rw [es, decide_eq_false (fun z => tell_ne z.symm), decide_eq_false (fun z => nomatch z)]; rfl
    | make a g rs =>
      cases y with
      | tell b =>
        show (PyData.eqv (.str "make") (.str "tell") && PyData.eqvAll (toPyA [.str a, .str g, .tup (rs.map D.str)]) (toPyA [.str b])) = _
        rw [es, decide_eq_false tell_ne, decide_eq_false (fun z => nomatch z)]; rfl
      | make b h ss =>
        show (PyData.eqv (.str "make") (.str "make") && (PyData.eqv (.str a) (.str b) && (PyData.eqv (.str g) (.str h) && (PyData.eqvAll (toPyA (rs.map D.str)) (toPyA (ss.map D.str)) && true)))) = _
        rw [es, es, es, eqvAll_of (e := D.str) es, decide_eq_true rfl, Bool.true_and, Bool.and_true]
        by_cases h1 : a = b
        · by_cases h2 : g = h
          · by_cases h3 : rs = ss
            · subst h1 h2 h3; simp
            · rw [decide_eq_false h3, decide_eq_false (fun z => h3 (RowT.make.inj z).2.2)]; simp
          · rw [decide_eq_false h2, decide_eq_false (fun z => h2 (RowT.make.inj z).2.1)]; simp
        · rw [decide_eq_false h1, decide_eq_false (fun z => h1 (RowT.make.inj z).1)]; simp,
  fun x => by
    cases x with
    | tell a => rfl
    | make a g rs =>
      show (true && (true && (true && (noDA (rs.map D.str) && true)))) = true
      rw [noDA_of fun _ => rfl]; rfl,
  fun x h => by
    cases x with
    | tell a =>
      have h : PyData.strOk a = true := h
      show (PyData.strOk "tell" && (PyData.strOk a && true)) = true
      rw [h, ok_tell]; rfl
    | make a g rs =>
      have h : (PyData.strOk a && (PyData.strOk g && rs.all PyData.strOk)) = true := h
      rw [Bool.and_eq_true, Bool.and_eq_true] at h
      show (PyData.strOk "make" && (PyData.strOk a && (PyData.strOk g && (PyData.canLayAll0 (toPyA (rs.map D.str)) && true)))) = true
      rw [h.1, h.2.1, can_of (e := D.str) (fun _ z => z) rs h.2.2, ok_make]; rfl,
  fun x => by
    cases x with
    | tell a => show max _ (max _ 0) + 1 ≤ 2; exact Nat.le_succ 1
    | make a g rs =>
      show max _ (max _ (max _ (max (PyData.depthAll (toPyA (rs.map D.str)) + 1) 0))) + 1 ≤ 2
      have := dep_of (e := D.str) (n := 0) (fun _ => Nat.le_refl _) rs
      show max 0 (max 0 (max 0 (max _ 0))) + 1 ≤ 2
      omega⟩
instance {e : α → D} [DecidableEq α] [SOk α] {n : Nat} [i : Eqv e n] [NN : Fact' (∀ a, PyData.eqv .none (toPy (e a)) = false ∧ PyData.eqv (toPy (e a)) .none = false)] : Eqv (eO e) n := ⟨fun x y => by
    cases x with
    | none =>
      cases y with
      | none => rfl
      | some y => show PyData.eqv .none (toPy (e y)) = _; rw [(NN.h y).1, decide_eq_false (fun z => nomatch z)]
    | some x =>
      cases y with
      | none => show PyData.eqv (toPy (e x)) .none = _; rw [(NN.h x).2, decide_eq_false (fun z => nomatch z)]
      | some y =>
        show PyData.eqv (toPy (e x)) (toPy (e y)) = _
        rw [i.ev]
        by_cases h : x = y
        · subst h; rw [decide_eq_true rfl, decide_eq_true rfl]
        · rw [decide_eq_false h, decide_eq_false (fun z => h (Option.some.inj z))],
  fun x => by cases x with
    | none => rfl
    | some x => exact i.nd x,
  fun x h => by cases x with
    | none => rfl
    | some x => exact i.ca x h,
  fun x => by cases x with
    | none => exact Nat.zero_le _
    | some x => exact i.dp x⟩
end
end PV

namespace PV
open PySem PySem.Spec PyProof.Rows L2 SH
def cutH (H : Hp) (f : List Addr) : Hp := fun a => if a ∈ f then none else H a
theorem cutH_in {H : Hp} {f : List Addr} {a : Addr} (h : a ∈ f) : cutH H f a = none := if_pos h
theorem cutH_out {H : Hp} {f : List Addr} {a : Addr} (h : a ∉ f) : cutH H f a = H a := if_neg h
theorem cutH_some {H : Hp} {f : List Addr} {a : Addr} {o : HO} (h : cutH H f a = some o) : a ∉ f ∧ H a = some o := by
  by_cases z : a ∈ f
  · rw [cutH_in z] at h; cases h
  · rw [cutH_out z] at h; exact ⟨z, h⟩
theorem cutH_none {H : Hp} {f : List Addr} {a : Addr} (h : cutH H f a = none) : a ∈ f ∨ H a = none := by
  by_cases z : a ∈ f
  · exact .inl z
  · rw [cutH_out z] at h; exact .inr h
theorem cutH_sm {H : Hp} {f : List Addr} : Sm (cutH H f) H := ⟨fun b o e _ => (cutH_some e).2, fun b ps e => ⟨ps, (cutH_some e).2, id⟩⟩
def setAll (ρ : List Sl) (is : List Nat) (out : Nat → Sl) : List Sl := is.foldl (fun r i => r.set i (out i)) ρ
theorem setAll_len {is : List Nat} {out : Nat → Sl} : ∀ {ρ : List Sl}, (setAll ρ is out).length = ρ.length := by
  induction is with
  | nil => intro ρ; rfl
  | cons i is ih => intro ρ; exact (ih (ρ := ρ.set i (out i))).trans (List.length_set ..)
theorem setAll_get {is : List Nat} {out : Nat → Sl} {k : Nat} {s : Sl} : ∀ {ρ : List Sl}, (setAll ρ is out)[k]? = some s → (k ∈ is ∧ s = out k) ∨ (k ∉ is ∧ ρ[k]? = some s) := by
  induction is with
  | nil => intro ρ h; exact .inr ⟨(fun z => nomatch z), h⟩
  | cons i is ih =>
    intro ρ h
    rcases ih (ρ := ρ.set i (out i)) h with ⟨h1, h2⟩ | ⟨h1, h2⟩
    · exact .inl ⟨List.mem_cons_of_mem _ h1, h2⟩
    · rw [List.getElem?_set] at h2
      by_cases z : i = k
      · rw [if_pos z] at h2
        split at h2
        · cases h2
          subst z
          exact .inl ⟨List.mem_cons_self, rfl⟩
        · cases h2
      · rw [if_neg z] at h2
        exact .inr ⟨fun q => (List.mem_cons.mp q).elim (fun e => z e.symm) h1, h2⟩
theorem dr_get {ρ : List Sl} {j : Nat} {s : Sl} (q : (dr ρ)[j]? = some s) : ∃ s0, ρ[j]? = some s0 ∧ s = s0.dr := by
  unfold dr at q
  rw [List.getElem?_map] at q
  cases z : ρ[j]? with
  | none => rw [z] at q; cases q
  | some s0 => rw [z] at q; cases q; exact ⟨s0, rfl, rfl⟩
section
variable {K : PySem.W.Frag} {B R0 R R' H H' : Hp} {ρ : List Sl} {σ : L2.St}
theorem TabsK.cut {f : List Addr} (h : TabsK K H) (n : ∀ p ∈ f, ∃ o, OwO o ∧ H p = some o) : TabsK K (cutH H f) := fun p hp e => by
  obtain ⟨ps, h1, h2, h3⟩ := h p hp e
  have out : ∀ {a : Addr} {o : HO}, H a = some o → ¬ OwO o → cutH H f a = some o := fun {a o} e w => by
    rw [cutH_out fun z => ?_]
    · exact e
    · obtain ⟨o2, w2, e2⟩ := n _ z
      rw [e] at e2
      cases e2
      exact w w2
  exact ⟨ps, out h1 id, h2, fun pos cv hc => let ⟨c, e1, e2⟩ := h3 pos cv hc; ⟨c, e1, out e2 id⟩⟩
theorem St.lend (h : St K B R0 R ρ σ H) {φ : Nat → List Addr} (fp : Fps K B R ρ σ H φ) (is : List Nat) (out : Nat → Sl) {ψ : Nat → List Addr}
    (t : Step R (cutH H (is.flatMap φ)) R' H')
    (hs : ∀ i ∈ is, ∀ v, σ[i]? = some v → SlOk K (cutH H (is.flatMap φ)) R' H' v (ψ i) (out i))
    (hd : ∀ i ∈ is, ∀ j ∈ is, i ≠ j → ∀ p ∈ ψ i, p ∉ ψ j) (hb : ∀ i ∈ is, i < ρ.length) :
    St K B R0 R' (setAll (dr ρ) is out) σ H' := by
  have fo : ∀ p ∈ is.flatMap φ, B p = none ∧ R p = none ∧ ∃ o, H p = some o := fun p hp => by
    obtain ⟨i, _, hi2⟩ := List.mem_flatMap.mp hp
    exact fp.own h.len hi2
  have keepB : ∀ k, k ∉ is → ∀ p ∈ φ k, p ∉ is.flatMap φ := fun k hk p hp z => by
    obtain ⟨i, hi, hi2⟩ := List.mem_flatMap.mp z
    exact fp.df k i p (fun e => hk (by rw [e]; exact hi)) hp hi2
  have BH : Sm B (cutH H (is.flatMap φ)) := by
    refine ⟨fun b o e n => ?_, fun b ps e => ?_⟩
    · rw [cutH_out fun z => by rw [(fo b z).1] at e; cases e]
      exact h.stp.hh.k b o e n
    · rw [cutH_out fun z => by rw [(fo b z).1] at e; cases e]
      exact h.stp.hh.t b ps e
  have bn : ∀ p, cutH H (is.flatMap φ) p = none → B p = none := fun p e => by
    rcases cutH_none e with z | z
    · exact (fo p z).1
    · exact Sm.free h.stp.hh z
  have stp : Step R0 B R' H' := by
    refine ⟨h.stp.rr.trans t.rr, t.rh, BH.trans t.hh, fun a e1 e2 => ?_, t.tp, t.tf, fun b ps e => by
      obtain ⟨p1, e1, n1⟩ := h.stp.cd b ps e
      obtain ⟨p2, e2, n2⟩ := t.cd b p1 (by rw [cutH_out fun z => by rw [(fo b z).1] at e; cases e]; exact e1)
      refine ⟨p2, e2, fun z => n2.1 (n1.1 z), fun pos cv e => ?_⟩
      rcases n2.2 pos cv e with z | z
      · rcases n1.2 pos cv z with z | ⟨c, e3, e4⟩
        · exact .inl z
        · refine .inr ⟨c, e3, t.hh.k _ _ ?_ trivial⟩
          rw [cutH_out fun z => ?_]
          · exact e4
          · obtain ⟨i, _, hi2⟩ := List.mem_flatMap.mp z
            obtain ⟨o, w, e5⟩ := fp.ownO h.len hi2
            rw [e4] at e5; cases e5; exact w
      · exact .inr z, t.te⟩
    cases q : R a with
    | none => exact bn a (t.nw a q e2)
    | some o => exact h.stp.nw a e1 (by rw [q]; intro z; cases z)
  have len : (setAll (dr ρ) is out).length = ρ.length := by rw [setAll_len]; unfold dr; rw [List.length_map]
  have frame : ∀ k, k ∉ is → ∀ p ∈ φ k, R' p = none ∧ ∀ o, OwO o → H p = some o → H' p = some o := fun k hk p hp => by
    have np := keepB k hk p hp
    obtain ⟨_, hr, o, ho⟩ := fp.own h.len hp
    refine ⟨?_, fun o w e => t.hh.k p o (by rw [cutH_out np]; exact e) w.nt⟩
    cases q : R' p with
    | none => rfl
    | some o2 =>
      have := t.nw p hr (by rw [q]; intro z; cases z)
      rw [cutH_out np, ho] at this
      cases this
  refine ⟨stp, h.tb, by rw [len, h.len], fun k => if k ∈ is then (match out k with | .no => [] | _ => ψ k) else φ k, fun k s v e1 e2 => ?_, fun k hk => ?_, fun i j p ij hi hj => ?_⟩
  · rcases setAll_get e1 with ⟨h1, h2⟩ | ⟨h1, h2⟩
    · rw [if_pos h1]
      have q := hs k h1 v e2
      subst h2
      cases w : out k with
      | no => rfl
      | sh d => rw [w] at q; exact q
      | al d => rw [w] at q; exact q
      | ow d =>
        rw [w] at q
        obtain ⟨p, e, f, b, o⟩ := q
        exact ⟨p, e, f, bn p b, o⟩
      | od pn d =>
        rw [w] at q
        obtain ⟨x, e, pq, o, k3⟩ := q
        exact ⟨x, e, pq, o, fun p hp => ⟨bn p (k3 p hp).1, (k3 p hp).2⟩⟩
    · rw [if_neg h1]
      obtain ⟨s0, e0, rfl⟩ := dr_get h2
      have q := fp.sl k s0 v e0 e2
      cases s0 with
      | no => exact q
      | sh d => obtain ⟨f, x, e, r⟩ := q; exact ⟨f, x, e, Rp.mono t.rr r⟩
      | al d =>
        obtain ⟨f, x, e, r⟩ := q
        by_cases z : imm d = true
        · rw [Sl.dr_t z]; exact ⟨f, x, e, Rp.mono t.rr (Rp.imm h.stp.tp h.stp.tf r z)⟩
        · rw [Sl.dr_f z]; exact f
      | ow d =>
        obtain ⟨p, e, f, b, hr, o, ho, od⟩ := q
        have fr := frame k h1 p (by rw [f]; exact List.mem_cons_self)
        have w : OwO o := by cases o <;> cases d <;> first | exact od.elim | trivial
        exact ⟨p, e, f, b, fr.1, o, fr.2 o w ho, od.mono t.rr⟩
      | od pn d =>
        obtain ⟨x, e, pq, o, k3⟩ := q
        exact ⟨x, e, pq, Ow.mono t.rr o fun p hp => (frame k h1 p hp).2, fun p hp => ⟨(k3 p hp).1, (frame k h1 p hp).1⟩⟩
  · rw [len] at hk
    rw [if_neg fun z => by have := hb k z; omega]
    exact fp.out k hk
  · have cl : ∀ {k q}, k ∈ is → q ∈ (match out k with | .no => [] | _ => ψ k) → q ∈ ψ k ∧ cutH H (is.flatMap φ) q = none := fun {k q} hk hq => by
      have hk' : k < σ.length := by rw [← h.len]; exact hb k hk
      have z := hs k hk _ (List.getElem?_eq_getElem hk')
      cases w : out k with
      | no => rw [w] at hq; cases hq
      | sh d => rw [w] at hq z; rw [z.1] at hq; cases hq
      | al d => rw [w] at hq z; rw [z.1] at hq; cases hq
      | ow d =>
        rw [w] at hq z
        obtain ⟨p, _, f, b, _⟩ := z
        refine ⟨hq, ?_⟩
        have hq : q ∈ ψ k := hq
        rw [f] at hq
        rw [List.mem_singleton.mp hq]
        exact b
      | od pn d =>
        rw [w] at hq z
        obtain ⟨x, _, _, _, k3⟩ := z
        exact ⟨hq, (k3 q hq).1⟩
    have far : ∀ {k q}, k ∉ is → q ∈ φ k → cutH H (is.flatMap φ) q ≠ none := fun {k q} hk hq e => by
      rw [cutH_out (keepB k hk q hq)] at e
      obtain ⟨_, _, o, ho⟩ := fp.own h.len hq
      rw [ho] at e; cases e
    have hi : p ∈ (if i ∈ is then (match out i with | .no => [] | _ => ψ i) else φ i) := hi
    have hj : p ∈ (if j ∈ is then (match out j with | .no => [] | _ => ψ j) else φ j) := hj
    by_cases ai : i ∈ is
    · rw [if_pos ai] at hi
      obtain ⟨h1, h2⟩ := cl ai hi
      by_cases aj : j ∈ is
      · rw [if_pos aj] at hj
        exact hd i ai j aj ij p h1 (cl aj hj).1
      · rw [if_neg aj] at hj
        exact far aj hj h2
    · rw [if_neg ai] at hi
      by_cases aj : j ∈ is
      · rw [if_pos aj] at hj
        exact far ai hi (cl aj hj).2
      · rw [if_neg aj] at hj
        exact fp.df i j p ij hi hj
end
def spI (K : PySem.W.Frag) (Rel : List V → List Sl → Rs → List Sl → Prop) : Sp := fun vs H Q _ => ∃ B R ρa r ρo, St K B R R ρa (vs.map some) H ∧ Rel vs ρa r ρo ∧
  ∀ v R' H', St K B R R' ρo (vs.map some) H' → Res K B R' H' v r → Q v H'
def beginI (N : List Str) (ρa : List Sl) : List Sl := ρa ++ List.replicate (N.length - ρa.length) .no
theorem beginI_st {K : PySem.W.Frag} {B R0 R H : Hp} {N : List Str} {vs : List V} {ρa : List Sl} (s : St K B R0 R ρa (vs.map some) H) : St K B R0 R (beginI N ρa) (L2.start N vs) H := by
  have ln : ρa.length = vs.length := by have := s.len; rw [List.length_map] at this; exact this
  obtain ⟨φ, fp⟩ := s.fps
  refine ⟨s.stp, s.tb, ?_, φ, fun i t v e1 e2 => ?_, fun i hi => ?_, fp.df⟩
  · unfold beginI L2.start
    rw [List.length_append, List.length_append, List.length_map, List.length_replicate, List.length_replicate, ln]
  · unfold beginI at e1
    unfold L2.start at e2
    rw [List.getElem?_append] at e1 e2
    rw [List.length_map, ← ln] at e2
    split at e1
    · rename_i hl
      rw [if_pos hl] at e2
      exact fp.sl i t v e1 e2
    · rename_i hl
      rw [List.getElem?_replicate] at e1
      split at e1 <;> cases e1
      exact fp.out i (by omega)
  · unfold beginI at hi
    rw [List.length_append] at hi
    exact fp.out i (by omega)
theorem endI_st {K : PySem.W.Frag} {B R0 R H : Hp} {us : List (Option V)} {ρ' ρo : List Sl} {σ : L2.St} (s : St K B R0 R ρ' σ H) (l : ∃ rest, Lt (ρo ++ rest) ρ') (hl : us.length = ρo.length)
    (pin : ∀ (i : Nat) (u : Option V) (v : Option V) (s : Sl) (f : List Addr), ρo[i]? = some s → us[i]? = some u → σ[i]? = some v → SlOk K B R H v f s → SlOk K B R H u f s) : St K B R0 R ρo us H := by
  obtain ⟨rest, l⟩ := l
  have s := s.weak l
  obtain ⟨φ, fp⟩ := s.fps
  have sl := s.len
  rw [List.length_append] at sl
  refine ⟨s.stp, s.tb, hl.symm, fun i => if i < ρo.length then φ i else [], fun i t u e1 e2 => ?_, fun i hi => if_neg (by omega), fun i j p ij a b => ?_⟩
  · obtain ⟨hi, _⟩ := List.getElem?_eq_some_iff.mp e1
    rw [if_pos hi]
    have hi2 : i < σ.length := by omega
    exact pin i u _ t _ e1 e2 (List.getElem?_eq_getElem hi2) (fp.sl i t _ (by rw [List.getElem?_append, if_pos hi]; exact e1) (List.getElem?_eq_getElem hi2))
  · have a : p ∈ (if i < ρo.length then φ i else []) := a
    have b : p ∈ (if j < ρo.length then φ j else []) := b
    split at a
    · split at b
      · exact fp.df i j p ij a b
      · cases b
    · cases a

def OutOk (vs : List V) (ρo : List Sl) : Prop := ρo.length = vs.length ∧ ∀ (i : Nat) (s : Sl) (v : V), ρo[i]? = some s → vs[i]? = some v → s = .no ∨ ∃ d, s = .od (some v) d
section
variable {Pg : Program} {w : World} {mg : Str → Option Value} {base : Heap} {K : PySem.W.Frag} {q nm : Str} {params : Arguments} {bd : List Stmt} {scope : Scope} {kws : List (Str × V)} {f : Addr} {fd : FuncData} {N ps : List Str} {k : Nat} {Rel : List V → List Sl → Rs → List Sl → Prop}
theorem ok_fnI (F : FunD K nm q params bd scope [] kws f fd) (S : FnScope N ps scope) (len : ∀ vs ρa r ρo, Rel vs ρa r ρo → vs.length = ps.length) (out : ∀ vs ρa r ρo, Rel vs ρa r ρo → OutOk vs ρo)
    (h : ∀ (cdv : Value) (A : Around) (outer : List Env) (s : Shared) (H : Hp) (vs : List V) (ρa : List Sl) (r : Rs) (ρo : List Sl) (E : XK) (W : L2.WX), Room k (A.deeper (envOfC q scope s.heap.objs.size f cdv)) → Rel vs ρa r ρo →
      SXs (cxOf CX0 Pg w K mg base N q scope f cdv A outer s H E).nox W bd (beginI N ρa) ⟨fun ρ' => r = .sh .non ∧ ∃ rest, Lt (ρo ++ rest) ρ', fun r' ρ' => r' = r ∧ ∃ rest, Lt (ρo ++ rest) ρ', fun _ => False, fun _ => False, fun _ _ => False⟩) : FnOk Pg w K mg base CX0 (k + 1) f fd ps (spI K Rel) := by
  have pin : ∀ {vs : List V} {ρa ρo : List Sl} {r : Rs} {B R H : Hp}, Rel vs ρa r ρo → ∀ (i : Nat) (u : Option V) (v : Option V) (s : Sl) (g : List Addr), ρo[i]? = some s → (vs.map some)[i]? = some u → SlOk K B R H v g s → SlOk K B R H u g s := fun {vs} {ρa} {ρo} {r} {B} {R} {H} hR i u v s g e1 e2 z => by
    rw [List.getElem?_map] at e2
    cases e3 : vs[i]? with
    | none => rw [e3] at e2; cases e2
    | some x =>
      rw [e3] at e2
      cases e2
      rcases (out _ _ _ _ hR).2 i s x e1 e3 with rfl | ⟨d, rfl⟩
      · exact z
      · obtain ⟨y, rfl, pq, o, k3⟩ := z
        have := pq x rfl
        subst this
        exact ⟨y, rfl, pq, o, k3⟩
  refine F.ok S (fun vs H Q E hs => ?_) fun cdv A outer s H vs Q E hr hs => ?_
  · obtain ⟨B, R, ρa, r, ρo, h1, h2, _⟩ := hs
    exact len _ _ _ _ h2
  · obtain ⟨B, R, ρa, r, ρo, h1, h2, kk⟩ := hs
    have ln : (vs.map some).length = ρo.length := by rw [List.length_map]; exact ((out _ _ _ _ h2).1).symm
    refine ⟨_, PSs.nox pss_sem, h cdv A outer s H vs ρa r ρo E (fun _ _ _ _ => True) hr h2 B R R _ H _ (beginI_st h1) ⟨fun ρ' R' σ' H' e s' => ?_, fun r' ρ' v R' σ' H' e s' q => ?_, fun _ _ _ _ z => z.elim, fun _ _ _ _ z => z.elim, fun _ _ _ _ _ z => z.elim⟩⟩
    · obtain ⟨e, l⟩ := e
      subst e
      exact kk _ R' H' (endI_st s' l ln fun i u v s g e1 e2 _ z => pin h2 i u v s g e1 e2 z) Rp.non
    · obtain ⟨e, l⟩ := e
      subst e
      exact kk v R' H' (endI_st s' l ln fun i u v s g e1 e2 _ z => pin h2 i u v s g e1 e2 z) q
end
inductive AI where
  | rd (d : D)
  | io (i : Nat) (pn : Option V) (d : D) (o : Option D)
def argSl : List V → List AI → List Sl
  | v :: vs, .rd d :: as => .sh d :: argSl vs as
  | v :: vs, .io _ _ d _ :: as => .od (some v) d :: argSl vs as
  | _, _ => []
def outSl : List V → List AI → List Sl
  | v :: vs, .rd d :: as => .no :: outSl vs as
  | v :: vs, .io _ _ _ (some d) :: as => .od (some v) d :: outSl vs as
  | v :: vs, .io _ _ _ none :: as => .no :: outSl vs as
  | _, _ => []
def ioIx : List AI → List Nat
  | [] => []
  | .rd _ :: as => ioIx as
  | .io i _ _ _ :: as => i :: ioIx as
def ioOut : List AI → Nat → Sl
  | [], _ => .no
  | .rd _ :: as, k => ioOut as k
  | .io i pn _ (some d) :: as, k => if i = k then .od pn d else ioOut as k
  | .io i _ _ none :: as, k => if i = k then .no else ioOut as k
def ioPos : List AI → Nat → Nat
  | [], _ => 0
  | .rd _ :: as, k => ioPos as k + 1
  | .io i _ _ _ :: as, k => if i = k then 0 else ioPos as k + 1
def ioFp (φ : Nat → List Addr) : List AI → Nat → List Addr
  | [], _ => []
  | .rd _ :: _, 0 => []
  | .io i _ _ _ :: _, 0 => φ i
  | _ :: as, j + 1 => ioFp φ as j
inductive ArgsI (K : PySem.W.Frag) (R : Hp) (ρ : List Sl) (σ : L2.St) : List V → List AI → Prop
  | nil : ArgsI K R ρ σ [] []
  | rd {v : V} {vs : List V} {d : D} {as : List AI} : Rp K R v d → ArgsI K R ρ σ vs as → ArgsI K R ρ σ (v :: vs) (.rd d :: as)
  | io {v : V} {vs : List V} {i : Nat} {pn : Option V} {d : D} {o : Option D} {as : List AI} : σ[i]? = some (some v) → ρ[i]? = some (.od pn d) → ArgsI K R ρ σ vs as → ArgsI K R ρ σ (v :: vs) (.io i pn d o :: as)
section
variable {K : PySem.W.Frag} {B R0 R R' H H' : Hp} {ρ : List Sl} {σ : L2.St}
theorem ArgsI.len : ∀ {vs : List V} {as : List AI}, ArgsI K R ρ σ vs as → vs.length = as.length ∧ (argSl vs as).length = vs.length ∧ (outSl vs as).length = vs.length
  | _, _, .nil => ⟨rfl, rfl, rfl⟩
  | _, _, .rd _ r => by
    obtain ⟨h1, h2, h3⟩ := ArgsI.len r
    exact ⟨congrArg Nat.succ h1, congrArg Nat.succ h2, congrArg Nat.succ h3⟩
  | _, _, .io (o := o) _ _ r => by
    obtain ⟨h1, h2, h3⟩ := ArgsI.len r
    cases o <;> exact ⟨congrArg Nat.succ h1, congrArg Nat.succ h2, congrArg Nat.succ h3⟩
theorem ArgsI.mono (s : Sm R R') : ∀ {vs : List V} {as : List AI}, ArgsI K R ρ σ vs as → ArgsI K R' ρ σ vs as
  | _, _, .nil => .nil
  | _, _, .rd h r => .rd (Rp.mono s h) (ArgsI.mono s r)
  | _, _, .io h1 h2 r => .io h1 h2 (ArgsI.mono s r)
theorem ArgsI.sl {φ : Nat → List Addr} {B' : Hp} {is : List Nat} (hS : ∀ (i : Nat) (pn : Option V) (d : D) (x : V), ρ[i]? = some (.od pn d) → σ[i]? = some (some x) → i ∈ is → SlOk K B' R H (some x) (φ i) (.od (some x) d)) : ∀ {vs : List V} {as : List AI}, ArgsI K R ρ σ vs as → (∀ i ∈ ioIx as, i ∈ is) → ∀ (j : Nat) (s : Sl) (v : Option V), (argSl vs as)[j]? = some s → (vs.map some)[j]? = some v → SlOk K B' R H v (ioFp φ as j) s := by
  intro vs as h
  induction h with
  | nil => intro _ j s v e; simp [argSl] at e
  | rd h r ih =>
    intro hi j s v e1 e2
    cases j with
    | zero => simp [argSl] at e1 e2; subst e1 e2; exact ⟨rfl, _, rfl, h⟩
    | succ j => exact ih hi j s v (by simpa [argSl] using e1) (by simpa using e2)
  | io h1 h2 r ih =>
    intro hi j s v e1 e2
    cases j with
    | zero => simp [argSl] at e1 e2; subst e1 e2; exact hS _ _ _ _ h2 h1 (hi _ List.mem_cons_self)
    | succ j => exact ih (fun i z => hi i (List.mem_cons_of_mem _ z)) j s v (by simpa [argSl] using e1) (by simpa using e2)
theorem ioFp_mem {φ : Nat → List Addr} {p : Addr} : ∀ {as : List AI} {j : Nat}, p ∈ ioFp φ as j → ∃ i ∈ ioIx as, p ∈ φ i
  | [], _, h => nomatch h
  | .rd _ :: _, 0, h => nomatch h
  | .io i _ _ _ :: _, 0, h => ⟨i, List.mem_cons_self, h⟩
  | .rd _ :: as, j + 1, h => ioFp_mem (as := as) (j := j) h
  | .io i _ _ _ :: as, j + 1, h => let ⟨k, h1, h2⟩ := ioFp_mem (as := as) (j := j) h; ⟨k, List.mem_cons_of_mem _ h1, h2⟩
theorem ioFp_df {φ : Nat → List Addr} (df : ∀ i j p, i ≠ j → p ∈ φ i → p ∉ φ j) : ∀ {as : List AI}, (ioIx as).Nodup → ∀ {j k : Nat} {p : Addr}, j ≠ k → p ∈ ioFp φ as j → p ∉ ioFp φ as k
  | [], _, _, _, _, _, h, _ => nomatch h
  | .rd _ :: _, _, 0, _, _, _, h, _ => nomatch h
  | .rd _ :: _, _, _ + 1, 0, _, _, _, h => nomatch h
  | .rd _ :: as, n, j + 1, k + 1, _, jk, h1, h2 => ioFp_df df (as := as) n (fun e => jk (congrArg _ e)) h1 h2
  | .io i _ _ _ :: as, n, 0, 0, _, jk, _, _ => jk rfl
  | .io i _ _ _ :: as, n, 0, k + 1, p, jk, h1, h2 => by
    obtain ⟨m, h3, h4⟩ := ioFp_mem (as := as) (j := k) h2
    exact df i m p (fun e => (List.nodup_cons.mp n).1 (by rw [e]; exact h3)) h1 h4
  | .io i _ _ _ :: as, n, j + 1, 0, p, jk, h1, h2 => by
    obtain ⟨m, h3, h4⟩ := ioFp_mem (as := as) (j := j) h1
    exact df m i p (fun e => (List.nodup_cons.mp n).1 (by rw [← e]; exact h3)) h4 h2
  | .io i _ _ _ :: as, n, j + 1, k + 1, _, jk, h1, h2 => ioFp_df df (as := as) (List.nodup_cons.mp n).2 (fun e => jk (congrArg _ e)) h1 h2
theorem ioPos_inj : ∀ {as : List AI} {i j : Nat}, i ∈ ioIx as → j ∈ ioIx as → ioPos as i = ioPos as j → i = j
  | .rd _ :: as, i, j, h1, h2, e => ioPos_inj (as := as) h1 h2 (Nat.succ.inj e)
  | .io k _ _ _ :: as, i, j, h1, h2, e => by
    by_cases zi : k = i
    · by_cases zj : k = j
      · exact zi.symm.trans zj
      · simp [ioPos, zi, fun q : i = j => zj (zi.trans q)] at e
        exact e
    · by_cases zj : k = j
      · subst zj
        simp [ioPos, zi] at e
      · simp [ioPos, zi, zj] at e
        exact ioPos_inj (as := as) ((List.mem_cons.mp h1).resolve_left fun q => zi q.symm) ((List.mem_cons.mp h2).resolve_left fun q => zj q.symm) e
theorem ArgsI.back {φo : Nat → List Addr} {B' : Hp} : ∀ {vs : List V} {as : List AI}, ArgsI K R ρ σ vs as → (∀ (j : Nat) (s : Sl) (v : Option V), (outSl vs as)[j]? = some s → (vs.map some)[j]? = some v → SlOk K B' R' H' v (φo j) s) →
    (∀ (i : Nat) (pn : Option V) (d : D) (x : V), ρ[i]? = some (.od pn d) → σ[i]? = some (some x) → ∀ y, pn = some y → x = y) → ∀ i ∈ ioIx as, ∀ v, σ[i]? = some v → SlOk K B' R' H' v (φo (ioPos as i)) (ioOut as i) := by
  intro vs as h
  induction h generalizing φo with
  | nil => intro _ _ i hi; cases hi
  | rd h r ih =>
    intro hs hp i hi v ev
    exact ih (φo := fun j => φo (j + 1)) (fun j s v e1 e2 => hs (j + 1) s v (by simpa [outSl] using e1) (by simpa using e2)) hp i hi v ev
  | @io v0 vs i0 pn d o as h1 h2 r ih =>
    intro hs hp i hi v ev
    by_cases z : i0 = i
    · subst z
      rw [h1] at ev
      cases ev
      have q := hs 0
      cases o with
      | none =>
        have q := q .no (some v0) (by simp [outSl]) (by simp)
        simp only [ioOut, ioPos, if_true]
        exact q
      | some d' =>
        obtain ⟨x, e, _, w, k3⟩ := q (.od (some v0) d') (some v0) (by simp [outSl]) (by simp)
        cases e
        simp only [ioOut, ioPos, if_true]
        exact ⟨v0, rfl, hp i0 pn d v0 h2 h1, w, k3⟩
    · have hi' : i ∈ ioIx as := (List.mem_cons.mp hi).resolve_left fun q => z q.symm
      have q := ih (φo := fun j => φo (j + 1)) (fun j s v e1 e2 => hs (j + 1) s v (by cases o <;> simpa [outSl] using e1) (by simpa using e2)) hp i hi' v ev
      have e1 : ioPos (.io i0 pn d o :: as) i = ioPos as i + 1 := by simp [ioPos, z]
      have e2 : ioOut (.io i0 pn d o :: as) i = ioOut as i := by cases o <;> simp [ioOut, z]
      rw [e1, e2]
      exact q
theorem ArgsI.lt (l : ρ.length = σ.length) : ∀ {vs : List V} {as : List AI}, ArgsI K R ρ σ vs as → ∀ i ∈ ioIx as, i < ρ.length
  | _, _, .nil, i, h => nomatch h
  | _, _, .rd _ r, i, h => ArgsI.lt l r i h
  | _, _, .io h1 h2 r, i, h => by
    rcases List.mem_cons.mp h with rfl | h
    · exact (List.getElem?_eq_some_iff.mp h2).1
    · exact ArgsI.lt l r i h
theorem ArgsI.od : ∀ {vs : List V} {as : List AI}, ArgsI K R ρ σ vs as → ∀ i ∈ ioIx as, ∃ (pn : Option V) (d : D), ρ[i]? = some (.od pn d)
  | _, _, .nil, i, h => nomatch h
  | _, _, .rd _ r, i, h => ArgsI.od r i h
  | _, _, .io h1 h2 r, i, h => by
    rcases List.mem_cons.mp h with rfl | h
    · exact ⟨_, _, h2⟩
    · exact ArgsI.od r i h
theorem ioFp_flat {φ : Nat → List Addr} {as : List AI} {j : Nat} {p : Addr} (h : p ∈ ioFp φ as j) : p ∈ (ioIx as).flatMap φ := by
  obtain ⟨i, h1, h2⟩ := ioFp_mem h
  exact List.mem_flatMap.mpr ⟨i, h1, h2⟩
theorem ioFp_none {φ : Nat → List Addr} : ∀ {as : List AI} {j : Nat}, as.length ≤ j → ioFp φ as j = []
  | [], _, _ => rfl
  | .rd _ :: as, j + 1, h => ioFp_none (as := as) (j := j) (Nat.le_of_succ_le_succ h)
  | .io _ _ _ _ :: as, j + 1, h => ioFp_none (as := as) (j := j) (Nat.le_of_succ_le_succ h)
end
def AXI (X : Cx) (es : List Expr) (ρ : List Sl) (as : List AI) : Prop := ∀ B R0 R σ H (Q : List V → Hp → Prop), St X.K B R0 R ρ σ H → (∀ vs R' H', Step R H R' H' → ArgsI X.K R' ρ σ vs as → Q vs H') → tA X es σ H Q
section
variable {X : Cx} {W : L2.WX} {ρ : List Sl} {e : Expr} {es : List Expr} {as : List AI} {pos : Pos} {P : Post}
theorem AXI.of {t : TA} (p : PA X es t) (h : ∀ B R0 R σ H (Q : List V → Hp → Prop), St X.K B R0 R ρ σ H → (∀ vs R' H', Step R H R' H' → ArgsI X.K R' ρ σ vs as → Q vs H') → t σ H Q) : AXI X es ρ as := fun B R0 R σ H Q s k pos pins sh I => p.run pos pins sh σ H Q I (h B R0 R σ H Q s k)
theorem axi_nil : AXI X [] ρ [] := .of pa_nil fun B R0 R σ H Q s k => k [] R H s.sub.step .nil
theorem axi_rd {d : D} (ha : EX X e ρ (.sh d)) (hr : AXI X es ρ as) (hs : starEach (e :: es) X.env = (false, eval e X.env) :: starEach es X.env := by rfl) : AXI X (e :: es) ρ (.rd d :: as) :=
  .of (pa_cons pe_sem pa_sem hs) fun B R0 R σ H Q s k => ha B R0 R σ H _ s fun x R1 H1 s1 r1 => hr B R0 R1 σ H1 _ (s.step s1) fun vs R2 H2 s2 r2 =>
    k _ R2 H2 (s1.trans s2) (.rd (Rp.mono s2.rr r1) r2)
theorem axi_io {i : Nat} {pn : Option V} {d : D} {o : Option D} (po : PE X e (tVar i)) (hi : ρ[i]? = some (.od pn d)) (hr : AXI X es ρ as) (hs : starEach (e :: es) X.env = (false, eval e X.env) :: starEach es X.env := by rfl) : AXI X (e :: es) ρ (.io i pn d o :: as) :=
  .of (pa_cons po pa_sem hs) fun B R0 R σ H Q s k => by
    obtain ⟨v, f, ev, x, rfl, _, w, _⟩ := s.at hi
    exact ⟨x, ev, hr B R0 R σ H _ s fun vs R2 H2 s2 r2 => k _ R2 H2 s2 (.io ev hi r2)⟩
variable {CX : CXT} {E : XK} {k : Nat} {f : Addr} {fd : FuncData} {ps : List Str} {Rel : List V → List Sl → Rs → List Sl → Prop} {x : Str} {p : Pos} {r : Rs}
theorem call_io {B R0 R H : Hp} {σ : L2.St} {vs : List V} {Q : VK} {E : XK} (s : St X.K B R0 R ρ σ H) (ha : ArgsI X.K R ρ σ vs as) (nd : (ioIx as).Nodup) (hR : Rel vs (argSl vs as) r (outSl vs as))
    (kk : ∀ v R' H' B', St X.K B R0 R' (setAll (dr ρ) (ioIx as) (ioOut as)) σ H' → Sm R R' → Res X.K B' R' H' v r → Q v H') : spI X.K Rel vs H Q E := by
  obtain ⟨φ, fp⟩ := s.fps
  have fo : ∀ q ∈ (ioIx as).flatMap φ, B q = none ∧ R q = none ∧ ∃ o, OwO o ∧ H q = some o := fun q hq => by
    obtain ⟨i, hi, hi2⟩ := List.mem_flatMap.mp hq
    obtain ⟨h1, h2, o, h3⟩ := fp.own s.len hi2
    have hl := ha.lt s.len i hi
    obtain ⟨pn, d, hod⟩ : ∃ (pn : Option V) (d : D), ρ[i]? = some (.od pn d) := ha.od i hi
    obtain ⟨x, _, _, w, _⟩ := fp.sl i _ _ hod (List.getElem?_eq_getElem (by rw [← s.len]; exact hl))
    obtain ⟨o2, w1, w2⟩ := w.at q hi2
    exact ⟨h1, h2, o2, w1, w2⟩
  have stp : Step R (cutH H ((ioIx as).flatMap φ)) R H := ⟨Sm.refl _, s.stp.rh, cutH_sm, fun a h h' => absurd h h', s.stp.tp, s.stp.tf, fun b ps e => ⟨ps, (cutH_some e).2, NewC.same⟩, s.stp.te⟩
  have pins : ∀ (i : Nat) (pn : Option V) (d : D) (x : V), ρ[i]? = some (.od pn d) → σ[i]? = some (some x) → ∀ y, pn = some y → x = y := fun i pn d x e1 e2 => by
    obtain ⟨z, h1, h2, _⟩ := fp.sl i _ _ e1 e2
    cases h1
    exact h2
  refine ⟨cutH H ((ioIx as).flatMap φ), R, argSl vs as, r, outSl vs as, ⟨stp, s.tabs.cut fun q hq => (fo q hq).2.2, by rw [List.length_map]; exact ha.len.2.1, ioFp φ as, ?_, ?_, ?_⟩, hR, fun v R' H' s' q => ?_⟩
  · refine ArgsI.sl (is := ioIx as) (fun i pn d x e1 e2 hi => ?_) ha (fun _ z => z)
    obtain ⟨z, h1, h2, w, h4⟩ := fp.sl i _ _ e1 e2
    cases h1
    exact ⟨x, rfl, fun y e => Option.some.inj e, w, fun q hq => ⟨cutH_in (List.mem_flatMap.mpr ⟨i, hi, hq⟩), (h4 q hq).2⟩⟩
  · intro i hi
    exact ioFp_none (by rw [← ha.len.1, ← ha.len.2.1]; exact hi)
  · intro i j q ij a b
    exact ioFp_df fp.df nd ij a b
  · obtain ⟨φo, fo2⟩ := s'.fps
    refine kk v R' H' _ (s.lend fp (ioIx as) (ioOut as) (ψ := fun i => φo (ioPos as i)) s'.stp (ha.back fo2.sl pins) (fun i hi j hj ij q a b => ?_) (ha.lt s.len)) s'.stp.rr q
    exact fo2.df _ _ q (fun e => ij (ioPos_inj hi hj e)) a b
theorem sx_callI (F : FnOk X.prog X.w X.K X.mg X.base CX k f fd ps (spI X.K Rel)) (hr : Room k X.A) (hg : Gl X x) (hm : X.mg x = some (.ref f)) (hk : PySem.W.keepIn X.K (.ref f) = true) (hb : Binds X.K fd ps []) (hx : Passes CX X E)
    (ha : AXI X (e :: es) ρ as) (nd : (ioIx as).Nodup) (hR : ∀ vs, vs.length = as.length → Rel vs (argSl vs as) r (outSl vs as)) (h : P.nx (setAll (dr ρ) (ioIx as) (ioOut as)))
    (hdb : (x == ("__debug__" : Str)) = false := by decide) (he : starEach (e :: es) X.env = (false, eval e X.env) :: starEach es X.env := by rfl) (hpl : (backTo pos (starEach es X.env)).any (·.1) = false := by rfl)
    {spos : Pos} (hs : swapsWith (.Call (.Name x p) (e :: es) [] pos) none spos.line X.env = pure false := by rfl) : SX X W (.Expr (.Call (.Name x p) (e :: es) [] pos) spos) ρ P :=
  .of (ps_expr (pe_call F hr hg hm hk hb .nil hx pa_sem hdb he hpl) hs) fun B R0 R σ H D s n => ha B R0 R σ H _ s fun vs R1 H1 t1 q1 => by
    show spI X.K Rel (vs ++ []) H1 _ E
    rw [List.append_nil]
    exact call_io (s.step t1) q1 nd (hR vs q1.len.1) fun v R' H' B' s' _ _ => n.nx _ R' σ H' h s'
end
end PV

namespace PV
open PySem PySem.Spec PyProof.Rows L2 SH
structure WkS (K : PySem.W.Frag) (J : It) (R1 : Hp) (ds : List D) : Prop where
  ex : ∃ G Y, Walk J ds.length G Y ∧ (∀ R H, Sm R1 R → Sub R H → G H) ∧ ∀ i d, ds[i]? = some d → ∀ x R H H', Sm R1 R → Sub R H → Y i H x H' → ∃ R', Step R H R' H' ∧ Rp K R' x d
def ItX (X : Cx) (tg iter : Expr) (ρ : List Sl) (ds : List D) : Prop := ∃ wi, PI X tg iter wi ∧ ∀ B R0 R σ H (Z : It → Hp → Prop), St X.K B R0 R ρ σ H → (∀ J R1 H1, Step R H R1 H1 → WkS X.K J R1 ds → Z J H1) → wi σ H Z
section
variable {K : PySem.W.Frag} {X : Cx} {W : L2.WX} {ρ : List Sl} {tg iter e a : Expr} {ds : List D} {pos p : Pos}
theorem wk_seqL {b : Addr} {xs : List V} {R1 : Hp} (h : R1 b = some (.lst xs)) (r : RpA K R1 xs ds) : WkS K (Itl K b) R1 ds :=
  ⟨_, _, by rw [← r.len]; exact walk_list, fun R H s t => SqL.of (t.rh.k _ _ (s.k _ _ h trivial) trivial), fun i d hd x R H H' s t y => by
    obtain ⟨rfl, hx⟩ := y
    obtain ⟨v, h1, h2⟩ := r.get hd
    rw [h1] at hx
    cases hx
    exact ⟨R, t.step, Rp.mono s h2⟩⟩
theorem wk_seqT {b : Addr} {xs : List V} {R1 : Hp} (h : SqT K R1 b xs) (r : RpA K R1 xs ds) : WkS K (Itt K b) R1 ds :=
  ⟨_, _, by rw [← r.len]; exact walk_tup, fun R H s t => Sm.seqT t.rh (Sm.seqT s h), fun i d hd x R H H' s t y => by
    obtain ⟨rfl, hx⟩ := y
    obtain ⟨v, h1, h2⟩ := r.get hd
    rw [h1] at hx
    cases hx
    exact ⟨R, t.step, Rp.mono s h2⟩⟩
theorem it_list (hi : EX X iter ρ (.sh (.lst ds))) : ItX X tg iter ρ ds := ⟨_, pi_list pe_sem, fun B R0 R σ H Z s k => hi B R0 R σ H _ s fun v R1 H1 t1 q1 => by
  obtain ⟨p, xs, rfl, hx, hr⟩ := (show Rp X.K R1 v (.lst ds) from q1).lst'
  exact ⟨p, rfl, ⟨xs, SqL.of (t1.rh.k _ _ hx trivial)⟩, k _ R1 H1 t1 (wk_seqL hx hr)⟩⟩
theorem it_tup (hi : EX X iter ρ (.sh (.tup ds))) : ItX X tg iter ρ ds := ⟨_, pi_tup pe_sem, fun B R0 R σ H Z s k => hi B R0 R σ H _ s fun v R1 H1 t1 q1 => by
  obtain ⟨p, xs, rfl, hx, hr⟩ := (show Rp X.K R1 v (.tup ds) from q1).tup'
  exact ⟨p, rfl, ⟨xs, Sm.seqT t1.rh hx⟩, k _ R1 H1 t1 (wk_seqT hx hr)⟩⟩
theorem it_rng {j : Int} (hgl : Gl X "range") (hm : X.mg "range" = none) (ha : EX X a ρ (.sh (.int j))) (hj : -(2 ^ 62) ≤ j ∧ j < 2 ^ 62)
    (hst : starEach [a] X.env = [(false, eval a X.env)] := by rfl) : ItX X tg (.Call (.Name "range" p) [a] [] pos) ρ ((rangeI j).map D.int) :=
  ⟨_, pi_range1 hgl hm pa_sem hst, fun B R0 R σ H Z s k => (ax_cons ha ax_nil hst) B R0 R σ H _ s fun vs R1 H1 t1 q1 => by
    obtain ⟨v, rfl, q⟩ := q1.one
    have ln : j.toNat = ((rangeI j).map D.int).length := by rw [List.length_map, rangeI_len]
    refine ⟨j, by rw [Res.int t1.sub q rfl], hj.1, hj.2, k _ R1 H1 t1 ⟨_, _, by rw [← ln]; exact walk_range (lo := 0), fun _ _ _ _ => trivial, fun i d hd x R H H' s t y => ?_⟩⟩
    obtain ⟨rfl, rfl⟩ := y
    have hi : i < j.toNat := by rw [ln]; exact (List.getElem?_eq_some_iff.mp hd).1
    unfold rangeI at hd
    rw [List.map_map, List.getElem?_map, List.getElem?_range hi] at hd
    cases hd
    exact ⟨R, t.step, by show Rp X.K R (.int (0 + (i : Int))) (.int (i : Int)); rw [Int.zero_add]; exact Rp.int _⟩⟩
def signsOf (z : Str) : List Str := z.cps.toList.map fun c => (⟨#[c]⟩ : Str)
theorem it_str {z : Str} (hi : EX X iter ρ (.sh (.str z))) : ItX X tg iter ρ ((signsOf z).map D.str) := ⟨_, pi_str pe_sem, fun B R0 R σ H Z s k => hi B R0 R σ H _ s fun v R1 H1 t1 q1 => by
  have ln : z.cps.size = ((signsOf z).map D.str).length := by unfold signsOf; rw [List.length_map, List.length_map, Array.length_toList]
  refine ⟨z, is_str _ _ q1, k _ R1 H1 t1 ⟨_, _, by rw [← ln]; exact walk_str, fun _ _ _ _ => trivial, fun i d hd x R H H' s t y => ?_⟩⟩
  obtain ⟨rfl, c, hc, rfl⟩ := y
  unfold signsOf at hd
  rw [List.map_map, List.getElem?_map, Array.getElem?_toList, hc] at hd
  cases hd
  exact ⟨R, t.step, Rp.str _⟩⟩
theorem it_rev (hg : Gl X "reversed") (hm : X.mg "reversed" = none) (hi : EX X e ρ (.sh (.lst ds))) (hs : starEach [e] X.env = [(false, eval e X.env)] := by rfl) : ItX X tg (.Call (.Name "reversed" p) [e] [] pos) ρ ds.reverse :=
  ⟨_, pi_reversed hg hm pa_sem hs, fun B R0 R σ H Z s k => (ax_cons hi ax_nil hs) B R0 R σ H _ s fun vs R1 H1 t1 q1 => by
    obtain ⟨v, rfl, q⟩ := q1.one
    obtain ⟨b, xs, rfl, hx, hr⟩ := (show Rp X.K R1 v (.lst ds) from q).lst'
    refine ⟨b, xs, rfl, SqL.of (t1.rh.k _ _ hx trivial), k _ R1 H1 t1 ⟨_, _, by rw [List.length_reverse, ← hr.len]; exact walk_rev, fun R H s t => SqL.of (t.rh.k _ _ (s.k _ _ hx trivial) trivial), fun i d hd x R H H' s t y => ?_⟩⟩
    obtain ⟨rfl, hx2⟩ := y
    obtain ⟨hi, _⟩ := List.getElem?_eq_some_iff.mp hd
    rw [List.length_reverse] at hi
    rw [List.getElem?_reverse hi, ← hr.len] at hd
    obtain ⟨v, h1, h2⟩ := hr.get hd
    rw [h1] at hx2
    cases hx2
    exact ⟨R, t.step, Rp.mono s h2⟩⟩
theorem Step.newT {R H : Hp} (s : Sub R H) {T : Addr} {xs : List V} {ds : List D} (n : H T = none) (r : RpA K R xs ds) : Step R H (upd R T (.tup xs)) (upd H T (.tup xs)) ∧ Rp K (upd R T (.tup xs)) (.ref T) (.tup ds) :=
  ⟨s.step.newS n, Rp.tup (SqT.of upd_same) (RpA.mono ((Sm.refl R).upd (Sm.free s.rh n)) r)⟩
theorem it_enum {elts : List Expr} {kk : Nat} {tpos : Pos} (hg : Gl X "enumerate") (hm : X.mg "enumerate" = none) (hi : EX X e ρ (.sh (.lst ds))) (hs : starEach [e] X.env = [(false, eval e X.env)] := by rfl) :
    ItX X (.Tuple elts kk tpos) (.Call (.Name "enumerate" p) [e] [] pos) ρ (ds.zipIdx.map fun q => .tup [.int q.2, q.1]) :=
  ⟨_, pi_enum hg hm pa_sem hs, fun B R0 R σ H Z s k => (ax_cons hi ax_nil hs) B R0 R σ H _ s fun vs R1 H1 t1 q1 => by
    obtain ⟨v, rfl, q⟩ := q1.one
    obtain ⟨b, xs, rfl, hx, hr⟩ := (show Rp X.K R1 v (.lst ds) from q).lst'
    refine ⟨b, xs, rfl, SqL.of (t1.rh.k _ _ hx trivial), k _ R1 H1 t1 ⟨_, _, by rw [List.length_map, List.length_zipIdx, ← hr.len]; exact walk_enum, fun R H s t => SqL.of (t.rh.k _ _ (s.k _ _ hx trivial) trivial), fun i d hd x R H H' s t y => ?_⟩⟩
    obtain ⟨T, y1, y2, rfl, h1, rfl, h2, h3⟩ := y
    cases h2
    rw [List.getElem?_map, List.getElem?_zipIdx] at hd
    cases e : ds[i]? with
    | none => rw [e] at hd; cases hd
    | some d0 =>
      rw [e] at hd
      cases hd
      obtain ⟨v, g1, g2⟩ := hr.get e
      have h3 : xs[i]? = some y2 := h3
      rw [h3] at g1
      cases g1
      have := Step.newT (K := X.K) t h1 (.cons (.int (i : Nat)) (.cons (Rp.mono s g2) .nil))
      refine ⟨_, this.1, ?_⟩
      show Rp X.K _ _ (.tup [.int ((0 + i : Nat) : Int), d0])
      rw [Nat.zero_add]
      exact this.2⟩
theorem ItX.it (hc : X.calm = true) (hi : ItX X tg iter ρ ds) (hf : ∀ x, foldedSetIterable iter X.env x = pure x := by intro _; rfl) : IterX X tg iter ρ ds :=
  fun W P g body pos V₀ hp hg h0 hs hd => by
    obtain ⟨wi, pi, hw⟩ := hi
    refine .of (ps_for hp hc pi hg pss_sem hf) fun B R0 R σ H D s n => ?_
    refine hw B R0 R σ H _ s fun J R1 H1 t1 w => ?_
    obtain ⟨G, Y, wk, hG, hY⟩ := w.ex
    have s1 := s.step t1
    have n1 : Ens X.K W B R1 P D := n.rebase s1.stp
    refine for_it wk (fun i σ H => ∃ R' ρ1, V₀ i ρ1 ∧ St X.K B R1 R' ρ1 σ H) ⟨R1, ρ, h0, s1.base⟩ (fun i σ H _ ⟨R', ρ1, w, s'⟩ => hG R' H s'.stp.rr s'.sub) (fun i x σ2 H2 H3 hlt ⟨R', ρ1, w, s'⟩ y => ?_) (fun σ H ⟨R', ρ1, w, s'⟩ => n1.nx ρ1 R' σ H (hd ρ1 w) s')
    obtain ⟨R3, t3, r3⟩ := hY i _ (List.getElem?_eq_getElem hlt) x R' H2 H3 s'.stp.rr s'.sub y
    obtain ⟨ρ2, gv, sb⟩ := hs i _ ρ1 (List.getElem?_eq_getElem hlt) w
    refine gv B R1 R3 σ2 H3 x _ (s'.step t3) r3 fun σ3 s3 => sb B R1 R3 σ3 H3 _ s3 ⟨?_, ?_, ?_, ?_, ?_⟩
    · exact fun ρ' R' σ' H' w' s' => ⟨R', ρ', w', s'⟩
    · exact fun r ρ' v R' σ' H' p t q => n1.rt r ρ' v R' σ' H' p t q
    · exact fun ρ' R' σ' H' p s' => n1.nx ρ' R' σ' H' p s'
    · exact fun ρ' R' σ' H' w' s' => ⟨R', ρ', w', s'⟩
    · exact fun c ρ' R' σ' H' p s' => n1.ex c ρ' R' σ' H' p s'
structure WkC (K : PySem.W.Frag) (J : It) (R1 H1 : Hp) (ds : List D) (mk : D → Rs) : Prop where
  ex : ∃ G Y, Walk J ds.length G Y ∧ (∀ R H, Step R1 H1 R H → G H) ∧ ∀ i d, ds[i]? = some d → ∀ x R H H', Step R1 H1 R H → Y i H x H' → ∃ R', Step R H R' H' ∧ VOk K R' H' x (mk d)
theorem WkS.c {J : It} {R1 H1 : Hp} (w : WkS K J R1 ds) : WkC K J R1 H1 ds .sh := by
  obtain ⟨G, Y, wk, hG, hY⟩ := w.ex
  exact ⟨G, Y, wk, fun R H t => hG R H t.rr t.sub, fun i d hd x R H H' t y => hY i d hd x R H H' t.rr t.sub y⟩
def ItC (X : Cx) (tg iter : Expr) (ρ : List Sl) (ds : List D) (mk : D → Rs) (wi : TI) : Prop := PI X tg iter wi ∧ ∀ B R0 R σ H (Z : It → Hp → Prop), St X.K B R0 R ρ σ H → (∀ J R1 H1, Step R H R1 H1 → WkC X.K J R1 H1 ds mk → Z J H1) → wi σ H Z
theorem ItX.c (h : ItX X tg iter ρ ds) : ∃ wi, ItC X tg iter ρ ds .sh wi := by
  obtain ⟨wi, p, hw⟩ := h
  exact ⟨wi, p, fun B R0 R σ H Z s k => hw B R0 R σ H Z s fun J R1 H1 t w => k J R1 H1 t w.c⟩
theorem it_listA (hi : EX X iter ρ (.al (.lst ds))) : ∃ wi, ItC X tg iter ρ ds .al wi := ⟨_, pi_list pe_sem, fun B R0 R σ H Z s k => hi B R0 R σ H _ s fun v R1 H1 t1 q1 => by
  obtain ⟨p, xs, rfl, hx, hr⟩ := (show Rp X.K H1 v (.lst ds) from q1).lst'
  refine ⟨p, rfl, ⟨xs, SqL.of hx⟩, k _ R1 H1 t1 ⟨_, _, by rw [← hr.len]; exact walk_list, fun R H t => SqL.of (t.hh.k _ _ hx trivial), fun i d hd x R H H' t y => ?_⟩⟩
  obtain ⟨rfl, hx2⟩ := y
  obtain ⟨v, h1, h2⟩ := hr.get hd
  rw [h1] at hx2
  cases hx2
  exact ⟨R, t.sub.step, Rp.mono t.hh h2⟩⟩
def TurnX (X : Cx) (scope : Scope) (g : TG) (vs : List Nat) (ifs : List Expr) (ρ : List Sl) (d : Rs) (k : Bool) (E : List Sl → Prop) : Prop :=
  ∃ ρ2, Gv X.K g (wipeS ρ vs) d ρ2 ∧ (∀ (s : Shared) (H : Hp) (C : Addr) (cl : List (Str × Addr)) (fp : List Addr), TXs (X.blk s H scope (compEnvC scope cl C X.env) fp) ifs ρ2 k) ∧ (k = true → E ρ2)
def EXB (X : Cx) (scope : Scope) (elt : Expr) (r : Rs) (ρ2 : List Sl) : Prop := ∀ (s : Shared) (H : Hp) (C : Addr) (cl : List (Str × Addr)) (fp : List Addr), EX (X.blk s H scope (compEnvC scope cl C X.env) fp) elt ρ2 r
theorem LcW.turned {B R1 H1 : Hp} {Dd : Addr} {acc : List D} {H R H' R' : Hp} {xs : List V} (t : Step R1 H1 R H) (nr : R Dd = none) (hd : H Dd = some (.lst xs)) (ra : RpA K R xs acc) (t2 : Step R H R' H') : Step R1 H1 R' H' ∧ R' Dd = none ∧ H' Dd = some (.lst xs) ∧ RpA K R' xs acc :=
  ⟨t.trans t2, t2.free nr (by rw [hd]; intro z; cases z), t2.hh.k _ _ hd trivial, RpA.mono t2.rr ra⟩
theorem lc_turnX {g : TG} {vs : List Nat} {scope : Scope} {elt : Expr} {ifs : List Expr} {B R0 R1 H1 : Hp} {σ : L2.St} {Dd : Addr} (s1 : St X.K B R0 R1 ρ σ H1) (hD : H1 Dd = none) (gs : GSet g vs)
    {R H : Hp} {xs : List V} {acc : List D} {x : V} {d : Rs} {f : D} {k : Bool} {Nx : Hp → Prop} (t : Step R1 H1 R H) (nr : R Dd = none) (hd : H Dd = some (.lst xs)) (ra : RpA X.K R xs acc) (hx : VOk X.K R H x d)
    (ht : TurnX X scope g vs ifs ρ d k (EXB X scope elt (.sh f)))
    (hl : acc.length < sizeLine) (n1 : k = true → ∀ H, LcW X.K B R1 H1 Dd (acc ++ [f]) H → Nx H) (n2 : k = false → ∀ H, LcW X.K B R1 H1 Dd acc H → Nx H) :
    g x (wipe σ vs) H fun σ2 H2 => wipe σ2 vs = wipe σ vs ∧ tBlkT X scope ifs σ2 H2 fun b H3 => if b = true then tBlkE X scope elt σ2 H3 fun y H4 => ∃ acc, H4 Dd = some (.lst acc) ∧ acc.length < sizeLine ∧ Nx (upd H4 Dd (.lst (acc ++ [y]))) else Nx H3 := by
  obtain ⟨ρ2, gv, tt, te⟩ := ht
  have sw : St X.K B R0 R (wipeS ρ vs) (wipe σ vs) H := (s1.step t).wipe vs
  have q := gv B R0 R (wipe σ vs) H x (fun σ2 H2 => H2 = H ∧ St X.K B R0 R ρ2 σ2 H) sw hx fun σ2 s2 => ⟨rfl, s2⟩
  refine gs x _ H _ _ q fun σ2 H2 o2 ⟨e2, s2⟩ => ?_
  subst e2
  refine ⟨by rw [wipe_only o2, wipe_wipe], fun s H0 C cl fp => tt s H0 C cl fp B R0 R σ2 H2 _ s2 fun R3 H3 t3 => ?_⟩
  obtain ⟨a1, a2, a3, a4⟩ := LcW.turned (B := B) t nr hd ra t3
  cases k with
  | false =>
    rw [if_neg Bool.false_ne_true]
    exact n2 rfl H3 ⟨R3, xs, a1, a2, a3, a4⟩
  | true =>
    rw [if_pos rfl]
    refine fun s H0 C cl fp => te rfl s H0 C cl fp B R0 R3 σ2 H3 _ (s2.step t3) fun v R4 H4 t4 q4 => ?_
    obtain ⟨b1, b2, b3, b4⟩ := LcW.turned (B := B) a1 a2 a3 a4 t4
    refine ⟨xs, b3, by rw [ra.len]; exact hl, n1 rfl _ ⟨R4, xs ++ [v], b1.putNew hD b2 (fun _ z => (nomatch z)) (fun _ _ z => (nomatch z)) (fun _ z => by rw [b3] at z; cases z), b2, upd_same, ?_⟩⟩
    exact b4.app (.cons q4 .nil)
section
variable {α β : Type} {elt : Expr} {ifs : List Expr} {scope : Scope} {g : TG} {vs : List Nat} {wi : TI} {l : List α} {emb : α → D} {mk : D → Rs} {pO : α → Option Bool} {fO : α → Option β} {eb : β → D} {bs : List β}
theorem lcX_core {B R0 R1 H1 : Hp} {σ : L2.St} {J : It} {Q : VK} (s1 : St X.K B R0 R1 ρ σ H1) (w : WkC X.K J R1 H1 (l.map emb) mk) (hb : compO pO fO l = some bs) (gs : GSet g vs) (hl : l.length ≤ sizeLine)
    (ht : ∀ a ∈ l, ∀ k, pO a = some k → TurnX X scope g vs ifs ρ (mk (emb a)) k fun ρ2 => ∀ b, fO a = some b → EXB X scope elt (.sh (eb b)) ρ2) (k : ∀ v R' H', Step R1 H1 R' H' → Res X.K H1 R' H' v (.nw (eL eb bs)) → Q v H') :
    tLc (fun _ H Z => Z J H) g (tBlkT X scope ifs) (tBlkE X scope elt) vs σ H1 Q := fun Dd hD => by
  obtain ⟨G, Y, wk, hG, hY⟩ := w.ex
  have ln : (l.map emb).length = l.length := List.length_map ..
  refine lc_it wk (fun i H => ∃ acc, compO pO fO (l.take i) = some acc ∧ LcW X.K B R1 H1 Dd (acc.map eb) H) ⟨[], rfl, R1, [], s1.sub.step.new hD (fun _ z => (nomatch z)) fun _ _ z => (nomatch z), Sm.free s1.sub.rh hD, upd_same, .nil⟩ (fun i H _ ⟨acc, e, w⟩ => ?_) (fun i x H H' hi ⟨acc, e, w⟩ y => ?_) fun H ⟨acc, e, w⟩ => ?_
  · obtain ⟨R2, xs, t2, _⟩ := w.ex
    exact hG R2 H t2
  · obtain ⟨R2, xs, t2, nr, hd, ra⟩ := w.ex
    have hi' : i < l.length := by rw [← ln]; exact hi
    have ha := List.getElem?_eq_getElem hi'
    have hda : (l.map emb)[i]? = some (emb l[i]) := by rw [List.getElem?_map, ha]; rfl
    obtain ⟨R3, t3, r3⟩ := hY i _ hda x R2 H H' t2 y
    obtain ⟨a1, a2, a3, a4⟩ := LcW.turned (B := B) t2 nr hd ra t3
    have lacc : (acc.map eb).length < sizeLine := by
      rw [List.length_map]
      have := compO_len e
      rw [List.length_take] at this
      omega
    have ml : l[i] ∈ l := List.getElem_mem hi'
    rcases compO_step hb e ha with ⟨q1, q2⟩ | ⟨y2, q1, q2, q3⟩
    · obtain ⟨ρ2, g1, g2, g3⟩ := ht _ ml _ q1
      exact lc_turnX (k := false) (elt := elt) (f := .non) s1 hD gs a1 a2 a3 a4 r3 ⟨ρ2, g1, g2, fun z => nomatch z⟩ lacc (fun z => nomatch z) fun _ H w => ⟨acc, q2, w⟩
    · obtain ⟨ρ2, g1, g2, g3⟩ := ht _ ml _ q1
      exact lc_turnX (k := true) (f := eb y2) s1 hD gs a1 a2 a3 a4 r3 ⟨ρ2, g1, g2, fun z => g3 z _ q2⟩ lacc (fun _ H w => ⟨_, q3, by rw [List.map_append]; exact w⟩) fun z => nomatch z
  · rw [ln, List.take_length, hb] at e
    cases e
    exact w.res s1.sub.step hD k
theorem ev_lcX (hw : ItC X tg iter ρ (l.map emb) mk wi) (hb : compO pO fO l = some bs) (gs : GSet g vs) (hl : l.length ≤ sizeLine)
    (ht : ∀ a ∈ l, ∀ k, pO a = some k → TurnX X scope g vs ifs ρ (mk (emb a)) k fun ρ2 => ∀ b, fO a = some b → EXB X scope elt (.sh (eb b)) ρ2) :
    Ev X.K (tLc wi g (tBlkT X scope ifs) (tBlkE X scope elt) vs) ρ (.nw (eL eb bs)) := fun B R0 R σ H Q s k =>
  hw.2 B R0 R σ H _ s fun J R1 H1 t1 w => lcX_core (s.step t1) w hb gs hl ht fun v R' H' t q => k v R' H' (t1.trans t) (q.back t1.hh)
theorem lcD_turnX {B R0 R1 H1 : Hp} {σ : L2.St} {Dd : Addr} (s1 : St X.K B R0 R1 ρ σ H1) (hD : H1 Dd = none) (gs : GSet g vs)
    {R H : Hp} {xs : List V} {acc : List D} {f0 : List Addr} {x : V} {d : Rs} {f : D} {k : Bool} {Nx : Hp → Prop} (t : Step R1 H1 R H) (nr : R Dd = none) (hd : H Dd = some (.lst xs)) (ra : OwA X.K R H xs acc f0) (nD : Dd ∉ f0) (fr : ∀ p ∈ f0, H1 p = none ∧ R p = none) (hx : VOk X.K R H x d)
    (ht : TurnX X scope g vs ifs ρ d k (EXB X scope elt (.nd f)))
    (hl : acc.length < sizeLine) (n1 : k = true → ∀ H, LcD X.K R1 H1 Dd (acc ++ [f]) H → Nx H) (n2 : k = false → ∀ H, LcD X.K R1 H1 Dd acc H → Nx H) :
    g x (wipe σ vs) H fun σ2 H2 => wipe σ2 vs = wipe σ vs ∧ tBlkT X scope ifs σ2 H2 fun b H3 => if b = true then tBlkE X scope elt σ2 H3 fun y H4 => ∃ acc, H4 Dd = some (.lst acc) ∧ acc.length < sizeLine ∧ Nx (upd H4 Dd (.lst (acc ++ [y]))) else Nx H3 := by
  obtain ⟨ρ2, gv, tt, te⟩ := ht
  have sw : St X.K B R0 R (wipeS ρ vs) (wipe σ vs) H := (s1.step t).wipe vs
  have q := gv B R0 R (wipe σ vs) H x (fun σ2 H2 => H2 = H ∧ St X.K B R0 R ρ2 σ2 H) sw hx fun σ2 s2 => ⟨rfl, s2⟩
  refine gs x _ H _ _ q fun σ2 H2 o2 ⟨e2, s2⟩ => ?_
  subst e2
  refine ⟨by rw [wipe_only o2, wipe_wipe], fun s H0 C cl fp => tt s H0 C cl fp B R0 R σ2 H2 _ s2 fun R3 H3 t3 => ?_⟩
  cases k with
  | false =>
    rw [if_neg Bool.false_ne_true]
    exact n2 rfl H3 ⟨R3, xs, f0, t.trans t3, t3.free nr (by rw [hd]; intro z; cases z), t3.hh.k _ _ hd trivial, ra.step t3, nD, fun p hp => ⟨(fr p hp).1, ra.fresh t3 fr hp⟩⟩
  | true =>
    rw [if_pos rfl]
    refine fun s H0 C cl fp2 => te rfl s H0 C cl fp2 B R0 R3 σ2 H3 _ (s2.step t3) fun v R4 H4 t4 ⟨g4, w4, n4⟩ => ?_
    have t34 := t3.trans t4
    have nr4 : R4 Dd = none := t34.free nr (by rw [hd]; intro z; cases z)
    have nD4 : Dd ∉ g4 := fun z => by
      have q := (n4 Dd z).1
      rw [t3.hh.k _ _ hd trivial] at q; cases q
    have cr := ((ra.step t34).keep (o := .lst (xs ++ [v])) nD).app (.cons (w4.keep (o := .lst (xs ++ [v])) nD4) .nil (fun a _ z => nomatch z)) (fun a ha z => by
      rw [List.append_nil] at z
      obtain ⟨o, ow, q⟩ := ra.at a ha
      have q2 := (n4 a z).1
      rw [t3.hh.k _ _ q ow.nt] at q2; cases q2)
    refine ⟨xs, t34.hh.k _ _ hd trivial, by rw [ra.len]; exact hl, n1 rfl _ ⟨R4, xs ++ [v], _, (t.trans t34).putNew hD nr4 (fun _ z => (nomatch z)) (fun _ _ z => (nomatch z)) (fun _ z => by rw [t34.hh.k _ _ hd trivial] at z; cases z), nr4, upd_same, cr, ?_, fun p hp => ?_⟩⟩
    · intro z
      rw [List.append_nil] at z
      rcases List.mem_append.mp z with z | z
      · exact nD z
      · exact nD4 z
    · rw [List.append_nil] at hp
      rcases List.mem_append.mp hp with hp | hp
      · exact ⟨(fr p hp).1, ra.fresh t34 fr hp⟩
      · exact ⟨Sm.free (t.hh.trans t3.hh) (n4 p hp).1, (n4 p hp).2⟩
theorem ev_lcXD (hw : ItC X tg iter ρ (l.map emb) mk wi) (hb : compO pO fO l = some bs) (gs : GSet g vs) (hl : l.length ≤ sizeLine)
    (ht : ∀ a ∈ l, ∀ k, pO a = some k → TurnX X scope g vs ifs ρ (mk (emb a)) k fun ρ2 => ∀ b, fO a = some b → EXB X scope elt (.nd (eb b)) ρ2) :
    Ev X.K (tLc wi g (tBlkT X scope ifs) (tBlkE X scope elt) vs) ρ (.nd (eL eb bs)) := fun B R0 R σ H Q s k => by
  refine hw.2 B R0 R σ H _ s fun J R1 H1 t1 w Dd hD => ?_
  obtain ⟨G, Y, wk, hG, hY⟩ := w.ex
  have s1 := s.step t1
  have ln : (l.map emb).length = l.length := List.length_map ..
  refine lc_it wk (fun i H => ∃ acc, compO pO fO (l.take i) = some acc ∧ LcD X.K R1 H1 Dd (acc.map eb) H) ⟨[], rfl, R1, [], [], s1.sub.step.new hD (fun _ z => (nomatch z)) fun _ _ z => (nomatch z), Sm.free s1.sub.rh hD, upd_same, .nil, (fun z => nomatch z), fun p hp => nomatch hp⟩ (fun i H _ ⟨acc, e, w⟩ => ?_) (fun i x H H' hi ⟨acc, e, w⟩ y => ?_) fun H ⟨acc, e, w⟩ => ?_
  · obtain ⟨R2, xs, f0, t2, _⟩ := w.ex
    exact hG R2 H t2
  · obtain ⟨R2, xs, f0, t2, nr, hd, ra, nD, fr⟩ := w.ex
    have hi' : i < l.length := by rw [← ln]; exact hi
    have ha := List.getElem?_eq_getElem hi'
    have hda : (l.map emb)[i]? = some (emb l[i]) := by rw [List.getElem?_map, ha]; rfl
    obtain ⟨R3, t3, r3⟩ := hY i _ hda x R2 H H' t2 y
    have a1 := t2.trans t3
    have a2 : R3 Dd = none := t3.free nr (by rw [hd]; intro z; cases z)
    have a3 := t3.hh.k _ _ hd trivial
    have a4 := ra.step t3
    have a5 : ∀ p ∈ f0, H1 p = none ∧ R3 p = none := fun p hp => ⟨(fr p hp).1, ra.fresh t3 fr hp⟩
    have lacc : (acc.map eb).length < sizeLine := by
      rw [List.length_map]
      have := compO_len e
      rw [List.length_take] at this
      omega
    have ml : l[i] ∈ l := List.getElem_mem hi'
    rcases compO_step hb e ha with ⟨q1, q2⟩ | ⟨y2, q1, q2, q3⟩
    · obtain ⟨ρ2, g1, g2, g3⟩ := ht _ ml _ q1
      exact lcD_turnX (k := false) (elt := elt) (f := .non) s1 hD gs a1 a2 a3 a4 nD a5 r3 ⟨ρ2, g1, g2, fun z => nomatch z⟩ lacc (fun z => nomatch z) fun _ H w => ⟨acc, q2, w⟩
    · obtain ⟨ρ2, g1, g2, g3⟩ := ht _ ml _ q1
      exact lcD_turnX (k := true) (f := eb y2) s1 hD gs a1 a2 a3 a4 nD a5 r3 ⟨ρ2, g1, g2, fun z => g3 z _ q2⟩ lacc (fun _ H w => ⟨_, q3, by rw [List.map_append]; exact w⟩) fun z => nomatch z
  · rw [ln, List.take_length, hb] at e
    cases e
    exact w.res t1 hD k
end
end
section
variable {κ κ' α : Type} [DecidableEq κ] [DecidableEq κ'] {f : κ → κ'} {e : α → D}
theorem kmap_get (inj : ∀ a b, f a = f b → a = b) (d : List (κ × α)) (k : κ) : getD (d.map fun p => (f p.1, e p.2)) (f k) = (dget d k).map e := by
  induction d with
  | nil => rfl
  | cons p r ih =>
    by_cases h : p.1 = k
    · simp [getD, dget, List.find?_cons, h]
    · have h' : ¬ f p.1 = f k := fun z => h (inj _ _ z)
      have e1 : getD ((p :: r).map fun p => (f p.1, e p.2)) (f k) = getD (r.map fun p => (f p.1, e p.2)) (f k) := by simp [getD, List.find?_cons, h']
      have e2 : dget (p :: r) k = dget r k := by simp [dget, List.find?_cons, h]
      rw [e1, e2, ih]
theorem kmap_any (inj : ∀ a b, f a = f b → a = b) (d : List (κ × α)) (k : κ) : ((d.map fun p => (f p.1, e p.2)).any fun q => decide (q.1 = f k)) = d.any fun p => decide (p.1 = k) := by
  rw [List.any_map]
  congr 1
  funext p
  show decide (f p.1 = f k) = decide (p.1 = k)
  by_cases h : p.1 = k
  · rw [decide_eq_true h, decide_eq_true (by rw [h])]
  · rw [decide_eq_false h, decide_eq_false fun z => h (inj _ _ z)]
theorem kmap_put (inj : ∀ a b, f a = f b → a = b) (d : List (κ × α)) (k : κ) (v : α) : putD (d.map fun p => (f p.1, e p.2)) (f k) (e v) = (dput d k v).map fun p => (f p.1, e p.2) := by
  unfold putD dput
  rw [kmap_any inj]
  split
  · rw [List.map_map, List.map_map]
    congr 1
    funext p
    show (if f p.1 = f k then (f p.1, e v) else (f p.1, e p.2)) = (f (if p.1 = k then (p.1, v) else p).1, e (if p.1 = k then (p.1, v) else p).2)
    by_cases h : p.1 = k
    · rw [if_pos h, if_pos (by rw [h])]
    · rw [if_neg h, if_neg fun z => h (inj _ _ z)]
  · rw [List.map_append]; rfl
def delD (kds : List (κ × D)) (k : κ) : List (κ × D) := kds.filter fun q => !decide (q.1 = k)
theorem kmap_del (inj : ∀ a b, f a = f b → a = b) (d : List (κ × α)) (k : κ) : delD (d.map fun p => (f p.1, e p.2)) (f k) = (ddel d k).map fun p => (f p.1, e p.2) := by
  unfold delD ddel
  rw [List.filter_map]
  congr 2
  funext p
  show (!decide (f p.1 = f k)) = (!decide (p.1 = k))
  by_cases h : p.1 = k
  · rw [decide_eq_true h, decide_eq_true (by rw [h])]
  · rw [decide_eq_false h, decide_eq_false fun z => h (inj _ _ z)]
theorem kS_inj : ∀ a b, kS a = kS b → a = b := fun _ _ h => Sum.inr.inj h
theorem kI_inj : ∀ a b, kI a = kI b → a = b := fun _ _ h => Sum.inl.inj h
theorem kII_inj : ∀ a b, kII a = kII b → a = b := fun a b h => by
  have h : [(Sum.inl a.1 : Key), .inl a.2] = [.inl b.1, .inl b.2] := h
  injection h with h1 h2
  injection h2 with h2 _
  exact Prod.ext (Sum.inl.inj h1) (Sum.inl.inj h2)
theorem kIS_inj : ∀ a b, kIS a = kIS b → a = b := fun a b h => by
  have h : [(Sum.inl a.1 : Key), .inr a.2] = [.inl b.1, .inr b.2] := h
  injection h with h1 h2
  injection h2 with h2 _
  exact Prod.ext (Sum.inl.inj h1) (Sum.inr.inj h2)
theorem RpK.del {K : PySem.W.Frag} {R : Hp} {k : κ} : ∀ {kvs : List (κ × V)} {kds : List (κ × D)}, RpK K R kvs kds → RpK K R (dropK kvs k) (delD kds k)
  | _, _, .nil => .nil
  | _, _, .cons (k := k') h r => by
    unfold dropK delD
    by_cases z : k' = k
    · rw [List.filter_cons_of_neg (by simp [z]), List.filter_cons_of_neg (by simp [z])]
      exact RpK.del r
    · rw [List.filter_cons_of_pos (by simp [z]), List.filter_cons_of_pos (by simp [z])]
      exact .cons h (RpK.del r)
end
end PV

namespace PV
open PySem PySem.Spec PyProof.Rows L2 SH
section
variable {X : Cx} {W : L2.WX} {ρ ρ' : List Sl} {pos : Pos} {a b c e o ix : Expr} {st : Stmt} {sts : List Stmt} {P : Post} {body : List Stmt} {K : PySem.W.Frag} {r : Rs} {α β : Type}
theorem ex_imE {em : α → D} [i : Im em] {v : α} (h : EX X e ρ r) (q : r.dat = em v) : EX X e ρ (.sh (em v)) := by
  have := ex_imm h (by rw [q]; exact i.h v)
  rw [q] at this
  exact this
theorem eqv_ok {em : α → D} [DecidableEq α] [SOk α] {n : Nat} [i : Eqv em n] {x : α} {d : D} (q : d = em x) (h : sok x = true) (hn : n ≤ 64) : okD d = true := by
  subst q
  unfold okD SeqAt.shaped
  rw [i.nd, i.ca x h, decide_eq_true (Nat.le_trans (i.dp x) hn)]; rfl
theorem eqv_ev {em : α → D} [DecidableEq α] [SOk α] {n : Nat} [i : Eqv em n] {x y : α} {d d' : D} (q : d = em x) (q' : d' = em y) : PyData.eqv (toPy d) (toPy d') = decide (x = y) := by
  subst q q'
  exact i.ev x y
theorem ex_eqE {ra rb : Rs} (em : α → D) [DecidableEq α] [SOk α] {n : Nat} [i : Eqv em n] {x y : α} (hu : X.A.units + 64 < cLine) (h1 : EX X a ρ ra) (h2 : EX X b ρ rb) (q1 : ra.dat = em x) (q2 : rb.dat = em y) (hk : sok x = true ∧ sok y = true) (hn : n ≤ 64 := by decide) : EX X (.Compare a [.Eq] [b] pos) ρ (.sh (.bl (decide (x = y)))) :=
  ex_cv (ex_eqD hu h1 h2 (eqv_ok q1 hk.1 hn) (eqv_ok q2 hk.2 hn)) (by rw [eqv_ev q1 q2])
theorem ex_neE {ra rb : Rs} (em : α → D) [DecidableEq α] [SOk α] {n : Nat} [i : Eqv em n] {x y : α} (hu : X.A.units + 64 < cLine) (h1 : EX X a ρ ra) (h2 : EX X b ρ rb) (q1 : ra.dat = em x) (q2 : rb.dat = em y) (hk : sok x = true ∧ sok y = true) (hn : n ≤ 64 := by decide) : EX X (.Compare a [.NotEq] [b] pos) ρ (.sh (.bl (!decide (x = y)))) :=
  ex_cv (ex_neD hu h1 h2 (eqv_ok q1 hk.1 hn) (eqv_ok q2 hk.2 hn)) (by rw [eqv_ev q1 q2])
theorem tx_eqE {ra rb : Rs} (em : α → D) [DecidableEq α] [SOk α] {n : Nat} [i : Eqv em n] {x y : α} (hu : X.A.units + 64 < cLine) (h1 : EX X a ρ ra) (h2 : EX X b ρ rb) (q1 : ra.dat = em x) (q2 : rb.dat = em y) (hk : sok x = true ∧ sok y = true) (hn : n ≤ 64 := by decide) : TX X (.Compare a [.Eq] [b] pos) ρ (decide (x = y)) :=
  tx_cv (tx_eqD hu h1 h2 (eqv_ok q1 hk.1 hn) (eqv_ok q2 hk.2 hn)) (by rw [eqv_ev q1 q2])
theorem tx_neE {ra rb : Rs} (em : α → D) [DecidableEq α] [SOk α] {n : Nat} [i : Eqv em n] {x y : α} (hu : X.A.units + 64 < cLine) (h1 : EX X a ρ ra) (h2 : EX X b ρ rb) (q1 : ra.dat = em x) (q2 : rb.dat = em y) (hk : sok x = true ∧ sok y = true) (hn : n ≤ 64 := by decide) : TX X (.Compare a [.NotEq] [b] pos) ρ (!decide (x = y)) :=
  tx_cv (tx_neD hu h1 h2 (eqv_ok q1 hk.1 hn) (eqv_ok q2 hk.2 hn)) (by rw [eqv_ev q1 q2])
section
variable {κ : Type} [DecidableEq κ] {kk : κ → Key} {em : α → D} {d : List (κ × α)} {k : κ} {v x : α}
theorem ex_dgetK (inj : ∀ a b, kk a = kk b → a = b) [i : Im em] (hu : X.A.units + 1 < cLine) (ho : EX X o ρ r) (q : r.dat = eDK kk em d) (hk : EX X ix ρ (.sh (keyD (kk k)))) (h : dget d k = some v) (hs : NoSl ix := by exact fun _ _ => rfl) : EX X (.Subscript o ix pos) ρ (.sh (em v)) :=
  ex_dget hu ho q hk (by rw [kmap_get inj, h]; rfl) (i.h v) hs
theorem ex_dget2K (inj : ∀ a b, kk a = kk b → a = b) [i : Im em] {f : Expr} {apos cpos : Pos} (hu : X.A.units + 1 < cLine) (ho : EX X o ρ r) (q : r.dat = eDK kk em d) (hk : EX X ix ρ (.sh (keyD (kk k)))) (hf : EX X f ρ (.sh (em x))) (m : M2 X o "get" apos ix f cpos) : EX X (.Call (.Attribute o "get" apos) [ix, f] [] cpos) ρ (.sh (em ((dget d k).getD x))) := by
  have z : (getD (d.map fun p => (kk p.1, em p.2)) (kk k)).getD (em x) = em ((dget d k).getD x) := by
    rw [kmap_get inj]
    cases dget d k <;> rfl
  exact ex_cv (ex_dget2 hu ho q hk hf (by rw [z]; exact i.h _) m) (by rw [z])
theorem ex_dinK (inj : ∀ a b, kk a = kk b → a = b) (hu : X.A.units + 1 < cLine) (hk : EX X ix ρ (.sh (keyD (kk k)))) (ho : EX X o ρ r) (q : r.dat = eDK kk em d) (hm : behindInMarks .In o = false := by rfl) : EX X (.Compare ix [.In] [o] pos) ρ (.sh (.bl (dmem d k))) :=
  ex_cv (ex_din hu hk ho q hm) (by rw [kmap_get inj]; unfold dmem; cases dget d k <;> rfl)
theorem tx_dinK (inj : ∀ a b, kk a = kk b → a = b) (hu : X.A.units + 1 < cLine) (hk : EX X ix ρ (.sh (keyD (kk k)))) (ho : EX X o ρ r) (q : r.dat = eDK kk em d) (hm : behindInMarks .In o = false := by rfl) : TX X (.Compare ix [.In] [o] pos) ρ (dmem d k) :=
  tx_cv (tx_din hu hk ho q hm) (by rw [kmap_get inj]; unfold dmem; cases dget d k <;> rfl)
theorem tx_dnotinK (inj : ∀ a b, kk a = kk b → a = b) (hu : X.A.units + 1 < cLine) (hk : EX X ix ρ (.sh (keyD (kk k)))) (ho : EX X o ρ r) (q : r.dat = eDK kk em d) (hm : behindInMarks .NotIn o = false := by rfl) : TX X (.Compare ix [.NotIn] [o] pos) ρ (!dmem d k) :=
  tx_cv (tx_dnotin hu hk ho q hm) (by rw [kmap_get inj]; unfold dmem; cases dget d k <;> rfl)
theorem ex_dnotinK (inj : ∀ a b, kk a = kk b → a = b) (hu : X.A.units + 1 < cLine) (hk : EX X ix ρ (.sh (keyD (kk k)))) (ho : EX X o ρ r) (q : r.dat = eDK kk em d) (hm : behindInMarks .NotIn o = false := by rfl) : EX X (.Compare ix [.NotIn] [o] pos) ρ (.sh (.bl (!dmem d k))) :=
  ex_cv (.of (pe_cmp (pc_dnotin hu pe_sem pe_sem) hm) (Ev.dnotin hk ho q)) (by rw [kmap_get inj]; unfold dmem; cases dget d k <;> rfl)
theorem sx_dputK {i : Nat} {val : Expr} {p' : Pos} (inj : ∀ a b, kk a = kk b → a = b) (hu : X.A.units + 1 < cLine) (po : PE X o (tVar i)) (hi : ρ[i]? = some (.ow (eDK kk em d))) (hv : EX X val ρ (.sh (em v))) (hk : EX X ix ρ (.sh (keyD (kk k)))) (hl : d.length < sizeLine) (h : P.nx ((dr ρ).set i (.ow (eDK kk em (dput d k v)))))
    (hs : swapsWith val (some (.Subscript o ix p')) pos.line X.env = pure false := by rfl) : SX X W (.Assign [.Subscript o ix p'] val pos) ρ P :=
  sx_dput hu po hi hv hk (by rw [List.length_map]; exact hl) (by rw [kmap_put inj]; exact h) hs
theorem sx_dputKP {i : Nat} {pn : Option V} {D0 : D} {path : List Nat} {val : Expr} {p' : Pos} (inj : ∀ a b, kk a = kk b → a = b) [im : Im em] (hu : X.A.units + 1 < cLine) (po : PathX X o ρ i path) (hi : ρ[i]? = some (.od pn D0)) (hd : getP D0 path = some (eDK kk em d)) (hv : EX X val ρ (.sh (em v))) (hk : EX X ix ρ (.sh (keyD (kk k)))) (hl : d.length < sizeLine)
    (h : P.nx ((dr ρ).set i (.od pn (setP D0 path (eDK kk em (dput d k v))))))
    (hs : swapsWith val (some (.Subscript o ix p')) pos.line X.env = pure false := by rfl) : SX X W (.Assign [.Subscript o ix p'] val pos) ρ P := .of (ps_dput hu pe_sem pe_sem pe_sem hs) fun B R0 R σ H D s n => by
  refine hv B R0 R σ H _ s fun u R1 H1 t1 q1 => ?_
  have s1 := s.step t1
  refine po B R0 R1 σ H1 _ s1 fun x w R2 H2 ex ax t2 => ?_
  have s2 := s1.step t2
  refine hk B R0 R2 σ H2 _ s2 fun y R3 H3 t3 q3 => ?_
  have s3 := s2.step t3
  obtain ⟨p, ob, rfl, hp, hx, kk3⟩ := s3.writeD hi ex (ax.step t3) hd ((inferInstance : ImO (eDK kk em)).h d)
  cases ob <;> first | exact hx.elim | skip
  rename_i kvs
  have hx : RpK X.K R3 kvs (d.map fun p => (kk p.1, em p.2)) := hx
  have ey := keyV q3
  refine ⟨p, upd H3 p (.dK (putK kvs (kk k) u)), rfl, by rw [ey]; exact DPut.k hp (by rw [hx.len, List.length_map]; exact hl), n.nx _ R3 _ _ h (kk3 (.dK _) (eDK kk em (dput d k v)) ?_ ((inferInstance : ImO (eDK kk em)).h _))⟩
  show RpK X.K R3 (putK kvs (kk k) u) _
  rw [← kmap_put inj]
  exact hx.put (Rp.mono (t2.trans t3).rr q1)
theorem sx_ddelKP {i : Nat} {pn : Option V} {D0 : D} {path : List Nat} {tpos : Pos} (inj : ∀ a b, kk a = kk b → a = b) [im : Im em] (po : PathX X o ρ i path) (hi : ρ[i]? = some (.od pn D0)) (hd : getP D0 path = some (eDK kk em d)) (hk : EX X ix ρ (.sh (keyD (kk k)))) (hm : dmem d k = true)
    (h : P.nx ((dr ρ).set i (.od pn (setP D0 path (eDK kk em (ddel d k)))))) : SX X W (.Delete [.Subscript o ix tpos] pos) ρ P := .of (ps_ddel pe_sem pe_sem) fun B R0 R σ H D s n => by
  refine po B R0 R σ H _ s fun x w R2 H2 ex ax t2 => ?_
  have s2 := s.step t2
  refine hk B R0 R2 σ H2 _ s2 fun y R3 H3 t3 q3 => ?_
  have s3 := s2.step t3
  obtain ⟨p, ob, rfl, hp, hx, kk3⟩ := s3.writeD hi ex (ax.step t3) hd ((inferInstance : ImO (eDK kk em)).h d)
  cases ob <;> first | exact hx.elim | skip
  rename_i kvs
  have hx : RpK X.K R3 kvs (d.map fun p => (kk p.1, em p.2)) := hx
  refine ⟨p, kvs, kk k, rfl, hp, keyV q3, ?_, n.nx _ R3 _ _ h (kk3 (.dK _) (eDK kk em (ddel d k)) ?_ ((inferInstance : ImO (eDK kk em)).h _))⟩
  · rw [hx.some, kmap_get inj]
    unfold dmem at hm
    cases e : dget d k with
    | none => rw [e] at hm; cases hm
    | some z => rfl
  · show RpK X.K R3 (dropK kvs (kk k)) _
    rw [← kmap_del inj]
    exact hx.del
theorem sx_dpopK {i : Nat} {apos cpos : Pos} (inj : ∀ a b, kk a = kk b → a = b) (po : PE X o (tVar i)) (hi : ρ[i]? = some (.ow (eDK kk em d))) (hk : EX X ix ρ (.sh (keyD (kk k)))) (hm : dmem d k = true) (m : M1 X o "pop" apos ix cpos)
    (h : P.nx ((dr ρ).set i (.ow (eDK kk em (ddel d k))))) (hs : swapsWith (.Call (.Attribute o "pop" apos) [ix] [] cpos) none pos.line X.env = pure false := by rfl) : SX X W (.Expr (.Call (.Attribute o "pop" apos) [ix] [] cpos) pos) ρ P :=
  .of (ps_expr (pe_dpop1 po pe_sem m) hs) fun B R0 R σ H D s n => by
    obtain ⟨p, kvs, ep, hp, hx⟩ := s.ownK hi
    refine ⟨.ref p, ep, p, rfl, .inl ⟨kvs, .inl hp⟩, hk B R0 R σ H _ s fun y R1 H1 t1 q1 => ?_⟩
    have hp1 := t1.hh.k _ _ hp trivial
    have hx1 := RpK.mono t1.rr hx
    have hg := hx1.some (kk k)
    rw [kmap_get inj] at hg
    unfold dmem at hm
    cases e : dget d k with
    | none => rw [e] at hm; cases hm
    | some z =>
      rw [e] at hg
      obtain ⟨u, hu⟩ : ∃ u, valV kvs (kk k) = some u := by
        cases q : valV kvs (kk k) with
        | none => rw [q] at hg; cases hg
        | some u => exact ⟨u, rfl⟩
      refine ⟨kvs, kk k, u, hp1, keyV q1, hu, n.nx _ R1 _ _ h (s.wr hi ep t1 ?_)⟩
      show RpK X.K R1 (dropK kvs (kk k)) _
      rw [← kmap_del inj]
      exact hx1.del
end
theorem Rp.dT' {R : Hp} {v : V} {kds : List (List Key × D)} (h : Rp K R v (.dT kds)) : ∃ a kvs, v = .ref a ∧ R a = some (.dT kvs) ∧ RpK K R kvs kds := by
  cases h with | dT h r => exact ⟨_, _, rfl, h, r⟩
theorem Rp.key' {R : Hp} {v : V} {ks : List Key} (h : Rp K R v (.key ks)) : ∃ b, v = .ref b ∧ R b = some (.tup (ks.map kV)) := by
  cases h with | key h => exact ⟨_, rfl, h⟩
theorem dt_of {H0 R H : Hp} {v : V} {kds : List (List Key × D)} (s : Sub R H) (h : Res K H0 R H v r) (e : r.dat = .dT kds) : ∃ a kvs, v = .ref a ∧ H a = some (.dT kvs) ∧ RpK K H kvs kds := by
  have h3 := h.rp s
  rw [e] at h3
  exact h3.dT'
section
variable {κ : Type} [DecidableEq κ] {kt : κ → List Key} {em : α → D} {d : List (κ × α)} {k : κ} {v x : α}
theorem ex_dgetT (inj : ∀ a b, kt a = kt b → a = b) [i : Im em] (hu : X.A.units + 1 < cLine) (ho : EX X o ρ r) (q : r.dat = eDT kt em d) (hk : EX X ix ρ (.sh (eT kt k))) (h : dget d k = some v) (hs : NoSl ix := by exact fun _ _ => rfl) : EX X (.Subscript o ix pos) ρ (.sh (em v)) := .of (pe_dget hu pe_sem pe_sem hs) fun B R0 R σ H Q s kk => by
  refine ho B R0 R σ H _ s fun x R1 H1 t1 q1 => hk B R0 R1 σ H1 _ (s.step t1) fun y R2 H2 t2 q2 => ?_
  obtain ⟨p, kvs, rfl, hp, hx⟩ := dt_of t1.sub q1 q
  obtain ⟨b, rfl, hb⟩ := Rp.key' (show Rp X.K R2 y (.key (kt k)) from q2)
  have hp2 := t2.hh.k _ _ hp trivial
  have hg : getD (d.map fun p => (kt p.1, em p.2)) (kt k) = some (em v) := by rw [kmap_get inj, h]; rfl
  rcases hx.get (kt k) with ⟨h1, h2⟩ | ⟨u, d', h1, h2, h3⟩
  · rw [h2] at hg; cases hg
  · rw [h2] at hg; cases hg
    exact ⟨p, u, rfl, by rw [← h1]; exact DGet.t hp2 (t2.rh.k _ _ hb trivial), kk _ R2 H2 (t1.trans t2) (Rp.imm t2.tp t2.tf (Rp.mono t2.hh h3) (i.h v))⟩
theorem Ev.dinT {ty td : TE} (inj : ∀ a b, kt a = kt b → a = b) (hk : Ev K ty ρ (.sh (eT kt k))) (ho : Ev K td ρ r) (q : r.dat = eDT kt em d) : Ev K (tDIn ty td) ρ (.sh (.bl (dmem d k))) := fun B R0 R σ H Q s kk => by
  refine hk B R0 R σ H _ s fun y R1 H1 t1 q1 => ho B R0 R1 σ H1 _ (s.step t1) fun x R2 H2 t2 q2 => ?_
  obtain ⟨p, kvs, rfl, hp, hx⟩ := dt_of t2.sub q2 q
  obtain ⟨b, rfl, hb⟩ := Rp.key' (show Rp K R1 y (.key (kt k)) from q1)
  refine ⟨p, _, rfl, DGet.t hp ((t1.rh.trans t2.hh).k _ _ hb trivial), kk _ R2 H2 (t1.trans t2) ?_⟩
  rw [hx.some (kt k), kmap_get inj]
  unfold dmem
  cases dget d k <;> exact Rp.bl _
theorem Ev.dnotinT {ty td : TE} (inj : ∀ a b, kt a = kt b → a = b) (hk : Ev K ty ρ (.sh (eT kt k))) (ho : Ev K td ρ r) (q : r.dat = eDT kt em d) : Ev K (tDNotIn ty td) ρ (.sh (.bl (!dmem d k))) := fun B R0 R σ H Q s kk => by
  refine hk B R0 R σ H _ s fun y R1 H1 t1 q1 => ho B R0 R1 σ H1 _ (s.step t1) fun x R2 H2 t2 q2 => ?_
  obtain ⟨p, kvs, rfl, hp, hx⟩ := dt_of t2.sub q2 q
  obtain ⟨b, rfl, hb⟩ := Rp.key' (show Rp K R1 y (.key (kt k)) from q1)
  refine ⟨p, _, rfl, DGet.t hp ((t1.rh.trans t2.hh).k _ _ hb trivial), kk _ R2 H2 (t1.trans t2) ?_⟩
  rw [hx.some (kt k), kmap_get inj]
  unfold dmem
  cases dget d k <;> exact Rp.bl _
theorem ex_dinT (inj : ∀ a b, kt a = kt b → a = b) (hu : X.A.units + 1 < cLine) (hk : EX X ix ρ (.sh (eT kt k))) (ho : EX X o ρ r) (q : r.dat = eDT kt em d) (hm : behindInMarks .In o = false := by rfl) : EX X (.Compare ix [.In] [o] pos) ρ (.sh (.bl (dmem d k))) := .of (pe_cmp (pc_din hu pe_sem pe_sem) hm) (Ev.dinT inj hk ho q)
theorem tx_dinT (inj : ∀ a b, kt a = kt b → a = b) (hu : X.A.units + 1 < cLine) (hk : EX X ix ρ (.sh (eT kt k))) (ho : EX X o ρ r) (q : r.dat = eDT kt em d) (hm : behindInMarks .In o = false := by rfl) : TX X (.Compare ix [.In] [o] pos) ρ (dmem d k) := .of (pt_cmp (pc_din hu pe_sem pe_sem) hm) (Tv.of_evB (Ev.dinT inj hk ho q))
theorem ex_dnotinT (inj : ∀ a b, kt a = kt b → a = b) (hu : X.A.units + 1 < cLine) (hk : EX X ix ρ (.sh (eT kt k))) (ho : EX X o ρ r) (q : r.dat = eDT kt em d) (hm : behindInMarks .NotIn o = false := by rfl) : EX X (.Compare ix [.NotIn] [o] pos) ρ (.sh (.bl (!dmem d k))) := .of (pe_cmp (pc_dnotin hu pe_sem pe_sem) hm) (Ev.dnotinT inj hk ho q)
theorem tx_dnotinT (inj : ∀ a b, kt a = kt b → a = b) (hu : X.A.units + 1 < cLine) (hk : EX X ix ρ (.sh (eT kt k))) (ho : EX X o ρ r) (q : r.dat = eDT kt em d) (hm : behindInMarks .NotIn o = false := by rfl) : TX X (.Compare ix [.NotIn] [o] pos) ρ (!dmem d k) := .of (pt_cmp (pc_dnotin hu pe_sem pe_sem) hm) (Tv.of_evB (Ev.dnotinT inj hk ho q))
theorem ex_dnewT : EX X (.Dict [] [] pos) ρ (.nw (.dT [])) :=
  .of pe_dnewT fun B R0 R σ H Q s k p np => k _ R _ (s.sub.step.new np (fun _ z => nomatch z) fun _ _ z => nomatch z) ⟨p, rfl, np, Own.new s.sub np .nil⟩
theorem sx_dputT {i : Nat} {val : Expr} {p' : Pos} (inj : ∀ a b, kt a = kt b → a = b) (hu : X.A.units + 1 < cLine) (po : PE X o (tVar i)) (hi : ρ[i]? = some (.ow (eDT kt em d))) (hv : EX X val ρ (.sh (em v))) (hk : EX X ix ρ (.sh (eT kt k))) (hl : d.length < sizeLine) (h : P.nx ((dr ρ).set i (.ow (eDT kt em (dput d k v)))))
    (hs : swapsWith val (some (.Subscript o ix p')) pos.line X.env = pure false := by rfl) : SX X W (.Assign [.Subscript o ix p'] val pos) ρ P := .of (ps_dput hu po pe_sem pe_sem hs) fun B R0 R σ H D s n => by
  refine hv B R0 R σ H _ s fun u R1 H1 t1 q1 => ?_
  have s1 := s.step t1
  obtain ⟨v0, f, ev, p, rfl, _, hb, hr, ob, hp, od⟩ := s1.at hi
  cases ob <;> first | exact od.elim | skip
  rename_i kvs
  have hx : RpK X.K R1 kvs (d.map fun p => (kt p.1, em p.2)) := od
  refine ⟨.ref p, ev, hk B R0 R1 σ H1 _ s1 fun y R2 H2 t2 q2 => ?_⟩
  obtain ⟨b, rfl, hb2⟩ := Rp.key' (show Rp X.K R2 y (.key (kt k)) from q2)
  have hp2 := t2.hh.k _ _ hp trivial
  have hx2 := RpK.mono t2.rr hx
  refine ⟨p, upd H2 p (.dT (putK kvs (kt k) u)), rfl, DPut.t hp2 (t2.rh.k _ _ hb2 trivial) (by rw [hx.len, List.length_map]; exact hl), ?_⟩
  refine n.nx _ R2 _ _ h (s1.wr hi ev t2 ?_)
  show RpK X.K R2 (putK kvs (kt k) u) _
  rw [← kmap_put inj]
  exact hx2.put (Rp.mono t2.rr q1)
end
theorem ex_tupK {es : List Expr} {x1} {ks : List Key} (h : AX X es ρ ((ks.map keyD).map Rs.sh)) (hl : ks.length ≤ sizeLine) : EX X (.Tuple es x1 pos) ρ (.sh (.key ks)) :=
  .of (pe_tup pa_sem) fun B R0 R σ H Q s k => h B R0 R σ H _ s fun vs R1 H1 s1 r1 => by
    have r := r1.shs
    have ev : vs = ks.map kV := by
      clear hl h k r1
      induction ks generalizing vs with
      | nil => cases r; rfl
      | cons x ks ih =>
        cases r with
        | cons h t => rw [keyV h, ih _ t]; rfl
    subst ev
    refine ⟨by rw [List.length_map]; exact hl, fun p np => ?_⟩
    exact k _ _ _ (s1.newS (o := .tup (ks.map kV)) np) (Rp.key upd_same)
theorem ex_tupII {e0 e1 : Expr} {x1} {i j : Int} (h0 : EX X e0 ρ (.sh (.int i))) (h1 : EX X e1 ρ (.sh (.int j))) (hs : starEach [e0, e1] X.env = (false, eval e0 X.env) :: starEach [e1] X.env := by rfl) (hs2 : starEach [e1] X.env = (false, eval e1 X.env) :: starEach [] X.env := by rfl) : EX X (.Tuple [e0, e1] x1 pos) ρ (.sh (eT kII (i, j))) :=
  ex_tupK (ks := [.inl i, .inl j]) (ax_cons h0 (ax_cons h1 ax_nil hs2) hs) (by show 2 ≤ sizeLine; decide)
theorem ex_tupIS {e0 e1 : Expr} {x1} {i : Int} {j : Str} (h0 : EX X e0 ρ (.sh (.int i))) (h1 : EX X e1 ρ (.sh (.str j))) (hs : starEach [e0, e1] X.env = (false, eval e0 X.env) :: starEach [e1] X.env := by rfl) (hs2 : starEach [e1] X.env = (false, eval e1 X.env) :: starEach [] X.env := by rfl) : EX X (.Tuple [e0, e1] x1 pos) ρ (.sh (eT kIS (i, j))) :=
  ex_tupK (ks := [.inl i, .inr j]) (ax_cons h0 (ax_cons h1 ax_nil hs2) hs) (by show 2 ≤ sizeLine; decide)
theorem ex_unkey {ks : List Key} (h : EX X e ρ (.sh (.key ks))) : EX X e ρ (.sh (.tup (ks.map keyD))) := fun B R0 R σ H Q s k => h B R0 R σ H Q s fun v R' H' t q => k v R' H' t (Rp.unkey q)
theorem gv_key {K : PySem.W.Frag} {gs : TGs} {ks : List Key} {n : Nat} (h : Gvs K gs ρ (ks.map keyD) ρ') (hn : ks.length = n := by rfl) : Gv K (gTup K n gs) ρ (.sh (.key ks)) ρ' := fun B R0 R σ H v Q s hv k =>
  (gv_tup h (by rw [List.length_map]; exact hn)) B R0 R σ H v Q s (Rp.unkey hv) k
theorem sx_ext {i : Nat} {ds es : List D} {r : Rs} {apos cpos : Pos} (po : PE X o (tVar i)) (hi : ρ[i]? = some (.ow (.lst ds))) (he : EX X e ρ r) (q : r.dat = .lst es) (sh : Sharable r es) (hl : ds.length + es.length ≤ sizeLine) (h : P.nx ((dr ρ).set i (.ow (.lst (ds ++ es)))))
    (hbase : attributeBase o "extend" X.env (eval o X.env) = eval o X.env := by rfl)
    (hfew : ((backTo cpos (starEach [e] X.env)).all (fun x => !x.1) && (backToKw cpos (keywordEach [] X.env)).all (fun x => x.1.isSome)
      && decide (([e] : List Expr).length + ([] : List Keyword).length + (if ([] : List Keyword).isEmpty then 0 else 1) < 30)) = true := by rfl)
    (hline : (apos.endLine == cpos.line) = true := by rfl) (hst : starEach [e] X.env = (false, eval e X.env) :: starEach [] X.env := by rfl) (hplain : (backTo cpos (starEach [] X.env)).any (·.1) = false := by rfl)
    (hs : swapsWith (.Call (.Attribute o "extend" apos) [e] [] cpos) none pos.line X.env = pure false := by rfl) : SX X W (.Expr (.Call (.Attribute o "extend" apos) [e] [] cpos) pos) ρ P :=
  .of (ps_expr (pe_bm PySem.F.plainAttrs_list PySem.F.slot_list_extend PySem.F.type_list_extend mt_extend po (pa_cons pe_sem pa_nil hst) hbase hfew hline hst hplain) hs) fun B R0 R σ H D s n => by
    obtain ⟨p, xs, ep, hp, hx⟩ := s.own hi
    refine ⟨.ref p, ep, .inl ⟨rfl, xs, SqL.of hp⟩, he B R0 R σ H _ s fun v R' H' t q1 => ?_⟩
    have hp' := t.hh.k _ _ hp trivial
    obtain ⟨b, ys, rfl, h1, h2⟩ := items_ofL t.sub q1 q sh
    exact ⟨p, b, xs, ys, rfl, rfl, hp', h1, by rw [hx.len, h2.len]; exact hl, n.nx _ R' _ _ h (s.wr hi ep t (show RpA X.K R' (xs ++ ys) (ds ++ es) from (RpA.mono t.rr hx).app h2))⟩
theorem sx_reverse {i : Nat} {ds : List D} {apos cpos : Pos} (po : PE X o (tVar i)) (hi : ρ[i]? = some (.ow (.lst ds))) (h : P.nx ((dr ρ).set i (.ow (.lst ds.reverse))))
    (hbase : attributeBase o "reverse" X.env (eval o X.env) = eval o X.env := by rfl) (hline : (apos.endLine == cpos.line) = true := by rfl)
    (hs : swapsWith (.Call (.Attribute o "reverse" apos) [] [] cpos) none pos.line X.env = pure false := by rfl) : SX X W (.Expr (.Call (.Attribute o "reverse" apos) [] [] cpos) pos) ρ P :=
  .of (ps_expr (pe_bm0 PySem.F.plainAttrs_list PySem.F.slot_list_reverse PySem.F.type_list_reverse mt_reverse po hbase hline) hs) fun B R0 R σ H D s n => by
    obtain ⟨p, xs, ep, hp, hx⟩ := s.own hi
    have rv : ∀ {vs : List V} {ds : List PV.D}, RpA X.K R vs ds → RpA X.K R vs.reverse ds.reverse := by
      intro vs ds h
      induction vs generalizing ds with
      | nil => cases h; exact .nil
      | cons v vs ih =>
        cases h with
        | cons h t => rw [List.reverse_cons, List.reverse_cons]; exact (ih t).app (.cons h .nil)
    exact ⟨.ref p, ep, .inl ⟨rfl, xs, SqL.of hp⟩, p, xs, rfl, rfl, hp, n.nx _ R _ _ h (s.write hi ep (show ObjD X.K R (.lst xs.reverse) (.lst ds.reverse) from rv hx))⟩
theorem sx_lput {i k : Nat} {j : Int} {ds : List D} {d : D} {val : Expr} {p' : Pos} (po : PE X o (tVar i)) (hi : ρ[i]? = some (.ow (.lst ds))) (hv : EX X val ρ (.sh d)) (hj : EX X ix ρ (.sh (.int j))) (hk : ixN ds.length j = some k) (h : P.nx ((dr ρ).set i (.ow (.lst (ds.set k d)))))
    (hg : PG X (.Subscript o ix p') (gSub (tVar i) (tE X ix) rSetL) := by exact pg_sub (pv _) pe_sem set_list) (hs : swapsWithSole [.Subscript o ix p'] val pos.line X.env = pure false := by rfl) (hw : swappedStores [.Subscript o ix p'] val X.env = pure none := by rfl)
    (h1 : (assignEach [.Subscript o ix p'] X.env).map (·.2) = [assign (.Subscript o ix p') X.env] := by rfl) : SX X W (.Assign [.Subscript o ix p'] val pos) ρ P := .of (ps_asg pe_sem hg hs hw h1) fun B R0 R σ H D s n => by
  refine hv B R0 R σ H _ s fun u R1 H1 t1 q1 => ?_
  have s1 := s.step t1
  obtain ⟨p, xs, ep, hp, hx⟩ := s1.own hi
  refine ⟨.ref p, ep, hj B R0 R1 σ H1 _ s1 fun y R2 H2 t2 q2 => ?_⟩
  have hp2 := t2.hh.k _ _ hp trivial
  have hx2 := RpA.mono t2.rr hx
  exact ⟨p, xs, j, k, rfl, is_int _ _ q2, hp2, by rw [hx.len]; exact hk, n.nx _ R2 _ _ h (s1.wr hi ep t2 (show RpA X.K R2 (xs.set k u) (ds.set k d) from RpA.set (Rp.mono t2.rr q1) k hx2))⟩
def EXS (X : Cx) (e : Expr) (ρ : List Sl) (d : PV.D) (ρ' : List Sl) : Prop := ∀ B R0 R σ H (Q : VK), St X.K B R0 R ρ σ H → (∀ v R' H', St X.K B R0 R' ρ' σ H' → Sm R R' → Rp X.K R' v d → Q v H') → tE X e σ H Q
theorem EXS.of {t : TE} {d : PV.D} (p : PE X e t) (h : ∀ B R0 R σ H (Q : VK), St X.K B R0 R ρ σ H → (∀ v R' H', St X.K B R0 R' ρ' σ H' → Sm R R' → Rp X.K R' v d → Q v H') → t σ H Q) : EXS X e ρ d ρ' := fun B R0 R σ H Q s k pins sh I => p.run pins sh σ H Q I (h B R0 R σ H Q s k)
theorem exs_ex {d : PV.D} (h : EX X e ρ (.sh d)) : EXS X e ρ d ρ := fun B R0 R σ H Q s k => h B R0 R σ H _ s fun v R' H' t q => k v R' H' (s.step t) t.rr q
theorem RpA.dropLast {R : Hp} {xs : List V} {ds : List PV.D} (h : RpA K R xs ds) : RpA K R xs.dropLast ds.dropLast := by
  rw [List.dropLast_eq_take, List.dropLast_eq_take, h.len]
  exact h.take _
theorem exs_pop {i : Nat} {ds : List PV.D} {d : PV.D} {apos cpos : Pos} (po : PE X o (tVar i)) (hi : ρ[i]? = some (.ow (.lst ds))) (hd : ds[ds.length - 1]? = some d)
    (hbase : attributeBase o "pop" X.env (eval o X.env) = eval o X.env := by rfl) (hline : (apos.endLine == cpos.line) = true := by rfl) : EXS X (.Call (.Attribute o "pop" apos) [] [] cpos) ρ d ((dr ρ).set i (.ow (.lst ds.dropLast))) :=
  .of (pe_bm0 PySem.F.plainAttrs_list PySem.F.slot_list_pop PySem.F.type_list_pop mt_pop po hbase hline) fun B R0 R σ H Q s k => by
    obtain ⟨p, xs, ep, hp, hx⟩ := s.own hi
    obtain ⟨v, h1, h2⟩ := hx.get hd
    exact ⟨.ref p, ep, .inl ⟨rfl, xs, SqL.of hp⟩, p, xs, v, rfl, rfl, hp, by rw [hx.len]; exact h1, k v R _ (s.write hi ep (show ObjD X.K R (.lst xs.dropLast) (.lst ds.dropLast) from RpA.dropLast hx)) (Sm.refl R) h2⟩
theorem exs_popI {i m : Nat} {j : Int} {ds : List PV.D} {d : PV.D} {apos cpos : Pos} (po : PE X o (tVar i)) (hi : ρ[i]? = some (.ow (.lst ds))) (hj : EX X ix ρ (.sh (.int j))) (h0 : -(2 ^ 63) ≤ j ∧ j < 2 ^ 63) (hm : seqIndex? j ds.length = some m) (hd : ds[m]? = some d)
    (hbase : attributeBase o "pop" X.env (eval o X.env) = eval o X.env := by rfl)
    (hfew : ((backTo cpos (starEach [ix] X.env)).all (fun x => !x.1) && (backToKw cpos (keywordEach [] X.env)).all (fun x => x.1.isSome)
      && decide (([ix] : List Expr).length + ([] : List Keyword).length + (if ([] : List Keyword).isEmpty then 0 else 1) < 30)) = true := by rfl)
    (hline : (apos.endLine == cpos.line) = true := by rfl) (hst : starEach [ix] X.env = (false, eval ix X.env) :: starEach [] X.env := by rfl) (hplain : (backTo cpos (starEach [] X.env)).any (·.1) = false := by rfl) :
    EXS X (.Call (.Attribute o "pop" apos) [ix] [] cpos) ρ d ((dr ρ).set i (.ow (.lst (ds.eraseIdx m)))) :=
  .of (pe_bm PySem.F.plainAttrs_list PySem.F.slot_list_pop PySem.F.type_list_pop mt_popAt po (pa_cons pe_sem pa_nil hst) hbase hfew hline hst hplain) fun B R0 R σ H Q s k => by
    obtain ⟨p, xs, ep, hp, hx⟩ := s.own hi
    refine ⟨.ref p, ep, .inl ⟨rfl, xs, SqL.of hp⟩, hj B R0 R σ H _ s fun y R1 H1 t1 q1 => ?_⟩
    have hp1 := t1.hh.k _ _ hp trivial
    have hx1 := RpA.mono t1.rr hx
    obtain ⟨v, h1, h2⟩ := hx1.get hd
    exact ⟨p, xs, j, m, v, rfl, by rw [is_int _ _ q1], hp1, h0.1, h0.2, by rw [hx.len]; exact hm, h1, k v R1 _ (s.wr hi ep t1 (show ObjD X.K R1 (.lst (xs.eraseIdx m)) (.lst (ds.eraseIdx m)) from RpA.erase m hx1)) t1.rr h2⟩
theorem exs_popD {i : Nat} {pn : Option V} {D0 : PV.D} {path : List Nat} {ds : List PV.D} {d : PV.D} {apos cpos : Pos} (po : PathX X o ρ i path) (hi : ρ[i]? = some (.od pn D0)) (hp : getP D0 path = some (.lst ds)) (him : immA ds = true) (hd : ds[ds.length - 1]? = some d)
    (hbase : attributeBase o "pop" X.env (eval o X.env) = eval o X.env := by rfl) (hline : (apos.endLine == cpos.line) = true := by rfl) : EXS X (.Call (.Attribute o "pop" apos) [] [] cpos) ρ d ((dr ρ).set i (.od pn (setP D0 path (.lst ds.dropLast)))) :=
  .of (pe_bm0 PySem.F.plainAttrs_list PySem.F.slot_list_pop PySem.F.type_list_pop mt_pop pe_sem hbase hline) fun B R0 R σ H Q s k => by
    refine po B R0 R σ H _ s fun x w R2 H2 ex ax t2 => ?_
    have s2 := s.step t2
    obtain ⟨p, ob, rfl, hp2, hx, kk3⟩ := s2.writeD hi ex ax hp him
    cases ob <;> first | exact hx.elim | skip
    rename_i xs
    have hx : RpA X.K R2 xs ds := hx
    obtain ⟨v, h1, h2⟩ := hx.get hd
    refine ⟨.inl ⟨rfl, xs, SqL.of hp2⟩, p, xs, v, rfl, rfl, hp2, by rw [hx.len]; exact h1, k v R2 _ (kk3 (.lst xs.dropLast) (.lst ds.dropLast) (RpA.dropLast hx) ?_) t2.rr h2⟩
    show immA ds.dropLast = true
    rw [List.dropLast_eq_take]
    exact immA_take _ him
theorem exs_ixL {ds : List PV.D} {j : Int} {d : PV.D} (ha : EX X a ρ (.sh (.lst ds))) (hb : EXS X b ρ (.int j) ρ') (h : atI ds j = some d) (hs : PlainIx b := by exact fun _ _ => rfl) : EXS X (.Subscript a b pos) ρ d ρ' :=
  .of (pe_ix ix_list pe_sem pe_sem hs) fun B R0 R σ H Q s k => ha B R0 R σ H _ s fun x R1 H1 t1 q1 => hb B R0 R1 σ H1 _ (s.step t1) fun y R2 H2 s2 m2 q2 => by
    obtain ⟨p, xs, rfl, h1, h2⟩ := (show Rp X.K R1 x (.lst ds) from q1).lst'
    obtain ⟨v, e1, e2⟩ := RpA.atI (RpA.mono m2 h2) h
    exact ⟨p, xs, j, v, rfl, is_int _ _ q2, SqL.of (s2.sub.rh.k _ _ (m2.k _ _ h1 trivial) trivial), e1, k v R2 H2 s2 (t1.rr.trans m2) e2⟩
theorem exs_ixT {ds : List PV.D} {j : Int} {d : PV.D} (ha : EXS X a ρ (.tup ds) ρ') (hb : EX X b ρ' (.sh (.int j))) (h : atI ds j = some d) (hs : PlainIx b := by exact fun _ _ => rfl) : EXS X (.Subscript a b pos) ρ d ρ' :=
  .of (pe_ix ix_tup pe_sem pe_sem hs) fun B R0 R σ H Q s k => ha B R0 R σ H _ s fun x R1 H1 s1 m1 q1 => hb B R0 R1 σ H1 _ s1 fun y R2 H2 t2 q2 => by
    obtain ⟨p, xs, rfl, h1, h2⟩ := (show Rp X.K R1 x (.tup ds) from q1).tup'
    obtain ⟨v, e1, e2⟩ := RpA.atI (RpA.mono t2.rr h2) h
    exact ⟨p, xs, j, v, rfl, is_int _ _ q2, Sm.seqT t2.rh (Sm.seqT t2.rr h1), e1, k v R2 H2 (s1.step t2) (m1.trans t2.rr) e2⟩
theorem sx_setS {i : Nat} {d : PV.D} {x : Str} {p' : Pos} (hN : X.N.Nodup) (hi : X.N[i]? = some x) (hx : Loc X.env.scope x) (he : EXS X e ρ d ρ') (h : P.nx (ρ'.set i (.sh d))) (hs : swapsWith e (some (.Name x p')) pos.line X.env = pure false := by rfl)
    (hf : X.fn x = true ∨ X.env.scope.names.lookup x = some .local := by first | exact .inl rfl | exact .inr rfl) : SX X W (.Assign [.Name x p'] e pos) ρ P := .of (ps_set hN hi hx pe_sem hs hf) fun B R0 R σ H D s n =>
  he B R0 R σ H _ s fun v R' H' s' m q => n.nx _ R' _ H' h (s'.set (r := .sh d) s'.sub.step q i)
theorem sx_asgS {tg : Expr} {g : TG} {d : PV.D} {ρ2 : List Sl} (hg : PG X tg g) (he : EXS X e ρ d ρ') (gv : Gv X.K g ρ' (.sh d) ρ2) (h : P.nx ρ2) (hs : swapsWithSole [tg] e pos.line X.env = pure false := by rfl) (hw : swappedStores [tg] e X.env = pure none := by rfl)
    (h1 : (assignEach [tg] X.env).map (·.2) = [assign tg X.env] := by rfl) : SX X W (.Assign [tg] e pos) ρ P := .of (ps_asg pe_sem hg hs hw h1) fun B R0 R σ H D s n =>
  he B R0 R σ H _ s fun v R' H' s' m q => gv B R0 R' σ H' v _ s' q fun σ' s2 => n.nx _ R' σ' H' h s2
theorem sx_exprS {d : PV.D} (he : EXS X e ρ d ρ') (h : P.nx ρ') (hs : swapsWith e none pos.line X.env = pure false := by rfl) : SX X W (.Expr e pos) ρ P := .of (ps_expr pe_sem hs) fun B R0 R σ H D s n =>
  he B R0 R σ H _ s fun v R' H' s' _ _ => n.nx ρ' R' σ H' h s'
theorem SXs.freeze {i : Nat} {d : PV.D} (hi : ρ[i]? = some (.ow d)) (h : SXs X W sts (ρ.set i (.sh d)) P) : SXs X W sts ρ P := fun B R0 R σ H D s n => by
  obtain ⟨φ, fp⟩ := s.fps
  obtain ⟨v, f, ev, p, rfl, _, hb, w⟩ := s.at hi
  obtain ⟨hil, _⟩ := List.getElem?_eq_some_iff.mp hi
  have own := fp.sl i _ _ hi ev
  obtain ⟨p', e', fe, hb', hr, o, ho, od⟩ := own
  cases e'
  have sm : Sm R (upd R p o) := (Sm.refl R).upd hr
  have rh : Sm (upd R p o) H := by
    refine ⟨fun b x e nt => ?_, fun b ps e => ?_⟩
    · by_cases z : b = p
      · subst z; rw [upd_same] at e; cases e; exact ho
      · rw [upd_ne z] at e; exact s.stp.rh.k b x e nt
    · by_cases z : b = p
      · subst z; rw [upd_same] at e; cases e; exact od.nt.elim
      · rw [upd_ne z] at e; exact s.stp.rh.t b ps e
  have stp : Step R0 B (upd R p o) H := ⟨s.stp.rr.trans sm, rh, s.stp.hh, fun a h1 h2 => by
    by_cases z : a = p
    · subst z; exact hb
    · rw [upd_ne z] at h2; exact s.stp.nw a h1 h2, fun a xs e => sm.k _ _ (s.stp.tp a xs e) trivial, fun a u xs e => sm.k _ _ (s.stp.tf a u xs e) trivial, s.stp.cd, fun a φ e => sm.k _ _ (s.stp.te a φ e) trivial⟩
  refine h B R0 (upd R p o) σ H D ⟨stp, s.tb, by rw [List.length_set]; exact s.len, fun j => if j = i then [] else φ j, fun j t v e1 e2 => ?_, fun j hj => ?_, fun j k q jk a b => ?_⟩ n
  · rw [List.getElem?_set] at e1
    by_cases z : i = j
    · subst z
      rw [if_pos rfl, if_pos hil] at e1
      cases e1
      rw [ev] at e2
      cases e2
      rw [if_pos rfl]
      exact ⟨rfl, _, rfl, (od.mono sm).rp upd_same⟩
    · rw [if_neg z] at e1
      rw [if_neg fun q => z q.symm]
      have q := fp.sl j t v e1 e2
      have np : ∀ a ∈ φ j, a ≠ p := fun a ha e => fp.df i j p z (by rw [fe]; exact List.mem_cons_self) (by rw [← e]; exact ha)
      cases t with
      | no => exact q
      | sh d => obtain ⟨f, x, e, r⟩ := q; exact ⟨f, x, e, Rp.mono sm r⟩
      | al d => exact q
      | ow d =>
        obtain ⟨p2, e, f2, b2, r2, o2, h2, od2⟩ := q
        exact ⟨p2, e, f2, b2, by rw [upd_ne (np p2 (by rw [f2]; exact List.mem_cons_self))]; exact r2, o2, h2, od2.mono sm⟩
      | od pn d =>
        obtain ⟨x, e, pq, w2, k3⟩ := q
        exact ⟨x, e, pq, Ow.mono sm w2 fun _ _ _ _ z => z, fun a ha => ⟨(k3 a ha).1, by rw [upd_ne (np a ha)]; exact (k3 a ha).2⟩⟩
  · rw [List.length_set] at hj
    rw [if_neg (by omega)]
    exact fp.out j hj
  · have a : q ∈ (if j = i then [] else φ j) := a
    have b : q ∈ (if k = i then [] else φ k) := b
    split at a
    · cases a
    · split at b
      · cases b
      · exact fp.df j k q jk a b
theorem SXs.tree {i : Nat} {d : PV.D} (hi : ρ[i]? = some (.ow d)) (im : immO d = true) (h : SXs X W sts (ρ.set i (.od none d)) P) : SXs X W sts ρ P := fun B R0 R σ H D s n => by
  obtain ⟨φ, fp⟩ := s.fps
  obtain ⟨hil, _⟩ := List.getElem?_eq_some_iff.mp hi
  refine h B R0 R σ H D ⟨s.stp, s.tb, by rw [List.length_set]; exact s.len, φ, fun j t v e1 e2 => ?_, fun j hj => fp.out j (by rw [List.length_set] at hj; exact hj), fp.df⟩ n
  rw [List.getElem?_set] at e1
  by_cases z : i = j
  · subst z
    rw [if_pos rfl, if_pos hil] at e1
    cases e1
    obtain ⟨p, rfl, fe, hb, hr, o, ho, od⟩ := fp.sl i _ v hi e2
    refine ⟨.ref p, rfl, (fun y q => nomatch q), by rw [fe]; exact Ow.obj ho od im, fun q hq => ?_⟩
    rw [fe] at hq
    rw [List.mem_singleton.mp hq]
    exact ⟨hb, hr⟩
  · rw [if_neg z] at e1
    exact fp.sl j t v e1 e2
end
end PV

namespace PV
open PySem PySem.Spec PyProof.Rows L2 SH
section
variable {K : PySem.W.Frag} {X : Cx} {W : L2.WX} {ρ : List Sl} {tg iter e a : Expr} {pos p : Pos} {r : Rs}
theorem dc_it {J : It} {n : Nat} {G : Hp → Prop} {Y : Nat → Hp → V → Hp → Prop} (w : Walk J n G Y) {g : TG} {tt : TT} {tk tv : TE} {vs : List Nat} {σ : L2.St} {H1 : Hp} {Dd : Addr} {Qd : Hp → Prop} (Pv : Nat → Hp → Prop) (h0 : Pv 0 (upd H1 Dd (.dK []))) (hG : ∀ i H, i ≤ n → Pv i H → G H)
    (hs : ∀ i x H H', i < n → Pv i H → Y i H x H' → g x (wipe σ vs) H' fun σ2 H2 => wipe σ2 vs = wipe σ vs ∧ tt σ2 H2 fun b H3 =>
      if b = true then tk σ2 H3 fun y H4 => tv σ2 H4 fun z H5 => ∃ kvs k, y = kV k ∧ H5 Dd = some (.dK kvs) ∧ kvs.length < sizeLine ∧ Pv (i + 1) (upd H5 Dd (.dK (putK kvs k z))) else Pv (i + 1) H3) (hd : ∀ H, Pv n H → Qd H) :
    ∃ W : Nat → Nat → Hp → Prop, (∃ m, W 0 m (upd H1 Dd (.dK []))) ∧ ∀ i m H, W i m H →
      (J.stop i H ∧ Qd H) ∨ (J.go i H ∧ ∃ Nx : Hp → Prop, (∀ H', Nx H' → ∃ m', m' < m ∧ W (i + 1) m' H') ∧ ∀ x H', J.yld i H x H' → g x (wipe σ vs) H' fun σ2 H2 => wipe σ2 vs = wipe σ vs ∧ tt σ2 H2 fun b H3 =>
        if b = true then tk σ2 H3 fun y H4 => tv σ2 H4 fun z H5 => ∃ kvs k, y = kV k ∧ H5 Dd = some (.dK kvs) ∧ kvs.length < sizeLine ∧ Nx (upd H5 Dd (.dK (putK kvs k z))) else Nx H3) := by
  refine ⟨fun i m H => m = n - i ∧ i ≤ n ∧ Pv i H, ⟨n, by simp, Nat.zero_le _, h0⟩, ?_⟩
  rintro i m H ⟨rfl, hi, p⟩
  have q := hG i H hi p
  rcases Nat.lt_or_ge i n with hlt | hge
  · refine .inr ⟨w.goes i H hlt q, Pv (i + 1), fun H' p' => ⟨n - (i + 1), by omega, rfl, hlt, p'⟩, fun x H' y => ?_⟩
    exact hs i x H H' hlt p (w.yields i H x H' hlt q y)
  · obtain rfl : i = n := Nat.le_antisymm hi hge
    exact .inl ⟨w.stops H q, hd H p⟩
section
variable {α β κ : Type} [DecidableEq κ] {kx vx : Expr} {scope : Scope} {g : TG} {vs : List Nat} {wi : TI} {l : List α} {emb : α → D} {mk : D → Rs} {kO : α → Option κ} {vO : α → Option β} {kk : κ → Key} {eb : β → D} {out : List (κ × β)}
theorem ev_dcK (inj : ∀ a b, kk a = kk b → a = b) (hw : ItC X tg iter ρ (l.map emb) mk wi) (hb : dcO kO vO l [] = some out) (gs : GSet g vs)
    (ht : ∀ a ∈ l, TurnX X scope g vs [] ρ (mk (emb a)) true fun ρ2 => ∀ k, kO a = some k → EXB X scope kx (.sh (keyD (kk k))) ρ2 ∧ ∀ v, vO a = some v → EXB X scope vx (.sh (eb v)) ρ2) :
    Ev X.K (tDc wi g (tBlkT X scope []) (tBlkE X scope kx) (tBlkE X scope vx) vs) ρ (.nw (eDK kk eb out)) := fun B R0 R σ H Q s k => by
  refine hw.2 B R0 R σ H _ s fun J R1 H1 t1 w Dd hD => ?_
  obtain ⟨G, Y, wk, hG, hY⟩ := w.ex
  have s1 := s.step t1
  have ln : (l.map emb).length = l.length := List.length_map ..
  refine dc_it wk (fun i H => ∃ acc, dcO kO vO (l.drop i) acc = some out ∧ ∃ R kvs, Step R1 H1 R H ∧ R Dd = none ∧ H Dd = some (.dK kvs) ∧ RpK X.K R kvs (acc.map fun p => (kk p.1, eb p.2)))
    ⟨[], hb, R1, [], s1.sub.step.new hD (fun _ z => (nomatch z)) fun _ _ z => (nomatch z), Sm.free s1.sub.rh hD, upd_same, .nil⟩ (fun i H _ ⟨acc, e, R2, kvs, t2, _⟩ => hG R2 H t2) (fun i x H H' hi ⟨acc, e, R2, kvs, t2, nr, hd, ra⟩ y => ?_) fun H ⟨acc, e, R2, kvs, t2, nr, hd, ra⟩ => ?_
  · have hi' : i < l.length := by rw [← ln]; exact hi
    have ha := List.getElem?_eq_getElem hi'
    have hda : (l.map emb)[i]? = some (emb l[i]) := by rw [List.getElem?_map, ha]; rfl
    obtain ⟨R3, t3, r3⟩ := hY i _ hda x R2 H H' t2 y
    obtain ⟨acc', e1, e2⟩ := foldO_step (s0 := acc) ha e
    obtain ⟨k1, ek, e1⟩ := bO e1
    obtain ⟨v1, ev, e1⟩ := bO e1
    obtain ⟨hsz, e1⟩ := chk_e e1
    cases e1
    obtain ⟨ρ2, gv, tt, te⟩ := ht _ (List.getElem_mem hi')
    have s3 := s1.step (t2.trans t3)
    have sw : St X.K B R0 R3 (wipeS ρ vs) (wipe σ vs) H' := s3.wipe vs
    have q := gv B R0 R3 (wipe σ vs) H' x (fun σ2 H2 => H2 = H' ∧ St X.K B R0 R3 ρ2 σ2 H') sw r3 fun σ2 s2 => ⟨rfl, s2⟩
    refine gs x _ H' _ _ q fun σ2 H2 o2 ⟨e2', s2⟩ => ?_
    subst e2'
    refine ⟨by rw [wipe_only o2, wipe_wipe], fun s H0 C cl fp => tt s H0 C cl fp B R0 R3 σ2 H2 _ s2 fun R4 H4 t4 => ?_⟩
    rw [if_pos rfl]
    obtain ⟨hk, hv⟩ := te rfl k1 ek
    refine fun s H0 C cl fp => hk s H0 C cl fp B R0 R4 σ2 H4 _ (s2.step t4) fun u R5 H5 t5 q5 => ?_
    refine fun s H0 C cl fp => hv v1 ev s H0 C cl fp B R0 R5 σ2 H5 _ ((s2.step t4).step t5) fun z R6 H6 t6 q6 => ?_
    have tt6 := ((t3.trans t4).trans t5).trans t6
    have hd6 := tt6.hh.k _ _ hd trivial
    have nr6 : R6 Dd = none := tt6.free nr (by rw [hd]; intro z; cases z)
    have ra6 := RpK.mono tt6.rr ra
    refine ⟨kvs, kk k1, keyV q5, hd6, by rw [ra.len, List.length_map]; exact hsz, _, e2, R6, putK kvs (kk k1) z, (t2.trans tt6).putNew hD nr6 (fun _ z => (nomatch z)) (fun _ _ z => (nomatch z)) (fun _ z => by rw [hd6] at z; cases z), nr6, upd_same, ?_⟩
    rw [← kmap_put inj]
    exact ra6.put q6
  · rw [ln, List.drop_length] at e
    cases e
    exact k _ R2 H (t1.trans t2) ⟨Dd, rfl, Sm.free t1.hh hD, nr, _, hd, ra⟩
end
theorem ex_dcK {kx vx : Expr} {scope : Scope} {own : List (Str × Nat)} {wi : TI} {g : TG} (hc : X.calm = true) (hN : X.N.Nodup) (hi : PI X tg iter wi) (ok : BlkOk X.N X.env.scope scope own)
    (hg : ∀ (s : Shared) (H : Hp) (C : Addr) (cl : List (Str × Addr)) (fp : List Addr), PG (X.blk s H scope (compEnvC scope cl C X.env) fp) tg g) (h : Ev X.K (tDc wi g (tBlkT X scope []) (tBlkE X scope kx) (tBlkE X scope vx) (own.map (·.2))) ρ r)
    (hs : ∀ x, foldedSetIterable iter X.env x = pure x := by intro _; rfl) : EX X (.DictComp kx vx [⟨tg, iter, [], 0⟩] scope pos) ρ r := .of (pe_dc hc hN hi ok hg ptB peB peB hs) h
theorem Ev.ndO {t : TE} {d : PV.D} (h : Ev K t ρ (.nw d)) (hi : immO d = true) : Ev K t ρ (.nd d) := fun B R0 R σ H Q s k => h B R0 R σ H Q s fun v R' H' st hr => by
  obtain ⟨p, rfl, n, hn, u, hu, od⟩ := hr
  exact k _ R' H' st ⟨[p], Ow.obj hu od hi, fun q hq => by rw [List.mem_singleton.mp hq]; exact ⟨n, hn⟩⟩
theorem ex_ndO {d : PV.D} (h : EX X e ρ (.nw d)) (hi : immO d = true) : EX X e ρ (.nd d) := Ev.ndO h hi
theorem on_sortS' {ns : List Str} (e1 : r.dat = eL D.str ns) (hl : ns.length < 64) : OpN K (rSortedS K) [r] (.nw (eL D.str (sortS ns))) := on_sortS e1 hl fun ns' hp hs => sortS_of hp (sortedS_pw hs)
theorem on_sortI' {ns : List Int} (e1 : r.dat = eL D.int ns) : OpN K (rSortedI K) [r] (.nw (eL D.int (sortI ns))) := fun H0 R H xs Q s s0 rs k => by
  obtain ⟨v, rfl, h⟩ := rs.one
  have h3 := h.rp s
  rw [e1] at h3
  obtain ⟨p, ys, rfl, h1, h2⟩ := h3.lst'
  refine ⟨p, ns, rfl, SqL.of (by rw [← RpA.ints h2]; exact h1), fun ns' l hp hs nl => ?_⟩
  rw [sortI_of hp hs]
  exact new_lst s s0 nl (RpA.of_ints _) k
theorem RpK.fst {R : Hp} {κ : Type} : ∀ {kvs : List (κ × V)} {kds : List (κ × PV.D)}, RpK K R kvs kds → kvs.map (·.1) = kds.map (·.1)
  | _, _, .nil => rfl
  | _, _, .cons h r => by rw [List.map_cons, List.map_cons, RpK.fst r]
theorem on_sortD {α : Type} {eb : α → PV.D} {d : List (Str × α)} (e1 : r.dat = eDK kS eb d) (hl : d.length < 64) : OpN K (fun xs H Q => ∃ (a : Addr) (kvs : List (Key × V)) (ks : List Str), xs = [.ref a] ∧ Rd H a (.dK kvs) ∧ kvs.map (·.1) = ks.map Sum.inr ∧ ks.length < 64 ∧
    ∀ ys p, ys.Perm ks → sortedS ys = true → H p = none → Q (.ref p) (upd H p (.lst (ys.map V.str)))) [r] (.nw (eL D.str (sortS (d.map (·.1))))) := fun H0 R H xs Q s s0 rs k => by
  obtain ⟨v, rfl, h⟩ := rs.one
  obtain ⟨p, kvs, rfl, h1, h2⟩ := PV.dk_of s h e1
  refine ⟨p, kvs, d.map (·.1), rfl, .inl h1, ?_, by rw [List.length_map]; exact hl, fun ys l hp hs nl => ?_⟩
  · rw [h2.fst, List.map_map, List.map_map]; rfl
  · rw [sortS_of hp (sortedS_pw hs)]
    exact new_lst s s0 nl (RpA.of_strs _) k
theorem on_listDS {α : Type} {eb : α → PV.D} {d : List (Str × α)} (e1 : r.dat = eDK kS eb d) : OpN K (fun xs H Q => ∃ (a : Addr) (kvs : List (Key × V)), xs = [.ref a] ∧ Rd H a (.dK kvs) ∧ ∀ p, H p = none → Q (.ref p) (upd H p (.lst (kvs.map fun kv => kV kv.1)))) [r] (.nw (eL D.str (d.map (·.1)))) := fun H0 R H xs Q s s0 rs k => by
  refine (on_listD e1) H0 R H xs Q s s0 rs fun v R' H' t q => k v R' H' t ?_
  have e : ((d.map fun p => (kS p.1, eb p.2)).map fun kd => keyD kd.1) = (d.map (·.1)).map D.str := by rw [List.map_map, List.map_map]; rfl
  rw [e] at q
  exact q
end

section
variable {X : Cx} {W : L2.WX} {ρ ρ' : List Sl} {pos : Pos} {a b c e o ix : Expr} {P : Post} {r : Rs} {α β : Type} {em : α → PV.D} {l m : List α} {v : α}
theorem sx_appE {i : Nat} {apos cpos : Pos} (po : PE X o (tVar i)) (hi : ρ[i]? = some (.ow (eL em l))) (he : EX X e ρ (.sh (em v))) (hl : l.length < sizeLine) (h : P.nx ((dr ρ).set i (.ow (eL em (l ++ [v])))))
    (hbase : attributeBase o "append" X.env (eval o X.env) = eval o X.env := by rfl)
    (hfew : ((backTo cpos (starEach [e] X.env)).all (fun x => !x.1) && (backToKw cpos (keywordEach [] X.env)).all (fun x => x.1.isSome)
      && decide (([e] : List Expr).length + ([] : List Keyword).length + (if ([] : List Keyword).isEmpty then 0 else 1) < 30)) = true := by rfl)
    (hline : (apos.endLine == cpos.line) = true := by rfl) (hst : starEach [e] X.env = (false, eval e X.env) :: starEach [] X.env := by rfl) (hplain : (backTo cpos (starEach [] X.env)).any (·.1) = false := by rfl)
    (hs : swapsWith (.Call (.Attribute o "append" apos) [e] [] cpos) none pos.line X.env = pure false := by rfl) : SX X W (.Expr (.Call (.Attribute o "append" apos) [e] [] cpos) pos) ρ P :=
  sx_app po hi he (by rw [List.length_map]; exact hl) (by rw [show l.map em ++ [em v] = (l ++ [v]).map em from by rw [List.map_append]; rfl]; exact h) hbase hfew hline hst hplain hs
theorem sx_extE {i : Nat} {apos cpos : Pos} (po : PE X o (tVar i)) (hi : ρ[i]? = some (.ow (eL em l))) (he : EX X e ρ r) (q : r.dat = eL em m) (sh : Sharable r (m.map em)) (hl : l.length + m.length ≤ sizeLine) (h : P.nx ((dr ρ).set i (.ow (eL em (l ++ m)))))
    (hbase : attributeBase o "extend" X.env (eval o X.env) = eval o X.env := by rfl)
    (hfew : ((backTo cpos (starEach [e] X.env)).all (fun x => !x.1) && (backToKw cpos (keywordEach [] X.env)).all (fun x => x.1.isSome)
      && decide (([e] : List Expr).length + ([] : List Keyword).length + (if ([] : List Keyword).isEmpty then 0 else 1) < 30)) = true := by rfl)
    (hline : (apos.endLine == cpos.line) = true := by rfl) (hst : starEach [e] X.env = (false, eval e X.env) :: starEach [] X.env := by rfl) (hplain : (backTo cpos (starEach [] X.env)).any (·.1) = false := by rfl)
    (hs : swapsWith (.Call (.Attribute o "extend" apos) [e] [] cpos) none pos.line X.env = pure false := by rfl) : SX X W (.Expr (.Call (.Attribute o "extend" apos) [e] [] cpos) pos) ρ P :=
  sx_ext po hi he q sh (by rw [List.length_map, List.length_map]; exact hl) (by rw [← List.map_append]; exact h) hbase hfew hline hst hplain hs
theorem sx_reverseE {i : Nat} {apos cpos : Pos} (po : PE X o (tVar i)) (hi : ρ[i]? = some (.ow (eL em l))) (h : P.nx ((dr ρ).set i (.ow (eL em l.reverse))))
    (hbase : attributeBase o "reverse" X.env (eval o X.env) = eval o X.env := by rfl) (hline : (apos.endLine == cpos.line) = true := by rfl)
    (hs : swapsWith (.Call (.Attribute o "reverse" apos) [] [] cpos) none pos.line X.env = pure false := by rfl) : SX X W (.Expr (.Call (.Attribute o "reverse" apos) [] [] cpos) pos) ρ P :=
  sx_reverse po hi (by rw [← List.map_reverse]; exact h) hbase hline hs
theorem sx_lputE {i k : Nat} {j : Int} {val : Expr} {p' : Pos} (po : PE X o (tVar i)) (hi : ρ[i]? = some (.ow (eL em l))) (hv : EX X val ρ (.sh (em v))) (hj : EX X ix ρ (.sh (.int j))) (hk : ixN l.length j = some k) (h : P.nx ((dr ρ).set i (.ow (eL em (l.set k v)))))
    (hg : PG X (.Subscript o ix p') (gSub (tVar i) (tE X ix) rSetL) := by exact pg_sub (pv _) pe_sem set_list) (hs : swapsWithSole [.Subscript o ix p'] val pos.line X.env = pure false := by rfl) (hw : swappedStores [.Subscript o ix p'] val X.env = pure none := by rfl)
    (h1 : (assignEach [.Subscript o ix p'] X.env).map (·.2) = [assign (.Subscript o ix p') X.env] := by rfl) : SX X W (.Assign [.Subscript o ix p'] val pos) ρ P :=
  sx_lput po hi hv hj (by rw [List.length_map]; exact hk) (by rw [← List.map_set]; exact h) hg hs hw h1
theorem exs_popE {i : Nat} {apos cpos : Pos} (po : PE X o (tVar i)) (hi : ρ[i]? = some (.ow (eL em l))) (hd : l[l.length - 1]? = some v)
    (hbase : attributeBase o "pop" X.env (eval o X.env) = eval o X.env := by rfl) (hline : (apos.endLine == cpos.line) = true := by rfl) : EXS X (.Call (.Attribute o "pop" apos) [] [] cpos) ρ (em v) ((dr ρ).set i (.ow (eL em l.dropLast))) := by
  have := exs_pop (X := X) (ρ := ρ) (ds := l.map em) (d := em v) (apos := apos) (cpos := cpos) po hi (by rw [List.length_map, List.getElem?_map, hd]; rfl) hbase hline
  rw [← List.map_dropLast] at this
  exact this
theorem exs_popDE {i : Nat} {pn : Option V} {D0 : PV.D} {path : List Nat} [im : Im em] {apos cpos : Pos} (po : PathX X o ρ i path) (hi : ρ[i]? = some (.od pn D0)) (hp : getP D0 path = some (eL em l)) (hd : l[l.length - 1]? = some v)
    (hbase : attributeBase o "pop" X.env (eval o X.env) = eval o X.env := by rfl) (hline : (apos.endLine == cpos.line) = true := by rfl) : EXS X (.Call (.Attribute o "pop" apos) [] [] cpos) ρ (em v) ((dr ρ).set i (.od pn (setP D0 path (eL em l.dropLast)))) := by
  have := exs_popD (X := X) (ρ := ρ) (ds := l.map em) (d := em v) (apos := apos) (cpos := cpos) po hi hp (im.all l) (by rw [List.length_map, List.getElem?_map, hd]; rfl) hbase hline
  rw [← List.map_dropLast] at this
  exact this
theorem ixE {i : Int} (h : atI l i = some v) : atI (l.map em) i = some (em v) := at_map h
theorem ex_ixE {i : Int} (ha : EX X a ρ (.sh (eL em l))) (hb : EX X b ρ (.sh (.int i))) (h : atI l i = some v) (hs : PlainIx b := by exact fun _ _ => rfl) : EX X (.Subscript a b pos) ρ (.sh (em v)) := ex_ix ix_list (o2_ixL (at_map h)) ha hb hs
theorem ex_ixEA {i : Int} (ha : EX X a ρ (.al (eL em l))) (hb : EX X b ρ (.sh (.int i))) (h : atI l i = some v) (hs : PlainIx b := by exact fun _ _ => rfl) : EX X (.Subscript a b pos) ρ (.al (em v)) := ex_ix ix_list (o2_ixLA (at_map h)) ha hb hs
theorem ex_ixTE {i : Int} (ha : EX X a ρ (.sh (eTU em l))) (hb : EX X b ρ (.sh (.int i))) (h : atI l i = some v) (hs : PlainIx b := by exact fun _ _ => rfl) : EX X (.Subscript a b pos) ρ (.sh (em v)) := ex_ix ix_tup (o2_ixT (at_map h)) ha hb hs
def cutL {α : Type} (l : List α) (lo hi : Option Int) : List α := (l.drop (HT.sIx l.length 0 lo)).take (HT.sIx l.length l.length hi - HT.sIx l.length 0 lo)
theorem cutD_map (l : List α) (lo hi : Option Int) : cutD (l.map em) lo hi = (cutL l lo hi).map em := by
  unfold cutD cutL
  rw [List.length_map, List.map_take, List.map_drop]
theorem ex_slE {lo hi : Option Expr} {x y : Option Int} {p2 : Pos} (he : EX X e ρ r) (e1 : r.dat = eL em l) (sh : Sharable r (l.map em)) (hl : OX X lo ρ x) (hh : OX X hi ρ y) : EX X (.Subscript e (.Slice lo hi none p2) pos) ρ (.nw (eL em (cutL l x y))) :=
  ex_cv (ex_slL he e1 sh hl hh) (by rw [cutD_map])
theorem ex_catE {ra rb : Rs} (h1 : EX X a ρ ra) (h2 : EX X b ρ rb) (e1 : ra.dat = eL em l) (e2 : rb.dat = eL em m) (s1 : Sharable ra (l.map em)) (s2 : Sharable rb (m.map em)) (hl : l.length + m.length ≤ sizeLine) : EX X (.BinOp a .Add b pos) ρ (.nw (eL em (l ++ m))) :=
  ex_cv (ex_cat h1 h2 e1 e2 s1 s2 (by rw [List.length_map, List.length_map]; exact hl)) (by rw [← List.map_append])
theorem tx_listE (h : EX X e ρ r) (e1 : sq r.dat = some (l.map em)) (he : ∀ whole, isTrue e X.env whole = (do let v ← whole; standAt e.pos; holding [v] (truthy v)) := by intro _; rfl) : TX X e ρ (!l.isEmpty) := tx_cv (tx_seq h e1 he) (by cases l <;> rfl)
theorem on_lenE (e1 : sq r.dat = some (l.map em)) {K : PySem.W.Frag} : OpN K (fun xs H Q => ∃ p ys, xs = [.ref p] ∧ (SqL K H p ys ∨ SqT K H p ys) ∧ Q (.int ys.length) H) [r] (.sh (.int l.length)) := by
  have := on_len (K := K) (r := r) e1
  rw [List.length_map] at this
  exact this
theorem on_tupleE {K : PySem.W.Frag} (e1 : r.dat = eL em l) (sh : Sharable r (l.map em)) : OpN K (fun xs H Q => ∃ p ys, xs = [.ref p] ∧ ((SqL K H p ys ∧ ∀ l, H l = none → Q (.ref l) (upd H l (.tup ys))) ∨ (SqT K H p ys ∧ Q (.ref p) H))) [r] (.sh (eTU em l)) := on_tuple e1 sh
theorem shar_im [im : Im em] (l : List α) {r : Rs} : Sharable r (l.map em) := .inr (im.all l)
theorem immR_L [im : Im em] (l : List α) : immR (.nw (eL em l)) = true := im.all l
theorem immR_DK {κ : Type} {kk : κ → Key} [im : Im em] (d : List (κ × α)) : immR (.nw (eDK kk em d)) = true := (inferInstance : ImO (eDK kk em)).h d
theorem immR_DT {κ : Type} {kt : κ → List Key} [im : Im em] (d : List (κ × α)) : immR (.nw (eDT kt em d)) = true := (inferInstance : ImO (eDT kt em)).h d
theorem getP_L {n : Nat} {q : List Nat} {x : PV.D} {l : List α} {v : α} (h : l[n]? = some v) (k : getP (em v) q = some x) : getP (eL em l) (n :: q) = some x := by
  show (((l.map em)[n]?).bind fun d => getP d q) = some x
  rw [List.getElem?_map, h]
  exact k
theorem setP_L {n : Nat} {q : List Nat} {x : PV.D} {l : List α} {v v' : α} (h : l[n]? = some v) (k : setP (em v) q x = em v') : setP (eL em l) (n :: q) x = eL em (l.set n v') := by
  show D.lst ((l.map em).modify n fun d => setP d q x) = D.lst ((l.set n v').map em)
  obtain ⟨hn, rfl⟩ := List.getElem?_eq_some_iff.mp h
  congr 1
  apply List.ext_getElem?
  intro i
  rw [List.getElem?_modify, List.getElem?_map, List.getElem?_map, List.getElem?_set]
  by_cases z : n = i
  · subst z
    rw [if_pos rfl, if_pos hn, List.getElem?_eq_getElem hn]
    show some (if n = n then setP (em l[n]) q x else em l[n]) = some (em v')
    rw [if_pos rfl, k]
  · rw [if_neg z]
    cases l[i]? with
    | none => rfl
    | some y => show some (if n = i then _ else em y) = some (em y); rw [if_neg z]
theorem px_ixLE {i n : Nat} {pn : Option V} {j : Int} {d : PV.D} {path : List Nat} {v : α} (ho : PathX X o ρ i path) (hi : ρ[i]? = some (.od pn d)) (hd : getP d path = some (eL em l)) (hj : EX X ix ρ (.sh (.int j))) (hn : ixN l.length j = some n) (hl : l[n]? = some v) (hs : PlainIx ix := by exact fun _ _ => rfl) :
    PathX X (.Subscript o ix pos) ρ i (path ++ [n]) := px_ixL ho hi hd hj (by rw [List.length_map]; exact hn) (by rw [List.length_map]; exact (List.getElem?_eq_some_iff.mp hl).1) hs
theorem sx_appPE {i : Nat} {pn : Option V} {D0 D1 : PV.D} {path : List Nat} [im : Im em] {apos cpos : Pos} (po : PathX X o ρ i path) (hi : ρ[i]? = some (.od pn D0)) (hp : getP D0 path = some (eL em l)) (he : EX X e ρ (.sh (em v))) (hl : l.length < sizeLine) (hq : setP D0 path (eL em (l ++ [v])) = D1) (h : P.nx ((dr ρ).set i (.od pn D1)))
    (hbase : attributeBase o "append" X.env (eval o X.env) = eval o X.env := by rfl)
    (hfew : ((backTo cpos (starEach [e] X.env)).all (fun x => !x.1) && (backToKw cpos (keywordEach [] X.env)).all (fun x => x.1.isSome)
      && decide (([e] : List Expr).length + ([] : List Keyword).length + (if ([] : List Keyword).isEmpty then 0 else 1) < 30)) = true := by rfl)
    (hline : (apos.endLine == cpos.line) = true := by rfl) (hst : starEach [e] X.env = (false, eval e X.env) :: starEach [] X.env := by rfl) (hplain : (backTo cpos (starEach [] X.env)).any (·.1) = false := by rfl)
    (hs : swapsWith (.Call (.Attribute o "append" apos) [e] [] cpos) none pos.line X.env = pure false := by rfl) : SX X W (.Expr (.Call (.Attribute o "append" apos) [e] [] cpos) pos) ρ P :=
  sx_appP po hi hp (im.all l) he (im.h v) (by rw [List.length_map]; exact hl) (by
    have q : setP D0 path (.lst (l.map em ++ [em v])) = D1 := by rw [← hq]; rw [show l.map em ++ [em v] = (l ++ [v]).map em from by rw [List.map_append]; rfl]
    rw [q]; exact h) hbase hfew hline hst hplain hs
end

section
variable {X : Cx} {W : L2.WX} {ρ ρ' : List Sl} {pos : Pos} {a b c e o ix : Expr} {P : Post} {r : Rs}
theorem ex_mulO {i j : Int} (ha : EX X a ρ (.sh (.int i))) (hb : EX X b ρ (.sh (.int j))) (h : mulOk i j) : EX X (.BinOp a .Mult b pos) ρ (.sh (.int (i * j))) := by
  rcases h with h | h | h
  · exact ex_mul ha hb (.inl h)
  · exact ex_mul ha hb (.inr h)
  · exact ex_mulW ha hb h
end
end PV

namespace PV
open PySem PySem.Spec PyProof.Rows L2 SH
theorem outOk_nil : OutOk [] [] := ⟨rfl, fun i s v h => by simp at h⟩
theorem outOk_no {v : V} {vs : List V} {ρo : List Sl} (h : OutOk vs ρo) : OutOk (v :: vs) (.no :: ρo) := ⟨congrArg Nat.succ h.1, fun i s u e1 e2 => by
  cases i with
  | zero => simp at e1; exact .inl e1.symm
  | succ i => exact h.2 i s u (by simpa using e1) (by simpa using e2)⟩
theorem outOk_od {v : V} {vs : List V} {ρo : List Sl} {d : D} (h : OutOk vs ρo) : OutOk (v :: vs) (.od (some v) d :: ρo) := ⟨congrArg Nat.succ h.1, fun i s u e1 e2 => by
  cases i with
  | zero => simp at e1 e2; subst e1 e2; exact .inr ⟨d, rfl⟩
  | succ i => exact h.2 i s u (by simpa using e1) (by simpa using e2)⟩
theorem ltNo : ∀ ρ : List Sl, Lt (ρ.map fun _ => Sl.no) ρ
  | [] => .nil
  | _ :: r => .no (ltNo r)
section
variable {X : Cx} {W : L2.WX} {ρ : List Sl} {pos : Pos} {a b c e o tg iter : Expr} {r : Rs} {α β : Type}
theorem isN_O {em : α → D} (h : ∀ a, isNon (em a) = false) (x : Option α) : isNon (eO em x) = x.isNone := by
  cases x with
  | none => rfl
  | some x => exact h x
theorem ex_isN {j p'} (ha : EX X a ρ r) : EX X (.Compare a [.Is] [.Constant .none j p'] pos) ρ (.sh (.bl (isNon r.dat))) := ex_cmp op_isN o2_isN ha ex_non (nomark _)
theorem ex_notN {j p'} (ha : EX X a ρ r) : EX X (.Compare a [.IsNot] [.Constant .none j p'] pos) ρ (.sh (.bl (!isNon r.dat))) := ex_cmp op_notN o2_notN ha ex_non (nomark _)
theorem ex_chainI {i j : Int} {m : Option Bool} {v : Bool} (ha : EX X a ρ (.sh (.int i))) (hb : EX X b ρ (.sh (.int j))) (hc : decide (i ≤ j) = true → ∀ k, m = some k → ∃ x : Int, EX X c ρ (.sh (.int x)) ∧ k = decide (j < x)) (q : andO (decide (i ≤ j)) m = some v)
    (hm : lastMarks [CmpOp.LtE, CmpOp.Lt] [b, c] = false := by with_unfolding_all rfl) : EX X (.Compare a [.LtE, .Lt] [b, c] pos) ρ (.sh (.bl v)) := by
  cases e : decide (i ≤ j) with
  | false =>
    rw [e] at q
    cases q
    refine ex_cv (.of (pe_chain op_le op_lt pe_sem pe_sem pe_sem hm) (Ev.chain (rc := .sh .non) (k := false) ha hb o2_le (fun z => ?_) fun z => ?_)) (by rw [e]; rfl)
    · rw [e] at z; cases z
    · rw [e] at z; cases z
  | true =>
    rw [e] at q
    have q : m = some v := q
    obtain ⟨x, e1, e2⟩ := hc e v q
    subst e2
    exact ex_cv (ex_chain op_le op_lt o2_le (fun _ => o2_lt) ha hb (fun _ => e1) hm) (by rw [e]; rfl)
theorem it_cv {ds ds' : List D} (h : ItX X tg iter ρ ds) (q : ds = ds') : ItX X tg iter ρ ds' := q ▸ h
theorem enum_map (l : List α) (em : α → D) : ((l.map em).zipIdx.map fun q => D.tup [.int q.2, q.1]) = (enumI l).map (eP2 D.int em) := by
  unfold enumI
  rw [List.zipIdx_map, List.map_map, List.map_map]
  rfl
theorem ex_ifP {em : α → D} {k : Bool} {x y : α} (h : TX X c ρ k) (h1 : EX X a ρ (.sh (em x))) (h2 : EX X b ρ (.sh (em y))) : EX X (.IfExp c a b pos) ρ (.sh (em (if k = true then x else y))) := by
  cases k with
  | true => exact ex_if h (fun _ => h1) fun z => nomatch z
  | false => exact ex_if h (fun z => nomatch z) fun _ => h2
theorem setP_P2_0 {ea : α → D} {eb : β → D} {y : α × β} {q : List Nat} {x : D} {z : α} (h : setP (ea y.1) q x = ea z) : setP (eP2 ea eb y) (0 :: q) x = eP2 ea eb (z, y.2) := congrArg (fun d => D.tup [d, eb y.2]) h
theorem setP_P2_1 {ea : α → D} {eb : β → D} {y : α × β} {q : List Nat} {x : D} {z : β} (h : setP (eb y.2) q x = eb z) : setP (eP2 ea eb y) (1 :: q) x = eP2 ea eb (y.1, z) := congrArg (fun d => D.tup [ea y.1, d]) h
theorem setP_LH2_0 {ea : α → D} {eb : β → D} {y : α × β} {q : List Nat} {x : D} {z : α} (h : setP (ea y.1) q x = ea z) : setP (eH2 ea eb y) (0 :: q) x = eH2 ea eb (z, y.2) := congrArg (fun d => D.lst [d, eb y.2]) h
theorem setP_LH2_1 {ea : α → D} {eb : β → D} {y : α × β} {q : List Nat} {x : D} {z : β} (h : setP (eb y.2) q x = eb z) : setP (eH2 ea eb y) (1 :: q) x = eH2 ea eb (y.1, z) := congrArg (fun d => D.lst [ea y.1, d]) h
theorem tx_strE {z : Str} (h : EX X e ρ (.sh (.str z))) (hl : z.length ≤ sizeLine) (he : ∀ whole, isTrue e X.env whole = (do let v ← whole; standAt e.pos; holding [v] (truthy v)) := by intro _; rfl) : TX X e ρ (!decide (z.length = 0)) :=
  .of (pt_truth pe_sem he) fun B R0 R σ H Q s k => h B R0 R σ H _ s fun v R1 H1 t1 q1 => by
    rw [is_str _ _ q1]
    refine ⟨!decide (z.length = 0), ?_, k R1 H1 t1⟩
    exact ⟨hl, by cases z.length <;> rfl⟩
theorem isX_O {em : α → D} {p : D → Bool} (h0 : p .non = false) (h : ∀ a, p (em a) = true) (x : Option α) : p (eO em x) = x.isSome := by
  cases x with
  | none => exact h0
  | some x => exact h x
theorem isX_Of {em : α → D} {p : D → Bool} (h0 : p .non = false) (h : ∀ a, p (em a) = false) (x : Option α) : p (eO em x) = false := by
  cases x with
  | none => exact h0
  | some x => exact h x
end

section
variable {X : Cx} {W : L2.WX} {ρ : List Sl} {pos : Pos} {P : Post} {r : Rs} {elt kx vx tg iter : Expr} {ifs : List Expr} {scope : Scope} {own : List (Str × Nat)} {g : TG} {ds : List D} {mk : D → Rs}
theorem ex_lcM (hi : ∃ wi, ItC X tg iter ρ ds mk wi) (hc : X.calm = true) (hN : X.N.Nodup) (ok : BlkOk X.N X.env.scope scope own)
    (hg : ∀ (s : Shared) (H : Hp) (C : Addr) (cl : List (Str × Addr)) (fp : List Addr), PG (X.blk s H scope (compEnvC scope cl C X.env) fp) tg g) (h : ∀ wi, ItC X tg iter ρ ds mk wi → Ev X.K (tLc wi g (tBlkT X scope ifs) (tBlkE X scope elt) (own.map (·.2))) ρ r)
    (hs : ∀ x, foldedSetIterable iter X.env x = pure x := by intro _; rfl) : EX X (.ListComp elt [⟨tg, iter, ifs, 0⟩] scope pos) ρ r := by
  obtain ⟨wi, itw⟩ := hi
  exact ex_lc hc hN itw.1 ok hg (h wi itw) hs
theorem sx_setLcM {i : Nat} {y : Str} {py spos : Pos} (hi : ∃ wi, ItC X tg iter ρ ds mk wi) (hc : X.calm = true) (hN : X.N.Nodup) (hy : X.N[i]? = some y) (hyl : X.env.scope.names.lookup y = some .local)
    (hsw : swapsWith (.ListComp elt [⟨tg, iter, ifs, 0⟩] scope pos) (some (.Name y py)) spos.line X.env = pure true) (ok : BlkOk X.N X.env.scope scope own)
    (hg : ∀ (s : Shared) (H : Hp) (C : Addr) (cl : List (Str × Addr)) (fp : List Addr), PG (X.blk s H scope (compEnvC scope cl C X.env) fp) tg g) (h : ∀ wi, ItC X tg iter ρ ds mk wi → Ev X.K (tLc wi g (tBlkT X scope ifs) (tBlkE X scope elt) (own.map (·.2))) ρ r) (hP : P.nx (ρ.set i r.sl))
    (hs : ∀ x, foldedSetIterable iter X.env x = pure x := by intro _; rfl) : SX X W (.Assign [.Name y py] (.ListComp elt [⟨tg, iter, ifs, 0⟩] scope pos) spos) ρ P := by
  obtain ⟨wi, itw⟩ := hi
  exact sx_setLc hc hN hy hyl hsw itw.1 ok hg (h wi itw) hP hs
theorem ex_dcM (hi : ∃ wi, ItC X tg iter ρ ds mk wi) (hc : X.calm = true) (hN : X.N.Nodup) (ok : BlkOk X.N X.env.scope scope own)
    (hg : ∀ (s : Shared) (H : Hp) (C : Addr) (cl : List (Str × Addr)) (fp : List Addr), PG (X.blk s H scope (compEnvC scope cl C X.env) fp) tg g) (h : ∀ wi, ItC X tg iter ρ ds mk wi → Ev X.K (tDc wi g (tBlkT X scope []) (tBlkE X scope kx) (tBlkE X scope vx) (own.map (·.2))) ρ r)
    (hs : ∀ x, foldedSetIterable iter X.env x = pure x := by intro _; rfl) : EX X (.DictComp kx vx [⟨tg, iter, [], 0⟩] scope pos) ρ r := by
  obtain ⟨wi, itw⟩ := hi
  exact ex_dcK hc hN itw.1 ok hg (h wi itw) hs
theorem ps_setDc {i : Nat} {y : Str} {py spos : Pos} {wi : TI} {tt : TT} {tk tv : TE} (hc : X.calm = true) (hN : X.N.Nodup) (hy : X.N[i]? = some y) (hl : X.env.scope.names.lookup y = some .local)
    (hsw : swapsWith (.DictComp kx vx [⟨tg, iter, ifs, 0⟩] scope pos) (some (.Name y py)) spos.line X.env = pure true) (hi : PI X tg iter wi) (ok : BlkOk X.N X.env.scope scope own)
    (hg : ∀ (s : Shared) (H : Hp) (C : Addr) (cl : List (Str × Addr)) (fp : List Addr), PG (X.blk s H scope (compEnvC scope cl C X.env) fp) tg g)
    (ht : ∀ (s : Shared) (H : Hp) (C : Addr) (cl : List (Str × Addr)) (fp : List Addr), PTs (X.blk s H scope (compEnvC scope cl C X.env) fp) ifs tt) (hk : ∀ (s : Shared) (H : Hp) (C : Addr) (cl : List (Str × Addr)) (fp : List Addr), PE (X.blk s H scope (compEnvC scope cl C X.env) fp) kx tk) (hv : ∀ (s : Shared) (H : Hp) (C : Addr) (cl : List (Str × Addr)) (fp : List Addr), PE (X.blk s H scope (compEnvC scope cl C X.env) fp) vx tv)
    (hs : ∀ x, foldedSetIterable iter X.env x = pure x := by intro _; rfl) : PS X (.Assign [.Name y py] (.DictComp kx vx [⟨tg, iter, ifs, 0⟩] scope pos) spos) (tAsg (tDc wi g tt tk tv (own.map (·.2))) (gName i)) := ⟨fun pins s σ H D I rd => by
  rw [exec_Assign_Name_used _ _ _ _ hsw]
  refine wpAny_bind (wpAny_standAt (wpAny_bind ?_))
  have rd : tDc wi g tt tk tv (own.map (·.2)) σ H (fun x H1 => gName i x σ H1 D.nx) := rd
  show wpAny _ X.A (do
    let _ ← comprehension (.DictComp kx vx [⟨tg, iter, ifs, 0⟩] scope pos) scope X.env (firstIterPos [⟨tg, iter, ifs, 0⟩] pos) newDict false (eval iter X.env) (some (assign (.Name y py) X.env))) _ _ s
  have core := dc_core (pos := pos) (pos' := firstIterPos [⟨tg, iter, ifs, 0⟩] pos) (use := some (assign (.Name y py) X.env)) (Qf := fun _ s' => SP X pins D .next s') hc hN I hi ok hg ht hk hv hs rd
  refine wpAny_bind (thn (core fun Lc C s1 m H1 I1 q hn fo => ?_) fun _ s2 hq => wpAny_pure (wpAny_pure hq))
  show wpAny _ _ (assign (.Name y py) X.env (.ref Lc)) _ _ _
  refine wpAny_assign_Name (store_ok2 (v := V.ref Lc) I1 hN hy (.inl hl) rfl (fun s2 I2 z => ?_) (.inr hl))
  obtain ⟨a, sb, ha⟩ := z
  obtain ⟨g0, g1, g2, g3, g4, g5⟩ := fo
  have far : C ≠ a := ha.elim (fun e => by rw [e]; exact g1) fun e z => g4 y a e z.symm
  exact ⟨m, hn.sameBut sb far, fun h3 sb3 => ⟨_, H1, I2.turned (t' := s2.toks) (fun b o hb e => (sb3.2 b hb).trans e) g0 g1 g3 g4 g5, q⟩⟩⟩
theorem sw_dict {py : Pos} {y : Str} {gs : List Comprehension} {l : Nat} {env : Env} (hk : env.scope.kind = .function) (hy : env.scope.names.lookup y = some .local) (hl : (py.line == pos.line) = true)
    (ha : (scope.names.any fun (n, k) => n == y && (k == .local || k == .cell)) = false) : swapsWith (.DictComp kx vx gs scope pos) (some (.Name y py)) l env = pure true := by
  have e1 : env.kindOf y = some .local := hy
  have e2 : env.blockKind = .function := by
    unfold Env.blockKind
    rw [hk]; rfl
  unfold swapsWith
  simp only [e2, e1, ha, Expr.pos, hl]
  rfl
theorem sx_setDcM {i : Nat} {y : Str} {py spos : Pos} (hi : ∃ wi, ItC X tg iter ρ ds mk wi) (hc : X.calm = true) (hN : X.N.Nodup) (hy : X.N[i]? = some y) (hyl : X.env.scope.names.lookup y = some .local)
    (hsw : swapsWith (.DictComp kx vx [⟨tg, iter, [], 0⟩] scope pos) (some (.Name y py)) spos.line X.env = pure true) (ok : BlkOk X.N X.env.scope scope own)
    (hg : ∀ (s : Shared) (H : Hp) (C : Addr) (cl : List (Str × Addr)) (fp : List Addr), PG (X.blk s H scope (compEnvC scope cl C X.env) fp) tg g) (h : ∀ wi, ItC X tg iter ρ ds mk wi → Ev X.K (tDc wi g (tBlkT X scope []) (tBlkE X scope kx) (tBlkE X scope vx) (own.map (·.2))) ρ r) (hP : P.nx (ρ.set i r.sl))
    (hs : ∀ x, foldedSetIterable iter X.env x = pure x := by intro _; rfl) : SX X W (.Assign [.Name y py] (.DictComp kx vx [⟨tg, iter, [], 0⟩] scope pos) spos) ρ P := by
  obtain ⟨wi, itw⟩ := hi
  exact .of (ps_setDc hc hN hy hyl hsw itw.1 ok hg ptB peB peB hs) fun B R0 R σ H D s n => (h wi itw) B R0 R σ H _ s fun v R' H' t q => n.nx _ R' _ H' hP (s.set t q i)
end
end PV

namespace SH
def tri? {α : Type} : List α → Option (α × α × α)
  | [a, b, c] => some (a, b, c)
  | _ => none
def RowT.cut03 : RowT → List PySem.Str
  | .tell a => ["tell", a]
  | .make a g _ => ["make", a, g]
def RowT.cut13 : RowT → List PySem.Str
  | .tell a => [a]
  | .make a g _ => [a, g]
end SH
namespace PV
open PySem PySem.Spec PyProof.Rows L2 SH
section
open PySem.SeqAt MeetsSeq MeetsSeq2 MeetsSeq3 SeqRoads2
open AutoSeq1 (wpAny_loadPart')
variable {prog : Program} {w : World}
theorem ne_turns (l b : Addr) (xs ys : Array Value) (n n2 : Nat) (dd dd2 : Option Addr) (sl sl2 : Array (Option Value)) (hsz : xs.size = ys.size) (k : Nat) :
    ∀ i : Nat, xs.size - i = k → MeetsIn prog w (Builtin.«list.__eq__.loop» ⟨[.ref l, .ref b, rawInt i, rawInt 3], []⟩)
      (fun A R s => s.heap.get? l = some { cls := .type "list", dict := dd, data := .seq xs n, slots := sl } ∧ s.heap.get? b = some { cls := .type "list", dict := dd2, data := .seq ys n2, slots := sl2 } ∧
        (∀ j (h1 : j < xs.size) (h2 : j < ys.size), EqP prog w A.in1 s xs[j] ys[j] true) ∧ R (.ok (.ret (.bool false))) s) := by
  induction k with
  | zero =>
    intro i hk A R s h
    obtain ⟨hp, g, d, tk, os⟩ := s
    obtain ⟨hl, hb, he, h⟩ := h
    wp_walk using wpAny_loadPart' hl, wpAny_loadPart' hb
    have hi1 : xs[((i : Nat) : Int).toNat]? = none := by simp; omega
    have hi2 : ys[((i : Nat) : Int).toNat]? = none := by simp; omega
    rw [hi1, hi2]
    wp_walk using wpAny_loadPart' hl, wpAny_loadPart' hb
    show R (.ok (.ret (.bool (xs.size != ys.size)))) _
    rw [hsz]
    simpa using h
  | succ k ih =>
    intro i hk A R s h
    obtain ⟨hp, g, d, tk, os⟩ := s
    obtain ⟨hl, hb, he, h⟩ := h
    wp_walk using wpAny_loadPart' hl, wpAny_loadPart' hb
    have hlt : i < xs.size := by omega
    have hlt2 : i < ys.size := by omega
    have hi1 : xs[((i : Nat) : Int).toNat]? = some xs[i] := by simp [hlt]
    have hi2 : ys[((i : Nat) : Int).toNat]? = some ys[i] := by simp [hlt2]
    have hc : ((i : Int) + 1) = ((i + 1 : Nat) : Int) := by push_cast; rfl
    rw [hi1, hi2]
    refine wpAny_bind (he i hlt hlt2 _ _ ?_)
    wp_walk
    rw [hc]
    exact ⟨plainId_quiet plain_eq_loop _, codeAny_builtin entry_eq_loop (by
      rw [Around.under_plainId plain_eq_loop _]
      exact ih (i + 1) (by omega) A R _ ⟨hl, hb, he, h⟩)⟩
theorem ne_whole (l b : Addr) (xs ys : Array Value) (n n2 : Nat) (dd dd2 : Option Addr) (sl sl2 : Array (Option Value)) (hsz : xs.size = ys.size) :
    MeetsIn prog w (Builtin.«list.__ne__» ⟨[.ref l, .ref b], []⟩)
      (fun A R s => s.heap.get? l = some { cls := .type "list", dict := dd, data := .seq xs n, slots := sl } ∧ s.heap.get? b = some { cls := .type "list", dict := dd2, data := .seq ys n2, slots := sl2 } ∧
        (∀ j (h1 : j < xs.size) (h2 : j < ys.size), EqP prog w A.in1 s xs[j] ys[j] true) ∧ R (.ok (.ret (.bool false))) s) := by
  intro A R s h
  obtain ⟨hp, g, d, tk, os⟩ := s
  obtain ⟨hl, hb, he, h⟩ := h
  have f3 := AutoSeq1.sub_list_list
  have hne : ¬ (xs.size != ys.size) = true := by simp [hsz]
  wp_walk using wpAny_loadPart' hl, wpAny_loadPart' hb
  exact ⟨plainId_quiet plain_eq_loop _, codeAny_builtin entry_eq_loop (by
    rw [Around.under_plainId plain_eq_loop _]
    exact ne_turns l b xs ys n n2 dd dd2 sl sl2 hsz _ 0 rfl A R _ ⟨hl, hb, he, h⟩)⟩
theorem rcNe_lists {A : Around} {s : Shared} {l b : Addr} {xs ys : Array Value} (hl : s.heap.IsList l xs) (hb : s.heap.IsList b ys) (hsz : xs.size = ys.size) (hu : A.units < cLine)
    (he : ∀ j (h1 : j < xs.size) (h2 : j < ys.size), EqP prog w A.in1 s xs[j] ys[j] true) (E Q : Value → Shared → Prop) (h : Q (.bool false) s) : wpAny (model prog w) A (richCompare .NotEq (.ref l) (.ref b)) Q E s := by
  obtain ⟨⟨cls, dd, data, sl⟩, ho, hc, n, hd⟩ := id hl
  obtain ⟨⟨cls2, dd2, data2, sl2⟩, ho2, hc2, n2, hd2⟩ := id hb
  simp only at hc hd hc2 hd2
  subst hc hd hc2 hd2
  have ta : s.TypeIs (.ref l) "list" := ⟨_, ho, rfl⟩
  have tb : s.TypeIs (.ref b) "list" := ⟨_, ho2, rfl⟩
  exact wpAny_richCompare_same_room (op := .NotEq) ta tb F.slot_list_ne (call_meetsIn F.slot_list_ne ta F.entry_list_ne (F.args_list_ne_2 _ _) (ne_whole l b xs ys n n2 dd dd2 sl sl2 hsz)
    ⟨ho, ho2, he, show Value.bool false ≠ Value.notImplemented ∧ Q (.bool false) s from ⟨(fun x => nomatch x), h⟩⟩) hu
end
theorem tri_dec {α β γ : Type} [DecidableEq α] [DecidableEq β] [DecidableEq γ] (x y : α × β × γ) : (decide (x.1 = y.1) && (decide (x.2.1 = y.2.1) && decide (x.2.2 = y.2.2))) = decide (x = y) := by
  rw [← pair_dec x y, ← pair_dec x.2 y.2, Bool.and_true, Bool.and_true]
instance {α β γ : Type} {a : α → D} {b : β → D} {c : γ → D} [DecidableEq α] [DecidableEq β] [DecidableEq γ] [SOk α] [SOk β] [SOk γ] {n m k : Nat} [i : Eqv a n] [j : Eqv b m] [q : Eqv c k] : Eqv (eP3 a b c) (max n (max m k) + 1) := ⟨fun x y => by
    show (PyData.eqv (toPy (a x.1)) (toPy (a y.1)) && (PyData.eqv (toPy (b x.2.1)) (toPy (b y.2.1)) && (PyData.eqv (toPy (c x.2.2)) (toPy (c y.2.2)) && true))) = _
    rw [i.ev, j.ev, q.ev, Bool.and_true]
    exact tri_dec x y,
  fun x => by show (noD (a x.1) && (noD (b x.2.1) && (noD (c x.2.2) && true))) = true; rw [i.nd, j.nd, q.nd]; rfl,
  fun x h => by
    have h : (sok x.1 && (sok x.2.1 && sok x.2.2)) = true := h
    rw [Bool.and_eq_true, Bool.and_eq_true] at h
    show ((toPy (a x.1)).canLay0 && ((toPy (b x.2.1)).canLay0 && ((toPy (c x.2.2)).canLay0 && true))) = true
    rw [i.ca _ h.1, j.ca _ h.2.1, q.ca _ h.2.2]; rfl,
  fun x => by
    show max _ (max _ (max _ 0)) + 1 ≤ _
    have := i.dp x.1
    have := j.dp x.2.1
    have := q.dp x.2.2
    omega⟩
def EqG (d e : D) : Prop := (okD d = true ∧ okD e = true ∧ PyData.eqv (toPy d) (toPy e) = true) ∨ ∃ k1 k2, d = .dK k1 ∧ e = .dK k2 ∧ EqK k1 k2
def rNeG (K : PySem.W.Frag) : R2 := fun x y H Q => ∃ a b us vs ds es, x = .ref a ∧ y = .ref b ∧ SqL K H a us ∧ SqL K H b vs ∧ RpA K H us ds ∧ RpA K H vs es ∧ Paired EqG ds es ∧ Q (.bl false) H
section
variable {X : Cx} {pins : List (Addr × Obj)} {σ : L2.St} {H : Hp} {s : Shared}
theorem eqG_run (I : Inv X pins σ H s) {A : Around} (hu : A.units + 70 < cLine) {d e : D} (g : EqG d e) {x y : V} {v u : Value} (rx : RelV x v) (ry : RelV y u) (hx : Rp X.K H x d) (hy : Rp X.K H y e) : SeqAt.EqP X.prog X.w A.in1 s v u true := by
  have hi : A.in1.units = A.units + 1 := rfl
  rcases g with ⟨o1, o2, q⟩ | ⟨k1, k2, rfl, rfl, q⟩
  · obtain ⟨o11, o12⟩ := Bool.and_eq_true_iff.mp o1
    obtain ⟨o21, o22⟩ := Bool.and_eq_true_iff.mp o2
    obtain ⟨as, ra1⟩ := Dp.reads I _ _ v (hx.dp o11) rx
    obtain ⟨bs, rb1⟩ := Dp.reads I _ _ u (hy.dp o21) ry
    have k := PySem.W.keq_at (A := A) ra1 rb1 o12 o22 (by omega)
    rw [q] at k
    exact k.eqP
  · obtain ⟨a, ks, rfl, ha, r1⟩ := hx.dK'
    obtain ⟨b, ls, rfl, hb, r2⟩ := hy.dK'
    cases (show v = Value.ref a from rx)
    cases (show u = Value.ref b from ry)
    by_cases z : a = b
    · subst z
      exact (SeqAt.EqAt.same _).eqP
    · refine SeqAt.eqP_refs z fun E Q hq => ?_
      obtain ⟨_, ya, va, ra, da⟩ := (show ObjOk X.prog X.w H s.heap a (.dK ks) from I.hok a _ ha)
      obtain ⟨_, yb, vb, rb, db⟩ := (show ObjOk X.prog X.w H s.heap b (.dK ls) from I.hok b _ hb)
      refine PySem.W.keq_eq (knd := mixKind X.prog X.w) (r := true) ya yb da db (by omega) (fun _ => hits_of I (by show A.units + 1 + 1 + 64 < cLine; omega) rb r2 ra r1 q.2) ?_
      have e : va.length = vb.length := by rw [← ra.length, ← rb.length, r1.len, r2.len]; exact q.1
      rw [show (va.length == vb.length && true) = true from by rw [e]; simp]
      exact hq
theorem eqG_at (I : Inv X pins σ H s) {A : Around} (hu : A.units + 70 < cLine) : ∀ {ds es : List D} {us vs : List V} {ws zs : List Value}, Paired EqG ds es → RpA X.K H us ds → RpA X.K H vs es → Vals us ws → Vals vs zs →
    ∀ j (h1 : j < ws.length) (h2 : j < zs.length), SeqAt.EqP X.prog X.w A.in1 s ws[j] zs[j] true
  | [], _, _, _, _, _, g, a, b, c, d, j, h1, h2 => by
    cases a
    cases c
    exact absurd h1 (Nat.not_lt_zero j)
  | _ :: _, _, _, _, _, _, .cons g gs, .cons a as, .cons b bs, .cons c cs, .cons d ds, 0, h1, h2 => eqG_run I hu g c d a b
  | _ :: _, _, _, _, _, _, .cons g gs, .cons a as, .cons b bs, .cons c cs, .cons d ds, j + 1, h1, h2 => eqG_at I hu gs as bs cs ds j (Nat.lt_of_succ_lt_succ h1) (Nat.lt_of_succ_lt_succ h2)
end
section
variable {X : Cx} {W : L2.WX} {ρ : List Sl} {P : Post} {a b e o ix : Expr} {pos : Pos} {α β γ : Type} {em : α → D} {l m : List α} {v : α} {r : Rs}
theorem op_neG (hu : X.A.units + 100 < cLine) : OpR X (compareOp .NotEq) (rNeG X.K) := by
  intro pins s σ H x y v u Q I rx ry h
  obtain ⟨a, b, us, vs, ds, es, rfl, rfl, ha, hb, r1, r2, g, q⟩ := h
  cases (show v = Value.ref a from rx)
  cases (show u = Value.ref b from ry)
  obtain ⟨ws, c1, p1, _⟩ := I.list ha
  obtain ⟨zs, c2, p2, _⟩ := I.list hb
  have hsz : ws.toArray.size = zs.toArray.size := by
    rw [List.size_toArray, List.size_toArray, ← c1.length, ← c2.length, r1.len, r2.len]
    exact (Paired.length g)
  refine rcNe_lists (prog := X.prog) (w := X.w) p1.isList p2.isList hsz (by omega) (fun j h1 h2 => ?_) _ _ ⟨.bl false, H, I, rfl, q⟩
  have k := eqG_at I (A := X.A) (by omega) g r1 r2 c1 c2 j (by simpa using h1) (by simpa using h2)
  simpa using k
theorem o2_G {K : PySem.W.Frag} {ra rb : Rs} {ds es : List D} (e1 : ra.dat = .lst ds) (e2 : rb.dat = .lst es) (h : Paired EqG ds es) : Op2 K (rNeG K) ra rb (.sh (.bl false)) := fun H0 R H x y Q s _ rx ry k => by
  have h1 := rx.rp s
  have h2 := ry.rp s
  rw [e1] at h1
  rw [e2] at h2
  obtain ⟨p, xs, rfl, hp, r1⟩ := h1.lst'
  obtain ⟨q, ys, rfl, hq, r2⟩ := h2.lst'
  exact ⟨p, q, xs, ys, ds, es, rfl, rfl, SqL.of hp, SqL.of hq, r1, r2, h, k _ R H s.step (Rp.bl _)⟩
theorem ex_neG {ra rb : Rs} {ds es : List D} (hu : X.A.units + 100 < cLine) (ha : EX X a ρ ra) (hb : EX X b ρ rb) (e1 : ra.dat = .lst ds) (e2 : rb.dat = .lst es) (h : Paired EqG ds es) : EX X (.Compare a [.NotEq] [b] pos) ρ (.sh (.bl false)) := ex_cmp (op_neG hu) (o2_G e1 e2 h) ha hb (nomark _)
theorem tx_neG {ra rb : Rs} {ds es : List D} (hu : X.A.units + 100 < cLine) (ha : EX X a ρ ra) (hb : EX X b ρ rb) (e1 : ra.dat = .lst ds) (e2 : rb.dat = .lst es) (h : Paired EqG ds es) : TX X (.Compare a [.NotEq] [b] pos) ρ false := tx_cmp (op_neG hu) (o2_G e1 e2 h) ha hb (nomark _)
end

section
variable {X : Cx} {W : L2.WX} {ρ : List Sl} {P : Post} {a b e o ix : Expr} {pos : Pos} {α β γ κ : Type} {em : α → D} {l m : List α} {v : α} {r : Rs}
def dictOk [DecidableEq κ] [SOk α] (d : List (κ × α)) : Bool := decide ((d.map (·.1)).Nodup) && d.all fun p => sok p.2
theorem eqg_of [DecidableEq α] [SOk α] {n : Nat} [i : Eqv em n] {x : α} (h : sok x = true) (hn : n ≤ 64 := by decide) : EqG (em x) (em x) :=
  .inl ⟨eqv_ok rfl h hn, eqv_ok rfl h hn, (eqv_ev (em := em) rfl rfl).trans (decide_eq_true rfl)⟩
theorem eqg_dict [DecidableEq κ] [DecidableEq α] [SOk α] {n : Nat} [i : Eqv em n] {kk : κ → Key} (inj : ∀ a b, kk a = kk b → a = b) {d : List (κ × α)} (h : dictOk d = true) (hn : n ≤ 64 := by decide) : EqG (eDK kk em d) (eDK kk em d) := by
  refine .inr ⟨_, _, rfl, rfl, rfl, fun p hp => ?_⟩
  unfold dictOk at h
  rw [Bool.and_eq_true] at h
  obtain ⟨q, hq, rfl⟩ := List.mem_map.mp hp
  have hk : sok q.2 = true := List.all_eq_true.mp h.2 q hq
  have hnd : (d.map (·.1)).Nodup := of_decide_eq_true h.1
  refine ⟨em q.2, ?_, eqv_ok (em := em) rfl hk hn, eqv_ok (em := em) rfl hk hn, (eqv_ev (em := em) rfl rfl).trans (decide_eq_true rfl)⟩
  show getD (d.map fun p => (kk p.1, em p.2)) (kk q.1) = some (em q.2)
  rw [kmap_get inj]
  have : dget d q.1 = some q.2 := by
    clear hp h
    unfold dget
    induction d with
    | nil => cases hq
    | cons x d ih =>
      rw [List.map_cons, List.nodup_cons] at hnd
      rcases List.mem_cons.mp hq with rfl | hq
      · rw [List.find?_cons_of_pos (by simp)]; rfl
      · rw [List.find?_cons_of_neg (by
          intro z
          have z := of_decide_eq_true z
          exact hnd.1 (z ▸ List.mem_map_of_mem hq))]
        exact ih hq hnd.2
  rw [this]; rfl
theorem pairH3 {ea : α → D} {eb : β → D} {ec : γ → D} {x y : α × β × γ} (h : x = y) (h1 : EqG (ea x.1) (ea x.1)) (h2 : EqG (eb x.2.1) (eb x.2.1)) (h3 : EqG (ec x.2.2) (ec x.2.2)) : Paired EqG [ea x.1, eb x.2.1, ec x.2.2] [ea y.1, eb y.2.1, ec y.2.2] := by
  subst h
  exact .cons h1 (.cons h2 (.cons h3 .nil))
theorem sx_insE {i : Nat} {apos cpos : Pos} (po : PE X o (tVar i)) (hi : ρ[i]? = some (.ow (eL em l))) (hj : EX X ix ρ (.sh (.int 0))) (he : EX X e ρ (.sh (em v))) (hl : l.length < sizeLine) (h : P.nx ((dr ρ).set i (.ow (eL em (v :: l)))))
    (hbase : attributeBase o "insert" X.env (eval o X.env) = eval o X.env := by rfl)
    (hfew : ((backTo cpos (starEach [ix, e] X.env)).all (fun x => !x.1) && (backToKw cpos (keywordEach [] X.env)).all (fun x => x.1.isSome)
      && decide (([ix, e] : List Expr).length + ([] : List Keyword).length + (if ([] : List Keyword).isEmpty then 0 else 1) < 30)) = true := by rfl)
    (hline : (apos.endLine == cpos.line) = true := by rfl) (hst : starEach [ix, e] X.env = (false, eval ix X.env) :: starEach [e] X.env := by rfl) (hst2 : starEach [e] X.env = (false, eval e X.env) :: starEach [] X.env := by rfl) (hplain : (backTo cpos (starEach [e] X.env)).any (·.1) = false := by rfl)
    (hs : swapsWith (.Call (.Attribute o "insert" apos) [ix, e] [] cpos) none pos.line X.env = pure false := by rfl) : SX X W (.Expr (.Call (.Attribute o "insert" apos) [ix, e] [] cpos) pos) ρ P :=
  sx_ins po hi hj he ⟨by decide, by decide⟩ (by rw [List.length_map]; exact hl) (by
    show P.nx ((dr ρ).set i (.ow (.lst ((l.map em).take 0 ++ [em v] ++ (l.map em).drop 0))))
    rw [List.take_zero, List.drop_zero]; exact h) hbase hfew hline hst hst2 hplain hs
theorem sx_insPE {i : Nat} {pn : Option V} {D0 D1 : PV.D} {path : List Nat} [im : Im em] {apos cpos : Pos} (po : PathX X o ρ i path) (hi : ρ[i]? = some (.od pn D0)) (hp : getP D0 path = some (eL em l)) (hj : EX X ix ρ (.sh (.int 0))) (he : EX X e ρ (.sh (em v))) (hl : l.length < sizeLine) (hq : setP D0 path (eL em (v :: l)) = D1) (h : P.nx ((dr ρ).set i (.od pn D1)))
    (hbase : attributeBase o "insert" X.env (eval o X.env) = eval o X.env := by rfl)
    (hfew : ((backTo cpos (starEach [ix, e] X.env)).all (fun x => !x.1) && (backToKw cpos (keywordEach [] X.env)).all (fun x => x.1.isSome)
      && decide (([ix, e] : List Expr).length + ([] : List Keyword).length + (if ([] : List Keyword).isEmpty then 0 else 1) < 30)) = true := by rfl)
    (hline : (apos.endLine == cpos.line) = true := by rfl) (hst : starEach [ix, e] X.env = (false, eval ix X.env) :: starEach [e] X.env := by rfl) (hst2 : starEach [e] X.env = (false, eval e X.env) :: starEach [] X.env := by rfl) (hplain : (backTo cpos (starEach [e] X.env)).any (·.1) = false := by rfl)
    (hs : swapsWith (.Call (.Attribute o "insert" apos) [ix, e] [] cpos) none pos.line X.env = pure false := by rfl) : SX X W (.Expr (.Call (.Attribute o "insert" apos) [ix, e] [] cpos) pos) ρ P :=
  sx_insP po hi hp (im.all l) hj he (im.h v) ⟨by decide, by decide⟩ (by rw [List.length_map]; exact hl) (by
    have q : setP D0 path (.lst ((l.map em).take (0 : Int).toNat ++ [em v] ++ (l.map em).drop (0 : Int).toNat)) = D1 := by
      rw [← hq]
      show setP D0 path (.lst ((l.map em).take 0 ++ [em v] ++ (l.map em).drop 0)) = _
      rw [List.take_zero, List.drop_zero]; rfl
    rw [q]; exact h) hbase hfew hline hst hst2 hplain hs
theorem sx_popPE {i : Nat} {pn : Option V} {D0 D1 : PV.D} {path : List Nat} [im : Im em] {apos cpos : Pos} (po : PathX X o ρ i path) (hi : ρ[i]? = some (.od pn D0)) (hp : getP D0 path = some (eL em l)) (hj : EX X ix ρ (.sh (.int 0))) (hl : 0 < l.length) (hq : setP D0 path (eL em l.tail) = D1) (h : P.nx ((dr ρ).set i (.od pn D1)))
    (hbase : attributeBase o "pop" X.env (eval o X.env) = eval o X.env := by rfl)
    (hfew : ((backTo cpos (starEach [ix] X.env)).all (fun x => !x.1) && (backToKw cpos (keywordEach [] X.env)).all (fun x => x.1.isSome)
      && decide (([ix] : List Expr).length + ([] : List Keyword).length + (if ([] : List Keyword).isEmpty then 0 else 1) < 30)) = true := by rfl)
    (hline : (apos.endLine == cpos.line) = true := by rfl) (hst : starEach [ix] X.env = (false, eval ix X.env) :: starEach [] X.env := by rfl) (hplain : (backTo cpos (starEach [] X.env)).any (·.1) = false := by rfl)
    (hs : swapsWith (.Call (.Attribute o "pop" apos) [ix] [] cpos) none pos.line X.env = pure false := by rfl) : SX X W (.Expr (.Call (.Attribute o "pop" apos) [ix] [] cpos) pos) ρ P :=
  sx_popP (m := 0) po hi hp (im.all l) hj ⟨by decide, by decide⟩ (by
    rw [List.length_map]
    unfold seqIndex?
    simp
    exact List.length_pos_iff.mp hl) (by rw [List.length_map]; exact hl) (by
    have q : setP D0 path (.lst ((l.map em).eraseIdx 0)) = D1 := by
      rw [← hq]
      congr 1
      cases l <;> rfl
    rw [q]; exact h) hbase hfew hline hst hplain hs
theorem tri_eq {t : List α} {x : α × α × α} (h : tri? t = some x) : eTU em t = eP3 em em em x := by
  unfold tri? at h
  split at h
  · cases h; rfl
  · cases h
theorem map_some (l : List α) : eL em l = eL (eO em) (l.map some) := by
  show D.lst _ = D.lst _
  rw [List.map_map]; rfl
theorem cut_whole {ds : List D} {l u : Option Int} (h1 : HT.sIx ds.length 0 l = 0) (h2 : HT.sIx ds.length ds.length u = ds.length) : cutD ds l u = ds := by
  unfold cutD
  rw [h1, h2, List.drop_zero, Nat.sub_zero, List.take_length]
theorem ex_slT {ds : List D} {lo hi : Option Expr} {l u : Option Int} {p2 : Pos} (he : EX X e ρ (.sh (.tup ds))) (hl : OX X lo ρ l) (hh : OX X hi ρ u) : EX X (.Subscript e (.Slice lo hi none p2) pos) ρ (.sh (.tup (cutD ds l u))) := by
  obtain ⟨tl, pl, vl⟩ := hl.ex
  obtain ⟨th, ph, vh⟩ := hh.ex
  refine .of (pe_slice sl_tupA pe_sem pl ph) (Ev.slice he vl vh fun H0 R H x Q s s0 q k => ?_)
  obtain ⟨p, ys, rfl, h1, h2⟩ := Rp.tup' (show Rp X.K R x (.tup ds) from q)
  refine ⟨p, ys, rfl, s.rh.seqT h1, fun hw => ?_, fun _ l nl => ?_⟩
  · rw [h2.len] at hw
    rw [cut_whole hw.1 hw.2] at k
    exact k _ R H s.step (.tup h1 h2)
  · have nr : R l = none := Sm.free s.rh nl
    exact k _ _ _ (s.step.newS nl) (Rp.tup (SqT.of upd_same) (RpA.mono ((Sm.refl R).upd nr) (h2.cut _ _)))
theorem row_cut03 (r : RowT) : cutD (rowL r) none (some 3) = r.cut03.map D.str := by cases r <;> rfl
theorem row_cut13 (r : RowT) : cutD (rowL r) (some 1) (some 3) = r.cut13.map D.str := by cases r <;> rfl
end
section
variable {X : Cx} {ρ : List Sl} {e : Expr} {pos : Pos} {i : Int}
theorem ex_neg (he : EX X e ρ (.sh (.int i))) : EX X (.UnaryOp .USub e pos) ρ (.sh (.int (-i))) :=
  .of (pe_un un_neg pe_sem) fun B R0 R σ H Q s k => he B R0 R σ H _ s fun x R1 H1 t1 q1 => ⟨i, Res.int t1.sub q1 rfl, k _ R1 H1 t1 (Rp.int _)⟩
end
end PV

namespace PV
open PySem PySem.Spec PyProof.Rows L2 SH
abbrev newSet (w : World) : Obj := { cls := .type "set", dict := none, data := .set #[] 0 (.fresh 0 0 (!w.params.followText "set-order")) }
section
variable {P : Program} {w : World} {A : Around} {E : Value → Shared → Prop} {s : Shared}
theorem set_of_listI {l : Addr} {items : Array Value} (ns : List Int) {Q : Value → Shared → Prop} (hh : A.handled = none) (hl : s.heap.IsList l items) (hit : IntsAre items.toList ns) (hb : ns.length + 1 < scanBound)
    (h : ∀ (h' : Heap) (tk c : Nat), SetR w h' s.heap.objs.size (fun j => decide (j ∈ ns)) c → c ≤ ns.length → (∀ b o, s.heap.get? b = some o → h'.get? b = some o) → Q (.ref s.heap.objs.size) { s with heap := h', toks := tk }) :
    wpAny (model P w) A (call (.type "set") [.ref l]) Q E s := by
  have hisz : items.size = ns.length := by
    have q := IntsAre.length hit
    rw [Array.length_toList] at q
    exact q
  obtain ⟨c, tl, hmro⟩ := F.called_set.mro
  have hmade := F.called_set.made
  have hsub := F.called_set.sub
  refine wpAny_call (codeAny_of_tree ?_)
  show wpAny _ _ (callAny (.type "set") _) _ _ _
  refine wpAny_pure ⟨Code.quiet_builtin _ (by decide +kernel), codeAny_builtin F.entry_type_call ?_⟩
  rw [Around.under_plain (weight_type_call_type "set" [.ref l] []) rfl]
  have h1 := F.called_set.notType
  have h2 := F.called_set.canCreate
  have hct := F.typeCall_set_1 (.ref l)
  repeat (any_goals (first | assumption | wp_step))
  refine codeAny_mono (code_set_led1 (.ref l) (E := E) (Q₁ := fun obj s₁ => obj = .ref s.heap.objs.size ∧ s₁ = { s with heap := s.heap.push (newSet w) }) ⟨rfl, rfl⟩) fun r s₁ hr => ?_
  cases r with
  | error e => exact hr
  | ok fl =>
    cases fl with
    | ret obj =>
      obtain ⟨rfl, rfl⟩ := hr
      have hS : (s.heap.push (newSet w)).get? s.heap.objs.size = some (newSet w) := Heap.get?_push_size _ rfl
      have hT : Shared.TypeIs { s with heap := s.heap.push (newSet w) } (.ref s.heap.objs.size) "set" := ⟨_, hS, rfl⟩
      have hli := F.called_set.init.lookup
      have hbi := F.called_set.init.bind (.ref s.heap.objs.size)
      repeat (any_goals (first | assumption | wp_step))
      refine codeAny_mono (codeAny_call_builtin (R := wants (fun r s₂ => r = .none ∧ ∃ h' tk c, s₂ = { s with heap := h', toks := tk } ∧ SetR w h' s.heap.objs.size (fun j => decide (j ∈ ns)) c ∧ c ≤ ns.length ∧
          (∀ b o, s.heap.get? b = some o → h'.get? b = some o)) E) F.called_set.init.plain F.entry_set_init (check_set_init_1 hT ?_)) fun r₂ s₂ hr₂ => ?_
      · obtain ⟨ol, hol, hcl, nl, hdl⟩ := hl
        obtain ⟨ocls, odict, odata, oslots⟩ := ol
        simp only at hcl hdl
        subst hcl; subst hdl
        have hol' : (s.heap.push (newSet w)).get? l = some { cls := .type "list", dict := odict, data := .seq items nl, slots := oslots } := Heap.get?_push_of_some _ hol
        have hsls := F.sub_list_set
        have hslf := F.sub_list_frozenset
        have hne : (Value.type "list" == Value.type "dict") = false := by decide
        have hl1 : (s.heap.push (newSet w)).IsList l items := ⟨_, hol', rfl, nl, rfl⟩
        unfold Builtin.«set.__init__» noKeywords Builtin.Frozenset.updateFrom
        generalize hPI : pyIter = PI
        wp_walk
        subst hPI
        refine wpAny_pyIter_list hl1 ?_
        refine wpAny_bind (wpAny_runValue ?_)
        have hlS : l < s.heap.objs.size := Heap.lt_size hol
        have hh3 : A.in1.in1.in1.handled = none := by simp [hh]
        have hz1 : (s.heap.push (newSet w)).objs.size = s.heap.objs.size + 1 := Heap.size_push ..
        have hneI : l ≠ (s.heap.push (newSet w)).objs.size := by
          rw [Heap.size_push]; exact Nat.ne_of_lt (Nat.lt_succ_of_lt hlS)
        have hSf : s.heap.objs.size ∉ [(s.heap.push (newSet w)).objs.size, l] := by
          rw [Heap.size_push]; simp only [List.mem_cons, List.mem_singleton, List.not_mem_nil, or_false, not_or]
          exact ⟨Nat.ne_of_lt (Nat.lt_succ_self _), Nat.ne_of_gt hlS⟩
        have hval : ∀ (i : Nat) (v : Value), items[i]? = some v → ∃ k t, ns[i]? = some k ∧ v = .int k t := fun i v hv => by
          have hi : i < ns.length := by rw [← hisz]; exact (Array.getElem?_eq_some_iff.mp hv).1
          obtain ⟨t, e⟩ := PyProof.Rows.IntsAre.int_at hit i v (by rw [Array.getElem?_toList]; exact hv)
          refine ⟨ns[i], t, List.getElem?_eq_getElem hi, ?_⟩
          rw [e, List.getD_eq_getElem?_getD, List.getElem?_eq_getElem hi] <;> rfl
        refine set_update_ints ((Walks.list hh3 _ l hneI items).toS) s.heap.objs.size
          hSf ns hisz hb hval (items.size - 0) 0 _ (by omega) (Nat.zero_le _)
          ⟨⟨_, Heap.get?_push_size _ rfl, rfl, rfl⟩, (hl1.push _)⟩ ?hS0 ?hR
        case hS0 =>
          have hget : ((s.heap.push (newSet w)).push { cls := .type "list_iterator", data := .fields #[.ref l, .int 0 0] }).get? s.heap.objs.size
              = some (newSet w) := Heap.get?_push_of_some _ hS
          exact ⟨0, Nat.le_refl 0, setR_new_at hget⟩
        case hR =>
          intro s' c' hm hc' hS'
          obtain ⟨h', g2, d', tk', os'⟩ := s'
          have eg : g2 = s.gens := hm.gens
          have ed : d' = s.drawn := hm.drawn
          have eo : os' = s.os := hm.os
          subst eg; subst ed; subst eo
          show wpAny _ _ _ _ _ _
          refine wpAny_pure ?_
          show wpAny _ _ (ret Value.none) _ _ _
          rw [hisz] at hc'
          refine wpAny_pure ⟨rfl, h', tk', c', rfl, hS', hc', fun b o e => ?_⟩
          have hb0 : b < s.heap.objs.size := Heap.lt_size e
          have hb1 : b ≠ s.heap.objs.size := Nat.ne_of_lt hb0
          have hb2 : b ≠ (s.heap.push (newSet w)).objs.size := by
            rw [Heap.size_push]; exact Nat.ne_of_lt (Nat.lt_succ_of_lt hb0)
          exact hm.heap b o (by simp only [List.mem_cons, List.mem_singleton, List.not_mem_nil, or_false, not_or]; exact ⟨hb1, hb2⟩) (Heap.get?_push_of_some _ (Heap.get?_push_of_some _ e))
      · cases r₂ with
        | error e => exact hr₂
        | ok fl₂ =>
          cases fl₂ with
          | ret r =>
            obtain ⟨rfl, h', tk, c', rfl, hS', hc', hk'⟩ := hr₂
            repeat (any_goals (first | assumption | wp_step))
            exact h _ _ _ hS' hc' hk'
          | _ => exact hr₂.elim
    | _ => exact hr.elim
end
end PV

namespace SH
open PySem
def uniq (l : List Int) : List Int := l.foldr (fun x acc => if x ∈ acc then acc else x :: acc) []
theorem mem_uniq {l : List Int} {k : Int} : k ∈ uniq l ↔ k ∈ l := by
  induction l with
  | nil => exact Iff.rfl
  | cons x l ih =>
    show k ∈ (if x ∈ uniq l then uniq l else x :: uniq l) ↔ _
    by_cases h : x ∈ uniq l
    · rw [if_pos h, ih, List.mem_cons]
      exact ⟨.inr, fun z => z.elim (fun e => ih.mp (by rw [e]; exact h)) id⟩
    · rw [if_neg h, List.mem_cons, List.mem_cons, ih]
theorem nodup_uniq (l : List Int) : (uniq l).Nodup := by
  induction l with
  | nil => exact List.nodup_nil
  | cons x l ih =>
    show (if x ∈ uniq l then uniq l else x :: uniq l).Nodup
    split
    · exact ih
    · exact List.nodup_cons.mpr ⟨by assumption, ih⟩
def setI (l : List Int) : List Int := sortI (uniq l)
theorem mem_setI {l : List Int} {k : Int} : k ∈ setI l ↔ k ∈ l := (sortI_perm _).mem_iff.trans mem_uniq
theorem setI_pw (l : List Int) : (setI l).Pairwise (· < ·) := by
  have h1 := sortI_pw (uniq l)
  have h2 : (setI l).Nodup := (sortI_perm _).nodup_iff.mpr (nodup_uniq l)
  exact (h1.and h2).imp fun ⟨a, b⟩ => by omega
theorem rising_uniq {a b : List Int} (h1 : a.Pairwise (· < ·)) (h2 : b.Pairwise (· < ·)) (h : ∀ k, k ∈ a ↔ k ∈ b) : a = b := by
  have n1 : a.Nodup := h1.imp fun h e => by omega
  have n2 : b.Nodup := h2.imp fun h e => by omega
  have p : a.Perm b := (List.perm_ext_iff_of_nodup n1 n2).mpr h
  exact List.Perm.eq_of_pairwise (le := fun a b : Int => a ≤ b) (fun a b _ _ h1 h2 => by omega) (h1.imp fun h => by omega) (h2.imp fun h => by omega) p
def dcPO {α β κ : Type} [DecidableEq κ] (p : α → Option Bool) (k : α → Option κ) (v : α → Option β) : List α → List (κ × β) → Option (List (κ × β)) :=
  foldO fun x d => (p x).bind fun b => if b = true then (k x).bind fun y => (v x).bind fun z => chk (d.length < sizeLine) (some (dput d y z)) else some d
end SH
namespace PV
open PySem PySem.Spec PyProof.Rows L2 SH
def tSortSet (K : PySem.W.Frag) (ta : TE) : TE := fun σ H Q => ta σ H fun x H1 => ∃ (l : Addr) (ns : List Int), x = .ref l ∧ SqL K H1 l (ns.map V.int) ∧ ns.length < 64 ∧
  ∀ (ks : List Int) (p : Addr), ks.Pairwise (· < ·) → (∀ k : Int, k ∈ ks ↔ k ∈ ns) → H1 p = none → Q (.ref p) (upd H1 p (.lst (ks.map V.int)))
theorem pe_sortSet {X : Cx} {a : Expr} {ta : TE} {p p2 q pos : Pos} (hg : Gl X "sorted") (hm : X.mg "sorted" = none) (hg2 : Gl X "set") (hm2 : X.mg "set" = none) (ha : PE X a ta) (hc : X.calm = true)
    (na : starEach [a] X.env = (false, eval a X.env) :: starEach [] X.env := by rfl) : PE X (.Call (.Name "sorted" p) [.Call (.Name "set" p2) [a] [] q] [] pos) (tSortSet X.K ta) := by
  refine ⟨fun pins s σ H Q I h => ?_⟩
  refine Call_ (ld_blt I hg hm boot_sorted ?_)
  refine PyProof.Rows.callWith_builtin1 (PyProof.Rows.args_cons ?_ rfl) rfl rfl
  refine Call_ (ld_blt I hg2 hm2 boot_set ?_)
  refine PyProof.Rows.callWith_type1 (PyProof.Rows.args_cons (thn (ha.run pins s σ H _ I h) fun v s1 ⟨x, H1, I1, r1, q1⟩ => PyProof.Rows.args_nil ?_) na) na rfl
  obtain ⟨l, ns, rfl, hq, hl, q1⟩ := q1
  cases r1
  obtain ⟨its, r, pl, hz⟩ := I1.list hq
  refine set_of_listI ns (I1.ok.hd hc) pl.isList (by simpa using ints_of_vals r) (by unfold scanBound; omega) fun h' tk c R1 hcn k => ?_
  refine PyProof.Rows.args_nil ?_
  have I2 : Inv X pins σ H1 { s1 with heap := h', toks := tk } := I1.kept fun b o e => k b o e
  refine sorted_set R1 (I2.ok.hd hc) (by omega) fun s' p out c2 ks k2 g o hp hg2 hi hs hm3 hln => ?_
  have hlen : (ks.map V.int).length ≤ sizeLine := by rw [List.length_map, hln, sizeLine_eq]; omega
  have hn : H1 p = none := I2.hok.fresh hp
  have J : Inv X pins σ (upd H1 p (.lst (ks.map V.int))) { ({ s1 with heap := h', toks := tk } : Shared) with heap := s'.heap, gens := s'.gens, drawn := s'.drawn, toks := s'.toks } :=
    Inv.call (s := { s1 with heap := h', toks := tk }) I2 (ch := []) (Un.laid k2 hp hn) (I2.hok.laid k2 hp ⟨hlen, out.toList, c2, vals_of_ints hi, hg2⟩) (by rw [g]; exact I2.bare) (fun _ z => nomatch z)
  have e : s' = { s1 with heap := s'.heap, gens := s'.gens, drawn := s'.drawn, toks := s'.toks } := by
    cases s'
    cases s1
    cases o
    rfl
  rw [e]
  exact ⟨.ref p, _, J, rfl, q1 ks p hs (fun j => by rw [hm3 j, decide_eq_true_eq]) hn⟩
theorem setI_of {ks l : List Int} (h : ks.Pairwise (· < ·)) (hm : ∀ k, k ∈ ks ↔ k ∈ l) : ks = setI l := rising_uniq h (setI_pw l) fun k => (hm k).trans mem_setI.symm
section
variable {X : Cx} {ρ : List Sl} {a e o : Expr} {pos p p2 q : Pos} {r : Rs}
theorem ex_sortSet {l : List Int} (hg : Gl X "sorted") (hm : X.mg "sorted" = none) (hg2 : Gl X "set") (hm2 : X.mg "set" = none) (ha : EX X a ρ r) (e1 : r.dat = eL D.int l) (hl : l.length < 64) (hc : X.calm = true)
    (na : starEach [a] X.env = (false, eval a X.env) :: starEach [] X.env := by rfl) : EX X (.Call (.Name "sorted" p) [.Call (.Name "set" p2) [a] [] q] [] pos) ρ (.nw (eL D.int (setI l))) :=
  .of (pe_sortSet hg hm hg2 hm2 pe_sem hc na) fun B R0 R σ H Q s k => ha B R0 R σ H _ s fun x R1 H1 t1 q1 => by
    have h3 := q1.rp t1.sub
    rw [e1] at h3
    obtain ⟨b, ys, rfl, h1, h2⟩ := h3.lst'
    refine ⟨b, l, rfl, SqL.of (by rw [← RpA.ints h2]; exact h1), hl, fun ks p hs hm nl => ?_⟩
    rw [← setI_of hs hm] at k
    exact new_lst t1.sub t1.hh nl (RpA.of_ints _) fun v R' H' t q => k v R' H' (t1.trans t) (q.back t1.hh)
end
section
variable {X : Cx} {W : L2.WX} {ρ : List Sl} {pos : Pos} {P : Post} {r : Rs} {kx vx tg iter : Expr} {ifs : List Expr} {scope : Scope} {own : List (Str × Nat)} {g : TG} {ds : List D} {mk : D → Rs} {vs : List Nat} {wi : TI}
variable {α β κ : Type} [DecidableEq κ] {l : List α} {emb : α → D} {pO : α → Option Bool} {kO : α → Option κ} {vO : α → Option β} {kk : κ → Key} {eb : β → D} {out : List (κ × β)}
theorem ev_dcPK (inj : ∀ a b, kk a = kk b → a = b) (hw : ItC X tg iter ρ (l.map emb) mk wi) (hb : dcPO pO kO vO l [] = some out) (gs : GSet g vs)
    (ht : ∀ a ∈ l, ∀ c, pO a = some c → TurnX X scope g vs ifs ρ (mk (emb a)) c fun ρ2 => ∀ k, kO a = some k → EXB X scope kx (.sh (keyD (kk k))) ρ2 ∧ ∀ v, vO a = some v → EXB X scope vx (.sh (eb v)) ρ2) :
    Ev X.K (tDc wi g (tBlkT X scope ifs) (tBlkE X scope kx) (tBlkE X scope vx) vs) ρ (.nw (eDK kk eb out)) := fun B R0 R σ H Q s k => by
  refine hw.2 B R0 R σ H _ s fun J R1 H1 t1 w Dd hD => ?_
  obtain ⟨G, Y, wk, hG, hY⟩ := w.ex
  have s1 := s.step t1
  have ln : (l.map emb).length = l.length := List.length_map ..
  refine dc_it wk (fun i H => ∃ acc, dcPO pO kO vO (l.drop i) acc = some out ∧ ∃ R kvs, Step R1 H1 R H ∧ R Dd = none ∧ H Dd = some (.dK kvs) ∧ RpK X.K R kvs (acc.map fun p => (kk p.1, eb p.2)))
    ⟨[], hb, R1, [], s1.sub.step.new hD (fun _ z => (nomatch z)) fun _ _ z => (nomatch z), Sm.free s1.sub.rh hD, upd_same, .nil⟩ (fun i H _ ⟨acc, e, R2, kvs, t2, _⟩ => hG R2 H t2) (fun i x H H' hi ⟨acc, e, R2, kvs, t2, nr, hd, ra⟩ y => ?_) fun H ⟨acc, e, R2, kvs, t2, nr, hd, ra⟩ => ?_
  · have hi' : i < l.length := by rw [← ln]; exact hi
    have ha := List.getElem?_eq_getElem hi'
    have hda : (l.map emb)[i]? = some (emb l[i]) := by rw [List.getElem?_map, ha]; rfl
    obtain ⟨R3, t3, r3⟩ := hY i _ hda x R2 H H' t2 y
    obtain ⟨acc', e1, e2⟩ := foldO_step (s0 := acc) ha e
    obtain ⟨c, ec, e1⟩ := bO e1
    obtain ⟨ρ2, gv, tt, te⟩ := ht _ (List.getElem_mem hi') c ec
    have s3 := s1.step (t2.trans t3)
    have sw : St X.K B R0 R3 (wipeS ρ vs) (wipe σ vs) H' := s3.wipe vs
    have q := gv B R0 R3 (wipe σ vs) H' x (fun σ2 H2 => H2 = H' ∧ St X.K B R0 R3 ρ2 σ2 H') sw r3 fun σ2 s2 => ⟨rfl, s2⟩
    refine gs x _ H' _ _ q fun σ2 H2 o2 ⟨e2', s2⟩ => ?_
    subst e2'
    refine ⟨by rw [wipe_only o2, wipe_wipe], fun s H0 C cl fp => tt s H0 C cl fp B R0 R3 σ2 H2 _ s2 fun R4 H4 t4 => ?_⟩
    cases c with
    | false =>
      rw [if_neg Bool.false_ne_true] at e1 ⊢
      cases e1
      have tt4 := t3.trans t4
      have nr4 : R4 Dd = none := tt4.free nr (by rw [hd]; intro z; cases z)
      exact ⟨_, e2, R4, kvs, t2.trans tt4, nr4, tt4.hh.k _ _ hd trivial, RpK.mono tt4.rr ra⟩
    | true =>
      rw [if_pos rfl] at e1 ⊢
      obtain ⟨k1, ek, e1⟩ := bO e1
      obtain ⟨v1, ev, e1⟩ := bO e1
      obtain ⟨hsz, e1⟩ := chk_e e1
      cases e1
      obtain ⟨hk, hv⟩ := te rfl k1 ek
      refine fun s H0 C cl fp => hk s H0 C cl fp B R0 R4 σ2 H4 _ (s2.step t4) fun u R5 H5 t5 q5 => ?_
      refine fun s H0 C cl fp => hv v1 ev s H0 C cl fp B R0 R5 σ2 H5 _ ((s2.step t4).step t5) fun z R6 H6 t6 q6 => ?_
      have tt6 := ((t3.trans t4).trans t5).trans t6
      have hd6 := tt6.hh.k _ _ hd trivial
      have nr6 : R6 Dd = none := tt6.free nr (by rw [hd]; intro z; cases z)
      have ra6 := RpK.mono tt6.rr ra
      refine ⟨kvs, kk k1, keyV q5, hd6, by rw [ra.len, List.length_map]; exact hsz, _, e2, R6, putK kvs (kk k1) z, (t2.trans tt6).putNew hD nr6 (fun _ z => (nomatch z)) (fun _ _ z => (nomatch z)) (fun _ z => by rw [hd6] at z; cases z), nr6, upd_same, ?_⟩
      rw [← kmap_put inj]
      exact ra6.put q6
  · rw [ln, List.drop_length] at e
    cases e
    exact k _ R2 H (t1.trans t2) ⟨Dd, rfl, Sm.free t1.hh hD, nr, _, hd, ra⟩
theorem ex_dcPM (hi : ∃ wi, ItC X tg iter ρ ds mk wi) (hc : X.calm = true) (hN : X.N.Nodup) (ok : BlkOk X.N X.env.scope scope own)
    (hg : ∀ (s : Shared) (H : Hp) (C : Addr) (cl : List (Str × Addr)) (fp : List Addr), PG (X.blk s H scope (compEnvC scope cl C X.env) fp) tg g) (h : ∀ wi, ItC X tg iter ρ ds mk wi → Ev X.K (tDc wi g (tBlkT X scope ifs) (tBlkE X scope kx) (tBlkE X scope vx) (own.map (·.2))) ρ r)
    (hs : ∀ x, foldedSetIterable iter X.env x = pure x := by intro _; rfl) : EX X (.DictComp kx vx [⟨tg, iter, ifs, 0⟩] scope pos) ρ r := by
  obtain ⟨wi, itw⟩ := hi
  exact .of (pe_dc hc hN itw.1 ok hg ptB peB peB hs) (h wi itw)
theorem sx_setDcPM {i : Nat} {y : Str} {py spos : Pos} (hi : ∃ wi, ItC X tg iter ρ ds mk wi) (hc : X.calm = true) (hN : X.N.Nodup) (hy : X.N[i]? = some y) (hyl : X.env.scope.names.lookup y = some .local)
    (hsw : swapsWith (.DictComp kx vx [⟨tg, iter, ifs, 0⟩] scope pos) (some (.Name y py)) spos.line X.env = pure true) (ok : BlkOk X.N X.env.scope scope own)
    (hg : ∀ (s : Shared) (H : Hp) (C : Addr) (cl : List (Str × Addr)) (fp : List Addr), PG (X.blk s H scope (compEnvC scope cl C X.env) fp) tg g) (h : ∀ wi, ItC X tg iter ρ ds mk wi → Ev X.K (tDc wi g (tBlkT X scope ifs) (tBlkE X scope kx) (tBlkE X scope vx) (own.map (·.2))) ρ r) (hP : P.nx (ρ.set i r.sl))
    (hs : ∀ x, foldedSetIterable iter X.env x = pure x := by intro _; rfl) : SX X W (.Assign [.Name y py] (.DictComp kx vx [⟨tg, iter, ifs, 0⟩] scope pos) spos) ρ P := by
  obtain ⟨wi, itw⟩ := hi
  exact .of (ps_setDc hc hN hy hyl hsw itw.1 ok hg ptB peB peB hs) fun B R0 R σ H D s n => (h wi itw) B R0 R σ H _ s fun v R' H' t q => n.nx _ R' _ H' hP (s.set t q i)
end
end PV
namespace PV
open PySem PySem.Spec PyProof.Rows L2 SH
section
variable {X : Cx} {W : L2.WX} {ρ ρ' : List Sl} {pos : Pos} {P : Post} {a b o e : Expr} {α : Type} {em : α → D} {l : List α} {v : α}
theorem ex_listO {i : Nat} {ds : List D} {p q : Pos} (po : PE X o (tVar i)) (hi : ρ[i]? = some (.ow (.lst ds))) (hg : Gl X "list") (hm : X.mg "list" = none) (hv : bootBuiltins "list" = some (.type "list"))
    (hst : starEach [o] X.env = (false, eval o X.env) :: starEach [] X.env := by rfl) (hpl : (backTo q (starEach [] X.env)).any (·.1) = false := by rfl) : EX X (.Call (.Name "list" p) [o] [] q) ρ (.nw (.lst ds)) :=
  .of (pe_callTy call_list_of hg hm hv (pa_cons po pa_nil hst) (by decide) (by decide) hst hpl) fun B R0 R σ H Q s k => by
    obtain ⟨p, xs, ep, hp, hx⟩ := s.own hi
    refine ⟨.ref p, ep, ?_⟩
    exact ⟨p, xs, rfl, .inl (SqL.of hp), fun l nl => new_lst s.sub (Sm.refl H) nl hx k⟩
theorem ex_ixO {i : Nat} {j : Int} {ds : List D} {d : D} (po : PE X a (tVar i)) (hi : ρ[i]? = some (.ow (.lst ds))) (hb : EX X b ρ (.sh (.int j))) (h : atI ds j = some d) (hs : PlainIx b := by exact fun _ _ => rfl) : EX X (.Subscript a b pos) ρ (.sh d) :=
  .of (pe_ix ix_list po pe_sem hs) fun B R0 R σ H Q s k => by
    obtain ⟨p, xs, ep, hp, hx⟩ := s.own hi
    refine ⟨.ref p, ep, ?_⟩
    refine hb B R0 R σ H _ s fun y R2 H2 t2 q2 => ?_
    obtain ⟨v, e1, e2⟩ := RpA.atI (RpA.mono t2.rr hx) h
    exact ⟨p, xs, j, v, rfl, is_int _ _ q2, SqL.of (t2.hh.k _ _ hp trivial), e1, k v R2 H2 t2 e2⟩
theorem ex_ixOE {i : Nat} {j : Int} (po : PE X a (tVar i)) (hi : ρ[i]? = some (.ow (eL em l))) (hb : EX X b ρ (.sh (.int j))) (h : atI l j = some v) (hs : PlainIx b := by exact fun _ _ => rfl) : EX X (.Subscript a b pos) ρ (.sh (em v)) := ex_ixO po hi hb (at_map h) hs
theorem exs_ixE {j : Int} (ha : EX X a ρ (.sh (eL em l))) (hb : EXS X b ρ (.int j) ρ') (h : atI l j = some v) (hs : PlainIx b := by exact fun _ _ => rfl) : EXS X (.Subscript a b pos) ρ (em v) ρ' := exs_ixL ha hb (at_map h) hs
end
end PV
namespace PV
open PySem PySem.Spec PyProof.Rows L2 SH
section
variable {X : Cx} {W : L2.WX} {ρ : List Sl} {P : Post} {sts : List Stmt}
theorem SXs.freezeD {i : Nat} {d : PV.D} (hi : ρ[i]? = some (.od none d)) (h : SXs X W sts (ρ.set i (.sh d)) P) : SXs X W sts ρ P := fun B R0 R σ H D s n => by
  obtain ⟨φ, fp⟩ := s.fps
  obtain ⟨hil, _⟩ := List.getElem?_eq_some_iff.mp hi
  obtain ⟨v, ev⟩ : ∃ v, σ[i]? = some v := by
    have := s.len
    exact ⟨σ[i]'(by omega), List.getElem?_eq_getElem (by omega)⟩
  obtain ⟨x, ex, _, w2, k3⟩ := fp.sl i _ _ hi ev
  have nn : ∀ a ∈ φ i, R a = none := fun a ha => (k3 a ha).2
  have sm : Sm R (shr R H (φ i)) := shr_sm nn
  have rh : Sm (shr R H (φ i)) H := by
    refine ⟨fun b x e nt => ?_, fun b ps e => ?_⟩
    · by_cases z : b ∈ φ i
      · rw [shr_in z] at e; exact e
      · rw [shr_out z] at e; exact s.stp.rh.k b x e nt
    · by_cases z : b ∈ φ i
      · rw [shr_in z] at e; exact ⟨ps, e, id⟩
      · rw [shr_out z] at e; exact s.stp.rh.t b ps e
  have stp : Step R0 B (shr R H (φ i)) H := ⟨s.stp.rr.trans sm, rh, s.stp.hh, fun a h1 h2 => by
    by_cases z : a ∈ φ i
    · exact (k3 a z).1
    · rw [shr_out z] at h2; exact s.stp.nw a h1 h2, fun a xs e => sm.k _ _ (s.stp.tp a xs e) trivial, fun a u xs e => sm.k _ _ (s.stp.tf a u xs e) trivial, s.stp.cd, fun a φ e => sm.k _ _ (s.stp.te a φ e) trivial⟩
  refine h B R0 (shr R H (φ i)) σ H D ⟨stp, s.tb, by rw [List.length_set]; exact s.len, fun j => if j = i then [] else φ j, fun j t v e1 e2 => ?_, fun j hj => ?_, fun j k q jk a b => ?_⟩ n
  · rw [List.getElem?_set] at e1
    by_cases z : i = j
    · subst z
      rw [if_pos rfl, if_pos hil] at e1
      cases e1
      rw [ev] at e2
      cases e2
      rw [if_pos rfl]
      exact ⟨rfl, x, ex, Ow.shr nn w2 fun _ z => z⟩
    · rw [if_neg z] at e1
      rw [if_neg fun q => z q.symm]
      have q := fp.sl j t v e1 e2
      have np : ∀ a ∈ φ j, a ∉ φ i := fun a ha e => fp.df i j a z e ha
      cases t with
      | no => exact q
      | sh d => obtain ⟨f, x, e, r⟩ := q; exact ⟨f, x, e, Rp.mono sm r⟩
      | al d => exact q
      | ow d =>
        obtain ⟨p2, e, f2, b2, r2, o2, h2, od2⟩ := q
        exact ⟨p2, e, f2, b2, by rw [shr_out (np p2 (by rw [f2]; exact List.mem_cons_self))]; exact r2, o2, h2, od2.mono sm⟩
      | od pn d =>
        obtain ⟨x, e, pq, w2, k3⟩ := q
        exact ⟨x, e, pq, Ow.mono sm w2 fun _ _ _ _ z => z, fun a ha => ⟨(k3 a ha).1, by rw [shr_out (np a ha)]; exact (k3 a ha).2⟩⟩
  · rw [List.length_set] at hj
    rw [if_neg (by omega)]
    exact fp.out j hj
  · have a : q ∈ (if j = i then [] else φ j) := a
    have b : q ∈ (if k = i then [] else φ k) := b
    split at a
    · cases a
    · split at b
      · cases b
      · exact fp.df j k q jk a b
end
end PV
namespace PV
open PySem PySem.Spec PyProof.Rows L2 SH
section
variable {X : Cx} {W : L2.WX} {ρ : List Sl} {P : Post} {o ix : Expr} {pos : Pos} {α : Type}
variable {κ : Type} [DecidableEq κ] {kk : κ → Key} {em : α → D} {d : List (κ × α)} {k : κ} {v x : α}
theorem sx_dputKPE {i : Nat} {pn : Option V} {D0 D1 : D} {path : List Nat} {val : Expr} {p' : Pos} (inj : ∀ a b, kk a = kk b → a = b) [im : Im em] (hu : X.A.units + 1 < cLine) (po : PathX X o ρ i path) (hi : ρ[i]? = some (.od pn D0)) (hd : getP D0 path = some (eDK kk em d)) (hv : EX X val ρ (.sh (em v))) (hk : EX X ix ρ (.sh (keyD (kk k)))) (hl : d.length < sizeLine)
    (hq : setP D0 path (eDK kk em (dput d k v)) = D1) (h : P.nx ((dr ρ).set i (.od pn D1)))
    (hs : swapsWith val (some (.Subscript o ix p')) pos.line X.env = pure false := by rfl) : SX X W (.Assign [.Subscript o ix p'] val pos) ρ P :=
  sx_dputKP inj hu po hi hd hv hk hl (by rw [hq]; exact h) hs
end
end PV

namespace PV
open PySem PySem.Spec PyProof.Rows L2 SH
def EmD (o : HO) : Prop := o = .dK [] ∨ o = .dT []
theorem EmD.ok {P : Program} {w : World} {H : Hp} {o : HO} (e : EmD o) (h : Heap) (hb : sysModules < h.objs.size) : ObjOk P w H (h.push { cls := .type "dict", data := .dict #[] }) h.objs.size o := by
  rcases e with rfl | rfl
  · exact dk_empty h hb
  · exact dt_empty h hb
section
variable {X : Cx} {pins : List (Addr × Obj)} {σ : L2.St} {H : Hp} {s : Shared}
theorem put_any {H' : Hp} {Dd : Addr} {y v : V} {u r : Value} {Er : Value → Shared → Prop} {Q : Unit → Shared → Prop} (room : X.A.units + 1 < cLine) (inv : Inv X pins σ H s) (g : DPut H Dd y v H') (hy : RelV y u) (hv : RelV v r) (k : ∀ s', Inv X pins σ H' s' → Q () s') :
    wpAny (model X.prog X.w) X.A (dictSet Dd u r) Q Er s := by
  rcases g with ⟨kvs, ky, eD, rfl, hz, rfl⟩ | ⟨kvs, ky, b, eD, rfl, eb, hz, rfl⟩
  · exact d_dictSet inv eD hz hy hv k
  · cases (show u = Value.ref b from hy)
    obtain ⟨zz, nsys, xs, rl, dd⟩ := L2.dt_of inv.hok eD
    have hxs : xs.length ≤ sizeLine := by rw [← Paired.length rl]; exact zz
    have hnew : (putK kvs ky v).length ≤ sizeLine := by
      have := length_putK kvs ky v
      omega
    refine wpAny_dictSet_heap (hsz := hxs) (show (tupleKind _).room X.A from by
      show X.A.units < cLine
      omega) (key_of inv.hok eb) dd fun h2 d2 sb => k _ ?_
    obtain ⟨ob, ents, ep, g1, g2, g3, g4, _, g5⟩ := d2
    refine d_write inv (by rw [eD]; exact True.intro) sb ⟨ob, g1⟩ ⟨hnew, nsys, _, (rl.put ky eb hv).keeps fun c ys ec => ?_, ob, ents, ep, g1, g2, g3, g4, g5⟩
    rw [upd_ne (ne_of ec eD (fun z => nomatch z))]
    exact ec
end

section
variable {X : Cx}
def tDg (e0 : HO) (wi : TI) (g : TG) (tt : TT) (tk tv : TE) (vs : List Nat) : TE := fun σ H Q => wi σ H fun J H1 => ∀ Dd, H1 Dd = none →
  ∃ Wm : Nat → Nat → Hp → Prop, (∃ m, Wm 0 m (upd H1 Dd e0)) ∧ ∀ i m H, Wm i m H → (J.stop i H ∧ Q (.ref Dd) H) ∨
    (J.go i H ∧ ∃ Nx : Hp → Prop, (∀ Ha, Nx Ha → ∃ m', m' < m ∧ Wm (i + 1) m' Ha) ∧ ∀ x Ha, J.yld i H x Ha → g x (wipe σ vs) Ha fun σ2 H2 =>
      wipe σ2 vs = wipe σ vs ∧ tt σ2 H2 fun b H3 => if b = true then tk σ2 H3 fun y H4 => tv σ2 H4 fun z H5 => ∃ H6, DPut H5 Dd y z H6 ∧ Nx H6 else Nx H3)
abbrev Blks (X : Cx) (scope : Scope) (T : Cx → Prop) : Prop := ∀ (s : Shared) (H : Hp) (C : Addr) (cl : List (Str × Addr)) (fp : List Addr), T (X.blk s H scope (compEnvC scope cl C X.env) fp)
structure DgAt (X : Cx) (scope : Scope) (own : List (Str × Nat)) (pins : List (Addr × Obj)) (σ : L2.St) (Dd : Addr) (H2 : Hp) (e0 : HO) (fp : List Addr) (tn : Nat → Heap → Prop) (s3 s4 : Shared) (ce : Env) (H3 : Hp) : Prop where
  e3 : H3 = upd H2 Dd e0
  I3 : Inv X pins σ H3 s3
  I4 : Inv (X.blk s3 H3 scope ce fp) [] (wipe σ (own.map (·.2))) H3 s4
  cL : ce.locals = s3.heap.objs.size
  nfp : ∀ b ∈ fp, H3 b = none
  far : ∀ b ∈ fp, FpOk X pins H3 b ∧ b < s3.heap.objs.size
  st : tn 0 s4.heap
theorem DgAt.stat {scope : Scope} {own : List (Str × Nat)} {pins : List (Addr × Obj)} {σ : L2.St} {Dd : Addr} {H2 H3 : Hp} {e0 : HO} {fp : List Addr} {tn : Nat → Heap → Prop} {s3 s4 : Shared} {ce : Env} (_ : DgAt X scope own pins σ Dd H2 e0 fp tn s3 s4 ce H3)
    {σa : L2.St} {Ha : Hp} {sa : Shared} (Ia : Inv (X.blk s3 H3 scope ce fp) [] σa Ha sa) (nn : ∀ b ∈ fp, Ha b = none) (b : Addr) (hb : b ∈ fp) : FpOk (X.blk s3 H3 scope ce fp) [] Ha b :=
  ⟨nn b hb, (Ia.ok.exf b hb).1, Ia.ok.exfs b hb, .inl hb, fun x c ec => (Ia.ok.exf b hb).2 x c ec, fun p hp => absurd (show p ∈ ([] : List (Addr × Obj)) ++ [] from hp) (by simp)⟩
theorem DgAt.leave {scope : Scope} {own : List (Str × Nat)} {pins : List (Addr × Obj)} {σ : L2.St} {Dd : Addr} {H2 H3 : Hp} {e0 : HO} {fp : List Addr} {tn : Nat → Heap → Prop} {s3 s4 : Shared} {ce : Env} (d : DgAt X scope own pins σ Dd H2 e0 fp tn s3 s4 ce H3)
    {σa : L2.St} {Ha : Hp} {sa : Shared} (Ia : Inv (X.blk s3 H3 scope ce fp) [] σa Ha sa) : ∃ m, Inv X pins σ Ha sa ∧ sa.heap.Ns s3.heap.objs.size m ∧ FpOk X pins Ha s3.heap.objs.size := by
  have Ib : Inv X pins σ Ha sa := d.I3.call' (ch := fp) Ia.os Ia.base Ia.hok Ia.bare fun b hb => let z := (d.far b hb).1; ⟨z.2.2.2.1, z.2.1, z.2.2.2.2.1, z.2.2.2.2.2⟩
  have free : Ha ce.locals = none := Ia.free
  obtain ⟨m, ns, _⟩ := Ia.loc
  have ns : sa.heap.Ns ce.locals m := ns
  rw [d.cL] at free ns
  exact ⟨m, Ib, ns, d.I3.fpOk (Nat.le_refl _) free⟩
end
section
variable {X : Cx} {pins : List (Addr × Obj)} {s : Shared} {σ : L2.St} {H : Hp} {kx vx tg iter : Expr} {ifs : List Expr} {rest : List Comprehension} {scope : Scope} {own : List (Str × Nat)} {pos pos' : Pos} {wi : TI} {e0 : HO} {use : Option (Value → Sem Unit)} {Qf : Value → Shared → Prop} {Rw : It → Hp → Prop}
theorem dg_enter (hN : X.N.Nodup) (I : Inv X pins σ H s) (hi : PI X tg iter wi) (ok : BlkOk X.N X.env.scope scope own) (em : EmD e0) (hs : ∀ x, foldedSetIterable iter X.env x = pure x) (hw : wi σ H Rw)
    (loop : ∀ (it : Addr) (fp : List Addr) (tn : Nat → Heap → Prop) (J : It) (H2 H3 : Hp) (Dd : Addr) (s3 s4 : Shared) (cl : List (Str × Addr)), DgAt X scope own pins σ Dd H2 e0 fp tn s3 s4 (compEnvC scope cl s3.heap.objs.size X.env) H3 → H2 Dd = none → Turn X.prog X.w X.K tg J fp it tn → Rw J H2 →
      codeAny (model X.prog X.w) X.A (.compLoop (.DictComp kx vx (⟨tg, iter, ifs, 0⟩ :: rest) scope pos) 0 (.ref it) (.ref Dd) (compEnvC scope cl s3.heap.objs.size X.env)) (compPost (model X.prog X.w) X.A X.xe use Qf (.ref Dd) s3.heap.objs.size) s4) :
    wpAny (model X.prog X.w) X.A (comprehension (.DictComp kx vx (⟨tg, iter, ifs, 0⟩ :: rest) scope pos) scope X.env pos' newDict false (eval iter X.env) use) Qf X.xe s := by
  have cells : ∀ y ∈ scope.names, y.2 = .free → ∃ c, X.env.cells.lookup y.1 = some c := fun y hy ey => (ok.free y hy ey).elim (fun z => I.ok.has _ (.inl z)) fun z => I.ok.has _ (.inr z)
  refine wpAny_comprehension_free (use := use) rfl hs (closure_ok cells) ok.kind (fun y hy ey => by rw [ok.uniq y hy, ey]) (thn (hi.run pins s σ H _ I hw) fun xv s1 h1 => thn h1 fun itv s2 h2 => ?_)
  obtain ⟨it, fp, tn, J, H2, rfl, I2, T, st2, f2, q⟩ := h2
  refine wpAny_newObj_type (newEnv_comp ?_)
  have n2 : H2 s2.heap.objs.size = none := I2.hok.fresh (Nat.le_refl _)
  have I3 : Inv X pins σ (upd H2 s2.heap.objs.size e0) { s2 with heap := s2.heap.push { cls := .type "dict", data := .dict #[] } } := I2.laid (t' := s2.toks) (fun b o e => Heap.get?_push_of_some _ e) (Nat.le_refl _) (em.ok s2.heap I2.big)
  have far : ∀ b ∈ fp, FpOk X pins (upd H2 s2.heap.objs.size e0) b ∧ b < (s2.heap.push { cls := .type "dict", data := .dict #[] }).objs.size := fun b hb => by
    obtain ⟨ob, eb, _⟩ := T.obj _ _ st2 b hb
    have lt := Heap.lt_size eb
    refine ⟨⟨?_, (f2 b hb).2⟩, by rw [Heap.size_push]; exact Nat.lt_succ_of_lt lt⟩
    rw [upd_ne (Nat.ne_of_lt lt)]
    exact (f2 b hb).1
  have st3 : tn 0 (s2.heap.push { cls := .type "dict", data := .dict #[] }) := T.keep _ _ _ st2 fun b _ o e => Heap.get?_push_of_some _ e
  have I4 := block_start I3 ok hN far
  generalize hs3 : ({ s2 with heap := s2.heap.push { cls := .type "dict", data := .dict #[] } } : Shared) = s3 at I3 I4
  have h3 : s2.heap.push { cls := .type "dict", data := .dict #[] } = s3.heap := by rw [← hs3]
  rw [h3] at far st3
  have st4 : tn 0 (pushCells (s3.heap.push { cls := .type "dict", data := .dict #[] }) scope.names) := T.keep _ _ _ st3 fun b _ o e => pushCells_keeps _ _ _ _ (Heap.get?_push_of_some _ e)
  have lp := loop it fp tn J H2 _ s2.heap.objs.size s3 { s3 with heap := pushCells (s3.heap.push { cls := .type "dict", data := .dict #[] }) scope.names } _ ⟨rfl, I3, I4, rfl, fun b hb => (far b hb).1.1, far, st4⟩ n2 T q
  exact codeAny_compStart_dict lp (T.self X.A 0 _ _ _ st4 lp)
end
section
variable {X : Cx} {pins : List (Addr × Obj)} {s : Shared} {σ : L2.St} {H : Hp} {kx vx tg iter : Expr} {ifs : List Expr} {scope : Scope} {own : List (Str × Nat)} {pos pos' : Pos} {wi : TI} {g : TG} {tt : TT} {tk tv : TE} {e0 : HO} {use : Option (Value → Sem Unit)} {Qf : Value → Shared → Prop} {Q : VK}
theorem dg_core (hc : X.calm = true) (room : X.A.units + 1 < cLine) (hN : X.N.Nodup) (I : Inv X pins σ H s) (hi : PI X tg iter wi) (ok : BlkOk X.N X.env.scope scope own) (em : EmD e0)
    (hg : Blks X scope fun Y => PG Y tg g) (ht : Blks X scope fun Y => PTs Y ifs tt) (hk : Blks X scope fun Y => PE Y kx tk) (hv : Blks X scope fun Y => PE Y vx tv)
    (hs : ∀ x, foldedSetIterable iter X.env x = pure x) (hw : tDg e0 wi g tt tk tv (own.map (·.2)) σ H Q)
    (fin : ∀ Dd C sf m Hf, Inv X pins σ Hf sf → Q (.ref Dd) Hf → sf.heap.Ns C m → FpOk X pins Hf C → compPost (model X.prog X.w) X.A X.xe use Qf (.ref Dd) C (.ok .next) sf) :
    wpAny (model X.prog X.w) X.A (comprehension (.DictComp kx vx [⟨tg, iter, ifs, 0⟩] scope pos) scope X.env pos' newDict false (eval iter X.env) use) Qf X.xe s := by
  refine dg_enter hN I hi ok em hs hw fun it fp tn J H2 H3 Dd s3 s4 cl dg hD T q => ?_
  obtain ⟨Wm, ⟨m0, w0⟩, turn⟩ := q Dd hD
  rw [← dg.e3] at w0
  have pg := hg s3 H3 s3.heap.objs.size cl fp
  have pt := ht s3 H3 s3.heap.objs.size cl fp
  have pk := hk s3 H3 s3.heap.objs.size cl fp
  have pv := hv s3 H3 s3.heap.objs.size cl fp
  generalize compEnvC scope cl s3.heap.objs.size X.env = ce at pg pt pk pv dg ⊢
  refine compLoop_anyD (fun n sa => ∃ i Ha, Inv (X.blk s3 H3 scope ce fp) [] (wipe σ (own.map (·.2))) Ha sa ∧ tn i sa.heap ∧ (∀ b ∈ fp, Ha b = none) ∧ Wm i n Ha) (fun n sa ⟨i, Ha, Ia, sta, na, wa⟩ => ?_) m0 ⟨0, H3, dg.I4, dg.st, dg.nfp, w0⟩
  have stt := dg.stat Ia na
  rcases turn i n Ha wa with ⟨stop, fine⟩ | ⟨go, Nx, less, step⟩
  · refine thnF (T.done (X.blk s3 H3 scope ce fp) rfl rfl rfl hc i [] sa _ Ha (fun _ _ => False) Ia stt sta stop) fun r sb ⟨er, Ib⟩ => ?_
    subst er
    obtain ⟨m, Ic, ns, fo⟩ := dg.leave Ib
    exact fin Dd _ sb m Ha Ic fine ns fo
  · refine thnF (T.item (X.blk s3 H3 scope ce fp) rfl rfl rfl hc i [] sa _ Ha (fun _ _ => False) Ia stt sta go) fun r sb ⟨u, er, hb⟩ => ?_
    subst er
    refine thnF hb fun _ sc ⟨x, Hc, Ic, rc, yc, stc, nc⟩ => ?_
    have Ip := Ic.pinned (dg.stat Ic nc) (T.obj _ _ stc)
    refine thnF (pg.run _ sc _ Hc x u _ Ip rc (step x Hc yc)) fun _ sd ⟨σd, Hd, Id, wd, qd⟩ => thnF (pt.run _ sd σd Hd _ Id qd) fun b se ⟨He, Ie, qe⟩ => ?_
    have back : ∀ {sz : Shared} {Hz : Hp}, Inv (X.blk s3 H3 scope ce fp) ([] ++ pinsAt fp sc.heap) σd Hz sz → Nx Hz → ∃ m, m < n ∧ ∃ i Ha, Inv (X.blk s3 H3 scope ce fp) [] (wipe σ (own.map (·.2))) Ha sz ∧ tn i sz.heap ∧ (∀ b ∈ fp, Ha b = none) ∧ Wm i m Ha := fun {sz Hz} Iz nx => by
      obtain ⟨m1, lt, wz⟩ := less Hz nx
      have still : ∀ b ∈ fp, ∀ ob, sc.heap.get? b = some ob → sz.heap.get? b = some ob ∧ Hz b = none := fun b hb ob eb => let z := Iz.pin (b, ob) (List.mem_append_right _ (List.mem_append_right _ (mem_pinsAt hb eb))); ⟨z.1, z.2.1⟩
      refine ⟨m1, lt, i + 1, Hz, (Iz.unpinned (pins := [])).weak (by rw [← wd, wipe_length]) (fun j v ej => by rw [← wd] at ej; exact (wipe_some ej).1), T.keep _ _ _ stc fun b hb ob eb => (still b hb ob eb).1, fun b hb => ?_, wz⟩
      obtain ⟨ob, eb, _⟩ := T.obj _ _ stc b hb
      exact (still b hb ob eb).2
    cases b with
    | false => exact back Ie qe
    | true =>
      refine thnF (pk.run _ se σd He _ Ie qe) fun z sf ⟨yk, Hf, If, rf, qf⟩ => thnF (pv.run _ sf σd Hf _ If qf) fun z2 sg ⟨yv, Hg, Ig, rg, Hh, pd, nx⟩ => ?_
      exact put_any (X := X.blk s3 H3 scope ce fp) room Ig pd rf rg fun sh Ih => back Ih nx
theorem pe_dg (hc : X.calm = true) (room : X.A.units + 1 < cLine) (hN : X.N.Nodup) (hi : PI X tg iter wi) (ok : BlkOk X.N X.env.scope scope own) (em : EmD e0)
    (hg : Blks X scope fun Y => PG Y tg g) (ht : Blks X scope fun Y => PTs Y ifs tt) (hk : Blks X scope fun Y => PE Y kx tk) (hv : Blks X scope fun Y => PE Y vx tv)
    (hs : ∀ x, foldedSetIterable iter X.env x = pure x := by intro _; rfl) : PE X (.DictComp kx vx [⟨tg, iter, ifs, 0⟩] scope pos) (tDg e0 wi g tt tk tv (own.map (·.2))) := by
  refine ⟨fun pins s σ H Q I hw => ?_⟩
  rw [arm_eval_DictComp]
  refine dg_core hc room hN I hi ok em hg ht hk hv hs hw fun Dd C sf m Hf If qf ns ⟨f0, f1, f2, f3, f4, f5⟩ => ⟨m, ns, fun h2 sb => ?_⟩
  exact ⟨.ref Dd, Hf, If.turned (t' := sf.toks) (fun b o hb e => (sb.2 b hb).trans e) f0 f1 f3 f4 f5, rfl, qf⟩
theorem ps_setDg {i : Nat} {y : Str} {py spos : Pos} (hc : X.calm = true) (room : X.A.units + 1 < cLine) (hN : X.N.Nodup) (hy : X.N[i]? = some y) (hl : X.env.scope.names.lookup y = some .local)
    (hsw : swapsWith (.DictComp kx vx [⟨tg, iter, ifs, 0⟩] scope pos) (some (.Name y py)) spos.line X.env = pure true) (hi : PI X tg iter wi) (ok : BlkOk X.N X.env.scope scope own) (em : EmD e0)
    (hg : Blks X scope fun Y => PG Y tg g) (ht : Blks X scope fun Y => PTs Y ifs tt) (hk : Blks X scope fun Y => PE Y kx tk) (hv : Blks X scope fun Y => PE Y vx tv)
    (hs : ∀ x, foldedSetIterable iter X.env x = pure x := by intro _; rfl) : PS X (.Assign [.Name y py] (.DictComp kx vx [⟨tg, iter, ifs, 0⟩] scope pos) spos) (tAsg (tDg e0 wi g tt tk tv (own.map (·.2))) (gName i)) := ⟨fun pins s σ H D I rd => by
  rw [exec_Assign_Name_used _ _ _ _ hsw]
  refine wpAny_bind (wpAny_standAt (wpAny_bind ?_))
  have rd : tDg e0 wi g tt tk tv (own.map (·.2)) σ H (fun x H1 => gName i x σ H1 D.nx) := rd
  show wpAny _ X.A (do
    let _ ← comprehension (.DictComp kx vx [⟨tg, iter, ifs, 0⟩] scope pos) scope X.env (firstIterPos [⟨tg, iter, ifs, 0⟩] pos) newDict false (eval iter X.env) (some (assign (.Name y py) X.env))) _ _ s
  have core := dg_core (pos := pos) (pos' := firstIterPos [⟨tg, iter, ifs, 0⟩] pos) (use := some (assign (.Name y py) X.env)) (Qf := fun _ s' => SP X pins D .next s') hc room hN I hi ok em hg ht hk hv hs rd
  refine wpAny_bind (thn (core fun Lc C s1 m H1 I1 q hn fo => ?_) fun _ s2 hq => wpAny_pure (wpAny_pure hq))
  show wpAny _ _ (assign (.Name y py) X.env (.ref Lc)) _ _ _
  refine wpAny_assign_Name (store_ok2 (v := V.ref Lc) I1 hN hy (.inl hl) rfl (fun s2 I2 z => ?_) (.inr hl))
  obtain ⟨a, sb, ha⟩ := z
  obtain ⟨g0, g1, g2, g3, g4, g5⟩ := fo
  have far : C ≠ a := ha.elim (fun e => by rw [e]; exact g1) fun e z => g4 y a e z.symm
  exact ⟨m, hn.sameBut sb far, fun h3 sb3 => ⟨_, H1, I2.turned (t' := s2.toks) (fun b o hb e => (sb3.2 b hb).trans e) g0 g1 g3 g4 g5, q⟩⟩⟩
end
section
variable {prog : Program} {w : World} {A : Around} {R : Result → Shared → Prop} {s : Shared} {kx vx tg iter tg1 iter1 : Expr} {ifs ifs1 : List Expr} {scope : Scope} {pos : Pos} {it : Value} {Dd : Addr} {env : Env}
abbrev twoD (kx vx tg iter : Expr) (ifs : List Expr) (tg1 iter1 : Expr) (ifs1 : List Expr) (scope : Scope) (pos : Pos) : Expr := .DictComp kx vx [⟨tg, iter, ifs, 0⟩, ⟨tg1, iter1, ifs1, 0⟩] scope pos
theorem turn_outD : compTurn (twoD kx vx tg iter ifs tg1 iter1 ifs1 scope pos) 0 it (.ref Dd) env = (do
    standAt iter.pos
    match ← pyNext it with
    | none => pure (.done .next)
    | some item =>
      letOwnedTupleGo tg it item
      assign tg env item
      let mut fits := true
      for c in ifs do
        if fits then fits ← isTrue c env (eval c env)
      if fits then
        let src ← eval iter1 env
        standAt iter1.pos
        let src ← foldedSetIterable iter1 env src
        let _ ← runOwn (.compStart (twoD kx vx tg iter ifs tg1 iter1 ifs1 scope pos) 1 (← holding [src] (pyIter src)) (.ref Dd) env) env
      again (.compLoop (twoD kx vx tg iter ifs tg1 iter1 ifs1 scope pos) 0 it (.ref Dd) env)) := by rfl
theorem turn_inD : compTurn (twoD kx vx tg iter ifs tg1 iter1 ifs1 scope pos) 1 it (.ref Dd) env = (do
    standAt iter1.pos
    match ← pyNext it with
    | none => pure (.done .next)
    | some item =>
      letOwnedTupleGo tg1 it item
      assign tg1 env item
      let mut fits := true
      for c in ifs1 do
        if fits then fits ← isTrue c env (eval c env)
      if fits then
        (do
          let ky ← eval kx env
          let vl ← holding [ky] (eval vx env)
          standAt { kx.pos with endLine := vx.pos.endLine, endCol := vx.pos.endCol }
          holding [ky, vl] (dictSet Dd ky vl))
      again (.compLoop (twoD kx vx tg iter ifs tg1 iter1 ifs1 scope pos) 1 it (.ref Dd) env)) := by rfl
def Turns (prog : Program) (w : World) (A : Around) (R : Result → Shared → Prop) (env : Env) (tg : Expr) (ifs : List Expr) (it : Value) (T N : Shared → Prop) (s : Shared) : Prop :=
  wpAny (model prog w) A (pyNext it) (fun r sa => match r with
    | none => R (.ok .next) sa
    | some item => wpAny (model prog w) A (letOwnedTupleGo tg it item) (fun _ sb => wpAny (model prog w) A (assign tg env item) (fun _ sc =>
        wpAny (model prog w) A (forIn ifs true fun c r => if r = true then do let fits ← isTrue c env (eval c env); pure (ForInStep.yield fits) else pure (ForInStep.yield r)) (fun fits sd => if fits = true then T sd else N sd)
          (notedBy (model prog w) A env fun e sz => R (.error e) sz) sc) (notedBy (model prog w) A env fun e sz => R (.error e) sz) sb) (notedBy (model prog w) A env fun e sz => R (.error e) sz) sa)
    (notedBy (model prog w) A env fun e sz => R (.error e) sz) s
theorem loop_outD (hs : ∀ x, foldedSetIterable iter1 env x = pure x) (Iv : Nat → Shared → Prop)
    (turn : ∀ n s, Iv n s → Turns prog w A R env tg ifs it (fun sd => wpAny (model prog w) A (eval iter1 env) (fun src se => wpAny (model prog w) A (pyIter src) (fun it1 sf =>
        codeAny (model prog w) A (.compStart (twoD kx vx tg iter ifs tg1 iter1 ifs1 scope pos) 1 it1 (.ref Dd) env) (fun r sg => match r with
          | .ok _ => ∃ m, m < n ∧ Iv m sg
          | .error _ => False) sf) (notedBy (model prog w) A env fun e sz => R (.error e) sz) se) (notedBy (model prog w) A env fun e sz => R (.error e) sz) sd) (fun sd => ∃ m, m < n ∧ Iv m sd) s)
    (n : Nat) (h : Iv n s) : codeAny (model prog w) A (.compLoop (twoD kx vx tg iter ifs tg1 iter1 ifs1 scope pos) 0 it (.ref Dd) env) R s := by
  refine codeAny_loop rfl Iv (fun n s hI => ?_) n h
  show wpAny _ A ((compTurn (twoD kx vx tg iter ifs tg1 iter1 ifs1 scope pos) 0 it (.ref Dd) env).onRaise (fun x => do noteFrame x env; theTreesLotGoes x)) _ _ s
  refine wpAny_noted ?_
  rw [turn_outD]
  refine wpAny_bind (wpAny_standAt (wpAny_bind (wpAny_mono (turn n s hI) (fun r sa ha => ?_) fun _ _ z => z)))
  cases r with
  | none => exact wpAny_pure ha
  | some item =>
    refine wpAny_bind (wpAny_mono ha (fun _ sb hb => wpAny_bind (wpAny_mono hb (fun _ sc hc => wpAny_bind (wpAny_mono hc (fun fits sd hd => ?_) fun _ _ z => z)) fun _ _ z => z)) fun _ _ z => z)
    cases fits with
    | false => exact wpAny_pure ⟨rfl, hd⟩
    | true =>
      refine wpAny_bind (wpAny_mono hd (fun src se he => wpAny_bind (wpAny_standAt (wpAny_bind (wpAny_of_eq (hs src) (wpAny_bind (wpAny_holding (wpAny_mono he (fun it1 sf hf => ?_) fun _ _ z => z))))))) fun _ _ z => z)
      refine wpAny_bind (wpAny_runOwn ?_)
      rw [Around.mark_none]
      refine codeAny_mono hf fun r sg hr => ?_
      cases r with
      | error e => exact hr.elim
      | ok f =>
        first
          | exact wpAny_pure ⟨rfl, hr⟩
          | exact wpAny_bind (wpAny_pure (wpAny_pure ⟨rfl, hr⟩))
theorem loop_inD (Iv : Nat → Shared → Prop)
    (turn : ∀ n s, Iv n s → Turns prog w A R env tg1 ifs1 it (fun sd => wpAny (model prog w) A (eval kx env) (fun ky se => wpAny (model prog w) A (eval vx env) (fun vl sf =>
        wpAny (model prog w) A (dictSet Dd ky vl) (fun _ sg => ∃ m, m < n ∧ Iv m sg) (notedBy (model prog w) A env fun e sz => R (.error e) sz) sf) (notedBy (model prog w) A env fun e sz => R (.error e) sz) se) (notedBy (model prog w) A env fun e sz => R (.error e) sz) sd) (fun sd => ∃ m, m < n ∧ Iv m sd) s)
    (n : Nat) (h : Iv n s) : codeAny (model prog w) A (.compLoop (twoD kx vx tg iter ifs tg1 iter1 ifs1 scope pos) 1 it (.ref Dd) env) R s := by
  refine codeAny_loop rfl Iv (fun n s hI => ?_) n h
  show wpAny _ A ((compTurn (twoD kx vx tg iter ifs tg1 iter1 ifs1 scope pos) 1 it (.ref Dd) env).onRaise (fun x => do noteFrame x env; theTreesLotGoes x)) _ _ s
  refine wpAny_noted ?_
  rw [turn_inD]
  refine wpAny_bind (wpAny_standAt (wpAny_bind (wpAny_mono (turn n s hI) (fun r sa ha => ?_) fun _ _ z => z)))
  cases r with
  | none => exact wpAny_pure ha
  | some item =>
    refine wpAny_bind (wpAny_mono ha (fun _ sb hb => wpAny_bind (wpAny_mono hb (fun _ sc hc => wpAny_bind (wpAny_mono hc (fun fits sd hd => ?_) fun _ _ z => z)) fun _ _ z => z)) fun _ _ z => z)
    cases fits with
    | false => exact wpAny_pure ⟨rfl, hd⟩
    | true => exact wpAny_bind (wpAny_bind (wpAny_mono hd (fun ky se he => wpAny_bind (wpAny_holding (wpAny_mono he (fun vl sf hf => wpAny_bind (wpAny_standAt (wpAny_holding (wpAny_mono hf (fun _ sg hg => wpAny_pure ⟨rfl, hg⟩) fun _ _ z => z)))) fun _ _ z => z))) fun _ _ z => z))
theorem start_inD (h0 : codeAny (model prog w) A (.compLoop (twoD kx vx tg iter ifs tg1 iter1 ifs1 scope pos) 1 it (.ref Dd) env) R s)
    (h : wpAny (model prog w) A (pyIter it) (fun it2 sa => codeAny (model prog w) A (.compLoop (twoD kx vx tg iter ifs tg1 iter1 ifs1 scope pos) 1 it2 (.ref Dd) env) R sa) (notedBy (model prog w) A env fun x sz => R (.error x) sz) s) :
    codeAny (model prog w) A (.compStart (twoD kx vx tg iter ifs tg1 iter1 ifs1 scope pos) 1 it (.ref Dd) env) R s := by
  refine codeAny_of_tree ?_
  show wpAny _ _ ((compStart (twoD kx vx tg iter ifs tg1 iter1 ifs1 scope pos) 1 it (.ref Dd) env).onRaise (fun x => do noteFrame x env; standAt theWindowsPlace)) _ _ s
  refine wpAny_notedAt ?_
  unfold compStart
  refine wpAny_bind (wpAny_askSetting (wpAny_ite ?_))
  split
  · first
      | exact wpAny_bind (wpAny_pure (wpAny_pure (And.intro rfl h0)))
      | exact wpAny_pure (And.intro rfl h0)
  · refine wpAny_bind (wpAny_rule ?_)
    show wpAny _ _ (standAt iter1.pos >>= _) _ _ s
    exact wpAny_bind (wpAny_standAt (wpAny_bind (wpAny_mono h (fun it2 sa ha => wpAny_pure (And.intro rfl ha)) fun _ _ z => z)))
end
section
variable {X : Cx} {pins : List (Addr × Obj)} {s : Shared} {σ : L2.St} {H : Hp} {kx vx tg iter tg1 iter1 : Expr} {ifs ifs1 : List Expr} {scope : Scope} {own : List (Str × Nat)} {vs1 : List Nat} {pos pos' : Pos} {wi wi1 : TI} {g g1 : TG} {tt tt1 : TT} {tk tv : TE} {e0 : HO} {use : Option (Value → Sem Unit)} {Qf : Value → Shared → Prop} {Q : VK}
def tDg2 (e0 : HO) (wi : TI) (g : TG) (tt : TT) (wi1 : TI) (g1 : TG) (tt1 : TT) (tk tv : TE) (vs vs1 : List Nat) : TE := fun σ H Q => wi σ H fun J H1 => ∀ Dd, H1 Dd = none →
  ∃ Wm : Nat → Nat → Hp → Prop, (∃ m, Wm 0 m (upd H1 Dd e0)) ∧ ∀ i m H, Wm i m H → (J.stop i H ∧ Q (.ref Dd) H) ∨
    (J.go i H ∧ ∃ Nx : Hp → Prop, (∀ Ha, Nx Ha → ∃ m', m' < m ∧ Wm (i + 1) m' Ha) ∧ ∀ x Ha, J.yld i H x Ha → g x (wipe σ vs) Ha fun σ2 H2 =>
      wipe σ2 vs = wipe σ vs ∧ tt σ2 H2 fun b H3 => if b = true then wi1 σ2 H3 fun J1 H4 => ∃ Wn : Nat → Nat → Hp → Prop, (∃ m, Wn 0 m H4) ∧ ∀ j k H, Wn j k H → (J1.stop j H ∧ Nx H) ∨
        (J1.go j H ∧ ∃ Ny : Hp → Prop, (∀ Ha, Ny Ha → ∃ k', k' < k ∧ Wn (j + 1) k' Ha) ∧ ∀ x Ha, J1.yld j H x Ha → g1 x (wipe σ2 vs1) Ha fun σ3 H5 =>
          wipe σ3 vs1 = wipe σ2 vs1 ∧ tt1 σ3 H5 fun b H6 => if b = true then tk σ3 H6 fun y H7 => tv σ3 H7 fun z H8 => ∃ H9, DPut H8 Dd y z H9 ∧ Ny H9 else Ny H6) else Nx H3)
theorem dg2_core (hc : X.calm = true) (room : X.A.units + 1 < cLine) (hN : X.N.Nodup) (I : Inv X pins σ H s) (hi : PI X tg iter wi) (ok : BlkOk X.N X.env.scope scope own) (em : EmD e0) (sub : ∀ i ∈ vs1, i ∈ own.map (·.2))
    (hg : Blks X scope fun Y => PG Y tg g) (ht : Blks X scope fun Y => PTs Y ifs tt) (hi1 : Blks X scope fun Y => PI Y tg1 iter1 wi1) (hg1 : Blks X scope fun Y => PG Y tg1 g1) (ht1 : Blks X scope fun Y => PTs Y ifs1 tt1) (hk : Blks X scope fun Y => PE Y kx tk) (hv : Blks X scope fun Y => PE Y vx tv)
    (hs : ∀ x, foldedSetIterable iter X.env x = pure x) (hs1 : ∀ env x, foldedSetIterable iter1 env x = pure x) (hw : tDg2 e0 wi g tt wi1 g1 tt1 tk tv (own.map (·.2)) vs1 σ H Q)
    (fin : ∀ Dd C sf m Hf, Inv X pins σ Hf sf → Q (.ref Dd) Hf → sf.heap.Ns C m → FpOk X pins Hf C → compPost (model X.prog X.w) X.A X.xe use Qf (.ref Dd) C (.ok .next) sf) :
    wpAny (model X.prog X.w) X.A (comprehension (twoD kx vx tg iter ifs tg1 iter1 ifs1 scope pos) scope X.env pos' newDict false (eval iter X.env) use) Qf X.xe s := by
  refine dg_enter hN I hi ok em hs hw fun it fp tn J H2 H3 Dd s3 s4 cl dg hD T q => ?_
  obtain ⟨Wm, ⟨m0, w0⟩, turn⟩ := q Dd hD
  rw [← dg.e3] at w0
  have pg := hg s3 H3 s3.heap.objs.size cl fp
  have pt := ht s3 H3 s3.heap.objs.size cl fp
  have pi1 := hi1 s3 H3 s3.heap.objs.size cl fp
  have pg1 := hg1 s3 H3 s3.heap.objs.size cl fp
  have pt1 := ht1 s3 H3 s3.heap.objs.size cl fp
  have pk := hk s3 H3 s3.heap.objs.size cl fp
  have pv := hv s3 H3 s3.heap.objs.size cl fp
  generalize compEnvC scope cl s3.heap.objs.size X.env = ce at pg pt pi1 pg1 pt1 pk pv dg ⊢
  refine loop_outD (hs1 ce) (fun n sa => ∃ i Ha, Inv (X.blk s3 H3 scope ce fp) [] (wipe σ (own.map (·.2))) Ha sa ∧ tn i sa.heap ∧ (∀ b ∈ fp, Ha b = none) ∧ Wm i n Ha) (fun n sa ⟨i, Ha, Ia, sta, na, wa⟩ => ?_) m0 ⟨0, H3, dg.I4, dg.st, dg.nfp, w0⟩
  have stt := dg.stat Ia na
  rcases turn i n Ha wa with ⟨stop, fine⟩ | ⟨go, Nx, less, step⟩
  · refine thnF (T.done (X.blk s3 H3 scope ce fp) rfl rfl rfl hc i [] sa _ Ha (fun _ _ => False) Ia stt sta stop) fun r sb ⟨er, Ib⟩ => ?_
    subst er
    obtain ⟨m, Ic, ns, fo⟩ := dg.leave Ib
    exact fin Dd _ sb m Ha Ic fine ns fo
  · refine thnF (T.item (X.blk s3 H3 scope ce fp) rfl rfl rfl hc i [] sa _ Ha (fun _ _ => False) Ia stt sta go) fun r sb ⟨u, er, hb⟩ => ?_
    subst er
    refine thnF hb fun _ sc ⟨x, Hc, Ic, rc, yc, stc, nc⟩ => ?_
    have Ip := Ic.pinned (dg.stat Ic nc) (T.obj _ _ stc)
    refine thnF (pg.run _ sc _ Hc x u _ Ip rc (step x Hc yc)) fun _ sd ⟨σd, Hd, Id, wd, qd⟩ => thnF (pt.run _ sd σd Hd _ Id qd) fun b se ⟨He, Ie, qe⟩ => ?_
    have back : ∀ {σz : L2.St} {sz : Shared} {Hz : Hp}, Inv (X.blk s3 H3 scope ce fp) ([] ++ pinsAt fp sc.heap) σz Hz sz → (wipe σ (own.map (·.2))).length = σz.length → (∀ (j : Nat) v, (wipe σ (own.map (·.2)))[j]? = some (some v) → σz[j]? = some (some v)) → Nx Hz →
        ∃ m, m < n ∧ ∃ i Ha, Inv (X.blk s3 H3 scope ce fp) [] (wipe σ (own.map (·.2))) Ha sz ∧ tn i sz.heap ∧ (∀ b ∈ fp, Ha b = none) ∧ Wm i m Ha := fun {σz sz Hz} Iz ln kp nx => by
      obtain ⟨m1, lt, wz⟩ := less Hz nx
      have still : ∀ b ∈ fp, ∀ ob, sc.heap.get? b = some ob → sz.heap.get? b = some ob ∧ Hz b = none := fun b hb ob eb => let z := Iz.pin (b, ob) (List.mem_append_right _ (List.mem_append_right _ (mem_pinsAt hb eb))); ⟨z.1, z.2.1⟩
      refine ⟨m1, lt, i + 1, Hz, (Iz.unpinned (pins := [])).weak ln kp, T.keep _ _ _ stc fun b hb ob eb => (still b hb ob eb).1, fun b hb => ?_, wz⟩
      obtain ⟨ob, eb, _⟩ := T.obj _ _ stc b hb
      exact (still b hb ob eb).2
    have lnd : (wipe σ (own.map (·.2))).length = σd.length := by rw [← wd, wipe_length]
    have kpd : ∀ (j : Nat) v, (wipe σ (own.map (·.2)))[j]? = some (some v) → σd[j]? = some (some v) := fun j v ej => by
      rw [← wd] at ej
      exact (wipe_some ej).1
    cases b with
    | false => exact back Ie lnd kpd qe
    | true =>
      have qe : wi1 σd He _ := qe
      refine thnF (pi1.run _ se σd He _ Ie qe) fun src sf hsf => thnF hsf fun itv sg hsg => ?_
      obtain ⟨it1, fp1, tn1, J1, Hg, rfl, Ig, T1, stg, fg, Wn, ⟨k0, v0⟩, turn1⟩ := hsg
      have far1 : ∀ {Hz : Hp}, (∀ b ∈ fp1, Hz b = none) → ∀ b ∈ fp1, FpOk (X.blk s3 H3 scope ce fp) ([] ++ pinsAt fp sc.heap) Hz b := fun nz b hb => ⟨nz b hb, (fg b hb).2⟩
      have inner : codeAny (model X.prog X.w) X.A (.compLoop (twoD kx vx tg iter ifs tg1 iter1 ifs1 scope pos) 1 (.ref it1) (.ref Dd) ce)
          (fun r sz => match r with
            | .ok _ => ∃ m, m < n ∧ ∃ i Ha, Inv (X.blk s3 H3 scope ce fp) [] (wipe σ (own.map (·.2))) Ha sz ∧ tn i sz.heap ∧ (∀ b ∈ fp, Ha b = none) ∧ Wm i m Ha
            | .error _ => False) sg := by
        refine loop_inD (fun k sa => ∃ j Ha, Inv (X.blk s3 H3 scope ce fp) ([] ++ pinsAt fp sc.heap) (wipe σd vs1) Ha sa ∧ tn1 j sa.heap ∧ (∀ b ∈ fp1, Ha b = none) ∧ Wn j k Ha) (fun k sa ⟨j, Ha, Ia, sta, na, wa⟩ => ?_) k0 ⟨0, Hg, Ig.weak (wipe_length _ _) (fun j v e => (wipe_some e).1), stg, fun b hb => (fg b hb).1, v0⟩
        rcases turn1 j k Ha wa with ⟨stop1, nx1⟩ | ⟨go1, Ny, less1, step1⟩
        · refine thnF (T1.done (X.blk s3 H3 scope ce fp) rfl rfl rfl hc j _ sa (wipe σd vs1) Ha (fun _ _ => False) Ia (far1 na) sta stop1) fun r sb ⟨er, Ib⟩ => ?_
          subst er
          refine back Ib (lnd.trans (wipe_length σd vs1).symm) (fun j v ej => ?_) nx1
          rw [← wd] at ej
          obtain ⟨e1, e2⟩ := wipe_some ej
          rw [wipe_out fun z => e2 (sub j z)]
          exact e1
        · refine thnF (T1.item (X.blk s3 H3 scope ce fp) rfl rfl rfl hc j _ sa (wipe σd vs1) Ha (fun _ _ => False) Ia (far1 na) sta go1) fun r sb ⟨u1, er, hb1⟩ => ?_
          subst er
          refine thnF hb1 fun _ sh ⟨x1, Hh, Ih, rh, yh, sth, nh⟩ => ?_
          have Iq := Ih.pinned (far1 nh) (T1.obj _ _ sth)
          refine thnF (pg1.run _ sh (wipe σd vs1) Hh x1 u1 _ Iq rh (step1 x1 Hh yh)) fun _ si ⟨σi, Hi, Ii, wdi, qi⟩ => thnF (pt1.run _ si σi Hi _ Ii qi) fun b1 sj ⟨Hj, Ij, qj⟩ => ?_
          have back1 : ∀ {sz : Shared} {Hz : Hp}, Inv (X.blk s3 H3 scope ce fp) (([] ++ pinsAt fp sc.heap) ++ pinsAt fp1 sh.heap) σi Hz sz → Ny Hz →
              ∃ m, m < k ∧ ∃ j Ha, Inv (X.blk s3 H3 scope ce fp) ([] ++ pinsAt fp sc.heap) (wipe σd vs1) Ha sz ∧ tn1 j sz.heap ∧ (∀ b ∈ fp1, Ha b = none) ∧ Wn j m Ha := fun {sz Hz} Iz ny => by
            obtain ⟨m1, lt, wz⟩ := less1 Hz ny
            have still : ∀ b ∈ fp1, ∀ ob, sh.heap.get? b = some ob → sz.heap.get? b = some ob ∧ Hz b = none := fun b hb ob eb => let z := Iz.pin (b, ob) (List.mem_append_right _ (List.mem_append_right _ (mem_pinsAt hb eb))); ⟨z.1, z.2.1⟩
            refine ⟨m1, lt, j + 1, Hz, Iz.unpinned.weak (by rw [← wdi, wipe_length]) (fun j v ej => by rw [← wdi] at ej; exact (wipe_some ej).1), T1.keep _ _ _ sth fun b hb ob eb => (still b hb ob eb).1, fun b hb => ?_, wz⟩
            obtain ⟨ob, eb, _⟩ := T1.obj _ _ sth b hb
            exact (still b hb ob eb).2
          cases b1 with
          | false => exact back1 Ij qj
          | true =>
            have qj : tk σi Hj _ := qj
            refine thnF (pk.run _ sj σi Hj _ Ij qj) fun z sk ⟨yk, Hk, Ik, rk, qk⟩ => thnF (pv.run _ sk σi Hk _ Ik qk) fun z2 sl ⟨yv, Hl, Il, rl, Hm, pd, ny⟩ => ?_
            exact put_any (X := X.blk s3 H3 scope ce fp) room Il pd rk rl fun sm Im => back1 Im ny
      exact start_inD inner (T1.self X.A 0 _ _ _ stg inner)
theorem pe_dg2 (hc : X.calm = true) (room : X.A.units + 1 < cLine) (hN : X.N.Nodup) (hi : PI X tg iter wi) (ok : BlkOk X.N X.env.scope scope own) (em : EmD e0) (sub : ∀ i ∈ vs1, i ∈ own.map (·.2))
    (hg : Blks X scope fun Y => PG Y tg g) (ht : Blks X scope fun Y => PTs Y ifs tt) (hi1 : Blks X scope fun Y => PI Y tg1 iter1 wi1) (hg1 : Blks X scope fun Y => PG Y tg1 g1) (ht1 : Blks X scope fun Y => PTs Y ifs1 tt1) (hk : Blks X scope fun Y => PE Y kx tk) (hv : Blks X scope fun Y => PE Y vx tv)
    (hs : ∀ x, foldedSetIterable iter X.env x = pure x := by intro _; rfl) (hs1 : ∀ env x, foldedSetIterable iter1 env x = pure x := by intro _ _; rfl) : PE X (twoD kx vx tg iter ifs tg1 iter1 ifs1 scope pos) (tDg2 e0 wi g tt wi1 g1 tt1 tk tv (own.map (·.2)) vs1) := by
  refine ⟨fun pins s σ H Q I hw => ?_⟩
  rw [arm_eval_DictComp]
  refine dg2_core hc room hN I hi ok em sub hg ht hi1 hg1 ht1 hk hv hs hs1 hw fun Dd C sf m Hf If qf ns ⟨f0, f1, f2, f3, f4, f5⟩ => ⟨m, ns, fun h2 sb => ?_⟩
  exact ⟨.ref Dd, Hf, If.turned (t' := sf.toks) (fun b o hb e => (sb.2 b hb).trans e) f0 f1 f3 f4 f5, rfl, qf⟩
theorem ps_setDg2 {i : Nat} {y : Str} {py spos : Pos} (hc : X.calm = true) (room : X.A.units + 1 < cLine) (hN : X.N.Nodup) (hy : X.N[i]? = some y) (hl : X.env.scope.names.lookup y = some .local)
    (hsw : swapsWith (twoD kx vx tg iter ifs tg1 iter1 ifs1 scope pos) (some (.Name y py)) spos.line X.env = pure true) (hi : PI X tg iter wi) (ok : BlkOk X.N X.env.scope scope own) (em : EmD e0) (sub : ∀ i ∈ vs1, i ∈ own.map (·.2))
    (hg : Blks X scope fun Y => PG Y tg g) (ht : Blks X scope fun Y => PTs Y ifs tt) (hi1 : Blks X scope fun Y => PI Y tg1 iter1 wi1) (hg1 : Blks X scope fun Y => PG Y tg1 g1) (ht1 : Blks X scope fun Y => PTs Y ifs1 tt1) (hk : Blks X scope fun Y => PE Y kx tk) (hv : Blks X scope fun Y => PE Y vx tv)
    (hs : ∀ x, foldedSetIterable iter X.env x = pure x := by intro _; rfl) (hs1 : ∀ env x, foldedSetIterable iter1 env x = pure x := by intro _ _; rfl) : PS X (.Assign [.Name y py] (twoD kx vx tg iter ifs tg1 iter1 ifs1 scope pos) spos) (tAsg (tDg2 e0 wi g tt wi1 g1 tt1 tk tv (own.map (·.2)) vs1) (gName i)) := ⟨fun pins s σ H D I rd => by
  rw [exec_Assign_Name_used _ _ _ _ hsw]
  refine wpAny_bind (wpAny_standAt (wpAny_bind ?_))
  have rd : tDg2 e0 wi g tt wi1 g1 tt1 tk tv (own.map (·.2)) vs1 σ H (fun x H1 => gName i x σ H1 D.nx) := rd
  show wpAny _ X.A (do
    let _ ← comprehension (twoD kx vx tg iter ifs tg1 iter1 ifs1 scope pos) scope X.env (firstIterPos [⟨tg, iter, ifs, 0⟩, ⟨tg1, iter1, ifs1, 0⟩] pos) newDict false (eval iter X.env) (some (assign (.Name y py) X.env))) _ _ s
  have core := dg2_core (pos := pos) (pos' := firstIterPos [⟨tg, iter, ifs, 0⟩, ⟨tg1, iter1, ifs1, 0⟩] pos) (use := some (assign (.Name y py) X.env)) (Qf := fun _ s' => SP X pins D .next s') hc room hN I hi ok em sub hg ht hi1 hg1 ht1 hk hv hs hs1 rd
  refine wpAny_bind (thn (core fun Lc C s1 m H1 I1 q hn fo => ?_) fun _ s2 hq => wpAny_pure (wpAny_pure hq))
  show wpAny _ _ (assign (.Name y py) X.env (.ref Lc)) _ _ _
  refine wpAny_assign_Name (store_ok2 (v := V.ref Lc) I1 hN hy (.inl hl) rfl (fun s2 I2 z => ?_) (.inr hl))
  obtain ⟨a, sb, ha⟩ := z
  obtain ⟨g0, g1, g2, g3, g4, g5⟩ := fo
  have far : C ≠ a := ha.elim (fun e => by rw [e]; exact g1) fun e z => g4 y a e z.symm
  exact ⟨m, hn.sameBut sb far, fun h3 sb3 => ⟨_, H1, I2.turned (t' := s2.toks) (fun b o hb e => (sb3.2 b hb).trans e) g0 g1 g3 g4 g5, q⟩⟩⟩
end
end PV

namespace SH
open PySem
def memB {α : Type} [DecidableEq α] (x : α) (l : List α) : Bool := decide (x ∈ l)
section
variable {α β γ κ : Type} [DecidableEq κ]
def dc2O (m : α → Option (List β)) (k : α → β → Option κ) (v : α → β → Option γ) : List α → List (κ × γ) → Option (List (κ × γ)) := foldO fun a d => (m a).bind fun l2 => dcO (k a) (v a) l2 d
def lc2O (m : α → Option (List β)) (f : α → β → Option γ) : List α → List γ → Option (List γ) := foldO fun a acc => (m a).bind fun l2 => foldO (fun b acc => (f a b).bind fun c => chk (acc.length < sizeLine) (some (acc ++ [c]))) l2 acc
end
end SH
namespace PV
open PySem PySem.Spec PyProof.Rows L2 SH
section
variable {K : PySem.W.Frag} {B R0 R R1 H H1 : Hp} {ρ : List Sl} {σ : L2.St} {Dd : Addr} {o o' : HO}
theorem St.far (s : St K B R0 R1 ρ σ H1) (hD : H1 Dd = none) (t : Step R1 H1 R H) (e : H Dd = some o) (nt : NT o) (nr : R Dd = none) : St K (upd B Dd o) R0 R ρ σ H := by
  have st := s.stp.trans t
  have b0 : B Dd = none := Sm.free s.stp.hh hD
  obtain ⟨φ, fp⟩ := s.fps
  refine ⟨⟨st.rr, st.rh, ⟨fun b x hb n => ?_, fun b ps hb => ?_⟩, fun a h1 h2 => ?_, st.tp, st.tf, fun b ps hb => ?_, st.te⟩, s.tb.upd b0, s.len, φ, ?_⟩
  · by_cases z : b = Dd
    · subst z; rw [upd_same] at hb; cases hb; exact e
    · rw [upd_ne z] at hb; exact st.hh.k b x hb n
  · by_cases z : b = Dd
    · subst z; rw [upd_same] at hb; cases hb; exact nt.elim
    · rw [upd_ne z] at hb; exact st.hh.t b ps hb
  · have ne : a ≠ Dd := fun z => h2 (by rw [z]; exact nr)
    rw [upd_ne ne]
    exact st.nw a h1 h2
  · by_cases z : b = Dd
    · subst z; rw [upd_same] at hb; cases hb; exact nt.elim
    · rw [upd_ne z] at hb; exact st.cd b ps hb
  · have f2 := fp.step t
    refine ⟨fun i sl v e1 e2 => ?_, fp.out, fp.df⟩
    have q := f2.sl i sl v e1 e2
    have ne : ∀ p ∈ φ i, p ≠ Dd := fun p hp z => by
      obtain ⟨_, _, ob, q⟩ := fp.own s.len hp
      rw [z, hD] at q
      cases q
    cases sl with
    | no => exact q
    | sh d => exact q
    | al d => exact q
    | ow d =>
      obtain ⟨p, e3, e4, e5, e6⟩ := q
      exact ⟨p, e3, e4, by rw [upd_ne (ne p (by rw [e4]; exact List.mem_cons_self))]; exact e5, e6⟩
    | od pn d =>
      obtain ⟨x, e3, e4, e5, e6⟩ := q
      exact ⟨x, e3, e4, e5, fun p hp => ⟨by rw [upd_ne (ne p hp)]; exact (e6 p hp).1, (e6 p hp).2⟩⟩
theorem St.re (s : St K (upd B Dd o) R0 R ρ σ H) (b0 : B Dd = none) (nr : R Dd = none) (tb : TabsK K B) (nt : NT o') (ntup : ∀ xs, o' ≠ .tup xs) (nfrz : ∀ u v, o' ≠ .frz u v) (nx : ∀ φ, H Dd ≠ some (.ext φ)) (no : ∀ φ, o' ≠ .ext φ := by intro φ z; cases z) : St K (upd B Dd o') R0 R (dr ρ) σ (upd H Dd o') := by
  have st := s.stp
  obtain ⟨φ, fp⟩ := s.fps
  have ne : ∀ i, ∀ p ∈ φ i, p ≠ Dd := fun i p hp z => by
    have q := (fp.own s.len hp).1
    rw [z, upd_same] at q
    cases q
  refine ⟨⟨st.rr, st.rh.put nr, ⟨fun b x hb n => ?_, fun b ps hb => ?_⟩, fun a h1 h2 => ?_, fun b xs eb => ?_, fun b u xs eb => ?_, fun b ps hb => ?_, fun b φ eb => ?_⟩, tb.upd b0, by unfold dr; rw [List.length_map]; exact s.len, φ, fun i sl v e1 e2 => ?_, fun i hi => fp.out i (by unfold dr at hi; rw [List.length_map] at hi; exact hi), fp.df⟩
  · by_cases z : b = Dd
    · subst z; rw [upd_same] at hb ⊢; exact hb
    · rw [upd_ne z] at hb ⊢; exact st.hh.k b x (by rw [upd_ne z]; exact hb) n
  · by_cases z : b = Dd
    · subst z; rw [upd_same] at hb; cases hb; exact nt.elim
    · rw [upd_ne z] at hb
      obtain ⟨ps', q1, q2⟩ := st.hh.t b ps (by rw [upd_ne z]; exact hb)
      exact ⟨ps', by rw [upd_ne z]; exact q1, q2⟩
  · have z : a ≠ Dd := fun z => h2 (by rw [z]; exact nr)
    have := st.nw a h1 h2
    rw [upd_ne z] at this ⊢
    exact this
  · by_cases z : b = Dd
    · subst z; rw [upd_same] at eb; exact absurd (Option.some.inj eb) (ntup xs)
    · rw [upd_ne z] at eb; exact st.tp b xs eb
  · by_cases z : b = Dd
    · subst z; rw [upd_same] at eb; exact absurd (Option.some.inj eb) (nfrz u _)
    · rw [upd_ne z] at eb; exact st.tf b u xs eb
  · by_cases z : b = Dd
    · subst z; rw [upd_same] at hb; cases hb; exact nt.elim
    · rw [upd_ne z] at hb
      obtain ⟨ps', e', n'⟩ := st.cd b ps (by rw [upd_ne z]; exact hb)
      exact ⟨ps', by rw [upd_ne z]; exact e', n'.put nx⟩
  · by_cases z : b = Dd
    · subst z; rw [upd_same] at eb; exact absurd (Option.some.inj eb) (no φ)
    · rw [upd_ne z] at eb; exact st.te b φ eb
  · unfold dr at e1
    rw [List.getElem?_map] at e1
    cases e3 : ρ[i]? with
    | none => rw [e3] at e1; cases e1
    | some s0 =>
      rw [e3] at e1
      cases e1
      have q := fp.sl i s0 v e3 e2
      cases s0 with
      | no => exact q
      | sh d => exact q
      | al d =>
        obtain ⟨q1, x, q2, q3⟩ := q
        by_cases im : imm d = true
        · rw [Sl.dr_t im]
          exact ⟨q1, x, q2, Rp.imm st.tp st.tf q3 im⟩
        · rw [Sl.dr_f im]
          exact q1
      | ow d =>
        obtain ⟨p, e3, e4, e5, e6, u, e7, e8⟩ := q
        have z := ne i p (by rw [e4]; exact List.mem_cons_self)
        exact ⟨p, e3, e4, by rw [upd_ne z] at e5 ⊢; exact e5, e6, u, by rw [upd_ne z]; exact e7, e8⟩
      | od pn d =>
        obtain ⟨x, e3, e4, e5, e6⟩ := q
        refine ⟨x, e3, e4, e5.mono (Sm.refl R) fun p hp w _ ep => by rw [upd_ne (ne i p hp)]; exact ep, fun p hp => ⟨?_, (e6 p hp).2⟩⟩
        have := (e6 p hp).1
        rw [upd_ne (ne i p hp)] at this ⊢
        exact this
end
theorem walk_go {J : It} {n : Nat} {G : Hp → Prop} {Y : Nat → Hp → V → Hp → Prop} (w : Walk J n G Y) {Tn : V → Hp → (Hp → Prop) → Prop} {Fin : Hp → Prop} {H0 : Hp} (Pv : Nat → Hp → Prop) (h0 : Pv 0 H0) (hG : ∀ i H, i ≤ n → Pv i H → G H)
    (hs : ∀ i x H H', i < n → Pv i H → Y i H x H' → Tn x H' (Pv (i + 1))) (hd : ∀ H, Pv n H → Fin H) :
    ∃ Wm : Nat → Nat → Hp → Prop, (∃ m, Wm 0 m H0) ∧ ∀ i m H, Wm i m H → (J.stop i H ∧ Fin H) ∨ (J.go i H ∧ ∃ Nx : Hp → Prop, (∀ Ha, Nx Ha → ∃ m', m' < m ∧ Wm (i + 1) m' Ha) ∧ ∀ x Ha, J.yld i H x Ha → Tn x Ha Nx) := by
  refine ⟨fun i m H => m = n - i ∧ i ≤ n ∧ Pv i H, ⟨n, by omega, Nat.zero_le _, h0⟩, fun i m H ⟨em, hi, p⟩ => ?_⟩
  have q := hG i H hi p
  by_cases h : i < n
  · exact .inr ⟨w.goes i H h q, Pv (i + 1), fun Ha p2 => ⟨n - (i + 1), by omega, rfl, h, p2⟩, fun x Ha y => hs i x H Ha h p (w.yields i H x Ha h q y)⟩
  · obtain rfl : i = n := by omega
    exact .inl ⟨w.stops H q, hd H p⟩
def tI (X : Cx) (tg iter : Expr) : TI := fun σ H Z => ∃ wi, PI X tg iter wi ∧ wi σ H Z
def tBlkI (X : Cx) (scope : Scope) (tg iter : Expr) : TI := fun σ H Z => Blks X scope fun Y => tI Y tg iter σ H Z
theorem piB {X : Cx} {scope : Scope} {tg iter : Expr} : Blks X scope fun Y => PI Y tg iter (tBlkI X scope tg iter) := fun s H C cl fp => ⟨fun pins s' σ H' Z I h => by
  obtain ⟨wi, p, hw⟩ := h s H C cl fp
  exact p.run pins s' σ H' Z I hw⟩
section
variable {X : Cx} {ρ : List Sl} {tg iter : Expr} {pos : Pos} {r : Rs}
variable {α β κ : Type} [DecidableEq κ] {kx vx : Expr} {ifs : List Expr} {scope : Scope} {g : TG} {vs : List Nat} {wi : TI} {l : List α} {emb : α → D} {mk : D → Rs} {pO : α → Option Bool} {kO : α → Option κ} {vO : α → Option β} {kt : κ → List Key} {eb : β → D} {out : List (κ × β)}
theorem ev_dcPT (inj : ∀ a b, kt a = kt b → a = b) (hw : ItC X tg iter ρ (l.map emb) mk wi) (hb : dcPO pO kO vO l [] = some out) (gs : GSet g vs)
    (ht : ∀ a ∈ l, ∀ c, pO a = some c → TurnX X scope g vs ifs ρ (mk (emb a)) c fun ρ2 => ∀ k, kO a = some k → EXB X scope kx (.sh (eT kt k)) ρ2 ∧ ∀ v, vO a = some v → EXB X scope vx (.sh (eb v)) ρ2) :
    Ev X.K (tDg (.dT []) wi g (tBlkT X scope ifs) (tBlkE X scope kx) (tBlkE X scope vx) vs) ρ (.nw (eDT kt eb out)) := fun B R0 R σ H Q s k => by
  refine hw.2 B R0 R σ H _ s fun J R1 H1 t1 w Dd hD => ?_
  obtain ⟨G, Y, wk, hG, hY⟩ := w.ex
  have s1 := s.step t1
  have ln : (l.map emb).length = l.length := List.length_map ..
  refine walk_go (Tn := fun x Ha Nx => g x (wipe σ vs) Ha fun σ2 H2 => wipe σ2 vs = wipe σ vs ∧ tBlkT X scope ifs σ2 H2 fun b H3 => if b = true then tBlkE X scope kx σ2 H3 fun y H4 => tBlkE X scope vx σ2 H4 fun z H5 => ∃ H6, DPut H5 Dd y z H6 ∧ Nx H6 else Nx H3) wk
    (fun i H => ∃ acc, dcPO pO kO vO (l.drop i) acc = some out ∧ ∃ R kvs, Step R1 H1 R H ∧ R Dd = none ∧ H Dd = some (.dT kvs) ∧ RpK X.K R kvs (acc.map fun p => (kt p.1, eb p.2)))
    ⟨[], hb, R1, [], s1.sub.step.new hD (fun _ z => (nomatch z)) fun _ _ z => (nomatch z), Sm.free s1.sub.rh hD, upd_same, .nil⟩ (fun i H _ ⟨acc, e, R2, kvs, t2, _⟩ => hG R2 H t2) (fun i x H H' hi ⟨acc, e, R2, kvs, t2, nr, hd, ra⟩ y => ?_) fun H ⟨acc, e, R2, kvs, t2, nr, hd, ra⟩ => ?_
  · have hi' : i < l.length := by rw [← ln]; exact hi
    have ha := List.getElem?_eq_getElem hi'
    have hda : (l.map emb)[i]? = some (emb l[i]) := by rw [List.getElem?_map, ha]; rfl
    obtain ⟨R3, t3, r3⟩ := hY i _ hda x R2 H H' t2 y
    obtain ⟨acc', e1, e2⟩ := foldO_step (s0 := acc) ha e
    obtain ⟨c, ec, e1⟩ := bO e1
    obtain ⟨ρ2, gv, tt, te⟩ := ht _ (List.getElem_mem hi') c ec
    have s3 := s1.step (t2.trans t3)
    have sw : St X.K B R0 R3 (wipeS ρ vs) (wipe σ vs) H' := s3.wipe vs
    have q := gv B R0 R3 (wipe σ vs) H' x (fun σ2 H2 => H2 = H' ∧ St X.K B R0 R3 ρ2 σ2 H') sw r3 fun σ2 s2 => ⟨rfl, s2⟩
    refine gs x _ H' _ _ q fun σ2 H2 o2 ⟨e2', s2⟩ => ?_
    subst e2'
    refine ⟨by rw [wipe_only o2, wipe_wipe], fun s H0 C cl fp => tt s H0 C cl fp B R0 R3 σ2 H2 _ s2 fun R4 H4 t4 => ?_⟩
    cases c with
    | false =>
      rw [if_neg Bool.false_ne_true] at e1 ⊢
      cases e1
      have tt4 := t3.trans t4
      have nr4 : R4 Dd = none := tt4.free nr (by rw [hd]; intro z; cases z)
      exact ⟨_, e2, R4, kvs, t2.trans tt4, nr4, tt4.hh.k _ _ hd trivial, RpK.mono tt4.rr ra⟩
    | true =>
      rw [if_pos rfl] at e1 ⊢
      obtain ⟨k1, ek, e1⟩ := bO e1
      obtain ⟨v1, ev, e1⟩ := bO e1
      obtain ⟨hsz, e1⟩ := chk_e e1
      cases e1
      obtain ⟨hk, hv⟩ := te rfl k1 ek
      refine fun s H0 C cl fp => hk s H0 C cl fp B R0 R4 σ2 H4 _ (s2.step t4) fun u R5 H5 t5 q5 => ?_
      refine fun s H0 C cl fp => hv v1 ev s H0 C cl fp B R0 R5 σ2 H5 _ ((s2.step t4).step t5) fun z R6 H6 t6 q6 => ?_
      have q5 : Rp X.K R5 u (.key (kt k1)) := q5
      cases q5 with
      | @key ka _ hka =>
        have tt6 := ((t3.trans t4).trans t5).trans t6
        have hd6 := tt6.hh.k _ _ hd trivial
        have nr6 : R6 Dd = none := tt6.free nr (by rw [hd]; intro z; cases z)
        have ra6 := RpK.mono tt6.rr ra
        have hk6 := t6.rh.k _ _ (t6.rr.k _ _ hka trivial) trivial
        refine ⟨_, DPut.t hd6 hk6 (by rw [ra.len, List.length_map]; exact hsz), _, e2, R6, putK kvs (kt k1) z, (t2.trans tt6).putNew hD nr6 (fun _ z => (nomatch z)) (fun _ _ z => (nomatch z)) (fun _ z => by rw [hd6] at z; cases z), nr6, upd_same, ?_⟩
        rw [← kmap_put inj]
        exact ra6.put q6
  · rw [ln, List.drop_length] at e
    cases e
    exact k _ R2 H (t1.trans t2) ⟨Dd, rfl, Sm.free t1.hh hD, nr, _, hd, ra⟩
theorem ev_dcT (inj : ∀ a b, kt a = kt b → a = b) (hw : ItC X tg iter ρ (l.map emb) mk wi) (hb : dcO kO vO l [] = some out) (gs : GSet g vs)
    (ht : ∀ a ∈ l, TurnX X scope g vs [] ρ (mk (emb a)) true fun ρ2 => ∀ k, kO a = some k → EXB X scope kx (.sh (eT kt k)) ρ2 ∧ ∀ v, vO a = some v → EXB X scope vx (.sh (eb v)) ρ2) :
    Ev X.K (tDg (.dT []) wi g (tBlkT X scope []) (tBlkE X scope kx) (tBlkE X scope vx) vs) ρ (.nw (eDT kt eb out)) :=
  ev_dcPT (pO := fun _ => some true) inj hw (by rw [← hb]; rfl) gs fun a ha c hc => by cases hc; exact ht a ha
end
theorem dr_dr (ρ : List Sl) : dr (dr ρ) = dr ρ := by
  unfold dr
  rw [List.map_map]
  congr 1
  funext s
  cases s with
  | al d =>
    show Sl.dr (Sl.dr (.al d)) = Sl.dr (.al d)
    by_cases h : imm d = true
    · rw [Sl.dr_t h]; rfl
    · rw [Sl.dr_f h]; rfl
  | _ => rfl
theorem St.re' {K : PySem.W.Frag} {B R0 R H : Hp} {ρ : List Sl} {σ : L2.St} {Dd : Addr} {o o' : HO} (s : St K (upd B Dd o) R0 R (dr ρ) σ H) (b0 : B Dd = none) (nr : R Dd = none) (tb : TabsK K B) (nt : NT o') (ntup : ∀ xs, o' ≠ .tup xs) (nfrz : ∀ u v, o' ≠ .frz u v) (nx : ∀ φ, H Dd ≠ some (.ext φ)) (no : ∀ φ, o' ≠ .ext φ := by intro φ z; cases z) : St K (upd B Dd o') R0 R (dr ρ) σ (upd H Dd o') := by
  have := s.re b0 nr tb nt ntup nfrz nx no
  rw [dr_dr] at this
  exact this
theorem St.dr {K : PySem.W.Frag} {B R0 R H : Hp} {ρ : List Sl} {σ : L2.St} (s : St K B R0 R ρ σ H) : St K B R0 R (dr ρ) σ H := by
  obtain ⟨φ, fp⟩ := s.fps
  refine ⟨s.stp, s.tb, by unfold PV.dr; rw [List.length_map]; exact s.len, φ, fun i sl v e1 e2 => ?_, fun i hi => fp.out i (by unfold PV.dr at hi; rw [List.length_map] at hi; exact hi), fp.df⟩
  unfold PV.dr at e1
  rw [List.getElem?_map] at e1
  cases e3 : ρ[i]? with
  | none => rw [e3] at e1; cases e1
  | some s0 =>
    rw [e3] at e1
    cases e1
    have q := fp.sl i s0 v e3 e2
    cases s0 with
    | al d =>
      obtain ⟨q1, x, q2, q3⟩ := q
      by_cases im : imm d = true
      · rw [Sl.dr_t im]
        exact ⟨q1, x, q2, Rp.imm s.stp.tp s.stp.tf q3 im⟩
      · rw [Sl.dr_f im]
        exact q1
    | no => exact q
    | sh d => exact q
    | ow d => exact q
    | od pn d => exact q
section
variable {X : Cx} {ρ : List Sl} {tg iter tg1 iter1 : Expr} {pos : Pos} {r : Rs}
variable {α β γ κ : Type} [DecidableEq κ] {kx vx : Expr} {scope : Scope} {g g1 : TG} {vs vs1 : List Nat} {wi : TI} {l : List α} {emb : α → D} {emb1 : β → D} {mk : D → Rs} {mO : α → Option (List β)} {kO : α → β → Option κ} {vO : α → β → Option γ} {kk : κ → Key} {eb : γ → D} {out : List (κ × γ)}
theorem ev_dc2K (inj : ∀ a b, kk a = kk b → a = b) (hw : ItC X tg iter ρ (l.map emb) mk wi) (hb : dc2O mO kO vO l [] = some out) (gs : GSet g vs) (gs1 : GSet g1 vs1)
    (ht : ∀ a ∈ l, TurnX X scope g vs [] ρ (mk (emb a)) true fun ρ2 => ∀ l2, mO a = some l2 → Blks X scope (fun Y => ItX Y tg1 iter1 (dr ρ2) (l2.map emb1)) ∧
      ∀ b ∈ l2, TurnX X scope g1 vs1 [] (dr ρ2) (.sh (emb1 b)) true fun ρ3 => ∀ k, kO a b = some k → EXB X scope kx (.sh (keyD (kk k))) ρ3 ∧ ∀ v, vO a b = some v → EXB X scope vx (.sh (eb v)) ρ3) :
    Ev X.K (tDg2 (.dK []) wi g (tBlkT X scope []) (tBlkI X scope tg1 iter1) g1 (tBlkT X scope []) (tBlkE X scope kx) (tBlkE X scope vx) vs vs1) ρ (.nw (eDK kk eb out)) := fun B R0 R σ H Q s k => by
  refine hw.2 B R0 R σ H _ s fun J R1 H1 t1 w Dd hD => ?_
  obtain ⟨G, Y, wk, hG, hY⟩ := w.ex
  have s1 := s.step t1
  have b0 : B Dd = none := Sm.free s1.stp.hh hD
  have tB := s.tb
  have ln : (l.map emb).length = l.length := List.length_map ..
  refine walk_go (Tn := fun x Ha Nx => g x (wipe σ vs) Ha fun σ2 H2 => wipe σ2 vs = wipe σ vs ∧ tBlkT X scope [] σ2 H2 fun b H3 => if b = true then tBlkI X scope tg1 iter1 σ2 H3 fun J1 H4 => ∃ Wn : Nat → Nat → Hp → Prop, (∃ m, Wn 0 m H4) ∧ ∀ j k H, Wn j k H → (J1.stop j H ∧ Nx H) ∨
        (J1.go j H ∧ ∃ Ny : Hp → Prop, (∀ Ha, Ny Ha → ∃ k', k' < k ∧ Wn (j + 1) k' Ha) ∧ ∀ x Ha, J1.yld j H x Ha → g1 x (wipe σ2 vs1) Ha fun σ3 H5 =>
          wipe σ3 vs1 = wipe σ2 vs1 ∧ tBlkT X scope [] σ3 H5 fun b H6 => if b = true then tBlkE X scope kx σ3 H6 fun y H7 => tBlkE X scope vx σ3 H7 fun z H8 => ∃ H9, DPut H8 Dd y z H9 ∧ Ny H9 else Ny H6) else Nx H3) wk
    (fun i H => ∃ acc, dc2O mO kO vO (l.drop i) acc = some out ∧ ∃ R kvs, Step R1 H1 R H ∧ R Dd = none ∧ H Dd = some (.dK kvs) ∧ RpK X.K R kvs (acc.map fun p => (kk p.1, eb p.2)))
    ⟨[], hb, R1, [], s1.sub.step.new hD (fun _ z => (nomatch z)) fun _ _ z => (nomatch z), Sm.free s1.sub.rh hD, upd_same, .nil⟩ (fun i H _ ⟨acc, e, R2, kvs, t2, _⟩ => hG R2 H t2) (fun i x H H' hi ⟨acc, e, R2, kvs, t2, nr, hd, ra⟩ y => ?_) fun H ⟨acc, e, R2, kvs, t2, nr, hd, ra⟩ => ?_
  · have hi' : i < l.length := by rw [← ln]; exact hi
    have ha := List.getElem?_eq_getElem hi'
    have hda : (l.map emb)[i]? = some (emb l[i]) := by rw [List.getElem?_map, ha]; rfl
    obtain ⟨R3, t3, r3⟩ := hY i _ hda x R2 H H' t2 y
    obtain ⟨acc', e1, e2⟩ := foldO_step (s0 := acc) ha e
    obtain ⟨l2, em, e1⟩ := bO e1
    obtain ⟨ρ2, gv, tt, te⟩ := ht _ (List.getElem_mem hi')
    have t23 := t2.trans t3
    have nr3 : R3 Dd = none := t3.free nr (by rw [hd]; intro z; cases z)
    have hd3 := t3.hh.k _ _ hd trivial
    have s3 : St X.K (upd B Dd (.dK kvs)) R0 R3 ρ σ H' := s1.far hD t23 hd3 trivial nr3
    have sw := s3.wipe vs
    have q := gv _ R0 R3 (wipe σ vs) H' x (fun σ2 H2 => H2 = H' ∧ St X.K (upd B Dd (.dK kvs)) R0 R3 ρ2 σ2 H') sw r3 fun σ2 s2 => ⟨rfl, s2⟩
    refine gs x _ H' _ _ q fun σ2 H2 o2 ⟨e2', s2⟩ => ?_
    subst e2'
    refine ⟨by rw [wipe_only o2, wipe_wipe], fun s H0 C cl fp => tt s H0 C cl fp _ R0 R3 σ2 H2 _ s2 fun R4 H4 t4 => ?_⟩
    rw [if_pos rfl]
    obtain ⟨hit, hturn⟩ := te rfl l2 em
    intro s' H0' C' cl' fp'
    obtain ⟨wi1, p1, h1⟩ := hit s' H0' C' cl' fp'
    have s4 := (s2.step t4).dr
    refine ⟨wi1, p1, h1 _ R0 R4 σ2 H4 _ s4 fun J1 R5 H5 t5 w1 => ?_⟩
    obtain ⟨G1, Y1, wk1, hG1, hY1⟩ := w1.ex
    have t45 := t4.trans t5
    have nr5 : R5 Dd = none := t45.free nr3 (by rw [hd3]; intro z; cases z)
    have hd5 := t45.hh.k _ _ hd3 trivial
    have ln1 : (l2.map emb1).length = l2.length := List.length_map ..
    refine walk_go (Tn := fun x Ha Ny => g1 x (wipe σ2 vs1) Ha fun σ3 H5 => wipe σ3 vs1 = wipe σ2 vs1 ∧ tBlkT X scope [] σ3 H5 fun b H6 => if b = true then tBlkE X scope kx σ3 H6 fun y H7 => tBlkE X scope vx σ3 H7 fun z H8 => ∃ H9, DPut H8 Dd y z H9 ∧ Ny H9 else Ny H6) wk1
      (fun j H => ∃ acc1, dcO (kO l[i]) (vO l[i]) (l2.drop j) acc1 = some acc' ∧ ∃ R kvs1, Step R1 H1 R H ∧ Sm R5 R ∧ R Dd = none ∧ H Dd = some (.dK kvs1) ∧ RpK X.K R kvs1 (acc1.map fun p => (kk p.1, eb p.2)) ∧ St X.K (upd B Dd (.dK kvs1)) R0 R (dr ρ2) σ2 H)
      ⟨acc, e1, R5, kvs, (t23.trans t45), Sm.refl _, nr5, hd5, RpK.mono (t3.trans t45).rr ra, s4.step t5⟩ (fun j H _ ⟨acc1, _, R, kvs1, t, sm, _⟩ => hG1 R H sm t.sub) (fun j x1 H6 H7 hj ⟨acc1, ej, R6, kvs1, t6, sm, nr6, hd6, ra6, s6⟩ y1 => ?_) fun H ⟨acc1, ej, R6, kvs1, t6, sm, nr6, hd6, ra6, s6⟩ => ?_
    · have hj' : j < l2.length := by rw [← ln1]; exact hj
      have hb1 := List.getElem?_eq_getElem hj'
      have hdb : (l2.map emb1)[j]? = some (emb1 l2[j]) := by rw [List.getElem?_map, hb1]; rfl
      obtain ⟨R7, t7, r7⟩ := hY1 j _ hdb x1 R6 H6 H7 sm t6.sub y1
      obtain ⟨acc2, f1, f2⟩ := foldO_step (s0 := acc1) hb1 ej
      obtain ⟨k1, ek, f1⟩ := bO f1
      obtain ⟨v1, ev, f1⟩ := bO f1
      obtain ⟨hsz, f1⟩ := chk_e f1
      cases f1
      obtain ⟨ρ3, gv1, tt1, te1⟩ := hturn _ (List.getElem_mem hj')
      have s7 := s6.step t7
      have q1 := gv1 _ R0 R7 (wipe σ2 vs1) H7 x1 (fun σ3 H8 => H8 = H7 ∧ St X.K (upd B Dd (.dK kvs1)) R0 R7 ρ3 σ3 H7) (s7.wipe vs1) r7 fun σ3 s3 => ⟨rfl, s3⟩
      refine gs1 x1 _ H7 _ _ q1 fun σ3 H8 o3 ⟨e3', s8⟩ => ?_
      subst e3'
      refine ⟨by rw [wipe_only o3, wipe_wipe], fun s H0 C cl fp => tt1 s H0 C cl fp _ R0 R7 σ3 H8 _ s8 fun R9 H9 t9 => ?_⟩
      rw [if_pos rfl]
      obtain ⟨hk, hv⟩ := te1 rfl k1 ek
      refine fun s H0 C cl fp => hk s H0 C cl fp _ R0 R9 σ3 H9 _ (s8.step t9) fun u Ra Ha ta qa => ?_
      refine fun s H0 C cl fp => hv v1 ev s H0 C cl fp _ R0 Ra σ3 Ha _ ((s8.step t9).step ta) fun z Rb Hb tb qb => ?_
      have tz := ((t7.trans t9).trans ta).trans tb
      have hdb := tz.hh.k _ _ hd6 trivial
      have nrb : Rb Dd = none := tz.free nr6 (by rw [hd6]; intro z; cases z)
      have sz : kvs1.length < sizeLine := by rw [ra6.len, List.length_map]; exact hsz
      refine ⟨upd Hb Dd (.dK (putK kvs1 (kk k1) z)), by rw [keyV qa]; exact DPut.k hdb sz, _, f2, Rb, putK kvs1 (kk k1) z, (t6.trans tz).putNew hD nrb (fun _ z => (nomatch z)) (fun _ _ z => (nomatch z)) (fun _ z => by rw [hdb] at z; cases z), sm.trans tz.rr, nrb, upd_same, ?_, ?_⟩
      · rw [← kmap_put inj]
        exact (RpK.mono tz.rr ra6).put qb
      · exact (s6.step tz).re' b0 nrb tB trivial (fun _ z => nomatch z) (fun _ _ z => nomatch z) (fun _ z => by rw [hdb] at z; cases z)
    · rw [ln1, List.drop_length] at ej
      cases ej
      exact ⟨acc', e2, R6, kvs1, t6, nr6, hd6, ra6⟩
  · rw [ln, List.drop_length] at e
    cases e
    exact k _ R2 H (t1.trans t2) ⟨Dd, rfl, Sm.free t1.hh hD, nr, _, hd, ra⟩
end
end PV

namespace PV
open PySem PySem.Spec PyProof.Rows L2 SH
section
variable {X : Cx} {W : L2.WX} {ρ ρ' : List Sl} {pos : Pos} {a b c e o ix tg iter : Expr} {P : Post} {K : PySem.W.Frag} {r : Rs} {α β : Type}
theorem any_eqv {em : α → D} [DecidableEq α] [SOk α] {n : Nat} [i : Eqv em n] (x : α) : ∀ l : List α, (toPyA (l.map em)).any (fun z => PyData.eqv z (toPy (em x))) = memB x l
  | [] => (decide_eq_false (fun z => nomatch z)).symm
  | y :: l => by
    unfold memB
    show (PyData.eqv (toPy (em y)) (toPy (em x)) || (toPyA (l.map em)).any _) = _
    rw [i.ev, any_eqv x l]
    unfold memB
    by_cases h : y = x
    · subst h
      rw [decide_eq_true rfl, decide_eq_true List.mem_cons_self]; rfl
    · rw [decide_eq_false h, Bool.false_or]
      by_cases h2 : x ∈ l
      · rw [decide_eq_true h2, decide_eq_true (List.mem_cons_of_mem _ h2)]
      · rw [decide_eq_false h2, decide_eq_false (fun z => (List.mem_cons.mp z).elim (fun e => h e.symm) h2)]
theorem o2_inD {ra rb : Rs} {ds : List D} (e : rb.dat = .lst ds) (ha : okD ra.dat = true) (hb : okD rb.dat = true) : Op2 K (rInD K) ra rb (.sh (.bl ((toPyA ds).any fun z => PyData.eqv z (toPy ra.dat)))) := fun H0 R H x y Q s _ rx ry k => by
  obtain ⟨n1, s1⟩ := Bool.and_eq_true_iff.mp ha
  obtain ⟨n2, s2⟩ := Bool.and_eq_true_iff.mp hb
  have q1 := (rx.rp s).dp n1
  have q2 := (ry.rp s).dp n2
  rw [e] at q2 s2
  exact ⟨_, toPyA ds, q1, q2, s1, s2, k _ R H s.step (Rp.bl _)⟩
theorem o2_notinD {ra rb : Rs} {ds : List D} (e : rb.dat = .lst ds) (ha : okD ra.dat = true) (hb : okD rb.dat = true) : Op2 K (rNotInD K) ra rb (.sh (.bl (!(toPyA ds).any fun z => PyData.eqv z (toPy ra.dat)))) := fun H0 R H x y Q s _ rx ry k => by
  obtain ⟨n1, s1⟩ := Bool.and_eq_true_iff.mp ha
  obtain ⟨n2, s2⟩ := Bool.and_eq_true_iff.mp hb
  have q1 := (rx.rp s).dp n1
  have q2 := (ry.rp s).dp n2
  rw [e] at q2 s2
  exact ⟨_, toPyA ds, q1, q2, s1, s2, k _ R H s.step (Rp.bl _)⟩
section
variable {ra rb : Rs} (em : α → D) [DecidableEq α] [SOk α] {n : Nat} [i : Eqv em n] {x : α} {l : List α}
theorem ex_inLE (hu : X.A.units + 100 < cLine) (h1 : EX X a ρ ra) (h2 : EX X b ρ rb) (q1 : ra.dat = em x) (q2 : rb.dat = eL em l) (hk : sok x = true ∧ sok l = true) (hn : n + 1 ≤ 64 := by decide) (hm : behindInMarks .In b = false := by rfl) : EX X (.Compare a [.In] [b] pos) ρ (.sh (.bl (memB x l))) :=
  ex_cv (ex_cmp (op_inD (by omega)) (o2_inD q2 (eqv_ok q1 hk.1 (by omega)) (eqv_ok (em := eL em) q2 hk.2 hn)) h1 h2 hm) (by rw [q1, any_eqv])
theorem ex_notinLE (hu : X.A.units + 100 < cLine) (h1 : EX X a ρ ra) (h2 : EX X b ρ rb) (q1 : ra.dat = em x) (q2 : rb.dat = eL em l) (hk : sok x = true ∧ sok l = true) (hn : n + 1 ≤ 64 := by decide) (hm : behindInMarks .NotIn b = false := by rfl) : EX X (.Compare a [.NotIn] [b] pos) ρ (.sh (.bl (!memB x l))) :=
  ex_cv (ex_cmp (op_notInD (by omega)) (o2_notinD q2 (eqv_ok q1 hk.1 (by omega)) (eqv_ok (em := eL em) q2 hk.2 hn)) h1 h2 hm) (by rw [q1, any_eqv])
theorem tx_inLE (hu : X.A.units + 100 < cLine) (h1 : EX X a ρ ra) (h2 : EX X b ρ rb) (q1 : ra.dat = em x) (q2 : rb.dat = eL em l) (hk : sok x = true ∧ sok l = true) (hn : n + 1 ≤ 64 := by decide) (hm : behindInMarks .In b = false := by rfl) : TX X (.Compare a [.In] [b] pos) ρ (memB x l) :=
  tx_cv (tx_cmp (op_inD (by omega)) (o2_inD q2 (eqv_ok q1 hk.1 (by omega)) (eqv_ok (em := eL em) q2 hk.2 hn)) h1 h2 hm) (by rw [q1, any_eqv])
theorem tx_notinLE (hu : X.A.units + 100 < cLine) (h1 : EX X a ρ ra) (h2 : EX X b ρ rb) (q1 : ra.dat = em x) (q2 : rb.dat = eL em l) (hk : sok x = true ∧ sok l = true) (hn : n + 1 ≤ 64 := by decide) (hm : behindInMarks .NotIn b = false := by rfl) : TX X (.Compare a [.NotIn] [b] pos) ρ (!memB x l) :=
  tx_cv (tx_cmp (op_notInD (by omega)) (o2_notinD q2 (eqv_ok q1 hk.1 (by omega)) (eqv_ok (em := eL em) q2 hk.2 hn)) h1 h2 hm) (by rw [q1, any_eqv])
end
theorem ex_disp1K {κ : Type} [DecidableEq κ] {kx vx : Expr} {kk : κ → Key} {em : α → D} {k : κ} {v : α} (hk : EX X kx ρ (.sh (keyD (kk k)))) (hv : EX X vx ρ (.sh (em v))) : EX X (.Dict [some kx] [vx] pos) ρ (.nw (eDK kk em [(k, v)])) :=
  .of (pe_disp (pps_cons pe_sem pe_sem pps_nil) rfl rfl (fun z => nomatch z) (show 1 ≤ 15 by decide)) fun B R0 R σ H Q s kc => by
    intro p hp
    have t0 : Step R H R (upd H p (.dK [])) := s.sub.step.new hp (fun _ z => nomatch z) fun _ _ z => nomatch z
    refine hk B R0 R σ _ _ (s.step t0) fun y R1 H1 t1 q1 => hv B R0 R1 σ H1 _ ((s.step t0).step t1) fun z R2 H2 t2 q2 => ?_
    have t12 := t1.trans t2
    have hp2 : H2 p = some (.dK []) := t12.hh.k _ _ upd_same trivial
    have nr : R p = none := Sm.free s.sub.rh hp
    have nr2 : R2 p = none := t12.free nr (by rw [upd_same]; intro z; cases z)
    refine ⟨hp2, [(kk k, z)], by rw [keyV q1]; rfl, (show 1 ≤ 15 by decide), ?_⟩
    refine kc _ R2 _ ((t0.trans t12).putNew hp nr2 (fun _ z => nomatch z) (fun _ _ z => nomatch z) (fun _ z => by rw [hp2] at z; cases z)) ⟨p, rfl, hp, nr2, _, upd_same, ?_⟩
    exact RpK.cons q2 .nil
theorem sw_cellD {kx vx : Expr} {gs : List Comprehension} {scope : Scope} {py : Pos} {y : Str} {ln : Nat} {env : Env} (hy : env.scope.names.lookup y = some .cell) : swapsWith (.DictComp kx vx gs scope pos) (some (.Name y py)) ln env = pure false := by
  have e1 : env.kindOf y = some .cell := hy
  unfold swapsWith
  simp only [e1]
  rw [show (some NameKind.cell == some NameKind.local) = false from rfl, Bool.and_false, Bool.false_and, Bool.false_and]
theorem sw_cellL {elt : Expr} {gs : List Comprehension} {scope : Scope} {py : Pos} {y : Str} {ln : Nat} {env : Env} (hy : env.scope.names.lookup y = some .cell) : swapsWith (.ListComp elt gs scope pos) (some (.Name y py)) ln env = pure false := by
  have e1 : env.kindOf y = some .cell := hy
  unfold swapsWith
  simp only [e1]
  rw [show (some NameKind.cell == some NameKind.local) = false from rfl, Bool.and_false, Bool.false_and, Bool.false_and]
theorem on_sortDI {eb : α → PV.D} {d : List (Int × α)} (e1 : r.dat = eDK kI eb d) (hl : d.length < 64) : OpN K (fun xs H Q => ∃ (a : Addr) (kvs : List (Key × V)) (ks : List Int), xs = [.ref a] ∧ Rd H a (.dK kvs) ∧ kvs.map (·.1) = ks.map Sum.inl ∧ ks.length < 64 ∧
    ∀ (ys : List Int) (p : Addr), ys.Perm ks → ys.Pairwise (· ≤ ·) → H p = none → Q (.ref p) (upd H p (.lst (ys.map V.int)))) [r] (.nw (eL D.int (sortI (d.map (·.1))))) := fun H0 R H xs Q s s0 rs k => by
  obtain ⟨v, rfl, h⟩ := rs.one
  obtain ⟨p, kvs, rfl, h1, h2⟩ := PV.dk_of s h e1
  refine ⟨p, kvs, d.map (·.1), rfl, .inl h1, ?_, by rw [List.length_map]; exact hl, fun ys l hp hs nl => ?_⟩
  · rw [h2.fst, List.map_map, List.map_map]; rfl
  · rw [sortI_of hp hs]
    exact new_lst s s0 nl (RpA.of_ints _) k
theorem it_revR {j : Int} {p p2 q : Pos} (hg : Gl X "reversed") (hm : X.mg "reversed" = none) (hg2 : Gl X "range") (hm2 : X.mg "range" = none) (ha : EX X a ρ (.sh (.int j))) (hj : rngOk j)
    (hst : starEach [a] X.env = (false, eval a X.env) :: starEach [] X.env := by rfl) (hst2 : starEach [.Call (.Name "range" p2) [a] [] q] X.env = (false, eval (.Call (.Name "range" p2) [a] [] q) X.env) :: starEach [] X.env := by rfl) : ItX X tg (.Call (.Name "reversed" p) [.Call (.Name "range" p2) [a] [] q] [] pos) ρ ((rangeI j).reverse.map D.int) :=
  ⟨_, pi_revR hg hm (prg_1 hg2 hm2 pe_sem hst) hst2, fun B R0 R σ H Z s k => ha B R0 R σ H _ s fun v R1 H1 t1 q1 => by
    have ev := is_int _ _ q1
    have ln : (j - 0).toNat = ((rangeI j).reverse.map D.int).length := by rw [List.length_map, List.length_reverse, rangeI_len, Int.sub_zero]
    have hj' := hj
    unfold rngOk at hj'
    refine ⟨j, ev, by decide, by decide, hj'.1, hj'.2, k _ R1 H1 t1 ⟨_, _, by rw [← ln]; exact walk_rangeC (lo := 0 + (((j - 0).toNat : Nat) : Int) - 1) (c := -1), fun _ _ _ _ => trivial, fun i d hd x R H H' s t y => ?_⟩⟩
    obtain ⟨rfl, rfl⟩ := y
    have hi : i < j.toNat := by
      have := (List.getElem?_eq_some_iff.mp hd).1
      rw [← ln, Int.sub_zero] at this
      exact this
    rw [List.getElem?_map, List.getElem?_reverse (by rw [rangeI_len]; exact hi), rangeI_len] at hd
    unfold rangeI at hd
    rw [List.getElem?_map, List.getElem?_range (by omega)] at hd
    cases hd
    refine ⟨R, t.step, ?_⟩
    have : 0 + (((j - 0).toNat : Nat) : Int) - 1 + (i : Nat) * (-1) = ((j.toNat - 1 - i : Nat) : Int) := by omega
    show Rp X.K R (.int (0 + (((j - 0).toNat : Nat) : Int) - 1 + (i : Nat) * (-1))) (.int ((j.toNat - 1 - i : Nat) : Int))
    rw [this]
    exact Rp.int _⟩
variable {CX : CXT} {E : XK} {k : Nat} {f : Addr} {fd : FuncData} {ps : List Str} {Rel : List V → List Sl → Rs → List Sl → Prop} {x : Str} {p : Pos} {es : List Expr} {as : List AI} {d : D}
theorem exs_callI (F : FnOk X.prog X.w X.K X.mg X.base CX k f fd ps (spI X.K Rel)) (hr : Room k X.A) (hg : Gl X x) (hm : X.mg x = some (.ref f)) (hk : PySem.W.keepIn X.K (.ref f) = true) (hb : Binds X.K fd ps []) (hx : Passes CX X E)
    (ha : AXI X (e :: es) ρ as) (nd : (ioIx as).Nodup) (hR : ∀ vs, vs.length = as.length → Rel vs (argSl vs as) (.sh d) (outSl vs as))
    (hdb : (x == ("__debug__" : Str)) = false := by decide) (he : starEach (e :: es) X.env = (false, eval e X.env) :: starEach es X.env := by rfl) (hpl : (backTo pos (starEach es X.env)).any (·.1) = false := by rfl) :
    EXS X (.Call (.Name x p) (e :: es) [] pos) ρ d (setAll (dr ρ) (ioIx as) (ioOut as)) :=
  .of (pe_call F hr hg hm hk hb .nil hx pa_sem hdb he hpl) fun B R0 R σ H Q s kk => ha B R0 R σ H _ s fun vs R1 H1 t1 q1 => by
    show spI X.K Rel (vs ++ []) H1 _ E
    rw [List.append_nil]
    exact call_io (s.step t1) q1 nd (hR vs q1.len.1) fun v R' H' B' s' m q => kk v R' H' s' (t1.rr.trans m) q
def ItCS (X : Cx) (tg iter : Expr) (ρ ρ' : List Sl) (ds : List D) (wi : TI) : Prop := PI X tg iter wi ∧ ∀ B R0 R σ H (Z : It → Hp → Prop), St X.K B R0 R ρ σ H → (∀ J R1 H1, St X.K B R0 R1 ρ' σ H1 → Sm R R1 → WkC X.K J R1 H1 ds .sh → Z J H1) → wi σ H Z
theorem it_listS {ds : List D} (hi : EXS X iter ρ (.lst ds) ρ') : ∃ wi, ItCS X tg iter ρ ρ' ds wi := ⟨_, pi_list pe_sem, fun B R0 R σ H Z s k => hi B R0 R σ H _ s fun v R1 H1 s1 m1 q1 => by
  obtain ⟨p, xs, rfl, hx, hr⟩ := (show Rp X.K R1 v (.lst ds) from q1).lst'
  exact ⟨p, rfl, ⟨xs, SqL.of (s1.sub.rh.k _ _ hx trivial)⟩, k _ R1 H1 s1 m1 (wk_seqL hx hr).c⟩⟩
def EvS (K : PySem.W.Frag) (t : TE) (ρ : List Sl) (r : Rs) (ρ' : List Sl) : Prop := ∀ B R0 R σ H (Q : VK), St K B R0 R ρ σ H → (∀ v R1 H1 R' H', St K B R0 R1 ρ' σ H1 → Sm R R1 → Step R1 H1 R' H' → Res K H1 R' H' v r → Q v H') → t σ H Q
def EXR (X : Cx) (e : Expr) (ρ : List Sl) (r : Rs) (ρ' : List Sl) : Prop := EvS X.K (tE X e) ρ r ρ'
section
variable {elt : Expr} {ifs : List Expr} {scope : Scope} {own : List (Str × Nat)} {g : TG} {wi : TI} {l : List α} {emb : α → D} {pO : α → Option Bool} {fO : α → Option β} {eb : β → D} {bs : List β} {vs : List Nat}
theorem ev_lcXS (hw : ItCS X tg iter ρ ρ' (l.map emb) wi) (hb : compO pO fO l = some bs) (gs : GSet g vs) (hl : l.length ≤ sizeLine)
    (ht : ∀ a ∈ l, ∀ k, pO a = some k → TurnX X scope g vs ifs ρ' (.sh (emb a)) k fun ρ2 => ∀ b, fO a = some b → EXB X scope elt (.sh (eb b)) ρ2) :
    EvS X.K (tLc wi g (tBlkT X scope ifs) (tBlkE X scope elt) vs) ρ (.nw (eL eb bs)) ρ' := fun B R0 R σ H Q s k =>
  hw.2 B R0 R σ H _ s fun J R1 H1 s1 m1 w => lcX_core s1 w hb gs hl ht fun v R' H' t q => k v R1 H1 R' H' s1 m1 t q
theorem exr_lcM (hi : ∃ wi, ItCS X tg iter ρ ρ' (l.map emb) wi) (hc : X.calm = true) (hN : X.N.Nodup) (ok : BlkOk X.N X.env.scope scope own) (hg : Blks X scope fun Y => PG Y tg g)
    (h : ∀ wi, ItCS X tg iter ρ ρ' (l.map emb) wi → EvS X.K (tLc wi g (tBlkT X scope ifs) (tBlkE X scope elt) (own.map (·.2))) ρ r ρ') (hs : ∀ x, foldedSetIterable iter X.env x = pure x := by intro _; rfl) : EXR X (.ListComp elt [⟨tg, iter, ifs, 0⟩] scope pos) ρ r ρ' := by
  obtain ⟨wi, itw⟩ := hi
  exact fun B R0 R σ H Q s k pins sh I => (pe_lc hc hN itw.1 ok hg ptB peB hs).run pins sh σ H Q I (h wi itw B R0 R σ H Q s k)
theorem sx_extS {i : Nat} {m : List α} {em : α → D} {l : List α} {apos cpos : Pos} (po : PE X o (tVar i)) (hi : ρ[i]? = some (.ow (eL em l))) (hi' : ρ'[i]? = some (.ow (eL em l))) (he : EXR X e ρ r ρ') (q : r.dat = eL em m) (sh : Sharable r (m.map em)) (hl : l.length + m.length ≤ sizeLine) (h : P.nx ((dr ρ').set i (.ow (eL em (l ++ m)))))
    (hbase : attributeBase o "extend" X.env (eval o X.env) = eval o X.env := by rfl)
    (hfew : ((backTo cpos (starEach [e] X.env)).all (fun x => !x.1) && (backToKw cpos (keywordEach [] X.env)).all (fun x => x.1.isSome)
      && decide (([e] : List Expr).length + ([] : List Keyword).length + (if ([] : List Keyword).isEmpty then 0 else 1) < 30)) = true := by rfl)
    (hline : (apos.endLine == cpos.line) = true := by rfl) (hst : starEach [e] X.env = (false, eval e X.env) :: starEach [] X.env := by rfl) (hplain : (backTo cpos (starEach [] X.env)).any (·.1) = false := by rfl)
    (hs : swapsWith (.Call (.Attribute o "extend" apos) [e] [] cpos) none pos.line X.env = pure false := by rfl) : SX X W (.Expr (.Call (.Attribute o "extend" apos) [e] [] cpos) pos) ρ P :=
  .of (ps_expr (pe_bm PySem.F.plainAttrs_list PySem.F.slot_list_extend PySem.F.type_list_extend mt_extend po (pa_cons pe_sem pa_nil hst) hbase hfew hline hst hplain) hs) fun B R0 R σ H D s n => by
    obtain ⟨p, xs, ep, hp, hx⟩ := s.own hi
    refine ⟨.ref p, ep, .inl ⟨rfl, xs, SqL.of hp⟩, he B R0 R σ H _ s fun v R1 H1 R' H' s1 m1 t q1 => ?_⟩
    obtain ⟨p', xs', ep', hp', hx'⟩ := s1.own hi'
    rw [ep] at ep'
    cases ep'
    have hp2 := t.hh.k _ _ hp' trivial
    obtain ⟨b, ys, rfl, h1, h2⟩ := items_ofL t.sub q1 q sh
    refine ⟨p, b, xs', ys, rfl, rfl, hp2, h1, ?_, n.nx _ R' _ _ h (s1.wr hi' ep t (show RpA X.K R' (xs' ++ ys) ((l ++ m).map em) from by rw [List.map_append]; exact (RpA.mono t.rr hx').app h2))⟩
    rw [hx'.len, h2.len, List.length_map, List.length_map]; exact hl
end
end
section
variable {X : Cx} {W : L2.WX} {ρ : List Sl} {pos : Pos} {P : Post} {r : Rs} {kx vx tg iter tg1 iter1 : Expr} {ifs ifs1 : List Expr} {scope : Scope} {own : List (Str × Nat)} {vs1 : List Nat} {g g1 : TG} {ds : List D} {mk : D → Rs} {e0 : HO}
theorem ex_dgM (em : EmD e0) (room : X.A.units + 1 < cLine) (hi : ∃ wi, ItC X tg iter ρ ds mk wi) (hc : X.calm = true) (hN : X.N.Nodup) (ok : BlkOk X.N X.env.scope scope own) (hg : Blks X scope fun Y => PG Y tg g)
    (h : ∀ wi, ItC X tg iter ρ ds mk wi → Ev X.K (tDg e0 wi g (tBlkT X scope ifs) (tBlkE X scope kx) (tBlkE X scope vx) (own.map (·.2))) ρ r) (hs : ∀ x, foldedSetIterable iter X.env x = pure x := by intro _; rfl) : EX X (.DictComp kx vx [⟨tg, iter, ifs, 0⟩] scope pos) ρ r := by
  obtain ⟨wi, itw⟩ := hi
  exact .of (pe_dg hc room hN itw.1 ok em hg ptB peB peB hs) (h wi itw)
theorem sx_setDgM {i : Nat} {y : Str} {py spos : Pos} (em : EmD e0) (room : X.A.units + 1 < cLine) (hi : ∃ wi, ItC X tg iter ρ ds mk wi) (hc : X.calm = true) (hN : X.N.Nodup) (hy : X.N[i]? = some y) (hyl : X.env.scope.names.lookup y = some .local)
    (hsw : swapsWith (.DictComp kx vx [⟨tg, iter, ifs, 0⟩] scope pos) (some (.Name y py)) spos.line X.env = pure true) (ok : BlkOk X.N X.env.scope scope own) (hg : Blks X scope fun Y => PG Y tg g)
    (h : ∀ wi, ItC X tg iter ρ ds mk wi → Ev X.K (tDg e0 wi g (tBlkT X scope ifs) (tBlkE X scope kx) (tBlkE X scope vx) (own.map (·.2))) ρ r) (hP : P.nx (ρ.set i r.sl))
    (hs : ∀ x, foldedSetIterable iter X.env x = pure x := by intro _; rfl) : SX X W (.Assign [.Name y py] (.DictComp kx vx [⟨tg, iter, ifs, 0⟩] scope pos) spos) ρ P := by
  obtain ⟨wi, itw⟩ := hi
  exact .of (ps_setDg hc room hN hy hyl hsw itw.1 ok em hg ptB peB peB hs) fun B R0 R σ H D s n => (h wi itw) B R0 R σ H _ s fun v R' H' t q => n.nx _ R' _ H' hP (s.set t q i)
theorem ex_dg2M (em : EmD e0) (room : X.A.units + 1 < cLine) (sub : ∀ i ∈ vs1, i ∈ own.map (·.2)) (hg1 : Blks X scope fun Y => PG Y tg1 g1) (hi : ∃ wi, ItC X tg iter ρ ds mk wi) (hc : X.calm = true) (hN : X.N.Nodup) (ok : BlkOk X.N X.env.scope scope own) (hg : Blks X scope fun Y => PG Y tg g)
    (h : ∀ wi, ItC X tg iter ρ ds mk wi → Ev X.K (tDg2 e0 wi g (tBlkT X scope ifs) (tBlkI X scope tg1 iter1) g1 (tBlkT X scope ifs1) (tBlkE X scope kx) (tBlkE X scope vx) (own.map (·.2)) vs1) ρ r)
    (hs : ∀ x, foldedSetIterable iter X.env x = pure x := by intro _; rfl) (hs1 : ∀ env x, foldedSetIterable iter1 env x = pure x := by intro _ _; rfl) : EX X (.DictComp kx vx [⟨tg, iter, ifs, 0⟩, ⟨tg1, iter1, ifs1, 0⟩] scope pos) ρ r := by
  obtain ⟨wi, itw⟩ := hi
  exact .of (pe_dg2 hc room hN itw.1 ok em sub hg ptB piB hg1 ptB peB peB hs hs1) (h wi itw)
theorem sx_setDg2M {i : Nat} {y : Str} {py spos : Pos} (em : EmD e0) (room : X.A.units + 1 < cLine) (sub : ∀ i ∈ vs1, i ∈ own.map (·.2)) (hg1 : Blks X scope fun Y => PG Y tg1 g1) (hi : ∃ wi, ItC X tg iter ρ ds mk wi) (hc : X.calm = true) (hN : X.N.Nodup) (hy : X.N[i]? = some y) (hyl : X.env.scope.names.lookup y = some .local)
    (hsw : swapsWith (.DictComp kx vx [⟨tg, iter, ifs, 0⟩, ⟨tg1, iter1, ifs1, 0⟩] scope pos) (some (.Name y py)) spos.line X.env = pure true) (ok : BlkOk X.N X.env.scope scope own) (hg : Blks X scope fun Y => PG Y tg g)
    (h : ∀ wi, ItC X tg iter ρ ds mk wi → Ev X.K (tDg2 e0 wi g (tBlkT X scope ifs) (tBlkI X scope tg1 iter1) g1 (tBlkT X scope ifs1) (tBlkE X scope kx) (tBlkE X scope vx) (own.map (·.2)) vs1) ρ r) (hP : P.nx (ρ.set i r.sl))
    (hs : ∀ x, foldedSetIterable iter X.env x = pure x := by intro _; rfl) (hs1 : ∀ env x, foldedSetIterable iter1 env x = pure x := by intro _ _; rfl) : SX X W (.Assign [.Name y py] (.DictComp kx vx [⟨tg, iter, ifs, 0⟩, ⟨tg1, iter1, ifs1, 0⟩] scope pos) spos) ρ P := by
  obtain ⟨wi, itw⟩ := hi
  exact .of (ps_setDg2 hc room hN hy hyl hsw itw.1 ok em sub hg ptB piB hg1 ptB peB peB hs hs1) fun B R0 R σ H D s n => (h wi itw) B R0 R σ H _ s fun v R' H' t q => n.nx _ R' _ H' hP (s.set t q i)
end
end PV

namespace PV
open PySem PySem.Spec PyProof.Rows L2 SH
section
variable {X : Cx} {W : L2.WX} {ρ ρ' : List Sl} {pos : Pos} {a b c e o ix : Expr} {es : List Expr} {P : Post} {r : Rs} {α : Type} {em : α → D} {l : List α} {v : α} {d : D} {ds : List D}
theorem exs_pop0E {i : Nat} {apos cpos : Pos} (po : PE X o (tVar i)) (hi : ρ[i]? = some (.ow (eL em l))) (hj : EX X ix ρ (.sh (.int 0))) (hd : l.head? = some v)
    (hbase : attributeBase o "pop" X.env (eval o X.env) = eval o X.env := by rfl)
    (hfew : ((backTo cpos (starEach [ix] X.env)).all (fun x => !x.1) && (backToKw cpos (keywordEach [] X.env)).all (fun x => x.1.isSome)
      && decide (([ix] : List Expr).length + ([] : List Keyword).length + (if ([] : List Keyword).isEmpty then 0 else 1) < 30)) = true := by rfl)
    (hline : (apos.endLine == cpos.line) = true := by rfl) (hst : starEach [ix] X.env = (false, eval ix X.env) :: starEach [] X.env := by rfl) (hplain : (backTo cpos (starEach [] X.env)).any (·.1) = false := by rfl) :
    EXS X (.Call (.Attribute o "pop" apos) [ix] [] cpos) ρ (em v) ((dr ρ).set i (.ow (eL em l.tail))) := by
  cases l with
  | nil => cases hd
  | cons x l =>
    cases hd
    exact exs_popI (m := 0) (ds := (v :: l).map em) po hi hj ⟨by decide, by decide⟩ (by show seqIndex? 0 ((v :: l).map em).length = some 0; unfold seqIndex?; rw [List.length_map, List.length_cons]; simp) rfl hbase hfew hline hst hplain
def AXS (X : Cx) (es : List Expr) (ρ : List Sl) (ds : List D) (ρ' : List Sl) : Prop := ∀ B R0 R σ H (Q : List V → Hp → Prop), St X.K B R0 R ρ σ H → (∀ vs R' H', St X.K B R0 R' ρ' σ H' → Sm R R' → RpA X.K R' vs ds → Q vs H') → tA X es σ H Q
theorem axs_nil : AXS X [] ρ [] ρ := fun B R0 R σ H Q s k ps pins sh I => pa_nil.run ps pins sh σ H Q I (k [] R H s (Sm.refl R) .nil)
theorem axs_cons {ρ1 : List Sl} (ha : EXS X e ρ d ρ1) (hr : AXS X es ρ1 ds ρ') (hs : starEach (e :: es) X.env = (false, eval e X.env) :: starEach es X.env := by rfl) : AXS X (e :: es) ρ (d :: ds) ρ' := fun B R0 R σ H Q s k ps pins sh I =>
  (pa_cons pe_sem pa_sem hs).run ps pins sh σ H Q I (ha B R0 R σ H _ s fun x R1 H1 s1 m1 q1 => hr B R0 R1 σ H1 _ s1 fun vs R2 H2 s2 m2 q2 => k _ R2 H2 s2 (m1.trans m2) (.cons (Rp.mono m2 q1) q2))
theorem axs_ex (ha : EX X e ρ (.sh d)) (hr : AXS X es ρ ds ρ') (hs : starEach (e :: es) X.env = (false, eval e X.env) :: starEach es X.env := by rfl) : AXS X (e :: es) ρ (d :: ds) ρ' := axs_cons (exs_ex ha) hr hs
variable {CX : CXT} {E : XK} {k : Nat} {f : Addr} {fd : FuncData} {ps : List Str} {Rel : List D → Rs → Prop} {x : Str} {p : Pos}
theorem exs_call (F : FnOk X.prog X.w X.K X.mg X.base CX k f fd ps (spR X.K Rel)) (hr : Room k X.A) (hg : Gl X x) (hm : X.mg x = some (.ref f)) (hk : PySem.W.keepIn X.K (.ref f) = true) (hb : Binds X.K fd ps []) (hx : Passes CX X E)
    (ha : AXS X (e :: es) ρ ds ρ') (hR : Rel ds (.sh d)) (hdb : (x == ("__debug__" : Str)) = false := by decide) (he : starEach (e :: es) X.env = (false, eval e X.env) :: starEach es X.env := by rfl) (hpl : (backTo pos (starEach es X.env)).any (·.1) = false := by rfl) :
    EXS X (.Call (.Name x p) (e :: es) [] pos) ρ d ρ' := .of (pe_call F hr hg hm hk hb .nil hx pa_sem hdb he hpl) fun B R0 R σ H Q s kk => ha B R0 R σ H _ s fun vs R1 H1 s1 m1 q1 => by
  show spR X.K Rel (vs ++ []) H1 Q E
  rw [List.append_nil]
  exact ⟨R1, ds, _, s1.tabs, s1.sub, q1, hR, fun v R' H' t q => kk v R' H' (s1.step t) (m1.trans t.rr) q⟩
def TXS (X : Cx) (e : Expr) (ρ : List Sl) (k : Bool) (ρ' : List Sl) : Prop := ∀ B R0 R σ H (Q : Bool → Hp → Prop), St X.K B R0 R ρ σ H → (∀ R' H', St X.K B R0 R' ρ' σ H' → Sm R R' → Q k H') → tT X e σ H Q
theorem txs_val {k : Bool} (h : EXS X e ρ (.bl k) ρ') (he : ∀ whole, isTrue e X.env whole = (do let v ← whole; standAt e.pos; holding [v] (truthy v)) := by intro _; rfl) : TXS X e ρ k ρ' := fun B R0 R σ H Q s kk pins sh I =>
  (pt_truth pe_sem he).run pins sh σ H Q I (h B R0 R σ H _ s fun v R1 H1 s1 m1 q1 => by
    cases q1
    exact ⟨k, by first | exact rfl | simp [tTest], kk R1 H1 s1 m1⟩)
theorem txs_not {k : Bool} (h : TXS X a ρ k ρ') : TXS X (.UnaryOp .Not a pos) ρ (!k) ρ' := fun B R0 R σ H Q s kk pins sh I => (pt_not pt_sem).run pins sh σ H Q I (h B R0 R σ H _ s fun R1 H1 s1 m1 => kk R1 H1 s1 m1)
theorem sx_ifOrS {j k : Bool} {t u : List Stmt} {bpos : Pos} (ha : TX X a ρ j) (hb : j = false → TXS X b ρ k ρ') (h1 : j = true → SXs X W t ρ P) (h2 : j = false → k = true → SXs X W t ρ' P) (h3 : j = false → k = false → SXs X W u ρ' P) : SX X W (.If (.BoolOp .Or [a, b] bpos) t u pos) ρ P :=
  .of (ps_if (PW.pt (pw_or pt_sem (pw_or1 pt_sem))) pss_sem pss_sem) fun B R0 R σ H D s n => ha B R0 R σ H _ s fun R1 H1 s1 => by
    cases j with
    | true =>
      show (if true = true then _ else _ : Prop)
      rw [if_pos rfl]
      exact h1 rfl B R0 R1 σ H1 D (s.step s1) n
    | false =>
      show (if false = true then _ else _ : Prop)
      rw [if_neg Bool.false_ne_true]
      refine hb rfl B R0 R1 σ H1 _ (s.step s1) fun R2 H2 s2 _ => ?_
      cases k with
      | true => exact h2 rfl rfl B R0 R2 σ H2 D s2 n
      | false => exact h3 rfl rfl B R0 R2 σ H2 D s2 n
theorem sx_ifOr_t {j : Bool} {t u : List Stmt} {bpos : Pos} (ha : TX X a ρ j) (hj : j = true) (h1 : SXs X W t ρ P) : SX X W (.If (.BoolOp .Or [a, b] bpos) t u pos) ρ P := by
  subst hj
  exact sx_ifOrS (k := true) (ρ' := ρ) ha (fun z => nomatch z) (fun _ => h1) (fun z => nomatch z) fun z => nomatch z
theorem sx_ifOr_f {j k : Bool} {t u : List Stmt} {bpos : Pos} (ha : TX X a ρ j) (hj : j = false) (hb : TXS X b ρ k ρ') (h2 : k = true → SXs X W t ρ' P) (h3 : k = false → SXs X W u ρ' P) : SX X W (.If (.BoolOp .Or [a, b] bpos) t u pos) ρ P := by
  subst hj
  exact sx_ifOrS ha (fun _ => hb) (fun z => nomatch z) (fun _ => h2) fun _ => h3
end
end PV

namespace PV
open PySem PySem.Spec PyProof.Rows L2 SH
section
variable {K : PySem.W.Frag} {B R0 R H R' H' : Hp} {ρ : List Sl} {σ : L2.St}
theorem slot_far {s0 : Sl} {v : Option V} {f : List Addr} {p : Addr} {o : HO} (sb : Sub R H) (q : SlOk K B R H v f s0) (np : p ∉ f) : SlOk K B R (upd H p o) v f s0.dr := by
  cases s0 with
  | no => exact q
  | sh d => exact q
  | ow d =>
    obtain ⟨p2, e, f2, b2, r2, o2, h2, od⟩ := q
    exact ⟨p2, e, f2, b2, r2, o2, by rw [upd_ne (fun z => np (by rw [f2, ← z]; exact List.mem_cons_self))]; exact h2, od⟩
  | al d =>
    obtain ⟨f2, x, e, r⟩ := q
    by_cases z : imm d = true
    · rw [Sl.dr_t z]; exact ⟨f2, x, e, Rp.imm sb.tp sb.tf r z⟩
    · rw [Sl.dr_f z]; exact f2
  | od pn d =>
    obtain ⟨x, e, e3, w2, k2⟩ := q
    exact ⟨x, e, e3, w2.keep np, k2⟩
theorem slot_dr {s0 : Sl} {v : Option V} {f : List Addr} (sb : Sub R H) (q : SlOk K B R H v f s0) : SlOk K B R H v f s0.dr := by
  cases s0 with
  | al d =>
    obtain ⟨f2, x, e, r⟩ := q
    by_cases z : imm d = true
    · rw [Sl.dr_t z]; exact ⟨f2, x, e, Rp.imm sb.tp sb.tf r z⟩
    · rw [Sl.dr_f z]; exact f2
  | no => exact q
  | sh d => exact q
  | ow d => exact q
  | od pn d => exact q
theorem St.growF (s : St K B R0 R ρ σ H) {φ : Nat → List Addr} (fp : Fps K B R ρ σ H φ) (t : Step R H R' H') {i : Nat} {pn : Option V} {ds : List D} {a : D} {v : V} {g : List Addr} (hi : ρ[i]? = some (.od pn (.lst ds))) (w : Ow K R' H' v a g) (hg : ∀ q ∈ g, B q = none ∧ R' q = none ∧ ∀ k, q ∉ φ k) :
    ∃ p xs, σ[i]? = some (some (.ref p)) ∧ H p = some (.lst xs) ∧ H' p = some (.lst xs) ∧ xs.length = ds.length ∧ St K B R0 R' ((PV.dr ρ).set i (.od pn (.lst (ds ++ [a])))) σ (upd H' p (.lst (xs ++ [v]))) := by
  obtain ⟨hil, _⟩ := List.getElem?_eq_some_iff.mp hi
  obtain ⟨u, eu⟩ : ∃ u, σ[i]? = some u := ⟨σ[i]'(by rw [← s.len]; exact hil), List.getElem?_eq_getElem _⟩
  obtain ⟨x, ex, pnx, ow, own⟩ := fp.sl i _ _ hi eu
  have fp2 := fp.step t
  have st2 := s.step t
  generalize hφ : φ i = f at ow own
  cases ow with
  | leaf _ im => cases im
  | @lst p xs _ f2 hp r nf =>
    have hp' : H' p = some (.lst xs) := t.hh.k _ _ hp trivial
    obtain ⟨bp, rp⟩ := own p List.mem_cons_self
    have rp' : R' p = none := t.free rp (by rw [hp]; intro z; cases z)
    have gn : ∀ q ∈ g, ∀ j, q ∉ φ j := fun q hq => (hg q hq).2.2
    have pg : p ∉ g := fun z => gn p z i (by rw [hφ]; exact List.mem_cons_self)
    refine ⟨p, xs, by rw [eu, ex], hp, hp', r.len, ?_⟩
    have r' := r.step t
    have stp : Step R0 B R' (upd H' p (.lst (xs ++ [v]))) := st2.stp.putNew bp rp' (fun _ z => nomatch z) (fun _ _ z => nomatch z) (fun _ z => by rw [hp'] at z; cases z)
    refine ⟨stp, s.tb, by rw [List.length_set]; unfold PV.dr; rw [List.length_map]; exact s.len, fun j => if j = i then φ i ++ g else φ j, fun j sl u2 e1 e2 => ?_, fun j hj => ?_, fun j k q jk ha hb => ?_⟩
    · rw [List.getElem?_set] at e1
      by_cases z : i = j
      · subst z
        rw [if_pos rfl, if_pos (by unfold PV.dr; rw [List.length_map]; exact hil)] at e1
        cases e1
        rw [eu] at e2
        cases e2
        rw [if_pos rfl, hφ]
        refine ⟨.ref p, ex, pnx, ?_, fun q hq => ?_⟩
        · refine Ow.lst (f := f2 ++ g) upd_same ?_ fun z => ?_
          · have := (r'.keep (o := .lst (xs ++ [v])) nf).app (.cons (w.keep (o := .lst (xs ++ [v])) pg) .nil fun a _ z => nomatch z) fun q hq z => ?_
            · rw [List.append_nil] at this; exact this
            · rw [List.append_nil] at z
              exact gn q z i (by rw [hφ]; exact List.mem_cons_of_mem _ hq)
          · rcases List.mem_append.mp z with z | z
            · exact nf z
            · exact pg z
        · rcases List.mem_append.mp hq with hq | hq
          · exact ⟨(own q hq).1, by
              obtain ⟨ob, _, e⟩ := (Ow.lst hp r nf).at q hq
              exact t.free (own q hq).2 (by rw [e]; intro z; cases z)⟩
          · exact ⟨(hg q hq).1, (hg q hq).2.1⟩
      · rw [if_neg z] at e1
        rw [if_neg fun q => z q.symm]
        obtain ⟨s0, e0, rfl⟩ := dr_get e1
        exact slot_far st2.sub (fp2.sl j s0 u2 e0 e2) fun q => fp.df i j p z (by rw [hφ]; exact List.mem_cons_self) q
    · rw [List.length_set] at hj
      unfold PV.dr at hj
      rw [List.length_map] at hj
      rw [if_neg (by omega)]
      exact fp.out j hj
    · have ha : q ∈ (if j = i then φ i ++ g else φ j) := ha
      have hb : q ∈ (if k = i then φ i ++ g else φ k) := hb
      split at ha
      · rename_i ej
        split at hb
        · rename_i ek; exact jk (ej.trans ek.symm)
        · rename_i ek
          rcases List.mem_append.mp ha with ha | ha
          · exact fp.df i k q (fun z => ek z.symm) ha hb
          · exact gn q ha k hb
      · rename_i ej
        split at hb
        · rcases List.mem_append.mp hb with hb | hb
          · exact fp.df j i q ej ha hb
          · exact gn q hb j ha
        · exact fp.df j k q jk ha hb
theorem St.grow (s : St K B R0 R ρ σ H) (t : Step R H R' H') {i : Nat} {pn : Option V} {ds : List D} {a : D} {v : V} {g : List Addr} (hi : ρ[i]? = some (.od pn (.lst ds))) (w : Nd K H R' H' v a g) :
    ∃ p xs, σ[i]? = some (some (.ref p)) ∧ H p = some (.lst xs) ∧ H' p = some (.lst xs) ∧ xs.length = ds.length ∧ St K B R0 R' ((PV.dr ρ).set i (.od pn (.lst (ds ++ [a])))) σ (upd H' p (.lst (xs ++ [v]))) := by
  obtain ⟨φ, fp⟩ := s.fps
  exact s.growF fp t hi w.1 fun q hq => ⟨Sm.free s.stp.hh (w.2 q hq).1, (w.2 q hq).2, fun j z => by
    obtain ⟨_, _, ob, e⟩ := fp.own s.len z
    have := (w.2 q hq).1
    rw [e] at this; cases this⟩
theorem St.give (s : St K B R0 R ρ σ H) {j : Nat} {d : D} (hj : ρ[j]? = some (.ow d)) (im : immO d = true) : ∃ v f φ, σ[j]? = some (some v) ∧ Fps K B R (ρ.set j .no) σ H φ ∧ Ow K R H v d f ∧ ∀ q ∈ f, B q = none ∧ R q = none ∧ ∀ k, q ∉ φ k := by
  obtain ⟨φ, fp⟩ := s.fps
  obtain ⟨hjl, _⟩ := List.getElem?_eq_some_iff.mp hj
  obtain ⟨u, eu⟩ : ∃ u, σ[j]? = some u := ⟨σ[j]'(by rw [← s.len]; exact hjl), List.getElem?_eq_getElem _⟩
  obtain ⟨p, rfl, fe, hb, hr, o, ho, od⟩ := fp.sl j _ u hj eu
  refine ⟨.ref p, [p], fun k => if k = j then [] else φ k, eu, ⟨fun k sl v e1 e2 => ?_, fun k hk => ?_, fun k l q kl ha hb => ?_⟩, Ow.obj ho od im, fun q hq => ?_⟩
  · by_cases z : k = j
    · subst z
      rw [List.getElem?_set, if_pos rfl, if_pos hjl] at e1
      cases e1
      show (if _ then _ else _) = _
      rw [if_pos rfl]
    · rw [List.getElem?_set_ne (Ne.symm z)] at e1
      rw [if_neg z]
      exact fp.sl k sl v e1 e2
  · rw [List.length_set] at hk
    show (if _ then _ else _) = _
    split
    · rfl
    · exact fp.out k hk
  · have ha : q ∈ (if k = j then [] else φ k) := ha
    have hb : q ∈ (if l = j then [] else φ l) := hb
    split at ha
    · cases ha
    · split at hb
      · cases hb
      · exact fp.df k l q kl ha hb
  · rw [List.mem_singleton.mp hq]
    refine ⟨hb, hr, fun k hk => ?_⟩
    have hk : p ∈ (if k = j then [] else φ k) := hk
    split at hk
    · cases hk
    · rename_i kj
      exact fp.df k j p kj hk (by rw [fe]; exact List.mem_cons_self)
end
section
variable {X : Cx} {W : L2.WX} {ρ ρ' : List Sl} {pos : Pos} {a b c e o ix : Expr} {P : Post} {r : Rs} {α : Type} {em : α → D} {l : List α} {v : α}
theorem sx_appND {i : Nat} {pn : Option V} {apos cpos : Pos} (po : PE X o (tVar i)) (hi : ρ[i]? = some (.od pn (eL em l))) (he : EX X e ρ (.nd (em v))) (hl : l.length < sizeLine) (h : P.nx ((dr ρ).set i (.od pn (eL em (l ++ [v])))))
    (hbase : attributeBase o "append" X.env (eval o X.env) = eval o X.env := by rfl)
    (hfew : ((backTo cpos (starEach [e] X.env)).all (fun x => !x.1) && (backToKw cpos (keywordEach [] X.env)).all (fun x => x.1.isSome)
      && decide (([e] : List Expr).length + ([] : List Keyword).length + (if ([] : List Keyword).isEmpty then 0 else 1) < 30)) = true := by rfl)
    (hline : (apos.endLine == cpos.line) = true := by rfl) (hst : starEach [e] X.env = (false, eval e X.env) :: starEach [] X.env := by rfl) (hplain : (backTo cpos (starEach [] X.env)).any (·.1) = false := by rfl)
    (hs : swapsWith (.Call (.Attribute o "append" apos) [e] [] cpos) none pos.line X.env = pure false := by rfl) : SX X W (.Expr (.Call (.Attribute o "append" apos) [e] [] cpos) pos) ρ P :=
  .of (ps_expr (pe_bm PySem.F.plainAttrs_list PySem.F.slot_list_append PySem.F.type_list_append mt_append po (pa_cons pe_sem pa_nil hst) hbase hfew hline hst hplain) hs) fun B R0 R σ H D s n => by
    obtain ⟨u, f, eu, x, ex, _, ow, _⟩ := s.at hi
    cases ow with
    | leaf _ im => cases im
    | @lst p xs _ f2 hp r nf =>
      rw [ex] at eu
      refine ⟨.ref p, eu, .inl ⟨rfl, xs, SqL.of hp⟩, he B R0 R σ H _ s fun y R' H' t ⟨g, w⟩ => ?_⟩
      obtain ⟨p2, xs2, e2, hp2, hp3, ln, st⟩ := s.grow t hi w
      rw [eu] at e2
      cases e2
      rw [hp] at hp2
      cases hp2
      refine ⟨p, xs, y, rfl, rfl, hp3, by rw [ln, List.length_map]; exact hl, n.nx _ R' _ _ ?_ st⟩
      rw [show PV.D.lst (l.map em ++ [em v]) = eL em (l ++ [v]) from by show _ = PV.D.lst _; rw [List.map_append]; rfl]
      exact h
theorem sx_appMT {i j : Nat} {pn : Option V} {x : Expr} {d1 d2 : D} {k1 : Nat} {tpos apos cpos : Pos} (po : PE X o (tVar i)) (hi : ρ[i]? = some (.od pn (eL em l))) (hx : PE X x (tVar j)) (hj : ρ[j]? = some (.ow d1)) (im : immO d1 = true) (ij : j ≠ i) (he : EX X e (ρ.set j .no) (.nd d2)) (hv : em v = .tup [d1, d2])
    (hl : l.length < sizeLine) (h : P.nx ((dr (ρ.set j .no)).set i (.od pn (eL em (l ++ [v])))))
    (hbase : attributeBase o "append" X.env (eval o X.env) = eval o X.env := by rfl)
    (hfew : ((backTo cpos (starEach [.Tuple [x, e] k1 tpos] X.env)).all (fun x => !x.1) && (backToKw cpos (keywordEach [] X.env)).all (fun x => x.1.isSome)
      && decide (([.Tuple [x, e] k1 tpos] : List Expr).length + ([] : List Keyword).length + (if ([] : List Keyword).isEmpty then 0 else 1) < 30)) = true := by rfl)
    (hline : (apos.endLine == cpos.line) = true := by rfl) (hst : starEach [.Tuple [x, e] k1 tpos] X.env = (false, eval (.Tuple [x, e] k1 tpos) X.env) :: starEach [] X.env := by rfl) (hplain : (backTo cpos (starEach [] X.env)).any (·.1) = false := by rfl)
    (hs1 : starEach [x, e] X.env = (false, eval x X.env) :: starEach [e] X.env := by rfl) (hs2 : starEach [e] X.env = (false, eval e X.env) :: starEach [] X.env := by rfl)
    (hs : swapsWith (.Call (.Attribute o "append" apos) [.Tuple [x, e] k1 tpos] [] cpos) none pos.line X.env = pure false := by rfl) : SX X W (.Expr (.Call (.Attribute o "append" apos) [.Tuple [x, e] k1 tpos] [] cpos) pos) ρ P :=
  .of (ps_expr (pe_bm PySem.F.plainAttrs_list PySem.F.slot_list_append PySem.F.type_list_append mt_append po (pa_cons (pe_tup (pa_cons hx (pa_cons pe_sem pa_nil hs2) hs1)) pa_nil hst) hbase hfew hline hst hplain) hs) fun B R0 R σ H D s n => by
    obtain ⟨u, f, eu, y, ey, _, ow, _⟩ := s.at hi
    cases ow with
    | leaf _ im => cases im
    | @lst p xs _ f2 hp r nf =>
      rw [ey] at eu
      obtain ⟨vj, fj, φ, ej, fp, oj, gj⟩ := s.give hj im
      have s' : St X.K B R0 R (ρ.set j .no) σ H := ⟨s.stp, s.tb, by rw [List.length_set]; exact s.len, φ, fp⟩
      refine ⟨.ref p, eu, .inl ⟨rfl, xs, SqL.of hp⟩, vj, ej, he B R0 R σ H _ s' fun y2 R1 H1 t1 ⟨g, w⟩ => ⟨by show 2 ≤ sizeLine; decide, fun T nT => ?_⟩⟩
      have tn : Step R H (upd R1 T (.tup [vj, y2])) (upd H1 T (.tup [vj, y2])) := t1.newS nT
      have nr : R1 T = none := Sm.free t1.rh nT
      have dis : ∀ a ∈ fj, a ∉ g := fun a ha hg => oj.has ha (w.2 a hg).1
      have oj1 := oj.step t1
      have own : OwA X.K R1 H1 [vj, y2] [d1, d2] (fj ++ (g ++ [])) := .cons oj1 (.cons w.1 .nil fun a _ z => nomatch z) fun a ha z => dis a ha (by rw [List.append_nil] at z; exact z)
      have hi' : (ρ.set j .no)[i]? = some (.od pn (eL em l)) := by rw [List.getElem?_set_ne ij]; exact hi
      have up : ∀ {a : Addr}, R1 a = none → a ≠ T → (upd R1 T (.tup [vj, y2])) a = none := fun {a} ha hn => by rw [upd_ne hn]; exact ha
      obtain ⟨p2, xs2, e2, hp2, hp3, ln, st⟩ := s'.growF fp tn (a := .tup [d1, d2]) hi' (.tup upd_same (own.ups nT ((Sm.refl R1).upd nr))) fun q hq => by
        rcases List.mem_append.mp hq with hq | hq
        · refine ⟨(gj q hq).1, up ?_ fun z => oj1.has hq (by rw [z]; exact nT), (gj q hq).2.2⟩
          obtain ⟨o, oo, eo⟩ := oj.at q hq
          exact t1.free (gj q hq).2.1 (by rw [eo]; intro z; cases z)
        · rw [List.append_nil] at hq
          refine ⟨Sm.free s.stp.hh (w.2 q hq).1, up (w.2 q hq).2 fun z => w.1.has hq (by rw [z]; exact nT), fun k z => ?_⟩
          obtain ⟨_, _, ob, e⟩ := fp.own s'.len z
          have := (w.2 q hq).1
          rw [e] at this; cases this
      rw [eu] at e2
      cases e2
      rw [hp] at hp2
      cases hp2
      refine ⟨p, xs, .ref T, rfl, rfl, hp3, by rw [ln, List.length_map]; exact hl, n.nx _ _ _ _ ?_ st⟩
      rw [← hv, show PV.D.lst (l.map em ++ [em v]) = eL em (l ++ [v]) from by show _ = PV.D.lst _; rw [List.map_append]; rfl]
      exact h
end
abbrev eBlk : List RowT × List Int → D := eP2 (eL rowD) (eL D.int)
def Scrap (R H : Hp) (Z : Addr → Prop) (M : Nat) (v : V) : Prop := ∃ t a b l1 l2, v = .ref t ∧ R t = some (.tup [.ref a, .ref b]) ∧ (Z a ∧ R a = none ∧ H a = some (.lst l1) ∧ l1.length ≤ M) ∧ Z b ∧ R b = none ∧ H b = some (.lst l2) ∧ l2.length ≤ M
section
variable {K : PySem.W.Frag} {R H R' H' : Hp} {Z Z' : Addr → Prop} {M : Nat} {v : V}
theorem Scrap.step (t : Step R H R' H') (h : Scrap R H Z M v) : Scrap R' H' Z M v := by
  obtain ⟨t0, a, b, l1, l2, e, h1, ⟨z1, r1, g1, k1⟩, z2, r2, g2, k2⟩ := h
  exact ⟨t0, a, b, l1, l2, e, t.rr.k _ _ h1 trivial, ⟨z1, t.free r1 (by rw [g1]; intro z; cases z), t.hh.k _ _ g1 trivial, k1⟩, z2, t.free r2 (by rw [g2]; intro z; cases z), t.hh.k _ _ g2 trivial, k2⟩
theorem Scrap.imp (z : ∀ a, Z a → Z' a) (h : Scrap R H Z M v) : Scrap R H Z' M v := by
  obtain ⟨t0, a, b, l1, l2, e, h1, ⟨z1, r1, g1, k1⟩, z2, r2, g2, k2⟩ := h
  exact ⟨t0, a, b, l1, l2, e, h1, ⟨z a z1, r1, g1, k1⟩, z b z2, r2, g2, k2⟩
theorem Scrap.put {c : Addr} {l : List V} (hc : ∃ l0 : List V, H c = some (.lst l0) ∧ l.length ≤ l0.length + 1) (h : Scrap R H Z M v) : Scrap R (upd H c (.lst l)) Z (M + 1) v := by
  obtain ⟨t0, a, b, l1, l2, e, h1, ⟨z1, r1, g1, k1⟩, z2, r2, g2, k2⟩ := h
  obtain ⟨l0, e0, ln⟩ := hc
  have one : ∀ {x : Addr} {lx : List V}, H x = some (.lst lx) → lx.length ≤ M → ∃ ly, upd H c (.lst l) x = some (.lst ly) ∧ ly.length ≤ M + 1 := fun {x lx} hx hl => by
    by_cases z : x = c
    · subst z
      rw [e0] at hx
      cases hx
      exact ⟨l, upd_same, by omega⟩
    · exact ⟨lx, by rw [upd_ne z]; exact hx, by omega⟩
  obtain ⟨y1, f1, m1⟩ := one g1 k1
  obtain ⟨y2, f2, m2⟩ := one g2 k2
  exact ⟨t0, a, b, y1, y2, e, h1, ⟨z1, r1, f1, m1⟩, z2, r2, f2, m2⟩
theorem blk_scrap {g : List Addr} : ∀ {xs : List V} {l : List (List RowT × List Int)}, OwA K R H xs (l.map eBlk) g → (∀ a ∈ g, Z a ∧ R a = none) → (∀ b ∈ l, b.1.length ≤ M ∧ b.2.length ≤ M) → ∀ x ∈ xs, Scrap R H Z M x
  | _, [], h, _, _, x, hx => by cases h; cases hx
  | _, b :: l, h, hz, hm, x, hx => by
    cases h with
    | @cons v vs _ _ f g2 h r n =>
      rcases List.mem_cons.mp hx with rfl | hx
      · have hb := hm b List.mem_cons_self
        cases h with
        | leaf _ im => cases im
        | @tup t ys _ f2 ht hr =>
          cases hr with
          | @cons v1 vs1 _ _ f3 g3 h1 r1 _ =>
            cases r1 with
            | @cons v2 vs2 _ _ f4 g4 h2 r2 _ =>
              cases r2
              cases h1 with
              | leaf _ im => cases im
              | @lst a l1 _ f5 ha ra _ =>
                cases h2 with
                | leaf _ im => cases im
                | @lst c l2 _ f6 hc rc _ =>
                  have za := hz a (List.mem_append_left _ (List.mem_append_left _ List.mem_cons_self))
                  have zc := hz c (List.mem_append_left _ (List.mem_append_right _ (List.mem_append_left _ List.mem_cons_self)))
                  exact ⟨t, a, c, l1, l2, rfl, ht, ⟨za.1, za.2, ha, by rw [ra.len, List.length_map]; exact hb.1⟩, zc.1, zc.2, hc, by rw [rc.len, List.length_map]; exact hb.2⟩
      · exact blk_scrap r (fun a ha => hz a (List.mem_append_right _ ha)) (fun b hb => hm b (List.mem_cons_of_mem _ hb)) x hx
end
section
variable {X : Cx} {W : L2.WX} {ρ : List Sl} {pos : Pos} {a b c e : Expr} {P : Post} {i n m M : Nat} {l : List (List RowT × List Int)}
def AlX (X : Cx) (e : Expr) (ρ : List Sl) (i n M : Nat) : Prop := ∀ B R0 R σ H φ (Q : VK), St X.K B R0 R ρ σ H → Fps X.K B R ρ σ H φ →
  (∀ p xs R' H', Step R H R' H' → H' p = some (.lst xs) → xs.length = n → (∀ v ∈ xs, Scrap R' H' (fun a => (a ∈ φ i ∨ H a = none) ∧ a ≠ p) M v) → Q (.ref p) H') → tE X e σ H Q
def blkFit (M : Nat) (l : List (List RowT × List Int)) : Bool := l.all fun b => decide (b.1.length ≤ M) && decide (b.2.length ≤ M)
theorem blkFit.fit {M : Nat} {l : List (List RowT × List Int)} (h : blkFit M l = true) : ∀ b ∈ l, b.1.length ≤ M ∧ b.2.length ≤ M := fun b hb => by
  have := List.all_eq_true.mp h b hb
  rw [Bool.and_eq_true] at this
  exact ⟨of_decide_eq_true this.1, of_decide_eq_true this.2⟩
theorem al_path {pn : Option V} {d : D} {path : List Nat} (po : PathX X e ρ i path) (hi : ρ[i]? = some (.od pn d)) (hp : getP d path = some (eL eBlk l)) (hf : blkFit M l = true) : AlX X e ρ i l.length M := fun B R0 R σ H φ Q s fp k => po B R0 R σ H _ s fun x v R' H' ex ax t => by
  obtain ⟨x2, e2, _, ow, own⟩ := fp.sl i _ _ hi ex
  cases e2
  obtain ⟨g, ow2, sub⟩ := Ow.sub (t.rh) path (ow.step t) ax hp rfl
  cases ow2 with
  | leaf _ im => cases im
  | @lst p xs _ f2 hpp r nf =>
    refine k p xs R' H' t hpp (by rw [r.len, List.length_map]) (blk_scrap r (fun q hq => ?_) (blkFit.fit hf))
    have hq2 := sub q (List.mem_cons_of_mem _ hq)
    refine ⟨⟨.inl hq2, fun z => nf (by rw [← z]; exact hq)⟩, ?_⟩
    obtain ⟨ob, _, eo⟩ := ow.at q hq2
    exact t.free (own q hq2).2 (by rw [eo]; intro z; cases z)
theorem al_new (h : EX X e ρ (.nd (eL eBlk l))) (hf : blkFit M l = true) : AlX X e ρ i l.length M := fun B R0 R σ H φ Q s fp k => h B R0 R σ H _ s fun v R' H' t ⟨g, ow, own⟩ => by
  cases ow with
  | leaf _ im => cases im
  | @lst p xs _ f2 hpp r nf =>
    exact k p xs R' H' t hpp (by rw [r.len, List.length_map]) (blk_scrap r (fun q hq => ⟨⟨.inr (own q (List.mem_cons_of_mem _ hq)).1, fun z => nf (by rw [← z]; exact hq)⟩, (own q (List.mem_cons_of_mem _ hq)).2⟩) (blkFit.fit hf))
theorem al_cat (ha : AlX X a ρ i n M) (hb : AlX X b ρ i m M) (hl : n + m ≤ sizeLine) : AlX X (.BinOp a .Add b pos) ρ i (n + m) M := fun B R0 R σ H φ Q s fp k pins sh I => (pe_op op_cat pe_sem pe_sem).run pins sh σ H Q I (ha B R0 R σ H φ _ s fp fun p xs R1 H1 t1 hp lx hx => hb B R0 R1 σ H1 φ _ (s.step t1) (fp.step t1) fun q ys R2 H2 t2 hq ly hy => by
  have hp2 := t2.hh.k _ _ hp trivial
  refine ⟨p, q, xs, ys, rfl, rfl, hp2, hq, by rw [lx, ly]; exact hl, fun l nl => ?_⟩
  have t3 : Step R2 H2 R2 (upd H2 l (.lst (xs ++ ys))) := t2.sub.step.new nl (fun _ z => nomatch z) fun _ _ z => nomatch z
  refine k l (xs ++ ys) R2 _ ((t1.trans t2).trans t3) upd_same (by rw [List.length_append, lx, ly]) fun v hv => ?_
  have fin : ∀ {Z : Addr → Prop}, (∀ a, Z a → a ∈ φ i ∨ H a = none) → Scrap R2 H2 Z M v → Scrap R2 (upd H2 l (.lst (xs ++ ys))) (fun a => (a ∈ φ i ∨ H a = none) ∧ a ≠ l) M v := fun {Z} hz h => by
    obtain ⟨t0, a, b, l1, l2, e, h1, ⟨z1, r1, g1, k1⟩, z2, r2, g2, k2⟩ := h
    have na : a ≠ l := fun z => by rw [z, nl] at g1; cases g1
    have nb : b ≠ l := fun z => by rw [z, nl] at g2; cases g2
    exact ⟨t0, a, b, l1, l2, e, h1, ⟨⟨hz a z1, na⟩, r1, by rw [upd_ne na]; exact g1, k1⟩, ⟨hz b z2, nb⟩, r2, by rw [upd_ne nb]; exact g2, k2⟩
  rcases List.mem_append.mp hv with hv | hv
  · exact fin (fun a z => z.1) ((hx v hv).step t2)
  · exact fin (fun a z => z.1.imp id fun z => Sm.free t1.hh z) (hy v hv))
theorem dr_set {ρ : List Sl} {i : Nat} {s : Sl} : dr (ρ.set i s) = (dr ρ).set i s.dr := by
  unfold dr
  rw [List.map_set]
def scrapS (ρ : List Sl) (i j : Nat) : List Sl := ((dr ρ).set i .no).set j .no
theorem dr_scrap {ρ : List Sl} {i j : Nat} : dr (scrapS ρ i j) = scrapS ρ i j := by
  unfold scrapS
  rw [dr_set, dr_set, dr_dr]
  rfl
theorem scrap_one {B R0 R H : Hp} {σ : L2.St} {ρ0 : List Sl} {j i0 : Nat} {v : V} {Z : Addr → Prop} {d : PV.D} {x : Str} {p1 q1 apos cpos spos : Pos} {c0 e1 : Expr} {D : Ends} (s : St X.K B R0 R ρ0 σ H) (po : PE X (.Name x p1) (tVar j)) (hv : σ[j]? = some (some v)) (sc : Scrap R H Z M v) (hM : M < sizeLine)
    (h0 : i0 = 0 ∨ i0 = 1) (hc : EX X c0 ρ0 (.sh (.int i0))) (he : EX X e1 ρ0 (.sh d)) (k : ∀ a l0 y R' H', Step R H R' H' → Z a → R' a = none → H' a = some (.lst l0) → D.nx σ (upd H' a (.lst (l0 ++ [y]))))
    (hix : PlainIx c0 := by exact fun _ _ => rfl)
    (hbase : attributeBase (.Subscript (.Name x p1) c0 q1) "append" X.env (eval (.Subscript (.Name x p1) c0 q1) X.env) = eval (.Subscript (.Name x p1) c0 q1) X.env := by rfl)
    (hfew : ((backTo cpos (starEach [e1] X.env)).all (fun x => !x.1) && (backToKw cpos (keywordEach [] X.env)).all (fun x => x.1.isSome)
      && decide (([e1] : List Expr).length + ([] : List Keyword).length + (if ([] : List Keyword).isEmpty then 0 else 1) < 30)) = true := by rfl)
    (hline : (apos.endLine == cpos.line) = true := by rfl) (hst : starEach [e1] X.env = (false, eval e1 X.env) :: starEach [] X.env := by rfl) (hplain : (backTo cpos (starEach [] X.env)).any (·.1) = false := by rfl)
    (hs : swapsWith (.Call (.Attribute (.Subscript (.Name x p1) c0 q1) "append" apos) [e1] [] cpos) none spos.line X.env = pure false := by rfl) :
    tS X (.Expr (.Call (.Attribute (.Subscript (.Name x p1) c0 q1) "append" apos) [e1] [] cpos) spos) D σ H := fun pins sh I =>
  (ps_expr (pe_bm PySem.F.plainAttrs_list PySem.F.slot_list_append PySem.F.type_list_append mt_append (pe_ix ix_tup po pe_sem hix) (pa_cons pe_sem pa_nil hst) hbase hfew hline hst hplain) hs).run pins sh σ H D I (by
    refine ⟨v, hv, hc B R0 R σ H _ s fun y R1 H1 t1 q1 => ?_⟩
    have ey := is_int _ _ q1
    obtain ⟨t0, a, b, l1, l2, e, h1, ⟨z1, r1, g1, k1⟩, z2, r2, g2, k2⟩ := sc.step t1
    have ht := SqT.of (K := X.K) (t1.rh.k _ _ h1 trivial)
    have go : ∀ {c : Addr} {l0 : List V}, Z c → R1 c = none → H1 c = some (.lst l0) → l0.length ≤ M → atI [V.ref a, V.ref b] (i0 : Int) = some (.ref c) → rIxT X.K v y H1 fun x H1 => tyV X.K "list" x H1 ∧ tCons (tE X e1) tNil σ H1 fun xs H2 => rAppend x xs H2 fun _ H1 => D.nx σ H1 := fun {c l0} z r g k0 hat =>
      ⟨t0, [.ref a, .ref b], i0, .ref c, e, ey, ht, hat, .inl ⟨rfl, l0, SqL.of g⟩, he B R0 R1 σ H1 _ (s.step t1) fun u R2 H2 t2 q2 =>
        ⟨c, l0, u, rfl, rfl, t2.hh.k _ _ g trivial, by omega, k c l0 u R2 H2 (t1.trans t2) z (t2.free r (by rw [g]; intro z; cases z)) (t2.hh.k _ _ g trivial)⟩⟩
    rcases h0 with rfl | rfl
    · exact go z1 r1 g1 k1 rfl
    · exact go z2 r2 g2 k2 rfl)
theorem Fps.scrap {B R H : Hp} {σ : L2.St} {φ : Nat → List Addr} {j : Nat} {u : V} (h : Fps X.K B R ρ σ H φ) (hs : Sub R H) : Fps X.K B R (scrapS ρ i j) (σ.set j (some u)) H fun k => if k = i ∨ k = j then [] else φ k := by
  refine ⟨fun k sl v e1 e2 => ?_, fun k hk => ?_, fun k l p kl ha hb => ?_⟩
  · unfold scrapS at e1
    by_cases kj : k = j
    · subst kj
      rw [List.getElem?_set] at e1
      split at e1
      · split at e1
        · cases e1; show SlOk X.K B R H v _ .no; show (if _ then _ else _) = _; rw [if_pos (Or.inr rfl)]
        · cases e1
      · contradiction
    · rw [List.getElem?_set_ne (Ne.symm kj)] at e1 e2
      by_cases ki : k = i
      · subst ki
        rw [List.getElem?_set] at e1
        split at e1
        · split at e1
          · cases e1; show (if _ then _ else _) = _; rw [if_pos (Or.inl rfl)]
          · cases e1
        · contradiction
      · rw [List.getElem?_set_ne (Ne.symm ki)] at e1
        rw [if_neg (by intro z; rcases z with z | z <;> contradiction)]
        obtain ⟨s0, e0, rfl⟩ := dr_get e1
        exact slot_dr hs (h.sl k s0 v e0 e2)
  · unfold scrapS dr at hk
    rw [List.length_set, List.length_set, List.length_map] at hk
    show (if _ then _ else _) = _
    split
    · rfl
    · exact h.out k hk
  · have ha : p ∈ (if k = i ∨ k = j then [] else φ k) := ha
    have hb : p ∈ (if l = i ∨ l = j then [] else φ l) := hb
    split at ha
    · cases ha
    · split at hb
      · cases hb
      · exact h.df k l p kl ha hb
def OneX (X : Cx) (st : Stmt) (ρ0 : List Sl) (j : Nat) : Prop := ∀ B R0 R σ H v Z M (D : Ends), St X.K B R0 R ρ0 σ H → σ[j]? = some (some v) → Scrap R H Z M v → M < sizeLine →
  (∀ a l0 y R' H', Step R H R' H' → Z a → R' a = none → H' a = some (.lst l0) → D.nx σ (upd H' a (.lst (l0 ++ [y])))) → tS X st D σ H
theorem sx_scrap {j n M : Nat} {x : Str} {p0 : Pos} {iter : Expr} {s1 s2 : Stmt} (hp : PassesOwn (model X.prog X.w) X.A X.env X.xe) (hc : X.calm = true) (hi : AlX X iter ρ i n M) (hg : PG X (.Name x p0) (gName j)) (hj : j < ρ.length) (hM : M + 2 * n ≤ sizeLine)
    (h1 : OneX X s1 (scrapS ρ i j) j) (h2 : OneX X s2 (scrapS ρ i j) j) (h : P.nx (scrapS ρ i j)) (hf : ∀ x, foldedSetIterable iter X.env x = pure x := by intro _; rfl) : SX X W (.For (.Name x p0) iter [s1, s2] [] pos) ρ P := by
  refine .of (ps_for hp hc (pi_list pe_sem) hg pss_sem hf) fun B R0 R σ H D s nE => ?_
  obtain ⟨φ, fp⟩ := s.fps
  refine hi B R0 R σ H φ _ s fp fun p xs R1 H1 t1 hp1 lx hx => ?_
  refine ⟨p, rfl, ⟨xs, SqL.of hp1⟩, ?_⟩
  let Z : Addr → Prop := fun a => (a ∈ φ i ∨ H a = none) ∧ a ≠ p
  let φ0 : Nat → List Addr := fun k => if k = i ∨ k = j then [] else φ k
  have zφ : ∀ a, Z a → ∀ k, a ∉ φ0 k := fun a z k hk => by
    have hk : a ∈ (if k = i ∨ k = j then [] else φ k) := hk
    split at hk
    · cases hk
    · rename_i nk
      rcases z.1 with z | z
      · exact fp.df i k a (fun q => nk (.inl q.symm)) z hk
      · obtain ⟨_, _, o, e⟩ := fp.own s.len hk
        rw [z] at e; cases e
  have zB : ∀ a, Z a → B a = none := fun a z => by
    rcases z.1 with z | z
    · exact (fp.own s.len z).1
    · exact Sm.free s.stp.hh z
  have lenσ : σ.length = ρ.length := s.len.symm
  let Pv : Nat → L2.St → Hp → Prop := fun k σ H => ∃ R', Step R0 B R' H ∧ σ.length = ρ.length ∧ (∀ u, Fps X.K B R' (scrapS ρ i j) (σ.set j (some u)) H φ0) ∧ H p = some (.lst xs) ∧ ∀ v ∈ xs, Scrap R' H Z (M + 2 * k) v
  refine for_it (walk_list (xs := xs)) Pv ⟨R1, (s.step t1).stp, lenσ, fun u => (fp.step t1).scrap (s.step t1).sub, hp1, hx⟩ (fun k σ H _ q => by
    obtain ⟨R', _, _, _, e, _⟩ := q
    exact SqL.of e) (fun k v σ2 H2 H3 hk q y => ?_) fun σ2 H2 q => ?_
  · obtain ⟨rfl, hv⟩ := y
    obtain ⟨R2, st2, l2, fp2, hp2, sc2⟩ := q
    have vm : v ∈ xs := List.mem_of_getElem? hv
    show tSs X [s1, s2] _ (σ2.set j (some v)) H3
    refine fun pins sh I => (pss_cons (X := X) ps_sem (pss_one ps_sem)).run pins sh _ _ _ I ?_
    have S1 : St X.K B R0 R2 (scrapS ρ i j) (σ2.set j (some v)) H3 := ⟨st2, s.tb, by unfold scrapS dr; rw [List.length_set, List.length_set, List.length_map, List.length_set, l2], φ0, fp2 v⟩
    have gv : (σ2.set j (some v))[j]? = some (some v) := by rw [List.getElem?_set, if_pos rfl, if_pos (by rw [l2]; exact hj)]
    have kn : k < n := by rw [← lx]; exact hk
    have far : ∀ {R3 H3 R4 H4 : Hp} {a : Addr} {l0 : List V} {y : V} {M' : Nat} {σ : L2.St}, Step R0 B R3 H3 → Fps X.K B R3 (scrapS ρ i j) σ H3 φ0 → H3 p = some (.lst xs) → (∀ v ∈ xs, Scrap R3 H3 Z M' v) → Step R3 H3 R4 H4 → Z a → R4 a = none → H4 a = some (.lst l0) →
        Step R0 B R4 (upd H4 a (.lst (l0 ++ [y]))) ∧ Fps X.K B R4 (scrapS ρ i j) σ (upd H4 a (.lst (l0 ++ [y]))) φ0 ∧ upd H4 a (.lst (l0 ++ [y])) p = some (.lst xs) ∧ ∀ v ∈ xs, Scrap R4 (upd H4 a (.lst (l0 ++ [y]))) Z (M' + 1) v := fun {R3 H3 R4 H4 a l0 y M' σ} s3 f3 p3 c3 t z r g => by
      have s4 := s3.trans t
      refine ⟨s4.putNew (zB a z) r (fun _ q => nomatch q) (fun _ _ q => nomatch q) (fun _ q => by rw [g] at q; cases q), ⟨fun k sl v e1 e2 => ?_, f3.out, f3.df⟩, by rw [upd_ne (fun q => z.2 q.symm)]; exact t.hh.k _ _ p3 trivial, fun v hv => ((c3 v hv).step t).put ⟨l0, g, by rw [List.length_append]; exact Nat.le_refl _⟩⟩
      rw [← dr_scrap] at e1
      obtain ⟨s0, e0, rfl⟩ := dr_get e1
      exact slot_far s4.sub ((f3.step t).sl k s0 v e0 e2) (zφ a z k)
    refine h1 B R0 R2 _ H3 v Z (M + 2 * k) _ S1 gv (sc2 v vm) (by omega) fun a l0 y R3 H4 t3 z r g => ?_
    obtain ⟨a1, a2, a3, a4⟩ := far (y := y) st2 (fp2 v) hp2 sc2 t3 z r g
    have S2 : St X.K B R0 R3 (scrapS ρ i j) (σ2.set j (some v)) (upd H4 a (.lst (l0 ++ [y]))) := ⟨a1, s.tb, S1.len, φ0, a2⟩
    refine h2 B R0 R3 _ _ v Z (M + 2 * k + 1) _ S2 gv (a4 v vm) (by omega) fun a l0 y R4 H5 t4 z r g => ?_
    obtain ⟨b1, b2, b3, b4⟩ := far (y := y) a1 a2 a3 a4 t4 z r g
    refine ⟨R4, b1, by rw [List.length_set, l2], fun u => ?_, b3, b4⟩
    rw [List.set_set]
    refine ⟨fun k sl v2 e1 e2 => ?_, b2.out, b2.df⟩
    by_cases kj : k = j
    · subst kj
      unfold scrapS at e1
      rw [List.getElem?_set] at e1
      split at e1
      · split at e1
        · cases e1; show (if _ then _ else _) = _; rw [if_pos (Or.inr rfl)]
        · cases e1
      · contradiction
    · refine b2.sl k sl v2 e1 ?_
      rw [List.getElem?_set_ne (Ne.symm kj)] at e2 ⊢
      exact e2
  · obtain ⟨R2, st2, l2, fp2, _, _⟩ := q
    refine nE.nx _ R2 σ2 H2 h ⟨st2, s.tb, by unfold scrapS dr; rw [List.length_set, List.length_set, List.length_map, l2], φ0, ⟨fun k sl v e1 e2 => ?_, (fp2 (.int 0)).out, (fp2 (.int 0)).df⟩⟩
    by_cases kj : k = j
    · subst kj
      unfold scrapS at e1
      rw [List.getElem?_set] at e1
      split at e1
      · split at e1
        · cases e1; show (if _ then _ else _) = _; rw [if_pos (Or.inr rfl)]
        · cases e1
      · contradiction
    · exact (fp2 (.int 0)).sl k sl v e1 (by rw [List.getElem?_set_ne (Ne.symm kj)]; exact e2)
theorem one_x {ρ0 : List Sl} {j i0 : Nat} {d : PV.D} {x : Str} {p1 q1 apos cpos spos : Pos} {c0 e1 : Expr} (po : PE X (.Name x p1) (tVar j)) (h0 : i0 = 0 ∨ i0 = 1) (hc : EX X c0 ρ0 (.sh (.int i0))) (he : EX X e1 ρ0 (.sh d))
    (hix : PlainIx c0 := by exact fun _ _ => rfl)
    (hbase : attributeBase (.Subscript (.Name x p1) c0 q1) "append" X.env (eval (.Subscript (.Name x p1) c0 q1) X.env) = eval (.Subscript (.Name x p1) c0 q1) X.env := by rfl)
    (hfew : ((backTo cpos (starEach [e1] X.env)).all (fun x => !x.1) && (backToKw cpos (keywordEach [] X.env)).all (fun x => x.1.isSome)
      && decide (([e1] : List Expr).length + ([] : List Keyword).length + (if ([] : List Keyword).isEmpty then 0 else 1) < 30)) = true := by rfl)
    (hline : (apos.endLine == cpos.line) = true := by rfl) (hst : starEach [e1] X.env = (false, eval e1 X.env) :: starEach [] X.env := by rfl) (hplain : (backTo cpos (starEach [] X.env)).any (·.1) = false := by rfl)
    (hs : swapsWith (.Call (.Attribute (.Subscript (.Name x p1) c0 q1) "append" apos) [e1] [] cpos) none spos.line X.env = pure false := by rfl) :
    OneX X (.Expr (.Call (.Attribute (.Subscript (.Name x p1) c0 q1) "append" apos) [e1] [] cpos) spos) ρ0 j := fun B R0 R σ H v Z M D s hv sc hM k =>
  scrap_one s po hv sc hM h0 hc he k hix hbase hfew hline hst hplain hs
end
end PV

namespace PV
open PySem PySem.Spec PyProof.Rows L2 SH NdefX LamX
theorem noFn_O {α : Type} {em : α → D} (h : ∀ x, noFn (em x) = true) : ∀ x : Option α, noFn (eO em x) = true
  | none => rfl
  | some x => h x
def tDefX (P : Addr) (q : Str) (pos : Pos) (i : Nat) (mk : Addr → NF) : TS := fun D σ H => ∃ ps : Array Value, H P = some (.tbl ps) ∧ TriplesOk ps.toList ∧ (∀ cv, codeAmong pos ps.toList = some cv → ∃ c, cv = .ref c ∧ H c = some (CodeO c q)) ∧
  (∀ f c', H f = none → H c' = some (CodeO c' q) → D.nx (σ.set i (some (.ref f))) (upd H f (FnO f (mk c')))) ∧
  ∀ f c' ps', H c' = none → c' ≠ P → f ≠ c' → f ≠ P → H f = none → ps' = ps ++ #[rawInt pos.line, rawInt pos.col, .ref c'] → D.nx (σ.set i (some (.ref f))) (upd (upd (upd H P (.tbl ps')) c' (CodeO c' q)) f (FnO f (mk c')))
section
variable {X : Cx}
theorem ps_defX {c P : Addr} {name q : Str} {params : Arguments} {body : List Stmt} {scope : Scope} {pos : Pos} {i : Nat} (TB : TabB X.base X.mg c P) (hcode : X.env.code = .ref c) (hq : X.env.qual ++ name = q)
    (hfree : ∀ y ∈ scope.names, y.2 = .free → X.env.scope.names.lookup y.1 = some .cell ∨ X.env.scope.names.lookup y.1 = some .free) (hd0 : params.defaults = []) (hk0 : params.kw_defaults = []) (ha : annTrees params none X.env = [])
    (hN : X.N.Nodup) (hi : X.N[i]? = some name) (hx : Loc X.env.scope name) (hf : X.fn name = true ∨ X.env.scope.names.lookup name = some .local) :
    PS X (.FunctionDef name params body [] none [] scope none name pos) (tDefX P q pos i fun c' => ⟨name, q, params, body, scope, cloFrom X.env.cells scope.names [], c'⟩) := by
  constructor
  rintro pins s σ H D I ⟨ps, hP, ht, hc, hit, new⟩
  have hqn : qualnameIn X.env name name = q := by
    rw [← hq]
    unfold qualnameIn
    rcases (show X.env.kindOf name = some .local ∨ X.env.kindOf name = some .cell from hx) with k | k <;> rw [k] <;> first | rfl | exact if_neg (by decide)
  have cap : ∀ y ∈ scope.names, y.2 = .free → ∃ c, X.env.cells.lookup y.1 = some c := fun y hy e => (hfree y hy e).elim (fun z => I.ok.has _ (.inl z)) fun z => I.ok.has _ (.inr z)
  have at_P : s.heap.get? P = some { cls := .none, data := .fields ps } := I.hok P _ hP
  have names := I.mod.glob.keeps I.bk
  have store : ∀ {f : Addr} {H1 : Hp} {s1 : Shared}, Inv X pins σ H1 s1 → D.nx (σ.set i (some (.ref f))) H1 → wpAny (model X.prog X.w) X.A (storeName X.env name (.ref f)) (fun _ s2 => SP X pins D .next s2) X.xe s1 := fun {f H1 s1} I1 h =>
    store_ok I1 hN hi hx (v := .ref f) rfl (fun s2 J => ⟨_, H1, J, h⟩) hf
  refine PySem.W.nestDef_K hd0 hk0 ha ?_
  rw [hqn]
  cases hcode2 : codeAmong pos ps.toList with
  | some cv =>
    obtain ⟨c', rfl, hco⟩ := hc cv hcode2
    refine PySem.W.makeFunction_hit (mg := X.mg) (c := c) (P := P) (ps := ps) (closure_ok cap) I.ok.glob names hcode (TB.code.keeps I.bk) at_P ht hcode2 (TB.bm.keeps I.bk) fun ctv doc h' tk grow big => ?_
    have I1 : Inv X pins σ H { s with heap := h', toks := tk } := I.kept grow
    have fresh : H h'.objs.size = none := I1.hok.fresh (Nat.le_refl _)
    exact store (inv_fn (F := ⟨name, q, params, body, scope, cloFrom X.env.cells scope.names [], c'⟩) (t' := tk) (doc := doc) (pm := (X.mg "__name__").getD .none) (ctv := ctv) I1 rfl) (hit _ c' fresh hco)
  | none =>
    refine PySem.W.makeFunction_K (mg := X.mg) (c := c) (P := P) (ps := ps) (closure_ok cap) I.ok.glob names hcode (TB.code.keeps I.bk) at_P ht hcode2 TB.gP (TB.bm.keeps I.bk) fun c' ctv doc h' tk ext low high hrec atP2 => ?_
    obtain ⟨c2, oc, vs, t, e2, r1, r2, r3⟩ := hrec
    cases e2
    have nc : H c' = none := I.hok.fresh low
    have I1 := inv_table (t' := tk) (more := #[rawInt pos.line, rawInt pos.col, .ref c']) (h' := h') I hP (fun b o hb e => ext b o hb e) atP2 low ⟨oc, vs, t, r1, r2, r3⟩
    have fresh := I1.hok.fresh (a := h'.objs.size) (Nat.le_refl _)
    have pc : c' ≠ P := fun z => by rw [z, hP] at nc; cases nc
    have fc : h'.objs.size ≠ c' := (Nat.ne_of_lt high).symm
    have fP : h'.objs.size ≠ P := fun z => by
      rw [upd_ne fc, ← z, upd_same] at fresh
      cases fresh
    have f0 : H h'.objs.size = none := by rw [upd_ne fc, upd_ne fP] at fresh; exact fresh
    exact store (inv_fn (F := ⟨name, q, params, body, scope, cloFrom X.env.cells scope.names [], c'⟩) (t' := tk) (doc := doc) (pm := (X.mg "__name__").getD .none) (ctv := ctv) I1 rfl) (new _ c' _ nc pc fc fP f0 rfl)
end
theorem Step.code {R H : Hp} (s : Sub R H) {P c' : Addr} {q : Str} {pos : Pos} {ps ps' : Array Value} (hP : H P = some (.tbl ps)) (ht : TriplesOk ps.toList) (nc : H c' = none) (hq : nmG pos.line pos.col = q) (e : ps' = ps ++ #[rawInt pos.line, rawInt pos.col, .ref c']) :
    Step R H (upd R c' (CodeO c' q)) (upd (upd H P (.tbl ps')) c' (CodeO c' q)) := by
  have nr : R c' = none := Sm.free s.rh nc
  have pc : P ≠ c' := fun z => by rw [z, nc] at hP; cases hP
  have eL : ps'.toList = ps.toList ++ [rawInt pos.line, rawInt pos.col, .ref c'] := by rw [e]; simp
  have ok : TriplesOk ps'.toList := by rw [eL]; exact PySem.TriplesOk_snoc _ _ _ _ ht
  have old : ∀ {b : Addr} {o : HO}, H b = some o → NT o → upd (upd H P (.tbl ps')) c' (CodeO c' q) b = some o := fun {b o} h n => by
    rw [upd_ne (ne_of_none h nc), upd_ne fun z => by rw [z, hP] at h; cases h; exact n]
    exact h
  have tab : ∀ {b : Addr} {us : Array Value}, H b = some (.tbl us) → ∃ us', upd (upd H P (.tbl ps')) c' (CodeO c' q) b = some (.tbl us') ∧ NewC (upd (upd H P (.tbl ps')) c' (CodeO c' q)) us us' := fun {b us} h => by
    by_cases z : b = P
    · subst z
      rw [hP] at h
      cases h
      refine ⟨ps', by rw [upd_ne pc, upd_same], fun _ => ok, fun p2 cv hc => ?_⟩
      rw [eL] at hc
      rcases among_app2 _ ht hc with k | ⟨k, k1, k2⟩
      · exact .inl k
      · refine .inr ⟨c', k, ?_⟩
        rw [upd_same, ← k1, ← k2, hq]
    · exact ⟨us, by rw [upd_ne (ne_of_none h nc), upd_ne z]; exact h, NewC.same⟩
  have back : ∀ {b : Addr} {o : HO}, upd (upd H P (.tbl ps')) c' (CodeO c' q) b = some o → b ≠ c' → NT o → H b = some o := fun {b o} h n nt => by
    rw [upd_ne n] at h
    by_cases z : b = P
    · subst z; rw [upd_same] at h; cases h; exact nt.elim
    · rw [upd_ne z] at h; exact h
  refine ⟨(Sm.refl R).upd nr, ⟨fun b o h n => ?_, fun b us h => ?_⟩, ⟨fun b o h n => old h n, fun b us h => let ⟨us', h1, h2⟩ := tab h; ⟨us', h1, h2.1⟩⟩, fun a h h' => ?_, fun a xs h => ?_, fun a u xs h => ?_, fun b us h => tab h, fun a φ h => ?_⟩
  · by_cases z : b = c'
    · subst z; rw [upd_same] at h ⊢; exact h
    · rw [upd_ne z] at h; exact old (s.rh.k b o h n) n
  · by_cases z : b = c'
    · subst z; rw [upd_same] at h; cases h
    · rw [upd_ne z] at h
      obtain ⟨u1, h1, h2⟩ := s.rh.t b us h
      obtain ⟨u2, h3, h4⟩ := tab h1
      exact ⟨u2, h3, fun z => h4.1 (h2 z)⟩
  · by_cases z : a = c'
    · subst z; exact nc
    · rw [upd_ne z] at h'; exact absurd h h'
  · by_cases z : a = c'
    · subst z; rw [upd_same] at h; cases h
    · rw [upd_ne z]; exact s.tp a xs (back h z trivial)
  · by_cases z : a = c'
    · subst z; rw [upd_same] at h; cases h
    · rw [upd_ne z]; exact s.tf a u xs (back h z trivial)
  · by_cases z : a = c'
    · subst z; rw [upd_same] at h ⊢; exact h
    · rw [upd_ne z]; exact s.te a φ (back h z trivial)
def CellsC (F : NF) (fr : List Str) (us : List V) (s : Shared) (H : Hp) (outer : List Env) : Prop := CellsAt F.cl fr (us.map some) s.heap H ∧ ∀ y c, F.cl.lookup y = some c → c ∉ frs outer
structure FnOkC (P : Program) (w : World) (K : PySem.W.Frag) (mg : Str → Option Value) (base : Heap) (CX : CXT) (k : Nat) (f : Addr) (fd : FuncData) (ps : List Str) (C : Shared → Hp → List Env → Prop) (sp : Sp) : Prop where
  len : ∀ vs H Q E, sp vs H Q E → vs.length = ps.length
  run : ∀ (A : Around) (outer : List Env) (s : Shared) (H : Hp) (args : Args) (us : List Value) (vs : List V) (Q : VK) (E : XK), Room k A → Env0 P w K mg base A outer s H → C s H outer → BindsTo s fd args (ps.zip us) → Vals vs us → sp vs H Q E →
    codeAny (model P w) A (.call (.ref f) args) (CR CX outer P w H s Q E) s
section
variable {CX : CXT} {P : Program} {w : World} {K : PySem.W.Frag} {mg : Str → Option Value} {base : Heap} {k : Nat} {f : Addr} {fd : FuncData} {nm q : Str} {params : Arguments} {bd : List Stmt} {scope : Scope} {kws : List (Str × V)} {N ps : List Str} {C : Shared → Hp → List Env → Prop}
theorem fnc_of {sp : Sp} (F : FunD K nm q params bd scope [] kws f fd) (S : FnScope N ps scope) (len : ∀ vs H Q E, sp vs H Q E → vs.length = ps.length)
    (hb : ∀ (cdv : Value) (A : Around) (outer : List Env) (s : Shared) (H : Hp) (vs : List V) (Q : VK) (E : XK), Room k (A.deeper (envOfC q scope s.heap.objs.size f cdv)) → C s H outer → sp vs H Q E →
      ∃ t, PSs (cxOf CX P w K mg base N q scope f cdv A outer s H E) bd t ∧ t { nx := fun _ H' => Q .non H', rt := Q } (start N vs) H) : FnOkC P w K mg base CX (k + 1) f fd ps C sp := by
  obtain ⟨oc, od, dV, kV, doc, pm, an, cdv, ct, osl, rfl, lk, hcd, _, _⟩ := F.ex
  refine ⟨len, fun A outer s H args us vs Q E room e0 hC binds r hs => ?_⟩
  have heap := e0.mod.kin.keeps fun b o e => (e0.bs b o e).1
  have lim : s.heap.NoLimit := e0.mod.nolimit.keeps fun b o e => (e0.bs b o e).1
  refine codeAny_call_function room.depth (heap _ _ lk) rfl S.co S.gen rfl (PySem.W.codeRec_of heap hcd) (binds _ _ _ _ ?_)
  refine wpAny_newFunctionEnv_cells S.kind (fun ⟨n, v⟩ hy => (S.par n (List.of_mem_zip hy).1).imp id fun z => ⟨z, PySem.W.cellsFrom_some _ _ _ (.inl z)⟩) fun env he s1 x => ?_
  subst he
  obtain ⟨t, ht, hq⟩ := hb cdv A outer s H vs Q E (room.deeper _) hC hs
  refine ⟨lim.keeps x.toInCall.keep, codeAny_func (wpAny_mono (ht.run [] s1 (start N vs) H _ (inv_start S room.hd e0 (len _ _ _ _ hs) r x) hq) (fun fl s2 h2 => ?_) fun _ _ z => z)⟩
  cases fl with
  | ret u =>
    obtain ⟨v, σ2, H2, J, rv, z⟩ := h2
    exact ⟨v, H2, J.os, J.bare, J.base, J.hok, rv, z⟩
  | next =>
    obtain ⟨σ2, H2, J, z⟩ := h2
    exact ⟨V.non, H2, J.os, J.bare, J.base, J.hok, rfl, z⟩
  | brk => obtain ⟨_, _, _, z⟩ := h2; exact z.elim
  | cont => obtain ⟨_, _, _, z⟩ := h2; exact z.elim
theorem ok_fnF {Rel : List D → Rs → Prop} (F : FunD K nm q params bd scope [] kws f fd) (S : FnScope N ps scope) (len : ∀ ds r, Rel ds r → ds.length = ps.length)
    (h : ∀ (cdv : Value) (A : Around) (outer : List Env) (s : Shared) (H : Hp) (ds : List D) (r : Rs) (E : XK) (W : L2.WX), Room k (A.deeper (envOfC q scope s.heap.objs.size f cdv)) → C s H outer → Rel ds r →
      SXs (cxOf CX0 P w K mg base N q scope f cdv A outer s H E).nox W bd (begin N ds) ⟨fun _ => r = .sh .non, fun r' _ => r' = r, fun _ => False, fun _ => False, fun _ _ => False⟩) : FnOkC P w K mg base CX0 (k + 1) f fd ps C (spR K Rel) := by
  refine fnc_of F S (fun vs H Q E hs => ?_) fun cdv A outer s H vs Q E hr hC hs => ?_
  · obtain ⟨R0, ds, r, _, _, h1, h2, _⟩ := hs
    rw [h1.len, len ds r h2]
  · obtain ⟨R0, ds, r, tb, h0, h1, h2, kk⟩ := hs
    refine ⟨_, PSs.nox pss_sem, h cdv A outer s H ds r E (fun _ _ _ _ => True) hr hC h2 H R0 R0 _ H _ (begin_st tb h0 h1) ⟨fun ρ' R' σ' H' e s' => ?_, fun r' ρ' v R' σ' H' e s' q => ?_, fun _ _ _ _ z => z.elim, fun _ _ _ _ z => z.elim, fun _ _ _ _ _ z => z.elim⟩⟩
    · subst e
      exact kk _ R' H' s'.stp Rp.non
    · subst e
      exact kk v R' H' s'.stp q
end
def spN (K : PySem.W.Frag) (us : List V) (wds : List D) (Rel : List D → Rs → Prop) : List (Option V) → Sp := fun ws vs H Q _ => ws = us.map some ∧ ∃ R0 ds r, TabsK K H ∧ Sub R0 H ∧ RpA K R0 vs ds ∧ RpA K R0 us wds ∧ Rel ds r ∧ ∀ v R' H', Step R0 H R' H' → Res K H R' H' v r → Q v H'
theorem RpA.two {K : PySem.W.Frag} {R : Hp} : ∀ {us vs : List V} {es ds : List D}, RpA K R us es → RpA K R vs ds → RpA K R (us ++ vs) (es ++ ds)
  | [], _, _, _, .nil, h => h
  | _ :: _, _, _, _, .cons a r, h => .cons a (RpA.two r h)
section
variable {P : Program} {w : World} {K : PySem.W.Frag} {mg : Str → Option Value} {base : Heap} {k : Nat} {f : Addr} {F : NF} {N ps fr : List Str} {us : List V} {wds : List D} {Rel : List D → Rs → Prop}
theorem ok_ndef (S : NScope N ps fr F.scope) (hb : ∀ (doc pm ctv : Value) (us : List Value), us.length = ps.length → bindArgs (F.fd doc pm ctv) ⟨us, []⟩ = pure (ps.zip us)) (len : ∀ ds r, Rel ds r → ds.length = ps.length)
    (h : ∀ (A : Around) (outer : List Env) (s : Shared) (H : Hp) (ds : List D) (r : Rs) (E : XK) (W : L2.WX), Room k (A.deeper (envF F f s.heap.objs.size)) → Rel ds r →
      SXs (ncx CX0 P w K mg base N F f A outer s H E).nox W F.body (begin N (ds ++ wds)) ⟨fun _ => r = .sh .non, fun r' _ => r' = r, fun _ => False, fun _ => False, fun _ _ => False⟩) : NOk P w K mg base CX0 (k + 1) f F ps fr (spN K us wds Rel) := by
  refine nok_of S hb (fun ws vs H Q E hs => ?_) fun A outer s H vs ws Q E hr hf hc hl hs => ?_
  · obtain ⟨_, R0, ds, r, _, _, h1, _, h2, _⟩ := hs
    rw [h1.len, len ds r h2]
  · obtain ⟨rfl, R0, ds, r, tb, h0, h1, hw, h2, kk⟩ := hs
    have e : startF N vs (us.map some) = L2.start N (vs ++ us) := by
      unfold startF L2.start
      rw [List.map_append, List.append_assoc, List.length_append, List.length_map, Nat.sub_sub]
    rw [e]
    refine ⟨_, PSs.nox pss_sem, h A outer s H ds r E (fun _ _ _ _ => True) hr h2 H R0 R0 _ H _ (begin_st tb h0 (h1.two hw)) ⟨fun ρ' R' σ' H' e s' => ?_, fun r' ρ' v R' σ' H' e s' q => ?_, fun _ _ _ _ z => z.elim, fun _ _ _ _ z => z.elim, fun _ _ _ _ _ z => z.elim⟩⟩
    · subst e
      exact kk _ R' H' s'.stp Rp.non
    · subst e
      exact kk v R' H' s'.stp q
end
section
variable {X : Cx} {W : L2.WX} {ρ : List Sl} {pos p : Pos} {e : Expr} {es : List Expr} {x : Str} {i k : Nat} {E : XK} {f : Addr} {F : NF} {ps fr : List Str} {us : List V} {wds : List D} {Rel : List D → Rs → Prop}
theorem ex_callF {ds : List D} {r : Rs} (hi : ρ[i]? = some (.sh (.fn f F us wds))) (hN : X.N[i]? = some x) (hv : Vis X.env.scope x) (Fn : NOk X.prog X.w X.K X.mg X.base CX0 k f F ps fr (spN X.K us wds Rel)) (C : CellsAt F.cl fr (us.map some) X.s_0.heap X.H_0) (nf : ∀ y c, F.cl.lookup y = some c → c ∉ X.fs) (hex : X.ex = [])
    (hr : Room k X.A) (hx : Passes CX0 X E) (ha : AX X (e :: es) ρ (ds.map Rs.sh)) (hR : Rel ds r) (hd : (x == ("__debug__" : Str)) = false := by decide) (hcd : (x == ("__classdict__" : Str)) = false := by decide)
    (he : starEach (e :: es) X.env = (false, eval e X.env) :: starEach es X.env := by rfl) (hpl : (backTo pos (starEach es X.env)).any (·.1) = false := by rfl) : EX X (.Call (.Name x p) (e :: es) [] pos) ρ r := fun B R0 R σ H Q s kk pins sh I => by
  obtain ⟨v, _, ev, _, y, rfl, hy⟩ := s.at hi
  cases hy with
  | fn h1 h2 h3 =>
    refine wpAny_Call_Name_kw (thn ((pe_var (pos := p) hN hv hd hcd).run pins sh σ H (fun v H1 => v = .ref f ∧ H1 = H) I ⟨.ref f, ev, rfl, rfl⟩) fun u s1 ⟨v, H1, I1, r1, q1⟩ => ?_)
    obtain ⟨rfl, rfl⟩ := q1
    obtain rfl : u = Value.ref f := r1
    have go := ha B R0 R σ H1 (fun vs H2 => ∃ R2, Step R H1 R2 H2 ∧ RpA X.K R2 vs ds) s fun vs R2 H2 t q => ⟨R2, t, ResA.shs q⟩
    refine PySem.W.callWith_F (first := []) (fnAt_of I1 (s.sub.rh.k _ _ h1 trivial)) (thn ((pa_sem (X := X)).run pos pins s1 σ H1 _ I1 go) fun us2 s2 ⟨vs, H2, I2, rv, R2, t, q⟩ => ?_) he hpl
    have k1 := t.sub.rh.k _ _ (t.rr.k _ _ h1 trivial) trivial
    have k2 := t.sub.rh.k _ _ (t.rr.k _ _ h2 trivial) trivial
    refine ⟨fnAt_of I2 k1, ?_⟩
    show wpAny _ _ (call (.ref f) us2) _ _ _
    refine wpAny_call (codeAny_mono (Fn.run X.A X.stack s2 H2 us2 vs _ (fun v H3 => Q v H3) E hr I2.env0 k1 k2 (C.later nf (fun y c _ z => by rw [hex] at z; cases z) I2) rv ⟨rfl, R2, ds, r, (s.step t).tabs, t.sub, q, RpA.mono t.rr h3, hR, fun v R3 H3 t3 q3 => kk v R3 H3 (t.trans t3) (q3.back t.hh)⟩) fun rr s3 h => ?_)
    cases rr with
    | error e => exact hx pins σ H2 s2 e s3 I2 h
    | ok fl =>
      cases fl with
      | ret u => exact I2.after h
      | next => exact h.elim
      | brk => exact h.elim
      | cont => exact h.elim
end
theorem caps_vals {K : PySem.W.Frag} {B R0 R H : Hp} {ρ : List Sl} {σ : L2.St} (s : St K B R0 R ρ σ H) : ∀ {js : List Nat} {wds : List D}, (js.map fun j => ρ[j]?) = wds.map (fun d => some (Sl.sh d)) → ∃ us : List V, js.map (slotAt σ) = us.map some ∧ RpA K R us wds
  | [], [], _ => ⟨[], rfl, .nil⟩
  | [], _ :: _, h => by cases h
  | _ :: _, [], h => by cases h
  | j :: js, d :: wds, h => by
    rw [List.map_cons, List.map_cons] at h
    obtain ⟨h1, h2⟩ := List.cons.inj h
    obtain ⟨us, e, r⟩ := caps_vals s h2
    obtain ⟨v, f, ev, _, y, rfl, q⟩ := s.at h1
    exact ⟨y :: us, by rw [List.map_cons, List.map_cons, e, slotAt_of ev], .cons q r⟩
section
variable {X : Cx} {W : L2.WX} {ρ : List Sl} {x : Str} {k fa : Nat} {fd : FuncData} {ps fr : List Str} {E : XK} {js : List Nat}
def tCallC (X : Cx) (k : Nat) (fa : Addr) (fd : FuncData) (ps fr : List Str) (js : List Nat) (E : XK) (t : TA) : TE := fun σ H Q => t σ H fun vs H1 => ∃ (F : NF) (us : List V) (sp : Sp), FnOkC X.prog X.w X.K X.mg X.base CX0 k fa fd ps (CellsC F fr us) sp ∧ js.map (slotAt σ) = us.map some ∧ (X.Ok → Caps X F.cl fr js) ∧ sp vs H1 Q E
theorem pe_callC {e : Expr} {es : List Expr} {p pos : Pos} {t : TA} (hr : Room k X.A) (hg : Gl X x) (hm : X.mg x = some (.ref fa)) (hk : PySem.W.keepIn X.K (.ref fa) = true) (hb : Binds X.K fd ps []) (hx : Passes CX0 X E) (hfn : ∀ y, X.fn y = true) (ha : PA X (e :: es) t)
    (hdb : (x == ("__debug__" : Str)) = false := by decide) (he : starEach (e :: es) X.env = (false, eval e X.env) :: starEach es X.env := by rfl) (hpl : (backTo pos (starEach es X.env)).any (·.1) = false := by rfl) :
    PE X (.Call (.Name x p) (e :: es) [] pos) (tCallC X k fa fd ps fr js E t) := by
  constructor
  intro pins s σ H Q I h
  refine wpAny_Call_Name_kw (ld_glob I hg hm ?_ hdb)
  refine PySem.W.callWith_K (h₀ := X.base) I.ok.mod.kin hk (thn (ha.run pos pins s σ H _ I h) fun us s1 ⟨vs, H1, I1, rv, F, ws, sp, Fc, ew, cp, q⟩ => ⟨I1.kIn, ?_⟩) he hpl
  have caps := cp I1.ok
  have C : CellsC F fr ws s1 H1 X.stack := by
    refine ⟨by rw [← ew]; exact cells_of I1 caps, fun y c hc z => ?_⟩
    have hc2 := caps.sub y c hc
    have low := I1.ok.cab y c (hfn y) hc2
    obtain ⟨cv, o, ho, hd⟩ := I1.cell y c hc2
    have inner : c ∉ X.fs := fun z => by
      obtain ⟨_, o2, h2, _⟩ := I1.ok.funs.mem z
      exact Nat.not_lt.mpr low (Heap.lt_size h2)
    rcases I1.ok.stk with e | ⟨e, ef⟩
    · rw [e] at z; exact inner z
    · rw [e] at z
      unfold frs at z
      rw [List.filterMap_cons, ef] at z
      rcases List.mem_cons.mp z with z | z
      · obtain ⟨m, hn, _⟩ := I1.loc
        obtain ⟨o3, es3, ep3, h3, h4, _⟩ := hn
        rw [← z, ho] at h3
        cases h3
        rw [hd] at h4
        cases h4
      · exact inner z
  have hl : us.length = ps.length := by rw [← rv.length]; exact Fc.len _ _ _ _ q
  refine wpAny_call (codeAny_mono (Fc.run X.A X.stack s1 H1 ⟨us, []⟩ us vs Q E hr I1.env0 C (by have := hb s1 us I1.kIn (by rw [List.append_nil]; exact hl); rw [List.append_nil] at this; exact this) rv q) fun r s2 h => ?_)
  cases r with
  | error e => exact hx pins σ H1 s1 e s2 I1 h
  | ok fl =>
    cases fl with
    | ret u => exact I1.after h
    | next => exact h.elim
    | brk => exact h.elim
    | cont => exact h.elim
end
theorem Lt.give : ∀ (ρ : List Sl) (i : Nat) (s : Sl), Lt (ρ.set i .no) (ρ.set i s)
  | [], _, _ => .nil
  | _ :: ρ, 0, s => .no (Lt.refl ρ)
  | _ :: ρ, i + 1, s => .eq (Lt.give ρ i s)
theorem slots_off {σ : L2.St} {i : Nat} {v : Option V} : ∀ {js : List Nat}, i ∉ js → js.map (slotAt (σ.set i v)) = js.map (slotAt σ)
  | [], _ => rfl
  | j :: js, h => by
    rw [List.map_cons, List.map_cons, slots_off fun z => h (List.mem_cons_of_mem _ z)]
    unfold NdefX.slotAt
    rw [List.getElem?_set_ne fun z => h (by rw [z]; exact List.mem_cons_self)]
section
variable {X : Cx} {W : L2.WX} {ρ : List Sl} {P : Post}
theorem sxs_ndefC {name q x : Str} {params : Arguments} {body : List Stmt} {scope : Scope} {dpos p1 p2 cpos rpos : Pos} {i k : Nat} {js : List Nat} {fr ps : List Str} {g fa : Addr} {fd : FuncData} {e0 : Expr} {d0 : D} {wds : List D} {r : Rs} {Rel : Addr → NF → List V → List D → Rs → Prop} {E : XK}
    (d : Str × Option Str) (hd : d ∈ genDefs) (hn : PySem.W.nsIn X.K mainGlobals d.1 = some (some (.ref g))) (tb : GxR.TabB X.base X.mg (He.cT X.K d).1 (He.cT X.K d).2) (hcode : X.env.code = .ref (He.cT X.K d).1) (hq : X.env.qual ++ name = q) (hnm : nmG dpos.line dpos.col = q)
    (hB : ndefB X.env.scope scope fr = true) (hd0 : params.defaults = []) (hk0 : params.kw_defaults = []) (ha : annTrees params none X.env = []) (hNd : X.N.Nodup) (hi : X.N[i]? = some name) (hx : Loc X.env.scope name) (hfn : ∀ y, X.fn y = true)
    (hjs : js.map (fun j => X.N[j]?) = fr.map some) (hij : i ∉ js) (hil : i < ρ.length) (hwd : (js.map fun j => ρ[j]?) = wds.map fun d => some (Sl.sh d))
    (Fc : ∀ f cl c' us, FnOkC X.prog X.w X.K X.mg X.base CX0 k fa fd ps (CellsC ⟨name, q, params, body, scope, cl, c'⟩ fr us) (spR X.K (Rel f ⟨name, q, params, body, scope, cl, c'⟩ us)))
    (hr : Room k X.A) (hg : Gl X x) (hm : X.mg x = some (.ref fa)) (hk : PySem.W.keepIn X.K (.ref fa) = true) (hb : Binds X.K fd ps []) (hxp : Passes CX0 X E)
    (he0 : EX X e0 (ρ.set i .no) (.sh d0)) (hR : ∀ f F us, Rel f F us [d0, .fn f F us wds] r) (hrt : ∀ ρ', P.rt r ρ')
    (hdb : (x == ("__debug__" : Str)) = false := by decide) (hdn : (name == ("__debug__" : Str)) = false := by decide) (hcn : (name == ("__classdict__" : Str)) = false := by decide)
    (hs : starEach [e0, .Name name p2] X.env = (false, eval e0 X.env) :: starEach [.Name name p2] X.env := by rfl) (hs2 : starEach [.Name name p2] X.env = (false, eval (.Name name p2) X.env) :: starEach [] X.env := by rfl) (hpl : (backTo cpos (starEach [.Name name p2] X.env)).any (·.1) = false := by rfl) :
    SXs X W [.FunctionDef name params body [] none [] scope none name dpos, .Return (some (.Call (.Name x p1) [e0, .Name name p2] [] cpos)) rpos] ρ P := by
  have vis : Vis X.env.scope name := hx.elim .inl fun z => .inr (.inl z)
  have pv : PE X (.Name name p2) (tVar i) := pe_var hi vis hdn hcn
  have ret := ps_ret (X := X) (pos := rpos) (pe_callC (X := X) (p := p1) (pos := cpos) (fr := fr) (js := js) (E := E) hr hg hm hk hb hxp hfn (pa_cons (pe_sem (e := e0)) (pa_cons pv pa_nil hs2) hs) hdb hs hpl)
  refine .of (pss_cons (ps_defX ⟨tb.code, tb.bm, tb.gP⟩ hcode hq (ndef_free hB) hd0 hk0 ha hNd hi hx (.inl (hfn name))) (pss_one ret)) fun B R0 R σ H D s n => ?_
  obtain ⟨ps0, hP, ht, hc⟩ := s.tabs d hd ⟨g, hn⟩
  obtain ⟨us, eus, rus⟩ := caps_vals s hwd
  have caps : ∀ _ : Addr, X.Ok → Caps X (cloFrom X.env.cells scope.names []) fr js := fun _ ok => Caps.made ok (ndef_free hB) (ndef_fr hB) hjs
  have go : ∀ (f c' : Addr) (R1 H1 : Hp), Step R H R1 H1 → R1 f = some (FnO f ⟨name, q, params, body, scope, cloFrom X.env.cells scope.names [], c'⟩) → R1 c' = some (CodeO c' q) →
      tRet (tCallC X k fa fd ps fr js E (tCons (tE X e0) (tCons (tVar i) tNil))) D (σ.set i (some (.ref f))) H1 := fun f c' R1 H1 t h1 h2 => by
    have fn : Rp X.K R1 (.ref f) (.fn f ⟨name, q, params, body, scope, cloFrom X.env.cells scope.names [], c'⟩ us wds) := .fn h1 h2 (RpA.mono t.rr rus)
    have s2 := s.set t (r := .sh _) fn i
    refine he0 B R0 R1 _ H1 _ (s2.weak (Lt.give ρ i _)) fun y R2 H2 t2 q2 => ?_
    refine ⟨.ref f, by rw [List.getElem?_set, if_pos rfl, if_pos (by rw [← s.len]; exact hil)], ?_⟩
    refine ⟨_, us, _, Fc f _ c' us, by rw [slots_off hij]; exact eus, caps c', ?_⟩
    refine ⟨R2, [d0, .fn f _ us wds], r, (s2.step t2).tabs, t2.sub, .cons q2 (.cons (Rp.mono t2.rr fn) .nil), hR f _ us, fun v R3 H3 t3 q3 => ?_⟩
    have s3 := (s2.step t2).step t3
    exact n.rt r _ v R3 _ H3 (hrt _) s3 (q3.back (s2.step t2).stp.hh)
  refine ⟨ps0, hP, ht, fun cv h => ?_, fun f c' nf hco => ?_, fun f c' ps' nc pc fc fP nf e => ?_⟩
  · obtain ⟨c, e1, e2⟩ := hc dpos cv h
    exact ⟨c, e1, by rw [← hnm]; exact e2⟩
  · have t := s.sub.step.newS (o := FnO f ⟨name, q, params, body, scope, cloFrom X.env.cells scope.names [], c'⟩) nf
    refine go f c' _ _ t upd_same ?_
    have := s.sub.te c' _ hco
    rw [upd_ne fun z => by rw [z, nf] at hco; cases hco]
    exact this
  · have t1 := Step.code s.sub hP ht nc hnm e
    have t2 := t1.newS (p := f) (o := FnO f ⟨name, q, params, body, scope, cloFrom X.env.cells scope.names [], c'⟩) (by rw [upd_ne fc, upd_ne fP]; exact nf)
    exact go f c' _ _ t2 upd_same (by rw [upd_ne fc.symm, upd_same])
end
end PV

namespace EnL
open PySem PySem.Spec PyProof.Rows L2
open Sem (wp)
def EnSt (h : Heap) (e it S : Addr) (i : Nat) : Prop :=
  (i = 0 ∧ ∃ old, IsEnum h e it 0 old) ∨ ∃ old T f oT, PySem.IsEnumHeld h e it (i : Int) old T f ∧ h.get? T = some oT ∧ T ≠ e ∧ T ≠ it ∧ T ≠ S
theorem EnSt.keep {h h' : Heap} {e it S : Addr} {i : Nat} (x : EnSt h e it S i) (k : ∀ b o, b ≠ S → h.get? b = some o → h'.get? b = some o) (eS : e ≠ S) : EnSt h' e it S i := by
  rcases x with ⟨z, old, he⟩ | ⟨old, T, f, oT, he, hT, n1, n2, n3⟩
  · exact .inl ⟨z, old, k _ _ eS he⟩
  · exact .inr ⟨old, T, f, oT, k _ _ eS he, k _ _ n3 hT, n1, n2, n3⟩
theorem no_len : typeLookup (.type "enumerate") "__len__" = pure none := by rw [typeLookup_type, builtinLookup_eq_fast]; kernel_rfl
theorem no_hint : typeLookup (.type "enumerate") "__length_hint__" = pure none := by rw [typeLookup_type, builtinLookup_eq_fast]; kernel_rfl
structure Prs (items : Array Value) (lo : Addr) (h : Heap) (ts : List Addr) : Prop where
  up : ts.Pairwise (· < ·)
  above : ∀ t ∈ ts, lo < t
  at_ : ∀ (j : Nat) (t : Addr), ts[j]? = some t → ∃ x tk, items[j]? = some x ∧ h.get? t = some { cls := .type "tuple", data := .seq #[.int (j : Int) tk, x] }
section
variable {prog : Program} {w : World} {A : Around} {s : Shared} {R : Result → Shared → Prop} {E : Value → Shared → Prop} {e it l S : Addr} {items : Array Value}
theorem en_item {i : Nat} {x : Value} {Q : Option Value → Shared → Prop} (st : EnSt s.heap e it S i) (hit : s.heap.IsListIter it l i) (hl : s.heap.IsList l items) (hx : items[i]? = some x) (hne : e ≠ it) (hS : S < s.heap.objs.size)
    (hQ : ∀ h', EnSt h' e it S (i + 1) → h'.IsListIter it l (i + 1) → h'.get? s.heap.objs.size = some { cls := .type "tuple", data := .seq #[.int (i : Int) s.toks, x] } → (∀ b o, b ≠ e → b ≠ it → s.heap.get? b = some o → h'.get? b = some o) →
      Q (some (.ref s.heap.objs.size)) { s with heap := h', toks := s.toks + 1 }) : wpAny (model prog w) A (pyNext (.ref e)) Q E s := by
  have ec : ((i + 1 : Nat) : Int) = (i : Int) + 1 := by omega
  have nit : s.heap.objs.size ≠ it := by obtain ⟨_, y, _⟩ := hit; exact Nat.ne_of_gt (Heap.lt_size y)
  rcases st with ⟨z, old, he⟩ | ⟨old, T, f, oT, he, hT, n1, n2, n3⟩
  · subst z
    exact wpAny_pyNext_enum_item he hit hl hx hne fun h' ho hit' hT hsz hk => hQ h' (.inr ⟨_, s.heap.objs.size, false, _, (by rw [ec]; exact ho), hT, Nat.ne_of_gt (Heap.lt_size he), nit, Nat.ne_of_gt hS⟩) hit' hT hk
  · exact PySem.wpAny_pyNext_enum_item_held he hT n1 n2 hit hl hx hne fun h' ho hit' hT' hsz hk => hQ h' (.inr ⟨old, T, true, oT, (by rw [ec]; exact ho), hk _ _ n1 n2 hT, n1, n2, n3⟩) hit' hT' hk
theorem en_done {i : Nat} {Q : Option Value → Shared → Prop} (hh : A.handled = none) (st : EnSt s.heap e it S i) (hit : s.heap.IsListIter it l i) (hl : s.heap.IsList l items) (hx : items[i]? = none)
    (hQ : ∀ h', Heap.ExtBut it s.heap h' → Q none { s with heap := h' }) : wpAny (model prog w) A (pyNext (.ref e)) Q E s := by
  rcases st with ⟨z, old, he⟩ | ⟨old, T, f, oT, he, hT, n1, n2, n3⟩
  · subst z
    exact wpAny_pyNext_enum_end hh he hit hl hx hQ
  · exact PySem.wpAny_pyNext_enum_end_held hh he hit hl hx hQ
theorem en_loop (hh : A.handled = none) (ei : e ≠ it) (eS : e < S) (iS : it < S) (le : l ≠ e) (li : l ≠ it) (lS : l ≠ S) (hn : items.size ≤ sizeLine) (res : Value) {h₁ : Heap}
    (hR : ∀ h' tk acc c ts, (∀ b o, b ≠ S → b ≠ e → b ≠ it → h₁.get? b = some o → h'.get? b = some o) → h'.get? S = some { cls := .type "list", dict := none, data := .seq acc c, slots := #[] } → ts.length = items.size → Prs items S h' ts → acc.toList = ts.map Value.ref →
      R (.ok (.ret res)) { s with heap := h', toks := tk }) :
    ∀ (k i : Nat) (h : Heap) (tk c : Nat) (acc : Array Value) (ts : List Addr), items.size - i = k → i ≤ items.size → EnSt h e it S i → h.IsListIter it l i → h.IsList l items → (∀ b o, b ≠ S → b ≠ e → b ≠ it → h₁.get? b = some o → h.get? b = some o) →
      h.get? S = some { cls := .type "list", dict := none, data := .seq acc c, slots := #[] } → acc.toList = ts.map Value.ref → ts.length = i → Prs items S h ts →
      codeAny (model prog w) A (.builtin "list.extend.loop" ⟨[.ref S, .ref e, res], []⟩) R { s with heap := h, toks := tk } := by
  intro k
  induction k with
  | zero =>
    intro i h tk c acc ts hk hi st hit hl keep hS hacc hlen hp
    refine codeAny_builtin PySem.F.entry_extend_loop ?_
    rw [Around.under_plainId PySem.F.plain_extend_loop _]
    show wpAny _ A.in1 (pyNext (.ref e) >>= _) _ _ _
    refine wpAny_bind (en_done (s := { s with heap := h, toks := tk }) (A := A.in1) (S := S) hh st hit hl (Array.getElem?_eq_none (by omega)) fun h' x => ?_)
    refine wpAny_pure (hR h' tk acc c ts (fun b o n1 n2 n3 q => x b o n3 (keep b o n1 n2 n3 q)) (x S _ (Nat.ne_of_gt iS) hS) (by omega) ⟨hp.up, hp.above, fun j t ht => ?_⟩ hacc)
    obtain ⟨y, tk2, q1, q2⟩ := hp.at_ j t ht
    exact ⟨y, tk2, q1, x t _ (Nat.ne_of_gt (Nat.lt_trans iS (hp.above t (List.mem_of_getElem? ht)))) q2⟩
  | succ k ih =>
    intro i h tk c acc ts hk hi st hit hl keep hS hacc hlen hp
    have hlt : i < items.size := by omega
    have hx := Array.getElem?_eq_getElem hlt
    have sz : acc.size = i := by rw [← Array.length_toList, hacc, List.length_map, hlen]
    have hSl : S < h.objs.size := Heap.lt_size hS
    refine codeAny_builtin PySem.F.entry_extend_loop ?_
    rw [Around.under_plainId PySem.F.plain_extend_loop _]
    show wpAny _ A.in1 (pyNext (.ref e) >>= _) _ _ _
    refine wpAny_bind (en_item (s := { s with heap := h, toks := tk }) st hit hl hx ei hSl fun h' st' hit' hT keep' => ?_)
    dsimp only at hT keep' ⊢
    have hS' := keep' S _ (Nat.ne_of_gt eS) (Nat.ne_of_gt iS) hS
    have up : ∀ b o, b ≠ S → h'.get? b = some o → (h'.update S (Obj.mapSeq (·.push (Value.ref h.objs.size)))).get? b = some o := fun b o hb q => (Heap.get?_update_other _ _ (Ne.symm hb)).trans q
    show wpAny _ A.in1 (updateSeq S (·.push (Value.ref h.objs.size)) >>= _) _ _ _
    refine wpAny_bind (wpAny_updateSeq hS' rfl (wpAny_pure ⟨plainId_quiet PySem.F.plain_extend_loop _, ?_⟩) (by rw [sz]; omega) (by show (acc.push (Value.ref h.objs.size)).size ≤ sizeLine + 1; rw [Array.size_push, sz]; omega))
    refine ih (i + 1) _ (tk + 1) _ (acc.push (Value.ref h.objs.size)) (ts ++ [h.objs.size]) (by omega) hlt (st'.keep up (Nat.ne_of_lt eS)) (hit'.at fun o q => up it o (Nat.ne_of_lt iS) q) (hl.at fun o q => up l o lS (keep' l o le li q))
      (fun b o n1 n2 n3 q => up b o n1 (keep' b o n2 n3 (keep b o n1 n2 n3 q))) (Heap.get?_update_self _ hS' rfl) (by rw [Array.toList_push, hacc, List.map_append]; rfl) (by rw [List.length_append, hlen]; rfl) ⟨?_, ?_, ?_⟩
    · refine List.pairwise_append.mpr ⟨hp.up, List.pairwise_singleton _ _, fun a ha b hb => ?_⟩
      rw [List.mem_singleton.mp hb]
      obtain ⟨j, hj⟩ := List.mem_iff_getElem?.mp ha
      obtain ⟨_, _, _, q⟩ := hp.at_ j a hj
      exact Heap.lt_size q
    · intro t ht
      rcases List.mem_append.mp ht with ht | ht
      · exact hp.above t ht
      · rw [List.mem_singleton.mp ht]; exact hSl
    · intro j t ht
      by_cases hj : j < ts.length
      · rw [List.getElem?_append_left hj] at ht
        obtain ⟨y, tk2, q1, q2⟩ := hp.at_ j t ht
        have hb := hp.above t (List.mem_of_getElem? ht)
        exact ⟨y, tk2, q1, up t _ (Nat.ne_of_gt hb) (keep' t _ (Nat.ne_of_gt (Nat.lt_trans eS hb)) (Nat.ne_of_gt (Nat.lt_trans iS hb)) q2)⟩
      · rw [List.getElem?_append_right (by omega)] at ht
        have j0 : j - ts.length = 0 := by
          have := (List.getElem?_eq_some_iff.mp ht).1
          rw [List.length_singleton] at this
          omega
        rw [j0] at ht
        cases ht
        have : j = i := by omega
        subst this
        exact ⟨_, tk, hx, up _ _ (Nat.ne_of_gt hSl) hT⟩
end
section
variable {prog : Program} {w : World} {A : Around} {s : Shared} {E : Value → Shared → Prop} {e it l : Addr} {items : Array Value}
theorem en_extend {R : Result → Shared → Prop} (hh : A.handled = none) {S : Addr} {c₀ : Nat} (he : IsEnum s.heap e it 0 .none) (hit : s.heap.IsListIter it l 0) (hl : s.heap.IsList l items) (ei : e ≠ it) (eS : e < S) (iS : it < S) (le : l ≠ e) (li : l ≠ it) (lS : l ≠ S) (hn : items.size ≤ sizeLine) (res : Value)
    (hS : s.heap.get? S = some { cls := .type "list", data := .seq #[] c₀ })
    (hR : ∀ h' tk acc c ts, (∀ b o, b ≠ S → b ≠ e → b ≠ it → s.heap.get? b = some o → h'.get? b = some o) → h'.get? S = some { cls := .type "list", dict := none, data := .seq acc c, slots := #[] } → ts.length = items.size → Prs items S h' ts → acc.toList = ts.map Value.ref →
      R (.ok (.ret res)) { s with heap := h', toks := tk }) :
    wpAny (model prog w) A.in1 (Builtin.List.listExtendWith (.ref S) (.ref e) res)
      (fun fin s' => match fin with | .done f => R (.ok f) s' | .again c' => c'.quiet = true ∧ codeAny (model prog w) A c' R s') (fun e s' => R (.error e) s') s := by
  have ty : ∀ {h : Heap}, IsEnum h e it 0 .none → ∀ {z : Shared}, z.heap = h → z.TypeIs (.ref e) "enumerate" := fun {h} q {z} y => ⟨_, by rw [y]; exact q, rfl⟩
  have nS : S ≠ e := Nat.ne_of_gt eS
  have same : Builtin.List.listSameRef (.ref S) (.ref e) = false := by simp [Builtin.List.listSameRef, nS]
  have nl : (Value.type "enumerate" == Value.type "list") = false := by decide
  have nt : (Value.type "enumerate" == Value.type "tuple") = false := by decide
  unfold Builtin.List.listExtendWith
  refine wpAny_bind (wpAny_typeOf (T := "enumerate") (ty he rfl) ?_)
  simp only [same, nl, nt, Bool.or_false, Bool.false_eq_true, if_false]
  refine wpAny_bind (wpAny_pyIter_enum he (wpAny_bind (wpAny_holding ?_)))
  unfold Builtin.List.listLengthHint
  refine wpAny_bind (wpAny_specialOf (ty he rfl) no_len ?_)
  show wpAny _ A.in1 (specialOf (Value.ref e) (Str.ofString "__length_hint__") >>= _) _ _ _
  refine wpAny_bind (wpAny_specialOf (ty he rfl) no_hint (wpAny_pure ?_))
  show wpAny _ A.in1 (rule "list.extend.makes-room" >>= fun _ => Builtin.List.listTouch (.ref S) >>= fun _ => again (.builtin "list.extend.loop" ⟨[.ref S, .ref e, res], []⟩)) _ _ _
  refine wpAny_bind (wpAny_rule (wpAny_bind ?_))
  show wpAny _ A.in1 (updateSeq S (·.push .none) >>= fun _ => updateSeq S (·.pop)) _ _ _
  have h2 := Heap.get?_update_self (Obj.mapSeq (·.push Value.none)) hS rfl
  have h3 := Heap.get?_update_self (Obj.mapSeq (·.pop)) h2 rfl
  have off : ∀ b o, b ≠ S → s.heap.get? b = some o → ((s.heap.update S (Obj.mapSeq (·.push Value.none))).update S (Obj.mapSeq (·.pop))).get? b = some o := fun b o hb q => (Heap.get?_update_other _ _ (Ne.symm hb)).trans ((Heap.get?_update_other _ _ (Ne.symm hb)).trans q)
  refine wpAny_bind (wpAny_updateSeq hS rfl (wpAny_updateSeq (hz := by seq_fits) h2 rfl (wpAny_pure ⟨plainId_quiet PySem.F.plain_extend_loop _, ?_⟩)))
  exact en_loop (s := s) (h₁ := s.heap) hh ei eS iS le li lS hn res hR items.size 0 _ s.toks _ #[] [] (Nat.sub_zero _) (Nat.zero_le _) (.inl ⟨rfl, .none, off e _ nS.symm he⟩) (hit.at fun o q => off it o (Nat.ne_of_lt iS) q) (hl.at fun o q => off l o lS q)
    (fun b o n1 _ _ q => off b o n1 q) h3 rfl rfl ⟨.nil, (fun _ z => nomatch z), fun j t z => by simp at z⟩
theorem en_call {Q : Value → Shared → Prop} (hh : A.handled = none) (he : IsEnum s.heap e it 0 .none) (hit : s.heap.IsListIter it l 0) (hl : s.heap.IsList l items) (ei : e ≠ it) (le : l ≠ e) (li : l ≠ it) (hn : items.size ≤ sizeLine)
    (hQ : ∀ h' tk acc c ts, (∀ b o, b ≠ e → b ≠ it → s.heap.get? b = some o → h'.get? b = some o) → h'.get? s.heap.objs.size = some { cls := .type "list", dict := none, data := .seq acc c, slots := #[] } → ts.length = items.size → Prs items s.heap.objs.size h' ts → acc.toList = ts.map Value.ref →
      Q (.ref s.heap.objs.size) { s with heap := h', toks := tk }) :
    wpAny (model prog w) A (call (.type "list") [.ref e]) Q E s := by
  have le0 : e < s.heap.objs.size := Heap.lt_size he
  have li0 : it < s.heap.objs.size := by obtain ⟨_, y, _⟩ := hit; exact Heap.lt_size y
  have ll0 : l < s.heap.objs.size := by obtain ⟨_, y, _⟩ := hl; exact Heap.lt_size y
  refine callType_codes (Q₁ := fun obj s₁ => obj = .ref s.heap.objs.size ∧ s₁ = { s with heap := s.heap.push { cls := .type "list", data := .seq #[] } }) PySem.F.called_list (PySem.F.typeCall_list_1 _) PySem.F.entry_list_init (code_list_new _ ⟨rfl, rfl⟩) fun obj s₁ h₁ => ?_
  obtain ⟨rfl, rfl⟩ := h₁
  have hS : (s.heap.push { cls := .type "list", data := .seq #[] }).get? s.heap.objs.size = some { cls := .type "list", data := .seq #[] } := Heap.get?_push_size _ rfl
  have old : ∀ b o, s.heap.get? b = some o → (s.heap.push { cls := .type "list", data := .seq #[] }).get? b = some o := fun b o q => Heap.get?_push_of_some _ q
  refine ⟨⟨_, hS, rfl⟩, PySem.F.args_list_init_2 _ _, ?_⟩
  show wpAny _ _ (do let old ← Builtin.List.listItems (.ref s.heap.objs.size); Builtin.List.listUpdate (.ref s.heap.objs.size) (fun _ => #[]); letGo old.toList.reverse; Builtin.List.listExtendWith (.ref s.heap.objs.size) (.ref e) .none) _ _ _
  refine wpAny_bind ?_
  unfold Builtin.List.listItems
  refine wpAny_bind (wpAny_seqItems hS rfl (wpAny_pure ?_))
  show wpAny _ _ (updateSeq s.heap.objs.size (fun _ => #[]) >>= fun _ => letGo (#[] : Array Value).toList.reverse >>= fun _ => Builtin.List.listExtendWith (.ref s.heap.objs.size) (.ref e) .none) _ _ _
  have h2 := Heap.get?_update_self (Obj.mapSeq (fun _ => (#[] : Array Value))) hS rfl
  have off : ∀ b o, s.heap.get? b = some o → ((s.heap.push { cls := .type "list", data := .seq #[] }).update s.heap.objs.size (Obj.mapSeq (fun _ => (#[] : Array Value)))).get? b = some o := fun b o q => (Heap.get?_update_other _ _ (Nat.ne_of_gt (Heap.lt_size q))).trans (old b o q)
  refine wpAny_bind (wpAny_updateSeq hS rfl (wpAny_bind (wpAny_letGo ?_)))
  refine en_extend (A := A.in1) hh (off e _ he) (hit.at fun o q => off it o q) (hl.at fun o q => off l o q) ei le0 li0 le li (Nat.ne_of_lt ll0) hn .none h2 fun h' tk acc c ts keep hS' hlen hp hacc => ?_
  exact ⟨rfl, hQ h' tk acc c ts (fun b o n1 n2 q => keep b o (Nat.ne_of_lt (Heap.lt_size q)) n1 n2 (off b o q)) hS' hlen hp hacc⟩
end
def nums (xs : List V) : List (Key × V) := xs.zipIdx.map fun q => (Sum.inl (q.2 : Int), q.1)
theorem nums_get {xs : List V} {j : Nat} : (nums xs)[j]? = (xs[j]?).map fun x => (Sum.inl (j : Int), x) := by
  unfold nums
  rw [List.getElem?_map, List.getElem?_zipIdx]
  cases xs[j]? <;> simp
theorem nums_len (xs : List V) : (nums xs).length = xs.length := by unfold nums; rw [List.length_map, List.length_zipIdx]
def laidE (H : Hp) (S : Addr) (ts : List Addr) (xs : List V) : Hp := LiI.putT (upd H S (.lst (ts.map V.ref))) ts (nums xs)
section
variable {X : Cx}
theorem enl_laid {pins : List (Addr × Obj)} {σ : L2.St} {H : Hp} {s : Shared} {h' : Heap} {tk c : Nat} {xs : List V} {items acc : Array Value} {S : Addr} {ts : List Addr} (I : Inv X pins σ H s) (hz : xs.length ≤ sizeLine) (rv : Vals xs items.toList)
    (hk : ∀ b o, s.heap.get? b = some o → h'.get? b = some o) (low : s.heap.objs.size ≤ S) (hS : h'.get? S = some { cls := .type "list", dict := none, data := .seq acc c, slots := #[] }) (hl : ts.length = items.size) (hp : Prs items S h' ts) (hacc : acc.toList = ts.map Value.ref) :
    H S = none ∧ (∀ t ∈ ts, H t = none) ∧ S ∉ ts ∧ ts.Nodup ∧ ts.length = xs.length ∧ Inv X pins σ (laidE H S ts xs) { s with heap := h', toks := tk } := by
  have lx : xs.length = items.size := by rw [rv.length, Array.length_toList]
  have nS : H S = none := I.hok.fresh low
  have tlow : ∀ t ∈ ts, s.heap.objs.size ≤ t := fun t ht => Nat.le_trans low (Nat.le_of_lt (hp.above t ht))
  have nT : ∀ t ∈ ts, H t = none := fun t ht => I.hok.fresh (tlow t ht)
  have sn : S ∉ ts := fun z => Nat.lt_irrefl _ (hp.above S z)
  have nd : ts.Nodup := hp.up.imp fun h => Nat.ne_of_lt h
  have ln : ts.length = (nums xs).length := by rw [nums_len]; omega
  have at_ := LiI.putT_at ts (nums xs) (upd H S (.lst (ts.map V.ref))) ln nd
  have off : ∀ b, b ∉ ts → b ≠ S → laidE H S ts xs b = H b := fun b h1 h2 => by unfold laidE; rw [LiI.putT_off _ _ _ h1, upd_ne h2]
  have older : ∀ b o, s.heap.get? b = some o → b ∉ ts ∧ b ≠ S := fun b o q => ⟨fun z => Nat.not_lt.mpr (tlow b z) (Heap.lt_size q), fun z => Nat.not_lt.mpr low (by rw [← z]; exact Heap.lt_size q)⟩
  have kp : ∀ b u, H b = some u → laidE H S ts xs b = some u := fun b u q => by
    rw [off b (fun z => by rw [nT b z] at q; cases q) fun z => by rw [z, nS] at q; cases q]
    exact q
  have eS : laidE H S ts xs S = some (.lst (ts.map V.ref)) := by unfold laidE; rw [LiI.putT_off _ _ _ sn, upd_same]
  refine ⟨nS, nT, sn, nd, by omega, ?_⟩
  refine I.call' (ch := []) rfl ⟨fun b o q _ _ _ => hk b o q, fun b o q _ _ _ => ⟨o.slots, hk b o q⟩, fun b o q n _ => ?_, fun b o q _ => ⟨o, hk b o q⟩, fun b ys q => kp b _ q, fun b o u q => kp b _ q, fun b ps q => ⟨#[], by rw [kp b _ q]; simp⟩⟩ (fun b u q => ?_) I.bare fun b z => by simp at z
  · obtain ⟨z1, z2⟩ := older b o q
    rw [off b z1 z2]
    exact n
  · by_cases hb : b ∈ ts
    · obtain ⟨j, pk, e1, e2, e3⟩ := LiI.paired_ix at_ hb
      have e3 : laidE H S ts xs b = some (.tup [kV pk.1, pk.2]) := e3
      rw [e3] at q
      cases q
      obtain ⟨x, tk2, f1, f2⟩ := hp.at_ j b e1
      rw [nums_get] at e2
      cases g : xs[j]? with
      | none => rw [g] at e2; cases e2
      | some y =>
        rw [g] at e2
        cases e2
        obtain ⟨u, hu, ru⟩ := rv.get g
        rw [Array.getElem?_toList, f1] at hu
        cases hu
        exact ⟨by show 2 ≤ sizeLine; decide, [.int (j : Int) tk2, x], .cons ⟨_, rfl⟩ (.cons ru .nil), ⟨_, f2, rfl, _, rfl⟩⟩
    · by_cases h2 : b = S
      · rw [h2] at q ⊢
        rw [eS] at q
        cases q
        refine ⟨by rw [List.length_map]; omega, acc.toList, c, by rw [hacc]; exact LiI.vals_refs ts, ?_⟩
        rw [Array.toArray_toList]
        exact hS
      · rw [off b hb h2] at q
        exact (I.hok b u q).stay (fun d v _ y => hk d v y) (fun d y => kp d _ y) fun d xs y => kp d _ y
def tListEnum (K : PySem.W.Frag) (ta : TA) : TE := fun σ H Q => ta σ H fun vs H1 => ∃ a xs, vs = [.ref a] ∧ SqL K H1 a xs ∧ ∀ S ts, H1 S = none → (∀ t ∈ ts, H1 t = none) → S ∉ ts → ts.Nodup → ts.length = xs.length → Q (.ref S) (laidE H1 S ts xs)
theorem pe_listEnum {e : Expr} {ta : TA} {p p2 pos cpos : Pos} (hc : X.calm = true) (hg : Gl X "list") (hm : X.mg "list" = none) (hv : bootBuiltins "list" = some (.type "list")) (hg2 : Gl X "enumerate") (hm2 : X.mg "enumerate" = none) (ha : PA X [e] ta)
    (hs : starEach [e] X.env = [(false, eval e X.env)] := by rfl) (hs2 : starEach [.Call (.Name "enumerate" p2) [e] [] cpos] X.env = (false, eval (.Call (.Name "enumerate" p2) [e] [] cpos) X.env) :: starEach [] X.env := by rfl) :
    PE X (.Call (.Name "list" p) [.Call (.Name "enumerate" p2) [e] [] cpos] [] pos) (tListEnum X.K ta) := by
  constructor
  intro pins s σ H Q I h
  refine wpAny_Call_Name_kw (ld_blt I hg hm hv ?_)
  refine PyProof.Rows.callWith_type1 ?_ hs2 rfl
  rw [hs2]
  show wpAny _ _ (spliced ((false, eval (.Call (.Name "enumerate" p2) [e] [] cpos) X.env) :: backTo pos (starEach [] X.env))) _ _ s
  refine Calls.spliced_cons ?_
  refine Call_ (ld_blt I hg2 hm2 boot_enumerate (PyProof.Rows.callWith_type1 (thn (ha.run cpos pins s σ H _ I h) fun us s1 ⟨vs, H1, I1, r1, q1⟩ => ?_) hs rfl))
  obtain ⟨a, xs, rfl, hq, q⟩ := q1
  cases r1 with
  | cons r rr =>
    cases rr
    cases r
    obtain ⟨its, rv, p', hz⟩ := I1.list hq
    have low : a < s1.heap.objs.size := by obtain ⟨_, y, _⟩ := p'.isList; exact Heap.lt_size y
    refine call_enumerate_list p'.isList fun h' he hit hsz hk => ?_
    refine Calls.spliced_nil ?_
    have la : h'.IsList a its.toArray := p'.isList.at fun o y => hk a o y
    refine en_call (s := { s1 with heap := h' }) (I1.ok.hd hc) he hit la (Nat.succ_ne_self _) (Nat.ne_of_lt (Nat.lt_succ_of_lt low)) (Nat.ne_of_lt low) (by have := rv.length; simp; omega) fun h2 tk acc c ts keep hS hlen hp hacc => ?_
    have kp2 : ∀ b o, s1.heap.get? b = some o → h2.get? b = some o := fun b o y => keep b o (Nat.ne_of_lt (Nat.lt_succ_of_lt (Heap.lt_size y))) (Nat.ne_of_lt (Heap.lt_size y)) (hk b o y)
    obtain ⟨z1, z2, z3, z4, z5, J⟩ := enl_laid (tk := tk) I1 hz (by simpa using rv) kp2 (S := h'.objs.size) (by rw [hsz]; omega) hS hlen hp hacc
    exact ⟨.ref _, _, J, rfl, q _ ts z1 z2 z3 z4 z5⟩
end
end EnL
namespace PV
open PySem PySem.Spec PyProof.Rows L2 SH EnL
theorem tups_step : ∀ (ts : List Addr) (kvs : List (Key × V)) {R H : Hp}, Sub R H → (∀ t ∈ ts, H t = none) → ts.Nodup → ts.length = kvs.length → ∃ R', Step R H R' (LiI.putT H ts kvs) ∧ (∀ b, b ∉ ts → R' b = R b) ∧ ∀ (j : Nat) t p, ts[j]? = some t → kvs[j]? = some p → R' t = some (.tup [kV p.1, p.2])
  | [], [], R, H, s, _, _, _ => ⟨R, s.step, fun _ _ => rfl, fun j t p e => by simp at e⟩
  | [], _ :: _, _, _, _, _, _, h => by cases h
  | _ :: _, [], _, _, _, _, _, h => by cases h
  | a :: ts, p :: kvs, R, H, s, hn, nd, hl => by
    obtain ⟨na, nd2⟩ := List.nodup_cons.mp nd
    have t1 := s.step.newS (o := .tup [kV p.1, p.2]) (hn a List.mem_cons_self)
    obtain ⟨R', t2, off, at_⟩ := tups_step ts kvs t1.sub (fun t ht => by rw [upd_ne fun z => na (by rw [← z]; exact ht)]; exact hn t (List.mem_cons_of_mem _ ht)) nd2 (Nat.succ.inj hl)
    refine ⟨R', t1.trans t2, fun b hb => ?_, fun j t q e1 e2 => ?_⟩
    · rw [off b fun z => hb (List.mem_cons_of_mem _ z), upd_ne fun z => hb (by rw [z]; exact List.mem_cons_self)]
    · cases j with
      | zero => cases e1; cases e2; rw [off _ na, upd_same]
      | succ j => exact at_ j t q e1 e2
theorem RpA.ofGet {K : PySem.W.Frag} {R : Hp} : ∀ {vs : List V} {ds : List D}, vs.length = ds.length → (∀ (j : Nat) v d, vs[j]? = some v → ds[j]? = some d → Rp K R v d) → RpA K R vs ds
  | [], [], _, _ => .nil
  | [], _ :: _, h, _ => by cases h
  | _ :: _, [], h, _ => by cases h
  | v :: vs, d :: ds, h, k => .cons (k 0 v d rfl rfl) (RpA.ofGet (Nat.succ.inj h) fun j a b e1 e2 => k (j + 1) a b e1 e2)
section
variable {X : Cx} {ρ : List Sl} {e : Expr} {pos cpos p p2 : Pos} {α : Type} {em : α → D} {l : List α}
theorem ex_listEnum (hc : X.calm = true) (hg : Gl X "list") (hm : X.mg "list" = none) (hg2 : Gl X "enumerate") (hm2 : X.mg "enumerate" = none) (he : EX X e ρ (.sh (eL em l)))
    (hs : starEach [e] X.env = [(false, eval e X.env)] := by rfl) (hs2 : starEach [.Call (.Name "enumerate" p2) [e] [] cpos] X.env = (false, eval (.Call (.Name "enumerate" p2) [e] [] cpos) X.env) :: starEach [] X.env := by rfl) :
    EX X (.Call (.Name "list" p) [.Call (.Name "enumerate" p2) [e] [] cpos] [] pos) ρ (.nw (eL (eP2 D.int em) (enumI l))) :=
  .of (pe_listEnum hc hg hm rfl hg2 hm2 pa_sem hs hs2) fun B R0 R σ H Q s k => (ax_cons he ax_nil hs) B R0 R σ H _ s fun vs R1 H1 t1 q1 => by
    obtain ⟨v, rfl, q⟩ := q1.one
    obtain ⟨b, xs, rfl, hx, hr⟩ := (show Rp X.K R1 v (.lst (l.map em)) from q).lst'
    refine ⟨b, xs, rfl, SqL.of (t1.rh.k _ _ hx trivial), fun S ts nS nT sn nd ln => ?_⟩
    have lx : xs.length = l.length := by rw [hr.len, List.length_map]
    have t2 := t1.sub.step.new (o := .lst (ts.map V.ref)) nS (fun _ z => nomatch z) fun _ _ z => nomatch z
    have r1 : R1 S = none := Sm.free t1.sub.rh nS
    obtain ⟨R2, t3, off, at_⟩ := tups_step ts (nums xs) t2.sub (fun t ht => by rw [upd_ne fun z => sn (by rw [← z]; exact ht)]; exact nT t ht) nd (by rw [nums_len]; exact ln)
    have t23 := t2.trans t3
    refine k _ R2 _ (t1.trans t23) ⟨S, rfl, Sm.free t1.hh nS, by rw [off S sn]; exact r1, .lst (ts.map V.ref), ?_, ?_⟩
    · show LiI.putT _ _ _ S = _
      rw [LiI.putT_off _ _ _ sn, upd_same]
    · refine RpA.ofGet (by rw [List.length_map, List.length_map]; unfold enumI; rw [List.length_map, List.length_zipIdx]; omega) fun j y d e1 e2 => ?_
      rw [List.getElem?_map] at e1 e2
      cases et : ts[j]? with
      | none => rw [et] at e1; cases e1
      | some t =>
        rw [et] at e1
        cases e1
        have en : (enumI l)[j]? = (l[j]?).map fun x => ((j : Int), x) := by
          unfold enumI
          rw [List.getElem?_map, List.getElem?_zipIdx]
          cases l[j]? <;> simp
        rw [en] at e2
        cases el : l[j]? with
        | none => rw [el] at e2; cases e2
        | some x =>
          rw [el] at e2
          cases e2
          obtain ⟨u, hu, ru⟩ := hr.get (i := j) (d := em x) (by rw [List.getElem?_map, el]; rfl)
          have := at_ j t (Sum.inl (j : Int), u) et (by rw [nums_get, hu]; rfl)
          exact Rp.tup (SqT.of this) (.cons (Rp.int _) (.cons (Rp.mono t23.rr ru) .nil))
end
section
variable {X : Cx} {W : L2.WX} {ρ : List Sl} {pos : Pos} {o e : Expr} {P : Post} {α : Type} {em : α → D} {l : List α} {v : α}
theorem sx_appTmp {apos cpos : Pos} (ho : EX X o ρ (.nw (eL em l))) (he : EX X e ρ (.sh (em v))) (hl : l.length < sizeLine) (h : P.nx ρ)
    (hbase : attributeBase o "append" X.env (eval o X.env) = eval o X.env := by rfl)
    (hfew : ((backTo cpos (starEach [e] X.env)).all (fun x => !x.1) && (backToKw cpos (keywordEach [] X.env)).all (fun x => x.1.isSome)
      && decide (([e] : List Expr).length + ([] : List Keyword).length + (if ([] : List Keyword).isEmpty then 0 else 1) < 30)) = true := by rfl)
    (hline : (apos.endLine == cpos.line) = true := by rfl) (hst : starEach [e] X.env = (false, eval e X.env) :: starEach [] X.env := by rfl) (hplain : (backTo cpos (starEach [] X.env)).any (·.1) = false := by rfl)
    (hs : swapsWith (.Call (.Attribute o "append" apos) [e] [] cpos) none pos.line X.env = pure false := by rfl) : SX X W (.Expr (.Call (.Attribute o "append" apos) [e] [] cpos) pos) ρ P :=
  .of (ps_expr (pe_bm PySem.F.plainAttrs_list PySem.F.slot_list_append PySem.F.type_list_append mt_append pe_sem (pa_cons pe_sem pa_nil hst) hbase hfew hline hst hplain) hs) fun B R0 R σ H D s n => ho B R0 R σ H _ s fun x R1 H1 t1 q => by
    obtain ⟨p, rfl, n0, nr, ob, hp, od⟩ := q
    cases ob <;> first | exact od.elim | skip
    rename_i xs
    have hx : RpA X.K R1 xs (l.map em) := od
    refine ⟨.inl ⟨rfl, xs, SqL.of hp⟩, he B R0 R1 σ H1 _ (s.step t1) fun y R2 H2 t2 q2 => ?_⟩
    have hp2 : H2 p = some (.lst xs) := t2.hh.k _ _ hp trivial
    have nr2 : R2 p = none := t2.free nr (by rw [hp]; intro z; cases z)
    refine ⟨p, xs, y, rfl, rfl, hp2, by rw [hx.len, List.length_map]; exact hl, n.nx ρ R2 σ _ h (s.step ((t1.trans t2).putNew n0 nr2 (fun _ z => nomatch z) (fun _ _ z => nomatch z) fun _ z => by rw [hp2] at z; cases z))⟩
end
instance : Fact' (∀ a : Int, PyData.eqv .none (toPy (D.int a)) = false ∧ PyData.eqv (toPy (D.int a)) .none = false) := ⟨fun a => ⟨by show PyData.eqv .none (.int a) = false; unfold PyData.eqv; rfl, by show PyData.eqv (.int a) .none = false; unfold PyData.eqv; rfl⟩⟩
end PV

namespace PV
open PySem PySem.Spec PyProof.Rows L2 GxR
section
variable {X : Cx} {pins : List (Addr × Obj)} {σ : L2.St} {H : Hp} {s : Shared}
def After (P : Addr) (q : Str) (gp : Pos) (ps : Array Value) (z z3 : Shared) : Prop :=
  ∃ h tk more, z3 = { z with heap := h, toks := tk } ∧ Heap.ExtBut P z.heap h ∧ z.heap.objs.size ≤ h.objs.size ∧
    h.get? P = some { cls := .none, data := .fields (ps ++ more) } ∧ (more = #[] ∨ ∃ c', more = #[rawInt gp.line, rawInt gp.col, .ref c'] ∧ z.heap.objs.size ≤ c' ∧ h.CodeRec (.ref c') q)
theorem code_after {c P : Addr} {q : Str} {gp : Pos} {scope : Scope} {ps : Array Value} {z : Shared} {E : Value → Shared → Prop}
    (hc : X.env.code = .ref c) (cd : PySem.W.CodeHd z.heap c P) (hP : z.heap.get? P = some { cls := .none, data := .fields ps }) (ok : TriplesOk ps.toList) :
    wpAny (model X.prog X.w) X.A (genexprCode X.env gp q scope) (fun _ z3 => After P q gp ps z z3) E z := by
  cases f : codeAmong gp ps.toList with
  | some v =>
    refine wpAny_genexprCode_hit hc (cd.code hP ok) f ?_
    exact ⟨z.heap, z.toks, #[], rfl, Heap.ExtBut.refl _ _, Nat.le_refl _, by simpa using hP, .inl rfl⟩
  | none =>
    refine wpAny_genexprCodeX hc (cd.code hP ok) (cd.tab hP) f ?_
    intro v h tk ext ge lt k1 k2 k3 k4
    exact ⟨h, tk, _, rfl, ext, Nat.le_trans ge (Nat.le_of_lt lt), k3.2, .inr ⟨v, rfl, ge, k2⟩⟩

structure CodeKeep (X : Cx) (z : Shared) (o : Obj) (c P : Addr) (ps : Array Value) : Prop where
  cd : PySem.W.CodeHd (z.heap.push o) c P
  at_ : (z.heap.push o).get? P = some { cls := .none, data := .fields ps }
  lim : (z.heap.push o).NoLimit
def TabbedC (P : Addr) (q : Str) (gp : Pos) (H H' : Hp) : Prop := H' = H ∨ ∃ (ps : Array Value) (c' : Addr), H P = some (.tbl ps) ∧ TriplesOk ps.toList ∧ H c' = none ∧ H' = upd (upd H P (.tbl (ps ++ #[rawInt gp.line, rawInt gp.col, .ref c']))) c' (LamX.CodeO c' q)
def ReadyC (X : Cx) (pins : List (Addr × Obj)) (σ : L2.St) (H1 : Hp) (P : Addr) (q : Str) (gp : Pos) (a : Str) (pb : Nat → Bool) (g : Addr) (s5 : Shared) : Prop :=
  ∃ (fp wr : List Addr) (G : Array GenState → Array GenState → Prop) (F : Nat → Value → Prop) (St : Nat → Shared → Prop),
    WalksS X.prog X.w X.A.in1 g fp wr G a.cps.size F St ∧ St 0 s5 ∧ TruthOf X.prog X.w X.A.in1 F (trF pb a.cps.toList) ∧ ∀ s', Moved wr G s5 s' → ∃ H2, TabbedC P q gp H1 H2 ∧ Inv X pins σ H2 s'
theorem inv_tabC {P c' : Addr} {q : Str} {gp : Pos} {ps : Array Value} {h' : Heap} {g' : Array GenState} {d' : Drawn} {t' : Nat} (I : Inv X pins σ H s) (hP : H P = some (.tbl ps)) (k : ∀ b o, b ≠ P → s.heap.get? b = some o → h'.get? b = some o)
    (hm : h'.get? P = some { cls := .none, data := .fields (ps ++ #[rawInt gp.line, rawInt gp.col, .ref c']) }) (hg : AllBare g') (low : s.heap.objs.size ≤ c') (hc : ∃ (oc : Obj) (vs : Array Value) (t : Tok), h'.get? c' = some oc ∧ oc.data = .fields vs ∧ vs[1]? = some (.str q t)) :
    Inv X pins σ (upd (upd H P (.tbl (ps ++ #[rawInt gp.line, rawInt gp.col, .ref c']))) c' (LamX.CodeO c' q)) { s with heap := h', gens := g', drawn := d', toks := t' } := by
  have nc : H c' = none := I.hok.fresh low
  have pc : P ≠ c' := fun z => by rw [z, nc] at hP; cases hP
  have off : ∀ b, b ≠ P → b ≠ c' → upd (upd H P (.tbl (ps ++ #[rawInt gp.line, rawInt gp.col, .ref c']))) c' (LamX.CodeO c' q) b = H b := fun b h1 h2 => by rw [upd_ne h2, upd_ne h1]
  have atP : upd (upd H P (.tbl (ps ++ #[rawInt gp.line, rawInt gp.col, .ref c']))) c' (LamX.CodeO c' q) P = some (.tbl (ps ++ #[rawInt gp.line, rawInt gp.col, .ref c'])) := by rw [upd_ne pc, upd_same]
  have nP : ∀ {b u}, H b = some u → (∀ qs, u ≠ .tbl qs) → b ≠ P := fun {b u} e n z => by rw [z, hP] at e; cases e; exact n _ rfl
  have nN : ∀ {b}, H b = none → b ≠ P := fun {b} e z => by rw [z, hP] at e; cases e
  have kp : ∀ b u, H b = some u → (∀ qs, u ≠ .tbl qs) → upd (upd H P (.tbl (ps ++ #[rawInt gp.line, rawInt gp.col, .ref c']))) c' (LamX.CodeO c' q) b = some u := fun b u e n => by
    rw [off b (nP e n) (ne_of_none e nc)]
    exact e
  have older : ∀ {b o}, s.heap.get? b = some o → b ≠ c' := fun {b o} e z => Nat.not_lt.mpr low (by rw [← z]; exact Heap.lt_size e)
  refine I.call' (ch := []) rfl ⟨fun b o e n _ _ => k b o (nN n) e, fun b o e n _ _ => ⟨o.slots, k b o (nN n) e⟩, fun b o e n _ => by rw [off b (nN n) (older e)]; exact n, fun b o e _ => ?_, fun b xs e => kp b _ e (fun _ z => nomatch z), fun b o u e => kp b _ e (fun _ z => nomatch z), fun b qs e => ?_⟩ (fun b u e => ?_) hg fun b z => by simp at z
  · by_cases hb : b = P
    · rw [hb]; exact ⟨_, hm⟩
    · exact ⟨o, k b o hb e⟩
  · by_cases hb : b = P
    · rw [hb, hP] at e
      cases e
      rw [hb, atP]
      exact ⟨_, rfl⟩
    · rw [off b hb (ne_of_none e nc), e]
      exact ⟨#[], by simp⟩
  · by_cases hb : b = c'
    · rw [hb, upd_same] at e
      cases e
      rw [hb]
      obtain ⟨oc, vs, t, r1, r2, r3⟩ := hc
      exact ⟨⟨oc, vs, t, r1, r2, r3⟩, ⟨oc, r1⟩, fun h1 h2 ⟨o2, v2, t2, x1, x2, x3⟩ st => ⟨o2, v2, t2, st _ x1, x2, x3⟩⟩
    · by_cases hb2 : b = P
      · rw [hb2, atP] at e
        cases e
        rw [hb2]
        exact hm
      · rw [off b hb2 hb] at e
        exact (I.hok b u e).stay (fun d v hd y => k d v (by
            rcases hd with rfl | hd
            · exact hb2
            · exact nP hd (fun _ z => nomatch z)) y) (fun d y => kp d _ y (fun _ z => nomatch z)) fun d xs y => kp d _ y (fun _ z => nomatch z)
theorem gen_made {c P : Addr} {elt iter : Expr} {x : Str} {px gp : Pos} {scope : Scope} {pb : Nat → Bool} {te : TE} {k : Nat} {Q' : Value → Shared → Prop} {W : Str → Hp → Prop}
    (room : Room k X.A) (tb : TabB X.base X.mg c P) (hc : X.env.code = .ref c) (gs : GenS X.env scope x) (pi : PE X iter te) (el : ElG X scope x elt pb)
    (fold : ∀ v, genFold iter X.env v = pure v) (I : Inv X pins σ H s) (run : te σ H fun v H1 => ∃ a : Str, v = .str a ∧ TabG H1 P ∧ W a H1)
    (fin : ∀ a H1 g z, W a H1 → ReadyC X pins σ H1 P (X.env.qual ++ "<genexpr>") gp a pb g z → Q' (.ref g) z) :
    wpAny (model X.prog X.w) X.A (eval (.GeneratorExp elt [⟨.Name x px, iter, [], 0⟩] scope gp) X.env) Q' X.xe s := by
  have hroom : X.A.depth < recursionLimit := by have := room.dp; omega
  refine wpAny_GeneratorExp_walksQ room.hd gs.co (closure_ok gs.free) gs.cell gs.dot gs.loc gs.kind hroom ?_ fold
  refine thn (pi.run pins s σ H _ I run) ?_
  rintro xv z ⟨v, H1, I1, rv, a, rfl, ⟨ps, hP, hok⟩, hW⟩
  obtain ⟨t, rfl⟩ := _root_.id rv
  refine wpAny_pyIter_str fun o It Wk it0 => ?_
  have pObj : z.heap.get? P = some { cls := .none, data := .fields ps } := I1.hok P _ hP
  have pLow : P < z.heap.objs.size := Heap.lt_size pObj
  have two : CodeKeep X z o c P ps := ⟨tb.code.keeps fun b u e => Heap.get?_push_of_some _ (I1.bk b u e), Heap.get?_push_of_some _ pObj, I1.nolimit.push o⟩
  refine ⟨two.lim, wpAny_mono (code_after hc two.cd two.at_ hok) ?_ fun _ _ e => e⟩
  rintro code z3 ⟨h, tk, more, rfl, ext, big, atP, nu⟩
  have old : ∀ b u, b ≠ P → z.heap.get? b = some u → h.get? b = some u := fun b u n e => ext b u n (Heap.get?_push_of_some _ e)
  have names : h.Ns mainGlobals X.mg := ((I1.mod.glob.keeps I1.bk).push o).extBut ext tb.gP
  have glob : X.env.globals = mainGlobals := I1.ok.glob
  have cLow : cStatics < z.heap.objs.size := by
    obtain ⟨_, q, _⟩ := I1.nolimit
    exact q.lt
  have cP : cStatics ≠ P := by
    intro e
    obtain ⟨_, ⟨o2, es, ep, h1, h2, _⟩, _⟩ := I1.nolimit
    rw [e, pObj] at h1
    cases h1; cases h2
  have gLow : mainGlobals < z.heap.objs.size := by
    have q := I1.mod.glob.keeps I1.bk
    exact q.lt
  have grow : z.heap.objs.size < h.objs.size := by
    have e : (z.heap.push o).objs.size = z.heap.objs.size + 1 := Heap.size_push ..
    have big : (z.heap.push o).objs.size ≤ h.objs.size := big
    omega
  obtain ⟨bm, ob, b1, b2, b3, b4, b5, b6, b7, b8⟩ := tb.bm
  refine wpAny_builtinsFor (m := X.mg) (by rw [glob]; exact names) b1 b2 (old _ _ b4 (I1.bk _ _ b5)) b6 b7 b8 ?_
  have low : ∀ b ∈ [z.heap.objs.size], b < h.objs.size := by
    intro b hb
    rw [List.mem_singleton.mp hb]
    exact grow
  refine ⟨_, _, _, _, _, It, fun _ => true, fun i y => ∃ n, a.cps[i]? = some n ∧ y = .bool (pb n), rfl, Wk, ?first, low, ?nolim, ?cnot, ?quiet, ?made⟩
  case first =>
    refine (Wk X.A room.hd).frame _ _ _ it0 fun b hb u e => ext b u ?_ e
    rw [List.mem_singleton.mp hb]
    exact (Nat.ne_of_lt pLow).symm
  case nolim => exact two.lim.extBut ext cP
  case cnot =>
    intro hb
    exact Nat.ne_of_lt cLow (List.mem_singleton.mp hb)
  case quiet =>
    intro href hh
    constructor
    · intro A2 E2 i v z2 m2 _ _ _ _ _
      simp only [List.forIn_nil]
      exact wpAny_pure ⟨rfl, keeps_refl _⟩
    · rintro A2 E2 i v z2 m2 _ ⟨n, u, hn, rfl⟩ _ nm hx kp
      have ng : z2.heap.Ns X.env.globals X.mg := by
        obtain ⟨o2, es, ep, h1, r⟩ := names
        rw [glob]
        refine ⟨o2, es, ep, kp mainGlobals (List.mem_range.mpr (Nat.lt_trans gLow grow)) ?_ _ (hh _ _ h1), r⟩
        intro q
        exact Nat.ne_of_lt gLow (List.mem_singleton.mp q)
      exact wpAny_mono (el _ A2 E2 n u z2 m2 rfl rfl ng nm hx) (fun y z4 r => ⟨⟨n, hn, r.1⟩, r.2⟩) fun _ _ e => e
  case made =>
    intro g h5 tk5 gens bare above sz5 k5 W5 at5
    simp only [GxR.passing_true, List.length_range] at W5
    refine fin a H1 g _ hW ⟨_, _, _, _, _, W5.in4_1, at5, ?truth, ?later⟩
    case truth =>
      rintro j y z6 Q6 E6 ⟨i, hi, n, hn, rfl⟩ q
      obtain ⟨hj, ej⟩ := List.getElem?_eq_some_iff.mp hi
      rw [List.getElem_range] at ej
      subst ej
      have q : Q6 (trF pb a.cps.toList j) z6 := q
      rw [trF_some (show a.cps.toList[j]? = some n by rw [Array.getElem?_toList]; exact hn)] at q
      exact wpAny_truthy_bool q
    case later =>
      intro z7 mv
      have off : ∀ b u, z.heap.get? b = some u → b ∉ h.objs.size :: [z.heap.objs.size] := by
        intro b u e q
        have lt := Heap.lt_size e
        rcases List.mem_cons.mp q with q | q
        · rw [q] at lt; exact Nat.lt_asymm lt grow
        · rw [List.mem_singleton.mp q] at lt; exact Nat.lt_irrefl _ lt
      have keep : ∀ b u, b ≠ P → z.heap.get? b = some u → z7.heap.get? b = some u := fun b u n e => mv.heap b u (off b u e) (k5 b u (old b u n e))
      have atP7 := mv.heap P _ (off P _ pObj) (k5 P _ atP)
      have bare7 := AllBare.movedS (I1.bare.push bare) mv
      rcases nu with rfl | ⟨c', rfl, low, c2, oc, vs, t2, e2, r1, r2, r3⟩
      · have J := inv_tab (more := #[]) (h' := z7.heap) (g' := z7.gens) (d' := z7.drawn) (t' := z7.toks) I1 hP keep atP7 bare7
        rw [sh_eta z z7 mv.os] at J
        have e : upd H1 P (.tbl (ps ++ #[])) = H1 := by
          funext b
          by_cases zb : b = P
          · rw [zb, upd_same, hP]; simp
          · exact upd_ne zb
        rw [e] at J
        exact ⟨H1, .inl rfl, J⟩
      · cases e2
        have lt1 : c' < h.objs.size := Heap.lt_size r1
        have big1 : (z.heap.push o).objs.size ≤ c' := low
        rw [Heap.size_push] at big1
        have r17 : z7.heap.get? c' = some oc := mv.heap c' _ (fun q => by
          rcases List.mem_cons.mp q with q | q
          · exact absurd q (Nat.ne_of_lt lt1)
          · exact absurd (List.mem_singleton.mp q) (Nat.ne_of_gt big1)) (k5 c' _ r1)
        have J := inv_tabC (h' := z7.heap) (g' := z7.gens) (d' := z7.drawn) (t' := z7.toks) (gp := gp) I1 hP keep atP7 bare7 (c' := c') (by omega) ⟨oc, vs, t2, r17, r2, r3⟩
        rw [sh_eta z z7 mv.os] at J
        exact ⟨_, .inr ⟨ps, c', hP, hok, I1.hok.fresh (by omega), rfl⟩, J⟩
def tAllC (P : Addr) (q : Str) (gp : Pos) (pb : Nat → Bool) (te : TE) : TE := fun σ H Q => te σ H fun v H1 => ∃ a : Str, v = .str a ∧ TabG H1 P ∧ ∀ H2, TabbedC P q gp H1 H2 → Q (.bl (a.cps.toList.all pb)) H2
theorem pe_all {c P : Addr} {elt iter : Expr} {x : Str} {px p pos gp : Pos} {scope : Scope} {pb : Nat → Bool} {te : TE} {k : Nat}
    (room : Room k X.A) (hg : Gl X "all") (hm : X.mg "all" = none) (tb : TabB X.base X.mg c P) (hc : X.env.code = .ref c) (gs : GenS X.env scope x) (pi : PE X iter te) (el : ElG X scope x elt pb)
    (fold : ∀ v, genFold iter X.env v = pure v)
    (star : starEach [.GeneratorExp elt [⟨.Name x px, iter, [], 0⟩] scope gp] X.env = [(false, eval (.GeneratorExp elt [⟨.Name x px, iter, [], 0⟩] scope gp) X.env)] := by rfl) :
    PE X (.Call (.Name "all" p) [.GeneratorExp elt [⟨.Name x px, iter, [], 0⟩] scope gp] [] pos) (tAllC P (X.env.qual ++ "<genexpr>") gp pb te) := by
  constructor
  intro pins s σ H Q I run
  refine wpAny_Call_Name_kw (ld_blt I hg hm (by with_unfolding_all rfl) (PyProof.Rows.callWith_builtin1 ?_ star (by rfl)))
  rw [star]
  refine Calls.spliced_cons (gen_made (W := fun a H1 => ∀ H2, TabbedC P (X.env.qual ++ "<genexpr>") gp H1 H2 → Q (.bl (a.cps.toList.all pb)) H2) room tb hc gs pi el fold I run ?_)
  rintro a H1 g z hW ⟨fp, wr, G, F, It, W5, at5, tr, later⟩
  refine Calls.spliced_nil (call_all_walkS (W5.self 0 _ _ _ at5 ⟨g, fp, wr, G, _, F, It, _, rfl, W5, at5, tr, ?_⟩))
  intro z7 mv
  obtain ⟨H2, ht, J⟩ := later z7 mv
  refine ⟨.bl _, H2, J, rfl, ?_⟩
  have e := all_signs a pb
  rw [e]
  exact hW H2 ht
end

section
theorem Step.tabC {R H H2 : Hp} {P : Addr} {q : Str} {gp : Pos} (s : Sub R H) (hq : nmG gp.line gp.col = q) (t : TabbedC P q gp H H2) : ∃ R2, Step R H R2 H2 := by
  rcases t with rfl | ⟨ps, c', hP, ht, nc, rfl⟩
  · exact ⟨R, s.step⟩
  · exact ⟨_, Step.code s hP ht nc hq rfl⟩
variable {X : Cx} {W : L2.WX} {ρ : List Sl}
theorem ex_allG {elt iter : Expr} {x : Str} {px p pos gp : Pos} {scope : Scope} {pb : Nat → Bool} {k : Nat} {a : Str} {g : Addr}
    (d : Str × Option Str) (hd : d ∈ genDefs) (hn : PySem.W.nsIn X.K mainGlobals d.1 = some (some (.ref g))) (hq : nmG gp.line gp.col = X.env.qual ++ "<genexpr>")
    (room : Room k X.A) (hg : Gl X "all") (hm : X.mg "all" = none) (tb : TabB X.base X.mg (He.cT X.K d).1 (He.cT X.K d).2) (hc : X.env.code = .ref (He.cT X.K d).1)
    (gs : GenS X.env scope x) (el : ElG X scope x elt pb) (fold : ∀ v, genFold iter X.env v = pure v) (h : EX X iter ρ (.sh (.str a)))
    (star : starEach [.GeneratorExp elt [⟨.Name x px, iter, [], 0⟩] scope gp] X.env = [(false, eval (.GeneratorExp elt [⟨.Name x px, iter, [], 0⟩] scope gp) X.env)] := by rfl) :
    EX X (.Call (.Name "all" p) [.GeneratorExp elt [⟨.Name x px, iter, [], 0⟩] scope gp] [] pos) ρ (.sh (.bl (a.cps.toList.all pb))) :=
  EX.of (pe_all room hg hm tb hc gs pe_sem el fold star) fun B R0 R σ H Q s kk => h B R0 R σ H _ s fun v R1 H1 t1 q1 => by
    obtain ⟨ps, hP, ht, _⟩ := (s.step t1).tabs d hd ⟨g, hn⟩
    refine ⟨a, Res.str t1.sub q1 rfl, ⟨ps, hP, ht⟩, fun H2 t => ?_⟩
    obtain ⟨R2, st⟩ := Step.tabC t1.sub hq t
    exact kk _ R2 H2 (t1.trans st) (Rp.bl _)
end
end PV
namespace PV
open PySem PySem.Spec PyProof.Rows L2
theorem ResA.star {K : PySem.W.Frag} {H R H' : Hp} {vs : List V} {rs : List Rs} (h : ResA K H R H' vs rs) : ∀ {xs : List V} {ds : List D}, RpA K R xs ds → ResA K H R H' (xs ++ vs) (ds.map Rs.sh ++ rs)
  | [], [], _ => h
  | [], _ :: _, z => by cases z
  | _ :: _, [], z => by cases z
  | _ :: _, _ :: _, .cons a r => .cons a (ResA.star h r)
section
variable {X : Cx} {ρ : List Sl} {e : Expr} {es : List Expr} {p pos : Pos} {rs : List Rs} {ds : List D}
theorem ax_star (he : EX X e ρ (.sh (.tup ds))) (hr : AX X es ρ rs) (hs : starEach (.Starred e p :: es) X.env = (true, eval e X.env) :: starEach es X.env := by rfl) : AX X (.Starred e p :: es) ρ (ds.map Rs.sh ++ rs) :=
  .of (StX.pa_star pe_sem pa_sem hs) fun B R0 R σ H Q s k => he B R0 R σ H _ s fun v R1 H1 t1 q1 => by
    obtain ⟨a, xs, rfl, hx, hr1⟩ := (show Rp X.K R1 v (.tup ds) from q1).tup'
    refine ⟨a, xs, rfl, .inl (Sm.seqT t1.rh hx), hr B R0 R1 σ H1 _ (s.step t1) fun vs R2 H2 t2 q2 => k _ R2 H2 (t1.trans t2) ((q2.back t1.hh).star (RpA.mono t2.rr hr1))⟩
theorem ax_star1 (he : EX X e ρ (.sh (.tup ds))) (hs : starEach [.Starred e p] X.env = (true, eval e X.env) :: starEach [] X.env := by rfl) : AX X [.Starred e p] ρ (ds.map Rs.sh) := by
  have := ax_star (p := p) he (ax_nil (X := X) (ρ := ρ)) hs
  rw [List.append_nil] at this
  exact this
theorem star_len {α : Type} {em : α → D} {l : List α} {as : List D} (h : l.length + as.length ≤ sizeLine) : (as ++ l.map em).length ≤ sizeLine := by rw [List.length_append, List.length_map]; omega
theorem row_join {r : SH.RowT} (h : r.isT = true) : sq (rowD r) = some ([("tell" : Str), r.slot].map D.str) := by
  cases r with
  | tell a => rfl
  | make a g rs => cases h
theorem RpA.ofStrs {K : PySem.W.Frag} {R : Hp} : ∀ ys : List Str, RpA K R (ys.map V.str) (ys.map D.str)
  | [] => .nil
  | y :: ys => .cons (.str y) (RpA.ofStrs ys)
theorem ex_split {o : Expr} {a b : Str} {apos cpos : Pos} (ho : EX X o ρ (.sh (.str a))) (he : EX X e ρ (.sh (.str b))) (hb : (b.length == 0) = false) (hl : a.length + 2 ≤ sizeLine)
    (hs : starEach [e] X.env = [(false, eval e X.env)] := by rfl) (hbase : attributeBase o "split" X.env (eval o X.env) = eval o X.env := by rfl) (hline : (apos.endLine == cpos.line) = true := by rfl) :
    EX X (.Call (.Attribute o "split" apos) [e] [] cpos) ρ (.nw (eL D.str (Txt.split a b))) := .of (pe_split pe_sem pe_sem hs hbase hline) fun B R0 R σ H Q s kk => by
  refine ho B R0 R σ H _ s fun x R1 H1 t1 q1 => ⟨⟨a, Res.str t1.sub q1 rfl⟩, he B R0 R1 σ H1 _ (s.step t1) fun y R2 H2 t2 q2 => ?_⟩
  refine ⟨a, b, Res.str t1.sub q1 rfl, by rw [Res.str t2.sub q2 rfl], hb, hl, fun p np => ?_⟩
  have t12 := t1.trans t2
  exact kk _ R2 _ (t12.new np (fun _ z => nomatch z) fun _ _ z => nomatch z) ⟨p, rfl, Sm.free t12.hh np, Sm.free t12.sub.rh np, _, upd_same, RpA.ofStrs _⟩
end
section
variable {X : Cx} {W : L2.WX} {ρ ρ' : List Sl} {pos : Pos} {e : Expr} {P : Post}
theorem txs_str {z : Str} (h : EXS X e ρ (.str z) ρ') (hl : z.length ≤ sizeLine) (he : ∀ whole, isTrue e X.env whole = (do let v ← whole; standAt e.pos; holding [v] (truthy v)) := by intro _; rfl) : TXS X e ρ (!decide (z.length = 0)) ρ' := fun B R0 R σ H Q s kk pins sh I =>
  (pt_truth pe_sem he).run pins sh σ H Q I (h B R0 R σ H _ s fun v R1 H1 s1 m1 q1 => by
    cases q1
    exact ⟨!decide (z.length = 0), ⟨hl, by cases z.length <;> rfl⟩, kk R1 H1 s1 m1⟩)
theorem sx_ifS {k : Bool} {t u : List Stmt} (hb : TXS X e ρ k ρ') (h1 : k = true → SXs X W t ρ' P) (h2 : k = false → SXs X W u ρ' P) : SX X W (.If e t u pos) ρ P :=
  .of (ps_if pt_sem pss_sem pss_sem) fun B R0 R σ H D s n => hb B R0 R σ H _ s fun R1 H1 s1 _ => by
    cases k with
    | true => rw [if_pos rfl]; exact h1 rfl B R0 R1 σ H1 D s1 n
    | false => rw [if_neg Bool.false_ne_true]; exact h2 rfl B R0 R1 σ H1 D s1 n
theorem not_t {b : Bool} (h : (!b) = true) : b = false := match b, h with | false, _ => rfl
theorem not_f {b : Bool} (h : (!b) = false) : b = true := match b, h with | true, _ => rfl
theorem on_intS {K : PySem.W.Frag} {a : Str} {n : Int} (h : PySem.intText? a = some n) (hl : a.length ≤ 640) : OpN K (fun xs H Q => ∃ a n, xs = [.str a] ∧ PySem.intText? a = some n ∧ a.length ≤ 640 ∧ Q (.int n) H) [.sh (.str a)] (.sh (.int n)) := fun H0 R H xs Q s _ rs k => by
  obtain ⟨v, rfl, q⟩ := rs.one
  exact ⟨a, n, by rw [is_str _ _ q], h, hl, k _ R H s.step (Rp.int _)⟩
end
def tSw (K : PySem.W.Frag) (i1 i2 : Nat) (te : TE) : TS := fun D σ H => te σ H fun v H1 => ∃ p x y, v = .ref p ∧ SqT K H1 p [x, y] ∧ D.nx ((σ.set i2 (some y)).set i1 (some x)) H1
section
variable {X : Cx} {W : L2.WX} {ρ : List Sl} {pos tpos : Pos} {e : Expr} {P : Post} {elts : List Expr} {k i1 i2 : Nat} {x1 x2 : Str}
set_option maxHeartbeats 400000 in
theorem ps_sw {te : TE} (hc : X.calm = true) (he : PE X e te) (hN : X.N.Nodup) (h1 : X.N[i1]? = some x1) (h2 : X.N[i2]? = some x2) (l1 : Loc X.env.scope x1) (l2 : Loc X.env.scope x2) (f1 : X.fn x1 = true ∨ X.env.scope.names.lookup x1 = some .local) (f2 : X.fn x2 = true ∨ X.env.scope.names.lookup x2 = some .local)
    (hs : swapsWithSole [.Tuple elts k tpos] e pos.line X.env = pure false := by rfl) (hw : swappedStores [.Tuple elts k tpos] e X.env = pure (some [x1, x2]) := by rfl) : PS X (.Assign [.Tuple elts k tpos] e pos) (tSw X.K i1 i2 te) := by
  constructor
  intro pins s σ H D I h
  refine Assign_Tuple_swapped (names := [x1, x2]) (thn (he.run pins s σ H _ I h) fun v s1 ⟨vv, H1, I1, r1, a, x, y, ev, hq, hn⟩ => ?_) hs hw
  subst ev
  cases r1
  obtain ⟨its, rv, ht, hz⟩ := I1.tuple hq
  have two : ([x1, x2] : List Str).length = its.toArray.size := by
    have := rv.length
    rw [List.size_toArray, ← this]
    rfl
  rw [two]
  refine unpackItems_tuple (I1.ok.hd hc) ht fun h' hx => ?_
  have I2 : Inv X pins σ H1 { s1 with heap := h' } := I1.kept (t' := s1.toks) fun b o q => hx b o (Nat.ne_of_lt (Heap.lt_size q)) q
  cases rv with
  | cons ra rr =>
    cases rr with
    | @cons _ _ _ _ rb rr =>
      cases rr
      rename_i ua ub
      show wpAny _ _ (do holding [ua] (bindName X.env x2 ub); holding [] (bindName X.env x1 ua); pure ()) _ _ _
      refine wpAny_bind (wpAny_holding (bindName_ (store_ok I2 hN h2 l2 rb (fun s3 I3 => ?_) f2)))
      refine wpAny_bind (wpAny_holding (bindName_ (store_ok I3 hN h1 l1 ra (fun s4 I4 => wpAny_pure ⟨_, H1, I4, hn⟩) f1)))
theorem sx_sw {d1 d2 : D} (hc : X.calm = true) (he : EX X e ρ (.sh (.tup [d1, d2]))) (hN : X.N.Nodup) (h1 : X.N[i1]? = some x1) (h2 : X.N[i2]? = some x2) (l1 : Loc X.env.scope x1) (l2 : Loc X.env.scope x2) (f1 : X.fn x1 = true ∨ X.env.scope.names.lookup x1 = some .local) (f2 : X.fn x2 = true ∨ X.env.scope.names.lookup x2 = some .local)
    (h : P.nx ((ρ.set i2 (.sh d2)).set i1 (.sh d1))) (hs : swapsWithSole [.Tuple elts k tpos] e pos.line X.env = pure false := by rfl) (hw : swappedStores [.Tuple elts k tpos] e X.env = pure (some [x1, x2]) := by rfl) : SX X W (.Assign [.Tuple elts k tpos] e pos) ρ P :=
  .of (ps_sw hc pe_sem hN h1 h2 l1 l2 f1 f2 hs hw) fun B R0 R σ H D s n => he B R0 R σ H _ s fun v R1 H1 t1 q1 => by
    obtain ⟨p, xs, rfl, hx, hr⟩ := (show Rp X.K R1 v (.tup [d1, d2]) from q1).tup'
    cases hr with
    | cons ra rr =>
      cases rr with
      | cons rb rr =>
        cases rr
        have s1 := s.set t1 (r := .sh d2) rb i2
        have s2 := s1.set s1.sub.step (r := .sh d1) ra i1
        exact ⟨p, _, _, rfl, Sm.seqT t1.rh hx, n.nx _ R1 _ H1 h s2⟩
end
end PV

namespace SF
open PySem PySem.Spec PyProof.Rows L2 PV
def topS (i : Nat) : Stmt := PySem.Challenge.pw_slotfitter_k10_written.main.body.getD i (.Pass ⟨0, 0, 0, 0⟩)
abbrev s_is_name : Stmt := topS 11
theorem sc_is_name : FnScope ["thing"] ["thing"] (defScope s_is_name) := ⟨rfl, rfl, rfl, by decide +kernel, rfl, by decide +kernel, by decide +kernel⟩
abbrev s_is_tell : Stmt := topS 12
theorem sc_is_tell : FnScope ["row"] ["row"] (defScope s_is_tell) := ⟨rfl, rfl, rfl, by decide +kernel, rfl, by decide +kernel, by decide +kernel⟩
abbrev s_check_sizes : Stmt := topS 19
theorem sc_check_sizes : FnScope ["rows", "ways"] ["rows", "ways"] (defScope s_check_sizes) := ⟨rfl, rfl, rfl, by decide +kernel, rfl, by decide +kernel, by decide +kernel⟩
abbrev s_check_ways : Stmt := topS 22
theorem sc_check_ways : FnScope ["ways", "many", "way"] ["ways", "many"] (defScope s_check_ways) := ⟨rfl, rfl, rfl, by decide +kernel, rfl, by decide +kernel, by decide +kernel⟩
abbrev s_names_in : Stmt := topS 21
theorem sc_names_in : FnScope ["row"] ["row"] (defScope s_names_in) := ⟨rfl, rfl, rfl, by decide +kernel, rfl, by decide +kernel, by decide +kernel⟩
abbrev s_check_row : Stmt := topS 20
theorem sc_check_row : FnScope ["row", "signs", "name", "sign", "reads"] ["row", "signs"] (defScope s_check_row) := ⟨rfl, rfl, rfl, by decide +kernel, rfl, by decide +kernel, by decide +kernel⟩
abbrev s_checked : Stmt := topS 18
theorem sc_checked : FnScope ["program", "signs", "rows", "ways", "row"] ["program"] (defScope s_checked) := ⟨rfl, rfl, rfl, by decide +kernel, rfl, by decide +kernel, by decide +kernel⟩
abbrev s_row_line : Stmt := topS 27
theorem sc_row_line : FnScope ["row", "_", "slot", "sign", "reads"] ["row"] (defScope s_row_line) := ⟨rfl, rfl, rfl, by decide +kernel, rfl, by decide +kernel, by decide +kernel⟩
abbrev s_shown : Stmt := topS 26
theorem sc_shown : FnScope ["program", "lines", "rows", "ways", "row", "way", "line"] ["program"] (defScope s_shown) := ⟨rfl, rfl, rfl, by decide +kernel, rfl, by decide +kernel, by decide +kernel⟩
abbrev s_worded : Stmt := topS 29
theorem sc_worded : FnScope ["text", "lines", "line", "rest", "words"] ["text"] (defScope s_worded) := ⟨rfl, rfl, rfl, by decide +kernel, rfl, by decide +kernel, by decide +kernel⟩
abbrev s_is_row : Stmt := topS 30
theorem sc_is_row : FnScope ["words"] ["words"] (defScope s_is_row) := ⟨rfl, rfl, rfl, by decide +kernel, rfl, by decide +kernel, by decide +kernel⟩
abbrev s_row_of : Stmt := topS 31
theorem sc_row_of : FnScope ["words"] ["words"] (defScope s_row_of) := ⟨rfl, rfl, rfl, by decide +kernel, rfl, by decide +kernel, by decide +kernel⟩
abbrev s_is_way : Stmt := topS 33
theorem sc_is_way : FnScope ["word"] ["word"] (defScope s_is_way) := ⟨rfl, rfl, rfl, by decide +kernel, rfl, by decide +kernel, by decide +kernel⟩
abbrev s_way_of : Stmt := topS 32
theorem sc_way_of : FnScope ["word"] ["word"] (defScope s_way_of) := ⟨rfl, rfl, rfl, by decide +kernel, rfl, by decide +kernel, by decide +kernel⟩
abbrev s_read : Stmt := topS 28
theorem sc_read : FnScope ["text", "blocks", "rows", "is_open", "words", "word"] ["text"] (defScope s_read) := ⟨rfl, rfl, rfl, by decide +kernel, rfl, by decide +kernel, by decide +kernel⟩
abbrev s_l_cell_at : Stmt := topS 35
theorem sc_l_cell_at : FnScope ["_law_script", "_law_k"] ["_law_script", "_law_k"] (defScope s_l_cell_at) := ⟨rfl, rfl, rfl, by decide +kernel, rfl, by decide +kernel, by decide +kernel⟩
abbrev s_l_drawn : Stmt := topS 36
theorem sc_l_drawn : FnScope ["_law_script", "_law_k"] ["_law_script", "_law_k"] (defScope s_l_drawn) := ⟨rfl, rfl, rfl, by decide +kernel, rfl, by decide +kernel, by decide +kernel⟩
abbrev s_l_rest_by : Stmt := topS 37
theorem sc_l_rest_by : FnScope ["_law_cell", "_law_most", "_law_some", "_law_rest", "_law_turn"] ["_law_cell", "_law_most"] (defScope s_l_rest_by) := ⟨rfl, rfl, rfl, by decide +kernel, rfl, by decide +kernel, by decide +kernel⟩
abbrev s_l_own_sign : Stmt := topS 38
theorem sc_l_own_sign : FnScope ["_law_script", "_law_k", "_law_some", "_law_head", "_law_rest", "_law_at", "_law_far", "_law_name"] ["_law_script", "_law_k"] (defScope s_l_own_sign) := ⟨rfl, rfl, rfl, by decide +kernel, rfl, by decide +kernel, by decide +kernel⟩
abbrev s_l_names_by : Stmt := topS 39
theorem sc_l_names_by : FnScope ["_law_script", "_law_some", "_law_many", "_law_head", "_law_names", "_law_k", "_law_rest", "_law_at", "_law_name"] ["_law_script"] (defScope s_l_names_by) := ⟨rfl, rfl, rfl, by decide +kernel, rfl, by decide +kernel, by decide +kernel⟩
abbrev s_l_row_by : Stmt := topS 40
theorem sc_l_row_by : FnScope ["_law_cell", "_law_names", "_law_sign", "_law_many", "_law_slot", "_law_reads"] ["_law_cell", "_law_names", "_law_sign"] (defScope s_l_row_by) := ⟨rfl, rfl, rfl, by decide +kernel, rfl, by decide +kernel, by decide +kernel⟩
abbrev s_l_ways_by : Stmt := topS 41
theorem sc_l_ways_by : FnScope ["_law_script", "_law_k", "_law_size", "_law_cell", "_law_many", "_law_far", "_law_ways", "_law_turn"] ["_law_script", "_law_k", "_law_size"] (defScope s_l_ways_by) := ⟨rfl, rfl, rfl, by decide +kernel, rfl, by decide +kernel, by decide +kernel⟩
abbrev s_l_program_by : Stmt := topS 42
theorem sc_l_program_by : FnScope ["_law_script", "_law_names", "_law_head", "_law_size", "_law_many", "_law_k", "_law_program", "_law_cell", "_law_at", "_law_turn", "_law_sign"] ["_law_script", "_law_names"] (defScope s_l_program_by) := ⟨rfl, rfl, rfl, by decide +kernel, rfl, by decide +kernel, by decide +kernel⟩
abbrev s_l_whole : Stmt := topS 43
theorem sc_l_whole : FnScope ["_law_found"] ["_law_found"] (defScope s_l_whole) := ⟨rfl, rfl, rfl, by decide +kernel, rfl, by decide +kernel, by decide +kernel⟩
abbrev s_l_numbers : Stmt := topS 44
theorem sc_l_numbers : FnScope ["_law_found", "_law_due", "_law_k"] ["_law_found", "_law_due"] (defScope s_l_numbers) := ⟨rfl, rfl, rfl, by decide +kernel, rfl, by decide +kernel, by decide +kernel⟩
abbrev s_l_row_same : Stmt := topS 45
theorem sc_l_row_same : FnScope ["_law_found", "_law_due", "_law_part"] ["_law_found", "_law_due"] (defScope s_l_row_same) := ⟨rfl, rfl, rfl, by decide +kernel, rfl, by decide +kernel, by decide +kernel⟩
abbrev s_l_same : Stmt := topS 46
theorem sc_l_same : FnScope ["_law_found", "_law_due", "_law_k", "_law_block", "_law_at"] ["_law_found", "_law_due"] (defScope s_l_same) := ⟨rfl, rfl, rfl, by decide +kernel, rfl, by decide +kernel, by decide +kernel⟩
abbrev s_l_copy : Stmt := topS 47
theorem sc_l_copy : FnScope ["_law_program", "_law_block"] ["_law_program"] (defScope s_l_copy) := ⟨rfl, rfl, rfl, by decide +kernel, rfl, by decide +kernel, by decide +kernel⟩
abbrev s_l_text_by : Stmt := topS 48
theorem sc_l_text_by : FnScope ["_law_program", "_law_text", "_law_block", "_law_row", "_law_slot", "_law_way"] ["_law_program"] (defScope s_l_text_by) := ⟨rfl, rfl, rfl, by decide +kernel, rfl, by decide +kernel, by decide +kernel⟩
abbrev s_law : Stmt := topS 49
theorem sc_law : FnScope ["_law_script", "_law_names", "_law_program", "_law_handed", "_law_due", "_law_found"] ["_law_script"] (defScope s_law) := ⟨rfl, rfl, rfl, by decide +kernel, rfl, by decide +kernel, by decide +kernel⟩
structure Txt (K : PySem.W.Frag) (mg : Str → Option Value) where
  fd_is_name : FuncData
  F_is_name : FunD K "is_name" "is_name" (defArgs s_is_name) (defBody s_is_name) (defScope s_is_name) [] [] (He.fAd K ("is_name", none)) fd_is_name
  g_is_name : mg "is_name" = some (.ref (He.fAd K ("is_name", none)))
  fd_is_tell : FuncData
  F_is_tell : FunD K "is_tell" "is_tell" (defArgs s_is_tell) (defBody s_is_tell) (defScope s_is_tell) [] [] (He.fAd K ("is_tell", none)) fd_is_tell
  g_is_tell : mg "is_tell" = some (.ref (He.fAd K ("is_tell", none)))
  fd_check_sizes : FuncData
  F_check_sizes : FunD K "check_sizes" "check_sizes" (defArgs s_check_sizes) (defBody s_check_sizes) (defScope s_check_sizes) [] [] (He.fAd K ("check_sizes", none)) fd_check_sizes
  g_check_sizes : mg "check_sizes" = some (.ref (He.fAd K ("check_sizes", none)))
  fd_check_ways : FuncData
  F_check_ways : FunD K "check_ways" "check_ways" (defArgs s_check_ways) (defBody s_check_ways) (defScope s_check_ways) [] [] (He.fAd K ("check_ways", none)) fd_check_ways
  g_check_ways : mg "check_ways" = some (.ref (He.fAd K ("check_ways", none)))
  fd_names_in : FuncData
  F_names_in : FunD K "names_in" "names_in" (defArgs s_names_in) (defBody s_names_in) (defScope s_names_in) [] [] (He.fAd K ("names_in", none)) fd_names_in
  g_names_in : mg "names_in" = some (.ref (He.fAd K ("names_in", none)))
  fd_check_row : FuncData
  F_check_row : FunD K "check_row" "check_row" (defArgs s_check_row) (defBody s_check_row) (defScope s_check_row) [] [] (He.fAd K ("check_row", none)) fd_check_row
  g_check_row : mg "check_row" = some (.ref (He.fAd K ("check_row", none)))
  fd_checked : FuncData
  F_checked : FunD K "checked" "checked" (defArgs s_checked) (defBody s_checked) (defScope s_checked) [] [] (He.fAd K ("checked", none)) fd_checked
  g_checked : mg "checked" = some (.ref (He.fAd K ("checked", none)))
  fd_row_line : FuncData
  F_row_line : FunD K "row_line" "row_line" (defArgs s_row_line) (defBody s_row_line) (defScope s_row_line) [] [] (He.fAd K ("row_line", none)) fd_row_line
  g_row_line : mg "row_line" = some (.ref (He.fAd K ("row_line", none)))
  fd_shown : FuncData
  F_shown : FunD K "shown" "shown" (defArgs s_shown) (defBody s_shown) (defScope s_shown) [] [] (He.fAd K ("shown", none)) fd_shown
  g_shown : mg "shown" = some (.ref (He.fAd K ("shown", none)))
  fd_worded : FuncData
  F_worded : FunD K "worded" "worded" (defArgs s_worded) (defBody s_worded) (defScope s_worded) [] [] (He.fAd K ("worded", none)) fd_worded
  g_worded : mg "worded" = some (.ref (He.fAd K ("worded", none)))
  fd_is_row : FuncData
  F_is_row : FunD K "is_row" "is_row" (defArgs s_is_row) (defBody s_is_row) (defScope s_is_row) [] [] (He.fAd K ("is_row", none)) fd_is_row
  g_is_row : mg "is_row" = some (.ref (He.fAd K ("is_row", none)))
  fd_row_of : FuncData
  F_row_of : FunD K "row_of" "row_of" (defArgs s_row_of) (defBody s_row_of) (defScope s_row_of) [] [] (He.fAd K ("row_of", none)) fd_row_of
  g_row_of : mg "row_of" = some (.ref (He.fAd K ("row_of", none)))
  fd_is_way : FuncData
  F_is_way : FunD K "is_way" "is_way" (defArgs s_is_way) (defBody s_is_way) (defScope s_is_way) [] [] (He.fAd K ("is_way", none)) fd_is_way
  g_is_way : mg "is_way" = some (.ref (He.fAd K ("is_way", none)))
  fd_way_of : FuncData
  F_way_of : FunD K "way_of" "way_of" (defArgs s_way_of) (defBody s_way_of) (defScope s_way_of) [] [] (He.fAd K ("way_of", none)) fd_way_of
  g_way_of : mg "way_of" = some (.ref (He.fAd K ("way_of", none)))
  fd_read : FuncData
  F_read : FunD K "read" "read" (defArgs s_read) (defBody s_read) (defScope s_read) [] [] (He.fAd K ("read", none)) fd_read
  g_read : mg "read" = some (.ref (He.fAd K ("read", none)))
  fd_l_cell_at : FuncData
  F_l_cell_at : FunD K "_law_cell_at" "_law_cell_at" (defArgs s_l_cell_at) (defBody s_l_cell_at) (defScope s_l_cell_at) [] [] (He.fAd K ("_law_cell_at", none)) fd_l_cell_at
  g_l_cell_at : mg "_law_cell_at" = some (.ref (He.fAd K ("_law_cell_at", none)))
  fd_l_drawn : FuncData
  F_l_drawn : FunD K "_law_drawn" "_law_drawn" (defArgs s_l_drawn) (defBody s_l_drawn) (defScope s_l_drawn) [] [] (He.fAd K ("_law_drawn", none)) fd_l_drawn
  g_l_drawn : mg "_law_drawn" = some (.ref (He.fAd K ("_law_drawn", none)))
  fd_l_rest_by : FuncData
  F_l_rest_by : FunD K "_law_rest_by" "_law_rest_by" (defArgs s_l_rest_by) (defBody s_l_rest_by) (defScope s_l_rest_by) [] [] (He.fAd K ("_law_rest_by", none)) fd_l_rest_by
  g_l_rest_by : mg "_law_rest_by" = some (.ref (He.fAd K ("_law_rest_by", none)))
  fd_l_own_sign : FuncData
  F_l_own_sign : FunD K "_law_own_sign" "_law_own_sign" (defArgs s_l_own_sign) (defBody s_l_own_sign) (defScope s_l_own_sign) [] [] (He.fAd K ("_law_own_sign", none)) fd_l_own_sign
  g_l_own_sign : mg "_law_own_sign" = some (.ref (He.fAd K ("_law_own_sign", none)))
  fd_l_names_by : FuncData
  F_l_names_by : FunD K "_law_names_by" "_law_names_by" (defArgs s_l_names_by) (defBody s_l_names_by) (defScope s_l_names_by) [] [] (He.fAd K ("_law_names_by", none)) fd_l_names_by
  g_l_names_by : mg "_law_names_by" = some (.ref (He.fAd K ("_law_names_by", none)))
  fd_l_row_by : FuncData
  F_l_row_by : FunD K "_law_row_by" "_law_row_by" (defArgs s_l_row_by) (defBody s_l_row_by) (defScope s_l_row_by) [] [] (He.fAd K ("_law_row_by", none)) fd_l_row_by
  g_l_row_by : mg "_law_row_by" = some (.ref (He.fAd K ("_law_row_by", none)))
  fd_l_ways_by : FuncData
  F_l_ways_by : FunD K "_law_ways_by" "_law_ways_by" (defArgs s_l_ways_by) (defBody s_l_ways_by) (defScope s_l_ways_by) [] [] (He.fAd K ("_law_ways_by", none)) fd_l_ways_by
  g_l_ways_by : mg "_law_ways_by" = some (.ref (He.fAd K ("_law_ways_by", none)))
  fd_l_program_by : FuncData
  F_l_program_by : FunD K "_law_program_by" "_law_program_by" (defArgs s_l_program_by) (defBody s_l_program_by) (defScope s_l_program_by) [] [] (He.fAd K ("_law_program_by", none)) fd_l_program_by
  g_l_program_by : mg "_law_program_by" = some (.ref (He.fAd K ("_law_program_by", none)))
  fd_l_whole : FuncData
  F_l_whole : FunD K "_law_whole" "_law_whole" (defArgs s_l_whole) (defBody s_l_whole) (defScope s_l_whole) [] [] (He.fAd K ("_law_whole", none)) fd_l_whole
  g_l_whole : mg "_law_whole" = some (.ref (He.fAd K ("_law_whole", none)))
  fd_l_numbers : FuncData
  F_l_numbers : FunD K "_law_numbers" "_law_numbers" (defArgs s_l_numbers) (defBody s_l_numbers) (defScope s_l_numbers) [] [] (He.fAd K ("_law_numbers", none)) fd_l_numbers
  g_l_numbers : mg "_law_numbers" = some (.ref (He.fAd K ("_law_numbers", none)))
  fd_l_row_same : FuncData
  F_l_row_same : FunD K "_law_row_same" "_law_row_same" (defArgs s_l_row_same) (defBody s_l_row_same) (defScope s_l_row_same) [] [] (He.fAd K ("_law_row_same", none)) fd_l_row_same
  g_l_row_same : mg "_law_row_same" = some (.ref (He.fAd K ("_law_row_same", none)))
  fd_l_same : FuncData
  F_l_same : FunD K "_law_same" "_law_same" (defArgs s_l_same) (defBody s_l_same) (defScope s_l_same) [] [] (He.fAd K ("_law_same", none)) fd_l_same
  g_l_same : mg "_law_same" = some (.ref (He.fAd K ("_law_same", none)))
  fd_l_copy : FuncData
  F_l_copy : FunD K "_law_copy" "_law_copy" (defArgs s_l_copy) (defBody s_l_copy) (defScope s_l_copy) [] [] (He.fAd K ("_law_copy", none)) fd_l_copy
  g_l_copy : mg "_law_copy" = some (.ref (He.fAd K ("_law_copy", none)))
  fd_l_text_by : FuncData
  F_l_text_by : FunD K "_law_text_by" "_law_text_by" (defArgs s_l_text_by) (defBody s_l_text_by) (defScope s_l_text_by) [] [] (He.fAd K ("_law_text_by", none)) fd_l_text_by
  g_l_text_by : mg "_law_text_by" = some (.ref (He.fAd K ("_law_text_by", none)))
  fd_law : FuncData
  F_law : FunD K "law" "law" (defArgs s_law) (defBody s_law) (defScope s_law) [] [] (He.fAd K ("law", none)) fd_law
  g_law : mg "law" = some (.ref (He.fAd K ("law", none)))
  n_is_name : PySem.W.nsIn K mainGlobals "is_name" = some (some (.ref (He.ga K "is_name")))
  n_is_way : PySem.W.nsIn K mainGlobals "is_way" = some (some (.ref (He.ga K "is_way")))
  v_LETTERS : Value
  c_LETTERS : mg "LETTERS" = some v_LETTERS
  r_LETTERS : RelV (.str "abcdefghijklmnopqrstuvwxyz") v_LETTERS
  d_LETTERS : ∀ R, Rp K R (.str "abcdefghijklmnopqrstuvwxyz") (.str "abcdefghijklmnopqrstuvwxyz")
  v_LONGEST_NAME : Value
  c_LONGEST_NAME : mg "LONGEST_NAME" = some v_LONGEST_NAME
  r_LONGEST_NAME : RelV (.int 12) v_LONGEST_NAME
  d_LONGEST_NAME : ∀ R, Rp K R (.int 12) (.int 12)
  v_MOST_BLOCKS : Value
  c_MOST_BLOCKS : mg "MOST_BLOCKS" = some v_MOST_BLOCKS
  r_MOST_BLOCKS : RelV (.int 60) v_MOST_BLOCKS
  d_MOST_BLOCKS : ∀ R, Rp K R (.int 60) (.int 60)
  v_MOST_ROWS : Value
  c_MOST_ROWS : mg "MOST_ROWS" = some v_MOST_ROWS
  r_MOST_ROWS : RelV (.int 40) v_MOST_ROWS
  d_MOST_ROWS : ∀ R, Rp K R (.int 40) (.int 40)
  v_MOST_WAYS : Value
  c_MOST_WAYS : mg "MOST_WAYS" = some v_MOST_WAYS
  r_MOST_WAYS : RelV (.int 9) v_MOST_WAYS
  d_MOST_WAYS : ∀ R, Rp K R (.int 9) (.int 9)
  v_MOST_READS : Value
  c_MOST_READS : mg "MOST_READS" = some v_MOST_READS
  r_MOST_READS : RelV (.int 2) v_MOST_READS
  d_MOST_READS : ∀ R, Rp K R (.int 2) (.int 2)
  v_FIGURES : Value
  c_FIGURES : mg "FIGURES" = some v_FIGURES
  r_FIGURES : RelV (.str "0123456789") v_FIGURES
  d_FIGURES : ∀ R, Rp K R (.str "0123456789") (.str "0123456789")
  v_MOST_FIGURES : Value
  c_MOST_FIGURES : mg "MOST_FIGURES" = some v_MOST_FIGURES
  r_MOST_FIGURES : RelV (.int 2) v_MOST_FIGURES
  d_MOST_FIGURES : ∀ R, Rp K R (.int 2) (.int 2)
  x_FitError : mg "FitError" = some (.ref (He.ga K "FitError"))
  x_NoBlock : mg "NoBlock" = some (.ref (He.ga K "NoBlock"))
  x_TooMany : mg "TooMany" = some (.ref (He.ga K "TooMany"))
  x_NoName : mg "NoName" = some (.ref (He.ga K "NoName"))
  x_SignTwice : mg "SignTwice" = some (.ref (He.ga K "SignTwice"))
  x_NoWay : mg "NoWay" = some (.ref (He.ga K "NoWay"))
  x_NoLine : mg "NoLine" = some (.ref (He.ga K "NoLine"))
  g_all : mg "all" = none
  g_bool : mg "bool" = none
  g_figure : mg "figure" = none
  g_int : mg "int" = none
  g_isinstance : mg "isinstance" = none
  g_len : mg "len" = none
  g_letter : mg "letter" = none
  g_list : mg "list" = none
  g_max : mg "max" = none
  g_min : mg "min" = none
  g_range : mg "range" = none
  g_str : mg "str" = none
  g_tuple : mg "tuple" = none
section
variable {K : PySem.W.Frag} {mg : Str → Option Value}
theorem b_is_name (T : Txt K mg) : Binds K T.fd_is_name ["thing"] [] := T.F_is_name.bindsN fun _ _ _ _ _ _ us hl => match us, hl with | [_], _ => rfl
theorem b_is_tell (T : Txt K mg) : Binds K T.fd_is_tell ["row"] [] := T.F_is_tell.bindsN fun _ _ _ _ _ _ us hl => match us, hl with | [_], _ => rfl
theorem b_check_sizes (T : Txt K mg) : Binds K T.fd_check_sizes ["rows", "ways"] [] := T.F_check_sizes.bindsN fun _ _ _ _ _ _ us hl => match us, hl with | [_, _], _ => rfl
theorem b_check_ways (T : Txt K mg) : Binds K T.fd_check_ways ["ways", "many"] [] := T.F_check_ways.bindsN fun _ _ _ _ _ _ us hl => match us, hl with | [_, _], _ => rfl
theorem b_names_in (T : Txt K mg) : Binds K T.fd_names_in ["row"] [] := T.F_names_in.bindsN fun _ _ _ _ _ _ us hl => match us, hl with | [_], _ => rfl
theorem b_check_row (T : Txt K mg) : Binds K T.fd_check_row ["row", "signs"] [] := T.F_check_row.bindsN fun _ _ _ _ _ _ us hl => match us, hl with | [_, _], _ => rfl
theorem b_checked (T : Txt K mg) : Binds K T.fd_checked ["program"] [] := T.F_checked.bindsN fun _ _ _ _ _ _ us hl => match us, hl with | [_], _ => rfl
theorem b_row_line (T : Txt K mg) : Binds K T.fd_row_line ["row"] [] := T.F_row_line.bindsN fun _ _ _ _ _ _ us hl => match us, hl with | [_], _ => rfl
theorem b_shown (T : Txt K mg) : Binds K T.fd_shown ["program"] [] := T.F_shown.bindsN fun _ _ _ _ _ _ us hl => match us, hl with | [_], _ => rfl
theorem b_worded (T : Txt K mg) : Binds K T.fd_worded ["text"] [] := T.F_worded.bindsN fun _ _ _ _ _ _ us hl => match us, hl with | [_], _ => rfl
theorem b_is_row (T : Txt K mg) : Binds K T.fd_is_row ["words"] [] := T.F_is_row.bindsN fun _ _ _ _ _ _ us hl => match us, hl with | [_], _ => rfl
theorem b_row_of (T : Txt K mg) : Binds K T.fd_row_of ["words"] [] := T.F_row_of.bindsN fun _ _ _ _ _ _ us hl => match us, hl with | [_], _ => rfl
theorem b_is_way (T : Txt K mg) : Binds K T.fd_is_way ["word"] [] := T.F_is_way.bindsN fun _ _ _ _ _ _ us hl => match us, hl with | [_], _ => rfl
theorem b_way_of (T : Txt K mg) : Binds K T.fd_way_of ["word"] [] := T.F_way_of.bindsN fun _ _ _ _ _ _ us hl => match us, hl with | [_], _ => rfl
theorem b_read (T : Txt K mg) : Binds K T.fd_read ["text"] [] := T.F_read.bindsN fun _ _ _ _ _ _ us hl => match us, hl with | [_], _ => rfl
theorem b_l_cell_at (T : Txt K mg) : Binds K T.fd_l_cell_at ["_law_script", "_law_k"] [] := T.F_l_cell_at.bindsN fun _ _ _ _ _ _ us hl => match us, hl with | [_, _], _ => rfl
theorem b_l_drawn (T : Txt K mg) : Binds K T.fd_l_drawn ["_law_script", "_law_k"] [] := T.F_l_drawn.bindsN fun _ _ _ _ _ _ us hl => match us, hl with | [_, _], _ => rfl
theorem b_l_rest_by (T : Txt K mg) : Binds K T.fd_l_rest_by ["_law_cell", "_law_most"] [] := T.F_l_rest_by.bindsN fun _ _ _ _ _ _ us hl => match us, hl with | [_, _], _ => rfl
theorem b_l_own_sign (T : Txt K mg) : Binds K T.fd_l_own_sign ["_law_script", "_law_k"] [] := T.F_l_own_sign.bindsN fun _ _ _ _ _ _ us hl => match us, hl with | [_, _], _ => rfl
theorem b_l_names_by (T : Txt K mg) : Binds K T.fd_l_names_by ["_law_script"] [] := T.F_l_names_by.bindsN fun _ _ _ _ _ _ us hl => match us, hl with | [_], _ => rfl
theorem b_l_row_by (T : Txt K mg) : Binds K T.fd_l_row_by ["_law_cell", "_law_names", "_law_sign"] [] := T.F_l_row_by.bindsN fun _ _ _ _ _ _ us hl => match us, hl with | [_, _, _], _ => rfl
theorem b_l_ways_by (T : Txt K mg) : Binds K T.fd_l_ways_by ["_law_script", "_law_k", "_law_size"] [] := T.F_l_ways_by.bindsN fun _ _ _ _ _ _ us hl => match us, hl with | [_, _, _], _ => rfl
theorem b_l_program_by (T : Txt K mg) : Binds K T.fd_l_program_by ["_law_script", "_law_names"] [] := T.F_l_program_by.bindsN fun _ _ _ _ _ _ us hl => match us, hl with | [_, _], _ => rfl
theorem b_l_whole (T : Txt K mg) : Binds K T.fd_l_whole ["_law_found"] [] := T.F_l_whole.bindsN fun _ _ _ _ _ _ us hl => match us, hl with | [_], _ => rfl
theorem b_l_numbers (T : Txt K mg) : Binds K T.fd_l_numbers ["_law_found", "_law_due"] [] := T.F_l_numbers.bindsN fun _ _ _ _ _ _ us hl => match us, hl with | [_, _], _ => rfl
theorem b_l_row_same (T : Txt K mg) : Binds K T.fd_l_row_same ["_law_found", "_law_due"] [] := T.F_l_row_same.bindsN fun _ _ _ _ _ _ us hl => match us, hl with | [_, _], _ => rfl
theorem b_l_same (T : Txt K mg) : Binds K T.fd_l_same ["_law_found", "_law_due"] [] := T.F_l_same.bindsN fun _ _ _ _ _ _ us hl => match us, hl with | [_, _], _ => rfl
theorem b_l_copy (T : Txt K mg) : Binds K T.fd_l_copy ["_law_program"] [] := T.F_l_copy.bindsN fun _ _ _ _ _ _ us hl => match us, hl with | [_], _ => rfl
theorem b_l_text_by (T : Txt K mg) : Binds K T.fd_l_text_by ["_law_program"] [] := T.F_l_text_by.bindsN fun _ _ _ _ _ _ us hl => match us, hl with | [_], _ => rfl
theorem b_law (T : Txt K mg) : Binds K T.fd_law ["_law_script"] [] := T.F_law.bindsN fun _ _ _ _ _ _ us hl => match us, hl with | [_], _ => rfl
end
end SF

namespace SF
open PySem L2 SH PV
def f_is_name (thing : Str) : Option (Bool) :=
  if (!true) then
  some false
  else
  chk (thing.length ≤ sizeLine) <|
  if (!(decide ((1 : Int) ≤ (thing.length : Int)) && decide ((thing.length : Int) ≤ (12 : Int)))) then
  some false
  else
  some (thing.cps.toList.all fun n => decide (n ∈ ("abcdefghijklmnopqrstuvwxyz" : Str).cps.toList))
def f_is_tell (row : RowT) : Option (Bool) :=
  some (decide (row.kind = ("tell" : Str)))
def f_check_sizes (rows : (List RowT)) (ways : (List Int)) : Option (Unit) :=
  if (decide ((40 : Int) < (rows.length : Int))) then
  none
  else
  if (decide ((9 : Int) < (ways.length : Int))) then
  none
  else
  some ()
def f_check_ways (ways : (List Int)) (many : Int) : Option (Unit) :=
  (foldO (fun way_1 (s_1 : Unit) => if ((!true) || (!(decide ((0 : Int) ≤ way_1) && decide (way_1 < many)))) then
  none
  else
  some ()) ways ()).bind fun r_1 =>
  some ()
def f_names_in (row : RowT) : Option ((List Str)) :=
  (f_is_tell row).bind fun v_1 =>
  if v_1 then
  some ([row.slot])
  else
  (row.reads?).bind fun v_2 =>
  (row.sign?).bind fun v_3 =>
  chk (v_2.length + 2 ≤ sizeLine) <|
  some (row.slot :: v_3 :: v_2)
def f_check_row (row : RowT) (signs : (List (Str × Bool))) : Option ((List (Str × Bool))) :=
  (f_names_in row).bind fun v_1 =>
  (foldO (fun name_1 (s_1 : Unit) => (f_is_name name_1).bind fun v_2 =>
  if (!v_2) then
  none
  else
  some ()) v_1 ()).bind fun r_1 =>
  (f_is_tell row).bind fun v_3 =>
  if v_3 then
  some signs
  else
  (row.sign?).bind fun v_4 =>
  (row.reads?).bind fun v_5 =>
  if (decide ((2 : Int) < (((v_4, v_5).2).length : Int))) then
  none
  else
  if (dmem signs ((v_4, v_5).1)) then
  none
  else
  chk (signs.length < sizeLine) <|
  letO ((dput signs ((v_4, v_5).1) true)) fun signs_1 =>
  some signs_1
def f_checked (program : (List ((List RowT) × (List Int)))) : Option ((List ((List RowT) × (List Int)))) :=
  if (!(!program.isEmpty)) then
  none
  else
  if (decide ((60 : Int) < (program.length : Int))) then
  none
  else
  letO (([] : (List (Str × Bool)))) fun signs_1 =>
  (foldO (fun it_1 (s_1 : ((List (Str × Bool)))) => (f_check_sizes it_1.1 it_1.2).bind fun v_1 =>
  (foldO (fun row_1 (s_2 : ((List (Str × Bool)))) => (f_check_row row_1 s_2).bind fun o_1 =>
  some o_1) it_1.1 s_1).bind fun r_2 =>
  (f_check_ways it_1.2 (program.length : Int)).bind fun v_2 =>
  some r_2) program signs_1).bind fun r_1 =>
  chk (program.length ≤ sizeLine) <|
  some (program.map fun it_2 => (it_2.1, it_2.2))
def f_row_line (row : RowT) : Option (Str) :=
  (f_is_tell row).bind fun v_1 =>
  if v_1 then
  chk (row.isT = true) <|
  chk (([("tell" : Str), row.slot].map (·.length)).sum + [("tell" : Str), row.slot].length * (" " : Str).length ≤ 16777216) <|
  some (Txt.join (" " : Str) [("tell" : Str), row.slot])
  else
  (row.parts?).bind fun q_1 =>
  chk (q_1.2.2.length + 3 ≤ sizeLine) <|
  chk (((q_1.1 :: ("=" : Str) :: q_1.2.1 :: q_1.2.2).map (·.length)).sum + (q_1.1 :: ("=" : Str) :: q_1.2.1 :: q_1.2.2).length * (" " : Str).length ≤ 16777216) <|
  some (Txt.join (" " : Str) (q_1.1 :: ("=" : Str) :: q_1.2.1 :: q_1.2.2))
def f_shown (program : (List ((List RowT) × (List Int)))) : Option (Str) :=
  letO (([] : (List Str))) fun lines_1 =>
  (foldO (fun it_1 (s_1 : ((List Str))) => chk (s_1.length < sizeLine) <|
  letO (s_1 ++ [("block" : Str)]) fun lines_2 =>
  chk (it_1.1.length ≤ sizeLine) <|
  (mapO (fun row_1 => (f_row_line row_1).bind fun v_1 =>
  some v_1) it_1.1).bind fun l_1 =>
  chk (lines_2.length + l_1.length ≤ sizeLine) <|
  letO (lines_2 ++ l_1) fun lines_3 =>
  chk (it_1.2.length ≤ sizeLine) <|
  (mapO (fun way_1 => chk (way_1.natAbs.log2 < 1920) <|
  some (PySem.Str.ofString (toString way_1))) it_1.2).bind fun l_2 =>
  chk (([("to" : Str)]).length + l_2.length ≤ sizeLine) <|
  chk ((([("to" : Str)] ++ l_2).map (·.length)).sum + ([("to" : Str)] ++ l_2).length * (" " : Str).length ≤ 16777216) <|
  chk (lines_3.length < sizeLine) <|
  letO (lines_3 ++ [(Txt.join (" " : Str) ([("to" : Str)] ++ l_2))]) fun lines_4 =>
  some lines_4) program lines_1).bind fun r_1 =>
  chk (r_1.length ≤ sizeLine) <|
  (mapO (fun line_1 => chk (line_1.length + ("\n" : Str).length ≤ sizeLine) <|
  some (line_1 ++ ("\n" : Str))) r_1).bind fun l_3 =>
  chk ((l_3.map (·.length)).sum + l_3.length * ("" : Str).length ≤ 16777216) <|
  some (Txt.join ("" : Str) l_3)
def f_worded (text : Str) : Option ((List (List Str))) :=
  chk (text.length + 2 ≤ sizeLine) <|
  letO ((Txt.split text ("\n" : Str))) fun lines_1 =>
  (lines_1[lines_1.length - 1]?).bind fun u_1 =>
  letO (lines_1.dropLast) fun lines_2 =>
  chk (u_1.length ≤ sizeLine) <|
  if (!decide (u_1.length = 0)) then
  none
  else
  chk (lines_2.length ≤ sizeLine) <|
  (mapO (fun line_1 => chk (line_1.length + 2 ≤ sizeLine) <|
  some (Txt.split line_1 (" " : Str))) lines_2).bind fun l_1 =>
  (foldO (fun words_1 (s_1 : Unit) => chk (sok ("" : Str) = true ∧ sok words_1 = true) <|
  if (memB ("" : Str) words_1) then
  none
  else
  some ()) l_1 ()).bind fun r_1 =>
  some l_1
def f_is_row (words : (List Str)) : Option (Bool) :=
  if (decide ((2 : Int) < (words.length : Int))) then
  (atI words (1 : Int)).bind fun v_1 =>
  some (decide (v_1 = ("=" : Str)))
  else
  (andO (decide ((words.length : Int) = (2 : Int))) ((atI words (0 : Int)).bind fun v_2 =>
  some (decide (v_2 = ("tell" : Str))))).bind fun b_1 =>
  some b_1
def f_row_of (words : (List Str)) : Option (RowT) :=
  if (decide ((words.length : Int) = (2 : Int))) then
  (atI words (1 : Int)).bind fun v_1 =>
  some (RowT.tell v_1)
  else
  (atI words (0 : Int)).bind fun v_2 =>
  (atI words (2 : Int)).bind fun v_3 =>
  some (RowT.make v_2 v_3 (cutL words (some (3 : Int)) none))
def f_is_way (word : Str) : Option (Bool) :=
  chk (word.length ≤ sizeLine) <|
  (orO (decide ((2 : Int) < (word.length : Int))) (chk (word.length ≤ sizeLine) <|
  (andO (decide ((1 : Int) < (word.length : Int))) (chk (word.length ≤ sizeLine) <|
  (atI word.cps.toList (0 : Int)).bind fun c_1 =>
  some (decide ((⟨#[c_1]⟩ : Str) = ("0" : Str))))).bind fun b_1 =>
  some b_1)).bind fun b_2 =>
  if b_2 then
  some false
  else
  some (word.cps.toList.all fun n => decide (n ∈ ("0123456789" : Str).cps.toList))
def f_way_of (word : Str) : Option (Int) :=
  (f_is_way word).bind fun v_1 =>
  if (!v_1) then
  none
  else
  chk (word.length ≤ 640) <|
  (PySem.intText? word).bind fun v_2 =>
  some v_2
def f_read (text : Str) : Option ((List ((List RowT) × (List Int)))) :=
  letO (([] : (List ((List RowT) × (List Int))))) fun blocks_1 =>
  letO (([] : (List RowT))) fun rows_1 =>
  (f_worded text).bind fun v_1 =>
  (foldO (fun words_1 (s_1 : ((List ((List RowT) × (List Int))) × (List RowT) × Bool)) => if (!s_1.2.2) then
  chk (sok words_1 = true ∧ sok ([("block" : Str)]) = true) <|
  if (!decide (words_1 = [("block" : Str)])) then
  none
  else
  letO (([] : (List RowT))) fun rows_2 =>
  some (s_1.1, rows_2, true)
  else
  (f_is_row words_1).bind fun v_2 =>
  if v_2 then
  (f_row_of words_1).bind fun v_3 =>
  chk (s_1.2.1.length < sizeLine) <|
  letO (s_1.2.1 ++ [v_3]) fun rows_3 =>
  some (s_1.1, rows_3, s_1.2.2)
  else
  (atI words_1 (0 : Int)).bind fun v_4 =>
  if (decide (v_4 = ("to" : Str))) then
  chk (s_1.1.length < sizeLine) <|
  chk ((cutL words_1 (some (1 : Int)) none).length ≤ sizeLine) <|
  (mapO (fun word_1 => (f_way_of word_1).bind fun v_5 =>
  some v_5) (cutL words_1 (some (1 : Int)) none)).bind fun l_1 =>
  letO (s_1.1 ++ [(s_1.2.1, l_1)]) fun blocks_2 =>
  some (blocks_2, ([] : (List RowT)), false)
  else
  none) v_1 (blocks_1, rows_1, false)).bind fun r_1 =>
  if r_1.2.2 then
  none
  else
  (f_checked r_1.1).bind fun v_6 =>
  some v_6
def f_l_cell_at (script : (List Int)) (k : Int) : Option (Int) :=
  if (decide (k < (script.length : Int))) then
  (atI script k).bind fun v_1 =>
  some v_1
  else
  if (decide ((script.length : Int) = (0 : Int))) then
  chk (mulOk ((97 : Int) * k) k) <|
  some ((((97 : Int) * k) * k) + ((13 : Int) * k))
  else
  chk (0 < (script.length : Int)) <|
  (atI script (k % (script.length : Int))).bind fun v_2 =>
  chk (mulOk v_2 (((2 : Int) * k) + (1 : Int))) <|
  chk (mulOk ((97 : Int) * k) k) <|
  some (((v_2 * (((2 : Int) * k) + (1 : Int))) + (((97 : Int) * k) * k)) + ((13 : Int) * k))
def f_l_drawn (script : (List Int)) (k : Int) : Option (Int) :=
  (f_l_cell_at script k).bind fun v_1 =>
  some ((v_1 * (48271 : Int)) % (2147483647 : Int))
def f_l_rest_by (cell : Int) (most : Int) : Option (Str) :=
  letO (("abcdefghijklmnopqrstuvwxyz" : Str)) fun some_1 =>
  letO (("" : Str)) fun rest_1 =>
  chk (0 < most) <|
  chk (rngOk (cell % most)) <|
  (foldO (fun turn_1 (s_1 : (Int × Str)) => letO (((s_1.1 / (7 : Int)) + ((31 : Int) * turn_1))) fun cell_1 =>
  chk (some_1.length ≤ sizeLine) <|
  (atI some_1.cps.toList (cell_1 % (26 : Int))).bind fun c_1 =>
  chk (s_1.2.length + (⟨#[c_1]⟩ : Str).length ≤ sizeLine) <|
  letO ((s_1.2 ++ (⟨#[c_1]⟩ : Str))) fun rest_2 =>
  some (cell_1, rest_2)) (rangeI (cell % most)) (cell, rest_1)).bind fun r_1 =>
  some r_1.2
def f_l_own_sign (script : (List Int)) (k : Int) : Option (Str) :=
  letO (("abcdefghijklmnopqrstuvwxyz" : Str)) fun some_1 =>
  (f_l_drawn script (630 : Int)).bind fun v_1 =>
  chk (mulOk k (v_1 % (2 : Int))) <|
  (f_l_drawn script ((631 : Int) + (k * (v_1 % (2 : Int))))).bind fun v_2 =>
  (f_l_rest_by v_2 (11 : Int)).bind fun v_3 =>
  chk (v_3.length ≤ sizeLine) <|
  letO ((if (v_3.length : Int) < ((v_1 / (2 : Int)) % (11 : Int)) then (v_3.length : Int) else ((v_1 / (2 : Int)) % (11 : Int)))) fun at__1 =>
  chk (v_3.length ≤ sizeLine) <|
  letO ((if (v_3.length : Int) < (at__1 + ((v_1 / (22 : Int)) % (11 : Int))) then (v_3.length : Int) else (at__1 + ((v_1 / (22 : Int)) % (11 : Int))))) fun far_1 =>
  chk (v_3.length ≤ sizeLine) <|
  chk (some_1.length ≤ sizeLine) <|
  (atI some_1.cps.toList (k / (26 : Int))).bind fun c_1 =>
  chk ((cutS v_3 none (some at__1)).length + (⟨#[c_1]⟩ : Str).length ≤ sizeLine) <|
  chk (v_3.length ≤ sizeLine) <|
  chk (((cutS v_3 none (some at__1)) ++ (⟨#[c_1]⟩ : Str)).length + (cutS v_3 (some at__1) (some far_1)).length ≤ sizeLine) <|
  letO ((((cutS v_3 none (some at__1)) ++ (⟨#[c_1]⟩ : Str)) ++ (cutS v_3 (some at__1) (some far_1)))) fun name_1 =>
  chk (some_1.length ≤ sizeLine) <|
  (atI some_1.cps.toList (((v_1 / (242 : Int)) + k) % (26 : Int))).bind fun c_2 =>
  chk (name_1.length + (⟨#[c_2]⟩ : Str).length ≤ sizeLine) <|
  chk (v_3.length ≤ sizeLine) <|
  chk ((name_1 ++ (⟨#[c_2]⟩ : Str)).length + (cutS v_3 (some far_1) none).length ≤ sizeLine) <|
  some ((name_1 ++ (⟨#[c_2]⟩ : Str)) ++ (cutS v_3 (some far_1) none))
def f_l_names_by (script : (List Int)) : Option ((List Str)) :=
  letO (("abcdefghijklmnopqrstuvwxyz" : Str)) fun some_1 =>
  (f_l_drawn script (0 : Int)).bind fun v_1 =>
  letO (((1 : Int) + ((v_1 / (43200 : Int)) % (5 : Int)))) fun many_1 =>
  (f_l_drawn script (4 : Int)).bind fun v_2 =>
  (if (decide ((v_2 % (8 : Int)) = (1 : Int))) then
  (f_l_drawn script (4 : Int)).bind fun v_3 =>
  letO (((1 : Int) + ((v_3 / (8 : Int)) % (60 : Int)))) fun many_2 =>
  some many_2
  else
  some many_1).bind fun j_1 =>
  (f_l_drawn script (600 : Int)).bind fun v_4 =>
  letO (([] : (List Str))) fun names_1 =>
  chk (rngOk j_1) <|
  (foldO (fun k_1 (s_1 : ((List Str))) => chk (mulOk k_1 (v_4 % (2 : Int))) <|
  (f_l_drawn script ((601 : Int) + (k_1 * (v_4 % (2 : Int))))).bind fun v_5 =>
  (f_l_rest_by v_5 (11 : Int)).bind fun v_6 =>
  chk (v_6.length ≤ sizeLine) <|
  letO ((if (v_6.length : Int) < ((v_4 / (2 : Int)) % (12 : Int)) then (v_6.length : Int) else ((v_4 / (2 : Int)) % (12 : Int)))) fun at__1 =>
  chk (v_6.length ≤ sizeLine) <|
  chk (some_1.length ≤ sizeLine) <|
  (atI some_1.cps.toList (((v_4 / (24 : Int)) + k_1) % (26 : Int))).bind fun c_1 =>
  chk ((cutS v_6 none (some at__1)).length + (⟨#[c_1]⟩ : Str).length ≤ sizeLine) <|
  chk (v_6.length ≤ sizeLine) <|
  chk (((cutS v_6 none (some at__1)) ++ (⟨#[c_1]⟩ : Str)).length + (cutS v_6 (some at__1) none).length ≤ sizeLine) <|
  letO ((((cutS v_6 none (some at__1)) ++ (⟨#[c_1]⟩ : Str)) ++ (cutS v_6 (some at__1) none))) fun name_1 =>
  (if (decide ((26 : Int) < j_1)) then
  chk (some_1.length ≤ sizeLine) <|
  (atI some_1.cps.toList (k_1 / (26 : Int))).bind fun c_2 =>
  chk ((⟨#[c_2]⟩ : Str).length + name_1.length ≤ sizeLine) <|
  letO (((⟨#[c_2]⟩ : Str) ++ name_1)) fun name_2 =>
  some name_2
  else
  some name_1).bind fun j_2 =>
  chk (s_1.length < sizeLine) <|
  letO (s_1 ++ [j_2]) fun names_2 =>
  some names_2) (rangeI j_1) names_1).bind fun r_1 =>
  some r_1
def f_l_row_by (cell : Int) (names : (List Str)) (sign : Str) : Option (RowT) :=
  letO ((names.length : Int)) fun many_1 =>
  chk (0 < many_1) <|
  (atI names ((cell / (3 : Int)) % many_1)).bind fun v_1 =>
  if (decide ((cell % (3 : Int)) = (0 : Int))) then
  some (RowT.tell v_1)
  else
  chk (divOk many_1) <|
  letO (((cell / (3 : Int)) / many_1)) fun cell_1 =>
  chk (0 < many_1) <|
  (atI names ((cell_1 / (3 : Int)) % many_1)).bind fun v_2 =>
  chk (divOk many_1) <|
  chk (0 < many_1) <|
  (atI names (((cell_1 / (3 : Int)) / many_1) % many_1)).bind fun v_3 =>
  letO ([v_2, v_3]) fun reads_1 =>
  some (RowT.make v_1 sign (cutL reads_1 none (some (cell_1 % (3 : Int)))))
def f_l_ways_by (script : (List Int)) (k : Int) (size : Int) : Option ((List Int)) :=
  (f_l_drawn script ((6 : Int) + k)).bind fun v_1 =>
  letO ((v_1 % (4 : Int))) fun many_1 =>
  (if (decide (((v_1 / (4 : Int)) % (4 : Int)) = (1 : Int))) then
  letO (((v_1 / (16 : Int)) % (10 : Int))) fun many_2 =>
  some many_2
  else
  some many_1).bind fun j_1 =>
  letO ((if j_1 < (if (decide ((k % (100 : Int)) = (0 : Int))) then 1 else 0 : Int) then (if (decide ((k % (100 : Int)) = (0 : Int))) then 1 else 0 : Int) else j_1)) fun many_3 =>
  letO ((v_1 / (160 : Int))) fun far_1 =>
  letO (([] : (List Int))) fun ways_1 =>
  chk (rngOk many_3) <|
  (foldO (fun turn_1 (s_1 : (Int × (List Int))) => chk (0 < size) <|
  chk (s_1.2.length < sizeLine) <|
  letO (s_1.2 ++ [(s_1.1 % size)]) fun ways_2 =>
  chk (divOk size) <|
  letO (((s_1.1 / size) + ((7919 : Int) * turn_1))) fun far_2 =>
  some (far_2, ways_2)) (rangeI many_3) (far_1, ways_1)).bind fun r_1 =>
  (f_l_drawn script (5 : Int)).bind fun v_2 =>
  (if ((decide ((v_2 % (3 : Int)) = (1 : Int))) && ((decide (many_3 < (9 : Int))) && (decide (size < (21 : Int))))) then
  chk (0 < size) <|
  chk (r_1.2.length < sizeLine) <|
  letO ((((k % (100 : Int)) - (1 : Int)) % size) :: r_1.2) fun ways_3 =>
  some ways_3
  else
  some r_1.2).bind fun j_2 =>
  some j_2
def f_l_program_by (script : (List Int)) (names : (List Str)) : Option ((List ((List RowT) × (List Int)))) :=
  (f_l_drawn script (0 : Int)).bind fun v_1 =>
  letO (((1 : Int) + (v_1 % (6 : Int)))) fun size_1 =>
  letO (((v_1 / (6 : Int)) % (17 : Int))) fun many_1 =>
  (if (decide (((v_1 / (102 : Int)) % (8 : Int)) = (1 : Int))) then
  (atI ([(60 : Int), (12 : Int)]) (if (decide ((5 : Int) < (names.length : Int))) then 1 else 0 : Int)).bind fun v_2 =>
  chk (0 < v_2) <|
  letO (((1 : Int) + ((v_1 / (816 : Int)) % v_2))) fun size_2 =>
  letO ((many_1 + size_2)) fun many_2 =>
  some (size_2, many_2)
  else
  some (size_1, many_1)).bind fun j_1 =>
  (if ((decide ((63 : Int) < (script.length : Int))) && (decide (((v_1 / (102 : Int)) % (8 : Int)) = (2 : Int)))) then
  letO (((39 : Int) * j_1.1)) fun many_3 =>
  some many_3
  else
  some j_1.2).bind fun j_2 =>
  chk (rngOk j_1.1) <|
  chk ((rangeI j_1.1).length ≤ sizeLine) <|
  (mapO (fun k_1 => (f_l_ways_by script ((400 : Int) + k_1) j_1.1).bind fun v_3 =>
  some (([] : (List RowT)), v_3)) (rangeI j_1.1)).bind fun l_1 =>
  chk (rngOk j_2) <|
  (foldO (fun k_2 (s_1 : ((List ((List RowT) × (List Int))))) => (f_l_drawn script ((6 : Int) + k_2)).bind fun v_4 =>
  chk (0 < j_1.1) <|
  letO (((v_4 / (1009 : Int)) % j_1.1)) fun at__1 =>
  (f_l_drawn script (3 : Int)).bind fun v_5 =>
  (if (decide ((v_5 % (8 : Int)) = (1 : Int))) then
  chk (0 < j_1.1) <|
  letO ((v_1 % j_1.1)) fun at__2 =>
  some at__2
  else
  some at__1).bind fun j_3 =>
  chk (rngOk j_1.1) <|
  (foldO (fun turn_1 (s_2 : (Int)) => (atI s_1 s_2).bind fun v_6 =>
  if (decide ((39 : Int) < (v_6.1.length : Int))) then
  chk (0 < j_1.1) <|
  letO (((s_2 + (1 : Int)) % j_1.1)) fun at__3 =>
  some at__3
  else
  some s_2) (rangeI j_1.1) j_3).bind fun r_2 =>
  (f_l_own_sign script k_2).bind fun v_7 =>
  (ixN s_1.length r_2).bind fun n_1 =>
  (s_1[n_1]?).bind fun w_1 =>
  (f_l_row_by ((v_4 * (69621 : Int)) % (2147483647 : Int)) names v_7).bind fun v_8 =>
  chk (w_1.1.length < sizeLine) <|
  letO ((s_1.set n_1 ((w_1.1 ++ [v_8]), w_1.2))) fun program_1 =>
  some program_1) (rangeI j_2) l_1).bind fun r_1 =>
  some r_1
def f_l_whole (found : Int) : Option (Bool) :=
  some (true && (!false))
def f_l_numbers (found : (List Int)) (due : (List Int)) : Option (Bool) :=
  if ((!true) || (!decide ((found.length : Int) = (due.length : Int)))) then
  some false
  else
  chk (rngOk (due.length : Int)) <|
  (foldR (fun k_1 (s_1 : Unit) => (atI found k_1).bind fun v_3 =>
  (f_l_whole v_3).bind fun v_4 =>
  (orO (!v_4) ((atI found k_1).bind fun v_1 =>
  (atI due k_1).bind fun v_2 =>
  some (!decide (v_1 = v_2)))).bind fun b_1 =>
  if b_1 then
  some (Sum.inr false)
  else
  some (Sum.inl ())) (rangeI (due.length : Int)) ()).bind fun r_1 =>
  ansO r_1 some fun s_2 =>
  some true
def f_l_row_same (found : RowT) (due : RowT) : Option (Bool) :=
  (orO (!true) (chk (sok found = true ∧ sok due = true) <|
  some (!decide (found = due)))).bind fun b_1 =>
  if b_1 then
  some false
  else
  chk (found.cut03.length ≤ sizeLine) <|
  if (!((found.cut03.map fun part_1 => true).all id)) then
  some false
  else
  if (decide (found.size = (4 : Int))) then
  (found.reads?).bind fun v_2 =>
  (andO true ((found.reads?).bind fun v_1 =>
  chk (v_1.length ≤ sizeLine) <|
  some ((v_1.map fun part_2 => true).all id))).bind fun b_2 =>
  some b_2
  else
  some true
def f_l_same (found : (List ((List RowT) × (List Int)))) (due : (List ((List RowT) × (List Int)))) : Option (Bool) :=
  if ((!true) || (!decide ((found.length : Int) = (due.length : Int)))) then
  some false
  else
  chk (rngOk (due.length : Int)) <|
  (foldR (fun k_1 (s_1 : Unit) => (atI found k_1).bind fun v_1 =>
  if ((!true) || ((!decide ((2 : Int) = (2 : Int))) || (!true))) then
  some (Sum.inr false)
  else
  (atI due k_1).bind fun v_4 =>
  (orO (!decide ((v_1.1.length : Int) = (v_4.1.length : Int))) ((atI due k_1).bind fun v_2 =>
  (f_l_numbers v_1.2 v_2.2).bind fun v_3 =>
  some (!v_3))).bind fun b_1 =>
  if b_1 then
  some (Sum.inr false)
  else
  chk (rngOk (v_1.1.length : Int)) <|
  (foldR (fun at__1 (s_3 : Unit) => (atI v_1.1 at__1).bind fun v_5 =>
  (atI due k_1).bind fun v_6 =>
  (atI v_6.1 at__1).bind fun v_7 =>
  (f_l_row_same v_5 v_7).bind fun v_8 =>
  if (!v_8) then
  some (Sum.inr false)
  else
  some (Sum.inl ())) (rangeI (v_1.1.length : Int)) ()).bind fun r_2 =>
  ansO r_2 (fun v => some (Sum.inr v)) fun s_4 =>
  some (Sum.inl ())) (rangeI (due.length : Int)) ()).bind fun r_1 =>
  ansO r_1 some fun s_2 =>
  some true
def f_l_copy (program : (List ((List RowT) × (List Int)))) : Option ((List ((List RowT) × (List Int)))) :=
  chk (program.length ≤ sizeLine) <|
  some (program.map fun block_1 => (block_1.1, block_1.2))
def f_l_text_by (program : (List ((List RowT) × (List Int)))) : Option (Str) :=
  letO (("" : Str)) fun text_1 =>
  (foldO (fun block_1 (s_1 : (Str)) => chk (s_1.length + ("block\n" : Str).length ≤ sizeLine) <|
  letO ((s_1 ++ ("block\n" : Str))) fun text_2 =>
  (foldO (fun row_1 (s_2 : (Str)) => if (decide (row_1.kind = ("tell" : Str))) then
  chk (s_2.length + ("tell " : Str).length ≤ sizeLine) <|
  chk ((s_2 ++ ("tell " : Str)).length + row_1.slot.length ≤ sizeLine) <|
  chk (((s_2 ++ ("tell " : Str)) ++ row_1.slot).length + ("\n" : Str).length ≤ sizeLine) <|
  letO ((((s_2 ++ ("tell " : Str)) ++ row_1.slot) ++ ("\n" : Str))) fun text_3 =>
  some text_3
  else
  chk (s_2.length + row_1.slot.length ≤ sizeLine) <|
  chk ((s_2 ++ row_1.slot).length + (" = " : Str).length ≤ sizeLine) <|
  (row_1.sign?).bind fun v_1 =>
  chk (((s_2 ++ row_1.slot) ++ (" = " : Str)).length + v_1.length ≤ sizeLine) <|
  letO ((((s_2 ++ row_1.slot) ++ (" = " : Str)) ++ v_1)) fun text_4 =>
  (row_1.reads?).bind fun v_2 =>
  (foldO (fun slot_1 (s_3 : (Str)) => chk (s_3.length + (" " : Str).length ≤ sizeLine) <|
  chk ((s_3 ++ (" " : Str)).length + slot_1.length ≤ sizeLine) <|
  letO (((s_3 ++ (" " : Str)) ++ slot_1)) fun text_5 =>
  some text_5) v_2 text_4).bind fun r_3 =>
  chk (r_3.length + ("\n" : Str).length ≤ sizeLine) <|
  letO ((r_3 ++ ("\n" : Str))) fun text_6 =>
  some text_6) block_1.1 text_2).bind fun r_2 =>
  chk (r_2.length + ("to" : Str).length ≤ sizeLine) <|
  letO ((r_2 ++ ("to" : Str))) fun text_7 =>
  (foldO (fun way_1 (s_4 : (Str)) => chk (s_4.length + (" " : Str).length ≤ sizeLine) <|
  chk (way_1.natAbs.log2 < 1920) <|
  chk ((s_4 ++ (" " : Str)).length + (PySem.Str.ofString (toString way_1)).length ≤ sizeLine) <|
  letO (((s_4 ++ (" " : Str)) ++ (PySem.Str.ofString (toString way_1)))) fun text_8 =>
  some text_8) block_1.2 text_7).bind fun r_4 =>
  chk (r_4.length + ("\n" : Str).length ≤ sizeLine) <|
  letO ((r_4 ++ ("\n" : Str))) fun text_9 =>
  some text_9) program text_1).bind fun r_1 =>
  some r_1
def f_law_k10 (script : (List Int)) : Option (Bool) :=
  (f_l_names_by script).bind fun v_1 =>
  (f_l_drawn script (140 : Int)).bind fun v_2 =>
  (if (decide ((v_2 % (4 : Int)) = (1 : Int))) then
  chk (([("tell" : Str), ("to" : Str), ("block" : Str)]).length + (cutL v_1 none (some (2 : Int))).length ≤ sizeLine) <|
  letO (([("tell" : Str), ("to" : Str), ("block" : Str)] ++ (cutL v_1 none (some (2 : Int))))) fun names_1 =>
  some names_1
  else
  some v_1).bind fun j_1 =>
  (f_l_program_by script j_1).bind fun v_3 =>
  (f_l_copy v_3).bind fun v_4 =>
  (f_l_text_by v_3).bind fun v_5 =>
  (f_shown v_4).bind fun v_6 =>
  (orO (!true) ((orO (!decide (v_6 = v_5)) ((f_l_same v_4 v_3).bind fun v_7 =>
  some (!v_7))).bind fun b_1 =>
  some b_1)).bind fun b_2 =>
  if b_2 then
  some false
  else
  (f_read v_5).bind fun v_8 =>
  (f_l_same v_8 v_3).bind fun v_9 =>
  some v_9
end SF

namespace SF
open PySem L2 SH PV
def Ok {α : Type} (m : Option α) (Q : α → Prop) : Prop := ∃ v, m = some v ∧ Q v
section
variable {α β σ ρ : Type}
theorem Ok.mk {v : α} {Q : α → Prop} (h : Q v) : Ok (some v) Q := ⟨v, rfl, h⟩
theorem Ok.bind {m : Option α} {f : α → Option β} {P : α → Prop} {Q : β → Prop} (h : Ok m P) (k : ∀ v, m = some v → P v → Ok (f v) Q) : Ok (m.bind f) Q := by
  obtain ⟨v, e, p⟩ := h
  rw [e]
  exact k v e p
theorem Ok.chk {p : Prop} [Decidable p] {k : Option β} {Q : β → Prop} (h : p) (q : Ok k Q) : Ok (SH.chk p k) Q := by rw [chk_t h]; exact q
theorem Ok.let_ {a : α} {f : α → Option β} {Q : β → Prop} (h : ∀ x, x = a → Ok (f x) Q) : Ok (letO a f) Q := h a rfl
theorem Ok.ite {c : Bool} {a b : Option β} {Q : β → Prop} (h1 : c = true → Ok a Q) (h2 : c = false → Ok b Q) : Ok (if c = true then a else b) Q := by
  cases c with
  | true => exact h1 rfl
  | false => exact h2 rfl
theorem Ok.imp {m : Option α} {P Q : α → Prop} (h : Ok m P) (k : ∀ v, P v → Q v) : Ok m Q := by
  obtain ⟨v, e, p⟩ := h
  exact ⟨v, e, k v p⟩
theorem Ok.of {m : Option α} {P : α → Prop} {v : α} (h : Ok m P) (e : m = some v) : P v := by
  obtain ⟨w, e', p⟩ := h
  rw [e] at e'
  cases e'
  exact p
theorem Ok.fold {f : α → σ → Option σ} {l : List α} {s : σ} {Q : σ → Prop} (I : List α → σ → Prop) (h0 : I [] s) (hs : ∀ l1 x l2 s, l = l1 ++ x :: l2 → I l1 s → Ok (f x s) (I (l1 ++ [x]))) (hd : ∀ s, I l s → Q s) : Ok (foldO f l s) Q := by
  have go : ∀ (l2 l1 : List α) (s : σ), l = l1 ++ l2 → I l1 s → Ok (foldO f l2 s) (I l) := by
    intro l2
    induction l2 with
    | nil =>
      intro l1 s e i
      rw [List.append_nil] at e
      rw [e]
      exact ⟨s, rfl, i⟩
    | cons x l2 ih =>
      intro l1 s e i
      refine (hs l1 x l2 s e i).bind fun s' _ i' => ih (l1 ++ [x]) s' ?_ i'
      rw [e, List.append_assoc]
      rfl
  exact (go l [] s rfl h0).imp hd
theorem Ok.foldI {f : α → σ → Option σ} {l : List α} {s : σ} {Q : σ → Prop} (I : σ → Prop) (h0 : I s) (hs : ∀ x s, x ∈ l → I s → Ok (f x s) I) (hd : ∀ s, I s → Q s) : Ok (foldO f l s) Q :=
  Ok.fold (fun _ s => I s) h0 (fun l1 x l2 s e i => hs x s (by rw [e]; exact List.mem_append_right _ List.mem_cons_self) i) hd
theorem rangeI_get {n : Int} {i : Nat} (h : i < n.toNat) : (rangeI n)[i]? = some (i : Int) := by
  unfold rangeI
  rw [List.getElem?_map, List.getElem?_range h]; rfl
theorem mem_rangeI {n k : Int} : k ∈ rangeI n ↔ 0 ≤ k ∧ k < n := by
  unfold rangeI
  rw [List.mem_map]
  constructor
  · rintro ⟨i, hi, rfl⟩
    have := List.mem_range.mp hi
    omega
  · intro h
    exact ⟨k.toNat, List.mem_range.mpr (by omega), by omega⟩
theorem Ok.foldR_ {f : Int → σ → Option σ} {n : Int} {s : σ} {Q : σ → Prop} (I : Nat → σ → Prop) (h0 : I 0 s) (hs : ∀ (i : Nat) s, (i : Int) < n → I i s → Ok (f i s) (I (i + 1))) (hd : ∀ s, I n.toNat s → Q s) : Ok (foldO f (rangeI n) s) Q := by
  refine Ok.fold (fun l s => I l.length s) h0 (fun l1 x l2 s e i => ?_) (fun s i => hd s (by rw [rangeI_len] at i; exact i))
  have hx : (rangeI n)[l1.length]? = some x := by rw [e]; simp
  have hl : l1.length < n.toNat := by
    have := (List.getElem?_eq_some_iff.mp hx).1
    rw [rangeI_len] at this
    exact this
  rw [rangeI_get hl] at hx
  cases hx
  rw [List.length_append]
  exact hs l1.length s (by omega) i
theorem Ok.mapO {f : α → Option β} {l : List α} {P : α → β → Prop} (h : ∀ x ∈ l, Ok (f x) (P x)) : Ok (SH.mapO f l) fun bs => bs.length = l.length ∧ ∀ (i : Nat) b, bs[i]? = some b → ∃ x, l[i]? = some x ∧ f x = some b ∧ P x b := by
  induction l with
  | nil => exact ⟨[], rfl, rfl, fun i b e => by simp at e⟩
  | cons x l ih =>
    refine (h x List.mem_cons_self).bind fun b e p => ?_
    refine (ih fun y hy => h y (List.mem_cons_of_mem _ hy)).bind fun bs e2 ⟨h1, h2⟩ => ?_
    refine ⟨b :: bs, rfl, by rw [List.length_cons, List.length_cons, h1], fun i c hc => ?_⟩
    cases i with
    | zero => simp at hc; subst hc; exact ⟨x, rfl, e, p⟩
    | succ i => exact h2 i c (by simpa using hc)
theorem Ok.mapM {f : α → Option β} {l : List α} {P : β → Prop} (h : ∀ x ∈ l, Ok (f x) P) : Ok (SH.mapO f l) fun bs => bs.length = l.length ∧ ∀ b ∈ bs, P b :=
  (Ok.mapO (P := fun _ b => P b) h).imp fun bs ⟨h1, h2⟩ => ⟨h1, fun b hb => by
    obtain ⟨i, hi⟩ := List.getElem?_of_mem hb
    obtain ⟨_, _, _, p⟩ := h2 i b hi
    exact p⟩
theorem Ok.orO {a : Bool} {m : Option Bool} {Q : Bool → Prop} (h1 : a = true → Q true) (h2 : a = false → Ok m Q) : Ok (SH.orO a m) Q := by
  cases a with
  | true => exact ⟨true, rfl, h1 rfl⟩
  | false => exact h2 rfl
theorem Ok.andO {a : Bool} {m : Option Bool} {Q : Bool → Prop} (h1 : a = false → Q false) (h2 : a = true → Ok m Q) : Ok (SH.andO a m) Q := by
  cases a with
  | false => exact ⟨false, rfl, h1 rfl⟩
  | true => exact h2 rfl
theorem atI_some {l : List α} {i : Int} (h0 : 0 ≤ i) (h : i < l.length) : ∃ x, atI l i = some x ∧ l[i.toNat]? = some x ∧ x ∈ l := by
  have hl : i.toNat < l.length := by omega
  refine ⟨l[i.toNat], ?_, List.getElem?_eq_getElem hl, List.getElem_mem hl⟩
  unfold atI ixN
  rw [if_pos h0, if_pos h]
  exact List.getElem?_eq_getElem hl
theorem Ok.at {l : List α} {i : Int} {Q : α → Prop} (h0 : 0 ≤ i) (h : i < l.length) (k : ∀ x, l[i.toNat]? = some x → x ∈ l → Q x) : Ok (atI l i) Q := by
  obtain ⟨x, e, e2, m⟩ := atI_some h0 h
  exact ⟨x, e, k x e2 m⟩
theorem line_lt {n : Nat} (h : n ≤ 10000) : n < sizeLine := Nat.lt_of_le_of_lt h (by decide)
theorem line_le {n : Nat} (h : n ≤ 10000) : n ≤ sizeLine := Nat.le_trans h (by decide)
theorem ltMod (a : Int) {b : Int} (h : 0 < b) : 0 ≤ a % b ∧ a % b < b := ⟨Int.emod_nonneg _ (by omega), Int.emod_lt_of_pos _ h⟩
end
theorem Ok.foldRl {α σ ρ : Type} {f : α → σ → Option (σ ⊕ ρ)} {l : List α} {s : σ} {Q : σ ⊕ ρ → Prop} (I : List α → σ → Prop) (h0 : I [] s) (hs : ∀ l1 x l2 s, l = l1 ++ x :: l2 → I l1 s → Ok (f x s) fun r => match r with
    | .inl t => I (l1 ++ [x]) t
    | .inr v => Q (.inr v)) (hd : ∀ s, I l s → Q (.inl s)) : Ok (foldR f l s) Q := by
  have go : ∀ (l2 l1 : List α) (s : σ), l = l1 ++ l2 → I l1 s → Ok (foldR f l2 s) Q := by
    intro l2
    induction l2 with
    | nil =>
      intro l1 s e i
      rw [List.append_nil] at e
      exact ⟨.inl s, rfl, hd s (by rw [e]; exact i)⟩
    | cons x l2 ih =>
      intro l1 s e i
      show Ok ((f x s).bind fun r => match r with
        | .inl s => foldR f l2 s
        | .inr v => some (.inr v)) Q
      refine (hs l1 x l2 s e i).bind fun r _ h => ?_
      cases r with
      | inl t => exact ih (l1 ++ [x]) t (by rw [e, List.append_assoc]; rfl) h
      | inr v => exact ⟨_, rfl, h⟩
  exact go l [] s rfl h0
theorem Ok.foldRi {σ ρ : Type} {f : Int → σ → Option (σ ⊕ ρ)} {n : Int} {s : σ} {Q : σ ⊕ ρ → Prop} (I : Nat → σ → Prop) (h0 : I 0 s) (hs : ∀ (i : Nat) s, (i : Int) < n → I i s → Ok (f i s) fun r => match r with
    | .inl t => I (i + 1) t
    | .inr v => Q (.inr v)) (hd : ∀ s, I n.toNat s → Q (.inl s)) : Ok (foldR f (rangeI n) s) Q := by
  refine Ok.foldRl (fun l s => I l.length s) h0 (fun l1 x l2 s e i => ?_) (fun s i => hd s (by rw [rangeI_len] at i; exact i))
  have hx : (rangeI n)[l1.length]? = some x := by rw [e]; simp
  have hl : l1.length < n.toNat := by
    have := (List.getElem?_eq_some_iff.mp hx).1
    rw [rangeI_len] at this
    exact this
  rw [rangeI_get hl] at hx
  cases hx
  rw [List.length_append]
  exact hs l1.length s (by omega) i
theorem Ok.ansL {β σ ρ : Type} {s : σ} {w : ρ → Option β} {k : σ → Option β} {Q : β → Prop} (h : Ok (k s) Q) : Ok (ansO (.inl s) w k) Q := h
theorem Ok.ansR {β σ ρ : Type} {v : ρ} {w : ρ → Option β} {k : σ → Option β} {Q : β → Prop} (h : Ok (w v) Q) : Ok (ansO (.inr v) w k) Q := h
theorem bnot_t {b : Bool} (h : (!b) = true) : b = false := match b, h with | false, _ => rfl
theorem bnot_f {b : Bool} (h : (!b) = false) : b = true := match b, h with | true, _ => rfl
theorem Ok.whileO {σ : Type} {c : σ → Option Bool} {f : σ → Option σ} {Q : σ → Prop} (I : σ → Prop) (μ : σ → Nat) (hs : ∀ s, I s → Ok (c s) fun b => (b = true → Ok (f s) fun t => I t ∧ μ t < μ s) ∧ (b = false → Q s)) :
    ∀ (n : Nat) (s : σ), I s → μ s < n → Ok (SH.whileO c f n s) Q := by
  intro n
  induction n with
  | zero => intro s _ h; exact absurd h (Nat.not_lt_zero _)
  | succ n ih =>
    intro s i h
    show Ok ((c s).bind fun b => if b = true then (f s).bind (SH.whileO c f n) else some s) Q
    refine (hs s i).bind fun b _ ⟨h1, h2⟩ => .ite (fun hb => ?_) fun hb => ⟨_, rfl, h2 hb⟩
    exact (h1 hb).bind fun t _ ⟨it, mt⟩ => ih t it (by omega)
end SF

namespace SF
open PySem L2 SH PV
theorem Str.toL (a b : Str) : (a ++ b).cps.toList = a.cps.toList ++ b.cps.toList := by
  show (a.cps ++ b.cps).toList = _
  exact Array.toList_append
theorem Str.lenL (a : Str) : a.length = a.cps.toList.length := by
  show a.cps.size = _
  rw [Array.length_toList]
def low (x : Str) : Prop := ∀ c ∈ x.cps.toList, 97 ≤ c ∧ c ≤ 122
theorem low_app {a b : Str} (h1 : low a) (h2 : low b) : low (a ++ b) := fun c hc => by
  rw [Str.toL] at hc
  rcases List.mem_append.mp hc with h | h
  · exact h1 c h
  · exact h2 c h
theorem low_nil : low "" := fun c hc => by
  have : ("" : Str).cps.toList = [] := by decide +kernel
  rw [this] at hc; cases hc
theorem low_one {c : Nat} (h : 97 ≤ c ∧ c ≤ 122) : low ⟨#[c]⟩ := fun d hd => by
  have : d = c := by simpa using hd
  subst this; exact h
theorem cutS_toL (x : Str) (lo hi : Option Int) : (cutS x lo hi).cps.toList = (x.cps.toList.drop (HT.sIx x.length 0 lo)).take (HT.sIx x.length x.length hi - HT.sIx x.length 0 lo) := by
  show ((x.cps.toList.drop (HT.sIx x.length 0 lo)).take (HT.sIx x.length x.length hi - HT.sIx x.length 0 lo)).toArray.toList = _
  rfl
theorem low_cut {x : Str} (h : low x) (lo hi : Option Int) : low (cutS x lo hi) := fun c hc => by
  rw [cutS_toL] at hc
  exact h c (List.mem_of_mem_drop (List.mem_of_mem_take hc))
theorem cutS_le (x : Str) (lo hi : Option Int) : (cutS x lo hi).length ≤ x.length := by
  rw [Str.lenL, cutS_toL, Str.lenL x, List.length_take, List.length_drop]
  omega
theorem cutS_a {x : Str} {i : Int} (h0 : 0 ≤ i) (h : i ≤ x.length) : (cutS x none (some i)).cps.toList = x.cps.toList.take i.toNat := by
  rw [cutS_toL, HT.sIx_none, List.drop_zero]
  obtain ⟨n, rfl⟩ : ∃ n : Nat, i = n := ⟨i.toNat, by omega⟩
  rw [HT.sIx_nat, Int.toNat_natCast, Nat.sub_zero, Nat.min_eq_left (by omega)]
theorem cutS_b {x : Str} {i : Int} (h0 : 0 ≤ i) (h : i ≤ x.length) : (cutS x (some i) none).cps.toList = x.cps.toList.drop i.toNat := by
  rw [cutS_toL]
  obtain ⟨n, rfl⟩ : ∃ n : Nat, i = n := ⟨i.toNat, by omega⟩
  rw [HT.sIx_nat, Int.toNat_natCast, Nat.min_eq_left (by omega)]
  have e : HT.sIx x.length x.length none = x.length := by rw [HT.sIx_none]
  rw [e, List.take_of_length_le]
  rw [List.length_drop, ← Str.lenL]
  exact Nat.le_refl _
theorem cutS_c {x : Str} {i j : Int} (h0 : 0 ≤ i) (h : i ≤ x.length) (h1 : 0 ≤ j) (h2 : j ≤ x.length) : (cutS x (some i) (some j)).cps.toList = (x.cps.toList.drop i.toNat).take (j.toNat - i.toNat) := by
  rw [cutS_toL]
  obtain ⟨n, rfl⟩ : ∃ n : Nat, i = n := ⟨i.toNat, by omega⟩
  obtain ⟨m, rfl⟩ : ∃ n : Nat, j = n := ⟨j.toNat, by omega⟩
  rw [HT.sIx_nat, HT.sIx_nat, Int.toNat_natCast, Int.toNat_natCast, Nat.min_eq_left (by omega), Nat.min_eq_left (by omega)]
theorem low_ok {x : Str} (h : low x) : PyData.strOk x = true := by
  unfold PyData.strOk
  rw [Array.all_eq_true]
  intro i hi
  have := h x.cps[i] (by rw [← Array.getElem_toList]; exact List.getElem_mem _)
  simp
  omega
def abc : Str := "abcdefghijklmnopqrstuvwxyz"
theorem abc_L : abc.cps.toList = [97, 98, 99, 100, 101, 102, 103, 104, 105, 106, 107, 108, 109, 110, 111, 112, 113, 114, 115, 116, 117, 118, 119, 120, 121, 122] := by decide +kernel
theorem abc_len : abc.length ≤ sizeLine := by
  rw [Str.lenL, abc_L]
  exact line_le (by decide)
theorem abc_at {i : Int} (h0 : 0 ≤ i) (h : i < 26) : atI abc.cps.toList i = some (97 + i.toNat) := by
  rw [abc_L]
  obtain ⟨n, rfl⟩ : ∃ n : Nat, i = n := ⟨i.toNat, by omega⟩
  have hn : n < 26 := by omega
  unfold atI ixN
  rw [if_pos h0, if_pos (by show (n : Int) < 26; omega)]
  show ([97, 98, 99, 100, 101, 102, 103, 104, 105, 106, 107, 108, 109, 110, 111, 112, 113, 114, 115, 116, 117, 118, 119, 120, 121, 122] : List Nat)[(n : Int).toNat]? = some (97 + (n : Int).toNat)
  rw [Int.toNat_natCast]
  match n, hn with
  | 0, _ | 1, _ | 2, _ | 3, _ | 4, _ | 5, _ | 6, _ | 7, _ | 8, _ | 9, _ | 10, _ | 11, _ | 12, _ | 13, _ | 14, _ | 15, _ | 16, _ | 17, _ | 18, _ | 19, _ | 20, _ | 21, _ | 22, _ | 23, _ | 24, _ | 25, _ => rfl
theorem ok_cell {sc : List Int} {k : Int} (h0 : 0 ≤ k) (h1 : k < 2 ^ 40) : Ok (f_l_cell_at sc k) fun _ => True := by
  have m1 : mulOk (97 * k) k := .inr (.inl ⟨by omega, by omega⟩)
  unfold f_l_cell_at
  refine .ite (fun hc => ?_) fun hc => .ite (fun hc2 => ?_) fun hc2 => ?_
  · have hc := of_decide_eq_true hc
    exact (Ok.at h0 hc fun _ _ _ => trivial).bind fun v _ _ => ⟨_, rfl, trivial⟩
  · exact .chk m1 ⟨_, rfl, trivial⟩
  · have hc2 := of_decide_eq_false hc2
    have hp : (0 : Int) < sc.length := by omega
    have := ltMod k hp
    refine .chk hp ((Ok.at this.1 this.2 fun _ _ _ => trivial).bind fun v _ _ => .chk (.inr (.inl ⟨by omega, by omega⟩)) (.chk m1 ⟨_, rfl, trivial⟩))
theorem ok_drawn' {sc : List Int} {k : Int} (h0 : 0 ≤ k) (h1 : k < 2 ^ 40) : Ok (f_l_drawn sc k) fun v => 0 ≤ v ∧ v < 2147483647 := by
  unfold f_l_drawn
  exact (ok_cell h0 h1).bind fun v _ _ => ⟨_, rfl, ltMod _ (by decide)⟩
theorem Str.len_app' (a b : Str) : (a ++ b).length = a.length + b.length := by rw [Str.lenL, Str.toL, List.length_append, ← Str.lenL, ← Str.lenL]
theorem one_len (c : Nat) : (⟨#[c]⟩ : Str).length = 1 := rfl
theorem ok_rest {cell most : Int} (h0 : 0 < most) (h1 : most ≤ 100) : Ok (f_l_rest_by cell most) fun x => (x.length : Int) < most ∧ low x := by
  unfold f_l_rest_by
  refine .let_ fun some_1 e1 => .let_ fun rest_1 e2 => .chk h0 (.chk ?_ ?_)
  · have := ltMod cell h0
    exact ⟨by omega, by omega⟩
  · have hm := ltMod cell h0
    refine (Ok.foldR_ (Q := fun s => (s.2.length : Int) < most ∧ low s.2) (fun i s => s.2.length = i ∧ low s.2) ?_ (fun i s hi ⟨hl, hw⟩ => ?_) fun s ⟨hl, hw⟩ => ⟨by rw [hl]; omega, hw⟩).bind fun s _ h => ⟨_, rfl, h⟩
    · rw [e2]; exact ⟨(by decide +kernel : ("" : Str).length = 0), low_nil⟩
    · refine .let_ fun c1 ec => .chk (by rw [e1]; exact abc_len) ?_
      have hc := ltMod c1 (show (0 : Int) < 26 by decide)
      refine Ok.bind (P := fun c => 97 ≤ c ∧ c ≤ 122) ⟨_, by rw [e1]; exact abc_at hc.1 hc.2, by omega⟩ fun c _ hc => .chk (line_le (by rw [one_len, hl]; omega)) (.let_ fun r er => ⟨_, rfl, ?_⟩)
      rw [er]
      exact ⟨by rw [Str.len_app', one_len, hl], low_app hw (low_one hc)⟩
theorem imin_ok {i j : Int} (h0 : 0 ≤ i) (h1 : 0 ≤ j) : 0 ≤ (if j < i then j else i) ∧ (if j < i then j else i) ≤ j := by split <;> omega
theorem par {k x : Int} (h : 0 ≤ k) : 0 ≤ k * (x % 2) ∧ k * (x % 2) ≤ k := by
  rcases (show x % 2 = 0 ∨ x % 2 = 1 by omega) with e | e <;> rw [e] <;> omega
def Nm (n : Nat) (x : Str) : Prop := 1 ≤ x.length ∧ x.length ≤ n ∧ low x
theorem cut2 {x : Str} {i : Int} (h0 : 0 ≤ i) (h : i ≤ x.length) : (cutS x none (some i)).length + (cutS x (some i) none).length = x.length := by
  rw [Str.lenL, cutS_a h0 h, Str.lenL, cutS_b h0 h, List.length_take, List.length_drop, ← Str.lenL]
  omega
theorem cut3 {x : Str} {i j : Int} (h0 : 0 ≤ i) (h : i ≤ j) (h2 : j ≤ x.length) : (cutS x none (some i)).length + (cutS x (some i) (some j)).length + (cutS x (some j) none).length = x.length := by
  rw [Str.lenL, cutS_a h0 (by omega), Str.lenL, cutS_c h0 (by omega) (by omega) h2, Str.lenL, cutS_b (by omega) h2, List.length_take, List.length_take, List.length_drop, List.length_drop, ← Str.lenL]
  omega
theorem ok_sign {sc : List Int} {k : Int} (h0 : 0 ≤ k) (h1 : k < 676) : Ok (f_l_own_sign sc k) (Nm 12) := by
  unfold f_l_own_sign
  refine .let_ fun some_1 e1 => (ok_drawn' (by decide) (by decide)).bind fun d ed hd => ?_
  have hp := par (x := d) h0
  refine .chk (.inl ⟨by omega, by omega⟩) ((ok_drawn' (by omega) (by omega)).bind fun v2 _ h2 => (ok_rest (by decide) (by decide)).bind fun x _ ⟨hx, hw⟩ => ?_)
  have hl : x.length ≤ sizeLine := line_le (by omega)
  have hb1 := imin_ok (i := d / 2 % 11) (j := x.length) (by omega) (by omega)
  refine .chk hl (.let_ fun a ea => .chk hl (.let_ fun f ef => ?_))
  rw [← ea] at hb1
  have hb2 := imin_ok (i := a + d / 22 % 11) (j := x.length) (by omega) (by omega)
  have haf : a ≤ f := by rw [ef]; split <;> omega
  rw [← ef] at hb2
  have c3 := cut3 hb1.1 haf hb2.2
  have k1 : 0 ≤ k / 26 ∧ k / 26 < 26 := by omega
  have k2 : 0 ≤ (d / 242 + k) % 26 ∧ (d / 242 + k) % 26 < 26 := by omega
  refine .chk hl (.chk (by rw [e1]; exact abc_len) (Ok.bind (P := fun c => 97 ≤ c ∧ c ≤ 122) ⟨_, by rw [e1]; exact abc_at k1.1 k1.2, by omega⟩ fun c _ hc => .chk (line_le (by rw [one_len]; omega)) (.chk hl (.chk (line_le (by rw [Str.len_app', one_len]; omega)) (.let_ fun nm en => ?_)))))
  have ln : nm.length = (cutS x none (some a)).length + 1 + (cutS x (some a) (some f)).length := by rw [en, Str.len_app', Str.len_app', one_len]
  have wn : low nm := by rw [en]; exact low_app (low_app (low_cut hw _ _) (low_one hc)) (low_cut hw _ _)
  refine .chk (by rw [e1]; exact abc_len) (Ok.bind (P := fun c => 97 ≤ c ∧ c ≤ 122) ⟨_, by rw [e1]; exact abc_at k2.1 k2.2, by omega⟩ fun c _ hc => .chk (line_le (by rw [one_len]; omega)) (.chk hl (.chk (line_le (by rw [Str.len_app', one_len]; omega)) ⟨_, rfl, ?_⟩)))
  refine ⟨?_, ?_, low_app (low_app wn (low_one hc)) (low_cut hw _ _)⟩ <;> rw [Str.len_app', Str.len_app', one_len] <;> omega
def Nms (l : List Str) : Prop := 1 ≤ l.length ∧ l.length ≤ 60 ∧ ∀ x ∈ l, Nm 12 x
theorem ok_names (sc : List Int) : Ok (f_l_names_by sc) Nms := by
  unfold f_l_names_by
  refine .let_ fun some_1 e1 => (ok_drawn' (by decide) (by decide)).bind fun d _ hd => .let_ fun m em => (ok_drawn' (by decide) (by decide)).bind fun d4 _ h4 => ?_
  refine Ok.bind (P := fun j => 1 ≤ j ∧ j ≤ 60) (.ite (fun _ => (ok_drawn' (by decide) (by decide)).bind fun d5 _ h5 => .let_ fun x ex => ⟨_, rfl, by omega⟩) fun _ => ⟨_, rfl, by omega⟩) fun j _ hj => ?_
  refine (ok_drawn' (by decide) (by decide)).bind fun dh _ hh => .let_ fun ns en => .chk ⟨by omega, by omega⟩ ?_
  refine (Ok.foldR_ (Q := Nms) (fun i s => s.length = i ∧ ∀ x ∈ s, Nm 12 x) ?_ (fun i s hi ⟨hl, hw⟩ => ?_) fun s ⟨hl, hw⟩ => ⟨by omega, by omega, hw⟩).bind fun s _ h => ⟨_, rfl, h⟩
  · rw [en]; exact ⟨rfl, fun x hx => nomatch hx⟩
  · have hp := par (k := i) (x := dh) (by omega)
    refine .chk (.inl ⟨by omega, by omega⟩) ((ok_drawn' (by omega) (by omega)).bind fun v2 _ h2 => (ok_rest (by decide) (by decide)).bind fun x _ ⟨hx, hlow⟩ => ?_)
    have hl' : x.length ≤ sizeLine := line_le (by omega)
    have hb1 := imin_ok (i := dh / 2 % 12) (j := x.length) (by omega) (by omega)
    refine .chk hl' (.let_ fun a ea => ?_)
    rw [← ea] at hb1
    have c2 := cut2 hb1.1 hb1.2
    have k1 : 0 ≤ (dh / 24 + (i : Int)) % 26 ∧ (dh / 24 + (i : Int)) % 26 < 26 := by omega
    refine .chk hl' (.chk (by rw [e1]; exact abc_len) (Ok.bind (P := fun c => 97 ≤ c ∧ c ≤ 122) ⟨_, by rw [e1]; exact abc_at k1.1 k1.2, by omega⟩ fun c _ hc => .chk (line_le (by rw [one_len]; omega)) (.chk hl' (.chk (line_le (by rw [Str.len_app', one_len]; omega)) (.let_ fun nm en2 => ?_)))))
    have ln : nm.length = (cutS x none (some a)).length + 1 + (cutS x (some a) none).length := by rw [en2, Str.len_app', Str.len_app', one_len]
    have wn : low nm := by rw [en2]; exact low_app (low_app (low_cut hlow _ _) (low_one hc)) (low_cut hlow _ _)
    refine Ok.bind (P := Nm 12) (.ite (fun hc2 => ?_) fun _ => ⟨_, rfl, by omega, by omega, wn⟩) fun nm2 _ hn2 => .chk (line_lt (by omega)) (.let_ fun s2 es => ⟨_, rfl, ?_⟩)
    · have k2 : 0 ≤ (i : Int) / 26 ∧ (i : Int) / 26 < 26 := by omega
      refine .chk (by rw [e1]; exact abc_len) (Ok.bind (P := fun c => 97 ≤ c ∧ c ≤ 122) ⟨_, by rw [e1]; exact abc_at k2.1 k2.2, by omega⟩ fun c _ hc => .chk (line_le (by rw [one_len]; omega)) (.let_ fun n2 en3 => ⟨_, rfl, ?_⟩))
      rw [en3]
      exact ⟨by rw [Str.len_app', one_len]; omega, by rw [Str.len_app', one_len]; omega, low_app (low_one hc) wn⟩
    · rw [es]
      refine ⟨by rw [List.length_append, hl]; rfl, fun y hy => ?_⟩
      rcases List.mem_append.mp hy with hy | hy
      · exact hw y hy
      · rw [List.mem_singleton.mp hy]; exact hn2
def RowIn (U : List Str) : RowT → Prop
  | .tell x => x ∈ U
  | .make a _ rs => a ∈ U ∧ ∀ x ∈ rs, x ∈ U
theorem ok_row {c : Int} {names : List Str} {g : Str} (h0 : 1 ≤ names.length) (h1 : names.length ≤ 60) : Ok (f_l_row_by c names g) fun r => RowIn names r ∧ (∀ y, r.sign? = some y → y = g) ∧ ∀ y, r.reads? = some y → y.length ≤ 2 := by
  unfold f_l_row_by
  refine .let_ fun m em => ?_
  subst em
  have hp : (0 : Int) < names.length := by omega
  have hd : divOk (names.length : Int) := ⟨hp, by omega⟩
  have at1 : ∀ x : Int, Ok (atI names (x % (names.length : Int))) fun y => y ∈ names := fun x => Ok.at (ltMod x hp).1 (ltMod x hp).2 fun _ _ m => m
  refine .chk hp ((at1 _).bind fun v1 _ hv1 => .ite (fun _ => ⟨_, rfl, hv1, (fun y e => nomatch e), fun y e => nomatch e⟩) fun _ => .chk hd (.let_ fun c1 _ => .chk hp ((at1 _).bind fun v2 _ hv2 => .chk hd (.chk hp ((at1 _).bind fun v3 _ hv3 => .let_ fun rs ers => ⟨_, rfl, ?_, ?_, ?_⟩)))))
  · refine ⟨hv1, fun x hx => ?_⟩
    have : x ∈ rs := List.mem_of_mem_drop (List.mem_of_mem_take hx)
    rw [ers] at this
    rcases List.mem_cons.mp this with rfl | this
    · exact hv2
    · rw [List.mem_singleton.mp this]; exact hv3
  · intro y e; cases e; rfl
  · intro y e
    cases e
    unfold cutL
    rw [List.length_take, List.length_drop, ers]
    show min _ (2 - _) ≤ 2
    omega
end SF

namespace SF
open PySem L2 SH PV
theorem kind_t (r : RowT) : decide (r.kind = ("tell" : Str)) = r.isT := by
  cases r with
  | tell x => exact decide_eq_true rfl
  | make a g rs => exact decide_eq_false (show ¬ ("make" : Str) = "tell" by decide)
theorem kind_m (r : RowT) : decide (r.kind = ("make" : Str)) = !r.isT := by
  cases r with
  | tell x => exact decide_eq_false (show ¬ ("tell" : Str) = "make" by decide)
  | make a g rs => exact decide_eq_true rfl
abbrev Blk := List RowT × List Int
structure RowOk (U : List Str) (r : RowT) : Prop where
  names : RowIn U r
  sok : sok r = true
  two : ∀ y, r.reads? = some y → y.length ≤ 2
structure Pok (U : List Str) (p : List Blk) : Prop where
  lo : 1 ≤ p.length
  hi : p.length ≤ 60
  len : ∀ b ∈ p, b.1.length ≤ 40
  row : ∀ b ∈ p, ∀ r ∈ b.1, RowOk U r
  nways : ∀ b ∈ p, b.2.length ≤ 9
  ways : ∀ b ∈ p, ∀ w ∈ b.2, 0 ≤ w ∧ w < p.length
  tot : (p.map fun b => b.1.length).sum ≤ 234
theorem ok_ways {sc : List Int} {k size : Int} (h0 : 0 ≤ k) (h1 : k < 2 ^ 39) (hs : 1 ≤ size) (hs2 : size ≤ 60) : Ok (f_l_ways_by sc k size) fun ws => ws.length ≤ 9 ∧ ∀ w ∈ ws, 0 ≤ w ∧ w < size := by
  unfold f_l_ways_by
  refine (ok_drawn' (by omega) (by omega)).bind fun d _ hd => .let_ fun m em => ?_
  refine Ok.bind (P := fun j => 0 ≤ j ∧ j ≤ 9) (.ite (fun _ => .let_ fun x ex => ⟨_, rfl, by omega⟩) fun _ => ⟨_, rfl, by omega⟩) fun j _ hj => .let_ fun m3 em3 => .let_ fun far _ => .let_ fun ws0 ew => ?_
  have hm3 : 0 ≤ m3 ∧ m3 ≤ 9 := by rw [em3]; split <;> (try split) <;> omega
  have hp : (0 : Int) < size := by omega
  refine .chk ⟨by omega, by omega⟩ ?_
  refine Ok.bind (P := fun s => s.2.length = m3.toNat ∧ ∀ w ∈ s.2, 0 ≤ w ∧ w < size) (Ok.foldR_ (fun i s => s.2.length = i ∧ ∀ w ∈ s.2, 0 ≤ w ∧ w < size) ?_ (fun i s hi ⟨hl, hw⟩ => ?_) fun s h => h) fun s _ ⟨hl, hw⟩ => ?_
  · rw [ew]; exact ⟨rfl, fun x hx => nomatch hx⟩
  · refine .chk hp (.chk (line_lt (by omega)) (.let_ fun w2 e2 => .chk ⟨hp, by omega⟩ (.let_ fun f2 _ => ⟨_, rfl, ?_⟩)))
    rw [e2]
    refine ⟨by rw [List.length_append, hl]; rfl, fun w hw' => ?_⟩
    rcases List.mem_append.mp hw' with hw' | hw'
    · exact hw w hw'
    · rw [List.mem_singleton.mp hw']; exact ltMod _ hp
  · refine (ok_drawn' (by omega) (by omega)).bind fun d5 _ h5 => ?_
    refine Ok.bind (P := fun ws => ws.length ≤ 9 ∧ ∀ w ∈ ws, 0 ≤ w ∧ w < size) (.ite (fun hc => ?_) fun _ => ⟨_, rfl, by omega, hw⟩) fun ws _ h => ⟨_, rfl, h⟩
    rw [Bool.and_eq_true, Bool.and_eq_true] at hc
    have h9 := of_decide_eq_true hc.2.1
    refine .chk hp (.chk (line_lt (by omega)) (.let_ fun w3 e3 => ⟨_, rfl, ?_⟩))
    rw [e3]
    refine ⟨by rw [List.length_cons, hl]; omega, fun w hw' => ?_⟩
    rcases List.mem_cons.mp hw' with rfl | hw'
    · exact ltMod _ hp
    · exact hw w hw'
theorem sum_ge {α : Type} (f : α → Nat) (n : Nat) : ∀ {l : List α}, (∀ x ∈ l, n ≤ f x) → n * l.length ≤ (l.map f).sum
  | [], _ => by simp
  | a :: l, h => by
    have := sum_ge f n (l := l) fun x hx => h x (List.mem_cons_of_mem _ hx)
    have h1 := h a List.mem_cons_self
    rw [List.map_cons, List.sum_cons, List.length_cons, Nat.mul_succ]
    omega
theorem sum_set {α : Type} (f : α → Nat) : ∀ {l : List α} {n : Nat} {x y : α}, l[n]? = some x → (( l.set n y).map f).sum + f x = (l.map f).sum + f y
  | [], n, x, y, h => by simp at h
  | a :: l, 0, x, y, h => by
    simp at h
    subst h
    show f y + (l.map f).sum + f a = f a + (l.map f).sum + f y
    omega
  | a :: l, n + 1, x, y, h => by
    have := sum_set f (l := l) (n := n) (x := x) (y := y) (by simpa using h)
    show f a + ((l.set n y).map f).sum + f x = f a + (l.map f).sum + f y
    omega
theorem mem_set {α : Type} {l : List α} {n : Nat} {y z : α} (h : z ∈ l.set n y) : z ∈ l ∨ z = y := List.mem_or_eq_of_mem_set h
theorem ok_room {s : List Blk} {a0 size : Int} (hs : size = s.length) (hp : 1 ≤ size) (h0 : 0 ≤ a0) (h1 : a0 < size) (ht : (s.map fun b => b.1.length).sum < 40 * s.length) :
    Ok (foldO (fun turn_1 (s_2 : Int) => (atI s s_2).bind fun v_6 =>
      if (decide ((39 : Int) < (v_6.1.length : Int))) then chk (0 < size) <| letO (((s_2 + (1 : Int)) % size)) fun at__3 => some at__3 else some s_2) (rangeI size) a0) fun a => 0 ≤ a ∧ a < size ∧ ∃ b, s[a.toNat]? = some b ∧ b.1.length ≤ 39 := by
  refine Ok.foldR_ (fun t a => 0 ≤ a ∧ a < size ∧ ((∃ b, s[a.toNat]? = some b ∧ b.1.length ≤ 39) ∨ (a = (a0 + t) % size ∧ ∀ i : Nat, i < t → ∀ b, s[((a0 + i) % size).toNat]? = some b → 40 ≤ b.1.length))) ⟨h0, h1, .inr ⟨by rw [show ((0 : Nat) : Int) = 0 from rfl, Int.add_zero, Int.emod_eq_of_lt h0 h1], fun i hi => absurd hi (Nat.not_lt_zero i)⟩⟩ (fun t a ht2 ⟨ha0, ha1, hor⟩ => ?_) fun a ⟨ha0, ha1, hor⟩ => ⟨ha0, ha1, hor.resolve_right fun ⟨_, hall⟩ => ?_⟩
  · refine Ok.bind (P := fun x => s[a.toNat]? = some x) (Ok.at ha0 (by omega) fun x e _ => e) fun b _ eb => .ite (fun hc => ?_) fun hc => ⟨_, rfl, ha0, ha1, .inl ⟨b, eb, ?_⟩⟩
    · have hc := of_decide_eq_true hc
      have hp : 0 < size := by omega
      refine .chk hp (.let_ fun a2 ea2 => ⟨_, rfl, ?_⟩)
      have hm := ltMod (a + 1) hp
      rw [ea2]
      refine ⟨hm.1, hm.2, .inr ?_⟩
      rcases hor with ⟨b2, eb2, hb2⟩ | ⟨ea, hall⟩
      · rw [eb] at eb2
        cases eb2
        omega
      · refine ⟨by rw [ea, Int.emod_add_emod]; congr 1; omega, fun i hi b2 eb2 => ?_⟩
        by_cases hit : i < t
        · exact hall i hit b2 eb2
        · obtain rfl : i = t := by omega
          rw [← ea, eb] at eb2
          cases eb2
          omega
    · have hc := of_decide_eq_false hc
      omega
  · have : ∀ b ∈ s, 40 ≤ b.1.length := fun b hb => by
      obtain ⟨j, hj⟩ := List.getElem?_of_mem hb
      have hjl : j < s.length := (List.getElem?_eq_some_iff.mp hj).1
      have hp : 0 < size := by omega
      have hm := ltMod ((j : Int) - a0) hp
      refine hall (((j : Int) - a0) % size).toNat (by omega) b ?_
      have e : (a0 + ((((j : Int) - a0) % size).toNat : Int)) % size = j := by
        rw [Int.toNat_of_nonneg hm.1, Int.add_emod_emod, show a0 + ((j : Int) - a0) = j by omega]
        exact Int.emod_eq_of_lt (by omega) (by omega)
      rw [e]
      exact hj
    have := sum_ge (fun b : Blk => b.1.length) 40 this
    omega
theorem low_sok_row {U : List Str} (hU : ∀ x ∈ U, low x) {g : Str} (hg : low g) {r : RowT} (h : RowIn U r) (hs : ∀ y, r.sign? = some y → y = g) : sok r = true := by
  cases r with
  | tell x => exact low_ok (hU x h)
  | make a g' rs =>
    show (PyData.strOk a && (PyData.strOk g' && rs.all PyData.strOk)) = true
    rw [low_ok (hU a h.1), hs g' rfl, low_ok hg, List.all_eq_true.mpr fun x hx => low_ok (hU x (h.2 x hx))]; rfl
theorem sok_names {l : List Str} (h : ∀ x ∈ l, low x) : sok l = true := List.all_eq_true.mpr fun x hx => low_ok (h x hx)
structure Pmk (U : List Str) (size : Int) (n : Nat) (p : List Blk) : Prop where
  sz : (p.length : Int) = size
  len : ∀ b ∈ p, b.1.length ≤ 40
  row : ∀ b ∈ p, ∀ r ∈ b.1, RowOk U r
  nways : ∀ b ∈ p, b.2.length ≤ 9
  ways : ∀ b ∈ p, ∀ w ∈ b.2, 0 ≤ w ∧ w < size
  tot : (p.map fun b => b.1.length).sum = n
theorem ok_program (sc : List Int) {names : List Str} (hn : Nms names) : Ok (f_l_program_by sc names) (Pok names) := by
  unfold f_l_program_by
  refine (ok_drawn' (by decide) (by decide)).bind fun d _ hd => .let_ fun sz esz => .let_ fun mn emn => ?_
  refine Ok.bind (P := fun j : Int × Int => 1 ≤ j.1 ∧ j.1 ≤ 60 ∧ 0 ≤ j.2 ∧ j.2 ≤ 39 * j.1 ∧ j.2 ≤ 234 ∧ (decide (d / 102 % 8 = 2) = true → j.1 ≤ 6)) (.ite (fun hc => ?_) fun _ => ⟨_, rfl, ?_⟩) fun j _ ⟨hj1, hj2, hj3, hj4, hj5, hj6⟩ => ?_
  · have hc := of_decide_eq_true hc
    refine Ok.bind (P := fun v : Int => 0 < v ∧ v ≤ 60) ?_ fun v _ hv => .chk hv.1 (.let_ fun s2 es2 => .let_ fun m2 em2 => ⟨_, rfl, ?_⟩)
    · split
      · exact ⟨12, rfl, by decide⟩
      · exact ⟨60, rfl, by decide⟩
    · have := ltMod (d / 816) hv.1
      exact ⟨by show 1 ≤ s2; omega, by show s2 ≤ 60; omega, by show 0 ≤ m2; omega, by show m2 ≤ 39 * s2; omega, by show m2 ≤ 234; omega, fun z => by have z := of_decide_eq_true z; omega⟩
  · exact ⟨by show 1 ≤ sz; omega, by show sz ≤ 60; omega, by show 0 ≤ mn; omega, by show mn ≤ 39 * sz; omega, by show mn ≤ 234; omega, fun _ => by show sz ≤ 6; omega⟩
  refine Ok.bind (P := fun m : Int => 0 ≤ m ∧ m ≤ 39 * j.1 ∧ m ≤ 234) (.ite (fun hc => ?_) fun _ => ⟨_, rfl, hj3, hj4, hj5⟩) fun m _ ⟨hm1, hm2, hm3⟩ => ?_
  · rw [Bool.and_eq_true] at hc
    have := hj6 hc.2
    exact .let_ fun m3 em3 => ⟨_, rfl, by omega, by omega, by omega⟩
  have hp : 0 < j.1 := by omega
  refine .chk ⟨by omega, by omega⟩ (.chk (line_le (by rw [rangeI_len]; omega)) ?_)
  refine Ok.bind (P := Pmk names j.1 0) ?_ fun l1 _ hl1 => .chk ⟨by omega, by omega⟩ ?_
  · refine (Ok.mapM (P := fun b : Blk => b.1 = [] ∧ b.2.length ≤ 9 ∧ ∀ w ∈ b.2, 0 ≤ w ∧ w < j.1) fun k hk => ?_).imp fun bs ⟨e1, e2⟩ => ?_
    · have := mem_rangeI.mp hk
      exact (ok_ways (by omega) (by omega) (by omega) (by omega)).bind fun ws _ h => ⟨_, rfl, rfl, h.1, h.2⟩
    · rw [rangeI_len] at e1
      refine ⟨by omega, fun b hb => ?_, fun b hb r hr => ?_, fun b hb => (e2 b hb).2.1, fun b hb => (e2 b hb).2.2, ?_⟩
      · rw [(e2 b hb).1]; exact Nat.zero_le _
      · rw [(e2 b hb).1] at hr; cases hr
      · have z : ∀ l : List Blk, (∀ b ∈ l, b.1 = []) → (l.map fun b => b.1.length).sum = 0 := by
          intro l
          induction l with
          | nil => intro _; rfl
          | cons b l ih =>
            intro h
            show b.1.length + (l.map fun b => b.1.length).sum = 0
            rw [h b List.mem_cons_self, ih fun x hx => h x (List.mem_cons_of_mem _ hx)]; rfl
        exact z bs fun b hb => (e2 b hb).1
  · refine (Ok.foldR_ (Q := Pok names) (fun i p => Pmk names j.1 i p) hl1 (fun i p hi hpm => ?_) fun p hpm => ?_).bind fun p _ h => ⟨_, rfl, h⟩
    · refine (ok_drawn' (by omega) (by omega)).bind fun d4 _ h4 => .chk hp (.let_ fun at1 eat => (ok_drawn' (by omega) (by omega)).bind fun d5 _ h5 => ?_)
      have hm4 := ltMod (d4 / 1009) hp
      refine Ok.bind (P := fun a => 0 ≤ a ∧ a < j.1) (.ite (fun _ => .chk hp (.let_ fun a2 ea2 => ⟨_, rfl, by rw [ea2]; exact ltMod d hp⟩)) fun _ => ⟨_, rfl, by rw [eat]; exact hm4⟩) fun a _ ha => .chk ⟨by omega, by omega⟩ ?_
      have hz := hpm.sz
      refine (ok_room (size := j.1) hz.symm (by omega) ha.1 ha.2 (by have := hpm.tot; omega)).bind fun a2 _ ⟨h20, h21, b, eb, hb⟩ => (ok_sign (by omega) (by omega)).bind fun g _ hg => ?_
      have ei : ixN p.length a2 = some a2.toNat := by
        unfold ixN
        rw [if_pos h20, if_pos (by omega)]
      rw [ei, Option.bind_some, eb, Option.bind_some]
      refine (ok_row hn.1 hn.2.1).bind fun r _ ⟨hr1, hr2, hr3⟩ => .chk (line_lt (by omega)) (.let_ fun p2 ep2 => ⟨_, rfl, ?_⟩)
      have hbm : b ∈ p := List.mem_of_getElem? eb
      have hr : RowOk names r := ⟨hr1, low_sok_row (fun x hx => (hn.2.2 x hx).2.2) hg.2.2 hr1 hr2, hr3⟩
      subst ep2
      refine ⟨by rw [List.length_set]; exact hz, fun c hc => ?_, fun c hc r' hr' => ?_, fun c hc => ?_, fun c hc => ?_, ?_⟩
      · rcases mem_set hc with hc | rfl
        · exact hpm.len c hc
        · show (b.1 ++ [r]).length ≤ 40
          rw [List.length_append]; show b.1.length + 1 ≤ 40; omega
      · rcases mem_set hc with hc | rfl
        · exact hpm.row c hc r' hr'
        · rcases List.mem_append.mp hr' with hr' | hr'
          · exact hpm.row b hbm r' hr'
          · rw [List.mem_singleton.mp hr']; exact hr
      · rcases mem_set hc with hc | rfl
        · exact hpm.nways c hc
        · exact hpm.nways b hbm
      · rcases mem_set hc with hc | rfl
        · exact hpm.ways c hc
        · exact hpm.ways b hbm
      · have := sum_set (fun b : Blk => b.1.length) (y := (b.1 ++ [r], b.2)) eb
        have e : (b.1 ++ [r], b.2).1.length = b.1.length + 1 := by rw [List.length_append]; rfl
        have := hpm.tot
        omega
    · have hz := hpm.sz
      refine ⟨by omega, by omega, hpm.len, hpm.row, hpm.nways, fun b hb w hw => ?_, ?_⟩
      · rw [hz]; exact hpm.ways b hb w hw
      · rw [hpm.tot]; omega
end SF

namespace SF
open PySem L2 SH PV
theorem foldR_inl {α ρ : Type} {f : α → Unit → Option (Unit ⊕ ρ)} : ∀ {l : List α}, (∀ x ∈ l, f x () = some (.inl ())) → foldR f l () = some (.inl ())
  | [], _ => rfl
  | a :: l, h => by
    show (f a ()).bind _ = _
    rw [h a List.mem_cons_self]
    exact foldR_inl fun x hx => h x (List.mem_cons_of_mem _ hx)
theorem rng_len {n : Nat} (h : n ≤ 10000) : rngOk (n : Int) := ⟨by omega, by omega⟩
theorem at_range {α : Type} {l : List α} {k : Int} (h : k ∈ rangeI (l.length : Int)) : ∃ x, atI l k = some x ∧ x ∈ l := by
  have := mem_rangeI.mp h
  obtain ⟨x, e, _, m⟩ := atI_some this.1 this.2
  exact ⟨x, e, m⟩
theorem numbers_self {a : List Int} (h : a.length ≤ 10000) : f_l_numbers a a = some true := by
  unfold f_l_numbers
  rw [decide_eq_true rfl, show ((!true) || (!true)) = false from rfl, if_neg Bool.false_ne_true, chk_t (rng_len h), foldR_inl fun k hk => ?_]
  · rfl
  · obtain ⟨x, e, _⟩ := at_range hk
    simp [e, f_l_whole, orO]
theorem row_same_self {r : RowT} (h : sok r = true) (hl : ∀ y, r.reads? = some y → y.length ≤ 2) : f_l_row_same r r = some true := by
  unfold f_l_row_same
  have e0 : (orO (!true) (chk (sok r = true ∧ sok r = true) <| some (!decide (r = r)))) = some false := by
    rw [chk_t ⟨h, h⟩, decide_eq_true rfl]; rfl
  rw [e0]
  show chk _ _ = _
  have hc : r.cut03.length ≤ sizeLine := line_le (by cases r <;> (show (_ : Nat) ≤ 10000) <;> simp [RowT.cut03])
  have ha : ∀ l : List Str, (l.map fun _ => true).all id = true := fun l => List.all_eq_true.mpr fun x hx => by
    obtain ⟨_, _, rfl⟩ := List.mem_map.mp hx
    rfl
  rw [chk_t hc, ha]
  cases r with
  | tell x => rfl
  | make a g rs =>
    have h2 := hl rs rfl
    show (andO true (chk (rs.length ≤ sizeLine) (some ((rs.map fun _ => true).all id)))).bind _ = _
    rw [chk_t (line_le (by omega)), ha]; rfl
theorem same_self {U : List Str} {p : List Blk} (h : p.length ≤ 60) (hr : ∀ b ∈ p, ∀ r ∈ b.1, RowOk U r) (hl : ∀ b ∈ p, b.1.length ≤ 10000) (hw : ∀ b ∈ p, b.2.length ≤ 9) : f_l_same p p = some true := by
  unfold f_l_same
  rw [decide_eq_true rfl, show ((!true) || (!true)) = false from rfl, if_neg Bool.false_ne_true, chk_t (rng_len (by omega)), foldR_inl fun k hk => ?_]
  · rfl
  · obtain ⟨b, e, m⟩ := at_range hk
    simp [e, orO, numbers_self (show b.2.length ≤ 10000 by have := hw b m; omega), chk_t (rng_len (hl b m))]
    rw [foldR_inl fun j hj => ?_]
    · rfl
    · obtain ⟨r, e2, m2⟩ := at_range hj
      have hro := hr b m r m2
      simp [e2, row_same_self hro.sok hro.two]
theorem Pok.same {U : List Str} {p : List Blk} (h : Pok U p) : f_l_same p p = some true := same_self h.hi h.row (fun b hb => by have := h.len b hb; omega) h.nways
theorem copy_eq {p : List Blk} (h : p.length ≤ 60) : f_l_copy p = some p := by
  unfold f_l_copy
  rw [chk_t (line_le (by omega))]
  congr 1
  exact List.map_id _
end SF

namespace SF
open PySem L2 SH PV
section
variable {α κ : Type} [DecidableEq κ]
def keys (d : List (κ × α)) : List κ := d.map (·.1)
theorem keys_len (d : List (κ × α)) : (keys d).length = d.length := List.length_map ..
theorem dget_none {d : List (κ × α)} {k : κ} : dget d k = none ↔ k ∉ keys d := by
  induction d with
  | nil => exact ⟨fun _ h => (nomatch h), fun _ => rfl⟩
  | cons p r ih =>
    by_cases h : p.1 = k
    · have e : dget (p :: r) k = some p.2 := by simp [dget, List.find?_cons, h]
      rw [e]
      exact ⟨fun z => (nomatch z), fun z => absurd (show k ∈ keys (p :: r) by rw [← h]; exact List.mem_cons_self) z⟩
    · have e : dget (p :: r) k = dget r k := by simp [dget, List.find?_cons, h]
      rw [e, ih]
      exact ⟨fun z q => (List.mem_cons.mp q).elim (fun q => h q.symm) z, fun z q => z (List.mem_cons_of_mem _ q)⟩
theorem dmem_iff {d : List (κ × α)} {k : κ} : dmem d k = true ↔ k ∈ keys d := by
  unfold dmem
  cases e : dget d k with
  | none => exact ⟨fun z => Bool.noConfusion z, fun z => absurd z (dget_none.mp e)⟩
  | some v => exact ⟨fun _ => by
      apply Classical.byContradiction
      intro z
      rw [dget_none.mpr z] at e
      simp at e, fun _ => rfl⟩
theorem dmem_f {d : List (κ × α)} {k : κ} : dmem d k = false ↔ k ∉ keys d := by
  rw [← dmem_iff]
  cases dmem d k <;> simp
theorem any_key {d : List (κ × α)} {k : κ} : (d.any fun p => decide (p.1 = k)) = true ↔ k ∈ keys d := by
  rw [List.any_eq_true]
  constructor
  · rintro ⟨p, hp, e⟩
    exact List.mem_map.mpr ⟨p, hp, of_decide_eq_true e⟩
  · intro h
    obtain ⟨p, hp, e⟩ := List.mem_map.mp h
    exact ⟨p, hp, decide_eq_true e⟩
theorem keys_put {d : List (κ × α)} {k : κ} {v : α} : keys (dput d k v) = if k ∈ keys d then keys d else keys d ++ [k] := by
  unfold dput
  by_cases h : k ∈ keys d
  · rw [if_pos (any_key.mpr h), if_pos h]
    unfold keys
    rw [List.map_map]
    congr 1
    funext p
    show (if p.1 = k then (p.1, v) else p).1 = p.1
    split <;> rfl
  · rw [if_neg (fun z => h (any_key.mp z)), if_neg h]
    unfold keys
    rw [List.map_append]; rfl
theorem mem_put {d : List (κ × α)} {k y : κ} {v : α} : y ∈ keys (dput d k v) ↔ y = k ∨ y ∈ keys d := by
  rw [keys_put]
  split
  · exact ⟨.inr, fun z => z.elim (fun e => by rw [e]; assumption) id⟩
  · rw [List.mem_append, List.mem_singleton, or_comm]
theorem nodup_put {d : List (κ × α)} {k : κ} {v : α} (h : (keys d).Nodup) : (keys (dput d k v)).Nodup := by
  rw [keys_put]
  split
  · exact h
  · rename_i n
    rw [List.nodup_append]
    refine ⟨h, List.nodup_cons.mpr ⟨(fun z => nomatch z), List.nodup_nil⟩, fun a ha b hb => ?_⟩
    rw [List.mem_singleton] at hb
    rw [hb]
    exact fun e => n (by rw [← e]; exact ha)
theorem keys_del {d : List (κ × α)} {k : κ} : keys (ddel d k) = (keys d).filter fun y => !decide (y = k) := by
  unfold keys ddel
  rw [List.filter_map]
  rfl
theorem mem_del {d : List (κ × α)} {k y : κ} : y ∈ keys (ddel d k) ↔ y ∈ keys d ∧ y ≠ k := by
  rw [keys_del, List.mem_filter]
  simp
theorem nodup_del {d : List (κ × α)} {k : κ} (h : (keys d).Nodup) : (keys (ddel d k)).Nodup := by
  rw [keys_del]
  exact h.filter _
theorem nodup_le [DecidableEq α] : ∀ {l m : List α}, l.Nodup → (∀ x ∈ l, x ∈ m) → l.length ≤ m.length
  | [], _, _, _ => Nat.zero_le _
  | x :: l, m, n, h => by
    have hx := h x List.mem_cons_self
    have := nodup_le (l := l) (m := m.erase x) (List.nodup_cons.mp n).2 fun y hy => (List.mem_erase_of_ne (fun e => (List.nodup_cons.mp n).1 (by rw [← e]; exact hy))).mpr (h y (List.mem_cons_of_mem _ hy))
    rw [List.length_erase_of_mem hx] at this
    have := List.length_pos_of_mem hx
    rw [List.length_cons]
    omega
end
structure SetL (l : List Str) (P : Str → Prop) : Prop where
  nd : l.Nodup
  pw : l.Pairwise fun a b => leS a b = true
  mem : ∀ y, y ∈ l ↔ P y
theorem nodup_perm {α : Type} [DecidableEq α] {l m : List α} (h1 : l.Nodup) (h2 : m.Nodup) (h : ∀ y, y ∈ l ↔ y ∈ m) : l.Perm m := by
  induction l generalizing m with
  | nil =>
    cases m with
    | nil => exact .nil
    | cons x m => exact absurd ((h x).mpr List.mem_cons_self) (fun z => nomatch z)
  | cons x l ih =>
    have hx : x ∈ m := (h x).mp List.mem_cons_self
    refine (List.Perm.cons x (ih (List.nodup_cons.mp h1).2 (h2.erase x) fun y => ?_)).trans (List.perm_cons_erase hx).symm
    constructor
    · intro hy
      have ne : y ≠ x := fun e => (List.nodup_cons.mp h1).1 (by rw [← e]; exact hy)
      exact (List.mem_erase_of_ne ne).mpr ((h y).mp (List.mem_cons_of_mem _ hy))
    · intro hy
      have ne : y ≠ x := fun e => by
        rw [e] at hy
        exact (List.Nodup.not_mem_erase h2) hy
      have := (h y).mpr ((List.mem_erase_of_ne ne).mp hy)
      exact (List.mem_cons.mp this).resolve_left ne
theorem SetL.uniq {l m : List Str} {P : Str → Prop} (a : SetL l P) (b : SetL m P) : l = m :=
  List.Perm.eq_of_pairwise (le := fun a b => leS a b = true) (fun a b _ _ h1 h2 => leS_anti h1 h2) a.pw b.pw (nodup_perm a.nd b.nd fun y => (a.mem y).trans (b.mem y).symm)
theorem SetL.of {l : List Str} (h : l.Nodup) {P : Str → Prop} (m : ∀ y, y ∈ l ↔ P y) : SetL (sortS l) P :=
  ⟨(sortS_perm l).nodup_iff.mpr h, sortS_pw l, fun y => ((sortS_perm l).mem_iff).trans (m y)⟩
theorem SetL.iff {l : List Str} {P Q : Str → Prop} (a : SetL l P) (h : ∀ y, P y ↔ Q y) : SetL l Q := ⟨a.nd, a.pw, fun y => (a.mem y).trans (h y)⟩
def stepP : RowT → (Str → Prop) → Str → Prop
  | .tell x, S, y => y = x ∨ S y
  | .make a _ rs, S, y => (S a ∧ y ∈ rs) ∨ (S y ∧ y ≠ a)
def aheadP : List RowT → (Str → Prop) → Str → Prop
  | [], S => S
  | r :: rs, S => stepP r (aheadP rs S)
theorem stepP_iff {r : RowT} {S T : Str → Prop} (h : ∀ y, S y ↔ T y) (y : Str) : stepP r S y ↔ stepP r T y := by
  cases r with
  | tell x => show y = x ∨ S y ↔ y = x ∨ T y; rw [h]
  | make a g rs => show (S a ∧ y ∈ rs) ∨ (S y ∧ y ≠ a) ↔ (T a ∧ y ∈ rs) ∨ (T y ∧ y ≠ a); rw [h, h]
theorem aheadP_iff {rs : List RowT} {S T : Str → Prop} (h : ∀ y, S y ↔ T y) (y : Str) : aheadP rs S y ↔ aheadP rs T y := by
  induction rs generalizing y with
  | nil => exact h y
  | cons r rs ih => exact stepP_iff ih y
theorem aheadP_app (a b : List RowT) (S : Str → Prop) : aheadP (a ++ b) S = aheadP a (aheadP b S) := by
  induction a with
  | nil => rfl
  | cons r a ih => show stepP r (aheadP (a ++ b) S) = _; rw [ih]; rfl
theorem stepP_in {U : List Str} {r : RowT} {S : Str → Prop} (hr : RowIn U r) (hS : ∀ y, S y → y ∈ U) (y : Str) (h : stepP r S y) : y ∈ U := by
  cases r with
  | tell x =>
    rcases h with rfl | h
    · exact hr
    · exact hS y h
  | make a g rs =>
    rcases h with ⟨_, h⟩ | ⟨h, _⟩
    · exact hr.2 y h
    · exact hS y h
theorem aheadP_in {U : List Str} {rs : List RowT} {S : Str → Prop} (hr : ∀ r ∈ rs, RowIn U r) (hS : ∀ y, S y → y ∈ U) (y : Str) (h : aheadP rs S y) : y ∈ U := by
  induction rs generalizing y with
  | nil => exact hS y h
  | cons r rs ih => exact stepP_in (hr r List.mem_cons_self) (fun z hz => ih (fun q hq => hr q (List.mem_cons_of_mem _ hq)) z hz) y h
structure DIn (U : List Str) (d : List (Str × Bool)) (P : Str → Prop) : Prop where
  nd : (keys d).Nodup
  mem : ∀ y, y ∈ keys d ↔ P y
  sub : ∀ y ∈ keys d, y ∈ U
theorem DIn.len {U : List Str} {d : List (Str × Bool)} {P : Str → Prop} (h : DIn U d P) : d.length ≤ U.length := by
  rw [← keys_len]
  exact nodup_le h.nd h.sub
theorem DIn.put {U : List Str} {d : List (Str × Bool)} {P : Str → Prop} (h : DIn U d P) {x : Str} (hx : x ∈ U) : DIn U (dput d x true) fun y => y = x ∨ P y :=
  ⟨nodup_put h.nd, fun y => by rw [mem_put, h.mem], fun y hy => (mem_put.mp hy).elim (fun e => by rw [e]; exact hx) (h.sub y)⟩
theorem DIn.del {U : List Str} {d : List (Str × Bool)} {P : Str → Prop} (h : DIn U d P) (x : Str) : DIn U (ddel d x) fun y => P y ∧ y ≠ x :=
  ⟨nodup_del h.nd, fun y => by rw [mem_del, h.mem], fun y hy => h.sub y (mem_del.mp hy).1⟩
theorem DIn.iff {U : List Str} {d : List (Str × Bool)} {P Q : Str → Prop} (h : DIn U d P) (q : ∀ y, P y ↔ Q y) : DIn U d Q := ⟨h.nd, fun y => (h.mem y).trans (q y), h.sub⟩
theorem DIn.nil (U : List Str) : DIn U [] fun _ => False := ⟨List.nodup_nil, fun y => ⟨(fun z => nomatch z), False.elim⟩, fun y hy => nomatch hy⟩
theorem DIn.sorted {U : List Str} {d : List (Str × Bool)} {P : Str → Prop} (h : DIn U d P) : SetL (sortS (d.map (·.1))) P := SetL.of h.nd h.mem
theorem DIn.of_false {U : List Str} {d : List (Str × Bool)} {P : Str → Prop} (h : DIn U d P) {x : Str} : dmem d x = false ↔ ¬ P x := by rw [dmem_f, h.mem]
theorem DIn.of_true {U : List Str} {d : List (Str × Bool)} {P : Str → Prop} (h : DIn U d P) {x : Str} : dmem d x = true ↔ P x := by rw [dmem_iff, h.mem]
theorem ok_puts {U : List Str} (hU : U.length ≤ 5000) {f : Str → List (Str × Bool) → Option (List (Str × Bool))} (hf : ∀ x d, f x d = chk (d.length < sizeLine) (letO (dput d x true) fun e => some e)) {rs : List Str} {d : List (Str × Bool)} {P : Str → Prop} (h : DIn U d P) (hr : ∀ x ∈ rs, x ∈ U) :
    Ok (foldO f rs d) fun e => DIn U e fun y => y ∈ rs ∨ P y := by
  refine Ok.fold (fun l s => DIn U s fun y => y ∈ l ∨ P y) (h.iff fun y => ⟨.inr, fun z => z.elim (fun z => nomatch z) id⟩) (fun l1 x l2 s e i => ?_) fun s i => i
  rw [hf]
  refine .chk (line_lt (by have := i.len; omega)) (.let_ fun d2 e2 => ⟨_, rfl, ?_⟩)
  rw [e2]
  refine (i.put (hr x (by rw [e]; exact List.mem_append_right _ List.mem_cons_self))).iff fun y => ?_
  rw [List.mem_append, List.mem_singleton]
  constructor
  · rintro (h | h | h)
    · exact .inl (.inr h)
    · exact .inl (.inl h)
    · exact .inr h
  · rintro ((h | h) | h)
    · exact .inr (.inl h)
    · exact .inl h
    · exact .inr (.inr h)
end SF

namespace SF
open PySem L2 SH PV
def sgL (x : List Nat) (a f c1 c2 : Nat) : List Nat := x.take a ++ c1 :: ((x.drop a).take (f - a) ++ c2 :: x.drop f)
theorem sgL_len {x : List Nat} {a f c1 c2 : Nat} (h : a ≤ f) (h2 : f ≤ x.length) : (sgL x a f c1 c2).length = x.length + 2 := by
  unfold sgL
  simp only [List.length_append, List.length_cons, List.length_take, List.length_drop]
  omega
theorem sgL_a {x : List Nat} {a f c1 c2 : Nat} (h : a ≤ f) (h2 : f ≤ x.length) : (sgL x a f c1 c2)[a]? = some c1 := by
  unfold sgL
  have e : (x.take a).length = a := by rw [List.length_take]; omega
  rw [List.getElem?_append_right (by omega), e, Nat.sub_self]
  rfl
theorem sgL_f {x : List Nat} {a f c1 c2 : Nat} (h : a ≤ f) (h2 : f ≤ x.length) : (sgL x a f c1 c2)[f + 1]? = some c2 := by
  unfold sgL
  have e : (x.take a).length = a := by rw [List.length_take]; omega
  rw [List.getElem?_append_right (by omega), e, show f + 1 - a = (f - a) + 1 by omega, List.getElem?_cons_succ]
  have e2 : ((x.drop a).take (f - a)).length = f - a := by rw [List.length_take, List.length_drop]; omega
  rw [List.getElem?_append_right (by omega), e2, Nat.sub_self]
  rfl
theorem sign_form {sc : List Int} {k : Int} (h0 : 0 ≤ k) (h1 : k < 676) : Ok (f_l_own_sign sc k) fun y => ∃ d, f_l_drawn sc 630 = some d ∧ 0 ≤ d ∧ ∃ x : List Nat, y.cps.toList = sgL x (min (d / 2 % 11).toNat x.length) (min (min (d / 2 % 11).toNat x.length + (d / 22 % 11).toNat) x.length) (97 + (k / 26).toNat) (97 + ((d / 242 + k) % 26).toNat) := by
  unfold f_l_own_sign
  refine .let_ fun some_1 e1 => (ok_drawn' (by decide) (by decide)).bind fun d ed hd => ?_
  have hp := par (x := d) h0
  refine .chk (.inl ⟨by omega, by omega⟩) ((ok_drawn' (by omega) (by omega)).bind fun v2 _ h2 => (ok_rest (by decide) (by decide)).bind fun x _ ⟨hx, hw⟩ => ?_)
  have hl : x.length ≤ sizeLine := line_le (by omega)
  have hb1 := imin_ok (i := d / 2 % 11) (j := x.length) (by omega) (by omega)
  refine .chk hl (.let_ fun a ea => .chk hl (.let_ fun f ef => ?_))
  rw [← ea] at hb1
  have hb2 := imin_ok (i := a + d / 22 % 11) (j := x.length) (by omega) (by omega)
  have haf : a ≤ f := by rw [ef]; split <;> omega
  rw [← ef] at hb2
  have c3 := cut3 hb1.1 haf hb2.2
  have k1 : 0 ≤ k / 26 ∧ k / 26 < 26 := by omega
  have k2 : 0 ≤ (d / 242 + k) % 26 ∧ (d / 242 + k) % 26 < 26 := by omega
  refine .chk hl (.chk (by rw [e1]; exact abc_len) (Ok.bind (P := fun c => c = 97 + (k / 26).toNat) ⟨_, by rw [e1]; exact abc_at k1.1 k1.2, rfl⟩ fun c _ hc => .chk (line_le (by rw [one_len]; omega)) (.chk hl (.chk (line_le (by rw [Str.len_app', one_len]; omega)) (.let_ fun nm en => ?_)))))
  have ln : nm.length = (cutS x none (some a)).length + 1 + (cutS x (some a) (some f)).length := by rw [en, Str.len_app', Str.len_app', one_len]
  refine .chk (by rw [e1]; exact abc_len) (Ok.bind (P := fun c => c = 97 + ((d / 242 + k) % 26).toNat) ⟨_, by rw [e1]; exact abc_at k2.1 k2.2, rfl⟩ fun c' _ hc' => .chk (line_le (by rw [one_len]; omega)) (.chk hl (.chk (line_le (by rw [Str.len_app', one_len]; omega)) ⟨_, rfl, ?_⟩)))
  refine ⟨d, ed, hd.1, x.cps.toList, ?_⟩
  have xl := Str.lenL x
  have ea' : min (d / 2 % 11).toNat x.cps.toList.length = a.toNat := by rw [← xl, ea]; split <;> omega
  rw [ea']
  have ef' : min (a.toNat + (d / 22 % 11).toNat) x.cps.toList.length = f.toNat := by rw [← xl, ef]; split <;> omega
  rw [ef', Str.toL, Str.toL, en, Str.toL, Str.toL, cutS_a hb1.1 hb1.2, cutS_c hb1.1 hb1.2 hb2.1 hb2.2, cutS_b hb2.1 hb2.2, hc, hc']
  show (((x.cps.toList.take a.toNat ++ [97 + (k / 26).toNat]) ++ (x.cps.toList.drop a.toNat).take (f.toNat - a.toNat)) ++ [97 + ((d / 242 + k) % 26).toNat]) ++ x.cps.toList.drop f.toNat = _
  unfold sgL
  simp only [List.append_assoc, List.singleton_append, List.cons_append, List.nil_append]
theorem sign_inj {sc : List Int} {i j : Int} {y : Str} (hi : 0 ≤ i) (hi2 : i < 676) (hj : 0 ≤ j) (hj2 : j < 676) (ei : f_l_own_sign sc i = some y) (ej : f_l_own_sign sc j = some y) : i = j := by
  obtain ⟨d, ed, hd, x, ex⟩ := (sign_form hi hi2).of ei
  obtain ⟨d', ed', _, z, ez⟩ := (sign_form hj hj2).of ej
  rw [ed] at ed'
  cases ed'
  have l1 := congrArg List.length ex
  have l2 := congrArg List.length ez
  rw [sgL_len (by omega) (by omega)] at l1 l2
  have e : x.length = z.length := by omega
  rw [e] at ex
  have a1 := sgL_a (x := x) (a := min (d / 2 % 11).toNat z.length) (f := min (min (d / 2 % 11).toNat z.length + (d / 22 % 11).toNat) z.length) (c1 := 97 + (i / 26).toNat) (c2 := 97 + ((d / 242 + i) % 26).toNat) (by omega) (by omega)
  have a2 := sgL_a (x := z) (a := min (d / 2 % 11).toNat z.length) (f := min (min (d / 2 % 11).toNat z.length + (d / 22 % 11).toNat) z.length) (c1 := 97 + (j / 26).toNat) (c2 := 97 + ((d / 242 + j) % 26).toNat) (by omega) (by omega)
  have f1 := sgL_f (x := x) (a := min (d / 2 % 11).toNat z.length) (f := min (min (d / 2 % 11).toNat z.length + (d / 22 % 11).toNat) z.length) (c1 := 97 + (i / 26).toNat) (c2 := 97 + ((d / 242 + i) % 26).toNat) (by omega) (by omega)
  have f2 := sgL_f (x := z) (a := min (d / 2 % 11).toNat z.length) (f := min (min (d / 2 % 11).toNat z.length + (d / 22 % 11).toNat) z.length) (c1 := 97 + (j / 26).toNat) (c2 := 97 + ((d / 242 + j) % 26).toNat) (by omega) (by omega)
  rw [← ex] at a1 f1
  rw [← ez, a1] at a2
  rw [← ez, f1] at f2
  have q1 := Option.some.inj a2
  have q2 := Option.some.inj f2
  omega
def signsB (b : Blk) : List Str := b.1.filterMap RowT.sign?
def signsP (p : List Blk) : List Str := p.flatMap signsB
theorem signsP_cons (b : Blk) (p : List Blk) : signsP (b :: p) = signsB b ++ signsP p := List.flatMap_cons
theorem signs_row (b : Blk) (r : RowT) (ws : List Int) : signsB (b.1 ++ [r], ws) = signsB b ++ r.sign?.toList := by
  unfold signsB
  rw [List.filterMap_append]
  cases h : r.sign? with
  | none => simp [List.filterMap_cons, h]
  | some y => simp [List.filterMap_cons, h]
theorem signs_set : ∀ {p : List Blk} {n : Nat} {b : Blk} {r : RowT}, p[n]? = some b → (signsP (p.set n (b.1 ++ [r], b.2))).Perm (signsP p ++ r.sign?.toList)
  | [], n, b, r, h => by simp at h
  | c :: p, 0, b, r, h => by
    simp at h
    subst h
    show (signsP ((c.1 ++ [r], c.2) :: p)).Perm _
    rw [signsP_cons, signsP_cons, signs_row, List.append_assoc, List.append_assoc]
    exact List.perm_append_comm.append_left _
  | c :: p, n + 1, b, r, h => by
    have := signs_set (p := p) (n := n) (b := b) (r := r) (by simpa using h)
    show (signsP (c :: p.set n (b.1 ++ [r], b.2))).Perm _
    rw [signsP_cons, signsP_cons, List.append_assoc]
    exact this.append_left _
structure SgN (p : List Blk) : Prop where
  nd : (signsP p).Nodup
  nm : ∀ y ∈ signsP p, Nm 12 y
def SgI (sc : List Int) (n : Nat) (p : List Blk) : Prop := (signsP p).Nodup ∧ ∀ y ∈ signsP p, ∃ j : Int, 0 ≤ j ∧ j < n ∧ f_l_own_sign sc j = some y
theorem SgI.step {sc : List Int} {n : Nat} {p : List Blk} (h : SgI sc n p) (hn : n < 676) {k : Nat} {b : Blk} {r : RowT} {g : Str} (eb : p[k]? = some b) (eg : f_l_own_sign sc n = some g) (hr : ∀ y, r.sign? = some y → y = g) : SgI sc (n + 1) (p.set k (b.1 ++ [r], b.2)) := by
  have pm := signs_set (r := r) eb
  have hm : ∀ y ∈ r.sign?.toList, y = g := fun y hy => by
    rw [Option.mem_toList] at hy
    exact hr y hy
  refine ⟨pm.nodup_iff.mpr ?_, fun y hy => ?_⟩
  · cases hs : r.sign? with
    | none => simpa [hs] using h.1
    | some y =>
      have : y = g := hr y hs
      subst this
      rw [Option.toList_some, List.nodup_append]
      refine ⟨h.1, by simp, fun a ha b hb e => ?_⟩
      rw [List.mem_singleton.mp hb] at e
      subst e
      obtain ⟨j, j0, j1, ej⟩ := h.2 a ha
      have := sign_inj j0 (by omega) (by omega) (by omega) ej eg
      omega
  · rcases List.mem_append.mp (pm.mem_iff.mp hy) with hy | hy
    · obtain ⟨j, j0, j1, ej⟩ := h.2 y hy
      exact ⟨j, j0, by omega, ej⟩
    · exact ⟨n, by omega, by omega, by rw [hm y hy]; exact eg⟩
theorem SgI.done {sc : List Int} {n : Nat} {p : List Blk} (h : SgI sc n p) (hn : n ≤ 676) : SgN p := ⟨h.1, fun y hy => by
  obtain ⟨j, j0, j1, ej⟩ := h.2 y hy
  exact (ok_sign j0 (by omega)).of ej⟩
theorem signs_nil {p : List Blk} (h : ∀ b ∈ p, b.1 = []) : signsP p = [] := by
  induction p with
  | nil => rfl
  | cons b p ih =>
    rw [signsP_cons, ih fun x hx => h x (List.mem_cons_of_mem _ hx)]
    unfold signsB
    rw [h b List.mem_cons_self]
    rfl
theorem ok_programS (sc : List Int) {names : List Str} (hn : Nms names) : Ok (f_l_program_by sc names) fun p => Pok names p ∧ SgN p := by
  unfold f_l_program_by
  refine (ok_drawn' (by decide) (by decide)).bind fun d _ hd => .let_ fun sz esz => .let_ fun mn emn => ?_
  refine Ok.bind (P := fun j : Int × Int => 1 ≤ j.1 ∧ j.1 ≤ 60 ∧ 0 ≤ j.2 ∧ j.2 ≤ 39 * j.1 ∧ j.2 ≤ 234 ∧ (decide (d / 102 % 8 = 2) = true → j.1 ≤ 6)) (.ite (fun hc => ?_) fun _ => ⟨_, rfl, ?_⟩) fun j _ ⟨hj1, hj2, hj3, hj4, hj5, hj6⟩ => ?_
  · have hc := of_decide_eq_true hc
    refine Ok.bind (P := fun v : Int => 0 < v ∧ v ≤ 60) ?_ fun v _ hv => .chk hv.1 (.let_ fun s2 es2 => .let_ fun m2 em2 => ⟨_, rfl, ?_⟩)
    · split
      · exact ⟨12, rfl, by decide⟩
      · exact ⟨60, rfl, by decide⟩
    · have := ltMod (d / 816) hv.1
      exact ⟨by show 1 ≤ s2; omega, by show s2 ≤ 60; omega, by show 0 ≤ m2; omega, by show m2 ≤ 39 * s2; omega, by show m2 ≤ 234; omega, fun z => by have z := of_decide_eq_true z; omega⟩
  · exact ⟨by show 1 ≤ sz; omega, by show sz ≤ 60; omega, by show 0 ≤ mn; omega, by show mn ≤ 39 * sz; omega, by show mn ≤ 234; omega, fun _ => by show sz ≤ 6; omega⟩
  refine Ok.bind (P := fun m : Int => 0 ≤ m ∧ m ≤ 39 * j.1 ∧ m ≤ 234) (.ite (fun hc => ?_) fun _ => ⟨_, rfl, hj3, hj4, hj5⟩) fun m _ ⟨hm1, hm2, hm3⟩ => ?_
  · rw [Bool.and_eq_true] at hc
    have := hj6 hc.2
    exact .let_ fun m3 em3 => ⟨_, rfl, by omega, by omega, by omega⟩
  have hp : 0 < j.1 := by omega
  refine .chk ⟨by omega, by omega⟩ (.chk (line_le (by rw [rangeI_len]; omega)) ?_)
  refine Ok.bind (P := fun p => Pmk names j.1 0 p ∧ SgI sc 0 p) ?_ fun l1 _ hl1 => .chk ⟨by omega, by omega⟩ ?_
  · refine (Ok.mapM (P := fun b : Blk => b.1 = [] ∧ b.2.length ≤ 9 ∧ ∀ w ∈ b.2, 0 ≤ w ∧ w < j.1) fun k hk => ?_).imp fun bs ⟨e1, e2⟩ => ?_
    · have := mem_rangeI.mp hk
      exact (ok_ways (by omega) (by omega) (by omega) (by omega)).bind fun ws _ h => ⟨_, rfl, rfl, h.1, h.2⟩
    · rw [rangeI_len] at e1
      refine ⟨⟨by omega, fun b hb => ?_, fun b hb r hr => ?_, fun b hb => (e2 b hb).2.1, fun b hb => (e2 b hb).2.2, ?_⟩, ?_⟩
      · rw [(e2 b hb).1]; exact Nat.zero_le _
      · rw [(e2 b hb).1] at hr; cases hr
      · have z : ∀ l : List Blk, (∀ b ∈ l, b.1 = []) → (l.map fun b => b.1.length).sum = 0 := by
          intro l
          induction l with
          | nil => intro _; rfl
          | cons b l ih =>
            intro h
            show b.1.length + (l.map fun b => b.1.length).sum = 0
            rw [h b List.mem_cons_self, ih fun x hx => h x (List.mem_cons_of_mem _ hx)]; rfl
        exact z bs fun b hb => (e2 b hb).1
      · have sn := signs_nil fun b hb => (e2 b hb).1
        exact ⟨by rw [sn]; exact List.nodup_nil, fun y hy => by rw [sn] at hy; cases hy⟩
  · refine (Ok.foldR_ (Q := fun p => Pok names p ∧ SgN p) (fun i p => Pmk names j.1 i p ∧ SgI sc i p) hl1 (fun i p hi ⟨hpm, hsg⟩ => ?_) fun p ⟨hpm, hsg⟩ => ?_).bind fun p _ h => ⟨_, rfl, h⟩
    · refine (ok_drawn' (by omega) (by omega)).bind fun d4 _ h4 => .chk hp (.let_ fun at1 eat => (ok_drawn' (by omega) (by omega)).bind fun d5 _ h5 => ?_)
      have hm4 := ltMod (d4 / 1009) hp
      refine Ok.bind (P := fun a => 0 ≤ a ∧ a < j.1) (.ite (fun _ => .chk hp (.let_ fun a2 ea2 => ⟨_, rfl, by rw [ea2]; exact ltMod d hp⟩)) fun _ => ⟨_, rfl, by rw [eat]; exact hm4⟩) fun a _ ha => .chk ⟨by omega, by omega⟩ ?_
      have hz := hpm.sz
      refine (ok_room (size := j.1) hz.symm (by omega) ha.1 ha.2 (by have := hpm.tot; omega)).bind fun a2 _ ⟨h20, h21, b, eb, hb⟩ => (ok_sign (by omega) (by omega)).bind fun g eg hg => ?_
      have ei : ixN p.length a2 = some a2.toNat := by
        unfold ixN
        rw [if_pos h20, if_pos (by omega)]
      rw [ei, Option.bind_some, eb, Option.bind_some]
      refine (ok_row hn.1 hn.2.1).bind fun r _ ⟨hr1, hr2, hr3⟩ => .chk (line_lt (by omega)) (.let_ fun p2 ep2 => ⟨_, rfl, ?_⟩)
      have hbm : b ∈ p := List.mem_of_getElem? eb
      have hr : RowOk names r := ⟨hr1, low_sok_row (fun x hx => (hn.2.2 x hx).2.2) hg.2.2 hr1 hr2, hr3⟩
      subst ep2
      refine ⟨?_, hsg.step (by omega) eb eg hr2⟩
      refine ⟨by rw [List.length_set]; exact hz, fun c hc => ?_, fun c hc r' hr' => ?_, fun c hc => ?_, fun c hc => ?_, ?_⟩
      · rcases mem_set hc with hc | rfl
        · exact hpm.len c hc
        · show (b.1 ++ [r]).length ≤ 40
          rw [List.length_append]; show b.1.length + 1 ≤ 40; omega
      · rcases mem_set hc with hc | rfl
        · exact hpm.row c hc r' hr'
        · rcases List.mem_append.mp hr' with hr' | hr'
          · exact hpm.row b hbm r' hr'
          · rw [List.mem_singleton.mp hr']; exact hr
      · rcases mem_set hc with hc | rfl
        · exact hpm.nways c hc
        · exact hpm.nways b hbm
      · rcases mem_set hc with hc | rfl
        · exact hpm.ways c hc
        · exact hpm.ways b hbm
      · have := sum_set (fun b : Blk => b.1.length) (y := (b.1 ++ [r], b.2)) eb
        have e : (b.1 ++ [r], b.2).1.length = b.1.length + 1 := by rw [List.length_append]; rfl
        have := hpm.tot
        omega
    · have hz := hpm.sz
      refine ⟨?_, hsg.done (by omega)⟩
      refine ⟨by omega, by omega, hpm.len, hpm.row, hpm.nways, fun b hb w hw => ?_, ?_⟩
      · rw [hz]; exact hpm.ways b hb w hw
      · rw [hpm.tot]; omega
end SF

namespace SF
open PySem L2 SH PV TL
def wnum (w : Int) : Str := PySem.Str.ofString (toString w)
def wordsR : RowT → List Str
  | .tell x => [("tell" : Str), x]
  | .make a g rs => a :: ("=" : Str) :: g :: rs
def wordsB (b : Blk) : List (List Str) := [("block" : Str)] :: (b.1.map wordsR ++ [("to" : Str) :: b.2.map wnum])
def wordsP (p : List Blk) : List (List Str) := p.flatMap wordsB
def lineW (ws : List Str) : Str := Txt.join (" " : Str) ws
def lineL (ws : List Str) : List Nat := tl (lineW ws) ++ [10]
def textL (l : List (List Str)) : List Nat := l.flatMap lineL
def textP (p : List Blk) : Str := ⟨(textL (wordsP p)).toArray⟩
def RowN : RowT → Prop
  | .tell x => Nm 12 x
  | .make a g rs => Nm 12 a ∧ Nm 12 g ∧ rs.length ≤ 2 ∧ ∀ x ∈ rs, Nm 12 x
structure Pn (p : List Blk) : Prop where
  lo : 1 ≤ p.length
  hi : p.length ≤ 60
  len : ∀ b ∈ p, b.1.length ≤ 40
  row : ∀ b ∈ p, ∀ r ∈ b.1, RowN r
  nways : ∀ b ∈ p, b.2.length ≤ 9
  ways : ∀ b ∈ p, ∀ w ∈ b.2, 0 ≤ w ∧ w < p.length
  nd : (signsP p).Nodup
theorem Pok.pn {U : List Str} {p : List Blk} (h : Pok U p) (hU : Nms U) (hs : SgN p) : Pn p := ⟨h.lo, h.hi, h.len, fun b hb r hr => by
  have hro := h.row b hb r hr
  cases r with
  | tell x => exact hU.2.2 x hro.names
  | make a g rs =>
    refine ⟨hU.2.2 a hro.names.1, hs.nm g ?_, hro.two rs rfl, fun x hx => hU.2.2 x (hro.names.2 x hx)⟩
    unfold signsP signsB
    exact List.mem_flatMap.mpr ⟨b, hb, List.mem_filterMap.mpr ⟨_, hr, rfl⟩⟩, h.nways, h.ways, hs.nd⟩
structure Wd (x : Str) : Prop where
  lo : 1 ≤ x.length
  hi : x.length ≤ 12
  sg : ∀ c ∈ tl x, 48 ≤ c ∧ c ≤ 122
theorem low_wd {x : Str} (h : Nm 12 x) : Wd x := ⟨h.1, h.2.1, fun c hc => by have := h.2.2 c hc; omega⟩
theorem wd_dec {x : Str} (h : (decide (1 ≤ x.length) && (decide (x.length ≤ 12) && (tl x).all fun c => decide (48 ≤ c ∧ c ≤ 122))) = true) : Wd x := by
  rw [Bool.and_eq_true, Bool.and_eq_true] at h
  exact ⟨of_decide_eq_true h.1, of_decide_eq_true h.2.1, fun c hc => of_decide_eq_true (List.all_eq_true.mp h.2.2 c hc)⟩
theorem wd_tell : Wd ("tell" : Str) := wd_dec (by decide +kernel)
theorem wd_block : Wd ("block" : Str) := wd_dec (by decide +kernel)
theorem wd_to : Wd ("to" : Str) := wd_dec (by decide +kernel)
theorem wd_eq : Wd ("=" : Str) := wd_dec (by decide +kernel)
theorem wnum_nat {w : Int} (h0 : 0 ≤ w) (h1 : w < 60) : ∃ n : Nat, w = n ∧ n < 60 ∧ tl (wnum w) = numL n ∧ (numL n).length ≤ 2 := by
  obtain ⟨n, rfl⟩ : ∃ n : Nat, w = n := ⟨w.toNat, by omega⟩
  exact ⟨n, rfl, by omega, tl_num n, numL_len (by decide) (by show n < 100; omega)⟩
theorem wd_num {w : Int} (h0 : 0 ≤ w) (h1 : w < 60) : Wd (wnum w) := by
  obtain ⟨n, rfl, hn, e, hl⟩ := wnum_nat h0 h1
  refine ⟨?_, ?_, fun c hc => ?_⟩
  · rw [len_tl, e]
    exact List.length_pos_iff.mpr (numL_ne n)
  · rw [len_tl, e]; omega
  · rw [e] at hc
    have := numL_digits n c hc
    omega
structure Ln (ws : List Str) : Prop where
  lo : 1 ≤ ws.length
  hi : ws.length ≤ 10
  wd : ∀ x ∈ ws, Wd x
theorem ln_row {r : RowT} (h : RowN r) : Ln (wordsR r) := by
  cases r with
  | tell x =>
    refine ⟨by show 1 ≤ 2; decide, by show 2 ≤ 10; decide, fun y hy => ?_⟩
    rcases List.mem_cons.mp hy with rfl | hy
    · exact wd_tell
    · rw [List.mem_singleton.mp hy]; exact low_wd h
  | make a g rs =>
    obtain ⟨h1, h2, h3, h4⟩ := h
    refine ⟨by show 1 ≤ rs.length + 3; omega, by show rs.length + 3 ≤ 10; omega, fun y hy => ?_⟩
    rcases List.mem_cons.mp hy with rfl | hy
    · exact low_wd h1
    rcases List.mem_cons.mp hy with rfl | hy
    · exact wd_eq
    rcases List.mem_cons.mp hy with rfl | hy
    · exact low_wd h2
    · exact low_wd (h4 y hy)
theorem ln_block : Ln [("block" : Str)] := ⟨by show 1 ≤ 1; decide, by show 1 ≤ 10; decide, fun y hy => by rw [List.mem_singleton.mp hy]; exact wd_block⟩
theorem ln_to {ws : List Int} (hl : ws.length ≤ 9) (h : ∀ w ∈ ws, 0 ≤ w ∧ w < 60) : Ln (("to" : Str) :: ws.map wnum) := by
  refine ⟨by rw [List.length_cons]; omega, by rw [List.length_cons, List.length_map]; omega, fun y hy => ?_⟩
  rcases List.mem_cons.mp hy with rfl | hy
  · exact wd_to
  · obtain ⟨w, hw, rfl⟩ := List.mem_map.mp hy
    exact wd_num (h w hw).1 (h w hw).2
theorem ln_blk {b : Blk} (h1 : ∀ r ∈ b.1, RowN r) (h2 : b.2.length ≤ 9) (h3 : ∀ w ∈ b.2, 0 ≤ w ∧ w < 60) : ∀ ws ∈ wordsB b, Ln ws := fun ws h => by
  rcases List.mem_cons.mp h with rfl | h
  · exact ln_block
  rcases List.mem_append.mp h with h | h
  · obtain ⟨r, hr, rfl⟩ := List.mem_map.mp h
    exact ln_row (h1 r hr)
  · rw [List.mem_singleton.mp h]; exact ln_to h2 h3
theorem Pn.ways60 {p : List Blk} (h : Pn p) {b : Blk} (hb : b ∈ p) {w : Int} (hw : w ∈ b.2) : 0 ≤ w ∧ w < 60 := by
  have := h.ways b hb w hw
  have := h.hi
  omega
theorem Pn.ln {p : List Blk} (h : Pn p) : ∀ ws ∈ wordsP p, Ln ws := fun ws hw => by
  obtain ⟨b, hb, hw⟩ := List.mem_flatMap.mp hw
  exact ln_blk (h.row b hb) (h.nways b hb) (fun w hw => h.ways60 hb hw) ws hw
theorem wordsB_len (b : Blk) : (wordsB b).length = b.1.length + 2 := by
  unfold wordsB
  rw [List.length_cons, List.length_append, List.length_map]; rfl
theorem wordsP_cons (b : Blk) (p : List Blk) : wordsP (b :: p) = wordsB b ++ wordsP p := List.flatMap_cons
theorem wordsP_app (p q : List Blk) : wordsP (p ++ q) = wordsP p ++ wordsP q := List.flatMap_append
theorem wordsP_len {p : List Blk} (h : ∀ b ∈ p, b.1.length ≤ 40) : (wordsP p).length ≤ 42 * p.length := by
  induction p with
  | nil => exact Nat.le_refl 0
  | cons b p ih =>
    rw [wordsP_cons, List.length_append, List.length_cons, wordsB_len]
    have := ih fun x hx => h x (List.mem_cons_of_mem _ hx)
    have := h b List.mem_cons_self
    omega
theorem sum_len {ws : List Str} (h : ∀ x ∈ ws, Wd x) : (ws.map (·.length)).sum ≤ 12 * ws.length := by
  induction ws with
  | nil => exact Nat.le_refl 0
  | cons x ws ih =>
    rw [List.map_cons, List.sum_cons, List.length_cons]
    have := ih fun y hy => h y (List.mem_cons_of_mem _ hy)
    have := (h x List.mem_cons_self).hi
    omega
theorem sp_len : (" " : Str).length = 1 := by decide +kernel
theorem nl_len : ("\n" : Str).length = 1 := by decide +kernel
theorem sp_tl : tl (" " : Str) = [32] := by decide +kernel
theorem nl_tl : tl ("\n" : Str) = [10] := by decide +kernel
theorem em_tl : tl ("" : Str) = [] := by decide +kernel
theorem lineW_len {ws : List Str} (h : ∀ x ∈ ws, Wd x) : (lineW ws).length ≤ 13 * ws.length := by
  have := StrLaws.join_length_le (" " : Str) ws
  rw [sp_len] at this
  have := sum_len h
  show (Txt.join (" " : Str) ws).length ≤ _
  rw [join_eq]
  omega
theorem Ln.line {ws : List Str} (h : Ln ws) : (lineW ws).length ≤ 130 := by
  have := lineW_len h.wd
  have := h.hi
  omega
theorem Ln.join {ws : List Str} (h : Ln ws) : (ws.map (·.length)).sum + ws.length * (" " : Str).length ≤ 16777216 := by
  have := sum_len h.wd
  have := h.hi
  rw [sp_len]
  omega
theorem Ln.lineL {ws : List Str} (h : Ln ws) : (lineL ws).length ≤ 131 := by
  unfold SF.lineL
  rw [List.length_append, ← len_tl]
  have := h.line
  show _ + 1 ≤ 131
  omega
theorem textL_cons (w : List Str) (l : List (List Str)) : textL (w :: l) = lineL w ++ textL l := List.flatMap_cons
theorem textL_app (l m : List (List Str)) : textL (l ++ m) = textL l ++ textL m := List.flatMap_append
theorem textL_one (w : List Str) : textL [w] = lineL w := by rw [textL_cons]; exact List.append_nil _
theorem textL_len {l : List (List Str)} (h : ∀ w ∈ l, Ln w) : (textL l).length ≤ 131 * l.length := by
  induction l with
  | nil => exact Nat.le_refl 0
  | cons w l ih =>
    rw [textL_cons, List.length_append, List.length_cons]
    have := ih fun y hy => h y (List.mem_cons_of_mem _ hy)
    have := (h w List.mem_cons_self).lineL
    omega
theorem big_le {n : Nat} (h : n ≤ 1000000) : n ≤ sizeLine := Nat.le_trans h (by decide)
theorem big_lt {n : Nat} (h : n ≤ 1000000) : n < sizeLine := Nat.lt_of_le_of_lt h (by decide)
theorem Pn.text {p : List Blk} (h : Pn p) : (textL (wordsP p)).length ≤ 330120 := by
  have := textL_len h.ln
  have := wordsP_len h.len
  have := h.hi
  omega
theorem joinL_cons (S p : List Nat) : ∀ q : List (List Nat), joinL S (p :: q) = p ++ q.flatMap fun x => S ++ x
  | [] => (List.append_nil p).symm
  | x :: q => by
    show p ++ (S ++ joinL S (x :: q)) = _
    rw [joinL_cons S x q, List.flatMap_cons, List.append_assoc]
theorem joinL_nil : ∀ q : List (List Nat), joinL [] q = q.flatten
  | [] => rfl
  | [x] => by show x = _; simp
  | x :: y :: q => by
    show x ++ ([] ++ joinL [] (y :: q)) = _
    rw [joinL_nil (y :: q)]; simp
theorem line_tl (w : Str) (ws : List Str) : tl (lineW (w :: ws)) = tl w ++ ws.flatMap fun x => 32 :: tl x := by
  show tl (Txt.join (" " : Str) (w :: ws)) = _
  rw [join_eq, tl_join, sp_tl, List.map_cons, joinL_cons, List.flatMap_map]
  rfl
theorem cat_tl (l : List Str) : tl (Txt.join ("" : Str) l) = l.flatMap tl := by
  rw [join_eq, tl_join, em_tl, joinL_nil, List.flatMap_def]
theorem is_tell_ok (r : RowT) : f_is_tell r = some r.isT := by unfold f_is_tell; rw [kind_t]
theorem row_line_ok {r : RowT} (h : RowN r) : f_row_line r = some (lineW (wordsR r)) := by
  have hl := (ln_row h).join
  unfold f_row_line
  rw [is_tell_ok, Option.bind_some]
  cases r with
  | tell x =>
    rw [if_pos (show (RowT.tell x).isT = true from rfl), chk_t (show (RowT.tell x).isT = true from rfl)]
    exact chk_t hl _
  | make a g rs =>
    rw [if_neg (show ¬ (RowT.make a g rs).isT = true from Bool.false_ne_true)]
    show chk (rs.length + 3 ≤ sizeLine) _ = _
    rw [chk_t (line_le (by have := h.2.2.1; omega))]
    exact chk_t hl _
theorem log2_60 {w : Int} (h0 : 0 ≤ w) (h1 : w < 60) : w.natAbs.log2 < 1920 := by
  have : w.natAbs.log2 ≤ w.natAbs := Nat.log2_le_self _
  omega
theorem shown_ok {p : List Blk} (hp : Pn p) : f_shown p = some (textP p) := by
  have hhi := hp.hi
  have : Ok (f_shown p) fun s => s = textP p := by
    unfold f_shown
    refine .let_ fun l0 e0 => Ok.bind (P := fun s => s = (wordsP p).map lineW) ?_ fun s _ es => ?_
    · subst e0
      refine Ok.fold (fun l s => s = (wordsP l).map lineW) rfl (fun l1 b l2 s e i => ?_) fun s h => h
      have hb : b ∈ p := by rw [e]; exact List.mem_append_right _ List.mem_cons_self
      have h1 : ∀ c ∈ l1, c.1.length ≤ 40 := fun c hc => hp.len c (by rw [e]; exact List.mem_append_left _ hc)
      have hl1 : l1.length ≤ 60 := by
        have := congrArg List.length e
        rw [List.length_append, List.length_cons] at this
        omega
      have hw := wordsP_len h1
      have hbl := hp.len b hb
      have sl : s.length ≤ 2520 := by rw [i, List.length_map]; omega
      refine .chk (line_lt (by omega)) (.let_ fun s2 e2 => .chk (line_le (by omega)) ?_)
      have m1 : mapO (fun row_1 => (f_row_line row_1).bind fun v_1 => some v_1) b.1 = some (b.1.map fun r => lineW (wordsR r)) := mapO_of fun r hr => by rw [row_line_ok (hp.row b hb r hr)]; rfl
      rw [m1, Option.bind_some]
      have s2l : s2.length = s.length + 1 := by rw [e2, List.length_append]; rfl
      refine .chk (line_le (by rw [List.length_map]; omega)) (.let_ fun s3 e3 => .chk (line_le (by have := hp.nways b hb; omega)) ?_)
      have m2 : mapO (fun way_1 : Int => chk (way_1.natAbs.log2 < 1920) <| some (PySem.Str.ofString (toString way_1))) b.2 = some (b.2.map wnum) := mapO_of fun w hw => by
        have := hp.ways60 hb hw
        exact chk_t (log2_60 this.1 this.2) _
      rw [m2, Option.bind_some]
      have s3l : s3.length = s2.length + b.1.length := by rw [e3, List.length_append, List.length_map]
      have nw := hp.nways b hb
      have lt := ln_to nw fun w hw => hp.ways60 hb hw
      refine .chk (line_le (by rw [List.length_map]; show 1 + _ ≤ 10000; omega)) (.chk lt.join (.chk (line_lt (by omega)) (.let_ fun s4 e4 => ⟨_, rfl, ?_⟩)))
      rw [e4, e3, e2, i, wordsP_app, List.map_append]
      show (((List.map lineW (wordsP l1) ++ [("block" : Str)]) ++ _) ++ _) = _
      rw [List.append_assoc, List.append_assoc]
      congr 1
      show _ = List.map lineW (wordsB b ++ [])
      rw [List.append_nil]
      unfold wordsB
      rw [List.map_cons, List.map_append, List.map_map]
      rfl
    · have wl := wordsP_len hp.len
      have sl : s.length ≤ 2520 := by rw [es, List.length_map]; omega
      refine .chk (line_le (by omega)) ?_
      have m3 : mapO (fun line_1 : Str => chk (line_1.length + ("\n" : Str).length ≤ sizeLine) <| some (line_1 ++ ("\n" : Str))) s = some (s.map fun x => x ++ ("\n" : Str)) := mapO_of fun x hx => by
        rw [es] at hx
        obtain ⟨ws, hws, rfl⟩ := List.mem_map.mp hx
        have := (hp.ln ws hws).line
        exact chk_t (line_le (show (lineW ws).length + ("\n" : Str).length ≤ 10000 by rw [nl_len]; omega)) _
      rw [m3, Option.bind_some]
      have eq : (s.map fun x => x ++ ("\n" : Str)).flatMap tl = textL (wordsP p) := by
        rw [es, List.map_map, List.flatMap_map]
        unfold textL
        congr 1
        funext ws
        show tl (lineW ws ++ ("\n" : Str)) = lineL ws
        rw [tl_append, nl_tl]
        try rfl
      have tot : ((s.map fun x => x ++ ("\n" : Str)).map (·.length)).sum = ((s.map fun x => x ++ ("\n" : Str)).flatMap tl).length := by
        rw [List.length_flatMap]
        congr 1
      have := hp.text
      refine .chk ?_ ⟨_, rfl, ?_⟩
      · have em : ("" : Str).length = 0 := by decide +kernel
        rw [tot, eq, em]; omega
      · refine ext_tl ?_
        rw [cat_tl, eq]
        rfl
  obtain ⟨v, e, rfl⟩ := this
  exact e
theorem foldO_unit {α : Type} {f : α → Unit → Option Unit} : ∀ {l : List α}, (∀ x ∈ l, f x () = some ()) → foldO f l () = some ()
  | [], _ => rfl
  | a :: l, h => by
    show (f a ()).bind _ = _
    rw [h a List.mem_cons_self]
    exact foldO_unit fun x hx => h x (List.mem_cons_of_mem _ hx)
theorem blk_tl : tl ("block\n" : Str) = lineL [("block" : Str)] := by
  unfold lineL
  rw [line_tl]
  decide +kernel
theorem tell_tl : tl ("tell " : Str) = tl ("tell" : Str) ++ [32] := by decide +kernel
theorem eq_tl : tl (" = " : Str) = 32 :: (tl ("=" : Str) ++ [32]) := by decide +kernel
theorem spw_len {α : Type} {f : α → List Nat} {l : List α} (h : ∀ x ∈ l, (f x).length ≤ 12) : (l.flatMap fun x => 32 :: f x).length ≤ 13 * l.length := by
  induction l with
  | nil => exact Nat.le_refl 0
  | cons x l ih =>
    rw [List.flatMap_cons, List.length_append, List.length_cons, List.length_cons]
    have := ih fun y hy => h y (List.mem_cons_of_mem _ hy)
    have := h x List.mem_cons_self
    omega
theorem text_by_ok {p : List Blk} (hp : Pn p) : f_l_text_by p = some (textP p) := by
  have hhi := hp.hi
  have : Ok (f_l_text_by p) fun s => s = textP p := by
    unfold f_l_text_by
    refine .let_ fun t0 e0 => Ok.bind (P := fun s => tl s = textL (wordsP p)) ?_ fun s _ es => ⟨_, rfl, ext_tl es⟩
    refine Ok.fold (fun l s => tl s = textL (wordsP l)) (by rw [e0]; exact em_tl) (fun l1 b l2 s e i => ?_) fun s h => h
    have hb : b ∈ p := by rw [e]; exact List.mem_append_right _ List.mem_cons_self
    have hb1 : ∀ c ∈ l1, c ∈ p := fun c hc => by rw [e]; exact List.mem_append_left _ hc
    have hl1 : l1.length ≤ 60 := by
      have := congrArg List.length e
      rw [List.length_append, List.length_cons] at this
      omega
    have hw := wordsP_len fun c hc => hp.len c (hb1 c hc)
    have ht := textL_len (l := wordsP l1) fun w hw => by
      obtain ⟨c, hc, hw⟩ := List.mem_flatMap.mp hw
      exact hp.ln w (List.mem_flatMap.mpr ⟨c, hb1 c hc, hw⟩)
    have sl : s.length ≤ 330120 := by rw [len_tl, i]; omega
    have bl : ("block\n" : Str).length = 6 := by decide +kernel
    refine .chk (big_le (by omega)) (.let_ fun t2 e2 => ?_)
    have t2l : t2.length ≤ 330126 := by rw [e2, Str.len_app', bl]; omega
    have t2t : tl t2 = textL (wordsP l1) ++ lineL [("block" : Str)] := by rw [e2, tl_append, i, blk_tl]
    have hbl := hp.len b hb
    refine Ok.bind (P := fun t => tl t = tl t2 ++ textL (b.1.map wordsR)) ?_ fun t3 _ et3 => ?_
    · refine Ok.fold (fun rl t => tl t = tl t2 ++ textL (rl.map wordsR)) (by show tl t2 = tl t2 ++ []; rw [List.append_nil]) (fun r1 r r2 t er it => ?_) fun t h => h
      have hr : RowN r := hp.row b hb r (by rw [er]; exact List.mem_append_right _ List.mem_cons_self)
      have hr1 : r1.length ≤ 40 := by
        have := congrArg List.length er
        rw [List.length_append, List.length_cons] at this
        omega
      have ht1 := textL_len (l := r1.map wordsR) fun w hw => by
        obtain ⟨q, hq, rfl⟩ := List.mem_map.mp hw
        exact ln_row (hp.row b hb q (by rw [er]; exact List.mem_append_left _ hq))
      rw [List.length_map] at ht1
      have tll : t.length ≤ 335366 := by rw [len_tl, it, List.length_append, ← len_tl]; omega
      rw [kind_t]
      have goal_of : ∀ u : Str, tl u = tl t ++ lineL (wordsR r) → tl u = tl t2 ++ textL ((r1 ++ [r]).map wordsR) := fun u hu => by
        rw [hu, it, List.map_append, textL_app, List.map_singleton, textL_one, List.append_assoc]
      cases r with
      | tell x =>
        have hx : x.length ≤ 12 := hr.2.1
        rw [if_pos (show (RowT.tell x).isT = true from rfl)]
        have tl5 : ("tell " : Str).length = 5 := by decide +kernel
        refine .chk (big_le (by omega)) (.chk (big_le ?_) (.chk (big_le ?_) (.let_ fun t3 e3 => ⟨_, rfl, goal_of _ ?_⟩)))
        · rw [Str.len_app']; show _ + x.length ≤ _; omega
        · rw [Str.len_app', Str.len_app', nl_len]; show _ + x.length + 1 ≤ _; omega
        · rw [e3, tl_append, tl_append, tl_append, tell_tl, nl_tl]
          unfold lineL
          show _ = tl t ++ (tl (lineW [("tell" : Str), x]) ++ [10])
          rw [line_tl]
          show tl t ++ (tl ("tell" : Str) ++ [32]) ++ tl x ++ [10] = tl t ++ (tl ("tell" : Str) ++ ((32 :: tl x) ++ []) ++ [10])
          simp only [List.append_assoc, List.append_nil, List.singleton_append, List.cons_append, List.nil_append]
      | make a g rs =>
        obtain ⟨ha, hg, hrs, hx⟩ := hr
        have ha2 := ha.2.1
        have hg2 := hg.2.1
        rw [if_neg (show ¬ (RowT.make a g rs).isT = true from Bool.false_ne_true)]
        have tl3 : (" = " : Str).length = 3 := by decide +kernel
        show Ok (chk (t.length + a.length ≤ sizeLine) <| chk ((t ++ a).length + (" = " : Str).length ≤ sizeLine) <| chk (((t ++ a) ++ (" = " : Str)).length + g.length ≤ sizeLine) <| _) _
        refine .chk (big_le (by omega)) (.chk (big_le ?_) (.chk (big_le ?_) (.let_ fun t4 e4 => ?_)))
        · rw [Str.len_app']; omega
        · rw [Str.len_app', Str.len_app']; omega
        · have e4 : t4 = ((t ++ a) ++ (" = " : Str)) ++ g := e4
          have t4l : t4.length ≤ 335393 := by rw [e4, Str.len_app', Str.len_app', Str.len_app']; omega
          show Ok ((foldO _ rs t4).bind _) _
          refine Ok.bind (P := fun u => tl u = tl t4 ++ rs.flatMap fun x => 32 :: tl x) ?_ fun u _ eu => ?_
          · refine Ok.fold (fun xl u => tl u = tl t4 ++ xl.flatMap fun x => 32 :: tl x) (by show tl t4 = tl t4 ++ []; rw [List.append_nil]) (fun x1 x x2 u ex iu => ?_) fun u h => h
            have hxm : x ∈ rs := by rw [ex]; exact List.mem_append_right _ List.mem_cons_self
            have hx12 := (hx x hxm).2.1
            have x1l : x1.length ≤ 2 := by
              have := congrArg List.length ex
              rw [List.length_append, List.length_cons] at this
              omega
            have := spw_len (f := tl) (l := x1) fun y hy => by rw [← len_tl]; exact (hx y (by rw [ex]; exact List.mem_append_left _ hy)).2.1
            have ul : u.length ≤ 335419 := by rw [len_tl, iu, List.length_append, ← len_tl]; omega
            refine .chk (big_le (by rw [sp_len]; omega)) (.chk (big_le (by rw [Str.len_app', sp_len]; omega)) (.let_ fun u2 eu2 => ⟨_, rfl, ?_⟩))
            rw [eu2]
            show tl ((u ++ (" " : Str)) ++ x) = tl t4 ++ List.flatMap (fun x => 32 :: tl x) (x1 ++ [x])
            rw [tl_append, tl_append, iu, sp_tl, List.flatMap_append, List.flatMap_cons]
            show tl t4 ++ (x1.flatMap fun x => 32 :: tl x) ++ [32] ++ tl x = tl t4 ++ ((x1.flatMap fun x => 32 :: tl x) ++ ((32 :: tl x) ++ []))
            simp only [List.append_assoc, List.append_nil, List.singleton_append, List.cons_append, List.nil_append]
          · have := spw_len (f := tl) (l := rs) fun y hy => by rw [← len_tl]; exact (hx y hy).2.1
            have ul : u.length ≤ 335419 := by rw [len_tl, eu, List.length_append, ← len_tl]; omega
            refine .chk (big_le (by rw [nl_len]; omega)) (.let_ fun t6 e6 => ⟨_, rfl, goal_of _ ?_⟩)
            rw [e6, tl_append, eu, e4, tl_append, tl_append, tl_append, eq_tl, nl_tl]
            unfold lineL
            show _ = tl t ++ (tl (lineW (a :: ("=" : Str) :: g :: rs)) ++ [10])
            rw [line_tl, List.flatMap_cons, List.flatMap_cons]
            simp only [List.append_assoc, List.append_nil, List.singleton_append, List.cons_append, List.nil_append]
    · have ht3 := textL_len (l := b.1.map wordsR) fun w hw => by
        obtain ⟨q, hq, rfl⟩ := List.mem_map.mp hw
        exact ln_row (hp.row b hb q hq)
      rw [List.length_map] at ht3
      have t3l : t3.length ≤ 335366 := by rw [len_tl, et3, List.length_append, ← len_tl]; omega
      have to2 : ("to" : Str).length = 2 := by decide +kernel
      refine .chk (big_le (by omega)) (.let_ fun t7 e7 => ?_)
      have t7l : t7.length ≤ 335368 := by rw [e7, Str.len_app']; omega
      refine Ok.bind (P := fun u => tl u = tl t7 ++ b.2.flatMap fun x => 32 :: tl (wnum x)) ?_ fun u _ eu => ?_
      · refine Ok.fold (fun xl u => tl u = tl t7 ++ xl.flatMap fun x => 32 :: tl (wnum x)) (by show tl t7 = tl t7 ++ []; rw [List.append_nil]) (fun x1 x x2 u ex iu => ?_) fun u h => h
        have hxm : x ∈ b.2 := by rw [ex]; exact List.mem_append_right _ List.mem_cons_self
        have h60 := hp.ways60 hb hxm
        have hx12 := (wd_num h60.1 h60.2).hi
        have x1l : x1.length ≤ 9 := by
          have := congrArg List.length ex
          rw [List.length_append, List.length_cons] at this
          have := hp.nways b hb
          omega
        have := spw_len (f := fun x => tl (wnum x)) (l := x1) fun y hy => by
          have h60 := hp.ways60 hb (show y ∈ b.2 by rw [ex]; exact List.mem_append_left _ hy)
          rw [← len_tl]
          exact (wd_num h60.1 h60.2).hi
        have ul : u.length ≤ 335485 := by rw [len_tl, iu, List.length_append, ← len_tl]; omega
        refine .chk (big_le (by rw [sp_len]; omega)) (.chk (log2_60 h60.1 h60.2) (.chk (big_le (by rw [Str.len_app', sp_len]; show _ + (wnum x).length ≤ _; omega)) (.let_ fun u2 eu2 => ⟨_, rfl, ?_⟩)))
        rw [eu2]
        show tl ((u ++ (" " : Str)) ++ wnum x) = tl t7 ++ List.flatMap (fun x => 32 :: tl (wnum x)) (x1 ++ [x])
        rw [tl_append, tl_append, iu, sp_tl, List.flatMap_append, List.flatMap_cons]
        show tl t7 ++ (x1.flatMap fun x => 32 :: tl (wnum x)) ++ [32] ++ tl (wnum x) = tl t7 ++ ((x1.flatMap fun x => 32 :: tl (wnum x)) ++ ((32 :: tl (wnum x)) ++ []))
        simp only [List.append_assoc, List.append_nil, List.singleton_append, List.cons_append, List.nil_append]
      · have hnw := hp.nways b hb
        have := spw_len (f := fun x => tl (wnum x)) (l := b.2) fun y hy => by
          have h60 := hp.ways60 hb hy
          rw [← len_tl]
          exact (wd_num h60.1 h60.2).hi
        have ul : u.length ≤ 335485 := by rw [len_tl, eu, List.length_append, ← len_tl]; omega
        refine .chk (big_le (by rw [nl_len]; omega)) (.let_ fun t9 e9 => ⟨_, rfl, ?_⟩)
        rw [e9]
        show tl (u ++ ("\n" : Str)) = textL (wordsP (l1 ++ [b]))
        rw [tl_append, eu, e7, tl_append, et3, t2t, nl_tl, wordsP_app, textL_app]
        show _ = textL (wordsP l1) ++ textL (wordsB b ++ [])
        rw [List.append_nil]
        unfold wordsB
        rw [textL_cons, textL_app, textL_one]
        unfold lineL
        rw [line_tl ("to" : Str), List.flatMap_map]
        simp only [List.append_assoc, List.append_nil, List.singleton_append, List.cons_append, List.nil_append]
  obtain ⟨v, e, rfl⟩ := this
  exact e
theorem line_sg {ws : List Str} (h : ∀ x ∈ ws, Wd x) : ∀ c ∈ tl (lineW ws), c = 32 ∨ (48 ≤ c ∧ c ≤ 122) := by
  cases ws with
  | nil =>
    intro c hc
    have : tl (lineW []) = [] := rfl
    rw [this] at hc; cases hc
  | cons w ws =>
    intro c hc
    rw [line_tl] at hc
    rcases List.mem_append.mp hc with hc | hc
    · exact .inr ((h w List.mem_cons_self).sg c hc)
    · obtain ⟨x, hx, hc⟩ := List.mem_flatMap.mp hc
      rcases List.mem_cons.mp hc with rfl | hc
      · exact .inl rfl
      · exact .inr ((h x (List.mem_cons_of_mem _ hx)).sg c hc)
theorem ends_eq (f : List Str → List Nat) : ∀ l : List (List Str), (l.map f ++ [[]]).flatMap (fun x => [10] ++ x) = 10 :: l.flatMap fun w => f w ++ [10]
  | [] => rfl
  | w :: l => by
    show ([10] ++ f w) ++ ((l.map f ++ [[]]).flatMap fun x => [10] ++ x) = 10 :: ((f w ++ [10]) ++ l.flatMap fun w => f w ++ [10])
    rw [ends_eq f l]
    simp
theorem ends_join (f : List Str → List Nat) (l : List (List Str)) : joinL [10] (l.map f ++ [[]]) = l.flatMap fun w => f w ++ [10] := by
  cases l with
  | nil => rfl
  | cons w l =>
    show joinL [10] (f w :: (l.map f ++ [[]])) = _
    rw [joinL_cons, ends_eq, List.flatMap_cons]
    simp
theorem text_split {p : List Blk} (hp : Pn p) : Txt.split (textP p) ("\n" : Str) = (wordsP p).map lineW ++ [("" : Str)] := by
  have e : textP p = Txt.join ("\n" : Str) ((wordsP p).map lineW ++ [("" : Str)]) := by
    refine ext_tl ?_
    rw [join_eq, tl_join, nl_tl, List.map_append, List.map_map]
    show textL (wordsP p) = joinL [10] (List.map (tl ∘ lineW) (wordsP p) ++ [tl ("" : Str)])
    rw [em_tl]
    exact (ends_join (fun w => tl (lineW w)) (wordsP p)).symm
  rw [e]
  refine TL.split_join nl_tl (by decide +kernel) (by simp) fun q hq => ?_
  rcases List.mem_append.mp hq with hq | hq
  · obtain ⟨ws, hws, rfl⟩ := List.mem_map.mp hq
    intro hc
    have := line_sg (hp.ln ws hws).wd 10 hc
    omega
  · rw [List.mem_singleton.mp hq, em_tl]
    exact fun h => nomatch h
theorem line_split {ws : List Str} (h : Ln ws) : Txt.split (lineW ws) (" " : Str) = ws := by
  refine TL.split_join sp_tl (by decide +kernel) (fun e => by have := h.lo; rw [e] at this; exact absurd this (by decide)) fun q hq hc => ?_
  have := (h.wd q hq).sg 32 hc
  omega
theorem Wd.sok {x : Str} (h : Wd x) : PyData.strOk x = true := by
  unfold PyData.strOk
  rw [Array.all_eq_true]
  intro i hi
  have := h.sg x.cps[i] (by show _ ∈ x.cps.toList; rw [← Array.getElem_toList]; exact List.getElem_mem _)
  simp
  omega
theorem worded_ok {p : List Blk} (hp : Pn p) : f_worded (textP p) = some (wordsP p) := by
  have hhi := hp.hi
  have wl := wordsP_len hp.len
  have tx : (textP p).length ≤ 330120 := by rw [len_tl]; exact hp.text
  have : Ok (f_worded (textP p)) fun s => s = wordsP p := by
    unfold f_worded
    refine .chk (big_le (by omega)) (.let_ fun l1 e1 => ?_)
    rw [text_split hp] at e1
    have el : l1[l1.length - 1]? = some ("" : Str) := by
      rw [e1, List.length_append]
      show ((wordsP p).map lineW ++ [("" : Str)])[((wordsP p).map lineW).length + 1 - 1]? = _
      rw [Nat.add_sub_cancel, List.getElem?_concat_length]
    rw [el, Option.bind_some]
    refine .let_ fun l2 e2 => .chk (big_le (by rw [show ("" : Str).length = 0 from by decide +kernel]; omega)) ?_
    rw [e1, List.dropLast_concat] at e2
    subst e2
    refine .ite (fun z => ?_) fun _ => ?_
    · rw [show decide (("" : Str).length = 0) = true from by decide +kernel] at z; cases z
    refine .chk (line_le (by rw [List.length_map]; omega)) ?_
    have m : mapO (fun line_1 : Str => chk (line_1.length + 2 ≤ sizeLine) <| some (Txt.split line_1 (" " : Str))) ((wordsP p).map lineW) = some (wordsP p) := by
      rw [show mapO (fun line_1 : Str => chk (line_1.length + 2 ≤ sizeLine) <| some (Txt.split line_1 (" " : Str))) ((wordsP p).map lineW) = some (((wordsP p).map lineW).map fun x => Txt.split x (" " : Str)) from mapO_of fun x hx => by
        obtain ⟨ws, hws, rfl⟩ := List.mem_map.mp hx
        have := (hp.ln ws hws).line
        exact chk_t (line_le (show (lineW ws).length + 2 ≤ 10000 by omega)) _]
      rw [List.map_map]
      congr 1
      refine (List.map_congr_left fun ws hws => ?_).trans (List.map_id _)
      exact line_split (hp.ln ws hws)
    rw [m, Option.bind_some, foldO_unit fun ws hws => ?_]
    · exact ⟨_, rfl, rfl⟩
    · have hl := hp.ln ws hws
      rw [chk_t ⟨by decide +kernel, List.all_eq_true.mpr fun x hx => (hl.wd x hx).sok⟩]
      have : memB ("" : Str) ws = false := by
        unfold memB
        refine decide_eq_false fun h => ?_
        have := (hl.wd _ h).lo
        rw [show ("" : Str).length = 0 from by decide +kernel] at this
        exact absurd this (by decide)
      rw [this]
      rfl
  obtain ⟨v, e, rfl⟩ := this
  exact e
theorem is_row_ok {r : RowT} (h : RowN r) : f_is_row (wordsR r) = some true := by
  unfold f_is_row
  cases r with
  | tell x =>
    show (if decide ((2 : Int) < ((2 : Nat) : Int)) = true then _ else (andO (decide (((2 : Nat) : Int) = 2)) (some (decide (("tell" : Str) = "tell")))).bind fun b_1 => some b_1) = some true
    rw [if_neg (by decide)]
    decide +kernel
  | make a g rs =>
    have hl : (2 : Int) < ((a :: ("=" : Str) :: g :: rs).length : Int) := by simp only [List.length_cons]; omega
    show (if decide ((2 : Int) < ((a :: ("=" : Str) :: g :: rs).length : Int)) = true then _ else _) = _
    rw [if_pos (decide_eq_true hl)]
    show (atI (a :: ("=" : Str) :: g :: rs) 1).bind _ = _
    have : atI (a :: ("=" : Str) :: g :: rs) 1 = some ("=" : Str) := by
      unfold atI ixN
      rw [if_pos (by decide), if_pos (by simp only [List.length_cons]; omega)]
      rfl
    rw [this, Option.bind_some, decide_eq_true rfl]
theorem row_of_ok (r : RowT) : f_row_of (wordsR r) = some r := by
  unfold f_row_of
  cases r with
  | tell x => rfl
  | make a g rs =>
    have hl : ¬ ((a :: ("=" : Str) :: g :: rs).length : Int) = 2 := by simp only [List.length_cons]; omega
    show (if decide (((a :: ("=" : Str) :: g :: rs).length : Int) = 2) = true then _ else (atI (a :: ("=" : Str) :: g :: rs) 0).bind fun v_2 => (atI (a :: ("=" : Str) :: g :: rs) 2).bind fun v_3 => some (RowT.make v_2 v_3 (cutL (a :: ("=" : Str) :: g :: rs) (some 3) none))) = _
    rw [decide_eq_false hl, if_neg Bool.false_ne_true]
    have a0 : atI (a :: ("=" : Str) :: g :: rs) 0 = some a := by
      unfold atI ixN
      rw [if_pos (by decide), if_pos (by simp only [List.length_cons]; omega)]
      rfl
    have a2 : atI (a :: ("=" : Str) :: g :: rs) 2 = some g := by
      unfold atI ixN
      rw [if_pos (by decide), if_pos (by simp only [List.length_cons]; omega)]
      rfl
    rw [a0, a2, Option.bind_some, Option.bind_some]
    congr 2
    unfold cutL
    rw [show HT.sIx (a :: ("=" : Str) :: g :: rs).length 0 (some (3 : Int)) = 3 from by
      rw [show (3 : Int) = ((3 : Nat) : Int) from rfl, HT.sIx_nat]
      simp only [List.length_cons]
      omega, HT.sIx_none, List.take_of_length_le (by rw [List.length_drop]; exact Nat.le_refl _)]
    rfl
theorem fig_L : tl ("0123456789" : Str) = [48, 49, 50, 51, 52, 53, 54, 55, 56, 57] := by decide +kernel
theorem fig_mem {c : Nat} (h : 48 ≤ c ∧ c ≤ 57) : c ∈ tl ("0123456789" : Str) := by
  rw [fig_L]
  have : ∀ n : Nat, n < 58 → 48 ≤ n → n ∈ [48, 49, 50, 51, 52, 53, 54, 55, 56, 57] := by decide
  exact this c (by omega) h.1
theorem way_of_ok {w : Int} (h0 : 0 ≤ w) (h1 : w < 60) : f_way_of (wnum w) = some w := by
  obtain ⟨n, rfl, hn, e, hl⟩ := wnum_nat h0 h1
  have hlen : (wnum (n : Int)).length ≤ 2 := by rw [len_tl, e]; exact hl
  have hway : f_is_way (wnum (n : Int)) = some true := by
    unfold f_is_way
    rw [chk_t (line_le (by omega)), chk_t (line_le (by omega)), chk_t (line_le (by omega))]
    rw [show decide ((2 : Int) < ((wnum (n : Int)).length : Int)) = false from decide_eq_false (by omega)]
    have hand : (andO (decide ((1 : Int) < ((wnum (n : Int)).length : Int))) ((atI (wnum (n : Int)).cps.toList (0 : Int)).bind fun c_1 => some (decide ((⟨#[c_1]⟩ : Str) = ("0" : Str))))) = some false := by
      by_cases h10 : n < 10
      · have : (wnum (n : Int)).length = 1 := by rw [len_tl, e, numL_lt h10]; rfl
        rw [this]
        rfl
      · have e2 : (wnum (n : Int)).cps.toList = [48 + n / 10, 48 + n % 10] := by
          show tl (wnum (n : Int)) = _
          rw [e, numL_step (by omega), numL_lt (by omega)]
          rfl
        rw [e2, show decide ((1 : Int) < ((wnum (n : Int)).length : Int)) = true from decide_eq_true (by rw [len_tl, show tl (wnum (n : Int)) = [48 + n / 10, 48 + n % 10] from e2]; show (1 : Int) < ((2 : Nat) : Int); decide)]
        show some (decide ((⟨#[48 + n / 10]⟩ : Str) = ("0" : Str))) = some false
        congr 1
        refine decide_eq_false fun h => ?_
        have := congrArg tl h
        rw [show tl ("0" : Str) = [48] from by decide +kernel] at this
        have : 48 + n / 10 = 48 := (List.cons.inj this).1
        omega
    rw [hand]
    show (if false = true then some false else some ((wnum (n : Int)).cps.toList.all fun n => decide (n ∈ ("0123456789" : Str).cps.toList))) = _
    rw [if_neg Bool.false_ne_true, List.all_eq_true.mpr fun c hc => ?_]
    refine decide_eq_true (fig_mem ?_)
    have hc : c ∈ tl (wnum (n : Int)) := hc
    rw [e] at hc
    exact numL_digits n c hc
  unfold f_way_of
  rw [hway, Option.bind_some]
  show (if (!true) = true then _ else chk ((wnum (n : Int)).length ≤ 640) ((intText? (wnum (n : Int))).bind fun v_2 => some v_2)) = _
  rw [if_neg (by decide), chk_t (by omega), show intText? (wnum (n : Int)) = some (n : Int) from int_num (by omega)]
  rfl
theorem abc_mem {c : Nat} (h : 97 ≤ c ∧ c ≤ 122) : c ∈ ("abcdefghijklmnopqrstuvwxyz" : Str).cps.toList := by
  rw [show ("abcdefghijklmnopqrstuvwxyz" : Str).cps.toList = _ from abc_L]
  have : ∀ n : Nat, n < 123 → 97 ≤ n → n ∈ [97, 98, 99, 100, 101, 102, 103, 104, 105, 106, 107, 108, 109, 110, 111, 112, 113, 114, 115, 116, 117, 118, 119, 120, 121, 122] := by decide
  exact this c (by omega) h.1
theorem is_name_ok {x : Str} (h : Nm 12 x) : f_is_name x = some true := by
  obtain ⟨h1, h2, h3⟩ := h
  unfold f_is_name
  rw [if_neg (by decide), chk_t (line_le (by omega)), decide_eq_true (show (1 : Int) ≤ (x.length : Int) by omega), decide_eq_true (show (x.length : Int) ≤ 12 by omega), if_neg (by decide)]
  rw [List.all_eq_true.mpr fun c hc => decide_eq_true (abc_mem (h3 c hc))]
def namesR : RowT → List Str
  | .tell x => [x]
  | .make a g rs => a :: g :: rs
theorem names_in_ok {r : RowT} (h : RowN r) : f_names_in r = some (namesR r) := by
  unfold f_names_in
  rw [is_tell_ok, Option.bind_some]
  cases r with
  | tell x => rfl
  | make a g rs =>
    rw [if_neg (show ¬ (RowT.make a g rs).isT = true from Bool.false_ne_true)]
    show chk (rs.length + 2 ≤ sizeLine) _ = _
    rw [chk_t (line_le (by have := h.2.2.1; omega))]
    rfl
theorem names_nm {r : RowT} (h : RowN r) : ∀ x ∈ namesR r, Nm 12 x := fun x hx => by
  cases r with
  | tell y => rw [List.mem_singleton.mp hx]; exact h
  | make a g rs =>
    rcases List.mem_cons.mp hx with rfl | hx
    · exact h.1
    rcases List.mem_cons.mp hx with rfl | hx
    · exact h.2.1
    · exact h.2.2.2 x hx
theorem keys_new {d : List (Str × Bool)} {k : Str} {v : Bool} (h : k ∉ keys d) : keys (dput d k v) = keys d ++ [k] := by
  unfold dput
  rw [if_neg (fun z => h (any_key.mp z))]
  unfold keys
  rw [List.map_append]
  rfl
theorem check_row_ok {r : RowT} {d : List (Str × Bool)} (h : RowN r) (hl : d.length < sizeLine) (hn : ∀ y, r.sign? = some y → y ∉ keys d) : Ok (f_check_row r d) fun d' => keys d' = keys d ++ r.sign?.toList := by
  unfold f_check_row
  rw [names_in_ok h, Option.bind_some, foldO_unit fun x hx => by rw [is_name_ok (names_nm h x hx)]; rfl, Option.bind_some, is_tell_ok, Option.bind_some]
  cases r with
  | tell x =>
    rw [if_pos (show (RowT.tell x).isT = true from rfl)]
    exact ⟨d, rfl, (List.append_nil _).symm⟩
  | make a g rs =>
    rw [if_neg (show ¬ (RowT.make a g rs).isT = true from Bool.false_ne_true)]
    show Ok (if decide ((2 : Int) < (rs.length : Int)) = true then none else if dmem d g = true then none else chk (d.length < sizeLine) (letO (dput d g true) fun s => some s)) _
    rw [decide_eq_false (show ¬ (2 : Int) < (rs.length : Int) by have := h.2.2.1; omega), if_neg Bool.false_ne_true, dmem_f.mpr (hn g rfl), if_neg Bool.false_ne_true]
    exact .chk hl (.let_ fun s es => ⟨_, rfl, by rw [es]; show keys (dput d g true) = _; rw [keys_new (hn g rfl)]; rfl⟩)
theorem signsP_len {p : List Blk} (h : ∀ b ∈ p, b.1.length ≤ 40) : (signsP p).length ≤ 40 * p.length := by
  induction p with
  | nil => exact Nat.le_refl 0
  | cons b p ih =>
    rw [signsP_cons, List.length_append, List.length_cons]
    have := ih fun x hx => h x (List.mem_cons_of_mem _ hx)
    have := h b List.mem_cons_self
    have : (signsB b).length ≤ b.1.length := List.length_filterMap_le _ _
    omega
theorem signsP_app (p q : List Blk) : signsP (p ++ q) = signsP p ++ signsP q := List.flatMap_append
theorem checked_ok {p : List Blk} (hp : Pn p) : f_checked p = some p := by
  have hhi := hp.hi
  have hlo := hp.lo
  have : Ok (f_checked p) fun s => s = p := by
    unfold f_checked
    have hne : p.isEmpty = false := by
      cases p with
      | nil => simp at hlo
      | cons b p => rfl
    rw [hne]
    refine .ite (fun z => by cases z) fun _ => .ite (fun z => ?_) fun _ => .let_ fun d0 e0 => Ok.bind (P := fun _ => True) ?_ fun s _ _ => .chk (line_le (by omega)) ⟨_, rfl, ?_⟩
    · have := of_decide_eq_true z; omega
    · refine Ok.fold (fun l d => keys d = signsP l) (by rw [e0]; rfl) (fun l1 b l2 d e i => ?_) fun _ _ => trivial
      have hb : b ∈ p := by rw [e]; exact List.mem_append_right _ List.mem_cons_self
      have hbl := hp.len b hb
      have hnw := hp.nways b hb
      have l1l := signsP_len (p := l1) fun c hc => hp.len c (by rw [e]; exact List.mem_append_left _ hc)
      have hl1 : l1.length ≤ 60 := by
        have := congrArg List.length e
        rw [List.length_append, List.length_cons] at this
        omega
      have cs : f_check_sizes b.1 b.2 = some () := by
        unfold f_check_sizes
        rw [if_neg (fun z => by have := of_decide_eq_true z; omega), if_neg (fun z => by have := of_decide_eq_true z; omega)]
      rw [cs, Option.bind_some]
      refine Ok.bind (P := fun d' => keys d' = signsP l1 ++ signsB b) ?_ fun d' _ ed' => ?_
      · refine Ok.fold (fun rl d' => keys d' = signsP l1 ++ rl.filterMap RowT.sign?) (by show keys d = signsP l1 ++ []; rw [List.append_nil]; exact i) (fun r1 r r2 d' er ir => ?_) fun d' h => h
        have hr : RowN r := hp.row b hb r (by rw [er]; exact List.mem_append_right _ List.mem_cons_self)
        have hr1 : r1.length ≤ 40 := by
          have := congrArg List.length er
          rw [List.length_append, List.length_cons] at this
          omega
        have fl : (r1.filterMap RowT.sign?).length ≤ r1.length := List.length_filterMap_le _ _
        have dl : d'.length ≤ 2440 := by rw [← keys_len, ir, List.length_append]; omega
        have step : ∀ y, r.sign? = some y → y ∉ keys d' := fun y hy hm => by
          have nd := hp.nd
          rw [e, signsP_app, signsP_cons] at nd
          have sb : signsB b = r1.filterMap RowT.sign? ++ (y :: r2.filterMap RowT.sign?) := by
            unfold signsB
            rw [er, List.filterMap_append, List.filterMap_cons, hy]
          rw [sb] at nd
          rw [ir] at hm
          rw [List.append_assoc, ← List.append_assoc, List.cons_append] at nd
          have := (List.nodup_append.mp nd).2.2 y hm y List.mem_cons_self
          exact this rfl
        refine (check_row_ok hr (line_lt (by omega)) step).bind fun d2 _ h2 => ⟨_, rfl, ?_⟩
        show keys d2 = signsP l1 ++ List.filterMap RowT.sign? (r1 ++ [r])
        rw [h2, ir, List.filterMap_append, List.append_assoc]
        congr 2
      · have cw : f_check_ways b.2 (p.length : Int) = some () := by
          unfold f_check_ways
          rw [foldO_unit fun w hw => ?_]
          · rfl
          · have := hp.ways b hb w hw
            rw [decide_eq_true this.1, decide_eq_true this.2]
            rfl
        rw [cw, Option.bind_some]
        refine ⟨_, rfl, ?_⟩
        show keys d' = signsP (l1 ++ [b])
        rw [ed', signsP_app, signsP_cons]
        show _ = signsP l1 ++ (signsB b ++ [])
        rw [List.append_nil]
    · exact List.map_id _
  obtain ⟨v, e, rfl⟩ := this
  exact e
theorem to_row {ws : List Int} (h : ∀ w ∈ ws, 0 ≤ w ∧ w < 60) : f_is_row (("to" : Str) :: ws.map wnum) = some false := by
  unfold f_is_row
  match ws, h with
  | [], _ =>
    show (if decide ((2 : Int) < ((1 : Nat) : Int)) = true then _ else (andO (decide (((1 : Nat) : Int) = 2)) _).bind fun b_1 => some b_1) = some false
    rw [if_neg (by decide), decide_eq_false (by decide)]
    rfl
  | [w], _ =>
    show (if decide ((2 : Int) < ((2 : Nat) : Int)) = true then _ else (andO (decide (((2 : Nat) : Int) = 2)) (some (decide (("to" : Str) = "tell")))).bind fun b_1 => some b_1) = some false
    rw [if_neg (by decide)]
    decide +kernel
  | w :: u :: ws, h =>
    have hl : (2 : Int) < ((("to" : Str) :: (w :: u :: ws).map wnum).length : Int) := by simp only [List.length_cons, List.map_cons]; omega
    rw [if_pos (decide_eq_true hl)]
    have : atI (("to" : Str) :: (w :: u :: ws).map wnum) 1 = some (wnum w) := by
      unfold atI ixN
      rw [if_pos (by decide), if_pos (by omega)]
      rfl
    rw [this, Option.bind_some, decide_eq_false fun h2 => ?_]
    obtain ⟨n, rfl, hn, e, hl⟩ := wnum_nat (h w List.mem_cons_self).1 (h w List.mem_cons_self).2
    rw [h2] at e
    have : (61 : Nat) ∈ numL n := by
      rw [← e, show tl ("=" : Str) = [61] from by decide +kernel]
      exact List.mem_cons_self
    have := numL_digits n 61 this
    omega
theorem cut_tail {α : Type} (x : α) (l : List α) : cutL (x :: l) (some (1 : Int)) none = l := by
  unfold cutL
  rw [show HT.sIx (x :: l).length 0 (some (1 : Int)) = 1 from by
    rw [show (1 : Int) = ((1 : Nat) : Int) from rfl, HT.sIx_nat]
    simp only [List.length_cons]
    omega, HT.sIx_none, List.take_of_length_le (by rw [List.length_drop]; exact Nat.le_refl _)]
  rfl
theorem sok_words {ws : List Str} (h : Ln ws) : sok ws = true := List.all_eq_true.mpr fun x hx => (h.wd x hx).sok
theorem read_ok {p : List Blk} (hp : Pn p) : f_read (textP p) = some p := by
  have hhi := hp.hi
  have : Ok (f_read (textP p)) fun s => s = p := by
    unfold f_read
    refine .let_ fun b0 eb0 => .let_ fun r0 er0 => ?_
    subst eb0 er0
    rw [worded_ok hp, Option.bind_some]
    refine Ok.bind (P := fun s => s = (p, [], false)) ?_ fun s _ es => ?_
    · have go : ∀ {f : List Str → List Blk × List RowT × Bool → Option (List Blk × List RowT × Bool)}
          (hb : ∀ bs, bs.length ≤ 60 → f [("block" : Str)] (bs, [], false) = some (bs, [], true))
          (hr : ∀ bs acc r, acc.length ≤ 40 → RowN r → f (wordsR r) (bs, acc, true) = some (bs, acc ++ [r], true))
          (ht : ∀ bs acc (ws : List Int), bs.length ≤ 60 → ws.length ≤ 9 → (∀ w ∈ ws, 0 ≤ w ∧ w < 60) → f (("to" : Str) :: ws.map wnum) (bs, acc, true) = some (bs ++ [(acc, ws)], [], false))
          (l2 l1 : List Blk), p = l1 ++ l2 → foldO f (wordsP l2) (l1, [], false) = some (p, [], false) := by
        intro f hb hr ht l2
        induction l2 with
        | nil =>
          intro l1 e
          rw [e, List.append_nil]
          rfl
        | cons b l2 ih =>
          intro l1 e
          have hbm : b ∈ p := by rw [e]; exact List.mem_append_right _ List.mem_cons_self
          have hl1 : l1.length ≤ 60 := by
            have := congrArg List.length e
            rw [List.length_append, List.length_cons] at this
            omega
          have rows : ∀ (rl : List RowT) (acc : List RowT), (∀ r ∈ rl, RowN r) → acc.length + rl.length ≤ 40 → foldO f (rl.map wordsR) (l1, acc, true) = some (l1, acc ++ rl, true) := by
            intro rl
            induction rl with
            | nil => intro acc _ _; rw [List.append_nil]; rfl
            | cons r rl ih2 =>
              intro acc hrn hlen
              rw [List.length_cons] at hlen
              show (f (wordsR r) (l1, acc, true)).bind _ = _
              rw [hr l1 acc r (by omega) (hrn r List.mem_cons_self), Option.bind_some]
              rw [ih2 (acc ++ [r]) (fun q hq => hrn q (List.mem_cons_of_mem _ hq)) (by rw [List.length_append]; show acc.length + 1 + _ ≤ _; omega), List.append_assoc]
              rfl
          rw [wordsP_cons]
          unfold wordsB
          rw [List.cons_append, foldO_cons, hb l1 hl1, Option.bind_some, List.append_assoc, foldO_app, rows b.1 [] (hp.row b hbm) (by have := hp.len b hbm; simp only [List.length_nil]; omega), Option.bind_some]
          show foldO f ((("to" : Str) :: b.2.map wnum) :: wordsP l2) (l1, b.1, true) = _
          rw [foldO_cons, ht l1 b.1 b.2 hl1 (hp.nways b hbm) (fun w hw => hp.ways60 hbm hw), Option.bind_some]
          exact ih (l1 ++ [(b.1, b.2)]) (by rw [e, List.append_assoc]; rfl)
      refine ⟨_, go (fun bs hbs => ?_) (fun bs acc r hacc hr => ?_) (fun bs acc ws hbs hws hw => ?_) p [] rfl, rfl⟩
      · show (if (!false) = true then _ else _) = _
        rw [if_pos (by decide), chk_t ⟨sok_words ln_block, sok_words ln_block⟩, if_neg (by rw [decide_eq_true rfl]; decide)]
        rfl
      · show (if (!true) = true then _ else _) = _
        rw [if_neg (by decide), is_row_ok hr, Option.bind_some, if_pos rfl, row_of_ok, Option.bind_some]
        show chk (acc.length < sizeLine) _ = _
        rw [chk_t (line_lt (by omega))]
        rfl
      · show (if (!true) = true then _ else _) = _
        have a0 : atI (("to" : Str) :: ws.map wnum) 0 = some ("to" : Str) := by
          unfold atI ixN
          rw [if_pos (by decide), if_pos (by simp only [List.length_cons]; omega)]
          rfl
        have m : mapO (fun word_1 => (f_way_of word_1).bind fun v_5 => some v_5) (ws.map wnum) = some ws := by
          rw [show mapO (fun word_1 => (f_way_of word_1).bind fun v_5 => some v_5) (ws.map wnum) = _ from mapO_of (g := fun x => (f_way_of x).getD 0) fun x hx => by
            obtain ⟨w, hw', rfl⟩ := List.mem_map.mp hx
            rw [way_of_ok (hw w hw').1 (hw w hw').2]; rfl, List.map_map]
          congr 1
          refine (List.map_congr_left fun w hw' => ?_).trans (List.map_id _)
          show (f_way_of (wnum w)).getD 0 = id w
          rw [way_of_ok (hw w hw').1 (hw w hw').2]; rfl
        rw [if_neg (by decide), to_row hw, Option.bind_some, if_neg Bool.false_ne_true, a0, Option.bind_some, if_pos (decide_eq_true rfl)]
        show chk (bs.length < sizeLine) _ = _
        rw [chk_t (line_lt (by omega)), cut_tail, chk_t (line_le (by rw [List.length_map]; omega)), m]
        rfl
    · subst es
      show Ok (if false = true then _ else (f_checked p).bind fun v_6 => some v_6) _
      rw [if_neg Bool.false_ne_true, checked_ok hp]
      exact ⟨_, rfl, rfl⟩
  obtain ⟨v, e, rfl⟩ := this
  exact e
end SF

namespace SF
open PySem L2 SH PV TL
theorem nm_dec {x : Str} (h : (decide (1 ≤ x.length) && (decide (x.length ≤ 12) && (tl x).all fun c => decide (97 ≤ c ∧ c ≤ 122))) = true) : Nm 12 x := by
  rw [Bool.and_eq_true, Bool.and_eq_true] at h
  exact ⟨of_decide_eq_true h.1, of_decide_eq_true h.2.1, fun c hc => of_decide_eq_true (List.all_eq_true.mp h.2.2 c hc)⟩
theorem law_k10 (sc : List Int) : f_law_k10 sc = some true := by
  have : Ok (f_law_k10 sc) fun b => b = true := by
    unfold f_law_k10
    refine (ok_names sc).bind fun U0 _ hU0 => (ok_drawn' (by decide) (by decide)).bind fun d _ _ => ?_
    refine Ok.bind (P := Nms) (.ite (fun _ => ?_) fun _ => ⟨_, rfl, hU0⟩) fun U _ hU => (ok_programS sc hU).bind fun p _ ⟨hp, hs⟩ => Ok.bind (P := fun c => c = p) ⟨_, copy_eq hp.hi, rfl⟩ fun c _ ec => ?_
    · have hc : (cutL U0 none (some (2 : Int))).length ≤ 2 := by
        unfold cutL
        rw [HT.sIx_none, List.length_take, show (2 : Int) = ((2 : Nat) : Int) from rfl, HT.sIx_nat]
        omega
      refine .chk (line_le (by show 3 + _ ≤ 10000; omega)) (.let_ fun n en => ⟨_, rfl, ?_⟩)
      have ln : n.length = 3 + (cutL U0 none (some (2 : Int))).length := by rw [en, List.length_append]; rfl
      refine ⟨by omega, by omega, fun x hx => ?_⟩
      rw [en] at hx
      rcases List.mem_append.mp hx with hx | hx
      · rcases List.mem_cons.mp hx with rfl | hx
        · exact nm_dec (by decide +kernel)
        rcases List.mem_cons.mp hx with rfl | hx
        · exact nm_dec (by decide +kernel)
        · rw [List.mem_singleton.mp hx]; exact nm_dec (by decide +kernel)
      · exact hU0.2.2 x (List.mem_of_mem_drop (List.mem_of_mem_take hx))
    · subst ec
      have pn := hp.pn hU hs
      have e1 := text_by_ok pn
      have e2 := shown_ok pn
      have e3 := read_ok pn
      refine Ok.bind (P := fun v => v = textP c) ⟨_, e1, rfl⟩ fun v5 _ ev5 => Ok.bind (P := fun v => v = textP c) ⟨_, e2, rfl⟩ fun v6 _ ev6 => ?_
      subst ev5 ev6
      refine Ok.bind (P := fun b => b = false) (.orO (fun z => by cases z) fun _ => Ok.bind (P := fun b => b = false) (.orO (fun z => ?_) fun _ => ?_) fun b _ eb => ⟨_, rfl, eb⟩) fun b _ eb => ?_
      · rw [decide_eq_true rfl] at z; cases z
      · rw [hp.same]
        exact ⟨_, rfl, rfl⟩
      · subst eb
        refine .ite (fun z => by cases z) fun _ => ?_
        rw [e3, Option.bind_some, hp.same]
        exact ⟨_, rfl, rfl⟩
  obtain ⟨b, e, rfl⟩ := this
  exact e
end SF

namespace SF
open PySem PySem.Spec PyProof.Rows L2 PV SH
section
variable {P : Program} {w : World} {K : PySem.W.Frag} {mg : Str → Option Value} {base : Heap}
def R_is_name (ds : List D) (r : Rs) : Prop := ∃ (thing : Str) (v : Bool), ds = [D.str thing] ∧ f_is_name thing = some v ∧ r = .sh (D.bl v)
theorem ok_is_name (T : Txt K mg) (TB_is_name : GxR.TabB base mg (He.cT K ("is_name", none)).1 (He.cT K ("is_name", none)).2) (TB_is_way : GxR.TabB base mg (He.cT K ("is_way", none)).1 (He.cT K ("is_way", none)).2) : FnOk P w K mg base CX0 1 (He.fAd K ("is_name", none)) T.fd_is_name ["thing"] (spR K R_is_name) := by
  refine ok_fnC (p := ("is_name", none)) T.F_is_name sc_is_name (fun ds r hR => ?_) (fun A outer s H ds r E W hr hR => ?_)
  · obtain ⟨thing, v, rfl, _⟩ := hR; rfl
  obtain ⟨thing, v, rfl, h, rfl⟩ := hR
  unfold f_is_name at h
  refine SXs.as (ρ' := [.sh (D.str thing)]) rfl ?_
  refine' sxs_cons (sx_if (tx_not (tx_val (ex_cv (ex_isF (r := .sh (D.str thing)) kit_S (by rfl) T.g_isinstance (by rfl) T.g_str (by decide +kernel) (ex_var (pv 0) rfl) rfl) (by rfl)))) (fun hc1 => ?_) (fun hc1 => ?_))
  ·
    replace h := ite_t hc1 h
    refine' sxs_cons (sx_ret ex_bl ?_)
    exact congrArg (fun z => Rs.sh (D.bl z)) (Option.some.inj h)
  ·
    replace h := ite_f hc1 h
    refine sxs_nil ?_
    obtain ⟨e1, h⟩ := chk_e h
    refine' sxs_cons (sx_if (tx_not (tx_chain op_le op_le o2_le (fun _ => o2_le) ex_int (ex_callB call_len_str (on_lenS e1) (by rfl) T.g_len PySem.boot_len (ax_cons (ex_var (pv 0) rfl) ax_nil)) (fun _ => (ex_cv (r' := .sh (D.int (12 : Int))) (ex_c (pe_glob rfl T.c_LONGEST_NAME T.r_LONGEST_NAME) T.d_LONGEST_NAME) rfl)))) (fun hc10 => ?_) (fun hc10 => ?_))
    ·
      replace h := ite_t hc10 h
      refine' sxs_cons (sx_ret ex_bl ?_)
      exact congrArg (fun z => Rs.sh (D.bl z)) (Option.some.inj h)
    ·
      replace h := ite_f hc10 h
      refine sxs_nil ?_
      obtain ⟨tk_LETTERS, etk_LETTERS⟩ := T.r_LETTERS
      have cG_LETTERS := T.c_LETTERS
      rw [etk_LETTERS] at cG_LETTERS
      refine' sxs_cons (sx_ret (ex_allG ("is_name", none) (by decide) T.n_is_name (by show nmG _ _ = ((("is_name" : Str) ++ ".<locals>.") ++ "<genexpr>"); decide +kernel) hr (by rfl) T.g_all TB_is_name rfl (genS_of rfl rfl (by decide +kernel) rfl rfl) (elG_in rfl rfl rfl cG_LETTERS) (fun _ => rfl) (ex_var (pv 0) rfl)) ?_)
      exact congrArg (fun z => Rs.sh (D.bl z)) (Option.some.inj h)
def R_is_tell (ds : List D) (r : Rs) : Prop := ∃ (row : RowT) (v : Bool), ds = [rowD row] ∧ f_is_tell row = some v ∧ r = .sh (D.bl v)
theorem ok_is_tell (T : Txt K mg) (TB_is_name : GxR.TabB base mg (He.cT K ("is_name", none)).1 (He.cT K ("is_name", none)).2) (TB_is_way : GxR.TabB base mg (He.cT K ("is_way", none)).1 (He.cT K ("is_way", none)).2) : FnOk P w K mg base CX0 1 (He.fAd K ("is_tell", none)) T.fd_is_tell ["row"] (spR K R_is_tell) := by
  refine ok_fn T.F_is_tell sc_is_tell (fun ds r hR => ?_) (fun cdv A outer s H ds r E W hr hR => ?_)
  · obtain ⟨row, v, rfl, _⟩ := hR; rfl
  obtain ⟨row, v, rfl, h, rfl⟩ := hR
  unfold f_is_tell at h
  refine SXs.as (ρ' := [.sh (rowD row)]) rfl ?_
  refine' sxs_cons (sx_ret (ex_eqS (ex_ix ix_tup (o2_ixT (row_at0 _)) (ex_var (pv 0) rfl) ex_int) ex_str) ?_)
  exact congrArg (fun z => Rs.sh (D.bl z)) (Option.some.inj h)
def R_check_sizes (ds : List D) (r : Rs) : Prop := ∃ (rows : (List RowT)) (ways : (List Int)) (v : Unit), ds = [(eL rowD) rows, (eL D.int) ways] ∧ f_check_sizes rows ways = some v ∧ r = .sh (eU v)
theorem ok_check_sizes (T : Txt K mg) (TB_is_name : GxR.TabB base mg (He.cT K ("is_name", none)).1 (He.cT K ("is_name", none)).2) (TB_is_way : GxR.TabB base mg (He.cT K ("is_way", none)).1 (He.cT K ("is_way", none)).2) : FnOk P w K mg base CX0 1 (He.fAd K ("check_sizes", none)) T.fd_check_sizes ["rows", "ways"] (spR K R_check_sizes) := by
  refine ok_fn T.F_check_sizes sc_check_sizes (fun ds r hR => ?_) (fun cdv A outer s H ds r E W hr hR => ?_)
  · obtain ⟨rows, ways, v, rfl, _⟩ := hR; rfl
  obtain ⟨rows, ways, v, rfl, h, rfl⟩ := hR
  unfold f_check_sizes at h
  refine SXs.as (ρ' := [.sh ((eL rowD) rows), .sh ((eL D.int) ways)]) rfl ?_
  refine' sxs_cons (sx_if (tx_gt (ex_callB call_len_seq (on_lenE (em := rowD) rfl) (by rfl) T.g_len PySem.boot_len (ax_cons (ex_var (pv 0) rfl) ax_nil)) (ex_cv (r' := .sh (D.int (40 : Int))) (ex_c (pe_glob rfl T.c_MOST_ROWS T.r_MOST_ROWS) T.d_MOST_ROWS) rfl)) (fun hc1 => ?_) (fun hc1 => ?_))
  ·
    replace h := ite_t hc1 h
    cases h
  ·
    replace h := ite_f hc1 h
    refine sxs_nil ?_
    refine' sxs_cons (sx_if (tx_gt (ex_callB call_len_seq (on_lenE (em := D.int) rfl) (by rfl) T.g_len PySem.boot_len (ax_cons (ex_var (pv 1) rfl) ax_nil)) (ex_cv (r' := .sh (D.int (9 : Int))) (ex_c (pe_glob rfl T.c_MOST_WAYS T.r_MOST_WAYS) T.d_MOST_WAYS) rfl)) (fun hc8 => ?_) (fun hc8 => ?_))
    ·
      replace h := ite_t hc8 h
      cases h
    ·
      replace h := ite_f hc8 h
      refine sxs_nil ?_
      refine sxs_nil ?_
      rfl
def R_check_ways (ds : List D) (r : Rs) : Prop := ∃ (ways : (List Int)) (many : Int) (v : Unit), ds = [(eL D.int) ways, D.int many] ∧ f_check_ways ways many = some v ∧ r = .sh (eU v)
theorem ok_check_ways (T : Txt K mg) (TB_is_name : GxR.TabB base mg (He.cT K ("is_name", none)).1 (He.cT K ("is_name", none)).2) (TB_is_way : GxR.TabB base mg (He.cT K ("is_way", none)).1 (He.cT K ("is_way", none)).2) : FnOk P w K mg base CX0 1 (He.fAd K ("check_ways", none)) T.fd_check_ways ["ways", "many"] (spR K R_check_ways) := by
  refine ok_fn T.F_check_ways sc_check_ways (fun ds r hR => ?_) (fun cdv A outer s H ds r E W hr hR => ?_)
  · obtain ⟨ways, many, v, rfl, _⟩ := hR; rfl
  obtain ⟨ways, many, v, rfl, h, rfl⟩ := hR
  unfold f_check_ways at h
  refine SXs.as (ρ' := [.sh ((eL D.int) ways), .sh (D.int many), .no]) rfl ?_
  obtain ⟨r_1, e1, h⟩ := bO h
  refine' sxs_cons (sx_foldO (s0 := ()) (emb := D.int) (fun (s_1 : Unit) => [.sh ((eL D.int) ways), .sh (D.int many), .no]) PassesOwn.never ((it_list (ex_var (pv 0) rfl)).it rfl) (pg_name (i := 2) sc_check_ways.nd rfl (by first | exact .inl rfl | exact .inr (.inl rfl) | exact .inr rfl)) (.eq (.eq (.eq .nil))) e1 (fun way_1 s_1 s' _ h => ⟨_, gv_name, ?_⟩) (fun ρ1 l1 => SXs.weak l1 ?_))
  ·
    refine SXs.as (ρ' := [.sh ((eL D.int) ways), .sh (D.int many), .sh (D.int way_1)]) rfl ?_
    refine' sxs_cons (sx_if (tx_w (wx_or (tx_not (tx_val (ex_cv (ex_isF (r := .sh (D.int way_1)) kit_I (by rfl) T.g_isinstance (by rfl) T.g_int (by decide +kernel) (ex_var (pv 2) rfl) rfl) (by rfl)))) (fun _ => (wx_or1 (tx_not (tx_chain op_le op_lt o2_le (fun _ => o2_lt) ex_int (ex_var (pv 2) rfl) (fun _ => (ex_var (pv 1) rfl)))))))) (fun hc5 => ?_) (fun hc5 => ?_))
    ·
      replace h := ite_t hc5 h
      cases h
    ·
      replace h := ite_f hc5 h
      refine sxs_nil ?_
      refine sxs_nil ?_
      obtain rfl := Option.some.inj h
      exact (.eq (.eq (.no .nil)))
  refine sxs_nil ?_
  rfl
def R_names_in (ds : List D) (r : Rs) : Prop := ∃ (row : RowT) (v : (List Str)), ds = [rowD row] ∧ f_names_in row = some v ∧ r = .nw ((eL D.str) v)
theorem ok_names_in (T : Txt K mg) (TB_is_name : GxR.TabB base mg (He.cT K ("is_name", none)).1 (He.cT K ("is_name", none)).2) (TB_is_way : GxR.TabB base mg (He.cT K ("is_way", none)).1 (He.cT K ("is_way", none)).2) : FnOk P w K mg base CX0 2 (He.fAd K ("names_in", none)) T.fd_names_in ["row"] (spR K R_names_in) := by
  refine ok_fn T.F_names_in sc_names_in (fun ds r hR => ?_) (fun cdv A outer s H ds r E W hr hR => ?_)
  · obtain ⟨row, v, rfl, _⟩ := hR; rfl
  obtain ⟨row, v, rfl, h, rfl⟩ := hR
  unfold f_names_in at h
  refine SXs.as (ρ' := [.sh (rowD row)]) rfl ?_
  obtain ⟨v_1, e1, h⟩ := bO h
  refine' sxs_cons (sx_if (tx_val (ex_cv (r' := .sh (D.bl v_1)) (ex_call1 (ok_is_tell T TB_is_name TB_is_way) (hr.mono (by decide)) (by rfl) T.g_is_tell T.F_is_tell.kp (b_is_tell T) pass0 (ax_cons (ex_var (pv 0) rfl) ax_nil) ⟨_, _, rfl, e1, rfl⟩) rfl)) (fun hc2 => ?_) (fun hc2 => ?_))
  ·
    replace h := ite_t hc2 h
    refine' sxs_cons (sx_ret (ex_cv (r' := .nw ((eL D.str) [row.slot])) (ex_lst1 (ax_cons (ex_ix ix_tup (o2_ixT (row_at1 _)) (ex_var (pv 0) rfl) ex_int) ax_nil)) rfl) ?_)
    exact congrArg (fun z => Rs.nw ((eL D.str) z)) (Option.some.inj h)
  ·
    replace h := ite_f hc2 h
    refine sxs_nil ?_
    obtain ⟨v_2, e2, h⟩ := bO h
    obtain ⟨v_3, e3, h⟩ := bO h
    obtain ⟨e4, h⟩ := chk_e h
    refine' sxs_cons (sx_ret (ex_cv (r' := .nw ((eL D.str) (row.slot :: v_3 :: v_2))) (ex_lst (ds := D.str row.slot :: D.str v_3 :: v_2.map D.str) (ax_cons (ex_ix ix_tup (o2_ixT (row_at1 _)) (ex_var (pv 0) rfl) ex_int) (ax_cons (ex_ix ix_tup (o2_ixT (row_at2 e3)) (ex_var (pv 0) rfl) ex_int) (ax_star1 (ex_ix ix_tup (o2_ixT (row_at3 e2)) (ex_var (pv 0) rfl) ex_int)))) (star_len (as := [D.str row.slot, D.str v_3]) e4)) rfl) ?_)
    exact congrArg (fun z => Rs.nw ((eL D.str) z)) (Option.some.inj h)
def R_check_row (vs : List V) (ρa : List Sl) (r : Rs) (ρo : List Sl) : Prop := ∃ (w0 w1 : V) (row : RowT) (signs : (List (Str × Bool))) (v : (List (Str × Bool))), vs = [w0, w1] ∧ ρa = [.sh (rowD row), .od (some w1) ((eDK kS D.bl) signs)] ∧ f_check_row row signs = some v ∧ r = .sh .non ∧ ρo = [.no, .od (some w1) ((eDK kS D.bl) v)]
theorem ok_check_row (T : Txt K mg) (TB_is_name : GxR.TabB base mg (He.cT K ("is_name", none)).1 (He.cT K ("is_name", none)).2) (TB_is_way : GxR.TabB base mg (He.cT K ("is_way", none)).1 (He.cT K ("is_way", none)).2) : FnOk P w K mg base CX0 3 (He.fAd K ("check_row", none)) T.fd_check_row ["row", "signs"] (spI K R_check_row) := by
  refine ok_fnI T.F_check_row sc_check_row (fun vs ρa r ρo hR => ?_) (fun vs ρa r ρo hR => ?_) (fun cdv A outer s H vs ρa r ρo E W hr hR => ?_)
  · obtain ⟨w0, w1, row, signs, v, rfl, _⟩ := hR; rfl
  · obtain ⟨w0, w1, row, signs, v, rfl, rfl, _, _, rfl⟩ := hR; exact (outOk_no (outOk_od outOk_nil))
  obtain ⟨w0, w1, row, signs, v, rfl, rfl, h, rfl, rfl⟩ := hR
  unfold f_check_row at h
  refine SXs.as (ρ' := [.sh (rowD row), .od (some w1) ((eDK kS D.bl) signs), .no, .no, .no]) rfl ?_
  obtain ⟨v_1, e1, h⟩ := bO h
  obtain ⟨r_1, e2, h⟩ := bO h
  refine' sxs_cons (sx_foldO (s0 := ()) (emb := D.str) (fun (s_1 : Unit) => [.sh (rowD row), .od (some w1) ((eDK kS D.bl) signs), .no, .no, .no]) PassesOwn.never ((it_list (ex_share (ex_cv (r' := .nw ((eL D.str) v_1)) (ex_call1 (ok_names_in T TB_is_name TB_is_way) (hr.mono (by decide)) (by rfl) T.g_names_in T.F_names_in.kp (b_names_in T) pass0 (ax_cons (ex_var (pv 0) rfl) ax_nil) ⟨_, _, rfl, e1, rfl⟩) rfl))).it rfl) (pg_name (i := 2) sc_check_row.nd rfl (by first | exact .inl rfl | exact .inr (.inl rfl) | exact .inr rfl)) (.eq (.eq (.eq (.eq (.eq .nil))))) e2 (fun name_1 s_1 s' _ h => ⟨_, gv_name, ?_⟩) (fun ρ1 l1 => SXs.weak l1 ?_))
  ·
    refine SXs.as (ρ' := [.sh (rowD row), .od (some w1) ((eDK kS D.bl) signs), .sh (D.str name_1), .no, .no]) rfl ?_
    obtain ⟨v_2, e3, h⟩ := bO h
    refine' sxs_cons (sx_if (tx_not (tx_val (ex_cv (r' := .sh (D.bl v_2)) (ex_call1 (ok_is_name T TB_is_name TB_is_way) (hr.mono (by decide)) (by rfl) T.g_is_name T.F_is_name.kp (b_is_name T) pass0 (ax_cons (ex_var (pv 2) rfl) ax_nil) ⟨_, _, rfl, e3, rfl⟩) rfl))) (fun hc7 => ?_) (fun hc7 => ?_))
    ·
      replace h := ite_t hc7 h
      cases h
    ·
      replace h := ite_f hc7 h
      refine sxs_nil ?_
      refine sxs_nil ?_
      obtain rfl := Option.some.inj h
      exact (.eq (.eq (.no (.eq (.eq .nil)))))
  obtain ⟨v_3, e4, h⟩ := bO h
  refine' sxs_cons (sx_if (tx_val (ex_cv (r' := .sh (D.bl v_3)) (ex_call1 (ok_is_tell T TB_is_name TB_is_way) (hr.mono (by decide)) (by rfl) T.g_is_tell T.F_is_tell.kp (b_is_tell T) pass0 (ax_cons (ex_var (pv 0) rfl) ax_nil) ⟨_, _, rfl, e4, rfl⟩) rfl)) (fun hc18 => ?_) (fun hc18 => ?_))
  ·
    replace h := ite_t hc18 h
    refine' sxs_cons (sx_retN ?_)
    obtain rfl := Option.some.inj h; exact ⟨rfl, _, (.no (.eq (ltNo _)))⟩
  ·
    replace h := ite_f hc18 h
    refine sxs_nil ?_
    obtain ⟨v_4, e5, h⟩ := bO h
    obtain ⟨v_5, e6, h⟩ := bO h
    refine' sxs_cons (sx_sw (i1 := 3) (i2 := 4) (x1 := "sign") (x2 := "reads") rfl (ex_cv (r' := .sh (.tup [D.str ((v_4, v_5).1), (eTU D.str) ((v_4, v_5).2)])) (ex_cv (r' := .sh ((eP2 D.str (eTU D.str)) (v_4, v_5))) (ex_tup2 (ax_cons (ex_ix ix_tup (o2_ixT (row_at2 e5)) (ex_var (pv 0) rfl) ex_int) (ax_cons (ex_ix ix_tup (o2_ixT (row_at3 e6)) (ex_var (pv 0) rfl) ex_int) ax_nil))) rfl) rfl) sc_check_row.nd rfl rfl (by first | exact .inl rfl | exact .inr rfl) (by first | exact .inl rfl | exact .inr rfl) (.inl rfl) (.inl rfl) ?_)
    refine SXs.as (ρ' := [.sh (rowD row), .od (some w1) ((eDK kS D.bl) signs), .no, .sh (D.str ((v_4, v_5).1)), .sh ((eTU D.str) ((v_4, v_5).2))]) rfl ?_
    refine' sxs_cons (sx_if (tx_gt (ex_callB call_len_seq (on_lenE (em := D.str) rfl) (by rfl) T.g_len PySem.boot_len (ax_cons (ex_var (pv 4) rfl) ax_nil)) (ex_cv (r' := .sh (D.int (2 : Int))) (ex_c (pe_glob rfl T.c_MOST_READS T.r_MOST_READS) T.d_MOST_READS) rfl)) (fun hc30 => ?_) (fun hc30 => ?_))
    ·
      replace h := ite_t hc30 h
      cases h
    ·
      replace h := ite_f hc30 h
      refine sxs_nil ?_
      refine' sxs_cons (sx_if (tx_dinK kS_inj (hu_of hr) (ex_var (pv 3) rfl) (ex_varD (pv 1) rfl) rfl) (fun hc37 => ?_) (fun hc37 => ?_))
      ·
        replace h := ite_t hc37 h
        cases h
      ·
        replace h := ite_f hc37 h
        refine sxs_nil ?_
        obtain ⟨e7, h⟩ := chk_e h
        obtain ⟨signs_1, e8, h⟩ := letO_e h
        refine' sxs_cons (sx_dputKPE kS_inj (hu_of hr) (px_var (pv 1) rfl) rfl rfl ex_bl (ex_var (pv 3) rfl) e7 rfl ?_)
        rw [e8]
        refine SXs.as (ρ' := [.sh (rowD row), .od (some w1) ((eDK kS D.bl) signs_1), .no, .sh (D.str ((v_4, v_5).1)), .sh ((eTU D.str) ((v_4, v_5).2))]) rfl ?_
        refine sxs_nil ?_
        obtain rfl := Option.some.inj h; exact ⟨rfl, _, (.no (.eq (ltNo _)))⟩
def R_checked (ds : List D) (r : Rs) : Prop := ∃ (program : (List ((List RowT) × (List Int)))) (v : (List ((List RowT) × (List Int)))), ds = [(eL (eP2 (eL rowD) (eL D.int))) program] ∧ f_checked program = some v ∧ r = .nd ((eL (eP2 (eL rowD) (eL D.int))) v)
theorem ok_checked (T : Txt K mg) (TB_is_name : GxR.TabB base mg (He.cT K ("is_name", none)).1 (He.cT K ("is_name", none)).2) (TB_is_way : GxR.TabB base mg (He.cT K ("is_way", none)).1 (He.cT K ("is_way", none)).2) : FnOk P w K mg base CX0 4 (He.fAd K ("checked", none)) T.fd_checked ["program"] (spR K R_checked) := by
  refine ok_fn T.F_checked sc_checked (fun ds r hR => ?_) (fun cdv A outer s H ds r E W hr hR => ?_)
  · obtain ⟨program, v, rfl, _⟩ := hR; rfl
  obtain ⟨program, v, rfl, h, rfl⟩ := hR
  unfold f_checked at h
  refine SXs.as (ρ' := [.sh ((eL (eP2 (eL rowD) (eL D.int))) program), .no, .no, .no, .no]) rfl ?_
  refine' sxs_cons (sx_if (tx_not (tx_listE (ex_var (pv 0) rfl) rfl)) (fun hc1 => ?_) (fun hc1 => ?_))
  ·
    replace h := ite_t hc1 h
    cases h
  ·
    replace h := ite_f hc1 h
    refine sxs_nil ?_
    refine' sxs_cons (sx_if (tx_gt (ex_callB call_len_seq (on_lenE (em := (eP2 (eL rowD) (eL D.int))) rfl) (by rfl) T.g_len PySem.boot_len (ax_cons (ex_var (pv 0) rfl) ax_nil)) (ex_cv (r' := .sh (D.int (60 : Int))) (ex_c (pe_glob rfl T.c_MOST_BLOCKS T.r_MOST_BLOCKS) T.d_MOST_BLOCKS) rfl)) (fun hc8 => ?_) (fun hc8 => ?_))
    ·
      replace h := ite_t hc8 h
      cases h
    ·
      replace h := ite_f hc8 h
      refine sxs_nil ?_
      obtain ⟨signs_1, e1, h⟩ := letO_e h
      refine' sxs_cons (sx_set (i := 1) sc_checked.nd rfl (by first | exact .inl rfl | exact .inr (.inl rfl) | exact .inr rfl) (ex_cv (ex_ndO (ex_cv (r' := .nw ((eDK kS D.bl) [])) ex_dnew rfl) ((inferInstance : ImO (eDK kS D.bl)).h _)) (congrArg (fun z => Rs.nd ((eDK kS D.bl) z)) e1)) ?_)
      refine SXs.as (ρ' := [.sh ((eL (eP2 (eL rowD) (eL D.int))) program), .od none ((eDK kS D.bl) signs_1), .no, .no, .no]) rfl ?_
      obtain ⟨r_1, e2, h⟩ := bO h
      refine' sxs_cons (sx_foldO (s0 := signs_1) (emb := (eP2 (eL rowD) (eL D.int))) (fun (s_1 : ((List (Str × Bool)))) => [.sh ((eL (eP2 (eL rowD) (eL D.int))) program), .od none ((eDK kS D.bl) s_1), .no, .no, .no]) PassesOwn.never ((it_list (ex_var (pv 0) rfl)).it rfl) (pg_tup (n := 2) rfl (pgs_cons (pg_name (i := 2) sc_checked.nd rfl (by first | exact .inl rfl | exact .inr (.inl rfl) | exact .inr rfl)) (pgs_cons (pg_name (i := 3) sc_checked.nd rfl (by first | exact .inl rfl | exact .inr (.inl rfl) | exact .inr rfl)) pgs_nil))) (.eq (.eq (.eq (.eq (.eq .nil))))) e2 (fun it_1 s_1 s' _ h => ⟨_, (gv_tup (gvs_cons gv_name (gvs_cons gv_name gvs_nil))), ?_⟩) (fun ρ1 l1 => SXs.weak l1 ?_))
      ·
        refine SXs.as (ρ' := [.sh ((eL (eP2 (eL rowD) (eL D.int))) program), .od none ((eDK kS D.bl) s_1), .sh ((eL rowD) it_1.1), .sh ((eL D.int) it_1.2), .no]) rfl ?_
        obtain ⟨v_1, e3, h⟩ := bO h
        refine' sxs_cons (sx_expr (ex_cv (r' := .sh (eU v_1)) (ex_call2 (ok_check_sizes T TB_is_name TB_is_way) (hr.mono (by decide)) (by rfl) T.g_check_sizes T.F_check_sizes.kp (b_check_sizes T) pass0 (ax_cons (ex_var (pv 2) rfl) (ax_cons (ex_var (pv 3) rfl) ax_nil)) ⟨_, _, _, rfl, e3, rfl⟩) rfl) ?_)
        obtain ⟨r_2, e4, h⟩ := bO h
        refine' sxs_cons (sx_foldO (s0 := s_1) (emb := rowD) (fun (s_2 : ((List (Str × Bool)))) => [.sh ((eL (eP2 (eL rowD) (eL D.int))) program), .od none ((eDK kS D.bl) s_2), .sh ((eL rowD) it_1.1), .sh ((eL D.int) it_1.2), .no]) PassesOwn.never ((it_list (ex_var (pv 2) rfl)).it rfl) (pg_name (i := 4) sc_checked.nd rfl (by first | exact .inl rfl | exact .inr (.inl rfl) | exact .inr rfl)) (.eq (.eq (.eq (.eq (.eq .nil))))) e4 (fun row_1 s_2 s' _ h => ⟨_, gv_name, ?_⟩) (fun ρ1 l1 => SXs.weak l1 ?_))
        ·
          refine SXs.as (ρ' := [.sh ((eL (eP2 (eL rowD) (eL D.int))) program), .od none ((eDK kS D.bl) s_2), .sh ((eL rowD) it_1.1), .sh ((eL D.int) it_1.2), .sh (rowD row_1)]) rfl ?_
          obtain ⟨o_1, e5, h⟩ := bO h
          refine' sxs_cons (sx_callI (as := [.rd (rowD row_1), .io 1 none ((eDK kS D.bl) s_2) (some ((eDK kS D.bl) o_1))]) (r := .sh .non) (ok_check_row T TB_is_name TB_is_way) (hr.mono (by decide)) (by rfl) T.g_check_row T.F_check_row.kp (b_check_row T) pass0 (axi_rd (ex_var (pv 4) rfl) (axi_io (pv 1) rfl axi_nil)) (by show ([1] : List Nat).Nodup; decide) (fun vs hl => match vs, hl with | [v0, v1], _ => ⟨v0, v1, _, _, _, rfl, rfl, e5, rfl, rfl⟩) ?_)
          refine SXs.as (ρ' := [.sh ((eL (eP2 (eL rowD) (eL D.int))) program), .od none ((eDK kS D.bl) o_1), .sh ((eL rowD) it_1.1), .sh ((eL D.int) it_1.2), .sh (rowD row_1)]) rfl ?_
          refine sxs_nil ?_
          obtain rfl := Option.some.inj h
          exact (.eq (.eq (.eq (.eq (.no .nil)))))
        obtain ⟨v_2, e6, h⟩ := bO h
        refine' sxs_cons (sx_expr (ex_cv (r' := .sh (eU v_2)) (ex_call2 (ok_check_ways T TB_is_name TB_is_way) (hr.mono (by decide)) (by rfl) T.g_check_ways T.F_check_ways.kp (b_check_ways T) pass0 (ax_cons (ex_var (pv 3) rfl) (ax_cons (ex_callB call_len_seq (on_lenE (em := (eP2 (eL rowD) (eL D.int))) rfl) (by rfl) T.g_len PySem.boot_len (ax_cons (ex_var (pv 0) rfl) ax_nil)) ax_nil)) ⟨_, _, _, rfl, e6, rfl⟩) rfl) ?_)
        refine sxs_nil ?_
        obtain rfl := Option.some.inj h
        exact (.eq (.eq (.no (.no (.eq .nil)))))
      obtain ⟨e7, h⟩ := chk_e h
      refine' sxs_cons (sx_ret (ex_lcM (ItX.c (it_list (ex_var (pv 0) rfl))) (own := [("rows", 2), ("ways", 3)]) rfl sc_checked.nd (blkOk_by (N := ["program", "signs", "rows", "ways", "row"]) (sc := defScope s_checked) (by decide +kernel)) (fun _ _ _ _ _ => (pg_tup (n := 2) rfl (pgs_cons (pg_name (i := 2) sc_checked.nd rfl (by first | exact .inl rfl | exact .inr (.inl rfl) | exact .inr rfl)) (pgs_cons (pg_name (i := 3) sc_checked.nd rfl (by first | exact .inl rfl | exact .inr (.inl rfl) | exact .inr rfl)) pgs_nil)))) (fun wi itw => (ev_lcXD (pO := fun it_2 => some true) (fO := fun it_2 => some (it_2.1, it_2.2)) (emb := (eP2 (eL rowD) (eL D.int))) (eb := (eP2 (eL rowD) (eL D.int))) (mk := .sh) itw (comp_map _ _) (gset_tup (gsets_cons (gset_name (by decide)) (gsets_cons (gset_name (by decide)) gsets_nil))) e7 (fun it_2 _ k h => by obtain rfl := Option.some.inj h; exact ⟨_, (gv_tup (gvs_cons gv_name (gvs_cons gv_name gvs_nil))), (fun _ _ _ _ _ => txs_nil), fun _ b h => by obtain rfl := Option.some.inj h; exact fun _ _ _ _ _ => (ex_cv (r' := .nd ((eP2 (eL rowD) (eL D.int)) (it_2.1, it_2.2))) (ex_tupD (an_cons (ex_ndO (ex_cv (r' := .nw ((eL rowD) it_2.1)) (ex_callTy call_list_of (on_list rfl (.inl ⟨_, rfl⟩)) (by rfl) T.g_list (by decide +kernel) (ax_cons (ex_var (pv 2) rfl) ax_nil)) rfl) ((inferInstance : ImO (eL rowD)).h _)) (an_cons (ex_ndO (ex_cv (r' := .nw ((eL D.int) it_2.2)) (ex_callTy call_list_of (on_list rfl (.inl ⟨_, rfl⟩)) (by rfl) T.g_list (by decide +kernel) (ax_cons (ex_var (pv 3) rfl) ax_nil)) rfl) ((inferInstance : ImO (eL D.int)).h _)) an_nil)) (by show 2 ≤ sizeLine; decide)) rfl)⟩)))) ?_)
      exact congrArg (fun z => Rs.nd ((eL (eP2 (eL rowD) (eL D.int))) z)) (Option.some.inj h)
def R_row_line (ds : List D) (r : Rs) : Prop := ∃ (row : RowT) (v : Str), ds = [rowD row] ∧ f_row_line row = some v ∧ r = .sh (D.str v)
theorem ok_row_line (T : Txt K mg) (TB_is_name : GxR.TabB base mg (He.cT K ("is_name", none)).1 (He.cT K ("is_name", none)).2) (TB_is_way : GxR.TabB base mg (He.cT K ("is_way", none)).1 (He.cT K ("is_way", none)).2) : FnOk P w K mg base CX0 2 (He.fAd K ("row_line", none)) T.fd_row_line ["row"] (spR K R_row_line) := by
  refine ok_fn T.F_row_line sc_row_line (fun ds r hR => ?_) (fun cdv A outer s H ds r E W hr hR => ?_)
  · obtain ⟨row, v, rfl, _⟩ := hR; rfl
  obtain ⟨row, v, rfl, h, rfl⟩ := hR
  unfold f_row_line at h
  refine SXs.as (ρ' := [.sh (rowD row), .no, .no, .no, .no]) rfl ?_
  obtain ⟨v_1, e1, h⟩ := bO h
  refine' sxs_cons (sx_if (tx_val (ex_cv (r' := .sh (D.bl v_1)) (ex_call1 (ok_is_tell T TB_is_name TB_is_way) (hr.mono (by decide)) (by rfl) T.g_is_tell T.F_is_tell.kp (b_is_tell T) pass0 (ax_cons (ex_var (pv 0) rfl) ax_nil) ⟨_, _, rfl, e1, rfl⟩) rfl)) (fun hc2 => ?_) (fun hc2 => ?_))
  ·
    replace h := ite_t hc2 h
    obtain ⟨e2, h⟩ := chk_e h
    obtain ⟨e3, h⟩ := chk_e h
    refine' sxs_cons (sx_ret (ex_join (ys := [("tell" : Str), row.slot]) ex_str (ex_var (pv 0) rfl) (row_join e2) e3) ?_)
    exact congrArg (fun z => Rs.sh (D.str z)) (Option.some.inj h)
  ·
    replace h := ite_f hc2 h
    refine sxs_nil ?_
    obtain ⟨q_1, e4, h⟩ := bO h
    refine' sxs_cons (sx_asg (pg_tup (n := 4) rfl (pgs_cons (pg_name (i := 1) sc_row_line.nd rfl (by first | exact .inl rfl | exact .inr (.inl rfl) | exact .inr rfl)) (pgs_cons (pg_name (i := 2) sc_row_line.nd rfl (by first | exact .inl rfl | exact .inr (.inl rfl) | exact .inr rfl)) (pgs_cons (pg_name (i := 3) sc_row_line.nd rfl (by first | exact .inl rfl | exact .inr (.inl rfl) | exact .inr rfl)) (pgs_cons (pg_name (i := 4) sc_row_line.nd rfl (by first | exact .inl rfl | exact .inr (.inl rfl) | exact .inr rfl)) pgs_nil))))) (ex_cv (ex_var (pv 0) rfl) (congrArg Rs.sh (row_parts e4))) (fun _ => ⟨fun z => (nomatch z), fun z => (nomatch z)⟩) (gv_tup (gvs_cons gv_name (gvs_cons gv_name (gvs_cons gv_name (gvs_cons gv_name gvs_nil))))) ?_)
    refine SXs.as (ρ' := [.sh (rowD row), .sh (D.str ("make" : Str)), .sh (D.str q_1.1), .sh (D.str q_1.2.1), .sh ((eTU D.str) q_1.2.2)]) rfl ?_
    obtain ⟨e5, h⟩ := chk_e h
    obtain ⟨e6, h⟩ := chk_e h
    refine' sxs_cons (sx_ret (ex_join ex_str (ex_share (ex_cv (r' := .nw ((eL D.str) (q_1.1 :: ("=" : Str) :: q_1.2.1 :: q_1.2.2))) (ex_lst (ds := D.str q_1.1 :: D.str ("=" : Str) :: D.str q_1.2.1 :: q_1.2.2.map D.str) (ax_cons (ex_var (pv 2) rfl) (ax_cons ex_str (ax_cons (ex_var (pv 3) rfl) (ax_star1 (ex_var (pv 4) rfl))))) (star_len (as := [D.str q_1.1, D.str ("=" : Str), D.str q_1.2.1]) e5)) rfl)) rfl e6) ?_)
    exact congrArg (fun z => Rs.sh (D.str z)) (Option.some.inj h)
def R_shown (ds : List D) (r : Rs) : Prop := ∃ (program : (List ((List RowT) × (List Int)))) (v : Str), ds = [(eL (eP2 (eL rowD) (eL D.int))) program] ∧ f_shown program = some v ∧ r = .sh (D.str v)
theorem ok_shown (T : Txt K mg) (TB_is_name : GxR.TabB base mg (He.cT K ("is_name", none)).1 (He.cT K ("is_name", none)).2) (TB_is_way : GxR.TabB base mg (He.cT K ("is_way", none)).1 (He.cT K ("is_way", none)).2) : FnOk P w K mg base CX0 3 (He.fAd K ("shown", none)) T.fd_shown ["program"] (spR K R_shown) := by
  refine ok_fn T.F_shown sc_shown (fun ds r hR => ?_) (fun cdv A outer s H ds r E W hr hR => ?_)
  · obtain ⟨program, v, rfl, _⟩ := hR; rfl
  obtain ⟨program, v, rfl, h, rfl⟩ := hR
  unfold f_shown at h
  refine SXs.as (ρ' := [.sh ((eL (eP2 (eL rowD) (eL D.int))) program), .no, .no, .no, .no, .no, .no]) rfl ?_
  obtain ⟨lines_1, e1, h⟩ := letO_e h
  refine' sxs_cons (sx_set (i := 1) sc_shown.nd rfl (by first | exact .inl rfl | exact .inr (.inl rfl) | exact .inr rfl) (ex_cv (ex_cv (r' := .nw ((eL D.str) [])) (ex_lst0 ax_nil) rfl) (congrArg (fun z => Rs.nw ((eL D.str) z)) e1)) ?_)
  refine SXs.as (ρ' := [.sh ((eL (eP2 (eL rowD) (eL D.int))) program), .ow ((eL D.str) lines_1), .no, .no, .no, .no, .no]) rfl ?_
  obtain ⟨r_1, e2, h⟩ := bO h
  refine' sxs_cons (sx_foldO (s0 := lines_1) (emb := (eP2 (eL rowD) (eL D.int))) (fun (s_1 : ((List Str))) => [.sh ((eL (eP2 (eL rowD) (eL D.int))) program), .ow ((eL D.str) s_1), .no, .no, .no, .no, .no]) PassesOwn.never ((it_list (ex_var (pv 0) rfl)).it rfl) (pg_tup (n := 2) rfl (pgs_cons (pg_name (i := 2) sc_shown.nd rfl (by first | exact .inl rfl | exact .inr (.inl rfl) | exact .inr rfl)) (pgs_cons (pg_name (i := 3) sc_shown.nd rfl (by first | exact .inl rfl | exact .inr (.inl rfl) | exact .inr rfl)) pgs_nil))) (.eq (.eq (.eq (.eq (.eq (.eq (.eq .nil))))))) e2 (fun it_1 s_1 s' _ h => ⟨_, (gv_tup (gvs_cons gv_name (gvs_cons gv_name gvs_nil))), ?_⟩) (fun ρ1 l1 => SXs.weak l1 ?_))
  ·
    refine SXs.as (ρ' := [.sh ((eL (eP2 (eL rowD) (eL D.int))) program), .ow ((eL D.str) s_1), .sh ((eL rowD) it_1.1), .sh ((eL D.int) it_1.2), .no, .no, .no]) rfl ?_
    obtain ⟨e3, h⟩ := chk_e h
    obtain ⟨lines_2, e4, h⟩ := letO_e h
    refine' sxs_cons (sx_appE (pv 1) rfl ex_str e3 ?_)
    rw [e4]
    refine SXs.as (ρ' := [.sh ((eL (eP2 (eL rowD) (eL D.int))) program), .ow ((eL D.str) lines_2), .sh ((eL rowD) it_1.1), .sh ((eL D.int) it_1.2), .no, .no, .no]) rfl ?_
    obtain ⟨e5, h⟩ := chk_e h
    obtain ⟨l_1, e7, h⟩ := bO h
    obtain ⟨e8, h⟩ := chk_e h
    obtain ⟨lines_3, e9, h⟩ := letO_e h
    refine' sxs_cons (sx_extE (pv 1) rfl (ex_lcM (ItX.c (it_list (ex_var (pv 2) rfl))) (own := [("row", 4)]) rfl sc_shown.nd (blkOk_by (N := ["program", "lines", "rows", "ways", "row", "way", "line"]) (sc := defScope s_shown) (by decide +kernel)) (fun _ _ _ _ _ => (pg_name (i := 4) sc_shown.nd rfl (by first | exact .inl rfl | exact .inr (.inl rfl) | exact .inr rfl))) (fun wi itw => (ev_lcX (pO := fun row_1 => some true) (fO := fun row_1 => (f_row_line row_1).bind fun v_1 =>
some v_1) (emb := rowD) (eb := D.str) (mk := .sh) itw ((compO_map _).trans e7) (gset_name (by decide)) e5 (fun row_1 _ k h => by obtain rfl := Option.some.inj h; exact ⟨_, gv_name, (fun _ _ _ _ _ => txs_nil), fun _ b h => by obtain ⟨v_1, e6, h⟩ := bO h; obtain rfl := Option.some.inj h; exact fun _ _ _ _ _ => (ex_cv (r' := .sh (D.str v_1)) (ex_call1 (ok_row_line T TB_is_name TB_is_way) (hr.mono (by decide)) (by rfl) T.g_row_line T.F_row_line.kp (b_row_line T) pass0 (ax_cons (ex_var (pv 4) rfl) ax_nil) ⟨_, _, rfl, e6, rfl⟩) rfl)⟩)))) rfl (shar_im (em := D.str) _) e8 ?_)
    rw [e9]
    refine SXs.as (ρ' := [.sh ((eL (eP2 (eL rowD) (eL D.int))) program), .ow ((eL D.str) lines_3), .sh ((eL rowD) it_1.1), .sh ((eL D.int) it_1.2), .no, .no, .no]) rfl ?_
    obtain ⟨e10, h⟩ := chk_e h
    obtain ⟨l_2, e12, h⟩ := bO h
    obtain ⟨e13, h⟩ := chk_e h
    obtain ⟨e14, h⟩ := chk_e h
    obtain ⟨e15, h⟩ := chk_e h
    obtain ⟨lines_4, e16, h⟩ := letO_e h
    refine' sxs_cons (sx_appE (pv 1) rfl (ex_join ex_str (ex_share (ex_catE (ex_cv (r' := .nw ((eL D.str) [("to" : Str)])) (ex_lst1 (ax_cons ex_str ax_nil)) rfl) (ex_lcM (ItX.c (it_list (ex_var (pv 3) rfl))) (own := [("way", 5)]) rfl sc_shown.nd (blkOk_by (N := ["program", "lines", "rows", "ways", "row", "way", "line"]) (sc := defScope s_shown) (by decide +kernel)) (fun _ _ _ _ _ => (pg_name (i := 5) sc_shown.nd rfl (by first | exact .inl rfl | exact .inr (.inl rfl) | exact .inr rfl))) (fun wi itw => (ev_lcX (pO := fun way_1 => some true) (fO := fun way_1 => chk (way_1.natAbs.log2 < 1920) <|
some (PySem.Str.ofString (toString way_1))) (emb := D.int) (eb := D.str) (mk := .sh) itw ((compO_map _).trans e12) (gset_name (by decide)) e10 (fun way_1 _ k h => by obtain rfl := Option.some.inj h; exact ⟨_, gv_name, (fun _ _ _ _ _ => txs_nil), fun _ b h => by obtain ⟨e11, h⟩ := chk_e h; obtain rfl := Option.some.inj h; exact fun _ _ _ _ _ => (ex_callTy call_str_int (on_str e11) (by rfl) T.g_str (by decide +kernel) (ax_cons (ex_var (pv 5) rfl) ax_nil))⟩)))) rfl rfl (shar_im (em := D.str) _) (shar_im (em := D.str) _) e13)) rfl e14) e15 ?_)
    rw [e16]
    refine SXs.as (ρ' := [.sh ((eL (eP2 (eL rowD) (eL D.int))) program), .ow ((eL D.str) lines_4), .sh ((eL rowD) it_1.1), .sh ((eL D.int) it_1.2), .no, .no, .no]) rfl ?_
    refine sxs_nil ?_
    obtain rfl := Option.some.inj h
    exact (.eq (.eq (.no (.no (.eq (.eq (.eq .nil)))))))
  obtain ⟨e17, h⟩ := chk_e h
  obtain ⟨l_3, e19, h⟩ := bO h
  obtain ⟨e20, h⟩ := chk_e h
  refine' sxs_cons (sx_ret (ex_join ex_str (ex_share (ex_lcM (it_listA (ex_varO (pv 1) rfl)) (own := [("line", 6)]) rfl sc_shown.nd (blkOk_by (N := ["program", "lines", "rows", "ways", "row", "way", "line"]) (sc := defScope s_shown) (by decide +kernel)) (fun _ _ _ _ _ => (pg_name (i := 6) sc_shown.nd rfl (by first | exact .inl rfl | exact .inr (.inl rfl) | exact .inr rfl))) (fun wi itw => (ev_lcX (pO := fun line_1 => some true) (fO := fun line_1 => chk (line_1.length + ("\n" : Str).length ≤ sizeLine) <|
some (line_1 ++ ("\n" : Str))) (emb := D.str) (eb := D.str) (mk := .al) itw ((compO_map _).trans e19) (gset_name (by decide)) e17 (fun line_1 _ k h => by obtain rfl := Option.some.inj h; exact ⟨_, gv_name, (fun _ _ _ _ _ => txs_nil), fun _ b h => by obtain ⟨e18, h⟩ := chk_e h; obtain rfl := Option.some.inj h; exact fun _ _ _ _ _ => (ex_addS (ex_imE (em := D.str) (ex_varA (pv 6) rfl) rfl) ex_str e18)⟩))))) rfl e20) ?_)
  exact congrArg (fun z => Rs.sh (D.str z)) (Option.some.inj h)
def R_worded (ds : List D) (r : Rs) : Prop := ∃ (text : Str) (v : (List (List Str))), ds = [D.str text] ∧ f_worded text = some v ∧ r = .sh ((eL (eL D.str)) v)
theorem ok_worded (T : Txt K mg) (TB_is_name : GxR.TabB base mg (He.cT K ("is_name", none)).1 (He.cT K ("is_name", none)).2) (TB_is_way : GxR.TabB base mg (He.cT K ("is_way", none)).1 (He.cT K ("is_way", none)).2) : FnOk P w K mg base CX0 1 (He.fAd K ("worded", none)) T.fd_worded ["text"] (spR K R_worded) := by
  refine ok_fn T.F_worded sc_worded (fun ds r hR => ?_) (fun cdv A outer s H ds r E W hr hR => ?_)
  · obtain ⟨text, v, rfl, _⟩ := hR; rfl
  obtain ⟨text, v, rfl, h, rfl⟩ := hR
  unfold f_worded at h
  refine SXs.as (ρ' := [.sh (D.str text), .no, .no, .no, .no]) rfl ?_
  obtain ⟨e1, h⟩ := chk_e h
  obtain ⟨lines_1, e2, h⟩ := letO_e h
  refine' sxs_cons (sx_set (i := 1) sc_worded.nd rfl (by first | exact .inl rfl | exact .inr (.inl rfl) | exact .inr rfl) (ex_cv (ex_split (ex_var (pv 0) rfl) ex_str (by decide +kernel) e1) (congrArg (fun z => Rs.nw ((eL D.str) z)) e2)) ?_)
  refine SXs.as (ρ' := [.sh (D.str text), .ow ((eL D.str) lines_1), .no, .no, .no]) rfl ?_
  obtain ⟨u_1, e3, h⟩ := bO h
  obtain ⟨lines_2, e4, h⟩ := letO_e h
  obtain ⟨e5, h⟩ := chk_e h
  refine' sxs_cons (sx_ifS (txs_str (exs_popE (em := D.str) (pv 1) rfl e3) e5) (fun hb8 => ?_) (fun hb8 => ?_))
  ·
    rw [e4]
    refine SXs.as (ρ' := [.sh (D.str text), .ow ((eL D.str) lines_2), .no, .no, .no]) rfl ?_
    replace h := ite_t hb8 h
    cases h
  ·
    rw [e4]
    refine SXs.as (ρ' := [.sh (D.str text), .ow ((eL D.str) lines_2), .no, .no, .no]) rfl ?_
    replace h := ite_f hb8 h
    refine sxs_nil ?_
    obtain ⟨e6, h⟩ := chk_e h
    obtain ⟨l_1, e8, h⟩ := bO h
    refine' sxs_cons (sx_setLcM (it_listA (ex_varO (pv 1) rfl)) (i := 3) (own := [("line", 2)]) rfl sc_worded.nd rfl rfl (sw_true rfl rfl rfl (by decide +kernel)) (blkOk_by (N := ["text", "lines", "line", "rest", "words"]) (sc := defScope s_worded) (by decide +kernel)) (fun _ _ _ _ _ => (pg_name (i := 2) sc_worded.nd rfl (by first | exact .inl rfl | exact .inr (.inl rfl) | exact .inr rfl))) (fun wi itw => (Ev.shareD (ev_lcXD (pO := fun line_1 => some true) (fO := fun line_1 => chk (line_1.length + 2 ≤ sizeLine) <|
some (Txt.split line_1 (" " : Str))) (emb := D.str) (eb := (eL D.str)) (mk := .al) itw ((compO_map _).trans e8) (gset_name (by decide)) e6 (fun line_1 _ k h => by obtain rfl := Option.some.inj h; exact ⟨_, gv_name, (fun _ _ _ _ _ => txs_nil), fun _ b h => by obtain ⟨e7, h⟩ := chk_e h; obtain rfl := Option.some.inj h; exact fun _ _ _ _ _ => (ex_ndO (ex_split (ex_imE (em := D.str) (ex_varA (pv 2) rfl) rfl) ex_str (by decide +kernel) e7) ((inferInstance : ImO (eL D.str)).h _))⟩)))) ?_)
    refine SXs.as (ρ' := [.sh (D.str text), .ow ((eL D.str) lines_2), .no, .sh ((eL (eL D.str)) l_1), .no]) rfl ?_
    obtain ⟨r_1, e9, h⟩ := bO h
    refine' sxs_cons (sx_foldO (s0 := ()) (emb := (eL D.str)) (fun (s_1 : Unit) => [.sh (D.str text), .ow ((eL D.str) lines_2), .no, .sh ((eL (eL D.str)) l_1), .no]) PassesOwn.never ((it_list (ex_var (pv 3) rfl)).it rfl) (pg_name (i := 4) sc_worded.nd rfl (by first | exact .inl rfl | exact .inr (.inl rfl) | exact .inr rfl)) (.eq (.eq (.eq (.eq (.eq .nil))))) e9 (fun words_1 s_1 s' _ h => ⟨_, gv_name, ?_⟩) (fun ρ1 l1 => SXs.weak l1 ?_))
    ·
      refine SXs.as (ρ' := [.sh (D.str text), .ow ((eL D.str) lines_2), .no, .sh ((eL (eL D.str)) l_1), .sh ((eL D.str) words_1)]) rfl ?_
      obtain ⟨e10, h⟩ := chk_e h
      refine' sxs_cons (sx_if (tx_inLE D.str (hu100 hr) ex_str (ex_var (pv 4) rfl) rfl rfl e10) (fun hc28 => ?_) (fun hc28 => ?_))
      ·
        replace h := ite_t hc28 h
        cases h
      ·
        replace h := ite_f hc28 h
        refine sxs_nil ?_
        refine sxs_nil ?_
        obtain rfl := Option.some.inj h
        exact (.eq (.eq (.eq (.eq (.no .nil)))))
    refine' sxs_cons (sx_ret (ex_var (pv 3) rfl) ?_)
    exact congrArg (fun z => Rs.sh ((eL (eL D.str)) z)) (Option.some.inj h)
def R_is_row (ds : List D) (r : Rs) : Prop := ∃ (words : (List Str)) (v : Bool), ds = [(eL D.str) words] ∧ f_is_row words = some v ∧ r = .sh (D.bl v)
theorem ok_is_row (T : Txt K mg) (TB_is_name : GxR.TabB base mg (He.cT K ("is_name", none)).1 (He.cT K ("is_name", none)).2) (TB_is_way : GxR.TabB base mg (He.cT K ("is_way", none)).1 (He.cT K ("is_way", none)).2) : FnOk P w K mg base CX0 1 (He.fAd K ("is_row", none)) T.fd_is_row ["words"] (spR K R_is_row) := by
  refine ok_fn T.F_is_row sc_is_row (fun ds r hR => ?_) (fun cdv A outer s H ds r E W hr hR => ?_)
  · obtain ⟨words, v, rfl, _⟩ := hR; rfl
  obtain ⟨words, v, rfl, h, rfl⟩ := hR
  unfold f_is_row at h
  refine SXs.as (ρ' := [.sh ((eL D.str) words)]) rfl ?_
  refine' sxs_cons (sx_if (tx_gt (ex_callB call_len_seq (on_lenE (em := D.str) rfl) (by rfl) T.g_len PySem.boot_len (ax_cons (ex_var (pv 0) rfl) ax_nil)) ex_int) (fun hc1 => ?_) (fun hc1 => ?_))
  ·
    replace h := ite_t hc1 h
    obtain ⟨v_1, e1, h⟩ := bO h
    refine' sxs_cons (sx_ret (ex_eqS (ex_ixE (em := D.str) (ex_var (pv 0) rfl) ex_int e1) ex_str) ?_)
    exact congrArg (fun z => Rs.sh (D.bl z)) (Option.some.inj h)
  ·
    replace h := ite_f hc1 h
    refine sxs_nil ?_
    obtain ⟨b_1, e3, h⟩ := bO h
    refine' sxs_cons (sx_ret (ex_andO (ex_eqI (ex_callB call_len_seq (on_lenE (em := D.str) rfl) (by rfl) T.g_len PySem.boot_len (ax_cons (ex_var (pv 0) rfl) ax_nil)) ex_int) (fun _ k h => by obtain ⟨v_2, e2, h⟩ := bO h; obtain rfl := Option.some.inj h; exact (ex_one (ex_eqS (ex_ixE (em := D.str) (ex_var (pv 0) rfl) ex_int e2) ex_str))) e3) ?_)
    exact congrArg (fun z => Rs.sh (D.bl z)) (Option.some.inj h)
def R_row_of (ds : List D) (r : Rs) : Prop := ∃ (words : (List Str)) (v : RowT), ds = [(eL D.str) words] ∧ f_row_of words = some v ∧ r = .sh (rowD v)
theorem ok_row_of (T : Txt K mg) (TB_is_name : GxR.TabB base mg (He.cT K ("is_name", none)).1 (He.cT K ("is_name", none)).2) (TB_is_way : GxR.TabB base mg (He.cT K ("is_way", none)).1 (He.cT K ("is_way", none)).2) : FnOk P w K mg base CX0 1 (He.fAd K ("row_of", none)) T.fd_row_of ["words"] (spR K R_row_of) := by
  refine ok_fn T.F_row_of sc_row_of (fun ds r hR => ?_) (fun cdv A outer s H ds r E W hr hR => ?_)
  · obtain ⟨words, v, rfl, _⟩ := hR; rfl
  obtain ⟨words, v, rfl, h, rfl⟩ := hR
  unfold f_row_of at h
  refine SXs.as (ρ' := [.sh ((eL D.str) words)]) rfl ?_
  refine' sxs_cons (sx_if (tx_eqI (ex_callB call_len_seq (on_lenE (em := D.str) rfl) (by rfl) T.g_len PySem.boot_len (ax_cons (ex_var (pv 0) rfl) ax_nil)) ex_int) (fun hc1 => ?_) (fun hc1 => ?_))
  ·
    replace h := ite_t hc1 h
    obtain ⟨v_1, e1, h⟩ := bO h
    refine' sxs_cons (sx_ret (ex_cv (ex_tup2 (ax_cons ex_str (ax_cons (ex_ixE (em := D.str) (ex_var (pv 0) rfl) ex_int e1) ax_nil))) rfl) ?_)
    exact congrArg (fun z => Rs.sh (rowD z)) (Option.some.inj h)
  ·
    replace h := ite_f hc1 h
    refine sxs_nil ?_
    obtain ⟨v_2, e2, h⟩ := bO h
    obtain ⟨v_3, e3, h⟩ := bO h
    refine' sxs_cons (sx_ret (ex_cv (ex_tup4 (ax_cons ex_str (ax_cons (ex_ixE (em := D.str) (ex_var (pv 0) rfl) ex_int e2) (ax_cons (ex_ixE (em := D.str) (ex_var (pv 0) rfl) ex_int e3) (ax_cons (ex_callTy call_tuple_of (on_tupleE (em := D.str) rfl (.inl ⟨_, rfl⟩)) (by rfl) T.g_tuple (by decide +kernel) (ax_cons (ex_share (ex_slE (ex_var (pv 0) rfl) rfl (.inl ⟨_, rfl⟩) (ox_some ex_int) ox_none)) ax_nil)) ax_nil))))) rfl) ?_)
    exact congrArg (fun z => Rs.sh (rowD z)) (Option.some.inj h)
def R_is_way (ds : List D) (r : Rs) : Prop := ∃ (word : Str) (v : Bool), ds = [D.str word] ∧ f_is_way word = some v ∧ r = .sh (D.bl v)
theorem ok_is_way (T : Txt K mg) (TB_is_name : GxR.TabB base mg (He.cT K ("is_name", none)).1 (He.cT K ("is_name", none)).2) (TB_is_way : GxR.TabB base mg (He.cT K ("is_way", none)).1 (He.cT K ("is_way", none)).2) : FnOk P w K mg base CX0 1 (He.fAd K ("is_way", none)) T.fd_is_way ["word"] (spR K R_is_way) := by
  refine ok_fnC (p := ("is_way", none)) T.F_is_way sc_is_way (fun ds r hR => ?_) (fun A outer s H ds r E W hr hR => ?_)
  · obtain ⟨word, v, rfl, _⟩ := hR; rfl
  obtain ⟨word, v, rfl, h, rfl⟩ := hR
  unfold f_is_way at h
  refine SXs.as (ρ' := [.sh (D.str word)]) rfl ?_
  obtain ⟨e5, h⟩ := chk_e h
  obtain ⟨b_2, e6, h⟩ := bO h
  refine' sxs_cons (sx_if (tx_w (wx_orO (tx_gt (ex_callB call_len_str (on_lenS e5) (by rfl) T.g_len PySem.boot_len (ax_cons (ex_var (pv 0) rfl) ax_nil)) (ex_cv (r' := .sh (D.int (2 : Int))) (ex_c (pe_glob rfl T.c_MOST_FIGURES T.r_MOST_FIGURES) T.d_MOST_FIGURES) rfl)) (fun _ k h => by obtain ⟨e3, h⟩ := chk_e h; obtain ⟨b_1, e4, h⟩ := bO h; obtain rfl := Option.some.inj h; exact (wx_or1 (tx_w (wx_andO (tx_gt (ex_callB call_len_str (on_lenS e3) (by rfl) T.g_len PySem.boot_len (ax_cons (ex_var (pv 0) rfl) ax_nil)) ex_int) (fun _ k h => by obtain ⟨e1, h⟩ := chk_e h; obtain ⟨c_1, e2, h⟩ := bO h; obtain rfl := Option.some.inj h; exact (wx_and1 (tx_eqS (ex_ix ix_str (o2_ixS e1 e2) (ex_var (pv 0) rfl) ex_int) ex_str))) e4)))) e6)) (fun hc3 => ?_) (fun hc3 => ?_))
  ·
    replace h := ite_t hc3 h
    refine' sxs_cons (sx_ret ex_bl ?_)
    exact congrArg (fun z => Rs.sh (D.bl z)) (Option.some.inj h)
  ·
    replace h := ite_f hc3 h
    refine sxs_nil ?_
    obtain ⟨tk_FIGURES, etk_FIGURES⟩ := T.r_FIGURES
    have cG_FIGURES := T.c_FIGURES
    rw [etk_FIGURES] at cG_FIGURES
    refine' sxs_cons (sx_ret (ex_allG ("is_way", none) (by decide) T.n_is_way (by show nmG _ _ = ((("is_way" : Str) ++ ".<locals>.") ++ "<genexpr>"); decide +kernel) hr (by rfl) T.g_all TB_is_way rfl (genS_of rfl rfl (by decide +kernel) rfl rfl) (elG_in rfl rfl rfl cG_FIGURES) (fun _ => rfl) (ex_var (pv 0) rfl)) ?_)
    exact congrArg (fun z => Rs.sh (D.bl z)) (Option.some.inj h)
def R_way_of (ds : List D) (r : Rs) : Prop := ∃ (word : Str) (v : Int), ds = [D.str word] ∧ f_way_of word = some v ∧ r = .sh (D.int v)
theorem ok_way_of (T : Txt K mg) (TB_is_name : GxR.TabB base mg (He.cT K ("is_name", none)).1 (He.cT K ("is_name", none)).2) (TB_is_way : GxR.TabB base mg (He.cT K ("is_way", none)).1 (He.cT K ("is_way", none)).2) : FnOk P w K mg base CX0 2 (He.fAd K ("way_of", none)) T.fd_way_of ["word"] (spR K R_way_of) := by
  refine ok_fn T.F_way_of sc_way_of (fun ds r hR => ?_) (fun cdv A outer s H ds r E W hr hR => ?_)
  · obtain ⟨word, v, rfl, _⟩ := hR; rfl
  obtain ⟨word, v, rfl, h, rfl⟩ := hR
  unfold f_way_of at h
  refine SXs.as (ρ' := [.sh (D.str word)]) rfl ?_
  obtain ⟨v_1, e1, h⟩ := bO h
  refine' sxs_cons (sx_if (tx_not (tx_val (ex_cv (r' := .sh (D.bl v_1)) (ex_call1 (ok_is_way T TB_is_name TB_is_way) (hr.mono (by decide)) (by rfl) T.g_is_way T.F_is_way.kp (b_is_way T) pass0 (ax_cons (ex_var (pv 0) rfl) ax_nil) ⟨_, _, rfl, e1, rfl⟩) rfl))) (fun hc2 => ?_) (fun hc2 => ?_))
  ·
    replace h := ite_t hc2 h
    cases h
  ·
    replace h := ite_f hc2 h
    refine sxs_nil ?_
    obtain ⟨e2, h⟩ := chk_e h
    obtain ⟨v_2, e3, h⟩ := bO h
    refine' sxs_cons (sx_ret (ex_callTy call_int_str (on_intS e3 e2) (by rfl) T.g_int (by decide +kernel) (ax_cons (ex_var (pv 0) rfl) ax_nil)) ?_)
    exact congrArg (fun z => Rs.sh (D.int z)) (Option.some.inj h)
def R_read (ds : List D) (r : Rs) : Prop := ∃ (text : Str) (v : (List ((List RowT) × (List Int)))), ds = [D.str text] ∧ f_read text = some v ∧ r = .nd ((eL (eP2 (eL rowD) (eL D.int))) v)
theorem ok_read (T : Txt K mg) (TB_is_name : GxR.TabB base mg (He.cT K ("is_name", none)).1 (He.cT K ("is_name", none)).2) (TB_is_way : GxR.TabB base mg (He.cT K ("is_way", none)).1 (He.cT K ("is_way", none)).2) : FnOk P w K mg base CX0 5 (He.fAd K ("read", none)) T.fd_read ["text"] (spR K R_read) := by
  refine ok_fn T.F_read sc_read (fun ds r hR => ?_) (fun cdv A outer s H ds r E W hr hR => ?_)
  · obtain ⟨text, v, rfl, _⟩ := hR; rfl
  obtain ⟨text, v, rfl, h, rfl⟩ := hR
  unfold f_read at h
  refine SXs.as (ρ' := [.sh (D.str text), .no, .no, .no, .no, .no]) rfl ?_
  obtain ⟨blocks_1, e1, h⟩ := letO_e h
  refine' sxs_cons (sx_set (i := 1) sc_read.nd rfl (by first | exact .inl rfl | exact .inr (.inl rfl) | exact .inr rfl) (ex_cv (ex_ndL (ds := []) (ex_cv (r' := .nw ((eL (eP2 (eL rowD) (eL D.int))) [])) (ex_lst0 ax_nil) rfl) rfl) (congrArg (fun z => Rs.nd ((eL (eP2 (eL rowD) (eL D.int))) z)) e1)) ?_)
  refine SXs.as (ρ' := [.sh (D.str text), .od none ((eL (eP2 (eL rowD) (eL D.int))) blocks_1), .no, .no, .no, .no]) rfl ?_
  obtain ⟨rows_1, e2, h⟩ := letO_e h
  refine' sxs_cons (sx_set (i := 2) sc_read.nd rfl (by first | exact .inl rfl | exact .inr (.inl rfl) | exact .inr rfl) (ex_cv (ex_cv (r' := .nw ((eL rowD) [])) (ex_lst0 ax_nil) rfl) (congrArg (fun z => Rs.nw ((eL rowD) z)) e2)) ?_)
  refine SXs.as (ρ' := [.sh (D.str text), .od none ((eL (eP2 (eL rowD) (eL D.int))) blocks_1), .ow ((eL rowD) rows_1), .no, .no, .no]) rfl ?_
  refine' sxs_cons (sx_set (i := 3) sc_read.nd rfl (by first | exact .inl rfl | exact .inr (.inl rfl) | exact .inr rfl) ex_bl ?_)
  refine SXs.as (ρ' := [.sh (D.str text), .od none ((eL (eP2 (eL rowD) (eL D.int))) blocks_1), .ow ((eL rowD) rows_1), .sh (D.bl false), .no, .no]) rfl ?_
  obtain ⟨v_1, e3, h⟩ := bO h
  obtain ⟨r_1, e4, h⟩ := bO h
  refine' sxs_cons (sx_foldO (s0 := (blocks_1, rows_1, false)) (emb := (eL D.str)) (fun (s_1 : ((List ((List RowT) × (List Int))) × (List RowT) × Bool)) => [.sh (D.str text), .od none ((eL (eP2 (eL rowD) (eL D.int))) s_1.1), (if s_1.2.2 = true then .ow ((eL rowD) s_1.2.1) else .no), .sh (D.bl s_1.2.2), .no, .no]) PassesOwn.never ((it_list (ex_cv (r' := .sh ((eL (eL D.str)) v_1)) (ex_call1 (ok_worded T TB_is_name TB_is_way) (hr.mono (by decide)) (by rfl) T.g_worded T.F_worded.kp (b_worded T) pass0 (ax_cons (ex_var (pv 0) rfl) ax_nil) ⟨_, _, rfl, e3, rfl⟩) rfl)).it rfl) (pg_name (i := 4) sc_read.nd rfl (by first | exact .inl rfl | exact .inr (.inl rfl) | exact .inr rfl)) (.eq (.eq (.no (.eq (.eq (.eq .nil)))))) e4 (fun words_1 s_1 s' _ h => ⟨_, gv_name, ?_⟩) (fun ρ1 l1 => SXs.weak l1 ?_))
  ·
    refine SXs.as (ρ' := [.sh (D.str text), .od none ((eL (eP2 (eL rowD) (eL D.int))) s_1.1), (if s_1.2.2 = true then .ow ((eL rowD) s_1.2.1) else .no), .sh (D.bl s_1.2.2), .sh ((eL D.str) words_1), .no]) rfl ?_
    refine' sxs_cons (sx_if (tx_not (tx_val (ex_var (pv 3) rfl))) (fun hc14 => ?_) (fun hc14 => ?_))
    ·
      replace h := ite_t hc14 h
      have hz := (not_t hc14)
      refine SXs.as (ρ' := [.sh (D.str text), .od none ((eL (eP2 (eL rowD) (eL D.int))) s_1.1), .no, .sh (D.bl s_1.2.2), .sh ((eL D.str) words_1), .no]) (by rw [hz]; first | done | rfl) ?_
      obtain ⟨e5, h⟩ := chk_e h
      refine' sxs_cons (sx_if (tx_neE (eL D.str) hr.units (ex_var (pv 4) rfl) (ex_cv (r' := .nw ((eL D.str) [("block" : Str)])) (ex_lst1 (ax_cons ex_str ax_nil)) rfl) rfl rfl e5) (fun hc20 => ?_) (fun hc20 => ?_))
      ·
        replace h := ite_t hc20 h
        cases h
      ·
        replace h := ite_f hc20 h
        refine sxs_nil ?_
        obtain ⟨rows_2, e6, h⟩ := letO_e h
        refine' sxs_cons (sx_set (i := 2) sc_read.nd rfl (by first | exact .inl rfl | exact .inr (.inl rfl) | exact .inr rfl) (ex_cv (ex_cv (r' := .nw ((eL rowD) [])) (ex_lst0 ax_nil) rfl) (congrArg (fun z => Rs.nw ((eL rowD) z)) e6)) ?_)
        refine SXs.as (ρ' := [.sh (D.str text), .od none ((eL (eP2 (eL rowD) (eL D.int))) s_1.1), .ow ((eL rowD) rows_2), .sh (D.bl s_1.2.2), .sh ((eL D.str) words_1), .no]) rfl ?_
        refine' sxs_cons (sx_set (i := 3) sc_read.nd rfl (by first | exact .inl rfl | exact .inr (.inl rfl) | exact .inr rfl) ex_bl ?_)
        refine SXs.as (ρ' := [.sh (D.str text), .od none ((eL (eP2 (eL rowD) (eL D.int))) s_1.1), .ow ((eL rowD) rows_2), .sh (D.bl true), .sh ((eL D.str) words_1), .no]) rfl ?_
        refine sxs_nil ?_
        refine sxs_nil ?_
        obtain rfl := Option.some.inj h
        exact (.eq (.eq (.eq (.eq (.no (.eq .nil))))))
    ·
      replace h := ite_f hc14 h
      have hz := (not_f hc14)
      refine SXs.as (ρ' := [.sh (D.str text), .od none ((eL (eP2 (eL rowD) (eL D.int))) s_1.1), .ow ((eL rowD) s_1.2.1), .sh (D.bl s_1.2.2), .sh ((eL D.str) words_1), .no]) (by rw [hz]; first | done | rfl) ?_
      obtain ⟨v_2, e7, h⟩ := bO h
      refine' sxs_cons (sx_if (tx_val (ex_cv (r' := .sh (D.bl v_2)) (ex_call1 (ok_is_row T TB_is_name TB_is_way) (hr.mono (by decide)) (by rfl) T.g_is_row T.F_is_row.kp (b_is_row T) pass0 (ax_cons (ex_var (pv 4) rfl) ax_nil) ⟨_, _, rfl, e7, rfl⟩) rfl)) (fun hc41 => ?_) (fun hc41 => ?_))
      ·
        replace h := ite_t hc41 h
        obtain ⟨v_3, e8, h⟩ := bO h
        obtain ⟨e9, h⟩ := chk_e h
        obtain ⟨rows_3, e10, h⟩ := letO_e h
        refine' sxs_cons (sx_appE (pv 2) rfl (ex_cv (r' := .sh (rowD v_3)) (ex_call1 (ok_row_of T TB_is_name TB_is_way) (hr.mono (by decide)) (by rfl) T.g_row_of T.F_row_of.kp (b_row_of T) pass0 (ax_cons (ex_var (pv 4) rfl) ax_nil) ⟨_, _, rfl, e8, rfl⟩) rfl) e9 ?_)
        rw [e10]
        refine SXs.as (ρ' := [.sh (D.str text), .od none ((eL (eP2 (eL rowD) (eL D.int))) s_1.1), .ow ((eL rowD) rows_3), .sh (D.bl s_1.2.2), .sh ((eL D.str) words_1), .no]) rfl ?_
        refine sxs_nil ?_
        refine sxs_nil ?_
        refine sxs_nil ?_
        obtain rfl := Option.some.inj h
        exact (.eq (.eq (.eqq (by rw [hz]; first | done | rfl) (.eq (.no (.eq .nil))))))
      ·
        replace h := ite_f hc41 h
        obtain ⟨v_4, e11, h⟩ := bO h
        refine' sxs_cons (sx_if (tx_eqS (ex_ixE (em := D.str) (ex_var (pv 4) rfl) ex_int e11) ex_str) (fun hc58 => ?_) (fun hc58 => ?_))
        ·
          replace h := ite_t hc58 h
          obtain ⟨e12, h⟩ := chk_e h
          obtain ⟨e13, h⟩ := chk_e h
          obtain ⟨l_1, e15, h⟩ := bO h
          obtain ⟨blocks_2, e16, h⟩ := letO_e h
          refine' sxs_cons (sx_appMT (em := (eP2 (eL rowD) (eL D.int))) (v := (s_1.2.1, l_1)) (pv 1) rfl (pv 2) rfl ((inferInstance : ImO (eL rowD)).h _) (by decide) (ex_ndO (ex_lcM (ItX.c (it_list (ex_share (ex_slE (ex_var (pv 4) rfl) rfl (.inl ⟨_, rfl⟩) (ox_some ex_int) ox_none)))) (own := [("word", 5)]) rfl sc_read.nd (blkOk_by (N := ["text", "blocks", "rows", "is_open", "words", "word"]) (sc := defScope s_read) (by decide +kernel)) (fun _ _ _ _ _ => (pg_name (i := 5) sc_read.nd rfl (by first | exact .inl rfl | exact .inr (.inl rfl) | exact .inr rfl))) (fun wi itw => (ev_lcX (pO := fun word_1 => some true) (fO := fun word_1 => (f_way_of word_1).bind fun v_5 =>
some v_5) (emb := D.str) (eb := D.int) (mk := .sh) itw ((compO_map _).trans e15) (gset_name (by decide)) e13 (fun word_1 _ k h => by obtain rfl := Option.some.inj h; exact ⟨_, gv_name, (fun _ _ _ _ _ => txs_nil), fun _ b h => by obtain ⟨v_5, e14, h⟩ := bO h; obtain rfl := Option.some.inj h; exact fun _ _ _ _ _ => (ex_cv (r' := .sh (D.int v_5)) (ex_call1 (ok_way_of T TB_is_name TB_is_way) (hr.mono (by decide)) (by rfl) T.g_way_of T.F_way_of.kp (b_way_of T) pass0 (ax_cons (ex_var (pv 5) rfl) ax_nil) ⟨_, _, rfl, e14, rfl⟩) rfl)⟩)))) ((inferInstance : ImO (eL D.int)).h _)) rfl e12 ?_)
          rw [e16]
          refine SXs.as (ρ' := [.sh (D.str text), .od none ((eL (eP2 (eL rowD) (eL D.int))) blocks_2), .no, .sh (D.bl s_1.2.2), .sh ((eL D.str) words_1), .no]) rfl ?_
          refine' sxs_cons (sx_set (i := 3) sc_read.nd rfl (by first | exact .inl rfl | exact .inr (.inl rfl) | exact .inr rfl) ex_bl ?_)
          refine SXs.as (ρ' := [.sh (D.str text), .od none ((eL (eP2 (eL rowD) (eL D.int))) blocks_2), .no, .sh (D.bl false), .sh ((eL D.str) words_1), .no]) rfl ?_
          refine sxs_nil ?_
          refine sxs_nil ?_
          refine sxs_nil ?_
          refine sxs_nil ?_
          obtain rfl := Option.some.inj h
          exact (.eq (.eq (.eq (.eq (.no (.eq .nil))))))
        ·
          replace h := ite_f hc58 h
          cases h
  refine' sxs_cons (sx_if (tx_val (ex_var (pv 3) rfl)) (fun hc79 => ?_) (fun hc79 => ?_))
  ·
    replace h := ite_t hc79 h
    have hz := hc79
    refine SXs.as (ρ' := [.sh (D.str text), .od none ((eL (eP2 (eL rowD) (eL D.int))) r_1.1), .ow ((eL rowD) r_1.2.1), .sh (D.bl r_1.2.2), .no, .no]) (by rw [hz]; first | done | rfl) ?_
    cases h
  ·
    replace h := ite_f hc79 h
    have hz := hc79
    refine SXs.as (ρ' := [.sh (D.str text), .od none ((eL (eP2 (eL rowD) (eL D.int))) r_1.1), .no, .sh (D.bl r_1.2.2), .no, .no]) (by rw [hz]; first | done | rfl) ?_
    refine sxs_nil ?_
    obtain ⟨v_6, e17, h⟩ := bO h
    refine' sxs_cons (sx_ret (ex_cv (r' := .nd ((eL (eP2 (eL rowD) (eL D.int))) v_6)) (ex_callA (ok_checked T TB_is_name TB_is_way) (hr.mono (by decide)) (by rfl) T.g_checked T.F_checked.kp (b_checked T) pass0 (ax_cons (ex_varD (pv 1) rfl) ax_nil) ⟨_, _, rfl, e17, rfl⟩ rfl) rfl) ?_)
    exact congrArg (fun z => Rs.nd ((eL (eP2 (eL rowD) (eL D.int))) z)) (Option.some.inj h)
def R_l_cell_at (ds : List D) (r : Rs) : Prop := ∃ (script : (List Int)) (k : Int) (v : Int), ds = [D.scr script, D.int k] ∧ f_l_cell_at script k = some v ∧ r = .sh (D.int v)
theorem ok_l_cell_at (T : Txt K mg) (TB_is_name : GxR.TabB base mg (He.cT K ("is_name", none)).1 (He.cT K ("is_name", none)).2) (TB_is_way : GxR.TabB base mg (He.cT K ("is_way", none)).1 (He.cT K ("is_way", none)).2) : FnOk P w K mg base CX0 1 (He.fAd K ("_law_cell_at", none)) T.fd_l_cell_at ["_law_script", "_law_k"] (spR K R_l_cell_at) := by
  refine ok_fn T.F_l_cell_at sc_l_cell_at (fun ds r hR => ?_) (fun cdv A outer s H ds r E W hr hR => ?_)
  · obtain ⟨script, k, v, rfl, _⟩ := hR; rfl
  obtain ⟨script, k, v, rfl, h, rfl⟩ := hR
  unfold f_l_cell_at at h
  refine SXs.as (ρ' := [.sh (D.scr script), .sh (D.int k)]) rfl ?_
  refine' sxs_cons (sx_if (tx_lt (ex_var (pv 1) rfl) (ex_callB call_len_seq on_lenC (by rfl) T.g_len PySem.boot_len (ax_cons (ex_var (pv 0) rfl) ax_nil))) (fun hc1 => ?_) (fun hc1 => ?_))
  ·
    replace h := ite_t hc1 h
    obtain ⟨v_1, e1, h⟩ := bO h
    refine' sxs_cons (sx_ret (ex_ix ix_list (o2_ixC e1) (ex_var (pv 0) rfl) (ex_var (pv 1) rfl)) ?_)
    exact congrArg (fun z => Rs.sh (D.int z)) (Option.some.inj h)
  ·
    replace h := ite_f hc1 h
    refine sxs_nil ?_
    refine' sxs_cons (sx_if (tx_eqI (ex_callB call_len_seq on_lenC (by rfl) T.g_len PySem.boot_len (ax_cons (ex_var (pv 0) rfl) ax_nil)) ex_int) (fun hc10 => ?_) (fun hc10 => ?_))
    ·
      replace h := ite_t hc10 h
      obtain ⟨e2, h⟩ := chk_e h
      refine' sxs_cons (sx_ret (ex_add (ex_mulO (ex_mul ex_int (ex_var (pv 1) rfl) (.inl ⟨by decide, by decide⟩)) (ex_var (pv 1) rfl) e2) (ex_mul ex_int (ex_var (pv 1) rfl) (.inl ⟨by decide, by decide⟩))) ?_)
      exact congrArg (fun z => Rs.sh (D.int z)) (Option.some.inj h)
    ·
      replace h := ite_f hc10 h
      refine sxs_nil ?_
      obtain ⟨e3, h⟩ := chk_e h
      obtain ⟨v_2, e4, h⟩ := bO h
      obtain ⟨e5, h⟩ := chk_e h
      obtain ⟨e6, h⟩ := chk_e h
      refine' sxs_cons (sx_ret (ex_add (ex_add (ex_mulO (ex_ix ix_list (o2_ixC e4) (ex_var (pv 0) rfl) (ex_mod (ex_var (pv 1) rfl) (ex_callB call_len_seq on_lenC (by rfl) T.g_len PySem.boot_len (ax_cons (ex_var (pv 0) rfl) ax_nil)) e3)) (ex_add (ex_mul ex_int (ex_var (pv 1) rfl) (.inl ⟨by decide, by decide⟩)) ex_int) e5) (ex_mulO (ex_mul ex_int (ex_var (pv 1) rfl) (.inl ⟨by decide, by decide⟩)) (ex_var (pv 1) rfl) e6)) (ex_mul ex_int (ex_var (pv 1) rfl) (.inl ⟨by decide, by decide⟩))) ?_)
      exact congrArg (fun z => Rs.sh (D.int z)) (Option.some.inj h)
def R_l_drawn (ds : List D) (r : Rs) : Prop := ∃ (script : (List Int)) (k : Int) (v : Int), ds = [D.scr script, D.int k] ∧ f_l_drawn script k = some v ∧ r = .sh (D.int v)
theorem ok_l_drawn (T : Txt K mg) (TB_is_name : GxR.TabB base mg (He.cT K ("is_name", none)).1 (He.cT K ("is_name", none)).2) (TB_is_way : GxR.TabB base mg (He.cT K ("is_way", none)).1 (He.cT K ("is_way", none)).2) : FnOk P w K mg base CX0 2 (He.fAd K ("_law_drawn", none)) T.fd_l_drawn ["_law_script", "_law_k"] (spR K R_l_drawn) := by
  refine ok_fn T.F_l_drawn sc_l_drawn (fun ds r hR => ?_) (fun cdv A outer s H ds r E W hr hR => ?_)
  · obtain ⟨script, k, v, rfl, _⟩ := hR; rfl
  obtain ⟨script, k, v, rfl, h, rfl⟩ := hR
  unfold f_l_drawn at h
  refine SXs.as (ρ' := [.sh (D.scr script), .sh (D.int k)]) rfl ?_
  obtain ⟨v_1, e1, h⟩ := bO h
  refine' sxs_cons (sx_ret (ex_mod (ex_mul (ex_cv (r' := .sh (D.int v_1)) (ex_call2 (ok_l_cell_at T TB_is_name TB_is_way) (hr.mono (by decide)) (by rfl) T.g_l_cell_at T.F_l_cell_at.kp (b_l_cell_at T) pass0 (ax_cons (ex_var (pv 0) rfl) (ax_cons (ex_var (pv 1) rfl) ax_nil)) ⟨_, _, _, rfl, e1, rfl⟩) rfl) ex_int (.inr ⟨by decide, by decide⟩)) ex_int (by decide)) ?_)
  exact congrArg (fun z => Rs.sh (D.int z)) (Option.some.inj h)
def R_l_rest_by (ds : List D) (r : Rs) : Prop := ∃ (cell : Int) (most : Int) (v : Str), ds = [D.int cell, D.int most] ∧ f_l_rest_by cell most = some v ∧ r = .sh (D.str v)
theorem ok_l_rest_by (T : Txt K mg) (TB_is_name : GxR.TabB base mg (He.cT K ("is_name", none)).1 (He.cT K ("is_name", none)).2) (TB_is_way : GxR.TabB base mg (He.cT K ("is_way", none)).1 (He.cT K ("is_way", none)).2) : FnOk P w K mg base CX0 1 (He.fAd K ("_law_rest_by", none)) T.fd_l_rest_by ["_law_cell", "_law_most"] (spR K R_l_rest_by) := by
  refine ok_fn T.F_l_rest_by sc_l_rest_by (fun ds r hR => ?_) (fun cdv A outer s H ds r E W hr hR => ?_)
  · obtain ⟨cell, most, v, rfl, _⟩ := hR; rfl
  obtain ⟨cell, most, v, rfl, h, rfl⟩ := hR
  unfold f_l_rest_by at h
  refine SXs.as (ρ' := [.sh (D.int cell), .sh (D.int most), .no, .no, .no]) rfl ?_
  obtain ⟨some_1, e1, h⟩ := letO_e h
  refine' sxs_cons (sx_set (i := 2) sc_l_rest_by.nd rfl (by first | exact .inl rfl | exact .inr (.inl rfl) | exact .inr rfl) (ex_cv ex_str (congrArg (fun z => Rs.sh (D.str z)) e1)) ?_)
  refine SXs.as (ρ' := [.sh (D.int cell), .sh (D.int most), .sh (D.str some_1), .no, .no]) rfl ?_
  obtain ⟨rest_1, e2, h⟩ := letO_e h
  refine' sxs_cons (sx_set (i := 3) sc_l_rest_by.nd rfl (by first | exact .inl rfl | exact .inr (.inl rfl) | exact .inr rfl) (ex_cv ex_str (congrArg (fun z => Rs.sh (D.str z)) e2)) ?_)
  refine SXs.as (ρ' := [.sh (D.int cell), .sh (D.int most), .sh (D.str some_1), .sh (D.str rest_1), .no]) rfl ?_
  obtain ⟨e3, h⟩ := chk_e h
  obtain ⟨e4, h⟩ := chk_e h
  obtain ⟨r_1, e5, h⟩ := bO h
  refine' sxs_cons (sx_foldO (s0 := (cell, rest_1)) (emb := D.int) (fun (s_1 : (Int × Str)) => [.sh (D.int s_1.1), .sh (D.int most), .sh (D.str some_1), .sh (D.str s_1.2), .no]) PassesOwn.never ((it_rng (by rfl) T.g_range (ex_mod (ex_var (pv 0) rfl) (ex_var (pv 1) rfl) e3) e4).it rfl) (pg_name (i := 4) sc_l_rest_by.nd rfl (by first | exact .inl rfl | exact .inr (.inl rfl) | exact .inr rfl)) (.eq (.eq (.eq (.eq (.eq .nil))))) e5 (fun turn_1 s_1 s' _ h => ⟨_, gv_name, ?_⟩) (fun ρ1 l1 => SXs.weak l1 ?_))
  ·
    refine SXs.as (ρ' := [.sh (D.int s_1.1), .sh (D.int most), .sh (D.str some_1), .sh (D.str s_1.2), .sh (D.int turn_1)]) rfl ?_
    obtain ⟨cell_1, e6, h⟩ := letO_e h
    refine' sxs_cons (sx_set (i := 0) sc_l_rest_by.nd rfl (by first | exact .inl rfl | exact .inr (.inl rfl) | exact .inr rfl) (ex_cv (ex_add (ex_fdiv (ex_var (pv 0) rfl) ex_int ⟨by decide, by decide⟩) (ex_mul ex_int (ex_var (pv 4) rfl) (.inl ⟨by decide, by decide⟩))) (congrArg (fun z => Rs.sh (D.int z)) e6)) ?_)
    refine SXs.as (ρ' := [.sh (D.int cell_1), .sh (D.int most), .sh (D.str some_1), .sh (D.str s_1.2), .sh (D.int turn_1)]) rfl ?_
    obtain ⟨e7, h⟩ := chk_e h
    obtain ⟨c_1, e8, h⟩ := bO h
    obtain ⟨e9, h⟩ := chk_e h
    obtain ⟨rest_2, e10, h⟩ := letO_e h
    refine' sxs_cons (sx_set (i := 3) sc_l_rest_by.nd rfl (by first | exact .inl rfl | exact .inr (.inl rfl) | exact .inr rfl) (ex_cv (ex_addS (ex_var (pv 3) rfl) (ex_ix ix_str (o2_ixS e7 e8) (ex_var (pv 2) rfl) (ex_mod (ex_var (pv 0) rfl) ex_int (by decide))) e9) (congrArg (fun z => Rs.sh (D.str z)) e10)) ?_)
    refine SXs.as (ρ' := [.sh (D.int cell_1), .sh (D.int most), .sh (D.str some_1), .sh (D.str rest_2), .sh (D.int turn_1)]) rfl ?_
    refine sxs_nil ?_
    obtain rfl := Option.some.inj h
    exact (.eq (.eq (.eq (.eq (.no .nil)))))
  refine' sxs_cons (sx_ret (ex_var (pv 3) rfl) ?_)
  exact congrArg (fun z => Rs.sh (D.str z)) (Option.some.inj h)
def R_l_own_sign (ds : List D) (r : Rs) : Prop := ∃ (script : (List Int)) (k : Int) (v : Str), ds = [D.scr script, D.int k] ∧ f_l_own_sign script k = some v ∧ r = .sh (D.str v)
theorem ok_l_own_sign (T : Txt K mg) (TB_is_name : GxR.TabB base mg (He.cT K ("is_name", none)).1 (He.cT K ("is_name", none)).2) (TB_is_way : GxR.TabB base mg (He.cT K ("is_way", none)).1 (He.cT K ("is_way", none)).2) : FnOk P w K mg base CX0 3 (He.fAd K ("_law_own_sign", none)) T.fd_l_own_sign ["_law_script", "_law_k"] (spR K R_l_own_sign) := by
  refine ok_fn T.F_l_own_sign sc_l_own_sign (fun ds r hR => ?_) (fun cdv A outer s H ds r E W hr hR => ?_)
  · obtain ⟨script, k, v, rfl, _⟩ := hR; rfl
  obtain ⟨script, k, v, rfl, h, rfl⟩ := hR
  unfold f_l_own_sign at h
  refine SXs.as (ρ' := [.sh (D.scr script), .sh (D.int k), .no, .no, .no, .no, .no, .no]) rfl ?_
  obtain ⟨some_1, e1, h⟩ := letO_e h
  refine' sxs_cons (sx_set (i := 2) sc_l_own_sign.nd rfl (by first | exact .inl rfl | exact .inr (.inl rfl) | exact .inr rfl) (ex_cv ex_str (congrArg (fun z => Rs.sh (D.str z)) e1)) ?_)
  refine SXs.as (ρ' := [.sh (D.scr script), .sh (D.int k), .sh (D.str some_1), .no, .no, .no, .no, .no]) rfl ?_
  obtain ⟨v_1, e2, h⟩ := bO h
  refine' sxs_cons (sx_set (i := 3) sc_l_own_sign.nd rfl (by first | exact .inl rfl | exact .inr (.inl rfl) | exact .inr rfl) (ex_cv (r' := .sh (D.int v_1)) (ex_call2 (ok_l_drawn T TB_is_name TB_is_way) (hr.mono (by decide)) (by rfl) T.g_l_drawn T.F_l_drawn.kp (b_l_drawn T) pass0 (ax_cons (ex_var (pv 0) rfl) (ax_cons ex_int ax_nil)) ⟨_, _, _, rfl, e2, rfl⟩) rfl) ?_)
  refine SXs.as (ρ' := [.sh (D.scr script), .sh (D.int k), .sh (D.str some_1), .sh (D.int v_1), .no, .no, .no, .no]) rfl ?_
  obtain ⟨e3, h⟩ := chk_e h
  obtain ⟨v_2, e4, h⟩ := bO h
  obtain ⟨v_3, e5, h⟩ := bO h
  refine' sxs_cons (sx_set (i := 4) sc_l_own_sign.nd rfl (by first | exact .inl rfl | exact .inr (.inl rfl) | exact .inr rfl) (ex_cv (r' := .sh (D.str v_3)) (ex_call2 (ok_l_rest_by T TB_is_name TB_is_way) (hr.mono (by decide)) (by rfl) T.g_l_rest_by T.F_l_rest_by.kp (b_l_rest_by T) pass0 (ax_cons (ex_cv (r' := .sh (D.int v_2)) (ex_call2 (ok_l_drawn T TB_is_name TB_is_way) (hr.mono (by decide)) (by rfl) T.g_l_drawn T.F_l_drawn.kp (b_l_drawn T) pass0 (ax_cons (ex_var (pv 0) rfl) (ax_cons (ex_add ex_int (ex_mulO (ex_var (pv 1) rfl) (ex_mod (ex_var (pv 3) rfl) ex_int (by decide)) e3)) ax_nil)) ⟨_, _, _, rfl, e4, rfl⟩) rfl) (ax_cons ex_int ax_nil)) ⟨_, _, _, rfl, e5, rfl⟩) rfl) ?_)
  refine SXs.as (ρ' := [.sh (D.scr script), .sh (D.int k), .sh (D.str some_1), .sh (D.int v_1), .sh (D.str v_3), .no, .no, .no]) rfl ?_
  obtain ⟨e6, h⟩ := chk_e h
  obtain ⟨at__1, e7, h⟩ := letO_e h
  refine' sxs_cons (sx_set (i := 5) sc_l_own_sign.nd rfl (by first | exact .inl rfl | exact .inr (.inl rfl) | exact .inr rfl) (ex_cv (ex_callB (call_min2 rfl) on_min2 (by rfl) T.g_min (by decide +kernel) (ax_cons (ex_mod (ex_fdiv (ex_var (pv 3) rfl) ex_int ⟨by decide, by decide⟩) ex_int (by decide)) (ax_cons (ex_callB call_len_str (on_lenS e6) (by rfl) T.g_len PySem.boot_len (ax_cons (ex_var (pv 4) rfl) ax_nil)) ax_nil))) (congrArg (fun z => Rs.sh (D.int z)) e7)) ?_)
  refine SXs.as (ρ' := [.sh (D.scr script), .sh (D.int k), .sh (D.str some_1), .sh (D.int v_1), .sh (D.str v_3), .sh (D.int at__1), .no, .no]) rfl ?_
  obtain ⟨e8, h⟩ := chk_e h
  obtain ⟨far_1, e9, h⟩ := letO_e h
  refine' sxs_cons (sx_set (i := 6) sc_l_own_sign.nd rfl (by first | exact .inl rfl | exact .inr (.inl rfl) | exact .inr rfl) (ex_cv (ex_callB (call_min2 rfl) on_min2 (by rfl) T.g_min (by decide +kernel) (ax_cons (ex_add (ex_var (pv 5) rfl) (ex_mod (ex_fdiv (ex_var (pv 3) rfl) ex_int ⟨by decide, by decide⟩) ex_int (by decide))) (ax_cons (ex_callB call_len_str (on_lenS e8) (by rfl) T.g_len PySem.boot_len (ax_cons (ex_var (pv 4) rfl) ax_nil)) ax_nil))) (congrArg (fun z => Rs.sh (D.int z)) e9)) ?_)
  refine SXs.as (ρ' := [.sh (D.scr script), .sh (D.int k), .sh (D.str some_1), .sh (D.int v_1), .sh (D.str v_3), .sh (D.int at__1), .sh (D.int far_1), .no]) rfl ?_
  obtain ⟨e10, h⟩ := chk_e h
  obtain ⟨e11, h⟩ := chk_e h
  obtain ⟨c_1, e12, h⟩ := bO h
  obtain ⟨e13, h⟩ := chk_e h
  obtain ⟨e14, h⟩ := chk_e h
  obtain ⟨e15, h⟩ := chk_e h
  obtain ⟨name_1, e16, h⟩ := letO_e h
  refine' sxs_cons (sx_set (i := 7) sc_l_own_sign.nd rfl (by first | exact .inl rfl | exact .inr (.inl rfl) | exact .inr rfl) (ex_cv (ex_addS (ex_addS (ex_slS (ex_var (pv 4) rfl) e10 ox_none (ox_some (ex_var (pv 5) rfl))) (ex_ix ix_str (o2_ixS e11 e12) (ex_var (pv 2) rfl) (ex_fdiv (ex_var (pv 1) rfl) ex_int ⟨by decide, by decide⟩)) e13) (ex_slS (ex_var (pv 4) rfl) e14 (ox_some (ex_var (pv 5) rfl)) (ox_some (ex_var (pv 6) rfl))) e15) (congrArg (fun z => Rs.sh (D.str z)) e16)) ?_)
  refine SXs.as (ρ' := [.sh (D.scr script), .sh (D.int k), .sh (D.str some_1), .sh (D.int v_1), .sh (D.str v_3), .sh (D.int at__1), .sh (D.int far_1), .sh (D.str name_1)]) rfl ?_
  obtain ⟨e17, h⟩ := chk_e h
  obtain ⟨c_2, e18, h⟩ := bO h
  obtain ⟨e19, h⟩ := chk_e h
  obtain ⟨e20, h⟩ := chk_e h
  obtain ⟨e21, h⟩ := chk_e h
  refine' sxs_cons (sx_ret (ex_addS (ex_addS (ex_var (pv 7) rfl) (ex_ix ix_str (o2_ixS e17 e18) (ex_var (pv 2) rfl) (ex_mod (ex_add (ex_fdiv (ex_var (pv 3) rfl) ex_int ⟨by decide, by decide⟩) (ex_var (pv 1) rfl)) ex_int (by decide))) e19) (ex_slS (ex_var (pv 4) rfl) e20 (ox_some (ex_var (pv 6) rfl)) ox_none) e21) ?_)
  exact congrArg (fun z => Rs.sh (D.str z)) (Option.some.inj h)
def R_l_names_by (ds : List D) (r : Rs) : Prop := ∃ (script : (List Int)) (v : (List Str)), ds = [D.scr script] ∧ f_l_names_by script = some v ∧ r = .nw ((eL D.str) v)
theorem ok_l_names_by (T : Txt K mg) (TB_is_name : GxR.TabB base mg (He.cT K ("is_name", none)).1 (He.cT K ("is_name", none)).2) (TB_is_way : GxR.TabB base mg (He.cT K ("is_way", none)).1 (He.cT K ("is_way", none)).2) : FnOk P w K mg base CX0 3 (He.fAd K ("_law_names_by", none)) T.fd_l_names_by ["_law_script"] (spR K R_l_names_by) := by
  refine ok_fn T.F_l_names_by sc_l_names_by (fun ds r hR => ?_) (fun cdv A outer s H ds r E W hr hR => ?_)
  · obtain ⟨script, v, rfl, _⟩ := hR; rfl
  obtain ⟨script, v, rfl, h, rfl⟩ := hR
  unfold f_l_names_by at h
  refine SXs.as (ρ' := [.sh (D.scr script), .no, .no, .no, .no, .no, .no, .no, .no]) rfl ?_
  obtain ⟨some_1, e1, h⟩ := letO_e h
  refine' sxs_cons (sx_set (i := 1) sc_l_names_by.nd rfl (by first | exact .inl rfl | exact .inr (.inl rfl) | exact .inr rfl) (ex_cv ex_str (congrArg (fun z => Rs.sh (D.str z)) e1)) ?_)
  refine SXs.as (ρ' := [.sh (D.scr script), .sh (D.str some_1), .no, .no, .no, .no, .no, .no, .no]) rfl ?_
  obtain ⟨v_1, e2, h⟩ := bO h
  obtain ⟨many_1, e3, h⟩ := letO_e h
  refine' sxs_cons (sx_set (i := 2) sc_l_names_by.nd rfl (by first | exact .inl rfl | exact .inr (.inl rfl) | exact .inr rfl) (ex_cv (ex_add ex_int (ex_mod (ex_fdiv (ex_cv (r' := .sh (D.int v_1)) (ex_call2 (ok_l_drawn T TB_is_name TB_is_way) (hr.mono (by decide)) (by rfl) T.g_l_drawn T.F_l_drawn.kp (b_l_drawn T) pass0 (ax_cons (ex_var (pv 0) rfl) (ax_cons ex_int ax_nil)) ⟨_, _, _, rfl, e2, rfl⟩) rfl) ex_int ⟨by decide, by decide⟩) ex_int (by decide))) (congrArg (fun z => Rs.sh (D.int z)) e3)) ?_)
  refine SXs.as (ρ' := [.sh (D.scr script), .sh (D.str some_1), .sh (D.int many_1), .no, .no, .no, .no, .no, .no]) rfl ?_
  obtain ⟨v_2, e4, h⟩ := bO h
  obtain ⟨j_1, e5, h⟩ := bO h
  refine' sxs_cons (sx_ifJ [.sh (D.scr script), .sh (D.str some_1), .sh (D.int j_1), .no, .no, .no, .no, .no, .no] (tx_eqI (ex_mod (ex_cv (r' := .sh (D.int v_2)) (ex_call2 (ok_l_drawn T TB_is_name TB_is_way) (hr.mono (by decide)) (by rfl) T.g_l_drawn T.F_l_drawn.kp (b_l_drawn T) pass0 (ax_cons (ex_var (pv 0) rfl) (ax_cons ex_int ax_nil)) ⟨_, _, _, rfl, e4, rfl⟩) rfl) ex_int (by decide)) ex_int) (fun hc9 => ?_) (fun hc9 => ?_) (fun ρ1 l1 => SXs.weak l1 ?_))
  ·
    have h := ite_t hc9 e5
    obtain ⟨v_3, e6, h⟩ := bO h
    obtain ⟨many_2, e7, h⟩ := letO_e h
    refine' sxs_cons (sx_set (i := 2) sc_l_names_by.nd rfl (by first | exact .inl rfl | exact .inr (.inl rfl) | exact .inr rfl) (ex_cv (ex_add ex_int (ex_mod (ex_fdiv (ex_cv (r' := .sh (D.int v_3)) (ex_call2 (ok_l_drawn T TB_is_name TB_is_way) (hr.mono (by decide)) (by rfl) T.g_l_drawn T.F_l_drawn.kp (b_l_drawn T) pass0 (ax_cons (ex_var (pv 0) rfl) (ax_cons ex_int ax_nil)) ⟨_, _, _, rfl, e6, rfl⟩) rfl) ex_int ⟨by decide, by decide⟩) ex_int (by decide))) (congrArg (fun z => Rs.sh (D.int z)) e7)) ?_)
    refine SXs.as (ρ' := [.sh (D.scr script), .sh (D.str some_1), .sh (D.int many_2), .no, .no, .no, .no, .no, .no]) rfl ?_
    refine sxs_nil ?_
    obtain rfl := Option.some.inj h; exact (.eq (.eq (.eq (.eq (.eq (.eq (.eq (.eq (.eq .nil)))))))))
  ·
    have h := ite_f hc9 e5
    refine sxs_nil ?_
    obtain rfl := Option.some.inj h; exact (.eq (.eq (.eq (.eq (.eq (.eq (.eq (.eq (.eq .nil)))))))))
  obtain ⟨v_4, e8, h⟩ := bO h
  refine' sxs_cons (sx_set (i := 3) sc_l_names_by.nd rfl (by first | exact .inl rfl | exact .inr (.inl rfl) | exact .inr rfl) (ex_cv (r' := .sh (D.int v_4)) (ex_call2 (ok_l_drawn T TB_is_name TB_is_way) (hr.mono (by decide)) (by rfl) T.g_l_drawn T.F_l_drawn.kp (b_l_drawn T) pass0 (ax_cons (ex_var (pv 0) rfl) (ax_cons ex_int ax_nil)) ⟨_, _, _, rfl, e8, rfl⟩) rfl) ?_)
  refine SXs.as (ρ' := [.sh (D.scr script), .sh (D.str some_1), .sh (D.int j_1), .sh (D.int v_4), .no, .no, .no, .no, .no]) rfl ?_
  obtain ⟨names_1, e9, h⟩ := letO_e h
  refine' sxs_cons (sx_set (i := 4) sc_l_names_by.nd rfl (by first | exact .inl rfl | exact .inr (.inl rfl) | exact .inr rfl) (ex_cv (ex_cv (r' := .nw ((eL D.str) [])) (ex_lst0 ax_nil) rfl) (congrArg (fun z => Rs.nw ((eL D.str) z)) e9)) ?_)
  refine SXs.as (ρ' := [.sh (D.scr script), .sh (D.str some_1), .sh (D.int j_1), .sh (D.int v_4), .ow ((eL D.str) names_1), .no, .no, .no, .no]) rfl ?_
  obtain ⟨e10, h⟩ := chk_e h
  obtain ⟨r_1, e11, h⟩ := bO h
  refine' sxs_cons (sx_foldO (s0 := names_1) (emb := D.int) (fun (s_1 : ((List Str))) => [.sh (D.scr script), .sh (D.str some_1), .sh (D.int j_1), .sh (D.int v_4), .ow ((eL D.str) s_1), .no, .no, .no, .no]) PassesOwn.never ((it_rng (by rfl) T.g_range (ex_var (pv 2) rfl) e10).it rfl) (pg_name (i := 5) sc_l_names_by.nd rfl (by first | exact .inl rfl | exact .inr (.inl rfl) | exact .inr rfl)) (.eq (.eq (.eq (.eq (.eq (.eq (.eq (.eq (.eq .nil))))))))) e11 (fun k_1 s_1 s' _ h => ⟨_, gv_name, ?_⟩) (fun ρ1 l1 => SXs.weak l1 ?_))
  ·
    refine SXs.as (ρ' := [.sh (D.scr script), .sh (D.str some_1), .sh (D.int j_1), .sh (D.int v_4), .ow ((eL D.str) s_1), .sh (D.int k_1), .no, .no, .no]) rfl ?_
    obtain ⟨e12, h⟩ := chk_e h
    obtain ⟨v_5, e13, h⟩ := bO h
    obtain ⟨v_6, e14, h⟩ := bO h
    refine' sxs_cons (sx_set (i := 6) sc_l_names_by.nd rfl (by first | exact .inl rfl | exact .inr (.inl rfl) | exact .inr rfl) (ex_cv (r' := .sh (D.str v_6)) (ex_call2 (ok_l_rest_by T TB_is_name TB_is_way) (hr.mono (by decide)) (by rfl) T.g_l_rest_by T.F_l_rest_by.kp (b_l_rest_by T) pass0 (ax_cons (ex_cv (r' := .sh (D.int v_5)) (ex_call2 (ok_l_drawn T TB_is_name TB_is_way) (hr.mono (by decide)) (by rfl) T.g_l_drawn T.F_l_drawn.kp (b_l_drawn T) pass0 (ax_cons (ex_var (pv 0) rfl) (ax_cons (ex_add ex_int (ex_mulO (ex_var (pv 5) rfl) (ex_mod (ex_var (pv 3) rfl) ex_int (by decide)) e12)) ax_nil)) ⟨_, _, _, rfl, e13, rfl⟩) rfl) (ax_cons ex_int ax_nil)) ⟨_, _, _, rfl, e14, rfl⟩) rfl) ?_)
    refine SXs.as (ρ' := [.sh (D.scr script), .sh (D.str some_1), .sh (D.int j_1), .sh (D.int v_4), .ow ((eL D.str) s_1), .sh (D.int k_1), .sh (D.str v_6), .no, .no]) rfl ?_
    obtain ⟨e15, h⟩ := chk_e h
    obtain ⟨at__1, e16, h⟩ := letO_e h
    refine' sxs_cons (sx_set (i := 7) sc_l_names_by.nd rfl (by first | exact .inl rfl | exact .inr (.inl rfl) | exact .inr rfl) (ex_cv (ex_callB (call_min2 rfl) on_min2 (by rfl) T.g_min (by decide +kernel) (ax_cons (ex_mod (ex_fdiv (ex_var (pv 3) rfl) ex_int ⟨by decide, by decide⟩) ex_int (by decide)) (ax_cons (ex_callB call_len_str (on_lenS e15) (by rfl) T.g_len PySem.boot_len (ax_cons (ex_var (pv 6) rfl) ax_nil)) ax_nil))) (congrArg (fun z => Rs.sh (D.int z)) e16)) ?_)
    refine SXs.as (ρ' := [.sh (D.scr script), .sh (D.str some_1), .sh (D.int j_1), .sh (D.int v_4), .ow ((eL D.str) s_1), .sh (D.int k_1), .sh (D.str v_6), .sh (D.int at__1), .no]) rfl ?_
    obtain ⟨e17, h⟩ := chk_e h
    obtain ⟨e18, h⟩ := chk_e h
    obtain ⟨c_1, e19, h⟩ := bO h
    obtain ⟨e20, h⟩ := chk_e h
    obtain ⟨e21, h⟩ := chk_e h
    obtain ⟨e22, h⟩ := chk_e h
    obtain ⟨name_1, e23, h⟩ := letO_e h
    refine' sxs_cons (sx_set (i := 8) sc_l_names_by.nd rfl (by first | exact .inl rfl | exact .inr (.inl rfl) | exact .inr rfl) (ex_cv (ex_addS (ex_addS (ex_slS (ex_var (pv 6) rfl) e17 ox_none (ox_some (ex_var (pv 7) rfl))) (ex_ix ix_str (o2_ixS e18 e19) (ex_var (pv 1) rfl) (ex_mod (ex_add (ex_fdiv (ex_var (pv 3) rfl) ex_int ⟨by decide, by decide⟩) (ex_var (pv 5) rfl)) ex_int (by decide))) e20) (ex_slS (ex_var (pv 6) rfl) e21 (ox_some (ex_var (pv 7) rfl)) ox_none) e22) (congrArg (fun z => Rs.sh (D.str z)) e23)) ?_)
    refine SXs.as (ρ' := [.sh (D.scr script), .sh (D.str some_1), .sh (D.int j_1), .sh (D.int v_4), .ow ((eL D.str) s_1), .sh (D.int k_1), .sh (D.str v_6), .sh (D.int at__1), .sh (D.str name_1)]) rfl ?_
    obtain ⟨j_2, e24, h⟩ := bO h
    refine' sxs_cons (sx_ifJ [.sh (D.scr script), .sh (D.str some_1), .sh (D.int j_1), .sh (D.int v_4), .ow ((eL D.str) s_1), .sh (D.int k_1), .sh (D.str v_6), .sh (D.int at__1), .sh (D.str j_2)] (tx_gt (ex_var (pv 2) rfl) ex_int) (fun hc52 => ?_) (fun hc52 => ?_) (fun ρ1 l1 => SXs.weak l1 ?_))
    ·
      have h := ite_t hc52 e24
      obtain ⟨e25, h⟩ := chk_e h
      obtain ⟨c_2, e26, h⟩ := bO h
      obtain ⟨e27, h⟩ := chk_e h
      obtain ⟨name_2, e28, h⟩ := letO_e h
      refine' sxs_cons (sx_set (i := 8) sc_l_names_by.nd rfl (by first | exact .inl rfl | exact .inr (.inl rfl) | exact .inr rfl) (ex_cv (ex_addS (ex_ix ix_str (o2_ixS e25 e26) (ex_var (pv 1) rfl) (ex_fdiv (ex_var (pv 5) rfl) ex_int ⟨by decide, by decide⟩)) (ex_var (pv 8) rfl) e27) (congrArg (fun z => Rs.sh (D.str z)) e28)) ?_)
      refine SXs.as (ρ' := [.sh (D.scr script), .sh (D.str some_1), .sh (D.int j_1), .sh (D.int v_4), .ow ((eL D.str) s_1), .sh (D.int k_1), .sh (D.str v_6), .sh (D.int at__1), .sh (D.str name_2)]) rfl ?_
      refine sxs_nil ?_
      obtain rfl := Option.some.inj h; exact (.eq (.eq (.eq (.eq (.eq (.eq (.eq (.eq (.eq .nil)))))))))
    ·
      have h := ite_f hc52 e24
      refine sxs_nil ?_
      obtain rfl := Option.some.inj h; exact (.eq (.eq (.eq (.eq (.eq (.eq (.eq (.eq (.eq .nil)))))))))
    obtain ⟨e29, h⟩ := chk_e h
    obtain ⟨names_2, e30, h⟩ := letO_e h
    refine' sxs_cons (sx_appE (pv 4) rfl (ex_var (pv 8) rfl) e29 ?_)
    rw [e30]
    refine SXs.as (ρ' := [.sh (D.scr script), .sh (D.str some_1), .sh (D.int j_1), .sh (D.int v_4), .ow ((eL D.str) names_2), .sh (D.int k_1), .sh (D.str v_6), .sh (D.int at__1), .sh (D.str j_2)]) rfl ?_
    refine sxs_nil ?_
    obtain rfl := Option.some.inj h
    exact (.eq (.eq (.eq (.eq (.eq (.no (.no (.no (.no .nil)))))))))
  refine' sxs_cons (sx_retO (pv 4) rfl ?_)
  exact congrArg (fun z => Rs.nw ((eL D.str) z)) (Option.some.inj h)
def R_l_row_by (ds : List D) (r : Rs) : Prop := ∃ (cell : Int) (names : (List Str)) (sign : Str) (v : RowT), ds = [D.int cell, (eL D.str) names, D.str sign] ∧ f_l_row_by cell names sign = some v ∧ r = .sh (rowD v)
theorem ok_l_row_by (T : Txt K mg) (TB_is_name : GxR.TabB base mg (He.cT K ("is_name", none)).1 (He.cT K ("is_name", none)).2) (TB_is_way : GxR.TabB base mg (He.cT K ("is_way", none)).1 (He.cT K ("is_way", none)).2) : FnOk P w K mg base CX0 1 (He.fAd K ("_law_row_by", none)) T.fd_l_row_by ["_law_cell", "_law_names", "_law_sign"] (spR K R_l_row_by) := by
  refine ok_fn T.F_l_row_by sc_l_row_by (fun ds r hR => ?_) (fun cdv A outer s H ds r E W hr hR => ?_)
  · obtain ⟨cell, names, sign, v, rfl, _⟩ := hR; rfl
  obtain ⟨cell, names, sign, v, rfl, h, rfl⟩ := hR
  unfold f_l_row_by at h
  refine SXs.as (ρ' := [.sh (D.int cell), .sh ((eL D.str) names), .sh (D.str sign), .no, .no, .no]) rfl ?_
  obtain ⟨many_1, e1, h⟩ := letO_e h
  refine' sxs_cons (sx_set (i := 3) sc_l_row_by.nd rfl (by first | exact .inl rfl | exact .inr (.inl rfl) | exact .inr rfl) (ex_cv (ex_callB call_len_seq (on_lenE (em := D.str) rfl) (by rfl) T.g_len PySem.boot_len (ax_cons (ex_var (pv 1) rfl) ax_nil)) (congrArg (fun z => Rs.sh (D.int z)) e1)) ?_)
  refine SXs.as (ρ' := [.sh (D.int cell), .sh ((eL D.str) names), .sh (D.str sign), .sh (D.int many_1), .no, .no]) rfl ?_
  obtain ⟨e2, h⟩ := chk_e h
  obtain ⟨v_1, e3, h⟩ := bO h
  refine' sxs_cons (sx_set (i := 4) sc_l_row_by.nd rfl (by first | exact .inl rfl | exact .inr (.inl rfl) | exact .inr rfl) (ex_ixE (em := D.str) (ex_var (pv 1) rfl) (ex_mod (ex_fdiv (ex_var (pv 0) rfl) ex_int ⟨by decide, by decide⟩) (ex_var (pv 3) rfl) e2) e3) ?_)
  refine SXs.as (ρ' := [.sh (D.int cell), .sh ((eL D.str) names), .sh (D.str sign), .sh (D.int many_1), .sh (D.str v_1), .no]) rfl ?_
  refine' sxs_cons (sx_if (tx_eqI (ex_mod (ex_var (pv 0) rfl) ex_int (by decide)) ex_int) (fun hc8 => ?_) (fun hc8 => ?_))
  ·
    replace h := ite_t hc8 h
    refine' sxs_cons (sx_ret (ex_cv (ex_tup2 (ax_cons ex_str (ax_cons (ex_var (pv 4) rfl) ax_nil))) rfl) ?_)
    exact congrArg (fun z => Rs.sh (rowD z)) (Option.some.inj h)
  ·
    replace h := ite_f hc8 h
    refine sxs_nil ?_
    obtain ⟨e4, h⟩ := chk_e h
    obtain ⟨cell_1, e5, h⟩ := letO_e h
    refine' sxs_cons (sx_set (i := 0) sc_l_row_by.nd rfl (by first | exact .inl rfl | exact .inr (.inl rfl) | exact .inr rfl) (ex_cv (ex_fdiv (ex_fdiv (ex_var (pv 0) rfl) ex_int ⟨by decide, by decide⟩) (ex_var (pv 3) rfl) e4) (congrArg (fun z => Rs.sh (D.int z)) e5)) ?_)
    refine SXs.as (ρ' := [.sh (D.int cell_1), .sh ((eL D.str) names), .sh (D.str sign), .sh (D.int many_1), .sh (D.str v_1), .no]) rfl ?_
    obtain ⟨e6, h⟩ := chk_e h
    obtain ⟨v_2, e7, h⟩ := bO h
    obtain ⟨e8, h⟩ := chk_e h
    obtain ⟨e9, h⟩ := chk_e h
    obtain ⟨v_3, e10, h⟩ := bO h
    obtain ⟨reads_1, e11, h⟩ := letO_e h
    refine' sxs_cons (sx_set (i := 5) sc_l_row_by.nd rfl (by first | exact .inl rfl | exact .inr (.inl rfl) | exact .inr rfl) (ex_share (ex_cv (ex_cv (r' := .nw ((eL D.str) [v_2, v_3])) (ex_lst2 (ax_cons (ex_ixE (em := D.str) (ex_var (pv 1) rfl) (ex_mod (ex_fdiv (ex_var (pv 0) rfl) ex_int ⟨by decide, by decide⟩) (ex_var (pv 3) rfl) e6) e7) (ax_cons (ex_ixE (em := D.str) (ex_var (pv 1) rfl) (ex_mod (ex_fdiv (ex_fdiv (ex_var (pv 0) rfl) ex_int ⟨by decide, by decide⟩) (ex_var (pv 3) rfl) e8) (ex_var (pv 3) rfl) e9) e10) ax_nil))) rfl) (congrArg (fun z => Rs.nw ((eL D.str) z)) e11))) ?_)
    refine SXs.as (ρ' := [.sh (D.int cell_1), .sh ((eL D.str) names), .sh (D.str sign), .sh (D.int many_1), .sh (D.str v_1), .sh ((eL D.str) reads_1)]) rfl ?_
    refine' sxs_cons (sx_ret (ex_cv (ex_tup4 (ax_cons ex_str (ax_cons (ex_var (pv 4) rfl) (ax_cons (ex_var (pv 2) rfl) (ax_cons (ex_callTy call_tuple_of (on_tupleE (em := D.str) rfl (.inl ⟨_, rfl⟩)) (by rfl) T.g_tuple (by decide +kernel) (ax_cons (ex_share (ex_slE (ex_var (pv 5) rfl) rfl (.inl ⟨_, rfl⟩) ox_none (ox_some (ex_mod (ex_var (pv 0) rfl) ex_int (by decide))))) ax_nil)) ax_nil))))) rfl) ?_)
    exact congrArg (fun z => Rs.sh (rowD z)) (Option.some.inj h)
def R_l_ways_by (ds : List D) (r : Rs) : Prop := ∃ (script : (List Int)) (k : Int) (size : Int) (v : (List Int)), ds = [D.scr script, D.int k, D.int size] ∧ f_l_ways_by script k size = some v ∧ r = .nw ((eL D.int) v)
theorem ok_l_ways_by (T : Txt K mg) (TB_is_name : GxR.TabB base mg (He.cT K ("is_name", none)).1 (He.cT K ("is_name", none)).2) (TB_is_way : GxR.TabB base mg (He.cT K ("is_way", none)).1 (He.cT K ("is_way", none)).2) : FnOk P w K mg base CX0 3 (He.fAd K ("_law_ways_by", none)) T.fd_l_ways_by ["_law_script", "_law_k", "_law_size"] (spR K R_l_ways_by) := by
  refine ok_fn T.F_l_ways_by sc_l_ways_by (fun ds r hR => ?_) (fun cdv A outer s H ds r E W hr hR => ?_)
  · obtain ⟨script, k, size, v, rfl, _⟩ := hR; rfl
  obtain ⟨script, k, size, v, rfl, h, rfl⟩ := hR
  unfold f_l_ways_by at h
  refine SXs.as (ρ' := [.sh (D.scr script), .sh (D.int k), .sh (D.int size), .no, .no, .no, .no, .no]) rfl ?_
  obtain ⟨v_1, e1, h⟩ := bO h
  refine' sxs_cons (sx_set (i := 3) sc_l_ways_by.nd rfl (by first | exact .inl rfl | exact .inr (.inl rfl) | exact .inr rfl) (ex_cv (r' := .sh (D.int v_1)) (ex_call2 (ok_l_drawn T TB_is_name TB_is_way) (hr.mono (by decide)) (by rfl) T.g_l_drawn T.F_l_drawn.kp (b_l_drawn T) pass0 (ax_cons (ex_var (pv 0) rfl) (ax_cons (ex_add ex_int (ex_var (pv 1) rfl)) ax_nil)) ⟨_, _, _, rfl, e1, rfl⟩) rfl) ?_)
  refine SXs.as (ρ' := [.sh (D.scr script), .sh (D.int k), .sh (D.int size), .sh (D.int v_1), .no, .no, .no, .no]) rfl ?_
  obtain ⟨many_1, e2, h⟩ := letO_e h
  refine' sxs_cons (sx_set (i := 4) sc_l_ways_by.nd rfl (by first | exact .inl rfl | exact .inr (.inl rfl) | exact .inr rfl) (ex_cv (ex_mod (ex_var (pv 3) rfl) ex_int (by decide)) (congrArg (fun z => Rs.sh (D.int z)) e2)) ?_)
  refine SXs.as (ρ' := [.sh (D.scr script), .sh (D.int k), .sh (D.int size), .sh (D.int v_1), .sh (D.int many_1), .no, .no, .no]) rfl ?_
  obtain ⟨j_1, e3, h⟩ := bO h
  refine' sxs_cons (sx_ifJ [.sh (D.scr script), .sh (D.int k), .sh (D.int size), .sh (D.int v_1), .sh (D.int j_1), .no, .no, .no] (tx_eqI (ex_mod (ex_fdiv (ex_var (pv 3) rfl) ex_int ⟨by decide, by decide⟩) ex_int (by decide)) ex_int) (fun hc7 => ?_) (fun hc7 => ?_) (fun ρ1 l1 => SXs.weak l1 ?_))
  ·
    have h := ite_t hc7 e3
    obtain ⟨many_2, e4, h⟩ := letO_e h
    refine' sxs_cons (sx_set (i := 4) sc_l_ways_by.nd rfl (by first | exact .inl rfl | exact .inr (.inl rfl) | exact .inr rfl) (ex_cv (ex_mod (ex_fdiv (ex_var (pv 3) rfl) ex_int ⟨by decide, by decide⟩) ex_int (by decide)) (congrArg (fun z => Rs.sh (D.int z)) e4)) ?_)
    refine SXs.as (ρ' := [.sh (D.scr script), .sh (D.int k), .sh (D.int size), .sh (D.int v_1), .sh (D.int many_2), .no, .no, .no]) rfl ?_
    refine sxs_nil ?_
    obtain rfl := Option.some.inj h; exact (.eq (.eq (.eq (.eq (.eq (.eq (.eq (.eq .nil))))))))
  ·
    have h := ite_f hc7 e3
    refine sxs_nil ?_
    obtain rfl := Option.some.inj h; exact (.eq (.eq (.eq (.eq (.eq (.eq (.eq (.eq .nil))))))))
  obtain ⟨many_3, e5, h⟩ := letO_e h
  refine' sxs_cons (sx_set (i := 4) sc_l_ways_by.nd rfl (by first | exact .inl rfl | exact .inr (.inl rfl) | exact .inr rfl) (ex_cv (ex_callB (call_max2 rfl) on_max2 (by rfl) T.g_max (by decide +kernel) (ax_cons (ex_var (pv 4) rfl) (ax_cons (ex_callTy call_int1 on_intB (by rfl) T.g_int (by decide +kernel) (ax_cons (ex_eqI (ex_mod (ex_var (pv 1) rfl) ex_int (by decide)) ex_int) ax_nil)) ax_nil))) (congrArg (fun z => Rs.sh (D.int z)) e5)) ?_)
  refine SXs.as (ρ' := [.sh (D.scr script), .sh (D.int k), .sh (D.int size), .sh (D.int v_1), .sh (D.int many_3), .no, .no, .no]) rfl ?_
  obtain ⟨far_1, e6, h⟩ := letO_e h
  refine' sxs_cons (sx_set (i := 5) sc_l_ways_by.nd rfl (by first | exact .inl rfl | exact .inr (.inl rfl) | exact .inr rfl) (ex_cv (ex_fdiv (ex_var (pv 3) rfl) ex_int ⟨by decide, by decide⟩) (congrArg (fun z => Rs.sh (D.int z)) e6)) ?_)
  refine SXs.as (ρ' := [.sh (D.scr script), .sh (D.int k), .sh (D.int size), .sh (D.int v_1), .sh (D.int many_3), .sh (D.int far_1), .no, .no]) rfl ?_
  obtain ⟨ways_1, e7, h⟩ := letO_e h
  refine' sxs_cons (sx_set (i := 6) sc_l_ways_by.nd rfl (by first | exact .inl rfl | exact .inr (.inl rfl) | exact .inr rfl) (ex_cv (ex_cv (r' := .nw ((eL D.int) [])) (ex_lst0 ax_nil) rfl) (congrArg (fun z => Rs.nw ((eL D.int) z)) e7)) ?_)
  refine SXs.as (ρ' := [.sh (D.scr script), .sh (D.int k), .sh (D.int size), .sh (D.int v_1), .sh (D.int many_3), .sh (D.int far_1), .ow ((eL D.int) ways_1), .no]) rfl ?_
  obtain ⟨e8, h⟩ := chk_e h
  obtain ⟨r_1, e9, h⟩ := bO h
  refine' sxs_cons (sx_foldO (s0 := (far_1, ways_1)) (emb := D.int) (fun (s_1 : (Int × (List Int))) => [.sh (D.scr script), .sh (D.int k), .sh (D.int size), .sh (D.int v_1), .sh (D.int many_3), .sh (D.int s_1.1), .ow ((eL D.int) s_1.2), .no]) PassesOwn.never ((it_rng (by rfl) T.g_range (ex_var (pv 4) rfl) e8).it rfl) (pg_name (i := 7) sc_l_ways_by.nd rfl (by first | exact .inl rfl | exact .inr (.inl rfl) | exact .inr rfl)) (.eq (.eq (.eq (.eq (.eq (.eq (.eq (.eq .nil)))))))) e9 (fun turn_1 s_1 s' _ h => ⟨_, gv_name, ?_⟩) (fun ρ1 l1 => SXs.weak l1 ?_))
  ·
    refine SXs.as (ρ' := [.sh (D.scr script), .sh (D.int k), .sh (D.int size), .sh (D.int v_1), .sh (D.int many_3), .sh (D.int s_1.1), .ow ((eL D.int) s_1.2), .sh (D.int turn_1)]) rfl ?_
    obtain ⟨e10, h⟩ := chk_e h
    obtain ⟨e11, h⟩ := chk_e h
    obtain ⟨ways_2, e12, h⟩ := letO_e h
    refine' sxs_cons (sx_appE (pv 6) rfl (ex_mod (ex_var (pv 5) rfl) (ex_var (pv 2) rfl) e10) e11 ?_)
    rw [e12]
    refine SXs.as (ρ' := [.sh (D.scr script), .sh (D.int k), .sh (D.int size), .sh (D.int v_1), .sh (D.int many_3), .sh (D.int s_1.1), .ow ((eL D.int) ways_2), .sh (D.int turn_1)]) rfl ?_
    obtain ⟨e13, h⟩ := chk_e h
    obtain ⟨far_2, e14, h⟩ := letO_e h
    refine' sxs_cons (sx_set (i := 5) sc_l_ways_by.nd rfl (by first | exact .inl rfl | exact .inr (.inl rfl) | exact .inr rfl) (ex_cv (ex_add (ex_fdiv (ex_var (pv 5) rfl) (ex_var (pv 2) rfl) e13) (ex_mul ex_int (ex_var (pv 7) rfl) (.inl ⟨by decide, by decide⟩))) (congrArg (fun z => Rs.sh (D.int z)) e14)) ?_)
    refine SXs.as (ρ' := [.sh (D.scr script), .sh (D.int k), .sh (D.int size), .sh (D.int v_1), .sh (D.int many_3), .sh (D.int far_2), .ow ((eL D.int) ways_2), .sh (D.int turn_1)]) rfl ?_
    refine sxs_nil ?_
    obtain rfl := Option.some.inj h
    exact (.eq (.eq (.eq (.eq (.eq (.eq (.eq (.no .nil))))))))
  obtain ⟨v_2, e15, h⟩ := bO h
  obtain ⟨j_2, e16, h⟩ := bO h
  refine' sxs_cons (sx_ifJ [.sh (D.scr script), .sh (D.int k), .sh (D.int size), .sh (D.int v_1), .sh (D.int many_3), .sh (D.int r_1.1), .ow ((eL D.int) j_2), .no] (tx_w (wx_and (tx_eqI (ex_mod (ex_cv (r' := .sh (D.int v_2)) (ex_call2 (ok_l_drawn T TB_is_name TB_is_way) (hr.mono (by decide)) (by rfl) T.g_l_drawn T.F_l_drawn.kp (b_l_drawn T) pass0 (ax_cons (ex_var (pv 0) rfl) (ax_cons ex_int ax_nil)) ⟨_, _, _, rfl, e15, rfl⟩) rfl) ex_int (by decide)) ex_int) (fun _ => (wx_and (tx_lt (ex_var (pv 4) rfl) ex_int) (fun _ => (wx_and1 (tx_lt (ex_var (pv 2) rfl) ex_int))))))) (fun hc48 => ?_) (fun hc48 => ?_) (fun ρ1 l1 => SXs.weak l1 ?_))
  ·
    have h := ite_t hc48 e16
    obtain ⟨e17, h⟩ := chk_e h
    obtain ⟨e18, h⟩ := chk_e h
    obtain ⟨ways_3, e19, h⟩ := letO_e h
    refine' sxs_cons (sx_insE (pv 6) rfl ex_int (ex_mod (ex_sub (ex_mod (ex_var (pv 1) rfl) ex_int (by decide)) ex_int) (ex_var (pv 2) rfl) e17) e18 ?_)
    rw [e19]
    refine SXs.as (ρ' := [.sh (D.scr script), .sh (D.int k), .sh (D.int size), .sh (D.int v_1), .sh (D.int many_3), .sh (D.int r_1.1), .ow ((eL D.int) ways_3), .no]) rfl ?_
    refine sxs_nil ?_
    obtain rfl := Option.some.inj h; exact (.eq (.eq (.eq (.eq (.eq (.eq (.eq (.eq .nil))))))))
  ·
    have h := ite_f hc48 e16
    refine sxs_nil ?_
    obtain rfl := Option.some.inj h; exact (.eq (.eq (.eq (.eq (.eq (.eq (.eq (.eq .nil))))))))
  refine' sxs_cons (sx_retO (pv 6) rfl ?_)
  exact congrArg (fun z => Rs.nw ((eL D.int) z)) (Option.some.inj h)
def R_l_program_by (ds : List D) (r : Rs) : Prop := ∃ (script : (List Int)) (names : (List Str)) (v : (List ((List RowT) × (List Int)))), ds = [D.scr script, (eL D.str) names] ∧ f_l_program_by script names = some v ∧ r = .nd ((eL (eP2 (eL rowD) (eL D.int))) v)
theorem ok_l_program_by (T : Txt K mg) (TB_is_name : GxR.TabB base mg (He.cT K ("is_name", none)).1 (He.cT K ("is_name", none)).2) (TB_is_way : GxR.TabB base mg (He.cT K ("is_way", none)).1 (He.cT K ("is_way", none)).2) : FnOk P w K mg base CX0 4 (He.fAd K ("_law_program_by", none)) T.fd_l_program_by ["_law_script", "_law_names"] (spR K R_l_program_by) := by
  refine ok_fn T.F_l_program_by sc_l_program_by (fun ds r hR => ?_) (fun cdv A outer s H ds r E W hr hR => ?_)
  · obtain ⟨script, names, v, rfl, _⟩ := hR; rfl
  obtain ⟨script, names, v, rfl, h, rfl⟩ := hR
  unfold f_l_program_by at h
  refine SXs.as (ρ' := [.sh (D.scr script), .sh ((eL D.str) names), .no, .no, .no, .no, .no, .no, .no, .no, .no]) rfl ?_
  obtain ⟨v_1, e1, h⟩ := bO h
  refine' sxs_cons (sx_set (i := 2) sc_l_program_by.nd rfl (by first | exact .inl rfl | exact .inr (.inl rfl) | exact .inr rfl) (ex_cv (r' := .sh (D.int v_1)) (ex_call2 (ok_l_drawn T TB_is_name TB_is_way) (hr.mono (by decide)) (by rfl) T.g_l_drawn T.F_l_drawn.kp (b_l_drawn T) pass0 (ax_cons (ex_var (pv 0) rfl) (ax_cons ex_int ax_nil)) ⟨_, _, _, rfl, e1, rfl⟩) rfl) ?_)
  refine SXs.as (ρ' := [.sh (D.scr script), .sh ((eL D.str) names), .sh (D.int v_1), .no, .no, .no, .no, .no, .no, .no, .no]) rfl ?_
  obtain ⟨size_1, e2, h⟩ := letO_e h
  refine' sxs_cons (sx_set (i := 3) sc_l_program_by.nd rfl (by first | exact .inl rfl | exact .inr (.inl rfl) | exact .inr rfl) (ex_cv (ex_add ex_int (ex_mod (ex_var (pv 2) rfl) ex_int (by decide))) (congrArg (fun z => Rs.sh (D.int z)) e2)) ?_)
  refine SXs.as (ρ' := [.sh (D.scr script), .sh ((eL D.str) names), .sh (D.int v_1), .sh (D.int size_1), .no, .no, .no, .no, .no, .no, .no]) rfl ?_
  obtain ⟨many_1, e3, h⟩ := letO_e h
  refine' sxs_cons (sx_set (i := 4) sc_l_program_by.nd rfl (by first | exact .inl rfl | exact .inr (.inl rfl) | exact .inr rfl) (ex_cv (ex_mod (ex_fdiv (ex_var (pv 2) rfl) ex_int ⟨by decide, by decide⟩) ex_int (by decide)) (congrArg (fun z => Rs.sh (D.int z)) e3)) ?_)
  refine SXs.as (ρ' := [.sh (D.scr script), .sh ((eL D.str) names), .sh (D.int v_1), .sh (D.int size_1), .sh (D.int many_1), .no, .no, .no, .no, .no, .no]) rfl ?_
  obtain ⟨j_1, e4, h⟩ := bO h
  refine' sxs_cons (sx_ifJ [.sh (D.scr script), .sh ((eL D.str) names), .sh (D.int v_1), .sh (D.int j_1.1), .sh (D.int j_1.2), .no, .no, .no, .no, .no, .no] (tx_eqI (ex_mod (ex_fdiv (ex_var (pv 2) rfl) ex_int ⟨by decide, by decide⟩) ex_int (by decide)) ex_int) (fun hc10 => ?_) (fun hc10 => ?_) (fun ρ1 l1 => SXs.weak l1 ?_))
  ·
    have h := ite_t hc10 e4
    obtain ⟨v_2, e5, h⟩ := bO h
    obtain ⟨e6, h⟩ := chk_e h
    obtain ⟨size_2, e7, h⟩ := letO_e h
    refine' sxs_cons (sx_set (i := 3) sc_l_program_by.nd rfl (by first | exact .inl rfl | exact .inr (.inl rfl) | exact .inr rfl) (ex_cv (ex_add ex_int (ex_mod (ex_fdiv (ex_var (pv 2) rfl) ex_int ⟨by decide, by decide⟩) (ex_ixE (em := D.int) (ex_share (ex_cv (r' := .nw ((eL D.int) [(60 : Int), (12 : Int)])) (ex_lst2 (ax_cons ex_int (ax_cons ex_int ax_nil))) rfl)) (ex_callTy call_int1 on_intB (by rfl) T.g_int (by decide +kernel) (ax_cons (ex_gt (ex_callB call_len_seq (on_lenE (em := D.str) rfl) (by rfl) T.g_len PySem.boot_len (ax_cons (ex_var (pv 1) rfl) ax_nil)) ex_int) ax_nil)) e5) e6)) (congrArg (fun z => Rs.sh (D.int z)) e7)) ?_)
    refine SXs.as (ρ' := [.sh (D.scr script), .sh ((eL D.str) names), .sh (D.int v_1), .sh (D.int size_2), .sh (D.int many_1), .no, .no, .no, .no, .no, .no]) rfl ?_
    obtain ⟨many_2, e8, h⟩ := letO_e h
    refine' sxs_cons (sx_set (i := 4) sc_l_program_by.nd rfl (by first | exact .inl rfl | exact .inr (.inl rfl) | exact .inr rfl) (ex_cv (ex_add (ex_var (pv 4) rfl) (ex_var (pv 3) rfl)) (congrArg (fun z => Rs.sh (D.int z)) e8)) ?_)
    refine SXs.as (ρ' := [.sh (D.scr script), .sh ((eL D.str) names), .sh (D.int v_1), .sh (D.int size_2), .sh (D.int many_2), .no, .no, .no, .no, .no, .no]) rfl ?_
    refine sxs_nil ?_
    obtain rfl := Option.some.inj h; exact (.eq (.eq (.eq (.eq (.eq (.eq (.eq (.eq (.eq (.eq (.eq .nil)))))))))))
  ·
    have h := ite_f hc10 e4
    refine sxs_nil ?_
    obtain rfl := Option.some.inj h; exact (.eq (.eq (.eq (.eq (.eq (.eq (.eq (.eq (.eq (.eq (.eq .nil)))))))))))
  obtain ⟨j_2, e9, h⟩ := bO h
  refine' sxs_cons (sx_ifJ [.sh (D.scr script), .sh ((eL D.str) names), .sh (D.int v_1), .sh (D.int j_1.1), .sh (D.int j_2), .no, .no, .no, .no, .no, .no] (tx_w (wx_and (tx_gt (ex_callB call_len_seq on_lenC (by rfl) T.g_len PySem.boot_len (ax_cons (ex_var (pv 0) rfl) ax_nil)) ex_int) (fun _ => (wx_and1 (tx_eqI (ex_mod (ex_fdiv (ex_var (pv 2) rfl) ex_int ⟨by decide, by decide⟩) ex_int (by decide)) ex_int))))) (fun hc28 => ?_) (fun hc28 => ?_) (fun ρ1 l1 => SXs.weak l1 ?_))
  ·
    have h := ite_t hc28 e9
    obtain ⟨many_3, e10, h⟩ := letO_e h
    refine' sxs_cons (sx_set (i := 4) sc_l_program_by.nd rfl (by first | exact .inl rfl | exact .inr (.inl rfl) | exact .inr rfl) (ex_cv (ex_mul ex_int (ex_var (pv 3) rfl) (.inl ⟨by decide, by decide⟩)) (congrArg (fun z => Rs.sh (D.int z)) e10)) ?_)
    refine SXs.as (ρ' := [.sh (D.scr script), .sh ((eL D.str) names), .sh (D.int v_1), .sh (D.int j_1.1), .sh (D.int many_3), .no, .no, .no, .no, .no, .no]) rfl ?_
    refine sxs_nil ?_
    obtain rfl := Option.some.inj h; exact (.eq (.eq (.eq (.eq (.eq (.eq (.eq (.eq (.eq (.eq (.eq .nil)))))))))))
  ·
    have h := ite_f hc28 e9
    refine sxs_nil ?_
    obtain rfl := Option.some.inj h; exact (.eq (.eq (.eq (.eq (.eq (.eq (.eq (.eq (.eq (.eq (.eq .nil)))))))))))
  obtain ⟨e11, h⟩ := chk_e h
  obtain ⟨e12, h⟩ := chk_e h
  obtain ⟨l_1, e14, h⟩ := bO h
  refine' sxs_cons (sx_setLcM (ItX.c (it_rng (by rfl) T.g_range (ex_var (pv 3) rfl) e11)) (i := 6) (own := [("_law_k", 5)]) rfl sc_l_program_by.nd rfl rfl (sw_true rfl rfl rfl (by decide +kernel)) (blkOk_by (N := ["_law_script", "_law_names", "_law_head", "_law_size", "_law_many", "_law_k", "_law_program", "_law_cell", "_law_at", "_law_turn", "_law_sign"]) (sc := defScope s_l_program_by) (by decide +kernel)) (fun _ _ _ _ _ => (pg_name (i := 5) sc_l_program_by.nd rfl (by first | exact .inl rfl | exact .inr (.inl rfl) | exact .inr rfl))) (fun wi itw => (ev_lcXD (pO := fun k_1 => some true) (fO := fun k_1 => (f_l_ways_by script ((400 : Int) + k_1) j_1.1).bind fun v_3 =>
some (([] : (List RowT)), v_3)) (emb := D.int) (eb := (eP2 (eL rowD) (eL D.int))) (mk := .sh) itw ((compO_map _).trans e14) (gset_name (by decide)) e12 (fun k_1 _ k h => by obtain rfl := Option.some.inj h; exact ⟨_, gv_name, (fun _ _ _ _ _ => txs_nil), fun _ b h => by obtain ⟨v_3, e13, h⟩ := bO h; obtain rfl := Option.some.inj h; exact fun _ _ _ _ _ => (ex_cv (r' := .nd ((eP2 (eL rowD) (eL D.int)) (([] : (List RowT)), v_3))) (ex_tupD (an_cons (ex_ndO (ex_cv (r' := .nw ((eL rowD) [])) (ex_lst0 ax_nil) rfl) ((inferInstance : ImO (eL rowD)).h _)) (an_cons (ex_ndO (ex_cv (r' := .nw ((eL D.int) v_3)) (ex_call3 (ok_l_ways_by T TB_is_name TB_is_way) (hr.mono (by decide)) (by rfl) T.g_l_ways_by T.F_l_ways_by.kp (b_l_ways_by T) pass0 (ax_cons (ex_var (pv 0) rfl) (ax_cons (ex_add ex_int (ex_var (pv 5) rfl)) (ax_cons (ex_var (pv 3) rfl) ax_nil))) ⟨_, _, _, _, rfl, e13, rfl⟩) rfl) ((inferInstance : ImO (eL D.int)).h _)) an_nil)) (by show 2 ≤ sizeLine; decide)) rfl)⟩))) ?_)
  refine SXs.as (ρ' := [.sh (D.scr script), .sh ((eL D.str) names), .sh (D.int v_1), .sh (D.int j_1.1), .sh (D.int j_2), .no, .od none ((eL (eP2 (eL rowD) (eL D.int))) l_1), .no, .no, .no, .no]) rfl ?_
  obtain ⟨e15, h⟩ := chk_e h
  obtain ⟨r_1, e16, h⟩ := bO h
  refine' sxs_cons (sx_foldO (s0 := l_1) (emb := D.int) (fun (s_1 : ((List ((List RowT) × (List Int))))) => [.sh (D.scr script), .sh ((eL D.str) names), .sh (D.int v_1), .sh (D.int j_1.1), .sh (D.int j_2), .no, .od none ((eL (eP2 (eL rowD) (eL D.int))) s_1), .no, .no, .no, .no]) PassesOwn.never ((it_rng (by rfl) T.g_range (ex_var (pv 4) rfl) e15).it rfl) (pg_name (i := 5) sc_l_program_by.nd rfl (by first | exact .inl rfl | exact .inr (.inl rfl) | exact .inr rfl)) (.eq (.eq (.eq (.eq (.eq (.eq (.eq (.eq (.eq (.eq (.eq .nil))))))))))) e16 (fun k_2 s_1 s' _ h => ⟨_, gv_name, ?_⟩) (fun ρ1 l1 => SXs.weak l1 ?_))
  ·
    refine SXs.as (ρ' := [.sh (D.scr script), .sh ((eL D.str) names), .sh (D.int v_1), .sh (D.int j_1.1), .sh (D.int j_2), .sh (D.int k_2), .od none ((eL (eP2 (eL rowD) (eL D.int))) s_1), .no, .no, .no, .no]) rfl ?_
    obtain ⟨v_4, e17, h⟩ := bO h
    refine' sxs_cons (sx_set (i := 7) sc_l_program_by.nd rfl (by first | exact .inl rfl | exact .inr (.inl rfl) | exact .inr rfl) (ex_cv (r' := .sh (D.int v_4)) (ex_call2 (ok_l_drawn T TB_is_name TB_is_way) (hr.mono (by decide)) (by rfl) T.g_l_drawn T.F_l_drawn.kp (b_l_drawn T) pass0 (ax_cons (ex_var (pv 0) rfl) (ax_cons (ex_add ex_int (ex_var (pv 5) rfl)) ax_nil)) ⟨_, _, _, rfl, e17, rfl⟩) rfl) ?_)
    refine SXs.as (ρ' := [.sh (D.scr script), .sh ((eL D.str) names), .sh (D.int v_1), .sh (D.int j_1.1), .sh (D.int j_2), .sh (D.int k_2), .od none ((eL (eP2 (eL rowD) (eL D.int))) s_1), .sh (D.int v_4), .no, .no, .no]) rfl ?_
    obtain ⟨e18, h⟩ := chk_e h
    obtain ⟨at__1, e19, h⟩ := letO_e h
    refine' sxs_cons (sx_set (i := 8) sc_l_program_by.nd rfl (by first | exact .inl rfl | exact .inr (.inl rfl) | exact .inr rfl) (ex_cv (ex_mod (ex_fdiv (ex_var (pv 7) rfl) ex_int ⟨by decide, by decide⟩) (ex_var (pv 3) rfl) e18) (congrArg (fun z => Rs.sh (D.int z)) e19)) ?_)
    refine SXs.as (ρ' := [.sh (D.scr script), .sh ((eL D.str) names), .sh (D.int v_1), .sh (D.int j_1.1), .sh (D.int j_2), .sh (D.int k_2), .od none ((eL (eP2 (eL rowD) (eL D.int))) s_1), .sh (D.int v_4), .sh (D.int at__1), .no, .no]) rfl ?_
    obtain ⟨v_5, e20, h⟩ := bO h
    obtain ⟨j_3, e21, h⟩ := bO h
    refine' sxs_cons (sx_ifJ [.sh (D.scr script), .sh ((eL D.str) names), .sh (D.int v_1), .sh (D.int j_1.1), .sh (D.int j_2), .sh (D.int k_2), .od none ((eL (eP2 (eL rowD) (eL D.int))) s_1), .sh (D.int v_4), .sh (D.int j_3), .no, .no] (tx_eqI (ex_mod (ex_cv (r' := .sh (D.int v_5)) (ex_call2 (ok_l_drawn T TB_is_name TB_is_way) (hr.mono (by decide)) (by rfl) T.g_l_drawn T.F_l_drawn.kp (b_l_drawn T) pass0 (ax_cons (ex_var (pv 0) rfl) (ax_cons ex_int ax_nil)) ⟨_, _, _, rfl, e20, rfl⟩) rfl) ex_int (by decide)) ex_int) (fun hc59 => ?_) (fun hc59 => ?_) (fun ρ1 l1 => SXs.weak l1 ?_))
    ·
      have h := ite_t hc59 e21
      obtain ⟨e22, h⟩ := chk_e h
      obtain ⟨at__2, e23, h⟩ := letO_e h
      refine' sxs_cons (sx_set (i := 8) sc_l_program_by.nd rfl (by first | exact .inl rfl | exact .inr (.inl rfl) | exact .inr rfl) (ex_cv (ex_mod (ex_var (pv 2) rfl) (ex_var (pv 3) rfl) e22) (congrArg (fun z => Rs.sh (D.int z)) e23)) ?_)
      refine SXs.as (ρ' := [.sh (D.scr script), .sh ((eL D.str) names), .sh (D.int v_1), .sh (D.int j_1.1), .sh (D.int j_2), .sh (D.int k_2), .od none ((eL (eP2 (eL rowD) (eL D.int))) s_1), .sh (D.int v_4), .sh (D.int at__2), .no, .no]) rfl ?_
      refine sxs_nil ?_
      obtain rfl := Option.some.inj h; exact (.eq (.eq (.eq (.eq (.eq (.eq (.eq (.eq (.eq (.eq (.eq .nil)))))))))))
    ·
      have h := ite_f hc59 e21
      refine sxs_nil ?_
      obtain rfl := Option.some.inj h; exact (.eq (.eq (.eq (.eq (.eq (.eq (.eq (.eq (.eq (.eq (.eq .nil)))))))))))
    obtain ⟨e24, h⟩ := chk_e h
    obtain ⟨r_2, e25, h⟩ := bO h
    refine' sxs_cons (sx_foldO (s0 := j_3) (emb := D.int) (fun (s_2 : (Int)) => [.sh (D.scr script), .sh ((eL D.str) names), .sh (D.int v_1), .sh (D.int j_1.1), .sh (D.int j_2), .sh (D.int k_2), .od none ((eL (eP2 (eL rowD) (eL D.int))) s_1), .sh (D.int v_4), .sh (D.int s_2), .no, .no]) PassesOwn.never ((it_rng (by rfl) T.g_range (ex_var (pv 3) rfl) e24).it rfl) (pg_name (i := 9) sc_l_program_by.nd rfl (by first | exact .inl rfl | exact .inr (.inl rfl) | exact .inr rfl)) (.eq (.eq (.eq (.eq (.eq (.eq (.eq (.eq (.eq (.eq (.eq .nil))))))))))) e25 (fun turn_1 s_2 s' _ h => ⟨_, gv_name, ?_⟩) (fun ρ1 l1 => SXs.weak l1 ?_))
    ·
      refine SXs.as (ρ' := [.sh (D.scr script), .sh ((eL D.str) names), .sh (D.int v_1), .sh (D.int j_1.1), .sh (D.int j_2), .sh (D.int k_2), .od none ((eL (eP2 (eL rowD) (eL D.int))) s_1), .sh (D.int v_4), .sh (D.int s_2), .sh (D.int turn_1), .no]) rfl ?_
      obtain ⟨v_6, e26, h⟩ := bO h
      refine' sxs_cons (sx_if (tx_gt (ex_callB call_len_seq (on_lenE (em := rowD) rfl) (by rfl) T.g_len PySem.boot_len (ax_cons (ex_cv (r' := .al ((eL rowD) v_6.1)) (ex_ix ix_tup (o2_ixTA rfl) (ex_ixEA (em := (eP2 (eL rowD) (eL D.int))) (ex_varD (pv 6) rfl) (ex_var (pv 8) rfl) e26) ex_int) rfl) ax_nil)) ex_int) (fun hc79 => ?_) (fun hc79 => ?_))
      ·
        replace h := ite_t hc79 h
        obtain ⟨e27, h⟩ := chk_e h
        obtain ⟨at__3, e28, h⟩ := letO_e h
        refine' sxs_cons (sx_set (i := 8) sc_l_program_by.nd rfl (by first | exact .inl rfl | exact .inr (.inl rfl) | exact .inr rfl) (ex_cv (ex_mod (ex_add (ex_var (pv 8) rfl) ex_int) (ex_var (pv 3) rfl) e27) (congrArg (fun z => Rs.sh (D.int z)) e28)) ?_)
        refine SXs.as (ρ' := [.sh (D.scr script), .sh ((eL D.str) names), .sh (D.int v_1), .sh (D.int j_1.1), .sh (D.int j_2), .sh (D.int k_2), .od none ((eL (eP2 (eL rowD) (eL D.int))) s_1), .sh (D.int v_4), .sh (D.int at__3), .sh (D.int turn_1), .no]) rfl ?_
        refine sxs_nil ?_
        refine sxs_nil ?_
        obtain rfl := Option.some.inj h
        exact (.eq (.eq (.eq (.eq (.eq (.eq (.eq (.eq (.eq (.no (.eq .nil)))))))))))
      ·
        replace h := ite_f hc79 h
        refine sxs_nil ?_
        refine sxs_nil ?_
        obtain rfl := Option.some.inj h
        exact (.eq (.eq (.eq (.eq (.eq (.eq (.eq (.eq (.eq (.no (.eq .nil)))))))))))
    obtain ⟨v_7, e29, h⟩ := bO h
    refine' sxs_cons (sx_set (i := 10) sc_l_program_by.nd rfl (by first | exact .inl rfl | exact .inr (.inl rfl) | exact .inr rfl) (ex_cv (r' := .sh (D.str v_7)) (ex_call2 (ok_l_own_sign T TB_is_name TB_is_way) (hr.mono (by decide)) (by rfl) T.g_l_own_sign T.F_l_own_sign.kp (b_l_own_sign T) pass0 (ax_cons (ex_var (pv 0) rfl) (ax_cons (ex_var (pv 5) rfl) ax_nil)) ⟨_, _, _, rfl, e29, rfl⟩) rfl) ?_)
    refine SXs.as (ρ' := [.sh (D.scr script), .sh ((eL D.str) names), .sh (D.int v_1), .sh (D.int j_1.1), .sh (D.int j_2), .sh (D.int k_2), .od none ((eL (eP2 (eL rowD) (eL D.int))) s_1), .sh (D.int v_4), .sh (D.int r_2), .no, .sh (D.str v_7)]) rfl ?_
    obtain ⟨n_1, e30, h⟩ := bO h
    obtain ⟨w_1, e31, h⟩ := bO h
    obtain ⟨v_8, e32, h⟩ := bO h
    obtain ⟨e33, h⟩ := chk_e h
    obtain ⟨program_1, e34, h⟩ := letO_e h
    refine' sxs_cons (sx_appPE (px_ixT (px_ixLE (em := (eP2 (eL rowD) (eL D.int))) (px_var (pv 6) rfl) rfl rfl (ex_var (pv 8) rfl) e30 e31) rfl (getP_L e31 rfl) rfl ex_int rfl (by show (0 : Nat) < 2; decide)) rfl (getP_L e31 rfl) (ex_cv (r' := .sh (rowD v_8)) (ex_call3 (ok_l_row_by T TB_is_name TB_is_way) (hr.mono (by decide)) (by rfl) T.g_l_row_by T.F_l_row_by.kp (b_l_row_by T) pass0 (ax_cons (ex_mod (ex_mul (ex_var (pv 7) rfl) ex_int (.inr ⟨by decide, by decide⟩)) ex_int (by decide)) (ax_cons (ex_var (pv 1) rfl) (ax_cons (ex_var (pv 10) rfl) ax_nil))) ⟨_, _, _, _, rfl, e32, rfl⟩) rfl) e33 (setP_L (em := (eP2 (eL rowD) (eL D.int))) (v' := ((w_1.1 ++ [v_8]), w_1.2)) e31 rfl) ?_)
    rw [e34]
    refine SXs.as (ρ' := [.sh (D.scr script), .sh ((eL D.str) names), .sh (D.int v_1), .sh (D.int j_1.1), .sh (D.int j_2), .sh (D.int k_2), .od none ((eL (eP2 (eL rowD) (eL D.int))) program_1), .sh (D.int v_4), .sh (D.int r_2), .no, .sh (D.str v_7)]) rfl ?_
    refine sxs_nil ?_
    obtain rfl := Option.some.inj h
    exact (.eq (.eq (.eq (.eq (.eq (.no (.eq (.no (.no (.eq (.no .nil)))))))))))
  refine' sxs_cons (sx_retD (pv 6) rfl ?_)
  exact congrArg (fun z => Rs.nd ((eL (eP2 (eL rowD) (eL D.int))) z)) (Option.some.inj h)
def R_l_whole (ds : List D) (r : Rs) : Prop := ∃ (found : Int) (v : Bool), ds = [D.int found] ∧ f_l_whole found = some v ∧ r = .sh (D.bl v)
theorem ok_l_whole (T : Txt K mg) (TB_is_name : GxR.TabB base mg (He.cT K ("is_name", none)).1 (He.cT K ("is_name", none)).2) (TB_is_way : GxR.TabB base mg (He.cT K ("is_way", none)).1 (He.cT K ("is_way", none)).2) : FnOk P w K mg base CX0 1 (He.fAd K ("_law_whole", none)) T.fd_l_whole ["_law_found"] (spR K R_l_whole) := by
  refine ok_fn T.F_l_whole sc_l_whole (fun ds r hR => ?_) (fun cdv A outer s H ds r E W hr hR => ?_)
  · obtain ⟨found, v, rfl, _⟩ := hR; rfl
  obtain ⟨found, v, rfl, h, rfl⟩ := hR
  unfold f_l_whole at h
  refine SXs.as (ρ' := [.sh (D.int found)]) rfl ?_
  refine' sxs_cons (sx_ret (ex_and (ex_cv (ex_isF (r := .sh (D.int found)) kit_I (by rfl) T.g_isinstance (by rfl) T.g_int (by decide +kernel) (ex_var (pv 0) rfl) rfl) (by rfl)) (fun _ => (ex_one (ex_not (ex_cv (ex_isF (r := .sh (D.int found)) kit_B (by rfl) T.g_isinstance (by rfl) T.g_bool (by decide +kernel) (ex_var (pv 0) rfl) rfl) (by rfl)))))) ?_)
  exact congrArg (fun z => Rs.sh (D.bl z)) (Option.some.inj h)
def R_l_numbers (ds : List D) (r : Rs) : Prop := ∃ (found : (List Int)) (due : (List Int)) (v : Bool), ds = [(eL D.int) found, (eL D.int) due] ∧ f_l_numbers found due = some v ∧ r = .sh (D.bl v)
theorem ok_l_numbers (T : Txt K mg) (TB_is_name : GxR.TabB base mg (He.cT K ("is_name", none)).1 (He.cT K ("is_name", none)).2) (TB_is_way : GxR.TabB base mg (He.cT K ("is_way", none)).1 (He.cT K ("is_way", none)).2) : FnOk P w K mg base CX0 2 (He.fAd K ("_law_numbers", none)) T.fd_l_numbers ["_law_found", "_law_due"] (spR K R_l_numbers) := by
  refine ok_fn T.F_l_numbers sc_l_numbers (fun ds r hR => ?_) (fun cdv A outer s H ds r E W hr hR => ?_)
  · obtain ⟨found, due, v, rfl, _⟩ := hR; rfl
  obtain ⟨found, due, v, rfl, h, rfl⟩ := hR
  unfold f_l_numbers at h
  refine SXs.as (ρ' := [.sh ((eL D.int) found), .sh ((eL D.int) due), .no]) rfl ?_
  refine' sxs_cons (sx_if (tx_w (wx_or (tx_not (tx_val (ex_cv (ex_isF (r := .sh ((eL D.int) found)) kit_L (by rfl) T.g_isinstance (by rfl) T.g_list (by decide +kernel) (ex_var (pv 0) rfl) rfl) (by rfl)))) (fun _ => (wx_or1 (tx_neI (ex_callB call_len_seq (on_lenE (em := D.int) rfl) (by rfl) T.g_len PySem.boot_len (ax_cons (ex_var (pv 0) rfl) ax_nil)) (ex_callB call_len_seq (on_lenE (em := D.int) rfl) (by rfl) T.g_len PySem.boot_len (ax_cons (ex_var (pv 1) rfl) ax_nil))))))) (fun hc1 => ?_) (fun hc1 => ?_))
  ·
    replace h := ite_t hc1 h
    refine' sxs_cons (sx_ret ex_bl ?_)
    exact congrArg (fun z => Rs.sh (D.bl z)) (Option.some.inj h)
  ·
    replace h := ite_f hc1 h
    refine sxs_nil ?_
    obtain ⟨e1, h⟩ := chk_e h
    obtain ⟨r_1, e2, h⟩ := bO h
    have hA1 := h
    refine' sxs_cons (sx_foldR (s0 := ()) (emb := D.int) (fun (s_1 : Unit) => [.sh ((eL D.int) found), .sh ((eL D.int) due), .no]) PassesOwn.never ((it_rng (by rfl) T.g_range (ex_callB call_len_seq (on_lenE (em := D.int) rfl) (by rfl) T.g_len PySem.boot_len (ax_cons (ex_var (pv 1) rfl) ax_nil)) e1).it rfl) (pg_name (i := 2) sc_l_numbers.nd rfl (by first | exact .inl rfl | exact .inr (.inl rfl) | exact .inr rfl)) (.eq (.eq (.eq .nil))) e2 (fun k_1 s_1 s' _ h hv1 => ⟨_, gv_name, ?_⟩) (fun s_2 hq1 ρ1 l1 => SXs.weak l1 ?_))
    ·
      refine SXs.as (ρ' := [.sh ((eL D.int) found), .sh ((eL D.int) due), .sh (D.int k_1)]) rfl ?_
      obtain ⟨v_3, e5, h⟩ := bO h
      obtain ⟨v_4, e6, h⟩ := bO h
      obtain ⟨b_1, e7, h⟩ := bO h
      refine' sxs_cons (sx_if (tx_w (wx_orO (tx_not (tx_val (ex_cv (r' := .sh (D.bl v_4)) (ex_call1 (ok_l_whole T TB_is_name TB_is_way) (hr.mono (by decide)) (by rfl) T.g_l_whole T.F_l_whole.kp (b_l_whole T) pass0 (ax_cons (ex_ixE (em := D.int) (ex_var (pv 0) rfl) (ex_var (pv 2) rfl) e5) ax_nil) ⟨_, _, rfl, e6, rfl⟩) rfl))) (fun _ k h => by obtain ⟨v_1, e3, h⟩ := bO h; obtain ⟨v_2, e4, h⟩ := bO h; obtain rfl := Option.some.inj h; exact (wx_or1 (tx_neI (ex_ixE (em := D.int) (ex_var (pv 0) rfl) (ex_var (pv 2) rfl) e3) (ex_ixE (em := D.int) (ex_var (pv 1) rfl) (ex_var (pv 2) rfl) e4)))) e7)) (fun hc18 => ?_) (fun hc18 => ?_))
      ·
        replace h := ite_t hc18 h
        refine' sxs_cons (sx_ret ex_bl ?_)
        replace h := ansO_r (hv1 _ (Option.some.inj h).symm) hA1; exact congrArg (fun z => Rs.sh (D.bl z)) (Option.some.inj h)
      ·
        replace h := ite_f hc18 h
        refine sxs_nil ?_
        refine sxs_nil ?_
        obtain rfl := Option.some.inj h
        exact ⟨_, rfl, (.eq (.eq (.no .nil)))⟩
    replace h := ansO_l hq1 hA1
    refine' sxs_cons (sx_ret ex_bl ?_)
    exact congrArg (fun z => Rs.sh (D.bl z)) (Option.some.inj h)
def R_l_row_same (ds : List D) (r : Rs) : Prop := ∃ (found : RowT) (due : RowT) (v : Bool), ds = [rowD found, rowD due] ∧ f_l_row_same found due = some v ∧ r = .sh (D.bl v)
theorem ok_l_row_same (T : Txt K mg) (TB_is_name : GxR.TabB base mg (He.cT K ("is_name", none)).1 (He.cT K ("is_name", none)).2) (TB_is_way : GxR.TabB base mg (He.cT K ("is_way", none)).1 (He.cT K ("is_way", none)).2) : FnOk P w K mg base CX0 1 (He.fAd K ("_law_row_same", none)) T.fd_l_row_same ["_law_found", "_law_due"] (spR K R_l_row_same) := by
  refine ok_fn T.F_l_row_same sc_l_row_same (fun ds r hR => ?_) (fun cdv A outer s H ds r E W hr hR => ?_)
  · obtain ⟨found, due, v, rfl, _⟩ := hR; rfl
  obtain ⟨found, due, v, rfl, h, rfl⟩ := hR
  unfold f_l_row_same at h
  refine SXs.as (ρ' := [.sh (rowD found), .sh (rowD due), .no]) rfl ?_
  obtain ⟨b_1, e2, h⟩ := bO h
  refine' sxs_cons (sx_if (tx_w (wx_orO (tx_not (tx_val (ex_cv (ex_isF (r := .sh (rowD found)) kit_Tu (by rfl) T.g_isinstance (by rfl) T.g_tuple (by decide +kernel) (ex_var (pv 0) rfl) rfl) (by rfl)))) (fun _ k h => by obtain ⟨e1, h⟩ := chk_e h; obtain rfl := Option.some.inj h; exact (wx_or1 (tx_neE rowD hr.units (ex_var (pv 0) rfl) (ex_var (pv 1) rfl) rfl rfl e1))) e2)) (fun hc2 => ?_) (fun hc2 => ?_))
  ·
    replace h := ite_t hc2 h
    refine' sxs_cons (sx_ret ex_bl ?_)
    exact congrArg (fun z => Rs.sh (D.bl z)) (Option.some.inj h)
  ·
    replace h := ite_f hc2 h
    refine sxs_nil ?_
    obtain ⟨e3, h⟩ := chk_e h
    refine' sxs_cons (sx_if (tx_not (tx_val (ex_callB (cr_all rfl) (on_allB rfl) (by rfl) T.g_all (by decide +kernel) (ax_cons (ex_share (ex_lcM (ItX.c (it_tup (ex_cv (ex_slT (ex_var (pv 0) rfl) ox_none (ox_some ex_int)) (congrArg (fun l => Rs.sh (.tup l)) (row_cut03 _))))) (own := [("_law_part", 2)]) rfl sc_l_row_same.nd (blkOk_by (N := ["_law_found", "_law_due", "_law_part"]) (sc := defScope s_l_row_same) (by decide +kernel)) (fun _ _ _ _ _ => (pg_name (i := 2) sc_l_row_same.nd rfl (by first | exact .inl rfl | exact .inr (.inl rfl) | exact .inr rfl))) (fun wi itw => (ev_lcX (pO := fun part_1 => some true) (fO := fun part_1 => some true) (emb := D.str) (eb := D.bl) (mk := .sh) itw (comp_map _ _) (gset_name (by decide)) e3 (fun part_1 _ k h => by obtain rfl := Option.some.inj h; exact ⟨_, gv_name, (fun _ _ _ _ _ => txs_nil), fun _ b h => by obtain rfl := Option.some.inj h; exact fun _ _ _ _ _ => (ex_cv (ex_isF (r := .sh (D.str part_1)) kit_S (by rfl) T.g_isinstance (by rfl) T.g_str (by decide +kernel) (ex_var (pv 2) rfl) rfl) (by rfl))⟩))))) ax_nil)))) (fun hc11 => ?_) (fun hc11 => ?_))
    ·
      replace h := ite_t hc11 h
      refine' sxs_cons (sx_ret ex_bl ?_)
      exact congrArg (fun z => Rs.sh (D.bl z)) (Option.some.inj h)
    ·
      replace h := ite_f hc11 h
      refine sxs_nil ?_
      refine' sxs_cons (sx_if (tx_eqI (ex_cv (ex_callB call_len_seq (on_len rfl) (by rfl) T.g_len PySem.boot_len (ax_cons (ex_var (pv 0) rfl) ax_nil)) (congrArg (fun i => Rs.sh (.int i)) (row_size _))) ex_int) (fun hc19 => ?_) (fun hc19 => ?_))
      ·
        replace h := ite_t hc19 h
        obtain ⟨v_2, e6, h⟩ := bO h
        obtain ⟨b_2, e7, h⟩ := bO h
        refine' sxs_cons (sx_ret (ex_andO (ex_cv (ex_isF (r := .sh ((eTU D.str) v_2)) kit_Tu (by rfl) T.g_isinstance (by rfl) T.g_tuple (by decide +kernel) (ex_ix ix_tup (o2_ixT (row_at3 e6)) (ex_var (pv 0) rfl) ex_int) rfl) (by rfl)) (fun _ k h => by obtain ⟨v_1, e4, h⟩ := bO h; obtain ⟨e5, h⟩ := chk_e h; obtain rfl := Option.some.inj h; exact (ex_one (ex_callB (cr_all rfl) (on_allB rfl) (by rfl) T.g_all (by decide +kernel) (ax_cons (ex_share (ex_lcM (ItX.c (it_tup (ex_ix ix_tup (o2_ixT (row_at3 e4)) (ex_var (pv 0) rfl) ex_int))) (own := [("_law_part", 2)]) rfl sc_l_row_same.nd (blkOk_by (N := ["_law_found", "_law_due", "_law_part"]) (sc := defScope s_l_row_same) (by decide +kernel)) (fun _ _ _ _ _ => (pg_name (i := 2) sc_l_row_same.nd rfl (by first | exact .inl rfl | exact .inr (.inl rfl) | exact .inr rfl))) (fun wi itw => (ev_lcX (pO := fun part_2 => some true) (fO := fun part_2 => some true) (emb := D.str) (eb := D.bl) (mk := .sh) itw (comp_map _ _) (gset_name (by decide)) e5 (fun part_2 _ k h => by obtain rfl := Option.some.inj h; exact ⟨_, gv_name, (fun _ _ _ _ _ => txs_nil), fun _ b h => by obtain rfl := Option.some.inj h; exact fun _ _ _ _ _ => (ex_cv (ex_isF (r := .sh (D.str part_2)) kit_S (by rfl) T.g_isinstance (by rfl) T.g_str (by decide +kernel) (ex_var (pv 2) rfl) rfl) (by rfl))⟩))))) ax_nil)))) e7) ?_)
        exact congrArg (fun z => Rs.sh (D.bl z)) (Option.some.inj h)
      ·
        replace h := ite_f hc19 h
        refine sxs_nil ?_
        refine' sxs_cons (sx_ret ex_bl ?_)
        exact congrArg (fun z => Rs.sh (D.bl z)) (Option.some.inj h)
def R_l_same (ds : List D) (r : Rs) : Prop := ∃ (found : (List ((List RowT) × (List Int)))) (due : (List ((List RowT) × (List Int)))) (v : Bool), ds = [(eL (eP2 (eL rowD) (eL D.int))) found, (eL (eP2 (eL rowD) (eL D.int))) due] ∧ f_l_same found due = some v ∧ r = .sh (D.bl v)
theorem ok_l_same (T : Txt K mg) (TB_is_name : GxR.TabB base mg (He.cT K ("is_name", none)).1 (He.cT K ("is_name", none)).2) (TB_is_way : GxR.TabB base mg (He.cT K ("is_way", none)).1 (He.cT K ("is_way", none)).2) : FnOk P w K mg base CX0 3 (He.fAd K ("_law_same", none)) T.fd_l_same ["_law_found", "_law_due"] (spR K R_l_same) := by
  refine ok_fn T.F_l_same sc_l_same (fun ds r hR => ?_) (fun cdv A outer s H ds r E W hr hR => ?_)
  · obtain ⟨found, due, v, rfl, _⟩ := hR; rfl
  obtain ⟨found, due, v, rfl, h, rfl⟩ := hR
  unfold f_l_same at h
  refine SXs.as (ρ' := [.sh ((eL (eP2 (eL rowD) (eL D.int))) found), .sh ((eL (eP2 (eL rowD) (eL D.int))) due), .no, .no, .no]) rfl ?_
  refine' sxs_cons (sx_if (tx_w (wx_or (tx_not (tx_val (ex_cv (ex_isF (r := .sh ((eL (eP2 (eL rowD) (eL D.int))) found)) kit_L (by rfl) T.g_isinstance (by rfl) T.g_list (by decide +kernel) (ex_var (pv 0) rfl) rfl) (by rfl)))) (fun _ => (wx_or1 (tx_neI (ex_callB call_len_seq (on_lenE (em := (eP2 (eL rowD) (eL D.int))) rfl) (by rfl) T.g_len PySem.boot_len (ax_cons (ex_var (pv 0) rfl) ax_nil)) (ex_callB call_len_seq (on_lenE (em := (eP2 (eL rowD) (eL D.int))) rfl) (by rfl) T.g_len PySem.boot_len (ax_cons (ex_var (pv 1) rfl) ax_nil))))))) (fun hc1 => ?_) (fun hc1 => ?_))
  ·
    replace h := ite_t hc1 h
    refine' sxs_cons (sx_ret ex_bl ?_)
    exact congrArg (fun z => Rs.sh (D.bl z)) (Option.some.inj h)
  ·
    replace h := ite_f hc1 h
    refine sxs_nil ?_
    obtain ⟨e1, h⟩ := chk_e h
    obtain ⟨r_1, e2, h⟩ := bO h
    have hA1 := h
    refine' sxs_cons (sx_foldR (s0 := ()) (emb := D.int) (fun (s_1 : Unit) => [.sh ((eL (eP2 (eL rowD) (eL D.int))) found), .sh ((eL (eP2 (eL rowD) (eL D.int))) due), .no, .no, .no]) PassesOwn.never ((it_rng (by rfl) T.g_range (ex_callB call_len_seq (on_lenE (em := (eP2 (eL rowD) (eL D.int))) rfl) (by rfl) T.g_len PySem.boot_len (ax_cons (ex_var (pv 1) rfl) ax_nil)) e1).it rfl) (pg_name (i := 2) sc_l_same.nd rfl (by first | exact .inl rfl | exact .inr (.inl rfl) | exact .inr rfl)) (.eq (.eq (.eq (.eq (.eq .nil))))) e2 (fun k_1 s_1 s' _ h hv1 => ⟨_, gv_name, ?_⟩) (fun s_2 hq1 ρ1 l1 => SXs.weak l1 ?_))
    ·
      refine SXs.as (ρ' := [.sh ((eL (eP2 (eL rowD) (eL D.int))) found), .sh ((eL (eP2 (eL rowD) (eL D.int))) due), .sh (D.int k_1), .no, .no]) rfl ?_
      obtain ⟨v_1, e3, h⟩ := bO h
      refine' sxs_cons (sx_set (i := 3) sc_l_same.nd rfl (by first | exact .inl rfl | exact .inr (.inl rfl) | exact .inr rfl) (ex_ixE (em := (eP2 (eL rowD) (eL D.int))) (ex_var (pv 0) rfl) (ex_var (pv 2) rfl) e3) ?_)
      refine SXs.as (ρ' := [.sh ((eL (eP2 (eL rowD) (eL D.int))) found), .sh ((eL (eP2 (eL rowD) (eL D.int))) due), .sh (D.int k_1), .sh ((eP2 (eL rowD) (eL D.int)) v_1), .no]) rfl ?_
      refine' sxs_cons (sx_if (tx_w (wx_or (tx_not (tx_val (ex_cv (ex_isF (r := .sh ((eP2 (eL rowD) (eL D.int)) v_1)) kit_Tu (by rfl) T.g_isinstance (by rfl) T.g_tuple (by decide +kernel) (ex_var (pv 3) rfl) rfl) (by rfl)))) (fun _ => (wx_or (tx_neI (ex_cv (ex_callB call_len_seq (on_len rfl) (by rfl) T.g_len PySem.boot_len (ax_cons (ex_var (pv 3) rfl) ax_nil)) rfl) ex_int) (fun _ => (wx_or1 (tx_not (tx_val (ex_cv (ex_isF (r := .sh ((eL rowD) v_1.1)) kit_L (by rfl) T.g_isinstance (by rfl) T.g_list (by decide +kernel) (ex_cv (r' := .sh ((eL rowD) v_1.1)) (ex_ix ix_tup (o2_ixT rfl) (ex_var (pv 3) rfl) ex_int) rfl) rfl) (by rfl)))))))))) (fun hc18 => ?_) (fun hc18 => ?_))
      ·
        replace h := ite_t hc18 h
        refine' sxs_cons (sx_ret ex_bl ?_)
        replace h := ansO_r (hv1 _ (Option.some.inj h).symm) hA1; exact congrArg (fun z => Rs.sh (D.bl z)) (Option.some.inj h)
      ·
        replace h := ite_f hc18 h
        refine sxs_nil ?_
        obtain ⟨v_4, e6, h⟩ := bO h
        obtain ⟨b_1, e7, h⟩ := bO h
        refine' sxs_cons (sx_if (tx_w (wx_orO (tx_neI (ex_callB call_len_seq (on_lenE (em := rowD) rfl) (by rfl) T.g_len PySem.boot_len (ax_cons (ex_cv (r' := .sh ((eL rowD) v_1.1)) (ex_ix ix_tup (o2_ixT rfl) (ex_var (pv 3) rfl) ex_int) rfl) ax_nil)) (ex_callB call_len_seq (on_lenE (em := rowD) rfl) (by rfl) T.g_len PySem.boot_len (ax_cons (ex_cv (r' := .sh ((eL rowD) v_4.1)) (ex_ix ix_tup (o2_ixT rfl) (ex_ixE (em := (eP2 (eL rowD) (eL D.int))) (ex_var (pv 1) rfl) (ex_var (pv 2) rfl) e6) ex_int) rfl) ax_nil))) (fun _ k h => by obtain ⟨v_2, e4, h⟩ := bO h; obtain ⟨v_3, e5, h⟩ := bO h; obtain rfl := Option.some.inj h; exact (wx_or1 (tx_not (tx_val (ex_cv (r' := .sh (D.bl v_3)) (ex_call2 (ok_l_numbers T TB_is_name TB_is_way) (hr.mono (by decide)) (by rfl) T.g_l_numbers T.F_l_numbers.kp (b_l_numbers T) pass0 (ax_cons (ex_cv (r' := .sh ((eL D.int) v_1.2)) (ex_ix ix_tup (o2_ixT rfl) (ex_var (pv 3) rfl) ex_int) rfl) (ax_cons (ex_cv (r' := .sh ((eL D.int) v_2.2)) (ex_ix ix_tup (o2_ixT rfl) (ex_ixE (em := (eP2 (eL rowD) (eL D.int))) (ex_var (pv 1) rfl) (ex_var (pv 2) rfl) e4) ex_int) rfl) ax_nil)) ⟨_, _, _, rfl, e5, rfl⟩) rfl))))) e7)) (fun hc28 => ?_) (fun hc28 => ?_))
        ·
          replace h := ite_t hc28 h
          refine' sxs_cons (sx_ret ex_bl ?_)
          replace h := ansO_r (hv1 _ (Option.some.inj h).symm) hA1; exact congrArg (fun z => Rs.sh (D.bl z)) (Option.some.inj h)
        ·
          replace h := ite_f hc28 h
          refine sxs_nil ?_
          obtain ⟨e8, h⟩ := chk_e h
          obtain ⟨r_2, e9, h⟩ := bO h
          have hA2 := h
          refine' sxs_cons (sx_foldR (s0 := ()) (emb := D.int) (fun (s_3 : Unit) => [.sh ((eL (eP2 (eL rowD) (eL D.int))) found), .sh ((eL (eP2 (eL rowD) (eL D.int))) due), .sh (D.int k_1), .sh ((eP2 (eL rowD) (eL D.int)) v_1), .no]) PassesOwn.never ((it_rng (by rfl) T.g_range (ex_callB call_len_seq (on_lenE (em := rowD) rfl) (by rfl) T.g_len PySem.boot_len (ax_cons (ex_cv (r' := .sh ((eL rowD) v_1.1)) (ex_ix ix_tup (o2_ixT rfl) (ex_var (pv 3) rfl) ex_int) rfl) ax_nil)) e8).it rfl) (pg_name (i := 4) sc_l_same.nd rfl (by first | exact .inl rfl | exact .inr (.inl rfl) | exact .inr rfl)) (.eq (.eq (.eq (.eq (.eq .nil))))) e9 (fun at__1 s_3 s' _ h hv2 => ⟨_, gv_name, ?_⟩) (fun s_4 hq2 ρ1 l1 => SXs.weak l1 ?_))
          ·
            refine SXs.as (ρ' := [.sh ((eL (eP2 (eL rowD) (eL D.int))) found), .sh ((eL (eP2 (eL rowD) (eL D.int))) due), .sh (D.int k_1), .sh ((eP2 (eL rowD) (eL D.int)) v_1), .sh (D.int at__1)]) rfl ?_
            obtain ⟨v_5, e10, h⟩ := bO h
            obtain ⟨v_6, e11, h⟩ := bO h
            obtain ⟨v_7, e12, h⟩ := bO h
            obtain ⟨v_8, e13, h⟩ := bO h
            refine' sxs_cons (sx_if (tx_not (tx_val (ex_cv (r' := .sh (D.bl v_8)) (ex_call2 (ok_l_row_same T TB_is_name TB_is_way) (hr.mono (by decide)) (by rfl) T.g_l_row_same T.F_l_row_same.kp (b_l_row_same T) pass0 (ax_cons (ex_ixE (em := rowD) (ex_cv (r' := .sh ((eL rowD) v_1.1)) (ex_ix ix_tup (o2_ixT rfl) (ex_var (pv 3) rfl) ex_int) rfl) (ex_var (pv 4) rfl) e10) (ax_cons (ex_ixE (em := rowD) (ex_cv (r' := .sh ((eL rowD) v_6.1)) (ex_ix ix_tup (o2_ixT rfl) (ex_ixE (em := (eP2 (eL rowD) (eL D.int))) (ex_var (pv 1) rfl) (ex_var (pv 2) rfl) e11) ex_int) rfl) (ex_var (pv 4) rfl) e12) ax_nil)) ⟨_, _, _, rfl, e13, rfl⟩) rfl))) (fun hc46 => ?_) (fun hc46 => ?_))
            ·
              replace h := ite_t hc46 h
              refine' sxs_cons (sx_ret ex_bl ?_)
              replace h := ansO_r (hv2 _ (Option.some.inj h).symm) hA2; replace h := ansO_r (hv1 _ (Option.some.inj h).symm) hA1; exact congrArg (fun z => Rs.sh (D.bl z)) (Option.some.inj h)
            ·
              replace h := ite_f hc46 h
              refine sxs_nil ?_
              refine sxs_nil ?_
              obtain rfl := Option.some.inj h
              exact ⟨_, rfl, (.eq (.eq (.eq (.eq (.no .nil)))))⟩
          replace h := ansO_l hq2 hA2
          refine sxs_nil ?_
          obtain rfl := Option.some.inj h
          exact ⟨_, rfl, (.eq (.eq (.no (.no (.eq .nil)))))⟩
    replace h := ansO_l hq1 hA1
    refine' sxs_cons (sx_ret ex_bl ?_)
    exact congrArg (fun z => Rs.sh (D.bl z)) (Option.some.inj h)
def R_l_copy (ds : List D) (r : Rs) : Prop := ∃ (program : (List ((List RowT) × (List Int)))) (v : (List ((List RowT) × (List Int)))), ds = [(eL (eP2 (eL rowD) (eL D.int))) program] ∧ f_l_copy program = some v ∧ r = .nd ((eL (eP2 (eL rowD) (eL D.int))) v)
theorem ok_l_copy (T : Txt K mg) (TB_is_name : GxR.TabB base mg (He.cT K ("is_name", none)).1 (He.cT K ("is_name", none)).2) (TB_is_way : GxR.TabB base mg (He.cT K ("is_way", none)).1 (He.cT K ("is_way", none)).2) : FnOk P w K mg base CX0 1 (He.fAd K ("_law_copy", none)) T.fd_l_copy ["_law_program"] (spR K R_l_copy) := by
  refine ok_fn T.F_l_copy sc_l_copy (fun ds r hR => ?_) (fun cdv A outer s H ds r E W hr hR => ?_)
  · obtain ⟨program, v, rfl, _⟩ := hR; rfl
  obtain ⟨program, v, rfl, h, rfl⟩ := hR
  unfold f_l_copy at h
  refine SXs.as (ρ' := [.sh ((eL (eP2 (eL rowD) (eL D.int))) program), .no]) rfl ?_
  obtain ⟨e1, h⟩ := chk_e h
  refine' sxs_cons (sx_ret (ex_lcM (ItX.c (it_list (ex_var (pv 0) rfl))) (own := [("_law_block", 1)]) rfl sc_l_copy.nd (blkOk_by (N := ["_law_program", "_law_block"]) (sc := defScope s_l_copy) (by decide +kernel)) (fun _ _ _ _ _ => (pg_name (i := 1) sc_l_copy.nd rfl (by first | exact .inl rfl | exact .inr (.inl rfl) | exact .inr rfl))) (fun wi itw => (ev_lcXD (pO := fun block_1 => some true) (fO := fun block_1 => some (block_1.1, block_1.2)) (emb := (eP2 (eL rowD) (eL D.int))) (eb := (eP2 (eL rowD) (eL D.int))) (mk := .sh) itw (comp_map _ _) (gset_name (by decide)) e1 (fun block_1 _ k h => by obtain rfl := Option.some.inj h; exact ⟨_, gv_name, (fun _ _ _ _ _ => txs_nil), fun _ b h => by obtain rfl := Option.some.inj h; exact fun _ _ _ _ _ => (ex_cv (r' := .nd ((eP2 (eL rowD) (eL D.int)) (block_1.1, block_1.2))) (ex_tupD (an_cons (ex_ndO (ex_cv (r' := .nw ((eL rowD) block_1.1)) (ex_callTy call_list_of (on_list rfl (.inl ⟨_, rfl⟩)) (by rfl) T.g_list (by decide +kernel) (ax_cons (ex_cv (r' := .sh ((eL rowD) block_1.1)) (ex_ix ix_tup (o2_ixT rfl) (ex_var (pv 1) rfl) ex_int) rfl) ax_nil)) rfl) ((inferInstance : ImO (eL rowD)).h _)) (an_cons (ex_ndO (ex_cv (r' := .nw ((eL D.int) block_1.2)) (ex_callTy call_list_of (on_list rfl (.inl ⟨_, rfl⟩)) (by rfl) T.g_list (by decide +kernel) (ax_cons (ex_cv (r' := .sh ((eL D.int) block_1.2)) (ex_ix ix_tup (o2_ixT rfl) (ex_var (pv 1) rfl) ex_int) rfl) ax_nil)) rfl) ((inferInstance : ImO (eL D.int)).h _)) an_nil)) (by show 2 ≤ sizeLine; decide)) rfl)⟩)))) ?_)
  exact congrArg (fun z => Rs.nd ((eL (eP2 (eL rowD) (eL D.int))) z)) (Option.some.inj h)
def R_l_text_by (ds : List D) (r : Rs) : Prop := ∃ (program : (List ((List RowT) × (List Int)))) (v : Str), ds = [(eL (eP2 (eL rowD) (eL D.int))) program] ∧ f_l_text_by program = some v ∧ r = .sh (D.str v)
theorem ok_l_text_by (T : Txt K mg) (TB_is_name : GxR.TabB base mg (He.cT K ("is_name", none)).1 (He.cT K ("is_name", none)).2) (TB_is_way : GxR.TabB base mg (He.cT K ("is_way", none)).1 (He.cT K ("is_way", none)).2) : FnOk P w K mg base CX0 1 (He.fAd K ("_law_text_by", none)) T.fd_l_text_by ["_law_program"] (spR K R_l_text_by) := by
  refine ok_fn T.F_l_text_by sc_l_text_by (fun ds r hR => ?_) (fun cdv A outer s H ds r E W hr hR => ?_)
  · obtain ⟨program, v, rfl, _⟩ := hR; rfl
  obtain ⟨program, v, rfl, h, rfl⟩ := hR
  unfold f_l_text_by at h
  refine SXs.as (ρ' := [.sh ((eL (eP2 (eL rowD) (eL D.int))) program), .no, .no, .no, .no, .no]) rfl ?_
  obtain ⟨text_1, e1, h⟩ := letO_e h
  refine' sxs_cons (sx_set (i := 1) sc_l_text_by.nd rfl (by first | exact .inl rfl | exact .inr (.inl rfl) | exact .inr rfl) (ex_cv ex_str (congrArg (fun z => Rs.sh (D.str z)) e1)) ?_)
  refine SXs.as (ρ' := [.sh ((eL (eP2 (eL rowD) (eL D.int))) program), .sh (D.str text_1), .no, .no, .no, .no]) rfl ?_
  obtain ⟨r_1, e2, h⟩ := bO h
  refine' sxs_cons (sx_foldO (s0 := text_1) (emb := (eP2 (eL rowD) (eL D.int))) (fun (s_1 : (Str)) => [.sh ((eL (eP2 (eL rowD) (eL D.int))) program), .sh (D.str s_1), .no, .no, .no, .no]) PassesOwn.never ((it_list (ex_var (pv 0) rfl)).it rfl) (pg_name (i := 2) sc_l_text_by.nd rfl (by first | exact .inl rfl | exact .inr (.inl rfl) | exact .inr rfl)) (.eq (.eq (.eq (.eq (.eq (.eq .nil)))))) e2 (fun block_1 s_1 s' _ h => ⟨_, gv_name, ?_⟩) (fun ρ1 l1 => SXs.weak l1 ?_))
  ·
    refine SXs.as (ρ' := [.sh ((eL (eP2 (eL rowD) (eL D.int))) program), .sh (D.str s_1), .sh ((eP2 (eL rowD) (eL D.int)) block_1), .no, .no, .no]) rfl ?_
    obtain ⟨e3, h⟩ := chk_e h
    obtain ⟨text_2, e4, h⟩ := letO_e h
    refine' sxs_cons (sx_set (i := 1) sc_l_text_by.nd rfl (by first | exact .inl rfl | exact .inr (.inl rfl) | exact .inr rfl) (ex_cv (ex_addS (ex_var (pv 1) rfl) ex_str e3) (congrArg (fun z => Rs.sh (D.str z)) e4)) ?_)
    refine SXs.as (ρ' := [.sh ((eL (eP2 (eL rowD) (eL D.int))) program), .sh (D.str text_2), .sh ((eP2 (eL rowD) (eL D.int)) block_1), .no, .no, .no]) rfl ?_
    obtain ⟨r_2, e5, h⟩ := bO h
    refine' sxs_cons (sx_foldO (s0 := text_2) (emb := rowD) (fun (s_2 : (Str)) => [.sh ((eL (eP2 (eL rowD) (eL D.int))) program), .sh (D.str s_2), .sh ((eP2 (eL rowD) (eL D.int)) block_1), .no, .no, .no]) PassesOwn.never ((it_list (ex_cv (r' := .sh ((eL rowD) block_1.1)) (ex_ix ix_tup (o2_ixT rfl) (ex_var (pv 2) rfl) ex_int) rfl)).it rfl) (pg_name (i := 3) sc_l_text_by.nd rfl (by first | exact .inl rfl | exact .inr (.inl rfl) | exact .inr rfl)) (.eq (.eq (.eq (.eq (.eq (.eq .nil)))))) e5 (fun row_1 s_2 s' _ h => ⟨_, gv_name, ?_⟩) (fun ρ1 l1 => SXs.weak l1 ?_))
    ·
      refine SXs.as (ρ' := [.sh ((eL (eP2 (eL rowD) (eL D.int))) program), .sh (D.str s_2), .sh ((eP2 (eL rowD) (eL D.int)) block_1), .sh (rowD row_1), .no, .no]) rfl ?_
      refine' sxs_cons (sx_if (tx_eqS (ex_ix ix_tup (o2_ixT (row_at0 _)) (ex_var (pv 3) rfl) ex_int) ex_str) (fun hc16 => ?_) (fun hc16 => ?_))
      ·
        replace h := ite_t hc16 h
        obtain ⟨e6, h⟩ := chk_e h
        obtain ⟨e7, h⟩ := chk_e h
        obtain ⟨e8, h⟩ := chk_e h
        obtain ⟨text_3, e9, h⟩ := letO_e h
        refine' sxs_cons (sx_set (i := 1) sc_l_text_by.nd rfl (by first | exact .inl rfl | exact .inr (.inl rfl) | exact .inr rfl) (ex_cv (ex_addS (ex_addS (ex_addS (ex_var (pv 1) rfl) ex_str e6) (ex_ix ix_tup (o2_ixT (row_at1 _)) (ex_var (pv 3) rfl) ex_int) e7) ex_str e8) (congrArg (fun z => Rs.sh (D.str z)) e9)) ?_)
        refine SXs.as (ρ' := [.sh ((eL (eP2 (eL rowD) (eL D.int))) program), .sh (D.str text_3), .sh ((eP2 (eL rowD) (eL D.int)) block_1), .sh (rowD row_1), .no, .no]) rfl ?_
        refine sxs_nil ?_
        refine sxs_nil ?_
        obtain rfl := Option.some.inj h
        exact (.eq (.eq (.eq (.no (.eq (.eq .nil))))))
      ·
        replace h := ite_f hc16 h
        obtain ⟨e10, h⟩ := chk_e h
        obtain ⟨e11, h⟩ := chk_e h
        obtain ⟨v_1, e12, h⟩ := bO h
        obtain ⟨e13, h⟩ := chk_e h
        obtain ⟨text_4, e14, h⟩ := letO_e h
        refine' sxs_cons (sx_set (i := 1) sc_l_text_by.nd rfl (by first | exact .inl rfl | exact .inr (.inl rfl) | exact .inr rfl) (ex_cv (ex_addS (ex_addS (ex_addS (ex_var (pv 1) rfl) (ex_ix ix_tup (o2_ixT (row_at1 _)) (ex_var (pv 3) rfl) ex_int) e10) ex_str e11) (ex_ix ix_tup (o2_ixT (row_at2 e12)) (ex_var (pv 3) rfl) ex_int) e13) (congrArg (fun z => Rs.sh (D.str z)) e14)) ?_)
        refine SXs.as (ρ' := [.sh ((eL (eP2 (eL rowD) (eL D.int))) program), .sh (D.str text_4), .sh ((eP2 (eL rowD) (eL D.int)) block_1), .sh (rowD row_1), .no, .no]) rfl ?_
        obtain ⟨v_2, e15, h⟩ := bO h
        obtain ⟨r_3, e16, h⟩ := bO h
        refine' sxs_cons (sx_foldO (s0 := text_4) (emb := D.str) (fun (s_3 : (Str)) => [.sh ((eL (eP2 (eL rowD) (eL D.int))) program), .sh (D.str s_3), .sh ((eP2 (eL rowD) (eL D.int)) block_1), .sh (rowD row_1), .no, .no]) PassesOwn.never ((it_tup (ex_ix ix_tup (o2_ixT (row_at3 e15)) (ex_var (pv 3) rfl) ex_int)).it rfl) (pg_name (i := 4) sc_l_text_by.nd rfl (by first | exact .inl rfl | exact .inr (.inl rfl) | exact .inr rfl)) (.eq (.eq (.eq (.eq (.eq (.eq .nil)))))) e16 (fun slot_1 s_3 s' _ h => ⟨_, gv_name, ?_⟩) (fun ρ1 l1 => SXs.weak l1 ?_))
        ·
          refine SXs.as (ρ' := [.sh ((eL (eP2 (eL rowD) (eL D.int))) program), .sh (D.str s_3), .sh ((eP2 (eL rowD) (eL D.int)) block_1), .sh (rowD row_1), .sh (D.str slot_1), .no]) rfl ?_
          obtain ⟨e17, h⟩ := chk_e h
          obtain ⟨e18, h⟩ := chk_e h
          obtain ⟨text_5, e19, h⟩ := letO_e h
          refine' sxs_cons (sx_set (i := 1) sc_l_text_by.nd rfl (by first | exact .inl rfl | exact .inr (.inl rfl) | exact .inr rfl) (ex_cv (ex_addS (ex_addS (ex_var (pv 1) rfl) ex_str e17) (ex_var (pv 4) rfl) e18) (congrArg (fun z => Rs.sh (D.str z)) e19)) ?_)
          refine SXs.as (ρ' := [.sh ((eL (eP2 (eL rowD) (eL D.int))) program), .sh (D.str text_5), .sh ((eP2 (eL rowD) (eL D.int)) block_1), .sh (rowD row_1), .sh (D.str slot_1), .no]) rfl ?_
          refine sxs_nil ?_
          obtain rfl := Option.some.inj h
          exact (.eq (.eq (.eq (.eq (.no (.eq .nil))))))
        obtain ⟨e20, h⟩ := chk_e h
        obtain ⟨text_6, e21, h⟩ := letO_e h
        refine' sxs_cons (sx_set (i := 1) sc_l_text_by.nd rfl (by first | exact .inl rfl | exact .inr (.inl rfl) | exact .inr rfl) (ex_cv (ex_addS (ex_var (pv 1) rfl) ex_str e20) (congrArg (fun z => Rs.sh (D.str z)) e21)) ?_)
        refine SXs.as (ρ' := [.sh ((eL (eP2 (eL rowD) (eL D.int))) program), .sh (D.str text_6), .sh ((eP2 (eL rowD) (eL D.int)) block_1), .sh (rowD row_1), .no, .no]) rfl ?_
        refine sxs_nil ?_
        refine sxs_nil ?_
        obtain rfl := Option.some.inj h
        exact (.eq (.eq (.eq (.no (.eq (.eq .nil))))))
    obtain ⟨e22, h⟩ := chk_e h
    obtain ⟨text_7, e23, h⟩ := letO_e h
    refine' sxs_cons (sx_set (i := 1) sc_l_text_by.nd rfl (by first | exact .inl rfl | exact .inr (.inl rfl) | exact .inr rfl) (ex_cv (ex_addS (ex_var (pv 1) rfl) ex_str e22) (congrArg (fun z => Rs.sh (D.str z)) e23)) ?_)
    refine SXs.as (ρ' := [.sh ((eL (eP2 (eL rowD) (eL D.int))) program), .sh (D.str text_7), .sh ((eP2 (eL rowD) (eL D.int)) block_1), .no, .no, .no]) rfl ?_
    obtain ⟨r_4, e24, h⟩ := bO h
    refine' sxs_cons (sx_foldO (s0 := text_7) (emb := D.int) (fun (s_4 : (Str)) => [.sh ((eL (eP2 (eL rowD) (eL D.int))) program), .sh (D.str s_4), .sh ((eP2 (eL rowD) (eL D.int)) block_1), .no, .no, .no]) PassesOwn.never ((it_list (ex_cv (r' := .sh ((eL D.int) block_1.2)) (ex_ix ix_tup (o2_ixT rfl) (ex_var (pv 2) rfl) ex_int) rfl)).it rfl) (pg_name (i := 5) sc_l_text_by.nd rfl (by first | exact .inl rfl | exact .inr (.inl rfl) | exact .inr rfl)) (.eq (.eq (.eq (.eq (.eq (.eq .nil)))))) e24 (fun way_1 s_4 s' _ h => ⟨_, gv_name, ?_⟩) (fun ρ1 l1 => SXs.weak l1 ?_))
    ·
      refine SXs.as (ρ' := [.sh ((eL (eP2 (eL rowD) (eL D.int))) program), .sh (D.str s_4), .sh ((eP2 (eL rowD) (eL D.int)) block_1), .no, .no, .sh (D.int way_1)]) rfl ?_
      obtain ⟨e25, h⟩ := chk_e h
      obtain ⟨e26, h⟩ := chk_e h
      obtain ⟨e27, h⟩ := chk_e h
      obtain ⟨text_8, e28, h⟩ := letO_e h
      refine' sxs_cons (sx_set (i := 1) sc_l_text_by.nd rfl (by first | exact .inl rfl | exact .inr (.inl rfl) | exact .inr rfl) (ex_cv (ex_addS (ex_addS (ex_var (pv 1) rfl) ex_str e25) (ex_callTy call_str_int (on_str e26) (by rfl) T.g_str (by decide +kernel) (ax_cons (ex_var (pv 5) rfl) ax_nil)) e27) (congrArg (fun z => Rs.sh (D.str z)) e28)) ?_)
      refine SXs.as (ρ' := [.sh ((eL (eP2 (eL rowD) (eL D.int))) program), .sh (D.str text_8), .sh ((eP2 (eL rowD) (eL D.int)) block_1), .no, .no, .sh (D.int way_1)]) rfl ?_
      refine sxs_nil ?_
      obtain rfl := Option.some.inj h
      exact (.eq (.eq (.eq (.eq (.eq (.no .nil))))))
    obtain ⟨e29, h⟩ := chk_e h
    obtain ⟨text_9, e30, h⟩ := letO_e h
    refine' sxs_cons (sx_set (i := 1) sc_l_text_by.nd rfl (by first | exact .inl rfl | exact .inr (.inl rfl) | exact .inr rfl) (ex_cv (ex_addS (ex_var (pv 1) rfl) ex_str e29) (congrArg (fun z => Rs.sh (D.str z)) e30)) ?_)
    refine SXs.as (ρ' := [.sh ((eL (eP2 (eL rowD) (eL D.int))) program), .sh (D.str text_9), .sh ((eP2 (eL rowD) (eL D.int)) block_1), .no, .no, .no]) rfl ?_
    refine sxs_nil ?_
    obtain rfl := Option.some.inj h
    exact (.eq (.eq (.no (.eq (.eq (.eq .nil))))))
  refine' sxs_cons (sx_ret (ex_var (pv 1) rfl) ?_)
  exact congrArg (fun z => Rs.sh (D.str z)) (Option.some.inj h)
def R_law (ds : List D) (r : Rs) : Prop := ∃ (script : (List Int)) (v : Bool), ds = [D.scr script] ∧ f_law_k10 script = some v ∧ r = .sh (D.bl v)
theorem ok_law (T : Txt K mg) (TB_is_name : GxR.TabB base mg (He.cT K ("is_name", none)).1 (He.cT K ("is_name", none)).2) (TB_is_way : GxR.TabB base mg (He.cT K ("is_way", none)).1 (He.cT K ("is_way", none)).2) : FnOk P w K mg base CX0 6 (He.fAd K ("law", none)) T.fd_law ["_law_script"] (spR K R_law) := by
  refine ok_fn T.F_law sc_law (fun ds r hR => ?_) (fun cdv A outer s H ds r E W hr hR => ?_)
  · obtain ⟨script, v, rfl, _⟩ := hR; rfl
  obtain ⟨script, v, rfl, h, rfl⟩ := hR
  unfold f_law_k10 at h
  refine SXs.as (ρ' := [.sh (D.scr script), .no, .no, .no, .no, .no]) rfl ?_
  obtain ⟨v_1, e1, h⟩ := bO h
  refine' sxs_cons (sx_set (i := 1) sc_law.nd rfl (by first | exact .inl rfl | exact .inr (.inl rfl) | exact .inr rfl) (ex_share (ex_cv (r' := .nw ((eL D.str) v_1)) (ex_call1 (ok_l_names_by T TB_is_name TB_is_way) (hr.mono (by decide)) (by rfl) T.g_l_names_by T.F_l_names_by.kp (b_l_names_by T) pass0 (ax_cons (ex_var (pv 0) rfl) ax_nil) ⟨_, _, rfl, e1, rfl⟩) rfl)) ?_)
  refine SXs.as (ρ' := [.sh (D.scr script), .sh ((eL D.str) v_1), .no, .no, .no, .no]) rfl ?_
  obtain ⟨v_2, e2, h⟩ := bO h
  obtain ⟨j_1, e3, h⟩ := bO h
  refine' sxs_cons (sx_ifJ [.sh (D.scr script), .sh ((eL D.str) j_1), .no, .no, .no, .no] (tx_eqI (ex_mod (ex_cv (r' := .sh (D.int v_2)) (ex_call2 (ok_l_drawn T TB_is_name TB_is_way) (hr.mono (by decide)) (by rfl) T.g_l_drawn T.F_l_drawn.kp (b_l_drawn T) pass0 (ax_cons (ex_var (pv 0) rfl) (ax_cons ex_int ax_nil)) ⟨_, _, _, rfl, e2, rfl⟩) rfl) ex_int (by decide)) ex_int) (fun hc5 => ?_) (fun hc5 => ?_) (fun ρ1 l1 => SXs.weak l1 ?_))
  ·
    have h := ite_t hc5 e3
    obtain ⟨e4, h⟩ := chk_e h
    obtain ⟨names_1, e5, h⟩ := letO_e h
    refine' sxs_cons (sx_set (i := 1) sc_law.nd rfl (by first | exact .inl rfl | exact .inr (.inl rfl) | exact .inr rfl) (ex_share (ex_cv (ex_catE (ex_cv (r' := .nw ((eL D.str) [("tell" : Str), ("to" : Str), ("block" : Str)])) (ex_lst3 (ax_cons ex_str (ax_cons ex_str (ax_cons ex_str ax_nil)))) rfl) (ex_slE (ex_var (pv 1) rfl) rfl (.inl ⟨_, rfl⟩) ox_none (ox_some ex_int)) rfl rfl (shar_im (em := D.str) _) (shar_im (em := D.str) _) e4) (congrArg (fun z => Rs.nw ((eL D.str) z)) e5))) ?_)
    refine SXs.as (ρ' := [.sh (D.scr script), .sh ((eL D.str) names_1), .no, .no, .no, .no]) rfl ?_
    refine sxs_nil ?_
    obtain rfl := Option.some.inj h; exact (.eq (.eq (.eq (.eq (.eq (.eq .nil))))))
  ·
    have h := ite_f hc5 e3
    refine sxs_nil ?_
    obtain rfl := Option.some.inj h; exact (.eq (.eq (.eq (.eq (.eq (.eq .nil))))))
  obtain ⟨v_3, e6, h⟩ := bO h
  refine' sxs_cons (sx_set (i := 2) sc_law.nd rfl (by first | exact .inl rfl | exact .inr (.inl rfl) | exact .inr rfl) (ex_shareD (ex_cv (r' := .nd ((eL (eP2 (eL rowD) (eL D.int))) v_3)) (ex_call2 (ok_l_program_by T TB_is_name TB_is_way) (hr.mono (by decide)) (by rfl) T.g_l_program_by T.F_l_program_by.kp (b_l_program_by T) pass0 (ax_cons (ex_var (pv 0) rfl) (ax_cons (ex_var (pv 1) rfl) ax_nil)) ⟨_, _, _, rfl, e6, rfl⟩) rfl)) ?_)
  refine SXs.as (ρ' := [.sh (D.scr script), .sh ((eL D.str) j_1), .sh ((eL (eP2 (eL rowD) (eL D.int))) v_3), .no, .no, .no]) rfl ?_
  obtain ⟨v_4, e7, h⟩ := bO h
  refine' sxs_cons (sx_set (i := 3) sc_law.nd rfl (by first | exact .inl rfl | exact .inr (.inl rfl) | exact .inr rfl) (ex_shareD (ex_cv (r' := .nd ((eL (eP2 (eL rowD) (eL D.int))) v_4)) (ex_call1 (ok_l_copy T TB_is_name TB_is_way) (hr.mono (by decide)) (by rfl) T.g_l_copy T.F_l_copy.kp (b_l_copy T) pass0 (ax_cons (ex_var (pv 2) rfl) ax_nil) ⟨_, _, rfl, e7, rfl⟩) rfl)) ?_)
  refine SXs.as (ρ' := [.sh (D.scr script), .sh ((eL D.str) j_1), .sh ((eL (eP2 (eL rowD) (eL D.int))) v_3), .sh ((eL (eP2 (eL rowD) (eL D.int))) v_4), .no, .no]) rfl ?_
  obtain ⟨v_5, e8, h⟩ := bO h
  refine' sxs_cons (sx_set (i := 4) sc_law.nd rfl (by first | exact .inl rfl | exact .inr (.inl rfl) | exact .inr rfl) (ex_cv (r' := .sh (D.str v_5)) (ex_call1 (ok_l_text_by T TB_is_name TB_is_way) (hr.mono (by decide)) (by rfl) T.g_l_text_by T.F_l_text_by.kp (b_l_text_by T) pass0 (ax_cons (ex_var (pv 2) rfl) ax_nil) ⟨_, _, rfl, e8, rfl⟩) rfl) ?_)
  refine SXs.as (ρ' := [.sh (D.scr script), .sh ((eL D.str) j_1), .sh ((eL (eP2 (eL rowD) (eL D.int))) v_3), .sh ((eL (eP2 (eL rowD) (eL D.int))) v_4), .sh (D.str v_5), .no]) rfl ?_
  obtain ⟨v_6, e9, h⟩ := bO h
  refine' sxs_cons (sx_set (i := 5) sc_law.nd rfl (by first | exact .inl rfl | exact .inr (.inl rfl) | exact .inr rfl) (ex_cv (r' := .sh (D.str v_6)) (ex_call1 (ok_shown T TB_is_name TB_is_way) (hr.mono (by decide)) (by rfl) T.g_shown T.F_shown.kp (b_shown T) pass0 (ax_cons (ex_var (pv 3) rfl) ax_nil) ⟨_, _, rfl, e9, rfl⟩) rfl) ?_)
  refine SXs.as (ρ' := [.sh (D.scr script), .sh ((eL D.str) j_1), .sh ((eL (eP2 (eL rowD) (eL D.int))) v_3), .sh ((eL (eP2 (eL rowD) (eL D.int))) v_4), .sh (D.str v_5), .sh (D.str v_6)]) rfl ?_
  obtain ⟨b_2, e12, h⟩ := bO h
  refine' sxs_cons (sx_if (tx_w (wx_orO (tx_not (tx_val (ex_cv (ex_isF (r := .sh (D.str v_6)) kit_S (by rfl) T.g_isinstance (by rfl) T.g_str (by decide +kernel) (ex_var (pv 5) rfl) rfl) (by rfl)))) (fun _ k h => by obtain ⟨b_1, e11, h⟩ := bO h; obtain rfl := Option.some.inj h; exact (wx_orO (tx_neS (ex_var (pv 5) rfl) (ex_var (pv 4) rfl)) (fun _ k h => by obtain ⟨v_7, e10, h⟩ := bO h; obtain rfl := Option.some.inj h; exact (wx_or1 (tx_not (tx_val (ex_cv (r' := .sh (D.bl v_7)) (ex_call2 (ok_l_same T TB_is_name TB_is_way) (hr.mono (by decide)) (by rfl) T.g_l_same T.F_l_same.kp (b_l_same T) pass0 (ax_cons (ex_var (pv 3) rfl) (ax_cons (ex_var (pv 2) rfl) ax_nil)) ⟨_, _, _, rfl, e10, rfl⟩) rfl))))) e11)) e12)) (fun hc32 => ?_) (fun hc32 => ?_))
  ·
    replace h := ite_t hc32 h
    refine' sxs_cons (sx_ret ex_bl ?_)
    exact congrArg (fun z => Rs.sh (D.bl z)) (Option.some.inj h)
  ·
    replace h := ite_f hc32 h
    refine sxs_nil ?_
    obtain ⟨v_8, e13, h⟩ := bO h
    obtain ⟨v_9, e14, h⟩ := bO h
    refine' sxs_cons (sx_ret (ex_cv (r' := .sh (D.bl v_9)) (ex_call2 (ok_l_same T TB_is_name TB_is_way) (hr.mono (by decide)) (by rfl) T.g_l_same T.F_l_same.kp (b_l_same T) pass0 (ax_cons (ex_shareD (ex_cv (r' := .nd ((eL (eP2 (eL rowD) (eL D.int))) v_8)) (ex_call1 (ok_read T TB_is_name TB_is_way) (hr.mono (by decide)) (by rfl) T.g_read T.F_read.kp (b_read T) pass0 (ax_cons (ex_var (pv 4) rfl) ax_nil) ⟨_, _, rfl, e13, rfl⟩) rfl)) (ax_cons (ex_var (pv 2) rfl) ax_nil)) ⟨_, _, _, rfl, e14, rfl⟩) rfl) ?_)
    exact congrArg (fun z => Rs.sh (D.bl z)) (Option.some.inj h)
end
end SF

namespace SF
open PySem PySem.Spec PyProof.Rows L2 PV
def dd_is_name : He.DefD := ⟨("is_name", none), "is_name", "is_name", defArgs s_is_name, defBody s_is_name, defScope s_is_name, [], []⟩
def dd_is_tell : He.DefD := ⟨("is_tell", none), "is_tell", "is_tell", defArgs s_is_tell, defBody s_is_tell, defScope s_is_tell, [], []⟩
def dd_check_sizes : He.DefD := ⟨("check_sizes", none), "check_sizes", "check_sizes", defArgs s_check_sizes, defBody s_check_sizes, defScope s_check_sizes, [], []⟩
def dd_check_ways : He.DefD := ⟨("check_ways", none), "check_ways", "check_ways", defArgs s_check_ways, defBody s_check_ways, defScope s_check_ways, [], []⟩
def dd_names_in : He.DefD := ⟨("names_in", none), "names_in", "names_in", defArgs s_names_in, defBody s_names_in, defScope s_names_in, [], []⟩
def dd_check_row : He.DefD := ⟨("check_row", none), "check_row", "check_row", defArgs s_check_row, defBody s_check_row, defScope s_check_row, [], []⟩
def dd_checked : He.DefD := ⟨("checked", none), "checked", "checked", defArgs s_checked, defBody s_checked, defScope s_checked, [], []⟩
def dd_row_line : He.DefD := ⟨("row_line", none), "row_line", "row_line", defArgs s_row_line, defBody s_row_line, defScope s_row_line, [], []⟩
def dd_shown : He.DefD := ⟨("shown", none), "shown", "shown", defArgs s_shown, defBody s_shown, defScope s_shown, [], []⟩
def dd_worded : He.DefD := ⟨("worded", none), "worded", "worded", defArgs s_worded, defBody s_worded, defScope s_worded, [], []⟩
def dd_is_row : He.DefD := ⟨("is_row", none), "is_row", "is_row", defArgs s_is_row, defBody s_is_row, defScope s_is_row, [], []⟩
def dd_row_of : He.DefD := ⟨("row_of", none), "row_of", "row_of", defArgs s_row_of, defBody s_row_of, defScope s_row_of, [], []⟩
def dd_is_way : He.DefD := ⟨("is_way", none), "is_way", "is_way", defArgs s_is_way, defBody s_is_way, defScope s_is_way, [], []⟩
def dd_way_of : He.DefD := ⟨("way_of", none), "way_of", "way_of", defArgs s_way_of, defBody s_way_of, defScope s_way_of, [], []⟩
def dd_read : He.DefD := ⟨("read", none), "read", "read", defArgs s_read, defBody s_read, defScope s_read, [], []⟩
def dd_l_cell_at : He.DefD := ⟨("_law_cell_at", none), "_law_cell_at", "_law_cell_at", defArgs s_l_cell_at, defBody s_l_cell_at, defScope s_l_cell_at, [], []⟩
def dd_l_drawn : He.DefD := ⟨("_law_drawn", none), "_law_drawn", "_law_drawn", defArgs s_l_drawn, defBody s_l_drawn, defScope s_l_drawn, [], []⟩
def dd_l_rest_by : He.DefD := ⟨("_law_rest_by", none), "_law_rest_by", "_law_rest_by", defArgs s_l_rest_by, defBody s_l_rest_by, defScope s_l_rest_by, [], []⟩
def dd_l_own_sign : He.DefD := ⟨("_law_own_sign", none), "_law_own_sign", "_law_own_sign", defArgs s_l_own_sign, defBody s_l_own_sign, defScope s_l_own_sign, [], []⟩
def dd_l_names_by : He.DefD := ⟨("_law_names_by", none), "_law_names_by", "_law_names_by", defArgs s_l_names_by, defBody s_l_names_by, defScope s_l_names_by, [], []⟩
def dd_l_row_by : He.DefD := ⟨("_law_row_by", none), "_law_row_by", "_law_row_by", defArgs s_l_row_by, defBody s_l_row_by, defScope s_l_row_by, [], []⟩
def dd_l_ways_by : He.DefD := ⟨("_law_ways_by", none), "_law_ways_by", "_law_ways_by", defArgs s_l_ways_by, defBody s_l_ways_by, defScope s_l_ways_by, [], []⟩
def dd_l_program_by : He.DefD := ⟨("_law_program_by", none), "_law_program_by", "_law_program_by", defArgs s_l_program_by, defBody s_l_program_by, defScope s_l_program_by, [], []⟩
def dd_l_whole : He.DefD := ⟨("_law_whole", none), "_law_whole", "_law_whole", defArgs s_l_whole, defBody s_l_whole, defScope s_l_whole, [], []⟩
def dd_l_numbers : He.DefD := ⟨("_law_numbers", none), "_law_numbers", "_law_numbers", defArgs s_l_numbers, defBody s_l_numbers, defScope s_l_numbers, [], []⟩
def dd_l_row_same : He.DefD := ⟨("_law_row_same", none), "_law_row_same", "_law_row_same", defArgs s_l_row_same, defBody s_l_row_same, defScope s_l_row_same, [], []⟩
def dd_l_same : He.DefD := ⟨("_law_same", none), "_law_same", "_law_same", defArgs s_l_same, defBody s_l_same, defScope s_l_same, [], []⟩
def dd_l_copy : He.DefD := ⟨("_law_copy", none), "_law_copy", "_law_copy", defArgs s_l_copy, defBody s_l_copy, defScope s_l_copy, [], []⟩
def dd_l_text_by : He.DefD := ⟨("_law_text_by", none), "_law_text_by", "_law_text_by", defArgs s_l_text_by, defBody s_l_text_by, defScope s_l_text_by, [], []⟩
def dd_law : He.DefD := ⟨("law", none), "law", "law", defArgs s_law, defBody s_law, defScope s_law, [], []⟩
def fnL : List He.DefD := [dd_is_name, dd_is_tell, dd_check_sizes, dd_check_ways, dd_names_in, dd_check_row, dd_checked, dd_row_line, dd_shown, dd_worded, dd_is_row, dd_row_of, dd_is_way, dd_way_of, dd_read, dd_l_cell_at, dd_l_drawn, dd_l_rest_by, dd_l_own_sign, dd_l_names_by, dd_l_row_by, dd_l_ways_by, dd_l_program_by, dd_l_whole, dd_l_numbers, dd_l_row_same, dd_l_same, dd_l_copy, dd_l_text_by, dd_law]
def faL : List He.Fa := [.glo "is_name", .glo "is_tell", .glo "check_sizes", .glo "check_ways", .glo "names_in", .glo "check_row", .glo "checked", .glo "row_line", .glo "shown", .glo "worded", .glo "is_row", .glo "row_of", .glo "is_way", .glo "way_of", .glo "read", .glo "_law_cell_at", .glo "_law_drawn", .glo "_law_rest_by", .glo "_law_own_sign", .glo "_law_names_by", .glo "_law_row_by", .glo "_law_ways_by", .glo "_law_program_by", .glo "_law_whole", .glo "_law_numbers", .glo "_law_row_same", .glo "_law_same", .glo "_law_copy", .glo "_law_text_by", .glo "law", .str "LETTERS" "abcdefghijklmnopqrstuvwxyz", .int "LONGEST_NAME" 12, .int "MOST_BLOCKS" 60, .int "MOST_ROWS" 40, .int "MOST_WAYS" 9, .int "MOST_READS" 2, .str "FIGURES" "0123456789", .int "MOST_FIGURES" 2, .glo "FitError", .glo "NoBlock", .glo "TooMany", .glo "NoName", .glo "SignTwice", .glo "NoWay", .glo "NoLine", .free "all", .free "bool", .free "figure", .free "int", .free "isinstance", .free "len", .free "letter", .free "list", .free "max", .free "min", .free "range", .free "str", .free "tuple", .free "trace", .free "road_to", .free "flow"]
def exL (K : PySem.W.Frag) : Bool := true
abbrev RwL : PySem.W.OpenRow := PySem.W.OpenLaw.row PySem.Challenge.rw_slotfitter_k10_written
abbrev hkL : PySem.W.Hook := He.hookX 4 faL fnL [] [("is_name", none), ("is_way", none)] exL
def obL (s : PySem.W.SharedT) : He.AlX := He.obsX 4 faL fnL [] [("is_name", none), ("is_way", none)] exL (HandSHeadRun.getT s)
theorem obL_eq (s : PySem.W.SharedT) : obL s = hkL.obs s.abs := He.obsX_eq (HandSHeadRun.getT_eq s)
def looseL : List PySem.Str := [("is_name" : PySem.Str), ("is_tell" : PySem.Str), ("check_sizes" : PySem.Str), ("check_ways" : PySem.Str), ("names_in" : PySem.Str), ("check_row" : PySem.Str), ("checked" : PySem.Str), ("row_line" : PySem.Str), ("shown" : PySem.Str), ("worded" : PySem.Str), ("is_row" : PySem.Str), ("row_of" : PySem.Str), ("is_way" : PySem.Str), ("way_of" : PySem.Str), ("read" : PySem.Str), ("_law_cell_at" : PySem.Str), ("_law_drawn" : PySem.Str), ("_law_rest_by" : PySem.Str), ("_law_own_sign" : PySem.Str), ("_law_names_by" : PySem.Str), ("_law_row_by" : PySem.Str), ("_law_ways_by" : PySem.Str), ("_law_program_by" : PySem.Str), ("_law_whole" : PySem.Str), ("_law_numbers" : PySem.Str), ("_law_row_same" : PySem.Str), ("_law_same" : PySem.Str), ("_law_copy" : PySem.Str), ("_law_text_by" : PySem.Str), ("LETTERS" : PySem.Str), ("LONGEST_NAME" : PySem.Str), ("MOST_BLOCKS" : PySem.Str), ("MOST_ROWS" : PySem.Str), ("MOST_WAYS" : PySem.Str), ("MOST_READS" : PySem.Str), ("FIGURES" : PySem.Str), ("MOST_FIGURES" : PySem.Str), ("FitError" : PySem.Str), ("NoBlock" : PySem.Str), ("TooMany" : PySem.Str), ("NoName" : PySem.Str), ("SignTwice" : PySem.Str), ("NoWay" : PySem.Str), ("NoLine" : PySem.Str)]
set_option maxHeartbeats 0 in
theorem runL (w : World) : HandSHeadRun.RunEq RwL (PySem.W.view RwL.prog [49]) hkL obL 4000 looseL w := by
  intro os
  kernel_rfl
theorem txt_of {w : World} {K : PySem.W.Frag} {h : Heap} {mg : Str → Option Value} (X : K.In h) (G : h.Ns mainGlobals mg) (c : He.SaysX faL fnL [] [("is_name", none), ("is_way", none)] exL w h K) : Nonempty (Txt K mg) := by
  obtain ⟨f_is_name, F_is_name⟩ := c.t.d.def_ 0 (d := dd_is_name) rfl
  obtain ⟨f_is_tell, F_is_tell⟩ := c.t.d.def_ 1 (d := dd_is_tell) rfl
  obtain ⟨f_check_sizes, F_check_sizes⟩ := c.t.d.def_ 2 (d := dd_check_sizes) rfl
  obtain ⟨f_check_ways, F_check_ways⟩ := c.t.d.def_ 3 (d := dd_check_ways) rfl
  obtain ⟨f_names_in, F_names_in⟩ := c.t.d.def_ 4 (d := dd_names_in) rfl
  obtain ⟨f_check_row, F_check_row⟩ := c.t.d.def_ 5 (d := dd_check_row) rfl
  obtain ⟨f_checked, F_checked⟩ := c.t.d.def_ 6 (d := dd_checked) rfl
  obtain ⟨f_row_line, F_row_line⟩ := c.t.d.def_ 7 (d := dd_row_line) rfl
  obtain ⟨f_shown, F_shown⟩ := c.t.d.def_ 8 (d := dd_shown) rfl
  obtain ⟨f_worded, F_worded⟩ := c.t.d.def_ 9 (d := dd_worded) rfl
  obtain ⟨f_is_row, F_is_row⟩ := c.t.d.def_ 10 (d := dd_is_row) rfl
  obtain ⟨f_row_of, F_row_of⟩ := c.t.d.def_ 11 (d := dd_row_of) rfl
  obtain ⟨f_is_way, F_is_way⟩ := c.t.d.def_ 12 (d := dd_is_way) rfl
  obtain ⟨f_way_of, F_way_of⟩ := c.t.d.def_ 13 (d := dd_way_of) rfl
  obtain ⟨f_read, F_read⟩ := c.t.d.def_ 14 (d := dd_read) rfl
  obtain ⟨f_l_cell_at, F_l_cell_at⟩ := c.t.d.def_ 15 (d := dd_l_cell_at) rfl
  obtain ⟨f_l_drawn, F_l_drawn⟩ := c.t.d.def_ 16 (d := dd_l_drawn) rfl
  obtain ⟨f_l_rest_by, F_l_rest_by⟩ := c.t.d.def_ 17 (d := dd_l_rest_by) rfl
  obtain ⟨f_l_own_sign, F_l_own_sign⟩ := c.t.d.def_ 18 (d := dd_l_own_sign) rfl
  obtain ⟨f_l_names_by, F_l_names_by⟩ := c.t.d.def_ 19 (d := dd_l_names_by) rfl
  obtain ⟨f_l_row_by, F_l_row_by⟩ := c.t.d.def_ 20 (d := dd_l_row_by) rfl
  obtain ⟨f_l_ways_by, F_l_ways_by⟩ := c.t.d.def_ 21 (d := dd_l_ways_by) rfl
  obtain ⟨f_l_program_by, F_l_program_by⟩ := c.t.d.def_ 22 (d := dd_l_program_by) rfl
  obtain ⟨f_l_whole, F_l_whole⟩ := c.t.d.def_ 23 (d := dd_l_whole) rfl
  obtain ⟨f_l_numbers, F_l_numbers⟩ := c.t.d.def_ 24 (d := dd_l_numbers) rfl
  obtain ⟨f_l_row_same, F_l_row_same⟩ := c.t.d.def_ 25 (d := dd_l_row_same) rfl
  obtain ⟨f_l_same, F_l_same⟩ := c.t.d.def_ 26 (d := dd_l_same) rfl
  obtain ⟨f_l_copy, F_l_copy⟩ := c.t.d.def_ 27 (d := dd_l_copy) rfl
  obtain ⟨f_l_text_by, F_l_text_by⟩ := c.t.d.def_ 28 (d := dd_l_text_by) rfl
  obtain ⟨f_law, F_law⟩ := c.t.d.def_ 29 (d := dd_law) rfl
  obtain ⟨t_LETTERS, k_LETTERS⟩ := He.str_ok X G (c.t.d.fact 30 (f := .str "LETTERS" "abcdefghijklmnopqrstuvwxyz") rfl)
  obtain ⟨t_LONGEST_NAME, k_LONGEST_NAME⟩ := He.int_ok X G (c.t.d.fact 31 (f := .int "LONGEST_NAME" 12) rfl)
  obtain ⟨t_MOST_BLOCKS, k_MOST_BLOCKS⟩ := He.int_ok X G (c.t.d.fact 32 (f := .int "MOST_BLOCKS" 60) rfl)
  obtain ⟨t_MOST_ROWS, k_MOST_ROWS⟩ := He.int_ok X G (c.t.d.fact 33 (f := .int "MOST_ROWS" 40) rfl)
  obtain ⟨t_MOST_WAYS, k_MOST_WAYS⟩ := He.int_ok X G (c.t.d.fact 34 (f := .int "MOST_WAYS" 9) rfl)
  obtain ⟨t_MOST_READS, k_MOST_READS⟩ := He.int_ok X G (c.t.d.fact 35 (f := .int "MOST_READS" 2) rfl)
  obtain ⟨t_FIGURES, k_FIGURES⟩ := He.str_ok X G (c.t.d.fact 36 (f := .str "FIGURES" "0123456789") rfl)
  obtain ⟨t_MOST_FIGURES, k_MOST_FIGURES⟩ := He.int_ok X G (c.t.d.fact 37 (f := .int "MOST_FIGURES" 2) rfl)
  exact ⟨({ fd_is_name := (f_is_name), F_is_name := (F_is_name), g_is_name := (He.glo_ok X G (c.t.d.fact 0 (f := .glo "is_name") rfl)), fd_is_tell := (f_is_tell), F_is_tell := (F_is_tell), g_is_tell := (He.glo_ok X G (c.t.d.fact 1 (f := .glo "is_tell") rfl)), fd_check_sizes := (f_check_sizes), F_check_sizes := (F_check_sizes), g_check_sizes := (He.glo_ok X G (c.t.d.fact 2 (f := .glo "check_sizes") rfl)), fd_check_ways := (f_check_ways), F_check_ways := (F_check_ways), g_check_ways := (He.glo_ok X G (c.t.d.fact 3 (f := .glo "check_ways") rfl)), fd_names_in := (f_names_in), F_names_in := (F_names_in), g_names_in := (He.glo_ok X G (c.t.d.fact 4 (f := .glo "names_in") rfl)), fd_check_row := (f_check_row), F_check_row := (F_check_row), g_check_row := (He.glo_ok X G (c.t.d.fact 5 (f := .glo "check_row") rfl)), fd_checked := (f_checked), F_checked := (F_checked), g_checked := (He.glo_ok X G (c.t.d.fact 6 (f := .glo "checked") rfl)), fd_row_line := (f_row_line), F_row_line := (F_row_line), g_row_line := (He.glo_ok X G (c.t.d.fact 7 (f := .glo "row_line") rfl)), fd_shown := (f_shown), F_shown := (F_shown), g_shown := (He.glo_ok X G (c.t.d.fact 8 (f := .glo "shown") rfl)), fd_worded := (f_worded), F_worded := (F_worded), g_worded := (He.glo_ok X G (c.t.d.fact 9 (f := .glo "worded") rfl)), fd_is_row := (f_is_row), F_is_row := (F_is_row), g_is_row := (He.glo_ok X G (c.t.d.fact 10 (f := .glo "is_row") rfl)), fd_row_of := (f_row_of), F_row_of := (F_row_of), g_row_of := (He.glo_ok X G (c.t.d.fact 11 (f := .glo "row_of") rfl)), fd_is_way := (f_is_way), F_is_way := (F_is_way), g_is_way := (He.glo_ok X G (c.t.d.fact 12 (f := .glo "is_way") rfl)), fd_way_of := (f_way_of), F_way_of := (F_way_of), g_way_of := (He.glo_ok X G (c.t.d.fact 13 (f := .glo "way_of") rfl)), fd_read := (f_read), F_read := (F_read), g_read := (He.glo_ok X G (c.t.d.fact 14 (f := .glo "read") rfl)), fd_l_cell_at := (f_l_cell_at), F_l_cell_at := (F_l_cell_at), g_l_cell_at := (He.glo_ok X G (c.t.d.fact 15 (f := .glo "_law_cell_at") rfl)), fd_l_drawn := (f_l_drawn), F_l_drawn := (F_l_drawn), g_l_drawn := (He.glo_ok X G (c.t.d.fact 16 (f := .glo "_law_drawn") rfl)), fd_l_rest_by := (f_l_rest_by), F_l_rest_by := (F_l_rest_by), g_l_rest_by := (He.glo_ok X G (c.t.d.fact 17 (f := .glo "_law_rest_by") rfl)), fd_l_own_sign := (f_l_own_sign), F_l_own_sign := (F_l_own_sign), g_l_own_sign := (He.glo_ok X G (c.t.d.fact 18 (f := .glo "_law_own_sign") rfl)), fd_l_names_by := (f_l_names_by), F_l_names_by := (F_l_names_by), g_l_names_by := (He.glo_ok X G (c.t.d.fact 19 (f := .glo "_law_names_by") rfl)), fd_l_row_by := (f_l_row_by), F_l_row_by := (F_l_row_by), g_l_row_by := (He.glo_ok X G (c.t.d.fact 20 (f := .glo "_law_row_by") rfl)), fd_l_ways_by := (f_l_ways_by), F_l_ways_by := (F_l_ways_by), g_l_ways_by := (He.glo_ok X G (c.t.d.fact 21 (f := .glo "_law_ways_by") rfl)), fd_l_program_by := (f_l_program_by), F_l_program_by := (F_l_program_by), g_l_program_by := (He.glo_ok X G (c.t.d.fact 22 (f := .glo "_law_program_by") rfl)), fd_l_whole := (f_l_whole), F_l_whole := (F_l_whole), g_l_whole := (He.glo_ok X G (c.t.d.fact 23 (f := .glo "_law_whole") rfl)), fd_l_numbers := (f_l_numbers), F_l_numbers := (F_l_numbers), g_l_numbers := (He.glo_ok X G (c.t.d.fact 24 (f := .glo "_law_numbers") rfl)), fd_l_row_same := (f_l_row_same), F_l_row_same := (F_l_row_same), g_l_row_same := (He.glo_ok X G (c.t.d.fact 25 (f := .glo "_law_row_same") rfl)), fd_l_same := (f_l_same), F_l_same := (F_l_same), g_l_same := (He.glo_ok X G (c.t.d.fact 26 (f := .glo "_law_same") rfl)), fd_l_copy := (f_l_copy), F_l_copy := (F_l_copy), g_l_copy := (He.glo_ok X G (c.t.d.fact 27 (f := .glo "_law_copy") rfl)), fd_l_text_by := (f_l_text_by), F_l_text_by := (F_l_text_by), g_l_text_by := (He.glo_ok X G (c.t.d.fact 28 (f := .glo "_law_text_by") rfl)), fd_law := (f_law), F_law := (F_law), g_law := (He.glo_ok X G (c.t.d.fact 29 (f := .glo "law") rfl)), v_LETTERS := (_), c_LETTERS := (k_LETTERS), r_LETTERS := (⟨t_LETTERS, rfl⟩), d_LETTERS := (fun R => .str _), v_LONGEST_NAME := (_), c_LONGEST_NAME := (k_LONGEST_NAME), r_LONGEST_NAME := (⟨t_LONGEST_NAME, rfl⟩), d_LONGEST_NAME := (fun R => .int _), v_MOST_BLOCKS := (_), c_MOST_BLOCKS := (k_MOST_BLOCKS), r_MOST_BLOCKS := (⟨t_MOST_BLOCKS, rfl⟩), d_MOST_BLOCKS := (fun R => .int _), v_MOST_ROWS := (_), c_MOST_ROWS := (k_MOST_ROWS), r_MOST_ROWS := (⟨t_MOST_ROWS, rfl⟩), d_MOST_ROWS := (fun R => .int _), v_MOST_WAYS := (_), c_MOST_WAYS := (k_MOST_WAYS), r_MOST_WAYS := (⟨t_MOST_WAYS, rfl⟩), d_MOST_WAYS := (fun R => .int _), v_MOST_READS := (_), c_MOST_READS := (k_MOST_READS), r_MOST_READS := (⟨t_MOST_READS, rfl⟩), d_MOST_READS := (fun R => .int _), v_FIGURES := (_), c_FIGURES := (k_FIGURES), r_FIGURES := (⟨t_FIGURES, rfl⟩), d_FIGURES := (fun R => .str _), v_MOST_FIGURES := (_), c_MOST_FIGURES := (k_MOST_FIGURES), r_MOST_FIGURES := (⟨t_MOST_FIGURES, rfl⟩), d_MOST_FIGURES := (fun R => .int _), x_FitError := (He.glo_ok X G (c.t.d.fact 38 (f := .glo "FitError") rfl)), x_NoBlock := (He.glo_ok X G (c.t.d.fact 39 (f := .glo "NoBlock") rfl)), x_TooMany := (He.glo_ok X G (c.t.d.fact 40 (f := .glo "TooMany") rfl)), x_NoName := (He.glo_ok X G (c.t.d.fact 41 (f := .glo "NoName") rfl)), x_SignTwice := (He.glo_ok X G (c.t.d.fact 42 (f := .glo "SignTwice") rfl)), x_NoWay := (He.glo_ok X G (c.t.d.fact 43 (f := .glo "NoWay") rfl)), x_NoLine := (He.glo_ok X G (c.t.d.fact 44 (f := .glo "NoLine") rfl)), n_is_name := (He.eqO_ok (c.t.d.fact 0 (f := .glo "is_name") rfl)), n_is_way := (He.eqO_ok (c.t.d.fact 12 (f := .glo "is_way") rfl)), g_all := (He.free_ok X G (c.t.d.fact 45 (f := .free "all") rfl)), g_bool := (He.free_ok X G (c.t.d.fact 46 (f := .free "bool") rfl)), g_figure := (He.free_ok X G (c.t.d.fact 47 (f := .free "figure") rfl)), g_int := (He.free_ok X G (c.t.d.fact 48 (f := .free "int") rfl)), g_isinstance := (He.free_ok X G (c.t.d.fact 49 (f := .free "isinstance") rfl)), g_len := (He.free_ok X G (c.t.d.fact 50 (f := .free "len") rfl)), g_letter := (He.free_ok X G (c.t.d.fact 51 (f := .free "letter") rfl)), g_list := (He.free_ok X G (c.t.d.fact 52 (f := .free "list") rfl)), g_max := (He.free_ok X G (c.t.d.fact 53 (f := .free "max") rfl)), g_min := (He.free_ok X G (c.t.d.fact 54 (f := .free "min") rfl)), g_range := (He.free_ok X G (c.t.d.fact 55 (f := .free "range") rfl)), g_str := (He.free_ok X G (c.t.d.fact 56 (f := .free "str") rfl)), g_tuple := (He.free_ok X G (c.t.d.fact 57 (f := .free "tuple") rfl)) } : Txt K mg)⟩
theorem facts {Pg : Program} {w : World} {K : PySem.W.Frag} {h : Heap} {mg : Str → Option Value} {f : Addr} (X : K.In h) (G : h.Ns mainGlobals mg) (hfa : mg ("law" : Str) = some (.ref f)) (c : He.SaysX faL fnL [] [("is_name", none), ("is_way", none)] exL w h K) :
    ∃ fd : FuncData, (∀ (s : Shared) (v : Value), BindsTo s fd ⟨[v], []⟩ [("_law_script", v)]) ∧ ∀ base : Heap, K.In base → base.Ns mainGlobals mg → GxR.TabB base mg (He.cT K ("is_name", none)).1 (He.cT K ("is_name", none)).2 → GxR.TabB base mg (He.cT K ("is_way", none)).1 (He.cT K ("is_way", none)).2 → FnOk Pg w K mg base CX0 6 f fd ["_law_script"] (spR K R_law) := by
  obtain ⟨T⟩ := txt_of X G c
  have e := hfa.symm.trans T.g_law
  cases e
  have b := FunD.bindsA (ps := ["_law_script"]) T.F_law fun _ _ _ _ _ _ us hl => match us, hl with | [_], _ => rfl
  exact ⟨T.fd_law, fun s v => b s [v] rfl, fun base _ _ TB_is_name TB_is_way => ok_law T TB_is_name TB_is_way⟩
end SF
open PySem PySem.W PySem.Calls PyProof.Rows
set_option maxHeartbeats 0 in
theorem PySem.Challenge.cw_slotfitter_k10_written_holds : PySem.Challenge.rw_slotfitter_k10_written.Holds := by
  w_on; o_law
  refine HandSHeadRun.head_any (r := OpenLaw.row PySem.Challenge.rw_slotfitter_k10_written) (q := view (OpenLaw.row PySem.Challenge.rw_slotfitter_k10_written).prog [49]) (H := SF.hkL) (ob := SF.obL) (M := 4000) (loose := SF.looseL) (d := HandSHeadRun.topDef (OpenLaw.row PySem.Challenge.rw_slotfitter_k10_written).prog 49) (kwd := []) SF.obL_eq
    (by kernel_rfl) (fun s => by kernel_rfl) SF.runL (by kernel_rfl) (by kernel_rfl) (by kernel_rfl) (by rfl) (by first | assumption | decide +kernel) (by decide +kernel) ⟨rfl, rfl, rfl, rfl, rfl, by decide +kernel⟩ ?hw ?hc
  case hw => w_witness2
  case hc =>
    refine LamX.walk_ofTsE (l := PySem.Challenge.rw_slotfitter_k10_written) (n := 63) (k := 6) (x := "_law_script") (CX := fun _ => L2.CX0) rfl (by decide) (by kernel_rfl) ⟨rfl, by decide, by decide⟩ ?F (fun _ _ _ _ _ z => z)
    intro w mg fa h Y G hmg0
    obtain ⟨K, KX, c⟩ := Y
    have hmg : mg ("law" : PySem.Str) = some (.ref fa) := by
      have e : (HandSHeadRun.topDef (OpenLaw.row PySem.Challenge.rw_slotfitter_k10_written).prog 49).name = ("law" : PySem.Str) := by kernel_rfl
      rw [← e]
      exact hmg0
    obtain ⟨fd, hb, hF⟩ := SF.facts (Pg := (PySem.Challenge.rw_slotfitter_k10_written).prog) (w := w) KX G hmg c
    refine ⟨K, KX, fd, ([("is_name", none), ("is_way", none)] : List (PySem.Str × Option PySem.Str)).map (He.cT K), PV.spR K SF.R_law, fun p hp => by obtain ⟨g, hg, rfl⟩ := List.mem_map.mp hp; exact c.empty _ hg, fun p hp => by obtain ⟨g, hg, rfl⟩ := List.mem_map.mp hp; exact c.out _ hg, fun p hp => by obtain ⟨g, hg, rfl⟩ := List.mem_map.mp hp; exact PySem.W.codeHd_of_K KX (c.hd _ hg), hb, fun H a ns hl _ hT hS => ?_, fun base h1 h2 h3 => hF base h1 h2 (let t := h3 (He.cT K ("is_name", none)) (List.mem_map.mpr ⟨_, (by decide), rfl⟩); ⟨t.code, t.bm, t.gP⟩) (let t := h3 (He.cT K ("is_way", none)) (List.mem_map.mpr ⟨_, (by decide), rfl⟩); ⟨t.code, t.bm, t.gP⟩)⟩
    have tb : PV.TabsK K H := by
      intro p hp ⟨a, e⟩
      unfold PV.genDefs at hp
      simp only [List.mem_cons, List.not_mem_nil, or_false] at hp
      rcases hp with rfl | rfl | rfl | rfl | rfl
      · exact NdefX.TabN.nil (hT (He.cT K ("is_name", none)) (List.mem_map.mpr ⟨_, (by decide), rfl⟩))
      · exact NdefX.TabN.nil (hT (He.cT K ("is_way", none)) (List.mem_map.mpr ⟨_, (by decide), rfl⟩))
      · have f := He.eqO_ok (c.t.d.fact 58 (f := .free "trace") rfl)
        rw [show PySem.W.nsIn K mainGlobals ("trace" : PySem.Str) = some none from f] at e
        cases e
      · have f := He.eqO_ok (c.t.d.fact 59 (f := .free "road_to") rfl)
        rw [show PySem.W.nsIn K mainGlobals ("road_to" : PySem.Str) = some none from f] at e
        cases e
      · have f := He.eqO_ok (c.t.d.fact 60 (f := .free "flow") rfl)
        rw [show PySem.W.nsIn K mainGlobals ("flow" : PySem.Str) = some none from f] at e
        cases e
    exact ⟨H, [.scr ns], .sh (.bl true), tb, PV.Sub.self H, .cons (.scr hS) .nil, ⟨ns, true, rfl, SF.law_k10 ns, rfl⟩, fun v R' H' t q => PV.is_bl _ _ q⟩

