import PyProof.Rows.All
import Wide.All
import OpenK.AllK
import Wide.FinOn
import HandS.Lambda
import HandS.ForMost
import HandS.Deep
import HandS.TupAny
import HandS.TupLe
import HandS.IsInst
import PyProof.ReprRoads
import PyProof.ReprLen
import HandS.Zip
import KE.GoesNew
import HandS.Conv
import HandS.TupMul
import PyProof.ReprReads
import PyProof.CallFns
import HandS.Style
import HandS.WordsDict
import HandS.SortInts
import HandS.Finally
import HandS.More
import HandS.Iter
import HandS.DictComp
import HandS.Text
import HandS.SetFor
import HandS.Strs
import HandS.TupSets
import KE.SortData
import PyProof.TupleIter
import HandS.Nested
import KE.KOwnCellsLaws
import PyProof.P3In
import KE.KDictDisplayH
import KE.KDictSum
import KE.KDictCopyH
import HandS.DictTup
import HandS.Flow
import PySem.Challenge.RW_stackedputs_k53_turns_told
set_option Elab.async false
set_option linter.all false
set_option maxRecDepth 100000
set_option maxHeartbeats 4000000
namespace DL
open PySem
def tabT : List (Addr × Str) := [(77, "_shortest_rows.<locals>.<lambda>"), (44, "_shortest_ways.<locals>.<lambda>")]
end DL
set_option maxHeartbeats 4000000
/-! A layer over plain data: what a def does, said of trees of data and not of the heap. -/
namespace DL
open PySem L2

/-- plain data; obj: an object that only its owner looks into; seq: the script, a list of numbers that nobody changes -/
inductive D where
  | non | bl (b : Bool) | int (i : Int) | str (x : Str) | lst (xs : List D) | tup (xs : List D) | dct (ps : List (D × D)) | dcT (ps : List (D × D)) | obj (a : Addr) | seq (ns : List Int)
  deriving Inhabited

def keyD : Key → D
  | .inl i => .int i
  | .inr x => .str x

mutual
/-- v is d, by what stands still in F -/
inductive DV (K : PySem.W.Frag) (F : Hp) : V → D → Prop
  | non : DV K F .non .non
  | bl (b : Bool) : DV K F (.bl b) (.bl b)
  | int (i : Int) : DV K F (.int i) (.int i)
  | str (x : Str) : DV K F (.str x) (.str x)
  | lst {a : Addr} {vs : List V} {ds : List D} : F a = some (.lst vs) → DVs K F vs ds → DV K F (.ref a) (.lst ds)
  | tup {a : Addr} {vs : List V} {ds : List D} : F a = some (.tup vs) → DVs K F vs ds → DV K F (.ref a) (.tup ds)
  | dK {a : Addr} {kvs : List (Key × V)} {ps : List (D × D)} : F a = some (.dK kvs) → DKs K F kvs ps → DV K F (.ref a) (.dct ps)
  | dT {a : Addr} {kvs : List (List Key × V)} {ps : List (D × D)} : F a = some (.dT kvs) → DTs K F kvs ps → DV K F (.ref a) (.dcT ps)
  | obj (a : Addr) : DV K F (.ref a) (.obj a)
  | seq {a : Addr} {ns : List Int} : SqL K F a (ns.map V.int) → DV K F (.ref a) (.seq ns)
inductive DVs (K : PySem.W.Frag) (F : Hp) : List V → List D → Prop
  | nil : DVs K F [] []
  | cons {v : V} {vs : List V} {d : D} {ds : List D} : DV K F v d → DVs K F vs ds → DVs K F (v :: vs) (d :: ds)
inductive DKs (K : PySem.W.Frag) (F : Hp) : List (Key × V) → List (D × D) → Prop
  | nil : DKs K F [] []
  | cons {k : Key} {v : V} {vs : List (Key × V)} {d : D} {ds : List (D × D)} : DV K F v d → DKs K F vs ds → DKs K F ((k, v) :: vs) ((keyD k, d) :: ds)
inductive DTs (K : PySem.W.Frag) (F : Hp) : List (List Key × V) → List (D × D) → Prop
  | nil : DTs K F [] []
  | cons {k : List Key} {v : V} {vs : List (List Key × V)} {d : D} {ds : List (D × D)} : DV K F v d → DTs K F vs ds → DTs K F ((k, v) :: vs) ((.tup (k.map keyD), d) :: ds)
end

/-- F is part of H -/
def Sub (F H : Hp) : Prop := ∀ b o, F b = some o → H b = some o
theorem Sub.refl (F : Hp) : Sub F F := fun _ _ h => h
theorem Sub.trans {F G H : Hp} (a : Sub F G) (b : Sub G H) : Sub F H := fun x o h => b x o (a x o h)
theorem Sub.upd {F H : Hp} {p : Addr} {o : HO} (h : Sub F H) (n : F p = none) : Sub F (upd H p o) := fun b u e => by
  rw [upd_ne (ne_of_none e n)]
  exact h b u e
theorem Sub.rd {F G : Hp} (s : Sub F G) {a : Addr} {u : HO} (h : Rd F a u) : Rd G a u := h.elim (fun h => .inl (s _ _ h)) fun ⟨o, h⟩ => .inr ⟨o, s _ _ h⟩
theorem Sub.l {K : PySem.W.Frag} {F G : Hp} (s : Sub F G) {a : Addr} {xs : List V} (h : SqL K F a xs) : SqL K G a xs := h.elim (fun h => .inl (s.rd h)) .inr
theorem Sub.t {K : PySem.W.Frag} {F G : Hp} (s : Sub F G) {a : Addr} {xs : List V} (h : SqT K F a xs) : SqT K G a xs := h.elim (fun h => .inl (s.rd h)) .inr

section
variable {K : PySem.W.Frag} {F G : Hp}
mutual
theorem DV.mono (s : Sub F G) : ∀ {v : V} {d : D}, DV K F v d → DV K G v d
  | _, _, .non => .non
  | _, _, .bl b => .bl b
  | _, _, .int i => .int i
  | _, _, .str x => .str x
  | _, _, .lst h t => .lst (s _ _ h) (DVs.mono s t)
  | _, _, .tup h t => .tup (s _ _ h) (DVs.mono s t)
  | _, _, .dK h t => .dK (s _ _ h) (DKs.mono s t)
  | _, _, .dT h t => .dT (s _ _ h) (DTs.mono s t)
  | _, _, .obj a => .obj a
  | _, _, .seq h => .seq (s.l h)
theorem DVs.mono (s : Sub F G) : ∀ {vs : List V} {ds : List D}, DVs K F vs ds → DVs K G vs ds
  | _, _, .nil => .nil
  | _, _, .cons h t => .cons (DV.mono s h) (DVs.mono s t)
theorem DKs.mono (s : Sub F G) : ∀ {vs : List (Key × V)} {ds : List (D × D)}, DKs K F vs ds → DKs K G vs ds
  | _, _, .nil => .nil
  | _, _, .cons h t => .cons (DV.mono s h) (DKs.mono s t)
theorem DTs.mono (s : Sub F G) : ∀ {vs : List (List Key × V)} {ds : List (D × D)}, DTs K F vs ds → DTs K G vs ds
  | _, _, .nil => .nil
  | _, _, .cons h t => .cons (DV.mono s h) (DTs.mono s t)
end
theorem DVs.length : ∀ {vs : List V} {ds : List D}, DVs K F vs ds → vs.length = ds.length
  | _, _, .nil => rfl
  | _, _, .cons _ t => congrArg (· + 1) (DVs.length t)
theorem DVs.get : ∀ {vs : List V} {ds : List D} {i : Nat} {d : D}, DVs K F vs ds → ds[i]? = some d → ∃ v, vs[i]? = some v ∧ DV K F v d
  | _, _, _, _, .nil, e => by simp at e
  | _, _, 0, _, .cons h _, e => ⟨_, rfl, by simp at e; subst e; exact h⟩
  | _, _, i + 1, _, .cons _ t, e => by
    obtain ⟨v, h1, h2⟩ := DVs.get (i := i) t (by simpa using e)
    exact ⟨v, by simpa using h1, h2⟩
theorem DVs.getV : ∀ {vs : List V} {ds : List D} {i : Nat} {v : V}, DVs K F vs ds → vs[i]? = some v → ∃ d, ds[i]? = some d ∧ DV K F v d
  | _, _, _, _, .nil, e => by simp at e
  | _, _, 0, _, .cons h _, e => ⟨_, rfl, by simp at e; subst e; exact h⟩
  | _, _, i + 1, _, .cons _ t, e => by
    obtain ⟨v, h1, h2⟩ := DVs.getV (i := i) t (by simpa using e)
    exact ⟨v, by simpa using h1, h2⟩
theorem DVs.append : ∀ {vs ws : List V} {ds es : List D}, DVs K F vs ds → DVs K F ws es → DVs K F (vs ++ ws) (ds ++ es)
  | _, _, _, _, .nil, t => t
  | _, _, _, _, .cons h r, t => .cons h (DVs.append r t)
theorem DVs.set {v : V} {d : D} (h : DV K F v d) : ∀ {vs : List V} {ds : List D} (i : Nat), DVs K F vs ds → DVs K F (vs.set i v) (ds.set i d)
  | _, _, _, .nil => .nil
  | _, _, 0, .cons _ t => .cons h t
  | _, _, i + 1, .cons a t => .cons a (DVs.set h i t)
theorem DVs.take : ∀ {vs : List V} {ds : List D} (n : Nat), DVs K F vs ds → DVs K F (vs.take n) (ds.take n)
  | _, _, 0, _ => .nil
  | _, _, _ + 1, .nil => .nil
  | _, _, n + 1, .cons h t => .cons h (DVs.take n t)
theorem DVs.drop : ∀ {vs : List V} {ds : List D} (n : Nat), DVs K F vs ds → DVs K F (vs.drop n) (ds.drop n)
  | _, _, 0, h => h
  | _, _, _ + 1, .nil => .nil
  | _, _, n + 1, .cons _ t => DVs.drop n t
theorem DVs.reverse : ∀ {vs : List V} {ds : List D}, DVs K F vs ds → DVs K F vs.reverse ds.reverse
  | _, _, .nil => .nil
  | _, _, .cons h t => by rw [List.reverse_cons, List.reverse_cons]; exact DVs.append (DVs.reverse t) (.cons h .nil)
theorem DVs.ints : ∀ (ns : List Int), DVs K F (ns.map V.int) (ns.map D.int)
  | [] => .nil
  | n :: ns => .cons (.int n) (DVs.ints ns)
end

/-- what a slot holds: data that stand still, or an object of the frame's own -/
inductive B where
  | d (x : D) | l (xs : List D) | m (ps : List (D × D)) | mT (ps : List (D × D))
def B.own : B → Bool
  | .d _ => false
  | _ => true
def B.toD : B → D
  | .d x => x
  | .l xs => .lst xs
  | .m ps => .dct ps
  | .mT ps => .dcT ps
def OwnOk (K : PySem.W.Frag) (F : Hp) : HO → B → Prop
  | .lst vs, .l ds => DVs K F vs ds
  | .dK kvs, .m ps => DKs K F kvs ps
  | .dT kvs, .mT ps => DTs K F kvs ps
  | _, _ => False
theorem OwnOk.mono {K : PySem.W.Frag} {F G : Hp} (s : Sub F G) {o : HO} {b : B} (h : OwnOk K F o b) : OwnOk K G o b := by
  cases o <;> cases b <;> first | exact h.elim | skip
  · exact DVs.mono s h
  · exact DKs.mono s h
  · exact DTs.mono s h
theorem OwnOk.own {K : PySem.W.Frag} {F : Hp} {o : HO} {b : B} (h : OwnOk K F o b) : b.own = true := by
  cases o <;> cases b <;> first | exact h.elim | rfl
theorem OwnOk.frozen {K : PySem.W.Frag} {F : Hp} {o : HO} {b : B} {a : Addr} (h : OwnOk K F o b) (e : F a = some o) : DV K F (.ref a) b.toD := by
  cases o <;> cases b <;> first | exact h.elim | skip
  · exact .lst e h
  · exact .dK e h
  · exact .dT e h

/-- new since H, or a tuple that is known to stand -/
def NewT (F H : Hp) (b : Addr) : Prop := H b = none ∨ ∃ vs, F b = some (.tup vs)
theorem OwnOk.ntup {K : PySem.W.Frag} {F : Hp} {b : B} {vs : List V} (h : OwnOk K F (.tup vs) b) : False := by cases b <;> exact h.elim
theorem NewT.mono {F F' H : Hp} {b : Addr} (h : NewT F H b) (s : Sub F F') : NewT F' H b := h.elim .inl fun ⟨vs, h⟩ => .inr ⟨vs, s _ _ h⟩
theorem NewT.nl {F H H' : Hp} {a : Addr} {o : HO} (q : NewT F H a) (s : Sub F H') (e : H a = some o) (e' : H' a = some o) (nt : ∀ vs, o ≠ .tup vs) : False := by
  rcases q with q | ⟨vs, q⟩
  · rw [e] at q; cases q
  · have := s _ _ q
    rw [e'] at this
    cases this
    exact nt _ rfl
/-- what is owned is not new -/
theorem NewT.no {K : PySem.W.Frag} {F G H H' : Hp} {a : Addr} {o : HO} {b : B} (q : NewT F H a) (s : Sub F H') (e : H a = some o) (e' : H' a = some o) (h : OwnOk K G o b) : False := by
  rcases q with q | ⟨vs, q⟩
  · rw [e] at q; cases q
  · have := s _ _ q
    rw [e'] at this
    cases this
    exact h.ntup

/-- the things that several defs change: their states, the objects that they stand on -/
structure Amb (K : PySem.W.Frag) where
  S : Type
  ok : S → Hp → Hp → Prop
  fp : S → Addr → Prop
  stay : ∀ s F H F' H', ok s F H → Sub F F' → (∀ b o, fp s b → H b = some o → H' b = some o) → ok s F' H'
  live : ∀ s F H b, ok s F H → fp s b → H b ≠ none
  nt : ∀ s F H b vs, ok s F H → fp s b → H b ≠ some (.tup vs)

structure Base {K : PySem.W.Frag} (M : Amb K) where
  F : Hp
  H : Hp
  α : M.S

abbrev Env {K : PySem.W.Frag} (M : Amb K) := List (Option B) × M.S

structure Rel {K : PySem.W.Frag} (M : Amb K) (Z : Base M) (ρ : List (Option B)) (α : M.S) (F : Hp) (σ : St) (H : Hp) : Prop where
  sub : Sub F H
  len : ρ.length = σ.length
  val : ∀ (i : Nat) (d : D), ρ[i]? = some (some (B.d d)) → ∃ v, σ[i]? = some (some v) ∧ DV K F v d
  own : ∀ (i : Nat) (b : B), ρ[i]? = some (some b) → b.own = true → ∃ a o, σ[i]? = some (some (V.ref a)) ∧ H a = some o ∧ OwnOk K F o b ∧ F a = none ∧ ¬ M.fp α a ∧ Z.H a = none
  dis : ∀ (i j : Nat) (b b' : B) (a : Addr), ρ[i]? = some (some b) → b.own = true → ρ[j]? = some (some b') → b'.own = true → σ[i]? = some (some (V.ref a)) → σ[j]? = some (some (V.ref a)) → i = j
  amb : M.ok α F H
  ambF : ∀ b, M.fp α b → F b = none
  bF : Sub Z.F F
  bH : ∀ b o, Z.H b = some o → ¬ M.fp Z.α b → H b = some o
  bN : ∀ b, M.fp α b → M.fp Z.α b ∨ Z.H b = none
  bT : ∀ b, Z.H b ≠ none → H b ≠ none
  bZ : ∀ b, F b ≠ none → Z.F b ≠ none ∨ NewT F Z.H b

def Owned (ρ : List (Option B)) (σ : St) (a : Addr) : Prop := ∃ (i : Nat) (b : B), ρ[i]? = some (some b) ∧ b.own = true ∧ σ[i]? = some (some (V.ref a))

/-- what an expression may do -/
structure Stp {K : PySem.W.Frag} (M : Amb K) (σ : St) (ρ : List (Option B)) (α : M.S) (F H : Hp) (ρ' : List (Option B)) (α' : M.S) (F' H' : Hp) : Prop where
  sF : Sub F F'
  sH : ∀ b o, H b = some o → ¬ M.fp α b → H' b = some o
  sT : ∀ b, H b ≠ none → H' b ≠ none
  sN : ∀ b, M.fp α' b → M.fp α b ∨ H b = none
  sZ : ∀ b, F' b ≠ none → F b ≠ none ∨ NewT F' H b ∨ Owned ρ σ b
  sO : ∀ b, Owned ρ' σ b → Owned ρ σ b

theorem somehow {H : Hp} {b : Addr} (h : H b ≠ none) : ∃ o, H b = some o := by
  cases e : H b with
  | none => exact absurd e h
  | some o => exact ⟨o, rfl⟩
theorem none_or (H : Hp) (b : Addr) : H b = none ∨ H b ≠ none := by
  cases e : H b with
  | none => exact .inl rfl
  | some o => exact .inr (by simp)
theorem ne_none {H : Hp} {b : Addr} {o : HO} (h : H b = some o) : H b ≠ none := by rw [h]; simp

section
variable {K : PySem.W.Frag} {M : Amb K} {Z : Base M} {ρ ρ' ρ2 : List (Option B)} {α α' α2 : M.S} {F F' F2 H H' H2 : Hp} {σ : St}
theorem Stp.refl : Stp M σ ρ α F H ρ α F H := ⟨Sub.refl _, fun _ _ h _ => h, fun _ h => h, fun _ h => .inl h, fun _ h => .inl h, fun _ h => h⟩
theorem Stp.trans (a : Stp M σ ρ α F H ρ' α' F' H') (b : Stp M σ ρ' α' F' H' ρ2 α2 F2 H2) : Stp M σ ρ α F H ρ2 α2 F2 H2 where
  sF := a.sF.trans b.sF
  sH := fun x o h n => b.sH x o (a.sH x o h n) fun q => (a.sN x q).elim n fun q => absurd q (ne_none h)
  sT := fun x h => b.sT x (a.sT x h)
  sN := fun x h => (b.sN x h).elim (a.sN x) fun q => .inr ((none_or H x).elim id fun e => absurd q (a.sT x e))
  sZ := fun x h => by
    rcases b.sZ x h with q | (q | q) | q
    · exact (a.sZ x q).elim .inl fun q => .inr (q.elim (fun q => .inl (q.mono b.sF)) .inr)
    · exact .inr (.inl (.inl ((none_or H x).elim id fun e => absurd q (a.sT x e))))
    · exact .inr (.inl (.inr q))
    · exact .inr (.inr (a.sO x q))
  sO := fun x h => a.sO x (b.sO x h)

theorem Rel.fn (r : Rel M Z ρ α F σ H) {p : Addr} (n : H p = none) : F p = none := (none_or F p).elim id fun e => by
  obtain ⟨u, e⟩ := somehow e
  rw [r.sub _ _ e] at n
  cases n
theorem Rel.zn (r : Rel M Z ρ α F σ H) {p : Addr} (n : H p = none) : Z.H p = none := (none_or Z.H p).elim id fun e => absurd n (r.bT p e)
theorem Rel.fpn (r : Rel M Z ρ α F σ H) {p : Addr} (n : H p = none) : ¬ M.fp α p := fun q => M.live _ _ _ _ r.amb q n
theorem Rel.ownn (r : Rel M Z ρ α F σ H) {p : Addr} (n : H p = none) : ¬ Owned ρ σ p := fun ⟨i, b, h1, h2, h3⟩ => by
  obtain ⟨a, o, q1, q2, _⟩ := r.own i b h1 h2
  rw [h3] at q1
  cases q1
  rw [n] at q2
  cases q2
theorem keep_new {p : Addr} {o : HO} (n : H p = none) : ∀ b u, H b = some u → upd H p o b = some u := fun b u e => by rw [upd_ne (ne_of_none e n)]; exact e

/-- a new object at p: owned by nobody, not frozen -/
theorem Rel.laid {p : Addr} {o : HO} (r : Rel M Z ρ α F σ H) (n : H p = none) : Rel M Z ρ α F σ (upd H p o) ∧ Stp M σ ρ α F H ρ α F (upd H p o) := by
  have keep := keep_new (o := o) n
  have T : ∀ b, H b ≠ none → upd H p o b ≠ none := fun b h => by
    obtain ⟨u, e⟩ := somehow h
    exact ne_none (keep b u e)
  refine ⟨⟨r.sub.upd (r.fn n), r.len, r.val, fun i b e ow => ?_, r.dis, M.stay _ _ _ _ _ r.amb (Sub.refl _) fun b u _ e => keep b u e, r.ambF, r.bF, fun b u e nf => keep b u (r.bH b u e nf), r.bN, fun b h => T b (r.bT b h), r.bZ⟩,
    ⟨Sub.refl _, fun b u e _ => keep b u e, T, fun _ h => .inl h, fun _ h => .inl h, fun _ h => h⟩⟩
  obtain ⟨a, u, h1, h2, h3⟩ := r.own i b e ow
  exact ⟨a, u, h1, keep a u h2, h3⟩

/-- an object that nobody owns is frozen -/
theorem Rel.frz {p : Addr} {o : HO} (r : Rel M Z ρ α F σ H) (h : H p = some o) (fn : F p = none) (nf : ¬ M.fp α p) (no : ¬ Owned ρ σ p) (zn : Z.H p = none) : Rel M Z ρ α (upd F p o) σ H := by
  have s : Sub F (upd F p o) := (Sub.refl F).upd fn
  refine ⟨fun b u e => ?_, r.len, fun i d e => ?_, fun i b e ow => ?_, r.dis, M.stay _ _ _ _ _ r.amb s fun _ _ _ e => e, fun b hb => ?_, r.bF.trans s, r.bH, r.bN, r.bT, fun b hb => ?_⟩
  · by_cases q : b = p
    · subst q
      rw [upd_same] at e
      rw [h]
      exact e
    · rw [upd_ne q] at e
      exact r.sub b u e
  · obtain ⟨v, h1, h2⟩ := r.val i d e
    exact ⟨v, h1, h2.mono s⟩
  · obtain ⟨a, u, h1, h2, h3, h4, h5, h6⟩ := r.own i b e ow
    have q : a ≠ p := fun q => no ⟨i, b, e, ow, q ▸ h1⟩
    exact ⟨a, u, h1, h2, h3.mono s, by rw [upd_ne q]; exact h4, h5, h6⟩
  · have q : b ≠ p := fun q => nf (q ▸ hb)
    rw [upd_ne q]
    exact r.ambF b hb
  · by_cases q : b = p
    · subst q
      exact .inr (.inl zn)
    · rw [upd_ne q] at hb
      exact (r.bZ b hb).imp id fun q => q.mono s

/-- a tuple that stands in the heap is known from now on -/
theorem Rel.learn {p : Addr} {vs : List V} (r : Rel M Z ρ α F σ H) (h : H p = some (.tup vs)) : ∃ F', Rel M Z ρ α F' σ H ∧ Stp M σ ρ α F H ρ α F' H ∧ F' p = some (.tup vs) := by
  have nf : ¬ M.fp α p := fun z => M.nt _ _ _ _ _ r.amb z h
  cases e : F p with
  | some o =>
    have := r.sub _ _ e
    rw [h] at this
    cases this
    exact ⟨F, r, .refl, e⟩
  | none =>
    have s : Sub F (upd F p (.tup vs)) := (Sub.refl F).upd e
    refine ⟨upd F p (.tup vs), ⟨fun b u e => ?_, r.len, fun i d e => ?_, fun i b e ow => ?_, r.dis, M.stay _ _ _ _ _ r.amb s fun _ _ _ e => e, fun b hb => ?_, r.bF.trans s, r.bH, r.bN, r.bT, fun b hb => ?_⟩, ⟨s, fun _ _ h _ => h, fun _ h => h, fun _ h => .inl h, fun b hb => ?_, fun _ h => h⟩, upd_same⟩
    · by_cases q : b = p
      · subst q
        rw [upd_same] at e
        rw [h]
        exact e
      · rw [upd_ne q] at e
        exact r.sub b u e
    · obtain ⟨v, h1, h2⟩ := r.val i d e
      exact ⟨v, h1, h2.mono s⟩
    · obtain ⟨a, u, h1, h2, h3, h4, h5, h6⟩ := r.own i b e ow
      have q : a ≠ p := fun q => by
        subst q
        rw [h] at h2
        cases h2
        exact h3.ntup
      exact ⟨a, u, h1, h2, h3.mono s, by rw [upd_ne q]; exact h4, h5, h6⟩
    · have q : b ≠ p := fun q => nf (q ▸ hb)
      rw [upd_ne q]
      exact r.ambF b hb
    · by_cases q : b = p
      · subst q
        exact .inr (.inr ⟨vs, upd_same⟩)
      · rw [upd_ne q] at hb
        exact (r.bZ b hb).imp id fun q => q.mono s
    · by_cases q : b = p
      · subst q
        exact .inr (.inl (.inr ⟨vs, upd_same⟩))
      · rw [upd_ne q] at hb
        exact .inl hb

/-- the object of slot i is given up, it stands still from now on -/
theorem set_get {i j : Nat} {x y : Option B} (h : (ρ.set i x)[j]? = some y) : (j = i ∧ y = x) ∨ (j ≠ i ∧ ρ[j]? = some y) := by
  by_cases e : j = i
  · subst e
    refine .inl ⟨rfl, ?_⟩
    by_cases hl : j < ρ.length
    · rw [List.getElem?_set_self hl] at h
      exact (Option.some.inj h).symm
    · rw [List.getElem?_eq_none (by simpa using hl)] at h
      cases h
  · rw [List.getElem?_set_ne (Ne.symm e)] at h
    exact .inr ⟨e, h⟩
theorem Rel.give {i : Nat} {b : B} (r : Rel M Z ρ α F σ H) (h : ρ[i]? = some (some b)) (ow : b.own = true) {v : V} (hv : σ[i]? = some (some v)) :
    ∃ F', Rel M Z (ρ.set i (some (.d b.toD))) α F' σ H ∧ Stp M σ ρ α F H (ρ.set i (some (.d b.toD))) α F' H ∧ DV K F' v b.toD := by
  obtain ⟨a, o, h1, h2, h3, h4, h5, h6⟩ := r.own i b h ow
  rw [hv] at h1
  cases h1
  have hO : ∀ x, Owned (ρ.set i (some (.d b.toD))) σ x → Owned ρ σ x ∧ x ≠ a := fun x ⟨j, b', q1, q2, q3⟩ => by
    rcases set_get q1 with ⟨_, e⟩ | ⟨e, q⟩
    · cases e
      cases q2
    · exact ⟨⟨j, b', q, q2, q3⟩, fun z => e (r.dis j i b' b x q q2 h ow q3 (z ▸ hv))⟩
  have r1 : Rel M Z (ρ.set i none) α F σ H := by
    refine ⟨r.sub, by rw [List.length_set]; exact r.len, fun j d e => ?_, fun j b' e ow' => ?_, fun j k b' b2 x e1 o1 e2 o2 => ?_, r.amb, r.ambF, r.bF, r.bH, r.bN, r.bT, r.bZ⟩
    · rcases set_get e with ⟨_, e⟩ | ⟨_, e⟩
      · cases e
      · exact r.val j d e
    · rcases set_get e with ⟨_, e⟩ | ⟨_, e⟩
      · cases e
      · exact r.own j b' e ow'
    · rcases set_get e1 with ⟨_, e⟩ | ⟨_, e1⟩
      · cases e
      · rcases set_get e2 with ⟨_, e⟩ | ⟨_, e2⟩
        · cases e
        · exact r.dis j k b' b2 x e1 o1 e2 o2
  have no : ¬ Owned (ρ.set i none) σ a := fun ⟨j, b', q1, q2, q3⟩ => by
    rcases set_get q1 with ⟨_, e⟩ | ⟨e, q⟩
    · cases e
    · exact e (r.dis j i b' b a q q2 h ow q3 hv)
  have r2 := r1.frz h2 h4 h5 no h6
  have s : Sub F (upd F a o) := (Sub.refl F).upd h4
  have dv : DV K (upd F a o) (.ref a) b.toD := (h3.mono s).frozen upd_same
  refine ⟨upd F a o, ⟨r2.sub, by rw [List.length_set]; exact r.len, fun j d e => ?_, fun j b' e ow' => ?_, fun j k b' b2 x e1 o1 e2 o2 => ?_, r2.amb, r2.ambF, r2.bF, r2.bH, r2.bN, r2.bT, r2.bZ⟩,
    ⟨s, fun _ _ h _ => h, fun _ h => h, fun _ h => .inl h, fun x hx => ?_, fun x hx => (hO x hx).1⟩, dv⟩
  · rcases set_get e with ⟨e0, e'⟩ | ⟨e0, e⟩
    · subst e0
      cases e'
      exact ⟨_, hv, dv⟩
    · exact r2.val j d (by rw [List.getElem?_set_ne (Ne.symm e0)]; exact e)
  · rcases set_get e with ⟨_, e⟩ | ⟨e0, e⟩
    · cases e
      cases ow'
    · exact r2.own j b' (by rw [List.getElem?_set_ne (Ne.symm e0)]; exact e) ow'
  · rcases set_get e1 with ⟨_, e⟩ | ⟨n1, e1⟩
    · cases e
      cases o1
    · rcases set_get e2 with ⟨_, e⟩ | ⟨n2, e2⟩
      · cases e
        cases o2
      · exact r.dis j k b' b2 x e1 o1 e2 o2
  · by_cases q : x = a
    · subst q
      exact .inr (.inr ⟨i, b, h, ow, hv⟩)
    · rw [upd_ne q] at hx
      exact .inl hx
end

/-- what an expression comes to: data; the object of slot i; a new object -/
inductive R where
  | fr (d : D) | al (i : Nat) (b : B) | nw (b : B) | nt (p : Addr) (a b : B)
def R.c : R → D
  | .fr d => d
  | .al _ b => b.toD
  | .nw b => b.toD
  | .nt p _ _ => .obj p
/-- an object of nobody's -/
def NewO {K : PySem.W.Frag} (M : Amb K) (H0 : Hp) (α : M.S) (F H : Hp) (a : Addr) (b : B) : Prop := ∃ o, H a = some o ∧ OwnOk K F o b ∧ F a = none ∧ ¬ M.fp α a ∧ H0 a = none
/-- H0: the heap ahead of the expression -/
def RV {K : PySem.W.Frag} (M : Amb K) (H0 : Hp) (ρ : List (Option B)) (α : M.S) (F : Hp) (σ : St) (H : Hp) : R → V → Prop
  | .fr d, v => DV K F v d
  | .al i b, v => ρ[i]? = some (some b) ∧ b.own = true ∧ σ[i]? = some (some v)
  | .nw b, v => ∃ a o, v = .ref a ∧ H a = some o ∧ OwnOk K F o b ∧ F a = none ∧ ¬ M.fp α a ∧ H0 a = none
  | .nt p b1 b2, v => v = .ref p ∧ ∃ a1 a2, SqT K F p [.ref a1, .ref a2] ∧ a1 ≠ a2 ∧ NewO M H0 α F H a1 b1 ∧ NewO M H0 α F H a2 b2
/-- what it is just now -/
def CV {K : PySem.W.Frag} (M : Amb K) (α : M.S) (F H : Hp) (v : V) (d : D) : Prop :=
  DV K F v d ∨ ∃ a o b, v = .ref a ∧ H a = some o ∧ OwnOk K F o b ∧ ¬ M.fp α a ∧ d = b.toD
/-- made to stand still -/
def fz {K : PySem.W.Frag} {M : Amb K} (r : R) (E : Env M) (Q : D → Env M → Prop) : Prop := match r with
  | .fr d => Q d E
  | .al i b => Q b.toD (E.1.set i (some (.d b.toD)), E.2)
  | .nw b => Q b.toD E
  | .nt p _ _ => Q (.obj p) E
section
variable {K : PySem.W.Frag} {M : Amb K} {Z : Base M} {ρ ρ' ρ2 : List (Option B)} {α α' α2 : M.S} {F F' F2 H H' H2 : Hp} {σ : St} {r : R} {v : V} {d : D}
theorem RV.cv (R0 : Rel M Z ρ α F σ H) {H0 : Hp} (h : RV M H0 ρ α F σ H r v) : CV M α F H v r.c := by
  cases r with
  | fr d => exact .inl h
  | al i b =>
    obtain ⟨h1, h2, h3⟩ := h
    obtain ⟨a, o, q1, q2, q3, q4, q5, q6⟩ := R0.own i b h1 h2
    rw [h3] at q1
    cases q1
    exact .inr ⟨a, o, b, rfl, q2, q3, q5, rfl⟩
  | nw b =>
    obtain ⟨a, o, q0, q1, q2, q3, q4, q5⟩ := h
    exact .inr ⟨a, o, b, q0, q1, q2, q4, rfl⟩
  | nt p b1 b2 =>
    obtain ⟨rfl, _⟩ := h
    exact .inl (.obj p)
theorem CV.step (h : CV M α F H v d) (s : Stp M σ ρ α F H ρ' α' F' H') : CV M α' F' H' v d := by
  rcases h with h | ⟨a, o, b, h1, h2, h3, h4, h5⟩
  · exact .inl (h.mono s.sF)
  · exact .inr ⟨a, o, b, h1, s.sH a o h2 h4, h3.mono s.sF, fun q => (s.sN a q).elim h4 fun q => absurd q (ne_none h2), h5⟩
/-- content in the heap as it stands -/
theorem CV.dv (R0 : Rel M Z ρ α F σ H) (h : CV M α F H v d) : DV K H v d := by
  rcases h with h | ⟨a, o, b, rfl, h2, h3, _, rfl⟩
  · exact h.mono R0.sub
  · exact (h3.mono R0.sub).frozen h2
theorem fz_ok {Q : D → Env M → Prop} (R1 : Rel M Z ρ α F σ H) (s : Stp M σ ρ α F H ρ' α' F' H') (R0 : Rel M Z ρ' α' F' σ H') (h : RV M H ρ' α' F' σ H' r v) (q : fz r (ρ', α') Q) :
    ∃ d ρ2 F2, Rel M Z ρ2 α' F2 σ H' ∧ Stp M σ ρ α F H ρ2 α' F2 H' ∧ DV K F2 v d ∧ Q d (ρ2, α') := by
  cases r with
  | fr d => exact ⟨d, ρ', F', R0, s, h, q⟩
  | nt p b1 b2 =>
    obtain ⟨rfl, _⟩ := h
    exact ⟨_, ρ', F', R0, s, .obj p, q⟩
  | nw b =>
    obtain ⟨a, o, rfl, q1, q2, q3, q4, q5⟩ := h
    have s2 : Sub F' (upd F' a o) := (Sub.refl F').upd q3
    refine ⟨_, ρ', upd F' a o, R0.frz q1 q3 q4 (fun z => R1.ownn q5 (s.sO a z)) (R1.zn q5), ⟨s.sF.trans s2, s.sH, s.sT, s.sN, fun b hb => ?_, s.sO⟩, (q2.mono s2).frozen upd_same, q⟩
    by_cases e : b = a
    · subst e
      exact .inr (.inl (.inl q5))
    · rw [upd_ne e] at hb
      exact (s.sZ b hb).imp id fun q => q.imp (fun q => q.mono s2) id
  | al i b =>
    obtain ⟨h1, h2, h3⟩ := h
    obtain ⟨F2, r2, s2, dv⟩ := R0.give h1 h2 h3
    exact ⟨_, _, F2, r2, s.trans s2, dv, q⟩
end
end DL
set_option maxHeartbeats 4000000
namespace DL
open PySem L2

abbrev WE {K : PySem.W.Frag} (M : Amb K) := Env M → (R → Env M → Prop) → Prop
abbrev WT {K : PySem.W.Frag} (M : Amb K) := Env M → (Bool → Env M → Prop) → Prop
abbrev WA {K : PySem.W.Frag} (M : Amb K) := Env M → (List D → Env M → Prop) → Prop

section
variable {K : PySem.W.Frag} (M : Amb K)
/-- the reading that an expression of worth w has -/
def tW (w : WE M) : TE := fun σ H Q' => ∃ (Z : Base M) (ρ : List (Option B)) (α : M.S) (F : Hp) (Q : R → Env M → Prop), Rel M Z ρ α F σ H ∧ w (ρ, α) Q ∧
  ∀ v r ρ' α' F' H', Rel M Z ρ' α' F' σ H' → Stp M σ ρ α F H ρ' α' F' H' → RV M H ρ' α' F' σ H' r v → Q r (ρ', α') → Q' v H'
def tWT (w : WT M) : TT := fun σ H Q' => ∃ (Z : Base M) (ρ : List (Option B)) (α : M.S) (F : Hp) (Q : Bool → Env M → Prop), Rel M Z ρ α F σ H ∧ w (ρ, α) Q ∧
  ∀ b ρ' α' F' H', Rel M Z ρ' α' F' σ H' → Stp M σ ρ α F H ρ' α' F' H' → Q b (ρ', α') → Q' b H'
/-- arguments, each made to stand still -/
def tWA (w : WA M) : TA := fun σ H Q' => ∃ (Z : Base M) (ρ : List (Option B)) (α : M.S) (F : Hp) (Q : List D → Env M → Prop), Rel M Z ρ α F σ H ∧ w (ρ, α) Q ∧
  ∀ vs ds ρ' α' F' H', Rel M Z ρ' α' F' σ H' → Stp M σ ρ α F H ρ' α' F' H' → DVs K F' vs ds → Q ds (ρ', α') → Q' vs H'
/-- arguments as they are just now -/
inductive CVs (α : M.S) (F H : Hp) : List V → List D → Prop
  | nil : CVs α F H [] []
  | cons {v : V} {vs : List V} {d : D} {ds : List D} : CV M α F H v d → CVs α F H vs ds → CVs α F H (v :: vs) (d :: ds)
def tWC (w : WA M) : TA := fun σ H Q' => ∃ (Z : Base M) (ρ : List (Option B)) (α : M.S) (F : Hp) (Q : List D → Env M → Prop), Rel M Z ρ α F σ H ∧ w (ρ, α) Q ∧
  ∀ vs ds ρ' α' F' H', Rel M Z ρ' α' F' σ H' → Stp M σ ρ α F H ρ' α' F' H' → CVs M α' F' H' vs ds → Q ds (ρ', α') → Q' vs H'
end

structure QE (X : Cx) (M : Amb X.K) (e : Expr) (w : WE M) : Prop where
  run : PE X e (tW M w)
structure QT (X : Cx) (M : Amb X.K) (e : Expr) (w : WT M) : Prop where
  run : PT X e (tWT M w)
structure QA (X : Cx) (M : Amb X.K) (es : List Expr) (w : WA M) : Prop where
  run : PA X es (tWA M w)
structure QC (X : Cx) (M : Amb X.K) (es : List Expr) (w : WA M) : Prop where
  run : PA X es (tWC M w)

theorem pe_weak {X : Cx} {e : Expr} {t t' : TE} (h : PE X e t) (k : ∀ σ H Q, t' σ H Q → t σ H Q) : PE X e t' := ⟨fun pins s σ H Q I q => h.run pins s σ H Q I (k σ H Q q)⟩
theorem pt_weak {X : Cx} {e : Expr} {t t' : TT} (h : PT X e t) (k : ∀ σ H Q, t' σ H Q → t σ H Q) : PT X e t' := ⟨fun pins s σ H Q I q => h.run pins s σ H Q I (k σ H Q q)⟩
theorem pa_weak {X : Cx} {e : List Expr} {t t' : TA} (h : PA X e t) (k : ∀ σ H Q, t' σ H Q → t σ H Q) : PA X e t' := ⟨fun p pins s σ H Q I q => h.run p pins s σ H Q I (k σ H Q q)⟩

section
variable {K : PySem.W.Frag} {M : Amb K} {Z : Base M} {ρ ρ' ρ2 : List (Option B)} {α α' α2 : M.S} {F F' F2 H H' H2 : Hp} {σ : St}
theorem RV.back {H0 H1 : Hp} {r : R} {v : V} (h : RV M H1 ρ α F σ H r v) (t : ∀ b, H0 b ≠ none → H1 b ≠ none) : RV M H0 ρ α F σ H r v := by
  cases r with
  | fr d => exact h
  | al i b => exact h
  | nw b =>
    obtain ⟨a, o, h1, h2, h3, h4, h5, h6⟩ := h
    exact ⟨a, o, h1, h2, h3, h4, h5, (none_or H0 a).elim id fun e => absurd h6 (t a e)⟩
  | nt p b1 b2 =>
    obtain ⟨e, a1, a2, h1, h2, ⟨o1, g1, g2, g3, g4, g5⟩, ⟨o2, f1, f2, f3, f4, f5⟩⟩ := h
    exact ⟨e, a1, a2, h1, h2, ⟨o1, g1, g2, g3, g4, (none_or H0 a1).elim id fun e => absurd g5 (t a1 e)⟩, ⟨o2, f1, f2, f3, f4, (none_or H0 a2).elim id fun e => absurd f5 (t a2 e)⟩⟩
theorem RV.mk {H0 : Hp} {d : D} {v : V} (h : DV K F v d) : RV M H0 ρ α F σ H (.fr d) v := h
theorem RV.alias {H0 : Hp} {i : Nat} {b : B} {v : V} (h1 : ρ[i]? = some (some b)) (h2 : b.own = true) (h3 : σ[i]? = some (some v)) : RV M H0 ρ α F σ H (.al i b) v := ⟨h1, h2, h3⟩
theorem CVs.step {vs : List V} {ds : List D} (h : CVs M α F H vs ds) (s : Stp M σ ρ α F H ρ' α' F' H') : CVs M α' F' H' vs ds := by
  induction h with
  | nil => exact .nil
  | cons a _ ih => exact .cons (a.step s) ih
/-- a new list, a new tuple that stands still -/
theorem RV.list {p : Addr} {vs : List V} {ds : List D} (r : Rel M Z ρ α F σ H) (n : H p = none) (d : DVs K F vs ds) : RV M H ρ α F σ (upd H p (.lst vs)) (.nw (.l ds)) (.ref p) :=
  ⟨p, .lst vs, rfl, upd_same, d, r.fn n, r.fpn n, n⟩
theorem Rel.tuple {p : Addr} {o : HO} (r : Rel M Z ρ α F σ H) (n : H p = none) : Rel M Z ρ α (upd F p o) σ (upd H p o) ∧ Stp M σ ρ α F H ρ α (upd F p o) (upd H p o) := by
  obtain ⟨r1, s1⟩ := r.laid (o := o) n
  have r2 := r1.frz upd_same (r.fn n) (r.fpn n) (r.ownn n) (r.zn n)
  refine ⟨r2, ⟨(Sub.refl F).upd (r.fn n), s1.sH, s1.sT, s1.sN, fun b hb => ?_, s1.sO⟩⟩
  by_cases e : b = p
  · subst e
    exact .inr (.inl (.inl n))
  · rw [upd_ne e] at hb
    exact .inl hb
end

section
variable {X : Cx} {M : Amb X.K}

/-! ### names, constants -/
def wVar {K : PySem.W.Frag} {M : Amb K} (i : Nat) : WE M := fun E Q => match E.1[i]? with
  | some (some (.d d)) => Q (.fr d) E
  | some (some b) => Q (.al i b) E
  | _ => False
theorem qe_var {e : Expr} {i : Nat} (h : PE X e (tVar i)) : QE X M e (wVar i) := by
  refine ⟨pe_weak h fun σ H Q' ⟨Z, ρ, α, F, Q, R0, w, k⟩ => ?_⟩
  cases e1 : ρ[i]? with
  | none =>
    simp only [wVar, e1] at w
  | some x =>
    cases x with
    | none => simp only [wVar, e1] at w
    | some b =>
      by_cases ow : b.own = true
      · obtain ⟨a, o, h1, _⟩ := R0.own i b e1 ow
        have w' : Q (.al i b) (ρ, α) := by
          cases b <;> first | (cases ow; done) | simpa only [wVar, e1] using w
        exact ⟨_, h1, k _ _ ρ α F H R0 .refl (RV.alias e1 ow h1) w'⟩
      · cases b with
        | d d =>
          obtain ⟨v, h1, h2⟩ := R0.val i d e1
          have w' : Q (.fr d) (ρ, α) := by simpa only [wVar, e1] using w
          exact ⟨v, h1, k _ _ ρ α F H R0 .refl (RV.mk h2) w'⟩
        | _ => exact absurd rfl ow
def wC {K : PySem.W.Frag} {M : Amb K} (d : D) : WE M := fun E Q => Q (.fr d) E
theorem qe_c {e : Expr} {v : V} {d : D} (h : PE X e (tC v)) (hd : ∀ F, DV X.K F v d) : QE X M e (wC d) :=
  ⟨pe_weak h fun σ H Q' ⟨Z, ρ, α, F, Q, R0, w, k⟩ => k v (.fr d) ρ α F H R0 .refl (hd F) w⟩
theorem qe_int {i j pos} : QE X M (.Constant (.int i) j pos) (wC (.int i)) := qe_c pe_int fun _ => .int i
theorem qe_bl {b j pos} : QE X M (.Constant (.bool b) j pos) (wC (.bl b)) := qe_c pe_bl fun _ => .bl b
theorem qe_non {j pos} : QE X M (.Constant .none j pos) (wC .non) := qe_c pe_non fun _ => .non
theorem qe_str {x j pos} : QE X M (.Constant (.str x) j pos) (wC (.str x)) := qe_c pe_str fun _ => .str x
theorem qv (i : Nat) {x : Str} {pos : Pos} (hN : X.N[i]? = some x := by rfl) (hv : Vis X.env.scope x := by first | exact Or.inl rfl | exact Or.inr (Or.inl rfl) | exact Or.inr (Or.inr rfl)) (hd : (x == ("__debug__" : Str)) = false := by decide)
    (hcd : (x == ("__classdict__" : Str)) = false := by decide) : QE X M (.Name x pos) (wVar i) := qe_var (pe_var hN hv hd hcd)
/-- a plain constant of the module -/
theorem qe_glob {x : Str} {v : V} {d : D} {u : Value} {pos : Pos} (hm : X.mg x = some u) (r : RelV v u) (hd : ∀ F, DV X.K F v d) (hg : Gl X x := by rfl) (hdb : (x == ("__debug__" : Str)) = false := by decide) : QE X M (.Name x pos) (wC d) :=
  qe_c (pe_glob hg hm r hdb) hd

/-! ### two operands -/
theorem two {Z : Base M} {ρ : List (Option B)} {α : M.S} {F H : Hp} {σ : St} {wa wb : WE M} {k : R → R → Env M → Prop} {P : V → V → Hp → Prop} (R0 : Rel M Z ρ α F σ H) (w : wa (ρ, α) fun ra E1 => wb E1 fun rb E2 => k ra rb E2)
    (hP : ∀ x y ra rb ρ2 α2 F2 H2, Rel M Z ρ2 α2 F2 σ H2 → Stp M σ ρ α F H ρ2 α2 F2 H2 → CV M α2 F2 H2 x ra.c → CV M α2 F2 H2 y rb.c → k ra rb (ρ2, α2) → P x y H2) :
    tW M wa σ H fun x H1 => tW M wb σ H1 fun y H2 => P x y H2 :=
  ⟨Z, ρ, α, F, _, R0, w, fun x ra ρ1 α1 F1 H1 R1 s1 rv1 q => ⟨Z, ρ1, α1, F1, _, R1, q, fun y rb ρ2 α2 F2 H2 R2 s2 rv2 q2 =>
    hP x y ra rb ρ2 α2 F2 H2 R2 (s1.trans s2) ((rv1.cv R1).step s2) (rv2.cv R2) q2⟩⟩
/-- a reading by values, said of data -/
def Lift2 (M : Amb X.K) (r : R2) (g : D → D → (R → Prop) → Prop) : Prop :=
  ∀ (Z : Base M) (ρ : List (Option B)) (α : M.S) (F : Hp) (σ : St) (H : Hp) (x y : V) (dx dy : D) (Q : R → Prop) (P : VK), Rel M Z ρ α F σ H → CV M α F H x dx → CV M α F H y dy → g dx dy Q →
    (∀ v z F' H', Rel M Z ρ α F' σ H' → Stp M σ ρ α F H ρ α F' H' → RV M H ρ α F' σ H' z v → Q z → P v H') → r x y H P
def wOp {K : PySem.W.Frag} {M : Amb K} (g : D → D → (R → Prop) → Prop) (wa wb : WE M) : WE M := fun E Q => wa E fun ra E1 => wb E1 fun rb E2 => g ra.c rb.c fun z => Q z E2
theorem q_op {e : Expr} {r : R2} {g : D → D → (R → Prop) → Prop} {wa wb : WE M} (l : Lift2 M r g) (h : PE X e (tOp r (tW M wa) (tW M wb))) : QE X M e (wOp g wa wb) := by
  refine ⟨pe_weak h fun σ H Q' ⟨Z, ρ, α, F, Q, R0, w, k⟩ => ?_⟩
  refine two R0 w fun x y ra rb ρ2 α2 F2 H2 R2 s2 c1 c2 q => ?_
  exact l Z ρ2 α2 F2 σ H2 x y _ _ _ _ R2 c1 c2 q fun v z F' H' R3 s3 rv q => k v z ρ2 α2 F' H' R3 (s2.trans s3) (rv.back s2.sT) q
theorem qe_op {a b : Expr} {op : Operator} {pos : Pos} {r : R2} {g : D → D → (R → Prop) → Prop} {wa wb : WE M} (o : OpR X (binaryOp op) r ∧ Lift2 M r g) (ha : QE X M a wa) (hb : QE X M b wb) : QE X M (.BinOp a op b pos) (wOp g wa wb) :=
  q_op o.2 (pe_op o.1 ha.run hb.run)
theorem qe_cmp {a b : Expr} {op : CmpOp} {pos : Pos} {r : R2} {g : D → D → (R → Prop) → Prop} {wa wb : WE M} (o : OpR X (compareOp op) r ∧ Lift2 M r g) (ha : QE X M a wa) (hb : QE X M b wb) (hm : behindInMarks op b = false := by first | exact nomark _ | with_unfolding_all rfl) :
    QE X M (.Compare a [op] [b] pos) (wOp g wa wb) := q_op o.2 (pe_cmpR o.1 ha.run hb.run hm)
theorem qe_ix {a b : Expr} {pos : Pos} {r : R2} {g : D → D → (R → Prop) → Prop} {wa wb : WE M} (o : IxR X r ∧ Lift2 M r g) (ha : QE X M a wa) (hb : QE X M b wb) (hs : PlainIx b := by exact fun _ _ => rfl) : QE X M (.Subscript a b pos) (wOp g wa wb) :=
  q_op o.2 (pe_ix o.1 ha.run hb.run hs)
theorem Lift2.or {r r' : R2} {g g' : D → D → (R → Prop) → Prop} (a : Lift2 M r g) (b : Lift2 M r' g') : Lift2 M (fun x y H Q => r x y H Q ∨ r' x y H Q) (fun x y Q => g x y Q ∨ g' x y Q) :=
  fun Z ρ α F σ H x y dx dy Q P R0 c1 c2 h k => h.elim (fun h => .inl (a Z ρ α F σ H x y dx dy Q P R0 c1 c2 h k)) fun h => .inr (b Z ρ α F σ H x y dx dy Q P R0 c1 c2 h k)
theorem Lift2.imp {r r' : R2} {g g' : D → D → (R → Prop) → Prop} (a : Lift2 M r g) (h : ∀ x y Q, g' x y Q → g x y Q) (k : ∀ x y H Q, r x y H Q → r' x y H Q) : Lift2 M r' g' :=
  fun Z ρ α F σ H x y dx dy Q P R0 c1 c2 q z => k x y H P (a Z ρ α F σ H x y dx dy Q P R0 c1 c2 (h dx dy Q q) z)

/-! ### what is read off content -/
theorem CV.int {α : M.S} {F H : Hp} {v : V} {i : Int} (h : CV M α F H v (.int i)) : v = .int i := by
  rcases h with h | ⟨a, o, b, _, _, ok, _, e⟩
  · cases h; rfl
  · cases o <;> cases b <;> first | exact ok.elim | cases e
theorem CV.str {α : M.S} {F H : Hp} {v : V} {i : Str} (h : CV M α F H v (.str i)) : v = .str i := by
  rcases h with h | ⟨a, o, b, _, _, ok, _, e⟩
  · cases h; rfl
  · cases o <;> cases b <;> first | exact ok.elim | cases e
theorem CV.bl {α : M.S} {F H : Hp} {v : V} {i : Bool} (h : CV M α F H v (.bl i)) : v = .bl i := by
  rcases h with h | ⟨a, o, b, _, _, ok, _, e⟩
  · cases h; rfl
  · cases o <;> cases b <;> first | exact ok.elim | cases e
theorem CV.non {α : M.S} {F H : Hp} {v : V} (h : CV M α F H v .non) : v = .non := by
  rcases h with h | ⟨a, o, b, _, _, ok, _, e⟩
  · cases h; rfl
  · cases o <;> cases b <;> first | exact ok.elim | cases e
theorem CV.lst {Z : Base M} {ρ : List (Option B)} {α : M.S} {F H : Hp} {σ : St} {v : V} {ds : List D} (R0 : Rel M Z ρ α F σ H) (h : CV M α F H v (.lst ds)) : ∃ a vs, v = .ref a ∧ H a = some (.lst vs) ∧ DVs X.K F vs ds := by
  rcases h with h | ⟨a, o, b, rfl, ho, ok, _, e⟩
  · cases h with
    | lst h t => exact ⟨_, _, rfl, R0.sub _ _ h, t⟩
  · cases o <;> cases b <;> first | exact ok.elim | skip
    · cases e
      exact ⟨_, _, rfl, ho, ok⟩
    · cases e
    · cases e
theorem CV.tupS {Z : Base M} {ρ : List (Option B)} {α : M.S} {F H : Hp} {σ : St} {v : V} {ds : List D} (R0 : Rel M Z ρ α F σ H) (h : CV M α F H v (.tup ds)) : ∃ a vs, v = .ref a ∧ F a = some (.tup vs) ∧ DVs X.K F vs ds := by
  rcases h with h | ⟨a, o, b, rfl, ho, ok, _, e⟩
  · cases h with
    | tup h t => exact ⟨_, _, rfl, h, t⟩
  · cases o <;> cases b <;> first | exact ok.elim | cases e
theorem CV.tup {Z : Base M} {ρ : List (Option B)} {α : M.S} {F H : Hp} {σ : St} {v : V} {ds : List D} (R0 : Rel M Z ρ α F σ H) (h : CV M α F H v (.tup ds)) : ∃ a vs, v = .ref a ∧ SqT X.K F a vs ∧ DVs X.K F vs ds := by
  obtain ⟨a, vs, h1, h2, h3⟩ := h.tupS R0
  exact ⟨a, vs, h1, SqT.of h2, h3⟩

/-! ### operators -/
def gII (f : Int → Int → D) (c : Int → Int → Prop) : D → D → (R → Prop) → Prop
  | .int i, .int j, Q => c i j ∧ Q (.fr (f i j))
  | _, _, _ => False
theorem DV.scal {K : PySem.W.Frag} : ∀ {v : V} {d : D} {F F' : Hp}, DV K F v d → (∀ a, v ≠ .ref a) → DV K F' v d := fun h n => by
  cases h with
  | non => exact .non
  | bl b => exact .bl b
  | int i => exact .int i
  | str x => exact .str x
  | lst _ _ => exact absurd rfl (n _)
  | tup _ _ => exact absurd rfl (n _)
  | dK _ _ => exact absurd rfl (n _)
  | dT _ _ => exact absurd rfl (n _)
  | obj a => exact absurd rfl (n a)
  | seq _ => exact absurd rfl (n _)
theorem lift_II {C : Int → Int → Prop} {g : Int → Int → V} {f : Int → Int → D} (h : ∀ i j F, DV X.K F (g i j) (f i j)) : Lift2 M (rI C g) (gII f C) := by
  intro Z ρ α F σ H x y dx dy Q P R0 c1 c2 q k
  cases dx <;> cases dy <;> first | exact q.elim | skip
  rename_i i j
  exact ⟨i, j, c1.int, c2.int, q.1, k _ _ F H R0 .refl (RV.mk (h i j F)) q.2⟩
def gI0 (f : Int → Int → D) : D → D → (R → Prop) → Prop
  | .int i, .int j, Q => Q (.fr (f i j))
  | _, _, _ => False
theorem lift_I0 {g : Int → Int → V} {f : Int → Int → D} (h : ∀ i j F, DV X.K F (g i j) (f i j)) : Lift2 M (rI0 g) (gI0 f) := by
  intro Z ρ α F σ H x y dx dy Q P R0 c1 c2 q k
  cases dx <;> cases dy <;> first | exact q.elim | skip
  rename_i i j
  exact ⟨i, j, c1.int, c2.int, k _ _ F H R0 .refl (RV.mk (h i j F)) q⟩
abbrev O2 (X : Cx) (M : Amb X.K) (f : Value → Value → Sem Value) (g : D → D → (R → Prop) → Prop) : Prop := ∃ r, OpR X f r ∧ Lift2 M r g
theorem qe_op' {a b : Expr} {op : Operator} {pos : Pos} {g : D → D → (R → Prop) → Prop} {wa wb : WE M} (o : O2 X M (binaryOp op) g) (ha : QE X M a wa) (hb : QE X M b wb) : QE X M (.BinOp a op b pos) (wOp g wa wb) :=
  let ⟨_, o⟩ := o
  qe_op o ha hb
theorem qe_cmp' {a b : Expr} {op : CmpOp} {pos : Pos} {g : D → D → (R → Prop) → Prop} {wa wb : WE M} (o : O2 X M (compareOp op) g) (ha : QE X M a wa) (hb : QE X M b wb) (hm : behindInMarks op b = false := by first | exact nomark _ | with_unfolding_all rfl) :
    QE X M (.Compare a [op] [b] pos) (wOp g wa wb) :=
  let ⟨_, o⟩ := o
  qe_cmp o ha hb hm
theorem o_sub : O2 X M (binaryOp .Sub) (gI0 fun i j => .int (i - j)) := ⟨_, op_sub, lift_I0 fun _ _ _ => .int _⟩
theorem o_mod : O2 X M (binaryOp .Mod) (gII (fun i j => .int (i % j)) fun _ j => 0 < j) := ⟨_, op_mod, lift_II fun _ _ _ => .int _⟩
theorem o_fdiv : O2 X M (binaryOp .FloorDiv) (gII (fun i j => .int (i / j)) CDiv) := ⟨_, op_fdiv, lift_II fun _ _ _ => .int _⟩
theorem o_pow : O2 X M (binaryOp .Pow) (gII (fun i j => .int (i ^ j.toNat)) CPow) := ⟨_, op_pow, lift_II fun _ _ _ => .int _⟩
theorem o_lt : O2 X M (compareOp .Lt) (gI0 fun i j => .bl (decide (i < j))) := ⟨_, op_lt, lift_I0 fun _ _ _ => .bl _⟩
theorem o_le : O2 X M (compareOp .LtE) (gI0 fun i j => .bl (decide (i ≤ j))) := ⟨_, op_le, lift_I0 fun _ _ _ => .bl _⟩
theorem o_gt : O2 X M (compareOp .Gt) (gI0 fun i j => .bl (decide (j < i))) := ⟨_, op_gt, lift_I0 fun _ _ _ => .bl _⟩
theorem o_ge : O2 X M (compareOp .GtE) (gI0 fun i j => .bl (decide (j ≤ i))) := ⟨_, op_ge, lift_I0 fun _ _ _ => .bl _⟩

/-- a + b: numbers, lists, tuples -/
def gAdd : D → D → (R → Prop) → Prop
  | .int i, .int j, Q => Q (.fr (.int (i + j)))
  | .lst xs, .lst ys, Q => xs.length + ys.length ≤ sizeLine ∧ Q (.nw (.l (xs ++ ys)))
  | .tup xs, .tup ys, Q => xs.length + ys.length ≤ sizeLine ∧ Q (.fr (.tup (xs ++ ys)))
  | .str x, .str y, Q => x.length + y.length ≤ sizeLine ∧ Q (.fr (.str (x ++ y)))
  | _, _, _ => False
theorem o_add : O2 X M (binaryOp .Add) gAdd := by
  refine ⟨_, op_add.or (op_cat.or (op_catA.or op_add_str)), ?_⟩
  intro Z ρ α F σ H x y dx dy Q P R0 c1 c2 q k
  cases dx <;> cases dy <;> first | exact q.elim | skip
  case int.int i j => exact .inl ⟨i, j, c1.int, c2.int, k _ _ F H R0 .refl (RV.mk (.int _)) q⟩
  case str.str i j => exact .inr (.inr (.inr ⟨i, j, c1.str, c2.str, q.1, k _ _ F H R0 .refl (RV.mk (.str _)) q.2⟩))
  case lst.lst xs ys =>
    obtain ⟨a, vs, rfl, ha, da⟩ := c1.lst R0
    obtain ⟨b, us, rfl, hb, db⟩ := c2.lst R0
    refine .inr (.inl ⟨a, b, vs, us, rfl, rfl, ha, hb, by rw [da.length, db.length]; exact q.1, fun p hp => ?_⟩)
    obtain ⟨r1, s1⟩ := R0.laid (o := .lst (vs ++ us)) hp
    exact k _ _ F _ r1 s1 (RV.list R0 hp (da.append db)) q.2
  case tup.tup xs ys =>
    obtain ⟨a, vs, rfl, ha, da⟩ := c1.tupS R0
    obtain ⟨b, us, rfl, hb, db⟩ := c2.tupS R0
    refine .inr (.inr (.inl ⟨a, b, vs, us, rfl, rfl, R0.sub.t (SqT.of ha), R0.sub.t (SqT.of hb), by rw [da.length, db.length]; exact q.1, fun e => ?_, fun _ e => ?_, fun _ _ p hp => ?_⟩))
    · subst e
      cases da
      exact k _ _ F H R0 .refl (RV.mk (.tup hb db)) q.2
    · subst e
      cases db
      exact k _ _ F H R0 .refl (RV.mk (.tup ha (by simpa using da))) q.2
    · obtain ⟨r1, s1⟩ := R0.tuple (o := .tup (vs ++ us)) hp
      exact k _ _ _ _ r1 s1 (RV.mk (.tup upd_same ((da.append db).mono s1.sF))) q.2
/-- a * b: numbers, a list a number of times -/
def gMul : D → D → (R → Prop) → Prop
  | .int i, .int j, Q => CMul i j ∧ Q (.fr (.int (i * j)))
  | .lst xs, .int n, Q => -(2 ^ 63) ≤ n ∧ n < 2 ^ 63 ∧ xs.length * n.toNat ≤ sizeLine ∧ Q (.nw (.l (List.replicate n.toNat xs).flatten))
  | _, _, _ => False
theorem DVs.rep {K : PySem.W.Frag} {F : Hp} {vs : List V} {ds : List D} (h : DVs K F vs ds) : ∀ n : Nat, DVs K F (List.replicate n vs).flatten (List.replicate n ds).flatten
  | 0 => .nil
  | n + 1 => by
    rw [List.replicate_succ, List.replicate_succ, List.flatten_cons, List.flatten_cons]
    exact h.append (DVs.rep h n)
theorem o_mul : O2 X M (binaryOp .Mult) gMul := by
  refine ⟨_, op_mul.or op_rep, ?_⟩
  intro Z ρ α F σ H x y dx dy Q P R0 c1 c2 q k
  cases dx <;> cases dy <;> first | exact q.elim | skip
  case int.int i j => exact .inl ⟨i, j, c1.int, c2.int, q.1, k _ _ F H R0 .refl (RV.mk (.int _)) q.2⟩
  case lst.int xs n =>
    obtain ⟨a, vs, rfl, ha, da⟩ := c1.lst R0
    refine .inr ⟨a, n, vs, rfl, c2.int, ha, q.1, q.2.1, by rw [da.length]; exact q.2.2.1, fun p hp => ?_⟩
    obtain ⟨r1, s1⟩ := R0.laid (o := .lst (List.replicate n.toNat vs).flatten) hp
    exact k _ _ F _ r1 s1 (RV.list R0 hp (da.rep _)) q.2.2.2
/-- xs[i], t[i] -/
def gIx : D → D → (R → Prop) → Prop
  | .lst xs, .int i, Q => ∃ d, atI xs i = some d ∧ Q (.fr d)
  | .tup xs, .int i, Q => ∃ d, atI xs i = some d ∧ Q (.fr d)
  | _, _, _ => False
theorem DVs.atI {K : PySem.W.Frag} {F : Hp} {vs : List V} {ds : List D} {i : Int} {d : D} (h : DVs K F vs ds) (e : atI ds i = some d) : ∃ v, L2.atI vs i = some v ∧ DV K F v d := by
  unfold L2.atI at e ⊢
  rw [h.length]
  cases j : ixN ds.length i with
  | none => rw [j] at e; cases e
  | some j' =>
    rw [j] at e
    exact h.get e
theorem o_ix : ∃ r, IxR X r ∧ Lift2 M r gIx := by
  refine ⟨_, ix_list.or ix_tup, ?_⟩
  intro Z ρ α F σ H x y dx dy Q P R0 c1 c2 q k
  cases dx <;> cases dy <;> first | exact q.elim | skip
  case lst.int xs i =>
    obtain ⟨d, e, q⟩ := q
    obtain ⟨a, vs, rfl, ha, da⟩ := c1.lst R0
    obtain ⟨v, e', dv⟩ := da.atI e
    exact .inl ⟨a, vs, i, v, rfl, c2.int, SqL.of ha, e', k _ _ F H R0 .refl (RV.mk dv) q⟩
  case tup.int xs i =>
    obtain ⟨d, e, q⟩ := q
    obtain ⟨a, vs, rfl, ha, da⟩ := c1.tup R0
    obtain ⟨v, e', dv⟩ := da.atI e
    exact .inr ⟨a, vs, i, v, rfl, c2.int, R0.sub.t ha, e', k _ _ F H R0 .refl (RV.mk dv) q⟩
theorem qe_ix' {a b : Expr} {pos : Pos} {wa wb : WE M} (ha : QE X M a wa) (hb : QE X M b wb) (hs : PlainIx b := by exact fun _ _ => rfl) : QE X M (.Subscript a b pos) (wOp gIx wa wb) :=
  let ⟨_, o⟩ := o_ix (X := X) (M := M)
  qe_ix o ha hb hs
end
end DL
set_option maxHeartbeats 4000000
namespace DL
open PySem L2

/-! ### data as the library says them -/
mutual
def D.py : D → PyData
  | .non => .none
  | .bl b => .bool b
  | .int i => .int i
  | .str x => .str x
  | .lst xs => .list (D.pys xs)
  | .tup xs => .tuple (D.pys xs)
  | .dct ps => .dict (D.pyk ps)
  | .dcT ps => .dict (D.pyk ps)
  | .obj _ => .none
  | .seq _ => .none
def D.pys : List D → List PyData
  | [] => []
  | x :: xs => D.py x :: D.pys xs
def D.pyk : List (D × D) → List (PyData × PyData)
  | [] => []
  | (k, v) :: r => (D.py k, D.py v) :: D.pyk r
end
mutual
/-- no dict, no object of others in it -/
def D.plain : D → Bool
  | .lst xs => D.plains xs
  | .tup xs => D.plains xs
  | .dct _ => false
  | .dcT _ => false
  | .obj _ => false
  | .seq _ => false
  | _ => true
def D.plains : List D → Bool
  | [] => true
  | x :: xs => D.plain x && D.plains xs
end
section
variable {K : PySem.W.Frag} {F : Hp}
mutual
theorem DV.dp : ∀ {v : V} {d : D}, DV K F v d → d.plain = true → Dp K F v d.py
  | _, _, .non, _ => .non
  | _, _, .bl b, _ => .bl b
  | _, _, .int i, _ => .int i
  | _, _, .str x, _ => .str x
  | _, _, .lst h t, p => .lst (SqL.of h) (DVs.dp t p)
  | _, _, .tup h t, p => .tup (SqT.of h) (DVs.dp t p)
  | _, _, .dK _ _, p => by cases p
  | _, _, .dT _ _, p => by cases p
  | _, _, .obj _, p => by cases p
  | _, _, .seq _, p => by cases p
theorem DVs.dp : ∀ {vs : List V} {ds : List D}, DVs K F vs ds → D.plains ds = true → DpAll K F vs (D.pys ds)
  | _, _, .nil, _ => .nil
  | _, _, .cons h t, p => by
    have p' := Bool.and_eq_true_iff.mp p
    exact .cons (DV.dp h p'.1) (DVs.dp t p'.2)
end
end
def D.okE (d : D) : Bool := d.plain && SeqAt.shaped d.py
def D.eqv (a b : D) : Bool := PyData.eqv a.py b.py

section
variable {X : Cx} {M : Amb X.K}
def gEq : D → D → (R → Prop) → Prop := fun a b Q => a.okE = true ∧ b.okE = true ∧ Q (.fr (.bl (a.eqv b)))
def gNe : D → D → (R → Prop) → Prop := fun a b Q => a.okE = true ∧ b.okE = true ∧ Q (.fr (.bl (!a.eqv b)))
theorem o_eq (hu : X.A.units + 64 < cLine) : O2 X M (compareOp .Eq) gEq := by
  refine ⟨_, op_eqD hu, ?_⟩
  intro Z ρ α F σ H x y dx dy Q P R0 c1 c2 q k
  obtain ⟨h1, h2, q⟩ := q
  obtain ⟨p1, s1⟩ := Bool.and_eq_true_iff.mp h1
  obtain ⟨p2, s2⟩ := Bool.and_eq_true_iff.mp h2
  exact ⟨_, _, (c1.dv R0).dp p1, (c2.dv R0).dp p2, s1, s2, k _ _ F H R0 .refl (RV.mk (.bl _)) q⟩
theorem o_ne (hu : X.A.units + 64 < cLine) : O2 X M (compareOp .NotEq) gNe := by
  refine ⟨_, op_neD hu, ?_⟩
  intro Z ρ α F σ H x y dx dy Q P R0 c1 c2 q k
  obtain ⟨h1, h2, q⟩ := q
  obtain ⟨p1, s1⟩ := Bool.and_eq_true_iff.mp h1
  obtain ⟨p2, s2⟩ := Bool.and_eq_true_iff.mp h2
  exact ⟨_, _, (c1.dv R0).dp p1, (c2.dv R0).dp p2, s1, s2, k _ _ F H R0 .refl (RV.mk (.bl _)) q⟩
/-- is None -/
def gIs : D → D → (R → Prop) → Prop
  | .non, .non, Q => Q (.fr (.bl true))
  | _, .non, Q => Q (.fr (.bl false))
  | _, _, _ => False
def gIsnt : D → D → (R → Prop) → Prop
  | .non, .non, Q => Q (.fr (.bl false))
  | _, .non, Q => Q (.fr (.bl true))
  | _, _, _ => False
theorem CV.nnon {α : M.S} {F H : Hp} {v : V} {d : D} (h : CV M α F H v d) (n : d ≠ .non) : v ≠ .non := fun e => by
  subst e
  rcases h with h | ⟨a, o, b, e, _⟩
  · cases h; exact n rfl
  · cases e
theorem o_is : O2 X M (compareOp .Is) gIs := by
  refine ⟨_, op_isN, ?_⟩
  intro Z ρ α F σ H x y dx dy Q P R0 c1 c2 q k
  cases dy <;> first | (cases dx <;> exact q.elim) | skip
  refine ⟨c2.non, ?_⟩
  by_cases e : dx = .non
  · subst e
    rw [c1.non]
    exact k _ _ F H R0 .refl (RV.mk (.bl _)) q
  · rw [decide_eq_false (c1.nnon e)]
    cases dx <;> first | exact absurd rfl e | exact k _ _ F H R0 .refl (RV.mk (.bl _)) q
theorem o_isnt : O2 X M (compareOp .IsNot) gIsnt := by
  refine ⟨_, op_notN, ?_⟩
  intro Z ρ α F σ H x y dx dy Q P R0 c1 c2 q k
  cases dy <;> first | (cases dx <;> exact q.elim) | skip
  refine ⟨c2.non, ?_⟩
  by_cases e : dx = .non
  · subst e
    rw [c1.non]
    exact k _ _ F H R0 .refl (RV.mk (.bl _)) q
  · rw [decide_eq_false (c1.nnon e)]
    cases dx <;> first | exact absurd rfl e | exact k _ _ F H R0 .refl (RV.mk (.bl _)) q
/-- x in xs, flat things -/
def D.flat : D → Bool
  | .non | .bl _ | .int _ | .str _ => true
  | _ => false
theorem flat_v {K : PySem.W.Frag} {F : Hp} {v : V} {d : D} (h : DV K F v d) (f : d.flat = true) : flatV v = true := by
  cases h <;> first | rfl | cases f
theorem flat_vs {K : PySem.W.Frag} {F : Hp} : ∀ {vs : List V} {ds : List D}, DVs K F vs ds → ds.all D.flat = true → vs.all flatV = true
  | _, _, .nil, _ => rfl
  | _, _, .cons h t, f => by
    rw [List.all_cons, Bool.and_eq_true] at f ⊢
    exact ⟨flat_v h f.1, flat_vs t f.2⟩
theorem eqV_py {K : PySem.W.Frag} {F : Hp} {v u : V} {d e : D} (h : DV K F v d) (h' : DV K F u e) (f : d.flat = true) (f' : e.flat = true) : eqV v u = d.eqv e := by
  cases h <;> first | (cases f; done) | (cases h' <;> first | (cases f'; done) | simp [eqV, D.eqv, D.py, PyData.eqv])
theorem any_py {K : PySem.W.Frag} {F : Hp} {u : V} {e : D} (h' : DV K F u e) (f' : e.flat = true) : ∀ {vs : List V} {ds : List D}, DVs K F vs ds → ds.all D.flat = true → (vs.any fun y => eqV y u) = ds.any fun y => y.eqv e
  | _, _, .nil, _ => rfl
  | _, _, .cons h t, f => by
    rw [List.all_cons, Bool.and_eq_true] at f
    rw [List.any_cons, List.any_cons, eqV_py h h' f.1 f', any_py h' f' t f.2]
def D.items : D → Option (List D)
  | .lst xs => some xs
  | .tup xs => some xs
  | _ => none
theorem CV.items {Z : Base M} {ρ : List (Option B)} {α : M.S} {F H : Hp} {σ : St} {v : V} {d : D} {ds : List D} (R0 : Rel M Z ρ α F σ H) (h : CV M α F H v d) (e : d.items = some ds) :
    ∃ a vs, v = .ref a ∧ (SqL X.K H a vs ∨ SqT X.K H a vs) ∧ DVs X.K F vs ds := by
  cases d <;> first | (cases e; done) | skip
  · cases e
    obtain ⟨a, vs, h1, h2, h3⟩ := h.lst R0
    exact ⟨a, vs, h1, .inl (SqL.of h2), h3⟩
  · cases e
    obtain ⟨a, vs, h1, h2, h3⟩ := h.tup R0
    exact ⟨a, vs, h1, .inr (R0.sub.t h2), h3⟩
theorem CV.flat {α : M.S} {F H : Hp} {v : V} {d : D} (h : CV M α F H v d) (f : d.flat = true) : DV X.K F v d := by
  rcases h with h | ⟨a, o, b, _, _, ok, _, rfl⟩
  · exact h
  · cases o <;> cases b <;> first | exact ok.elim | cases f
def gIn (neg : Bool) : D → D → (R → Prop) → Prop := fun x y Q => ∃ ds, y.items = some ds ∧ x.flat = true ∧ ds.all D.flat = true ∧ Q (.fr (.bl (if neg then !ds.any (fun y => y.eqv x) else ds.any fun y => y.eqv x)))
theorem lift_in (neg : Bool) : Lift2 M (rIn X.K neg) (gIn neg) := by
  intro Z ρ α F σ H x y dx dy Q P R0 c1 c2 q k
  obtain ⟨ds, e, f1, f2, q⟩ := q
  obtain ⟨a, vs, rfl, h2, h3⟩ := c2.items R0 e
  have d1 := c1.flat f1
  refine ⟨a, vs, rfl, h2, flat_v d1 f1, flat_vs h3 f2, k _ _ F H R0 .refl (RV.mk (.bl _)) ?_⟩
  have e2 : inV x vs = ds.any fun y => y.eqv dx := any_py d1 f1 h3 f2
  rw [e2]
  exact q
theorem o_in : O2 X M (compareOp .In) (gIn false) := ⟨_, op_in_seq, lift_in false⟩
theorem o_nin : O2 X M (compareOp .NotIn) (gIn true) := ⟨_, op_notIn_seq, lift_in true⟩

/-! ### one operand -/
def Lift1 (M : Amb X.K) (r : V → Hp → VK → Prop) (g : D → (R → Prop) → Prop) : Prop :=
  ∀ (Z : Base M) (ρ : List (Option B)) (α : M.S) (F : Hp) (σ : St) (H : Hp) (x : V) (dx : D) (Q : R → Prop) (P : VK), Rel M Z ρ α F σ H → CV M α F H x dx → g dx Q →
    (∀ v z F' H', Rel M Z ρ α F' σ H' → Stp M σ ρ α F H ρ α F' H' → RV M H ρ α F' σ H' z v → Q z → P v H') → r x H P
def wUn {K : PySem.W.Frag} {M : Amb K} (g : D → (R → Prop) → Prop) (wa : WE M) : WE M := fun E Q => wa E fun ra E1 => g ra.c fun z => Q z E1
theorem q_un {e : Expr} {r : V → Hp → VK → Prop} {g : D → (R → Prop) → Prop} {wa : WE M} (l : Lift1 M r g) (h : PE X e (fun σ H Q => tW M wa σ H fun x H1 => r x H1 Q)) : QE X M e (wUn g wa) := by
  refine ⟨pe_weak h fun σ H Q' ⟨Z, ρ, α, F, Q, R0, w, k⟩ => ?_⟩
  exact ⟨Z, ρ, α, F, _, R0, w, fun x ra ρ1 α1 F1 H1 R1 s1 rv1 q => l Z ρ1 α1 F1 σ H1 x _ _ _ R1 (rv1.cv R1) q fun v z F' H' R3 s3 rv q => k v z ρ1 α1 F' H' R3 (s1.trans s3) (rv.back s1.sT) q⟩
def gNeg : D → (R → Prop) → Prop
  | .int i, Q => Q (.fr (.int (-i)))
  | _, _ => False
theorem qe_neg {a : Expr} {pos : Pos} {wa : WE M} (ha : QE X M a wa) : QE X M (.UnaryOp .USub a pos) (wUn gNeg wa) := by
  refine q_un ?_ (pe_un un_neg ha.run)
  intro Z ρ α F σ H x dx Q P R0 c q k
  cases dx <;> first | exact q.elim | skip
  rename_i i
  exact ⟨i, c.int, k _ _ F H R0 .refl (RV.mk (.int _)) q⟩

/-! ### tests -/
def asB (r : R) (Q : Bool → Prop) : Prop := match r with
  | .fr (.bl b) => Q b
  | _ => False
def wB {K : PySem.W.Frag} {M : Amb K} (w : WE M) : WT M := fun E Q => w E fun r E' => asB r fun b => Q b E'
theorem asB_ok {ρ : List (Option B)} {α : M.S} {F H H0 : Hp} {σ : St} {r : R} {v : V} {Q : Bool → Prop} (h : RV M H0 ρ α F σ H r v) (q : asB r Q) : ∃ b, v = .bl b ∧ Q b := by
  cases r with
  | fr d =>
    cases d <;> first | exact q.elim | skip
    rename_i b
    have h' : DV X.K F v (.bl b) := h
    cases h'
    exact ⟨b, rfl, q⟩
  | _ => exact q.elim
theorem q_test {e : Expr} {w : WE M} (h : PT X e (tTest (tW M w))) : QT X M e (wB w) := by
  refine ⟨pt_weak h fun σ H Q' ⟨Z, ρ, α, F, Q, R0, q, k⟩ => ?_⟩
  refine ⟨Z, ρ, α, F, _, R0, q, fun v r ρ' α' F' H' R1 s1 rv q => ?_⟩
  obtain ⟨b, e, q⟩ := asB_ok rv q
  exact ⟨b, e, k b ρ' α' F' H' R1 s1 q⟩
theorem q_tcmp {e : Expr} {r : R2} {g : D → D → (R → Prop) → Prop} {wa wb : WE M} (l : Lift2 M r g) (h : PT X e (tTest (tOp r (tW M wa) (tW M wb)))) : QT X M e (wB (wOp g wa wb)) := by
  refine ⟨pt_weak h fun σ H Q' ⟨Z, ρ, α, F, Q, R0, w, k⟩ => ?_⟩
  refine two R0 w fun x y ra rb ρ2 α2 F2 H2 R2 s2 c1 c2 q => ?_
  refine l Z ρ2 α2 F2 σ H2 x y _ _ _ _ R2 c1 c2 q fun v z F' H' R3 s3 rv q => ?_
  obtain ⟨b, e, q⟩ := asB_ok rv q
  exact ⟨b, e, k b ρ2 α2 F' H' R3 (s2.trans s3) q⟩
theorem qt_cmp {a b : Expr} {op : CmpOp} {pos : Pos} {g : D → D → (R → Prop) → Prop} {wa wb : WE M} (o : O2 X M (compareOp op) g) (ha : QE X M a wa) (hb : QE X M b wb) (hm : behindInMarks op b = false := by first | exact nomark _ | with_unfolding_all rfl) :
    QT X M (.Compare a [op] [b] pos) (wB (wOp g wa wb)) :=
  let ⟨_, o, l⟩ := o
  q_tcmp l (pt_cmpR o ha.run hb.run hm)
/-- a call, a name whose value is True or False -/
theorem qt_val {e : Expr} {w : WE M} (h : QE X M e w) (he : ∀ whole, isTrue e X.env whole = (do let v ← whole; standAt e.pos; holding [v] (truthy v)) := by intro _; rfl) : QT X M e (wB w) := by
  refine ⟨pt_weak (pt_val h.run he) fun σ H Q' ⟨Z, ρ, α, F, Q, R0, q, k⟩ => ?_⟩
  refine ⟨Z, ρ, α, F, _, R0, q, fun v r ρ' α' F' H' R1 s1 rv q => ?_⟩
  obtain ⟨b, e, q⟩ := asB_ok rv q
  exact ⟨b, e, k b ρ' α' F' H' R1 s1 q⟩
/-- truth -/
def tru (d : D) (Q : Bool → Prop) : Prop := match d with
  | .non => Q false
  | .bl b => Q b
  | .int i => Q (i != 0)
  | .lst xs => Q (!xs.isEmpty)
  | .tup xs => Q (!xs.isEmpty)
  | _ => False
def wTru {K : PySem.W.Frag} {M : Amb K} (w : WE M) : WT M := fun E Q => w E fun r E' => tru r.c fun b => Q b E'
theorem DVs.isEmpty {K : PySem.W.Frag} {F : Hp} {vs : List V} {ds : List D} (h : DVs K F vs ds) : vs.isEmpty = ds.isEmpty := by
  cases h <;> rfl
theorem qt_truth {e : Expr} {w : WE M} (h : QE X M e w) (he : ∀ whole, isTrue e X.env whole = (do let v ← whole; standAt e.pos; holding [v] (truthy v)) := by intro _; rfl) : QT X M e (wTru w) := by
  refine ⟨pt_weak (pt_truth h.run he) fun σ H Q' ⟨Z, ρ, α, F, Q, R0, q, k⟩ => ?_⟩
  refine ⟨Z, ρ, α, F, _, R0, q, fun v r ρ' α' F' H' R1 s1 rv q => ?_⟩
  have c := rv.cv R1
  generalize r.c = d at q c
  cases d <;> first | exact q.elim | skip
  · rw [c.non]; exact ⟨false, rfl, k _ ρ' α' F' H' R1 s1 q⟩
  · rw [c.bl]; exact ⟨_, rfl, k _ ρ' α' F' H' R1 s1 q⟩
  · rw [c.int]; exact ⟨_, rfl, k _ ρ' α' F' H' R1 s1 q⟩
  · obtain ⟨a, vs, rfl, h2, h3⟩ := c.lst R1
    exact ⟨_, .inl ⟨vs, SqL.of h2, by rw [h3.isEmpty]⟩, k _ ρ' α' F' H' R1 s1 q⟩
  · obtain ⟨a, vs, rfl, h2, h3⟩ := c.tup R1
    exact ⟨_, .inr (.inl ⟨vs, R1.sub.t h2, by rw [h3.isEmpty]⟩), k _ ρ' α' F' H' R1 s1 q⟩
/-- a op1 b op2 c -/
def wChain {K : PySem.W.Frag} {M : Amb K} (g g' : D → D → (R → Prop) → Prop) (wa wb wc : WE M) : WE M := fun E Q => wa E fun ra E1 => wb E1 fun rb E2 => g ra.c rb.c fun z => asB z fun k =>
  if k = true then wc E2 fun rc E3 => g' rb.c rc.c fun z' => Q z' E3 else Q (.fr (.bl false)) E2
theorem chain_run {wa wb wc : WE M} {r r' : R2} {g g' : D → D → (R → Prop) → Prop} (l : Lift2 M r g) (l' : Lift2 M r' g') {Z : Base M} {ρ : List (Option B)} {α : M.S} {F H : Hp} {σ : St} {Q : R → Env M → Prop} {Q' : VK} (R0 : Rel M Z ρ α F σ H) (w : wChain g g' wa wb wc (ρ, α) Q)
    (k : ∀ v r ρ' α' F' H', Rel M Z ρ' α' F' σ H' → Stp M σ ρ α F H ρ' α' F' H' → RV M H ρ' α' F' σ H' r v → Q r (ρ', α') → Q' v H') : tChain r r' (tW M wa) (tW M wb) (tW M wc) σ H Q' := by
  refine two R0 w fun x y ra rb ρ2 α2 F2 H2 R2 s2 c1 c2 q => ?_
  refine l Z ρ2 α2 F2 σ H2 x y _ _ _ _ R2 c1 c2 q fun v z F' H' R3 s3 rv q => ?_
  obtain ⟨b, e, q⟩ := asB_ok rv q
  refine ⟨b, e, ?_⟩
  cases b with
  | false => exact k _ (.fr (.bl false)) ρ2 α2 F' H' R3 (s2.trans s3) (RV.mk (.bl false)) q
  | true =>
    refine ⟨Z, ρ2, α2, F', _, R3, q, fun x3 r3 ρ4 α4 F4 H4 R4 s4 rv4 q4 => ?_⟩
    exact l' Z ρ4 α4 F4 σ H4 y x3 _ _ _ _ R4 (c2.step (s3.trans s4)) (rv4.cv R4) q4 fun v z F5 H5 R5 s5 rv5 q5 => k v z ρ4 α4 F5 H5 R5 ((s2.trans s3).trans (s4.trans s5)) (rv5.back ((s2.trans s3).trans s4).sT) q5
theorem qe_chain {a b c : Expr} {op op' : CmpOp} {pos : Pos} {g g' : D → D → (R → Prop) → Prop} {wa wb wc : WE M} (o : O2 X M (compareOp op) g) (o' : O2 X M (compareOp op') g') (ha : QE X M a wa) (hb : QE X M b wb) (hc : QE X M c wc)
    (hm : lastMarks [op, op'] [b, c] = false := by with_unfolding_all rfl) : QE X M (.Compare a [op, op'] [b, c] pos) (wChain g g' wa wb wc) := by
  obtain ⟨r, o, l⟩ := o
  obtain ⟨r', o', l'⟩ := o'
  exact ⟨pe_weak (pe_chain o o' ha.run hb.run hc.run hm) fun σ H Q' ⟨Z, ρ, α, F, Q, R0, w, k⟩ => chain_run l l' R0 w k⟩
theorem qt_chain {a b c : Expr} {op op' : CmpOp} {pos : Pos} {g g' : D → D → (R → Prop) → Prop} {wa wb wc : WE M} (o : O2 X M (compareOp op) g) (o' : O2 X M (compareOp op') g') (ha : QE X M a wa) (hb : QE X M b wb) (hc : QE X M c wc)
    (hm : lastMarks [op, op'] [b, c] = false := by with_unfolding_all rfl) : QT X M (.Compare a [op, op'] [b, c] pos) (wB (wChain g g' wa wb wc)) := by
  obtain ⟨r, o, l⟩ := o
  obtain ⟨r', o', l'⟩ := o'
  refine ⟨pt_weak (pt_chain o o' ha.run hb.run hc.run hm) fun σ H Q' ⟨Z, ρ, α, F, Q, R0, w, k⟩ => ?_⟩
  refine chain_run l l' R0 w fun v r ρ' α' F' H' R1 s1 rv q => ?_
  obtain ⟨b, e, q⟩ := asB_ok rv q
  exact ⟨b, e, k b ρ' α' F' H' R1 s1 q⟩
/-- and, or, not as tests -/
def wAnd {K : PySem.W.Frag} {M : Amb K} (t u : WT M) : WT M := fun E Q => t E fun b E' => if b = true then u E' Q else Q false E'
def wOr {K : PySem.W.Frag} {M : Amb K} (t u : WT M) : WT M := fun E Q => t E fun b E' => if b = true then Q true E' else u E' Q
def wNot {K : PySem.W.Frag} {M : Amb K} (t : WT M) : WT M := fun E Q => t E fun b E' => Q (!b) E'
structure QW (X : Cx) (M : Amb X.K) (e : Expr) (w : WT M) : Prop where
  run : PW X e (tWT M w)
theorem pw_weak {e : Expr} {t t' : TT} (h : PW X e t) (k : ∀ σ H Q, t' σ H Q → t σ H Q) : PW X e t' := ⟨fun wh pins s σ H Q I q => h.run wh pins s σ H Q I (k σ H Q q)⟩
theorem QW.t {e : Expr} {w : WT M} (h : QW X M e w) : QT X M e w := ⟨h.run.pt⟩
theorem qw_and1 {a : Expr} {pos : Pos} {t : WT M} (h : QT X M a t) : QW X M (.BoolOp .And [a] pos) t := ⟨pw_and1 h.run⟩
theorem qw_or1 {a : Expr} {pos : Pos} {t : WT M} (h : QT X M a t) : QW X M (.BoolOp .Or [a] pos) t := ⟨pw_or1 h.run⟩
theorem qw_and {a b : Expr} {rest : List Expr} {pos : Pos} {t u : WT M} (ha : QT X M a t) (hb : QW X M (.BoolOp .And (b :: rest) pos) u) : QW X M (.BoolOp .And (a :: b :: rest) pos) (wAnd t u) := by
  refine ⟨pw_weak (pw_and ha.run hb.run) fun σ H Q' ⟨Z, ρ, α, F, Q, R0, w, k⟩ => ?_⟩
  refine ⟨Z, ρ, α, F, _, R0, w, fun b ρ' α' F' H' R1 s1 q => ?_⟩
  cases b with
  | true => exact ⟨Z, ρ', α', F', Q, R1, q, fun b ρ2 α2 F2 H2 R2 s2 q2 => k b ρ2 α2 F2 H2 R2 (s1.trans s2) q2⟩
  | false => exact k false ρ' α' F' H' R1 s1 q
theorem qw_or {a b : Expr} {rest : List Expr} {pos : Pos} {t u : WT M} (ha : QT X M a t) (hb : QW X M (.BoolOp .Or (b :: rest) pos) u) : QW X M (.BoolOp .Or (a :: b :: rest) pos) (wOr t u) := by
  refine ⟨pw_weak (pw_or ha.run hb.run) fun σ H Q' ⟨Z, ρ, α, F, Q, R0, w, k⟩ => ?_⟩
  refine ⟨Z, ρ, α, F, _, R0, w, fun b ρ' α' F' H' R1 s1 q => ?_⟩
  cases b with
  | false => exact ⟨Z, ρ', α', F', Q, R1, q, fun b ρ2 α2 F2 H2 R2 s2 q2 => k b ρ2 α2 F2 H2 R2 (s1.trans s2) q2⟩
  | true => exact k true ρ' α' F' H' R1 s1 q
theorem qt_not {a : Expr} {pos : Pos} {t : WT M} (ha : QT X M a t) : QT X M (.UnaryOp .Not a pos) (wNot t) := by
  refine ⟨pt_weak (pt_not ha.run) fun σ H Q' ⟨Z, ρ, α, F, Q, R0, w, k⟩ => ?_⟩
  exact ⟨Z, ρ, α, F, _, R0, w, fun b ρ' α' F' H' R1 s1 q => k (!b) ρ' α' F' H' R1 s1 q⟩
/-- .. as values; all but the last True or False -/
def wAndV {K : PySem.W.Frag} {M : Amb K} (wa wb : WE M) : WE M := fun E Q => wa E fun r E' => asB r fun b => if b = true then wb E' Q else Q (.fr (.bl false)) E'
def wOrV {K : PySem.W.Frag} {M : Amb K} (wa wb : WE M) : WE M := fun E Q => wa E fun r E' => asB r fun b => if b = true then Q (.fr (.bl true)) E' else wb E' Q
theorem qe_one {a : Expr} {op} {pos : Pos} {w : WE M} (h : QE X M a w) : QE X M (.BoolOp op [a] pos) w := ⟨pe_one h.run⟩
theorem qe_and {a b : Expr} {rest : List Expr} {pos : Pos} {wa wb : WE M} (ha : QE X M a wa) (hb : QE X M (.BoolOp .And (b :: rest) pos) wb) : QE X M (.BoolOp .And (a :: b :: rest) pos) (wAndV wa wb) := by
  refine ⟨pe_weak (pe_and ha.run hb.run) fun σ H Q' ⟨Z, ρ, α, F, Q, R0, w, k⟩ => ?_⟩
  refine ⟨Z, ρ, α, F, _, R0, w, fun v r ρ' α' F' H' R1 s1 rv q => ?_⟩
  obtain ⟨b, e, q⟩ := asB_ok rv q
  refine ⟨b, e, ?_⟩
  cases b with
  | true => exact ⟨Z, ρ', α', F', Q, R1, q, fun v r ρ2 α2 F2 H2 R2 s2 rv2 q2 => k v r ρ2 α2 F2 H2 R2 (s1.trans s2) (rv2.back s1.sT) q2⟩
  | false => exact k _ _ ρ' α' F' H' R1 s1 (RV.mk (.bl false)) q
theorem qe_or {a b : Expr} {rest : List Expr} {pos : Pos} {wa wb : WE M} (ha : QE X M a wa) (hb : QE X M (.BoolOp .Or (b :: rest) pos) wb) : QE X M (.BoolOp .Or (a :: b :: rest) pos) (wOrV wa wb) := by
  refine ⟨pe_weak (pe_or ha.run hb.run) fun σ H Q' ⟨Z, ρ, α, F, Q, R0, w, k⟩ => ?_⟩
  refine ⟨Z, ρ, α, F, _, R0, w, fun v r ρ' α' F' H' R1 s1 rv q => ?_⟩
  obtain ⟨b, e, q⟩ := asB_ok rv q
  refine ⟨b, e, ?_⟩
  cases b with
  | false => exact ⟨Z, ρ', α', F', Q, R1, q, fun v r ρ2 α2 F2 H2 R2 s2 rv2 q2 => k v r ρ2 α2 F2 H2 R2 (s1.trans s2) (rv2.back s1.sT) q2⟩
  | true => exact k _ _ ρ' α' F' H' R1 s1 (RV.mk (.bl true)) q
def wNotV {K : PySem.W.Frag} {M : Amb K} (wa : WE M) : WE M := fun E Q => wa E fun r E' => asB r fun b => Q (.fr (.bl (!b))) E'
theorem qe_not {a : Expr} {pos : Pos} {wa : WE M} (ha : QE X M a wa) : QE X M (.UnaryOp .Not a pos) (wNotV wa) := by
  refine ⟨pe_weak (pe_not ha.run) fun σ H Q' ⟨Z, ρ, α, F, Q, R0, w, k⟩ => ?_⟩
  refine ⟨Z, ρ, α, F, _, R0, w, fun v r ρ' α' F' H' R1 s1 rv q => ?_⟩
  obtain ⟨b, e, q⟩ := asB_ok rv q
  exact ⟨b, e, k _ _ ρ' α' F' H' R1 s1 (RV.mk (.bl _)) q⟩
def wIf {K : PySem.W.Frag} {M : Amb K} (t : WT M) (wa wb : WE M) : WE M := fun E Q => t E fun b E' => if b = true then wa E' Q else wb E' Q
theorem qe_if {c a b : Expr} {pos : Pos} {t : WT M} {wa wb : WE M} (hc : QT X M c t) (ha : QE X M a wa) (hb : QE X M b wb) : QE X M (.IfExp c a b pos) (wIf t wa wb) := by
  refine ⟨pe_weak (pe_ifExp hc.run ha.run hb.run) fun σ H Q' ⟨Z, ρ, α, F, Q, R0, w, k⟩ => ?_⟩
  refine ⟨Z, ρ, α, F, _, R0, w, fun b ρ' α' F' H' R1 s1 q => ?_⟩
  cases b with
  | true => exact ⟨Z, ρ', α', F', Q, R1, q, fun v r ρ2 α2 F2 H2 R2 s2 rv2 q2 => k v r ρ2 α2 F2 H2 R2 (s1.trans s2) (rv2.back s1.sT) q2⟩
  | false => exact ⟨Z, ρ', α', F', Q, R1, q, fun v r ρ2 α2 F2 H2 R2 s2 rv2 q2 => k v r ρ2 α2 F2 H2 R2 (s1.trans s2) (rv2.back s1.sT) q2⟩

/-! ### lists of expressions -/
def wNil {K : PySem.W.Frag} {M : Amb K} : WA M := fun E Q => Q [] E
def wCons {K : PySem.W.Frag} {M : Amb K} (w : WE M) (wr : WA M) : WA M := fun E Q => w E fun r E1 => fz r E1 fun d E2 => wr E2 fun ds E3 => Q (d :: ds) E3
def wConsC {K : PySem.W.Frag} {M : Amb K} (w : WE M) (wr : WA M) : WA M := fun E Q => w E fun r E1 => wr E1 fun ds E3 => Q (r.c :: ds) E3
theorem qa_nil : QA X M [] wNil := ⟨pa_weak pa_nil fun σ H Q' ⟨Z, ρ, α, F, Q, R0, w, k⟩ => k [] [] ρ α F H R0 .refl .nil w⟩
theorem qa_cons {e : Expr} {es : List Expr} {w : WE M} {wr : WA M} (h : QE X M e w) (hr : QA X M es wr) (hs : starEach (e :: es) X.env = (false, eval e X.env) :: starEach es X.env := by rfl) : QA X M (e :: es) (wCons w wr) := by
  refine ⟨pa_weak (pa_cons h.run hr.run hs) fun σ H Q' ⟨Z, ρ, α, F, Q, R0, w, k⟩ => ?_⟩
  refine ⟨Z, ρ, α, F, _, R0, w, fun v r ρ1 α1 F1 H1 R1 s1 rv q => ?_⟩
  obtain ⟨d, ρ2, F2, R2, s2, dv, q⟩ := fz_ok R0 s1 R1 rv q
  exact ⟨Z, ρ2, α1, F2, _, R2, q, fun vs ds ρ3 α3 F3 H3 R3 s3 dvs q => k (v :: vs) (d :: ds) ρ3 α3 F3 H3 R3 (s2.trans s3) (.cons (dv.mono s3.sF) dvs) q⟩
theorem qc_nil : QC X M [] wNil := ⟨pa_weak pa_nil fun σ H Q' ⟨Z, ρ, α, F, Q, R0, w, k⟩ => k [] [] ρ α F H R0 .refl .nil w⟩
theorem qc_cons {e : Expr} {es : List Expr} {w : WE M} {wr : WA M} (h : QE X M e w) (hr : QC X M es wr) (hs : starEach (e :: es) X.env = (false, eval e X.env) :: starEach es X.env := by rfl) : QC X M (e :: es) (wConsC w wr) := by
  refine ⟨pa_weak (pa_cons h.run hr.run hs) fun σ H Q' ⟨Z, ρ, α, F, Q, R0, w, k⟩ => ?_⟩
  refine ⟨Z, ρ, α, F, _, R0, w, fun v r ρ1 α1 F1 H1 R1 s1 rv q => ?_⟩
  exact ⟨Z, ρ1, α1, F1, _, R1, q, fun vs ds ρ3 α3 F3 H3 R3 s3 dvs q => k (v :: vs) (r.c :: ds) ρ3 α3 F3 H3 R3 (s1.trans s3) (.cons ((rv.cv R1).step s3) dvs) q⟩
def wTup {K : PySem.W.Frag} {M : Amb K} (wa : WA M) : WE M := fun E Q => wa E fun ds E' => ds.length ≤ sizeLine ∧ Q (.fr (.tup ds)) E'
def wLst {K : PySem.W.Frag} {M : Amb K} (wa : WA M) : WE M := fun E Q => wa E fun ds E' => ds.length ≤ sizeLine ∧ Q (.nw (.l ds)) E'
theorem qe_tup {es : List Expr} {x1} {pos : Pos} {wa : WA M} (h : QA X M es wa) : QE X M (.Tuple es x1 pos) (wTup wa) := by
  refine ⟨pe_weak (pe_tup h.run) fun σ H Q' ⟨Z, ρ, α, F, Q, R0, w, k⟩ => ?_⟩
  refine ⟨Z, ρ, α, F, _, R0, w, fun vs ds ρ1 α1 F1 H1 R1 s1 dv q => ⟨by rw [dv.length]; exact q.1, fun p hp => ?_⟩⟩
  obtain ⟨r2, s2⟩ := R1.tuple (o := .tup vs) hp
  exact k _ _ ρ1 α1 _ _ r2 (s1.trans s2) (RV.mk (.tup upd_same (dv.mono s2.sF))) q.2
theorem qe_lst {es : List Expr} {pos : Pos} {wa : WA M} (h : QA X M es wa) : QE X M (.List es pos) (wLst wa) := by
  refine ⟨pe_weak (pe_lst h.run) fun σ H Q' ⟨Z, ρ, α, F, Q, R0, w, k⟩ => ?_⟩
  refine ⟨Z, ρ, α, F, _, R0, w, fun vs ds ρ1 α1 F1 H1 R1 s1 dv q => ⟨by rw [dv.length]; exact q.1, fun p hp => ?_⟩⟩
  obtain ⟨r2, s2⟩ := R1.laid (o := .lst vs) hp
  exact k _ _ ρ1 α1 _ _ r2 (s1.trans s2) ((RV.list R1 hp dv).back s1.sT) q.2
/-- {}: keys numbers and texts; keys tuples -/
def wNewK {K : PySem.W.Frag} {M : Amb K} : WE M := fun E Q => Q (.nw (.m [])) E
def wNewT {K : PySem.W.Frag} {M : Amb K} : WE M := fun E Q => Q (.nw (.mT [])) E
theorem qe_newK {pos : Pos} : QE X M (.Dict [] [] pos) wNewK := by
  refine ⟨pe_weak pe_dnewK fun σ H Q' ⟨Z, ρ, α, F, Q, R0, w, k⟩ => fun p hp => ?_⟩
  obtain ⟨r2, s2⟩ := R0.laid (o := .dK []) hp
  exact k _ (.nw (.m [])) ρ α F _ r2 s2 ⟨p, .dK [], rfl, upd_same, .nil, R0.fn hp, R0.fpn hp, hp⟩ w
theorem qe_newT {pos : Pos} : QE X M (.Dict [] [] pos) wNewT := by
  refine ⟨pe_weak pe_dnewT fun σ H Q' ⟨Z, ρ, α, F, Q, R0, w, k⟩ => fun p hp => ?_⟩
  obtain ⟨r2, s2⟩ := R0.laid (o := .dT []) hp
  exact k _ (.nw (.mT [])) ρ α F _ r2 s2 ⟨p, .dT [], rfl, upd_same, .nil, R0.fn hp, R0.fpn hp, hp⟩ w

/-! ### slices -/
abbrev WO {K : PySem.W.Frag} (M : Amb K) := Env M → (Option Int → Env M → Prop) → Prop
def tWO {K : PySem.W.Frag} (M : Amb K) (w : WO M) : TO := fun σ H Q' => ∃ (Z : Base M) (ρ : List (Option B)) (α : M.S) (F : Hp) (Q : Option Int → Env M → Prop), Rel M Z ρ α F σ H ∧ w (ρ, α) Q ∧
  ∀ o ρ' α' F' H', Rel M Z ρ' α' F' σ H' → Stp M σ ρ α F H ρ' α' F' H' → Q o (ρ', α') → Q' o H'
structure QO (X : Cx) (M : Amb X.K) (e : Option Expr) (w : WO M) : Prop where
  run : PO X e (tWO M w)
theorem po_weak {e : Option Expr} {t t' : TO} (h : PO X e t) (k : ∀ σ H Q, t' σ H Q → t σ H Q) : PO X e t' := ⟨fun pins s σ H Q I q => h.run pins s σ H Q I (k σ H Q q)⟩
def wNoO {K : PySem.W.Frag} {M : Amb K} : WO M := fun E Q => Q none E
def asI (d : D) (Q : Int → Prop) : Prop := match d with
  | .int i => Q i
  | _ => False
def wSomeO {K : PySem.W.Frag} {M : Amb K} (w : WE M) : WO M := fun E Q => w E fun r E' => asI r.c fun i => Q (some i) E'
theorem qo_none : QO X M none wNoO := ⟨po_weak po_none fun σ H Q' ⟨Z, ρ, α, F, Q, R0, w, k⟩ => k none ρ α F H R0 .refl w⟩
theorem qo_some {e : Expr} {w : WE M} (h : QE X M e w) : QO X M (some e) (wSomeO w) := by
  refine ⟨po_weak (po_some h.run) fun σ H Q' ⟨Z, ρ, α, F, Q, R0, w, k⟩ => ?_⟩
  refine ⟨Z, ρ, α, F, _, R0, w, fun v r ρ1 α1 F1 H1 R1 s1 rv q => ?_⟩
  have c := rv.cv R1
  generalize r.c = d at q c
  cases d <;> first | exact q.elim | skip
  exact ⟨_, c.int, k _ ρ1 α1 F1 H1 R1 s1 q⟩
def cut {α : Type} (xs : List α) (lo hi : Option Int) : List α := (xs.drop (HT.sIx xs.length 0 lo)).take (HT.sIx xs.length xs.length hi - HT.sIx xs.length 0 lo)
def gSl (d : D) (lo hi : Option Int) (Q : R → Prop) : Prop := match d with
  | .lst xs => Q (.nw (.l (cut xs lo hi)))
  | .tup xs => Q (.fr (.tup (cut xs lo hi)))
  | .seq ns => Q (.nw (.l ((cut ns lo hi).map D.int)))
  | _ => False
def wSl {K : PySem.W.Frag} {M : Amb K} (w : WE M) (wl wh : WO M) : WE M := fun E Q => w E fun r E1 => wl E1 fun lo E2 => wh E2 fun hi E3 => gSl r.c lo hi fun z => Q z E3
theorem sIx_all {n : Nat} {lo hi : Option Int} {α : Type} {xs : List α} (e : xs.length = n) (h : HT.sIx n 0 lo = 0 ∧ HT.sIx n n hi = n) : cut xs lo hi = xs := by
  subst e
  unfold cut
  rw [h.1, h.2]
  simp
theorem cut_map (ns : List Int) (lo hi : Option Int) : cutV (ns.map V.int) lo hi = (cut ns lo hi).map V.int := by
  unfold cutV cut
  rw [List.length_map, List.map_take, List.map_drop]
theorem CV.seq {Z : Base M} {ρ : List (Option B)} {α : M.S} {F H : Hp} {σ : L2.St} {v : V} {ns : List Int} (R0 : Rel M Z ρ α F σ H) (h : CV M α F H v (.seq ns)) : ∃ a, v = .ref a ∧ SqL X.K H a (ns.map V.int) := by
  rcases h with h | ⟨a, o, b, rfl, ho, ok, _, e⟩
  · cases h with
    | seq h => exact ⟨_, rfl, R0.sub.l h⟩
  · cases o <;> cases b <;> first | exact ok.elim | cases e
theorem DVs.cut {K : PySem.W.Frag} {F : Hp} {vs : List V} {ds : List D} (h : DVs K F vs ds) (lo hi : Option Int) : DVs K F (cutV vs lo hi) (DL.cut ds lo hi) := by
  unfold cutV DL.cut
  rw [h.length]
  exact (h.drop _).take _
theorem qe_slice {e : Expr} {lo hi : Option Expr} {p2 pos : Pos} {w : WE M} {wl wh : WO M} (he : QE X M e w) (hl : QO X M lo wl) (hh : QO X M hi wh) : QE X M (.Subscript e (.Slice lo hi none p2) pos) (wSl w wl wh) := by
  refine ⟨pe_weak (pe_slice (sl_list.or sl_tupA) he.run hl.run hh.run) fun σ H Q' ⟨Z, ρ, α, F, Q, R0, w, k⟩ => ?_⟩
  refine ⟨Z, ρ, α, F, _, R0, w, fun v r ρ1 α1 F1 H1 R1 s1 rv q => ?_⟩
  refine ⟨Z, ρ1, α1, F1, _, R1, q, fun lo ρ2 α2 F2 H2 R2 s2 q => ?_⟩
  refine ⟨Z, ρ2, α2, F2, _, R2, q, fun hi ρ3 α3 F3 H3 R3 s3 q => ?_⟩
  have c := (rv.cv R1).step (s2.trans s3)
  have s := s1.trans (s2.trans s3)
  generalize r.c = d at q c
  cases d <;> first | exact q.elim | skip
  · obtain ⟨a, vs, rfl, h2, h3⟩ := c.lst R3
    refine .inl ⟨a, vs, rfl, SqL.of h2, fun p hp => ?_⟩
    obtain ⟨r4, s4⟩ := R3.laid (o := .lst (cutV vs lo hi)) hp
    exact k _ _ ρ3 α3 F3 _ r4 (s.trans s4) ((RV.list R3 hp (h3.cut lo hi)).back s.sT) q
  · obtain ⟨a, vs, rfl, h2, h3⟩ := c.tupS R3
    refine .inr ⟨a, vs, rfl, R3.sub.t (SqT.of h2), fun e => ?_, fun e p hp => ?_⟩
    · have e' := sIx_all (xs := _) h3.length.symm e
      exact k _ _ ρ3 α3 F3 H3 R3 s (RV.mk (.tup h2 h3)) (by have q' : Q (.fr (.tup (DL.cut _ lo hi))) (ρ3, α3) := q; rw [e'] at q'; exact q')
    · obtain ⟨r4, s4⟩ := R3.tuple (o := .tup (cutV vs lo hi)) hp
      exact k _ _ ρ3 α3 _ _ r4 (s.trans s4) (RV.mk (.tup upd_same ((h3.cut lo hi).mono s4.sF))) q
  · obtain ⟨a, rfl, h2⟩ := c.seq R3
    refine .inl ⟨a, _, rfl, h2, fun p hp => ?_⟩
    obtain ⟨r4, s4⟩ := R3.laid (o := .lst (cutV _ lo hi)) hp
    refine k _ _ ρ3 α3 F3 _ r4 (s.trans s4) ((RV.list R3 hp (ds := (DL.cut _ lo hi).map D.int) ?_).back s.sT) q
    rw [cut_map]
    exact DVs.ints _

/-! ### calls of built-ins -/
def LiftC (M : Amb X.K) (r : List V → Hp → VK → Prop) (g : List D → (R → Prop) → Prop) : Prop :=
  ∀ (Z : Base M) (ρ : List (Option B)) (α : M.S) (F : Hp) (σ : St) (H : Hp) (xs : List V) (ds : List D) (Q : R → Prop) (P : VK), Rel M Z ρ α F σ H → CVs M α F H xs ds → g ds Q →
    (∀ v z F' H', Rel M Z ρ α F' σ H' → Stp M σ ρ α F H ρ α F' H' → RV M H ρ α F' σ H' z v → Q z → P v H') → r xs H P
def wCb {K : PySem.W.Frag} {M : Amb K} (g : List D → (R → Prop) → Prop) (wa : WA M) : WE M := fun E Q => wa E fun ds E1 => g ds fun z => Q z E1
theorem q_cb {e : Expr} {r : List V → Hp → VK → Prop} {g : List D → (R → Prop) → Prop} {wa : WA M} (l : LiftC M r g) (h : PE X e (tCB r (tWC M wa))) : QE X M e (wCb g wa) := by
  refine ⟨pe_weak h fun σ H Q' ⟨Z, ρ, α, F, Q, R0, w, k⟩ => ?_⟩
  exact ⟨Z, ρ, α, F, _, R0, w, fun xs ds ρ1 α1 F1 H1 R1 s1 cs q => l Z ρ1 α1 F1 σ H1 xs ds _ _ R1 cs q fun v z F' H' R3 s3 rv q => k v z ρ1 α1 F' H' R3 (s1.trans s3) (rv.back s1.sT) q⟩
abbrev OC (X : Cx) (M : Amb X.K) (f : Value) (g : List D → (R → Prop) → Prop) : Prop := ∃ r, CallR X f r ∧ LiftC M r g
theorem qe_cb {x : Str} {p pos : Pos} {e : Expr} {es : List Expr} {id : String} {g : List D → (R → Prop) → Prop} {wa : WA M} (o : OC X M (.builtin id) g) (hm : X.mg x = none) (ha : QC X M (e :: es) wa) (hg : Gl X x := by rfl) (hv : bootBuiltins x = some (.builtin id) := by decide +kernel)
    (hn : x ≠ "__name__" := by decide) (hdb : (x == ("__debug__" : Str)) = false := by decide) (he : starEach (e :: es) X.env = (false, eval e X.env) :: starEach es X.env := by rfl) (hpl : (backTo pos (starEach es X.env)).any (·.1) = false := by rfl) :
    QE X M (.Call (.Name x p) (e :: es) [] pos) (wCb g wa) :=
  let ⟨_, o, l⟩ := o
  q_cb l (pe_callB o hg hm hv ha.run hn hdb he hpl)
theorem qe_ct {x : Str} {p pos : Pos} {e : Expr} {es : List Expr} {T : String} {g : List D → (R → Prop) → Prop} {wa : WA M} (o : OC X M (.type T) g) (hm : X.mg x = none) (ha : QC X M (e :: es) wa) (hg : Gl X x := by rfl) (hv : bootBuiltins x = some (.type T) := by decide +kernel)
    (hn : x ≠ "__name__" := by decide) (hdb : (x == ("__debug__" : Str)) = false := by decide) (he : starEach (e :: es) X.env = (false, eval e X.env) :: starEach es X.env := by rfl) (hpl : (backTo pos (starEach es X.env)).any (·.1) = false := by rfl) :
    QE X M (.Call (.Name x p) (e :: es) [] pos) (wCb g wa) :=
  let ⟨_, o, l⟩ := o
  q_cb l (pe_callTy o hg hm hv ha.run hn hdb he hpl)
theorem CVs.one {α : M.S} {F H : Hp} {xs : List V} {d : D} (h : CVs M α F H xs [d]) : ∃ x, xs = [x] ∧ CV M α F H x d := by
  cases h with
  | cons a t => cases t; exact ⟨_, rfl, a⟩
theorem CVs.two {α : M.S} {F H : Hp} {xs : List V} {d e : D} (h : CVs M α F H xs [d, e]) : ∃ x y, xs = [x, y] ∧ CV M α F H x d ∧ CV M α F H y e := by
  cases h with
  | cons a t =>
    obtain ⟨y, rfl, b⟩ := t.one
    exact ⟨_, y, rfl, a, b⟩
def gLen : List D → (R → Prop) → Prop
  | [.lst xs], Q => Q (.fr (.int xs.length))
  | [.tup xs], Q => Q (.fr (.int xs.length))
  | _, _ => False
theorem oc_len : OC X M (.builtin "len") gLen := by
  refine ⟨_, call_len_seq, ?_⟩
  intro Z ρ α F σ H xs ds Q P R0 cs q k
  rcases ds with _ | ⟨d, _ | ⟨d2, ds⟩⟩
  · exact q.elim
  · obtain ⟨x, rfl, c⟩ := cs.one
    cases d <;> first | exact q.elim | skip
    · obtain ⟨a, vs, rfl, h2, h3⟩ := c.lst R0
      exact ⟨a, vs, rfl, .inl (SqL.of h2), k _ _ F H R0 .refl (RV.mk (by rw [h3.length]; exact .int _)) q⟩
    · obtain ⟨a, vs, rfl, h2, h3⟩ := c.tup R0
      exact ⟨a, vs, rfl, .inr (R0.sub.t h2), k _ _ F H R0 .refl (RV.mk (by rw [h3.length]; exact .int _)) q⟩
  · cases d <;> exact q.elim
def gInt : List D → (R → Prop) → Prop
  | [.int i], Q => Q (.fr (.int i))
  | [.bl b], Q => Q (.fr (.int (if b then 1 else 0)))
  | _, _ => False
theorem oc_int : OC X M (.type "int") gInt := by
  refine ⟨_, call_int1, ?_⟩
  intro Z ρ α F σ H xs ds Q P R0 cs q k
  rcases ds with _ | ⟨d, _ | ⟨d2, ds⟩⟩
  · exact q.elim
  · obtain ⟨x, rfl, c⟩ := cs.one
    cases d <;> first | exact q.elim | skip
    · rw [c.bl]; exact .inr ⟨_, rfl, k _ _ F H R0 .refl (RV.mk (.int _)) q⟩
    · rw [c.int]; exact .inl ⟨_, rfl, k _ _ F H R0 .refl (RV.mk (.int _)) q⟩
  · cases d <;> exact q.elim
/-- list(..), tuple(..) of a list or a tuple -/
def gList : List D → (R → Prop) → Prop
  | [d], Q => ∃ xs, d.items = some xs ∧ Q (.nw (.l xs))
  | _, _ => False
theorem oc_list : OC X M (.type "list") gList := by
  refine ⟨_, call_list_of, ?_⟩
  intro Z ρ α F σ H xs ds Q P R0 cs q k
  rcases ds with _ | ⟨d, _ | ⟨d2, ds⟩⟩
  · exact q.elim
  · obtain ⟨x, rfl, c⟩ := cs.one
    obtain ⟨ys, e, q⟩ := q
    obtain ⟨a, vs, rfl, h2, h3⟩ := c.items R0 e
    refine ⟨a, vs, rfl, h2, fun p hp => ?_⟩
    obtain ⟨r1, s1⟩ := R0.laid (o := .lst vs) hp
    exact k _ _ F _ r1 s1 (RV.list R0 hp h3) q
  · exact q.elim
def gTuple : List D → (R → Prop) → Prop
  | [.lst xs], Q => Q (.fr (.tup xs))
  | [.tup xs], Q => Q (.fr (.tup xs))
  | _, _ => False
theorem oc_tuple : OC X M (.type "tuple") gTuple := by
  refine ⟨_, call_tuple_of, ?_⟩
  intro Z ρ α F σ H xs ds Q P R0 cs q k
  rcases ds with _ | ⟨d, _ | ⟨d2, ds⟩⟩
  · exact q.elim
  · obtain ⟨x, rfl, c⟩ := cs.one
    cases d <;> first | exact q.elim | skip
    · obtain ⟨a, vs, rfl, h2, h3⟩ := c.lst R0
      refine ⟨a, vs, rfl, .inl ⟨SqL.of h2, fun p hp => ?_⟩⟩
      obtain ⟨r1, s1⟩ := R0.tuple (o := .tup vs) hp
      exact k _ _ _ _ r1 s1 (RV.mk (.tup upd_same (h3.mono s1.sF))) q
    · obtain ⟨a, vs, rfl, h2, h3⟩ := c.tupS R0
      exact ⟨a, vs, rfl, .inr ⟨R0.sub.t (SqT.of h2), k _ _ F H R0 .refl (RV.mk (.tup h2 h3)) q⟩⟩
  · cases d <;> exact q.elim
/-- min(i, j), max(i, j) -/
def gMin2 : List D → (R → Prop) → Prop
  | [.int i, .int j], Q => Q (.fr (.int (if j < i then j else i)))
  | _, _ => False
def gMax2 : List D → (R → Prop) → Prop
  | [.int i, .int j], Q => Q (.fr (.int (if j > i then j else i)))
  | _, _ => False
theorem oc_min2 (hc : X.calm = true := by rfl) : OC X M (.builtin "min") gMin2 := by
  refine ⟨_, call_min2 hc, ?_⟩
  intro Z ρ α F σ H xs ds Q P R0 cs q k
  rcases ds with _ | ⟨d, _ | ⟨d2, _ | ⟨d3, ds⟩⟩⟩
  · exact q.elim
  · cases d <;> exact q.elim
  · obtain ⟨x, y, rfl, c1, c2⟩ := cs.two
    cases d <;> cases d2 <;> first | exact q.elim | skip
    rw [c1.int, c2.int]
    exact ⟨_, _, rfl, k _ _ F H R0 .refl (RV.mk (.int _)) q⟩
  · cases d <;> cases d2 <;> exact q.elim
theorem oc_max2 (hc : X.calm = true := by rfl) : OC X M (.builtin "max") gMax2 := by
  refine ⟨_, call_max2 hc, ?_⟩
  intro Z ρ α F σ H xs ds Q P R0 cs q k
  rcases ds with _ | ⟨d, _ | ⟨d2, _ | ⟨d3, ds⟩⟩⟩
  · exact q.elim
  · cases d <;> exact q.elim
  · obtain ⟨x, y, rfl, c1, c2⟩ := cs.two
    cases d <;> cases d2 <;> first | exact q.elim | skip
    rw [c1.int, c2.int]
    exact ⟨_, _, rfl, k _ _ F H R0 .refl (RV.mk (.int _)) q⟩
  · cases d <;> cases d2 <;> exact q.elim
/-- repr: R0 wants the guards' list empty -/
@[irreducible] def D.text (d : D) : Str := d.py.shown
theorem D.text_eq (d : D) : d.text = d.py.shown := by unfold D.text; rfl
def gRepr : List D → (R → Prop) → Prop
  | [d], Q => d.py.showable = true ∧ d.plain = true ∧ d.py.depth ≤ 60 ∧ d.py.shown.length ≤ sizeLine ∧ d.flat = false ∧ Q (.fr (.str d.text))
  | _, _ => False
theorem plain_nodict : (∀ d : D, d.plain = true → d.py.hasDict = false) ∧ (∀ ds : List D, D.plains ds = true → PyData.hasDictAll (D.pys ds) = false) := by
  have h : ∀ n, (∀ d : D, sizeOf d ≤ n → d.plain = true → d.py.hasDict = false) ∧ (∀ ds : List D, sizeOf ds ≤ n → D.plains ds = true → PyData.hasDictAll (D.pys ds) = false) := by
    intro n
    induction n with
    | zero => exact ⟨fun d h => by cases d <;> simp at h, fun ds h => by cases ds <;> simp at h⟩
    | succ n ih =>
      refine ⟨fun d h p => ?_, fun ds h p => ?_⟩
      · cases d <;> first | (simp [D.py, PyData.hasDict]; done) | (cases p; done) | skip
        · simp only [D.py, PyData.hasDict]
          exact ih.2 _ (by simp at h; omega) p
        · simp only [D.py, PyData.hasDict]
          exact ih.2 _ (by simp at h; omega) p
      · cases ds with
        | nil => rfl
        | cons d ds =>
          have p' := Bool.and_eq_true_iff.mp p
          have h1 := ih.1 d (by simp at h; omega) p'.1
          have h2 := ih.2 ds (by simp at h; omega) p'.2
          simp only [D.pys, PyData.hasDictAll, h1, h2, Bool.or_self]
  exact ⟨fun d => (h _).1 d (Nat.le_refl _), fun ds => (h _).2 ds (Nat.le_refl _)⟩
def rRepr (K : PySem.W.Frag) : List V → Hp → VK → Prop := fun xs H Q => ∃ a d, xs = [V.ref a] ∧ Dp K H (.ref a) d ∧ d.showable = true ∧ d.hasDict = false ∧ d.depth ≤ 60 ∧ d.shown.length ≤ sizeLine ∧ Q (.str d.shown) H
theorem call_repr (hg : X.A.guards = some []) (hu : X.A.units + 64 < cLine) : CallR X (.builtin "repr") (rRepr X.K) := by
  intro pins s σ H xs us Q I r h
  obtain ⟨a, d, rfl, dp, h1, h2, h3, h4, q⟩ := h
  obtain ⟨u, rfl, ru⟩ := vals1 r
  obtain ⟨as, rd⟩ := Dp.reads I d (.ref a) u dp ru
  cases ru
  refine repr_of_reads' rd h1 (PyData.noDict_hsm h2) hg (by omega) (fun _ _ e => e) (fun h' u' tk kp => ?_) h4
  exact ⟨.str d.shown, H, I.kept kp, ⟨_, rfl⟩, q⟩
theorem oc_repr (hg : X.A.guards = some []) (hu : X.A.units + 64 < cLine) : OC X M (.builtin "repr") gRepr := by
  refine ⟨_, call_repr hg hu, ?_⟩
  intro Z ρ α F σ H xs ds Q P R0 cs q k
  rcases ds with _ | ⟨d, _ | ⟨d2, ds⟩⟩
  · exact q.elim
  · obtain ⟨x, rfl, c⟩ := cs.one
    obtain ⟨h1, h2, h3, h4, h5, q⟩ := q
    have q : Q (.fr (.str d.py.shown)) := by rw [← D.text_eq]; exact q
    have dv := c.dv R0
    have hx : ∃ a, x = .ref a := by
      cases dv <;> first | (cases h5; done) | exact ⟨_, rfl⟩
    obtain ⟨a, rfl⟩ := hx
    exact ⟨a, _, rfl, dv.dp h2, h1, plain_nodict.1 d h2, h3, h4, k _ _ F H R0 .refl (RV.mk (.str _)) q⟩
  · exact q.elim
/-- isinstance(e, T) -/
def isT (T : String) : D → Bool
  | .non => T == "NoneType"
  | .bl _ => T == "bool" || T == "int"
  | .int _ => T == "int"
  | .str _ => T == "str"
  | .lst _ => T == "list"
  | .tup _ => T == "tuple"
  | .dct _ => T == "dict"
  | .dcT _ => T == "dict"
  | .obj _ => false
  | .seq _ => T == "list"
def tyD : D → String
  | .non => "NoneType"
  | .bl _ => "bool"
  | .int _ => "int"
  | .str _ => "str"
  | .lst _ => "list"
  | .tup _ => "tuple"
  | .dct _ => "dict"
  | .dcT _ => "dict"
  | .obj _ => ""
  | .seq _ => "list"
theorem DV.ty {K : PySem.W.Frag} {H : Hp} {v : V} {d : D} (h : DV K H v d) (n : ∀ a, d ≠ .obj a) : TyX K H v (.type (tyD d)) := by
  cases h with
  | non => exact .base .non
  | bl b => exact .base (.bl b)
  | int i => exact .base (.int i)
  | str x => exact .base (.str x)
  | lst e _ => exact .base (.lst e)
  | tup e _ => exact .base (.tup e)
  | dK e _ => exact .base (.dK e)
  | dT e _ => exact .base (.dT e)
  | obj a => exact absurd rfl (n a)
  | seq e =>
    rcases e with (e | ⟨o, e⟩) | ⟨o, _, _, e, c, _⟩
    · exact .base (.lst e)
    · exact .base (.frz e)
    · exact .kList e c
def wIsi {K : PySem.W.Frag} {M : Amb K} (Ts : List String) (w : WE M) : WE M := fun E Q => w E fun r E1 => (∀ a, r.c ≠ .obj a) ∧ Q (.fr (.bl (Ts.any fun T => isT T r.c))) E1
theorem kit_all : ∀ T ∈ ["int", "bool", "str", "tuple", "list", "dict"], ∀ t ∈ ["NoneType", "bool", "int", "str", "list", "tuple", "dict"], kitB t T = some (T == t || (t == "bool" && T == "int")) := by decide +kernel
theorem tyD_mem {d : D} (n : ∀ a, d ≠ .obj a) : tyD d ∈ ["NoneType", "bool", "int", "str", "list", "tuple", "dict"] := by
  cases d <;> first | (simp [tyD]; done) | exact absurd rfl (n _)
theorem isT_ty {T : String} {d : D} (n : ∀ a, d ≠ .obj a) : isT T d = (T == tyD d || (tyD d == "bool" && T == "int")) := by
  cases d <;> first | exact absurd rfl (n _) | simp [isT, tyD]
theorem qe_isi {e : Expr} {w : WE M} {T : Str} {Ts : String} {px p2 pos : Pos} (h : QE X M e w) (hT : Ts ∈ ["int", "bool", "str", "tuple", "list", "dict"]) (hm : X.mg "isinstance" = none) (hmT : X.mg T = none) (hg : Gl X "isinstance" := by rfl) (hgT : Gl X T := by rfl) (hb : bootBuiltins T = some (.type Ts) := by decide +kernel)
    (hn : T ≠ "__name__" := by decide) (hd : (T == ("__debug__" : Str)) = false := by decide)
    (he : starEach (e :: [.Name T p2]) X.env = (false, eval e X.env) :: starEach [.Name T p2] X.env := by rfl) (he2 : starEach [.Name T p2] X.env = (false, eval (.Name T p2) X.env) :: starEach [] X.env := by rfl) (hpl : (backTo pos (starEach [.Name T p2] X.env)).any (·.1) = false := by rfl) :
    QE X M (.Call (.Name "isinstance" px) [e, .Name T p2] [] pos) (wIsi [Ts] w) := by
  refine ⟨pe_weak (pe_callB call_isi hg hm (by decide +kernel) (pa_cons h.run (pa_cons (pe_bltn (v := .ty Ts) hgT hmT hb rfl hn hd) pa_nil he2) he) (by decide) (by decide) he hpl) fun σ H Q' ⟨Z, ρ, α, F, Q, R0, w, k⟩ => ?_⟩
  refine ⟨Z, ρ, α, F, _, R0, w, fun v r ρ1 α1 F1 H1 R1 s1 rv q => ?_⟩
  obtain ⟨n, q⟩ := q
  have kk := kit_ty (K := X.K) (kit_all Ts hT _ (tyD_mem n))
  refine ⟨v, .ty Ts, _, _, _, rfl, .ty Ts, ((rv.cv R1).dv R1).ty n, kk, k _ _ ρ1 α1 F1 H1 R1 s1 (RV.mk (.bl _)) ?_⟩
  simpa only [List.any_cons, List.any_nil, Bool.or_false, isT_ty n] using q
theorem qe_isi2 {e : Expr} {w : WE M} {T T' : Str} {Ts Ts' : String} {px p2 p3 p4 pos : Pos} {k1} (h : QE X M e w) (hT : Ts ∈ ["int", "bool", "str", "tuple", "list", "dict"]) (hT' : Ts' ∈ ["int", "bool", "str", "tuple", "list", "dict"]) (hm : X.mg "isinstance" = none) (hmT : X.mg T = none) (hmT' : X.mg T' = none)
    (hg : Gl X "isinstance" := by rfl) (hgT : Gl X T := by rfl) (hb : bootBuiltins T = some (.type Ts) := by decide +kernel) (hgT' : Gl X T' := by rfl) (hb' : bootBuiltins T' = some (.type Ts') := by decide +kernel)
    (hn : T ≠ "__name__" := by decide) (hd : (T == ("__debug__" : Str)) = false := by decide) (hn' : T' ≠ "__name__" := by decide) (hd' : (T' == ("__debug__" : Str)) = false := by decide)
    (he : starEach (e :: [.Tuple [.Name T p2, .Name T' p3] k1 p4]) X.env = (false, eval e X.env) :: starEach [.Tuple [.Name T p2, .Name T' p3] k1 p4] X.env := by rfl) (he2 : starEach [.Tuple [.Name T p2, .Name T' p3] k1 p4] X.env = (false, eval (.Tuple [.Name T p2, .Name T' p3] k1 p4) X.env) :: starEach [] X.env := by rfl)
    (he3 : starEach [.Name T p2, .Name T' p3] X.env = (false, eval (.Name T p2) X.env) :: starEach [.Name T' p3] X.env := by rfl) (he4 : starEach [.Name T' p3] X.env = (false, eval (.Name T' p3) X.env) :: starEach [] X.env := by rfl)
    (hpl : (backTo pos (starEach [.Tuple [.Name T p2, .Name T' p3] k1 p4] X.env)).any (·.1) = false := by rfl) :
    QE X M (.Call (.Name "isinstance" px) [e, .Tuple [.Name T p2, .Name T' p3] k1 p4] [] pos) (wIsi [Ts, Ts'] w) := by
  refine ⟨pe_weak (pe_callB call_isiT hg hm (by decide +kernel) (pa_cons h.run (pa_cons (pe_tup (pa_cons (pe_bltn (v := .ty Ts) hgT hmT hb rfl hn hd) (pa_cons (pe_bltn (v := .ty Ts') hgT' hmT' hb' rfl hn' hd') pa_nil he4) he3)) pa_nil he2) he) (by decide) (by decide) he hpl) fun σ H Q' ⟨Z, ρ, α, F, Q, R0, w, k⟩ => ?_⟩
  refine ⟨Z, ρ, α, F, _, R0, w, fun v r ρ1 α1 F1 H1 R1 s1 rv q => ?_⟩
  obtain ⟨n, q⟩ := q
  refine ⟨by show 2 ≤ sizeLine; decide, fun p hp => ?_⟩
  obtain ⟨r2, s2⟩ := R1.laid (o := .tup [V.ty Ts, V.ty Ts']) hp
  have k1 := kit_ty (K := X.K) (kit_all Ts hT _ (tyD_mem n))
  have k2 := kit_ty (K := X.K) (kit_all Ts' hT' _ (tyD_mem n))
  refine ⟨v, p, _, _, [.type Ts, .type Ts'], _, rfl, upd_same, .cons (.ty Ts) (.cons (.ty Ts') .nil), (((rv.cv R1).step s2).dv r2).ty n, ?_, k _ (.fr (.bl ([Ts, Ts'].any fun T => isT T r.c))) ρ1 α1 F1 _ r2 (s1.trans s2) (RV.mk (.bl _)) q⟩
  simp only [PySem.W.kitAny, k1, k2, List.any_cons, List.any_nil, Bool.or_false, isT_ty n]
  cases (Ts == tyD r.c || (tyD r.c == "bool" && Ts == "int")) <;> cases (Ts' == tyD r.c || (tyD r.c == "bool" && Ts' == "int")) <;> rfl
end
end DL
set_option maxHeartbeats 4000000
namespace DL
open PySem PySem.Spec L2
open PyProof.Rows hiding St

/-! ### what a def is worth -/
/-- arguments, the others' state, what is wanted of the result (data or a new object) and of their state behind -/
abbrev Ct {K : PySem.W.Frag} (M : Amb K) := List D → M.S → (R → M.S → Prop) → Prop
structure After {K : PySem.W.Frag} (M : Amb K) (α : M.S) (F H : Hp) (α' : M.S) (F' H' : Hp) : Prop where
  f : Sub F F'
  s : Sub F' H'
  h : ∀ b o, H b = some o → ¬ M.fp α b → H' b = some o
  t : ∀ b, H b ≠ none → H' b ≠ none
  n : ∀ b, M.fp α' b → M.fp α b ∨ H b = none
  z : ∀ b, F' b ≠ none → F b ≠ none ∨ NewT F' H b
  ok : M.ok α' F' H'
  nf : ∀ b, M.fp α' b → F' b = none
def spD {K : PySem.W.Frag} (M : Amb K) (n : Nat) (C : Ct M) : Sp := fun vs H Q _ => vs.length = n ∧ ∃ (F : Hp) (ds : List D) (α : M.S) (Qd : R → M.S → Prop), Sub F H ∧ DVs K F vs ds ∧ M.ok α F H ∧ (∀ b, M.fp α b → F b = none) ∧ C ds α Qd ∧
  ∀ v r α' F' H', After M α F H α' F' H' → RV M H [] α' F' [] H' r v → Qd r α' → Q v H'

section
variable {K : PySem.W.Frag} {M : Amb K} {Z : Base M} {ρ : List (Option B)} {α α' : M.S} {F F' H H' : Hp} {σ : L2.St} {r : R} {v : V}
theorem RV.bare {H0 : Hp} (h : RV M H0 [] α F [] H r v) : RV M H0 ρ α F σ H r v := by
  cases r with
  | fr d => exact h
  | al i b =>
    have h1 : ([] : List (Option B))[i]? = some (some b) := h.1
    simp at h1
  | nw b => exact h
  | nt p b c => exact h
theorem Rel.called (R1 : Rel M Z ρ α F σ H) (A : After M α F H α' F' H') : Rel M Z ρ α' F' σ H' ∧ Stp M σ ρ α F H ρ α' F' H' := by
  refine ⟨⟨A.s, R1.len, fun i d e => ?_, fun i b e ow => ?_, R1.dis, A.ok, A.nf, R1.bF.trans A.f, fun b o e n => ?_, fun b hb => ?_, fun b hb => A.t b (R1.bT b hb), fun b hb => ?_⟩, ⟨A.f, A.h, A.t, A.n, fun b hb => ?_, fun _ h => h⟩⟩
  · obtain ⟨v, h1, h2⟩ := R1.val i d e
    exact ⟨v, h1, h2.mono A.f⟩
  · obtain ⟨a, o, h1, h2, h3, h4, h5, h6⟩ := R1.own i b e ow
    refine ⟨a, o, h1, A.h a o h2 h5, h3.mono A.f, (none_or F' a).elim id fun q => ?_, fun q => (A.n a q).elim h5 fun q => absurd q (ne_none h2), h6⟩
    rcases A.z a q with q | q
    · exact absurd h4 q
    · exact (q.no A.s h2 (A.h a o h2 h5) h3).elim
  · refine A.h b o (R1.bH b o e n) fun q => ?_
    rcases R1.bN b q with q | q
    · exact n q
    · exact absurd q (ne_none e)
  · rcases A.n b hb with q | q
    · exact R1.bN b q
    · exact .inr (R1.zn q)
  · rcases A.z b hb with q | q
    · exact (R1.bZ b q).imp id fun q => q.mono A.f
    · exact .inr (q.imp R1.zn id)
  · rcases A.z b hb with q | q
    · exact .inl q
    · exact .inr (.inl q)
end

/-! ### a def, by its promise, where nothing else is being printed -/
structure FnG (P : Program) (w : World) (K : PySem.W.Frag) (mg : Str → Option Value) (base : Heap) (k : Nat) (f : Addr) (fd : FuncData) (ps : List Str) (sp : Sp) : Prop where
  len : ∀ vs H Q E, sp vs H Q E → vs.length = ps.length
  run : ∀ (A : Around) (outer : List PySem.Env) (s : Shared) (H : Hp) (args : Args) (us : List Value) (vs : List V) (Q : VK) (E : XK), Room k A → A.guards = some [] →
    Env0 P w K mg base A outer s H → BindsTo s fd args (ps.zip us) → Vals vs us → sp vs H Q E → codeAny (model P w) A (.call (.ref f) args) (CR CX0 outer P w H s Q E) s
section
variable {P : Program} {w : World} {K : PySem.W.Frag} {mg : Str → Option Value} {base : Heap}
theorem FnG.mono {j k : Nat} {f : Addr} {fd : FuncData} {ps : List Str} {sp : Sp} (F : FnG P w K mg base j f fd ps sp) (h : j ≤ k) : FnG P w K mg base k f fd ps sp :=
  ⟨F.len, fun A outer s H args us vs Q E hr => F.run A outer s H args us vs Q E (hr.mono h)⟩
/-- from a body's reading -/
theorem fng_of {x qual : Str} {st : Stmt} {f : Addr} {fd : FuncData} {N ps : List Str} {k : Nat} {sp : Sp} (F : Fun K x qual st f fd) (S : FnScope N ps (defScope st)) (len : ∀ vs H Q E, sp vs H Q E → vs.length = ps.length)
    (hbody : ∀ (cdv : Value) (A : Around) (outer : List PySem.Env) (s : Shared) (H : Hp) (vs : List V) (Q : VK) (E : XK), Room k (A.deeper (envOfC qual (defScope st) s.heap.objs.size f cdv)) →
      (A.deeper (envOfC qual (defScope st) s.heap.objs.size f cdv)).guards = some [] → sp vs H Q E →
      ∃ t, PSs (cxOf CX0 P w K mg base N qual (defScope st) f cdv A outer s H E) (defBody st) t ∧ t { nx := fun _ H' => Q .non H', rt := Q } (start N vs) H) : FnG P w K mg base (k + 1) f fd ps sp := by
  obtain ⟨oc, od, kV, doc, pm, an, cdv, ct, osl, rfl, lk, hcd⟩ := F.ex
  refine ⟨len, fun A outer s H args us vs Q E hr hg e0 hb r hsp => ?_⟩
  have hl := len vs H Q E hsp
  have kin : K.In s.heap := e0.mod.kin.keeps fun b o e =>
    (e0.bs b o e).1
  have lim : s.heap.NoLimit := e0.mod.nolimit.keeps fun b o e =>
    (e0.bs b o e).1
  have hkind : ∀ y ∈ ps.zip us, (defScope st).names.lookup y.1 = some .local ∨
      ((defScope st).names.lookup y.1 = some .cell ∧ ((cellsFrom (s.heap.objs.size + 1) (defScope st).names []).lookup y.1).isSome = true) := by
    rintro ⟨n, v⟩ hy
    cases S.par n (List.of_mem_zip hy).1 with
    | inl q => exact Or.inl q
    | inr q => exact Or.inr ⟨q, PySem.W.cellsFrom_some _ _ _ (Or.inl q)⟩
  refine codeAny_call_function hr.depth (kin _ _ lk) rfl S.co S.gen rfl
    (PySem.W.codeRec_of kin hcd) (hb _ _ _ _ ?_)
  refine wpAny_newFunctionEnv_cells S.kind hkind fun env he s1 x => ?_
  cases he
  refine ⟨lim.keeps x.toInCall.keep, codeAny_func ?_⟩
  obtain ⟨t, ht, hq⟩ := hbody cdv A outer s H vs Q E (hr.deeper _) hg hsp
  have I := inv_start (CX := CX0) (P := P) (w := w) (mg := mg) (E := E) (f := f) (cd := cdv) (qual := qual)
    S hr.hd e0 hl r x
  refine wpAny_mono (ht.run [] s1 (start N vs) H _ I hq) (fun fl s' hs => ?_)
    fun e s' hs => hs
  cases fl with
  | next =>
    obtain ⟨σ', H', J, q⟩ := hs
    exact ⟨V.non, H', J.os, J.bare, J.base, J.hok, rfl, q⟩
  | ret u =>
    obtain ⟨v, σ', H', J, rv, q⟩ := hs
    exact ⟨v, H', J.os, J.bare, J.base, J.hok, rv, q⟩
  | brk => obtain ⟨_, _, _, q⟩ := hs; exact q.elim
  | cont => obtain ⟨_, _, _, q⟩ := hs; exact q.elim

/-- what stands at the module's name x: a def of level k, worth C -/
def Ok (P : Program) (w : World) (K : PySem.W.Frag) (mg : Str → Option Value) (base : Heap) (M : Amb K) (x : Str) (k n : Nat) (C : Ct M) : Prop :=
  ∃ f fd ps, mg x = some (.ref f) ∧ PySem.W.keepIn K (.ref f) = true ∧ Binds K fd ps [] ∧ ps.length = n ∧ FnG P w K mg base k f fd ps (spD M n C)
theorem Ok.mono {M : Amb K} {x : Str} {j k n : Nat} {C : Ct M} (o : Ok P w K mg base M x j n C) (h : j ≤ k) : Ok P w K mg base M x k n C := by
  obtain ⟨f, fd, ps, h1, h2, h3, h4, h5⟩ := o
  exact ⟨f, fd, ps, h1, h2, h3, h4, h5.mono h⟩
end
section
variable {X : Cx} {M : Amb X.K}
def wCall {K : PySem.W.Frag} {M : Amb K} (n : Nat) (C : Ct M) (wa : WA M) : WE M := fun E Q => wa E fun ds E1 => ds.length = n ∧ C ds E1.2 fun r α' => Q r (E1.1, α')
theorem run_fng {CX : CXT} {k : Nat} {f : Addr} {fd : FuncData} {ps : List Str} {sp : Sp} {E : XK} {pins : List (Addr × Obj)} {σ : L2.St} {H : Hp} {s : Shared} {Q : VK} {us : List Value} {vs : List V} (F : FnG X.prog X.w X.K X.mg X.base k f fd ps sp) (hr : Room k X.A) (hg : X.A.guards = some [])
    (hb : Binds X.K fd ps []) (I : Inv X pins σ H s) (r : Vals vs us) (h : sp vs H Q E) : wpAny (model X.prog X.w) X.A (call (.ref f) us) (EP X pins σ Q) X.xe s := by
  have hl : (us ++ []).length = ps.length := by
    rw [List.append_nil, ← r.length]
    exact F.len vs H Q E h
  have hb' := hb s us I.kIn hl
  rw [List.append_nil] at hb'
  refine wpAny_call (codeAny_mono (F.run X.A X.stack s H ⟨us, []⟩ us vs Q E hr hg I.env0 hb' r h) fun res s' hq => ?_)
  match res, hq with
  | .ok (.ret u), hq => exact I.after hq
theorem qe_call {x : Str} {p pos : Pos} {e : Expr} {es : List Expr} {k n : Nat} {C : Ct M} {wa : WA M} (o : Ok X.prog X.w X.K X.mg X.base M x k n C) (hr : Room k X.A) (hgd : X.A.guards = some []) (ha : QA X M (e :: es) wa) (hg : Gl X x := by rfl)
    (hdb : (x == ("__debug__" : Str)) = false := by decide) (he : starEach (e :: es) X.env = (false, eval e X.env) :: starEach es X.env := by rfl) (hpl : (backTo pos (starEach es X.env)).any (·.1) = false := by rfl) :
    QE X M (.Call (.Name x p) (e :: es) [] pos) (wCall n C wa) := by
  obtain ⟨f, fd, ps, hm, hk, hb, hps, G⟩ := o
  refine ⟨⟨fun pins s σ H Q' I q => ?_⟩⟩
  obtain ⟨Z, ρ, α, F, Q, R0, w, kq⟩ := q
  refine wpAny_Call_Name_kw (ld_glob I hg hm ?_ hdb)
  have run := ha.run.run pos pins s σ H (fun vs H1 => spD M n C vs H1 Q' E0) I ⟨Z, ρ, α, F, _, R0, w, fun vs ds ρ1 α1 F1 H1 R1 s1 dv q => ?_⟩
  · exact PySem.W.callWith_K (h₀ := X.base) I.ok.mod.kin hk (thn run fun us s1 ⟨vs, H1, I1, r, q⟩ => ⟨I1.kIn, run_fng (CX := CX0) (E := E0) G hr hgd hb I1 r q⟩) he hpl
  refine ⟨by rw [dv.length]; exact q.1, F1, ds, α1, _, R1.sub, dv, R1.amb, R1.ambF, q.2, fun v r α' F' H' A rv q => ?_⟩
  obtain ⟨R2, s2⟩ := R1.called A
  exact kq v r ρ1 α' F' H' R2 (s1.trans s2) (rv.bare.back s1.sT) q

/-! ### statements -/
structure EndsD {K : PySem.W.Frag} (M : Amb K) where
  nx : Env M → Prop
  rt : R → M.S → Prop
  bk : Env M → Prop := fun _ => False
  ct : Env M → Prop := fun _ => False
abbrev WS {K : PySem.W.Frag} (M : Amb K) := EndsD M → Env M → Prop
def tWS {K : PySem.W.Frag} (M : Amb K) (w : WS M) : TS := fun D' σ H => ∃ (Z : Base M) (ρ : List (Option B)) (α : M.S) (F : Hp) (D : EndsD M), Rel M Z ρ α F σ H ∧ w D (ρ, α) ∧
  (∀ ρ' α' F' σ' H', Rel M Z ρ' α' F' σ' H' → D.nx (ρ', α') → D'.nx σ' H') ∧ (∀ ρ' α' F' σ' H', Rel M Z ρ' α' F' σ' H' → D.bk (ρ', α') → D'.bk σ' H') ∧ (∀ ρ' α' F' σ' H', Rel M Z ρ' α' F' σ' H' → D.ct (ρ', α') → D'.ct σ' H') ∧
  ∀ v r ρ' α' F' σ' H', Rel M Z ρ' α' F' σ' H' → RV M Z.H [] α' F' [] H' r v → D.rt r α' → D'.rt v H'
structure QS (X : Cx) (M : Amb X.K) (st : Stmt) (w : WS M) : Prop where
  run : PS X st (tWS M w)
structure QSs (X : Cx) (M : Amb X.K) (sts : List Stmt) (w : WS M) : Prop where
  run : PSs X sts (tWS M w)
theorem ps_weak {e : Stmt} {t t' : TS} (h : PS X e t) (k : ∀ D σ H, t' D σ H → t D σ H) : PS X e t' := ⟨fun pins s σ H D I q => h.run pins s σ H D I (k D σ H q)⟩
theorem pss_weak {e : List Stmt} {t t' : TS} (h : PSs X e t) (k : ∀ D σ H, t' D σ H → t D σ H) : PSs X e t' := ⟨fun pins s σ H D I q => h.run pins s σ H D I (k D σ H q)⟩
def wNext {K : PySem.W.Frag} {M : Amb K} : WS M := fun D E => D.nx E
def wSeq {K : PySem.W.Frag} {M : Amb K} (a b : WS M) : WS M := fun D E => a { D with nx := b D } E
theorem qs_nil : QSs X M [] wNext := ⟨pss_weak pss_nil fun D' σ H ⟨Z, ρ, α, F, D, R0, w, k, _⟩ => k ρ α F σ H R0 w⟩
theorem qs_cons {st : Stmt} {rest : List Stmt} {a b : WS M} (h1 : QS X M st a) (h2 : QSs X M rest b) : QSs X M (st :: rest) (wSeq a b) := by
  refine ⟨pss_weak (pss_cons h1.run h2.run) fun D' σ H ⟨Z, ρ, α, F, D, R0, w, k1, k2, k3, k4⟩ => ?_⟩
  exact ⟨Z, ρ, α, F, _, R0, w, fun ρ' α' F' σ' H' R1 q => ⟨Z, ρ', α', F', D, R1, q, k1, k2, k3, k4⟩, k2, k3, k4⟩
theorem qs_one {st : Stmt} {a : WS M} (h1 : QS X M st a) : QSs X M [st] a := ⟨pss_weak (pss_one h1.run) fun D' σ H q => q⟩
theorem qs_pass {pos : Pos} : QS X M (.Pass pos) wNext := ⟨ps_weak ps_pass fun D' σ H ⟨Z, ρ, α, F, D, R0, w, k, _⟩ => k ρ α F σ H R0 w⟩
def wBrk {K : PySem.W.Frag} {M : Amb K} : WS M := fun D E => D.bk E
def wCnt {K : PySem.W.Frag} {M : Amb K} : WS M := fun D E => D.ct E
theorem qs_break {pos : Pos} : QS X M (.Break pos) wBrk := ⟨ps_weak ps_break fun D' σ H ⟨Z, ρ, α, F, D, R0, w, _, k, _⟩ => k ρ α F σ H R0 w⟩
theorem qs_cont {pos : Pos} : QS X M (.Continue pos) wCnt := ⟨ps_weak ps_continue fun D' σ H ⟨Z, ρ, α, F, D, R0, w, _, _, k, _⟩ => k ρ α F σ H R0 w⟩
/-- what is handed back -/
def R.out : R → R
  | .al _ b => .nw b
  | r => r
theorem RV.out {Z : Base M} {ρ ρ' : List (Option B)} {α α' : M.S} {F F' H H' : Hp} {σ : L2.St} {r : R} {v : V} (R0 : Rel M Z ρ α F σ H) (R1 : Rel M Z ρ' α' F' σ H') (h : RV M H ρ' α' F' σ H' r v) : RV M Z.H [] α' F' [] H' r.out v := by
  cases r with
  | fr d => exact h
  | nw b => exact RV.bare (RV.back (r := .nw b) (ρ := []) (σ := []) h R0.bT)
  | nt p b c => exact RV.bare (RV.back (r := .nt p b c) (ρ := []) (σ := []) h R0.bT)
  | al i b =>
    obtain ⟨h1, h2, h3⟩ := h
    obtain ⟨a, o, q1, q2, q3, q4, q5, q6⟩ := R1.own i b h1 h2
    rw [h3] at q1
    cases q1
    exact ⟨a, o, rfl, q2, q3, q4, q5, q6⟩
def wRet {K : PySem.W.Frag} {M : Amb K} (w : WE M) : WS M := fun D E => w E fun r E' => D.rt r.out E'.2
theorem qs_ret {e : Expr} {pos : Pos} {w : WE M} (h : QE X M e w) : QS X M (.Return (some e) pos) (wRet w) := by
  refine ⟨ps_weak (ps_ret h.run) fun D' σ H ⟨Z, ρ, α, F, D, R0, w, k1, k2, k3, k4⟩ => ?_⟩
  exact ⟨Z, ρ, α, F, _, R0, w, fun v r ρ' α' F' H' R1 s1 rv q => k4 v r.out ρ' α' F' σ H' R1 (rv.out R0 R1) q⟩
def wRetN {K : PySem.W.Frag} {M : Amb K} : WS M := fun D E => D.rt (.fr .non) E.2
theorem qs_retN {pos : Pos} : QS X M (.Return none pos) wRetN :=
  ⟨ps_weak ps_retN fun D' σ H ⟨Z, ρ, α, F, D, R0, w, k1, k2, k3, k4⟩ => k4 .non (.fr .non) ρ α F σ H R0 (RV.mk .non) w⟩
def wIfS {K : PySem.W.Frag} {M : Amb K} (t : WT M) (a b : WS M) : WS M := fun D E => t E fun k E' => if k = true then a D E' else b D E'
theorem qs_if {c : Expr} {a b : List Stmt} {pos : Pos} {t : WT M} {wa wb : WS M} (hc : QT X M c t) (ha : QSs X M a wa) (hb : QSs X M b wb) : QS X M (.If c a b pos) (wIfS t wa wb) := by
  refine ⟨ps_weak (ps_if hc.run ha.run hb.run) fun D' σ H ⟨Z, ρ, α, F, D, R0, w, k1, k2, k3, k4⟩ => ?_⟩
  refine ⟨Z, ρ, α, F, _, R0, w, fun b ρ' α' F' H' R1 s1 q => ?_⟩
  cases b with
  | true => exact ⟨Z, ρ', α', F', D, R1, q, k1, k2, k3, k4⟩
  | false => exact ⟨Z, ρ', α', F', D, R1, q, k1, k2, k3, k4⟩
def wDrop {K : PySem.W.Frag} {M : Amb K} (w : WE M) : WS M := fun D E => w E fun _ E' => D.nx E'
theorem qs_expr {e : Expr} {pos : Pos} {w : WE M} (h : QE X M e w) (hs : swapsWith e none pos.line X.env = pure false := by rfl) : QS X M (.Expr e pos) (wDrop w) := by
  refine ⟨ps_weak (ps_expr h.run hs) fun D' σ H ⟨Z, ρ, α, F, D, R0, w, k1, k2, k3, k4⟩ => ?_⟩
  exact ⟨Z, ρ, α, F, _, R0, w, fun v r ρ' α' F' H' R1 s1 rv q => k1 ρ' α' F' σ H' R1 q⟩
end

/-! ### stores -/
section
variable {K : PySem.W.Frag} {M : Amb K} {Z : Base M} {ρ ρ' : List (Option B)} {α α' : M.S} {F F' H H' : Hp} {σ : L2.St} {r : R} {v : V}
/-- slot i forgotten, another value there -/
theorem Rel.clear (r : Rel M Z ρ α F σ H) (i : Nat) (x : Option V) : Rel M Z (ρ.set i none) α F (σ.set i x) H := by
  refine ⟨r.sub, by rw [List.length_set, List.length_set]; exact r.len, fun j d e => ?_, fun j b' e ow' => ?_, fun j k b' b2 x e1 o1 e2 o2 g1 g2 => ?_, r.amb, r.ambF, r.bF, r.bH, r.bN, r.bT, r.bZ⟩
  · rcases set_get e with ⟨_, e⟩ | ⟨n, e⟩
    · cases e
    · rw [List.getElem?_set_ne (Ne.symm n)]
      exact r.val j d e
  · rcases set_get e with ⟨_, e⟩ | ⟨n, e⟩
    · cases e
    · rw [List.getElem?_set_ne (Ne.symm n)]
      exact r.own j b' e ow'
  · rcases set_get e1 with ⟨_, e⟩ | ⟨n1, e1⟩
    · cases e
    · rcases set_get e2 with ⟨_, e⟩ | ⟨n2, e2⟩
      · cases e
      · rw [List.getElem?_set_ne (Ne.symm n1)] at g1
        rw [List.getElem?_set_ne (Ne.symm n2)] at g2
        exact r.dis j k b' b2 _ e1 o1 e2 o2 g1 g2
theorem Rel.putD (r : Rel M Z ρ α F σ H) (i : Nat) {d : D} (h : DV K F v d) : Rel M Z (ρ.set i (some (.d d))) α F (σ.set i (some v)) H := by
  have r1 := r.clear i (some v)
  refine ⟨r.sub, by rw [List.length_set, List.length_set]; exact r.len, fun j d' e => ?_, fun j b' e ow' => ?_, fun j k b' b2 x e1 o1 e2 o2 g1 g2 => ?_, r.amb, r.ambF, r.bF, r.bH, r.bN, r.bT, r.bZ⟩
  · by_cases n : j = i
    · subst n
      rcases set_get e with ⟨_, q⟩ | ⟨n, _⟩
      · cases q
        have hj : j < σ.length := by
          rw [← r.len, ← List.length_set (as := ρ) (i := j) (a := some (B.d d))]
          exact (List.getElem?_eq_some_iff.mp e).1
        exact ⟨v, List.getElem?_set_self hj, h⟩
      · exact absurd rfl n
    · rw [List.getElem?_set_ne (Ne.symm n)] at e
      exact r1.val j d' (by rw [List.getElem?_set_ne (Ne.symm n)]; exact e)
  · rcases set_get e with ⟨_, q⟩ | ⟨n, q⟩
    · cases q
      cases ow'
    · exact r1.own j b' (by rw [List.getElem?_set_ne (Ne.symm n)]; exact q) ow'
  · rcases set_get e1 with ⟨_, q⟩ | ⟨n1, q1⟩
    · cases q
      cases o1
    · rcases set_get e2 with ⟨_, q⟩ | ⟨n2, q2⟩
      · cases q
        cases o2
      · exact r1.dis j k b' b2 x (by rw [List.getElem?_set_ne (Ne.symm n1)]; exact q1) o1 (by rw [List.getElem?_set_ne (Ne.symm n2)]; exact q2) o2 g1 g2
theorem Rel.putO (r : Rel M Z ρ α F σ H) (i : Nat) {a : Addr} {o : HO} {b : B} (h1 : H a = some o) (h2 : OwnOk K F o b) (h3 : F a = none) (h4 : ¬ M.fp α a) (h5 : Z.H a = none) (h6 : ¬ Owned (ρ.set i none) (σ.set i (some (.ref a))) a) :
    Rel M Z (ρ.set i (some b)) α F (σ.set i (some (.ref a))) H := by
  have r1 := r.clear i (some (.ref a))
  have at_ : ∀ {j : Nat} {b' : B}, (ρ.set i (some b))[j]? = some (some b') → (j = i ∧ b' = b ∧ (σ.set i (some (.ref a)))[j]? = some (some (.ref a))) ∨ (j ≠ i ∧ (ρ.set i none)[j]? = some (some b')) := fun {j b'} e => by
    by_cases n : j = i
    · subst n
      have hj : j < σ.length := by
        rw [← r.len, ← List.length_set (as := ρ) (i := j) (a := some b)]
        exact (List.getElem?_eq_some_iff.mp e).1
      rcases set_get e with ⟨_, q⟩ | ⟨n, _⟩
      · exact .inl ⟨rfl, Option.some.inj q, List.getElem?_set_self hj⟩
      · exact absurd rfl n
    · rw [List.getElem?_set_ne (Ne.symm n)] at e
      exact .inr ⟨n, by rw [List.getElem?_set_ne (Ne.symm n)]; exact e⟩
  refine ⟨r.sub, by rw [List.length_set, List.length_set]; exact r.len, fun j d' e => ?_, fun j b' e ow' => ?_, fun j k b' b2 x e1 o1 e2 o2 g1 g2 => ?_, r.amb, r.ambF, r.bF, r.bH, r.bN, r.bT, r.bZ⟩
  · rcases at_ e with ⟨_, q, _⟩ | ⟨_, q⟩
    · have := h2.own
      rw [← q] at this
      cases this
    · exact r1.val j d' q
  · rcases at_ e with ⟨_, q, g⟩ | ⟨_, q⟩
    · rw [q]
      exact ⟨a, o, g, h1, h2, h3, h4, h5⟩
    · exact r1.own j b' q ow'
  · rcases at_ e1 with ⟨n1, q1, f1⟩ | ⟨n1, q1⟩
    · rcases at_ e2 with ⟨n2, q2, f2⟩ | ⟨n2, q2⟩
      · rw [n1, n2]
      · rw [f1] at g1
        cases g1
        exact absurd ⟨k, b2, q2, o2, g2⟩ h6
    · rcases at_ e2 with ⟨n2, q2, f2⟩ | ⟨n2, q2⟩
      · rw [f2] at g2
        cases g2
        exact absurd ⟨j, b', q1, o1, g1⟩ h6
      · exact r1.dis j k b' b2 x q1 o1 q2 o2 g1 g2
theorem owned_clear {i : Nat} {x : Option V} {a : Addr} (h : Owned (ρ.set i none) (σ.set i x) a) : Owned ρ σ a := by
  obtain ⟨j, b, h1, h2, h3⟩ := h
  rcases set_get h1 with ⟨_, q⟩ | ⟨n, q⟩
  · cases q
  · rw [List.getElem?_set_ne (Ne.symm n)] at h3
    exact ⟨j, b, q, h2, h3⟩
/-- name = what came out -/
def put (i : Nat) (r : R) (E : Env M) : Env M := match r with
  | .fr d => (E.1.set i (some (.d d)), E.2)
  | .nw b => (E.1.set i (some b), E.2)
  | .nt p _ _ => (E.1.set i (some (.d (.obj p))), E.2)
  | .al j b => ((E.1.set j (some (.d b.toD))).set i (some (.d b.toD)), E.2)
theorem put_ok (i : Nat) (R0 : Rel M Z ρ α F σ H) (s : Stp M σ ρ α F H ρ' α' F' H') (R1 : Rel M Z ρ' α' F' σ H') (h : RV M H ρ' α' F' σ H' r v) : ∃ F2, Rel M Z (put i r (ρ', α')).1 α' F2 (σ.set i (some v)) H' ∧ (put i r (ρ', α')).2 = α' := by
  cases r with
  | fr d => exact ⟨F', R1.putD i h, rfl⟩
  | nt p b c =>
    obtain ⟨rfl, _⟩ := h
    exact ⟨F', R1.putD i (.obj p), rfl⟩
  | nw b =>
    obtain ⟨a, o, rfl, q1, q2, q3, q4, q5⟩ := h
    exact ⟨F', R1.putO i q1 q2 q3 q4 (R0.zn q5) fun z => R0.ownn q5 (s.sO a (owned_clear z)), rfl⟩
  | al j b =>
    obtain ⟨h1, h2, h3⟩ := h
    obtain ⟨F2, r2, s2, dv⟩ := R1.give h1 h2 h3
    exact ⟨F2, r2.putD i dv, rfl⟩
end
section
variable {X : Cx} {M : Amb X.K}
def wSet {K : PySem.W.Frag} {M : Amb K} (i : Nat) (w : WE M) : WS M := fun D E => w E fun r E' => D.nx (put i r E')
theorem tset {i : Nat} {w : WE M} {D' : Ends} {σ : L2.St} {H : Hp} (h : tWS M (wSet i w) D' σ H) : tAsg (tW M w) (gName i) D' σ H := by
  obtain ⟨Z, ρ, α, F, D, R0, w, k1, k2, k3, k4⟩ := h
  refine ⟨Z, ρ, α, F, _, R0, w, fun v r ρ' α' F' H' R1 s1 rv q => ?_⟩
  obtain ⟨F2, r2, e⟩ := put_ok i R0 s1 R1 rv
  refine k1 (put i r (ρ', α')).1 α' F2 _ H' r2 ?_
  have e' : ((put i r (ρ', α')).1, α') = put i r (ρ', α') := by
    rw [Prod.ext_iff]
    exact ⟨rfl, e.symm⟩
  rw [e']
  exact q
theorem qs_set {i : Nat} {x : Str} {e : Expr} {pos pos' : Pos} {w : WE M} (h : QE X M e w) (hN : X.N.Nodup) (hi : X.N[i]? = some x := by rfl) (hx : Loc X.env.scope x := by first | exact .inl rfl | exact .inr rfl) (hs : swapsWith e (some (.Name x pos')) pos.line X.env = pure false := by rfl)
    (hf : X.fn x = true ∨ X.env.scope.names.lookup x = some .local := by first | exact .inl rfl | exact .inr rfl) : QS X M (.Assign [.Name x pos'] e pos) (wSet i w) :=
  ⟨ps_weak (ps_set hN hi hx h.run hs hf) fun D' σ H q => tset q⟩
end
end DL
set_option maxHeartbeats 4000000
namespace DL
open PySem L2

/-! ### from here on -/
section
variable {K : PySem.W.Frag} {M : Amb K} {Z : Base M} {ρ ρ' ρ2 : List (Option B)} {α α' α2 : M.S} {F F0 F' F2 H H0 H' H2 : Hp} {σ : L2.St} {r : R} {v : V} {d : D}
def Base.at (Z : Base M) (F : Hp) : Base M := { Z with F := F }
theorem Rel.rebase (r : Rel M Z ρ α F σ H) : Rel M (Z.at F) ρ α F σ H :=
  ⟨r.sub, r.len, r.val, r.own, r.dis, r.amb, r.ambF, Sub.refl _, r.bH, r.bN, r.bT, fun b h => .inl h⟩
theorem Rel.unbase {σ' : L2.St} (r0 : Rel M Z ρ α F0 σ H0) (r : Rel M (Z.at F0) ρ' α' F' σ' H') : Rel M Z ρ' α' F' σ' H' :=
  ⟨r.sub, r.len, r.val, r.own, r.dis, r.amb, r.ambF, r0.bF.trans r.bF, r.bH, r.bN, r.bT, fun b h => (r.bZ b h).elim (fun q => (r0.bZ b q).imp id fun q => q.mono r.bF) .inr⟩

/-! ### what is walked -/
def ItOk (M : Amb K) (J : It) (ds : List D) (F0 : Hp) : Prop := ∀ H, Sub F0 H → (∀ i, i < ds.length → J.go i H) ∧ J.stop ds.length H ∧
  ∀ (i : Nat) (x : V) (d : D) (H' : Hp) (Z : Base M) (ρ : List (Option B)) (α : M.S) (F : Hp) (σ : L2.St), Rel M Z ρ α F σ H → Sub F0 F → J.yld i H x H' → ds[i]? = some d → ∃ F', Rel M Z ρ α F' σ H' ∧ Stp M σ ρ α F H ρ α F' H' ∧ DV K F' x d
abbrev WI {K : PySem.W.Frag} (M : Amb K) := Env M → (List D → Env M → Prop) → Prop
def tWI (M : Amb K) (w : WI M) : TI := fun σ H R' => ∃ (Z : Base M) (ρ : List (Option B)) (α : M.S) (F : Hp) (Q : List D → Env M → Prop), Rel M Z ρ α F σ H ∧ w (ρ, α) Q ∧
  ∀ J ds ρ' α' F' H', Rel M Z ρ' α' F' σ H' → Stp M σ ρ α F H ρ' α' F' H' → ItOk M J ds F' → Q ds (ρ', α') → R' J H'
theorem itOk_list {a : Addr} {vs : List V} {ds : List D} (h : F0 a = some (.lst vs)) (dv : DVs K F0 vs ds) : ItOk M (Itl K a) ds F0 := by
  intro H s
  have e := SqL.of (K := K) (s _ _ h)
  refine ⟨fun i hi => ?_, ⟨vs, e, Nat.le_of_eq dv.length⟩, fun i x d H' Z ρ α F σ R0 sf y hd => ?_⟩
  · have hi' : i < vs.length := by rw [dv.length]; exact hi
    exact ⟨vs, vs[i], e, by simp [hi']⟩
  · obtain ⟨rfl, y⟩ := y
    obtain ⟨v, hv, dv⟩ := dv.get hd
    have := y vs e
    rw [hv] at this
    cases this
    exact ⟨F, R0, .refl, dv.mono sf⟩
theorem itOk_tup {a : Addr} {vs : List V} {ds : List D} (h : SqT K F0 a vs) (dv : DVs K F0 vs ds) : ItOk M (Itt K a) ds F0 := by
  intro H s
  have e := s.t h
  refine ⟨fun i hi => ?_, ⟨vs, e, Nat.le_of_eq dv.length⟩, fun i x d H' Z ρ α F σ R0 sf y hd => ?_⟩
  · have hi' : i < vs.length := by rw [dv.length]; exact hi
    exact ⟨vs, vs[i], e, by simp [hi']⟩
  · obtain ⟨rfl, y⟩ := y
    obtain ⟨v, hv, dv⟩ := dv.get hd
    have := y vs e
    rw [hv] at this
    cases this
    exact ⟨F, R0, .refl, dv.mono sf⟩
def rngD (lo : Int) (n : Nat) : List D := (List.range n).map fun i : Nat => D.int (lo + (i : Int))
theorem itOk_rng {lo : Int} {n : Nat} : ItOk M (Itr lo n) (rngD lo n) F0 := by
  intro H s
  refine ⟨fun i hi => (show i < n by simpa [rngD] using hi), (show n ≤ (rngD lo n).length by simp [rngD]), fun i x d H' Z ρ α F σ R0 sf y hd => ?_⟩
  obtain ⟨rfl, rfl⟩ := y
  refine ⟨F, R0, .refl, ?_⟩
  unfold rngD at hd
  rw [List.getElem?_map] at hd
  cases e : (List.range n)[i]? with
  | none => rw [e] at hd; cases hd
  | some j =>
    rw [e] at hd
    cases hd
    have : i = j := by
      rw [List.getElem?_range] at e
      · exact Option.some.inj e
      · by_cases h : i < n
        · exact h
        · rw [List.getElem?_eq_none (by simpa using h)] at e; cases e
    subst this
    exact .int _
def enumD (ds : List D) : List D := ds.zipIdx.map fun p => .tup [.int (p.2 : Nat), p.1]
theorem tup2 {F : Hp} {p : Addr} {x y : V} {dx dy : D} (h : F p = some (.tup [x, y])) (a : DV K F x dx) (b : DV K F y dy) : DV K F (.ref p) (.tup [dx, dy]) := .tup h (.cons a (.cons b .nil))
theorem itOk_enum {a : Addr} {vs : List V} {ds : List D} (h : F0 a = some (.lst vs)) (dv : DVs K F0 vs ds) : ItOk M (Ite K a) (enumD ds) F0 := by
  intro H s
  have e := SqL.of (K := K) (s _ _ h)
  refine ⟨fun i hi => ?_, ⟨vs, e, by rw [dv.length]; simp [enumD]⟩, fun i x d H' Z ρ α F σ R0 sf y hd => ?_⟩
  · have hi' : i < vs.length := by rw [dv.length]; simpa [enumD] using hi
    exact ⟨vs, vs[i], e, by simp [hi']⟩
  · obtain ⟨T, z, rfl, hT, rfl, y⟩ := y
    have hv := y vs e
    obtain ⟨dz, hdz, dvz⟩ := dv.getV hv
    obtain ⟨r1, s1⟩ := R0.tuple (o := .tup [.int (i : Nat), z]) hT
    refine ⟨_, r1, s1, ?_⟩
    unfold enumD at hd
    rw [List.getElem?_map, List.getElem?_zipIdx] at hd
    rw [hdz] at hd
    cases hd
    simp only [Nat.zero_add]
    exact tup2 upd_same (.int _) ((dvz.mono sf).mono s1.sF)
def zipD (xs ys : List D) : List D := List.zipWith (fun x y => .tup [x, y]) xs ys
theorem itOk_zipL {a b : Addr} {vs us : List V} {ds es : List D} (h : F0 a = some (.lst vs)) (dv : DVs K F0 vs ds) (h' : F0 b = some (.lst us)) (du : DVs K F0 us es) : ItOk M (Itz K a b) (zipD ds es) F0 := by
  intro H s
  have e := SqL.of (K := K) (s _ _ h)
  have e' := SqL.of (K := K) (s _ _ h')
  have l1 := dv.length
  have l2 := du.length
  refine ⟨fun i hi => ?_, ⟨vs, us, e, e', by simp [zipD]; omega⟩, fun i x d H' Z ρ α F σ R0 sf y hd => ?_⟩
  · simp [zipD] at hi
    exact ⟨vs, us, vs[i], us[i], e, e', by simp, by simp⟩
  · obtain ⟨T, z, z', rfl, hT, rfl, y, y'⟩ := y
    obtain ⟨dz, hdz, dvz⟩ := dv.getV (y vs e)
    obtain ⟨dz', hdz', dvz'⟩ := du.getV (y' us e')
    obtain ⟨r1, s1⟩ := R0.tuple (o := .tup [z, z']) hT
    refine ⟨_, r1, s1, ?_⟩
    unfold zipD at hd
    rw [List.getElem?_zipWith, hdz, hdz'] at hd
    cases hd
    exact tup2 upd_same ((dvz.mono sf).mono s1.sF) ((dvz'.mono sf).mono s1.sF)
theorem itOk_zipT {a b : Addr} {vs us : List V} {ds es : List D} (h : SqT K F0 a vs) (dv : DVs K F0 vs ds) (h' : SqT K F0 b us) (du : DVs K F0 us es) : ItOk M (RZ.ItzT K a b) (zipD ds es) F0 := by
  intro H s
  have e := s.t h
  have e' := s.t h'
  have l1 := dv.length
  have l2 := du.length
  refine ⟨fun i hi => ?_, ⟨vs, us, e, e', by simp [zipD]; omega⟩, fun i x d H' Z ρ α F σ R0 sf y hd => ?_⟩
  · simp [zipD] at hi
    exact ⟨vs, us, vs[i], us[i], e, e', by simp, by simp⟩
  · obtain ⟨T, z, z', rfl, hT, rfl, y, y'⟩ := y
    obtain ⟨dz, hdz, dvz⟩ := dv.getV (y vs e)
    obtain ⟨dz', hdz', dvz'⟩ := du.getV (y' us e')
    obtain ⟨r1, s1⟩ := R0.tuple (o := .tup [z, z']) hT
    refine ⟨_, r1, s1, ?_⟩
    unfold zipD at hd
    rw [List.getElem?_zipWith, hdz, hdz'] at hd
    cases hd
    exact tup2 upd_same ((dvz.mono sf).mono s1.sF) ((dvz'.mono sf).mono s1.sF)
theorem DV.sq {d : D} {ds : List D} {v : V} (h : DV K F v d) (e : d.items = some ds) : ∃ a vs, v = .ref a ∧ DVs K F vs ds ∧ ((∃ xs, d = .lst xs ∧ F a = some (.lst vs)) ∨ (∃ xs, d = .tup xs ∧ SqT K F a vs)) := by
  cases h <;> first | (cases e; done) | skip
  · cases e
    exact ⟨_, _, rfl, by assumption, .inl ⟨_, rfl, by assumption⟩⟩
  · cases e
    exact ⟨_, _, rfl, by assumption, .inr ⟨_, rfl, SqT.of (by assumption)⟩⟩
end
structure QI (X : Cx) (M : Amb X.K) (tg iter : Expr) (w : WI M) : Prop where
  run : PI X tg iter (tWI M w)
section
variable {X : Cx} {M : Amb X.K} {tg : Expr}
theorem pi_weak {e : Expr} {t t' : TI} (h : PI X tg e t) (k : ∀ σ H Q, t' σ H Q → t σ H Q) : PI X tg e t' := ⟨fun pins s σ H Q I q => h.run pins s σ H Q I (k σ H Q q)⟩
/-- a list or a tuple, whichever comes -/
def iSeq (K : PySem.W.Frag) (tl : TE) : TI := fun σ H R => tl σ H fun x H1 => ∃ a, x = .ref a ∧ (((∃ xs, SqL K H1 a xs) ∧ R (Itl K a) H1) ∨ ((∃ xs, SqT K H1 a xs) ∧ R (Itt K a) H1))
theorem pi_seq {l : Expr} {tl : TE} (hl : PE X l tl) : PI X tg l (iSeq X.K tl) := by
  refine ⟨fun pins s σ H R I h => thn (hl.run pins s σ H _ I h) fun v s1 ⟨x, H1, I1, r1, a, e, q⟩ => ?_⟩
  subst e
  cases r1
  rcases q with ⟨⟨xs, hq⟩, q⟩ | ⟨⟨xs, hq⟩, q⟩
  · obtain ⟨its, _, p, _⟩ := I1.list hq
    exact PySem.wpAny_pyIter_list p.isList (pi_one (tk := s1.toks) I1 _ (turn_list a _) ⟨_, Heap.get?_push_size _ rfl, rfl, rfl⟩ q)
  · obtain ⟨its, _, p, _⟩ := I1.tuple hq
    exact PySem.wpAny_pyIter_tuple (show s1.heap.IsTuple a its.toArray from p) (pi_one (tk := s1.toks) I1 _ (turn_tuple a _) ⟨_, Heap.get?_push_size _ rfl, rfl, rfl⟩ q)
def wSeqI {K : PySem.W.Frag} {M : Amb K} (w : WE M) : WI M := fun E Q => w E fun r E1 => fz r E1 fun d E2 => ∃ ds, d.items = some ds ∧ Q ds E2
theorem qi_seq {e : Expr} {w : WE M} (h : QE X M e w) : QI X M tg e (wSeqI w) := by
  refine ⟨pi_weak (pi_seq h.run) fun σ H R' ⟨Z, ρ, α, F, Q, R0, w, k⟩ => ?_⟩
  refine ⟨Z, ρ, α, F, _, R0, w, fun v r ρ1 α1 F1 H1 R1 s1 rv q => ?_⟩
  obtain ⟨d, ρ2, F2, R2, s2, dv, ds, e, q⟩ := fz_ok R0 s1 R1 rv q
  obtain ⟨a, vs, rfl, dvs, hx⟩ := dv.sq e
  refine ⟨a, rfl, ?_⟩
  rcases hx with ⟨_, _, hx⟩ | ⟨_, _, hx⟩
  · exact .inl ⟨⟨vs, SqL.of (R2.sub _ _ hx)⟩, k _ ds ρ2 α1 F2 H1 R2 s2 (itOk_list hx dvs) q⟩
  · exact .inr ⟨⟨vs, R2.sub.t hx⟩, k _ ds ρ2 α1 F2 H1 R2 s2 (itOk_tup hx dvs) q⟩
/-- range(n), range(a, b) -/
def wRng1 {K : PySem.W.Frag} {M : Amb K} (w : WE M) : WI M := fun E Q => w E fun r E1 => asI r.c fun n => -(2 ^ 62) ≤ n ∧ n < 2 ^ 62 ∧ Q (rngD 0 n.toNat) E1
def wRng2 {K : PySem.W.Frag} {M : Amb K} (w w' : WE M) : WI M := fun E Q => w E fun r E1 => w' E1 fun r' E2 => asI r.c fun a => asI r'.c fun b => -(2 ^ 62) ≤ a ∧ a < 2 ^ 62 ∧ -(2 ^ 62) ≤ b ∧ b < 2 ^ 62 ∧ Q (rngD a (b - a).toNat) E2
theorem asI_ok {d : D} {Q : Int → Prop} (h : asI d Q) : ∃ i, d = .int i ∧ Q i := by
  cases d <;> first | exact h.elim | exact ⟨_, rfl, h⟩
theorem qi_rng1 {a : Expr} {p pos : Pos} {w : WE M} (hm : X.mg "range" = none) (ha : QE X M a w) (hg : Gl X "range" := by rfl) (hs : starEach [a] X.env = [(false, eval a X.env)] := by rfl) (hs' : starEach (a :: []) X.env = (false, eval a X.env) :: starEach [] X.env := by rfl) :
    QI X M tg (.Call (.Name "range" p) [a] [] pos) (wRng1 w) := by
  refine ⟨pi_weak (pi_range1 hg hm (pa_cons ha.run pa_nil hs') hs) fun σ H R' ⟨Z, ρ, α, F, Q, R0, w, k⟩ => ?_⟩
  refine ⟨Z, ρ, α, F, _, R0, w, fun v r ρ1 α1 F1 H1 R1 s1 rv q => ?_⟩
  obtain ⟨n, e, h1, h2, q⟩ := asI_ok q
  have c := rv.cv R1
  rw [e] at c
  exact ⟨n, by rw [c.int], h1, h2, k _ _ ρ1 α1 F1 H1 R1 s1 itOk_rng q⟩
theorem qi_rng2 {a b : Expr} {p pos : Pos} {w w' : WE M} (hm : X.mg "range" = none) (ha : QE X M a w) (hb : QE X M b w') (hg : Gl X "range" := by rfl) (hs : starEach [a, b] X.env = [(false, eval a X.env), (false, eval b X.env)] := by rfl) (hs2 : starEach [b] X.env = [(false, eval b X.env)] := by rfl)
    (hs' : starEach (a :: [b]) X.env = (false, eval a X.env) :: starEach [b] X.env := by rfl) (hs'' : starEach (b :: []) X.env = (false, eval b X.env) :: starEach [] X.env := by rfl) :
    QI X M tg (.Call (.Name "range" p) [a, b] [] pos) (wRng2 w w') := by
  refine ⟨pi_weak (pi_range2 hg hm (pa_cons ha.run (pa_cons hb.run pa_nil hs'') hs') hs hs2) fun σ H R' ⟨Z, ρ, α, F, Q, R0, w, k⟩ => ?_⟩
  refine two R0 w fun x y ra rb ρ2 α2 F2 H2 R2 s2 c1 c2 q => ?_
  obtain ⟨a, e1, q⟩ := asI_ok q
  obtain ⟨b, e2, h1, h2, h3, h4, q⟩ := asI_ok q
  rw [e1] at c1
  rw [e2] at c2
  exact ⟨a, b, by rw [c1.int, c2.int], ⟨h1, h2, h3, h4⟩, k _ _ ρ2 α2 F2 H2 R2 s2 itOk_rng q⟩
/-- enumerate(list), zip of two lists or of two tuples -/
def gEnum : List D → (List D → Prop) → Prop
  | [.lst xs], Q => Q (enumD xs)
  | [.tup xs], Q => Q (enumD xs)
  | _, _ => False
def gZip : List D → (List D → Prop) → Prop
  | [.lst xs, .lst ys], Q => Q (zipD xs ys)
  | [.tup xs, .tup ys], Q => Q (zipD xs ys)
  | _, _ => False
def wIt {K : PySem.W.Frag} {M : Amb K} (g : List D → (List D → Prop) → Prop) (wa : WA M) : WI M := fun E Q => wa E fun ds E1 => g ds fun is => Q is E1
theorem DVs.one {K : PySem.W.Frag} {F : Hp} {vs : List V} {d : D} (h : DVs K F vs [d]) : ∃ v, vs = [v] ∧ DV K F v d := by
  cases h with
  | cons a t => cases t; exact ⟨_, rfl, a⟩
theorem DVs.two {K : PySem.W.Frag} {F : Hp} {vs : List V} {d e : D} (h : DVs K F vs [d, e]) : ∃ v u, vs = [v, u] ∧ DV K F v d ∧ DV K F u e := by
  cases h with
  | cons a t =>
    obtain ⟨u, rfl, b⟩ := t.one
    exact ⟨_, u, rfl, a, b⟩
theorem qi_zip {e e2 : Expr} {p pos tpos : Pos} {elts : List Expr} {kk : Nat} {wa : WA M} (hm : X.mg "zip" = none) (ha : QA X M [e, e2] wa) (hg : Gl X "zip" := by rfl)
    (hs : starEach [e, e2] X.env = (false, eval e X.env) :: starEach [e2] X.env := by rfl) (hpl : (backTo pos (starEach [e2] X.env)).any (·.1) = false := by rfl) :
    QI X M (.Tuple elts kk tpos) (.Call (.Name "zip" p) [e, e2] [] pos) (wIt gZip wa) := by
  refine ⟨pi_weak (RZ.pi_zipA hg hm ha.run hs hpl) fun σ H R' ⟨Z, ρ, α, F, Q, R0, w, k⟩ => ?_⟩
  refine ⟨Z, ρ, α, F, _, R0, w, fun vs ds ρ1 α1 F1 H1 R1 s1 cs q => ?_⟩
  rcases ds with _ | ⟨d, _ | ⟨d2, _ | ⟨d3, ds⟩⟩⟩
  · exact q.elim
  · cases d <;> exact q.elim
  · obtain ⟨v, u, rfl, dv, du⟩ := cs.two
    cases d <;> cases d2 <;> first | exact q.elim | skip
    · cases dv with
      | lst h t => cases du with
        | lst h' t' => exact ⟨_, _, _, _, rfl, .inl ⟨SqL.of (R1.sub _ _ h), SqL.of (R1.sub _ _ h'), k _ _ ρ1 α1 F1 H1 R1 s1 (itOk_zipL h t h' t') q⟩⟩
    · cases dv with
      | tup h t => cases du with
        | tup h' t' => exact ⟨_, _, _, _, rfl, .inr ⟨R1.sub.t (SqT.of h), R1.sub.t (SqT.of h'), k _ _ ρ1 α1 F1 H1 R1 s1 (itOk_zipT (SqT.of h) t (SqT.of h') t') q⟩⟩
  · cases d <;> cases d2 <;> exact q.elim

/-! ### targets -/
abbrev WG {K : PySem.W.Frag} (M : Amb K) := D → Env M → (Env M → Prop) → Prop
/-- the target's reading: data come in, only slots change (those of vs) -/
def tWG {K : PySem.W.Frag} (M : Amb K) (vs : List Nat) (w : WG M) : TG := fun v σ H Q' => ∃ (Z : Base M) (ρ : List (Option B)) (α : M.S) (F : Hp) (d : D) (Q : Env M → Prop), Rel M Z ρ α F σ H ∧ DV K F v d ∧ w d (ρ, α) Q ∧
  ∀ ρ' σ', Rel M Z ρ' α F σ' H → wipe σ' vs = wipe σ vs → (∀ a, Owned ρ' σ' a → Owned ρ σ a) → Q (ρ', α) → Q' σ' H
structure QG (X : Cx) (M : Amb X.K) (tg : Expr) (vs : List Nat) (w : WG M) : Prop where
  run : PG X tg (tWG M vs w)
theorem pg_weak {e : Expr} {t t' : TG} (h : PG X e t) (k : ∀ v σ H Q, t' v σ H Q → t v σ H Q) : PG X e t' := ⟨fun pins s σ H v u Q I r q => h.run pins s σ H v u Q I r (k v σ H Q q)⟩
theorem pgs_weak {e : List Expr} {t t' : TGs} (h : PGs X e t) (k : ∀ v σ H Q, t' v σ H Q → t v σ H Q) : PGs X e t' := ⟨fun pins s σ H v u Q I r q => h.run pins s σ H v u Q I r (k v σ H Q q)⟩
theorem owned_putD {ρ : List (Option B)} {σ : L2.St} {i : Nat} {x : Option V} {d : D} {a : Addr} (h : Owned (ρ.set i (some (.d d))) (σ.set i x) a) : Owned ρ σ a := by
  obtain ⟨j, b, h1, h2, h3⟩ := h
  rcases set_get h1 with ⟨_, q⟩ | ⟨n, q⟩
  · cases q
    cases h2
  · rw [List.getElem?_set_ne (Ne.symm n)] at h3
    exact ⟨j, b, q, h2, h3⟩
def gN {K : PySem.W.Frag} {M : Amb K} (i : Nat) : WG M := fun d E Q => Q (E.1.set i (some (.d d)), E.2)
theorem wipe_set {σ : L2.St} {i : Nat} {x : Option V} : ∀ {vs : List Nat}, i ∈ vs → wipe (σ.set i x) vs = wipe σ vs
  | [], h => by cases h
  | j :: vs, h => by
    unfold wipe
    by_cases e : i ∈ vs
    · rw [wipe_set e]
    · rcases List.mem_cons.mp h with rfl | h
      · have : ∀ (vs : List Nat), i ∉ vs → wipe (σ.set i x) vs = (wipe σ vs).set i x := by
          intro vs
          induction vs with
          | nil => intro _; rfl
          | cons k ks ih =>
            intro hk
            have h1 : i ≠ k := fun z => hk (z ▸ List.mem_cons_self)
            have h2 : i ∉ ks := fun z => hk (List.mem_cons_of_mem _ z)
            unfold wipe
            rw [ih h2, List.set_comm _ _ h1]
        rw [this vs e, List.set_set]
      · exact absurd h e
theorem qg_name {i : Nat} {x : Str} {pos : Pos} (hN : X.N.Nodup) (hi : X.N[i]? = some x := by rfl) (hx : Loc X.env.scope x := by first | exact .inl rfl | exact .inr rfl) (hf : X.fn x = true ∨ X.env.scope.names.lookup x = some .local := by first | exact .inl rfl | exact .inr rfl) :
    QG X M (.Name x pos) [i] (gN i) := by
  refine ⟨pg_weak (pg_name hN hi hx hf) fun v σ H Q' ⟨Z, ρ, α, F, d, Q, R0, dv, q, k⟩ => ?_⟩
  exact k _ _ (R0.putD i dv) (wipe_set (by simp)) (fun a h => owned_putD h) q
def gNils {K : PySem.W.Frag} {M : Amb K} : List D → Env M → (Env M → Prop) → Prop := fun ds E Q => ds = [] ∧ Q E
def gConss {K : PySem.W.Frag} {M : Amb K} (g : WG M) (gs : List D → Env M → (Env M → Prop) → Prop) : List D → Env M → (Env M → Prop) → Prop := fun ds E Q => match ds with
  | d :: r => g d E fun E' => gs r E' Q
  | [] => False
def tWGs {K : PySem.W.Frag} (M : Amb K) (vs : List Nat) (w : List D → Env M → (Env M → Prop) → Prop) : TGs := fun us σ H Q' => ∃ (Z : Base M) (ρ : List (Option B)) (α : M.S) (F : Hp) (ds : List D) (Q : Env M → Prop), Rel M Z ρ α F σ H ∧ DVs K F us ds ∧ w ds (ρ, α) Q ∧
  ∀ ρ' σ', Rel M Z ρ' α F σ' H → wipe σ' vs = wipe σ vs → (∀ a, Owned ρ' σ' a → Owned ρ σ a) → Q (ρ', α) → Q' σ' H
structure QGs (X : Cx) (M : Amb X.K) (ts : List Expr) (vs : List Nat) (w : List D → Env M → (Env M → Prop) → Prop) : Prop where
  run : PGs X ts (tWGs M vs w)
theorem wipe_comm1 {σ : L2.St} {v : Nat} : ∀ {us : List Nat}, wipe (σ.set v none) us = (wipe σ us).set v none
  | [] => rfl
  | u :: us => by
    show (wipe (σ.set v none) us).set u none = ((wipe σ us).set u none).set v none
    rw [wipe_comm1]
    by_cases e : u = v
    · subst e; rfl
    · rw [List.set_comm _ _ e]
theorem wipe_idem {σ : L2.St} : ∀ {vs : List Nat}, wipe (wipe σ vs) vs = wipe σ vs
  | [] => rfl
  | v :: vs => by
    show (wipe ((wipe σ vs).set v none) vs).set v none = (wipe σ vs).set v none
    rw [wipe_comm1, wipe_idem, List.set_set]
theorem wipe_app {σ : L2.St} : ∀ {vs us : List Nat}, wipe σ (vs ++ us) = wipe (wipe σ us) vs
  | [], us => rfl
  | v :: vs, us => by
    show (wipe σ (vs ++ us)).set v none = (wipe (wipe σ us) vs).set v none
    rw [wipe_app]
theorem wipe_comm {σ : L2.St} : ∀ {vs us : List Nat}, wipe (wipe σ us) vs = wipe (wipe σ vs) us
  | [], us => rfl
  | v :: vs, us => by
    show (wipe (wipe σ us) vs).set v none = wipe ((wipe σ vs).set v none) us
    rw [wipe_comm, wipe_comm1]
theorem qgs_nil : QGs X M [] [] gNils := ⟨pgs_weak pgs_nil fun us σ H Q' ⟨Z, ρ, α, F, ds, Q, R0, dv, q, k⟩ => by
  obtain ⟨e, q⟩ := q
  subst e
  cases dv
  exact ⟨rfl, k _ _ R0 rfl (fun _ h => h) q⟩⟩
theorem qgs_cons {e : Expr} {es : List Expr} {vs us : List Nat} {g : WG M} {gs : List D → Env M → (Env M → Prop) → Prop} (h1 : QG X M e vs g) (h2 : QGs X M es us gs) (hs : (assignEach (e :: es) X.env).map (·.2) = assign e X.env :: (assignEach es X.env).map (·.2) := by rfl) : QGs X M (e :: es) (vs ++ us) (gConss g gs) := by
  refine ⟨pgs_weak (pgs_cons h1.run h2.run hs) fun ws σ H Q' ⟨Z, ρ, α, F, ds, Q, R0, dv, q, k⟩ => ?_⟩
  cases dv with
  | nil => exact q.elim
  | cons a b =>
    refine ⟨_, _, rfl, Z, ρ, α, F, _, _, R0, a, q, fun ρ1 σ1 R1 w1 o1 q1 => ?_⟩
    refine ⟨Z, ρ1, α, F, _, _, R1, b, q1, fun ρ2 σ2 R2 w2 o2 q2 => k ρ2 σ2 R2 ?_ (fun a h => o1 a (o2 a h)) q2⟩
    rw [wipe_app, w2, ← wipe_app, wipe_app, wipe_comm, w1, wipe_comm, ← wipe_app]
def gTup {K : PySem.W.Frag} {M : Amb K} (n : Nat) (gs : List D → Env M → (Env M → Prop) → Prop) : WG M := fun d E Q => match d with
  | .tup ds => ds.length = n ∧ gs ds E Q
  | _ => False
theorem qg_tup {es : List Expr} {k n : Nat} {pos : Pos} {vs : List Nat} {gs : List D → Env M → (Env M → Prop) → Prop} (h : QGs X M es vs gs) (hc : X.calm = true := by rfl) (hn : (assignEach es X.env).length = n := by rfl) (hst : (assignEach es X.env).findIdx? (·.1) = none := by rfl) :
    QG X M (.Tuple es k pos) vs (DL.gTup n gs) := by
  refine ⟨pg_weak (pg_tup hc h.run hn hst) fun v σ H Q' ⟨Z, ρ, α, F, d, Q, R0, dv, q, k⟩ => ?_⟩
  cases dv with
  | tup hs' dvs => exact ⟨_, _, rfl, R0.sub.t (SqT.of hs'), by rw [dvs.length]; exact q.1, Z, ρ, α, F, _, _, R0, dvs, q.2, k⟩
  | _ => exact q.elim

/-! ### loops -/
def wFor {K : PySem.W.Frag} {M : Amb K} (wi : WI M) (g : WG M) (wb : WS M) : WS M := fun D E => wi E fun ds E1 => ∃ Inv : Nat → Env M → Prop, Inv 0 E1 ∧ (∀ i d E, ds[i]? = some d → Inv i E → g d E fun E' => wb { D with nx := Inv (i + 1), ct := Inv (i + 1), bk := D.nx } E') ∧ ∀ E, Inv ds.length E → D.nx E
theorem qs_for {iter : Expr} {body : List Stmt} {wi : WI M} {g : WG M} {vs : List Nat} {wb : WS M} {pos : Pos} (hp : PassesOwn (model X.prog X.w) X.A X.env X.xe) (hi : QI X M tg iter wi) (hg : QG X M tg vs g) (hb : QSs X M body wb) (hc : X.calm = true := by rfl)
    (hs : ∀ x, foldedSetIterable iter X.env x = pure x := by intro _; rfl) : QS X M (.For tg iter body [] pos) (wFor wi g wb) := by
  refine ⟨ps_weak (ps_for hp hc hi.run hg.run hb.run hs) fun D' σ H ⟨Z, ρ, α, F, D, R0, w, k1, k2, k3, k4⟩ => ?_⟩
  refine ⟨Z, ρ, α, F, _, R0, w, fun J ds ρ1 α1 F1 H1 R1 s1 ok q => ?_⟩
  obtain ⟨Inv, h0, hs, hd⟩ := q
  refine ⟨fun i m σ H => m = ds.length - i ∧ i ≤ ds.length ∧ ∃ ρ α F, Rel M (Z.at F1) ρ α F σ H ∧ Inv i (ρ, α), ⟨ds.length, rfl, Nat.zero_le _, ρ1, α1, F1, R1.rebase, h0⟩, ?_⟩
  rintro i m σ2 H2 ⟨rfl, hi, ρ2, α2, F2, R2, inv⟩
  have sH : Sub F1 H2 := fun b o e => R2.sub b o (R2.bF b o e)
  obtain ⟨go, stop, yld⟩ := ok H2 sH
  by_cases hlt : i < ds.length
  · refine .inr ⟨go i hlt, fun σ' H' => ∃ ρ α F, Rel M (Z.at F1) ρ α F σ' H' ∧ Inv (i + 1) (ρ, α), fun σ' H' n => ⟨ds.length - (i + 1), by omega, rfl, hlt, n⟩, fun x H' y => ?_⟩
    have hd' : ds[i]? = some ds[i] := by simp [hlt]
    obtain ⟨F3, R3, s3, dv⟩ := yld i x ds[i] H' _ ρ2 α2 F2 σ2 R2 R2.bF y hd'
    refine ⟨_, ρ2, α2, F3, _, _, R3, dv, hs i ds[i] (ρ2, α2) hd' inv, fun ρ4 σ4 R4 _ _ q4 => ?_⟩
    refine ⟨_, ρ4, α2, F3, _, R4, q4, fun ρ' α' F' σ' H' R' q => ⟨ρ', α', F', R', q⟩, fun ρ' α' F' σ' H' R' q => k1 ρ' α' F' σ' H' (R1.unbase R') q, fun ρ' α' F' σ' H' R' q => ⟨ρ', α', F', R', q⟩,
      fun v r ρ' α' F' σ' H' R' rv q => k4 v r ρ' α' F' σ' H' (R1.unbase R') rv q⟩
  · have e : i = ds.length := by omega
    subst e
    exact .inl ⟨stop, k1 ρ2 α2 F2 σ2 H2 (R1.unbase R2) (hd _ inv)⟩
def wWhile {K : PySem.W.Frag} {M : Amb K} (t : WT M) (wb : WS M) : WS M := fun D E => ∃ Inv : Nat → Env M → Prop, (∃ m, Inv m E) ∧ ∀ m E, Inv m E → t E fun b E1 => if b = true then wb { D with nx := fun E' => ∃ m', m' < m ∧ Inv m' E', ct := fun E' => ∃ m', m' < m ∧ Inv m' E', bk := D.nx } E1 else D.nx E1
theorem qs_while {c : Expr} {body : List Stmt} {t : WT M} {wb : WS M} {pos : Pos} (hp : PassesOwn (model X.prog X.w) X.A X.env X.xe) (hc : QT X M c t) (hb : QSs X M body wb) : QS X M (.While c body [] pos) (wWhile t wb) := by
  refine ⟨ps_weak (ps_while hp hc.run hb.run) fun D' σ H ⟨Z, ρ, α, F, D, R0, w, k1, k2, k3, k4⟩ => ?_⟩
  obtain ⟨Inv, ⟨m0, h0⟩, turn⟩ := w
  refine ⟨fun m σ H => ∃ ρ α F, Rel M Z ρ α F σ H ∧ Inv m (ρ, α), ⟨m0, ρ, α, F, R0, h0⟩, ?_⟩
  rintro m σ1 H1 ⟨ρ1, α1, F1, R1, inv⟩
  refine ⟨Z, ρ1, α1, F1, _, R1, turn m _ inv, fun b ρ2 α2 F2 H2 R2 s2 q => ?_⟩
  cases b with
  | true =>
    rw [if_pos rfl] at q ⊢
    refine ⟨fun σ' H' => ∃ m', m' < m ∧ ∃ ρ α F, Rel M Z ρ α F σ' H' ∧ Inv m' (ρ, α), fun σ' H' ⟨m', hm, n⟩ => ⟨m', hm, n⟩, ?_⟩
    exact ⟨Z, ρ2, α2, F2, _, R2, q, fun ρ' α' F' σ' H' R' ⟨m', hm, q⟩ => ⟨m', hm, ρ', α', F', R', q⟩, fun ρ' α' F' σ' H' R' q => k1 ρ' α' F' σ' H' R' q, fun ρ' α' F' σ' H' R' ⟨m', hm, q⟩ => ⟨m', hm, ρ', α', F', R', q⟩, k4⟩
  | false =>
    rw [if_neg Bool.false_ne_true] at q ⊢
    exact k1 ρ2 α2 F2 σ1 H2 R2 q

/-! ### comprehensions -/
def wipeB (ρ : List (Option B)) : List Nat → List (Option B)
  | [] => ρ
  | v :: vs => (wipeB ρ vs).set v none
end
section
variable {K : PySem.W.Frag} {M : Amb K} {Z : Base M} {ρ ρ' ρ2 : List (Option B)} {α α' α2 : M.S} {F F0 F' F2 H H0 H' H2 : Hp} {σ : L2.St} {r : R} {v : V} {d : D}
theorem Rel.wiped (r : Rel M Z ρ α F σ H) : ∀ vs : List Nat, Rel M Z (wipeB ρ vs) α F (wipe σ vs) H
  | [] => r
  | v :: vs => (Rel.wiped r vs).clear v none
theorem wipeB_get : ∀ {vs : List Nat} {j : Nat} {b : B}, (wipeB ρ vs)[j]? = some (some b) → ρ[j]? = some (some b) ∧ j ∉ vs
  | [], j, b, h => ⟨h, by simp⟩
  | v :: vs, j, b, h => by
    rcases set_get h with ⟨_, q⟩ | ⟨n, q⟩
    · cases q
    · obtain ⟨h1, h2⟩ := wipeB_get q
      exact ⟨h1, by simp only [List.mem_cons, not_or]; exact ⟨n, h2⟩⟩
theorem wipeB_not : ∀ {vs : List Nat} {j : Nat}, j ∉ vs → (wipeB ρ vs)[j]? = ρ[j]?
  | [], j, h => rfl
  | v :: vs, j, h => by
    have n : v ≠ j := fun z => h (List.mem_cons.mpr (.inl z.symm))
    show ((wipeB ρ vs).set v none)[j]? = _
    rw [List.getElem?_set_ne n]
    exact wipeB_not fun z => h (List.mem_cons_of_mem _ z)
theorem wipe_not : ∀ {vs : List Nat} {j : Nat}, j ∉ vs → (wipe σ vs)[j]? = σ[j]?
  | [], j, h => rfl
  | v :: vs, j, h => by
    have n : v ≠ j := fun z => h (List.mem_cons.mpr (.inl z.symm))
    show ((wipe σ vs).set v none)[j]? = _
    rw [List.getElem?_set_ne n]
    exact wipe_not fun z => h (List.mem_cons_of_mem _ z)
theorem owned_wipe {vs : List Nat} {a : Addr} (h : Owned (wipeB ρ vs) (wipe σ vs) a) : ∃ (j : Nat) (b : B), j ∉ vs ∧ ρ[j]? = some (some b) ∧ b.own = true ∧ σ[j]? = some (some (V.ref a)) := by
  obtain ⟨j, b, h1, h2, h3⟩ := h
  obtain ⟨q1, q2⟩ := wipeB_get h1
  exact ⟨j, b, q2, q1, h2, by rw [wipe_not q2] at h3; exact h3⟩
/-- an object of nobody's is changed -/
theorem Rel.mutNew {a : Addr} {o : HO} (r : Rel M Z ρ α F σ H) (h : H a ≠ none) (fn : F a = none) (nf : ¬ M.fp α a) (no : ¬ Owned ρ σ a) (zn : Z.H a = none) : Rel M Z ρ α F σ (upd H a o) := by
  refine ⟨r.sub.upd fn, r.len, r.val, fun i b e ow => ?_, r.dis, M.stay _ _ _ _ _ r.amb (Sub.refl _) fun b u hb e => ?_, r.ambF, r.bF, fun b u e n => ?_, r.bN, fun b hb => ?_, r.bZ⟩
  · obtain ⟨x, u, h1, h2, h3⟩ := r.own i b e ow
    have q : x ≠ a := fun q => no ⟨i, b, e, ow, q ▸ h1⟩
    exact ⟨x, u, h1, by rw [upd_ne q]; exact h2, h3⟩
  · have n : b ≠ a := fun q => nf (q ▸ hb)
    rw [upd_ne n]
    exact e
  · rw [upd_ne (ne_of_none e zn)]
    exact r.bH b u e n
  · by_cases q : b = a
    · rw [q, upd_same]; simp
    · rw [upd_ne q]; exact r.bT b hb
theorem Stp.mutNew {a : Addr} {o : HO} (s : Stp M σ ρ α F H ρ' α' F' H') (n : H a = none) : Stp M σ ρ α F H ρ' α' F' (upd H' a o) :=
  ⟨s.sF, fun b u e nf => by rw [upd_ne (ne_of_none e n)]; exact s.sH b u e nf, fun b h => by
    by_cases q : b = a
    · rw [q, upd_same]; simp
    · rw [upd_ne q]; exact s.sT b h, s.sN, s.sZ, s.sO⟩
/-- behind a block: the outer slots again -/
theorem Rel.unwipe {vs : List Nat} (r0 : Rel M Z ρ α F σ H) (s : Stp M (wipe σ vs) (wipeB ρ vs) α F H (wipeB ρ vs) α' F' H') (r1 : Rel M Z (wipeB ρ vs) α' F' (wipe σ vs) H') : Rel M Z ρ α' F' σ H' ∧ Stp M σ ρ α F H ρ α' F' H' := by
  refine ⟨⟨r1.sub, r0.len, fun i d e => ?_, fun i b e ow => ?_, r0.dis, r1.amb, r1.ambF, r1.bF, r1.bH, r1.bN, r1.bT, r1.bZ⟩, ⟨s.sF, s.sH, s.sT, s.sN, fun b h => ?_, fun _ h => h⟩⟩
  · obtain ⟨v, h1, h2⟩ := r0.val i d e
    exact ⟨v, h1, h2.mono s.sF⟩
  · obtain ⟨a, o, h1, h2, h3, h4, h5, h6⟩ := r0.own i b e ow
    by_cases hi : i ∈ vs
    · refine ⟨a, o, h1, s.sH a o h2 h5, h3.mono s.sF, (none_or F' a).elim id fun q => ?_, fun q => (s.sN a q).elim h5 fun q => absurd q (ne_none h2), h6⟩
      rcases s.sZ a q with q | q | q
      · exact absurd h4 q
      · exact (q.no r1.sub h2 (s.sH a o h2 h5) h3).elim
      · obtain ⟨j, b', n, q1, q2, q3⟩ := owned_wipe q
        exact absurd (r0.dis j i b' b a q1 q2 e ow q3 h1 ▸ hi) n
    · obtain ⟨a', o', g1, g2, g3, g4, g5, g6⟩ := r1.own i b (by rw [wipeB_not hi]; exact e) ow
      rw [wipe_not hi] at g1
      exact ⟨a', o', g1, g2, g3, g4, g5, g6⟩
  · rcases s.sZ b h with q | q | q
    · exact .inl q
    · exact .inr (.inl q)
    · obtain ⟨j, b', n, q1, q2, q3⟩ := owned_wipe q
      exact .inr (.inr ⟨j, b', q1, q2, q3⟩)
end
section
variable {X : Cx} {M : Amb X.K} {tg : Expr}
/-- the tests of a comprehension -/
structure QTs (X : Cx) (M : Amb X.K) (ifs : List Expr) (w : WT M) : Prop where
  run : PTs X ifs (tWT M w)
def wYes {K : PySem.W.Frag} {M : Amb K} : WT M := fun E Q => Q true E
theorem qts_nil : QTs X M [] wYes := ⟨⟨fun pins s σ H Q I ⟨Z, ρ, α, F, Qd, R0, w, k⟩ => pts_nil.run pins s σ H Q I (k true ρ α F H R0 .refl w)⟩⟩
theorem qts_one {c : Expr} {t : WT M} (h : QT X M c t) : QTs X M [c] t := ⟨pts_one h.run⟩
def wLc {K : PySem.W.Frag} {M : Amb K} (wi : WI M) (g : WG M) (wt : WT M) (we : WE M) (vs : List Nat) : WE M := fun E Q => wi E fun ds E1 => ∃ Inv : Nat → List D → M.S → Prop, Inv 0 [] E1.2 ∧
  (∀ i d acc α, ds[i]? = some d → Inv i acc α → g d (wipeB E1.1 vs, α) fun E2 => wt E2 fun b E3 => if b = true then we E3 fun r E4 => fz r E4 fun y E5 => wipeB E5.1 vs = wipeB E1.1 vs ∧ acc.length < sizeLine ∧ Inv (i + 1) (acc ++ [y]) E5.2
    else wipeB E3.1 vs = wipeB E1.1 vs ∧ Inv (i + 1) acc E3.2) ∧ ∀ acc α, Inv ds.length acc α → Q (.nw (.l acc)) (E1.1, α)
theorem Rel.cast {M : Amb X.K} {Z : Base M} {ρ ρ' : List (Option B)} {α : M.S} {F H : Hp} {σ σ' : L2.St} (r : Rel M Z ρ α F σ H) (e : ρ = ρ') (e' : σ = σ') : Rel M Z ρ' α F σ' H := by
  subst e e'
  exact r
theorem owned_of_wipe {ρ : List (Option B)} {σ : L2.St} {vs : List Nat} {a : Addr} (h : Owned ρ σ a) (no : ∀ (j : Nat) (b : B), j ∈ vs → ρ[j]? = some (some b) → b.own = true → False) : Owned (wipeB ρ vs) (wipe σ vs) a := by
  obtain ⟨j, b, h1, h2, h3⟩ := h
  have hj : j ∉ vs := fun hj => no j b hj h1 h2
  exact ⟨j, b, by rw [wipeB_not hj]; exact h1, h2, by rw [wipe_not hj]; exact h3⟩
/-- what a comprehension's reading is, over any end -/
theorem lc_run {wi : WI M} {g : WG M} {wt : WT M} {we : WE M} {vs : List Nat}
    {Z : Base M} {ρ : List (Option B)} {α : M.S} {F H : Hp} {σ : L2.St} {Q : R → Env M → Prop} {Q' : VK} (R0 : Rel M Z ρ α F σ H) (w : wLc wi g wt we vs (ρ, α) Q)
    (k : ∀ v r ρ' α' F' H', Rel M Z ρ' α' F' σ H' → Stp M σ ρ α F H ρ' α' F' H' → RV M H ρ' α' F' σ H' r v → Q r (ρ', α') → Q' v H') : tLc (tWI M wi) (tWG M vs g) (tWT M wt) (tW M we) vs σ H Q' := by
  refine ⟨Z, ρ, α, F, _, R0, w, fun J ds ρ1 α1 F1 H1 R1 s1 ok q L hL => ?_⟩
  obtain ⟨Inv, h0, hs, hd⟩ := q
  have Rw := R1.wiped vs
  obtain ⟨Rl, sl⟩ := Rw.laid (o := .lst []) hL
  refine ⟨fun i m H => m = ds.length - i ∧ i ≤ ds.length ∧ ∃ acc us α F, Rel M (Z.at F1) (wipeB ρ1 vs) α F (wipe σ vs) H ∧ Stp M (wipe σ vs) (wipeB ρ1 vs) α1 F1 H1 (wipeB ρ1 vs) α F H ∧ H L = some (.lst us) ∧ DVs X.K F us acc ∧ F L = none ∧ ¬ M.fp α L ∧ Inv i acc α,
    ⟨ds.length, rfl, Nat.zero_le _, [], [], α1, F1, Rl.rebase, sl, upd_same, .nil, R1.fn hL, R1.fpn hL, h0⟩, ?_⟩
  rintro i m H2 ⟨rfl, hi, acc, us, α2, F2, R2, s2, hl, dv, fl, nl, inv⟩
  have sH : Sub F1 H2 := fun b o e => R2.sub b o (R2.bF b o e)
  obtain ⟨go, stop, yld⟩ := ok H2 sH
  by_cases hlt : i < ds.length
  · refine .inr ⟨go i hlt, fun H => ∃ acc us α F, Rel M (Z.at F1) (wipeB ρ1 vs) α F (wipe σ vs) H ∧ Stp M (wipe σ vs) (wipeB ρ1 vs) α1 F1 H1 (wipeB ρ1 vs) α F H ∧ H L = some (.lst us) ∧ DVs X.K F us acc ∧ F L = none ∧ ¬ M.fp α L ∧ Inv (i + 1) acc α,
      fun H' n => ⟨ds.length - (i + 1), by omega, rfl, hlt, n⟩, fun x H' y => ?_⟩
    have hd' : ds[i]? = some ds[i] := by simp [hlt]
    obtain ⟨F3, R3, s3, dx⟩ := yld i x ds[i] H' _ _ α2 F2 _ R2 R2.bF y hd'
    -- what stays of the list at L
    have stay : ∀ {σ' : L2.St} {ρ' ρ'' : List (Option B)} {α' α'' : M.S} {F' F'' H' H'' : Hp} {u : List V} {ac : List D}, Rel M (Z.at F1) ρ' α' F' σ' H' → Stp M σ' ρ' α' F' H' ρ'' α'' F'' H'' → Sub F'' H'' → ¬ Owned ρ' σ' L → H' L = some (.lst u) → DVs X.K F' u ac → F' L = none → ¬ M.fp α' L →
        H'' L = some (.lst u) ∧ DVs X.K F'' u ac ∧ F'' L = none ∧ ¬ M.fp α'' L := fun {σ' ρ' ρ'' α' α'' F' F'' H' H'' u ac} r s sb no h d f n =>
      ⟨s.sH L _ h n, d.mono s.sF, (none_or F'' L).elim id fun q => by
        rcases s.sZ L q with q | q | q
        · exact absurd f q
        · exact (q.nl sb h (s.sH L _ h n) nofun).elim
        · exact absurd q no, fun q => (s.sN L q).elim n fun q => absurd q (ne_none h)⟩
    have noW : ¬ Owned (wipeB ρ1 vs) (wipe σ vs) L := Rw.ownn hL
    obtain ⟨hl3, dv3, fl3, nl3⟩ := stay R2 s3 R3.sub noW hl dv fl nl
    refine ⟨_, _, α2, F3, _, _, R3, dx, hs i ds[i] acc α2 hd' inv, fun ρ4 σ4 R4 w4 o4 q4 => ⟨w4.trans wipe_idem, ?_⟩⟩
    have w5 : wipe σ4 vs = wipe σ vs := w4.trans wipe_idem
    have no4 : ¬ Owned ρ4 σ4 L := fun z => noW (o4 L z)
    refine ⟨_, ρ4, α2, F3, _, R4, q4, fun b ρ5 α5 F5 H5 R5 s5 q5 => ?_⟩
    have back : ∀ {ρ' : List (Option B)} {α' : M.S} {F' H'' : Hp}, Stp M σ4 ρ4 α2 F3 H' ρ' α' F' H'' → Stp M (wipe σ vs) (wipeB ρ1 vs) α1 F1 H1 (wipeB ρ1 vs) α' F' H'' := fun {ρ' α' F' H''} s =>
      s2.trans (s3.trans ⟨s.sF, s.sH, s.sT, s.sN, fun b h => (s.sZ b h).elim .inl fun h => .inr (h.elim .inl fun h => .inr (o4 b h)), fun _ h => h⟩)
    cases b with
    | false =>
      rw [if_neg Bool.false_ne_true] at q5
      refine iteF ?_
      obtain ⟨hl5, dv5, fl5, nl5⟩ := stay R4 s5 R5.sub no4 hl3 dv3 fl3 nl3
      exact ⟨acc, us, α5, F5, (R5.wiped vs).cast q5.1 w5, back s5, hl5, dv5, fl5, nl5, q5.2⟩
    | true =>
      rw [if_pos rfl] at q5
      refine iteT ?_
      refine ⟨_, ρ5, α5, F5, _, R5, q5, fun v r ρ6 α6 F6 H6 R6 s6 rv q6 => ?_⟩
      obtain ⟨y, ρ7, F7, R7, s7, dy, hw, hz, q7⟩ := fz_ok R5 s6 R6 rv q6
      have s8 := s5.trans s7
      obtain ⟨hl8, dv8, fl8, nl8⟩ := stay R4 s8 R7.sub no4 hl3 dv3 fl3 nl3
      refine ⟨us, hl8, by rw [dv8.length]; exact hz, acc ++ [y], us ++ [v], α6, F7, ?_, (back s8).mutNew hL, upd_same, dv8.append (.cons dy .nil), fl8, nl8, q7⟩
      have R9 := (R7.wiped vs).cast hw w5
      exact R9.mutNew (ne_none hl8) fl8 nl8 (fun z => noW z) (R1.zn hL)
  · have e : i = ds.length := by omega
    subst e
    obtain ⟨Ru, su⟩ := R1.unwipe s2 (R1.wiped vs |>.unbase R2)
    refine .inl ⟨stop, k _ (.nw (.l acc)) ρ1 α2 F2 H2 Ru (s1.trans su) ⟨L, _, rfl, hl, dv, fl, nl, (none_or H L).elim id fun q => absurd hL (s1.sT L q)⟩ (hd acc α2 inv)⟩
end
end DL
set_option maxHeartbeats 4000000
namespace DL
open PySem PySem.Spec L2
open PyProof.Rows hiding St

section
variable {X : Cx} {M : Amb X.K}
/-! ### comprehensions as values, given to a name -/
abbrev AllB (X : Cx) (scope : Scope) (P : Cx → Prop) : Prop := ∀ (s : Shared) (H : Hp) (C : Addr) (cl : List (Str × Addr)) (fp : List Addr), P (X.blk s H scope (compEnvC scope cl C X.env) fp)
theorem qe_lc {elt tg iter : Expr} {ifs : List Expr} {scope : Scope} {own : List (Str × Nat)} {pos : Pos} {wi : WI M} {g : WG M} {wt : WT M} {we : WE M} (hN : X.N.Nodup) (hi : QI X M tg iter wi) (ok : BlkOk X.N X.env.scope scope own)
    (hg : ∀ s H C cl fp, QG (X.blk s H scope (compEnvC scope cl C X.env) fp) M tg (own.map (·.2)) g) (ht : ∀ s H C cl fp, QTs (X.blk s H scope (compEnvC scope cl C X.env) fp) M ifs wt)
    (he : ∀ s H C cl fp, QE (X.blk s H scope (compEnvC scope cl C X.env) fp) M elt we) (hc : X.calm = true := by rfl) (hs : ∀ x, foldedSetIterable iter X.env x = pure x := by intro _; rfl) :
    QE X M (.ListComp elt [⟨tg, iter, ifs, 0⟩] scope pos) (wLc wi g wt we (own.map (·.2))) := by
  refine ⟨pe_weak (pe_lc (own := own) (te := tW M we) (tt := tWT M wt) (g := tWG M (own.map (·.2)) g) hc hN hi.run ok (fun s H C cl fp => (hg s H C cl fp).run) (fun s H C cl fp => (ht s H C cl fp).run) (fun s H C cl fp => (he s H C cl fp).run) hs) fun σ H Q' ⟨Z, ρ, α, F, Q, R0, w, k⟩ => ?_⟩
  exact lc_run R0 w k
theorem qs_lc {i : Nat} {y : Str} {py : Pos} {elt tg iter : Expr} {ifs : List Expr} {scope : Scope} {own : List (Str × Nat)} {pos spos : Pos} {wi : WI M} {g : WG M} {wt : WT M} {we : WE M} (hN : X.N.Nodup) (hy : X.N[i]? = some y) (hyl : X.env.scope.names.lookup y = some .local)
    (hsw : swapsWith (.ListComp elt [⟨tg, iter, ifs, 0⟩] scope pos) (some (.Name y py)) spos.line X.env = pure true) (hi : QI X M tg iter wi) (ok : BlkOk X.N X.env.scope scope own)
    (hg : ∀ s H C cl fp, QG (X.blk s H scope (compEnvC scope cl C X.env) fp) M tg (own.map (·.2)) g) (ht : ∀ s H C cl fp, QTs (X.blk s H scope (compEnvC scope cl C X.env) fp) M ifs wt)
    (he : ∀ s H C cl fp, QE (X.blk s H scope (compEnvC scope cl C X.env) fp) M elt we) (hc : X.calm = true := by rfl) (hs : ∀ x, foldedSetIterable iter X.env x = pure x := by intro _; rfl) :
    QS X M (.Assign [.Name y py] (.ListComp elt [⟨tg, iter, ifs, 0⟩] scope pos) spos) (wSet i (wLc wi g wt we (own.map (·.2)))) := by
  refine ⟨ps_weak (ps_setLc (own := own) (te := tW M we) (tt := tWT M wt) (g := tWG M (own.map (·.2)) g) hc hN hy hyl hsw hi.run ok (fun s H C cl fp => (hg s H C cl fp).run) (fun s H C cl fp => (ht s H C cl fp).run) (fun s H C cl fp => (he s H C cl fp).run) hs) fun D' σ H q => ?_⟩
  obtain ⟨Z, ρ, α, F, D, R0, w, k1, k2, k3, k4⟩ := q
  refine lc_run R0 w fun v r ρ' α' F' H' R1 s1 rv q => ?_
  obtain ⟨F2, r2, e⟩ := put_ok i R0 s1 R1 rv
  refine k1 (put i r (ρ', α')).1 α' F2 _ H' r2 ?_
  have e' : ((put i r (ρ', α')).1, α') = put i r (ρ', α') := by
    rw [Prod.ext_iff]
    exact ⟨rfl, e.symm⟩
  rw [e']
  exact q

/-! ### a tuple of targets -/
def wAsg {K : PySem.W.Frag} {M : Amb K} (w : WE M) (g : WG M) : WS M := fun D E => w E fun r E1 => fz r E1 fun d E2 => g d E2 D.nx
theorem qs_asg {tg e : Expr} {pos : Pos} {w : WE M} {g : WG M} {vs : List Nat} (he : QE X M e w) (hg : QG X M tg vs g) (hs : swapsWithSole [tg] e pos.line X.env = pure false := by rfl) (hw : swappedStores [tg] e X.env = pure none := by rfl)
    (h1 : (assignEach [tg] X.env).map (·.2) = [assign tg X.env] := by rfl) : QS X M (.Assign [tg] e pos) (wAsg w g) := by
  refine ⟨ps_weak (ps_asg he.run hg.run hs hw h1) fun D' σ H ⟨Z, ρ, α, F, D, R0, w, k1, k2, k3, k4⟩ => ?_⟩
  refine ⟨Z, ρ, α, F, _, R0, w, fun v r ρ1 α1 F1 H1 R1 s1 rv q => ?_⟩
  obtain ⟨d, ρ2, F2, R2, s2, dv, q⟩ := fz_ok R0 s1 R1 rv q
  exact ⟨Z, ρ2, α1, F2, d, _, R2, dv, q, fun ρ' σ' R' _ _ q => k1 ρ' α1 F2 σ' H1 R' q⟩
/-- an alias is given up; a new object is held -/
def nal {K : PySem.W.Frag} {M : Amb K} (r : R) (E : Env M) (Q : R → Env M → Prop) : Prop := match r with
  | .al i b => Q (.fr b.toD) (E.1.set i (some (.d b.toD)), E.2)
  | .fr d => Q (.fr d) E
  | .nw b => Q (.nw b) E
  | .nt p _ _ => Q (.fr (.obj p)) E
theorem nal_ok {Z : Base M} {ρ ρ' : List (Option B)} {α α' : M.S} {F F' H H' : Hp} {σ : L2.St} {r : R} {v : V} {Q : R → Env M → Prop} (R1 : Rel M Z ρ α F σ H) (s : Stp M σ ρ α F H ρ' α' F' H') (R0 : Rel M Z ρ' α' F' σ H') (h : RV M H ρ' α' F' σ H' r v) (q : nal r (ρ', α') Q) :
    ∃ r' ρ2 F2, Rel M Z ρ2 α' F2 σ H' ∧ Stp M σ ρ α F H ρ2 α' F2 H' ∧ RV M H ρ2 α' F2 σ H' r' v ∧ (∀ i b, r' ≠ .al i b) ∧ Q r' (ρ2, α') := by
  cases r with
  | fr d => exact ⟨.fr d, ρ', F', R0, s, h, fun _ _ => nofun, q⟩
  | nw b => exact ⟨.nw b, ρ', F', R0, s, h, fun _ _ => nofun, q⟩
  | nt p b c =>
    obtain ⟨rfl, _⟩ := h
    exact ⟨.fr (.obj p), ρ', F', R0, s, .obj p, fun _ _ => nofun, q⟩
  | al i b =>
    obtain ⟨h1, h2, h3⟩ := h
    obtain ⟨F2, r2, s2, dv⟩ := R0.give h1 h2 h3
    exact ⟨.fr b.toD, _, F2, r2, s.trans s2, dv, fun _ _ => nofun, q⟩
/-- what is held stays what it is -/
theorem RV.step {Z : Base M} {H0 : Hp} {ρ ρ' : List (Option B)} {α α' : M.S} {F F' H H' : Hp} {σ : L2.St} {r : R} {v : V} (R0 : Rel M Z ρ α F σ H) (h : RV M H0 ρ α F σ H r v) (n : ∀ i b, r ≠ .al i b) (no : ∀ a, True → H0 a = none → ¬ Owned ρ σ a) (s : Stp M σ ρ α F H ρ' α' F' H') (sb : Sub F' H') : RV M H0 ρ' α' F' σ H' r v := by
  cases r with
  | fr d => exact DV.mono s.sF h
  | al i b => exact absurd rfl (n i b)
  | nw b =>
    obtain ⟨a, o, rfl, h2, h3, h4, h5, h6⟩ := h
    refine ⟨a, o, rfl, s.sH a o h2 h5, h3.mono s.sF, (none_or F' a).elim id fun q => ?_, fun q => (s.sN a q).elim h5 fun q => absurd q (ne_none h2), h6⟩
    rcases s.sZ a q with q | q | q
    · exact absurd h4 q
    · exact (q.no sb h2 (s.sH a o h2 h5) h3).elim
    · exact absurd q (no a trivial h6)
  | nt p b c =>
    obtain ⟨e, a1, a2, h1, h2, g, f⟩ := h
    have one : ∀ {a : Addr} {b : B}, NewO M H0 α F H a b → NewO M H0 α' F' H' a b := fun {a b} ⟨o, h2, h3, h4, h5, h6⟩ =>
      ⟨o, s.sH a o h2 h5, h3.mono s.sF, (none_or F' a).elim id fun q => by
        rcases s.sZ a q with q | q | q
        · exact absurd h4 q
        · exact (q.no sb h2 (s.sH a o h2 h5) h3).elim
        · exact absurd q (no a trivial h6), fun q => (s.sN a q).elim h5 fun q => absurd q (ne_none h2), h6⟩
    exact ⟨e, a1, a2, s.sF.t h1, h2, one g, one f⟩
/-- slot i takes what is no alias -/
def putN {K : PySem.W.Frag} {M : Amb K} (i : Nat) (r : R) (E : Env M) : Env M := match r with
  | .fr d => (E.1.set i (some (.d d)), E.2)
  | .nw b => (E.1.set i (some b), E.2)
  | .al _ _ => E
  | .nt p _ _ => (E.1.set i (some (.d (.obj p))), E.2)
theorem putN_ok {Z : Base M} {H0 : Hp} {ρ : List (Option B)} {α : M.S} {F H : Hp} {σ : L2.St} {r : R} {v : V} (i : Nat) (R1 : Rel M Z ρ α F σ H) (h : RV M H0 ρ α F σ H r v) (n : ∀ i b, r ≠ .al i b) (no : ∀ a, v = .ref a → H0 a = none → ¬ Owned ρ σ a ∧ Z.H a = none) :
    Rel M Z (putN i r (ρ, α)).1 α F (σ.set i (some v)) H ∧ (putN i r (ρ, α)).2 = α := by
  cases r with
  | fr d => exact ⟨R1.putD i h, rfl⟩
  | nt p b c =>
    obtain ⟨rfl, _⟩ := h
    exact ⟨R1.putD i (.obj p), rfl⟩
  | al i b => exact absurd rfl (n i b)
  | nw b =>
    obtain ⟨a, o, rfl, q1, q2, q3, q4, q5⟩ := h
    obtain ⟨n1, n2⟩ := no a rfl q5
    exact ⟨R1.putO i q1 q2 q3 q4 n2 fun z => n1 (owned_clear z), rfl⟩
/-- a, b = x, y, both local names -/
def wPar {K : PySem.W.Frag} {M : Amb K} (i j : Nat) (wa wb : WE M) : WS M := fun D E => wa E fun ra E1 => nal ra E1 fun ra E2 => wb E2 fun rb E3 => nal rb E3 fun rb E4 => D.nx (putN j rb (putN i ra E4))
theorem owned_set {ρ : List (Option B)} {σ : L2.St} {i : Nat} {b : B} {v : V} {a : Addr} (h : Owned (ρ.set i (some b)) (σ.set i (some v)) a) : v = .ref a ∨ Owned ρ σ a := by
  obtain ⟨j, b', h1, h2, h3⟩ := h
  rcases set_get h1 with ⟨e, q⟩ | ⟨n, q⟩
  · subst e
    have hj : j < σ.length := by
      have := (List.getElem?_eq_some_iff.mp h3).1
      simpa using this
    rw [List.getElem?_set_self hj] at h3
    exact .inl (Option.some.inj (Option.some.inj h3))
  · rw [List.getElem?_set_ne (Ne.symm n)] at h3
    exact .inr ⟨j, b', q, h2, h3⟩
theorem qs_par {i j : Nat} {x y : Str} {a b : Expr} {wa wb : WE M} {px py pt pos : Pos} {kt k2 pt2} (hN : X.N.Nodup) (ha : QE X M a wa) (hb : QE X M b wb) (hi : X.N[i]? = some x := by rfl) (hj : X.N[j]? = some y := by rfl) (hij : i ≠ j := by decide) (hx : X.env.scope.names.lookup x = some .local := by rfl) (hy : X.env.scope.names.lookup y = some .local := by rfl)
    (hw : swappedStores [.Tuple [.Name x px, .Name y py] kt pt] (.Tuple [a, b] k2 pt2) X.env = pure (some [x, y]) := by rfl) (hc : X.calm = true := by rfl)
    (hs : swapsWithSole [.Tuple [.Name x px, .Name y py] kt pt] (.Tuple [a, b] k2 pt2) pos.line X.env = pure false := by rfl) (h1 : starEach [a, b] X.env = (false, eval a X.env) :: starEach [b] X.env := by rfl) (h2 : starEach [b] X.env = (false, eval b X.env) :: starEach [] X.env := by rfl) :
    QS X M (.Assign [.Tuple [.Name x px, .Name y py] kt pt] (.Tuple [a, b] k2 pt2) pos) (wPar i j wa wb) := by
  refine ⟨ps_weak (ps_par hc hN hi hj hij hx hy (pa_cons ha.run (pa_cons hb.run pa_nil h2) h1) hw hs) fun D' σ H ⟨Z, ρ, α, F, D, R0, w, k1, k2, k3, k4⟩ => ?_⟩
  refine ⟨Z, ρ, α, F, _, R0, w, fun v r ρ1 α1 F1 H1 R1 s1 rv q => ?_⟩
  obtain ⟨ra, ρ2, F2, R2, s2, rv2, na, q⟩ := nal_ok R0 s1 R1 rv q
  refine ⟨Z, ρ2, α1, F2, _, R2, q, fun v' r' ρ3 α3 F3 H3 R3 s3 rv' q => ?_⟩
  obtain ⟨rb, ρ4, F4, R4, s4, rv4, nb, q⟩ := nal_ok R2 s3 R3 rv' q
  have rv5 := rv2.step R2 na (fun a _ h z => R0.ownn h (s2.sO a z)) s4 R4.sub
  have s5 := s2.trans s4
  obtain ⟨R5, e5⟩ := putN_ok i R4 rv5 na fun a e h => ⟨fun z => R0.ownn h (s5.sO a z), R0.zn h⟩
  have rv6 : RV M H1 (putN i ra (ρ4, α3)).1 α3 F4 (σ.set i (some v)) H3 rb v' := by
    cases rb with
    | fr d => exact rv4
    | nw b => exact rv4
    | nt p b c => exact rv4
    | al i b => exact absurd rfl (nb i b)
  have no6 : ∀ a, H1 a = none → ¬ Owned (putN i ra (ρ4, α3)).1 (σ.set i (some v)) a := fun a h z => by
    cases ra with
    | fr d =>
      have z' : Owned (ρ4.set i (some (.d d))) (σ.set i (some v)) a := z
      exact R2.ownn h (s4.sO a (owned_putD z'))
    | nt p b c =>
      have z' : Owned (ρ4.set i (some (.d (.obj p)))) (σ.set i (some v)) a := z
      exact R2.ownn h (s4.sO a (owned_putD z'))
    | al i b => exact absurd rfl (na i b)
    | nw b =>
      have z' : Owned (ρ4.set i (some b)) (σ.set i (some v)) a := z
      rcases owned_set z' with q | q
      · obtain ⟨a', o, e', h2, _⟩ := rv2
        rw [e'] at q
        cases q
        rw [h2] at h
        cases h
      · exact R2.ownn h (s4.sO a q)
  obtain ⟨R6, e6⟩ := putN_ok j R5 rv6 nb fun a e h => ⟨no6 a h, (none_or Z.H a).elim id fun q => absurd h (R2.bT a q)⟩
  refine ⟨v, v', rfl, k1 _ α3 F4 _ H3 R6 ?_⟩
  have e7 : ((putN i ra (ρ4, α3)).1, α3) = putN i ra (ρ4, α3) := by
    rw [Prod.ext_iff]; exact ⟨rfl, e5.symm⟩
  rw [e7] at e6 ⊢
  have e8 : ((putN j rb (putN i ra (ρ4, α3))).1, α3) = putN j rb (putN i ra (ρ4, α3)) := by
    rw [Prod.ext_iff]; exact ⟨rfl, e6.symm⟩
  rw [e8]
  exact q

/-! ### the frame's own lists and dicts, changed -/
theorem Rel.write {Z : Base M} {ρ : List (Option B)} {α : M.S} {F H : Hp} {σ : L2.St} {i : Nat} {a : Addr} {o : HO} {b b' : B} (r : Rel M Z ρ α F σ H) (h : ρ[i]? = some (some b)) (ow : b.own = true) (hσ : σ[i]? = some (some (V.ref a))) (ok : OwnOk X.K F o b') :
    Rel M Z (ρ.set i (some b')) α F σ (upd H a o) := by
  obtain ⟨a', o', q1, q2, q3, q4, q5, q6⟩ := r.own i b h ow
  rw [hσ] at q1
  cases q1
  have r1 : Rel M Z (ρ.set i none) α F σ H := by
    refine ⟨r.sub, by rw [List.length_set]; exact r.len, fun j d e => ?_, fun j b' e ow' => ?_, fun j k b' b2 x e1 o1 e2 o2 => ?_, r.amb, r.ambF, r.bF, r.bH, r.bN, r.bT, r.bZ⟩
    · rcases set_get e with ⟨_, e⟩ | ⟨_, e⟩
      · cases e
      · exact r.val j d e
    · rcases set_get e with ⟨_, e⟩ | ⟨_, e⟩
      · cases e
      · exact r.own j b' e ow'
    · rcases set_get e1 with ⟨_, e⟩ | ⟨_, e1⟩
      · cases e
      · rcases set_get e2 with ⟨_, e⟩ | ⟨_, e2⟩
        · cases e
        · exact r.dis j k b' b2 x e1 o1 e2 o2
  have no : ¬ Owned (ρ.set i none) σ a := fun ⟨j, b', g1, g2, g3⟩ => by
    rcases set_get g1 with ⟨_, e⟩ | ⟨e, q⟩
    · cases e
    · exact e (r.dis j i b' b a q g2 h ow g3 hσ)
  have r2 := r1.mutNew (o := o) (ne_none q2) q4 q5 no q6
  have hi : i < σ.length := (List.getElem?_eq_some_iff.mp hσ).1
  have e1 : (ρ.set i none).set i (some b') = ρ.set i (some b') := List.set_set ..
  have e2 : σ.set i (some (V.ref a)) = σ := by
    refine List.ext_getElem? fun j => ?_
    by_cases e : i = j
    · subst e
      rw [List.getElem?_set_self hi, hσ]
    · rw [List.getElem?_set_ne e]
  have no' : ¬ Owned ((ρ.set i none).set i none) (σ.set i (some (V.ref a))) a := by
    rw [List.set_set, e2]
    exact no
  have r3 := r2.putO i (b := b') upd_same ok q4 q5 q6 no'
  rw [e1, e2] at r3
  exact r3
def asL (b : Option (Option B)) (Q : List D → Prop) : Prop := match b with
  | some (some (.l ds)) => Q ds
  | _ => False
theorem asL_ok {b : Option (Option B)} {Q : List D → Prop} (h : asL b Q) : ∃ ds, b = some (some (.l ds)) ∧ Q ds := by
  unfold asL at h
  split at h
  · exact ⟨_, rfl, h⟩
  · exact h.elim
/-- x.append(e) -/
def wApp {K : PySem.W.Frag} {M : Amb K} (i : Nat) (w : WE M) : WS M := fun D E => asL E.1[i]? fun _ => w E fun r E1 => fz r E1 fun d E2 => asL E2.1[i]? fun ds => ds.length < sizeLine ∧ D.nx (E2.1.set i (some (.l (ds ++ [d]))), E2.2)
theorem qs_append {i : Nat} {x : Str} {p apos cpos pos : Pos} {e : Expr} {w : WE M} (hx : PE X (.Name x p) (tVar i)) (he : QE X M e w) (hbase : attributeBase (.Name x p) "append" X.env (eval (.Name x p) X.env) = eval (.Name x p) X.env := by rfl)
    (hfew : ((backTo cpos (starEach (e :: []) X.env)).all (fun x => !x.1) && (backToKw cpos (keywordEach [] X.env)).all (fun x => x.1.isSome) && decide ((e :: ([] : List Expr)).length + ([] : List Keyword).length + (if ([] : List Keyword).isEmpty then 0 else 1) < 30)) = true := by rfl)
    (hline : (apos.endLine == cpos.line) = true := by rfl) (hs : starEach (e :: []) X.env = (false, eval e X.env) :: starEach [] X.env := by rfl) (hplain : (backTo cpos (starEach ([] : List Expr) X.env)).any (·.1) = false := by rfl)
    (hsw : swapsWith (.Call (.Attribute (.Name x p) "append" apos) [e] [] cpos) none pos.line X.env = pure false := by rfl) : QS X M (.Expr (.Call (.Attribute (.Name x p) "append" apos) [e] [] cpos) pos) (wApp i w) := by
  refine ⟨ps_weak (ps_expr (pe_bm PySem.F.plainAttrs_list PySem.F.slot_list_append PySem.F.type_list_append mt_append hx (pa_cons he.run pa_nil hs) hbase hfew hline hs hplain) hsw) fun D' σ H ⟨Z, ρ, α, F, D, R0, w, k1, k2, k3, k4⟩ => ?_⟩
  obtain ⟨ds0, e0, w⟩ := asL_ok w
  obtain ⟨a, o, q1, q2, q3, _⟩ := R0.own i _ e0 rfl
  obtain ⟨us0, rfl⟩ : ∃ us, o = .lst us := by
    cases o <;> first | exact ⟨_, rfl⟩ | exact q3.elim
  refine ⟨.ref a, q1, .inl ⟨rfl, us0, SqL.of q2⟩, Z, ρ, α, F, _, R0, w, fun v r ρ1 α1 F1 H1 R1 s1 rv q => ?_⟩
  obtain ⟨d, ρ2, F2, R2, s2, dv, q⟩ := fz_ok R0 s1 R1 rv q
  obtain ⟨ds, e2, hz, q⟩ := asL_ok q
  obtain ⟨a', o', g1, g2, g3, _⟩ := R2.own i _ e2 rfl
  rw [q1] at g1
  cases g1
  obtain ⟨us, rfl⟩ : ∃ us, o' = .lst us := by
    cases o' <;> first | exact ⟨_, rfl⟩ | exact g3.elim
  have g3 : DVs X.K F2 us ds := g3
  refine ⟨a, us, v, rfl, rfl, g2, by rw [g3.length]; exact hz, k1 _ α1 F2 σ _ (R2.write e2 rfl q1 (o := .lst (us ++ [v])) (b' := .l (ds ++ [d])) ?_) q⟩
  exact g3.append (.cons dv .nil)
/-- x[k] = e -/
def wPutL {K : PySem.W.Frag} {M : Amb K} (i : Nat) (wk w : WE M) : WS M := fun D E => w E fun r E1 => fz r E1 fun d E2 => asL E2.1[i]? fun _ => wk E2 fun rk E3 => asI rk.c fun k => asL E3.1[i]? fun ds => ∃ j, ixN ds.length k = some j ∧ D.nx (E3.1.set i (some (.l (ds.set j d))), E3.2)
theorem qs_putL {i : Nat} {x : Str} {p tpos pos : Pos} {ek e : Expr} {wk w : WE M} (hx : PE X (.Name x p) (tVar i)) (hk : QE X M ek wk) (he : QE X M e w)
    (ha : ∀ v, assign (.Subscript (.Name x p) ek tpos) X.env v = (do
      let ov ← holding [v] (eval (.Name x p) X.env)
      let iv ← holding [v, ov] (eval ek X.env)
      standAt tpos
      holding [v, ov, iv] (setItem ov iv v)
      release [v, ov, iv] []) := by intro _; rfl)
    (hs : swapsWithSole [.Subscript (.Name x p) ek tpos] e pos.line X.env = pure false := by rfl) (hw : swappedStores [.Subscript (.Name x p) ek tpos] e X.env = pure none := by rfl)
    (h1 : (assignEach [.Subscript (.Name x p) ek tpos] X.env).map (·.2) = [assign (.Subscript (.Name x p) ek tpos) X.env] := by rfl) : QS X M (.Assign [.Subscript (.Name x p) ek tpos] e pos) (wPutL i wk w) := by
  refine ⟨ps_weak (ps_asg he.run (pg_sub hx hk.run set_list ha) hs hw h1) fun D' σ H ⟨Z, ρ, α, F, D, R0, w, k1, k2, k3, k4⟩ => ?_⟩
  refine ⟨Z, ρ, α, F, _, R0, w, fun v r ρ1 α1 F1 H1 R1 s1 rv q => ?_⟩
  obtain ⟨d, ρ2, F2, R2, s2, dv, q⟩ := fz_ok R0 s1 R1 rv q
  obtain ⟨ds0, e0, q⟩ := asL_ok q
  obtain ⟨a, o, q1, q2, q3, _⟩ := R2.own i _ e0 rfl
  refine ⟨.ref a, q1, Z, ρ2, α1, F2, _, R2, q, fun vk rk ρ3 α3 F3 H3 R3 s3 rvk q => ?_⟩
  have c := rvk.cv R3
  generalize rk.c = dk at q c
  cases dk <;> first | exact q.elim | skip
  rename_i kk
  obtain ⟨ds, e2, j, hj, q⟩ := asL_ok q
  obtain ⟨a', o', g1, g2, g3, _⟩ := R3.own i _ e2 rfl
  rw [q1] at g1
  cases g1
  obtain ⟨us, rfl⟩ : ∃ us, o' = .lst us := by
    cases o' <;> first | exact ⟨_, rfl⟩ | exact g3.elim
  have g3 : DVs X.K F3 us ds := g3
  refine ⟨a, us, kk, j, rfl, c.int, g2, by rw [g3.length]; exact hj, k1 _ α3 F3 σ _ (R3.write e2 rfl q1 (o := .lst (us.set j v)) (b' := .l (ds.set j d)) ?_) q⟩
  exact DVs.set (dv.mono s3.sF) j g3
/-- a name given up ahead of its time: it stands still from here on -/
def wStill {K : PySem.W.Frag} {M : Amb K} (i : Nat) (w : WS M) : WS M := fun D E => match E.1[i]? with
  | some (some (.d d)) => w D E
  | some (some b) => w D (E.1.set i (some (.d b.toD)), E.2)
  | _ => False
theorem qs_still {st : Stmt} {i : Nat} {w : WS M} (h : QS X M st w) : QS X M st (wStill i w) := by
  refine ⟨ps_weak h.run fun D' σ H ⟨Z, ρ, α, F, D, R0, w, k⟩ => ?_⟩
  cases e : ρ[i]? with
  | none => simp only [wStill, e] at w
  | some x =>
    cases x with
    | none => simp only [wStill, e] at w
    | some b =>
      by_cases ow : b.own = true
      · obtain ⟨a, o, h1, _⟩ := R0.own i b e ow
        obtain ⟨F2, R2, _, _⟩ := R0.give e ow h1
        refine ⟨Z, _, α, F2, D, R2, ?_, k⟩
        cases b <;> first | (cases ow; done) | simpa only [wStill, e] using w
      · cases b with
        | d d => exact ⟨Z, ρ, α, F, D, R0, by simpa only [wStill, e] using w, k⟩
        | _ => exact absurd rfl ow

/-! ### built-ins over lists -/
def D.asInts : List D → Option (List Int)
  | [] => some []
  | .int i :: r => (D.asInts r).map (i :: ·)
  | _ :: _ => none
def D.asBls : List D → Option (List Bool)
  | [] => some []
  | .bl i :: r => (D.asBls r).map (i :: ·)
  | _ :: _ => none
theorem asInts_eq : ∀ {ds : List D} {ns : List Int}, D.asInts ds = some ns → ds = ns.map D.int
  | [], ns, h => by cases h; rfl
  | d :: r, ns, h => by
    cases d <;> first | (cases h; done) | skip
    simp only [D.asInts] at h
    cases e : D.asInts r with
    | none => rw [e] at h; cases h
    | some ms =>
      rw [e] at h
      cases h
      rw [asInts_eq e]
      rfl
theorem asBls_eq : ∀ {ds : List D} {ns : List Bool}, D.asBls ds = some ns → ds = ns.map D.bl
  | [], ns, h => by cases h; rfl
  | d :: r, ns, h => by
    cases d <;> first | (cases h; done) | skip
    simp only [D.asBls] at h
    cases e : D.asBls r with
    | none => rw [e] at h; cases h
    | some ms =>
      rw [e] at h
      cases h
      rw [asBls_eq e]
      rfl
theorem asInts_map (ns : List Int) : D.asInts (ns.map D.int) = some ns := by
  induction ns with
  | nil => rfl
  | cons n ns ih => simp [D.asInts, ih]
theorem asBls_map (ns : List Bool) : D.asBls (ns.map D.bl) = some ns := by
  induction ns with
  | nil => rfl
  | cons n ns ih => simp [D.asBls, ih]
theorem DVs.intsV {K : PySem.W.Frag} {F : Hp} : ∀ {vs : List V} {ns : List Int}, DVs K F vs (ns.map D.int) → vs = ns.map V.int
  | vs, [], h => by cases h; rfl
  | vs, n :: ns, h => by
    cases h with
    | cons a t =>
      cases a
      rw [DVs.intsV t]
      rfl
theorem DVs.blsV {K : PySem.W.Frag} {F : Hp} : ∀ {vs : List V} {ns : List Bool}, DVs K F vs (ns.map D.bl) → vs = ns.map V.bl
  | vs, [], h => by cases h; rfl
  | vs, n :: ns, h => by
    cases h with
    | cons a t =>
      cases a
      rw [DVs.blsV t]
      rfl
def gAll : List D → (R → Prop) → Prop
  | [.lst xs], Q => ∃ bs, D.asBls xs = some bs ∧ Q (.fr (.bl (bs.all id)))
  | _, _ => False
def gAny : List D → (R → Prop) → Prop
  | [.lst xs], Q => ∃ bs, D.asBls xs = some bs ∧ Q (.fr (.bl (bs.any id)))
  | _, _ => False
theorem oc_all (hc : X.calm = true := by rfl) : OC X M (.builtin "all") gAll := by
  refine ⟨_, cr_all hc, ?_⟩
  intro Z ρ α F σ H xs ds Q P R0 cs q k
  rcases ds with _ | ⟨d, _ | ⟨d2, ds⟩⟩
  · exact q.elim
  · obtain ⟨x, rfl, c⟩ := cs.one
    cases d <;> first | exact q.elim | skip
    obtain ⟨bs, e, q⟩ := q
    obtain ⟨a, vs, rfl, h2, h3⟩ := c.lst R0
    rw [asBls_eq e] at h3
    exact ⟨a, bs, rfl, by rw [← h3.blsV]; exact SqL.of h2, k _ _ F H R0 .refl (RV.mk (.bl _)) q⟩
  · cases d <;> exact q.elim
theorem oc_any (hc : X.calm = true := by rfl) : OC X M (.builtin "any") gAny := by
  refine ⟨_, cr_any hc, ?_⟩
  intro Z ρ α F σ H xs ds Q P R0 cs q k
  rcases ds with _ | ⟨d, _ | ⟨d2, ds⟩⟩
  · exact q.elim
  · obtain ⟨x, rfl, c⟩ := cs.one
    cases d <;> first | exact q.elim | skip
    obtain ⟨bs, e, q⟩ := q
    obtain ⟨a, vs, rfl, h2, h3⟩ := c.lst R0
    rw [asBls_eq e] at h3
    exact ⟨a, bs, rfl, by rw [← h3.blsV]; exact SqL.of h2, k _ _ F H R0 .refl (RV.mk (.bl _)) q⟩
  · cases d <;> exact q.elim
end

/-! ### a def by its body -/
def startB (n : Nat) (ds : List D) : List (Option B) := ds.map (fun d => some (.d d)) ++ List.replicate (n - ds.length) none
theorem start_rel {K : PySem.W.Frag} {M : Amb K} {F H : Hp} {α : M.S} {vs : List V} {ds : List D} {N : List Str} (s : Sub F H) (dv : DVs K F vs ds) (a : M.ok α F H) (n : ∀ b, M.fp α b → F b = none) : Rel M ⟨F, H, α⟩ (startB N.length ds) α F (start N vs) H := by
  have hl := dv.length
  have at_ : ∀ {i : Nat} {b : B}, (startB N.length ds)[i]? = some (some b) → ∃ d, b = .d d ∧ ds[i]? = some d := fun {i b} e => by
    unfold startB at e
    by_cases h : i < ds.length
    · rw [List.getElem?_append_left (by simpa using h), List.getElem?_map] at e
      have h' : ds[i]? = some ds[i] := by simp [h]
      rw [h'] at e
      cases e
      exact ⟨_, rfl, h'⟩
    · rw [List.getElem?_append_right (by simpa using h), List.getElem?_replicate] at e
      split at e <;> cases e
  refine ⟨s, by simp [startB, L2.start, hl], fun i d e => ?_, fun i b e ow => ?_, fun i j b b' x e1 o1 => ?_, a, n, Sub.refl _, fun _ _ e _ => e, fun _ h => .inl h, fun _ h => h, fun _ h => .inl h⟩
  · obtain ⟨d', e', h⟩ := at_ e
    cases e'
    obtain ⟨v, hv, dv⟩ := dv.get h
    refine ⟨v, ?_, dv⟩
    have hi : i < vs.length := (List.getElem?_eq_some_iff.mp hv).1
    unfold L2.start
    rw [List.getElem?_append_left (by simpa using hi), List.getElem?_map, hv]
    rfl
  · obtain ⟨d, e', _⟩ := at_ e
    subst e'
    cases ow
  · obtain ⟨d, e', _⟩ := at_ e1
    subst e'
    cases o1
section
variable {P : Program} {w : World} {K : PySem.W.Frag} {mg : Str → Option Value} {base : Heap}
/-- what is wanted of a body -/
def endsOf {K : PySem.W.Frag} {M : Amb K} (Qd : R → M.S → Prop) : EndsD M := { nx := fun E => Qd (.fr .non) E.2, rt := Qd }
theorem fng_ok {M : Amb K} {x qual : Str} {st : Stmt} {f : Addr} {fd : FuncData} {N ps : List Str} {k : Nat} {C : Ct M} {wb : WS M} (F : Fun K x qual st f fd) (S : FnScope N ps (defScope st))
    (hb : ∀ (cdv : Value) (A : Around) (outer : List PySem.Env) (s : Shared) (H : Hp) (E : XK), Room k (A.deeper (envOfC qual (defScope st) s.heap.objs.size f cdv)) → (A.deeper (envOfC qual (defScope st) s.heap.objs.size f cdv)).guards = some [] →
      QSs (cxOf CX0 P w K mg base N qual (defScope st) f cdv A outer s H E).nox M (defBody st) wb)
    (hw : ∀ ds α Qd, ds.length = ps.length → C ds α Qd → wb (endsOf Qd) (startB N.length ds, α)) : FnG P w K mg base (k + 1) f fd ps (spD M ps.length C) := by
  refine fng_of F S (fun vs H Q E h => h.1) fun cdv A outer s H vs Q E hr hg hsp => ?_
  obtain ⟨hl, F0, ds, α, Qd, s1, dv, a, n, hC, k⟩ := hsp
  refine ⟨_, (hb cdv A outer s H E hr hg).run.nox, ?_⟩
  have R0 := start_rel (N := N) s1 dv a n
  refine ⟨⟨F0, H, α⟩, _, α, F0, endsOf Qd, R0, hw ds α Qd (by rw [← dv.length]; exact hl) hC, fun ρ' α' F' σ' H' R1 q => ?_, fun _ _ _ _ _ _ q => q.elim, fun _ _ _ _ _ _ q => q.elim, fun v r ρ' α' F' σ' H' R1 rv q => ?_⟩
  · exact k .non (.fr .non) α' F' H' ⟨R1.bF, R1.sub, R1.bH, R1.bT, R1.bN, R1.bZ, R1.amb, R1.ambF⟩ (RV.mk .non) q
  · exact k v r α' F' H' ⟨R1.bF, R1.sub, R1.bH, R1.bT, R1.bN, R1.bZ, R1.amb, R1.ambF⟩ rv q
/-- a def of the module: where it stands, how it is called -/
structure Def (K : PySem.W.Frag) (mg : Str → Option Value) (x : Str) (st : Stmt) (ps : List Str) : Prop where
  ex : ∃ f fd, mg x = some (.ref f) ∧ Fun K x x st f fd ∧ Binds K fd ps []
theorem def_ok {M : Amb K} {x : Str} {st : Stmt} {N ps : List Str} {k : Nat} {C : Ct M} {wb : WS M} (F : Def K mg x st ps) (S : FnScope N ps (defScope st))
    (hb : ∀ (f : Addr) (cdv : Value) (A : Around) (outer : List PySem.Env) (s : Shared) (H : Hp) (E : XK), Room k (A.deeper (envOfC x (defScope st) s.heap.objs.size f cdv)) → (A.deeper (envOfC x (defScope st) s.heap.objs.size f cdv)).guards = some [] →
      QSs (cxOf CX0 P w K mg base N x (defScope st) f cdv A outer s H E).nox M (defBody st) wb)
    (hw : ∀ ds α Qd, ds.length = ps.length → C ds α Qd → wb (endsOf Qd) (startB N.length ds, α)) : Ok P w K mg base M x (k + 1) ps.length C := by
  obtain ⟨f, fd, h1, h2, h3⟩ := F.ex
  exact ⟨f, fd, ps, h1, h2.kp, h3, rfl, fng_ok h2 S (hb f) hw⟩
end
end DL
set_option maxHeartbeats 4000000
namespace DL
open PySem PySem.Spec L2
open PyProof.Rows hiding St

/-! ### enumerate over a tuple -/
theorem enum_new1 {v : Value} {o : Obj} {G : Heap → Prop} (B : Begins v o G) :
    Meets (Builtin.«enumerate.__new__» ⟨[.type "enumerate", v], []⟩) fun _ R s => G s.heap ∧
      R (.ok (.ret (.ref (s.heap.push o).objs.size)))
        { s with heap := (s.heap.push o).push { cls := .type "enumerate", data := .fields #[.none, .bool false, .ref s.heap.objs.size, rawInt 0, .none, .none] } } := by
  refine .of_wp fun prog w A R s hg => ?_
  obtain ⟨hp, gs, dr, tk, os⟩ := s
  obtain ⟨g, h⟩ := hg
  have hsub := sub_enumerate
  have it : ∀ {A' : Around} {E : Value → Shared → Prop} {Q : Value → Shared → Prop},
      Q (.ref hp.objs.size) ⟨hp.push o, gs, dr, tk, os⟩ → wpAny (model prog w) A' (pyIter v) Q E ⟨hp, gs, dr, tk, os⟩ :=
    fun q => B.iter prog w _ _ ⟨hp, gs, dr, tk, os⟩ _ g q
  wp_walk using it
  refine wpAny_stack_any fun st => wpAny_pure ?_
  split
  · rename_i c _ _ _ _ _
    cases (c == Value.type "enumerate")
    · wp_walk using it
      exact ⟨_, rfl, h⟩
    · wp_walk using it
      exact ⟨_, rfl, h⟩
  · wp_walk using it
    exact ⟨_, rfl, h⟩
theorem call_enum1 {prog : Program} {w : World} {A : Around} {E : Value → Shared → Prop} {s : Shared} {v : Value} {o : Obj} {G : Heap → Prop} {Q : Value → Shared → Prop} (B : Begins v o G) (g : G s.heap)
    (h : ∀ h', IsEnum h' (s.heap.objs.size + 1) s.heap.objs.size 0 .none → h'.get? s.heap.objs.size = some o → (∀ b u, s.heap.get? b = some u → h'.get? b = some u) → Q (.ref (s.heap.objs.size + 1)) { s with heap := h' }) :
    wpAny (model prog w) A (call (.type "enumerate") [v]) Q E s := by
  refine callType_new F.called_enumerate (by decide) (F.typeCall_enumerate_1 _) (F.newCall_enumerate_1 _) (fun obj => F.args_object_init_2 obj _) F.entry_enumerate_new (enum_new1 B) ⟨g, ?_⟩
  have hz := Heap.size_push s.heap o
  have at1 := Heap.get?_push_size (s.heap.push o) (o := { cls := .type "enumerate", data := .fields #[.none, .bool false, .ref s.heap.objs.size, rawInt 0, .none, .none] }) rfl
  show _ ∧ _
  rw [hz] at at1 ⊢
  exact ⟨⟨_, at1, rfl⟩, h _ at1 (Heap.get?_push_of_some _ (Heap.get?_push_size _ B.free)) fun b u e => Heap.get?_push_of_some _ (Heap.get?_push_of_some _ e)⟩
/-- the tuple at a, its items in new pairs -/
def IteT (K : PySem.W.Frag) (a : Addr) : It where
  go i H := ∃ (xs : List V) (x : V), SqT K H a xs ∧ xs[i]? = some x
  yld i H v H' := ∃ T x, v = .ref T ∧ H T = none ∧ H' = upd H T (.tup [.int (i : Nat), x]) ∧ ∀ xs, SqT K H a xs → xs[i]? = some x
  stop i H := ∃ xs : List V, SqT K H a xs ∧ xs.length = i
theorem turn_enumT {P : Program} {w : World} {K : PySem.W.Frag} {elts : List Expr} {kk : Nat} {tpos : Pos} (a e it : Addr) :
    Turn P w K (.Tuple elts kk tpos) (IteT K a) [e, it] e fun i h => (∃ old, IsEnum h e it ((i : Nat) : Int) old) ∧ h.IsTupleIter it a i ∧ e ≠ it ∧ a ≠ it ∧ e ≠ a where
  mem := List.mem_cons_self
  obj := by
    intro i h st b hb
    obtain ⟨⟨old, he⟩, ⟨o, ho, hc, hd⟩, _⟩ := st
    rcases List.mem_cons.mp hb with z | hb
    · rw [z]; exact ⟨_, he, fun v q => nomatch q⟩
    · rw [List.mem_singleton.mp hb]; exact ⟨o, ho, fun v q => by rw [hd] at q; cases q⟩
  keep := by
    rintro i h h' ⟨⟨old, he⟩, hi, n⟩ k
    exact ⟨⟨old, k e (by simp) _ he⟩, hi.at fun o q => k it (by simp) o q, n⟩
  item := by
    intro X hP hw hK hc i pins s σ H E I hf st hg
    subst hP hw hK
    obtain ⟨⟨old, he⟩, hit, n1, n2, n3⟩ := st
    obtain ⟨xs, x, hq, hx⟩ := hg
    obtain ⟨its, rv, p, hz⟩ := I.tuple hq
    obtain ⟨u, hu, ru⟩ := rv.get hx
    have hlt : i < its.toArray.size := by simpa using (List.getElem?_eq_some_iff.mp hu).1
    have W := GoesN.enumFrom (elts := elts) (x1 := kk) (pos := tpos) 0 (Draws.tuple (prog := X.prog) (w := X.w) (A := X.A.in1) (I.ok.hd hc) it a n2 its.toArray) e n1 (by simp [n1, n3]) (by simp)
    refine W.goes i s _ _ hlt ⟨⟨old, by simpa using he⟩, hit, p⟩ fun v h' tk hy st' kp _ => ?_
    obtain ⟨T, t, u', rfl, hT, hu', o, ho, hoc, nn, hod⟩ := hy
    have e1 : u' = u := by
      have := hu'.symm.trans (by simpa using hu : its.toArray[i]? = some u)
      exact Option.some.inj this
    subst e1
    obtain ⟨⟨old', he'⟩, hit', _⟩ := st'
    have fr : ∀ b ∈ [e, it], FpOk X pins H b := hf
    have new : ObjOk X.prog X.w (upd H T (.tup [.int (i : Nat), x])) h' T (.tup [.int (i : Nat), x]) :=
      ⟨by show 2 ≤ sizeLine; decide, [.int (0 + (i : Int)) t, u'], .cons ⟨t, by rw [Int.zero_add]⟩ (.cons ru .nil), o, ho, hoc, nn, hod⟩
    have I1 := I.turnedNew (t' := tk) (ch := [e, it]) (fun b ob hb q => kp b ob hb q) fr hT new
    have hn := I.hok.fresh hT
    refine ⟨.ref T, _, I1, rfl, ⟨T, x, rfl, hn, rfl, fun ys hy => by rw [I.tuple_inj hy hq]; exact hx⟩, ⟨⟨old', ?_⟩, hit', n1, n2, n3⟩, fun b hb => ?_⟩
    · rw [Int.zero_add] at he'
      exact he'
    · have hbl : b < s.heap.objs.size := by
        rcases List.mem_cons.mp hb with z | hb
        · rw [z]; exact Heap.lt_size he
        · obtain ⟨_, q, _⟩ := hit
          rw [List.mem_singleton.mp hb]; exact Heap.lt_size q
      rw [upd_ne (Nat.ne_of_lt (Nat.lt_of_lt_of_le hbl hT))]
      exact (hf b hb).1
  done := by
    intro X hP hw hK hc i pins s σ H E I hf st hg
    subst hP hw hK
    obtain ⟨⟨old, he⟩, hit, n1, n2, n3⟩ := st
    obtain ⟨xs, hq, hx⟩ := hg
    obtain ⟨its, rv, p, hz⟩ := I.tuple hq
    have hl := rv.length
    refine wpAny_pyNext_enum_endD (Draws.tuple (prog := X.prog) (w := X.w) (A := X.A.in1) (I.ok.hd hc) it a n2 its.toArray) he (⟨?_, p⟩ : s.heap.IsTupleIter it a its.toArray.size ∧ _) fun h' eb => ?_
    · have e : its.toArray.size = i := by simp; omega
      rw [e]
      exact hit
    · obtain ⟨f0, f1, f2, f3, f4, f5⟩ := hf it (by simp)
      exact ⟨rfl, I.turned (t' := s.toks) (fun b o hb q => eb b o hb q) f0 f1 f3 f4 f5⟩
  self := fun A i s Q E st h => let ⟨⟨_, he⟩, _⟩ := st; wpAny_pyIter_enum he h
section
variable {X : Cx} {M : Amb X.K}
def iEnumA (K : PySem.W.Frag) (ta : TA) : TI := fun σ H R => ta σ H fun vs H1 => ∃ a xs, vs = [.ref a] ∧ ((SqL K H1 a xs ∧ R (Ite K a) H1) ∨ (SqT K H1 a xs ∧ R (IteT K a) H1))
theorem pi_enumA {e : Expr} {ta : TA} {p pos tpos : Pos} {elts : List Expr} {kk : Nat} (hg : Gl X "enumerate") (hm : X.mg "enumerate" = none) (ha : PA X [e] ta) (hs : starEach [e] X.env = [(false, eval e X.env)] := by rfl) :
    PI X (.Tuple elts kk tpos) (.Call (.Name "enumerate" p) [e] [] pos) (iEnumA X.K ta) := by
  refine ⟨fun pins s σ H R I h => Call_ (ld_blt I hg hm boot_enumerate (PyProof.Rows.callWith_type1 (thn (ha.run pos pins s σ H _ I h) fun us s1 ⟨vs, H1, I1, r1, q1⟩ => ?_) hs rfl))⟩
  obtain ⟨a, xs, rfl, q⟩ := q1
  obtain ⟨u, rfl, ru⟩ := vals1 r1
  cases ru
  have fin : ∀ {h' : Heap} {J : It} {tn : Nat → Heap → Prop}, (∀ b u, s1.heap.get? b = some u → h'.get? b = some u) → Turn X.prog X.w X.K (.Tuple elts kk tpos) J [s1.heap.objs.size + 1, s1.heap.objs.size] (s1.heap.objs.size + 1) tn → tn 0 h' → R J H1 →
      PIE X pins σ (.Tuple elts kk tpos) R (.ref (s1.heap.objs.size + 1)) { s1 with heap := h' } := fun {h' J tn} hk T st q => by
    refine ⟨_, _, tn, J, H1, rfl, I1.kept (t' := s1.toks) hk, T, st, fun b hb => ?_, q⟩
    have hle : s1.heap.objs.size ≤ b := by
      rcases List.mem_cons.mp hb with z | hb
      · rw [z]; exact Nat.le_add_right _ _
      · rw [List.mem_singleton.mp hb]; exact Nat.le_refl _
    exact I1.fpOk hle (I1.hok.fresh hle)
  rcases q with ⟨hq, q⟩ | ⟨hq, q⟩
  · obtain ⟨its, rv, p', hz⟩ := I1.list hq
    exact call_enumerate_list p'.isList fun h' he hit hsz hk => wpAny_pyIter_enum he (fin hk (turn_enum a _ _) ⟨⟨.none, he⟩, hit, Nat.succ_ne_self _⟩ q)
  · obtain ⟨its, rv, p', hz⟩ := I1.tuple hq
    have al : a < s1.heap.objs.size := by
      obtain ⟨o, ho, _⟩ := p'
      exact Heap.lt_size ho
    refine call_enum1 (begins_tuple a its.toArray) p' fun h' he hit hk => wpAny_pyIter_enum he (fin hk (turn_enumT a _ _) ⟨⟨.none, he⟩, ⟨_, hit, rfl, rfl⟩, Nat.succ_ne_self _, Nat.ne_of_lt al, Nat.ne_of_gt (Nat.lt_succ_of_lt al)⟩ q)
end
section
variable {K : PySem.W.Frag} {M : Amb K} {F0 : Hp}
theorem itOk_enumT {a : Addr} {vs : List V} {ds : List D} (h : SqT K F0 a vs) (dv : DVs K F0 vs ds) : ItOk M (IteT K a) (enumD ds) F0 := by
  intro H s
  have e := s.t h
  refine ⟨fun i hi => ?_, ⟨vs, e, by rw [dv.length]; simp [enumD]⟩, fun i x d H' Z ρ α F σ R0 sf y hd => ?_⟩
  · have hi' : i < vs.length := by rw [dv.length]; simpa [enumD] using hi
    exact ⟨vs, vs[i], e, by simp [hi']⟩
  · obtain ⟨T, z, rfl, hT, rfl, y⟩ := y
    obtain ⟨dz, hdz, dvz⟩ := dv.getV (y vs e)
    obtain ⟨r1, s1⟩ := R0.tuple (o := .tup [.int (i : Nat), z]) hT
    refine ⟨_, r1, s1, ?_⟩
    unfold enumD at hd
    rw [List.getElem?_map, List.getElem?_zipIdx, hdz] at hd
    cases hd
    simp only [Nat.zero_add]
    exact tup2 upd_same (.int _) ((dvz.mono sf).mono s1.sF)
end
section
variable {X : Cx} {M : Amb X.K}
theorem qi_enum {e : Expr} {p pos tpos : Pos} {elts : List Expr} {kk : Nat} {wa : WA M} (hm : X.mg "enumerate" = none) (ha : QA X M [e] wa) (hg : Gl X "enumerate" := by rfl) (hs : starEach [e] X.env = [(false, eval e X.env)] := by rfl) :
    QI X M (.Tuple elts kk tpos) (.Call (.Name "enumerate" p) [e] [] pos) (wIt gEnum wa) := by
  refine ⟨pi_weak (pi_enumA hg hm ha.run hs) fun σ H R' ⟨Z, ρ, α, F, Q, R0, w, k⟩ => ?_⟩
  refine ⟨Z, ρ, α, F, _, R0, w, fun vs ds ρ1 α1 F1 H1 R1 s1 cs q => ?_⟩
  rcases ds with _ | ⟨d, _ | ⟨d2, ds⟩⟩
  · exact q.elim
  · cases d <;> first | exact q.elim | skip
    · obtain ⟨v, rfl, dv⟩ := cs.one
      cases dv with
      | lst h t => exact ⟨_, _, rfl, .inl ⟨SqL.of (R1.sub _ _ h), k _ _ ρ1 α1 F1 H1 R1 s1 (itOk_enum h t) q⟩⟩
    · obtain ⟨v, rfl, dv⟩ := cs.one
      cases dv with
      | tup h t => exact ⟨_, _, rfl, .inr ⟨R1.sub.t (SqT.of h), k _ _ ρ1 α1 F1 H1 R1 s1 (itOk_enumT (SqT.of h) t) q⟩⟩
  · cases d <;> exact q.elim
end
end DL
set_option maxHeartbeats 4000000
namespace DL
open PySem PySem.Spec L2
open PyProof.Rows hiding St

/-! ### a law's end over a def that may print data -/
section
variable {P : Program} {w : World} {K : PySem.W.Frag} {mg mb : Str → Option Value} {k : Nat} {fa a : Addr} {fd : FuncData} {x : Str} {sp : Sp} {s1 : Shared} {vs : List Value} {ns : List Int}
abbrev Good (s1 : Shared) (r : Result) (s' : Shared) : Prop := r = .ok (.ret (.bool true)) ∧ OldK s1.heap s'.heap ∧ s'.os = s1.os ∧ AllBare s'.gens
theorem end_at {H : Hp} (hS : SqL K H a (ns.map V.int)) (hok : HOk P w H s1.heap) (only : ∀ b u, H b = some u → b = a ∧ ∃ o xs, u = .frz o (.lst xs)) (hK : H a ≠ none → K.lookup a = none)
    (kin : K.In s1.heap) (ng : s1.heap.Ns mainGlobals mg) (nb : s1.heap.Ns builtinsNs mb) (hbb : ∀ x : Str, x ≠ "__name__" → mb x = bootBuiltins x) (lim : s1.heap.NoLimit) (gens : s1.gens = #[])
    (ha : s1.heap.get? a = some { cls := .type "list", data := .seq vs.toArray }) (hr : Room k callerA)
    (F : ∀ base : Heap, K.In base → base.Ns mainGlobals mg → FnG P w K mg base k fa fd [x] sp) (hbind : ∀ (s : Shared) (u : Value), BindsTo s fd ⟨[u], []⟩ [(x, u)])
    (hsp : sp [.ref a] H (fun v _ => v = .bl true) E0) : codeAny (model P w) callerA (.call (.ref fa) ⟨[.ref a], []⟩) (Good s1) s1 := by
  have stands : ∀ {b : Addr} {o : Obj}, s1.heap.get? b = some o → H b = none → (hidT s1.heap H).get? b = some o :=
    fun e n => hidT_get e n
  have dicts : ∀ {b : Addr} {o : Obj} {es : Array DictEntry} {n : Nat}, s1.heap.get? b = some o → o.data = .dict es n → H b = none := by
    intro b o es n e d
    rcases none_or H b with q | q
    · exact q
    · obtain ⟨u, q⟩ := somehow q
      obtain ⟨rfl, _⟩ := only b u q
      rw [ha] at e
      cases e
      cases d
  have names : ∀ {b : Addr} {m : Str → Option Value}, s1.heap.Ns b m → (hidT s1.heap H).Ns b m := by
    rintro b m ⟨o, es, n, e, d, r⟩
    exact ⟨o, es, n, stands e (dicts e d), d, r⟩
  have kinB : K.In (hidT s1.heap H) := by
    intro b o e
    refine stands (kin b o e) ((none_or H b).elim id fun q => ?_)
    obtain ⟨u, q'⟩ := somehow q
    obtain ⟨rfl, _⟩ := only b u q'
    have := hK q
    rw [this] at e
    cases e
  have mod : Mod K mg (hidT s1.heap H) := by
    obtain ⟨mc, l1, l2⟩ := lim
    exact ⟨kinB, names ng, ⟨mb, names nb, hbb⟩, mc, names l1, l2⟩
  have env : Env0 P w K mg (hidT s1.heap H) callerA [] s1 H := by
    refine ⟨rfl, mod, fun b o e => of_hidT e, Nat.le_of_eq (hidT_size _ _), trivial, fun b hb => ?_, hok, .of_eq gens⟩
    exact absurd (show b ∈ ([] : List Addr) from hb) List.not_mem_nil
  have run := (F _ kinB (names ng)).run callerA [] s1 H ⟨[.ref a], []⟩ [.ref a] [.ref a] _ E0 hr rfl env (hbind s1 (.ref a)) (.cons rfl .nil) hsp
  refine codeAny_mono run fun r s' h => ?_
  match r, h with
  | .error e, h => exact h.elim
  | .ok (.ret u), h =>
    obtain ⟨v, H', os, bare, un, hok', rv, q⟩ := h
    cases q
    cases rv
    refine ⟨rfl, .of_keep fun b o e => ?_, os, bare⟩
    rcases none_or H b with q | q
    · exact un.keep b o e q (by show b ∉ ([] : List Addr); exact List.not_mem_nil) List.not_mem_nil
    · obtain ⟨u, q⟩ := somehow q
      obtain ⟨rfl, ob, xs, rfl⟩ := only b u q
      have h1 := (hok b _ q).1
      have h2 := (hok' b _ (un.frzs b ob _ q)).1
      rw [e] at h1
      cases h1
      exact h2
theorem end_call (kin : K.In s1.heap) (ng : s1.heap.Ns mainGlobals mg) (nb : s1.heap.Ns builtinsNs mb) (hbb : ∀ x : Str, x ≠ "__name__" → mb x = bootBuiltins x) (lim : s1.heap.NoLimit) (gens : s1.gens = #[])
    (ha : s1.heap.get? a = some { cls := .type "list", data := .seq vs.toArray }) (hi : IntsAre vs ns) (hl : ns.length ≤ sizeLine) (hr : Room k callerA)
    (F : ∀ base : Heap, K.In base → base.Ns mainGlobals mg → FnG P w K mg base k fa fd [x] sp) (hbind : ∀ (s : Shared) (u : Value), BindsTo s fd ⟨[u], []⟩ [(x, u)])
    (hsp : ∀ H : Hp, SqL K H a (ns.map V.int) → sp [.ref a] H (fun v _ => v = .bl true) E0) : codeAny (model P w) callerA (.call (.ref fa) ⟨[.ref a], []⟩) (Good s1) s1 := by
  have rv := vals_ints hi
  have lv := hi.length
  cases hk : K.lookup a with
  | some o =>
    have e := kin a o hk
    rw [ha] at e
    cases e
    have sq : SqL K (fun _ => none) a (ns.map V.int) := .inr ⟨_, vs.toArray, _, hk, rfl, rfl, rfl, by rw [List.size_toArray, lv]; exact hl, by simpa using rv⟩
    exact end_at sq (fun b u z => by cases (show (none : Option HO) = some u from z)) (fun b u z => by cases (show (none : Option HO) = some u from z)) (fun z => absurd rfl z) kin ng nb hbb lim gens ha hr F hbind (hsp _ sq)
  | none =>
    have only : ∀ b u, (fun b => if b = a then some (HO.frz { cls := .type "list", data := .seq vs.toArray } (.lst (ns.map V.int))) else none) b = some u → b = a ∧ u = .frz { cls := .type "list", data := .seq vs.toArray } (.lst (ns.map V.int)) := by
      intro b u z
      by_cases hb : b = a
      · exact ⟨hb, (Option.some.inj ((if_pos hb).symm.trans z)).symm⟩
      · cases (if_neg hb).symm.trans z
    have sq : SqL K (fun b => if b = a then some (HO.frz { cls := .type "list", data := .seq vs.toArray } (.lst (ns.map V.int))) else none) a (ns.map V.int) := .inl (.inr ⟨_, if_pos rfl⟩)
    refine end_at sq (fun b u z => ?_) (fun b u z => ⟨(only b u z).1, _, _, (only b u z).2⟩) (fun _ => hk) kin ng nb hbb lim gens ha hr F hbind (hsp _ sq)
    obtain ⟨rfl, rfl⟩ := only b u z
    exact ⟨ha, by rw [List.length_map]; exact hl, vs, _, rv, ha⟩
end
/-- the goal that the head leaves, from the law's own promise -/
theorem walk_end {l : PySem.W.OpenLaw} {n k : Nat} {q : Program} {loose : List Str} {XP : (Str → Option Value) → Heap → Prop} {YP : World → Heap → Prop} {d : DefRec} {K : Params → PySem.W.Frag} {sp : World → Sp} {x : Str}
    (hn : l.most = some n) (hn2 : n ≤ sizeLine) (hdf : d.params.defaults = []) (hr : Room k callerA) (hY : ∀ (w : World) (h : Heap), YP w h → (K w.params).In h)
    (F : ∀ (w : World) (mg : Str → Option Value) (fa : Addr) (h : Heap), (K w.params).In h → h.Ns mainGlobals mg → mg d.name = some (.ref fa) →
      ∃ fd : FuncData, (∀ (s : Shared) (u : Value), BindsTo s fd ⟨[u], []⟩ [(x, u)]) ∧ ∀ base : Heap, (K w.params).In base → base.Ns mainGlobals mg → FnG l.prog w (K w.params) mg base k fa fd [x] (sp w))
    (hsp : ∀ (w : World) (H : Hp) (a : Addr) (ns : List Int), ns.length ≤ n → SqL (K w.params) H a (ns.map V.int) → sp w [.ref a] H (fun v _ => v = .bl true) E0) :
    PySem.W.WalkO q loose XP YP l.row.toRowW d [] (fun f vs => PySem.call f vs) := by
  refine Att.attach_call hn hdf fun w s0 s1 mg mb fa o pm cd doc a vs ns G Y ho hd hcd hmg hobj hints hlen hg => ?_
  have kx := hY w s1.heap Y
  obtain ⟨fd, hb, hF⟩ := F w mg fa s1.heap kx G.T.g hmg
  exact end_call kx G.T.g G.T.b G.T.builtins G.T.nolimit hg hobj hints (Nat.le_trans hlen hn2) hr hF hb fun H hS => hsp w H a ns hlen hS
end DL
set_option maxHeartbeats 4000000
namespace DL
open PySem PySem.Spec L2
open PyProof.Rows hiding St

/-! ### a list of three that several defs change: numbers drawn from, how many were taken, what is left -/
structure Pen where
  p : Addr
  cells : List Int
  at_ : Int
  cur : Int
/-- a table of code objects (of lambdas): each that it tells stands still and bears the name -/
def TabF (F H : Hp) (p : Addr × Str) : Prop := ∃ ps : Array Value, H p.1 = some (.tbl ps) ∧ TriplesOk ps.toList ∧ ∀ (pos : Pos) (cv : Value), codeAmong pos ps.toList = some cv → ∃ c, cv = .ref c ∧ F c = some (LamX.CodeO c p.2)
theorem TabF.stay {F H F' H' : Hp} {p : Addr × Str} (t : TabF F H p) (sF : Sub F F') (k : ∀ o, H p.1 = some o → H' p.1 = some o) : TabF F' H' p := by
  obtain ⟨ps, h1, h2, h3⟩ := t
  refine ⟨ps, k _ h1, h2, fun pos cv e => ?_⟩
  obtain ⟨c, e1, e2⟩ := h3 pos cv e
  exact ⟨c, e1, sF _ _ e2⟩
def isTab (a : Addr) : Prop := ∃ p ∈ tabT, p.1 = a
def penAmb (K : PySem.W.Frag) : Amb K where
  S := Option Pen
  ok s F H := (match s with
    | none => True
    | some q => ∃ v, H q.p = some (.lst [v, .int q.at_, .int q.cur]) ∧ DV K F v (.lst (q.cells.map D.int))) ∧ ∀ p ∈ tabT, TabF F H p
  fp s a := (match s with
    | none => False
    | some q => a = q.p) ∨ isTab a
  stay s F H F' H' h sF k := by
    refine ⟨?_, fun p hp => (h.2 p hp).stay sF fun o e => k _ _ (.inr ⟨p, hp, rfl⟩) e⟩
    cases s with
    | none => trivial
    | some q =>
      obtain ⟨v, h1, h2⟩ := h.1
      exact ⟨v, k _ _ (.inl rfl) h1, h2.mono sF⟩
  live s F H b h hb := by
    rcases hb with hb | ⟨p, hp, e⟩
    · cases s with
      | none => exact hb.elim
      | some q =>
        obtain ⟨v, h1, _⟩ := h.1
        cases hb
        rw [h1]
        simp
    · obtain ⟨ps, h1, _⟩ := h.2 p hp
      rw [← e, h1]
      simp
  nt s F H b vs h hb := by
    rcases hb with hb | ⟨p, hp, e⟩
    · cases s with
      | none => exact hb.elim
      | some q =>
        obtain ⟨v, h1, _⟩ := h.1
        cases hb
        rw [h1]
        simp
    · obtain ⟨ps, h1, _⟩ := h.2 p hp
      rw [← e, h1]
      simp
def Pen.fld (q : Pen) : Nat → D
  | 0 => .lst (q.cells.map D.int)
  | 1 => .int q.at_
  | _ => .int q.cur
def Pen.put (q : Pen) : Nat → Int → Pen
  | 1, n => { q with at_ := n }
  | _, n => { q with cur := n }
/-- some takes later -/
def Adv (q : Pen) (c : Int) (q' : Pen) : Prop := q'.p = q.p ∧ q.at_ ≤ q'.at_ ∧ q'.at_ ≤ q.at_ + c
theorem Adv.refl {q : Pen} : Adv q 0 q := ⟨rfl, Int.le_refl _, by omega⟩
theorem Adv.trans {q q' q2 : Pen} {c c' : Int} (a : Adv q c q') (b : Adv q' c' q2) : Adv q (c + c') q2 := by
  obtain ⟨a1, a2, a3⟩ := a
  obtain ⟨b1, b2, b3⟩ := b
  exact ⟨b1.trans a1, by omega, by omega⟩
theorem Adv.le {q q' : Pen} {c c' : Int} (a : Adv q c q') (h : c ≤ c') : Adv q c' q' := ⟨a.1, a.2.1, by have := a.2.2; omega⟩
section
variable {X : Cx}
def wPenRd {K : PySem.W.Frag} (i j : Nat) : WE (penAmb K) := fun E Q => match E.2 with
  | some q => E.1[i]? = some (some (.d (.obj q.p))) ∧ Q (.fr (q.fld j)) E
  | none => False
theorem pen_slot {Z : Base (penAmb X.K)} {ρ : List (Option B)} {q : Pen} {F H : Hp} {σ : L2.St} {i : Nat} (R0 : Rel (penAmb X.K) Z ρ (some q) F σ H) (e : ρ[i]? = some (some (.d (.obj q.p)))) : σ[i]? = some (some (.ref q.p)) := by
  obtain ⟨v, h1, h2⟩ := R0.val i _ e
  cases h2
  exact h1
theorem pen_at {Z : Base (penAmb X.K)} {ρ : List (Option B)} {q : Pen} {F H : Hp} {σ : L2.St} (R0 : Rel (penAmb X.K) Z ρ (some q) F σ H) : ∃ v, H q.p = some (.lst [v, .int q.at_, .int q.cur]) ∧ DV X.K F v (.lst (q.cells.map D.int)) := R0.amb.1
theorem qe_penrd {i j : Nat} {x : Str} {p p2 pos : Pos} {kk} (hj : j < 3) (hx : PE X (.Name x p) (tVar i)) (hs : PlainIx (.Constant (.int (j : Int)) kk p2) := by exact fun _ _ => rfl) : QE X (penAmb X.K) (.Subscript (.Name x p) (.Constant (.int (j : Int)) kk p2) pos) (wPenRd i j) := by
  refine ⟨pe_weak (pe_ix ix_list hx pe_int hs) fun σ H Q' ⟨Z, ρ, α, F, Q, R0, w, k⟩ => ?_⟩
  cases α with
  | none => exact w.elim
  | some q =>
    obtain ⟨e, w⟩ := w
    obtain ⟨v, h1, h2⟩ := pen_at R0
    refine ⟨.ref q.p, pen_slot R0 e, q.p, _, (j : Int), [v, .int q.at_, .int q.cur].getD j .non, rfl, rfl, SqL.of h1, atI_nat ?_, k _ (.fr (q.fld j)) ρ (some q) F H R0 .refl ?_ w⟩
    · rcases j with _ | _ | _ | j
      · rfl
      · rfl
      · rfl
      · omega
    · rcases j with _ | _ | _ | j
      · exact h2
      · exact .int _
      · exact .int _
      · omega
theorem Rel.pen {Z : Base (penAmb X.K)} {ρ : List (Option B)} {q : Pen} {F H : Hp} {σ : L2.St} {v : V} {n m : Int} (R0 : Rel (penAmb X.K) Z ρ (some q) F σ H) (h : H q.p = some (.lst [v, .int q.at_, .int q.cur])) (dv : DV X.K F v (.lst (q.cells.map D.int))) :
    Rel (penAmb X.K) Z ρ (some { q with at_ := n, cur := m }) F σ (upd H q.p (.lst [v, .int n, .int m])) := by
  have nf : F q.p = none := R0.ambF q.p (.inl rfl)
  refine ⟨R0.sub.upd nf, R0.len, R0.val, fun i b e ow => ?_, R0.dis, ⟨⟨v, upd_same, dv⟩, fun p hp => (R0.amb.2 p hp).stay (Sub.refl _) fun o e => ?_⟩, R0.ambF, R0.bF, fun b u e n => ?_, R0.bN, fun b hb => ?_, R0.bZ⟩
  · obtain ⟨a, o, h1, h2, h3, h4, h5, h6⟩ := R0.own i b e ow
    have na : a ≠ q.p := fun z => h5 (.inl z)
    exact ⟨a, o, h1, by rw [upd_ne na]; exact h2, h3, h4, h5, h6⟩
  · obtain ⟨ps, h1, _⟩ := R0.amb.2 p hp
    have np : p.1 ≠ q.p := fun z => by
      rw [z, h] at h1
      cases h1
    rw [upd_ne np]
    exact e
  · have nb : b ≠ q.p := fun z => by
      rcases R0.bN b (.inl z) with h | h
      · exact n h
      · rw [e] at h; cases h
    rw [upd_ne nb]
    exact R0.bH b u e n
  · by_cases z : b = q.p
    · rw [z, upd_same]; simp
    · rw [upd_ne z]; exact R0.bT b hb
def wPenWr {K : PySem.W.Frag} (i j : Nat) (w : WE (penAmb K)) : WS (penAmb K) := fun D E => w E fun r E1 => asI r.c fun n => match E1.2 with
  | some q => E1.1[i]? = some (some (.d (.obj q.p))) ∧ D.nx (E1.1, some (q.put j n))
  | none => False
theorem qs_penwr {i j : Nat} {x : Str} {p p2 tpos pos : Pos} {kk} {e : Expr} {w : WE (penAmb X.K)} (hj : j = 1 ∨ j = 2) (hx : PE X (.Name x p) (tVar i)) (he : QE X (penAmb X.K) e w)
    (ha : ∀ v, assign (.Subscript (.Name x p) (.Constant (.int (j : Int)) kk p2) tpos) X.env v = (do
      let ov ← holding [v] (eval (.Name x p) X.env)
      let iv ← holding [v, ov] (eval (.Constant (.int (j : Int)) kk p2) X.env)
      standAt tpos
      holding [v, ov, iv] (setItem ov iv v)
      release [v, ov, iv] []) := by intro _; rfl)
    (hs : swapsWithSole [.Subscript (.Name x p) (.Constant (.int (j : Int)) kk p2) tpos] e pos.line X.env = pure false := by rfl) (hw : swappedStores [.Subscript (.Name x p) (.Constant (.int (j : Int)) kk p2) tpos] e X.env = pure none := by rfl)
    (h1 : (assignEach [.Subscript (.Name x p) (.Constant (.int (j : Int)) kk p2) tpos] X.env).map (·.2) = [assign (.Subscript (.Name x p) (.Constant (.int (j : Int)) kk p2) tpos) X.env] := by rfl) :
    QS X (penAmb X.K) (.Assign [.Subscript (.Name x p) (.Constant (.int (j : Int)) kk p2) tpos] e pos) (wPenWr i j w) := by
  refine ⟨ps_weak (ps_asg he.run (pg_sub hx pe_int set_list ha) hs hw h1) fun D' σ H ⟨Z, ρ, α, F, D, R0, w, k1, k2, k3, k4⟩ => ?_⟩
  refine ⟨Z, ρ, α, F, _, R0, w, fun v r ρ1 α1 F1 H1 R1 s1 rv q => ?_⟩
  obtain ⟨n, en, q⟩ := asI_ok q
  have c := rv.cv R1
  rw [en] at c
  have cv := c.int
  subst cv
  cases α1 with
  | none => exact q.elim
  | some pn =>
    obtain ⟨e, q⟩ := q
    obtain ⟨u, g1, g2⟩ := pen_at R1
    rcases hj with rfl | rfl
    · refine ⟨.ref pn.p, pen_slot R1 e, pn.p, _, 1, 1, rfl, rfl, g1, rfl, k1 ρ1 _ F1 σ _ (R1.pen (n := n) (m := pn.cur) g1 g2) q⟩
    · refine ⟨.ref pn.p, pen_slot R1 e, pn.p, _, 2, 2, rfl, rfl, g1, rfl, k1 ρ1 _ F1 σ _ (R1.pen (n := pn.at_) (m := n) g1 g2) q⟩
/-- from here on the list of slot i is the pen -/
def wLend {K : PySem.W.Frag} (i : Nat) (w : WS (penAmb K)) : WS (penAmb K) := fun D E => match E.1[i]?, E.2 with
  | some (some (.l [.lst cs, .int n, .int m])), none => ∃ ns, cs = ns.map DL.D.int ∧ ∀ a, w D (E.1.set i (some (.d (.obj a))), some ⟨a, ns, n, m⟩)
  | _, _ => False
theorem qs_lend {i : Nat} {sts : List Stmt} {w : WS (penAmb X.K)} (h : QSs X (penAmb X.K) sts w) : QSs X (penAmb X.K) sts (wLend i w) := by
  refine ⟨pss_weak h.run fun D' σ H ⟨Z, ρ, α, F, D, R0, w, k⟩ => ?_⟩
  unfold wLend at w
  split at w
  · rename_i cs n m e1 e2
    obtain ⟨ns, rfl, w⟩ := w
    have e2 : α = none := e2
    subst e2
    obtain ⟨a, o, h1, h2, h3, h4, h5, h6⟩ := R0.own i _ e1 rfl
    obtain ⟨vs, rfl⟩ : ∃ vs, o = .lst vs := by
      cases o <;> first | exact ⟨_, rfl⟩ | exact h3.elim
    have h3 : DVs X.K F vs [.lst (ns.map DL.D.int), .int n, .int m] := h3
    obtain ⟨v, rfl, dv⟩ : ∃ v, vs = [v, .int n, .int m] ∧ DV X.K F v (.lst (ns.map DL.D.int)) := by
      cases h3 with
      | cons a t => cases t with
        | cons b t => cases t with
          | cons c t =>
            cases t
            cases b
            cases c
            exact ⟨_, rfl, a⟩
    have R1 := R0.clear i (some (.ref a))
    have eσ : σ.set i (some (V.ref a)) = σ := by
      refine List.ext_getElem? fun j => ?_
      by_cases e : i = j
      · subst e
        rw [List.getElem?_set_self (List.getElem?_eq_some_iff.mp h1).1, h1]
      · rw [List.getElem?_set_ne e]
    rw [eσ] at R1
    have R2 : Rel (penAmb X.K) Z (ρ.set i none) (some ⟨a, ns, n, m⟩) F σ H := by
      refine ⟨R1.sub, R1.len, R1.val, fun j b e ow => ?_, R1.dis, ⟨⟨v, h2, dv⟩, R1.amb.2⟩, fun b hb => ?_, R1.bF, R1.bH, fun b hb => ?_, R1.bT, R1.bZ⟩
      · obtain ⟨a', o', g1, g2, g3, g4, g5, g6⟩ := R1.own j b e ow
        refine ⟨a', o', g1, g2, g3, g4, fun z => ?_, g6⟩
        rcases z with z | z
        rotate_left
        · exact g5 (.inr z)
        have z : a' = a := z
        subst z
        rcases set_get e with ⟨_, q⟩ | ⟨nj, q⟩
        · cases q
        · exact nj (R0.dis j i b _ a' q ow e1 rfl g1 h1)
      · rcases hb with hb | hb
        · have hb : b = a := hb
          rw [hb]; exact h4
        · exact R1.ambF b (.inr hb)
      · rcases hb with hb | hb
        · have hb : b = a := hb
          rw [hb]; exact .inr h6
        · rcases R1.bN b (.inr hb) with z | z
          · exact .inl z
          · exact .inr z
    have R3 := R2.putD i (DV.obj (K := X.K) (F := F) a)
    rw [List.set_set, eσ] at R3
    exact ⟨Z, _, _, F, D, R3, w a, k⟩
  · exact w.elim
end
theorem qe_gint {X : Cx} {M : Amb X.K} {x : Str} {i : Int} {pos : Pos} (h : ∃ t, X.mg x = some (.int i t)) (hg : Gl X x := by rfl) (hd : (x == ("__debug__" : Str)) = false := by decide) : QE X M (.Name x pos) (wC (.int i)) := by
  obtain ⟨t, h⟩ := h
  exact qe_glob (v := .int i) (d := .int i) h ⟨t, rfl⟩ (fun _ => .int i) hg hd
end DL
set_option maxHeartbeats 4000000
namespace DL
open PySem PySem.Spec L2
open PyProof.Rows hiding St
section
variable {X : Cx} {M : Amb X.K}
theorem rngV_dvs {K : PySem.W.Frag} {F : Hp} (a b : Int) : DVs K F (rgV a b) (rngD a (b - a).toNat) := by
  unfold rgV rngD
  generalize List.range (b - a).toNat = l
  induction l with
  | nil => exact .nil
  | cons n l ih => exact .cons (.int _) ih
/-- list(range(a, b)) -/
def wLRg {K : PySem.W.Frag} {M : Amb K} (wa wb : WE M) : WE M := fun E Q => wa E fun ra E1 => wb E1 fun rb E2 => asI ra.c fun i => asI rb.c fun j => RgOk i j ∧ Q (.nw (.l (rngD i (j - i).toNat))) E2
theorem qe_lrg {a b : Expr} {p p2 pos2 pos : Pos} {wa wb : WE M} (hml : X.mg "list" = none) (hm : X.mg "range" = none) (ha : QE X M a wa) (hb : QE X M b wb) (hg : Gl X "list" := by rfl) (hg2 : Gl X "range" := by rfl) (hc : X.calm = true := by rfl)
    (na : starEach [a, b] X.env = (false, eval a X.env) :: starEach [b] X.env := by rfl) (nb : starEach [b] X.env = (false, eval b X.env) :: starEach [] X.env := by rfl) (hp : (backTo pos2 (starEach [b] X.env)).any (·.1) = false := by rfl)
    (nc : starEach [.Call (.Name "range" p2) [a, b] [] pos2] X.env = (false, eval (.Call (.Name "range" p2) [a, b] [] pos2) X.env) :: starEach [] X.env := by rfl) :
    QE X M (.Call (.Name "list" p) [.Call (.Name "range" p2) [a, b] [] pos2] [] pos) (wLRg wa wb) := by
  refine ⟨pe_weak (pe_listRg hc hg hml (prg_2 hg2 hm ha.run hb.run na nb hp) nc) fun σ H Q' ⟨Z, ρ, α, F, Q, R0, w, k⟩ => ?_⟩
  refine two R0 w fun x y ra rb ρ2 α2 F2 H2 R2 s2 c1 c2 q => ?_
  obtain ⟨i, e1, q⟩ := asI_ok q
  obtain ⟨j, e2, h1, q⟩ := asI_ok q
  rw [e1] at c1
  rw [e2] at c2
  refine ⟨i, j, c1.int, c2.int, h1, fun p hp => ?_⟩
  obtain ⟨r3, s3⟩ := R2.laid (o := .lst (rgV i j)) hp
  exact k _ _ ρ2 α2 F2 _ r3 (s2.trans s3) ((RV.list R2 hp (rngV_dvs i j)).back s2.sT) q
/-- t * n -/
def gMulT : D → D → (R → Prop) → Prop
  | .tup xs, .int n, Q => xs ≠ [] ∧ 2 ≤ n ∧ n ≤ 1000 ∧ xs.length ≤ 1000 ∧ Q (.fr (.tup (List.replicate n.toNat xs).flatten))
  | _, _, _ => False
theorem o_mulT : O2 X M (binaryOp .Mult) gMulT := by
  refine ⟨_, op_repT, ?_⟩
  intro Z ρ α F σ H x y dx dy Q P R0 c1 c2 q k
  cases dx <;> cases dy <;> first | exact q.elim | skip
  case tup.int xs n =>
    obtain ⟨a, vs, rfl, ha, da⟩ := c1.tup R0
    obtain ⟨q1, q2, q3, q4, q⟩ := q
    refine ⟨a, n, vs, rfl, c2.int, R0.sub.t ha, fun e => q1 ?_, q2, q3, by rw [da.length]; exact q4, fun p hp => ?_⟩
    · have := da.length
      rw [e] at this
      exact List.eq_nil_of_length_eq_zero this.symm
    obtain ⟨r2, s2⟩ := R0.tuple (o := .tup (List.replicate n.toNat vs).flatten) hp
    exact k _ _ _ _ r2 s2 (RV.mk (.tup upd_same ((da.rep _).mono s2.sF))) q
/-- texts compared -/
def gNeS : D → D → (R → Prop) → Prop
  | .str x, .str y, Q => Q (.fr (.bl (!(x == y))))
  | _, _, _ => False
theorem o_neS : O2 X M (compareOp .NotEq) gNeS := by
  refine ⟨_, op_ne, ?_⟩
  intro Z ρ α F σ H x y dx dy Q P R0 c1 c2 q k
  cases dx <;> cases dy <;> first | exact q.elim | skip
  case str.str s t =>
    have e1 := c1.str
    have e2 := c2.str
    subst e1 e2
    refine ⟨rfl, ?_⟩
    rw [dec_str]
    exact k _ _ F H R0 .refl (RV.mk (.bl _)) q
end
end DL
set_option maxHeartbeats 4000000
namespace DL
open PySem PySem.Spec L2
open PyProof.Rows hiding St
section
variable {P : Program} {w : World} {K : PySem.W.Frag} {mg : Str → Option Value} {base : Heap}
/-- a promise that nobody can ask for -/
theorem ok_none {M : Amb K} {x : Str} {st : Stmt} {ps : List Str} {C : Ct M} (F : Def K mg x st ps) (h : ∀ ds α Q, ¬ C ds α Q) : Ok P w K mg base M x 0 ps.length C := by
  obtain ⟨f, fd, h1, h2, h3⟩ := F.ex
  refine ⟨f, fd, ps, h1, h2.kp, h3, rfl, fun vs H Q E q => q.1, fun A outer s H args us vs Q E _ _ _ _ _ q => ?_⟩
  obtain ⟨_, F0, ds, α, Qd, _, _, _, _, hC, _⟩ := q
  exact absurd hC (h _ _ _)
/-- what every law here promises: the script in, True out -/
def P_law {K : PySem.W.Frag} : Ct (penAmb K) := fun ds α Q => ∃ ns, ds = [.seq ns] ∧ α = none ∧ ∀ α', Q (.fr (.bl true)) α'
/-- what may stand still at the entry: all but the tables -/
def noT (H : Hp) : Hp := fun b => if (tabT.any fun p => p.1 == b) = true then none else H b
theorem noT_tab {H : Hp} {b : Addr} (h : isTab b) : noT H b = none := by
  obtain ⟨p, hp, e⟩ := h
  exact if_pos (List.any_eq_true.mpr ⟨p, hp, by rw [e]; exact beq_self_eq_true b⟩)
theorem noT_sub {H : Hp} : Sub (noT H) H := fun b o e => by
  unfold noT at e
  split at e
  · cases e
  · exact e
theorem noT_other {H : Hp} {b : Addr} {o : HO} (hT : ∀ p ∈ tabT, H p.1 = some (.tbl #[])) (e : H b = some o) (n : o ≠ .tbl #[]) : noT H b = some o := by
  refine (if_neg fun z => ?_).trans e
  obtain ⟨p, hp, q⟩ := List.any_eq_true.mp z
  have q : p.1 = b := beq_iff_eq.mp q
  have t := hT p hp
  rw [q, e] at t
  exact n (Option.some.inj t)
theorem law_spT {H : Hp} {a : Addr} {ns : List Int} (hT : ∀ p ∈ tabT, H p.1 = some (.tbl #[])) (hS : SqL K H a (ns.map V.int)) : spD (penAmb K) 1 P_law [.ref a] H (fun v _ => v = .bl true) E0 := by
  have hS' : SqL K (noT H) a (ns.map V.int) := by
    rcases hS with (h | ⟨o, h⟩) | h
    · exact .inl (.inl (noT_other hT h nofun))
    · exact .inl (.inr ⟨o, noT_other hT h nofun⟩)
    · exact .inr h
  refine ⟨rfl, noT H, [.seq ns], none, fun r _ => r = .fr (.bl true), noT_sub, .cons (.seq hS') .nil, ⟨trivial, fun p hp => ⟨#[], hT p hp, True.intro, fun pos cv z => ?_⟩⟩, fun b h => h.elim (fun z => z.elim) noT_tab, ⟨ns, rfl, rfl, fun _ => rfl⟩, fun v r α' F' H' _ rv e => ?_⟩
  · have z : codeAmong pos [] = some cv := z
    simp [codeAmong] at z
  · subst e
    cases rv
    rfl
end
/-! ### the end, with tables of code objects -/
section
variable {P : Program} {w : World} {K : PySem.W.Frag} {mg mb : Str → Option Value} {k : Nat} {fa a : Addr} {fd : FuncData} {x : Str} {sp : Sp} {s1 : Shared} {vs : List Value} {ns : List Int} {cs : List (Addr × Addr)}
abbrev tab0 : Obj := { cls := .none, data := .fields #[] }
theorem end_atT {H : Hp} (hS : SqL K H a (ns.map V.int)) (hok : HOk P w H s1.heap) (only : ∀ b u, H b = some u → (b = a ∧ ∃ o xs, u = .frz o (.lst xs)) ∨ ∃ p ∈ cs, p.2 = b ∧ u = .tbl #[]) (hH : ∀ p ∈ cs, H p.2 = some (.tbl #[])) (hK : H a ≠ none → K.lookup a = none)
    (hT : ∀ p ∈ cs, s1.heap.get? p.2 = some tab0) (nT : ∀ p ∈ cs, K.lookup p.2 = none) (C : ∀ p ∈ cs, PySem.W.CodeHd s1.heap p.1 p.2)
    (hbm : ∃ (bm : Addr) (ob : Obj), mg "__builtins__" = some (.ref bm) ∧ bm ≠ builtinsNs ∧ s1.heap.get? bm = some ob ∧ ob.cls = .type "module" ∧ ob.dict = some builtinsNs ∧ ob.data = .plain)
    (kin : K.In s1.heap) (ng : s1.heap.Ns mainGlobals mg) (nb : s1.heap.Ns builtinsNs mb) (hbb : ∀ x : Str, x ≠ "__name__" → mb x = bootBuiltins x) (lim : s1.heap.NoLimit) (gens : s1.gens = #[])
    (ha : s1.heap.get? a = some { cls := .type "list", data := .seq vs.toArray }) (hr : Room k callerA)
    (F : ∀ base : Heap, K.In base → base.Ns mainGlobals mg → (∀ p ∈ cs, LamX.TabB base mg p.1 p.2) → FnG P w K mg base k fa fd [x] sp) (hbind : ∀ (s : Shared) (u : Value), BindsTo s fd ⟨[u], []⟩ [(x, u)])
    (hsp : sp [.ref a] H (fun v _ => v = .bl true) E0) : codeAny (model P w) callerA (.call (.ref fa) ⟨[.ref a], []⟩) (Good s1) s1 := by
  have stands : ∀ {b : Addr} {o : Obj}, s1.heap.get? b = some o → H b = none → (hidT s1.heap H).get? b = some o := fun e n => hidT_get e n
  -- what is neither a list nor an empty table is not tracked
  have apart : ∀ {b : Addr} {o : Obj}, s1.heap.get? b = some o → (∀ xs n, o.data ≠ .seq xs n) → o.data ≠ .fields #[] → H b = none := by
    intro b o e n1 n2
    rcases none_or H b with q | q
    · exact q
    · obtain ⟨u, q⟩ := somehow q
      rcases only b u q with ⟨rfl, _⟩ | ⟨p, hp, rfl, _⟩
      · rw [ha] at e
        cases e
        exact absurd rfl (n1 _ _)
      · rw [hT p hp] at e
        cases e
        exact absurd rfl n2
  have names : ∀ {b : Addr} {m : Str → Option Value}, s1.heap.Ns b m → (hidT s1.heap H).Ns b m := by
    rintro b m ⟨o, es, n, e, d, r⟩
    exact ⟨o, es, n, stands e (apart e (fun _ _ z => by rw [d] at z; cases z) fun z => by rw [d] at z; cases z), d, r⟩
  have kinB : K.In (hidT s1.heap H) := by
    intro b o e
    refine stands (kin b o e) ((none_or H b).elim id fun q => ?_)
    obtain ⟨u, q'⟩ := somehow q
    rcases only b u q' with ⟨rfl, _⟩ | ⟨p, hp, rfl, _⟩
    · rw [hK q] at e
      cases e
    · rw [nT p hp] at e
      cases e
  have mod : Mod K mg (hidT s1.heap H) := by
    obtain ⟨mc, l1, l2⟩ := lim
    exact ⟨kinB, names ng, ⟨mb, names nb, hbb⟩, mc, names l1, l2⟩
  have noG : ∀ {b : Addr} {o : Obj}, s1.heap.get? b = some o → (∀ es n, o.data ≠ .dict es n) → b ≠ mainGlobals := by
    rintro b o e n rfl
    obtain ⟨o', es, k', e', d, _⟩ := ng
    rw [e'] at e
    cases e
    exact n _ _ d
  have TB : ∀ p ∈ cs, LamX.TabB (hidT s1.heap H) mg p.1 p.2 := by
    intro p hp
    have t := hT p hp
    refine ⟨?_, ?_, fun z => noG t nofun z.symm⟩
    · obtain ⟨o, us, f1, f2, f3, f4, f5, f6, f7, e1, r1, r2, r3, rest⟩ := C p hp
      refine ⟨o, us, f1, f2, f3, f4, f5, f6, f7, stands e1 (apart e1 (fun _ _ z => ?_) fun z => ?_), r1, r2, r3, rest⟩
      · rw [r2] at z
        cases z
      · rw [r2] at z
        cases z
        simp at r3
    · obtain ⟨bm, ob, b1, b2, b3, b4, b5, b6⟩ := hbm
      refine ⟨bm, ob, b1, b2, noG b3 fun _ _ z => ?_, fun z => ?_, stands b3 (apart b3 (fun _ _ z => ?_) fun z => ?_), b4, b5, b6⟩
      · rw [b6] at z; cases z
      · rw [z, t] at b3
        cases b3
        cases b6
      · rw [b6] at z; cases z
      · rw [b6] at z; cases z
  have env : Env0 P w K mg (hidT s1.heap H) callerA [] s1 H := by
    refine ⟨rfl, mod, fun b o e => of_hidT e, Nat.le_of_eq (hidT_size _ _), trivial, fun b hb => ?_, hok, .of_eq gens⟩
    exact absurd (show b ∈ ([] : List Addr) from hb) List.not_mem_nil
  have run := (F _ kinB (names ng) TB).run callerA [] s1 H ⟨[.ref a], []⟩ [.ref a] [.ref a] _ E0 hr rfl env (hbind s1 (.ref a)) (.cons rfl .nil) hsp
  refine codeAny_mono run fun r s' h => ?_
  match r, h with
  | .error e, h => exact h.elim
  | .ok (.ret u), h =>
    obtain ⟨v, H', os, bare, un, hok', rv, q⟩ := h
    cases q
    cases rv
    have more : ∀ p ∈ cs, ∃ vs' : Array Value, s'.heap.get? p.2 = some { cls := .none, data := .fields vs' } := fun p hp => by
      obtain ⟨m, e⟩ := un.tbls _ _ (hH p hp)
      exact ⟨_, hok' _ _ e⟩
    have each : ∀ b o, s1.heap.get? b = some o → s'.heap.get? b = some o ∨ ∃ p ∈ cs, p.2 = b := fun b o e => by
      rcases none_or H b with q | q
      · exact .inl (un.keep b o e q (by show b ∉ ([] : List Addr); exact List.not_mem_nil) List.not_mem_nil)
      · obtain ⟨u, q⟩ := somehow q
        rcases only b u q with ⟨rfl, ob, xs, rfl⟩ | ⟨p, hp, e', _⟩
        · have h1 := (hok b _ q).1
          have h2 := (hok' b _ (un.frzs b ob _ q)).1
          rw [e] at h1
          cases h1
          exact .inl h2
        · exact .inr ⟨p, hp, e'⟩
    refine ⟨rfl, ⟨fun b o e => ?_, fun b o e => ?_⟩, os, bare⟩
    · rcases each b o e with z | ⟨p, hp, rfl⟩
      · exact .inl z
      · obtain ⟨vs', z⟩ := more p hp
        rw [hT p hp] at e
        cases e
        exact .inr (.inl ⟨((C p hp).tab (hT p hp)).isCodeTable, rfl, #[], vs', rfl, by rw [Array.empty_append]; exact z⟩)
    · rcases each b o e with z | ⟨p, hp, rfl⟩
      · exact ⟨_, z⟩
      · obtain ⟨vs', z⟩ := more p hp
        exact ⟨_, z⟩
/-- the heap that is tracked at the entry -/
def entry (K : PySem.W.Frag) (a : Addr) (o : Obj) (xs : List V) (cs : List (Addr × Addr)) : Hp := fun b => if b = a ∧ K.lookup a = none then some (.frz o (.lst xs)) else if (cs.any fun p => p.2 == b) = true then some (.tbl #[]) else none
theorem end_callT (hT : ∀ p ∈ cs, s1.heap.get? p.2 = some tab0) (nT : ∀ p ∈ cs, K.lookup p.2 = none) (C : ∀ p ∈ cs, PySem.W.CodeHd s1.heap p.1 p.2)
    (hbm : ∃ (bm : Addr) (ob : Obj), mg "__builtins__" = some (.ref bm) ∧ bm ≠ builtinsNs ∧ s1.heap.get? bm = some ob ∧ ob.cls = .type "module" ∧ ob.dict = some builtinsNs ∧ ob.data = .plain)
    (kin : K.In s1.heap) (ng : s1.heap.Ns mainGlobals mg) (nb : s1.heap.Ns builtinsNs mb) (hbb : ∀ x : Str, x ≠ "__name__" → mb x = bootBuiltins x) (lim : s1.heap.NoLimit) (gens : s1.gens = #[])
    (ha : s1.heap.get? a = some { cls := .type "list", data := .seq vs.toArray }) (hi : IntsAre vs ns) (hl : ns.length ≤ sizeLine) (hr : Room k callerA)
    (F : ∀ base : Heap, K.In base → base.Ns mainGlobals mg → (∀ p ∈ cs, LamX.TabB base mg p.1 p.2) → FnG P w K mg base k fa fd [x] sp) (hbind : ∀ (s : Shared) (u : Value), BindsTo s fd ⟨[u], []⟩ [(x, u)])
    (hsp : ∀ H : Hp, (∀ p ∈ cs, H p.2 = some (.tbl #[])) → SqL K H a (ns.map V.int) → sp [.ref a] H (fun v _ => v = .bl true) E0) : codeAny (model P w) callerA (.call (.ref fa) ⟨[.ref a], []⟩) (Good s1) s1 := by
  have rv := vals_ints hi
  have lv := hi.length
  have na : ∀ p ∈ cs, p.2 ≠ a := fun p hp z => by
    have t := hT p hp
    rw [z, ha] at t
    cases t
  have eT : ∀ p ∈ cs, entry K a { cls := .type "list", data := .seq vs.toArray } (ns.map V.int) cs p.2 = some (.tbl #[]) := fun p hp => (if_neg fun z => na p hp z.1).trans (if_pos (List.any_eq_true.mpr ⟨p, hp, (beq_self_eq_true p.2 : (p.2 == p.2) = true)⟩))
  have only : ∀ b u, entry K a { cls := .type "list", data := .seq vs.toArray } (ns.map V.int) cs b = some u → (b = a ∧ K.lookup a = none ∧ u = .frz { cls := .type "list", data := .seq vs.toArray } (.lst (ns.map V.int))) ∨ ∃ p ∈ cs, p.2 = b ∧ u = .tbl #[] := fun b u e => by
    unfold entry at e
    split at e
    · rename_i h
      exact .inl ⟨h.1, h.2, (Option.some.inj e).symm⟩
    · split at e
      · rename_i h
        obtain ⟨p, hp, q⟩ := List.any_eq_true.mp h
        exact .inr ⟨p, hp, beq_iff_eq.mp q, (Option.some.inj e).symm⟩
      · cases e
  have sq : SqL K (entry K a { cls := .type "list", data := .seq vs.toArray } (ns.map V.int) cs) a (ns.map V.int) := by
    cases hk : K.lookup a with
    | some o =>
      have e := kin a o hk
      rw [ha] at e
      cases e
      exact .inr ⟨_, vs.toArray, _, hk, rfl, rfl, rfl, by rw [List.size_toArray, lv]; exact hl, by simpa using rv⟩
    | none => exact .inl (.inr ⟨_, if_pos ⟨rfl, hk⟩⟩)
  refine end_atT sq (fun b u z => ?_) (fun b u z => ?_) eT (fun z => ?_) hT nT C hbm kin ng nb hbb lim gens ha hr F hbind (hsp _ eT sq)
  · rcases only b u z with ⟨rfl, _, rfl⟩ | ⟨p, hp, rfl, rfl⟩
    · exact ⟨ha, by rw [List.length_map]; exact hl, vs, _, rv, ha⟩
    · exact hT p hp
  · rcases only b u z with ⟨e, _, e'⟩ | q
    · exact .inl ⟨e, _, _, e'⟩
    · exact .inr q
  · obtain ⟨u, q⟩ := somehow z
    rcases only a u q with ⟨_, h, _⟩ | ⟨p, hp, e, _⟩
    · exact h
    · exact absurd e (na p hp)
end
theorem law_walkT {l : PySem.W.OpenLaw} {k : Nat} {q : Program} {loose : List Str} {XP : (Str → Option Value) → Heap → Prop} {YP : World → Heap → Prop} {d : DefRec} {K : Params → PySem.W.Frag} (cs : List (Addr × Addr)) (hr : Room k callerA) (hn : l.most = some 63) (hdf : d.params.defaults = [])
    (hY : ∀ (w : World) (h : Heap), YP w h → (K w.params).In h) (hT : ∀ (w : World) (h : Heap), YP w h → ∀ p ∈ cs, h.get? p.2 = some tab0) (nT : ∀ (w : World), ∀ p ∈ cs, (K w.params).lookup p.2 = none) (hC : ∀ (w : World), ∀ p ∈ cs, PySem.W.codeHdIn (K w.params) p.1 p.2 = true) (hcs : ∀ p ∈ tabT, ∃ c ∈ cs, c.2 = p.1)
    (F : ∀ (w : World) (mg : Str → Option Value) (fa : Addr) (h : Heap), (K w.params).In h → h.Ns mainGlobals mg → mg d.name = some (.ref fa) →
      ∃ fd : FuncData, (∀ (s : Shared) (u : Value), BindsTo s fd ⟨[u], []⟩ [("script", u)]) ∧ ∀ base : Heap, (K w.params).In base → base.Ns mainGlobals mg → (∀ p ∈ cs, LamX.TabB base mg p.1 p.2) → FnG l.prog w (K w.params) mg base k fa fd ["script"] (spD (penAmb (K w.params)) 1 P_law)) :
    PySem.W.WalkO q loose XP YP l.row.toRowW d [] (fun f vs => PySem.call f vs) := by
  refine Att.attach_call hn hdf fun w s0 s1 mg mb fa o pm cd doc a vs ns G Y ho hd hcd hmg hobj hints hlen hg => ?_
  have kx := hY w s1.heap Y
  obtain ⟨fd, hb, hF⟩ := F w mg fa s1.heap kx G.T.g hmg
  refine end_callT (hT w _ Y) (nT w) (fun p hp => PySem.W.codeHd_of_K kx (hC w p hp)) G.T.bmain kx G.T.g G.T.b G.T.builtins G.T.nolimit hg hobj hints (Nat.le_trans hlen (by decide)) hr hF hb fun H hH hS => law_spT (fun p hp => ?_) hS
  obtain ⟨c, hc, e⟩ := hcs p hp
  rw [← e]
  exact hH c hc
end DL
set_option maxHeartbeats 4000000
namespace DL
open PySem PySem.Spec L2
open PyProof.Rows hiding St

/-! ### data with dicts, printed -/
section
variable {P : Program} {w : World} {h : Heap}
def ShO (P : Program) (w : World) (h : Heap) (u : Value) (d : PyData) : Prop := ∃ as bs, Reads h u d as ∧ ReadAtMost h d.depth bs ∧ ReprK P w bs h d.depth u d.shown
def ShA (P : Program) (w : World) (h : Heap) (us : List Value) (ds : List PyData) : Prop := ∃ as bs, ReadsAll h us ds as ∧ ReadAtMost h (PyData.depthAll ds) bs ∧ ReprAllK P w bs h (PyData.depthAll ds) us (PyData.shownAll ds)
theorem shA_nil : ShA P w h [] [] := ⟨[], [], .nil, (fun _ h => nomatch h), by simp only [PyData.shownAll]; exact .nil⟩
theorem shA_cons {u : Value} {us : List Value} {d : PyData} {ds : List PyData} (a : ShO P w h u d) (b : ShA P w h us ds) : ShA P w h (u :: us) (d :: ds) := by
  obtain ⟨as, b1, r1, m1, k1⟩ := a
  obtain ⟨bs, b2, r2, m2, k2⟩ := b
  refine ⟨as ++ bs, b1 ++ b2, .cons r1 r2, fun x hm => ?_, ?_⟩
  · simp only [PyData.depthAll]
    rcases List.mem_append.mp hm with hm | hm
    · obtain ⟨d', as', r', hd'⟩ := m1 x hm
      exact ⟨d', as', r', Nat.le_trans hd' (Nat.le_max_left _ _)⟩
    · obtain ⟨d', as', r', hd'⟩ := m2 x hm
      exact ⟨d', as', r', Nat.le_trans hd' (Nat.le_max_right _ _)⟩
  · simp only [PyData.depthAll, PyData.shownAll]
    exact .cons ((k1.more fun b hb => List.mem_append_left _ hb).level_le (Nat.le_max_left _ _)) (k2.more_le (fun b hb => List.mem_append_right _ hb) (Nat.le_max_right _ _))
theorem shO_list {a : Addr} {o : Obj} {vs : Array Value} {n : Nat} {xs : List PyData} (h1 : h.get? a = some o) (h2 : o.cls = .type "list") (h3 : o.data = .seq vs n) (q : ShA P w h vs.toList xs) : ShO P w h (.ref a) (.list xs) := by
  obtain ⟨as, bs, h4, hb, hk⟩ := q
  have r : Reads h (.ref a) (.list xs) _ := .list h1 h2 h3 h4
  have hna : a ∉ bs := not_mem_of_deeper r (by simp only [PyData.depth]; omega) hb
  refine ⟨_, a :: bs, r, ReadAtMost.cons r (by simp only [PyData.depth]; omega) hb, ?_⟩
  simp only [PyData.depth, PyData.shown]
  obtain ⟨l⟩ := vs
  cases l with
  | nil =>
    have h4' : ReadsAll h [] xs _ := h4
    cases h4'
    simp only [PyData.shownAll, listText_nil]
    exact ReprK.listEmpty h1 h2 h3
  | cons x l => exact ReprK.list h1 h2 h3 hna (by simpa using hk.length_eq) (fun i y e => hk.item i y (by simpa using e))
theorem shO_tuple {a : Addr} {o : Obj} {vs : Array Value} {n : Nat} {xs : List PyData} (h1 : h.get? a = some o) (h2 : o.cls = .type "tuple") (h3 : o.data = .seq vs n) (q : ShA P w h vs.toList xs) : ShO P w h (.ref a) (.tuple xs) := by
  obtain ⟨as, bs, h4, hb, hk⟩ := q
  have r : Reads h (.ref a) (.tuple xs) _ := .tuple h1 h2 h3 h4
  have hna : a ∉ bs := not_mem_of_deeper r (by simp only [PyData.depth]; omega) hb
  refine ⟨_, a :: bs, r, ReadAtMost.cons r (by simp only [PyData.depth]; omega) hb, ?_⟩
  simp only [PyData.depth, PyData.shown]
  exact ReprK.tuple h1 h2 h3 hna hk
theorem shO_dict {a : Addr} {o : Obj} {es : Array DictEntry} {n : Nat} {kvs : List (PyData × PyData)} (h1 : h.get? a = some o) (h2 : o.cls = .type "dict") (h3 : o.data = .dict es n) (hsys : (a == sysModules) = false)
    (q1 : ShA P w h (es.toList.map (·.key)) (kvs.map (·.1))) (q2 : ShA P w h (es.toList.map (·.val)) (kvs.map (·.2))) : ShO P w h (.ref a) (.dict kvs) := by
  obtain ⟨as1, b1, h4, hb1, k1⟩ := q1
  obtain ⟨as2, b2, h5, hb2, k2⟩ := q2
  have r : Reads h (.ref a) (.dict kvs) _ := .dict h1 h2 h3 h4 h5
  have hb : ReadAtMost h (PyData.depthKv kvs) (b1 ++ b2) := (hb1.mono (PyData.depthAll_keys_le kvs)).append (hb2.mono (PyData.depthAll_vals_le kvs))
  have hna : a ∉ b1 ++ b2 := not_mem_of_deeper r (by simp only [PyData.depth]; omega) hb
  refine ⟨_, a :: (b1 ++ b2), r, ReadAtMost.cons r (by simp only [PyData.depth]; omega) hb, ?_⟩
  simp only [PyData.depth, PyData.shown, PyData.shownKv_eq]
  exact ReprK.dict h1 h2 h3 hsys hna (ReprEntriesK.of_two es.toList _ _
    (k1.more_le (fun b hb => List.mem_append_left _ hb) (PyData.depthAll_keys_le kvs)) (k2.more_le (fun b hb => List.mem_append_right _ hb) (PyData.depthAll_vals_le kvs)))
end
mutual
/-- data that can be printed: nothing that only its owner looks into, no dict whose keys are tuples -/
def D.prn : D → Bool
  | .lst xs => D.prns xs
  | .tup xs => D.prns xs
  | .dct ps => D.prnk ps
  | .dcT _ => false
  | .obj _ => false
  | .seq _ => false
  | _ => true
def D.prns : List D → Bool
  | [] => true
  | x :: xs => D.prn x && D.prns xs
def D.prnk : List (D × D) → Bool
  | [] => true
  | (k, v) :: r => k.flat && D.prn v && D.prnk r
end
section
variable {X : Cx} {pins : List (Addr × Obj)} {σ : L2.St} {H : Hp} {s : Shared} {F : Hp}
theorem sh_key {k : Key} {v : Value} (h : keyIs k v = true) (hs : (keyD k).py.showable = true) (hz : (keyD k).py.shown.length ≤ sizeLine) : ShO X.prog X.w s.heap v (keyD k).py := by
  rcases keyIs_shape h with ⟨i, t, rfl, rfl⟩ | ⟨x, t, rfl, rfl⟩
  · exact ⟨_, [], Reads.int i t, (fun _ h => nomatch h), by simp only [keyD, D.py, PyData.shown]; exact .of_is (ReprIs.int t (by simpa [keyD, D.py, PyData.showable] using hs)) _ _ _⟩
  · exact ⟨_, [], Reads.str x t, (fun _ h => nomatch h), by simp only [keyD, D.py, PyData.shown]; exact .of_is (ReprIs.str x t (by simpa only [keyD, D.py, PyData.shown] using hz)) _ _ _⟩
theorem pyk_fst : ∀ ps : List (D × D), (D.pyk ps).map (·.1) = D.pys (ps.map (·.1))
  | [] => rfl
  | (k, v) :: r => by simp only [D.pyk, List.map_cons, D.pys, pyk_fst r]
theorem pyk_snd : ∀ ps : List (D × D), (D.pyk ps).map (·.2) = D.pys (ps.map (·.2))
  | [] => rfl
  | (k, v) :: r => by simp only [D.pyk, List.map_cons, D.pys, pyk_snd r]
mutual
theorem DV.sh (I : Inv X pins σ H s) (sF : Sub F H) : ∀ {v : V} {d : D}, DV X.K F v d → d.prn = true → d.py.showable = true → d.py.shown.length ≤ sizeLine → ∀ u, RelV v u → ShO X.prog X.w s.heap u d.py
  | _, _, .non, _, _, _, u, r => by cases r; exact ⟨[], [], .none, (fun _ h => nomatch h), by simp only [D.py, PyData.shown]; exact .of_is ReprIs.none _ _ _⟩
  | _, _, .bl b, _, _, _, u, r => by cases r; exact ⟨[], [], .bool b, (fun _ h => nomatch h), by simp only [D.py, PyData.shown]; exact .of_is (ReprIs.bool b) _ _ _⟩
  | _, _, .int i, _, hs, _, u, r => by
    obtain ⟨t, rfl⟩ := r
    exact ⟨_, [], Reads.int i t, (fun _ h => nomatch h), by simp only [D.py, PyData.shown]; exact .of_is (ReprIs.int t (by simpa [D.py, PyData.showable] using hs)) _ _ _⟩
  | _, _, .str x, _, _, hz, u, r => by
    obtain ⟨t, rfl⟩ := r
    exact ⟨_, [], Reads.str x t, (fun _ h => nomatch h), by simp only [D.py, PyData.shown]; exact .of_is (ReprIs.str x t (by simpa only [D.py, PyData.shown] using hz)) _ _ _⟩
  | _, _, .lst (a := a) (ds := ds) h t, hp, hs, hz, u, r => by
    cases r
    obtain ⟨its, rv, ⟨o, n, ho, hc, _, hd⟩, _⟩ := I.list (SqL.of (sF _ _ h))
    have hz' : (listText (PyData.shownAll (D.pys ds))).length ≤ sizeLine := by simpa only [D.py, PyData.shown] using hz
    exact shO_list ho hc hd (DVs.sh I sF t hp (by simpa [D.py, PyData.showable] using hs) (fun x hx => Nat.le_trans (listText_mem_le hx) hz') _ rv)
  | _, _, .tup (a := a) (ds := ds) h t, hp, hs, hz, u, r => by
    cases r
    obtain ⟨its, rv, ⟨o, ho, hc, n, hd⟩, _⟩ := I.tuple (sF.t (SqT.of h))
    have hz' : (tupleText (PyData.shownAll (D.pys ds))).length ≤ sizeLine := by simpa only [D.py, PyData.shown] using hz
    exact shO_tuple ho hc hd (DVs.sh I sF t hp (by simpa [D.py, PyData.showable] using hs) (fun x hx => Nat.le_trans (tupleText_mem_le hx) hz') _ rv)
  | _, _, .dK (a := a) (kvs := kvs) (ps := ps) h t, hp, hs, hz, u, r => by
    cases r
    obtain ⟨z, hsys, vs, kv, o, es, ep, ho, hx, hd, _, pr, _⟩ := dk_of I.hok (sF _ _ h)
    have hz' : (dictText (PyData.shownKv (D.pyk ps))).length ≤ sizeLine := by simpa only [D.py, PyData.shown] using hz
    obtain ⟨hs1, hs2⟩ := PyData.showableKv_split _ (show PyData.showableKv (D.pyk ps) = true by simpa [D.py, PyData.showable] using hs)
    rw [pyk_fst] at hs1
    rw [pyk_snd] at hs2
    obtain ⟨q1, q2⟩ := DKs.sh I sF t hp hs1 hs2 (fun x hx => by
      obtain ⟨p, hp, hl⟩ := PyData.shownKv_key_le (D.pyk ps) x (by rw [pyk_fst]; exact hx)
      exact Nat.le_trans hl (Nat.le_trans (dictText_mem_le hp) hz')) (fun x hx => by
      obtain ⟨p, hp, hl⟩ := PyData.shownKv_val_le (D.pyk ps) x (by rw [pyk_snd]; exact hx)
      exact Nat.le_trans hl (Nat.le_trans (dictText_mem_le hp) hz')) _ _ kv pr
    exact shO_dict (kvs := D.pyk ps) ho hx.1 hd hsys (by rw [pyk_fst]; exact q1) (by rw [pyk_snd]; exact q2)
  | _, _, .dT h t, hp, _, _, u, r => by cases hp
  | _, _, .obj a, hp, _, _, u, r => by cases hp
  | _, _, .seq h, hp, _, _, u, r => by cases hp
theorem DVs.sh (I : Inv X pins σ H s) (sF : Sub F H) : ∀ {vs : List V} {ds : List D}, DVs X.K F vs ds → D.prns ds = true → PyData.showableAll (D.pys ds) = true → (∀ t ∈ PyData.shownAll (D.pys ds), t.length ≤ sizeLine) → ∀ us, Vals vs us → ShA X.prog X.w s.heap us (D.pys ds)
  | _, _, .nil, _, _, _, us, r => by cases r; exact shA_nil
  | _, _, .cons (d := d) (ds := ds) h t, hp, hs, hz, us, r => by
    cases r with
    | cons r1 r2 =>
      obtain ⟨p1, p2⟩ := Bool.and_eq_true_iff.mp hp
      have hs' : d.py.showable = true ∧ PyData.showableAll (D.pys ds) = true := by simpa [D.pys, PyData.showableAll] using hs
      exact shA_cons (DV.sh I sF h p1 hs'.1 (hz _ (by simp only [D.pys, PyData.shownAll]; exact List.mem_cons_self ..)) _ r1) (DVs.sh I sF t p2 hs'.2 (fun x hx => hz x (by simp only [D.pys, PyData.shownAll]; exact List.mem_cons_of_mem _ hx)) _ r2)
theorem DKs.sh (I : Inv X pins σ H s) (sF : Sub F H) : ∀ {kvs : List (Key × V)} {ps : List (D × D)}, DKs X.K F kvs ps → D.prnk ps = true → PyData.showableAll (D.pys (ps.map (·.1))) = true → PyData.showableAll (D.pys (ps.map (·.2))) = true →
    (∀ t ∈ PyData.shownAll (D.pys (ps.map (·.1))), t.length ≤ sizeLine) → (∀ t ∈ PyData.shownAll (D.pys (ps.map (·.2))), t.length ≤ sizeLine) → ∀ (vs : List (Key × Value)) (es : List DictEntry), KV kvs vs → Pairs (mixKind X.prog X.w) es vs →
    ShA X.prog X.w s.heap (es.map (·.key)) (D.pys (ps.map (·.1))) ∧ ShA X.prog X.w s.heap (es.map (·.val)) (D.pys (ps.map (·.2)))
  | _, _, .nil, _, _, _, _, _, vs, es, kv, pr => by
    cases kv
    cases pr
    exact ⟨shA_nil, shA_nil⟩
  | _, _, .cons (k := k) (d := d) (ds := ds) h t, hp, hs1, hs2, hz1, hz2, vs, es, kv, pr => by
    cases kv with
    | cons e kv =>
      cases pr with
      | cons e1 e2 pr =>
        obtain ⟨p1, p2⟩ := Bool.and_eq_true_iff.mp hp
        obtain ⟨p0, p1⟩ := Bool.and_eq_true_iff.mp p1
        have hs1' : (keyD k).py.showable = true ∧ PyData.showableAll (D.pys (ds.map (·.1))) = true := by simpa [D.pys, PyData.showableAll] using hs1
        have hs2' : d.py.showable = true ∧ PyData.showableAll (D.pys (ds.map (·.2))) = true := by simpa [D.pys, PyData.showableAll] using hs2
        obtain ⟨q1, q2⟩ := DKs.sh I sF t p2 hs1'.2 hs2'.2 (fun x hx => hz1 x (by simp only [List.map_cons, D.pys, PyData.shownAll]; exact List.mem_cons_of_mem _ hx)) (fun x hx => hz2 x (by simp only [List.map_cons, D.pys, PyData.shownAll]; exact List.mem_cons_of_mem _ hx)) _ _ kv pr
        obtain ⟨ek, ev⟩ := e
        refine ⟨shA_cons (sh_key (k := k) ?_ hs1'.1 (hz1 _ (by simp only [List.map_cons, D.pys, PyData.shownAll]; exact List.mem_cons_self ..))) q1, shA_cons (DV.sh I sF h p1 hs2'.1 (hz2 _ (by simp only [List.map_cons, D.pys, PyData.shownAll]; exact List.mem_cons_self ..)) _ (by show L2.RelV _ (DictEntry.val _); rw [e2]; exact ev)) q2⟩
        have ek : k = _ := ek
        rw [ek]
        exact e1
end
end
section
variable {P : Program} {w : World} {s : Shared} {A : Around} {E : Value → Shared → Prop} {Q : Value → Shared → Prop}
theorem repr_list {a : Addr} {o : Obj} {l : List Value} {n : Nat} {xs : List PyData} (h1 : s.heap.get? a = some o) (h2 : o.cls = .type "list") (h3 : o.data = .seq l.toArray n) (q : ShA P w s.heap l xs) (hg : A.guards = some []) (hu : A.units + (PyData.depthAll xs + 2) < cLine) (hz : (listText (PyData.shownAll xs)).length ≤ sizeLine)
    (hQ : ∀ h' u tk, (∀ b o, s.heap.get? b = some o → h'.get? b = some o) → Q (.str (listText (PyData.shownAll xs)) u) { s with heap := h', toks := tk }) : wpAny (model P w) A (PySem.call (.builtin "repr") [.ref a]) Q E s := by
  obtain ⟨as, bs, h4, hb, hk⟩ := q
  have r : Reads s.heap (.ref a) (.list xs) _ := .list h1 h2 h3 h4
  have hna : a ∉ bs := not_mem_of_deeper r (by simp only [PyData.depth]; omega) hb
  refine call_repr_slot (by omega) ⟨o, h1, h2⟩ F.slot_list_repr.toG ?_
  cases l with
  | nil =>
    cases h4
    refine call_list_repr_empty ⟨o, h1, h2⟩ h1 h3 ⟨_, _, rfl, ?_⟩
    have := hQ s.heap s.toks (s.toks + 1) fun _ _ e => e
    simpa only [PyData.shownAll, listText_nil] using this
  | cons x l => exact call_list_reprK h1 h2 h3 hna (by simpa using hk.length_eq) (fun i y e => hk.item i y (by simpa using e)) (A := A.in1) hg (fun b _ => Clear.nil b) (by show A.units + 1 + _ < _; omega) (fun _ _ e => e) (fun h' u tk k => ⟨_, _, rfl, hQ h' u tk k⟩) hz
theorem repr_tup {a : Addr} {o : Obj} {l : List Value} {n : Nat} {xs : List PyData} (h1 : s.heap.get? a = some o) (h2 : o.cls = .type "tuple") (h3 : o.data = .seq l.toArray n) (q : ShA P w s.heap l xs) (hg : A.guards = some []) (hu : A.units + (PyData.depthAll xs + 2) < cLine) (hz : (tupleText (PyData.shownAll xs)).length ≤ sizeLine)
    (hQ : ∀ h' u tk, (∀ b o, s.heap.get? b = some o → h'.get? b = some o) → Q (.str (tupleText (PyData.shownAll xs)) u) { s with heap := h', toks := tk }) : wpAny (model P w) A (PySem.call (.builtin "repr") [.ref a]) Q E s := by
  obtain ⟨as, bs, h4, hb, hk⟩ := q
  have r : Reads s.heap (.ref a) (.tuple xs) _ := .tuple h1 h2 h3 h4
  have hna : a ∉ bs := not_mem_of_deeper r (by simp only [PyData.depth]; omega) hb
  refine call_repr_slot (by omega) ⟨o, h1, h2⟩ F.slot_tuple_repr ?_
  exact call_tuple_reprK h1 h2 h3 hna hk (A := A.in1) hg (fun b _ => Clear.nil b) (by show A.units + 1 + _ < _; omega) (fun _ _ e => e) (fun h' u tk k => ⟨_, _, rfl, hQ h' u tk k⟩) hz
theorem repr_dict {a : Addr} {o : Obj} {es : Array DictEntry} {n : Nat} {kvs : List (PyData × PyData)} (h1 : s.heap.get? a = some o) (h2 : o.cls = .type "dict") (h3 : o.data = .dict es n) (hsys : (a == sysModules) = false)
    (q1 : ShA P w s.heap (es.toList.map (·.key)) (kvs.map (·.1))) (q2 : ShA P w s.heap (es.toList.map (·.val)) (kvs.map (·.2))) (hg : A.guards = some []) (hu : A.units + (PyData.depthKv kvs + 2) < cLine) (hz : (dictText (PyData.shownKv kvs)).length ≤ sizeLine)
    (hQ : ∀ h' u tk, (∀ b o, s.heap.get? b = some o → h'.get? b = some o) → Q (.str (dictText (PyData.shownKv kvs)) u) { s with heap := h', toks := tk }) : wpAny (model P w) A (PySem.call (.builtin "repr") [.ref a]) Q E s := by
  obtain ⟨as1, b1, h4, hb1, k1⟩ := q1
  obtain ⟨as2, b2, h5, hb2, k2⟩ := q2
  have r : Reads s.heap (.ref a) (.dict kvs) _ := .dict h1 h2 h3 h4 h5
  have hb : ReadAtMost s.heap (PyData.depthKv kvs) (b1 ++ b2) := (hb1.mono (PyData.depthAll_keys_le kvs)).append (hb2.mono (PyData.depthAll_vals_le kvs))
  have hna : a ∉ b1 ++ b2 := not_mem_of_deeper r (by simp only [PyData.depth]; omega) hb
  refine call_repr_slot (by omega) ⟨o, h1, h2⟩ F.slot_dict_repr ?_
  rw [PyData.shownKv_eq] at hz
  simp only [PyData.shownKv_eq] at hQ
  exact call_dict_reprK h1 h2 h3 hsys hna (ReprEntriesK.of_two es.toList _ _
    (k1.more_le (fun b hb => List.mem_append_left _ hb) (PyData.depthAll_keys_le kvs)) (k2.more_le (fun b hb => List.mem_append_right _ hb) (PyData.depthAll_vals_le kvs))) (A := A.in1) hg (fun b _ => Clear.nil b) (by show A.units + 1 + _ < _; omega) (fun _ _ e => e) (fun h' u tk k => ⟨_, _, rfl, hQ h' u tk k⟩) hz
end
section
variable {X : Cx} {M : Amb X.K}
def gReprA : List D → (R → Prop) → Prop
  | [d], Q => d.prn = true ∧ d.py.showable = true ∧ d.py.depth ≤ 60 ∧ d.py.shown.length ≤ sizeLine ∧ Q (.fr (.str d.text))
  | _, _ => False
theorem call_reprA (hg : X.A.guards = some []) (hu : X.A.units + 64 < cLine) : CallR X (.builtin "repr") (fun xs H Q => ∃ v d, xs = [v] ∧ DV X.K H v d ∧ d.prn = true ∧ d.py.showable = true ∧ d.py.depth ≤ 60 ∧ d.py.shown.length ≤ sizeLine ∧ Q (.str d.py.shown) H) := by
  intro pins s σ H xs us Q I r h
  obtain ⟨v, d, rfl, dv, h1, h2, h3, h4, q⟩ := h
  obtain ⟨u, rfl, ru⟩ := vals1 r
  have sF : Sub H H := Sub.refl H
  cases dv with
  | non => cases ru; exact PySem.P.repr_of_none ⟨.str _, H, I.tok _, ⟨_, rfl⟩, by simpa only [D.py, PyData.shown] using q⟩
  | bl b => cases ru; exact PySem.P.repr_of_bool ⟨.str _, H, I.tok _, ⟨_, rfl⟩, by simpa only [D.py, PyData.shown] using q⟩
  | int i => obtain ⟨t, rfl⟩ := ru; exact PySem.P.repr_of_int (by simpa [D.py, PyData.showable] using h2) ⟨.str _, H, I.tok _, ⟨_, rfl⟩, by simpa only [D.py, PyData.shown] using q⟩
  | str x => obtain ⟨t, rfl⟩ := ru; exact PySem.P.repr_of_str ⟨.str _, H, I.tok _, ⟨_, rfl⟩, by simpa only [D.py, PyData.shown] using q⟩ (by simpa only [D.py, PyData.shown] using h4)
  | lst h t =>
    rename_i ds
    cases ru
    obtain ⟨its, rv, ⟨o, n, ho, hc, _, hd⟩, _⟩ := I.list (SqL.of (sF _ _ h))
    have hz' : (listText (PyData.shownAll (D.pys ds))).length ≤ sizeLine := by simpa only [D.py, PyData.shown] using h4
    simp only [D.py, PyData.depth] at h3
    exact repr_list ho hc hd (DVs.sh I sF t h1 (by simpa [D.py, PyData.showable] using h2) (fun x hx => Nat.le_trans (listText_mem_le hx) hz') _ rv) hg (by omega) hz' fun h' u tk kp => ⟨.str _, H, I.kept kp, ⟨_, rfl⟩, by simpa only [D.py, PyData.shown] using q⟩
  | tup h t =>
    rename_i ds
    cases ru
    obtain ⟨its, rv, ⟨o, ho, hc, n, hd⟩, _⟩ := I.tuple (sF.t (SqT.of h))
    have hz' : (tupleText (PyData.shownAll (D.pys ds))).length ≤ sizeLine := by simpa only [D.py, PyData.shown] using h4
    simp only [D.py, PyData.depth] at h3
    exact repr_tup ho hc hd (DVs.sh I sF t h1 (by simpa [D.py, PyData.showable] using h2) (fun x hx => Nat.le_trans (tupleText_mem_le hx) hz') _ rv) hg (by omega) hz' fun h' u tk kp => ⟨.str _, H, I.kept kp, ⟨_, rfl⟩, by simpa only [D.py, PyData.shown] using q⟩
  | dK h t =>
    rename_i ps
    cases ru
    obtain ⟨z, hsys, vs, kv, o, es, ep, ho, hx, hd, _, pr, _⟩ := dk_of I.hok h
    have hz' : (dictText (PyData.shownKv (D.pyk ps))).length ≤ sizeLine := by simpa only [D.py, PyData.shown] using h4
    obtain ⟨hs1, hs2⟩ := PyData.showableKv_split _ (show PyData.showableKv (D.pyk ps) = true by simpa [D.py, PyData.showable] using h2)
    rw [pyk_fst] at hs1
    rw [pyk_snd] at hs2
    obtain ⟨q1, q2⟩ := DKs.sh I sF t h1 hs1 hs2 (fun x hx => by
      obtain ⟨p, hp, hl⟩ := PyData.shownKv_key_le (D.pyk ps) x (by rw [pyk_fst]; exact hx)
      exact Nat.le_trans hl (Nat.le_trans (dictText_mem_le hp) hz')) (fun x hx => by
      obtain ⟨p, hp, hl⟩ := PyData.shownKv_val_le (D.pyk ps) x (by rw [pyk_snd]; exact hx)
      exact Nat.le_trans hl (Nat.le_trans (dictText_mem_le hp) hz')) _ _ kv pr
    simp only [D.py, PyData.depth] at h3
    exact repr_dict (kvs := D.pyk ps) ho hx.1 hd hsys (by rw [pyk_fst]; exact q1) (by rw [pyk_snd]; exact q2) hg (by omega) hz' fun h' u tk kp => ⟨.str _, H, I.kept kp, ⟨_, rfl⟩, by simpa only [D.py, PyData.shown] using q⟩
  | dT h t => cases h1
  | obj a => cases h1
  | seq h => cases h1
theorem oc_reprA (hg : X.A.guards = some []) (hu : X.A.units + 64 < cLine) : OC X M (.builtin "repr") gReprA := by
  refine ⟨_, call_reprA hg hu, ?_⟩
  intro Z ρ α F σ H xs ds Q P R0 cs q k
  rcases ds with _ | ⟨d, _ | ⟨d2, ds⟩⟩
  · exact q.elim
  · obtain ⟨x, rfl, c⟩ := cs.one
    obtain ⟨h1, h2, h3, h4, q⟩ := q
    have q : Q (.fr (.str d.py.shown)) := by rw [← D.text_eq]; exact q
    exact ⟨_, d, rfl, c.dv R0, h1, h2, h3, h4, k _ _ F H R0 .refl (RV.mk (.str _)) q⟩
  · exact q.elim
end
end DL
set_option maxHeartbeats 4000000
namespace DL
open PySem PySem.Spec L2 HT
open PyProof.Rows hiding St

/-! ### t[::-1] -/
section
variable {prog : Program} {w : World} {A : Around} {E : Value → Shared → Prop} {s : Shared}
theorem places_rev (n : Nat) : Builtin.Slice.slicePlaces ((n : Int) - 1) (-1) (-1) = n := by
  unfold Builtin.Slice.slicePlaces
  rw [if_neg (by omega)]
  by_cases h : (n : Int) - 1 > -1
  · rw [if_pos h, show (- -1 : Int) = 1 by omega, Int.ediv_one]
    omega
  · rw [if_neg h]
    omega
theorem sliceApplied_rev {sl : Addr} {vl vu vs : Value} {n : Nat} {Q : Int × Int × Nat → Shared → Prop} (hs : s.heap.IsSliceOf sl vl vu vs) (pl : IsPart vl none) (pu : IsPart vu none) (ps : IsPart vs (some (-1)))
    (h : Q ((n : Int) - 1, -1, n) s) : wpAny (model prog w) A (Builtin.Slice.sliceApplied (.ref sl) (pure (n : Int))) Q E s := by
  obtain ⟨os, hos, hcs, hds⟩ := id hs
  unfold Builtin.Slice.sliceApplied Builtin.Slice.sliceFields
  refine wpAny_bind (wpAny_bind (wpAny_field hos hds (x := vl) rfl (wpAny_bind (wpAny_field hos hds (x := vu) rfl (wpAny_bind (wpAny_field hos hds (x := vs) rfl (wpAny_pure ?_)))))))
  refine wpAny_bind (slicePart_ ps ?_)
  show wpAny _ _ (if ((-1 : Int) == 0) = true then _ else _) _ _ s
  rw [if_neg (by decide)]
  refine wpAny_bind (slicePart_ pl (wpAny_bind (slicePart_ pu (wpAny_bind (wpAny_pure ?_)))))
  show wpAny _ _ (pure ((n : Int) - 1, (-1 : Int), Builtin.Slice.slicePlaces ((n : Int) - 1) (-1) (-1))) _ _ s
  rw [places_rev]
  exact wpAny_pure h
theorem fm_congr {α β : Type} {f g : α → Option β} : ∀ {l : List α}, (∀ x ∈ l, f x = g x) → l.filterMap f = l.filterMap g
  | [], _ => rfl
  | a :: l, h => by rw [List.filterMap_cons, List.filterMap_cons, h a (List.mem_cons_self ..), fm_congr fun x hx => h x (List.mem_cons_of_mem _ hx)]
theorem pick_rev (xs : Array Value) : ((List.range xs.size).filterMap fun (m : Nat) => xs[(((xs.size : Nat) : Int) - 1 + (m : Int) * (-1)).toNat]?).toArray = xs.toList.reverse.toArray := by
  congr 1
  have e : (List.range xs.size).filterMap (fun (m : Nat) => xs[(((xs.size : Nat) : Int) - 1 + (m : Int) * (-1)).toNat]?) = (List.range xs.size).filterMap ((fun k => xs[k]?) ∘ fun m => xs.size - 1 - m) := by
    refine fm_congr fun m hm => ?_
    have hm := List.mem_range.mp hm
    show xs[(((xs.size : Nat) : Int) - 1 + (m : Int) * (-1)).toNat]? = xs[xs.size - 1 - m]?
    congr 1
    omega
  rw [e, ← List.filterMap_map, PySem.W.krv_range, List.filterMap_reverse, PySem.W.krv_all]
theorem getItem_tuple_rev {t sl : Addr} {items : Array Value} {vl vu vs : Value} {Q : Value → Shared → Prop} (ht : IsTup s.heap t items) (hs : s.heap.IsSliceOf sl vl vu vs) (pl : IsPart vl none) (pu : IsPart vu none) (ps : IsPart vs (some (-1)))
    (h : Q (.ref s.heap.objs.size) { s with heap := s.heap.push { cls := .type "tuple", data := .seq items.toList.reverse.toArray } })
    (hsz : items.size ≤ sizeLine) : wpAny (model prog w) A (getItem (.ref t) (.ref sl)) Q E s := by
  have htake : sizeOk (.seq items.toList.reverse.toArray) := by
    show items.toList.reverse.toArray.size ≤ sizeLine
    rw [List.size_toArray, List.length_reverse, Array.length_toList]
    exact hsz
  obtain ⟨os, hos, hcs, hds⟩ := id hs
  have hTs : s.TypeIs (.ref sl) "slice" := ⟨os, hos, hcs⟩
  unfold getItem
  try with_reducible refine wpAny_holding ?_
  first | refine wpAny_bind (wpAny_pure ?_) | skip
  refine wpAny_bind (wpAny_sequenceKey ht.typeIs (by decide) ?_)
  refine wpAny_bind (wpAny_callSpecial?_slot (name := Str.ofString "__getitem__") ht.typeIs PyProof.Rows.slot_tuple_getitem
    (wpAny_call_entry PyProof.Rows.slot_tuple_getitem ht.typeIs entry_tuple_getitem ?_ (args_tuple_getitem _ _)))
  show wpAny _ _ (Builtin.Tuple.tupleItemsOf (.ref t) >>= _) _ _ s
  refine wpAny_bind (tupleItemsOf_ ht ?_)
  refine wpAny_bind (wpAny_typeOf hTs ?_)
  rw [if_pos (by decide)]
  refine wpAny_bind (sliceApplied_rev hs pl pu ps ?_)
  have hno : ¬ ((((items.size : Nat) : Int) - 1 == 0 && (-1 : Int) == 1 && items.size == items.size) = true) := by
    rw [show ((-1 : Int) == 1) = false by decide, Bool.and_false, Bool.false_and]
    exact Bool.false_ne_true
  show wpAny _ _ (if (((items.size : Nat) : Int) - 1 == 0 && (-1 : Int) == 1 && items.size == items.size) = true then _ else _) _ _ s
  rw [if_neg hno, pick_rev]
  first
    | exact wpAny_bind (m := Builtin.Tuple.tupleExact _) (wpAny_newObj_type (wpAny_pure ⟨_, rfl, wpAny_pure h⟩) htake)
    | exact wpAny_bind (m := Builtin.Tuple.tupleExact _) (wpAny_newObj_type (wpAny_bind (wpAny_pure (wpAny_pure ⟨_, rfl, wpAny_pure h⟩))) htake)
    | exact wpAny_bind (wpAny_bind (m := Builtin.Tuple.tupleExact _) (wpAny_newObj_type (wpAny_pure (wpAny_pure ⟨_, rfl, wpAny_pure h⟩)) htake))
    | exact wpAny_bind (wpAny_bind (m := Builtin.Tuple.tupleExact _) (wpAny_newObj_type (wpAny_pure ⟨_, rfl, wpAny_pure h⟩) htake))
end
section
variable {X : Cx}
/-- a list or a tuple turned round -/
def tRevA (K : PySem.W.Frag) (te : TE) : TE := fun σ H Q => te σ H fun x H1 => ∃ a, x = .ref a ∧ ((∃ xs, SqL K H1 a xs ∧ ∀ p, H1 p = none → Q (.ref p) (upd H1 p (.lst xs.reverse))) ∨ ∃ xs, SqT K H1 a xs ∧ ∀ p, H1 p = none → Q (.ref p) (upd H1 p (.tup xs.reverse)))
theorem pe_revA {e : Expr} {te : TE} {k : Nat} {p1 p2 p3 pos : Pos} (he : PE X e te) : PE X (.Subscript e (.Slice none none (some (.UnaryOp .USub (.Constant (.int 1) k p1) p2)) p3) pos) (tRevA X.K te) := by
  refine ⟨fun pins s σ H Q I h => ?_⟩
  refine Subscript_ (thn (he.run pins s σ H _ I h) fun v s1 ⟨x, H1, I1, r1, q1⟩ => ?_)
  obtain ⟨a, ex, q1⟩ := q1
  subst ex
  cases r1
  have hst : PO X (some (.UnaryOp .USub (.Constant (.int 1) k p1) p2)) (tPart (tUn (rU fun i => .int (-i)) (tC (.int 1)))) := po_some (pe_un un_neg pe_int)
  refine wpAny_Slice (thn (po_none.run pins s1 σ H1 (fun o H2 => o = none ∧ H2 = H1) I1 ⟨rfl, rfl⟩) fun vl s2 ⟨l, H2, I2, pl, el, e2⟩ => ?_)
  subst el e2
  refine thn (po_none.run pins s2 σ H2 (fun o H3 => o = none ∧ H3 = H2) I2 ⟨rfl, rfl⟩) fun vu s3 ⟨u, H3, I3, pu, eu, e3⟩ => ?_
  subst eu e3
  refine thn (hst.run pins s3 σ H3 (fun o H4 => o = some (-1) ∧ H4 = H3) I3 ⟨1, rfl, -1, rfl, rfl, rfl⟩) fun vs s4 ⟨o, H4, I4, ps, eo, e4⟩ => ?_
  subst eo e4
  have I5 : L2.Inv X pins σ H4 { s4 with heap := s4.heap.push { cls := .type "slice", data := .fields #[vl, vu, vs] } } := I4.kept (t' := s4.toks) fun b ob q => Heap.get?_push_of_some _ q
  show wpAny (model X.prog X.w) X.A (subscriptTail e (.Slice none none (some (.UnaryOp .USub (.Constant (.int 1) k p1) p2)) p3) (.ref a) (.ref s4.heap.objs.size)) (EP X pins σ Q) X.xe { s4 with heap := s4.heap.push { cls := .type "slice", data := .fields #[vl, vu, vs] } }
  rcases q1 with ⟨xs, hx, q⟩ | ⟨xs, hx, q⟩
  · obtain ⟨its, r, ht, hz⟩ := I5.list hx
    have hlen := r.length
    refine tail_any (ops := [.ref a, .ref s4.heap.objs.size]) ht.isList.typeIs (PySem.slot_list_getitem.lookup) ?_ (by with_unfolding_all rfl)
    refine wpAny_getItem_list_slice ht.isList (Heap.IsSliceOf.new _ vl vu vs) pl pu ps (by decide) ?_ (by rw [List.size_toArray]; omega)
    rw [PySem.W.krv_pick]
    refine ⟨.ref _, _, I5.laid (t' := s4.toks) (o := .lst xs.reverse) (fun b ob q => Heap.get?_push_of_some _ q) (Nat.le_refl _) ?_, rfl, q _ (I5.hok.fresh (Nat.le_refl _))⟩
    exact ⟨by rw [List.length_reverse]; exact hz, _, 0, r.reverse, Heap.get?_push_size _ rfl⟩
  · obtain ⟨its, r, ht, hz⟩ := I5.tuple hx
    have hlen := r.length
    refine tail_any (ops := [.ref a, .ref s4.heap.objs.size]) ht.typeIs (PyProof.Rows.slot_tuple_getitem.lookup) ?_ (by with_unfolding_all rfl)
    refine getItem_tuple_rev ht (Heap.IsSliceOf.new _ vl vu vs) pl pu ps ?_ (by rw [List.size_toArray]; omega)
    refine ⟨.ref _, _, I5.laid (t' := s4.toks) (o := .tup xs.reverse) (fun b ob q => Heap.get?_push_of_some _ q) (Nat.le_refl _) ?_, rfl, q _ (I5.hok.fresh (Nat.le_refl _))⟩
    exact ⟨by rw [List.length_reverse]; exact hz, _, r.reverse, IsTup.new _ _⟩
variable {M : Amb X.K}
def gRev (d : D) (Q : R → Prop) : Prop := match d with
  | .lst xs => Q (.nw (.l xs.reverse))
  | .tup xs => Q (.fr (.tup xs.reverse))
  | _ => False
def wRev {K : PySem.W.Frag} {M : Amb K} (w : WE M) : WE M := fun E Q => w E fun r E1 => gRev r.c fun z => Q z E1
theorem qe_rev {e : Expr} {w : WE M} {k : Nat} {p1 p2 p3 pos : Pos} (he : QE X M e w) : QE X M (.Subscript e (.Slice none none (some (.UnaryOp .USub (.Constant (.int 1) k p1) p2)) p3) pos) (wRev w) := by
  refine ⟨pe_weak (pe_revA he.run) fun σ H Q' ⟨Z, ρ, α, F, Q, R0, w, k⟩ => ?_⟩
  refine ⟨Z, ρ, α, F, _, R0, w, fun v r ρ1 α1 F1 H1 R1 s1 rv q => ?_⟩
  have c := rv.cv R1
  generalize r.c = d at q c
  cases d <;> first | exact q.elim | skip
  case lst xs =>
    obtain ⟨a, vs, rfl, ha, da⟩ := c.lst R1
    refine ⟨a, rfl, .inl ⟨vs, SqL.of ha, fun p hp => ?_⟩⟩
    obtain ⟨r2, s2⟩ := R1.laid (o := .lst vs.reverse) hp
    exact k _ _ ρ1 α1 F1 _ r2 (s1.trans s2) ((RV.list R1 hp da.reverse).back s1.sT) q
  case tup xs =>
    obtain ⟨a, vs, rfl, ha, da⟩ := c.tup R1
    refine ⟨a, rfl, .inr ⟨vs, R1.sub.t ha, fun p hp => ?_⟩⟩
    obtain ⟨r2, s2⟩ := R1.tuple (o := .tup vs.reverse) hp
    exact k _ _ ρ1 α1 _ _ r2 (s1.trans s2) (RV.mk (.tup upd_same (da.reverse.mono s2.sF))) q
end
end DL
set_option maxHeartbeats 4000000
namespace DL
open PySem PySem.Spec L2
open PyProof.Rows hiding St

/-! ### t * 1, () * n -/
theorem tuple_mul_same (l : Addr) (items : Array Value) (n : Nat) (dd : Option Addr) (sl : Array (Option Value)) (x : Int) (u : Tok) (c0 : (decide (x < -(2 ^ 63)) || decide (x ≥ 2 ^ 63)) = false) (c1 : (items.isEmpty || x == 1) = true) :
    Meets (Builtin.«tuple.__mul__» ⟨[.ref l, .int x u], []⟩) (fun _ R s => s.heap.get? l = some { cls := .type "tuple", dict := dd, data := .seq items n, slots := sl } ∧ ∀ tk, R (.ok (.ret (Value.ref l))) { s with toks := tk }) :=
  .of_wp fun prog w A R s h => by
    obtain ⟨hp, g, d, tk, os⟩ := s
    obtain ⟨hl, h⟩ := h
    have f1 := AutoSeq1.idx_int
    wp_walk using wpAny_loadPart' hl
    repeat (first
      | (refine wpAny_ite_false (decide_eq_false (by rw [c0]; exact Bool.false_ne_true)) ?_; wp_walk using wpAny_loadPart' hl)
      | (refine wpAny_ite_true (decide_eq_true (by rw [c1])) ?_; wp_walk using wpAny_loadPart' hl))
    exact ⟨_, rfl, h _⟩
section
variable {X : Cx} {M : Amb X.K}
def rRep1 (K : PySem.W.Frag) : R2 := fun x y H Q => ∃ l k xs, x = .ref l ∧ y = .int k ∧ SqT K H l xs ∧ (xs = [] ∨ k = 1) ∧ -1000 ≤ k ∧ k ≤ 1000 ∧ Q (.ref l) H
theorem op_rep1 : OpR X (binaryOp .Mult) (rRep1 X.K) := by
  intro pins s σ H x y v u Q I rx ry h
  obtain ⟨l, k, xs, rfl, rfl, hT, hne, h1, h2, q⟩ := h
  cases rx
  obtain ⟨t, rfl⟩ := ry
  obtain ⟨its, r, ⟨⟨cls, dd, data, sl⟩, ho, hc, n, hd⟩, hs⟩ := I.tuple hT
  simp only at hc hd
  subst hc hd
  have c0 : (decide (k < -(2 ^ 63)) || decide (k ≥ 2 ^ 63)) = false := by
    rw [decide_eq_false (by omega), decide_eq_false (by omega)] <;> rfl
  have c1 : (its.toArray.isEmpty || k == 1) = true := by
    rcases hne with e | e
    · have hle : its.length = xs.length := r.length.symm
      rw [e] at hle
      rw [List.eq_nil_of_length_eq_zero hle]
      rfl
    · rw [e]
      simp
  exact wpAny_binaryOp_repeat_ref (T := "tuple") (U := "int") (by decide) ⟨_, ho, rfl⟩ (fun s' => typeIs_int s' k t) noFill_tuple_mul F.fills_int_mul F.slot_int_rmul repeat_tuple F.slot_int_index.lookup
    (call_meets F.slot_int_rmul (typeIs_int s k t) F.entry_int_rmul (F.args_int_rmul_2 _ _) (int_rmul_tuple k t l its.toArray n dd sl)
      ⟨ho, rfl, ⟨_, ho, rfl⟩, call_meets F.slot_tuple_mul ⟨_, ho, rfl⟩ F.entry_tuple_mul (F.args_tuple_mul_2 _ _) (tuple_mul_same l its.toArray n dd sl k t c0 c1) ⟨ho, fun tk => ⟨.ref l, H, I.tok tk, rfl, q⟩⟩⟩)
/-- t * n, n at least 1 or t empty -/
def gMulU : D → D → (R → Prop) → Prop
  | .tup xs, .int n, Q => (xs = [] ∨ 1 ≤ n) ∧ -1000 ≤ n ∧ n ≤ 1000 ∧ xs.length ≤ 1000 ∧ Q (.fr (.tup (List.replicate n.toNat xs).flatten))
  | _, _, _ => False
theorem rep_nil {α : Type} (n : Nat) : (List.replicate n ([] : List α)).flatten = [] := by
  induction n with
  | zero => rfl
  | succ n ih => rw [List.replicate_succ, List.flatten_cons, ih]; rfl
theorem o_mulU : O2 X M (binaryOp .Mult) gMulU := by
  refine ⟨_, op_rep1.or op_repT, ?_⟩
  intro Z ρ α F σ H x y dx dy Q P R0 c1 c2 q k
  cases dx <;> cases dy <;> first | exact q.elim | skip
  case tup.int xs n =>
    obtain ⟨a, vs, rfl, ha, da⟩ := c1.tupS R0
    obtain ⟨q1, q2, q3, q4, q⟩ := q
    have hl := da.length
    by_cases h : xs = [] ∨ n = 1
    · refine .inl ⟨a, n, vs, rfl, c2.int, R0.sub.t (SqT.of ha), ?_, q2, q3, ?_⟩
      · rcases h with h | h
        · rw [h] at hl
          exact .inl (List.eq_nil_of_length_eq_zero hl)
        · exact .inr h
      · have e : (List.replicate n.toNat xs).flatten = xs := by
          rcases h with h | h
          · rw [h, rep_nil]
          · rw [h]
            show (List.replicate 1 xs).flatten = xs
            rw [List.replicate_succ, List.flatten_cons, List.replicate_zero, List.flatten_nil, List.append_nil]
        rw [e] at q
        exact k _ _ F H R0 .refl (RV.mk (.tup ha da)) q
    · have h' : xs ≠ [] ∧ n ≠ 1 := ⟨fun e => h (.inl e), fun e => h (.inr e)⟩
      refine .inr ⟨a, n, vs, rfl, c2.int, R0.sub.t (SqT.of ha), fun e => h'.1 ?_, ?_, q3, by rw [hl]; exact q4, fun p hp => ?_⟩
      · rw [e] at hl
        exact List.eq_nil_of_length_eq_zero hl.symm
      · rcases q1 with q1 | q1
        · exact absurd q1 h'.1
        · have := h'.2
          omega
      obtain ⟨r2, s2⟩ := R0.tuple (o := .tup (List.replicate n.toNat vs).flatten) hp
      exact k _ _ _ _ r2 s2 (RV.mk (.tup upd_same ((da.rep _).mono s2.sF))) q
end
end DL
set_option maxHeartbeats 4000000
namespace DL
open PySem PySem.Spec L2
open PyProof.Rows hiding St

/-! ### dicts whose keys are ints or texts -/
def keyOf : D → Option Key
  | .int i => some (.inl i)
  | .str x => some (.inr x)
  | _ => none
theorem keyOf_keyD (k : Key) : keyOf (keyD k) = some k := by cases k <;> rfl
def lookD (ps : List (D × D)) (k : Key) : Option D := (ps.find? fun p => decide (keyOf p.1 = some k)).map (·.2)
def putD (ps : List (D × D)) (k : Key) (d : D) : List (D × D) := if (ps.any fun p => decide (keyOf p.1 = some k)) = true then ps.map (fun p => if keyOf p.1 = some k then (p.1, d) else p) else ps ++ [(keyD k, d)]
def dropD (ps : List (D × D)) (k : Key) : List (D × D) := ps.filter fun p => decide (keyOf p.1 ≠ some k)
theorem lookD_cons {k' k : Key} {d : D} {ps : List (D × D)} : lookD ((keyD k', d) :: ps) k = if k' = k then some d else lookD ps k := by
  unfold lookD
  rw [List.find?_cons, keyOf_keyD]
  by_cases h : k' = k
  · rw [if_pos h, h, decide_eq_true rfl]
    rfl
  · rw [if_neg h, decide_eq_false (fun e => h (Option.some.inj e))]
section
variable {K : PySem.W.Frag} {F : Hp}
theorem DKs.look {k : Key} : ∀ {kvs : List (Key × V)} {ps : List (D × D)}, DKs K F kvs ps → match lookD ps k with
    | none => valV kvs k = none
    | some d => ∃ v, valV kvs k = some v ∧ DV K F v d
  | _, _, .nil => rfl
  | _, _, .cons (k := k') (v := v) (d := d) h t => by
    have ih := DKs.look (k := k) t
    rw [lookD_cons]
    by_cases e : k' = k
    · rw [if_pos e]
      exact ⟨v, valV_pos e, h⟩
    · rw [if_neg e]
      rw [valV_neg e]
      exact ih
theorem DKs.any {k : Key} : ∀ {kvs : List (Key × V)} {ps : List (D × D)}, DKs K F kvs ps → (ps.any fun p => decide (keyOf p.1 = some k)) = (kvs.any fun kv => decide (kv.1 = k))
  | _, _, .nil => rfl
  | _, _, .cons (k := k') h t => by
    rw [List.any_cons, List.any_cons, DKs.any t]
    have e : decide (keyOf (keyD k') = some k) = decide (k' = k) := by
      rw [keyOf_keyD, decide_eq_decide]
      exact ⟨fun e => Option.some.inj e, fun e => by rw [e]⟩
    rw [e]
theorem DKs.setAll {k : Key} {v : V} {d : D} (hv : DV K F v d) : ∀ {kvs : List (Key × V)} {ps : List (D × D)}, DKs K F kvs ps → DKs K F (kvs.map (fun kv => if kv.1 = k then (kv.1, v) else kv)) (ps.map fun p => if keyOf p.1 = some k then (p.1, d) else p)
  | _, _, .nil => .nil
  | _, _, .cons (k := k') (v := u) (d := e) h t => by
    rw [List.map_cons, List.map_cons]
    have ih := DKs.setAll (k := k) hv t
    by_cases c : k' = k
    · rw [if_pos (show (k', u).1 = k from c), if_pos (show keyOf (keyD k', e).1 = some k by rw [c]; exact keyOf_keyD k)]
      exact .cons hv ih
    · rw [if_neg (show ¬ (k', u).1 = k from c), if_neg (show ¬ keyOf (keyD k', e).1 = some k by rw [keyOf_keyD]; exact fun z => c (Option.some.inj z))]
      exact .cons h ih
theorem DKs.append : ∀ {kvs ks2 : List (Key × V)} {ps ps2 : List (D × D)}, DKs K F kvs ps → DKs K F ks2 ps2 → DKs K F (kvs ++ ks2) (ps ++ ps2)
  | _, _, _, _, .nil, t => t
  | _, _, _, _, .cons h r, t => .cons h (DKs.append r t)
theorem DKs.put {k : Key} {v : V} {d : D} (hv : DV K F v d) {kvs : List (Key × V)} {ps : List (D × D)} (h : DKs K F kvs ps) : DKs K F (putK kvs k v) (putD ps k d) := by
  unfold putK putD
  rw [h.any]
  split
  · exact DKs.setAll hv h
  · exact h.append (.cons hv .nil)
theorem DKs.length : ∀ {kvs : List (Key × V)} {ps : List (D × D)}, DKs K F kvs ps → kvs.length = ps.length
  | _, _, .nil => rfl
  | _, _, .cons _ t => congrArg (· + 1) (DKs.length t)
theorem DKs.keys : ∀ {kvs : List (Key × V)} {ps : List (D × D)}, DKs K F kvs ps → ps.map (·.1) = (kvs.map (·.1)).map keyD
  | _, _, .nil => rfl
  | _, _, .cons (k := k) (d := d) _ t => by rw [List.map_cons, List.map_cons, List.map_cons, DKs.keys t]
end
section
variable {X : Cx} {M : Amb X.K}
theorem CV.dct {Z : Base M} {ρ : List (Option B)} {α : M.S} {F H : Hp} {σ : L2.St} {v : V} {ps : List (D × D)} (R0 : Rel M Z ρ α F σ H) (h : CV M α F H v (.dct ps)) : ∃ a kvs, v = .ref a ∧ H a = some (.dK kvs) ∧ DKs X.K F kvs ps := by
  rcases h with h | ⟨a, o, b, rfl, ho, ok, _, e⟩
  · cases h with
    | dK h t => exact ⟨_, _, rfl, R0.sub _ _ h, t⟩
  · cases o <;> cases b <;> first | exact ok.elim | (cases e; done) | skip
    cases e
    exact ⟨a, _, rfl, ho, ok⟩
theorem CV.key {α : M.S} {F H : Hp} {v : V} {d : D} {k : Key} (h : CV M α F H v d) (e : keyOf d = some k) : v = kV k := by
  cases d <;> first | (cases e; done) | skip
  · cases e
    exact h.int
  · cases e
    exact h.str
/-- d[k], there -/
def gDGet : D → D → (R → Prop) → Prop
  | .dct ps, y, Q => ∃ k d, keyOf y = some k ∧ lookD ps k = some d ∧ Q (.fr d)
  | _, _, _ => False
theorem qe_dget {o i : Expr} {pos : Pos} {wo wi : WE M} (hu : X.A.units + 64 < cLine) (ho : QE X M o wo) (hi : QE X M i wi) (hs : NoSl i := by exact fun _ _ => rfl) : QE X M (.Subscript o i pos) (wOp gDGet wo wi) := by
  refine ⟨pe_weak (pe_dget (by omega) ho.run hi.run hs) fun σ H Q' ⟨Z, ρ, α, F, Q, R0, w, k⟩ => ?_⟩
  refine two R0 w fun x y ra rb ρ2 α2 F2 H2 R2 s2 c1 c2 q => ?_
  generalize ra.c = d1 at c1 q
  cases d1 <;> first | exact q.elim | skip
  rename_i ps
  obtain ⟨ky, d, e1, e2, q⟩ := q
  obtain ⟨a, kvs, rfl, ha, da⟩ := c1.dct R2
  have := da.look (k := ky)
  rw [e2] at this
  obtain ⟨v, hv, dv⟩ := this
  refine ⟨a, v, rfl, ?_, k _ _ ρ2 α2 F2 H2 R2 s2 (RV.mk dv) q⟩
  rw [c2.key e1, ← hv]
  exact DGet.k ha
/-- k in d, k not in d -/
def gDIn (neg : Bool) : D → D → (R → Prop) → Prop := fun y x Q => match x with
  | .dct ps => ∃ k, keyOf y = some k ∧ Q (.fr (.bl (if neg then !(lookD ps k).isSome else (lookD ps k).isSome)))
  | _ => False
theorem din_run {Z : Base M} {ρ : List (Option B)} {α : M.S} {F H : Hp} {σ : L2.St} {x y : V} {dx dy : D} {neg : Bool} {Q : R → Prop} (R2 : Rel M Z ρ α F σ H) (c1 : CV M α F H y dy) (c2 : CV M α F H x dx) (q : gDIn neg dy dx Q) :
    ∃ a o, x = .ref a ∧ DGet H a y o ∧ Q (.fr (.bl (if neg then !o.isSome else o.isSome))) := by
  cases dx <;> first | exact q.elim | skip
  rename_i ps
  obtain ⟨ky, e1, q⟩ := q
  obtain ⟨a, kvs, rfl, ha, da⟩ := c2.dct R2
  have hl := da.look (k := ky)
  have e : (lookD ps ky).isSome = (valV kvs ky).isSome := by
    cases c : lookD ps ky with
    | none =>
      rw [c] at hl
      have hl : valV kvs ky = none := hl
      rw [hl]
      rfl
    | some d =>
      rw [c] at hl
      obtain ⟨v, hv, _⟩ := hl
      rw [hv]
      rfl
  rw [e] at q
  refine ⟨a, _, rfl, ?_, q⟩
  rw [c1.key e1]
  exact DGet.k ha
theorem qe_din {o i : Expr} {pos : Pos} {wo wi : WE M} (hu : X.A.units + 64 < cLine) (hi : QE X M i wi) (ho : QE X M o wo) (hb : behindInMarks .In o = false := by rfl) : QE X M (.Compare i [.In] [o] pos) (wOp (gDIn false) wi wo) := by
  refine ⟨pe_weak (L2.pe_cmp (pc_din (by omega) hi.run ho.run) hb) fun σ H Q' ⟨Z, ρ, α, F, Q, R0, w, k⟩ => ?_⟩
  refine two R0 w fun y x ra rb ρ2 α2 F2 H2 R2 s2 c1 c2 q => ?_
  obtain ⟨a, o, e, g, q⟩ := din_run R2 c1 c2 q
  exact ⟨a, o, e, g, k _ _ ρ2 α2 F2 H2 R2 s2 (RV.mk (.bl _)) q⟩
theorem qe_dnin {o i : Expr} {pos : Pos} {wo wi : WE M} (hu : X.A.units + 64 < cLine) (hi : QE X M i wi) (ho : QE X M o wo) (hb : behindInMarks .NotIn o = false := by rfl) : QE X M (.Compare i [.NotIn] [o] pos) (wOp (gDIn true) wi wo) := by
  refine ⟨pe_weak (L2.pe_cmp (pc_dnotin (by omega) hi.run ho.run) hb) fun σ H Q' ⟨Z, ρ, α, F, Q, R0, w, k⟩ => ?_⟩
  refine two R0 w fun y x ra rb ρ2 α2 F2 H2 R2 s2 c1 c2 q => ?_
  obtain ⟨a, o, e, g, q⟩ := din_run R2 c1 c2 q
  exact ⟨a, o, e, g, k _ _ ρ2 α2 F2 H2 R2 s2 (RV.mk (.bl _)) q⟩
theorem qt_din {o i : Expr} {pos : Pos} {wo wi : WE M} (hu : X.A.units + 64 < cLine) (hi : QE X M i wi) (ho : QE X M o wo) (hb : behindInMarks .In o = false := by rfl) : QT X M (.Compare i [.In] [o] pos) (wB (wOp (gDIn false) wi wo)) := by
  refine ⟨pt_weak (L2.pt_cmp (pc_din (by omega) hi.run ho.run) hb) fun σ H Q' ⟨Z, ρ, α, F, Q, R0, w, k⟩ => ?_⟩
  refine two R0 w fun y x ra rb ρ2 α2 F2 H2 R2 s2 c1 c2 q => ?_
  obtain ⟨a, o, e, g, q⟩ := din_run R2 c1 c2 q
  exact ⟨a, o, e, g, _, rfl, k _ ρ2 α2 F2 H2 R2 s2 q⟩
theorem qt_dnin {o i : Expr} {pos : Pos} {wo wi : WE M} (hu : X.A.units + 64 < cLine) (hi : QE X M i wi) (ho : QE X M o wo) (hb : behindInMarks .NotIn o = false := by rfl) : QT X M (.Compare i [.NotIn] [o] pos) (wB (wOp (gDIn true) wi wo)) := by
  refine ⟨pt_weak (L2.pt_cmp (pc_dnotin (by omega) hi.run ho.run) hb) fun σ H Q' ⟨Z, ρ, α, F, Q, R0, w, k⟩ => ?_⟩
  refine two R0 w fun y x ra rb ρ2 α2 F2 H2 R2 s2 c1 c2 q => ?_
  obtain ⟨a, o, e, g, q⟩ := din_run R2 c1 c2 q
  exact ⟨a, o, e, g, _, rfl, k _ ρ2 α2 F2 H2 R2 s2 q⟩
/-- d[k] = e, d the frame's own -/
def asM (b : Option (Option B)) (Q : List (D × D) → Prop) : Prop := match b with
  | some (some (.m ps)) => Q ps
  | _ => False
theorem asM_ok {b : Option (Option B)} {Q : List (D × D) → Prop} (h : asM b Q) : ∃ ps, b = some (some (.m ps)) ∧ Q ps := by
  unfold asM at h
  split at h
  · exact ⟨_, rfl, h⟩
  · exact h.elim
def wPutD {K : PySem.W.Frag} {M : Amb K} (i : Nat) (wk w : WE M) : WS M := fun D E => w E fun r E1 => fz r E1 fun d E2 => asM E2.1[i]? fun _ => wk E2 fun rk E3 => asM E3.1[i]? fun ps => ∃ k, keyOf rk.c = some k ∧ ps.length < sizeLine ∧ D.nx (E3.1.set i (some (.m (putD ps k d))), E3.2)
theorem qs_putD {i : Nat} {x : Str} {p tpos pos : Pos} {ek e : Expr} {wk w : WE M} (hu : X.A.units + 64 < cLine) (hx : PE X (.Name x p) (tVar i)) (hk : QE X M ek wk) (he : QE X M e w) (hs : swapsWith e (some (.Subscript (.Name x p) ek tpos)) pos.line X.env = pure false := by rfl) :
    QS X M (.Assign [.Subscript (.Name x p) ek tpos] e pos) (wPutD i wk w) := by
  refine ⟨ps_weak (ps_dput (by omega) hx hk.run he.run hs) fun D' σ H ⟨Z, ρ, α, F, D, R0, w, k1, k2, k3, k4⟩ => ?_⟩
  refine ⟨Z, ρ, α, F, _, R0, w, fun v r ρ1 α1 F1 H1 R1 s1 rv q => ?_⟩
  obtain ⟨d, ρ2, F2, R2, s2, dv, q⟩ := fz_ok R0 s1 R1 rv q
  obtain ⟨ps0, e0, q⟩ := asM_ok q
  obtain ⟨a, o, q1, q2, q3, _⟩ := R2.own i _ e0 rfl
  refine ⟨.ref a, q1, Z, ρ2, α1, F2, _, R2, q, fun vk rk ρ3 α3 F3 H3 R3 s3 rvk q => ?_⟩
  have c := rvk.cv R3
  obtain ⟨ps, e2, ky, hky, hz, q⟩ := asM_ok q
  obtain ⟨a', o', g1, g2, g3, _⟩ := R3.own i _ e2 rfl
  rw [q1] at g1
  cases g1
  obtain ⟨kvs, rfl⟩ : ∃ kvs, o' = .dK kvs := by
    cases o' <;> first | exact ⟨_, rfl⟩ | exact g3.elim
  have g3 : DKs X.K F3 kvs ps := g3
  refine ⟨a, _, rfl, .inl ⟨kvs, ky, g2, c.key hky, by rw [g3.length]; exact hz, rfl⟩, k1 _ α3 F3 σ _ (R3.write e2 rfl q1 (o := .dK (putK kvs ky v)) (b' := .m (putD ps ky d)) ?_) q⟩
  exact g3.put (dv.mono s3.sF)
/-- len(d) -/
def gLenD : List D → (R → Prop) → Prop
  | [.dct ps], Q => Q (.fr (.int ps.length))
  | _, _ => False
theorem oc_lenD : OC X M (.builtin "len") gLenD := by
  refine ⟨_, call_lenD, ?_⟩
  intro Z ρ α F σ H xs ds Q P R0 cs q k
  rcases ds with _ | ⟨d, _ | ⟨d2, ds⟩⟩
  · exact q.elim
  · obtain ⟨x, rfl, c⟩ := cs.one
    cases d <;> first | exact q.elim | skip
    obtain ⟨a, kvs, rfl, ha, da⟩ := c.dct R0
    refine ⟨a, kvs, rfl, ha, k _ _ F H R0 .refl (RV.mk (.int _)) ?_⟩
    rw [da.length]
    exact q
  · cases d <;> exact q.elim
/-- sorted(xs), xs a list of ints -/
def gSortI : List D → (R → Prop) → Prop
  | [.lst xs], Q => ∃ ns : List Int, xs = ns.map .int ∧ ∀ ns' : List Int, ns'.Perm ns → ns'.Pairwise (· ≤ ·) → Q (.nw (.l (ns'.map .int)))
  | _, _ => False
theorem oc_sortI : OC X M (.builtin "sorted") gSortI := by
  refine ⟨_, cr_sortedI, ?_⟩
  intro Z ρ α F σ H xs ds Q P R0 cs q k
  rcases ds with _ | ⟨d, _ | ⟨d2, ds⟩⟩
  · exact q.elim
  · obtain ⟨x, rfl, c⟩ := cs.one
    cases d <;> first | exact q.elim | skip
    obtain ⟨ns, rfl, q⟩ := q
    obtain ⟨a, vs, rfl, ha, da⟩ := c.lst R0
    rw [da.intsV] at ha
    refine ⟨a, ns, rfl, SqL.of ha, fun ns' p pm pw hp => ?_⟩
    obtain ⟨r2, s2⟩ := R0.laid (o := .lst (ns'.map V.int)) hp
    exact k _ _ F _ r2 s2 (RV.list R0 hp (DVs.ints ns')) (q ns' pm pw)
  · cases d <;> exact q.elim
/-- sorted(d), d's keys ints -/
def gSortD : List D → (R → Prop) → Prop
  | [.dct ps], Q => ∃ ns : List Int, ps.map (·.1) = ns.map .int ∧ ns.length < 64 ∧ ∀ ns' : List Int, ns'.Perm ns → ns'.Pairwise (· ≤ ·) → Q (.nw (.l (ns'.map .int)))
  | _, _ => False
theorem keys_ints : ∀ {ks : List Key} {ns : List Int}, ks.map keyD = ns.map DL.D.int → ks = ns.map Sum.inl
  | [], [], _ => rfl
  | [], _ :: _, h => by cases h
  | _ :: _, [], h => by cases h
  | k :: ks, n :: ns, h => by
    rw [List.map_cons, List.map_cons] at h
    injection h with h1 h2
    rw [keys_ints h2]
    cases k with
    | inl i => cases h1; rfl
    | inr x => cases h1
theorem oc_sortD (hc : X.calm = true := by rfl) : OC X M (.builtin "sorted") gSortD := by
  refine ⟨_, call_sortedDI hc, ?_⟩
  intro Z ρ α F σ H xs ds Q P R0 cs q k
  rcases ds with _ | ⟨d, _ | ⟨d2, ds⟩⟩
  · exact q.elim
  · obtain ⟨x, rfl, c⟩ := cs.one
    cases d <;> first | exact q.elim | skip
    obtain ⟨ns, hk, hl, q⟩ := q
    obtain ⟨a, kvs, rfl, ha, da⟩ := c.dct R0
    refine ⟨a, kvs, ns, rfl, .inl ha, keys_ints (by rw [← da.keys]; exact hk), hl, fun ns' p pm pw hp => ?_⟩
    obtain ⟨r2, s2⟩ := R0.laid (o := .lst (ns'.map V.int)) hp
    exact k _ _ F _ r2 s2 (RV.list R0 hp (DVs.ints ns')) (q ns' pm pw)
  · cases d <;> exact q.elim
end
end DL
set_option maxHeartbeats 4000000
namespace DL
open PySem PySem.Spec L2
open PyProof.Rows hiding St
section
variable {X : Cx} {M : Amb X.K}
/-- {k: v} -/
def wDisp {K : PySem.W.Frag} {M : Amb K} (wk wv : WE M) : WE M := fun E Q => wk E fun rk E1 => wv E1 fun rv E2 => fz rv E2 fun d E3 => ∃ k, keyOf rk.c = some k ∧ Q (.nw (.m [(keyD k, d)])) E3
theorem qe_disp {ek ev : Expr} {pos : Pos} {wk wv : WE M} (hk : QE X M ek wk) (hv : QE X M ev wv) : QE X M (.Dict [some ek] [ev] pos) (wDisp wk wv) := by
  refine ⟨pe_weak (pe_disp (pps_cons hk.run hv.run pps_nil) rfl rfl nofun (by show 1 ≤ 15; decide)) fun σ H Q' ⟨Z, ρ, α, F, Q, R0, w, k⟩ => ?_⟩
  intro p hp
  obtain ⟨R1, s1⟩ := R0.laid (o := .dK []) hp
  refine ⟨Z, ρ, α, F, _, R1, w, fun x rk ρ2 α2 F2 H2 R2 s2 rvk q => ?_⟩
  refine ⟨Z, ρ2, α2, F2, _, R2, q, fun y rv ρ3 α3 F3 H3 R3 s3 rvv q => ?_⟩
  have ck := (rvk.cv R2).step s3
  obtain ⟨d, ρ4, F4, R4, s4, dv, ky, ek, q⟩ := fz_ok R2 s3 R3 rvv q
  have s5 := (s1.trans s2).trans s4
  have f1 : F p = none := R0.fn hp
  have n1 : ¬ M.fp α p := R0.fpn hp
  have h1 : upd H p (.dK []) p = some (.dK []) := upd_same
  have s24 := s2.trans s4
  have no1 : ¬ Owned ρ σ p := R0.ownn hp
  have h5 : H3 p = some (.dK []) := s24.sH p _ h1 n1
  have n5 : ¬ M.fp α3 p := fun q => (s24.sN p q).elim n1 fun q => absurd q (ne_none h1)
  have f5 : F4 p = none := (none_or F4 p).elim id fun q => by
    rcases s24.sZ p q with q | q | q
    · exact absurd f1 q
    · exact (q.nl R4.sub h1 h5 nofun).elim
    · exact absurd q no1
  have ek' : x = kV ky := ck.key ek
  refine ⟨h5, [(ky, y)], ?_, by show 1 ≤ 15; decide, ?_⟩
  · rw [ek']; rfl
  · refine k _ _ ρ4 α3 F4 _ (R4.mutNew (ne_none h5) f5 n5 (fun z => no1 (s24.sO p z)) (R0.zn hp)) (s5.mutNew hp) ?_ q
    exact ⟨p, .dK [(ky, y)], rfl, upd_same, .cons dv .nil, f5, n5, hp⟩
/-- d.get(k), d.get(k, x) -/
def isDct (d : D) (Q : List (D × D) → Prop) : Prop := match d with
  | .dct ps => Q ps
  | _ => False
theorem isDct_ok {d : D} {Q : List (D × D) → Prop} (h : isDct d Q) : ∃ ps, d = .dct ps ∧ Q ps := by
  cases d <;> first | exact h.elim | exact ⟨_, rfl, h⟩
def wGet1 {K : PySem.W.Frag} {M : Amb K} (wo wi : WE M) : WE M := fun E Q => wo E fun ra E1 => isDct ra.c fun ps => wi E1 fun rb E2 => ∃ k, keyOf rb.c = some k ∧ Q (.fr ((lookD ps k).getD .non)) E2
theorem get_run {Z : Base M} {ρ : List (Option B)} {α : M.S} {F H : Hp} {σ : L2.St} {a : Addr} {y : V} {dy : D} {ps : List (D × D)} {k : Key} (R2 : Rel M Z ρ α F σ H) (c1 : CV M α F H (.ref a) (.dct ps)) (c2 : CV M α F H y dy) (e : keyOf dy = some k) :
    ∃ o, DGet H a y o ∧ ((lookD ps k = none ∧ o = none) ∨ ∃ d v, lookD ps k = some d ∧ o = some v ∧ DV X.K F v d) := by
  obtain ⟨a', kvs, ea, ha, da⟩ := c1.dct R2
  cases ea
  have hl := da.look (k := k)
  rw [c2.key e]
  refine ⟨_, DGet.k ha, ?_⟩
  cases c : lookD ps k with
  | none =>
    rw [c] at hl
    exact .inl ⟨rfl, hl⟩
  | some d =>
    rw [c] at hl
    obtain ⟨v, hv, dv⟩ := hl
    exact .inr ⟨d, v, rfl, hv, dv⟩
theorem qe_dget1 {o e : Expr} {apos cpos : Pos} {wo wi : WE M} (hu : X.A.units + 64 < cLine) (ho : QE X M o wo) (he : QE X M e wi) (m : M1 X o "get" apos e cpos := by exact ⟨rfl, rfl, rfl, rfl⟩) : QE X M (.Call (.Attribute o "get" apos) [e] [] cpos) (wGet1 wo wi) := by
  refine ⟨pe_weak (pe_dget1 (by omega) ho.run he.run m) fun σ H Q' ⟨Z, ρ, α, F, Q, R0, w, k⟩ => ?_⟩
  refine ⟨Z, ρ, α, F, _, R0, w, fun x ra ρ1 α1 F1 H1 R1 s1 rv q => ?_⟩
  have c1 := rv.cv R1
  obtain ⟨ps, e1, q⟩ := isDct_ok q
  rw [e1] at c1
  obtain ⟨a, kvs, rfl, ha, da⟩ := c1.dct R1
  refine ⟨a, rfl, .inl ⟨kvs, .inl ha⟩, Z, ρ1, α1, F1, _, R1, q, fun y rb ρ2 α2 F2 H2 R2 s2 rvb q => ?_⟩
  obtain ⟨ky, ek, q⟩ := q
  obtain ⟨o, g, h⟩ := get_run R2 (c1.step s2) (rvb.cv R2) ek
  refine ⟨o, g, ?_⟩
  rcases h with ⟨h1, h2⟩ | ⟨d, v, h1, h2, dv⟩
  · rw [h1] at q
    rw [h2]
    exact k _ _ ρ2 α2 F2 H2 R2 (s1.trans s2) (RV.mk .non) q
  · rw [h1] at q
    rw [h2]
    exact k _ _ ρ2 α2 F2 H2 R2 (s1.trans s2) (RV.mk dv) q
def wGet2 {K : PySem.W.Frag} {M : Amb K} (wo wi wx : WE M) : WE M := fun E Q => wo E fun ra E1 => isDct ra.c fun ps => wi E1 fun rb E2 => wx E2 fun rx E3 => fz rx E3 fun x E4 => ∃ k, keyOf rb.c = some k ∧ Q (.fr ((lookD ps k).getD x)) E4
theorem qe_dget2 {o e f : Expr} {apos cpos : Pos} {wo wi wx : WE M} (hu : X.A.units + 64 < cLine) (ho : QE X M o wo) (he : QE X M e wi) (hf : QE X M f wx) (m : M2 X o "get" apos e f cpos := by exact ⟨rfl, rfl, rfl, rfl⟩) : QE X M (.Call (.Attribute o "get" apos) [e, f] [] cpos) (wGet2 wo wi wx) := by
  refine ⟨pe_weak (pe_dget2 (by omega) ho.run he.run hf.run m) fun σ H Q' ⟨Z, ρ, α, F, Q, R0, w, k⟩ => ?_⟩
  refine ⟨Z, ρ, α, F, _, R0, w, fun x ra ρ1 α1 F1 H1 R1 s1 rv q => ?_⟩
  have c1 := rv.cv R1
  obtain ⟨ps, e1, q⟩ := isDct_ok q
  rw [e1] at c1
  obtain ⟨a, kvs, rfl, ha, da⟩ := c1.dct R1
  refine ⟨a, rfl, .inl ⟨kvs, .inl ha⟩, Z, ρ1, α1, F1, _, R1, q, fun y rb ρ2 α2 F2 H2 R2 s2 rvb q => ?_⟩
  refine ⟨Z, ρ2, α2, F2, _, R2, q, fun z rx ρ3 α3 F3 H3 R3 s3 rvx q => ?_⟩
  obtain ⟨x, ρ4, F4, R4, s4, dx, ky, ek, q⟩ := fz_ok R2 s3 R3 rvx q
  obtain ⟨o, g, h⟩ := get_run R4 ((c1.step s2).step s4) ((rvb.cv R2).step s4) ek
  refine ⟨o, g, ?_⟩
  rcases h with ⟨h1, h2⟩ | ⟨d, v, h1, h2, dv⟩
  · rw [h1] at q
    rw [h2]
    exact k _ _ ρ4 α3 F4 H3 R4 ((s1.trans s2).trans s4) (RV.mk dx) q
  · rw [h1] at q
    rw [h2]
    exact k _ _ ρ4 α3 F4 H3 R4 ((s1.trans s2).trans s4) (RV.mk dv) q
/-- d.clear() -/
def wClear {K : PySem.W.Frag} {M : Amb K} (i : Nat) : WS M := fun D E => asM E.1[i]? fun _ => D.nx (E.1.set i (some (.m [])), E.2)
theorem qs_dclear {i : Nat} {x : Str} {p apos cpos pos : Pos} (hx : PE X (.Name x p) (tVar i)) (hbase : attributeBase (.Name x p) "clear" X.env (eval (.Name x p) X.env) = eval (.Name x p) X.env := by rfl) (hline : (apos.endLine == cpos.line) = true := by rfl)
    (hsw : swapsWith (.Call (.Attribute (.Name x p) "clear" apos) [] [] cpos) none pos.line X.env = pure false := by rfl) : QS X M (.Expr (.Call (.Attribute (.Name x p) "clear" apos) [] [] cpos) pos) (wClear i) := by
  refine ⟨ps_weak (ps_expr (pe_dclear hx hbase hline) hsw) fun D' σ H ⟨Z, ρ, α, F, D, R0, w, k1, k2, k3, k4⟩ => ?_⟩
  obtain ⟨ps, e0, q⟩ := asM_ok w
  obtain ⟨a, o, q1, q2, q3, _⟩ := R0.own i _ e0 rfl
  obtain ⟨kvs, rfl⟩ : ∃ kvs, o = .dK kvs := by
    cases o <;> first | exact ⟨_, rfl⟩ | exact q3.elim
  refine ⟨.ref a, q1, .inr (.inr (.inl ⟨rfl, .inl ⟨kvs, q2⟩⟩)), a, kvs, rfl, rfl, q2, k1 _ α F σ _ (R0.write e0 rfl q1 (o := .dK []) (b' := .m []) DKs.nil) q⟩
end
end DL
set_option maxHeartbeats 4000000
namespace DL
open PySem PySem.Spec L2
open PyProof.Rows hiding St
/-! ### the items of a dict just made -/
section
variable {X : Cx}
def tLockN (td : TE) : TE := fun σ H Q => td σ H fun x H1 => ∃ d kvs, x = .ref d ∧ H1 d = some (.dK kvs) ∧ ∀ od, Q x (upd H1 d (.frz od (.dK kvs)))
theorem pe_lockN {e : Expr} {td : TE} (h : PE X e td) : PE X e (tLockN td) := by
  refine ⟨fun pins s σ H Q I hw => ?_⟩
  refine thn (h.run pins s σ H _ I hw) fun v s1 ⟨x, H1, I1, r, d, kvs, ex, hd, q⟩ => ?_
  obtain ⟨od, I2⟩ := I1.lock hd trivial
  exact ⟨x, _, I2, r, q od⟩
end
def itemsD (ps : List (D × D)) : List D := ps.map fun p => .tup [p.1, p.2]
theorem kV_dv {K : PySem.W.Frag} {F : Hp} (k : Key) : DV K F (kV k) (keyD k) := by
  cases k with
  | inl i => exact .int i
  | inr x => exact .str x
theorem DKs.get {K : PySem.W.Frag} {F : Hp} : ∀ {kvs : List (Key × V)} {ps : List (D × D)} {i : Nat} {k : Key} {v : V}, DKs K F kvs ps → kvs[i]? = some (k, v) → ∃ d, ps[i]? = some (keyD k, d) ∧ DV K F v d
  | _, _, _, _, _, .nil, e => by simp at e
  | _, _, 0, _, _, .cons h _, e => by
    simp at e
    obtain ⟨e1, e2⟩ := e
    subst e1 e2
    exact ⟨_, rfl, h⟩
  | _, _, i + 1, _, _, .cons _ t, e => by
    obtain ⟨d, h1, h2⟩ := DKs.get (i := i) t (by simpa using e)
    exact ⟨d, by simpa using h1, h2⟩
section
variable {K : PySem.W.Frag} {M : Amb K} {F0 : Hp}
theorem itOk_items {d : Addr} {o : Obj} {kvs : List (Key × V)} {ps : List (D × D)} (h : F0 d = some (.frz o (.dK kvs))) (dv : DKs K F0 kvs ps) : ItOk M (Iti d o kvs) (itemsD ps) F0 := by
  intro H s
  have e := s _ _ h
  have hl : (itemsD ps).length = kvs.length := by rw [dv.length]; unfold itemsD; simp
  refine ⟨fun i hi => ⟨e, by omega⟩, ⟨e, by omega⟩, fun i x dd H' Z ρ α F σ R0 sf y hd => ?_⟩
  obtain ⟨T, k, v, hk, rfl, hT, rfl⟩ := y
  obtain ⟨d', hd', dv'⟩ := dv.get hk
  obtain ⟨r1, s1⟩ := R0.tuple (o := .tup [kV k, v]) hT
  refine ⟨_, r1, s1, ?_⟩
  unfold itemsD at hd
  rw [List.getElem?_map, hd'] at hd
  cases hd
  exact tup2 upd_same (kV_dv k) ((dv'.mono sf).mono s1.sF)
end
section
variable {X : Cx} {M : Amb X.K}
def isNewM (r : R) (Q : List (D × D) → Prop) : Prop := match r with
  | .nw (.m ps) => Q ps
  | _ => False
theorem isNewM_ok {r : R} {Q : List (D × D) → Prop} (h : isNewM r Q) : ∃ ps, r = .nw (.m ps) ∧ Q ps := by
  unfold isNewM at h
  split at h
  · exact ⟨_, rfl, h⟩
  · exact h.elim
def wItemsN {K : PySem.W.Frag} {M : Amb K} (w : WE M) : WI M := fun E Q => w E fun r E1 => isNewM r fun ps => Q (itemsD ps) E1
theorem qi_itemsN {e : Expr} {w : WE M} {elts : List Expr} {kk : Nat} {tpos apos cpos : Pos} (he : QE X M e w) (hbase : attributeBase e "items" X.env (eval e X.env) = eval e X.env := by rfl) (hline : (apos.endLine == cpos.line) = true := by rfl) :
    QI X M (.Tuple elts kk tpos) (.Call (.Attribute e "items" apos) [] [] cpos) (wItemsN w) := by
  refine ⟨pi_weak (pi_items (pe_lockN he.run) hbase hline) fun σ H R' ⟨Z, ρ, α, F, Q, R0, w, k⟩ => ?_⟩
  refine ⟨Z, ρ, α, F, _, R0, w, fun v r ρ1 α1 F1 H1 R1 s1 rv q => ?_⟩
  obtain ⟨ps, rfl, q⟩ := isNewM_ok q
  obtain ⟨a, o, rfl, h1, h2, h3, h4, h5⟩ := rv
  obtain ⟨kvs, rfl⟩ : ∃ kvs, o = .dK kvs := by
    cases o <;> first | exact ⟨_, rfl⟩ | exact h2.elim
  have dk : DKs X.K F1 kvs ps := h2
  have no : ¬ Owned ρ1 σ a := fun z => R0.ownn h5 (s1.sO a z)
  have zn := R0.zn h5
  refine ⟨a, kvs, rfl, h1, fun od => ?_⟩
  have R2 := R1.mutNew (o := .frz od (.dK kvs)) (ne_none h1) h3 h4 no zn
  have R3 := R2.frz upd_same h3 h4 no zn
  have sF : Sub F1 (upd F1 a (.frz od (.dK kvs))) := (Sub.refl F1).upd h3
  have s2 := s1.mutNew (o := .frz od (.dK kvs)) h5
  refine ⟨a, od, kvs, rfl, upd_same, k _ _ ρ1 α1 _ _ R3 ⟨s2.sF.trans sF, s2.sH, s2.sT, s2.sN, fun b hb => ?_, s2.sO⟩ (itOk_items upd_same (dk.mono sF)) q⟩
  by_cases e : b = a
  · subst e
    exact .inr (.inl (.inl h5))
  · rw [upd_ne e] at hb
    exact (s2.sZ b hb).imp id fun q => q.imp (fun q => q.mono sF) id
end
/-! ### {k: v for .. in ..} -/
section
variable {X : Cx} {M : Amb X.K}
def wDc {K : PySem.W.Frag} {M : Amb K} (wi : WI M) (g : WG M) (wt : WT M) (wk we : WE M) (vs : List Nat) : WE M := fun E Q => wi E fun ds E1 => ∃ Inv : Nat → List (D × D) → M.S → Prop, Inv 0 [] E1.2 ∧
  (∀ i d acc α, ds[i]? = some d → Inv i acc α → g d (wipeB E1.1 vs, α) fun E2 => wt E2 fun b E3 => if b = true then wk E3 fun rk Ek => we Ek fun r E4 => fz r E4 fun y E5 => wipeB E5.1 vs = wipeB E1.1 vs ∧ ∃ k, keyOf rk.c = some k ∧ acc.length < sizeLine ∧ Inv (i + 1) (putD acc k y) E5.2
    else wipeB E3.1 vs = wipeB E1.1 vs ∧ Inv (i + 1) acc E3.2) ∧ ∀ acc α, Inv ds.length acc α → Q (.nw (.m acc)) (E1.1, α)
theorem dc_run {wi : WI M} {g : WG M} {wt : WT M} {wk we : WE M} {vs : List Nat}
    {Z : Base M} {ρ : List (Option B)} {α : M.S} {F H : Hp} {σ : L2.St} {Q : R → Env M → Prop} {Q' : VK} (R0 : Rel M Z ρ α F σ H) (w : wDc wi g wt wk we vs (ρ, α) Q)
    (k : ∀ v r ρ' α' F' H', Rel M Z ρ' α' F' σ H' → Stp M σ ρ α F H ρ' α' F' H' → RV M H ρ' α' F' σ H' r v → Q r (ρ', α') → Q' v H') : tDc (tWI M wi) (tWG M vs g) (tWT M wt) (tW M wk) (tW M we) vs σ H Q' := by
  refine ⟨Z, ρ, α, F, _, R0, w, fun J ds ρ1 α1 F1 H1 R1 s1 ok q L hL => ?_⟩
  obtain ⟨Inv, h0, hs, hd⟩ := q
  have Rw := R1.wiped vs
  obtain ⟨Rl, sl⟩ := Rw.laid (o := .dK []) hL
  refine ⟨fun i m H => m = ds.length - i ∧ i ≤ ds.length ∧ ∃ acc us α F, Rel M (Z.at F1) (wipeB ρ1 vs) α F (wipe σ vs) H ∧ Stp M (wipe σ vs) (wipeB ρ1 vs) α1 F1 H1 (wipeB ρ1 vs) α F H ∧ H L = some (.dK us) ∧ DKs X.K F us acc ∧ F L = none ∧ ¬ M.fp α L ∧ Inv i acc α,
    ⟨ds.length, rfl, Nat.zero_le _, [], [], α1, F1, Rl.rebase, sl, upd_same, .nil, R1.fn hL, R1.fpn hL, h0⟩, ?_⟩
  rintro i m H2 ⟨rfl, hi, acc, us, α2, F2, R2, s2, hl, dv, fl, nl, inv⟩
  have sH : Sub F1 H2 := fun b o e => R2.sub b o (R2.bF b o e)
  obtain ⟨go, stop, yld⟩ := ok H2 sH
  by_cases hlt : i < ds.length
  · refine .inr ⟨go i hlt, fun H => ∃ acc us α F, Rel M (Z.at F1) (wipeB ρ1 vs) α F (wipe σ vs) H ∧ Stp M (wipe σ vs) (wipeB ρ1 vs) α1 F1 H1 (wipeB ρ1 vs) α F H ∧ H L = some (.dK us) ∧ DKs X.K F us acc ∧ F L = none ∧ ¬ M.fp α L ∧ Inv (i + 1) acc α,
      fun H' n => ⟨ds.length - (i + 1), by omega, rfl, hlt, n⟩, fun x H' y => ?_⟩
    have hd' : ds[i]? = some ds[i] := by simp [hlt]
    obtain ⟨F3, R3, s3, dx⟩ := yld i x ds[i] H' _ _ α2 F2 _ R2 R2.bF y hd'
    -- what stays of the list at L
    have stay : ∀ {σ' : L2.St} {ρ' ρ'' : List (Option B)} {α' α'' : M.S} {F' F'' H' H'' : Hp} {u : List (Key × V)} {ac : List (D × D)}, Rel M (Z.at F1) ρ' α' F' σ' H' → Stp M σ' ρ' α' F' H' ρ'' α'' F'' H'' → Sub F'' H'' → ¬ Owned ρ' σ' L → H' L = some (.dK u) → DKs X.K F' u ac → F' L = none → ¬ M.fp α' L →
        H'' L = some (.dK u) ∧ DKs X.K F'' u ac ∧ F'' L = none ∧ ¬ M.fp α'' L := fun {σ' ρ' ρ'' α' α'' F' F'' H' H'' u ac} r s sb no h d f n =>
      ⟨s.sH L _ h n, d.mono s.sF, (none_or F'' L).elim id fun q => by
        rcases s.sZ L q with q | q | q
        · exact absurd f q
        · exact (q.nl sb h (s.sH L _ h n) nofun).elim
        · exact absurd q no, fun q => (s.sN L q).elim n fun q => absurd q (ne_none h)⟩
    have noW : ¬ Owned (wipeB ρ1 vs) (wipe σ vs) L := Rw.ownn hL
    obtain ⟨hl3, dv3, fl3, nl3⟩ := stay R2 s3 R3.sub noW hl dv fl nl
    refine ⟨_, _, α2, F3, _, _, R3, dx, hs i ds[i] acc α2 hd' inv, fun ρ4 σ4 R4 w4 o4 q4 => ⟨w4.trans wipe_idem, ?_⟩⟩
    have w5 : wipe σ4 vs = wipe σ vs := w4.trans wipe_idem
    have no4 : ¬ Owned ρ4 σ4 L := fun z => noW (o4 L z)
    refine ⟨_, ρ4, α2, F3, _, R4, q4, fun b ρ5 α5 F5 H5 R5 s5 q5 => ?_⟩
    have back : ∀ {ρ' : List (Option B)} {α' : M.S} {F' H'' : Hp}, Stp M σ4 ρ4 α2 F3 H' ρ' α' F' H'' → Stp M (wipe σ vs) (wipeB ρ1 vs) α1 F1 H1 (wipeB ρ1 vs) α' F' H'' := fun {ρ' α' F' H''} s =>
      s2.trans (s3.trans ⟨s.sF, s.sH, s.sT, s.sN, fun b h => (s.sZ b h).elim .inl fun h => .inr (h.elim .inl fun h => .inr (o4 b h)), fun _ h => h⟩)
    cases b with
    | false =>
      rw [if_neg Bool.false_ne_true] at q5
      refine iteF ?_
      obtain ⟨hl5, dv5, fl5, nl5⟩ := stay R4 s5 R5.sub no4 hl3 dv3 fl3 nl3
      exact ⟨acc, us, α5, F5, (R5.wiped vs).cast q5.1 w5, back s5, hl5, dv5, fl5, nl5, q5.2⟩
    | true =>
      rw [if_pos rfl] at q5
      refine iteT ?_
      refine ⟨_, ρ5, α5, F5, _, R5, q5, fun vk rk ρk αk Fk Hk Rk sk rvk qk => ?_⟩
      refine ⟨_, ρk, αk, Fk, _, Rk, qk, fun v r ρ6 α6 F6 H6 R6 s6 rv q6 => ?_⟩
      obtain ⟨y, ρ7, F7, R7, s7, dy, hw, ky, hky, hz, q7⟩ := fz_ok Rk s6 R6 rv q6
      have ck : vk = kV ky := (rvk.cv Rk).key hky
      have s8 := (s5.trans sk).trans s7
      obtain ⟨hl8, dv8, fl8, nl8⟩ := stay R4 s8 R7.sub no4 hl3 dv3 fl3 nl3
      refine ⟨us, ky, ck, hl8, by rw [dv8.length]; exact hz, putD acc ky y, putK us ky v, α6, F7, ?_, (back s8).mutNew hL, upd_same, dv8.put dy, fl8, nl8, q7⟩
      have R9 := (R7.wiped vs).cast hw w5
      exact R9.mutNew (ne_none hl8) fl8 nl8 (fun z => noW z) (R1.zn hL)
  · have e : i = ds.length := by omega
    subst e
    obtain ⟨Ru, su⟩ := R1.unwipe s2 (R1.wiped vs |>.unbase R2)
    refine .inl ⟨stop, k _ (.nw (.m acc)) ρ1 α2 F2 H2 Ru (s1.trans su) ⟨L, _, rfl, hl, dv, fl, nl, (none_or H L).elim id fun q => absurd hL (s1.sT L q)⟩ (hd acc α2 inv)⟩

theorem qe_dc {kx vx tg iter : Expr} {ifs : List Expr} {scope : Scope} {own : List (Str × Nat)} {pos : Pos} {wi : WI M} {g : WG M} {wt : WT M} {wk we : WE M} (hN : X.N.Nodup) (hi : QI X M tg iter wi) (ok : BlkOk X.N X.env.scope scope own)
    (hg : ∀ s H C cl fp, QG (X.blk s H scope (compEnvC scope cl C X.env) fp) M tg (own.map (·.2)) g) (ht : ∀ s H C cl fp, QTs (X.blk s H scope (compEnvC scope cl C X.env) fp) M ifs wt)
    (hk : ∀ s H C cl fp, QE (X.blk s H scope (compEnvC scope cl C X.env) fp) M kx wk) (he : ∀ s H C cl fp, QE (X.blk s H scope (compEnvC scope cl C X.env) fp) M vx we) (hc : X.calm = true := by rfl) (hs : ∀ x, foldedSetIterable iter X.env x = pure x := by intro _; rfl) :
    QE X M (.DictComp kx vx [⟨tg, iter, ifs, 0⟩] scope pos) (wDc wi g wt wk we (own.map (·.2))) := by
  refine ⟨pe_weak (pe_dc (own := own) (tk := tW M wk) (tv := tW M we) (tt := tWT M wt) (g := tWG M (own.map (·.2)) g) hc hN hi.run ok (fun s H C cl fp => (hg s H C cl fp).run) (fun s H C cl fp => (ht s H C cl fp).run) (fun s H C cl fp => (hk s H C cl fp).run) (fun s H C cl fp => (he s H C cl fp).run) hs) fun σ H Q' ⟨Z, ρ, α, F, Q, R0, w, k⟩ => ?_⟩
  exact dc_run R0 w k
end
end DL
set_option maxHeartbeats 4000000
namespace DL
open PySem PySem.Spec L2
open PyProof.Rows hiding St
/-! ### a part of a text -/
section
variable {X : Cx} {M : Amb X.K}
def gSlS (d : D) (lo hi : Option Int) (Q : R → Prop) : Prop := match d with
  | .str z => z.length ≤ sizeLine ∧ Q (.fr (.str (cutS z lo hi)))
  | _ => False
def wSlS {K : PySem.W.Frag} {M : Amb K} (w : WE M) (wl wh : WO M) : WE M := fun E Q => w E fun r E1 => wl E1 fun lo E2 => wh E2 fun hi E3 => gSlS r.c lo hi fun z => Q z E3
theorem qe_sliceS {e : Expr} {lo hi : Option Expr} {p2 pos : Pos} {w : WE M} {wl wh : WO M} (he : QE X M e w) (hl : QO X M lo wl) (hh : QO X M hi wh) : QE X M (.Subscript e (.Slice lo hi none p2) pos) (wSlS w wl wh) := by
  refine ⟨pe_weak (pe_slice sl_str he.run hl.run hh.run) fun σ H Q' ⟨Z, ρ, α, F, Q, R0, w, k⟩ => ?_⟩
  refine ⟨Z, ρ, α, F, _, R0, w, fun v r ρ1 α1 F1 H1 R1 s1 rv q => ?_⟩
  refine ⟨Z, ρ1, α1, F1, _, R1, q, fun lo ρ2 α2 F2 H2 R2 s2 q => ?_⟩
  refine ⟨Z, ρ2, α2, F2, _, R2, q, fun hi ρ3 α3 F3 H3 R3 s3 q => ?_⟩
  have c := (rv.cv R1).step (s2.trans s3)
  have s := s1.trans (s2.trans s3)
  generalize r.c = d at q c
  cases d <;> first | exact q.elim | skip
  exact ⟨_, c.str, q.1, k _ _ ρ3 α3 F3 H3 R3 s (RV.mk (.str _)) q.2⟩
end
end DL
set_option maxHeartbeats 4000000
namespace DL
open PySem PySem.Spec L2
open PyProof.Rows hiding St
/-! ### a def that changes nothing, asked for a flat answer: what is handed in stays the caller's own -/
def noAmb (K : PySem.W.Frag) : Amb K where
  S := Unit
  ok _ _ _ := True
  fp _ _ := False
  stay _ _ _ _ _ _ _ _ := trivial
  live _ _ _ _ _ h := h.elim
  nt _ _ _ _ _ _ h := h.elim
section
variable {X : Cx} {M : Amb X.K}
theorem CVs.dvs {Z : Base M} {ρ : List (Option B)} {α : M.S} {F H : Hp} {σ : L2.St} (R0 : Rel M Z ρ α F σ H) : ∀ {vs : List V} {ds : List D}, CVs M α F H vs ds → DVs X.K H vs ds
  | _, _, .nil => .nil
  | _, _, .cons a t => .cons (a.dv R0) (CVs.dvs R0 t)
theorem Rel.grown {Z : Base M} {ρ : List (Option B)} {α : M.S} {F H H' : Hp} {σ : L2.St} (R1 : Rel M Z ρ α F σ H) (h : Sub H H') : Rel M Z ρ α F σ H' ∧ Stp M σ ρ α F H ρ α F H' := by
  have T : ∀ b, H b ≠ none → H' b ≠ none := fun b hb => by
    obtain ⟨o, e⟩ := somehow hb
    exact ne_none (h b o e)
  refine ⟨⟨R1.sub.trans h, R1.len, R1.val, fun i b e ow => ?_, R1.dis, M.stay _ _ _ _ _ R1.amb (Sub.refl _) fun b o _ e => h b o e, R1.ambF, R1.bF, fun b o e n => h b o (R1.bH b o e n), R1.bN, fun b hb => T b (R1.bT b hb), R1.bZ⟩, ⟨Sub.refl _, fun b o e _ => h b o e, T, fun _ q => .inl q, fun _ q => .inl q, fun _ q => q⟩⟩
  obtain ⟨a, o, h1, h2, h3⟩ := R1.own i b e ow
  exact ⟨a, o, h1, h a o h2, h3⟩
def wCallP {K : PySem.W.Frag} {M : Amb K} (n : Nat) (C : Ct (noAmb K)) (wa : WA M) : WE M := fun E Q => wa E fun ds E1 => ds.length = n ∧ C ds () fun r _ => ∃ d, r = .fr d ∧ d.flat = true ∧ Q (.fr d) E1
theorem qe_callP {x : Str} {p pos : Pos} {e : Expr} {es : List Expr} {k n : Nat} {C : Ct (noAmb X.K)} {wa : WA M} (o : Ok X.prog X.w X.K X.mg X.base (noAmb X.K) x k n C) (hr : Room k X.A) (hgd : X.A.guards = some []) (ha : QC X M (e :: es) wa) (hg : Gl X x := by rfl)
    (hdb : (x == ("__debug__" : Str)) = false := by decide) (he : starEach (e :: es) X.env = (false, eval e X.env) :: starEach es X.env := by rfl) (hpl : (backTo pos (starEach es X.env)).any (·.1) = false := by rfl) :
    QE X M (.Call (.Name x p) (e :: es) [] pos) (wCallP n C wa) := by
  obtain ⟨f, fd, ps, hm, hk, hb, hps, G⟩ := o
  refine ⟨⟨fun pins s σ H Q' I q => ?_⟩⟩
  obtain ⟨Z, ρ, α, F, Q, R0, w, kq⟩ := q
  refine wpAny_Call_Name_kw (ld_glob I hg hm ?_ hdb)
  have run := ha.run.run pos pins s σ H (fun vs H1 => spD (noAmb X.K) n C vs H1 Q' E0) I ⟨Z, ρ, α, F, _, R0, w, fun vs ds ρ1 α1 F1 H1 R1 s1 cs q => ?_⟩
  · exact PySem.W.callWith_K (h₀ := X.base) I.ok.mod.kin hk (thn run fun us s1 ⟨vs, H1, I1, r, q⟩ => ⟨I1.kIn, run_fng (CX := CX0) (E := E0) G hr hgd hb I1 r q⟩) he hpl
  have dv := cs.dvs R1
  refine ⟨by rw [dv.length]; exact q.1, H1, ds, (), _, Sub.refl _, dv, trivial, fun _ h => h.elim, q.2, fun v r α' F' H' A rv q => ?_⟩
  obtain ⟨d, rfl, fl, q⟩ := q
  obtain ⟨R2, s2⟩ := R1.grown (H' := H') fun b o e => A.h b o e fun z => z
  have dv' : DV X.K F' v d := rv
  have dF : DV X.K F1 v d := dv'.scal fun a z => by
    subst z
    cases dv' <;> cases fl
  exact kq v (.fr d) ρ1 α1 F1 H' R2 (s1.trans s2) (RV.mk dF) q
end
end DL
set_option maxHeartbeats 4000000
namespace DL
open PySem PySem.Spec L2
open PyProof.Rows hiding St
section
variable {X : Cx} {M : Amb X.K}
/-- list(range(n)) -/
def wLRg1 {K : PySem.W.Frag} {M : Amb K} (wa : WE M) : WE M := fun E Q => wa E fun ra E1 => asI ra.c fun n => RgOk 0 n ∧ Q (.nw (.l (rngD 0 n.toNat))) E1
theorem qe_lrg1 {a : Expr} {p p2 pos2 pos : Pos} {wa : WE M} (hml : X.mg "list" = none) (hm : X.mg "range" = none) (ha : QE X M a wa) (hg : Gl X "list" := by rfl) (hg2 : Gl X "range" := by rfl) (hc : X.calm = true := by rfl)
    (na : starEach [a] X.env = (false, eval a X.env) :: starEach [] X.env := by rfl)
    (nc : starEach [.Call (.Name "range" p2) [a] [] pos2] X.env = (false, eval (.Call (.Name "range" p2) [a] [] pos2) X.env) :: starEach [] X.env := by rfl) :
    QE X M (.Call (.Name "list" p) [.Call (.Name "range" p2) [a] [] pos2] [] pos) (wLRg1 wa) := by
  refine ⟨pe_weak (pe_listRg hc hg hml (prg_1 hg2 hm ha.run na) nc) fun σ H Q' ⟨Z, ρ, α, F, Q, R0, w, k⟩ => ?_⟩
  refine ⟨Z, ρ, α, F, _, R0, w, fun v r ρ1 α1 F1 H1 R1 s1 rv q => ?_⟩
  obtain ⟨n, e1, h1, q⟩ := asI_ok q
  have c := rv.cv R1
  rw [e1] at c
  refine ⟨n, c.int, h1, fun p hp => ?_⟩
  obtain ⟨r3, s3⟩ := R1.laid (o := .lst (rgV 0 n)) hp
  have dv := rngV_dvs (K := X.K) (F := F1) 0 n
  rw [Int.sub_zero] at dv
  exact k _ _ ρ1 α1 F1 _ r3 (s1.trans s3) ((RV.list R1 hp dv).back s1.sT) q
/-- isinstance(e, (T1, T2, T3, T4)) -/
theorem qe_isi4 {e : Expr} {w : WE M} {T1 T2 T3 T4 : Str} {S1 S2 S3 S4 : String} {px q1 q2 q3 q4 p4 pos : Pos} {k1} (h : QE X M e w) (hT1 : S1 ∈ ["int", "bool", "str", "tuple", "list", "dict"]) (hT2 : S2 ∈ ["int", "bool", "str", "tuple", "list", "dict"]) (hT3 : S3 ∈ ["int", "bool", "str", "tuple", "list", "dict"]) (hT4 : S4 ∈ ["int", "bool", "str", "tuple", "list", "dict"]) (hm : X.mg "isinstance" = none) (hm1 : X.mg T1 = none) (hm2 : X.mg T2 = none) (hm3 : X.mg T3 = none) (hm4 : X.mg T4 = none)
    (hg : Gl X "isinstance" := by rfl) (hg1 : Gl X T1 := by rfl) (hb1 : bootBuiltins T1 = some (.type S1) := by decide +kernel) (hn1 : T1 ≠ "__name__" := by decide) (hd1 : (T1 == ("__debug__" : Str)) = false := by decide) (hg2 : Gl X T2 := by rfl) (hb2 : bootBuiltins T2 = some (.type S2) := by decide +kernel) (hn2 : T2 ≠ "__name__" := by decide) (hd2 : (T2 == ("__debug__" : Str)) = false := by decide) (hg3 : Gl X T3 := by rfl) (hb3 : bootBuiltins T3 = some (.type S3) := by decide +kernel) (hn3 : T3 ≠ "__name__" := by decide) (hd3 : (T3 == ("__debug__" : Str)) = false := by decide) (hg4 : Gl X T4 := by rfl) (hb4 : bootBuiltins T4 = some (.type S4) := by decide +kernel) (hn4 : T4 ≠ "__name__" := by decide) (hd4 : (T4 == ("__debug__" : Str)) = false := by decide)
    (he : starEach (e :: [.Tuple [.Name T1 q1, .Name T2 q2, .Name T3 q3, .Name T4 q4] k1 p4]) X.env = (false, eval e X.env) :: starEach [.Tuple [.Name T1 q1, .Name T2 q2, .Name T3 q3, .Name T4 q4] k1 p4] X.env := by rfl) (he2 : starEach [.Tuple [.Name T1 q1, .Name T2 q2, .Name T3 q3, .Name T4 q4] k1 p4] X.env = (false, eval (.Tuple [.Name T1 q1, .Name T2 q2, .Name T3 q3, .Name T4 q4] k1 p4) X.env) :: starEach [] X.env := by rfl)
    (hs1 : starEach [.Name T1 q1, .Name T2 q2, .Name T3 q3, .Name T4 q4] X.env = (false, eval (.Name T1 q1) X.env) :: starEach [.Name T2 q2, .Name T3 q3, .Name T4 q4] X.env := by rfl) (hs2 : starEach [.Name T2 q2, .Name T3 q3, .Name T4 q4] X.env = (false, eval (.Name T2 q2) X.env) :: starEach [.Name T3 q3, .Name T4 q4] X.env := by rfl) (hs3 : starEach [.Name T3 q3, .Name T4 q4] X.env = (false, eval (.Name T3 q3) X.env) :: starEach [.Name T4 q4] X.env := by rfl) (hs4 : starEach [.Name T4 q4] X.env = (false, eval (.Name T4 q4) X.env) :: starEach [] X.env := by rfl)
    (hpl : (backTo pos (starEach [.Tuple [.Name T1 q1, .Name T2 q2, .Name T3 q3, .Name T4 q4] k1 p4] X.env)).any (·.1) = false := by rfl) :
    QE X M (.Call (.Name "isinstance" px) [e, .Tuple [.Name T1 q1, .Name T2 q2, .Name T3 q3, .Name T4 q4] k1 p4] [] pos) (wIsi [S1, S2, S3, S4] w) := by
  have PT := pa_cons (pe_bltn (v := .ty S1) hg1 hm1 hb1 rfl hn1 hd1) (pa_cons (pe_bltn (v := .ty S2) hg2 hm2 hb2 rfl hn2 hd2) (pa_cons (pe_bltn (v := .ty S3) hg3 hm3 hb3 rfl hn3 hd3) (pa_cons (pe_bltn (v := .ty S4) hg4 hm4 hb4 rfl hn4 hd4) pa_nil hs4) hs3) hs2) hs1
  refine ⟨pe_weak (pe_callB call_isiT hg hm (by decide +kernel) (pa_cons h.run (pa_cons (pe_tup PT) pa_nil he2) he) (by decide) (by decide) he hpl) fun σ H Q' ⟨Z, ρ, α, F, Q, R0, w, k⟩ => ?_⟩
  refine ⟨Z, ρ, α, F, _, R0, w, fun v r ρ1 α1 F1 H1 R1 s1 rv q => ?_⟩
  obtain ⟨n, q⟩ := q
  refine ⟨by show 4 ≤ sizeLine; decide, fun p hp => ?_⟩
  obtain ⟨r2, s2⟩ := R1.laid (o := .tup [V.ty S1, V.ty S2, V.ty S3, V.ty S4]) hp
  have k1 := kit_ty (K := X.K) (kit_all S1 hT1 _ (tyD_mem n))
  have k2 := kit_ty (K := X.K) (kit_all S2 hT2 _ (tyD_mem n))
  have k3 := kit_ty (K := X.K) (kit_all S3 hT3 _ (tyD_mem n))
  have k4 := kit_ty (K := X.K) (kit_all S4 hT4 _ (tyD_mem n))
  refine ⟨v, p, _, _, [.type S1, .type S2, .type S3, .type S4], _, rfl, upd_same, .cons (.ty S1) (.cons (.ty S2) (.cons (.ty S3) (.cons (.ty S4) .nil))), (((rv.cv R1).step s2).dv r2).ty n, ?_, k _ (.fr (.bl ([S1, S2, S3, S4].any fun T => isT T r.c))) ρ1 α1 F1 _ r2 (s1.trans s2) (RV.mk (.bl _)) q⟩
  simp only [PySem.W.kitAny, k1, k2, k3, k4, List.any_cons, List.any_nil, Bool.or_false, isT_ty n]
  cases (S1 == tyD r.c || (tyD r.c == "bool" && S1 == "int")) <;> cases (S2 == tyD r.c || (tyD r.c == "bool" && S2 == "int")) <;> cases (S3 == tyD r.c || (tyD r.c == "bool" && S3 == "int")) <;> cases (S4 == tyD r.c || (tyD r.c == "bool" && S4 == "int")) <;> rfl
end
end DL
set_option maxHeartbeats 4000000
namespace DL
open PySem PySem.Spec L2
open PyProof.Rows hiding St
section
variable {X : Cx} {M : Amb X.K}
def isFr (r : R) (Q : D → Prop) : Prop := match r with
  | .fr d => Q d
  | _ => False
theorem isFr_ok {r : R} {Q : D → Prop} (h : isFr r Q) : ∃ d, r = .fr d ∧ Q d := by
  cases r <;> first | exact h.elim | exact ⟨_, rfl, h⟩
/-- three names at once; only the first may come to own what it is given -/
def wPar3 {K : PySem.W.Frag} {M : Amb K} (i j l : Nat) (wa wb wc : WE M) : WS M := fun D E => wa E fun ra E1 => nal ra E1 fun ra E2 => wb E2 fun rb E3 => isFr rb fun d => wc E3 fun rc E4 => isFr rc fun d2 => D.nx (((putN i ra E4).1.set j (some (.d d))).set l (some (.d d2)), E4.2)
theorem qs_par3 {i j l : Nat} {x y z : Str} {a b c : Expr} {wa wb wc : WE M} {px py pz pt pos : Pos} {kt k2 pt2} (hN : X.N.Nodup) (ha : QE X M a wa) (hb : QE X M b wb) (hcc : QE X M c wc) (hi : X.N[i]? = some x := by rfl) (hj : X.N[j]? = some y := by rfl) (hl : X.N[l]? = some z := by rfl) (hij : i ≠ j := by decide) (hil : i ≠ l := by decide) (hjl : j ≠ l := by decide)
    (hx : X.env.scope.names.lookup x = some .local := by rfl) (hy : X.env.scope.names.lookup y = some .local := by rfl) (hz : X.env.scope.names.lookup z = some .local := by rfl)
    (hw : swappedStores [.Tuple [.Name x px, .Name y py, .Name z pz] kt pt] (.Tuple [a, b, c] k2 pt2) X.env = pure (some [x, y, z]) := by rfl) (hc : X.calm = true := by rfl)
    (hs : swapsWithSole [.Tuple [.Name x px, .Name y py, .Name z pz] kt pt] (.Tuple [a, b, c] k2 pt2) pos.line X.env = pure false := by rfl) (h1 : starEach [a, b, c] X.env = (false, eval a X.env) :: starEach [b, c] X.env := by rfl) (h2 : starEach [b, c] X.env = (false, eval b X.env) :: starEach [c] X.env := by rfl) (h3 : starEach [c] X.env = (false, eval c X.env) :: starEach [] X.env := by rfl) :
    QS X M (.Assign [.Tuple [.Name x px, .Name y py, .Name z pz] kt pt] (.Tuple [a, b, c] k2 pt2) pos) (wPar3 i j l wa wb wc) := by
  refine ⟨ps_weak (ps_par3 hc hN hi hj hl hij hil hjl hx hy hz (pa_cons ha.run (pa_cons hb.run (pa_cons hcc.run pa_nil h3) h2) h1) hw hs) fun D' σ H ⟨Z, ρ, α, F, D, R0, w, k1, k2, k3, k4⟩ => ?_⟩
  refine ⟨Z, ρ, α, F, _, R0, w, fun v r ρ1 α1 F1 H1 R1 s1 rv q => ?_⟩
  obtain ⟨ra, ρ2, F2, R2, s2, rv2, na, q⟩ := nal_ok R0 s1 R1 rv q
  refine ⟨Z, ρ2, α1, F2, _, R2, q, fun v' r' ρ3 α3 F3 H3 R3 s3 rv' q => ?_⟩
  obtain ⟨d', rfl, q⟩ := isFr_ok q
  refine ⟨Z, ρ3, α3, F3, _, R3, q, fun v2 r2 ρ4 α4 F4 H4 R4 s4 rvv q => ?_⟩
  obtain ⟨d2, rfl, q⟩ := isFr_ok q
  have s34 := s3.trans s4
  have s5 := s2.trans s34
  have rv5 := rv2.step R2 na (fun a _ h z => R0.ownn h (s2.sO a z)) s34 R4.sub
  obtain ⟨R5, e5⟩ := putN_ok i R4 rv5 na fun a e h => ⟨fun z => R0.ownn h (s5.sO a z), R0.zn h⟩
  have dv' : DV X.K F4 v' d' := DV.mono s4.sF rv'
  have dv2 : DV X.K F4 v2 d2 := rvv
  exact ⟨v, v', v2, rfl, k1 _ α4 F4 _ H4 ((R5.putD j dv').putD l dv2) q⟩
end
end DL
set_option maxHeartbeats 4000000
namespace DL
open PySem PySem.Spec L2
open PyProof.Rows hiding St
/-! ### ints or tuples of ints, one below the other -/
section
variable {X : Cx} {M : Amb X.K}
def gLtA : D → D → (R → Prop) → Prop
  | .int i, .int j, Q => Q (.fr (.bl (decide (i < j))))
  | .tup xs, .tup ys, Q => ∃ ns ms : List Int, xs = ns.map .int ∧ ys = ms.map .int ∧ Q (.fr (.bl (HT.lexLt ns ms)))
  | _, _, _ => False
theorem o_ltA (hu : X.A.units + 64 < cLine) : O2 X M (compareOp .Lt) gLtA := by
  refine ⟨_, op_lt.or (op_ltT (by omega)), ?_⟩
  intro Z ρ α F σ H x y dx dy Q P R0 c1 c2 q k
  cases dx <;> cases dy <;> first | exact q.elim | skip
  case int.int i j => exact .inl ⟨i, j, c1.int, c2.int, k _ _ F H R0 .refl (RV.mk (.bl _)) q⟩
  case tup.tup xs ys =>
    obtain ⟨ns, ms, rfl, rfl, q⟩ := q
    obtain ⟨a, vs, rfl, ha, da⟩ := c1.tup R0
    obtain ⟨b, us, rfl, hb, db⟩ := c2.tup R0
    rw [da.intsV] at ha
    rw [db.intsV] at hb
    exact .inr ⟨a, b, ns, ms, rfl, rfl, R0.sub.t ha, R0.sub.t hb, k _ _ F H R0 .refl (RV.mk (.bl _)) q⟩
end
end DL
set_option maxHeartbeats 4000000
namespace DL
open PySem PySem.Spec L2
open PyProof.Rows hiding St
/-! ### sorted(set(t)), t a tuple of ints -/
section
variable {X : Cx} {M : Amb X.K}
def rSetTI (K : PySem.W.Frag) (w : World) : List V → Hp → VK → Prop := fun xs H Q => ∃ (l : Addr) (ns : List Int), xs = [V.ref l] ∧ SqT K H l (ns.map V.int) ∧ ns.length < 60 ∧ ∀ (p : Addr) (c : Nat), H p = none → c ≤ ns.length → Q (.ref p) (upd H p (SetO w p (fun j => decide (j ∈ ns)) c))
theorem cr_setTI (hc : X.calm = true) : CallR X (.type "set") (rSetTI X.K X.w) := by
  intro pins s σ H xs us Q I r h
  obtain ⟨l, ns, rfl, hT, hl, q⟩ := h
  rw [Vals.ref1 r]
  obtain ⟨its, rv, ht, hz⟩ := I.tuple hT
  refine call_set_tupI ns (I.ok.hd hc) (show s.heap.IsTuple l its.toArray by obtain ⟨o, h1, h2, n, h3⟩ := ht; exact ⟨o, h1, h2, n, h3⟩) (ints_of_vals rv) (by show ns.length + 1 < 4096; omega) fun h' tk c R hle kp => ?_
  have hn : H s.heap.objs.size = none := I.hok.fresh (Nat.le_refl _)
  exact ⟨.ref _, _, I.laid (t' := tk) kp (Nat.le_refl _) (setO_new R), rfl, q _ c hn hle⟩
def wSortSet {K : PySem.W.Frag} {M : Amb K} (w : WE M) : WE M := fun E Q => w E fun r E1 => match r.c with
  | .tup xs => ∃ ns : List Int, xs = ns.map .int ∧ ns.length < 60 ∧ ∀ ms : List Int, ms.Pairwise (· < ·) → (∀ k, k ∈ ms ↔ k ∈ ns) → Q (.nw (.l (ms.map .int))) E1
  | _ => False
theorem qe_sortSet {e : Expr} {p p2 pos2 pos : Pos} {w : WE M} (hs : X.mg "sorted" = none) (ht : X.mg "set" = none) (he : QE X M e w) (hg : Gl X "sorted" := by rfl) (hg2 : Gl X "set" := by rfl) (hc : X.calm = true := by rfl)
    (na : starEach [e] X.env = (false, eval e X.env) :: starEach [] X.env := by rfl)
    (nb : starEach [.Call (.Name "set" p2) [e] [] pos2] X.env = (false, eval (.Call (.Name "set" p2) [e] [] pos2) X.env) :: starEach [] X.env := by rfl)
    (h1 : (backTo pos2 (starEach ([] : List Expr) X.env)).any (·.1) = false := by rfl) (h2 : (backTo pos (starEach ([] : List Expr) X.env)).any (·.1) = false := by rfl) :
    QE X M (.Call (.Name "sorted" p) [.Call (.Name "set" p2) [e] [] pos2] [] pos) (wSortSet w) := by
  have e1 := pe_callTy (p := p2) (pos := pos2) (cr_setTI hc) hg2 ht (by decide +kernel) (pa_cons he.run pa_nil na) (by decide) (by decide) na h1
  refine ⟨pe_weak (pe_callB (cr_sortedSet hc) hg hs (by decide +kernel) (pa_cons e1 pa_nil nb) (by decide) (by decide) nb h2) fun σ H Q' ⟨Z, ρ, α, F, Q, R0, w, k⟩ => ?_⟩
  refine ⟨Z, ρ, α, F, _, R0, w, fun v r ρ1 α1 F1 H1 R1 s1 rv q => ?_⟩
  have c := rv.cv R1
  generalize r.c = d at c q
  cases d <;> first | exact q.elim | skip
  obtain ⟨ns, rfl, hl, q⟩ := q
  obtain ⟨a, vs, rfl, ha, da⟩ := c.tup R1
  rw [da.intsV] at ha
  refine ⟨a, ns, rfl, R1.sub.t ha, hl, fun p c hp hle => ?_⟩
  obtain ⟨r2, s2⟩ := R1.laid (o := SetO X.w p (fun j => decide (j ∈ ns)) c) hp
  refine ⟨p, _, c, rfl, upd_same, by omega, fun ms p' pw hm hlen hp' => ?_⟩
  obtain ⟨r3, s3⟩ := r2.laid (o := .lst (ms.map V.int)) hp'
  exact k _ _ ρ1 α1 F1 _ r3 ((s1.trans s2).trans s3) ((RV.list r2 hp' (DVs.ints ms)).back fun b hb => s2.sT b (s1.sT b hb)) (q ms pw fun j => (hm j).trans (by simp))
end
end DL
set_option maxHeartbeats 4000000
namespace DL
open PySem PySem.Spec L2
open PyProof.Rows hiding St
/-! ### sorted(set(xs)), xs a list of tuples of ints, all of one length, from 0 on -/
section
variable {X : Cx} {M : Amb X.K}
def tupI (ns : List Int) : D := .tup (ns.map .int)
theorem DVs.tups {K : PySem.W.Frag} {F : Hp} : ∀ {vs : List V} {rows : List (List Int)}, DVs K F vs (rows.map tupI) → ∃ ks : List (Addr × List Int), vs = ks.map (fun p => V.ref p.1) ∧ rows = ks.map (·.2) ∧ ∀ p ∈ ks, F p.1 = some (.tup (p.2.map V.int))
  | _, [], .nil => ⟨[], rfl, rfl, nofun⟩
  | _, r :: rows, .cons h t => by
    obtain ⟨ks, h1, h2, h3⟩ := DVs.tups t
    cases h with
    | tup h dv =>
      rw [dv.intsV] at h
      refine ⟨(_, r) :: ks, by rw [h1]; rfl, by rw [h2]; rfl, fun p hp => ?_⟩
      rcases List.mem_cons.mp hp with e | hp
      · rw [e]; exact h
      · exact h3 p hp
theorem dvs_tups {K : PySem.W.Frag} {F : Hp} : ∀ (ks : List (Addr × List Int)), (∀ p ∈ ks, F p.1 = some (.tup (p.2.map V.int))) → DVs K F (ks.map fun p => V.ref p.1) ((ks.map (·.2)).map tupI)
  | [], _ => .nil
  | p :: ks, h => .cons (.tup (h p (List.mem_cons_self ..)) (DVs.ints p.2)) (dvs_tups ks fun q hq => h q (List.mem_cons_of_mem _ hq))
def wSortSetT {K : PySem.W.Frag} {M : Amb K} (w : WE M) : WE M := fun E Q => w E fun r E1 => match r.c with
  | .lst xs => ∃ (rows : List (List Int)) (d : Nat) (B : Int), xs = rows.map tupI ∧ rows.length < 64 ∧ 1 ≤ d ∧ (∀ r ∈ rows, r.length = d ∧ TS.Bd B r) ∧
      ∀ ms : List (List Int), ms.Nodup → (∀ k, k ∈ ms ↔ k ∈ rows) → ms.Pairwise (fun a b => TS.code B a ≤ TS.code B b) → Q (.nw (.l (ms.map tupI))) E1
  | _ => False
theorem qe_sortSetT {e : Expr} {p p2 pos2 pos : Pos} {w : WE M} (hu : X.A.units + 64 < cLine) (hs : X.mg "sorted" = none) (ht : X.mg "set" = none) (he : QE X M e w) (hg : Gl X "sorted" := by rfl) (hg2 : Gl X "set" := by rfl) (hc : X.calm = true := by rfl)
    (na : starEach [e] X.env = (false, eval e X.env) :: starEach [] X.env := by rfl)
    (nb : starEach [.Call (.Name "set" p2) [e] [] pos2] X.env = (false, eval (.Call (.Name "set" p2) [e] [] pos2) X.env) :: starEach [] X.env := by rfl)
    (h1 : (backTo pos2 (starEach ([] : List Expr) X.env)).any (·.1) = false := by rfl) (h2 : (backTo pos (starEach ([] : List Expr) X.env)).any (·.1) = false := by rfl) :
    QE X M (.Call (.Name "sorted" p) [.Call (.Name "set" p2) [e] [] pos2] [] pos) (wSortSetT w) := by
  have e1 := pe_callTy (p := p2) (pos := pos2) (cr_setOfT hc hu) hg2 ht (by decide +kernel) (pa_cons he.run pa_nil na) (by decide) (by decide) na h1
  refine ⟨pe_weak (pe_callB (cr_sortedT hc) hg hs (by decide +kernel) (pa_cons e1 pa_nil nb) (by decide) (by decide) nb h2) fun σ H Q' ⟨Z, ρ, α, F, Q, R0, w, k⟩ => ?_⟩
  refine ⟨Z, ρ, α, F, _, R0, w, fun v r ρ1 α1 F1 H1 R1 s1 rv q => ?_⟩
  have c := rv.cv R1
  generalize r.c = d at c q
  cases d <;> first | exact q.elim | skip
  obtain ⟨rows, d, B, rfl, hl, hd, hB, q⟩ := q
  obtain ⟨a, vs, rfl, ha, da⟩ := c.lst R1
  obtain ⟨ks, rfl, rfl, hk⟩ := da.tups
  rw [List.length_map] at hl
  refine ⟨a, ks, rfl, SqL.of ha, fun x hx => R1.sub.t (SqT.of (hk x hx)), hl, fun p L hp hL hall => ?_⟩
  obtain ⟨r2, s2⟩ := R1.laid (o := SetTO X.prog X.w p L) hp
  refine ⟨p, L, d, B, rfl, upd_same, fun x hx => r2.sub.t (SqT.of (hk x (hL x hx))), hd, fun x hx => hB _ (List.mem_map_of_mem (hL x hx)), fun L' p' pm nd _ pw hp' => ?_⟩
  obtain ⟨r3, s3⟩ := r2.laid (o := .lst (L'.map fun q => V.ref q.1)) hp'
  have hL' : ∀ x ∈ L', x ∈ ks := fun x hx => hL x (pm.mem_iff.mp hx)
  refine k _ _ ρ1 α1 F1 _ r3 ((s1.trans s2).trans s3) ((RV.list r2 hp' (dvs_tups L' fun x hx => hk x (hL' x hx))).back fun b hb => s2.sT b (s1.sT b hb)) (q (L'.map (·.2)) nd (fun j => ⟨fun hj => ?_, fun hj => ?_⟩) (List.pairwise_map.mpr pw))
  · obtain ⟨x, hx, rfl⟩ := List.mem_map.mp hj
    exact List.mem_map_of_mem (hL' x hx)
  · obtain ⟨x, hx, rfl⟩ := List.mem_map.mp hj
    obtain ⟨y, hy, e⟩ := List.mem_map.mp (hall x hx)
    rw [← e]
    exact List.mem_map_of_mem (pm.mem_iff.mpr hy)
end
end DL
set_option maxHeartbeats 4000000
namespace DL
open PySem PySem.Spec L2
open PyProof.Rows hiding St
/-! ### sorted(xs), xs a list of plain data that can be compared place by place -/
section
variable {X : Cx} {M : Amb X.K}
abbrev ordD : D → D → Bool := PySem.W.dataLe false D.py
theorem each_dv {K : PySem.W.Frag} {H : Hp} {R : Value → D → Prop} : ∀ {vs : List V} {us : List Value} {ds : List D}, Vals vs us → DVs K H vs ds → (∀ v u d, RelV v u → DV K H v d → d ∈ ds → R u d) → PySem.W.EachIs R us ds
  | [], _, _, h, d, k => by
    cases h
    cases d
    exact .nil
  | v :: vs, _, _, h, d, k => by
    cases h with
    | cons h1 h2 =>
      cases d with
      | cons d1 d2 => exact .cons (k _ _ _ h1 d1 (List.mem_cons_self ..)) (each_dv h2 d2 fun v u d a b c => k v u d a b (List.mem_cons_of_mem _ c))
theorem dv_each {K : PySem.W.Frag} {H : Hp} : ∀ {us : List Value} {ds : List D}, PySem.W.EachIs (fun u d => ∃ v, RelV v u ∧ DV K H v d) us ds → ∃ vs, Vals vs us ∧ DVs K H vs ds
  | _, _, .nil => ⟨[], .nil, .nil⟩
  | _, _, .cons ⟨v, a, b⟩ t => by
    obtain ⟨vs, c, d⟩ := dv_each t
    exact ⟨v :: vs, .cons a c, .cons b d⟩
theorem cr_sortA (hu : X.A.units + 64 < cLine) : CallR X (.builtin "sorted") (fun vs H Q => ∃ (a : Addr) (xs : List V) (ds : List D) (F : Hp), vs = [V.ref a] ∧ SqL X.K H a xs ∧ Sub F H ∧ DVs X.K F xs ds ∧ (∀ d ∈ ds, d.plain = true ∧ d.py.depth ≤ 60) ∧ PySem.W.AllAlike (ds.map D.py) ∧ PySem.W.Sortable (ds.map D.py) ∧
    ∀ ys p, DVs X.K F ys (ds.mergeSort ordD) → H p = none → Q (.ref p) (upd H p (.lst ys))) := by
  intro pins s σ H vs us Q I r h
  obtain ⟨a, xs, ds, F, rfl, hs, sF, dv, hp, hal, hk, q⟩ := h
  obtain ⟨its, rv, hl, hz⟩ := I.list hs
  rw [Vals.ref1 r]
  refine PySem.W.sorted_data (R := fun u d => ∃ v, RelV v u ∧ DV X.K F v d) (enc := D.py) (bs := ds) hl.isList (each_dv rv dv fun v u d a b _ => ⟨v, a, b⟩) (each_dv rv dv fun v u d a b c => Dp.reads I _ _ _ ((b.mono sF).dp (hp d c).1) a) hal hk (by rw [← dv.length]; exact hz) (fun b hb => by
    have := (hp b hb).2
    omega) fun out ho he => ?_
  obtain ⟨ys, hv, hd⟩ := dv_each he
  obtain ⟨ep, he'⟩ := PyProof.Rows.sortedAll_at s.heap its out.toArray
  have hlen : ys.length ≤ sizeLine := by
    rw [hd.length, List.length_mergeSort, ← dv.length]
    exact hz
  exact ⟨.ref _, upd H (s.heap.objs.size + 1) (.lst ys), I.laid (t' := s.toks) (fun _ _ => PyProof.Rows.sortedAll_old) (Nat.le_succ _) ⟨hlen, out, ep, hv, he'⟩, rfl, q _ _ hd (I.hok.fresh (Nat.le_succ _))⟩
def gSortA : List D → (R → Prop) → Prop
  | [.lst xs], Q => (∀ d ∈ xs, d.plain = true ∧ d.py.depth ≤ 60) ∧ PySem.W.AllAlike (xs.map D.py) ∧ PySem.W.Sortable (xs.map D.py) ∧ Q (.nw (.l (xs.mergeSort ordD)))
  | _, _ => False
theorem oc_sortA (hu : X.A.units + 64 < cLine) : OC X M (.builtin "sorted") gSortA := by
  refine ⟨_, cr_sortA hu, ?_⟩
  intro Z ρ α F σ H xs ds Q P R0 cs q k
  rcases ds with _ | ⟨d, _ | ⟨d2, ds⟩⟩
  · exact q.elim
  · obtain ⟨x, rfl, c⟩ := cs.one
    cases d <;> first | exact q.elim | skip
    rename_i ds
    obtain ⟨q1, q2, q3, q⟩ := q
    obtain ⟨a, vs, rfl, ha, da⟩ := c.lst R0
    refine ⟨a, vs, ds, F, rfl, SqL.of ha, R0.sub, da, q1, q2, q3, fun ys p hy hp => ?_⟩
    obtain ⟨r2, s2⟩ := R0.laid (o := .lst ys) hp
    exact k _ _ F _ r2 s2 (RV.list R0 hp hy) q
  · cases d <;> exact q.elim
end
end DL
set_option maxHeartbeats 4000000
namespace DL
open PySem PySem.Spec L2
open PyProof.Rows hiding St
/-! ### sorted(t), t a tuple of ints -/
section
variable {prog : Program} {w : World} {A : Around} {E : Value → Shared → Prop} {s : Shared}
abbrev upH (h : Heap) (vs : List Value) : Heap := (h.push (seqObj "list" #[] 0)).update h.objs.size (Obj.mapSeq fun z => z ++ vs.toArray)
theorem collT {t : Addr} {vs : List Value} {R : List Value → Shared → Prop} (ht : s.heap.IsTuple t vs.toArray) (hz : vs.length ≤ sizeLine) (k : R vs { s with heap := upH s.heap vs }) : wpAny (model prog w) A (collect (.ref t)) R E s := by
  obtain ⟨u, hu, cu, m, du⟩ := id ht
  have hu' : (s.heap.push (seqObj "list" #[] 0)).get? t = some u := Heap.get?_push_of_some _ hu
  unfold collect
  refine wpAny_bind (wpAny_runValue (codeAny_builtin entry_proto_collect' ?_)); show wpAny _ _ (do again (.builtin "list.__iadd__" ⟨[← newList [], .ref t], []⟩)) _ _ s
  refine wpAny_bind (wpAny_newList (wpAny_pure ⟨Code.quiet_builtin _ (by decide +kernel), codeAny_builtin entry_list_iadd' ?_⟩)); show wpAny _ _ (Builtin.List.listExtendWith (.ref s.heap.objs.size) (.ref t) (.ref s.heap.objs.size)) _ _ { s with heap := s.heap.push (seqObj "list" #[] 0) }
  unfold Builtin.List.listExtendWith
  refine wpAny_bind (wpAny_typeOf (T := "tuple") ⟨u, hu', cu⟩ ?_)
  have tt : (Value.type "tuple" == Value.type "tuple") = true := by rfl
  rw [if_pos (by rw [tt]; simp)]
  refine wpAny_bind (listItems_at hu' du ?_); refine wpAny_bind (listItems_at (xs := #[]) (n := 0) (Heap.get?_push_size _ rfl) rfl ?_); rw [if_neg (by simp)]
  refine wpAny_bind (listUpdate_at (xs := #[]) (n := 0) (Heap.get?_push_size _ rfl) rfl ?_ (Nat.zero_le _) (by show (#[] ++ vs.toArray).size ≤ sizeLine + 1; simp only [Array.size_append, List.size_toArray, List.length_nil]; omega)); refine wpAny_pure ?_
  show wpAny (model prog w) A (do
      let o ← load s.heap.objs.size
      match o.data with
      | .seq xs _ => pure xs.toList
      | _ => unsupported "internal:collect") R E { s with heap := upH s.heap vs }
  refine wpAny_bind (wpAny_load (get?_update_seq (Heap.get?_push_size _ rfl) _) ?_); show wpAny _ _ (pure ((#[] : Array Value) ++ vs.toArray).toList) R E _
  rw [show ((#[] : Array Value) ++ vs.toArray).toList = vs by simp]; exact wpAny_pure k
theorem sortT_ord {t : Addr} {vs : List Value} {ltv : Value → Value → Bool} {R : Value → Shared → Prop} (O : SrtO.Swo ltv) (ht : s.heap.IsTuple t vs.toArray) (hz : vs.length ≤ sizeLine) (hS : 2 ≤ vs.length → ∀ (h₁ : Heap) (a : Addr), SrtO.SortableO prog w A.in1.in1 { s with heap := h₁ } a vs ltv)
    (k : ∀ out : List Value, SrtO.Srtd ltv out → SrtO.Stb ltv out vs → R (.ref (s.heap.objs.size + 1)) { s with heap := sortedAll s.heap vs out.toArray }) : wpAny (model prog w) A (PySem.call (.builtin "sorted") [.ref t]) R E s := by
  have e1 : (upH s.heap vs).objs.size = s.heap.objs.size + 1 := by rw [Heap.size_update, size_push']
  have e2 : ((upH s.heap vs).push (seqObj "list" vs.toArray 0)).get? (s.heap.objs.size + 1) = some (seqObj "list" vs.toArray 0) := e1 ▸ Heap.get?_push_size _ rfl
  refine Calls.call_function_entry kind_sorted plain_sorted entry_sorted (args_sorted1 _) ?_
  unfold Builtin.«sorted»
  refine wpAny_bind (m := checkCount "sorted" 1 1 _) (wpAny_pure ?_); refine wpAny_bind (collT ht hz ?_); refine wpAny_bind (wpAny_newList ?_ hz)
  show wpAny _ _ _ _ _ { s with heap := (upH s.heap vs).push (seqObj "list" vs.toArray 0) }
  rw [e1]
  refine wpAny_bind (wpAny_holding (wpAny_call_entry slot_list_sort ⟨_, e2, rfl⟩ entry_list_sort (SrtO.list_sort_ord O e2 hz (fun h2 => hS h2 _ _) fun out a b => ⟨_, rfl, ?_⟩) (args_list_sort _))); exact wpAny_pure ⟨_, rfl, k out a b⟩
end
section
variable {X : Cx} {M : Amb X.K}
theorem cr_sortedTI : CallR X (.builtin "sorted") (fun vs H Q => ∃ (a : Addr) (ns : List Int), vs = [V.ref a] ∧ SqT X.K H a (ns.map V.int) ∧ ∀ (ns' : List Int) (p : Addr), ns'.Perm ns → ns'.Pairwise (· ≤ ·) → H p = none → Q (.ref p) (upd H p (.lst (ns'.map V.int)))) := by
  intro pins s σ H vs us Q I r h
  obtain ⟨a, ns, rfl, hs, q⟩ := h
  obtain ⟨its, rv, ht, hzx⟩ := I.tuple hs
  rw [Vals.ref1 r]
  have hi := rv.ints
  have hz : its.length ≤ sizeLine := by rw [← rv.length]; exact hzx
  refine sortT_ord SrtO.swo_int (by obtain ⟨o, ho, hc, n, hd⟩ := ht; exact ⟨o, ho, hc, n, hd⟩) hz (fun h2 _ _ => SrtO.ints_sortable hi h2) fun out h1 h2 => ?_
  obtain ⟨k1, k2, k3⟩ := SrtO.ints_out hi h1 h2
  obtain ⟨ep, he'⟩ := PyProof.Rows.sortedAll_at s.heap its out.toArray
  have hlen : ((out.map SrtO.iv).map V.int).length ≤ sizeLine := by
    rw [List.length_map, k2.length_eq]
    have := rv.length
    rw [List.length_map] at this
    omega
  exact ⟨.ref _, upd H (s.heap.objs.size + 1) (.lst ((out.map SrtO.iv).map V.int)), I.laid (t' := s.toks) (fun _ _ => PyProof.Rows.sortedAll_old) (Nat.le_succ _) ⟨hlen, out, ep, vals_of_ints k1, he'⟩, rfl, q _ _ k2 k3 (I.hok.fresh (Nat.le_succ _))⟩
/-- sorted(t), t a tuple of ints -/
def gSortTI : List D → (R → Prop) → Prop
  | [.tup xs], Q => ∃ ns : List Int, xs = ns.map .int ∧ ∀ ns' : List Int, ns'.Perm ns → ns'.Pairwise (· ≤ ·) → Q (.nw (.l (ns'.map .int)))
  | _, _ => False
theorem oc_sortTI : OC X M (.builtin "sorted") gSortTI := by
  refine ⟨_, cr_sortedTI, fun Z ρ α F σ H xs ds Q P R0 cs q k => ?_⟩
  rcases ds with _ | ⟨d, _ | ⟨d2, ds⟩⟩
  · exact q.elim
  · obtain ⟨x, rfl, c⟩ := cs.one
    cases d <;> first | exact q.elim | skip
    obtain ⟨ns, rfl, q⟩ := q
    obtain ⟨a, vs, rfl, ha, da⟩ := c.tup R0
    rw [da.intsV] at ha
    refine ⟨a, ns, rfl, R0.sub.t ha, fun ns' p pm pw hp => ?_⟩
    obtain ⟨r2, s2⟩ := R0.laid (o := .lst (ns'.map V.int)) hp
    exact k _ _ F _ r2 s2 (RV.list R0 hp (DVs.ints ns')) (q ns' pm pw)
  · cases d <;> exact q.elim
end
end DL
set_option maxHeartbeats 4000000
namespace DL
open PySem PySem.Spec L2
open PyProof.Rows hiding St
/-! ### a lambda of one parameter that captures names: its frame -/
/-- its names: the parameter, the captured ones, then those of comprehensions in it -/
structure LScope (N : List Str) (p : Str) (fr : List Str) (sc : Scope) : Prop where
  kind : sc.kind = .function
  co : sc.isCoroutine = false
  gen : sc.isGenerator = false
  nd : N.Nodup
  pre : N.take (fr.length + 1) = p :: fr
  par : (sc.names.lookup p = some .local ∧ ∀ y ∈ sc.names, y.2 ≠ .cell) ∨ sc.names.lookup p = some .cell
  cell : ∀ y ∈ sc.names, y.2 = .cell → y.1 = p
  free : ∀ y ∈ sc.names, y.2 = .free → y.1 ∈ fr
  frk : ∀ x ∈ fr, sc.names.lookup x = some .free
theorem cf_other : ∀ {names : List (Str × NameKind)} {n : Nat} {acc : List (Str × Addr)} {x : Str}, (∀ y ∈ names, y.2 = .cell → y.1 ≠ x) → (cellsFrom n names acc).lookup x = acc.lookup x
  | [], _, _, _, _ => rfl
  | (nm, k) :: r, n, acc, x, h => by
    have hr : ∀ y ∈ r, y.2 = NameKind.cell → y.1 ≠ x := fun y hy => h y (List.mem_cons_of_mem _ hy)
    unfold cellsFrom
    split
    · rename_i hk
      rw [cf_other hr, List.lookup_cons]
      have ne : nm ≠ x := h (nm, k) List.mem_cons_self (by simpa using hk)
      have : (x == nm) = false := beq_eq_false_iff_ne.mpr (Ne.symm ne)
      rw [this]
    · exact cf_other hr
abbrev envL (qual : Str) (scope : Scope) (L f c' : Addr) (cl : List (Str × Addr)) : PySem.Env :=
  { scope := scope, locals := L, globals := mainGlobals, cells := cellsFrom (L + 1) scope.names cl, qual := qual ++ ".<locals>.", func := some f, code := .ref c', frame := some L, builtins := builtinsNs }
/-- what stands at the entry of the frame -/
structure LIn (p : Str) (scope : Scope) (cl : List (Str × Addr)) (s : Shared) (u : Value) (h1 : Heap) : Prop where
  ns : ∃ m, h1.Ns s.heap.objs.size m ∧ (scope.names.lookup p = some .local → m p = some u)
  own : scope.names.lookup p = some .cell → ∃ c, (cellsFrom (s.heap.objs.size + 1) scope.names cl).lookup p = some c ∧ s.heap.objs.size < c ∧ h1.IsCell c (some u)
  kp : ∀ b o, s.heap.get? b = some o → h1.get? b = some o
theorem new_lam {M : Model} {A : Around} {E : Value → Shared → Prop} {s : Shared} {scope : Scope} {cl : List (Str × Addr)} {p qual : Str} {u : Value} {f : Addr} {code : Value} {Q : PySem.Env → Shared → Prop} (hk : scope.kind = .function)
    (hp : scope.names.lookup p = some .local ∨ scope.names.lookup p = some .cell) (hcl : cl.lookup p = none)
    (h : ∀ h1 tk, LIn p scope cl s u h1 → Q { scope := scope, locals := s.heap.objs.size, globals := mainGlobals, cells := cellsFrom (s.heap.objs.size + 1) scope.names cl, qual := qual, func := some f, code := code, frame := some s.heap.objs.size, builtins := builtinsNs } { s with heap := h1, toks := tk }) :
    wpAny M A (newFunctionEnv scope mainGlobals cl [(p, u)] qual (some f) code none builtinsNs) Q E s := by
  have hsz := Heap.size_push s.heap { cls := .type "frame", data := .dict #[] }
  have e0 : ∀ b o, s.heap.get? b = some o → (pushCells (s.heap.push { cls := .type "frame", data := .dict #[] }) scope.names).get? b = some o := fun b o e => pushCells_keeps _ _ b o (Heap.get?_push_of_some _ e)
  have n0 : (pushCells (s.heap.push { cls := .type "frame", data := .dict #[] }) scope.names).Ns s.heap.objs.size fun _ => none := (Heap.Ns.new s.heap (.type "frame")).keeps (pushCells_keeps _ _)
  simp only [newFunctionEnv, Option.isSome_none, Bool.false_eq_true, if_false]
  refine wpAny_bind (wpAny_alloc (wpAny_bind (wpAny_layCells _ (fun name kind cells => by cases hkc : kind == NameKind.cell <;> simp [hkc]) _ _ _ _ ?_)))
  rw [show ({ s with heap := s.heap.push { cls := .type "frame", data := .dict #[] } } : Shared).heap.objs.size = s.heap.objs.size + 1 from hsz]
  rw [List.forIn_cons]
  rcases hp with hl | hl
  · refine wpAny_bind (wpAny_bind (wpAny_bind (wpAny_storeName_local hl n0 (fun h' hn hs => wpAny_pure ?_) (by rw [hk]; rfl))))
    show wpAny _ _ (forIn [] PUnit.unit _) _ _ _
    rw [List.forIn_nil]
    refine wpAny_pure (wpAny_pure (h h' _ ⟨⟨_, hn, fun _ => by simp⟩, fun z => ?_, fun b o e => ?_⟩))
    · rw [hl] at z
      cases z
    · exact hs.extBut b o (Nat.ne_of_lt (Heap.lt_size e)) (e0 b o e)
  · have q := oc_cell (h := s.heap.push { cls := .type "frame", data := .dict #[] }) hl hcl
    rw [hsz] at q
    obtain ⟨c, hc, hle, hv⟩ := q
    have hlt : s.heap.objs.size < c := hle
    refine wpAny_bind (wpAny_bind (wpAny_bind (wpAny_storeName_cell hk hl hc hv fun h' hc' hs => wpAny_pure ?_)))
    show wpAny _ _ (forIn [] PUnit.unit _) _ _ _
    rw [List.forIn_nil]
    refine wpAny_pure (wpAny_pure (h h' _ ⟨⟨_, n0.sameBut hs (Nat.ne_of_lt hlt), fun z => ?_⟩, fun _ => ⟨c, hc, hlt, hc'⟩, fun b o e => ?_⟩))
    · rw [hl] at z
      cases z
    · exact hs.extBut b o (Nat.ne_of_lt (Nat.lt_trans (Heap.lt_size e) hlt)) (e0 b o e)
/-- the context of its body -/
def lcx (P : Program) (w : World) (K : PySem.W.Frag) (mg : Str → Option Value) (base : Heap) (N : List Str) (qual : Str) (scope : Scope) (f c' : Addr) (cl : List (Str × Addr)) (A : Around) (outer : List PySem.Env) (s : Shared) (H : Hp) : Cx where
  prog := P
  w := w
  K := K
  mg := mg
  base := base
  A := A.deeper (envL qual scope s.heap.objs.size f c' cl)
  N := N
  s_0 := s
  H_0 := H
  env := envL qual scope s.heap.objs.size f c' cl
  outer := outer
  stack := envL qual scope s.heap.objs.size f c' cl :: outer
  ex := []
  calm := true
  fn := fun _ => false
  pn := []
  xe := fun _ _ => False
section
variable {P : Program} {w : World} {K : PySem.W.Frag} {mg : Str → Option Value} {base : Heap} {N fr : List Str} {p qual : Str} {scope : Scope} {f c' : Addr} {cl : List (Str × Addr)} {A : Around} {outer : List PySem.Env} {s : Shared} {H : Hp} {v : V} {vs : List V} {u : Value}
theorem inv_lam {h1 : Heap} {tk : Nat} (S : LScope N p fr scope) (hd : A.handled = none) (e0 : Env0 P w K mg base A outer s H) (hl : vs.length = fr.length) (r : L2.RelV v u) (C : NdefX.CellsAt cl fr (vs.map some) s.heap H) (hclp : cl.lookup p = none) (B : LIn p scope cl s u h1) :
    Inv (lcx P w K mg base N qual scope f c' cl A outer s H) [] (L2.start N (v :: vs)) H { s with heap := h1, toks := tk } := by
  have noA : ∀ b : Addr, b ∉ (lcx P w K mg base N qual scope f c' cl A outer s H).ex := fun b z => absurd (show b ∈ ([] : List Addr) from z) List.not_mem_nil
  have hpl : fr.length + 1 ≤ N.length := by
    have q := congrArg List.length S.pre
    rw [List.length_take, List.length_cons] at q
    omega
  have other : ∀ y, y ≠ p → (cellsFrom (s.heap.objs.size + 1) scope.names cl).lookup y = cl.lookup y := fun y ny => cf_other fun z hz e q => ny (q.symm.trans (S.cell z hz e))
  -- a name's cell: captured, or the parameter's own
  have which : ∀ y c, (cellsFrom (s.heap.objs.size + 1) scope.names cl).lookup y = some c → (y ≠ p ∧ cl.lookup y = some c) ∨ (y = p ∧ s.heap.objs.size < c ∧ h1.IsCell c (some u)) := fun y c e => by
    by_cases ny : y = p
    · rcases S.par with ⟨_, no⟩ | q
      · rw [cf_other fun z hz e' => absurd e' (no z hz), ny, hclp] at e
        cases e
      · obtain ⟨c2, h2, h3, h4⟩ := B.own q
        rw [ny, h2] at e
        cases e
        exact .inr ⟨ny, h3, h4⟩
    · rw [other y ny] at e
      exact .inl ⟨ny, e⟩
  have cellK : ∀ {c : Addr} {x : Option Value}, s.heap.IsCell c x → h1.IsCell c x := fun {c x} ⟨o, ho, hd⟩ => ⟨o, B.kp _ _ ho, hd⟩
  have below : ∀ y c, cl.lookup y = some c → c < s.heap.objs.size := fun y c e => by
    obtain ⟨_, x, o, ho, _⟩ := C.all y c e
    exact Heap.lt_size ho
  obtain ⟨m, hm, hmp⟩ := B.ns
  refine ⟨⟨e0.mod, S.kind, rfl, rfl, Nat.le_refl _, fun y z c h1 h2 => ?_, fun y hy => ?_, fun y c z _ => ?_, fun _ => hd, Around.frames_deeper e0.frames, .inr ⟨rfl, rfl⟩, fun b z => absurd z (noA b), e0.bs, e0.bsz, fun b _ _ => noA b, fun b z => absurd z (noA b), e0.funs, e0.frf⟩,
    rfl, e0.bare, Un.kept B.kp, ⟨m, hm, fun i y x h1 h2 h3 => ?_⟩, fun y c h => ?_, e0.hok.fresh (Nat.le_refl _), fun y c h => ?_, fun q hq => absurd (show q ∈ ([] : List (Addr × Obj)) from hq) List.not_mem_nil, e0.hok.kept B.kp, ?_⟩
  · rcases which y c h1 with ⟨n1, q1⟩ | ⟨n1, q1, _⟩ <;> rcases which z c h2 with ⟨n2, q2⟩ | ⟨n2, q2, _⟩
    · exact C.inj y z c q1 q2
    · exact absurd (Nat.lt_trans (below y c q1) q2) (Nat.lt_irrefl _)
    · exact absurd (Nat.lt_trans (below z c q2) q1) (Nat.lt_irrefl _)
    · rw [n1, n2]
  · have hy : scope.names.lookup y = some .cell ∨ scope.names.lookup y = some .free := hy
    rcases hy with hy | hy
    · have e : y = p := S.cell _ (PySem.mem_of_lookup hy) rfl
      obtain ⟨c, hc, _⟩ := B.own (e ▸ hy)
      exact ⟨c, by rw [e]; exact hc⟩
    · have hf := S.free _ (PySem.mem_of_lookup hy) rfl
      obtain ⟨i, hi⟩ := List.mem_iff_getElem?.mp hf
      obtain ⟨c, hc, _⟩ := C.has i y hi
      have ny : y ≠ p := fun e => by
        rw [e, hclp] at hc
        cases hc
      exact ⟨c, (other y ny).trans hc⟩
  · have z : false = true := z
    cases z
  · have h1 : N[i]? = some y := h1
    have hi : i < (v :: vs).length := by
      unfold L2.start at h2
      by_cases hi : i < (v :: vs).length
      · exact hi
      · rw [List.getElem?_append_right (by simpa using hi), List.getElem?_replicate] at h2
        split at h2 <;> cases h2
    have hx : (v :: vs)[i]? = some x := by
      unfold L2.start at h2
      rw [List.getElem?_append_left (by simpa using hi), List.getElem?_map] at h2
      cases e : (v :: vs)[i]? with
      | none => rw [e] at h2; cases h2
      | some a => rw [e] at h2; cases h2; rfl
    have hq : (p :: fr)[i]? = some y := by
      rw [← S.pre, List.getElem?_take_of_lt (by rw [List.length_cons] at hi; omega)]
      exact h1
    cases i with
    | zero =>
      have ex : v = x := Option.some.inj (by simpa using hx)
      have ey : p = y := Option.some.inj (by simpa using hq)
      subst ex
      subst ey
      refine ⟨u, r, ?_⟩
      rcases S.par with ⟨q, _⟩ | q
      · exact .inl ⟨q, hmp q⟩
      · obtain ⟨c, hc, _, hv⟩ := B.own q
        exact .inr ⟨.inl q, c, hc, hv⟩
    | succ j =>
      have hx : vs[j]? = some x := by simpa using hx
      have hq : fr[j]? = some y := by simpa using hq
      obtain ⟨c, hc, hv⟩ := C.has j y hq
      obtain ⟨u', ru, hu⟩ := hv x (by rw [List.getElem?_map, hx]; rfl)
      have ny : y ≠ p := fun e => by
        rw [e, hclp] at hc
        cases hc
      exact ⟨u', ru, .inr ⟨.inr (S.frk y (List.mem_of_getElem? hq)), c, (other y ny).trans hc, cellK hu⟩⟩
  · rcases which y c h with ⟨_, q⟩ | ⟨_, _, q⟩
    · obtain ⟨_, x, hx⟩ := C.all y c q
      exact ⟨x, cellK hx⟩
    · exact ⟨_, q⟩
  · rcases which y c h with ⟨_, q⟩ | ⟨_, q, _⟩
    · exact (C.all y c q).1
    · exact e0.hok.fresh (Nat.le_of_lt q)
  · show (L2.start N (v :: vs)).length = N.length
    unfold L2.start
    rw [List.length_append, List.length_map, List.length_replicate, List.length_cons]
    omega
/-- what it captured is still there later on -/
theorem cells_later {ws : List (Option V)} {s' : Shared} {H' : Hp} {fs : List Addr} (C : NdefX.CellsAt cl fr ws s.heap H) (un : Un fs [] H H' s.heap s'.heap) : NdefX.CellsAt cl fr ws s'.heap H' := by
  have st : ∀ {y : Str} {c : Addr} {x : Option Value}, cl.lookup y = some c → s.heap.IsCell c x → H' c = none ∧ s'.heap.IsCell c x := fun {y c x} e ⟨o, ho, hd⟩ => by
    have n := (C.all y c e).1
    obtain ⟨sl, q⟩ := un.any ho n List.not_mem_nil
    exact ⟨un.free c o ho n List.not_mem_nil, _, q, hd⟩
  refine ⟨C.len, fun y c e => ?_, C.inj, fun i y hy => ?_⟩
  · obtain ⟨_, x, hx⟩ := C.all y c e
    exact ⟨(st e hx).1, x, (st e hx).2⟩
  · obtain ⟨c, hc, hv⟩ := C.has i y hy
    refine ⟨c, hc, fun x hx => ?_⟩
    obtain ⟨u, ru, hu⟩ := hv x hx
    exact ⟨u, ru, (st hc hu).2⟩
end
end DL
set_option maxHeartbeats 4000000
namespace DL
open PySem PySem.Spec L2
open PyProof.Rows hiding St
/-! ### a function handed in: what it is worth from some moment on -/
structure LamOk (P : Program) (w : World) (K : PySem.W.Frag) (mg : Str → Option Value) (base : Heap) (M : Amb K) (k : Nat) (f : Addr) (Cb : Ct M) (fs : List Addr) (s : Shared) (H F : Hp) : Prop where
  fn : ∀ (s' : Shared) (H' : Hp), Un fs [] H H' s.heap s'.heap → PySem.W.FnAt f s'.heap
  run : ∀ (A : Around) (outer : List PySem.Env) (s' : Shared) (H' F' : Hp) (v : V) (u : Value) (d : D) (α : M.S) (Qd : R → M.S → Prop) (Q : VK), Room k A → A.guards = some [] → Env0 P w K mg base A outer s' H' → Un fs [] H H' s.heap s'.heap → Sub F F' → Sub F' H' → DV K F' v d → L2.RelV v u →
    M.ok α F' H' → (∀ b, M.fp α b → F' b = none) → Cb [d] α Qd → (∀ v r α2 F2 H2, After M α F' H' α2 F2 H2 → RV M H' [] α2 F2 [] H2 r v → Qd r α2 → Q v H2) →
    codeAny (model P w) A (.call (.ref f) ⟨[u], []⟩) (CR CX0 outer P w H' s' Q E0) s'
section
variable {P : Program} {w : World} {K : PySem.W.Frag} {mg : Str → Option Value} {base : Heap} {M : Amb K} {f : Addr} {Cb : Ct M} {fs : List Addr} {s : Shared} {H F : Hp}
theorem LamOk.mono {j k : Nat} (o : LamOk P w K mg base M j f Cb fs s H F) (h : j ≤ k) : LamOk P w K mg base M k f Cb fs s H F :=
  ⟨o.fn, fun A outer s' H' F' v u d α Qd Q hr => o.run A outer s' H' F' v u d α Qd Q (hr.mono h)⟩
theorem DVs.len_eq {vs : List V} {ds : List D} (h : DVs K F vs ds) : vs.length = ds.length := h.length
/-- a lambda by its body -/
theorem lam_ok {N fr : List Str} {p qual : Str} {params : Arguments} {body : Expr} {scope : Scope} {cl : List (Str × Addr)} {c' : Addr} {pm ctv : Value} {k : Nat} {vs : List V} {caps : List D} {wl : WE M}
    (ho : s.heap.get? f = some (PySem.W.kla_obj "<lambda>" qual params body scope cl pm c' ctv)) (hf : H f = none) (hfs : f ∉ fs) (hc : F c' = some (LamX.CodeO c' qual)) (S : LScope N p fr scope)
    (C : NdefX.CellsAt cl fr (vs.map some) s.heap H) (hclp : cl.lookup p = none) (dv : DVs K F vs caps) (hl : vs.length = fr.length)
    (hbind : ∀ (pm cv ctv u : Value), bindArgs (PySem.W.kla_fn "<lambda>" qual params body scope cl pm cv ctv) ⟨[u], []⟩ = pure [(p, u)])
    (hb : ∀ (A : Around) (outer : List PySem.Env) (s : Shared) (H : Hp), Room k (A.deeper (envL qual scope s.heap.objs.size f c' cl)) → (A.deeper (envL qual scope s.heap.objs.size f c' cl)).guards = some [] → QE (lcx P w K mg base N qual scope f c' cl A outer s H) M body wl)
    (hw : ∀ d α Qd, Cb [d] α Qd → wl (startB N.length (d :: caps), α) fun r E => Qd r.out E.2) : LamOk P w K mg base M (k + 1) f Cb fs s H F := by
  have at_ : ∀ (s' : Shared) (H' : Hp), Un fs [] H H' s.heap s'.heap → s'.heap.get? f = some (PySem.W.kla_obj "<lambda>" qual params body scope cl pm c' ctv) := fun s' H' un => un.keep f _ ho hf hfs List.not_mem_nil
  refine ⟨fun s' H' un => ⟨_, _, _, _, at_ s' H' un⟩, fun A outer s' H' F' v u d α Qd Q hr hg e0 un sF sH dd ru a n hC kq => ?_⟩
  have of1 := at_ s' H' un
  have hco := e0.hok c' _ (sH _ _ (sF _ _ hc))
  obtain ⟨⟨oc, vc, t, h1, h2, h3⟩, _, _⟩ := hco
  have lim : s'.heap.NoLimit := e0.mod.nolimit.keeps fun b o e => (e0.bs b o e).1
  refine PySem.W.kla_callFunE hr.depth of1 rfl S.co S.gen rfl ⟨c', oc, vc, t, rfl, h1, h2, h3⟩ ?_
  rw [hbind]
  refine wpAny_pure (new_lam S.kind (S.par.imp_left fun z => z.1) hclp fun h1 tk B => ⟨lim.keeps B.kp, ?_⟩)
  have J := inv_lam (P := P) (w := w) (mg := mg) (f := f) (c' := c') (qual := qual) (tk := tk) S hr.hd e0 hl ru (cells_later C un) hclp B
  have R0 := start_rel (M := M) (N := N) sH (.cons dd (dv.mono sF)) a n
  refine PySem.W.kla_codeExpr (wpAny_mono ((hb A outer s' H' (hr.deeper _) hg).run.run [] _ _ H' Q J ⟨⟨F', H', α⟩, _, α, F', _, R0, hw d α Qd hC, fun v2 r ρ2 α2 F2 H2 R1 _ rv q => ?_⟩) (fun v2 s2 hq => ?_) fun e s2 hq => hq.elim)
  · exact kq v2 r.out α2 F2 H2 ⟨R1.bF, R1.sub, R1.bH, R1.bT, R1.bN, R1.bZ, R1.amb, R1.ambF⟩ (rv.out R0 R1) q
  · obtain ⟨x, H2, J2, rv, q⟩ := hq
    exact ⟨x, H2, J2.os, J2.bare, J2.base, J2.hok, rv, q⟩
end
/-! ### a def that is handed a function -/
/-- the ambient of its body: what the function captured stands still -/
def subAmb {K : PySem.W.Frag} (M : Amb K) (F0 : Hp) : Amb K where
  S := M.S
  ok s F H := M.ok s F H ∧ Sub F0 F
  fp := M.fp
  stay s F H F' H' h sF k := ⟨M.stay s F H F' H' h.1 sF k, h.2.trans sF⟩
  live s F H b h hb := M.live s F H b h.1 hb
  nt s F H b vs h hb := M.nt s F H b vs h.1 hb
/-- what stands at the module's name x: a def whose parameters are data and, last, a function -/
def OkL (P : Program) (w : World) (K : PySem.W.Frag) (mg : Str → Option Value) (base : Heap) (M : Amb K) (x : Str) (k n : Nat) (C : Addr → Ct M → Ct M) : Prop :=
  ∃ g fd ps, mg x = some (.ref g) ∧ PySem.W.keepIn K (.ref g) = true ∧ Binds K fd ps [] ∧ ps.length = n ∧
    ∀ (A : Around) (outer : List PySem.Env) (s : Shared) (H F : Hp) (args : Args) (us : List Value) (vs : List V) (ds : List D) (α : M.S) (f : Addr) (Cb : Ct M) (Qd : R → M.S → Prop) (Q : VK), Room (k + 1) A → A.guards = some [] → Env0 P w K mg base A outer s H → BindsTo s fd args (ps.zip us) → Vals vs us → vs.length = n →
      Sub F H → DVs K F vs ds → M.ok α F H → (∀ b, M.fp α b → F b = none) → LamOk P w K mg base M k f Cb (frs outer) s H F → C f Cb ds α Qd → (∀ v r α' F' H', After M α F H α' F' H' → RV M H [] α' F' [] H' r v → Qd r α' → Q v H') →
      codeAny (model P w) A (.call (.ref g) args) (CR CX0 outer P w H s Q E0) s
theorem RV.subA {K : PySem.W.Frag} {M : Amb K} {F0 H0 F H : Hp} {α : M.S} {r : R} {v : V} (h : RV (subAmb M F0) H0 [] α F [] H r v) : RV M H0 [] α F [] H r v := by
  cases r with
  | fr d => exact h
  | al i b => exact h
  | nw b => exact h
  | nt p b c => exact h
section
variable {P : Program} {w : World} {K : PySem.W.Frag} {mg : Str → Option Value} {base : Heap}
theorem defL_ok {M : Amb K} {x : Str} {st : Stmt} {N ps : List Str} {k : Nat} {C : Addr → Ct M → Ct M} {wb : (F0 : Hp) → Addr → Ct M → WS (subAmb M F0)} (F : Def K mg x st ps) (S : FnScope N ps (defScope st))
    (hb : ∀ (g : Addr) (cdv : Value) (A : Around) (outer : List PySem.Env) (s : Shared) (H : Hp) (f : Addr) (Cb : Ct M) (F0 : Hp), Room k (A.deeper (envOfC x (defScope st) s.heap.objs.size g cdv)) → (A.deeper (envOfC x (defScope st) s.heap.objs.size g cdv)).guards = some [] →
      LamOk P w K mg base M k f Cb (frs outer) s H F0 → QSs (cxOf CX0 P w K mg base N x (defScope st) g cdv A outer s H E0).nox (subAmb M F0) (defBody st) (wb F0 f Cb))
    (hw : ∀ F0 f Cb ds α Qd, ds.length = ps.length → C f Cb ds α Qd → wb F0 f Cb (endsOf (M := subAmb M F0) Qd) (startB N.length ds, α)) : OkL P w K mg base M x k ps.length C := by
  obtain ⟨g, fd, h1, h2, h3⟩ := F.ex
  refine ⟨g, fd, ps, h1, h2.kp, h3, rfl, fun A outer s H F0 args us vs ds α f Cb Qd Q hr hg e0 hb' r hl sF dv a n hL hC kq => ?_⟩
  obtain ⟨oc, od, kV, doc, pm, an, cdv, ct, osl, rfl, lk, hcd⟩ := h2.ex
  have kin : K.In s.heap := e0.mod.kin.keeps fun b o e => (e0.bs b o e).1
  have lim : s.heap.NoLimit := e0.mod.nolimit.keeps fun b o e => (e0.bs b o e).1
  refine codeAny_call_function hr.depth (kin _ _ lk) rfl S.co S.gen rfl (PySem.W.codeRec_of kin hcd) (hb' _ _ _ _ ?_)
  refine wpAny_newFunctionEnv_cells S.kind (fun ⟨y, z⟩ hy => (S.par y (List.of_mem_zip hy).1).imp_right fun q => ⟨q, PySem.W.cellsFrom_some _ _ _ (.inl q)⟩) fun env he s1 x1 => ?_
  cases he
  refine ⟨lim.keeps x1.toInCall.keep, codeAny_func ?_⟩
  have I := inv_start (CX := CX0) (P := P) (w := w) (mg := mg) (E := E0) (f := g) (cd := cdv) (qual := x) S hr.hd e0 hl r x1
  have R0 := start_rel (M := subAmb M F0) (N := N) sF dv ⟨a, Sub.refl _⟩ n
  have run := (hb g cdv A outer s H f Cb F0 (hr.deeper _) hg hL).run.nox.run [] s1 (start N vs) H { nx := fun _ H' => Q .non H', rt := Q } I
    ⟨⟨F0, H, α⟩, _, α, F0, endsOf (M := subAmb M F0) Qd, R0, hw F0 f Cb ds α Qd (by rw [← dv.length]; exact hl) hC, fun ρ' α' F' σ' H' R1 q => ?_, fun _ _ _ _ _ _ q => q.elim, fun _ _ _ _ _ _ q => q.elim, fun v r ρ' α' F' σ' H' R1 rv q => ?_⟩
  · refine wpAny_mono run (fun fl s' hs => ?_) fun e s' hs => hs
    cases fl with
    | next =>
      obtain ⟨σ', H', J, q⟩ := hs
      exact ⟨V.non, H', J.os, J.bare, J.base, J.hok, rfl, q⟩
    | ret u =>
      obtain ⟨v, σ', H', J, rv, q⟩ := hs
      exact ⟨v, H', J.os, J.bare, J.base, J.hok, rv, q⟩
    | brk => obtain ⟨_, _, _, q⟩ := hs; exact q.elim
    | cont => obtain ⟨_, _, _, q⟩ := hs; exact q.elim
  · exact kq .non (.fr .non) α' F' H' ⟨R1.bF, R1.sub, R1.bH, R1.bT, R1.bN, R1.bZ, R1.amb.1, R1.ambF⟩ (RV.mk (M := M) .non) q
  · exact kq v r α' F' H' ⟨R1.bF, R1.sub, R1.bH, R1.bT, R1.bN, R1.bZ, R1.amb.1, R1.ambF⟩ rv.subA q
end
/-! ### the function that was handed in, called -/
section
variable {X : Cx}
def wCallC {K : PySem.W.Frag} {M : Amb K} {F0 : Hp} (i : Nat) (f : Addr) (Cb : Ct M) (wa : WA (subAmb M F0)) : WE (subAmb M F0) := fun E Q => E.1[i]? = some (some (.d (.obj f))) ∧ wa E fun ds E1 => ds.length = 1 ∧ Cb ds E1.2 fun r α' => Q r (E1.1, α')
theorem backC {M : Amb X.K} {F0 : Hp} {Z : Base (subAmb M F0)} {ρ ρ1 : List (Option B)} {α α1 α2 : M.S} {F F1 F2 H H2 H3 : Hp} {σ : L2.St} {r2 : R} {v2 : V} {Q : R → Env (subAmb M F0) → Prop} {Q' : VK}
    (kq : ∀ (v : V) (r : R) (ρ' : List (Option B)) (α' : (subAmb M F0).S) (F' H' : Hp), Rel (subAmb M F0) Z ρ' α' F' σ H' → Stp (subAmb M F0) σ ρ α F H ρ' α' F' H' → RV (subAmb M F0) H ρ' α' F' σ H' r v → Q r (ρ', α') → Q' v H')
    (st : Stp (subAmb M F0) σ ρ α F H ρ1 α1 F1 H2) (R1 : Rel (subAmb M F0) Z ρ1 α1 F1 σ H2) (A : After M α1 F1 H2 α2 F2 H3) (rv : RV M H2 [] α2 F2 [] H3 r2 v2) (q2 : Q r2 (ρ1, α2)) : Q' v2 H3 := by
  have A' : After (subAmb M F0) α1 F1 H2 α2 F2 H3 := ⟨A.f, A.s, A.h, A.t, A.n, A.z, ⟨A.ok, R1.amb.2.trans A.f⟩, A.nf⟩
  obtain ⟨R2, s2⟩ := R1.called A'
  have rv' : RV (subAmb M F0) H2 [] α2 F2 [] H3 r2 v2 := by
    cases r2 with
    | fr d => exact rv
    | al i b => exact rv
    | nw b => exact rv
    | nt p b c => exact rv
  exact kq v2 r2 ρ1 α2 F2 H3 R2 (st.trans s2) (rv'.bare.back st.sT) q2
theorem qe_callC {M : Amb X.K} {F0 : Hp} {i k : Nat} {f : Addr} {Cb : Ct M} {x : Str} {p pos : Pos} {e : Expr} {wa : WA (subAmb M F0)} (hL : LamOk X.prog X.w X.K X.mg X.base M k f Cb X.fs X.s_0 X.H_0 F0) (hex : X.ex = []) (hr : Room k X.A) (hgd : X.A.guards = some [])
    (hx : PE X (.Name x p) (tVar i)) (ha : QA X (subAmb M F0) [e] wa) (he : starEach [e] X.env = [(false, eval e X.env)] := by rfl) : QE X (subAmb M F0) (.Call (.Name x p) [e] [] pos) (wCallC i f Cb wa) := by
  refine ⟨⟨fun pins s σ H Q' I q => ?_⟩⟩
  obtain ⟨Z, ρ, α, F, Q, R0, ⟨hi, w⟩, kq⟩ := q
  have hs : σ[i]? = some (some (V.ref f)) := by
    obtain ⟨v, h1, h2⟩ := R0.val i _ hi
    cases h2
    exact h1
  have un : ∀ {s' : Shared} {H' : Hp} {σ' : L2.St} {pins' : List (Addr × Obj)}, Inv X pins' σ' H' s' → Un X.fs [] X.H_0 H' X.s_0.heap s'.heap := fun I' => by
    have := I'.base
    rw [hex] at this
    exact this
  refine wpAny_Call_Name_kw (thn (hx.run pins s σ H (fun v H1 => v = .ref f ∧ H1 = H) I ⟨.ref f, hs, rfl, rfl⟩) fun u s1 ⟨v, H1, I1, r1, q1⟩ => ?_)
  obtain ⟨ev, eH⟩ := q1
  subst ev
  rw [eH] at I1
  obtain rfl : u = Value.ref f := r1
  have run := ha.run.run pos pins s1 σ H (fun vs H1 => ∃ ds ρ1 α1 F1, Rel (subAmb M F0) Z ρ1 α1 F1 σ H1 ∧ Stp (subAmb M F0) σ ρ α F H ρ1 α1 F1 H1 ∧ DVs X.K F1 vs ds ∧ ds.length = 1 ∧ Cb ds α1 fun r α' => Q r (ρ1, α')) I1 ⟨Z, ρ, α, F, _, R0, w, fun vs ds ρ1 α1 F1 H1 R1 s1 dv q => ⟨ds, ρ1, α1, F1, R1, s1, dv, q.1, q.2⟩⟩
  refine PySem.W.callWith_F (first := []) (hL.fn s1 H (un I1)) (thn run fun us s2 ⟨vs, H2, I2, r, ds, ρ1, α1, F1, R1, st, dv, hl, q⟩ => ⟨hL.fn s2 H2 (un I2), ?_⟩) he rfl
  obtain ⟨d, rfl⟩ : ∃ d, ds = [d] := by
    rcases ds with _ | ⟨d, _ | ⟨d2, ds⟩⟩
    · cases hl
    · exact ⟨d, rfl⟩
    · cases hl
  obtain ⟨v, rfl, dd⟩ : ∃ v, vs = [v] ∧ DV X.K F1 v d := by
    cases dv with
    | cons a t =>
      cases t
      exact ⟨_, rfl, a⟩
  obtain ⟨u, rfl, ru⟩ := vals1 r
  have go := hL.run X.A X.stack s2 H2 F1 v u d α1 _ Q' hr hgd I2.env0 (un I2) R1.amb.2 R1.sub dd ru R1.amb.1 R1.ambF q fun v2 r2 α2 F2 H3 A rv q2 => backC kq st R1 A rv q2
  refine wpAny_call (codeAny_mono go fun res s' hq => ?_)
  cases res with
  | error e => exact hq.elim
  | ok fl =>
    cases fl with
    | ret u => exact I2.after hq
    | next => exact hq.elim
    | brk => exact hq.elim
    | cont => exact hq.elim
end
end DL
set_option maxHeartbeats 4000000
namespace DL
open PySem PySem.Spec L2
open PyProof.Rows hiding St
/-! ### a lambda made -/
section
variable {X : Cx} {pins : List (Addr × Obj)} {σ : L2.St} {H : Hp} {s : Shared}
theorem lam_mk {c P : Addr} {q : Str} {ps : Array Value} {params : Arguments} {body : Expr} {scope : Scope} {pos : Pos} {E : Value → Shared → Prop} {Q : Value → Shared → Prop} (I : Inv X pins σ H s) (TB : LamX.TabB X.base X.mg c P) (hcode : X.env.code = .ref c) (hq : X.env.qual ++ "<lambda>" = q)
    (hP : H P = some (.tbl ps)) (ht : TriplesOk ps.toList) (ha : ∀ (pos : Pos) (cv : Value), codeAmong pos ps.toList = some cv → ∃ c, cv = .ref c ∧ H c = some (LamX.CodeO c q)) (hdef : defaultsOf params X.env = ([], [])) (hfree : ∀ y ∈ scope.names, y.2 = .free → ∃ c, X.env.cells.lookup y.1 = some c)
    (h : ∀ (f c' : Addr) (pm ctv : Value) (H1 : Hp) (s' : Shared), Inv X pins σ H1 s' → ((H1 = H ∧ codeAmong pos ps.toList = some (.ref c')) ∨ (H c' = none ∧ H1 = upd (upd H P (.tbl (ps ++ #[rawInt pos.line, rawInt pos.col, .ref c']))) c' (LamX.CodeO c' q))) →
      s'.heap.get? f = some (PySem.W.kla_obj "<lambda>" q params body scope (cloFrom X.env.cells scope.names []) pm c' ctv) → H1 f = none → f ∉ frs X.stack → Q (.ref f) s') :
    wpAny (model X.prog X.w) X.A (eval (.Lambda params body scope pos) X.env) Q E s := by
  subst hq
  refine PySem.W.kla_eval hdef ?_
  have bP : s.heap.BuiltinsAt X.mg P := TB.bm.keeps I.bk
  have hP' := I.hok P _ hP
  have glob := I.mod.glob.keeps I.bk
  have code := TB.code.keeps I.bk
  have nofr : ∀ f, s.heap.objs.size ≤ f → f ∉ frs X.stack := by
    intro f hf z
    rcases List.mem_cons.mp (I.stkSub _ z) with e | e
    · have := I.lt
      rw [← e] at this
      exact absurd hf (Nat.not_le_of_lt this)
    · exact I.nofs hf e
  cases hc : codeAmong pos ps.toList with
  | some cv =>
    obtain ⟨c', rfl, hco⟩ := ha pos cv hc
    refine PySem.W.kla_makeFunctionHit (mg := X.mg) (c := c) (P := P) (ps := ps) (closure_ok hfree) I.ok.glob glob hcode code hP' ht hc bP fun ctv h' tk hx hsz => ?_
    have I1 := I.kept (t' := tk) (h' := h'.push (PySem.W.kla_obj "<lambda>" (X.env.qual ++ "<lambda>") params body scope (cloFrom X.env.cells scope.names []) ((X.mg "__name__").getD .none) c' ctv)) fun b o e => Heap.get?_push_of_some _ (hx b o e)
    exact h _ c' _ ctv H _ I1 (.inl ⟨rfl, hc⟩) (Heap.get?_push_size _ rfl) (I.hok.fresh hsz) (nofr _ hsz)
  | none =>
    refine PySem.W.kla_makeFunction (mg := X.mg) (c := c) (P := P) (ps := ps) (closure_ok hfree) I.ok.glob glob hcode code hP' ht hc TB.gP bP fun c' ctv h' tk hx hge hlt hrec htb => ?_
    obtain ⟨c2, oc, vs, t, e2, hoc, hd, hv⟩ := hrec
    cases e2
    have hsz : s.heap.objs.size ≤ h'.objs.size := Nat.le_of_lt (Nat.lt_of_le_of_lt hge hlt)
    have I1 := LamX.inv_table (t' := tk) (more := #[rawInt pos.line, rawInt pos.col, .ref c']) (q := X.env.qual ++ "<lambda>") (h' := h'.push (PySem.W.kla_obj "<lambda>" (X.env.qual ++ "<lambda>") params body scope (cloFrom X.env.cells scope.names []) ((X.mg "__name__").getD .none) c' ctv)) I hP
      (fun b o n e => Heap.get?_push_of_some _ (hx b o n e)) (Heap.get?_push_of_some _ htb) hge ⟨oc, vs, t, Heap.get?_push_of_some _ hoc, hd, hv⟩
    refine h _ c' _ ctv _ _ I1 (.inr ⟨I.hok.fresh hge, rfl⟩) (Heap.get?_push_size _ rfl) ?_ (nofr _ hsz)
    have n2 : h'.objs.size ≠ P := Nat.ne_of_gt (Nat.lt_of_lt_of_le (Heap.lt_size hP') hsz)
    rw [upd_ne (Nat.ne_of_gt hlt), upd_ne n2]
    exact I.hok.fresh hsz
end
/-! ### what is known behind it -/
section
variable {K : PySem.W.Frag} {Z : Base (penAmb K)} {ρ : List (Option B)} {α : (penAmb K).S} {F H : Hp} {σ : L2.St}
theorem Rel.tab {P : Addr} {ps ps' : Array Value} (R0 : Rel (penAmb K) Z ρ α F σ H) (hP : isTab P) (h : H P = some (.tbl ps)) (ok : ∀ p ∈ tabT, TabF F (upd H P (.tbl ps')) p) : Rel (penAmb K) Z ρ α F σ (upd H P (.tbl ps')) := by
  have nf : F P = none := R0.ambF P (.inr hP)
  refine ⟨R0.sub.upd nf, R0.len, R0.val, fun i b e ow => ?_, R0.dis, ⟨?_, ok⟩, R0.ambF, R0.bF, fun b u e n => ?_, R0.bN, fun b hb => ?_, R0.bZ⟩
  · obtain ⟨a, o, h1, h2, h3, h4, h5, h6⟩ := R0.own i b e ow
    exact ⟨a, o, h1, by rw [upd_ne fun z : a = P => h5 (.inr (by rw [z]; exact hP))]; exact h2, h3, h4, h5, h6⟩
  · cases α with
    | none => trivial
    | some q =>
      obtain ⟨v, h1, h2⟩ := R0.amb.1
      refine ⟨v, ?_, h2⟩
      rw [upd_ne fun z => by rw [z, h] at h1; cases h1]
      exact h1
  · rw [upd_ne fun z : b = P => n (.inr (by rw [z]; exact hP))]
    exact R0.bH b u e n
  · by_cases z : b = P
    · rw [z, upd_same]; simp
    · rw [upd_ne z]; exact R0.bT b hb
theorem Rel.coded {P c' : Addr} {q : Str} {ps : Array Value} {pos : Pos} (R0 : Rel (penAmb K) Z ρ α F σ H) (hT : (P, q) ∈ tabT) (hu : ∀ p ∈ tabT, p.1 = P → p.2 = q) (h : H P = some (.tbl ps)) (ht : TriplesOk ps.toList)
    (ha : ∀ (pos : Pos) (cv : Value), codeAmong pos ps.toList = some cv → ∃ c, cv = .ref c ∧ F c = some (LamX.CodeO c q)) (n : H c' = none) :
    Rel (penAmb K) Z ρ α (upd F c' (LamX.CodeO c' q)) σ (upd (upd H P (.tbl (ps ++ #[rawInt pos.line, rawInt pos.col, .ref c']))) c' (LamX.CodeO c' q)) ∧
      Stp (penAmb K) σ ρ α F H ρ α (upd F c' (LamX.CodeO c' q)) (upd (upd H P (.tbl (ps ++ #[rawInt pos.line, rawInt pos.col, .ref c']))) c' (LamX.CodeO c' q)) := by
  have hP : isTab P := ⟨_, hT, rfl⟩
  have nPc : P ≠ c' := fun z => by rw [z, n] at h; cases h
  have fn := R0.fn n
  have sF : Sub F (upd F c' (LamX.CodeO c' q)) := (Sub.refl F).upd fn
  have comm : upd (upd H P (.tbl (ps ++ #[rawInt pos.line, rawInt pos.col, .ref c']))) c' (LamX.CodeO c' q) = upd (upd H c' (LamX.CodeO c' q)) P (.tbl (ps ++ #[rawInt pos.line, rawInt pos.col, .ref c'])) := by
    funext b
    by_cases e1 : b = c'
    · rw [e1, upd_same, upd_ne (Ne.symm nPc), upd_same]
    · by_cases e2 : b = P
      · rw [e2, upd_ne nPc, upd_same, upd_same]
      · rw [upd_ne e1, upd_ne e2, upd_ne e2, upd_ne e1]
  have R1 := (R0.laid (o := LamX.CodeO c' q) n).1
  have R2 := R1.frz upd_same fn (R0.fpn n) (R0.ownn n) (R0.zn n)
  have h2 : upd H c' (LamX.CodeO c' q) P = some (.tbl ps) := (upd_ne nPc).trans h
  have eL : (ps ++ #[rawInt pos.line, rawInt pos.col, .ref c']).toList = ps.toList ++ [rawInt pos.line, rawInt pos.col, .ref c'] := by simp
  have R3 := R2.tab (ps' := ps ++ #[rawInt pos.line, rawInt pos.col, .ref c']) hP h2 fun p hp => by
    by_cases e : p.1 = P
    · refine ⟨_, by rw [e, upd_same], by rw [eL]; exact PySem.TriplesOk_snoc _ _ _ _ ht, fun pos' cv hcv => ?_⟩
      rw [hu p hp e]
      rw [eL] at hcv
      rcases LamX.among_app _ ht hcv with z | z
      · obtain ⟨c0, e1, e2⟩ := ha pos' cv z
        exact ⟨c0, e1, sF _ _ e2⟩
      · exact ⟨c', z, upd_same⟩
    · exact (R2.amb.2 p hp).stay (Sub.refl _) fun o z => by rw [upd_ne e]; exact z
  refine ⟨comm ▸ R3, sF, fun b o e nf => ?_, fun b hb => ?_, fun b hb => .inl hb, fun b hb => ?_, fun b hb => hb⟩
  · rw [upd_ne (ne_of_none e n), upd_ne fun z : b = P => nf (.inr (by rw [z]; exact hP))]
    exact e
  · by_cases e1 : b = c'
    · rw [e1, upd_same]; simp
    · rw [upd_ne e1]
      by_cases e2 : b = P
      · rw [e2, upd_same]; simp
      · rw [upd_ne e2]; exact hb
  · by_cases e1 : b = c'
    · rw [e1]; exact .inr (.inl (.inl n))
    · rw [upd_ne e1] at hb; exact .inl hb
end
/-! ### g(e, lambda p: body) -/
def lscB (N : List Str) (p : Str) (fr : List Str) (sc : Scope) : Bool :=
  decide (sc.kind = .function) && !sc.isCoroutine && !sc.isGenerator && decide N.Nodup && decide (N.take (fr.length + 1) = p :: fr) && ((decide (sc.names.lookup p = some .local) && sc.names.all fun y => !decide (y.2 = .cell)) || decide (sc.names.lookup p = some .cell)) &&
    sc.names.all (fun y => !decide (y.2 = .cell) || decide (y.1 = p)) && sc.names.all (fun y => !decide (y.2 = .free) || decide (y.1 ∈ fr)) && fr.all fun x => decide (sc.names.lookup x = some .free)
theorem lscope_by {N : List Str} {p : Str} {fr : List Str} {sc : Scope} (h : lscB N p fr sc = true) : LScope N p fr sc := by
  unfold lscB at h
  simp only [Bool.and_eq_true, Bool.not_eq_true', decide_eq_true_eq, List.all_eq_true, Bool.or_eq_true, decide_eq_false_iff_not] at h
  obtain ⟨⟨⟨⟨⟨⟨⟨⟨h1, h2⟩, h3⟩, h4⟩, h5⟩, h6⟩, h7⟩, h8⟩, h9⟩ := h
  exact ⟨h1, h2, h3, h4, h5, h6, fun y hy e => (h7 y hy).elim (fun z => absurd e z) id, fun y hy e => (h8 y hy).elim (fun z => absurd e z) id, h9⟩
theorem LScope.nfree {N : List Str} {p : Str} {fr : List Str} {sc : Scope} (S : LScope N p fr sc) : (p, NameKind.free) ∉ sc.names := fun h => by
  have q := S.frk p (S.free _ h rfl)
  rcases S.par with ⟨z, _⟩ | z <;> rw [q] at z <;> cases z
/-- the captured names, in the maker's frame -/
structure LCap (N : List Str) (sc scope : Scope) (fr : List Str) (js : List Nat) : Prop where
  free : ∀ y ∈ scope.names, y.2 = .free → sc.names.lookup y.1 = some .cell ∨ sc.names.lookup y.1 = some .free
  frm : ∀ y ∈ fr, (y, NameKind.free) ∈ scope.names
  at_ : js.map (fun j => N[j]?) = fr.map some
def lcapB (N : List Str) (sc scope : Scope) (fr : List Str) (js : List Nat) : Bool :=
  scope.names.all (fun y => !decide (y.2 = .free) || (decide (sc.names.lookup y.1 = some .cell) || decide (sc.names.lookup y.1 = some .free))) && fr.all (fun y => decide ((y, NameKind.free) ∈ scope.names)) && decide (js.map (fun j => N[j]?) = fr.map some)
theorem lcap_by {N : List Str} {sc scope : Scope} {fr : List Str} {js : List Nat} (h : lcapB N sc scope fr js = true) : LCap N sc scope fr js := by
  unfold lcapB at h
  simp only [Bool.and_eq_true, Bool.not_eq_true', decide_eq_true_eq, List.all_eq_true, Bool.or_eq_true, decide_eq_false_iff_not] at h
  obtain ⟨⟨h1, h2⟩, h3⟩ := h
  exact ⟨fun y hy e => (h1 y hy).elim (fun z => absurd e z) id, h2, h3⟩
section
variable {X : Cx}
def wLamCall {K : PySem.W.Frag} {M : Amb K} (js : List Nat) (Cl : List D → Ct M) (C : Addr → Ct M → Ct M) (w1 : WE M) : WE M := fun E Q => w1 E fun r E1 => fz r E1 fun d E2 => ∃ caps : List D, js.map (fun j => E2.1[j]?) = caps.map (fun d => some (some (B.d d))) ∧ ∀ f, C f (Cl caps) [d, .obj f] E2.2 fun r α' => Q r (E2.1, α')
theorem caps_at {K : PySem.W.Frag} {M : Amb K} {Z : Base M} {ρ : List (Option B)} {α : M.S} {F H : Hp} {σ : L2.St} (R0 : Rel M Z ρ α F σ H) : ∀ {js : List Nat} {caps : List D}, js.map (fun j => ρ[j]?) = caps.map (fun d => some (some (B.d d))) → ∃ vs : List V, DVs K F vs caps ∧ js.map (NdefX.slotAt σ) = vs.map some
  | [], [], _ => ⟨[], .nil, rfl⟩
  | [], _ :: _, h => by cases h
  | _ :: _, [], h => by cases h
  | j :: js, d :: caps, h => by
    obtain ⟨vs, h1, h2⟩ := caps_at R0 (js := js) (caps := caps) (List.cons.inj h).2
    obtain ⟨v, hv, dv⟩ := R0.val j d (List.cons.inj h).1
    exact ⟨v :: vs, .cons dv h1, by rw [List.map_cons, List.map_cons, h2, NdefX.slotAt_of hv]⟩
theorem qe_lamcall {x p : Str} {p1 lpos pos : Pos} {e1 : Expr} {params : Arguments} {body : Expr} {scope : Scope} {k kb : Nat} {C : Addr → Ct (penAmb X.K) → Ct (penAmb X.K)} {Cl : List D → Ct (penAmb X.K)} {N fr : List Str} {js : List Nat} {c P : Addr} {w1 wl : WE (penAmb X.K)}
    (o : OkL X.prog X.w X.K X.mg X.base (penAmb X.K) x k 2 C) (hr : Room (k + 1) X.A) (hgd : X.A.guards = some []) (h1 : QE X (penAmb X.K) e1 w1) (TB : LamX.TabB X.base X.mg c P) (hcode : X.env.code = .ref c) (hT : (P, X.env.qual ++ "<lambda>") ∈ tabT) (hu : ∀ p ∈ tabT, p.1 = P → p.2 = X.env.qual ++ "<lambda>")
    (S : LScope N p fr scope) (cp : LCap X.N X.env.scope scope fr js) (hk : kb + 1 ≤ k)
    (hb : ∀ (f c' : Addr) (cl : List (Str × Addr)) (A : Around) (outer : List PySem.Env) (s : Shared) (H : Hp), Room kb (A.deeper (envL (X.env.qual ++ "<lambda>") scope s.heap.objs.size f c' cl)) → (A.deeper (envL (X.env.qual ++ "<lambda>") scope s.heap.objs.size f c' cl)).guards = some [] → QE (lcx X.prog X.w X.K X.mg X.base N (X.env.qual ++ "<lambda>") scope f c' cl A outer s H) (penAmb X.K) body wl)
    (hw : ∀ caps d α Qd, Cl caps [d] α Qd → wl (startB N.length (d :: caps), α) fun r E => Qd r.out E.2)
    (hdef : defaultsOf params X.env = ([], []) := by rfl) (hbind : ∀ (cl : List (Str × Addr)) (pm cv ctv u : Value), bindArgs (PySem.W.kla_fn "<lambda>" (X.env.qual ++ "<lambda>") params body scope cl pm cv ctv) ⟨[u], []⟩ = pure [(p, u)] := by intro _ _ _ _ _; rfl)
    (hg : Gl X x := by rfl) (hdb : (x == ("__debug__" : Str)) = false := by decide) (he : starEach [e1, .Lambda params body scope lpos] X.env = [(false, eval e1 X.env), (false, eval (.Lambda params body scope lpos) X.env)] := by rfl) :
    QE X (penAmb X.K) (.Call (.Name x p1) [e1, .Lambda params body scope lpos] [] pos) (wLamCall js Cl C w1) := by
  obtain ⟨g, fd, ps, hm, hkp, hbd, hps, G⟩ := o
  refine ⟨⟨fun pins s σ H Q' I q => ?_⟩⟩
  obtain ⟨Z, ρ, α, F, Q, R0, w, kq⟩ := q
  refine wpAny_Call_Name_kw (ld_glob I hg hm ?_ hdb)
  refine PySem.W.callWith_K (h₀ := X.base) I.ok.mod.kin hkp ?_ he rfl
  have run1 := h1.run.run pins s σ H (fun v H1 => ∃ d ρ1 α1 F1, Rel (penAmb X.K) Z ρ1 α1 F1 σ H1 ∧ Stp (penAmb X.K) σ ρ α F H ρ1 α1 F1 H1 ∧ DV X.K F1 v d ∧ ∃ caps : List D, js.map (fun j => ρ1[j]?) = caps.map (fun d => some (some (B.d d))) ∧ ∀ f, C f (Cl caps) [d, .obj f] α1 fun r α' => Q r (ρ1, α')) I
    ⟨Z, ρ, α, F, _, R0, w, fun v r ρ1 α1 F1 H1 R1 s1 rv q => by
      obtain ⟨d, ρ2, F2, R2, s2, dv, q⟩ := fz_ok R0 s1 R1 rv q
      exact ⟨d, ρ2, α1, F2, R2, s2, dv, q⟩⟩
  rw [he]
  show wpAny _ _ (spliced [(false, eval e1 X.env), (false, eval (.Lambda params body scope lpos) X.env)]) _ _ s
  refine Calls.spliced_cons (thn run1 fun u1 s1 ⟨v1, H1, I1, r1, d, ρ1, α1, F1, R1, st1, dd, caps, hcaps, q⟩ => ?_)
  obtain ⟨tps, hP, ht, ha⟩ := R1.amb.2 _ hT
  have hfree : ∀ y ∈ scope.names, y.2 = .free → ∃ c, X.env.cells.lookup y.1 = some c := fun y hy e => (cp.free y hy e).elim (fun z => I1.ok.has _ (.inl z)) fun z => I1.ok.has _ (.inr z)
  refine Calls.spliced_cons (lam_mk I1 TB hcode rfl hP ht (fun pos cv e => ?_) hdef hfree fun f c' pm ctv H2 s2 I2 hH hf hfn hfr => ?_)
  · obtain ⟨c0, e1, e2⟩ := ha pos cv e
    exact ⟨c0, e1, R1.sub _ _ e2⟩
  have known : ∃ F2, Rel (penAmb X.K) Z ρ1 α1 F2 σ H2 ∧ Stp (penAmb X.K) σ ρ1 α1 F1 H1 ρ1 α1 F2 H2 ∧ F2 c' = some (LamX.CodeO c' (X.env.qual ++ "<lambda>")) := by
    rcases hH with ⟨e, hc⟩ | ⟨n, e⟩
    · obtain ⟨c0, e1, e2⟩ := ha _ _ hc
      cases e1
      rw [e]
      exact ⟨F1, R1, .refl, e2⟩
    · rw [e]
      obtain ⟨R2, s2'⟩ := R1.coded (pos := lpos) hT hu hP ht ha n
      exact ⟨_, R2, s2', upd_same⟩
  obtain ⟨F2, R2, st2, hco⟩ := known
  obtain ⟨vs, dvs, hvs⟩ := caps_at R2 hcaps
  have CA := NdefX.cells_of I2 (NdefX.Caps.made I2.ok cp.free cp.frm cp.at_)
  rw [hvs] at CA
  have hclp : (cloFrom X.env.cells scope.names []).lookup p = none := by
    cases e : (cloFrom X.env.cells scope.names []).lookup p with
    | none => rfl
    | some c =>
      rcases cloFrom_mem (PySem.mem_of_lookup e) with z | ⟨z, _⟩
      · cases z
      · exact absurd z S.nfree
  have hlen : vs.length = fr.length := by
    have q := CA.len
    rw [List.length_map] at q
    exact q
  have LO := (lam_ok (M := penAmb X.K) (Cb := Cl caps) (fs := frs X.stack) hf hfn hfr hco S CA hclp dvs hlen (hbind _) (fun A outer s H => hb f c' _ A outer s H) fun d α Qd hC => hw caps d α Qd hC).mono hk
  refine Calls.spliced_nil ⟨I2.kIn, ?_⟩
  have hl2 : ([u1, Value.ref f] ++ ([] : List Value)).length = ps.length := by rw [hps]; rfl
  have hb' := hbd s2 [u1, .ref f] I2.kIn hl2
  have go := G X.A X.stack s2 H2 F2 ⟨[u1, .ref f], []⟩ [u1, .ref f] [v1, .ref f] [d, .obj f] α1 f (Cl caps) (fun r α' => Q r (ρ1, α')) Q' hr hgd I2.env0 hb' (.cons r1 (.cons rfl .nil)) rfl R2.sub (.cons (dd.mono st2.sF) (.cons (.obj f) .nil)) R2.amb R2.ambF LO (q f) fun v r α' F' H' A rv q => by
    obtain ⟨R3, s3⟩ := R2.called A
    exact kq v r ρ1 α' F' H' R3 ((st1.trans st2).trans s3) (rv.bare.back (st1.trans st2).sT) q
  refine wpAny_call (codeAny_mono go fun res s' hq => ?_)
  cases res with
  | error e => exact hq.elim
  | ok fl =>
    cases fl with
    | ret u => exact I2.after hq
    | next => exact hq.elim
    | brk => exact hq.elim
    | cont => exact hq.elim
end
end DL
set_option maxHeartbeats 4000000
namespace DL
open PySem PySem.Spec L2
open PyProof.Rows hiding St
/-! ### a, b = x, y where a name is captured: a tuple is built and taken apart; what is new stays the names' own -/
section
variable {X : Cx} {M : Amb X.K}
theorem qs_parT {i j : Nat} {x y : Str} {a b : Expr} {wa wb : WE M} {px py pt pos : Pos} {kt k2 pt2} (hN : X.N.Nodup) (ha : QE X M a wa) (hb : QE X M b wb) (hi : X.N[i]? = some x := by rfl) (hj : X.N[j]? = some y := by rfl) (hx : Loc X.env.scope x := by first | exact .inl rfl | exact .inr rfl) (hy : Loc X.env.scope y := by first | exact .inl rfl | exact .inr rfl)
    (fx : X.fn x = true ∨ X.env.scope.names.lookup x = some .local := by first | exact .inl rfl | exact .inr rfl) (fy : X.fn y = true ∨ X.env.scope.names.lookup y = some .local := by first | exact .inl rfl | exact .inr rfl)
    (hw : swappedStores [.Tuple [.Name x px, .Name y py] kt pt] (.Tuple [a, b] k2 pt2) X.env = pure none := by rfl) (hc : X.calm = true := by rfl)
    (hs : swapsWithSole [.Tuple [.Name x px, .Name y py] kt pt] (.Tuple [a, b] k2 pt2) pos.line X.env = pure false := by rfl) (h1 : starEach [a, b] X.env = (false, eval a X.env) :: starEach [b] X.env := by rfl) (h2 : starEach [b] X.env = (false, eval b X.env) :: starEach [] X.env := by rfl) :
    QS X M (.Assign [.Tuple [.Name x px, .Name y py] kt pt] (.Tuple [a, b] k2 pt2) pos) (wPar i j wa wb) := by
  refine ⟨ps_weak (ps_asg (pe_tup (pa_cons ha.run (pa_cons hb.run pa_nil h2) h1)) (pg_tup hc (pgs_cons (pg_name hN hi hx fx) (pgs_cons (pg_name hN hj hy fy) pgs_nil))) hs hw) fun D' σ H ⟨Z, ρ, α, F, D, R0, w, k1, k2, k3, k4⟩ => ?_⟩
  refine ⟨Z, ρ, α, F, _, R0, w, fun v r ρ1 α1 F1 H1 R1 s1 rv q => ?_⟩
  obtain ⟨ra, ρ2, F2, R2, s2, rv2, na, q⟩ := nal_ok R0 s1 R1 rv q
  refine ⟨Z, ρ2, α1, F2, _, R2, q, fun v' r' ρ3 α3 F3 H3 R3 s3 rv' q => ?_⟩
  obtain ⟨rb, ρ4, F4, R4, s4, rv4, nb, q⟩ := nal_ok R2 s3 R3 rv' q
  refine ⟨by show 2 ≤ sizeLine; decide, fun p hp => ?_⟩
  obtain ⟨RL, sL⟩ := R4.laid (o := .tup [v, v']) hp
  have s24 := s4.trans sL
  have rv5 := rv2.step R2 na (fun a _ h z => R0.ownn h (s2.sO a z)) s24 RL.sub
  have rv4' := rv4.step R4 nb (fun a _ h z => R2.ownn h (s4.sO a z)) sL RL.sub
  have s5 := s2.trans s24
  obtain ⟨R5, e5⟩ := putN_ok i RL rv5 na fun a e h => ⟨fun z => R0.ownn h (s5.sO a z), R0.zn h⟩
  have rv6 : RV M H1 (putN i ra (ρ4, α3)).1 α3 F4 (σ.set i (some v)) (upd H3 p (.tup [v, v'])) rb v' := by
    cases rb with
    | fr d => exact rv4'
    | nw b => exact rv4'
    | nt p b c => exact rv4'
    | al i b => exact absurd rfl (nb i b)
  have no6 : ∀ a, H1 a = none → ¬ Owned (putN i ra (ρ4, α3)).1 (σ.set i (some v)) a := fun a h z => by
    cases ra with
    | fr d =>
      have z' : Owned (ρ4.set i (some (.d d))) (σ.set i (some v)) a := z
      exact R2.ownn h (s4.sO a (owned_putD z'))
    | nt p b c =>
      have z' : Owned (ρ4.set i (some (.d (.obj p)))) (σ.set i (some v)) a := z
      exact R2.ownn h (s4.sO a (owned_putD z'))
    | al i b => exact absurd rfl (na i b)
    | nw b =>
      have z' : Owned (ρ4.set i (some b)) (σ.set i (some v)) a := z
      rcases owned_set z' with q | q
      · obtain ⟨a', o, e', h2, _⟩ := rv2
        rw [e'] at q
        cases q
        rw [h2] at h
        cases h
      · exact R2.ownn h (s4.sO a q)
  obtain ⟨R6, e6⟩ := putN_ok j R5 rv6 nb fun a e h => ⟨no6 a h, (none_or Z.H a).elim id fun q => absurd h (R2.bT a q)⟩
  refine ⟨p, [v, v'], rfl, SqT.of upd_same, rfl, v, [v'], rfl, v', [], rfl, rfl, k1 _ α3 F4 _ _ R6 ?_⟩
  have e7 : ((putN i ra (ρ4, α3)).1, α3) = putN i ra (ρ4, α3) := by
    rw [Prod.ext_iff]; exact ⟨rfl, e5.symm⟩
  rw [e7] at e6 ⊢
  have e8 : ((putN j rb (putN i ra (ρ4, α3))).1, α3) = putN j rb (putN i ra (ρ4, α3)) := by
    rw [Prod.ext_iff]; exact ⟨rfl, e6.symm⟩
  rw [e8]
  exact q
end
end DL
set_option maxHeartbeats 4000000
namespace DL
open PySem PySem.Spec L2
open PyProof.Rows hiding St
/-! ### a def whose code object is known -/
section
variable {P : Program} {w : World} {K : PySem.W.Frag} {mg : Str → Option Value} {base : Heap}
structure DefC (K : PySem.W.Frag) (mg : Str → Option Value) (x : Str) (st : Stmt) (ps : List Str) (c : Addr) : Prop where
  ex : ∃ f fd, mg x = some (.ref f) ∧ Fun K x x st f fd ∧ Binds K fd ps [] ∧ fd.code = .ref c
theorem defC_ok {M : Amb K} {x : Str} {st : Stmt} {N ps : List Str} {k : Nat} {c : Addr} {C : Ct M} {wb : WS M} (D : DefC K mg x st ps c) (S : FnScope N ps (defScope st))
    (hb : ∀ (f : Addr) (A : Around) (outer : List PySem.Env) (s : Shared) (H : Hp) (E : XK), Room k (A.deeper (envOfC x (defScope st) s.heap.objs.size f (.ref c))) → (A.deeper (envOfC x (defScope st) s.heap.objs.size f (.ref c))).guards = some [] →
      QSs (cxOf CX0 P w K mg base N x (defScope st) f (.ref c) A outer s H E).nox M (defBody st) wb)
    (hw : ∀ ds α Qd, ds.length = ps.length → C ds α Qd → wb (endsOf Qd) (startB N.length ds, α)) : Ok P w K mg base M x (k + 1) ps.length C := by
  obtain ⟨f, fd, h1, F, h3, hcv⟩ := D.ex
  refine ⟨f, fd, ps, h1, F.kp, h3, rfl, fun vs H Q E q => q.1, fun A outer s H args us vs Q E hr hg e0 hbi r hsp => ?_⟩
  obtain ⟨oc, od, kV, doc, pm, an, cdv, ct, osl, rfl, lk, hcd⟩ := F.ex
  have hcv : cdv = .ref c := hcv
  subst hcv
  obtain ⟨hl, F0, ds, α, Qd, s1, dv, a, n, hC, kq⟩ := hsp
  have kin : K.In s.heap := e0.mod.kin.keeps fun b o e => (e0.bs b o e).1
  have lim : s.heap.NoLimit := e0.mod.nolimit.keeps fun b o e => (e0.bs b o e).1
  refine codeAny_call_function hr.depth (kin _ _ lk) rfl S.co S.gen rfl (PySem.W.codeRec_of kin hcd) (hbi _ _ _ _ ?_)
  refine wpAny_newFunctionEnv_cells S.kind (fun ⟨y, z⟩ hy => (S.par y (List.of_mem_zip hy).1).imp_right fun q => ⟨q, PySem.W.cellsFrom_some _ _ _ (.inl q)⟩) fun env he s2 x1 => ?_
  cases he
  refine ⟨lim.keeps x1.toInCall.keep, codeAny_func ?_⟩
  have I := inv_start (CX := CX0) (P := P) (w := w) (mg := mg) (E := E) (f := f) (cd := .ref c) (qual := x) S hr.hd e0 hl r x1
  have R0 := start_rel (M := M) (N := N) s1 dv a n
  have run := (hb f A outer s H E (hr.deeper _) hg).run.nox.run [] s2 (start N vs) H { nx := fun _ H' => Q .non H', rt := Q } I
    ⟨⟨F0, H, α⟩, _, α, F0, endsOf Qd, R0, hw ds α Qd (by rw [← dv.length]; exact hl) hC, fun ρ' α' F' σ' H' R1 q => ?_, fun _ _ _ _ _ _ q => q.elim, fun _ _ _ _ _ _ q => q.elim, fun v r ρ' α' F' σ' H' R1 rv q => ?_⟩
  · refine wpAny_mono run (fun fl s' hs => ?_) fun e s' hs => hs
    cases fl with
    | next =>
      obtain ⟨σ', H', J, q⟩ := hs
      exact ⟨V.non, H', J.os, J.bare, J.base, J.hok, rfl, q⟩
    | ret u =>
      obtain ⟨v, σ', H', J, rv, q⟩ := hs
      exact ⟨v, H', J.os, J.bare, J.base, J.hok, rv, q⟩
    | brk => obtain ⟨_, _, _, q⟩ := hs; exact q.elim
    | cont => obtain ⟨_, _, _, q⟩ := hs; exact q.elim
  · exact kq .non (.fr .non) α' F' H' ⟨R1.bF, R1.sub, R1.bH, R1.bT, R1.bN, R1.bZ, R1.amb, R1.ambF⟩ (RV.mk .non) q
  · exact kq v r α' F' H' ⟨R1.bF, R1.sub, R1.bH, R1.bT, R1.bN, R1.bZ, R1.amb, R1.ambF⟩ rv q
end
/-- the lambda of a statement -/
def lamSc : List Stmt → Scope → Scope
  | .Return (some (.Call _ [_, .Lambda _ _ sc _] _ _)) _ :: _, _ => sc
  | .Assign _ (.Call _ [_, .Lambda _ _ sc _] _ _) _ :: _, _ => sc
  | _ :: r, d => lamSc r d
  | [], d => d
end DL
set_option maxHeartbeats 4000000
namespace DL
open PySem PySem.Spec L2
open PyProof.Rows hiding St
/-! ### a test that changes nothing: what the names own stays their own -/
def still (ρ : List (Option B)) : List (Option B) := ρ.map (Option.map fun b => B.d b.toD)
theorem still_at {ρ : List (Option B)} {i : Nat} {b : B} (h : (still ρ)[i]? = some (some b)) : ∃ b', ρ[i]? = some (some b') ∧ b = .d b'.toD := by
  unfold still at h
  rw [List.getElem?_map] at h
  cases e : ρ[i]? with
  | none => rw [e] at h; cases h
  | some x =>
    rw [e] at h
    cases x with
    | none => cases h
    | some b' => exact ⟨b', rfl, (Option.some.inj (Option.some.inj h)).symm⟩
theorem Rel.pure {K : PySem.W.Frag} {M : Amb K} {Z : Base M} {ρ : List (Option B)} {α : M.S} {F H : Hp} {σ : L2.St} (R0 : Rel M Z ρ α F σ H) : Rel (noAmb K) ⟨H, H, ()⟩ (still ρ) () H σ H := by
  refine ⟨Sub.refl _, by unfold still; rw [List.length_map]; exact R0.len, fun i d e => ?_, fun i b e ow => ?_, fun i j b b' a e ow => ?_, trivial, fun _ h => h.elim, Sub.refl _, fun _ _ h _ => h, fun _ h => h.elim, fun _ h => h, fun _ h => .inl h⟩
  · obtain ⟨b', h1, h2⟩ := still_at e
    cases h2
    by_cases ow : b'.own = true
    · obtain ⟨a, o, q1, q2, q3, _⟩ := R0.own i b' h1 ow
      exact ⟨_, q1, (q3.mono R0.sub).frozen q2⟩
    · cases b' with
      | d x =>
        obtain ⟨v, q1, q2⟩ := R0.val i x h1
        exact ⟨v, q1, q2.mono R0.sub⟩
      | l _ => exact absurd rfl ow
      | m _ => exact absurd rfl ow
      | mT _ => exact absurd rfl ow
  · obtain ⟨b', _, rfl⟩ := still_at e
    cases ow
  · obtain ⟨b', _, rfl⟩ := still_at e
    cases ow
section
variable {X : Cx} {M : Amb X.K}
def wPureT {K : PySem.W.Frag} {M : Amb K} (t : WT (noAmb K)) : WT M := fun E Q => t (still E.1, ()) fun b _ => Q b E
theorem qt_pure {e : Expr} {t : WT (noAmb X.K)} (h : QT X (noAmb X.K) e t) : QT X M e (wPureT t) := by
  refine ⟨pt_weak h.run fun σ H Q' ⟨Z, ρ, α, F, Q, R0, w, k⟩ => ?_⟩
  refine ⟨⟨H, H, ()⟩, still ρ, (), H, _, R0.pure, w, fun b ρ' α' F' H' R1 s1 q => ?_⟩
  obtain ⟨R2, s2⟩ := R0.grown (H' := H') fun b o e => s1.sH b o e fun z => z
  exact k b ρ α F H' R2 s2 q
end
end DL
set_option maxHeartbeats 4000000
namespace DL
open PySem PySem.Spec L2
open PyProof.Rows hiding St
/-! ### two owned objects handed back as one tuple, and taken apart -/
section
variable {X : Cx} {M : Amb X.K}
def wRet2 {K : PySem.W.Frag} {M : Amb K} (i j : Nat) : WS M := fun D E => ∃ b1 b2, E.1[i]? = some (some b1) ∧ b1.own = true ∧ E.1[j]? = some (some b2) ∧ b2.own = true ∧ i ≠ j ∧ ∀ p, D.rt (.nt p b1 b2) E.2
theorem qs_ret2 {i j : Nat} {x y : Str} {px py pt pos : Pos} {kt} (hx : PE X (.Name x px) (tVar i)) (hy : PE X (.Name y py) (tVar j)) (h1 : starEach [.Name x px, .Name y py] X.env = (false, eval (.Name x px) X.env) :: starEach [.Name y py] X.env := by rfl) (h2 : starEach [.Name y py] X.env = (false, eval (.Name y py) X.env) :: starEach [] X.env := by rfl) :
    QS X M (.Return (some (.Tuple [.Name x px, .Name y py] kt pt)) pos) (wRet2 i j) := by
  refine ⟨ps_weak (ps_ret (pe_tup (pa_cons hx (pa_cons hy pa_nil h2) h1))) fun D' σ H ⟨Z, ρ, α, F, D, R0, w, k1, k2, k3, k4⟩ => ?_⟩
  obtain ⟨b1, b2, e1, ow1, e2, ow2, hij, q⟩ := w
  obtain ⟨a1, o1, v1, g1, g2, g3, g4, g5⟩ := R0.own i b1 e1 ow1
  obtain ⟨a2, o2, v2, f1, f2, f3, f4, f5⟩ := R0.own j b2 e2 ow2
  refine ⟨.ref a1, v1, .ref a2, v2, by show 2 ≤ sizeLine; decide, fun p hp => ?_⟩
  obtain ⟨R1, s1⟩ := R0.tuple (o := .tup [V.ref a1, V.ref a2]) hp
  have n1 : a1 ≠ p := fun e => by rw [e, hp] at g1; cases g1
  have n2 : a2 ≠ p := fun e => by rw [e, hp] at f1; cases f1
  refine k4 (.ref p) (.nt p b1 b2) ρ α _ σ _ R1 ⟨rfl, a1, a2, SqT.of upd_same, fun e => hij (R0.dis i j b1 b2 a1 e1 ow1 e2 ow2 v1 (e ▸ v2)), ⟨o1, by rw [upd_ne n1]; exact g1, g2.mono s1.sF, by rw [upd_ne n1]; exact g3, g4, g5⟩, ⟨o2, by rw [upd_ne n2]; exact f1, f2.mono s1.sF, by rw [upd_ne n2]; exact f3, f4, f5⟩⟩ (q p)
def isNt (r : R) (Q : B → B → Prop) : Prop := match r with
  | .nt _ a b => Q a b
  | _ => False
theorem isNt_ok {r : R} {Q : B → B → Prop} (h : isNt r Q) : ∃ p a b, r = .nt p a b ∧ Q a b := by
  unfold isNt at h
  split at h
  · exact ⟨_, _, _, rfl, h⟩
  · exact h.elim
/-- x, y = a tuple just made of two new objects: they are the names' own -/
def wPair {K : PySem.W.Frag} {M : Amb K} (i j : Nat) (w : WE M) : WS M := fun D E => w E fun r E1 => isNt r fun b1 b2 => i ≠ j ∧ D.nx ((E1.1.set i (some b1)).set j (some b2), E1.2)
theorem qs_pair {i j : Nat} {x y : Str} {e : Expr} {w : WE M} {px py pt pos : Pos} {kt} (hN : X.N.Nodup) (he : QE X M e w) (hi : X.N[i]? = some x := by rfl) (hj : X.N[j]? = some y := by rfl) (hx : Loc X.env.scope x := by first | exact .inl rfl | exact .inr rfl) (hy : Loc X.env.scope y := by first | exact .inl rfl | exact .inr rfl)
    (fx : X.fn x = true ∨ X.env.scope.names.lookup x = some .local := by first | exact .inl rfl | exact .inr rfl) (fy : X.fn y = true ∨ X.env.scope.names.lookup y = some .local := by first | exact .inl rfl | exact .inr rfl)
    (hw : swappedStores [.Tuple [.Name x px, .Name y py] kt pt] e X.env = pure none := by rfl) (hc : X.calm = true := by rfl)
    (hs : swapsWithSole [.Tuple [.Name x px, .Name y py] kt pt] e pos.line X.env = pure false := by rfl) :
    QS X M (.Assign [.Tuple [.Name x px, .Name y py] kt pt] e pos) (wPair i j w) := by
  refine ⟨ps_weak (ps_asg he.run (pg_tup hc (pgs_cons (pg_name hN hi hx fx) (pgs_cons (pg_name hN hj hy fy) pgs_nil))) hs hw) fun D' σ H ⟨Z, ρ, α, F, D, R0, w, k1, k2, k3, k4⟩ => ?_⟩
  refine ⟨Z, ρ, α, F, _, R0, w, fun v r ρ1 α1 F1 H1 R1 s1 rv q => ?_⟩
  obtain ⟨p, b1, b2, rfl, hij, q⟩ := isNt_ok q
  obtain ⟨rfl, a1, a2, ht, ne, ⟨o1, g1, g2, g3, g4, g5⟩, ⟨o2, f1, f2, f3, f4, f5⟩⟩ := rv
  have R2 := R1.putO i g1 g2 g3 g4 (R0.zn g5) fun z => R0.ownn g5 (s1.sO a1 (owned_clear z))
  have R3 := R2.putO j f1 f2 f3 f4 (R0.zn f5) fun z => by
    rcases owned_set (owned_clear z) with q | q
    · cases q
      exact ne rfl
    · exact R0.ownn f5 (s1.sO a2 q)
  exact ⟨p, [.ref a1, .ref a2], rfl, R1.sub.t ht, rfl, .ref a1, [.ref a2], rfl, .ref a2, [], rfl, rfl, k1 _ α1 F1 _ _ R3 q⟩
end
/-! ### [e for x in xs for y in ys] -/
section
variable {K : PySem.W.Frag} {M : Amb K}
theorem wipe_sub {σ : L2.St} {us vs : List Nat} (h : ∀ i ∈ us, i ∈ vs) : wipe (wipe σ us) vs = wipe σ vs := by
  refine List.ext_getElem? fun i => ?_
  by_cases hi : i ∈ vs
  · have e : ∀ τ τ' : L2.St, τ.length = τ'.length → (wipe τ vs)[i]? = (wipe τ' vs)[i]? := fun τ τ' hl => by
      by_cases hlt : i < τ.length
      · have a : ∀ τ : L2.St, i < τ.length → (wipe τ vs)[i]? = some none := fun τ hlt => by
          cases e : (wipe τ vs)[i]? with
          | none =>
            have := List.getElem?_eq_none_iff.mp e
            rw [wipe_length] at this
            omega
          | some z => cases z with
            | none => rfl
            | some v => exact absurd hi (wipe_some e).2
        rw [a τ hlt, a τ' (by omega)]
      · rw [List.getElem?_eq_none (by rw [wipe_length]; omega), List.getElem?_eq_none (by rw [wipe_length]; omega)]
    exact e _ _ (wipe_length σ us)
  · rw [wipe_not hi, wipe_not hi, wipe_not fun z => hi (h i z)]
theorem wipeB_length (ρ : List (Option B)) : ∀ vs : List Nat, (wipeB ρ vs).length = ρ.length
  | [] => rfl
  | v :: vs => by unfold wipeB; rw [List.length_set, wipeB_length ρ vs]
theorem wipeB_sub {ρ : List (Option B)} {us vs : List Nat} (h : ∀ i ∈ us, i ∈ vs) : wipeB (wipeB ρ us) vs = wipeB ρ vs := by
  refine List.ext_getElem? fun i => ?_
  by_cases hi : i ∈ vs
  · by_cases hlt : i < ρ.length
    · have a : ∀ τ : List (Option B), i < τ.length → (wipeB τ vs)[i]? = some none := fun τ hlt => by
        cases e : (wipeB τ vs)[i]? with
        | none =>
          have := List.getElem?_eq_none_iff.mp e
          rw [wipeB_length] at this
          omega
        | some z => cases z with
          | none => rfl
          | some v => exact absurd hi (wipeB_get e).2
      rw [a _ (by rw [wipeB_length]; exact hlt), a _ hlt]
    · rw [List.getElem?_eq_none (by rw [wipeB_length, wipeB_length]; omega), List.getElem?_eq_none (by rw [wipeB_length]; omega)]
  · rw [wipeB_not hi, wipeB_not hi, wipeB_not fun z => hi (h i z)]
def wLc2 (wi : WI M) (g : WG M) (wt : WT M) (wi1 : WI M) (g1 : WG M) (wt1 : WT M) (we : WE M) (vs vs1 : List Nat) : WE M := fun E Q => wi E fun ds E1 => ∃ Inv : Nat → List D → M.S → Prop, Inv 0 [] E1.2 ∧
  (∀ i d acc α, ds[i]? = some d → Inv i acc α → g d (wipeB E1.1 vs, α) fun E2 => wt E2 fun b E3 => if b = true then
      wi1 E3 fun ds1 E4 => ∃ Inv1 : Nat → List D → M.S → Prop, Inv1 0 acc E4.2 ∧
        (∀ j d1 acc1 α1, ds1[j]? = some d1 → Inv1 j acc1 α1 → g1 d1 (wipeB E4.1 vs1, α1) fun E5 => wt1 E5 fun b1 E6 => if b1 = true then we E6 fun r E7 => fz r E7 fun y E8 => wipeB E8.1 vs1 = wipeB E4.1 vs1 ∧ acc1.length < sizeLine ∧ Inv1 (j + 1) (acc1 ++ [y]) E8.2
          else wipeB E6.1 vs1 = wipeB E4.1 vs1 ∧ Inv1 (j + 1) acc1 E6.2) ∧ wipeB E4.1 vs = wipeB E1.1 vs ∧ ∀ acc1 α1, Inv1 ds1.length acc1 α1 → Inv (i + 1) acc1 α1
    else wipeB E3.1 vs = wipeB E1.1 vs ∧ Inv (i + 1) acc E3.2) ∧ ∀ acc α, Inv ds.length acc α → Q (.nw (.l acc)) (E1.1, α)
end
section
variable {X : Cx} {M : Amb X.K}
theorem lc2_run {wi : WI M} {g : WG M} {wt : WT M} {wi1 : WI M} {g1 : WG M} {wt1 : WT M} {we : WE M} {vs vs1 : List Nat} (hv : ∀ i ∈ vs1, i ∈ vs)
    {Z : Base M} {ρ : List (Option B)} {α : M.S} {F H : Hp} {σ : L2.St} {Q : R → Env M → Prop} {Q' : VK} (R0 : Rel M Z ρ α F σ H) (w : wLc2 wi g wt wi1 g1 wt1 we vs vs1 (ρ, α) Q)
    (k : ∀ v r ρ' α' F' H', Rel M Z ρ' α' F' σ H' → Stp M σ ρ α F H ρ' α' F' H' → RV M H ρ' α' F' σ H' r v → Q r (ρ', α') → Q' v H') : tLc2 (tWI M wi) (tWG M vs g) (tWT M wt) (tWI M wi1) (tWG M vs1 g1) (tWT M wt1) (tW M we) vs vs1 σ H Q' := by
  refine ⟨Z, ρ, α, F, _, R0, w, fun J ds ρ1 α1 F1 H1 R1 s1 ok q L hL => ?_⟩
  obtain ⟨Inv, h0, hs, hd⟩ := q
  have Rw := R1.wiped vs
  obtain ⟨Rl, sl⟩ := Rw.laid (o := .lst []) hL
  refine ⟨fun i m H => m = ds.length - i ∧ i ≤ ds.length ∧ ∃ acc us α F, Rel M (Z.at F1) (wipeB ρ1 vs) α F (wipe σ vs) H ∧ Stp M (wipe σ vs) (wipeB ρ1 vs) α1 F1 H1 (wipeB ρ1 vs) α F H ∧ H L = some (.lst us) ∧ DVs X.K F us acc ∧ F L = none ∧ ¬ M.fp α L ∧ Inv i acc α,
    ⟨ds.length, rfl, Nat.zero_le _, [], [], α1, F1, Rl.rebase, sl, upd_same, .nil, R1.fn hL, R1.fpn hL, h0⟩, ?_⟩
  rintro i m H2 ⟨rfl, hi, acc, us, α2, F2, R2, s2, hl, dv, fl, nl, inv⟩
  have sH : Sub F1 H2 := fun b o e => R2.sub b o (R2.bF b o e)
  obtain ⟨go, stop, yld⟩ := ok H2 sH
  have stay : ∀ {σ' : L2.St} {ρ' ρ'' : List (Option B)} {α' α'' : M.S} {F' F'' H' H'' : Hp} {u : List V} {ac : List D}, Stp M σ' ρ' α' F' H' ρ'' α'' F'' H'' → Sub F'' H'' → ¬ Owned ρ' σ' L → H' L = some (.lst u) → DVs X.K F' u ac → F' L = none → ¬ M.fp α' L →
      H'' L = some (.lst u) ∧ DVs X.K F'' u ac ∧ F'' L = none ∧ ¬ M.fp α'' L := fun {σ' ρ' ρ'' α' α'' F' F'' H' H'' u ac} s sb no h d f n =>
    ⟨s.sH L _ h n, d.mono s.sF, (none_or F'' L).elim id fun q => by
      rcases s.sZ L q with q | q | q
      · exact absurd f q
      · exact (q.nl sb h (s.sH L _ h n) nofun).elim
      · exact absurd q no, fun q => (s.sN L q).elim n fun q => absurd q (ne_none h)⟩
  by_cases hlt : i < ds.length
  · refine .inr ⟨go i hlt, fun H => ∃ acc us α F, Rel M (Z.at F1) (wipeB ρ1 vs) α F (wipe σ vs) H ∧ Stp M (wipe σ vs) (wipeB ρ1 vs) α1 F1 H1 (wipeB ρ1 vs) α F H ∧ H L = some (.lst us) ∧ DVs X.K F us acc ∧ F L = none ∧ ¬ M.fp α L ∧ Inv (i + 1) acc α,
      fun H' n => ⟨ds.length - (i + 1), by omega, rfl, hlt, n⟩, fun x H' y => ?_⟩
    have hd' : ds[i]? = some ds[i] := by simp [hlt]
    obtain ⟨F3, R3, s3, dx⟩ := yld i x ds[i] H' _ _ α2 F2 _ R2 R2.bF y hd'
    have noW : ¬ Owned (wipeB ρ1 vs) (wipe σ vs) L := Rw.ownn hL
    obtain ⟨hl3, dv3, fl3, nl3⟩ := stay s3 R3.sub noW hl dv fl nl
    refine ⟨_, _, α2, F3, _, _, R3, dx, hs i ds[i] acc α2 hd' inv, fun ρ4 σ4 R4 w4 o4 q4 => ⟨w4.trans wipe_idem, ?_⟩⟩
    have w5 : wipe σ4 vs = wipe σ vs := w4.trans wipe_idem
    have no4 : ¬ Owned ρ4 σ4 L := fun z => noW (o4 L z)
    refine ⟨_, ρ4, α2, F3, _, R4, q4, fun b ρ5 α5 F5 H5 R5 s5 q5 => ?_⟩
    have back : ∀ {ρ' : List (Option B)} {α' : M.S} {F' H'' : Hp}, Stp M σ4 ρ4 α2 F3 H' ρ' α' F' H'' → Stp M (wipe σ vs) (wipeB ρ1 vs) α1 F1 H1 (wipeB ρ1 vs) α' F' H'' := fun {ρ' α' F' H''} s =>
      s2.trans (s3.trans ⟨s.sF, s.sH, s.sT, s.sN, fun b h => (s.sZ b h).elim .inl fun h => .inr (h.elim .inl fun h => .inr (o4 b h)), fun _ h => h⟩)
    obtain ⟨hl5, dv5, fl5, nl5⟩ := stay s5 R5.sub no4 hl3 dv3 fl3 nl3
    cases b with
    | false =>
      rw [if_neg Bool.false_ne_true] at q5
      refine iteF ?_
      exact ⟨acc, us, α5, F5, (R5.wiped vs).cast q5.1 w5, back s5, hl5, dv5, fl5, nl5, q5.2⟩
    | true =>
      rw [if_pos rfl] at q5
      refine iteT ?_
      refine ⟨_, ρ5, α5, F5, _, R5, q5, fun J1 ds1 ρ6 α6 F6 H6 R6 s6 ok1 q6 => ?_⟩
      obtain ⟨Inv1, i0, is, hw, id1⟩ := q6
      have s56 := s5.trans s6
      obtain ⟨hl6, dv6, fl6, nl6⟩ := stay s56 R6.sub no4 hl3 dv3 fl3 nl3
      have no6 : ¬ Owned ρ6 σ4 L := fun z => no4 (s56.sO L z)
      have noV : ¬ Owned (wipeB ρ6 vs1) (wipe σ4 vs1) L := fun z => by
        obtain ⟨j, b, _, h1, h2, h3⟩ := owned_wipe z
        exact no6 ⟨j, b, h1, h2, h3⟩
      have cv : ∀ b, Owned (wipeB ρ6 vs1) (wipe σ4 vs1) b → Owned (wipeB ρ1 vs) (wipe σ vs) b := fun b z => by
        obtain ⟨j, b', _, h1, h2, h3⟩ := owned_wipe z
        exact o4 b (s56.sO b ⟨j, b', h1, h2, h3⟩)
      have conv : ∀ {α α' : M.S} {F F' H H' : Hp}, Stp M (wipe σ4 vs1) (wipeB ρ6 vs1) α F H (wipeB ρ6 vs1) α' F' H' → Stp M (wipe σ vs) (wipeB ρ1 vs) α F H (wipeB ρ1 vs) α' F' H' := fun t =>
        ⟨t.sF, t.sH, t.sT, t.sN, fun b h => (t.sZ b h).elim .inl fun h => .inr (h.elim .inl fun h => .inr (cv b h)), fun _ h => h⟩
      refine ⟨fun j m H => m = ds1.length - j ∧ j ≤ ds1.length ∧ ∃ acc us α F, Rel M ((Z.at F1).at F6) (wipeB ρ6 vs1) α F (wipe σ4 vs1) H ∧ Stp M (wipe σ vs) (wipeB ρ1 vs) α1 F1 H1 (wipeB ρ1 vs) α F H ∧ H L = some (.lst us) ∧ DVs X.K F us acc ∧ F L = none ∧ ¬ M.fp α L ∧ Inv1 j acc α,
        ⟨ds1.length, rfl, Nat.zero_le _, acc, us, α6, F6, (R6.wiped vs1).rebase, back s56, hl6, dv6, fl6, nl6, i0⟩, ?_⟩
      rintro j m1 H7 ⟨rfl, hj, acc7, us7, α7, F7, R7, s7, hl7, dv7, fl7, nl7, inv7⟩
      have sH1 : Sub F6 H7 := fun b o e => R7.sub b o (R7.bF b o e)
      obtain ⟨go1, stop1, yld1⟩ := ok1 H7 sH1
      by_cases hjl : j < ds1.length
      · refine .inr ⟨go1 j hjl, fun H => ∃ acc us α F, Rel M ((Z.at F1).at F6) (wipeB ρ6 vs1) α F (wipe σ4 vs1) H ∧ Stp M (wipe σ vs) (wipeB ρ1 vs) α1 F1 H1 (wipeB ρ1 vs) α F H ∧ H L = some (.lst us) ∧ DVs X.K F us acc ∧ F L = none ∧ ¬ M.fp α L ∧ Inv1 (j + 1) acc α,
          fun H' n => ⟨ds1.length - (j + 1), by omega, rfl, hjl, n⟩, fun x1 H8 y1 => ?_⟩
        have hd1 : ds1[j]? = some ds1[j] := by simp [hjl]
        obtain ⟨F8, R8, s8, dx1⟩ := yld1 j x1 ds1[j] H8 _ _ α7 F7 _ R7 R7.bF y1 hd1
        obtain ⟨hl8, dv8, fl8, nl8⟩ := stay s8 R8.sub noV hl7 dv7 fl7 nl7
        refine ⟨_, _, α7, F8, _, _, R8, dx1, is j ds1[j] acc7 α7 hd1 inv7, fun ρ9 σ9 R9 w9 o9 q9 => ⟨w9.trans wipe_idem, ?_⟩⟩
        have w9' : wipe σ9 vs1 = wipe σ4 vs1 := w9.trans wipe_idem
        have no9 : ¬ Owned ρ9 σ9 L := fun z => noV (o9 L z)
        refine ⟨_, ρ9, α7, F8, _, R9, q9, fun b ρa αa Fa Ha Ra sa qa => ?_⟩
        have back1 : ∀ {ρ' : List (Option B)} {α' : M.S} {F' H'' : Hp}, Stp M σ9 ρ9 α7 F8 H8 ρ' α' F' H'' → Stp M (wipe σ vs) (wipeB ρ1 vs) α1 F1 H1 (wipeB ρ1 vs) α' F' H'' := fun {ρ' α' F' H''} s =>
          s7.trans (conv (s8.trans (ρ2 := wipeB ρ6 vs1) ⟨s.sF, s.sH, s.sT, s.sN, fun b h => (s.sZ b h).elim .inl fun h => .inr (h.elim .inl fun h => .inr (o9 b h)), fun _ h => h⟩))
        cases b with
        | false =>
          rw [if_neg Bool.false_ne_true] at qa
          refine iteF ?_
          obtain ⟨hla, dva, fla, nla⟩ := stay sa Ra.sub no9 hl8 dv8 fl8 nl8
          exact ⟨acc7, us7, αa, Fa, (Ra.wiped vs1).cast qa.1 w9', back1 sa, hla, dva, fla, nla, qa.2⟩
        | true =>
          rw [if_pos rfl] at qa
          refine iteT ?_
          refine ⟨_, ρa, αa, Fa, _, Ra, qa, fun v r ρb αb Fb Hb Rb sb rv qb => ?_⟩
          obtain ⟨y, ρc, Fc, Rc, sc, dy, hwc, hz, qc⟩ := fz_ok Ra sb Rb rv qb
          have sac := sa.trans sc
          obtain ⟨hlc, dvc, flc, nlc⟩ := stay sac Rc.sub no9 hl8 dv8 fl8 nl8
          refine ⟨us7, hlc, by rw [dvc.length]; exact hz, acc7 ++ [y], us7 ++ [v], αb, Fc, ?_, (back1 sac).mutNew hL, upd_same, dvc.append (.cons dy .nil), flc, nlc, qc⟩
          have Rd := (Rc.wiped vs1).cast hwc w9'
          exact Rd.mutNew (ne_none hlc) flc nlc noV (R1.zn hL)
      · have e : j = ds1.length := by omega
        subst e
        refine .inl ⟨stop1, acc7, us7, α7, F7, (((R6.wiped vs1).unbase R7).wiped vs).cast ((wipeB_sub hv).trans hw) ((wipe_sub hv).trans w5), s7, hl7, dv7, fl7, nl7, id1 acc7 α7 inv7⟩
  · have e : i = ds.length := by omega
    subst e
    obtain ⟨Ru, su⟩ := R1.unwipe s2 (R1.wiped vs |>.unbase R2)
    refine .inl ⟨stop, k _ (.nw (.l acc)) ρ1 α2 F2 H2 Ru (s1.trans su) ⟨L, _, rfl, hl, dv, fl, nl, (none_or H L).elim id fun q => absurd hL (s1.sT L q)⟩ (hd acc α2 inv)⟩
end
section
variable {X : Cx} {M : Amb X.K}
theorem qe_lc2 {elt tg iter tg1 iter1 : Expr} {ifs ifs1 : List Expr} {scope : Scope} {own : List (Str × Nat)} {vs1 : List Nat} {pos : Pos} {wi wi1 : WI M} {g g1 : WG M} {wt wt1 : WT M} {we : WE M} (hN : X.N.Nodup) (hi : QI X M tg iter wi) (ok : BlkOk X.N X.env.scope scope own) (hv : ∀ i ∈ vs1, i ∈ own.map (·.2))
    (hg : ∀ s H C cl fp, QG (X.blk s H scope (compEnvC scope cl C X.env) fp) M tg (own.map (·.2)) g) (ht : ∀ s H C cl fp, QTs (X.blk s H scope (compEnvC scope cl C X.env) fp) M ifs wt)
    (hi1 : ∀ s H C cl fp, QI (X.blk s H scope (compEnvC scope cl C X.env) fp) M tg1 iter1 wi1)
    (hg1 : ∀ s H C cl fp, QG (X.blk s H scope (compEnvC scope cl C X.env) fp) M tg1 vs1 g1) (ht1 : ∀ s H C cl fp, QTs (X.blk s H scope (compEnvC scope cl C X.env) fp) M ifs1 wt1)
    (he : ∀ s H C cl fp, QE (X.blk s H scope (compEnvC scope cl C X.env) fp) M elt we) (hc : X.calm = true := by rfl) (hs : ∀ x, foldedSetIterable iter X.env x = pure x := by intro _; rfl) (hs1 : ∀ env x, foldedSetIterable iter1 env x = pure x := by intro _ _; rfl) :
    QE X M (.ListComp elt [⟨tg, iter, ifs, 0⟩, ⟨tg1, iter1, ifs1, 0⟩] scope pos) (wLc2 wi g wt wi1 g1 wt1 we (own.map (·.2)) vs1) := by
  refine ⟨pe_weak (pe_lc2 (own := own) (vs1 := vs1) (wi1 := tWI M wi1) (te := tW M we) (tt := tWT M wt) (tt1 := tWT M wt1) (g := tWG M (own.map (·.2)) g) (g1 := tWG M vs1 g1) hc hN hi.run ok hv (fun s H C cl fp => (hg s H C cl fp).run) (fun s H C cl fp => (ht s H C cl fp).run) (fun s H C cl fp => (hi1 s H C cl fp).run) (fun s H C cl fp => (hg1 s H C cl fp).run) (fun s H C cl fp => (ht1 s H C cl fp).run) (fun s H C cl fp => (he s H C cl fp).run) hs hs1) fun σ H Q' ⟨Z, ρ, α, F, Q, R0, w, k⟩ => ?_⟩
  exact lc2_run hv R0 w k
end
end DL
set_option maxHeartbeats 4000000
namespace DL
open PySem PySem.Spec L2
open PyProof.Rows hiding St
/-! ### tuple(range(..)) -/
section
variable {X : Cx} {M : Amb X.K}
def wTRg {K : PySem.W.Frag} {M : Amb K} (wa wb : WE M) : WE M := fun E Q => wa E fun ra E1 => wb E1 fun rb E2 => asI ra.c fun i => asI rb.c fun j => RgOk i j ∧ Q (.fr (.tup (rngD i (j - i).toNat))) E2
theorem qe_trg {a b : Expr} {p p2 pos2 pos : Pos} {wa wb : WE M} (hml : X.mg "tuple" = none) (hm : X.mg "range" = none) (ha : QE X M a wa) (hb : QE X M b wb) (hg : Gl X "tuple" := by rfl) (hg2 : Gl X "range" := by rfl) (hc : X.calm = true := by rfl)
    (na : starEach [a, b] X.env = (false, eval a X.env) :: starEach [b] X.env := by rfl) (nb : starEach [b] X.env = (false, eval b X.env) :: starEach [] X.env := by rfl) (hp : (backTo pos2 (starEach [b] X.env)).any (·.1) = false := by rfl)
    (nc : starEach [.Call (.Name "range" p2) [a, b] [] pos2] X.env = (false, eval (.Call (.Name "range" p2) [a, b] [] pos2) X.env) :: starEach [] X.env := by rfl) :
    QE X M (.Call (.Name "tuple" p) [.Call (.Name "range" p2) [a, b] [] pos2] [] pos) (wTRg wa wb) := by
  refine ⟨pe_weak (pe_tupRg hc hg hml (prg_2 hg2 hm ha.run hb.run na nb hp) nc) fun σ H Q' ⟨Z, ρ, α, F, Q, R0, w, k⟩ => ?_⟩
  refine two R0 w fun x y ra rb ρ2 α2 F2 H2 R2 s2 c1 c2 q => ?_
  obtain ⟨i, e1, q⟩ := asI_ok q
  obtain ⟨j, e2, h1, q⟩ := asI_ok q
  rw [e1] at c1
  rw [e2] at c2
  refine ⟨i, j, c1.int, c2.int, h1, fun p hp => ?_⟩
  obtain ⟨r3, s3⟩ := R2.tuple (o := .tup (rgV i j)) hp
  exact k _ _ ρ2 α2 _ _ r3 (s2.trans s3) (RV.mk (.tup upd_same (rngV_dvs i j))) q
def wTRg1 {K : PySem.W.Frag} {M : Amb K} (wa : WE M) : WE M := fun E Q => wa E fun ra E1 => asI ra.c fun n => RgOk 0 n ∧ Q (.fr (.tup (rngD 0 n.toNat))) E1
theorem qe_trg1 {a : Expr} {p p2 pos2 pos : Pos} {wa : WE M} (hml : X.mg "tuple" = none) (hm : X.mg "range" = none) (ha : QE X M a wa) (hg : Gl X "tuple" := by rfl) (hg2 : Gl X "range" := by rfl) (hc : X.calm = true := by rfl)
    (na : starEach [a] X.env = (false, eval a X.env) :: starEach [] X.env := by rfl)
    (nc : starEach [.Call (.Name "range" p2) [a] [] pos2] X.env = (false, eval (.Call (.Name "range" p2) [a] [] pos2) X.env) :: starEach [] X.env := by rfl) :
    QE X M (.Call (.Name "tuple" p) [.Call (.Name "range" p2) [a] [] pos2] [] pos) (wTRg1 wa) := by
  refine ⟨pe_weak (pe_tupRg hc hg hml (prg_1 hg2 hm ha.run na) nc) fun σ H Q' ⟨Z, ρ, α, F, Q, R0, w, k⟩ => ?_⟩
  refine ⟨Z, ρ, α, F, _, R0, w, fun v r ρ1 α1 F1 H1 R1 s1 rv q => ?_⟩
  obtain ⟨n, e1, h1, q⟩ := asI_ok q
  have c := rv.cv R1
  rw [e1] at c
  refine ⟨n, c.int, h1, fun p hp => ?_⟩
  obtain ⟨r3, s3⟩ := R1.tuple (o := .tup (rgV 0 n)) hp
  have dv := rngV_dvs (K := X.K) (F := upd F1 p (.tup (rgV 0 n))) 0 n
  rw [Int.sub_zero] at dv
  exact k _ _ ρ1 α1 _ _ r3 (s1.trans s3) (RV.mk (.tup upd_same dv)) q
end
end DL
set_option maxHeartbeats 4000000
namespace DL
open PySem PySem.Spec L2
open PyProof.Rows hiding St
/-! ### a dict comprehension given to a name -/
theorem sw_dct {kx vx : Expr} {gs : List Comprehension} {scope : Scope} {pos py : Pos} {y : Str} {l : Nat} {env : PySem.Env} (hk : env.scope.kind = .function) (hy : env.scope.names.lookup y = some .local) (hl : (py.line == pos.line) = true)
    (ha : (scope.names.any fun (n, k) => n == y && (k == .local || k == .cell)) = false) : swapsWith (.DictComp kx vx gs scope pos) (some (.Name y py)) l env = pure true := by
  have h1 : env.kindOf y = some .local := hy
  have h2 : env.blockKind = .function := by unfold PySem.Env.blockKind; rw [hk]; rfl
  unfold swapsWith
  simp only [h2, h1, ha, Expr.pos, hl]
  rfl
section
variable {X : Cx}
theorem ps_setDc {i : Nat} {y : Str} {py : Pos} {kx vx tg iter : Expr} {ifs : List Expr} {scope : Scope} {own : List (Str × Nat)} {pos spos : Pos} {wi : TI} {g : TG} {tt : TT} {tk tv : TE} (hc : X.calm = true) (hN : X.N.Nodup) (hy : X.N[i]? = some y) (hyl : X.env.scope.names.lookup y = some .local)
    (hsw : swapsWith (.DictComp kx vx [⟨tg, iter, ifs, 0⟩] scope pos) (some (.Name y py)) spos.line X.env = pure true) (hi : PI X tg iter wi) (ok : BlkOk X.N X.env.scope scope own)
    (hg : ∀ (s : Shared) (H : Hp) (C : Addr) (cl : List (Str × Addr)) (fp : List Addr), PG (X.blk s H scope (compEnvC scope cl C X.env) fp) tg g) (ht : ∀ (s : Shared) (H : Hp) (C : Addr) (cl : List (Str × Addr)) (fp : List Addr), PTs (X.blk s H scope (compEnvC scope cl C X.env) fp) ifs tt)
    (hk : ∀ (s : Shared) (H : Hp) (C : Addr) (cl : List (Str × Addr)) (fp : List Addr), PE (X.blk s H scope (compEnvC scope cl C X.env) fp) kx tk)
    (he : ∀ (s : Shared) (H : Hp) (C : Addr) (cl : List (Str × Addr)) (fp : List Addr), PE (X.blk s H scope (compEnvC scope cl C X.env) fp) vx tv) (hs : ∀ x, foldedSetIterable iter X.env x = pure x := by intro _; rfl) :
    PS X (.Assign [.Name y py] (.DictComp kx vx [⟨tg, iter, ifs, 0⟩] scope pos) spos) (tAsg (tDc wi g tt tk tv (own.map (·.2))) (gName i)) := by
  refine ⟨fun pins s σ H D I h => ?_⟩
  rw [exec_Assign_Name_used _ _ _ _ hsw]
  refine wpAny_bind (wpAny_standAt (wpAny_bind ?_))
  show wpAny _ X.A (do let _ ← comprehension (.DictComp kx vx [⟨tg, iter, ifs, 0⟩] scope pos) scope X.env (firstIterPos [⟨tg, iter, ifs, 0⟩] pos) newDict false (eval iter X.env) (some (assign (.Name y py) X.env))) _ _ s
  have h : tDc wi g tt tk tv (own.map (·.2)) σ H (fun x H1 => gName i x σ H1 D.nx) := h
  refine wpAny_bind (thn (dc_core (Qf := fun _ s' => SP X pins D .next s') hc hN I hi ok hg ht hk he hs h fun L C s' m H' I' q hn f => ?_) fun _ s' hq => wpAny_pure (wpAny_pure hq))
  show wpAny _ _ (assign (.Name y py) X.env (.ref L)) _ _ _
  refine wpAny_assign_Name (store_ok2 (v := V.ref L) I' hN hy (.inl hyl) rfl (fun s2 I2 ⟨a, sb, ha⟩ => ?_) (.inr hyl))
  obtain ⟨f0, f1, f2, f3, f4, f5⟩ := f
  have haC : C ≠ a := ha.elim (fun z => z ▸ f1) fun z e => f4 y a z e.symm
  refine ⟨m, hn.sameBut sb haC, fun h3 sb3 => ?_⟩
  exact ⟨_, H', I2.turned (t' := s2.toks) (fun b o hb e => (sb3.2 b hb).trans e) f0 f1 f3 f4 f5, q⟩
variable {M : Amb X.K}
theorem qs_dc {i : Nat} {y : Str} {py : Pos} {kx vx tg iter : Expr} {ifs : List Expr} {scope : Scope} {own : List (Str × Nat)} {pos spos : Pos} {wi : WI M} {g : WG M} {wt : WT M} {wk we : WE M} (hN : X.N.Nodup) (hy : X.N[i]? = some y) (hyl : X.env.scope.names.lookup y = some .local)
    (hsw : swapsWith (.DictComp kx vx [⟨tg, iter, ifs, 0⟩] scope pos) (some (.Name y py)) spos.line X.env = pure true) (hi : QI X M tg iter wi) (ok : BlkOk X.N X.env.scope scope own)
    (hg : ∀ s H C cl fp, QG (X.blk s H scope (compEnvC scope cl C X.env) fp) M tg (own.map (·.2)) g) (ht : ∀ s H C cl fp, QTs (X.blk s H scope (compEnvC scope cl C X.env) fp) M ifs wt)
    (hk : ∀ s H C cl fp, QE (X.blk s H scope (compEnvC scope cl C X.env) fp) M kx wk) (he : ∀ s H C cl fp, QE (X.blk s H scope (compEnvC scope cl C X.env) fp) M vx we) (hc : X.calm = true := by rfl) (hs : ∀ x, foldedSetIterable iter X.env x = pure x := by intro _; rfl) :
    QS X M (.Assign [.Name y py] (.DictComp kx vx [⟨tg, iter, ifs, 0⟩] scope pos) spos) (wSet i (wDc wi g wt wk we (own.map (·.2)))) := by
  refine ⟨ps_weak (ps_setDc (own := own) (tk := tW M wk) (tv := tW M we) (tt := tWT M wt) (g := tWG M (own.map (·.2)) g) hc hN hy hyl hsw hi.run ok (fun s H C cl fp => (hg s H C cl fp).run) (fun s H C cl fp => (ht s H C cl fp).run) (fun s H C cl fp => (hk s H C cl fp).run) (fun s H C cl fp => (he s H C cl fp).run) hs) fun D' σ H q => ?_⟩
  obtain ⟨Z, ρ, α, F, D, R0, w, k1, k2, k3, k4⟩ := q
  refine dc_run R0 w fun v r ρ' α' F' H' R1 s1 rv q => ?_
  obtain ⟨F2, r2, e⟩ := put_ok i R0 s1 R1 rv
  refine k1 (put i r (ρ', α')).1 α' F2 _ H' r2 ?_
  have e' : ((put i r (ρ', α')).1, α') = put i r (ρ', α') := by
    rw [Prod.ext_iff]
    exact ⟨rfl, e.symm⟩
  rw [e']
  exact q
/-- the slots that a target changes, more of them told -/
theorem QG.wide {tg : Expr} {us vs : List Nat} {g : WG M} (h : QG X M tg us g) (hv : ∀ i ∈ us, i ∈ vs := by decide) : QG X M tg vs g := by
  refine ⟨pg_weak h.run fun v σ H Q' ⟨Z, ρ, α, F, d, Q, R0, dv, q, k⟩ => ?_⟩
  exact ⟨Z, ρ, α, F, d, Q, R0, dv, q, fun ρ' σ' R' hw ho q => k ρ' σ' R' (by rw [← wipe_sub hv (σ := σ'), hw, wipe_sub hv]) ho q⟩
end
end DL
set_option maxHeartbeats 4000000
namespace DL
open PySem PySem.Spec L2
open PyProof.Rows hiding St
/-! ### sorted(set(t)), t a tuple of many ints, few of them unlike -/
section
variable {X : Cx} {M : Amb X.K}
def rSetTF (K : PySem.W.Frag) (w : World) : List V → Hp → VK → Prop := fun xs H Q => ∃ (l : Addr) (ns : List Int), xs = [V.ref l] ∧ SqT K H l (ns.map V.int) ∧ ns.length < 4000 ∧ (∀ L : List Int, L.Nodup → (∀ k ∈ L, k ∈ ns) → L.length < 64) ∧ ∀ (p : Addr) (c : Nat), H p = none → c < 64 → Q (.ref p) (upd H p (SetO w p (fun j => decide (j ∈ ns)) c))
theorem cr_setTF (hc : X.calm = true) : CallR X (.type "set") (rSetTF X.K X.w) := by
  intro pins s σ H xs us Q I r h
  obtain ⟨l, ns, rfl, hT, hl, hf, q⟩ := h
  rw [Vals.ref1 r]
  obtain ⟨its, rv, ht, hz⟩ := I.tuple hT
  refine call_set_tupI ns (I.ok.hd hc) (show s.heap.IsTuple l its.toArray by obtain ⟨o, h1, h2, n, h3⟩ := ht; exact ⟨o, h1, h2, n, h3⟩) (ints_of_vals rv) (by show ns.length + 1 < 4096; omega) fun h' tk c R hle kp => ?_
  have hn : H s.heap.objs.size = none := I.hok.fresh (Nat.le_refl _)
  have h64 : c < 64 := by
    obtain ⟨o, es, ep, t, _, _, _, _, nd, hm, _, _, hsz, _⟩ := id R
    have := hf (es.toList.map L2.keyOf) nd fun k hk => by
      have := (hm k).mpr hk
      simpa using this
    rw [List.length_map, Array.length_toList] at this
    omega
  exact ⟨.ref _, _, I.laid (t' := tk) kp (Nat.le_refl _) (setO_new R), rfl, q _ c hn h64⟩
def wSortSetF {K : PySem.W.Frag} {M : Amb K} (w : WE M) : WE M := fun E Q => w E fun r E1 => match r.c with
  | .tup xs => ∃ ns : List Int, xs = ns.map .int ∧ ns.length < 4000 ∧ (∀ L : List Int, L.Nodup → (∀ k ∈ L, k ∈ ns) → L.length < 64) ∧ ∀ ms : List Int, ms.Pairwise (· < ·) → (∀ k, k ∈ ms ↔ k ∈ ns) → Q (.nw (.l (ms.map .int))) E1
  | _ => False
theorem qe_sortSetF {e : Expr} {p p2 pos2 pos : Pos} {w : WE M} (hs : X.mg "sorted" = none) (ht : X.mg "set" = none) (he : QE X M e w) (hg : Gl X "sorted" := by rfl) (hg2 : Gl X "set" := by rfl) (hc : X.calm = true := by rfl)
    (na : starEach [e] X.env = (false, eval e X.env) :: starEach [] X.env := by rfl)
    (nb : starEach [.Call (.Name "set" p2) [e] [] pos2] X.env = (false, eval (.Call (.Name "set" p2) [e] [] pos2) X.env) :: starEach [] X.env := by rfl)
    (h1 : (backTo pos2 (starEach ([] : List Expr) X.env)).any (·.1) = false := by rfl) (h2 : (backTo pos (starEach ([] : List Expr) X.env)).any (·.1) = false := by rfl) :
    QE X M (.Call (.Name "sorted" p) [.Call (.Name "set" p2) [e] [] pos2] [] pos) (wSortSetF w) := by
  have e1 := pe_callTy (p := p2) (pos := pos2) (cr_setTF hc) hg2 ht (by decide +kernel) (pa_cons he.run pa_nil na) (by decide) (by decide) na h1
  refine ⟨pe_weak (pe_callB (cr_sortedSet hc) hg hs (by decide +kernel) (pa_cons e1 pa_nil nb) (by decide) (by decide) nb h2) fun σ H Q' ⟨Z, ρ, α, F, Q, R0, w, k⟩ => ?_⟩
  refine ⟨Z, ρ, α, F, _, R0, w, fun v r ρ1 α1 F1 H1 R1 s1 rv q => ?_⟩
  have c := rv.cv R1
  generalize r.c = d at c q
  cases d <;> first | exact q.elim | skip
  obtain ⟨ns, rfl, hl, hf, q⟩ := q
  obtain ⟨a, vs, rfl, ha, da⟩ := c.tup R1
  rw [da.intsV] at ha
  refine ⟨a, ns, rfl, R1.sub.t ha, hl, hf, fun p c hp hle => ?_⟩
  obtain ⟨r2, s2⟩ := R1.laid (o := SetO X.w p (fun j => decide (j ∈ ns)) c) hp
  refine ⟨p, _, c, rfl, upd_same, hle, fun ms p' pw hm hlen hp' => ?_⟩
  obtain ⟨r3, s3⟩ := r2.laid (o := .lst (ms.map V.int)) hp'
  exact k _ _ ρ1 α1 F1 _ r3 ((s1.trans s2).trans s3) ((RV.list r2 hp' (DVs.ints ms)).back fun b hb => s2.sT b (s1.sT b hb)) (q ms pw fun j => (hm j).trans (by simp))
end
end DL
set_option maxHeartbeats 4000000
namespace DL
open PySem PySem.Spec L2
open PyProof.Rows hiding St
/-! ### y = xs.pop() -/
theorem DVs.unsnoc {K : PySem.W.Frag} {F : Hp} {y : D} : ∀ {ys : List D} {vs : List V}, DVs K F vs (ys ++ [y]) → ∃ us v, vs = us ++ [v] ∧ DVs K F us ys ∧ DV K F v y
  | [], _, h => by
    cases h with
    | cons a t =>
      cases t
      exact ⟨[], _, rfl, .nil, a⟩
  | d :: ys, _, h => by
    cases h with
    | cons a t =>
      obtain ⟨us, v, rfl, h1, h2⟩ := DVs.unsnoc t
      exact ⟨_ :: us, v, rfl, .cons a h1, h2⟩
section
variable {X : Cx} {M : Amb X.K}
def wPopS {K : PySem.W.Frag} {M : Amb K} (i j : Nat) : WS M := fun D E => asL E.1[i]? fun xs => ∃ ys y, xs = ys ++ [y] ∧ D.nx ((E.1.set i (some (.l ys))).set j (some (.d y)), E.2)
theorem qs_pop {i j : Nat} {x y : Str} {p py apos cpos pos : Pos} (hN : X.N.Nodup) (hx : PE X (.Name x p) (tVar i)) (hj : X.N[j]? = some y := by rfl) (hy : Loc X.env.scope y := by first | exact .inl rfl | exact .inr rfl) (hbase : attributeBase (.Name x p) "pop" X.env (eval (.Name x p) X.env) = eval (.Name x p) X.env := by rfl) (hline : (apos.endLine == cpos.line) = true := by rfl)
    (hs : swapsWith (.Call (.Attribute (.Name x p) "pop" apos) [] [] cpos) (some (.Name y py)) pos.line X.env = pure false := by rfl) (hf : X.fn y = true ∨ X.env.scope.names.lookup y = some .local := by first | exact .inl rfl | exact .inr rfl) :
    QS X M (.Assign [.Name y py] (.Call (.Attribute (.Name x p) "pop" apos) [] [] cpos) pos) (wPopS i j) := by
  refine ⟨ps_weak (ps_set hN hj hy (pe_bm0 PySem.F.plainAttrs_list PySem.F.slot_list_pop PySem.F.type_list_pop mt_pop hx hbase hline) hs hf) fun D' σ H ⟨Z, ρ, α, F, D, R0, w, k1, k2, k3, k4⟩ => ?_⟩
  obtain ⟨xs, e0, ys, z, rfl, q⟩ := asL_ok w
  obtain ⟨a, o, q1, q2, q3, _⟩ := R0.own i _ e0 rfl
  obtain ⟨us0, rfl⟩ : ∃ us, o = .lst us := by
    cases o <;> first | exact ⟨_, rfl⟩ | exact q3.elim
  have q3 : DVs X.K F us0 (ys ++ [z]) := q3
  obtain ⟨us, v, rfl, d1, d2⟩ := q3.unsnoc
  have R1 := R0.write e0 rfl q1 (o := .lst (us ++ [v]).dropLast) (b' := .l ys) (by rw [List.dropLast_concat]; exact d1)
  have R2 := R1.putD j d2
  exact ⟨.ref a, q1, .inl ⟨rfl, us ++ [v], SqL.of q2⟩, a, us ++ [v], v, rfl, rfl, q2, by simp, k1 _ α F _ _ R2 q⟩
end
end DL
set_option maxHeartbeats 4000000
namespace DL
open PySem PySem.Spec L2
open PyProof.Rows hiding St
/-! ### a def that is read where nobody shares anything is worth as much among others -/
def liftC {K : PySem.W.Frag} {M : Amb K} (C : Ct (noAmb K)) : Ct M := fun ds α Q => C ds () fun r _ => Q r α
theorem RV.lift {K : PySem.W.Frag} {M : Amb K} {H0 H' F' : Hp} {α : M.S} {r : R} {v : V} (h : RV (noAmb K) H0 [] () F' [] H' r v) (nf : ∀ a, H0 a = none → ¬ M.fp α a) : RV M H0 [] α F' [] H' r v := by
  cases r with
  | fr d => exact h
  | al i b => exact h
  | nw b =>
    obtain ⟨a, o, h1, h2, h3, h4, _, h6⟩ := h
    exact ⟨a, o, h1, h2, h3, h4, nf a h6, h6⟩
  | nt p b c =>
    obtain ⟨e, a1, a2, h1, h2, ⟨o1, g1, g2, g3, _, g5⟩, ⟨o2, f1, f2, f3, _, f5⟩⟩ := h
    exact ⟨e, a1, a2, h1, h2, ⟨o1, g1, g2, g3, nf a1 g5, g5⟩, ⟨o2, f1, f2, f3, nf a2 f5, f5⟩⟩
theorem After.lift {K : PySem.W.Frag} {M : Amb K} {F H F' H' : Hp} {α : M.S} (A : After (noAmb K) () F H () F' H') (a : M.ok α F H) (n : ∀ b, M.fp α b → F b = none) : After M α F H α F' H' := by
  have keep : ∀ b o, H b = some o → H' b = some o := fun b o e => A.h b o e fun z => z
  refine ⟨A.f, A.s, fun b o e _ => keep b o e, A.t, fun _ h => .inl h, A.z, M.stay _ _ _ _ _ a A.f fun b o _ e => keep b o e, fun b hb => ?_⟩
  rcases none_or F' b with q | q
  · exact q
  · rcases A.z b q with z | z
    · exact absurd (n b hb) z
    · rcases z with z | ⟨vs, z⟩
      · exact absurd z (M.live _ _ _ _ a hb)
      · obtain ⟨o, e⟩ := somehow (M.live _ _ _ _ a hb)
        have h1 := keep _ _ e
        rw [A.s _ _ z] at h1
        cases h1
        exact absurd e (M.nt _ _ _ _ _ a hb)
theorem Ok.any {P : Program} {w : World} {K : PySem.W.Frag} {mg : Str → Option Value} {base : Heap} {M : Amb K} {x : Str} {k n : Nat} {C : Ct (noAmb K)} (o : Ok P w K mg base (noAmb K) x k n C) : Ok P w K mg base M x k n (liftC C) := by
  obtain ⟨f, fd, ps, h1, h2, h3, h4, G⟩ := o
  refine ⟨f, fd, ps, h1, h2, h3, h4, fun vs H Q E h => ?_, fun A outer s H args us vs Q E hr hg e0 hb r h => ?_⟩
  · rw [h4]; exact h.1
  · obtain ⟨hl, F, ds, α, Qd, s1, dv, a, nn, hC, kq⟩ := h
    refine G.run A outer s H args us vs Q E hr hg e0 hb r ⟨hl, F, ds, (), _, s1, dv, trivial, fun _ z => z.elim, hC, fun v r' α' F' H' A' rv q => ?_⟩
    exact kq v r' α F' H' (A'.lift a nn) (rv.lift fun b hb z => M.live _ _ _ _ a z hb) q
end DL
set_option maxHeartbeats 4000000
namespace DL
open PySem PySem.Spec L2
open PyProof.Rows hiding St
/-! ### a dict that a name holds is gone through: it is locked while the expression runs, and stands as before behind it -/
mutual
/-- no dict within -/
def noD : D → Bool
  | .lst xs => noDs xs
  | .tup xs => noDs xs
  | .dct _ => false
  | .dcT _ => false
  | _ => true
def noDs : List D → Bool
  | [] => true
  | x :: xs => noD x && noDs xs
end
def off (F : Hp) (a : Addr) : Hp := fun b => if b = a then none else F b
theorem off_ne {F : Hp} {a b : Addr} {u : HO} (h : F b = some u) (n : b ≠ a) : off F a b = some u := by unfold off; rw [if_neg n]; exact h
section
variable {K : PySem.W.Frag} {F : Hp} {a : Addr} {kvs : List (Key × V)}
theorem off_rd (h : F a = some (.dK kvs)) {b : Addr} {u : HO} (hu : ∀ k, u ≠ .dK k) (r : Rd F b u) : Rd (off F a) b u := by
  rcases r with r | ⟨o, r⟩
  · exact .inl (off_ne r fun e => by rw [e, h] at r; exact hu _ (Option.some.inj r).symm)
  · exact .inr ⟨o, off_ne r fun e => by rw [e, h] at r; cases r⟩
mutual
theorem off_dv (h : F a = some (.dK kvs)) : ∀ (d : D) {v : V}, DV K F v d → noD d = true → DV K (off F a) v d
  | .non, _, e, _ => by cases e; exact .non
  | .bl b, _, e, _ => by cases e; exact .bl _
  | .int i, _, e, _ => by cases e; exact .int _
  | .str x, _, e, _ => by cases e; exact .str _
  | .lst xs, _, e, n => by
    cases e with
    | lst e t => exact .lst (off_ne e fun z => by rw [z, h] at e; cases e) (off_dvs h xs t n)
  | .tup xs, _, e, n => by
    cases e with
    | tup e t => exact .tup (off_ne e fun z => by rw [z, h] at e; cases e) (off_dvs h xs t n)
  | .dct _, _, _, n => by cases n
  | .dcT _, _, _, n => by cases n
  | .obj a, _, e, _ => by cases e; exact .obj _
  | .seq ns, _, e, _ => by
    cases e with
    | seq e => exact .seq (e.elim (fun r => .inl (off_rd h nofun r)) .inr)
theorem off_dvs (h : F a = some (.dK kvs)) : ∀ (ds : List D) {vs : List V}, DVs K F vs ds → noDs ds = true → DVs K (off F a) vs ds
  | [], _, e, _ => by cases e; exact .nil
  | d :: ds, _, e, n => by
    cases e with
    | cons e t =>
      obtain ⟨n1, n2⟩ := Bool.and_eq_true_iff.mp (show (noD d && noDs ds) = true from n)
      exact .cons (off_dv h d e n1) (off_dvs h ds t n2)
end
theorem DKs.off (h : F a = some (.dK kvs)) : ∀ {us : List (Key × V)} {ps : List (D × D)}, DKs K F us ps → (∀ p ∈ ps, noD p.2 = true) → DKs K (DL.off F a) us ps
  | _, _, .nil, _ => .nil
  | _, _, .cons e t, n => .cons (off_dv h _ e (n _ (List.mem_cons_self ..))) (DKs.off h t fun p hp => n p (List.mem_cons_of_mem _ hp))
end
def lckAmb (K : PySem.W.Frag) (a : Addr) (od : Obj) (kvs : List (Key × V)) (ps : List (D × D)) : Amb K where
  S := Unit
  ok _ F _ := F a = some (.frz od (.dK kvs)) ∧ DKs K F kvs ps
  fp _ _ := False
  stay _ F H F' H' h s _ := ⟨s _ _ h.1, h.2.mono s⟩
  live _ _ _ _ _ h := h.elim
  nt _ _ _ _ _ _ h := h.elim
/-- the slots while the dict of slot i is locked: it is only an address; what holds no dict stays -/
def lckE (i : Nat) (a : Addr) (ρ : List (Option B)) : List (Option B) := (ρ.map fun x => match x with
  | some (.d d) => if noD d = true then some (.d d) else none
  | _ => none).set i (some (.d (.obj a)))
theorem lckE_at {i j : Nat} {a : Addr} {ρ : List (Option B)} {b : B} (h : (lckE i a ρ)[j]? = some (some b)) : (j = i ∧ b = .d (.obj a)) ∨ ∃ d, b = .d d ∧ noD d = true ∧ ρ[j]? = some (some (.d d)) := by
  rcases set_get h with ⟨e, q⟩ | ⟨_, q⟩
  · cases q
    exact .inl ⟨e, rfl⟩
  · rw [List.getElem?_map] at q
    cases e : ρ[j]? with
    | none => rw [e] at q; cases q
    | some x =>
      rw [e] at q
      have q := Option.some.inj q
      match x, q with
      | some (.d d), q =>
        by_cases hd : noD d = true
        · have q : (if noD d = true then some (B.d d) else none) = some b := q
          rw [if_pos hd] at q
          cases q
          exact .inr ⟨d, rfl, hd, rfl⟩
        · have q : (if noD d = true then some (B.d d) else none) = some b := q
          rw [if_neg hd] at q
          cases q
section
variable {X : Cx} {M : Amb X.K}
/-- e, with the dict of slot i locked; it comes to something flat -/
def wLock {K : PySem.W.Frag} {M : Amb K} (i : Nat) (we : (a : Addr) → (od : Obj) → (kvs : List (Key × V)) → (ps : List (D × D)) → WE (lckAmb K a od kvs ps)) : WE M := fun E Q => ∃ ps, E.1[i]? = some (some (.d (.dct ps))) ∧ (∀ p ∈ ps, noD p.2 = true) ∧
  ∀ a od kvs, we a od kvs ps (lckE i a E.1, ()) fun r _ => ∃ d, r = .fr d ∧ d.flat = true ∧ Q (.fr d) E
theorem qe_lock {i : Nat} {e : Expr} {we : (a : Addr) → (od : Obj) → (kvs : List (Key × V)) → (ps : List (D × D)) → WE (lckAmb X.K a od kvs ps)} (h : ∀ a od kvs ps, QE X (lckAmb X.K a od kvs ps) e (we a od kvs ps)) : QE X M e (wLock i we) := by
  have he : PE X e (fun σ H Q => ∃ a od kvs ps, tW (lckAmb X.K a od kvs ps) (we a od kvs ps) σ H Q) := ⟨fun pins s σ H Q I ⟨a, od, kvs, ps, q⟩ => (h a od kvs ps).run.run pins s σ H Q I q⟩
  refine ⟨pe_weak (pe_lock he) fun σ H Q' ⟨Z, ρ, α, F, Q, R0, w, k⟩ => ?_⟩
  obtain ⟨ps, e1, cl, w⟩ := w
  obtain ⟨v, hv, dv⟩ := R0.val i _ e1
  cases dv with
  | dK hF hk =>
  rename_i a kvs
  have hH := R0.sub _ _ hF
  refine ⟨a, .dK kvs, hH, trivial, fun od => ?_⟩
  have s1 : Sub (off F a) (upd F a (.frz od (.dK kvs))) := fun b o q => by
    unfold off at q
    split at q
    · cases q
    · rename_i n
      rw [upd_ne n]
      exact q
  have R1 : Rel (lckAmb X.K a od kvs ps) ⟨upd F a (.frz od (.dK kvs)), upd H a (.frz od (.dK kvs)), ()⟩ (lckE i a ρ) () (upd F a (.frz od (.dK kvs))) σ (upd H a (.frz od (.dK kvs))) := by
    refine ⟨fun b o q => ?_, ?_, fun j d q => ?_, fun j b q ow => ?_, fun j l b b' c q ow => ?_, ⟨upd_same, (hk.off hF cl).mono s1⟩, fun _ z => z.elim, Sub.refl _, fun _ _ z _ => z, fun _ z => z.elim, fun _ z => z, fun _ z => .inl z⟩
    · by_cases n : b = a
      · subst n
        rw [upd_same] at q ⊢
        exact q
      · rw [upd_ne n] at q ⊢
        exact R0.sub b o q
    · unfold lckE
      rw [List.length_set, List.length_map]
      exact R0.len
    · rcases lckE_at q with ⟨ej, q2⟩ | ⟨d', q2, hn, q'⟩
      · cases q2
        exact ⟨_, by rw [ej]; exact hv, .obj a⟩
      · cases q2
        obtain ⟨v, h1, h2⟩ := R0.val j _ q'
        exact ⟨v, h1, (off_dv hF _ h2 hn).mono s1⟩
    · rcases lckE_at q with ⟨_, rfl⟩ | ⟨d', rfl, _⟩ <;> cases ow
    · rcases lckE_at q with ⟨_, rfl⟩ | ⟨d', rfl, _⟩ <;> cases ow
  refine ⟨a, od, kvs, ps, _, _, (), _, _, R1, w a od kvs, fun v r ρ' α' F' H' R' s' rv q => ?_⟩
  obtain ⟨d, rfl, fl, q⟩ := q
  have ha := s'.sH a _ upd_same fun z => z
  refine ⟨ha, ?_⟩
  have sub : Sub H (upd H' a (.dK kvs)) := fun b o q => by
    by_cases n : b = a
    · subst n
      rw [hH] at q
      rw [upd_same]
      exact q
    · rw [upd_ne n]
      exact s'.sH b o (by rw [upd_ne n]; exact q) fun z => z
  obtain ⟨R2, s2⟩ := R0.grown sub
  have dv : DV X.K F v d := by
    have rv : DV X.K F' v d := rv
    cases d with
    | non => cases rv; exact .non
    | bl b => cases rv; exact .bl _
    | int i => cases rv; exact .int _
    | str x => cases rv; exact .str _
    | _ => cases fl
  exact k v (.fr d) ρ α F _ R2 s2 (RV.mk dv) q
/-- for k in d, for v in d.values(), d locked -/
def keysD (ps : List (D × D)) : List D := ps.map (·.1)
def valsD (ps : List (D × D)) : List D := ps.map (·.2)
def wKeysL {K : PySem.W.Frag} {a : Addr} {od : Obj} {kvs : List (Key × V)} {ps : List (D × D)} (i : Nat) : WI (lckAmb K a od kvs ps) := fun E Q => E.1[i]? = some (some (.d (.obj a))) ∧ Q (keysD ps) E
def wValsL {K : PySem.W.Frag} {a : Addr} {od : Obj} {kvs : List (Key × V)} {ps : List (D × D)} (i : Nat) : WI (lckAmb K a od kvs ps) := fun E Q => E.1[i]? = some (some (.d (.obj a))) ∧ Q (valsD ps) E
theorem lck_slot {a : Addr} {od : Obj} {kvs : List (Key × V)} {ps : List (D × D)} {Z : Base (lckAmb X.K a od kvs ps)} {ρ : List (Option B)} {α : (lckAmb X.K a od kvs ps).S} {F H : Hp} {σ : L2.St} {i : Nat} (R0 : Rel (lckAmb X.K a od kvs ps) Z ρ α F σ H) (e : ρ[i]? = some (some (.d (.obj a)))) : σ[i]? = some (some (.ref a)) := by
  obtain ⟨v, h1, h2⟩ := R0.val i _ e
  cases h2
  exact h1
theorem qi_keysL {tg : Expr} {i : Nat} {x : Str} {p : Pos} {a : Addr} {od : Obj} {kvs : List (Key × V)} {ps : List (D × D)} (hx : PE X (.Name x p) (tVar i)) : QI X (lckAmb X.K a od kvs ps) tg (.Name x p) (wKeysL i) := by
  refine ⟨pi_weak (pi_keys hx) fun σ H R' ⟨Z, ρ, α, F, Q, R0, ⟨e, w⟩, k⟩ => ?_⟩
  obtain ⟨hF, dk⟩ := R0.amb
  refine ⟨.ref a, lck_slot R0 e, a, od, rfl, .inl ⟨kvs, R0.sub _ _ hF, k _ _ ρ α F H R0 .refl ?_ w⟩⟩
  intro H2 s
  have e2 := s _ _ hF
  have hl : (keysD ps).length = kvs.length := by rw [dk.length]; unfold keysD; simp
  refine ⟨fun j hj => ⟨e2, by omega⟩, ⟨e2, by omega⟩, fun j x d H' Z ρ α F2 σ R0 sf y hd => ?_⟩
  obtain ⟨rfl, key, v, hkv, rfl⟩ := y
  obtain ⟨d', hd', dv'⟩ := dk.get hkv
  refine ⟨F2, R0, .refl, ?_⟩
  unfold keysD at hd
  rw [List.getElem?_map, hd'] at hd
  cases hd
  exact kV_dv key
theorem qi_valsL {tg : Expr} {i : Nat} {x : Str} {p apos cpos : Pos} {a : Addr} {od : Obj} {kvs : List (Key × V)} {ps : List (D × D)} (hx : PE X (.Name x p) (tVar i)) (hbase : attributeBase (.Name x p) "values" X.env (eval (.Name x p) X.env) = eval (.Name x p) X.env := by rfl) (hline : (apos.endLine == cpos.line) = true := by rfl) :
    QI X (lckAmb X.K a od kvs ps) tg (.Call (.Attribute (.Name x p) "values" apos) [] [] cpos) (wValsL i) := by
  refine ⟨pi_weak (pi_values hx hbase hline) fun σ H R' ⟨Z, ρ, α, F, Q, R0, ⟨e, w⟩, k⟩ => ?_⟩
  obtain ⟨hF, dk⟩ := R0.amb
  refine ⟨.ref a, lck_slot R0 e, a, od, kvs, rfl, R0.sub _ _ hF, k _ _ ρ α F H R0 .refl ?_ w⟩
  intro H2 s
  have e2 := s _ _ hF
  have hl : (valsD ps).length = kvs.length := by rw [dk.length]; unfold valsD; simp
  refine ⟨fun j hj => ⟨e2, by omega⟩, ⟨e2, by omega⟩, fun j x d H' Z ρ α F2 σ R0 sf y hd => ?_⟩
  obtain ⟨rfl, key, hkv⟩ := y
  obtain ⟨d', hd', dv'⟩ := dk.get hkv
  refine ⟨F2, R0, .refl, ?_⟩
  unfold valsD at hd
  rw [List.getElem?_map, hd'] at hd
  cases hd
  exact dv'.mono sf
end
end DL
set_option maxHeartbeats 4000000
namespace DL
open PySem PySem.Spec L2
open PyProof.Rows hiding St
/-! ### x is True, x is not True, x a truth -/
section
variable {X : Cx} {M : Amb X.K}
theorem op_isntB : OpR X (compareOp .IsNot) (fun x y H Q => ∃ m n : Bool, x = .bl m ∧ y = .bl n ∧ Q (.bl (!decide (m = n))) H) := by
  intro pins s σ H x y v u Q I rx ry h
  obtain ⟨m, n, rfl, rfl, q⟩ := h
  cases (show v = Value.bool m from rx)
  cases (show u = Value.bool n from ry)
  by_cases e : m = n
  · subst e
    exact wpAny_isNot_self rfl ⟨.bl false, H, I, rfl, by simpa using q⟩
  · exact wpAny_isNot_other rfl (fun z => e (Value.bool.inj z)) ⟨.bl true, H, I, rfl, by simpa [e] using q⟩
def gIsntB : D → D → (R → Prop) → Prop
  | .bl a, .bl b, Q => Q (.fr (.bl (!decide (a = b))))
  | _, _, _ => False
theorem o_isntB : O2 X M (compareOp .IsNot) gIsntB := by
  refine ⟨_, op_isntB, ?_⟩
  intro Z ρ α F σ H x y dx dy Q P R0 c1 c2 q k
  cases dx <;> cases dy <;> first | exact q.elim | skip
  exact ⟨_, _, c1.bl, c2.bl, k _ _ F H R0 .refl (RV.mk (.bl _)) q⟩
end
end DL
set_option maxHeartbeats 4000000
namespace DL
open PySem PySem.Spec L2
open PyProof.Rows hiding St
/-! ### x in a list or tuple of any plain data -/
section
variable {X : Cx} {M : Amb X.K}
def rInE (K : PySem.W.Frag) (neg : Bool) : R2 := fun x y H Q => ∃ d e xs, Dp K H x d ∧ Dp K H y e ∧ (e = .list xs ∨ e = .tuple xs) ∧ SeqAt.shaped d = true ∧ SeqAt.shaped e = true ∧ Q (.bl (if neg then !(xs.any fun z => PyData.eqv z d) else xs.any fun z => PyData.eqv z d)) H
theorem inE_room {e d : PyData} {xs : List PyData} {n : Nat} (h : e = .list xs ∨ e = .tuple xs) (s : SeqAt.shaped e = true) (hu : n + 64 < cLine) : PyData.canLayAll0 xs = true ∧ n + 1 + min (PyData.depthAll xs) d.depth < cLine := by
  have h1 := SeqAt.canLay_of_shaped s
  have h2 := SeqAt.depth_of_shaped s
  have h3 : min (PyData.depthAll xs) d.depth ≤ PyData.depthAll xs := Nat.min_le_left _ _
  rcases h with rfl | rfl
  · have h2 : PyData.depthAll xs + 1 ≤ 64 := h2
    exact ⟨by simpa [PyData.canLay0] using h1, by omega⟩
  · have h2 : PyData.depthAll xs + 1 ≤ 64 := h2
    exact ⟨by simpa [PyData.canLay0] using h1, by omega⟩
theorem op_inE (hu : X.A.units + 64 < cLine) : OpR X (compareOp .In) (rInE X.K false) := by
  intro pins s σ H x y v u Q I rx ry h
  obtain ⟨d, e, xs, hd, he, hx, sd, se, q⟩ := h
  obtain ⟨as, r1⟩ := Dp.reads I d x v hd rx
  obtain ⟨bs, r2⟩ := Dp.reads I e y u he ry
  obtain ⟨c1, c2⟩ := inE_room (d := d) hx se hu
  rcases hx with rfl | rfl
  · exact SeqAt.in_list_reads r2 r1 c1 (SeqAt.canLay_of_shaped sd) c2 ⟨.bl _, H, I, rfl, q⟩
  · exact SeqAt.in_tuple_reads r2 r1 c1 (SeqAt.canLay_of_shaped sd) c2 ⟨.bl _, H, I, rfl, q⟩
theorem op_ninE (hu : X.A.units + 64 < cLine) : OpR X (compareOp .NotIn) (rInE X.K true) := by
  intro pins s σ H x y v u Q I rx ry h
  obtain ⟨d, e, xs, hd, he, hx, sd, se, q⟩ := h
  obtain ⟨as, r1⟩ := Dp.reads I d x v hd rx
  obtain ⟨bs, r2⟩ := Dp.reads I e y u he ry
  obtain ⟨c1, c2⟩ := inE_room (d := d) hx se hu
  rcases hx with rfl | rfl
  · exact SeqAt.notIn_list_reads r2 r1 c1 (SeqAt.canLay_of_shaped sd) c2 ⟨.bl _, H, I, rfl, q⟩
  · exact SeqAt.notIn_tuple_reads r2 r1 c1 (SeqAt.canLay_of_shaped sd) c2 ⟨.bl _, H, I, rfl, q⟩
def gInE (neg : Bool) : D → D → (R → Prop) → Prop := fun x y Q => ∃ ds, y.items = some ds ∧ x.okE = true ∧ y.okE = true ∧ Q (.fr (.bl (if neg then !ds.any (fun y => y.eqv x) else ds.any fun y => y.eqv x)))
theorem pys_is : ∀ ds : List D, D.pys ds = ds.map D.py
  | [] => rfl
  | x :: xs => by rw [List.map_cons, ← pys_is xs]; rfl
theorem py_items {y : D} {ds : List D} (h : y.items = some ds) : y.py = .list (ds.map D.py) ∨ y.py = .tuple (ds.map D.py) := by
  cases y <;> first | (cases h; done) | skip
  · cases h; exact .inl (by rw [← pys_is]; rfl)
  · cases h; exact .inr (by rw [← pys_is]; rfl)
theorem lift_inE (neg : Bool) : Lift2 M (rInE X.K neg) (gInE neg) := by
  intro Z ρ α F σ H x y dx dy Q P R0 c1 c2 q k
  obtain ⟨ds, e, h1, h2, q⟩ := q
  obtain ⟨p1, s1⟩ := Bool.and_eq_true_iff.mp h1
  obtain ⟨p2, s2⟩ := Bool.and_eq_true_iff.mp h2
  refine ⟨_, _, ds.map D.py, (c1.dv R0).dp p1, (c2.dv R0).dp p2, py_items e, s1, s2, k _ _ F H R0 .refl (RV.mk (.bl _)) ?_⟩
  rw [List.any_map]
  exact q
theorem o_inE (hu : X.A.units + 64 < cLine) : O2 X M (compareOp .In) (gInE false) := ⟨_, op_inE hu, lift_inE false⟩
theorem o_ninE (hu : X.A.units + 64 < cLine) : O2 X M (compareOp .NotIn) (gInE true) := ⟨_, op_ninE hu, lift_inE true⟩
end
end DL
set_option maxHeartbeats 4000000
namespace DL
open PySem PySem.Spec L2
open PyProof.Rows hiding St
/-! ### dicts whose keys are tuples of ints and texts -/
abbrev tkD (k : List Key) : D := .tup (k.map keyD)
def keysOf : List D → Option (List Key)
  | [] => some []
  | d :: ds => match keyOf d, keysOf ds with
    | some k, some ks => some (k :: ks)
    | _, _ => none
theorem keysOf_is : ∀ {ds : List D} {k : List Key}, keysOf ds = some k → ds = k.map keyD
  | [], k, h => by cases h; rfl
  | d :: ds, k, h => by
    unfold keysOf at h
    cases e : keyOf d with
    | none => rw [e] at h; cases h
    | some a =>
      cases e2 : keysOf ds with
      | none => rw [e, e2] at h; cases h
      | some ks =>
        rw [e, e2] at h
        cases h
        rw [keysOf_is e2]
        cases d <;> first | (cases e; done) | skip
        · cases e; rfl
        · cases e; rfl
theorem keysOf_of : ∀ k : List Key, keysOf (k.map keyD) = some k
  | [] => rfl
  | a :: k => by
    rw [List.map_cons]
    unfold keysOf
    rw [keyOf_keyD, keysOf_of k]
def tkeyOf : D → Option (List Key)
  | .tup ds => keysOf ds
  | _ => none
theorem tkey_tk (k : List Key) : tkeyOf (.tup (k.map keyD)) = some k := keysOf_of k
theorem tkey_is {d : D} {k : List Key} (h : tkeyOf d = some k) : d = tkD k := by
  cases d <;> first | (cases h; done) | skip
  rename_i ds
  have := keysOf_is (ds := ds) h
  rw [this]
theorem dvs_keys {K : PySem.W.Frag} {F : Hp} : ∀ (k : List Key) {vs : List V}, DVs K F vs (k.map keyD) → vs = k.map kV
  | [], _, h => by cases h; rfl
  | a :: k, _, h => by
    cases h with
    | cons h t =>
      rw [dvs_keys k t, List.map_cons]
      cases a with
      | inl i => cases h; rfl
      | inr x => cases h; rfl
def lookT (ps : List (D × D)) (k : List Key) : Option D := (ps.find? fun p => decide (tkeyOf p.1 = some k)).map (·.2)
def putT (ps : List (D × D)) (k : List Key) (d : D) : List (D × D) := if (ps.any fun p => decide (tkeyOf p.1 = some k)) = true then ps.map (fun p => if tkeyOf p.1 = some k then (p.1, d) else p) else ps ++ [(tkD k, d)]
theorem lookT_cons {k' k : List Key} {d : D} {ps : List (D × D)} : lookT ((DL.D.tup (k'.map keyD), d) :: ps) k = if k' = k then some d else lookT ps k := by
  unfold lookT
  rw [List.find?_cons, tkey_tk]
  by_cases h : k' = k
  · rw [if_pos h, h, decide_eq_true rfl]
    rfl
  · rw [if_neg h, decide_eq_false (fun e => h (Option.some.inj e))]
section
variable {K : PySem.W.Frag} {F : Hp}
theorem DTs.look {k : List Key} : ∀ {kvs : List (List Key × V)} {ps : List (D × D)}, DTs K F kvs ps → match lookT ps k with
    | none => valV kvs k = none
    | some d => ∃ v, valV kvs k = some v ∧ DV K F v d
  | _, _, .nil => rfl
  | _, _, .cons (k := k') (v := v) (d := d) h t => by
    have ih := DTs.look (k := k) t
    rw [lookT_cons]
    by_cases e : k' = k
    · rw [if_pos e]
      exact ⟨v, valV_pos e, h⟩
    · rw [if_neg e]
      rw [valV_neg e]
      exact ih
theorem DTs.any {k : List Key} : ∀ {kvs : List (List Key × V)} {ps : List (D × D)}, DTs K F kvs ps → (ps.any fun p => decide (tkeyOf p.1 = some k)) = (kvs.any fun kv => decide (kv.1 = k))
  | _, _, .nil => rfl
  | _, _, .cons (k := k') h t => by
    rw [List.any_cons, List.any_cons, DTs.any t]
    have e : decide (tkeyOf (DL.D.tup (k'.map keyD)) = some k) = decide (k' = k) := by
      rw [tkey_tk, decide_eq_decide]
      exact ⟨fun e => Option.some.inj e, fun e => by rw [e]⟩
    rw [e]
theorem DTs.setAll {k : List Key} {v : V} {d : D} (hv : DV K F v d) : ∀ {kvs : List (List Key × V)} {ps : List (D × D)}, DTs K F kvs ps → DTs K F (kvs.map (fun kv => if kv.1 = k then (kv.1, v) else kv)) (ps.map fun p => if tkeyOf p.1 = some k then (p.1, d) else p)
  | _, _, .nil => .nil
  | _, _, .cons (k := k') (v := u) (d := e) h t => by
    rw [List.map_cons, List.map_cons]
    have ih := DTs.setAll (k := k) hv t
    by_cases c : k' = k
    · rw [if_pos (show (k', u).1 = k from c), if_pos (show tkeyOf (DL.D.tup (k'.map keyD), e).1 = some k by rw [c]; exact tkey_tk k)]
      exact .cons hv ih
    · rw [if_neg (show ¬ (k', u).1 = k from c), if_neg (show ¬ tkeyOf (DL.D.tup (k'.map keyD), e).1 = some k by rw [tkey_tk]; exact fun z => c (Option.some.inj z))]
      exact .cons h ih
theorem DTs.append : ∀ {kvs ks2 : List (List Key × V)} {ps ps2 : List (D × D)}, DTs K F kvs ps → DTs K F ks2 ps2 → DTs K F (kvs ++ ks2) (ps ++ ps2)
  | _, _, _, _, .nil, t => t
  | _, _, _, _, .cons h r, t => .cons h (DTs.append r t)
theorem DTs.put {k : List Key} {v : V} {d : D} (hv : DV K F v d) {kvs : List (List Key × V)} {ps : List (D × D)} (h : DTs K F kvs ps) : DTs K F (putK kvs k v) (putT ps k d) := by
  unfold putK putT
  rw [h.any]
  split
  · exact DTs.setAll hv h
  · exact h.append (.cons hv .nil)
theorem DTs.length : ∀ {kvs : List (List Key × V)} {ps : List (D × D)}, DTs K F kvs ps → kvs.length = ps.length
  | _, _, .nil => rfl
  | _, _, .cons _ t => congrArg (· + 1) (DTs.length t)
theorem DTs.keys : ∀ {kvs : List (List Key × V)} {ps : List (D × D)}, DTs K F kvs ps → ps.map (·.1) = (kvs.map (·.1)).map tkD
  | _, _, .nil => rfl
  | _, _, .cons (k := k) (d := d) _ t => by rw [List.map_cons, List.map_cons, List.map_cons, DTs.keys t]
end
section
variable {X : Cx} {M : Amb X.K}
theorem CV.dcT {Z : Base M} {ρ : List (Option B)} {α : M.S} {F H : Hp} {σ : L2.St} {v : V} {ps : List (D × D)} (R0 : Rel M Z ρ α F σ H) (h : CV M α F H v (.dcT ps)) : ∃ a kvs, v = .ref a ∧ H a = some (.dT kvs) ∧ DTs X.K F kvs ps := by
  rcases h with h | ⟨a, o, b, rfl, ho, ok, _, e⟩
  · cases h with
    | dT h t => exact ⟨_, _, rfl, R0.sub _ _ h, t⟩
  · cases o <;> cases b <;> first | exact ok.elim | (cases e; done) | skip
    cases e
    exact ⟨a, _, rfl, ho, ok⟩
theorem CV.tkey {Z : Base M} {ρ : List (Option B)} {α : M.S} {F H : Hp} {σ : L2.St} {v : V} {d : D} {k : List Key} (R0 : Rel M Z ρ α F σ H) (h : CV M α F H v d) (e : tkeyOf d = some k) : ∃ b, v = .ref b ∧ F b = some (.tup (k.map kV)) ∧ H b = some (.tup (k.map kV)) := by
  rw [tkey_is e] at h
  obtain ⟨a, vs, h1, h2, h3⟩ := CV.tupS R0 h
  rw [dvs_keys k h3] at h2
  exact ⟨a, h1, h2, R0.sub _ _ h2⟩
/-- d[k], there -/
def gDGetT : D → D → (R → Prop) → Prop
  | .dcT ps, y, Q => ∃ k d, tkeyOf y = some k ∧ lookT ps k = some d ∧ Q (.fr d)
  | _, _, _ => False
theorem qe_dgetT {o i : Expr} {pos : Pos} {wo wi : WE M} (hu : X.A.units + 64 < cLine) (ho : QE X M o wo) (hi : QE X M i wi) (hs : NoSl i := by exact fun _ _ => rfl) : QE X M (.Subscript o i pos) (wOp gDGetT wo wi) := by
  refine ⟨pe_weak (pe_dget (by omega) ho.run hi.run hs) fun σ H Q' ⟨Z, ρ, α, F, Q, R0, w, k⟩ => ?_⟩
  refine two R0 w fun x y ra rb ρ2 α2 F2 H2 R2 s2 c1 c2 q => ?_
  generalize ra.c = d1 at c1 q
  cases d1 <;> first | exact q.elim | skip
  rename_i ps
  obtain ⟨ky, d, e1, e2, q⟩ := q
  obtain ⟨a, kvs, rfl, ha, da⟩ := c1.dcT R2
  have := da.look (k := ky)
  rw [e2] at this
  obtain ⟨v, hv, dv⟩ := this
  obtain ⟨b, rfl, _, hb⟩ := c2.tkey R2 e1
  refine ⟨a, v, rfl, ?_, k _ _ ρ2 α2 F2 H2 R2 s2 (RV.mk dv) q⟩
  rw [← hv]
  exact DGet.t ha hb
/-- k in d, k not in d -/
def gDInT (neg : Bool) : D → D → (R → Prop) → Prop := fun y x Q => match x with
  | .dcT ps => ∃ k, tkeyOf y = some k ∧ Q (.fr (.bl (if neg then !(lookT ps k).isSome else (lookT ps k).isSome)))
  | _ => False
theorem dinT_run {Z : Base M} {ρ : List (Option B)} {α : M.S} {F H : Hp} {σ : L2.St} {x y : V} {dx dy : D} {neg : Bool} {Q : R → Prop} (R2 : Rel M Z ρ α F σ H) (c1 : CV M α F H y dy) (c2 : CV M α F H x dx) (q : gDInT neg dy dx Q) :
    ∃ a o, x = .ref a ∧ DGet H a y o ∧ Q (.fr (.bl (if neg then !o.isSome else o.isSome))) := by
  cases dx <;> first | exact q.elim | skip
  rename_i ps
  obtain ⟨ky, e1, q⟩ := q
  obtain ⟨a, kvs, rfl, ha, da⟩ := c2.dcT R2
  have hl := da.look (k := ky)
  have e : (lookT ps ky).isSome = (valV kvs ky).isSome := by
    cases c : lookT ps ky with
    | none =>
      rw [c] at hl
      have hl : valV kvs ky = none := hl
      rw [hl]
      rfl
    | some d =>
      rw [c] at hl
      obtain ⟨v, hv, _⟩ := hl
      rw [hv]
      rfl
  rw [e] at q
  obtain ⟨b, rfl, _, hb⟩ := c1.tkey R2 e1
  exact ⟨a, _, rfl, DGet.t ha hb, q⟩
theorem qe_dinT {o i : Expr} {pos : Pos} {wo wi : WE M} (hu : X.A.units + 64 < cLine) (hi : QE X M i wi) (ho : QE X M o wo) (hb : behindInMarks .In o = false := by rfl) : QE X M (.Compare i [.In] [o] pos) (wOp (gDInT false) wi wo) := by
  refine ⟨pe_weak (L2.pe_cmp (pc_din (by omega) hi.run ho.run) hb) fun σ H Q' ⟨Z, ρ, α, F, Q, R0, w, k⟩ => ?_⟩
  refine two R0 w fun y x ra rb ρ2 α2 F2 H2 R2 s2 c1 c2 q => ?_
  obtain ⟨a, o, e, g, q⟩ := dinT_run R2 c1 c2 q
  exact ⟨a, o, e, g, k _ _ ρ2 α2 F2 H2 R2 s2 (RV.mk (.bl _)) q⟩
theorem qe_dninT {o i : Expr} {pos : Pos} {wo wi : WE M} (hu : X.A.units + 64 < cLine) (hi : QE X M i wi) (ho : QE X M o wo) (hb : behindInMarks .NotIn o = false := by rfl) : QE X M (.Compare i [.NotIn] [o] pos) (wOp (gDInT true) wi wo) := by
  refine ⟨pe_weak (L2.pe_cmp (pc_dnotin (by omega) hi.run ho.run) hb) fun σ H Q' ⟨Z, ρ, α, F, Q, R0, w, k⟩ => ?_⟩
  refine two R0 w fun y x ra rb ρ2 α2 F2 H2 R2 s2 c1 c2 q => ?_
  obtain ⟨a, o, e, g, q⟩ := dinT_run R2 c1 c2 q
  exact ⟨a, o, e, g, k _ _ ρ2 α2 F2 H2 R2 s2 (RV.mk (.bl _)) q⟩
theorem qt_dinT {o i : Expr} {pos : Pos} {wo wi : WE M} (hu : X.A.units + 64 < cLine) (hi : QE X M i wi) (ho : QE X M o wo) (hb : behindInMarks .In o = false := by rfl) : QT X M (.Compare i [.In] [o] pos) (wB (wOp (gDInT false) wi wo)) := by
  refine ⟨pt_weak (L2.pt_cmp (pc_din (by omega) hi.run ho.run) hb) fun σ H Q' ⟨Z, ρ, α, F, Q, R0, w, k⟩ => ?_⟩
  refine two R0 w fun y x ra rb ρ2 α2 F2 H2 R2 s2 c1 c2 q => ?_
  obtain ⟨a, o, e, g, q⟩ := dinT_run R2 c1 c2 q
  exact ⟨a, o, e, g, _, rfl, k _ ρ2 α2 F2 H2 R2 s2 q⟩
theorem qt_dninT {o i : Expr} {pos : Pos} {wo wi : WE M} (hu : X.A.units + 64 < cLine) (hi : QE X M i wi) (ho : QE X M o wo) (hb : behindInMarks .NotIn o = false := by rfl) : QT X M (.Compare i [.NotIn] [o] pos) (wB (wOp (gDInT true) wi wo)) := by
  refine ⟨pt_weak (L2.pt_cmp (pc_dnotin (by omega) hi.run ho.run) hb) fun σ H Q' ⟨Z, ρ, α, F, Q, R0, w, k⟩ => ?_⟩
  refine two R0 w fun y x ra rb ρ2 α2 F2 H2 R2 s2 c1 c2 q => ?_
  obtain ⟨a, o, e, g, q⟩ := dinT_run R2 c1 c2 q
  exact ⟨a, o, e, g, _, rfl, k _ ρ2 α2 F2 H2 R2 s2 q⟩
/-- d[k] = e, d the frame's own -/
def asMT (b : Option (Option B)) (Q : List (D × D) → Prop) : Prop := match b with
  | some (some (.mT ps)) => Q ps
  | _ => False
theorem asMT_ok {b : Option (Option B)} {Q : List (D × D) → Prop} (h : asMT b Q) : ∃ ps, b = some (some (.mT ps)) ∧ Q ps := by
  unfold asMT at h
  split at h
  · exact ⟨_, rfl, h⟩
  · exact h.elim
def wPutT {K : PySem.W.Frag} {M : Amb K} (i : Nat) (wk w : WE M) : WS M := fun D E => w E fun r E1 => fz r E1 fun d E2 => asMT E2.1[i]? fun _ => wk E2 fun rk E3 => asMT E3.1[i]? fun ps => ∃ k, tkeyOf rk.c = some k ∧ ps.length < sizeLine ∧ D.nx (E3.1.set i (some (.mT (putT ps k d))), E3.2)
theorem qs_putT {i : Nat} {x : Str} {p tpos pos : Pos} {ek e : Expr} {wk w : WE M} (hu : X.A.units + 64 < cLine) (hx : PE X (.Name x p) (tVar i)) (hk : QE X M ek wk) (he : QE X M e w) (hs : swapsWith e (some (.Subscript (.Name x p) ek tpos)) pos.line X.env = pure false := by rfl) :
    QS X M (.Assign [.Subscript (.Name x p) ek tpos] e pos) (wPutT i wk w) := by
  refine ⟨ps_weak (ps_dput (by omega) hx hk.run he.run hs) fun D' σ H ⟨Z, ρ, α, F, D, R0, w, k1, k2, k3, k4⟩ => ?_⟩
  refine ⟨Z, ρ, α, F, _, R0, w, fun v r ρ1 α1 F1 H1 R1 s1 rv q => ?_⟩
  obtain ⟨d, ρ2, F2, R2, s2, dv, q⟩ := fz_ok R0 s1 R1 rv q
  obtain ⟨ps0, e0, q⟩ := asMT_ok q
  obtain ⟨a, o, q1, q2, q3, _⟩ := R2.own i _ e0 rfl
  refine ⟨.ref a, q1, Z, ρ2, α1, F2, _, R2, q, fun vk rk ρ3 α3 F3 H3 R3 s3 rvk q => ?_⟩
  have c := rvk.cv R3
  obtain ⟨ps, e2, ky, hky, hz, q⟩ := asMT_ok q
  obtain ⟨a', o', g1, g2, g3, _⟩ := R3.own i _ e2 rfl
  rw [q1] at g1
  cases g1
  obtain ⟨kvs, rfl⟩ : ∃ kvs, o' = .dT kvs := by
    cases o' <;> first | exact ⟨_, rfl⟩ | exact g3.elim
  have g3 : DTs X.K F3 kvs ps := g3
  obtain ⟨b, rfl, _, hb⟩ := c.tkey R3 hky
  refine ⟨a, _, rfl, .inr ⟨kvs, ky, b, g2, rfl, hb, by rw [g3.length]; exact hz, rfl⟩, k1 _ α3 F3 σ _ (R3.write e2 rfl q1 (o := .dT (putK kvs ky v)) (b' := .mT (putT ps ky d)) ?_) q⟩
  exact g3.put (dv.mono s3.sF)
/-- d.get(k), d.get(k, x) -/
def isDcT (d : D) (Q : List (D × D) → Prop) : Prop := match d with
  | .dcT ps => Q ps
  | _ => False
theorem isDcT_ok {d : D} {Q : List (D × D) → Prop} (h : isDcT d Q) : ∃ ps, d = .dcT ps ∧ Q ps := by
  cases d <;> first | exact h.elim | exact ⟨_, rfl, h⟩
def wGet1T {K : PySem.W.Frag} {M : Amb K} (wo wi : WE M) : WE M := fun E Q => wo E fun ra E1 => isDcT ra.c fun ps => wi E1 fun rb E2 => ∃ k, tkeyOf rb.c = some k ∧ Q (.fr ((lookT ps k).getD .non)) E2
theorem getT_run {Z : Base M} {ρ : List (Option B)} {α : M.S} {F H : Hp} {σ : L2.St} {a : Addr} {y : V} {dy : D} {ps : List (D × D)} {k : List Key} (R2 : Rel M Z ρ α F σ H) (c1 : CV M α F H (.ref a) (.dcT ps)) (c2 : CV M α F H y dy) (e : tkeyOf dy = some k) :
    ∃ o, DGet H a y o ∧ ((lookT ps k = none ∧ o = none) ∨ ∃ d v, lookT ps k = some d ∧ o = some v ∧ DV X.K F v d) := by
  obtain ⟨a', kvs, ea, ha, da⟩ := c1.dcT R2
  cases ea
  have hl := da.look (k := k)
  obtain ⟨b, rfl, _, hb⟩ := c2.tkey R2 e
  refine ⟨_, DGet.t ha hb, ?_⟩
  cases c : lookT ps k with
  | none =>
    rw [c] at hl
    exact .inl ⟨rfl, hl⟩
  | some d =>
    rw [c] at hl
    obtain ⟨v, hv, dv⟩ := hl
    exact .inr ⟨d, v, rfl, hv, dv⟩
theorem qe_dget1T {o e : Expr} {apos cpos : Pos} {wo wi : WE M} (hu : X.A.units + 64 < cLine) (ho : QE X M o wo) (he : QE X M e wi) (m : M1 X o "get" apos e cpos := by exact ⟨rfl, rfl, rfl, rfl⟩) : QE X M (.Call (.Attribute o "get" apos) [e] [] cpos) (wGet1T wo wi) := by
  refine ⟨pe_weak (pe_dget1 (by omega) ho.run he.run m) fun σ H Q' ⟨Z, ρ, α, F, Q, R0, w, k⟩ => ?_⟩
  refine ⟨Z, ρ, α, F, _, R0, w, fun x ra ρ1 α1 F1 H1 R1 s1 rv q => ?_⟩
  have c1 := rv.cv R1
  obtain ⟨ps, e1, q⟩ := isDcT_ok q
  rw [e1] at c1
  obtain ⟨a, kvs, rfl, ha, da⟩ := c1.dcT R1
  refine ⟨a, rfl, .inr ⟨kvs, .inl ha⟩, Z, ρ1, α1, F1, _, R1, q, fun y rb ρ2 α2 F2 H2 R2 s2 rvb q => ?_⟩
  obtain ⟨ky, ek, q⟩ := q
  obtain ⟨o, g, h⟩ := getT_run R2 (c1.step s2) (rvb.cv R2) ek
  refine ⟨o, g, ?_⟩
  rcases h with ⟨h1, h2⟩ | ⟨d, v, h1, h2, dv⟩
  · rw [h1] at q
    rw [h2]
    exact k _ _ ρ2 α2 F2 H2 R2 (s1.trans s2) (RV.mk .non) q
  · rw [h1] at q
    rw [h2]
    exact k _ _ ρ2 α2 F2 H2 R2 (s1.trans s2) (RV.mk dv) q
def wGet2T {K : PySem.W.Frag} {M : Amb K} (wo wi wx : WE M) : WE M := fun E Q => wo E fun ra E1 => isDcT ra.c fun ps => wi E1 fun rb E2 => wx E2 fun rx E3 => fz rx E3 fun x E4 => ∃ k, tkeyOf rb.c = some k ∧ Q (.fr ((lookT ps k).getD x)) E4
theorem qe_dget2T {o e f : Expr} {apos cpos : Pos} {wo wi wx : WE M} (hu : X.A.units + 64 < cLine) (ho : QE X M o wo) (he : QE X M e wi) (hf : QE X M f wx) (m : M2 X o "get" apos e f cpos := by exact ⟨rfl, rfl, rfl, rfl⟩) : QE X M (.Call (.Attribute o "get" apos) [e, f] [] cpos) (wGet2T wo wi wx) := by
  refine ⟨pe_weak (pe_dget2 (by omega) ho.run he.run hf.run m) fun σ H Q' ⟨Z, ρ, α, F, Q, R0, w, k⟩ => ?_⟩
  refine ⟨Z, ρ, α, F, _, R0, w, fun x ra ρ1 α1 F1 H1 R1 s1 rv q => ?_⟩
  have c1 := rv.cv R1
  obtain ⟨ps, e1, q⟩ := isDcT_ok q
  rw [e1] at c1
  obtain ⟨a, kvs, rfl, ha, da⟩ := c1.dcT R1
  refine ⟨a, rfl, .inr ⟨kvs, .inl ha⟩, Z, ρ1, α1, F1, _, R1, q, fun y rb ρ2 α2 F2 H2 R2 s2 rvb q => ?_⟩
  refine ⟨Z, ρ2, α2, F2, _, R2, q, fun z rx ρ3 α3 F3 H3 R3 s3 rvx q => ?_⟩
  obtain ⟨x, ρ4, F4, R4, s4, dx, ky, ek, q⟩ := fz_ok R2 s3 R3 rvx q
  obtain ⟨o, g, h⟩ := getT_run R4 ((c1.step s2).step s4) ((rvb.cv R2).step s4) ek
  refine ⟨o, g, ?_⟩
  rcases h with ⟨h1, h2⟩ | ⟨d, v, h1, h2, dv⟩
  · rw [h1] at q
    rw [h2]
    exact k _ _ ρ4 α3 F4 H3 R4 ((s1.trans s2).trans s4) (RV.mk dx) q
  · rw [h1] at q
    rw [h2]
    exact k _ _ ρ4 α3 F4 H3 R4 ((s1.trans s2).trans s4) (RV.mk dv) q
end
end DL
set_option maxHeartbeats 4000000
namespace DL
open PySem PySem.Spec L2
open PyProof.Rows hiding St
/-! ### {k: v}, k a tuple -/
section
variable {X : Cx} {M : Amb X.K}
def tDispT (tk tv : TE) : TE := fun σ H Q => ∀ p, H p = none → tPairs [(tk, tv)] σ (upd H p (.dT [])) fun ps H2 => H2 p = some (.dT []) ∧ ∃ (k : List Key) (b : Addr) (y : V), ps = [(.ref b, y)] ∧ H2 b = some (.tup (k.map kV)) ∧ Q (.ref p) (upd H2 p (.dT [(k, y)]))
theorem pe_dispT {ek ev : Expr} {pos : Pos} {tk tv : TE} (hu : X.A.units + 64 < cLine) (hk : PE X ek tk) (hv : PE X ev tv) : PE X (.Dict [some ek] [ev] pos) (tDispT tk tv) := by
  refine ⟨fun pins s σ H Q I q => ?_⟩
  have hn := I.hok.fresh (Nat.le_refl s.heap.objs.size)
  have I1 := I.laid (a := s.heap.objs.size) (o := .dT []) (h' := s.heap.push { cls := .type "dict", data := .dict #[] }) (t' := s.toks) (fun _ _ q => Heap.get?_push_of_some _ q) (Nat.le_refl _) (dt_empty s.heap I.big)
  have hp : PPs X pos [some ek] [ev] [(tk, tv)] := pps_cons hk hv pps_nil
  have hall : ([some ek] : List (Option Expr)).all (·.isSome) = true := rfl
  have hl : ([some ek] : List (Option Expr)).length = [ev].length := rfl
  have hnl : (pairTrees [some ek] [ev] X.env pos).length = 1 := pairTrees_length [some ek] [ev] X.env pos hall hl
  rw [arm_eval_Dict, zip_pairTrees [some ek] [ev] X.env pos hall hl, dictDisplay_pairs _ (by intro he; rw [he] at hnl; cases hnl) (by rw [hnl]; decide)]
  refine wpAny_bind (wpAny_standAt (wpAny_bind (wpAny_subDictH (knd := tupleKind (mixKind X.prog X.w)) (Q := fun d s' => wpAny (model X.prog X.w) X.A (pure (Value.ref d)) _ X.xe s') (by show X.A.units < cLine; omega) (by rw [hnl]; decide) ?_)))
  refine thn (hp.run pins _ σ _ _ I1 (q _ hn)) fun ws s2 ⟨ps, H2, I2, rel, e, k, b, y, eps, eb, q2⟩ => ?_
  subst eps
  cases rel with
  | @cons _ pw _ _ r1 r2 =>
  cases r2
  obtain ⟨u, w⟩ := pw
  obtain ⟨ru, rw'⟩ := r1
  cases (show u = Value.ref b from ru)
  obtain ⟨z, hd, xs, r0, dd⟩ := dt_of I2.hok e
  cases r0
  refine ⟨[(k, b, w)], ⟨rfl, rfl, key_of I2.hok eb, trivial⟩, dd, fun h' tk' dd' hs => wpAny_pure ⟨.ref s.heap.objs.size, _, ?_, rfl, q2⟩⟩
  obtain ⟨o, es, ep, hq, h2, h3, h4, _, h5⟩ := dd'
  have nb : b ≠ s.heap.objs.size := fun z => by
    rw [z, e] at eb
    cases eb
  exact d_write I2 (t' := tk') (by rw [e]; exact True.intro) hs ⟨o, hq⟩ ⟨by show 1 ≤ sizeLine; decide, hd, _, .cons ⟨rfl, by rw [upd_ne nb]; exact eb, rw'⟩ .nil, o, es, ep, hq, h2, h3, h4, h5⟩
def wDispT {K : PySem.W.Frag} {M : Amb K} (wk wv : WE M) : WE M := fun E Q => wk E fun rk E1 => wv E1 fun rv E2 => fz rv E2 fun d E3 => ∃ k, tkeyOf rk.c = some k ∧ Q (.nw (.mT [(tkD k, d)])) E3
theorem qe_dispT {ek ev : Expr} {pos : Pos} {wk wv : WE M} (hu : X.A.units + 64 < cLine) (hk : QE X M ek wk) (hv : QE X M ev wv) : QE X M (.Dict [some ek] [ev] pos) (wDispT wk wv) := by
  refine ⟨pe_weak (pe_dispT hu hk.run hv.run) fun σ H Q' ⟨Z, ρ, α, F, Q, R0, w, k⟩ => ?_⟩
  intro p hp
  obtain ⟨R1, s1⟩ := R0.laid (o := .dT []) hp
  refine ⟨Z, ρ, α, F, _, R1, w, fun x rk ρ2 α2 F2 H2 R2 s2 rvk q => ?_⟩
  refine ⟨Z, ρ2, α2, F2, _, R2, q, fun y rv ρ3 α3 F3 H3 R3 s3 rvv q => ?_⟩
  have ck := (rvk.cv R2).step s3
  obtain ⟨d, ρ4, F4, R4, s4, dv, ky, ek, q⟩ := fz_ok R2 s3 R3 rvv q
  have s5 := (s1.trans s2).trans s4
  have f1 : F p = none := R0.fn hp
  have n1 : ¬ M.fp α p := R0.fpn hp
  have h1 : upd H p (.dT []) p = some (.dT []) := upd_same
  have s24 := s2.trans s4
  have no1 : ¬ Owned ρ σ p := R0.ownn hp
  have h5 : H3 p = some (.dT []) := s24.sH p _ h1 n1
  have n5 : ¬ M.fp α3 p := fun q => (s24.sN p q).elim n1 fun q => absurd q (ne_none h1)
  have f5 : F4 p = none := (none_or F4 p).elim id fun q => by
    rcases s24.sZ p q with q | q | q
    · exact absurd f1 q
    · exact (q.nl R4.sub h1 h5 nofun).elim
    · exact absurd q no1
  obtain ⟨b, rfl, _, hb⟩ := CV.tkey R3 ck ek
  refine ⟨h5, ky, b, y, rfl, hb, ?_⟩
  refine k _ _ ρ4 α3 F4 _ (R4.mutNew (ne_none h5) f5 n5 (fun z => no1 (s24.sO p z)) (R0.zn hp)) (s5.mutNew hp) ?_ q
  exact ⟨p, .dT [(ky, y)], rfl, upd_same, .cons dv .nil, f5, n5, hp⟩
/-! ### the keys of such a dict -/
def keyDs (ps : List (D × D)) : List D := ps.map (·.1)
theorem dvs_tk {K : PySem.W.Frag} {F : Hp} : ∀ k : List Key, DVs K F (k.map kV) (k.map keyD)
  | [] => .nil
  | .inl i :: k => .cons (.int i) (dvs_tk k)
  | .inr x :: k => .cons (.str x) (dvs_tk k)
theorem Rel.learnKs {Z : Base M} {ρ : List (Option B)} {α : M.S} {σ : L2.St} {H : Hp} : ∀ {F : Hp} {kvs : List (List Key × V)} {ps : List (D × D)} {bs : List Addr}, Rel M Z ρ α F σ H → DTs X.K F kvs ps → IsKeys H kvs bs →
    ∃ F', Rel M Z ρ α F' σ H ∧ Stp M σ ρ α F H ρ α F' H ∧ DVs X.K F' (bs.map V.ref) (keyDs ps)
  | F, [], _, [], R0, .nil, _ => ⟨F, R0, .refl, .nil⟩
  | F, (k, v) :: kvs, _, b :: bs, R0, .cons h t, .cons hb ht => by
    obtain ⟨F1, R1, s1, e1⟩ := R0.learn hb
    obtain ⟨F2, R2, s2, d2⟩ := Rel.learnKs R1 (t.mono s1.sF) ht
    exact ⟨F2, R2, s1.trans s2, .cons (.tup (s2.sF _ _ e1) (dvs_tk k)) d2⟩
/-- list(d) -/
def gListT : List D → (R → Prop) → Prop
  | [.dcT ps], Q => Q (.nw (.l (keyDs ps)))
  | _, _ => False
theorem oc_listT (hc : X.calm = true := by rfl) : OC X M (.type "list") gListT := by
  refine ⟨_, call_list_dT hc, ?_⟩
  intro Z ρ α F σ H xs ds Q P R0 cs q k
  rcases ds with _ | ⟨d, _ | ⟨d2, ds⟩⟩
  · exact q.elim
  · obtain ⟨x, rfl, c⟩ := cs.one
    cases d <;> first | exact q.elim | skip
    obtain ⟨a, kvs, rfl, ha, da⟩ := c.dcT R0
    refine ⟨a, kvs, rfl, .inl ha, fun p bs hp hk => ?_⟩
    obtain ⟨F1, R1, s1, d1⟩ := R0.learnKs da hk
    obtain ⟨r2, s2⟩ := R1.laid (o := .lst (bs.map V.ref)) hp
    exact k _ _ F1 _ r2 (s1.trans s2) (RV.list R1 hp d1) q
  · cases d <;> exact q.elim
end
end DL
set_option maxHeartbeats 4000000
namespace DL
open PySem PySem.Spec L2
open PyProof.Rows hiding St
/-! ### going through the keys of a dict with tuple keys -/
section
variable {X : Cx}
def tLockNT (td : TE) : TE := fun σ H Q => td σ H fun x H1 => ∃ d kvs, x = .ref d ∧ H1 d = some (.dT kvs) ∧ ∀ od, Q x (upd H1 d (.frz od (.dT kvs)))
theorem pe_lockNT {e : Expr} {td : TE} (h : PE X e td) : PE X e (tLockNT td) := by
  refine ⟨fun pins s σ H Q I hw => ?_⟩
  refine thn (h.run pins s σ H _ I hw) fun v s1 ⟨x, H1, I1, r, d, kvs, ex, hd, q⟩ => ?_
  obtain ⟨od, I2⟩ := I1.lock hd trivial
  exact ⟨x, _, I2, r, q od⟩
end
section
variable {X : Cx} {M : Amb X.K} {tg : Expr}
theorem DTs.get {K : PySem.W.Frag} {F : Hp} : ∀ {kvs : List (List Key × V)} {ps : List (D × D)} {i : Nat} {k : List Key} {v : V}, DTs K F kvs ps → kvs[i]? = some (k, v) → ∃ d, ps[i]? = some (tkD k, d) ∧ DV K F v d
  | _, _, _, _, _, .nil, e => by simp at e
  | _, _, 0, _, _, .cons h _, e => by
    simp at e
    obtain ⟨rfl, rfl⟩ := e
    exact ⟨_, rfl, h⟩
  | _, _, i + 1, _, _, .cons _ t, e => by
    obtain ⟨d, h1, h2⟩ := DTs.get (i := i) t (by simpa using e)
    exact ⟨d, by simpa using h1, h2⟩
theorem itOk_keysT {F0 : Hp} {a : Addr} {od : Obj} {kvs : List (List Key × V)} {ps : List (D × D)} (h : F0 a = some (.frz od (.dT kvs))) (dk : DTs X.K F0 kvs ps) : ItOk M (Itkt a od kvs) (keyDs ps) F0 := by
  intro H s
  have e := s _ _ h
  have hl : (keyDs ps).length = kvs.length := by rw [dk.length]; unfold keyDs; simp
  refine ⟨fun j hj => ⟨e, by omega⟩, ⟨e, by omega⟩, fun j x d H' Z ρ α F σ R0 sf y hd => ?_⟩
  obtain ⟨rfl, k, v, q, hkv, rfl, hq⟩ := y
  obtain ⟨d', hd', _⟩ := dk.get hkv
  obtain ⟨F1, R1, s1, e1⟩ := R0.learn hq
  refine ⟨F1, R1, s1, ?_⟩
  unfold keyDs at hd
  rw [List.getElem?_map, hd'] at hd
  cases hd
  exact .tup e1 (dvs_tk k)
def isNewT (r : R) (Q : List (D × D) → Prop) : Prop := match r with
  | .nw (.mT ps) => Q ps
  | _ => False
theorem isNewT_ok {r : R} {Q : List (D × D) → Prop} (h : isNewT r Q) : ∃ ps, r = .nw (.mT ps) ∧ Q ps := by
  unfold isNewT at h
  split at h
  · exact ⟨_, rfl, h⟩
  · exact h.elim
/-- for k in (a new dict) -/
def wKeysNT {K : PySem.W.Frag} {M : Amb K} (w : WE M) : WI M := fun E Q => w E fun r E1 => isNewT r fun ps => Q (keyDs ps) E1
theorem qi_keysNT {e : Expr} {w : WE M} (he : QE X M e w) : QI X M tg e (wKeysNT w) := by
  refine ⟨pi_weak (pi_keys (pe_lockNT he.run)) fun σ H R' ⟨Z, ρ, α, F, Q, R0, w, k⟩ => ?_⟩
  refine ⟨Z, ρ, α, F, _, R0, w, fun v r ρ1 α1 F1 H1 R1 s1 rv q => ?_⟩
  obtain ⟨ps, rfl, q⟩ := isNewT_ok q
  obtain ⟨a, o, rfl, h1, h2, h3, h4, h5⟩ := rv
  obtain ⟨kvs, rfl⟩ : ∃ kvs, o = .dT kvs := by
    cases o <;> first | exact ⟨_, rfl⟩ | exact h2.elim
  have dk : DTs X.K F1 kvs ps := h2
  have no : ¬ Owned ρ1 σ a := fun z => R0.ownn h5 (s1.sO a z)
  have zn := R0.zn h5
  refine ⟨a, kvs, rfl, h1, fun od => ?_⟩
  have R2 := R1.mutNew (o := .frz od (.dT kvs)) (ne_none h1) h3 h4 no zn
  have R3 := R2.frz upd_same h3 h4 no zn
  have sF : Sub F1 (upd F1 a (.frz od (.dT kvs))) := (Sub.refl F1).upd h3
  have s2 := s1.mutNew (o := .frz od (.dT kvs)) h5
  refine ⟨a, od, rfl, .inr ⟨kvs, upd_same, k _ _ ρ1 α1 _ _ R3 ⟨s2.sF.trans sF, s2.sH, s2.sT, s2.sN, fun b hb => ?_, s2.sO⟩ (itOk_keysT upd_same (dk.mono sF)) q⟩⟩
  by_cases e : b = a
  · subst e
    exact .inr (.inl (.inl h5))
  · rw [upd_ne e] at hb
    exact (s2.sZ b hb).imp id fun q => q.imp (fun q => q.mono sF) id
/-! ### min, max of a list of ints -/
def gMinL : List D → (R → Prop) → Prop
  | [.lst xs], Q => ∃ ns : List Int, xs = ns.map .int ∧ 0 < ns.length ∧ ∀ m, m ∈ ns → (∀ y ∈ ns, m ≤ y) → Q (.fr (.int m))
  | _, _ => False
def gMaxL : List D → (R → Prop) → Prop
  | [.lst xs], Q => ∃ ns : List Int, xs = ns.map .int ∧ 0 < ns.length ∧ ∀ m, m ∈ ns → (∀ y ∈ ns, y ≤ m) → Q (.fr (.int m))
  | _, _ => False
theorem oc_minL (hc : X.calm = true := by rfl) : OC X M (.builtin "min") gMinL := by
  refine ⟨_, cr_min hc, ?_⟩
  intro Z ρ α F σ H xs ds Q P R0 cs q k
  rcases ds with _ | ⟨d, _ | ⟨d2, ds⟩⟩
  · exact q.elim
  · obtain ⟨x, rfl, c⟩ := cs.one
    cases d <;> first | exact q.elim | skip
    obtain ⟨ns, rfl, h0, q⟩ := q
    obtain ⟨a, vs, rfl, ha, da⟩ := c.lst R0
    rw [da.intsV] at ha
    exact ⟨a, ns, rfl, SqL.of ha, h0, fun m hm hy => k _ _ F H R0 .refl (RV.mk (.int _)) (q m hm fun y h => hy y h)⟩
  · cases d <;> exact q.elim
theorem oc_maxL (hc : X.calm = true := by rfl) : OC X M (.builtin "max") gMaxL := by
  refine ⟨_, cr_max hc, ?_⟩
  intro Z ρ α F σ H xs ds Q P R0 cs q k
  rcases ds with _ | ⟨d, _ | ⟨d2, ds⟩⟩
  · exact q.elim
  · obtain ⟨x, rfl, c⟩ := cs.one
    cases d <;> first | exact q.elim | skip
    obtain ⟨ns, rfl, h0, q⟩ := q
    obtain ⟨a, vs, rfl, ha, da⟩ := c.lst R0
    rw [da.intsV] at ha
    exact ⟨a, ns, rfl, SqL.of ha, h0, fun m hm hy => k _ _ F H R0 .refl (RV.mk (.int _)) (q m hm fun y h => hy y h)⟩
  · cases d <;> exact q.elim
end
end DL
set_option maxHeartbeats 4000000
namespace DL
open PySem PySem.Spec L2
open PyProof.Rows hiding St
/-! ### a dict with tuple keys that a name holds is gone through: it is locked while the expression runs -/
section
variable {K : PySem.W.Frag} {F : Hp} {a : Addr}
theorem offG_rd {u : HO} (h : ¬ Rd F a u) {b : Addr} (r : Rd F b u) : Rd (off F a) b u := by
  have n : b ≠ a := fun e => h (e ▸ r)
  rcases r with r | ⟨o, r⟩
  · exact .inl (off_ne r n)
  · exact .inr ⟨o, off_ne r n⟩
mutual
theorem offG_dv (h1 : ∀ xs, ¬ Rd F a (.lst xs)) (h2 : ∀ xs, ¬ Rd F a (.tup xs)) : ∀ (d : D) {v : V}, DV K F v d → noD d = true → DV K (off F a) v d
  | .non, _, e, _ => by cases e; exact .non
  | .bl b, _, e, _ => by cases e; exact .bl _
  | .int i, _, e, _ => by cases e; exact .int _
  | .str x, _, e, _ => by cases e; exact .str _
  | .lst xs, _, e, n => by
    cases e with
    | lst e t => exact .lst (off_ne e fun z => h1 _ (.inl (z ▸ e))) (offG_dvs h1 h2 xs t n)
  | .tup xs, _, e, n => by
    cases e with
    | tup e t => exact .tup (off_ne e fun z => h2 _ (.inl (z ▸ e))) (offG_dvs h1 h2 xs t n)
  | .dct _, _, _, n => by cases n
  | .dcT _, _, _, n => by cases n
  | .obj a, _, e, _ => by cases e; exact .obj _
  | .seq ns, _, e, _ => by
    cases e with
    | seq e => exact .seq (e.elim (fun r => .inl (offG_rd (h1 _) r)) .inr)
theorem offG_dvs (h1 : ∀ xs, ¬ Rd F a (.lst xs)) (h2 : ∀ xs, ¬ Rd F a (.tup xs)) : ∀ (ds : List D) {vs : List V}, DVs K F vs ds → noDs ds = true → DVs K (off F a) vs ds
  | [], _, e, _ => by cases e; exact .nil
  | d :: ds, _, e, n => by
    cases e with
    | cons e t =>
      obtain ⟨n1, n2⟩ := Bool.and_eq_true_iff.mp (show (noD d && noDs ds) = true from n)
      exact .cons (offG_dv h1 h2 d e n1) (offG_dvs h1 h2 ds t n2)
end
theorem DTs.off (h1 : ∀ xs, ¬ Rd F a (.lst xs)) (h2 : ∀ xs, ¬ Rd F a (.tup xs)) : ∀ {us : List (List Key × V)} {ps : List (D × D)}, DTs K F us ps → (∀ p ∈ ps, noD p.2 = true) → DTs K (DL.off F a) us ps
  | _, _, .nil, _ => .nil
  | _, _, .cons e t, n => .cons (offG_dv h1 h2 _ e (n _ (List.mem_cons_self ..))) (DTs.off h1 h2 t fun p hp => n p (List.mem_cons_of_mem _ hp))
end
def lckAmbT (K : PySem.W.Frag) (a : Addr) (od : Obj) (kvs : List (List Key × V)) (ps : List (D × D)) : Amb K where
  S := Unit
  ok _ F _ := F a = some (.frz od (.dT kvs)) ∧ DTs K F kvs ps
  fp _ _ := False
  stay _ F H F' H' h s _ := ⟨s _ _ h.1, h.2.mono s⟩
  live _ _ _ _ _ h := h.elim
  nt _ _ _ _ _ _ h := h.elim
section
variable {X : Cx} {M : Amb X.K}
theorem not_rd_frz {F : Hp} {a : Addr} {od : Obj} {kvs : List (List Key × V)} (h : F a = some (.frz od (.dT kvs))) : (∀ xs, ¬ Rd F a (.lst xs)) ∧ ∀ xs, ¬ Rd F a (.tup xs) := by
  constructor <;> (
  rintro xs (r | ⟨o, r⟩)
  · rw [h] at r; cases r
  · rw [h] at r; cases r)
theorem not_rd_dT {F : Hp} {a : Addr} {kvs : List (List Key × V)} (h : F a = some (.dT kvs)) : (∀ xs, ¬ Rd F a (.lst xs)) ∧ ∀ xs, ¬ Rd F a (.tup xs) := by
  constructor <;> (
  rintro xs (r | ⟨o, r⟩)
  · rw [h] at r; cases r
  · rw [h] at r; cases r)
theorem no_own_lck {i : Nat} {a : Addr} {ρ : List (Option B)} {σ : L2.St} {b : Addr} : ¬ Owned (lckE i a ρ) σ b := fun ⟨j, b', h1, h2, _⟩ => by
  rcases lckE_at h1 with ⟨_, rfl⟩ | ⟨d', rfl, _⟩ <;> cases h2
/-- back from the lock -/
def unl (F : Hp) (a : Addr) (u : HO) : Hp := fun b => if b = a then some u else F b
theorem unl_same {F : Hp} {a : Addr} {u : HO} : unl F a u a = some u := by unfold unl; rw [if_pos rfl]
theorem unl_ne {F : Hp} {a b : Addr} {u : HO} (h : b ≠ a) : unl F a u b = F b := by unfold unl; rw [if_neg h]
theorem unlock {Z : Base M} {ρ ρ' : List (Option B)} {α : M.S} {F H F' H' : Hp} {σ : L2.St} {a : Addr} {od : Obj} {kvs : List (List Key × V)} {ps : List (D × D)} {i : Nat} {α' : (lckAmbT X.K a od kvs ps).S} {Zin : Base (lckAmbT X.K a od kvs ps)}
    (R1 : Rel M Z ρ α F σ H) (hF : F a = some (.dT kvs)) (R' : Rel (lckAmbT X.K a od kvs ps) Zin ρ' α' F' σ H')
    (s' : Stp (lckAmbT X.K a od kvs ps) σ (lckE i a ρ) () (upd F a (.frz od (.dT kvs))) (upd H a (.frz od (.dT kvs))) ρ' α' F' H') :
    Rel M Z ρ α (unl F' a (.dT kvs)) σ (upd H' a (.dT kvs)) ∧ Stp M σ ρ α F H ρ α (unl F' a (.dT kvs)) (upd H' a (.dT kvs)) ∧ Sub (off F' a) (unl F' a (.dT kvs)) := by
  have hH : H a = some (.dT kvs) := R1.sub _ _ hF
  have sF : Sub F (unl F' a (.dT kvs)) := fun b o e => by
    by_cases n : b = a
    · subst n
      rw [hF] at e
      rw [unl_same]
      exact e
    · rw [unl_ne n]
      exact s'.sF b o (by rw [upd_ne n]; exact e)
  have keep : ∀ b o, H b = some o → upd H' a (.dT kvs) b = some o := fun b o e => by
    by_cases n : b = a
    · subst n
      rw [hH] at e
      rw [upd_same]
      exact e
    · rw [upd_ne n]
      exact s'.sH b o (by rw [upd_ne n]; exact e) fun z => z
  have keep' : ∀ b o, b ≠ a → H b = some o → H' b = some o := fun b o n e => s'.sH b o (by rw [upd_ne n]; exact e) fun z => z
  have nw : ∀ b, unl F' a (.dT kvs) b ≠ none → F b ≠ none ∨ NewT (unl F' a (.dT kvs)) H b := fun b h => by
    by_cases n : b = a
    · subst n
      exact .inl (ne_none hF)
    · rw [unl_ne n] at h
      rcases s'.sZ b h with q | (q | ⟨vs, q⟩) | q
      · rw [upd_ne n] at q
        exact .inl q
      · rw [upd_ne n] at q
        exact .inr (.inl q)
      · exact .inr (.inr ⟨vs, by rw [unl_ne n]; exact q⟩)
      · exact absurd q no_own_lck
  have sub : Sub (unl F' a (.dT kvs)) (upd H' a (.dT kvs)) := fun b o e => by
    by_cases n : b = a
    · subst n
      rw [unl_same] at e
      rw [upd_same]
      exact e
    · rw [unl_ne n] at e
      rw [upd_ne n]
      exact R'.sub b o e
  have T : ∀ b, H b ≠ none → upd H' a (.dT kvs) b ≠ none := fun b h => by
    obtain ⟨o, e⟩ := somehow h
    exact ne_none (keep b o e)
  refine ⟨⟨sub, R1.len, fun j d e => ?_, fun j b e ow => ?_, R1.dis, M.stay _ _ _ _ _ R1.amb sF fun b o _ e => keep b o e, fun b hb => ?_, R1.bF.trans sF, fun b o e n => keep b o (R1.bH b o e n), R1.bN, fun b h => T b (R1.bT b h), fun b hb => ?_⟩,
    ⟨sF, fun b o e _ => keep b o e, T, fun _ h => .inl h, fun b hb => (nw b hb).imp id .inl, fun _ h => h⟩, fun b o e => ?_⟩
  · obtain ⟨v, h1, h2⟩ := R1.val j d e
    exact ⟨v, h1, h2.mono sF⟩
  · obtain ⟨x, o, h1, h2, h3, h4, h5, h6⟩ := R1.own j b e ow
    refine ⟨x, o, h1, keep x o h2, h3.mono sF, (none_or _ x).elim id fun q => ?_, h5, h6⟩
    rcases nw x q with q | q
    · exact absurd h4 q
    · exact (q.no sub h2 (keep x o h2) h3).elim
  · refine (none_or _ b).elim id fun q => ?_
    rcases nw b q with q | q
    · exact absurd (R1.ambF b hb) q
    · obtain ⟨o, e⟩ := somehow (M.live _ _ _ _ R1.amb hb)
      exact (q.nl sub e (keep b o e) fun vs z => M.nt _ _ _ _ vs R1.amb hb (z ▸ e)).elim
  · rcases nw b hb with q | q
    · exact (R1.bZ b q).imp id fun q => q.mono sF
    · exact .inr (q.imp R1.zn id)
  · unfold off at e
    split at e
    · cases e
    · rename_i n
      rw [unl_ne n]
      exact e
/-- e, with the dict of slot i locked; it comes to what holds no dict -/
def wLockT {K : PySem.W.Frag} {M : Amb K} (i : Nat) (we : (a : Addr) → (od : Obj) → (kvs : List (List Key × V)) → (ps : List (D × D)) → WE (lckAmbT K a od kvs ps)) : WE M := fun E Q => ∃ ps, (E.1[i]? = some (some (.d (.dcT ps))) ∨ E.1[i]? = some (some (.mT ps))) ∧ (∀ p ∈ ps, noD p.2 = true) ∧
  ∀ a od kvs, we a od kvs ps (lckE i a E.1, ()) fun r _ => (∃ d, r = .fr d ∧ noD d = true ∧ Q (.fr d) (E.1.set i (some (.d (.dcT ps))), E.2)) ∨ ∃ ds, r = .nw (.l ds) ∧ noDs ds = true ∧ Q (.nw (.l ds)) (E.1.set i (some (.d (.dcT ps))), E.2)
theorem lckE_set {i : Nat} {a : Addr} {ρ : List (Option B)} {x : Option B} : lckE i a (ρ.set i x) = lckE i a ρ := by
  unfold lckE
  rw [List.map_set, List.set_set]
theorem qe_lockT {i : Nat} {e : Expr} {we : (a : Addr) → (od : Obj) → (kvs : List (List Key × V)) → (ps : List (D × D)) → WE (lckAmbT X.K a od kvs ps)} (h : ∀ a od kvs ps, QE X (lckAmbT X.K a od kvs ps) e (we a od kvs ps)) : QE X M e (wLockT i we) := by
  have he : PE X e (fun σ H Q => ∃ a od kvs ps, tW (lckAmbT X.K a od kvs ps) (we a od kvs ps) σ H Q) := ⟨fun pins s σ H Q I ⟨a, od, kvs, ps, q⟩ => (h a od kvs ps).run.run pins s σ H Q I q⟩
  refine ⟨pe_weak (pe_lock he) fun σ H Q' ⟨Z, ρ, α, F, Q, R0, w, k⟩ => ?_⟩
  obtain ⟨ps, e1, cl, w⟩ := w
  -- the dict stands still
  obtain ⟨F1, R1, s1, v, hv, dv, hi⟩ : ∃ F1, Rel M Z (ρ.set i (some (.d (.dcT ps)))) α F1 σ H ∧ Stp M σ ρ α F H (ρ.set i (some (.d (.dcT ps)))) α F1 H ∧ ∃ v, σ[i]? = some (some v) ∧ DV X.K F1 v (.dcT ps) ∧ i < ρ.length := by
    rcases e1 with e1 | e1
    · have hi := (List.getElem?_eq_some_iff.mp e1).1
      obtain ⟨v, hv, dv⟩ := R0.val i _ e1
      have er : ρ.set i (some (.d (.dcT ps))) = ρ := by
        refine List.ext_getElem? fun j => ?_
        by_cases n : i = j
        · subst n
          rw [List.getElem?_set_self hi, e1]
        · rw [List.getElem?_set_ne n]
      rw [er]
      exact ⟨F, R0, .refl, v, hv, dv, hi⟩
    · have hi := (List.getElem?_eq_some_iff.mp e1).1
      obtain ⟨x, o, hv, _⟩ := R0.own i _ e1 rfl
      obtain ⟨F1, r1, s1, dv⟩ := R0.give e1 rfl hv
      exact ⟨F1, r1, s1, _, hv, dv, hi⟩
  cases dv with
  | dT hF hk =>
  rename_i a kvs
  have hH := R1.sub _ _ hF
  obtain ⟨nl, nt⟩ := not_rd_dT hF
  refine ⟨a, .dT kvs, hH, trivial, fun od => ?_⟩
  have sO : Sub (off F1 a) (upd F1 a (.frz od (.dT kvs))) := fun b o q => by
    unfold off at q
    split at q
    · cases q
    · rename_i n
      rw [upd_ne n]
      exact q
  have Rin : Rel (lckAmbT X.K a od kvs ps) ⟨upd F1 a (.frz od (.dT kvs)), upd H a (.frz od (.dT kvs)), ()⟩ (lckE i a (ρ.set i (some (.d (.dcT ps))))) () (upd F1 a (.frz od (.dT kvs))) σ (upd H a (.frz od (.dT kvs))) := by
    refine ⟨fun b o q => ?_, ?_, fun j d q => ?_, fun j b q ow => ?_, fun j l b b' c q ow => ?_, ⟨upd_same, (hk.off nl nt cl).mono sO⟩, fun _ z => z.elim, Sub.refl _, fun _ _ z _ => z, fun _ z => z.elim, fun _ z => z, fun _ z => .inl z⟩
    · by_cases n : b = a
      · subst n
        rw [upd_same] at q ⊢
        exact q
      · rw [upd_ne n] at q ⊢
        exact R1.sub b o q
    · unfold lckE
      rw [List.length_set, List.length_map]
      exact R1.len
    · rcases lckE_at q with ⟨ej, q2⟩ | ⟨d', q2, hn, q'⟩
      · cases q2
        exact ⟨_, by rw [ej]; exact hv, .obj a⟩
      · cases q2
        obtain ⟨v, h1, h2⟩ := R1.val j _ q'
        exact ⟨v, h1, (offG_dv nl nt _ h2 hn).mono sO⟩
    · rcases lckE_at q with ⟨_, rfl⟩ | ⟨d', rfl, _⟩ <;> cases ow
    · rcases lckE_at q with ⟨_, rfl⟩ | ⟨d', rfl, _⟩ <;> cases ow
  have w' := w a od kvs
  rw [lckE_set] at Rin
  refine ⟨a, od, kvs, ps, _, _, (), _, _, Rin, w', fun v r ρ' α' F' H' R' s' rv q => ?_⟩
  have ha := s'.sH a _ upd_same fun z => z
  have fa' := s'.sF a _ upd_same
  obtain ⟨nl', nt'⟩ := not_rd_frz fa'
  obtain ⟨R2, s2, sU⟩ := unlock (i := i) R1 hF R' (by rw [lckE_set]; exact s')
  refine ⟨ha, ?_⟩
  rcases q with ⟨d, rfl, hn, q⟩ | ⟨ds, rfl, hn, q⟩
  · have rv : DV X.K F' v d := rv
    exact k v (.fr d) _ α _ _ R2 (s1.trans s2) (RV.mk ((offG_dv nl' nt' d rv hn).mono sU)) q
  · obtain ⟨x, o, rfl, h1, h2, h3, _, h5⟩ := rv
    obtain ⟨us, rfl⟩ : ∃ us, o = .lst us := by
      cases o <;> first | exact ⟨_, rfl⟩ | exact h2.elim
    have nx : x ≠ a := fun z => by
      rw [z, upd_same] at h5
      cases h5
    have hx : H x = none := by rw [upd_ne nx] at h5; exact h5
    have h2 : DVs X.K F' us ds := h2
    exact k (.ref x) (.nw (.l ds)) _ α _ _ R2 (s1.trans s2) ⟨x, .lst us, rfl, by rw [upd_ne nx]; exact h1, (offG_dvs nl' nt' ds h2 hn).mono sU, by rw [unl_ne nx]; exact h3, R1.fpn hx, hx⟩ q
/-- for k in d, d locked -/
def wKeysLT {K : PySem.W.Frag} {a : Addr} {od : Obj} {kvs : List (List Key × V)} {ps : List (D × D)} (i : Nat) : WI (lckAmbT K a od kvs ps) := fun E Q => E.1[i]? = some (some (.d (.obj a))) ∧ Q (keyDs ps) E
theorem qi_keysLT {tg : Expr} {i : Nat} {x : Str} {p : Pos} {a : Addr} {od : Obj} {kvs : List (List Key × V)} {ps : List (D × D)} (hx : PE X (.Name x p) (tVar i)) : QI X (lckAmbT X.K a od kvs ps) tg (.Name x p) (wKeysLT i) := by
  refine ⟨pi_weak (pi_keys hx) fun σ H R' ⟨Z, ρ, α, F, Q, R0, ⟨e, w⟩, k⟩ => ?_⟩
  obtain ⟨hF, dk⟩ := R0.amb
  obtain ⟨v, h1, h2⟩ := R0.val i _ e
  cases h2
  exact ⟨.ref a, h1, a, od, rfl, .inr ⟨kvs, R0.sub _ _ hF, k _ _ ρ α F H R0 .refl (itOk_keysT hF dk) w⟩⟩
end
end DL
set_option maxHeartbeats 4000000
/-! sorting tuples of any length, the empty one too -/
namespace TupS
open PySem PySem.W PySem.Calls PyProof.Rows PySem.SeqAt
section
variable {prog : Program} {w : World} {A : Around} {E : Value → Shared → Prop} {s : Shared}
theorem call_tup_lt {Q : Value → Shared → Prop} {l b : Addr} {items items2 : Array Value} {e r : Nat → Bool} (hl : s.heap.IsTuple l items) (hb : s.heap.IsTuple b items2)
    (he : ∀ j (h1 : j < items.size) (h2 : j < items2.size), EqAt A.in1 s items[j] items2[j] (e j)) (hr : ∀ j (h1 : j < items.size) (h2 : j < items2.size), e j = false → RcLt A.in1 s items[j] items2[j] (r j))
    (h : Q (.bool (firstLt e r (decide (items.size < items2.size)) (List.range (min items.size items2.size)))) s) : wpAny (model prog w) A (call (.builtin "tuple.__lt__") [.ref l, .ref b]) Q E s := by
  obtain ⟨⟨cls, dd, data, sl⟩, ho, hc, n, hd⟩ := id hl
  obtain ⟨⟨cls2, dd2, data2, sl2⟩, ho2, hc2, n2, hd2⟩ := id hb
  simp only at hc hd hc2 hd2
  subst hc hd hc2 hd2
  exact call_meets F.slot_tuple_lt ⟨_, ho, rfl⟩ F.entry_tuple_lt (F.args_tuple_lt_2 _ _) (tuple_ltAt l b items items2 n n2 dd dd2 sl sl2 e r) ⟨ho, ho2, he, hr, h⟩
theorem oneLt_tup {f : Bool} {xs ys : List PyData} {a b : Value} {as bs : List Addr} {Q : Bool → Shared → Prop} (ra : Reads s.heap a (.tuple xs) as) (rb : Reads s.heap b (.tuple ys) bs) (h : alike (.tuple xs) (.tuple ys) = true)
    (hu : A.units + min (PyData.tuple xs).depth (PyData.tuple ys).depth < cLine) (hq : Q (dataLt (.tuple xs) (.tuple ys)) s) : wpAny (model prog w) A (oneLt' f a b) Q E s := by
  cases f with
  | false => exact oneLt_alike (fun z => nomatch z) ra rb h (fun z => nomatch z) hu hq
  | true =>
    have hal : alikeAll xs ys = true := by simpa [alike] using h
    cases ra with
    | @tuple l o vs n _ as₁ h1 h2 h3 h4 =>
      cases rb with
      | @tuple l' o' vs' n' _ bs₁ k1 k2 k3 k4 =>
        have n1 : vs.size = xs.length := by simpa using ReadsAll.length _ _ _ h4
        have n2 : vs'.size = ys.length := by simpa using ReadsAll.length _ _ _ k4
        rw [dataLt_tuple, ← firstLt_toks xs ys hal, ← n1, ← n2] at hq
        rw [oneLt'_eq]
        simp only [if_true]
        refine wpAny_bind (wpAny_cRoomFor (room_here hu) ?_)
        refine wpAny_bind (wpAny_callSpecialIfBound?_slot (T := "tuple") ⟨_, h1, h2⟩ F.slot_tuple_lt (call_tup_lt (e := pairEq xs ys) (r := fun j => dataLt (xs.getD j .none) (ys.getD j .none)) ⟨_, h1, h2, _, h3⟩ ⟨_, k1, k2, _, k3⟩ (fun j j1 j2 => ?_) (fun j j1 j2 hj => ?_) ?_))
        · have := eqAt_alikeAll xs ys A.in1 s vs.toList vs'.toList _ _ h4 k4 hal (room_in hu) j (by simpa using j1) (by simpa using j2)
          simpa using this
        · have := rcLt_alikeAll xs ys A.in1 s vs.toList vs'.toList _ _ h4 k4 hal (room_in hu) j (by simpa using j1) (by simpa using j2) hj
          simpa using this
        · exact wpAny_truthy_bool hq
end
/-- all are tuples: their first items, where there are any -/
def Fst (h : Heap) : List Value → List (Option Value) → Prop
  | [], [] => True
  | v :: vs, f :: fs => (∃ a o xs n, v = .ref a ∧ h.get? a = some o ∧ o.cls = .type "tuple" ∧ o.data = .seq xs n ∧ xs[0]? = f) ∧ Fst h vs fs
  | _, _ => False
def ne0 : PyData → Bool
  | .tuple [] => false
  | _ => true
theorem fst_of {h : Heap} : ∀ {vs : List Value} {ds : List PyData}, EachIs (fun v d => ∃ as, Reads h v d as) vs ds → (∀ d ∈ ds, ∃ xs, d = .tuple xs) → ∃ fs, Fst h vs fs ∧ fs.map Option.isSome = ds.map ne0
  | _, _, .nil, _ => ⟨[], trivial, rfl⟩
  | _, _, .cons (b := d) ⟨as, r⟩ t, ht => by
    obtain ⟨fs, h1, h2⟩ := fst_of t fun d hd => ht d (List.mem_cons_of_mem _ hd)
    obtain ⟨xs, rfl⟩ := ht d (List.mem_cons_self ..)
    cases r with
    | @tuple a o vs n _ _ ho hc hd hr =>
      refine ⟨vs[0]? :: fs, ⟨⟨a, o, vs, n, rfl, ho, hc, hd, rfl⟩, h1⟩, ?_⟩
      have hl : vs.toList.length = xs.length := ReadsAll.length _ _ _ hr
      have q : (vs[0]?).isSome = ne0 (.tuple xs) := by
        cases xs with
        | nil =>
          have : vs[0]? = none := by
            rw [← Array.getElem?_toList]
            exact List.getElem?_eq_none (by rw [hl]; exact Nat.le_refl _)
          rw [this]
          rfl
        | cons x xs =>
          have : ∃ y, vs[0]? = some y := by
            rw [← Array.getElem?_toList]
            exact ⟨_, List.getElem?_eq_getElem (by rw [hl]; exact Nat.succ_pos _)⟩
          obtain ⟨y, e⟩ := this
          rw [e]
          rfl
      rw [List.map_cons, List.map_cons, h2, q]
section
variable {M : Model} {A : Around} {E : Value → Shared → Prop} {s : Shared}
theorem fst_map : ∀ (vs : List Value) (fs : List (Option Value)) {Q : List (Option Value) → Shared → Prop}, Fst s.heap vs fs → Q fs s → wpAny M A (vs.mapM firstOfTuple') Q E s
  | [], [], _, _, h => by rw [List.mapM_nil]; exact wpAny_pure h
  | [], _ :: _, _, t, _ => t.elim
  | _ :: _, [], _, t, _ => t.elim
  | v :: vs, f :: fs, Q, t, h => by
    obtain ⟨⟨a, o, xs, n, rfl, ho, hc, hd, hf⟩, t⟩ := t
    rw [List.mapM_cons]
    refine wpAny_bind ?_
    rw [kas_first_eq]
    refine wpAny_bind (Looks.here (show Looks M s.heap (typeOf (.ref a)) o.cls from (Looks.ld ho).andThen .now) ?_)
    rw [hc, if_neg (by first | decide | simp)]
    refine wpAny_bind (listItems_at ho hd (wpAny_pure ?_))
    rw [hf]
    exact wpAny_bind (fst_map vs fs (Q := fun bs s' => wpAny M A (pure (f :: bs)) Q E s') t (wpAny_pure h))
/-- the kind of keys where one is the empty tuple -/
theorem kind_mix {vs : List Value} {fs : List (Option Value)} {Q : SortKind → Shared → Prop} (h2 : 1 ≤ vs.length) (t : Fst s.heap vs fs) (he : fs.all (·.isSome) = false) (hT : ∀ v ∈ vs, Looks M s.heap (typeOf v) (.type "tuple")) (h : Q (if (fs[0]?.bind id).isSome then general' else oneType') s) :
    wpAny M A (keyKind' vs.toArray) Q E s := by
  rw [keyKind'_eq, List.mapM_toArray, map_eq_pure_bind]
  refine wpAny_bind (wpAny_bind (fst_map vs fs t (wpAny_pure ?_)))
  have h0 : fs.toArray.all (fun x => x.isSome) = false := by simpa using he
  rw [if_neg (by rw [h0]; exact Bool.false_ne_true)]
  have h1 : (fs.toArray[0]?.bind id).isSome = (fs[0]?.bind id).isSome := by simp
  rw [h1]
  by_cases c : (fs[0]?.bind id).isSome = true
  · rw [if_pos c] at h ⊢
    exact wpAny_pure h
  · rw [if_neg c] at h ⊢
    rw [oneTypeOnly'_eq, List.mapM_toArray, map_eq_pure_bind]
    refine wpAny_bind (wpAny_bind (wpAny_bind (kas_mapM (r := Value.type "tuple") _ (fun v hv Q' hq => (hT v hv).here hq) (wpAny_pure ?_))))
    obtain ⟨v₁, rest, rfl⟩ : ∃ v₁ rest, vs = v₁ :: rest := by
      match vs, h2 with
      | v₁ :: rest, _ => exact ⟨v₁, rest, rfl⟩
    have hall : ((List.map (fun _ => Value.type "tuple") (v₁ :: rest)).toArray.all fun x => x == Value.type "tuple") = true := by
      simp only [List.all_toArray, List.all_map, List.all_eq_true]
      intro _ _
      exact beq_self_eq_true _
    have h0' : (List.map (fun _ => Value.type "tuple") (v₁ :: rest)).toArray[0]? = some (Value.type "tuple") := by simp
    rw [h0']
    simp only [hall, if_true]
    exact wpAny_pure (wpAny_pure h)
end
section
variable {prog : Program} {w : World} {A : Around} {E : Value → Shared → Prop} {s : Shared}
theorem keyLt_general (x y : Value) : keyLt' general' x y = oneLt' false x y := rfl
theorem sortsAt {vs : List Value} {ds : List PyData} (e : EachIs (fun v d => ∃ as, Reads s.heap v d as) vs ds) (hal : AllAlike ds) (hk : ∀ d ∈ ds, ∃ xs, d = .tuple xs) (hu : ∀ d, d ∈ ds → A.units + d.depth < cLine) : SortsAt prog w A s (dataKind s.heap ds) vs := by
  by_cases hall : ∀ d ∈ ds, ne0 d = true
  · refine SortsAt.data e hal (.inl fun d hd => ?_) hu
    obtain ⟨xs, rfl⟩ := hk d hd
    cases xs with
    | nil => exact absurd (hall _ hd) Bool.false_ne_true
    | cons x r => exact ⟨x, r, rfl⟩
  have room : ∀ {d d' : PyData}, d ∈ ds → A.units + min d.depth d'.depth < cLine := fun {d d'} hd => Nat.lt_of_le_of_lt (Nat.add_le_add_left (Nat.min_le_left _ _) _) (hu d hd)
  refine ⟨fun v hv => ?_, ?_⟩
  · obtain ⟨d, hd, as, r⟩ := e.left v hv
    exact ⟨_, dataKind_some hal hd r⟩
  · obtain ⟨fs, h1, h2⟩ := fst_of e hk
    have he : fs.all (·.isSome) = false := by
      have : (fs.map Option.isSome).all id = false := by
        rw [h2, List.all_map, Bool.eq_false_iff]
        intro z
        exact hall fun d hd => List.all_eq_true.mp z d hd
      rw [List.all_map] at this
      exact this
    have cmp : ∀ f : Bool, ∀ (E : Value → Shared → Prop) (x y : Value) (a b : (dataKind s.heap ds).α) (Q : Bool → Shared → Prop), (dataKind s.heap ds).keyOf x = some a → (dataKind s.heap ds).keyOf y = some b → Q ((dataKind s.heap ds).blt a b) s → wpAny (model prog w) A (oneLt' f x y) Q E s := by
      intro f E x y a b Q ha hb hq
      obtain ⟨d, as, hd, ra, rfl⟩ := dataKind_inv ha
      obtain ⟨d', as', hd', rb, rfl⟩ := dataKind_inv hb
      have hdd := hal d hd d' hd'
      have hr := room (d' := d') hd
      obtain ⟨xs, rfl⟩ := hk d hd
      obtain ⟨ys, rfl⟩ := hk d' hd'
      exact oneLt_tup ra rb hdd hr hq
    have hT : ∀ {M : Model}, ∀ v ∈ vs, Looks M s.heap (typeOf v) (.type "tuple") := fun v hv => by
      obtain ⟨d, hd, as, r⟩ := e.left v hv
      obtain ⟨xs, rfl⟩ := hk d hd
      exact looks_reads r
    by_cases c : (fs[0]?.bind id).isSome = true
    · refine ⟨general', fun E x y a b Q ha hb hq => by rw [keyLt_general]; exact cmp false E x y a b Q ha hb hq, fun h2' E Q hq => kind_mix (by omega) h1 he hT ?_⟩
      rw [if_pos c]; exact hq
    · refine ⟨oneType', fun E x y a b Q ha hb hq => by rw [keyLt'_oneType]; exact cmp true E x y a b Q ha hb hq, fun h2' E Q hq => kind_mix (by omega) h1 he hT ?_⟩
      rw [if_neg c]; exact hq
variable {β : Type} {vs : List Value} {bs : List β} {enc : β → PyData} {R : Value → β → Prop}
theorem sorted_tups {l : Addr} {Q : Value → Shared → Prop} (hl : s.heap.IsList l vs.toArray) (e : EachIs R vs bs) (er : EachIs (fun v b => ∃ as, Reads s.heap v (enc b) as) vs bs) (hal : AllAlike (bs.map enc)) (hk : ∀ d ∈ bs.map enc, ∃ xs, d = .tuple xs) (hL : bs.length ≤ sizeLine)
    (hu : ∀ b, b ∈ bs → A.units + 2 + (enc b).depth < cLine) (h : ∀ out, out.length = bs.length → EachIs R out (bs.mergeSort (dataLe false enc)) → Q (.ref (s.heap.objs.size + 1)) { s with heap := sortedAll s.heap vs (List.toArray out) }) :
    wpAny (model prog w) A (call (.builtin "sorted") [.ref l]) Q E s := by
  have er' : EachIs (fun v b => ∃ as, Reads (sortingHeap (copyHeap s.heap vs) (s.heap.objs.size + 1) vs) v (enc b) as) vs bs := er.mono fun _ _ ⟨as, r⟩ => ⟨as, PyProof.Rows.Reads.keeps (fun _ _ => sorting_copy_old) r⟩
  exact sorted_vals hl (sortsAt (s := { s with heap := sortingHeap (copyHeap s.heap vs) (s.heap.objs.size + 1) vs }) (each_map (R := fun v d => ∃ as, Reads (sortingHeap (copyHeap s.heap vs) (s.heap.objs.size + 1) vs) v d as) enc er') hal hk (bound_map hu)) (by rw [e.length]; exact hL)
    (h _ (by rw [sortVals_length false rfl]; exact e.length) (sortVals_data false e er' hal))
end
end TupS
namespace DL
open PySem PySem.Spec L2
open PyProof.Rows hiding St
section
variable {X : Cx} {M : Amb X.K}
theorem cr_sortU (hu : X.A.units + 64 < cLine) : CallR X (.builtin "sorted") (fun vs H Q => ∃ (a : Addr) (xs : List V) (ds : List D) (F : Hp), vs = [V.ref a] ∧ SqL X.K H a xs ∧ Sub F H ∧ DVs X.K F xs ds ∧ (∀ d ∈ ds, d.plain = true ∧ d.py.depth ≤ 60) ∧ PySem.W.AllAlike (ds.map D.py) ∧ (∀ d ∈ ds, ∃ ys, d = DL.D.tup ys) ∧
    ∀ ys p, DVs X.K F ys (ds.mergeSort ordD) → H p = none → Q (.ref p) (upd H p (.lst ys))) := by
  intro pins s σ H vs us Q I r h
  obtain ⟨a, xs, ds, F, rfl, hs, sF, dv, hp, hal, hk, q⟩ := h
  obtain ⟨its, rv, hl, hz⟩ := I.list hs
  rw [Vals.ref1 r]
  refine TupS.sorted_tups (R := fun u d => ∃ v, RelV v u ∧ DV X.K F v d) (enc := D.py) (bs := ds) hl.isList (each_dv rv dv fun v u d a b _ => ⟨v, a, b⟩) (each_dv rv dv fun v u d a b c => Dp.reads I _ _ _ ((b.mono sF).dp (hp d c).1) a) hal (fun d hd => by
    obtain ⟨x, hx, rfl⟩ := List.mem_map.mp hd
    obtain ⟨ys, rfl⟩ := hk x hx
    exact ⟨_, rfl⟩) (by rw [← dv.length]; exact hz) (fun b hb => by
    have := (hp b hb).2
    omega) fun out ho he => ?_
  obtain ⟨ys, hv, hd⟩ := dv_each he
  obtain ⟨ep, he'⟩ := PyProof.Rows.sortedAll_at s.heap its out.toArray
  have hlen : ys.length ≤ sizeLine := by
    rw [hd.length, List.length_mergeSort, ← dv.length]
    exact hz
  exact ⟨.ref _, upd H (s.heap.objs.size + 1) (.lst ys), I.laid (t' := s.toks) (fun _ _ => PyProof.Rows.sortedAll_old) (Nat.le_succ _) ⟨hlen, out, ep, hv, he'⟩, rfl, q _ _ hd (I.hok.fresh (Nat.le_succ _))⟩
def gSortU : List D → (R → Prop) → Prop
  | [.lst xs], Q => (∀ d ∈ xs, d.plain = true ∧ d.py.depth ≤ 60) ∧ PySem.W.AllAlike (xs.map D.py) ∧ (∀ d ∈ xs, ∃ ys, d = DL.D.tup ys) ∧ Q (.nw (.l (xs.mergeSort ordD)))
  | _, _ => False
theorem oc_sortU (hu : X.A.units + 64 < cLine) : OC X M (.builtin "sorted") gSortU := by
  refine ⟨_, cr_sortU hu, ?_⟩
  intro Z ρ α F σ H xs ds Q P R0 cs q k
  rcases ds with _ | ⟨d, _ | ⟨d2, ds⟩⟩
  · exact q.elim
  · obtain ⟨x, rfl, c⟩ := cs.one
    cases d <;> first | exact q.elim | skip
    rename_i ds
    obtain ⟨q1, q2, q3, q⟩ := q
    obtain ⟨a, vs, rfl, ha, da⟩ := c.lst R0
    refine ⟨a, vs, ds, F, rfl, SqL.of ha, R0.sub, da, q1, q2, q3, fun ys p hy hp => ?_⟩
    obtain ⟨r2, s2⟩ := R0.laid (o := .lst ys) hp
    exact k _ _ F _ r2 s2 (RV.list R0 hp hy) q
  · cases d <;> exact q.elim
end
end DL
set_option maxHeartbeats 4000000
namespace DL
open PySem PySem.Spec L2
open PyProof.Rows hiding St
section
variable {X : Cx} {M : Amb X.K}
/-- three names at once; the first two may come to own what they are given -/
def wPar3N {K : PySem.W.Frag} {M : Amb K} (i j l : Nat) (wa wb wc : WE M) : WS M := fun D E => wa E fun ra E1 => nal ra E1 fun ra E2 => wb E2 fun rb E3 => nal rb E3 fun rb E4 => wc E4 fun rc E5 => isFr rc fun d2 => D.nx ((putN j rb (putN i ra E5)).1.set l (some (.d d2)), E5.2)
theorem qs_par3N {i j l : Nat} {x y z : Str} {a b c : Expr} {wa wb wc : WE M} {px py pz pt pos : Pos} {kt k2 pt2} (hN : X.N.Nodup) (ha : QE X M a wa) (hb : QE X M b wb) (hcc : QE X M c wc) (hi : X.N[i]? = some x := by rfl) (hj : X.N[j]? = some y := by rfl) (hl : X.N[l]? = some z := by rfl) (hij : i ≠ j := by decide) (hil : i ≠ l := by decide) (hjl : j ≠ l := by decide)
    (hx : X.env.scope.names.lookup x = some .local := by rfl) (hy : X.env.scope.names.lookup y = some .local := by rfl) (hz : X.env.scope.names.lookup z = some .local := by rfl)
    (hw : swappedStores [.Tuple [.Name x px, .Name y py, .Name z pz] kt pt] (.Tuple [a, b, c] k2 pt2) X.env = pure (some [x, y, z]) := by rfl) (hc : X.calm = true := by rfl)
    (hs : swapsWithSole [.Tuple [.Name x px, .Name y py, .Name z pz] kt pt] (.Tuple [a, b, c] k2 pt2) pos.line X.env = pure false := by rfl) (h1 : starEach [a, b, c] X.env = (false, eval a X.env) :: starEach [b, c] X.env := by rfl) (h2 : starEach [b, c] X.env = (false, eval b X.env) :: starEach [c] X.env := by rfl) (h3 : starEach [c] X.env = (false, eval c X.env) :: starEach [] X.env := by rfl) :
    QS X M (.Assign [.Tuple [.Name x px, .Name y py, .Name z pz] kt pt] (.Tuple [a, b, c] k2 pt2) pos) (wPar3N i j l wa wb wc) := by
  refine ⟨ps_weak (ps_par3 hc hN hi hj hl hij hil hjl hx hy hz (pa_cons ha.run (pa_cons hb.run (pa_cons hcc.run pa_nil h3) h2) h1) hw hs) fun D' σ H ⟨Z, ρ, α, F, D, R0, w, k1, k2, k3, k4⟩ => ?_⟩
  refine ⟨Z, ρ, α, F, _, R0, w, fun v r ρ1 α1 F1 H1 R1 s1 rv q => ?_⟩
  obtain ⟨ra, ρ2, F2, R2, s2, rv2, na, q⟩ := nal_ok R0 s1 R1 rv q
  refine ⟨Z, ρ2, α1, F2, _, R2, q, fun v' r' ρ3 α3 F3 H3 R3 s3 rv' q => ?_⟩
  obtain ⟨rb, ρ4, F4, R4, s4, rv4, nb, q⟩ := nal_ok R2 s3 R3 rv' q
  refine ⟨Z, ρ4, α3, F4, _, R4, q, fun v2 r2 ρ5 α5 F5 H5 R5 s5 rvv q => ?_⟩
  obtain ⟨d2, rfl, q⟩ := isFr_ok q
  have s46 := s4.trans s5
  have ra5 := rv2.step R2 na (fun a _ h z => R0.ownn h (s2.sO a z)) s46 R5.sub
  have rb5 := rv4.step R4 nb (fun a _ h z => R2.ownn h (s4.sO a z)) s5 R5.sub
  have s7 := s2.trans s46
  obtain ⟨R6, e6⟩ := putN_ok i R5 ra5 na fun a e h => ⟨fun z => R0.ownn h (s7.sO a z), R0.zn h⟩
  have rb6 : RV M H1 (putN i ra (ρ5, α5)).1 α5 F5 (σ.set i (some v)) H5 rb v' := by
    cases rb with
    | fr d => exact rb5
    | nw b => exact rb5
    | nt p b c => exact rb5
    | al i b => exact absurd rfl (nb i b)
  have no6 : ∀ a, H1 a = none → ¬ Owned (putN i ra (ρ5, α5)).1 (σ.set i (some v)) a := fun a h z => by
    cases ra with
    | fr d =>
      have z' : Owned (ρ5.set i (some (.d d))) (σ.set i (some v)) a := z
      exact R2.ownn h (s46.sO a (owned_putD z'))
    | nt p b c =>
      have z' : Owned (ρ5.set i (some (.d (.obj p)))) (σ.set i (some v)) a := z
      exact R2.ownn h (s46.sO a (owned_putD z'))
    | al i b => exact absurd rfl (na i b)
    | nw b =>
      have z' : Owned (ρ5.set i (some b)) (σ.set i (some v)) a := z
      rcases owned_set z' with q | q
      · obtain ⟨a', o, e', h2, _⟩ := rv2
        rw [e'] at q
        cases q
        rw [h2] at h
        cases h
      · exact R2.ownn h (s46.sO a q)
  obtain ⟨R7, e7⟩ := putN_ok j R6 rb6 nb fun a e h => ⟨no6 a h, (none_or Z.H a).elim id fun q => absurd h (R2.bT a q)⟩
  have e8 : ((putN i ra (ρ5, α5)).1, α5) = putN i ra (ρ5, α5) := by
    rw [Prod.ext_iff]; exact ⟨rfl, e6.symm⟩
  rw [e8] at R7
  have dv2 : DV X.K F5 v2 d2 := rvv
  exact ⟨v, v', v2, rfl, k1 _ α5 F5 _ H5 (R7.putD l dv2) q⟩
end
end DL
set_option maxHeartbeats 4000000
/-! ### dicts whose keys are tuples: sorted(d), del d[k], d.clear() -/
namespace L2
open PySem PySem.Spec PyProof.Rows PySem.W
section
variable {X : Cx}
abbrev encZ (z : List Key × Addr) : PyData := DL.D.py (DL.tkD z.1)
theorem each_refs {R : Value → (List Key × Addr) → Prop} : ∀ {zs : List (List Key × Addr)}, (∀ z ∈ zs, R (.ref z.2) z) → EachIs R (zs.map fun z => Value.ref z.2) zs
  | [], _ => .nil
  | z :: zs, h => .cons (h z (List.mem_cons_self ..)) (each_refs fun y hy => h y (List.mem_cons_of_mem _ hy))
theorem refs_each {out : List Value} {zs : List (List Key × Addr)} (h : EachIs (fun v z => v = Value.ref z.2) out zs) : out = zs.map fun z => Value.ref z.2 := by
  induction h with
  | nil => rfl
  | cons a _ ih => rw [a, ih, List.map_cons]
theorem dp_key {K : PySem.W.Frag} {H : Hp} {z : List Key × Addr} (h : H z.2 = some (.tup (z.1.map kV))) : Dp K H (.ref z.2) (encZ z) := by
  have : DL.DV K H (.ref z.2) (DL.tkD z.1) := .tup h (DL.dvs_tk z.1)
  refine this.dp ?_
  show DL.D.plains (z.1.map DL.keyD) = true
  generalize z.1 = ks
  induction ks with
  | nil => rfl
  | cons a ks ih =>
    show (DL.D.plain (DL.keyD a) && DL.D.plains (ks.map DL.keyD)) = true
    rw [ih]
    cases a <;> rfl
theorem enc_keys {zs : List (List Key × Addr)} {kvs : List (List Key × V)} (h : zs.map (·.1) = kvs.map (·.1)) : zs.map encZ = kvs.map fun q => DL.D.py (DL.tkD q.1) := by
  have e := congrArg (List.map fun k => DL.D.py (DL.tkD k)) h
  rw [List.map_map, List.map_map] at e
  exact e
theorem cr_sortDT (hc : X.calm = true) (hu : X.A.units + 64 < cLine) : CallR X (.builtin "sorted") (fun vs H Q => ∃ (a : Addr) (kvs : List (List Key × V)), vs = [V.ref a] ∧ Rd H a (.dT kvs) ∧
    AllAlike (kvs.map fun q => DL.D.py (DL.tkD q.1)) ∧ Sortable (kvs.map fun q => DL.D.py (DL.tkD q.1)) ∧
    ∀ (zs : List (List Key × Addr)) p, H p = none → zs.map (·.1) = kvs.map (·.1) → (∀ z ∈ zs, H z.2 = some (.tup (z.1.map kV))) → Q (.ref p) (upd H p (.lst ((zs.mergeSort (dataLe false encZ)).map fun z => V.ref z.2)))) := by
  intro pins s σ H vs us Q I r q
  obtain ⟨a, kvs, rfl, hd, hal, hk, q⟩ := q
  rw [Vals.ref1 r]
  obtain ⟨z, hs, ks, pr, o, es, ep, ho, hx, hdt, he, hn⟩ := (show ObjOk X.prog X.w H s.heap a (.dT kvs) from hd.ok I.hok)
  have l1 : es.size = ks.length := size_of_entries he
  have l2 : kvs.length = ks.length := Paired.length pr
  have ik := isKeys_of pr
  let zs : List (List Key × Addr) := ks.map fun x => (x.1, x.2.1)
  have hzl : zs.length = ks.length := List.length_map _
  have hz1 : zs.map (·.1) = kvs.map (·.1) ∧ ∀ z ∈ zs, H z.2 = some (.tup (z.1.map kV)) := by
    show (ks.map fun x => (x.1, x.2.1)).map (·.1) = kvs.map (·.1) ∧ ∀ z ∈ (ks.map fun x => (x.1, x.2.1)), H z.2 = some (.tup (z.1.map kV))
    clear zs hzl he hn l1 l2 z q hal hk hd I
    induction pr with
    | nil => exact ⟨rfl, fun _ h => nomatch h⟩
    | cons h t ih =>
      cases ik with
      | cons i1 i2 =>
      obtain ⟨e1, e2⟩ := ih i2
      have e0 : _ = _ := h.1
      refine ⟨by rw [List.map_cons, List.map_cons, List.map_cons, e1, e0], fun z hz => ?_⟩
      rw [List.map_cons] at hz
      rcases List.mem_cons.mp hz with rfl | hz
      · show H _ = some (.tup (_))
        have := i1
        rw [e0] at this
        exact this
      · exact e2 z hz
  obtain ⟨hz1, hz2⟩ := hz1
  have hal : AllAlike (zs.map encZ) := by
    have := enc_keys hz1
    rw [this]; exact hal
  have hk : Sortable (zs.map encZ) := by
    have := enc_keys hz1
    rw [this]; exact hk
  refine Calls.call_function_entry PyProof.Rows.kind_sorted PyProof.Rows.plain_sorted PyProof.Rows.entry_sorted (PyProof.Rows.args_sorted1 _) ?_
  unfold Builtin.«sorted»
  refine wpAny_bind (m := checkCount "sorted" 1 1 _) (wpAny_pure ?_)
  refine wpAny_bind (PySem.W.kdu_collect (A := X.A.in1) (kdl_raw hs hx hdt) (I.ok.hd hc) ho (by omega) fun h' tk acc hkp hacc => ?_)
  have ea : acc.toList = zs.map fun z => Value.ref z.2 := by
    have hl : acc.toList.length = ks.length := by rw [Array.length_toList, hacc.1]; exact l1
    apply List.ext_getElem?
    intro j
    show _ = ((ks.map fun x => (x.1, x.2.1)).map fun z => Value.ref z.2)[j]?
    rw [List.map_map, List.getElem?_map]
    cases hj : acc.toList[j]? with
    | none =>
      have h1 := List.getElem?_eq_none_iff.mp hj
      rw [List.getElem?_eq_none (by omega)]
      rfl
    | some v =>
      obtain ⟨en, hen, hv⟩ := hacc.2 j v (by rw [← Array.getElem?_toList]; exact hj)
      have qe := entry_at he j
      rw [hen] at qe
      cases hb : ks[j]? with
      | none =>
        rw [hb] at qe
        exact nomatch (show some en = none from qe)
      | some b =>
        rw [hb] at qe
        have e2 : en = entryOfKey (tupleKind (mixKind X.prog X.w)) b := Option.some.inj qe
        rw [hv, e2]
        rfl
  have hzz : zs.length ≤ sizeLine := by rw [hzl]; omega
  have I1 : Inv X pins σ H { s with heap := h', toks := tk } := I.kept hkp
  refine wpAny_bind (wpAny_newList ?_ (by rw [ea, List.length_map]; exact hzz))
  have hoL : (h'.push (seqObj "list" acc.toList.toArray 0)).get? h'.objs.size = some (seqObj "list" acc.toList.toArray 0) := Heap.get?_push_size _ rfl
  show wpAny _ _ _ _ _ { s with heap := h'.push (seqObj "list" acc.toList.toArray 0), toks := tk }
  have old : ∀ b ob, h'.get? b = some ob → (sortingHeap (h'.push (seqObj "list" acc.toList.toArray 0)) h'.objs.size acc.toList).get? b = some ob := fun b ob e => by
    have hb : b < h'.objs.size := Heap.lt_size e
    exact sortingHeap_old (Nat.ne_of_lt hb) (Heap.get?_push_of_some _ e)
  have er' : EachIs (fun v z => ∃ as, Reads (sortingHeap (h'.push (seqObj "list" acc.toList.toArray 0)) h'.objs.size acc.toList) v (encZ z) as) acc.toList zs := by
    rw [ea]
    rw [ea] at old
    refine each_refs fun z hz => ?_
    obtain ⟨as, r⟩ := Dp.reads I1 _ _ _ (dp_key (K := X.K) (hz2 z hz)) (show RelV (.ref z.2) (.ref z.2) from rfl)
    exact ⟨as, PyProof.Rows.Reads.keeps old r⟩
  have eR : EachIs (fun v z => v = Value.ref z.2) acc.toList zs := by rw [ea]; exact each_refs fun z _ => rfl
  refine wpAny_bind (wpAny_holding (wpAny_call_entry slot_list_sort ⟨_, hoL, rfl⟩ entry_list_sort
    (list_sort_vals (κ := dataKind (sortingHeap (h'.push (seqObj "list" acc.toList.toArray 0)) h'.objs.size acc.toList) (zs.map encZ)) hoL
      (SortsAt.data (s := { s with heap := sortingHeap (h'.push (seqObj "list" acc.toList.toArray 0)) h'.objs.size acc.toList, toks := tk }) (each_map (R := fun v d => ∃ as, Reads (sortingHeap (h'.push (seqObj "list" acc.toList.toArray 0)) h'.objs.size acc.toList) v d as) encZ er') hal hk
        (bound_map fun b _ => by
          have : (encZ b).depth ≤ 1 := by
            show PyData.depth (.tuple (DL.D.pys (b.1.map DL.keyD))) ≤ 1
            have : PyData.depthAll (DL.D.pys (b.1.map DL.keyD)) = 0 := by
              generalize b.1 = ks
              induction ks with
              | nil => simp [DL.D.pys, PyData.depthAll]
              | cons a ks ih =>
                show PyData.depthAll (DL.D.py (DL.keyD a) :: DL.D.pys (ks.map DL.keyD)) = 0
                rw [PyData.depthAll, ih]
                cases a <;> simp [DL.keyD, DL.D.py, PyData.depth]
            rw [PyData.depth, this]; exact Nat.le_refl 1
          show X.A.in1.units + 1 + _ < cLine
          have e1 : X.A.in1.units = X.A.units + 1 := rfl
          omega)) (by rw [eR.length]; exact hzz) ⟨.none, rfl, ?_⟩) (args_list_sort _)))
  have e2 := refs_each (sortVals_data (h' := sortingHeap (h'.push (seqObj "list" acc.toList.toArray 0)) h'.objs.size acc.toList) false eR er' hal)
  rw [e2]
  obtain ⟨e', he'⟩ := PyProof.Rows.sortedHeap_at (vs := acc.toList) (out := ((zs.mergeSort (dataLe false encZ)).map fun z => Value.ref z.2).toArray) hoL
  have rv : Vals ((zs.mergeSort (dataLe false encZ)).map fun z => V.ref z.2) ((zs.mergeSort (dataLe false encZ)).map fun z => Value.ref z.2) := by
    generalize zs.mergeSort (dataLe false encZ) = ws
    induction ws with
    | nil => exact .nil
    | cons w ws ih => exact .cons rfl ih
  refine wpAny_pure ⟨_, rfl, .ref h'.objs.size, upd H h'.objs.size (.lst ((zs.mergeSort (dataLe false encZ)).map fun z => V.ref z.2)), I1.laid (t' := tk) (fun b u e => ?_) (Nat.le_refl _)
    ⟨by rw [List.length_map, List.length_mergeSort]; exact hzz, _, e', rv, he'⟩, rfl, q zs _ (I1.hok.fresh (Nat.le_refl _)) hz1 hz2⟩
  have hb : b < h'.objs.size := Heap.lt_size e
  rw [PyProof.Rows.sortedHeap_old (Nat.ne_of_lt hb) (by rw [size_push']; exact Nat.lt_succ_of_lt hb)]
  exact Heap.get?_push_of_some _ e
end
end L2
set_option maxHeartbeats 4000000
/-! ### del d[k], d.clear() of a dict whose keys are tuples -/
namespace L2
open PySem PySem.Spec PyProof.Rows PySem.W L2.DX
namespace DTx
open DT
section
variable {K : Type} [DecidableEq K] {prog : Program} {w : World} {knd : HeapKind prog w K} {A : Around} {E : Value → Shared → Prop} {s : Shared}
theorem meetsDel {d b : Addr} {k : K} :
    MeetsIn prog w (Builtin.«dict.__delitem__» ⟨[.ref d, .ref b], []⟩) (fun A R s => ∃ xs, knd.room A.in1 ∧ knd.is s.heap k b ∧ s.heap.DictOfH knd d xs ∧ xs.length ≤ sizeLine ∧
      (atKey xs k).isSome = true ∧ ∀ h' tk, h'.DictOfH knd d (dropH xs k) → Heap.SameBut d s.heap h' → R (.ok (.ret .none)) { s with heap := h', toks := tk }) :=
  .of_wp fun A R s ⟨xs, hu, hkey, hm, hsz, hthere, h⟩ => by
    unfold Builtin.«dict.__delitem__»
    refine wpAny_bind ?_
    unfold Builtin.Dict.dictSlotArgs
    refine wpAny_bind (wpAny_notOrdered_dict hm.typeIs ?_)
    show wpAny _ _ (pure (Value.ref d, Value.ref b)) _ _ s
    refine wpAny_pure ?_
    show wpAny _ _ (Builtin.Dict.takeOut d (.ref b) >>= _) _ _ s
    refine wpAny_bind (takeH hu hkey hm hsz (fun hn => by rw [hn] at hthere; exact absurd hthere (by decide)) fun p e _ _ h' hm' hs' => ?_)
    exact wpAny_bind (wpAny_letGo (wpAny_pure ⟨.none, rfl, h h' _ hm' hs'⟩))
end
end DTx
section
variable {X : Cx}
def sDDelT (td ty : TE) : TS := fun D σ H => td σ H fun x H1 => ty σ H1 fun y H2 => ∃ (a : Addr) (kvs : List (List Key × V)) (k : List Key) (b : Addr), x = .ref a ∧ H2 a = some (.dT kvs) ∧ y = .ref b ∧ H2 b = some (.tup (k.map kV)) ∧ (valV kvs k).isSome = true ∧ D.nx σ (upd H2 a (.dT (dropK kvs k)))
theorem d_delItemT {A : Around} {E : Value → Shared → Prop} {s : Shared} {pins : List (Addr × Obj)} {σ : St} {H : Hp} {a b : Addr} {kvs : List (List Key × V)} {k : List Key} {Q : Unit → Shared → Prop} (hu : A.units + 1 < cLine) (I : Inv X pins σ H s) (ha : H a = some (.dT kvs)) (hb : H b = some (.tup (k.map kV))) (l : (valV kvs k).isSome = true)
    (h : ∀ s', Inv X pins σ (upd H a (.dT (dropK kvs k))) s' → Q () s') : wpAny (model X.prog X.w) A (delItem (.ref a) (.ref b)) Q E s := by
  obtain ⟨z, hd, xs', rel, dd⟩ := dt_of I.hok ha
  have hz : xs'.length ≤ sizeLine := by rw [← Paired.length rel]; exact z
  have r := rel.val k
  refine wpAny_delItem_slot dd.typeIs (by decide) PySem.F.slot_dict_delitem
    (call_meetsIn PySem.F.slot_dict_delitem dd.typeIs PySem.F.entry_dict_delitem (PySem.F.args_dict_delitem_2 _ _) (DTx.meetsDel (knd := tupleKind (mixKind X.prog X.w)) (k := k))
      ⟨xs', tupleKind_room_in1 hu, key_of I.hok hb, dd, hz, ?_, fun h' tk dd' hs => ?_⟩)
  · cases ea : atKey xs' k with
    | some p => rfl
    | none =>
      rw [ea] at r
      cases ev : valV kvs k with
      | none => rw [ev] at l; cases l
      | some v0 => rw [ev] at r; exact (show False from r).elim
  · obtain ⟨o, es, ep, hq, h2, h3, h4, _, h5⟩ := dd'
    exact h _ (d_write I (by rw [ha]; exact True.intro) hs ⟨o, hq⟩ ⟨Nat.le_trans (dropK_le kvs k) z, hd, _, (KT_drop k rel).keeps (fun c ys ec => (by rw [upd_ne (ne_of ec ha (fun z => nomatch z))]; exact ec)), o, es, ep, hq, h2, h3, h4, h5⟩)
theorem ps_ddelT {o i : Expr} {pos tpos : Pos} {td ty : TE} (hu : X.A.units + 1 < cLine) (ho : PE X o td) (hi : PE X i ty) : PS X (.Delete [.Subscript o i tpos] pos) (sDDelT td ty) := by
  refine ⟨fun pins s σ H D I h => ?_⟩
  refine wpAny_Delete (wpAny_deleteEach_cons (wpAny_delete_Subscript (thn (ho.run pins s σ H _ I h) fun u s1 ⟨x, H1, I1, rx, q1⟩ => thn (hi.run pins s1 σ H1 _ I1 q1) fun iv s2 ⟨y, H2, I2, ry, a, kvs, k, b, ex, e, ey, eb, l, q2⟩ => ?_)))
  subst ex ey
  obtain rfl : u = Value.ref a := rx
  obtain rfl : iv = Value.ref b := ry
  exact d_delItemT hu I2 e eb l fun s3 I3 => wpAny_deleteEach_nil ⟨σ, _, I3, q2⟩
def rDClearT : V → List V → Hp → VK → Prop := fun x vs H Q => ∃ (a : Addr) (kvs : List (List Key × V)), x = .ref a ∧ vs = [] ∧ H a = some (.dT kvs) ∧ Q .non (upd H a (.dT []))
theorem mtd_clearT : MtR X "dict.clear" rDClearT := by
  intro pins s σ H x vs v us Q I rx rv h
  obtain ⟨a, kvs, ex, ev, ha, q⟩ := h
  subst ex
  subst ev
  obtain rfl : v = Value.ref a := rx
  have hus := rv.zero
  subst hus
  obtain ⟨z, hd, xs', rel, dd⟩ := dt_of I.hok ha
  have hz : xs'.length ≤ sizeLine := by rw [← Paired.length rel]; exact z
  obtain ⟨o, es, ep, hq, h2, h3, h4, _, h5⟩ := id dd
  have hes : es.size = xs'.length := size_of_entries h4
  refine call_meetsIn PySem.F.slot_dict_clear dd.typeIs PySem.F.entry_dict_clear (PySem.F.args_dict_clear_1 _) (meets_dict_clear_raw a) ⟨es, ep, ⟨o, hq, h2, h3⟩, by omega, fun h' dd' hs => ?_⟩
  obtain ⟨o', hq', h2', h3'⟩ := dd'
  exact ⟨.non, _, d_write (ob := .dT []) (t' := s.toks) I (by rw [ha]; exact True.intro) hs ⟨o', hq'⟩ ⟨Nat.zero_le _, hd, [], .nil, o', #[], ep + 1, hq', h2', h3', rfl, .nil⟩, rfl, q⟩
theorem pe_dclearT {o : Expr} {to : TE} {apos cpos : Pos} (ho : PE X o to) (hbase : attributeBase o "clear" X.env (eval o X.env) = eval o X.env := by rfl) (hline : (apos.endLine == cpos.line) = true := by rfl) : PE X (.Call (.Attribute o "clear" apos) [] [] cpos) (tBM0 X.K "dict" rDClearT to) :=
  pe_bm0 PySem.F.plainAttrs_dict PySem.F.slot_dict_clear PySem.F.type_dict_clear mtd_clearT ho hbase hline
end
end L2
namespace DL
open PySem PySem.Spec L2
open PyProof.Rows hiding St
section
variable {X : Cx} {M : Amb X.K}
/-- sorted(d), d's keys tuples -/
def gSortDT : List D → (R → Prop) → Prop
  | [.dcT ps], Q => PySem.W.AllAlike (ps.map fun p => p.1.py) ∧ PySem.W.Sortable (ps.map fun p => p.1.py) ∧ Q (.nw (.l ((keyDs ps).mergeSort ordD)))
  | _, _ => False
theorem Rel.learnZs {Z : Base M} {ρ : List (Option B)} {α : M.S} {σ : L2.St} {H : Hp} : ∀ {F : Hp} {zs : List (List Key × Addr)}, Rel M Z ρ α F σ H → (∀ z ∈ zs, H z.2 = some (.tup (z.1.map kV))) →
    ∃ F', Rel M Z ρ α F' σ H ∧ Stp M σ ρ α F H ρ α F' H ∧ DVs X.K F' (zs.map fun z => V.ref z.2) (zs.map fun z => tkD z.1)
  | F, [], R0, _ => ⟨F, R0, .refl, .nil⟩
  | F, (k, b) :: zs, R0, h => by
    obtain ⟨F1, R1, s1, e1⟩ := R0.learn (h _ (List.mem_cons_self ..))
    obtain ⟨F2, R2, s2, d2⟩ := Rel.learnZs R1 fun z hz => h z (List.mem_cons_of_mem _ hz)
    exact ⟨F2, R2, s1.trans s2, .cons (.tup (s2.sF _ _ e1) (dvs_tk k)) d2⟩
theorem oc_sortDT (hu : X.A.units + 64 < cLine) (hc : X.calm = true := by rfl) : OC X M (.builtin "sorted") gSortDT := by
  refine ⟨_, cr_sortDT hc hu, ?_⟩
  intro Z ρ α F σ H xs ds Q P R0 cs q k
  rcases ds with _ | ⟨d, _ | ⟨d2, ds⟩⟩
  · exact q.elim
  · obtain ⟨x, rfl, c⟩ := cs.one
    cases d <;> first | exact q.elim | skip
    rename_i ps
    obtain ⟨q1, q2, q⟩ := q
    obtain ⟨a, kvs, rfl, ha, da⟩ := c.dcT R0
    have ek : ps.map (fun p => p.1.py) = kvs.map fun q => D.py (tkD q.1) := by
      have := congrArg (List.map D.py) da.keys
      rw [List.map_map, List.map_map, List.map_map] at this
      exact this
    rw [ek] at q1 q2
    refine ⟨a, kvs, rfl, .inl ha, q1, q2, fun zs p hp hz hb => ?_⟩
    obtain ⟨F1, R1, s1, d1⟩ := R0.learnZs (zs := zs.mergeSort (PySem.W.dataLe false L2.encZ)) fun z h => hb z ((List.mergeSort_perm _ _).mem_iff.mp h)
    obtain ⟨r2, s2⟩ := R1.laid (o := .lst ((zs.mergeSort (PySem.W.dataLe false L2.encZ)).map fun z => V.ref z.2)) hp
    have es : (zs.mergeSort (PySem.W.dataLe false L2.encZ)).map (fun z => tkD z.1) = (keyDs ps).mergeSort ordD := by
      have e1 : keyDs ps = zs.map fun z => tkD z.1 := by
        unfold keyDs
        rw [da.keys, ← hz, List.map_map]
        rfl
      rw [e1]
      exact List.map_mergeSort fun _ _ _ _ => rfl
    rw [es] at d1
    exact k _ _ F1 _ r2 (s1.trans s2) (RV.list R1 hp d1) q
  · cases d <;> exact q.elim
/-- d.clear() -/
def wClearT {K : PySem.W.Frag} {M : Amb K} (i : Nat) : WS M := fun D E => asMT E.1[i]? fun _ => D.nx (E.1.set i (some (.mT [])), E.2)
theorem qs_dclearT {i : Nat} {x : Str} {p apos cpos pos : Pos} (hx : PE X (.Name x p) (tVar i)) (hbase : attributeBase (.Name x p) "clear" X.env (eval (.Name x p) X.env) = eval (.Name x p) X.env := by rfl) (hline : (apos.endLine == cpos.line) = true := by rfl)
    (hsw : swapsWith (.Call (.Attribute (.Name x p) "clear" apos) [] [] cpos) none pos.line X.env = pure false := by rfl) : QS X M (.Expr (.Call (.Attribute (.Name x p) "clear" apos) [] [] cpos) pos) (wClearT i) := by
  refine ⟨ps_weak (ps_expr (pe_dclearT hx hbase hline) hsw) fun D' σ H ⟨Z, ρ, α, F, D, R0, w, k1, k2, k3, k4⟩ => ?_⟩
  obtain ⟨ps, e0, q⟩ := asMT_ok w
  obtain ⟨a, o, q1, q2, q3, _⟩ := R0.own i _ e0 rfl
  obtain ⟨kvs, rfl⟩ : ∃ kvs, o = .dT kvs := by
    cases o <;> first | exact ⟨_, rfl⟩ | exact q3.elim
  exact ⟨.ref a, q1, .inr (.inr (.inl ⟨rfl, .inr ⟨kvs, q2⟩⟩)), a, kvs, rfl, rfl, q2, k1 _ α F σ _ (R0.write e0 rfl q1 (o := .dT []) (b' := .mT []) DTs.nil) q⟩
/-- del d[k] -/
def dropT (ps : List (D × D)) (k : List Key) : List (D × D) := ps.filter fun p => !decide (tkeyOf p.1 = some k)
def wDelT {K : PySem.W.Frag} {M : Amb K} (i : Nat) (wk : WE M) : WS M := fun D E => asMT E.1[i]? fun _ => wk E fun rk E1 => asMT E1.1[i]? fun ps => ∃ k, tkeyOf rk.c = some k ∧ (lookT ps k).isSome = true ∧ D.nx (E1.1.set i (some (.mT (dropT ps k))), E1.2)
theorem DTs.drop {K : PySem.W.Frag} {F : Hp} {k : List Key} : ∀ {kvs : List (List Key × V)} {ps : List (D × D)}, DTs K F kvs ps → DTs K F (dropK kvs k) (dropT ps k)
  | _, _, .nil => .nil
  | _, _, .cons (k := k') (v := v) (d := d) h t => by
    have ih := DTs.drop (k := k) t
    unfold dropK dropT at ih ⊢
    by_cases c : k' = k
    · rw [List.filter_cons_of_neg (by simpa using c), List.filter_cons_of_neg (by rw [show tkeyOf (DL.D.tup (k'.map keyD), d).1 = some k' from tkey_tk k']; simpa using c)]
      exact ih
    · rw [List.filter_cons_of_pos (by simpa using c), List.filter_cons_of_pos (by rw [show tkeyOf (DL.D.tup (k'.map keyD), d).1 = some k' from tkey_tk k']; simpa using c)]
      exact .cons h ih
theorem qs_delT {i : Nat} {x : Str} {p tpos pos : Pos} {ek : Expr} {wk : WE M} (hu : X.A.units + 64 < cLine) (hx : PE X (.Name x p) (tVar i)) (hk : QE X M ek wk) : QS X M (.Delete [.Subscript (.Name x p) ek tpos] pos) (wDelT i wk) := by
  refine ⟨ps_weak (ps_ddelT (by omega) hx hk.run) fun D' σ H ⟨Z, ρ, α, F, D, R0, w, k1, k2, k3, k4⟩ => ?_⟩
  obtain ⟨ps0, e0, q⟩ := asMT_ok w
  obtain ⟨a, o, q1, q2, q3, _⟩ := R0.own i _ e0 rfl
  refine ⟨.ref a, q1, Z, ρ, α, F, _, R0, q, fun vk rk ρ3 α3 F3 H3 R3 s3 rvk q => ?_⟩
  have c := rvk.cv R3
  obtain ⟨ps, e2, ky, hky, hl, q⟩ := asMT_ok q
  obtain ⟨a', o', g1, g2, g3, _⟩ := R3.own i _ e2 rfl
  rw [q1] at g1
  cases g1
  obtain ⟨kvs, rfl⟩ : ∃ kvs, o' = .dT kvs := by
    cases o' <;> first | exact ⟨_, rfl⟩ | exact g3.elim
  have g3 : DTs X.K F3 kvs ps := g3
  obtain ⟨b, rfl, _, hb⟩ := c.tkey R3 hky
  have hv := g3.look (k := ky)
  obtain ⟨d, hd⟩ := Option.isSome_iff_exists.mp hl
  rw [hd] at hv
  obtain ⟨v, hv, _⟩ := hv
  exact ⟨a, kvs, ky, b, rfl, g2, rfl, hb, by rw [hv]; rfl, k1 _ α3 F3 σ _ (R3.write e2 rfl q1 (o := .dT (dropK kvs ky)) (b' := .mT (dropT ps ky)) (DTs.drop g3)) q⟩
end
end DL
set_option maxHeartbeats 4000000
namespace DL
open PySem PySem.Spec L2
open PyProof.Rows hiding St
section
variable {X : Cx} {M : Amb X.K}
/-- three names at once, some of them captured -/
theorem qs_par3NT {i j l : Nat} {x y z : Str} {a b c : Expr} {wa wb wc : WE M} {px py pz pt pos : Pos} {kt k2 pt2} (hN : X.N.Nodup) (ha : QE X M a wa) (hb : QE X M b wb) (hcc : QE X M c wc) (hi : X.N[i]? = some x := by rfl) (hj : X.N[j]? = some y := by rfl) (hl : X.N[l]? = some z := by rfl)
    (hx : Loc X.env.scope x := by first | exact .inl rfl | exact .inr rfl) (hy : Loc X.env.scope y := by first | exact .inl rfl | exact .inr rfl) (hz : Loc X.env.scope z := by first | exact .inl rfl | exact .inr rfl)
    (fx : X.fn x = true ∨ X.env.scope.names.lookup x = some .local := by first | exact .inl rfl | exact .inr rfl) (fy : X.fn y = true ∨ X.env.scope.names.lookup y = some .local := by first | exact .inl rfl | exact .inr rfl) (fz : X.fn z = true ∨ X.env.scope.names.lookup z = some .local := by first | exact .inl rfl | exact .inr rfl)
    (hw : swappedStores [.Tuple [.Name x px, .Name y py, .Name z pz] kt pt] (.Tuple [a, b, c] k2 pt2) X.env = pure none := by rfl) (hc : X.calm = true := by rfl)
    (hs : swapsWithSole [.Tuple [.Name x px, .Name y py, .Name z pz] kt pt] (.Tuple [a, b, c] k2 pt2) pos.line X.env = pure false := by rfl) (h1 : starEach [a, b, c] X.env = (false, eval a X.env) :: starEach [b, c] X.env := by rfl) (h2 : starEach [b, c] X.env = (false, eval b X.env) :: starEach [c] X.env := by rfl) (h3 : starEach [c] X.env = (false, eval c X.env) :: starEach [] X.env := by rfl) :
    QS X M (.Assign [.Tuple [.Name x px, .Name y py, .Name z pz] kt pt] (.Tuple [a, b, c] k2 pt2) pos) (wPar3N i j l wa wb wc) := by
  refine ⟨ps_weak (ps_asg (pe_tup (pa_cons ha.run (pa_cons hb.run (pa_cons hcc.run pa_nil h3) h2) h1)) (pg_tup hc (pgs_cons (pg_name hN hi hx fx) (pgs_cons (pg_name hN hj hy fy) (pgs_cons (pg_name hN hl hz fz) pgs_nil)))) hs hw) fun D' σ H ⟨Z, ρ, α, F, D, R0, w, k1, k2, k3, k4⟩ => ?_⟩
  refine ⟨Z, ρ, α, F, _, R0, w, fun v r ρ1 α1 F1 H1 R1 s1 rv q => ?_⟩
  obtain ⟨ra, ρ2, F2, R2, s2, rv2, na, q⟩ := nal_ok R0 s1 R1 rv q
  refine ⟨Z, ρ2, α1, F2, _, R2, q, fun v' r' ρ3 α3 F3 H3 R3 s3 rv' q => ?_⟩
  obtain ⟨rb, ρ4, F4, R4, s4, rv4, nb, q⟩ := nal_ok R2 s3 R3 rv' q
  refine ⟨Z, ρ4, α3, F4, _, R4, q, fun v2 r2 ρ5 α5 F5 H5 R5 s5 rvv q => ?_⟩
  obtain ⟨d2, rfl, q⟩ := isFr_ok q
  refine ⟨by show 3 ≤ sizeLine; decide, fun p hp => ?_⟩
  obtain ⟨RL, sL⟩ := R5.laid (o := .tup [v, v', v2]) hp
  have s5L := s5.trans sL
  have s46 := s4.trans s5L
  have ra5 := rv2.step R2 na (fun a _ h z => R0.ownn h (s2.sO a z)) s46 RL.sub
  have rb5 := rv4.step R4 nb (fun a _ h z => R2.ownn h (s4.sO a z)) s5L RL.sub
  have s7 := s2.trans s46
  obtain ⟨R6, e6⟩ := putN_ok i RL ra5 na fun a e h => ⟨fun z => R0.ownn h (s7.sO a z), R0.zn h⟩
  have rb6 : RV M H1 (putN i ra (ρ5, α5)).1 α5 F5 (σ.set i (some v)) (upd H5 p (.tup [v, v', v2])) rb v' := by
    cases rb with
    | fr d => exact rb5
    | nw b => exact rb5
    | nt p b c => exact rb5
    | al i b => exact absurd rfl (nb i b)
  have no6 : ∀ a, H1 a = none → ¬ Owned (putN i ra (ρ5, α5)).1 (σ.set i (some v)) a := fun a h z => by
    cases ra with
    | fr d =>
      have z' : Owned (ρ5.set i (some (.d d))) (σ.set i (some v)) a := z
      exact R2.ownn h (s46.sO a (owned_putD z'))
    | nt p b c =>
      have z' : Owned (ρ5.set i (some (.d (.obj p)))) (σ.set i (some v)) a := z
      exact R2.ownn h (s46.sO a (owned_putD z'))
    | al i b => exact absurd rfl (na i b)
    | nw b =>
      have z' : Owned (ρ5.set i (some b)) (σ.set i (some v)) a := z
      rcases owned_set z' with q | q
      · obtain ⟨a', o, e', h2, _⟩ := rv2
        rw [e'] at q
        cases q
        rw [h2] at h
        cases h
      · exact R2.ownn h (s46.sO a q)
  obtain ⟨R7, e7⟩ := putN_ok j R6 rb6 nb fun a e h => ⟨no6 a h, (none_or Z.H a).elim id fun q => absurd h (R2.bT a q)⟩
  have e8 : ((putN i ra (ρ5, α5)).1, α5) = putN i ra (ρ5, α5) := by
    rw [Prod.ext_iff]; exact ⟨rfl, e6.symm⟩
  rw [e8] at R7
  have dv2 : DV X.K F5 v2 d2 := rvv
  exact ⟨p, [v, v', v2], rfl, SqT.of upd_same, rfl, v, [v', v2], rfl, v', [v2], rfl, v2, [], rfl, rfl, k1 _ α5 F5 _ _ (R7.putD l dv2) q⟩
end
end DL
set_option maxHeartbeats 4000000
namespace DL
open PySem PySem.Spec L2
open PyProof.Rows hiding St
section
variable {X : Cx} {M : Amb X.K}
theorem tru_ok {Z : Base M} {ρ : List (Option B)} {α : M.S} {F H : Hp} {σ : L2.St} {v : V} {d : D} {P : Bool → Prop} (R1 : Rel M Z ρ α F σ H) (c : CV M α F H v d) (q : tru d P) : ∃ k, TruV X.K v H k ∧ P k := by
  cases d <;> first | exact q.elim | skip
  · rw [c.non]; exact ⟨false, rfl, q⟩
  · rw [c.bl]; exact ⟨_, rfl, q⟩
  · rw [c.int]; exact ⟨_, rfl, q⟩
  · obtain ⟨a, vs, rfl, h2, h3⟩ := c.lst R1
    exact ⟨_, .inl ⟨vs, SqL.of h2, by rw [h3.isEmpty]⟩, q⟩
  · obtain ⟨a, vs, rfl, h2, h3⟩ := c.tup R1
    exact ⟨_, .inr (.inl ⟨vs, R1.sub.t h2, by rw [h3.isEmpty]⟩), q⟩
/-- a or b: the first that is true, else the last -/
def wOrT {K : PySem.W.Frag} {M : Amb K} (wa wb : WE M) : WE M := fun E Q => wa E fun r E' => tru r.c fun b => if b = true then Q r E' else wb E' Q
theorem qe_orT {a b : Expr} {rest : List Expr} {pos : Pos} {wa wb : WE M} (ha : QE X M a wa) (hb : QE X M (.BoolOp .Or (b :: rest) pos) wb) : QE X M (.BoolOp .Or (a :: b :: rest) pos) (wOrT wa wb) := by
  refine ⟨pe_weak (pe_orT ha.run hb.run) fun σ H Q' ⟨Z, ρ, α, F, Q, R0, w, k⟩ => ?_⟩
  refine ⟨Z, ρ, α, F, _, R0, w, fun v r ρ' α' F' H' R1 s1 rv q => ?_⟩
  obtain ⟨b, ht, q⟩ := tru_ok R1 (rv.cv R1) q
  refine ⟨b, ht, ?_⟩
  cases b with
  | true => exact k v r ρ' α' F' H' R1 s1 rv q
  | false => exact ⟨Z, ρ', α', F', Q, R1, q, fun v r ρ2 α2 F2 H2 R2 s2 rv2 q2 => k v r ρ2 α2 F2 H2 R2 (s1.trans s2) (rv2.back s1.sT) q2⟩
end
end DL
set_option maxHeartbeats 4000000
namespace DL
open PySem PySem.Spec L2
open PyProof.Rows hiding St
section
variable {X : Cx} {M : Amb X.K} {tg : Expr}
theorem itOk_keysK {F0 : Hp} {a : Addr} {od : Obj} {kvs : List (Key × V)} {ps : List (D × D)} (h : F0 a = some (.frz od (.dK kvs))) (dk : DKs X.K F0 kvs ps) : ItOk M (Itk a od kvs) (keysD ps) F0 := by
  intro H2 s
  have e2 := s _ _ h
  have hl : (keysD ps).length = kvs.length := by rw [dk.length]; unfold keysD; simp
  refine ⟨fun j hj => ⟨e2, by omega⟩, ⟨e2, by omega⟩, fun j x d H' Z ρ α F2 σ R0 sf y hd => ?_⟩
  obtain ⟨rfl, key, v, hkv, rfl⟩ := y
  obtain ⟨d', hd', dv'⟩ := dk.get hkv
  refine ⟨F2, R0, .refl, ?_⟩
  unfold keysD at hd
  rw [List.getElem?_map, hd'] at hd
  cases hd
  exact kV_dv key
/-- for k in d, d a dict just made -/
def wKeysN {K : PySem.W.Frag} {M : Amb K} (w : WE M) : WI M := fun E Q => w E fun r E1 => isNewM r fun ps => Q (keysD ps) E1
theorem qi_keysN {e : Expr} {w : WE M} (he : QE X M e w) : QI X M tg e (wKeysN w) := by
  refine ⟨pi_weak (pi_keys (pe_lockN he.run)) fun σ H R' ⟨Z, ρ, α, F, Q, R0, w, k⟩ => ?_⟩
  refine ⟨Z, ρ, α, F, _, R0, w, fun v r ρ1 α1 F1 H1 R1 s1 rv q => ?_⟩
  obtain ⟨ps, rfl, q⟩ := isNewM_ok q
  obtain ⟨a, o, rfl, h1, h2, h3, h4, h5⟩ := rv
  obtain ⟨kvs, rfl⟩ : ∃ kvs, o = .dK kvs := by
    cases o <;> first | exact ⟨_, rfl⟩ | exact h2.elim
  have dk : DKs X.K F1 kvs ps := h2
  have no : ¬ Owned ρ1 σ a := fun z => R0.ownn h5 (s1.sO a z)
  have zn := R0.zn h5
  refine ⟨a, kvs, rfl, h1, fun od => ?_⟩
  have R2 := R1.mutNew (o := .frz od (.dK kvs)) (ne_none h1) h3 h4 no zn
  have R3 := R2.frz upd_same h3 h4 no zn
  have sF : Sub F1 (upd F1 a (.frz od (.dK kvs))) := (Sub.refl F1).upd h3
  have s2 := s1.mutNew (o := .frz od (.dK kvs)) h5
  refine ⟨a, od, rfl, .inl ⟨kvs, upd_same, k _ _ ρ1 α1 _ _ R3 ⟨s2.sF.trans sF, s2.sH, s2.sT, s2.sN, fun b hb => ?_, s2.sO⟩ (itOk_keysK upd_same (dk.mono sF)) q⟩⟩
  by_cases e : b = a
  · subst e
    exact .inr (.inl (.inl h5))
  · rw [upd_ne e] at hb
    exact (s2.sZ b hb).imp id fun q => q.imp (fun q => q.mono sF) id
end
end DL
set_option maxHeartbeats 4000000
namespace DL
open PySem PySem.Spec L2
/-! ### the scope of a comprehension that stands within a def: the way to it -/
def noE : Expr := .Tuple [] 0 ⟨0, 0, 0, 0⟩
def noS : Stmt := .Pass ⟨0, 0, 0, 0⟩
def pRet : Stmt → Expr | .Return (some e) _ => e | _ => noE
def pAsg : Stmt → Expr | .Assign _ e _ => e | _ => noE
def pEx : Stmt → Expr | .Expr e _ => e | _ => noE
def pForI : Stmt → Expr | .For _ e _ _ _ => e | _ => noE
def pForB (i : Nat) : Stmt → Stmt | .For _ _ b _ _ => b.getD i noS | _ => noS
def pIfT : Stmt → Expr | .If e _ _ _ => e | _ => noE
def pIfB (i : Nat) : Stmt → Stmt | .If _ b _ _ => b.getD i noS | _ => noS
def pIfO (i : Nat) : Stmt → Stmt | .If _ _ b _ => b.getD i noS | _ => noS
def pWhT : Stmt → Expr | .While e _ _ _ => e | _ => noE
def pWhB (i : Nat) : Stmt → Stmt | .While _ b _ _ => b.getD i noS | _ => noS
def eArg (i : Nat) : Expr → Expr | .Call _ a _ _ => a.getD i noE | _ => noE
def eFun : Expr → Expr | .Call f _ _ _ => f | _ => noE
def eAtt : Expr → Expr | .Attribute v _ _ => v | _ => noE
def eBinL : Expr → Expr | .BinOp a _ _ _ => a | _ => noE
def eBinR : Expr → Expr | .BinOp _ _ a _ => a | _ => noE
def eSeq (i : Nat) : Expr → Expr | .Tuple a _ _ => a.getD i noE | .List a _ => a.getD i noE | _ => noE
def eCmpL : Expr → Expr | .Compare a _ _ _ => a | _ => noE
def eCmpR (i : Nat) : Expr → Expr | .Compare _ _ a _ => a.getD i noE | _ => noE
def eIfT : Expr → Expr | .IfExp a _ _ _ => a | _ => noE
def eIfB : Expr → Expr | .IfExp _ a _ _ => a | _ => noE
def eIfO : Expr → Expr | .IfExp _ _ a _ => a | _ => noE
def eSubV : Expr → Expr | .Subscript a _ _ => a | _ => noE
def eSubS : Expr → Expr | .Subscript _ a _ => a | _ => noE
def eBool (i : Nat) : Expr → Expr | .BoolOp _ a _ => a.getD i noE | _ => noE
def eUn : Expr → Expr | .UnaryOp _ a _ => a | _ => noE
def eElt : Expr → Expr | .ListComp a _ _ _ => a | _ => noE
def eVal : Expr → Expr | .DictComp _ a _ _ _ => a | _ => noE
def eGen (i : Nat) : Expr → Expr | .ListComp _ g _ _ => (g.map fun (c : Comprehension) => match c with | .mk _ it _ _ => it).getD i noE | .DictComp _ _ g _ _ => (g.map fun (c : Comprehension) => match c with | .mk _ it _ _ => it).getD i noE | _ => noE
def eCnd (i : Nat) : Expr → Expr | .ListComp _ g _ _ => (g.flatMap fun (c : Comprehension) => match c with | .mk _ _ ifs _ => ifs).getD i noE | .DictComp _ _ g _ _ => (g.flatMap fun (c : Comprehension) => match c with | .mk _ _ ifs _ => ifs).getD i noE | _ => noE
def compSc (d : Scope) : Expr → Scope | .ListComp _ _ s _ => s | .DictComp _ _ _ s _ => s | _ => d
/-- within a comprehension: what it takes from the def is a cell -/
def relab (sc scope : Scope) : Scope := { scope with names := scope.names.map fun (n, k) => if (k == .free && sc.kind == .function && sc.names.lookup n == some .cell) then (n, .cell) else (n, k) }
end DL
set_option maxHeartbeats 4000000
namespace DL
open PySem PySem.Spec L2
open PyProof.Rows hiding St
section
variable {X : Cx} {M : Amb X.K}
/-- slot i stands still from here on -/
def givB (b : Option (Option B)) (Q : B → Prop) : Prop := match b with
  | some (some b) => Q b
  | _ => False
theorem givB_ok {b : Option (Option B)} {Q : B → Prop} (h : givB b Q) : ∃ x, b = some (some x) ∧ Q x := by
  unfold givB at h
  split at h
  · exact ⟨_, rfl, h⟩
  · exact h.elim
def wGiv {K : PySem.W.Frag} {M : Amb K} (i : Nat) (w : WE M) : WE M := fun E Q => givB E.1[i]? fun b => w (E.1.set i (some (.d b.toD)), E.2) Q
theorem Rel.giv {Z : Base M} {ρ : List (Option B)} {α : M.S} {F H : Hp} {σ : L2.St} {i : Nat} {b : B} (R0 : Rel M Z ρ α F σ H) (e : ρ[i]? = some (some b)) : ∃ F', Rel M Z (ρ.set i (some (.d b.toD))) α F' σ H ∧ Stp M σ ρ α F H (ρ.set i (some (.d b.toD))) α F' H := by
  by_cases ow : b.own = true
  · obtain ⟨a, o, h1, _⟩ := R0.own i b e ow
    obtain ⟨F', r, s, _⟩ := R0.give e ow h1
    exact ⟨F', r, s⟩
  · cases b with
    | d d =>
      have hi := (List.getElem?_eq_some_iff.mp e).1
      have er : ρ.set i (some (.d (B.d d).toD)) = ρ := by
        refine List.ext_getElem? fun j => ?_
        by_cases n : i = j
        · subst n
          rw [List.getElem?_set_self hi, e]
          rfl
        · rw [List.getElem?_set_ne n]
      rw [er]
      exact ⟨F, R0, .refl⟩
    | _ => exact absurd rfl ow
theorem qe_giv {i : Nat} {e : Expr} {w : WE M} (h : QE X M e w) : QE X M e (wGiv i w) := by
  refine ⟨pe_weak h.run fun σ H Q' ⟨Z, ρ, α, F, Q, R0, w, k⟩ => ?_⟩
  obtain ⟨b, e1, q⟩ := givB_ok w
  obtain ⟨F1, R1, s1⟩ := R0.giv e1
  exact ⟨Z, _, α, F1, Q, R1, q, fun v r ρ' α' F' H' R2 s2 rv q => k v r ρ' α' F' H' R2 (s1.trans s2) rv q⟩
end
end DL
namespace DL
open PySem PySem.Spec L2
open PyProof.Rows hiding St
abbrev c_ABSENT : Int := -1
def wb_effect (K : PySem.W.Frag) : WS (penAmb K) :=
    (wRet (wOp gIx (wOp gIx (wOp gIx (wVar 0) (wC (.int 1))) (wVar 1)) (wOp gAdd (wVar 2) (wC (.int 1)))))
-- slots: {0: 'scheme', 1: 'operand', 2: 'state'}
def wb_shortest_walks (K : PySem.W.Frag) (F0 : Hp) (f : Addr) (Cb : Ct (penAmb K)) : WS (subAmb (penAmb K) F0) :=
    (wSeq (wSet 2 (wDisp (wVar 0) (wTup wNil)))
    (wSeq (wSet 3 (wLst (wCons (wVar 0) wNil)))
    (wSeq (wWhile (wTru (wVar 3)) (wSeq (wSet 4 (wLst wNil))
    (wSeq (wFor (wSeqI (wVar 3)) (gN 5) (wFor (wSeqI (wCallC 1 f Cb (wCons (wVar 5) wNil))) (gTup 2 (gConss (gN 6) (gConss (gN 7) gNils))) (wIfS (wB (wOp (gDIn true) (wVar 7) (wVar 2))) (wSeq (wPutD 2 (wVar 7) (wOp gAdd (wOp gDGet (wVar 2) (wVar 5)) (wTup (wCons (wVar 6) wNil))))
    (wApp 4 (wVar 7))) wNext)))
    (wSet 3 (wVar 4)))))
    (wRet (wVar 2)))))
-- slots: {0: 'start', 1: 'moves', 2: 'found', 3: 'newest', 4: 'further', 5: 'place', 6: 'mark', 7: 'result'}
def wb_shortest_walks_T (K : PySem.W.Frag) (F0 : Hp) (f : Addr) (Cb : Ct (penAmb K)) : WS (subAmb (penAmb K) F0) :=
    (wSeq (wSet 2 (wDispT (wVar 0) (wTup wNil)))
    (wSeq (wSet 3 (wLst (wCons (wVar 0) wNil)))
    (wSeq (wWhile (wTru (wVar 3)) (wSeq (wSet 4 (wLst wNil))
    (wSeq (wFor (wSeqI (wVar 3)) (gN 5) (wFor (wSeqI (wCallC 1 f Cb (wCons (wVar 5) wNil))) (gTup 2 (gConss (gN 6) (gConss (gN 7) gNils))) (wIfS (wB (wOp (gDInT true) (wVar 7) (wVar 2))) (wSeq (wPutT 2 (wVar 7) (wOp gAdd (wOp gDGetT (wVar 2) (wVar 5)) (wTup (wCons (wVar 6) wNil))))
    (wApp 4 (wVar 7))) wNext)))
    (wSet 3 (wVar 4)))))
    (wRet (wVar 2)))))
-- slots: {0: 'start', 1: 'moves', 2: 'found', 3: 'newest', 4: 'further', 5: 'place', 6: 'mark', 7: 'result'}
def wb_state_after (K : PySem.W.Frag) (C_effect : Ct (penAmb K)) : WS (penAmb K) :=
    (wSeq (wSet 3 (wVar 1))
    (wSeq (wFor (wSeqI (wVar 2)) (gN 4) (wSet 3 (wCall 3 C_effect (wCons (wVar 0) (wCons (wVar 4) (wCons (wVar 3) wNil))))))
    (wRet (wVar 3))))
-- slots: {0: 'scheme', 1: 'state', 2: 'row', 3: 'result', 4: 'operand'}
def wl__shortest_ways (K : PySem.W.Frag) (C_effect : Ct (penAmb K)) : WE (penAmb K) :=
    (wLc (wSeqI (wOp gIx (wVar 1) (wC (.int 2)))) (gN 2) wYes (wTup (wCons (wVar 2) (wCons (wCall 3 C_effect (wCons (wVar 1) (wCons (wVar 2) (wCons (wVar 0) wNil)))) wNil))) [2])
-- slots: {0: 'state', 1: 'scheme', 2: 'a'}
def wb__shortest_ways (K : PySem.W.Frag) (C_effect : Ct (penAmb K)) (C_shortest_walks : Addr → Ct (penAmb K) → Ct (penAmb K)) (Cl : List D → Ct (penAmb K)) : WS (penAmb K) :=
    (wRet (wLamCall [0] Cl C_shortest_walks (wC (.int c_ABSENT))))
-- slots: {0: 'scheme'}
def wb_reached (K : PySem.W.Frag) (C__shortest_ways : Ct (penAmb K)) : WS (penAmb K) :=
    (wRet (wCb gSortD (wConsC (wCall 1 C__shortest_ways (wCons (wVar 0) wNil)) wNil)))
-- slots: {0: 'scheme'}
def wb_turn_of (K : PySem.W.Frag) (C_reached : Ct (penAmb K)) (C_state_after : Ct (penAmb K)) : WS (penAmb K) :=
    (wRet (wCb gTuple (wConsC (wLc (wSeqI (wCall 1 C_reached (wCons (wVar 0) wNil))) (gN 2) wYes (wCall 3 C_state_after (wCons (wVar 0) (wCons (wVar 2) (wCons (wVar 1) wNil)))) [2]) wNil)))
-- slots: {0: 'scheme', 1: 'row', 2: 'state'}
def wb__turns_behind (K : PySem.W.Frag) (C_effect : Ct (penAmb K)) : WS (penAmb K) :=
    (wRet (wLc (wSeqI (wOp gIx (wVar 0) (wC (.int 2)))) (gN 2) wYes (wTup (wCons (wVar 2) (wCons (wCb gTuple (wConsC (wLc (wSeqI (wVar 1)) (gN 3) wYes (wCall 3 C_effect (wCons (wVar 0) (wCons (wVar 2) (wCons (wVar 3) wNil)))) [3]) wNil)) wNil))) [2]))
-- slots: {0: 'scheme', 1: 'states', 2: 'operand', 3: 'state'}
def wl__shortest_rows (K : PySem.W.Frag) (C__turns_behind : Ct (penAmb K)) : WE (penAmb K) :=
    (wCall 2 C__turns_behind (wCons (wVar 1) (wCons (wOrT (wVar 0) (wVar 2)) wNil)))
-- slots: {0: 'turn', 1: 'scheme', 2: 'states'}
def wb__shortest_rows (K : PySem.W.Frag) (C__turns_behind : Ct (penAmb K)) (C_reached : Ct (penAmb K)) (C_shortest_walks_T : Addr → Ct (penAmb K) → Ct (penAmb K)) (Cl : List D → Ct (penAmb K)) : WS (penAmb K) :=
    (wSeq (wSet 1 (wCall 1 C_reached (wCons (wVar 0) wNil)))
    (wSeq (wSet 2 (wGiv 1 (wLamCall [0, 1] Cl C_shortest_walks_T (wTup wNil))))
    (wSeq (wDelT 2 (wTup wNil))
    (wRet (wVar 2)))))
-- slots: {0: 'scheme', 1: 'states', 2: 'rows'}
def wb_turns (K : PySem.W.Frag) (C__shortest_rows : Ct (penAmb K)) : WS (penAmb K) :=
    (wRet (wCb gSortDT (wConsC (wCall 1 C__shortest_rows (wCons (wVar 0) wNil)) wNil)))
-- slots: {0: 'scheme'}
def wb_row_for (K : PySem.W.Frag) (C__shortest_rows : Ct (penAmb K)) : WS (penAmb K) :=
    (wRet (wGet1T (wCall 1 C__shortest_rows (wCons (wVar 0) wNil)) (wVar 1)))
-- slots: {0: 'scheme', 1: 'turn'}
def wb__further_turns (K : PySem.W.Frag) (C__turns_behind : Ct (penAmb K)) (C_reached : Ct (penAmb K)) (C_turns : Ct (penAmb K)) : WS (penAmb K) :=
    (wSeq (wSet 1 (wCall 1 C_reached (wCons (wVar 0) wNil)))
    (wSeq (wSet 2 (wOp gAdd (wLc (wSeqI (wCall 2 C__turns_behind (wCons (wVar 0) (wCons (wVar 1) wNil)))) (gTup 2 (gConss (gN 4) (gConss (gN 3) gNils))) wYes (wVar 3) [4, 3]) (wLst (wCons (wCb gTuple (wConsC (wVar 1) wNil)) wNil))))
    (wRet (wLc (wSeqI (wCall 1 C_turns (wCons (wVar 0) wNil))) (gN 3) (wB (wOp (gInE true) (wVar 3) (wVar 2))) (wVar 3) [3]))))
-- slots: {0: 'scheme', 1: 'states', 2: 'known', 3: 'turn', 4: '_'}
def wb_least_count (K : PySem.W.Frag) (C__further_turns : Ct (penAmb K)) : WS (penAmb K) :=
    (wRet (wOp gAdd (wCb gLen (wConsC (wOp gIx (wVar 0) (wC (.int 2))) wNil)) (wCb gLen (wConsC (wCall 1 C__further_turns (wCons (wVar 0) wNil)) wNil))))
-- slots: {0: 'scheme'}
def wb__law_open (K : PySem.W.Frag) : WS (penAmb K) :=
    (wSeq (wSet 1 (wCb gList (wConsC (wSl (wVar 0) wNoO (wSomeO (wC (.int 12)))) wNil)))
    (wSeq (wFor (wIt gEnum (wCons (wSl (wVar 0) (wSomeO (wC (.int 12))) (wSomeO (wC (.int 63)))) wNil)) (gTup 2 (gConss (gN 2) (gConss (gN 3) gNils))) (wPutL 1 (wOp (gII (fun i j => .int (i % j)) fun _ j => 0 < j) (wCb gInt (wConsC (wVar 2) wNil)) (wC (.int 12))) (wOp gAdd (wOp gIx (wVar 1) (wOp (gII (fun i j => .int (i % j)) fun _ j => 0 < j) (wCb gInt (wConsC (wVar 2) wNil)) (wC (.int 12)))) (wVar 3))))
    (wRet (wLst (wCons (wVar 1) (wCons (wC (.int 0)) (wCons (wC (.int 0)) wNil)))))))
-- slots: {0: 'script', 1: 'cells', 2: 'k', 3: 'cell'}
def wb__law_spread (K : PySem.W.Frag) : WS (penAmb K) :=
    (wSeq (wIfS (wB (wOp (gI0 fun i j => .bl (decide (j ≤ i))) (wVar 0) (wOp (gII (fun i j => .int (i ^ j.toNat)) CPow) (wC (.int 10)) (wC (.int 18))))) (wRet (wVar 0)) wNext)
    (wSeq (wSet 2 (wLst (wCons (wC (.int 2147483629)) (wCons (wC (.int 2147483587)) (wCons (wC (.int 2147483579)) (wCons (wC (.int 2147483563)) (wCons (wC (.int 2147483549)) (wCons (wC (.int 2147483543)) (wCons (wC (.int 2147483497)) (wCons (wC (.int 2147483489)) wNil))))))))))
    (wSeq (wSet 2 (wOp gAdd (wVar 2) (wLst (wCons (wC (.int 2147483477)) (wCons (wC (.int 2147483423)) (wCons (wC (.int 2147483399)) (wCons (wC (.int 2147483353)) (wCons (wC (.int 2147483323)) wNil))))))))
    (wSeq (wSet 3 (wOp gAdd (wOp gAdd (wOp gMul (wOp (gII (fun i j => .int (i % j)) fun _ j => 0 < j) (wCb gInt (wConsC (wVar 0) wNil)) (wC (.int 1000000007))) (wOp gAdd (wOp gMul (wC (.int 2)) (wVar 1)) (wC (.int 69069)))) (wOp gMul (wVar 1) (wC (.int 40503)))) (wC (.int 977))))
    (wSeq (wSet 3 (wOp (gII (fun i j => .int (i % j)) fun _ j => 0 < j) (wCb gInt (wConsC (wOp (gII (fun i j => .int (i ^ j.toNat)) CPow) (wVar 3) (wC (.int 3))) wNil)) (wOp gIx (wVar 2) (wOp (gII (fun i j => .int (i % j)) fun _ j => 0 < j) (wCb gInt (wConsC (wVar 1) wNil)) (wC (.int 13))))))
    (wSeq (wSet 4 (wOp (gII (fun i j => .int (i % j)) fun _ j => 0 < j) (wCb gInt (wConsC (wOp (gII (fun i j => .int (i ^ j.toNat)) CPow) (wOp gAdd (wOp gAdd (wOp gMul (wVar 3) (wOp gAdd (wVar 1) (wC (.int 3)))) (wOp (gII (fun i j => .int (i % j)) fun _ j => 0 < j) (wCb gInt (wConsC (wVar 0) wNil)) (wC (.int 65537)))) (wC (.int 5))) (wC (.int 5))) wNil)) (wOp gIx (wVar 2) (wOp (gII (fun i j => .int (i % j)) fun _ j => 0 < j) (wCb gInt (wConsC (wOp gAdd (wVar 1) (wC (.int 5))) wNil)) (wC (.int 13))))))
    (wSeq (wSet 5 (wOp (gII (fun i j => .int (i % j)) fun _ j => 0 < j) (wCb gInt (wConsC (wOp (gII (fun i j => .int (i ^ j.toNat)) CPow) (wOp gAdd (wOp gAdd (wVar 4) (wOp (gII (fun i j => .int (i % j)) fun _ j => 0 < j) (wCb gInt (wConsC (wVar 3) wNil)) (wC (.int 1009)))) (wVar 1)) (wC (.int 3))) wNil)) (wOp gIx (wVar 2) (wOp (gII (fun i j => .int (i % j)) fun _ j => 0 < j) (wCb gInt (wConsC (wOp gAdd (wVar 1) (wC (.int 7))) wNil)) (wC (.int 13))))))
    (wRet (wOp gAdd (wOp gMul (wOp gAdd (wOp gMul (wVar 3) (wC (.int 2147483647))) (wVar 4)) (wC (.int 2147483647))) (wVar 5))))))))))
-- slots: {0: 'cell', 1: 'at', 2: 'primes', 3: 'u', 4: 'v', 5: 'w'}
def wb__law_take (K : PySem.W.Frag) (C__law_spread : Ct (penAmb K)) : WS (penAmb K) :=
    (wSeq (wIfS (wB (wOp (gI0 fun i j => .bl (decide (i < j))) (wPenRd 0 2) (wVar 1))) (wSeq (wSet 2 (wPenRd 0 1))
    (wSeq (wSet 3 (wC (.int 0)))
    (wSeq (wIfS (wB (wOp (gI0 fun i j => .bl (decide (i < j))) (wVar 2) (wCb gLen (wConsC (wPenRd 0 0) wNil)))) (wSet 3 (wOp gIx (wPenRd 0 0) (wVar 2))) (wIfS (wB (wOp (gI0 fun i j => .bl (decide (j < i))) (wCb gLen (wConsC (wPenRd 0 0) wNil)) (wC (.int 0)))) (wSet 3 (wOp (gII (fun i j => .int (i % j)) fun _ j => 0 < j) (wCb gInt (wConsC (wOp gIx (wPenRd 0 0) (wOp (gII (fun i j => .int (i % j)) fun _ j => 0 < j) (wCb gInt (wConsC (wOp gAdd (wOp gMul (wVar 2) (wC (.int 5))) (wC (.int 3))) wNil)) (wCb gLen (wConsC (wPenRd 0 0) wNil)))) wNil)) (wOp gAdd (wOp (gII (fun i j => .int (i ^ j.toNat)) CPow) (wC (.int 10)) (wC (.int 17))) (wVar 2)))) wNext))
    (wSeq (wPenWr 0 1 (wOp gAdd (wVar 2) (wC (.int 1))))
    (wPenWr 0 2 (wCall 2 C__law_spread (wCons (wVar 3) (wCons (wVar 2) wNil)))))))) wNext)
    (wSeq (wSet 4 (wOp (gII (fun i j => .int (i % j)) fun _ j => 0 < j) (wCb gInt (wConsC (wPenRd 0 2) wNil)) (wVar 1)))
    (wSeq (wPenWr 0 2 (wOp (gII (fun i j => .int (i / j)) CDiv) (wPenRd 0 2) (wVar 1)))
    (wRet (wVar 4)))))
-- slots: {0: 'pen', 1: 'amount', 2: 'at', 3: 'cell', 4: 'found'}
def wb__law_same (K : PySem.W.Frag) (C__law_same : Ct (noAmb K)) : WS (noAmb K) :=
    (wSeq (wIfS (wOr (wB (wOp gIs (wVar 1) (wC .non))) (wB (wOp gIs (wVar 0) (wC .non)))) (wRet (wAndV (wOp gIs (wVar 1) (wC .non)) (wOp gIs (wVar 0) (wC .non)))) wNext)
    (wSeq (wIfS (wOr (wB (wIsi ["bool"] (wVar 1))) (wB (wIsi ["bool"] (wVar 0)))) (wRet (wAndV (wIsi ["bool"] (wVar 1)) (wAndV (wIsi ["bool"] (wVar 0)) (wOp gEq (wVar 0) (wVar 1))))) wNext)
    (wSeq (wIfS (wB (wIsi ["int", "str"] (wVar 1))) (wSeq (wIfS (wB (wOp gNe (wIsi ["int"] (wVar 0)) (wIsi ["int"] (wVar 1)))) (wRet (wC (.bl false))) wNext)
    (wRet (wAndV (wIsi ["int", "str"] (wVar 0)) (wOp gEq (wVar 0) (wVar 1))))) wNext)
    (wSeq (wIfS (wOr (wB (wOp gNe (wIsi ["tuple"] (wVar 1)) (wIsi ["tuple"] (wVar 0)))) (wB (wOp gNe (wIsi ["list"] (wVar 1)) (wIsi ["list"] (wVar 0))))) (wRet (wC (.bl false))) wNext)
    (wSeq (wIfS (wB (wOp gNe (wCb gLen (wConsC (wVar 0) wNil)) (wCb gLen (wConsC (wVar 1) wNil)))) (wRet (wC (.bl false))) wNext)
    (wRet (wOp (gIn true) (wC (.bl false)) (wLc (wIt gZip (wCons (wVar 0) (wCons (wVar 1) wNil))) (gTup 2 (gConss (gN 2) (gConss (gN 3) gNils))) wYes (wCallP 2 C__law_same (wConsC (wVar 2) (wConsC (wVar 3) wNil))) [2, 3]))))))))
-- slots: {0: 'found', 1: 'due', 2: 'one', 3: 'other'}
def wb__law_one_of (K : PySem.W.Frag) (C__law_take : Ct (penAmb K)) : WS (penAmb K) :=
    (wRet (wOp gIx (wVar 1) (wCall 2 C__law_take (wCons (wVar 0) (wCons (wCb gLen (wConsC (wVar 1) wNil)) wNil)))))
-- slots: {0: 'pen', 1: 'some'}
def wb__law_is_int (K : PySem.W.Frag) : WS (penAmb K) :=
    (wRet (wAndV (wIsi ["int"] (wVar 0)) (wAndV (wNotV (wIsi ["bool"] (wVar 0))) (wChain (gI0 fun i j => .bl (decide (i ≤ j))) (gI0 fun i j => .bl (decide (i ≤ j))) (wVar 1) (wVar 0) (wVar 2)))))
-- slots: {0: 'value', 1: 'low', 2: 'high'}
def wb__law_draw_effect (K : PySem.W.Frag) (C__law_take : Ct (penAmb K)) : WS (penAmb K) :=
    (wSeq (wSet 2 (wCall 2 C__law_take (wCons (wVar 0) (wCons (wC (.int 5)) wNil))))
    (wSeq (wIfS (wB (wOp (gI0 fun i j => .bl (decide (i < j))) (wVar 2) (wC (.int 2)))) (wRet (wOp gMulU (wTup (wCons (wOp (gI0 fun i j => .int (i - j)) (wCall 2 C__law_take (wCons (wVar 0) (wCons (wOp gAdd (wVar 1) (wC (.int 1))) wNil))) (wC (.int 1))) wNil)) (wOp gAdd (wVar 1) (wC (.int 1))))) wNext)
    (wSeq (wIfS (wB (wOp gEq (wVar 2) (wC (.int 2)))) (wRet (wCb gTuple (wConsC (wLc (wRng2 (wUn gNeg (wC (.int 1))) (wVar 1)) (gN 3) wYes (wCb gMin2 (wConsC (wOp gAdd (wVar 3) (wC (.int 1))) (wConsC (wOp (gI0 fun i j => .int (i - j)) (wVar 1) (wC (.int 1))) wNil))) [3]) wNil))) wNext)
    (wSeq (wIfS (wB (wOp gEq (wVar 2) (wC (.int 3)))) (wRet (wCb gTuple (wConsC (wLc (wRng2 (wUn gNeg (wC (.int 1))) (wVar 1)) (gN 3) wYes (wOp (gI0 fun i j => .int (i - j)) (wOp (gII (fun i j => .int (i % j)) fun _ j => 0 < j) (wCb gInt (wConsC (wOp gAdd (wVar 3) (wC (.int 2))) wNil)) (wOp gAdd (wVar 1) (wC (.int 1)))) (wC (.int 1))) [3]) wNil))) wNext)
    (wRet (wCb gTuple (wConsC (wLc (wRng2 (wUn gNeg (wC (.int 1))) (wVar 1)) (gN 3) wYes (wOp (gI0 fun i j => .int (i - j)) (wCall 2 C__law_take (wCons (wVar 0) (wCons (wOp gAdd (wVar 1) (wC (.int 1))) wNil))) (wC (.int 1))) [3]) wNil)))))))
-- slots: {0: 'pen', 1: 'v', 2: 'way', 3: 'state'}
def wb__law_draw_written (K : PySem.W.Frag) (C__law_take : Ct (penAmb K)) : WS (penAmb K) :=
    (wSeq (wSet 2 (wLc (wRng1 (wVar 1)) (gN 3) (wB (wOp (gI0 fun i j => .bl (decide (j < i))) (wCall 2 C__law_take (wCons (wVar 0) (wCons (wC (.int 3)) wNil))) (wC (.int 0)))) (wVar 3) [3]))
    (wRet (wIf (wB (wOp gNe (wVar 2) (wLst wNil))) (wCb gTuple (wConsC (wVar 2) wNil)) (wTup (wCons (wCall 2 C__law_take (wCons (wVar 0) (wCons (wVar 1) wNil))) wNil)))))
-- slots: {0: 'pen', 1: 'many', 2: 'some', 3: 'a'}
def wb__law_fold (K : PySem.W.Frag) : WS (penAmb K) :=
    (wSeq (wFor (wSeqI (wVar 1)) (gN 3) (wSet 2 (wOp gIx (wOp gIx (wOp gIx (wVar 0) (wC (.int 1))) (wVar 3)) (wOp gAdd (wVar 2) (wC (.int 1))))))
    (wRet (wVar 2)))
-- slots: {0: 'scheme', 1: 'row', 2: 'state', 3: 'a'}
def wb__law_fits (K : PySem.W.Frag) : WS (penAmb K) :=
    (wSeq (wSet 3 (wCb gTuple (wConsC (wLc (wSeqI (wOp gIx (wVar 0) (wVar 1))) (gN 6) wYes (wOp gIx (wOp gIx (wVar 0) (wVar 2)) (wOp gAdd (wVar 6) (wC (.int 1)))) [6]) wNil)))
    (wSeq (wSet 4 (wLc (wRng1 (wCb gLen (wConsC (wVar 0) wNil))) (gN 5) (wB (wOp gEq (wOp gIx (wVar 0) (wVar 5)) (wVar 3))) (wVar 5) [5]))
    (wRet (wIf (wB (wOp gEq (wCb gList (wConsC (wVar 3) wNil)) (wLRg (wUn gNeg (wC (.int 1))) (wOp (gI0 fun i j => .int (i - j)) (wCb gLen (wConsC (wVar 3) wNil)) (wC (.int 1)))))) (wOp gAdd (wVar 4) (wLst (wCons (wUn gNeg (wC (.int 1))) wNil))) (wVar 4)))))
-- slots: {0: 'effects', 1: 'a', 2: 'b', 3: 'both', 4: 'found', 5: 'c', 6: 'state'}
def wb__law_draw_scheme (K : PySem.W.Frag) (C__law_draw_effect : Ct (penAmb K)) (C__law_draw_written : Ct (penAmb K)) (C__law_fits : Ct (penAmb K)) (C__law_one_of : Ct (penAmb K)) (C__law_take : Ct (penAmb K)) : WS (penAmb K) :=
    (wSeq (wAsg (wTup (wCons (wOp gAdd (wC (.int 1)) (wCall 2 C__law_take (wCons (wVar 0) (wCons (wVar 1) wNil)))) (wCons (wOp gAdd (wC (.int 1)) (wCall 2 C__law_take (wCons (wVar 0) (wCons (wVar 2) wNil)))) wNil))) (gTup 2 (gConss (gN 4) (gConss (gN 5) gNils))))
    (wSeq (wSet 6 (wCb gTuple (wConsC (wLc (wRng1 (wVar 5)) (gN 10) wYes (wCall 2 C__law_draw_effect (wCons (wVar 0) (wCons (wVar 4) wNil))) [10]) wNil)))
    (wSeq (wPar 7 8 (wCall 2 C__law_draw_written (wCons (wVar 0) (wCons (wVar 5) wNil))) (wLst wNil))
    (wSeq (wSet 9 (wCall 2 C__law_one_of (wCons (wVar 0) (wCons (wLst (wCons (wC (.int 0)) (wCons (wC (.int 0)) (wCons (wC (.int 1)) (wCons (wC (.int 3)) wNil))))) wNil))))
    (wSeq (wFor (wRng1 (wVar 5)) (gN 10) (wFor (wRng1 (wVar 5)) (gN 11) (wSeq (wSet 12 (wCall 3 C__law_fits (wCons (wVar 6) (wCons (wVar 10) (wCons (wVar 11) wNil)))))
    (wIfS (wB (wOp (gI0 fun i j => .bl (decide (i < j))) (wCall 2 C__law_take (wCons (wVar 0) (wCons (wC (.int 8)) wNil))) (wVar 9))) (wApp 8 (wTup (wCons (wVar 10) (wCons (wVar 11) (wCons (wOp (gI0 fun i j => .int (i - j)) (wCall 2 C__law_take (wCons (wVar 0) (wCons (wOp gAdd (wVar 5) (wC (.int 1))) wNil))) (wC (.int 1))) wNil))))) (wIfS (wAnd (wB (wOp gNe (wVar 12) (wLst wNil))) (wB (wOp (gI0 fun i j => .bl (decide (j < i))) (wCall 2 C__law_take (wCons (wVar 0) (wCons (wVar 3) wNil))) (wC (.int 0))))) (wApp 8 (wTup (wCons (wVar 10) (wCons (wVar 11) (wCons (wCall 2 C__law_one_of (wCons (wVar 0) (wCons (wVar 12) wNil))) wNil))))) wNext)))))
    (wRet (wTup (wCons (wVar 4) (wCons (wVar 6) (wCons (wVar 7) (wCons (wCb gTuple (wConsC (wVar 8) wNil)) wNil)))))))))))
-- slots: {0: 'pen', 1: 'values', 2: 'operands', 3: 'full', 4: 'v', 5: 'many', 6: 'effects', 7: 'written', 8: 'rules', 9: 'odd', 10: 'a', 11: 'b', 12: 'some'}
def wb__law_reach (K : PySem.W.Frag) : WS (penAmb K) :=
    (wSeq (wPar 1 2 (wDisp (wUn gNeg (wC (.int 1))) (wC (.int 0))) (wLst (wCons (wUn gNeg (wC (.int 1))) wNil)))
    (wSeq (wWhile (wB (wOp gNe (wVar 2) (wLst wNil))) (wSeq (wSet 3 (wLst wNil))
    (wSeq (wFor (wSeqI (wVar 2)) (gN 4) (wFor (wSeqI (wOp gIx (wVar 0) (wC (.int 2)))) (gN 5) (wSeq (wSet 6 (wOp gIx (wOp gIx (wOp gIx (wVar 0) (wC (.int 1))) (wVar 5)) (wOp gAdd (wVar 4) (wC (.int 1)))))
    (wIfS (wB (wOp (gDIn true) (wVar 6) (wVar 1))) (wSeq (wPutD 1 (wVar 6) (wOp gAdd (wOp gDGet (wVar 1) (wVar 4)) (wC (.int 1))))
    (wApp 3 (wVar 6))) wNext))))
    (wSet 2 (wVar 3)))))
    (wRet (wVar 1))))
-- slots: {0: 'scheme', 1: 'found', 2: 'now', 3: 'later', 4: 'state', 5: 'a', 6: 'one'}
def wb__law_draw_row (K : PySem.W.Frag) (C__law_one_of : Ct (penAmb K)) (C__law_take : Ct (penAmb K)) : WS (penAmb K) :=
    (wRet (wCb gTuple (wConsC (wLc (wRng1 (wCall 2 C__law_take (wCons (wVar 0) (wCons (wOp gAdd (wVar 2) (wC (.int 1))) wNil)))) (gN 3) wYes (wCall 2 C__law_one_of (wCons (wVar 0) (wCons (wVar 1) wNil))) [3]) wNil)))
-- slots: {0: 'pen', 1: 'some', 2: 'most', 3: 'k'}
def wb__law_turn (K : PySem.W.Frag) (C__law_fold : Ct (penAmb K)) (C__law_reach : Ct (penAmb K)) : WS (penAmb K) :=
    (wRet (wCb gTuple (wConsC (wLc (wSeqI (wCb gSortD (wConsC (wCall 1 C__law_reach (wCons (wVar 0) wNil)) wNil))) (gN 2) wYes (wCall 3 C__law_fold (wCons (wVar 0) (wCons (wVar 1) (wCons (wVar 2) wNil)))) [2]) wNil)))
-- slots: {0: 'scheme', 1: 'row', 2: 'state'}
def wb__law_turns (K : PySem.W.Frag) (C__law_turn : Ct (penAmb K)) : WS (penAmb K) :=
    (wSeq (wPar 1 2 wNewT (wLst wNil))
    (wSeq (wFor (wSeqI (wOp gIx (wVar 0) (wC (.int 2)))) (gN 3) (wPutT 1 (wCall 2 C__law_turn (wCons (wVar 0) (wCons (wTup (wCons (wVar 3) wNil)) wNil))) (wC (.int 1))))
    (wSeq (wSet 2 (wCb gListT (wConsC (wVar 1) wNil)))
    (wSeq (wWhile (wB (wOp gNe (wVar 2) (wLst wNil))) (wSeq (wSet 4 (wLst wNil))
    (wSeq (wFor (wSeqI (wVar 2)) (gN 5) (wFor (wSeqI (wOp gIx (wVar 0) (wC (.int 2)))) (gN 3) (wSeq (wSet 6 (wCb gTuple (wConsC (wLc (wSeqI (wVar 5)) (gN 7) wYes (wOp gIx (wOp gIx (wOp gIx (wVar 0) (wC (.int 1))) (wVar 3)) (wOp gAdd (wVar 7) (wC (.int 1)))) [7]) wNil)))
    (wIfS (wB (wOp (gDInT true) (wVar 6) (wVar 1))) (wSeq (wPutT 1 (wVar 6) (wOp gAdd (wOp gDGetT (wVar 1) (wVar 5)) (wC (.int 1))))
    (wApp 4 (wVar 6))) wNext))))
    (wSet 2 (wVar 4)))))
    (wRet (wVar 1))))))
-- slots: {0: 'scheme', 1: 'found', 2: 'now', 3: 'a', 4: 'later', 5: 'turn', 6: 'one', 7: 'state'}
def wb__law_count (K : PySem.W.Frag) (C__law_turn : Ct (penAmb K)) (C__law_turns : Ct (penAmb K)) : WS (penAmb K) :=
    (wSeq (wSet 1 (wOp gAdd (wLc (wSeqI (wOp gIx (wVar 0) (wC (.int 2)))) (gN 2) wYes (wCall 2 C__law_turn (wCons (wVar 0) (wCons (wTup (wCons (wVar 2) wNil)) wNil))) [2]) (wLst (wCons (wCall 2 C__law_turn (wCons (wVar 0) (wCons (wTup wNil) wNil))) wNil))))
    (wRet (wOp gAdd (wCb gLen (wConsC (wOp gIx (wVar 0) (wC (.int 2))) wNil)) (wCb gLen (wConsC (wLc (wKeysNT (wCall 1 C__law_turns (wCons (wVar 0) wNil))) (gN 3) (wB (wOp (gInE true) (wVar 3) (wVar 1))) (wVar 3) [3]) wNil)))))
-- slots: {0: 'scheme', 1: 'have', 2: 'a', 3: 'turn'}
def wb__law_rewritten (K : PySem.W.Frag) (C__law_draw_written : Ct (penAmb K)) : WS (penAmb K) :=
    (wRet (wOp gAdd (wSl (wVar 1) wNoO (wSomeO (wC (.int 2)))) (wTup (wCons (wCall 2 C__law_draw_written (wCons (wVar 0) (wCons (wCb gLen (wConsC (wOp gIx (wVar 1) (wC (.int 1))) wNil)) wNil))) (wCons (wOp gIx (wVar 1) (wC (.int 3))) wNil)))))
-- slots: {0: 'pen', 1: 'scheme'}
def wb_law (K : PySem.W.Frag) (C__law_count : Ct (penAmb K)) (C__law_draw_row : Ct (penAmb K)) (C__law_draw_scheme : Ct (penAmb K)) (C__law_is_int : Ct (penAmb K)) (C__law_one_of : Ct (penAmb K)) (C__law_open : Ct (penAmb K)) (C__law_reach : Ct (penAmb K)) (C__law_rewritten : Ct (penAmb K)) (C__law_same : Ct (noAmb K)) (C__law_take : Ct (penAmb K)) (C__law_turn : Ct (penAmb K)) (C__law_turns : Ct (penAmb K)) (C_least_count : Ct (penAmb K)) (C_row_for : Ct (penAmb K)) (C_turn_of : Ct (penAmb K)) (C_turns : Ct (penAmb K)) : WS (penAmb K) :=
    (wSeq (wSet 1 (wCall 1 C__law_open (wCons (wVar 0) wNil)))
    (wLend 1 (wSeq (wFor (wRng1 (wC (.int 2))) (gN 2) (wSeq (wSet 3 (wCall 4 C__law_draw_scheme (wCons (wVar 1) (wCons (wCall 2 C__law_one_of (wCons (wVar 1) (wCons (wLst (wCons (wC (.int 2)) (wCons (wC (.int 3)) wNil))) wNil))) (wCons (wC (.int 6)) (wCons (wC (.int 2)) wNil))))))
    (wSeq (wPar 4 5 (wLRg1 (wCb gLen (wConsC (wOp gIx (wVar 3) (wC (.int 1))) wNil))) (wCall 1 C__law_turns (wCons (wVar 3) wNil)))
    (wSeq (wSet 6 (wCall 2 C__law_rewritten (wCons (wVar 1) (wCons (wVar 3) wNil))))
    (wSeq (wFor (wSeqI (wLst (wCons (wVar 3) (wCons (wVar 3) (wCons (wVar 6) (wCons (wVar 3) wNil)))))) (gN 7) (wSeq (wSet 8 (wCall 1 C_turns (wCons (wVar 7) wNil)))
    (wSeq (wIfS (wNot (wB (wCallP 2 C__law_same (wConsC (wVar 8) (wConsC (wCb gSortDT (wConsC (wCall 1 C__law_turns (wCons (wVar 7) wNil)) wNil)) wNil))))) (wRet (wC (.bl false))) wNext)
    (wSeq (wApp 8 (wC .non))
    (wIfS (wNot (wB (wCallP 2 C__law_same (wConsC (wCall 1 C_least_count (wCons (wVar 7) wNil)) (wConsC (wCall 1 C__law_count (wCons (wVar 7) wNil)) wNil))))) (wRet (wC (.bl false))) wNext)))))
    (wSeq (wFor (wRng1 (wC (.int 4))) (gN 9) (wSeq (wPar 10 11 (wCall 3 C__law_draw_row (wCons (wVar 1) (wCons (wVar 4) (wCons (wC (.int 6)) wNil)))) (wCall 3 C__law_draw_row (wCons (wVar 1) (wCons (wCb gList (wConsC (wOp gIx (wVar 3) (wC (.int 2))) wNil)) (wCons (wC (.int 5)) wNil)))))
    (wFor (wSeqI (wLst (wCons (wVar 10) (wCons (wVar 11) (wCons (wTup wNil) wNil))))) (gN 7) (wSeq (wSet 12 (wCall 2 C__law_turn (wCons (wVar 3) (wCons (wVar 7) wNil))))
    (wSeq (wIfS (wNot (wB (wCallP 2 C__law_same (wConsC (wCall 2 C_turn_of (wCons (wVar 3) (wCons (wVar 7) wNil))) (wConsC (wVar 12) wNil))))) (wRet (wC (.bl false))) wNext)
    (wSeq (wSet 8 (wCall 2 C_row_for (wCons (wVar 3) (wCons (wVar 12) wNil))))
    (wSeq (wIfS (wB (wOp gNe (wOp gIs (wVar 8) (wC .non)) (wOp (gDInT true) (wVar 12) (wVar 5)))) (wRet (wC (.bl false))) wNext)
    (wIfS (wB (wOp gIsnt (wVar 8) (wC .non))) (wSeq (wIfS (wOr (wNot (wB (wIsi ["tuple"] (wVar 8)))) (wB (wOp (gIn false) (wC (.bl false)) (wLc (wSeqI (wVar 8)) (gN 14) wYes (wCall 3 C__law_is_int (wCons (wVar 14) (wCons (wC (.int 0)) (wCons (wC (.int 5)) wNil)))) [14])))) (wRet (wC (.bl false))) wNext)
    (wSeq (wIfS (wB (wOp gNe (wLc (wSeqI (wVar 8)) (gN 14) (wB (wOp (gIn true) (wVar 14) (wOp gIx (wVar 3) (wC (.int 2))))) (wVar 14) [14]) (wLst wNil))) (wRet (wC (.bl false))) wNext)
    (wIfS (wOr (wB (wOp gNe (wCb gLen (wConsC (wVar 8) wNil)) (wOp gDGetT (wVar 5) (wVar 12)))) (wB (wOp gNe (wCall 2 C__law_turn (wCons (wVar 3) (wCons (wVar 8) wNil))) (wVar 12)))) (wRet (wC (.bl false))) wNext))) wNext))))))))
    (wSeq (wSet 12 (wCb gTuple (wConsC (wLc (wKeysN (wCall 1 C__law_reach (wCons (wVar 3) wNil))) (gN 13) wYes (wOp (gI0 fun i j => .int (i - j)) (wCall 2 C__law_take (wCons (wVar 1) (wCons (wOp gAdd (wOp gIx (wVar 3) (wC (.int 0))) (wC (.int 1))) wNil))) (wC (.int 1))) [13]) wNil)))
    (wIfS (wB (wOp gNe (wOp gIs (wCall 2 C_row_for (wCons (wVar 3) (wCons (wVar 12) wNil))) (wC .non)) (wOp (gDInT true) (wVar 12) (wVar 5)))) (wRet (wC (.bl false))) wNext))))))))
    (wRet (wC (.bl true))))))
-- slots: {0: 'script', 1: 'pen', 2: 'turn', 3: 'scheme', 4: 'every', 5: 'due', 6: 'other', 7: 'one', 8: 'told', 9: 'again', 10: 'row', 11: 'some', 12: 'goal', 13: 'state', 14: 'a'}
abbrev top (i : Nat) : Stmt := PySem.Challenge.pw_stackedputs_k53_turns_told.main.body.getD i (.Pass ⟨0, 0, 0, 0⟩)
structure Txt (K : PySem.W.Frag) (mg : Str → Option Value) : Prop where
  n_bool : mg "bool" = none
  n_enumerate : mg "enumerate" = none
  n_int : mg "int" = none
  n_isinstance : mg "isinstance" = none
  n_len : mg "len" = none
  n_list : mg "list" = none
  n_min : mg "min" = none
  n_range : mg "range" = none
  n_sorted : mg "sorted" = none
  n_str : mg "str" = none
  n_tuple : mg "tuple" = none
  n_zip : mg "zip" = none
  c_ABSENT : ∃ t, mg "ABSENT" = some (.int c_ABSENT t)
abbrev st_effect : Stmt := top 2
abbrev N_effect : List Str := ["scheme", "operand", "state"]
theorem sc_effect : FnScope N_effect ["scheme", "operand", "state"] (defScope st_effect) := ⟨rfl, rfl, rfl, by decide +kernel, rfl, by decide +kernel, by decide +kernel⟩
theorem run_effect {P : Program} {w : World} {K : PySem.W.Frag} {mg : Str → Option Value} {base : Heap} (T : Txt K mg) (D : Def K mg "effect" st_effect ["scheme", "operand", "state"]) {C : Ct (penAmb K)}
    (hw : ∀ ds α Qd, ds.length = 3 → C ds α Qd → wb_effect K (endsOf Qd) (startB 3 ds, α)) : Ok P w K mg base (penAmb K) "effect" 1 3 C := by
  refine def_ok D sc_effect (fun f cdv A outer s H E hr hgd => ?_) hw
  unfold wb_effect
  exact (qs_one (qs_ret (qe_ix' (qe_ix' (qe_ix' (qv 0) qe_int) (qv 1)) (qe_op' o_add (qv 2) qe_int))))
abbrev st_shortest_walks : Stmt := top 4
abbrev N_shortest_walks : List Str := ["start", "moves", "found", "newest", "further", "place", "mark", "result"]
theorem sc_shortest_walks : FnScope N_shortest_walks ["start", "moves"] (defScope st_shortest_walks) := ⟨rfl, rfl, rfl, by decide +kernel, rfl, by decide +kernel, by decide +kernel⟩
theorem run_shortest_walks {P : Program} {w : World} {K : PySem.W.Frag} {mg : Str → Option Value} {base : Heap} (T : Txt K mg) (D : Def K mg "shortest_walks" st_shortest_walks ["start", "moves"]) {C : Addr → Ct (penAmb K) → Ct (penAmb K)}
    (hw : ∀ F0 f Cb ds α Qd, ds.length = 2 → C f Cb ds α Qd → wb_shortest_walks K F0 f Cb (endsOf (M := subAmb (penAmb K) F0) Qd) (startB 8 ds, α)) : OkL P w K mg base (penAmb K) "shortest_walks" 3 2 C := by
  refine defL_ok (wb := fun F0 f Cb => wb_shortest_walks K F0 f Cb) D sc_shortest_walks (fun g cdv A outer s H f Cb F0 hr hgd hL => ?_) hw
  have hu := hr.units
  unfold wb_shortest_walks
  exact (qs_cons (qs_set (i := 2) (qe_disp (qv 0) (qe_tup qa_nil)) sc_shortest_walks.nd)
    (qs_cons (qs_set (i := 3) (qe_lst (qa_cons (qv 0) qa_nil)) sc_shortest_walks.nd)
    (qs_cons (qs_while PassesOwn.never (qt_truth (qv 3)) (qs_cons (qs_set (i := 4) (qe_lst qa_nil) sc_shortest_walks.nd)
    (qs_cons (qs_for PassesOwn.never (qi_seq (qv 3)) (qg_name (i := 5) sc_shortest_walks.nd) (qs_one (qs_for PassesOwn.never (qi_seq (qe_callC hL rfl hr hgd (pv 1) (qa_cons (qv 5) qa_nil))) (qg_tup (qgs_cons (qg_name (i := 6) sc_shortest_walks.nd) (qgs_cons (qg_name (i := 7) sc_shortest_walks.nd) qgs_nil))) (qs_one (qs_if (qt_dnin hu (qv 7) (qv 2)) (qs_cons (qs_putD hu (pv 2) (qv 7) (qe_op' o_add (qe_dget hu (qv 2) (qv 5)) (qe_tup (qa_cons (qv 6) qa_nil))))
    (qs_one (qs_append (pv 4) (qv 7)))) qs_nil)))))
    (qs_one (qs_set (i := 3) (qv 4) sc_shortest_walks.nd)))))
    (qs_one (qs_ret (qv 2))))))
abbrev st_shortest_walks_T : Stmt := top 4
abbrev N_shortest_walks_T : List Str := ["start", "moves", "found", "newest", "further", "place", "mark", "result"]
theorem sc_shortest_walks_T : FnScope N_shortest_walks_T ["start", "moves"] (defScope st_shortest_walks_T) := ⟨rfl, rfl, rfl, by decide +kernel, rfl, by decide +kernel, by decide +kernel⟩
theorem run_shortest_walks_T {P : Program} {w : World} {K : PySem.W.Frag} {mg : Str → Option Value} {base : Heap} (T : Txt K mg) (D : Def K mg "shortest_walks" st_shortest_walks_T ["start", "moves"]) {C : Addr → Ct (penAmb K) → Ct (penAmb K)}
    (hw : ∀ F0 f Cb ds α Qd, ds.length = 2 → C f Cb ds α Qd → wb_shortest_walks_T K F0 f Cb (endsOf (M := subAmb (penAmb K) F0) Qd) (startB 8 ds, α)) : OkL P w K mg base (penAmb K) "shortest_walks" 3 2 C := by
  refine defL_ok (wb := fun F0 f Cb => wb_shortest_walks_T K F0 f Cb) D sc_shortest_walks_T (fun g cdv A outer s H f Cb F0 hr hgd hL => ?_) hw
  have hu := hr.units
  unfold wb_shortest_walks_T
  exact (qs_cons (qs_set (i := 2) (qe_dispT hu (qv 0) (qe_tup qa_nil)) sc_shortest_walks_T.nd)
    (qs_cons (qs_set (i := 3) (qe_lst (qa_cons (qv 0) qa_nil)) sc_shortest_walks_T.nd)
    (qs_cons (qs_while PassesOwn.never (qt_truth (qv 3)) (qs_cons (qs_set (i := 4) (qe_lst qa_nil) sc_shortest_walks_T.nd)
    (qs_cons (qs_for PassesOwn.never (qi_seq (qv 3)) (qg_name (i := 5) sc_shortest_walks_T.nd) (qs_one (qs_for PassesOwn.never (qi_seq (qe_callC hL rfl hr hgd (pv 1) (qa_cons (qv 5) qa_nil))) (qg_tup (qgs_cons (qg_name (i := 6) sc_shortest_walks_T.nd) (qgs_cons (qg_name (i := 7) sc_shortest_walks_T.nd) qgs_nil))) (qs_one (qs_if (qt_dninT hu (qv 7) (qv 2)) (qs_cons (qs_putT hu (pv 2) (qv 7) (qe_op' o_add (qe_dgetT hu (qv 2) (qv 5)) (qe_tup (qa_cons (qv 6) qa_nil))))
    (qs_one (qs_append (pv 4) (qv 7)))) qs_nil)))))
    (qs_one (qs_set (i := 3) (qv 4) sc_shortest_walks_T.nd)))))
    (qs_one (qs_ret (qv 2))))))
abbrev st_state_after : Stmt := top 6
abbrev N_state_after : List Str := ["scheme", "state", "row", "result", "operand"]
theorem sc_state_after : FnScope N_state_after ["scheme", "state", "row"] (defScope st_state_after) := ⟨rfl, rfl, rfl, by decide +kernel, rfl, by decide +kernel, by decide +kernel⟩
theorem run_state_after {P : Program} {w : World} {K : PySem.W.Frag} {mg : Str → Option Value} {base : Heap} {C_effect : Ct (penAmb K)} (T : Txt K mg) (D : Def K mg "state_after" st_state_after ["scheme", "state", "row"]) (O_effect : Ok P w K mg base (penAmb K) "effect" 1 3 C_effect) {C : Ct (penAmb K)}
    (hw : ∀ ds α Qd, ds.length = 3 → C ds α Qd → wb_state_after K C_effect (endsOf Qd) (startB 5 ds, α)) : Ok P w K mg base (penAmb K) "state_after" 2 3 C := by
  refine def_ok D sc_state_after (fun f cdv A outer s H E hr hgd => ?_) hw
  unfold wb_state_after
  exact (qs_cons (qs_set (i := 3) (qv 1) sc_state_after.nd)
    (qs_cons (qs_for PassesOwn.never (qi_seq (qv 2)) (qg_name (i := 4) sc_state_after.nd) (qs_one (qs_set (i := 3) (qe_call O_effect (hr.mono (by first | decide | omega)) hgd (qa_cons (qv 0) (qa_cons (qv 4) (qa_cons (qv 3) qa_nil)))) sc_state_after.nd)))
    (qs_one (qs_ret (qv 3)))))
abbrev st__shortest_ways : Stmt := top 8
abbrev N__shortest_ways : List Str := ["scheme"]
theorem sc__shortest_ways : FnScope N__shortest_ways ["scheme"] (defScope st__shortest_ways) := ⟨rfl, rfl, rfl, by decide +kernel, rfl, by decide +kernel, by decide +kernel⟩
abbrev NL__shortest_ways : List Str := ["state", "scheme", "a"]
abbrev SL__shortest_ways : Scope := lamSc (defBody st__shortest_ways) (defScope st__shortest_ways)
theorem scl__shortest_ways : LScope NL__shortest_ways "state" ["scheme"] SL__shortest_ways := lscope_by (by decide +kernel)
theorem lcap__shortest_ways : LCap N__shortest_ways (defScope st__shortest_ways) SL__shortest_ways ["scheme"] [0] := lcap_by (by decide +kernel)
theorem run__shortest_ways {P : Program} {w : World} {K : PySem.W.Frag} {mg : Str → Option Value} {base : Heap} {cA : Addr} {C_effect : Ct (penAmb K)} {C_shortest_walks : Addr → Ct (penAmb K) → Ct (penAmb K)} {Cl : List D → Ct (penAmb K)} (T : Txt K mg) (TB : LamX.TabB base mg cA 44) (D : DefC K mg "_shortest_ways" st__shortest_ways ["scheme"] cA) (O_effect : Ok P w K mg base (penAmb K) "effect" 1 3 C_effect) (O_shortest_walks : OkL P w K mg base (penAmb K) "shortest_walks" 3 2 C_shortest_walks) {C : Ct (penAmb K)}
    (hl : ∀ caps d α Qd, Cl caps [d] α Qd → wl__shortest_ways K C_effect (startB 3 (d :: caps), α) fun r E => Qd r.out E.2)
    (hw : ∀ ds α Qd, ds.length = 1 → C ds α Qd → wb__shortest_ways K C_effect C_shortest_walks Cl (endsOf Qd) (startB 1 ds, α)) : Ok P w K mg base (penAmb K) "_shortest_ways" 5 1 C := by
  refine defC_ok D sc__shortest_ways (fun f A outer s H E hr hgd => ?_) hw
  have hTT : (44, (("_shortest_ways" ++ ".<locals>.") ++ "<lambda>" : Str)) ∈ tabT := by decide +kernel
  have hTu : ∀ p ∈ tabT, p.1 = 44 → p.2 = (("_shortest_ways" ++ ".<locals>.") ++ "<lambda>" : Str) := by decide +kernel
  have hu := hr.units
  unfold wb__shortest_ways
  unfold wl__shortest_ways at hl
  exact (qs_one (qs_ret (qe_lamcall (N := NL__shortest_ways) (fr := ["scheme"]) (js := [0]) (kb := 2) (p := "state") O_shortest_walks (hr.mono (by first | decide | omega)) hgd (qe_gint T.c_ABSENT) TB rfl hTT hTu scl__shortest_ways lcap__shortest_ways (by first | decide | omega) (fun _ _ _ _ _ _ _ hr hgd => have hu := hr.units; (qe_lc (own := [("a", 2)]) scl__shortest_ways.nd (qi_seq (qe_ix' (qv 1) qe_int)) (blkOk_by (N := NL__shortest_ways) (sc := SL__shortest_ways) (by decide +kernel)) (fun _ _ _ _ _ => (qg_name (i := 2) scl__shortest_ways.nd)) (fun _ _ _ _ _ => qts_nil) (fun _ _ _ _ _ => (qe_tup (qa_cons (qv 2) (qa_cons (qe_call O_effect (hr.mono (by first | decide | omega)) hgd (qa_cons (qv 1) (qa_cons (qv 2) (qa_cons (qv 0) qa_nil)))) qa_nil)))))) hl)))
abbrev st_reached : Stmt := top 7
abbrev N_reached : List Str := ["scheme"]
theorem sc_reached : FnScope N_reached ["scheme"] (defScope st_reached) := ⟨rfl, rfl, rfl, by decide +kernel, rfl, by decide +kernel, by decide +kernel⟩
theorem run_reached {P : Program} {w : World} {K : PySem.W.Frag} {mg : Str → Option Value} {base : Heap} {C__shortest_ways : Ct (penAmb K)} (T : Txt K mg) (D : Def K mg "reached" st_reached ["scheme"]) (O__shortest_ways : Ok P w K mg base (penAmb K) "_shortest_ways" 5 1 C__shortest_ways) {C : Ct (penAmb K)}
    (hw : ∀ ds α Qd, ds.length = 1 → C ds α Qd → wb_reached K C__shortest_ways (endsOf Qd) (startB 1 ds, α)) : Ok P w K mg base (penAmb K) "reached" 6 1 C := by
  refine def_ok D sc_reached (fun f cdv A outer s H E hr hgd => ?_) hw
  unfold wb_reached
  exact (qs_one (qs_ret (qe_cb oc_sortD T.n_sorted (qc_cons (qe_call O__shortest_ways (hr.mono (by first | decide | omega)) hgd (qa_cons (qv 0) qa_nil)) qc_nil))))
abbrev st_turn_of : Stmt := top 10
abbrev N_turn_of : List Str := ["scheme", "row", "state"]
theorem sc_turn_of : FnScope N_turn_of ["scheme", "row"] (defScope st_turn_of) := ⟨rfl, rfl, rfl, by decide +kernel, rfl, by decide +kernel, by decide +kernel⟩
theorem run_turn_of {P : Program} {w : World} {K : PySem.W.Frag} {mg : Str → Option Value} {base : Heap} {C_reached : Ct (penAmb K)} {C_state_after : Ct (penAmb K)} (T : Txt K mg) (D : Def K mg "turn_of" st_turn_of ["scheme", "row"]) (O_reached : Ok P w K mg base (penAmb K) "reached" 6 1 C_reached) (O_state_after : Ok P w K mg base (penAmb K) "state_after" 2 3 C_state_after) {C : Ct (penAmb K)}
    (hw : ∀ ds α Qd, ds.length = 2 → C ds α Qd → wb_turn_of K C_reached C_state_after (endsOf Qd) (startB 3 ds, α)) : Ok P w K mg base (penAmb K) "turn_of" 7 2 C := by
  refine def_ok D sc_turn_of (fun f cdv A outer s H E hr hgd => ?_) hw
  unfold wb_turn_of
  exact (qs_one (qs_ret (qe_ct oc_tuple T.n_tuple (qc_cons (qe_lc (own := [("state", 2)]) sc_turn_of.nd (qi_seq (qe_call O_reached (hr.mono (by first | decide | omega)) hgd (qa_cons (qv 0) qa_nil))) (blkOk_by (N := N_turn_of) (sc := defScope st_turn_of) (by decide +kernel)) (fun _ _ _ _ _ => (qg_name (i := 2) sc_turn_of.nd)) (fun _ _ _ _ _ => qts_nil) (fun _ _ _ _ _ => (qe_call O_state_after (hr.mono (by first | decide | omega)) hgd (qa_cons (qv 0) (qa_cons (qv 2) (qa_cons (qv 1) qa_nil)))))) qc_nil))))
abbrev st__turns_behind : Stmt := top 15
abbrev N__turns_behind : List Str := ["scheme", "states", "operand", "state"]
theorem sc__turns_behind : FnScope N__turns_behind ["scheme", "states"] (defScope st__turns_behind) := ⟨rfl, rfl, rfl, by decide +kernel, rfl, by decide +kernel, by decide +kernel⟩
theorem run__turns_behind {P : Program} {w : World} {K : PySem.W.Frag} {mg : Str → Option Value} {base : Heap} {C_effect : Ct (penAmb K)} (T : Txt K mg) (D : Def K mg "_turns_behind" st__turns_behind ["scheme", "states"]) (O_effect : Ok P w K mg base (penAmb K) "effect" 1 3 C_effect) {C : Ct (penAmb K)}
    (hw : ∀ ds α Qd, ds.length = 2 → C ds α Qd → wb__turns_behind K C_effect (endsOf Qd) (startB 4 ds, α)) : Ok P w K mg base (penAmb K) "_turns_behind" 2 2 C := by
  refine def_ok D sc__turns_behind (fun f cdv A outer s H E hr hgd => ?_) hw
  unfold wb__turns_behind
  exact (qs_one (qs_ret (qe_lc (own := [("operand", 2)]) sc__turns_behind.nd (qi_seq (qe_ix' (qv 0) qe_int)) (blkOk_by (N := N__turns_behind) (sc := defScope st__turns_behind) (by decide +kernel)) (fun _ _ _ _ _ => (qg_name (i := 2) sc__turns_behind.nd)) (fun _ _ _ _ _ => qts_nil) (fun _ _ _ _ _ => (qe_tup (qa_cons (qv 2) (qa_cons (qe_ct oc_tuple T.n_tuple (qc_cons (qe_lc (own := [("state", 3)]) sc__turns_behind.nd (qi_seq (qv 1)) (blkOk_by (N := N__turns_behind) (sc := (relab (defScope st__turns_behind) (compSc (defScope st__turns_behind) (pRet ((defBody st__turns_behind).getD 0 noS))))) (by decide +kernel)) (fun _ _ _ _ _ => (qg_name (i := 3) sc__turns_behind.nd)) (fun _ _ _ _ _ => qts_nil) (fun _ _ _ _ _ => (qe_call O_effect (hr.mono (by first | decide | omega)) hgd (qa_cons (qv 0) (qa_cons (qv 2) (qa_cons (qv 3) qa_nil)))))) qc_nil)) qa_nil)))))))
abbrev st__shortest_rows : Stmt := top 14
abbrev N__shortest_rows : List Str := ["scheme", "states", "rows"]
theorem sc__shortest_rows : FnScope N__shortest_rows ["scheme"] (defScope st__shortest_rows) := ⟨rfl, rfl, rfl, by decide +kernel, rfl, by decide +kernel, by decide +kernel⟩
abbrev NL__shortest_rows : List Str := ["turn", "scheme", "states"]
abbrev SL__shortest_rows : Scope := lamSc (defBody st__shortest_rows) (defScope st__shortest_rows)
theorem scl__shortest_rows : LScope NL__shortest_rows "turn" ["scheme", "states"] SL__shortest_rows := lscope_by (by decide +kernel)
theorem lcap__shortest_rows : LCap N__shortest_rows (defScope st__shortest_rows) SL__shortest_rows ["scheme", "states"] [0, 1] := lcap_by (by decide +kernel)
theorem run__shortest_rows {P : Program} {w : World} {K : PySem.W.Frag} {mg : Str → Option Value} {base : Heap} {cA : Addr} {C__turns_behind : Ct (penAmb K)} {C_reached : Ct (penAmb K)} {C_shortest_walks_T : Addr → Ct (penAmb K) → Ct (penAmb K)} {Cl : List D → Ct (penAmb K)} (T : Txt K mg) (TB : LamX.TabB base mg cA 77) (D : DefC K mg "_shortest_rows" st__shortest_rows ["scheme"] cA) (O__turns_behind : Ok P w K mg base (penAmb K) "_turns_behind" 2 2 C__turns_behind) (O_reached : Ok P w K mg base (penAmb K) "reached" 6 1 C_reached) (O_shortest_walks_T : OkL P w K mg base (penAmb K) "shortest_walks" 3 2 C_shortest_walks_T) {C : Ct (penAmb K)}
    (hl : ∀ caps d α Qd, Cl caps [d] α Qd → wl__shortest_rows K C__turns_behind (startB 3 (d :: caps), α) fun r E => Qd r.out E.2)
    (hw : ∀ ds α Qd, ds.length = 1 → C ds α Qd → wb__shortest_rows K C__turns_behind C_reached C_shortest_walks_T Cl (endsOf Qd) (startB 3 ds, α)) : Ok P w K mg base (penAmb K) "_shortest_rows" 8 1 C := by
  refine defC_ok D sc__shortest_rows (fun f A outer s H E hr hgd => ?_) hw
  have hTT : (77, (("_shortest_rows" ++ ".<locals>.") ++ "<lambda>" : Str)) ∈ tabT := by decide +kernel
  have hTu : ∀ p ∈ tabT, p.1 = 77 → p.2 = (("_shortest_rows" ++ ".<locals>.") ++ "<lambda>" : Str) := by decide +kernel
  have hu := hr.units
  unfold wb__shortest_rows
  unfold wl__shortest_rows at hl
  exact (qs_cons (qs_set (i := 1) (qe_call O_reached (hr.mono (by first | decide | omega)) hgd (qa_cons (qv 0) qa_nil)) sc__shortest_rows.nd)
    (qs_cons (qs_set (i := 2) (qe_giv (i := 1) (qe_lamcall (N := NL__shortest_rows) (fr := ["scheme", "states"]) (js := [0, 1]) (kb := 2) (p := "turn") O_shortest_walks_T (hr.mono (by first | decide | omega)) hgd (qe_tup qa_nil) TB rfl hTT hTu scl__shortest_rows lcap__shortest_rows (by first | decide | omega) (fun _ _ _ _ _ _ _ hr hgd => have hu := hr.units; (qe_call O__turns_behind (hr.mono (by first | decide | omega)) hgd (qa_cons (qv 1) (qa_cons (qe_orT (qv 0) (qe_one (qv 2))) qa_nil)))) hl)) sc__shortest_rows.nd)
    (qs_cons (qs_delT hu (pv 2) (qe_tup qa_nil))
    (qs_one (qs_ret (qv 2))))))
abbrev st_turns : Stmt := top 11
abbrev N_turns : List Str := ["scheme"]
theorem sc_turns : FnScope N_turns ["scheme"] (defScope st_turns) := ⟨rfl, rfl, rfl, by decide +kernel, rfl, by decide +kernel, by decide +kernel⟩
theorem run_turns {P : Program} {w : World} {K : PySem.W.Frag} {mg : Str → Option Value} {base : Heap} {C__shortest_rows : Ct (penAmb K)} (T : Txt K mg) (D : Def K mg "turns" st_turns ["scheme"]) (O__shortest_rows : Ok P w K mg base (penAmb K) "_shortest_rows" 8 1 C__shortest_rows) {C : Ct (penAmb K)}
    (hw : ∀ ds α Qd, ds.length = 1 → C ds α Qd → wb_turns K C__shortest_rows (endsOf Qd) (startB 1 ds, α)) : Ok P w K mg base (penAmb K) "turns" 9 1 C := by
  refine def_ok D sc_turns (fun f cdv A outer s H E hr hgd => ?_) hw
  have hu := hr.units
  unfold wb_turns
  exact (qs_one (qs_ret (qe_cb (oc_sortDT hu) T.n_sorted (qc_cons (qe_call O__shortest_rows (hr.mono (by first | decide | omega)) hgd (qa_cons (qv 0) qa_nil)) qc_nil))))
abbrev st_row_for : Stmt := top 12
abbrev N_row_for : List Str := ["scheme", "turn"]
theorem sc_row_for : FnScope N_row_for ["scheme", "turn"] (defScope st_row_for) := ⟨rfl, rfl, rfl, by decide +kernel, rfl, by decide +kernel, by decide +kernel⟩
theorem run_row_for {P : Program} {w : World} {K : PySem.W.Frag} {mg : Str → Option Value} {base : Heap} {C__shortest_rows : Ct (penAmb K)} (T : Txt K mg) (D : Def K mg "row_for" st_row_for ["scheme", "turn"]) (O__shortest_rows : Ok P w K mg base (penAmb K) "_shortest_rows" 8 1 C__shortest_rows) {C : Ct (penAmb K)}
    (hw : ∀ ds α Qd, ds.length = 2 → C ds α Qd → wb_row_for K C__shortest_rows (endsOf Qd) (startB 2 ds, α)) : Ok P w K mg base (penAmb K) "row_for" 9 2 C := by
  refine def_ok D sc_row_for (fun f cdv A outer s H E hr hgd => ?_) hw
  have hu := hr.units
  unfold wb_row_for
  exact (qs_one (qs_ret (qe_dget1T hu (qe_call O__shortest_rows (hr.mono (by first | decide | omega)) hgd (qa_cons (qv 0) qa_nil)) (qv 1))))
abbrev st__further_turns : Stmt := top 16
abbrev N__further_turns : List Str := ["scheme", "states", "known", "turn", "_"]
theorem sc__further_turns : FnScope N__further_turns ["scheme"] (defScope st__further_turns) := ⟨rfl, rfl, rfl, by decide +kernel, rfl, by decide +kernel, by decide +kernel⟩
theorem run__further_turns {P : Program} {w : World} {K : PySem.W.Frag} {mg : Str → Option Value} {base : Heap} {C__turns_behind : Ct (penAmb K)} {C_reached : Ct (penAmb K)} {C_turns : Ct (penAmb K)} (T : Txt K mg) (D : Def K mg "_further_turns" st__further_turns ["scheme"]) (O__turns_behind : Ok P w K mg base (penAmb K) "_turns_behind" 2 2 C__turns_behind) (O_reached : Ok P w K mg base (penAmb K) "reached" 6 1 C_reached) (O_turns : Ok P w K mg base (penAmb K) "turns" 9 1 C_turns) {C : Ct (penAmb K)}
    (hw : ∀ ds α Qd, ds.length = 1 → C ds α Qd → wb__further_turns K C__turns_behind C_reached C_turns (endsOf Qd) (startB 5 ds, α)) : Ok P w K mg base (penAmb K) "_further_turns" 10 1 C := by
  refine def_ok D sc__further_turns (fun f cdv A outer s H E hr hgd => ?_) hw
  have hu := hr.units
  unfold wb__further_turns
  exact (qs_cons (qs_set (i := 1) (qe_call O_reached (hr.mono (by first | decide | omega)) hgd (qa_cons (qv 0) qa_nil)) sc__further_turns.nd)
    (qs_cons (qs_set (i := 2) (qe_op' o_add (qe_lc (own := [("_", 4), ("turn", 3)]) sc__further_turns.nd (qi_seq (qe_call O__turns_behind (hr.mono (by first | decide | omega)) hgd (qa_cons (qv 0) (qa_cons (qv 1) qa_nil)))) (blkOk_by (N := N__further_turns) (sc := defScope st__further_turns) (by decide +kernel)) (fun _ _ _ _ _ => (qg_tup (qgs_cons (qg_name (i := 4) sc__further_turns.nd) (qgs_cons (qg_name (i := 3) sc__further_turns.nd) qgs_nil)))) (fun _ _ _ _ _ => qts_nil) (fun _ _ _ _ _ => (qv 3))) (qe_lst (qa_cons (qe_ct oc_tuple T.n_tuple (qc_cons (qv 1) qc_nil)) qa_nil))) sc__further_turns.nd)
    (qs_one (qs_ret (qe_lc (own := [("turn", 3)]) sc__further_turns.nd (qi_seq (qe_call O_turns (hr.mono (by first | decide | omega)) hgd (qa_cons (qv 0) qa_nil))) (blkOk_by (N := N__further_turns) (sc := defScope st__further_turns) (by decide +kernel)) (fun _ _ _ _ _ => (qg_name (i := 3) sc__further_turns.nd)) (fun _ _ _ _ _ => (qts_one (qt_cmp (o_ninE hu) (qv 3) (qv 2)))) (fun _ _ _ _ _ => (qv 3)))))))
abbrev st_least_count : Stmt := top 13
abbrev N_least_count : List Str := ["scheme"]
theorem sc_least_count : FnScope N_least_count ["scheme"] (defScope st_least_count) := ⟨rfl, rfl, rfl, by decide +kernel, rfl, by decide +kernel, by decide +kernel⟩
theorem run_least_count {P : Program} {w : World} {K : PySem.W.Frag} {mg : Str → Option Value} {base : Heap} {C__further_turns : Ct (penAmb K)} (T : Txt K mg) (D : Def K mg "least_count" st_least_count ["scheme"]) (O__further_turns : Ok P w K mg base (penAmb K) "_further_turns" 10 1 C__further_turns) {C : Ct (penAmb K)}
    (hw : ∀ ds α Qd, ds.length = 1 → C ds α Qd → wb_least_count K C__further_turns (endsOf Qd) (startB 1 ds, α)) : Ok P w K mg base (penAmb K) "least_count" 11 1 C := by
  refine def_ok D sc_least_count (fun f cdv A outer s H E hr hgd => ?_) hw
  unfold wb_least_count
  exact (qs_one (qs_ret (qe_op' o_add (qe_cb oc_len T.n_len (qc_cons (qe_ix' (qv 0) qe_int) qc_nil)) (qe_cb oc_len T.n_len (qc_cons (qe_call O__further_turns (hr.mono (by first | decide | omega)) hgd (qa_cons (qv 0) qa_nil)) qc_nil)))))
abbrev st__law_open : Stmt := top 18
abbrev N__law_open : List Str := ["script", "cells", "k", "cell"]
theorem sc__law_open : FnScope N__law_open ["script"] (defScope st__law_open) := ⟨rfl, rfl, rfl, by decide +kernel, rfl, by decide +kernel, by decide +kernel⟩
theorem run__law_open {P : Program} {w : World} {K : PySem.W.Frag} {mg : Str → Option Value} {base : Heap} (T : Txt K mg) (D : Def K mg "_law_open" st__law_open ["script"]) {C : Ct (penAmb K)}
    (hw : ∀ ds α Qd, ds.length = 1 → C ds α Qd → wb__law_open K (endsOf Qd) (startB 4 ds, α)) : Ok P w K mg base (penAmb K) "_law_open" 1 1 C := by
  refine def_ok D sc__law_open (fun f cdv A outer s H E hr hgd => ?_) hw
  unfold wb__law_open
  exact (qs_cons (qs_set (i := 1) (qe_ct oc_list T.n_list (qc_cons (qe_slice (qv 0) qo_none (qo_some qe_int)) qc_nil)) sc__law_open.nd)
    (qs_cons (qs_for PassesOwn.never (qi_enum T.n_enumerate (qa_cons (qe_slice (qv 0) (qo_some qe_int) (qo_some qe_int)) qa_nil)) (qg_tup (qgs_cons (qg_name (i := 2) sc__law_open.nd) (qgs_cons (qg_name (i := 3) sc__law_open.nd) qgs_nil))) (qs_one (qs_putL (pv 1) (qe_op' o_mod (qe_ct oc_int T.n_int (qc_cons (qv 2) qc_nil)) qe_int) (qe_op' o_add (qe_ix' (qv 1) (qe_op' o_mod (qe_ct oc_int T.n_int (qc_cons (qv 2) qc_nil)) qe_int)) (qv 3)))))
    (qs_one (qs_ret (qe_lst (qa_cons (qv 1) (qa_cons qe_int (qa_cons qe_int qa_nil))))))))
abbrev st__law_spread : Stmt := top 19
abbrev N__law_spread : List Str := ["cell", "at", "primes", "u", "v", "w"]
theorem sc__law_spread : FnScope N__law_spread ["cell", "at"] (defScope st__law_spread) := ⟨rfl, rfl, rfl, by decide +kernel, rfl, by decide +kernel, by decide +kernel⟩
theorem run__law_spread {P : Program} {w : World} {K : PySem.W.Frag} {mg : Str → Option Value} {base : Heap} (T : Txt K mg) (D : Def K mg "_law_spread" st__law_spread ["cell", "at"]) {C : Ct (penAmb K)}
    (hw : ∀ ds α Qd, ds.length = 2 → C ds α Qd → wb__law_spread K (endsOf Qd) (startB 6 ds, α)) : Ok P w K mg base (penAmb K) "_law_spread" 1 2 C := by
  refine def_ok D sc__law_spread (fun f cdv A outer s H E hr hgd => ?_) hw
  unfold wb__law_spread
  exact (qs_cons (qs_if (qt_cmp o_ge (qv 0) (qe_op' o_pow qe_int qe_int)) (qs_one (qs_ret (qv 0))) qs_nil)
    (qs_cons (qs_set (i := 2) (qe_lst (qa_cons qe_int (qa_cons qe_int (qa_cons qe_int (qa_cons qe_int (qa_cons qe_int (qa_cons qe_int (qa_cons qe_int (qa_cons qe_int qa_nil))))))))) sc__law_spread.nd)
    (qs_cons (qs_set (i := 2) (qe_op' o_add (qv 2) (qe_lst (qa_cons qe_int (qa_cons qe_int (qa_cons qe_int (qa_cons qe_int (qa_cons qe_int qa_nil))))))) sc__law_spread.nd)
    (qs_cons (qs_set (i := 3) (qe_op' o_add (qe_op' o_add (qe_op' o_mul (qe_op' o_mod (qe_ct oc_int T.n_int (qc_cons (qv 0) qc_nil)) qe_int) (qe_op' o_add (qe_op' o_mul qe_int (qv 1)) qe_int)) (qe_op' o_mul (qv 1) qe_int)) qe_int) sc__law_spread.nd)
    (qs_cons (qs_set (i := 3) (qe_op' o_mod (qe_ct oc_int T.n_int (qc_cons (qe_op' o_pow (qv 3) qe_int) qc_nil)) (qe_ix' (qv 2) (qe_op' o_mod (qe_ct oc_int T.n_int (qc_cons (qv 1) qc_nil)) qe_int))) sc__law_spread.nd)
    (qs_cons (qs_set (i := 4) (qe_op' o_mod (qe_ct oc_int T.n_int (qc_cons (qe_op' o_pow (qe_op' o_add (qe_op' o_add (qe_op' o_mul (qv 3) (qe_op' o_add (qv 1) qe_int)) (qe_op' o_mod (qe_ct oc_int T.n_int (qc_cons (qv 0) qc_nil)) qe_int)) qe_int) qe_int) qc_nil)) (qe_ix' (qv 2) (qe_op' o_mod (qe_ct oc_int T.n_int (qc_cons (qe_op' o_add (qv 1) qe_int) qc_nil)) qe_int))) sc__law_spread.nd)
    (qs_cons (qs_set (i := 5) (qe_op' o_mod (qe_ct oc_int T.n_int (qc_cons (qe_op' o_pow (qe_op' o_add (qe_op' o_add (qv 4) (qe_op' o_mod (qe_ct oc_int T.n_int (qc_cons (qv 3) qc_nil)) qe_int)) (qv 1)) qe_int) qc_nil)) (qe_ix' (qv 2) (qe_op' o_mod (qe_ct oc_int T.n_int (qc_cons (qe_op' o_add (qv 1) qe_int) qc_nil)) qe_int))) sc__law_spread.nd)
    (qs_one (qs_ret (qe_op' o_add (qe_op' o_mul (qe_op' o_add (qe_op' o_mul (qv 3) qe_int) (qv 4)) qe_int) (qv 5)))))))))))
abbrev st__law_take : Stmt := top 20
abbrev N__law_take : List Str := ["pen", "amount", "at", "cell", "found"]
theorem sc__law_take : FnScope N__law_take ["pen", "amount"] (defScope st__law_take) := ⟨rfl, rfl, rfl, by decide +kernel, rfl, by decide +kernel, by decide +kernel⟩
theorem run__law_take {P : Program} {w : World} {K : PySem.W.Frag} {mg : Str → Option Value} {base : Heap} {C__law_spread : Ct (penAmb K)} (T : Txt K mg) (D : Def K mg "_law_take" st__law_take ["pen", "amount"]) (O__law_spread : Ok P w K mg base (penAmb K) "_law_spread" 1 2 C__law_spread) {C : Ct (penAmb K)}
    (hw : ∀ ds α Qd, ds.length = 2 → C ds α Qd → wb__law_take K C__law_spread (endsOf Qd) (startB 5 ds, α)) : Ok P w K mg base (penAmb K) "_law_take" 2 2 C := by
  refine def_ok D sc__law_take (fun f cdv A outer s H E hr hgd => ?_) hw
  unfold wb__law_take
  exact (qs_cons (qs_if (qt_cmp o_lt (qe_penrd (j := 2) (by decide) (pv 0)) (qv 1)) (qs_cons (qs_set (i := 2) (qe_penrd (j := 1) (by decide) (pv 0)) sc__law_take.nd)
    (qs_cons (qs_set (i := 3) qe_int sc__law_take.nd)
    (qs_cons (qs_if (qt_cmp o_lt (qv 2) (qe_cb oc_len T.n_len (qc_cons (qe_penrd (j := 0) (by decide) (pv 0)) qc_nil))) (qs_one (qs_set (i := 3) (qe_ix' (qe_penrd (j := 0) (by decide) (pv 0)) (qv 2)) sc__law_take.nd)) (qs_one (qs_if (qt_cmp o_gt (qe_cb oc_len T.n_len (qc_cons (qe_penrd (j := 0) (by decide) (pv 0)) qc_nil)) qe_int) (qs_one (qs_set (i := 3) (qe_op' o_mod (qe_ct oc_int T.n_int (qc_cons (qe_ix' (qe_penrd (j := 0) (by decide) (pv 0)) (qe_op' o_mod (qe_ct oc_int T.n_int (qc_cons (qe_op' o_add (qe_op' o_mul (qv 2) qe_int) qe_int) qc_nil)) (qe_cb oc_len T.n_len (qc_cons (qe_penrd (j := 0) (by decide) (pv 0)) qc_nil)))) qc_nil)) (qe_op' o_add (qe_op' o_pow qe_int qe_int) (qv 2))) sc__law_take.nd)) qs_nil)))
    (qs_cons (qs_penwr (j := 1) (by decide) (pv 0) (qe_op' o_add (qv 2) qe_int))
    (qs_one (qs_penwr (j := 2) (by decide) (pv 0) (qe_call O__law_spread (hr.mono (by first | decide | omega)) hgd (qa_cons (qv 3) (qa_cons (qv 2) qa_nil))))))))) qs_nil)
    (qs_cons (qs_set (i := 4) (qe_op' o_mod (qe_ct oc_int T.n_int (qc_cons (qe_penrd (j := 2) (by decide) (pv 0)) qc_nil)) (qv 1)) sc__law_take.nd)
    (qs_cons (qs_penwr (j := 2) (by decide) (pv 0) (qe_op' o_fdiv (qe_penrd (j := 2) (by decide) (pv 0)) (qv 1)))
    (qs_one (qs_ret (qv 4))))))
abbrev st__law_same : Stmt := top 21
abbrev N__law_same : List Str := ["found", "due", "one", "other"]
theorem sc__law_same : FnScope N__law_same ["found", "due"] (defScope st__law_same) := ⟨rfl, rfl, rfl, by decide +kernel, rfl, by decide +kernel, by decide +kernel⟩
theorem run__law_same {P : Program} {w : World} {K : PySem.W.Frag} {mg : Str → Option Value} {base : Heap} {C__law_same : Ct (noAmb K)} {k : Nat} (T : Txt K mg) (D : Def K mg "_law_same" st__law_same ["found", "due"]) (O__law_same : Ok P w K mg base (noAmb K) "_law_same" k 2 C__law_same) (hk : 0 ≤ k) {C : Ct (noAmb K)}
    (hw : ∀ ds α Qd, ds.length = 2 → C ds α Qd → wb__law_same K C__law_same (endsOf Qd) (startB 4 ds, α)) : Ok P w K mg base (noAmb K) "_law_same" (k + 1) 2 C := by
  refine def_ok D sc__law_same (fun f cdv A outer s H E hr hgd => ?_) hw
  have hu := hr.units
  unfold wb__law_same
  exact (qs_cons (qs_if (qw_or (qt_cmp o_is (qv 1) qe_non) (qw_or1 (qt_cmp o_is (qv 0) qe_non))).t (qs_one (qs_ret (qe_and (qe_cmp' o_is (qv 1) qe_non) (qe_one (qe_cmp' o_is (qv 0) qe_non))))) qs_nil)
    (qs_cons (qs_if (qw_or (qt_val (qe_isi (qv 1) (by decide) T.n_isinstance T.n_bool)) (qw_or1 (qt_val (qe_isi (qv 0) (by decide) T.n_isinstance T.n_bool)))).t (qs_one (qs_ret (qe_and (qe_isi (qv 1) (by decide) T.n_isinstance T.n_bool) (qe_and (qe_isi (qv 0) (by decide) T.n_isinstance T.n_bool) (qe_one (qe_cmp' (o_eq hu) (qv 0) (qv 1))))))) qs_nil)
    (qs_cons (qs_if (qt_val (qe_isi2 (qv 1) (by decide) (by decide) T.n_isinstance T.n_int T.n_str)) (qs_cons (qs_if (qt_cmp (o_ne hu) (qe_isi (qv 0) (by decide) T.n_isinstance T.n_int) (qe_isi (qv 1) (by decide) T.n_isinstance T.n_int)) (qs_one (qs_ret qe_bl)) qs_nil)
    (qs_one (qs_ret (qe_and (qe_isi2 (qv 0) (by decide) (by decide) T.n_isinstance T.n_int T.n_str) (qe_one (qe_cmp' (o_eq hu) (qv 0) (qv 1))))))) qs_nil)
    (qs_cons (qs_if (qw_or (qt_cmp (o_ne hu) (qe_isi (qv 1) (by decide) T.n_isinstance T.n_tuple) (qe_isi (qv 0) (by decide) T.n_isinstance T.n_tuple)) (qw_or1 (qt_cmp (o_ne hu) (qe_isi (qv 1) (by decide) T.n_isinstance T.n_list) (qe_isi (qv 0) (by decide) T.n_isinstance T.n_list)))).t (qs_one (qs_ret qe_bl)) qs_nil)
    (qs_cons (qs_if (qt_cmp (o_ne hu) (qe_cb oc_len T.n_len (qc_cons (qv 0) qc_nil)) (qe_cb oc_len T.n_len (qc_cons (qv 1) qc_nil))) (qs_one (qs_ret qe_bl)) qs_nil)
    (qs_one (qs_ret (qe_cmp' o_nin qe_bl (qe_lc (own := [("one", 2), ("other", 3)]) sc__law_same.nd (qi_zip T.n_zip (qa_cons (qv 0) (qa_cons (qv 1) qa_nil))) (blkOk_by (N := N__law_same) (sc := defScope st__law_same) (by decide +kernel)) (fun _ _ _ _ _ => (qg_tup (qgs_cons (qg_name (i := 2) sc__law_same.nd) (qgs_cons (qg_name (i := 3) sc__law_same.nd) qgs_nil)))) (fun _ _ _ _ _ => qts_nil) (fun _ _ _ _ _ => (qe_callP O__law_same hr hgd (qc_cons (qv 2) (qc_cons (qv 3) qc_nil)))))))))))))
abbrev st__law_one_of : Stmt := top 22
abbrev N__law_one_of : List Str := ["pen", "some"]
theorem sc__law_one_of : FnScope N__law_one_of ["pen", "some"] (defScope st__law_one_of) := ⟨rfl, rfl, rfl, by decide +kernel, rfl, by decide +kernel, by decide +kernel⟩
theorem run__law_one_of {P : Program} {w : World} {K : PySem.W.Frag} {mg : Str → Option Value} {base : Heap} {C__law_take : Ct (penAmb K)} (T : Txt K mg) (D : Def K mg "_law_one_of" st__law_one_of ["pen", "some"]) (O__law_take : Ok P w K mg base (penAmb K) "_law_take" 2 2 C__law_take) {C : Ct (penAmb K)}
    (hw : ∀ ds α Qd, ds.length = 2 → C ds α Qd → wb__law_one_of K C__law_take (endsOf Qd) (startB 2 ds, α)) : Ok P w K mg base (penAmb K) "_law_one_of" 3 2 C := by
  refine def_ok D sc__law_one_of (fun f cdv A outer s H E hr hgd => ?_) hw
  unfold wb__law_one_of
  exact (qs_one (qs_ret (qe_ix' (qv 1) (qe_call O__law_take (hr.mono (by first | decide | omega)) hgd (qa_cons (qv 0) (qa_cons (qe_cb oc_len T.n_len (qc_cons (qv 1) qc_nil)) qa_nil))))))
abbrev st__law_is_int : Stmt := top 23
abbrev N__law_is_int : List Str := ["value", "low", "high"]
theorem sc__law_is_int : FnScope N__law_is_int ["value", "low", "high"] (defScope st__law_is_int) := ⟨rfl, rfl, rfl, by decide +kernel, rfl, by decide +kernel, by decide +kernel⟩
theorem run__law_is_int {P : Program} {w : World} {K : PySem.W.Frag} {mg : Str → Option Value} {base : Heap} (T : Txt K mg) (D : Def K mg "_law_is_int" st__law_is_int ["value", "low", "high"]) {C : Ct (penAmb K)}
    (hw : ∀ ds α Qd, ds.length = 3 → C ds α Qd → wb__law_is_int K (endsOf Qd) (startB 3 ds, α)) : Ok P w K mg base (penAmb K) "_law_is_int" 1 3 C := by
  refine def_ok D sc__law_is_int (fun f cdv A outer s H E hr hgd => ?_) hw
  unfold wb__law_is_int
  exact (qs_one (qs_ret (qe_and (qe_isi (qv 0) (by decide) T.n_isinstance T.n_int) (qe_and (qe_not (qe_isi (qv 0) (by decide) T.n_isinstance T.n_bool)) (qe_one (qe_chain o_le o_le (qv 1) (qv 0) (qv 2)))))))
abbrev st__law_draw_effect : Stmt := top 24
abbrev N__law_draw_effect : List Str := ["pen", "v", "way", "state"]
theorem sc__law_draw_effect : FnScope N__law_draw_effect ["pen", "v"] (defScope st__law_draw_effect) := ⟨rfl, rfl, rfl, by decide +kernel, rfl, by decide +kernel, by decide +kernel⟩
theorem run__law_draw_effect {P : Program} {w : World} {K : PySem.W.Frag} {mg : Str → Option Value} {base : Heap} {C__law_take : Ct (penAmb K)} (T : Txt K mg) (D : Def K mg "_law_draw_effect" st__law_draw_effect ["pen", "v"]) (O__law_take : Ok P w K mg base (penAmb K) "_law_take" 2 2 C__law_take) {C : Ct (penAmb K)}
    (hw : ∀ ds α Qd, ds.length = 2 → C ds α Qd → wb__law_draw_effect K C__law_take (endsOf Qd) (startB 4 ds, α)) : Ok P w K mg base (penAmb K) "_law_draw_effect" 3 2 C := by
  refine def_ok D sc__law_draw_effect (fun f cdv A outer s H E hr hgd => ?_) hw
  have hu := hr.units
  unfold wb__law_draw_effect
  exact (qs_cons (qs_set (i := 2) (qe_call O__law_take (hr.mono (by first | decide | omega)) hgd (qa_cons (qv 0) (qa_cons qe_int qa_nil))) sc__law_draw_effect.nd)
    (qs_cons (qs_if (qt_cmp o_lt (qv 2) qe_int) (qs_one (qs_ret (qe_op' o_mulU (qe_tup (qa_cons (qe_op' o_sub (qe_call O__law_take (hr.mono (by first | decide | omega)) hgd (qa_cons (qv 0) (qa_cons (qe_op' o_add (qv 1) qe_int) qa_nil))) qe_int) qa_nil)) (qe_op' o_add (qv 1) qe_int)))) qs_nil)
    (qs_cons (qs_if (qt_cmp (o_eq hu) (qv 2) qe_int) (qs_one (qs_ret (qe_ct oc_tuple T.n_tuple (qc_cons (qe_lc (own := [("state", 3)]) sc__law_draw_effect.nd (qi_rng2 T.n_range (qe_neg qe_int) (qv 1)) (blkOk_by (N := N__law_draw_effect) (sc := defScope st__law_draw_effect) (by decide +kernel)) (fun _ _ _ _ _ => (qg_name (i := 3) sc__law_draw_effect.nd)) (fun _ _ _ _ _ => qts_nil) (fun _ _ _ _ _ => (qe_cb oc_min2 T.n_min (qc_cons (qe_op' o_add (qv 3) qe_int) (qc_cons (qe_op' o_sub (qv 1) qe_int) qc_nil))))) qc_nil)))) qs_nil)
    (qs_cons (qs_if (qt_cmp (o_eq hu) (qv 2) qe_int) (qs_one (qs_ret (qe_ct oc_tuple T.n_tuple (qc_cons (qe_lc (own := [("state", 3)]) sc__law_draw_effect.nd (qi_rng2 T.n_range (qe_neg qe_int) (qv 1)) (blkOk_by (N := N__law_draw_effect) (sc := defScope st__law_draw_effect) (by decide +kernel)) (fun _ _ _ _ _ => (qg_name (i := 3) sc__law_draw_effect.nd)) (fun _ _ _ _ _ => qts_nil) (fun _ _ _ _ _ => (qe_op' o_sub (qe_op' o_mod (qe_ct oc_int T.n_int (qc_cons (qe_op' o_add (qv 3) qe_int) qc_nil)) (qe_op' o_add (qv 1) qe_int)) qe_int))) qc_nil)))) qs_nil)
    (qs_one (qs_ret (qe_ct oc_tuple T.n_tuple (qc_cons (qe_lc (own := [("state", 3)]) sc__law_draw_effect.nd (qi_rng2 T.n_range (qe_neg qe_int) (qv 1)) (blkOk_by (N := N__law_draw_effect) (sc := defScope st__law_draw_effect) (by decide +kernel)) (fun _ _ _ _ _ => (qg_name (i := 3) sc__law_draw_effect.nd)) (fun _ _ _ _ _ => qts_nil) (fun _ _ _ _ _ => (qe_op' o_sub (qe_call O__law_take (hr.mono (by first | decide | omega)) hgd (qa_cons (qv 0) (qa_cons (qe_op' o_add (qv 1) qe_int) qa_nil))) qe_int))) qc_nil))))))))
abbrev st__law_draw_written : Stmt := top 25
abbrev N__law_draw_written : List Str := ["pen", "many", "some", "a"]
theorem sc__law_draw_written : FnScope N__law_draw_written ["pen", "many"] (defScope st__law_draw_written) := ⟨rfl, rfl, rfl, by decide +kernel, rfl, by decide +kernel, by decide +kernel⟩
theorem run__law_draw_written {P : Program} {w : World} {K : PySem.W.Frag} {mg : Str → Option Value} {base : Heap} {C__law_take : Ct (penAmb K)} (T : Txt K mg) (D : Def K mg "_law_draw_written" st__law_draw_written ["pen", "many"]) (O__law_take : Ok P w K mg base (penAmb K) "_law_take" 2 2 C__law_take) {C : Ct (penAmb K)}
    (hw : ∀ ds α Qd, ds.length = 2 → C ds α Qd → wb__law_draw_written K C__law_take (endsOf Qd) (startB 4 ds, α)) : Ok P w K mg base (penAmb K) "_law_draw_written" 3 2 C := by
  refine def_ok D sc__law_draw_written (fun f cdv A outer s H E hr hgd => ?_) hw
  have hu := hr.units
  unfold wb__law_draw_written
  exact (qs_cons (qs_lc (i := 2) (own := [("a", 3)]) sc__law_draw_written.nd rfl rfl (sw_true rfl rfl rfl (by decide +kernel)) (qi_rng1 T.n_range (qv 1)) (blkOk_by (N := N__law_draw_written) (sc := defScope st__law_draw_written) (by decide +kernel)) (fun _ _ _ _ _ => (qg_name (i := 3) sc__law_draw_written.nd)) (fun _ _ _ _ _ => (qts_one (qt_cmp o_gt (qe_call O__law_take (hr.mono (by first | decide | omega)) hgd (qa_cons (qv 0) (qa_cons qe_int qa_nil))) qe_int))) (fun _ _ _ _ _ => (qv 3)))
    (qs_one (qs_ret (qe_if (qt_cmp (o_ne hu) (qv 2) (qe_lst qa_nil)) (qe_ct oc_tuple T.n_tuple (qc_cons (qv 2) qc_nil)) (qe_tup (qa_cons (qe_call O__law_take (hr.mono (by first | decide | omega)) hgd (qa_cons (qv 0) (qa_cons (qv 1) qa_nil))) qa_nil))))))
abbrev st__law_fold : Stmt := top 26
abbrev N__law_fold : List Str := ["scheme", "row", "state", "a"]
theorem sc__law_fold : FnScope N__law_fold ["scheme", "row", "state"] (defScope st__law_fold) := ⟨rfl, rfl, rfl, by decide +kernel, rfl, by decide +kernel, by decide +kernel⟩
theorem run__law_fold {P : Program} {w : World} {K : PySem.W.Frag} {mg : Str → Option Value} {base : Heap} (T : Txt K mg) (D : Def K mg "_law_fold" st__law_fold ["scheme", "row", "state"]) {C : Ct (penAmb K)}
    (hw : ∀ ds α Qd, ds.length = 3 → C ds α Qd → wb__law_fold K (endsOf Qd) (startB 4 ds, α)) : Ok P w K mg base (penAmb K) "_law_fold" 1 3 C := by
  refine def_ok D sc__law_fold (fun f cdv A outer s H E hr hgd => ?_) hw
  unfold wb__law_fold
  exact (qs_cons (qs_for PassesOwn.never (qi_seq (qv 1)) (qg_name (i := 3) sc__law_fold.nd) (qs_one (qs_set (i := 2) (qe_ix' (qe_ix' (qe_ix' (qv 0) qe_int) (qv 3)) (qe_op' o_add (qv 2) qe_int)) sc__law_fold.nd)))
    (qs_one (qs_ret (qv 2))))
abbrev st__law_fits : Stmt := top 27
abbrev N__law_fits : List Str := ["effects", "a", "b", "both", "found", "c", "state"]
theorem sc__law_fits : FnScope N__law_fits ["effects", "a", "b"] (defScope st__law_fits) := ⟨rfl, rfl, rfl, by decide +kernel, rfl, by decide +kernel, by decide +kernel⟩
theorem run__law_fits {P : Program} {w : World} {K : PySem.W.Frag} {mg : Str → Option Value} {base : Heap} (T : Txt K mg) (D : Def K mg "_law_fits" st__law_fits ["effects", "a", "b"]) {C : Ct (penAmb K)}
    (hw : ∀ ds α Qd, ds.length = 3 → C ds α Qd → wb__law_fits K (endsOf Qd) (startB 7 ds, α)) : Ok P w K mg base (penAmb K) "_law_fits" 1 3 C := by
  refine def_ok D sc__law_fits (fun f cdv A outer s H E hr hgd => ?_) hw
  have hu := hr.units
  unfold wb__law_fits
  exact (qs_cons (qs_set (i := 3) (qe_ct oc_tuple T.n_tuple (qc_cons (qe_lc (own := [("state", 6)]) sc__law_fits.nd (qi_seq (qe_ix' (qv 0) (qv 1))) (blkOk_by (N := N__law_fits) (sc := defScope st__law_fits) (by decide +kernel)) (fun _ _ _ _ _ => (qg_name (i := 6) sc__law_fits.nd)) (fun _ _ _ _ _ => qts_nil) (fun _ _ _ _ _ => (qe_ix' (qe_ix' (qv 0) (qv 2)) (qe_op' o_add (qv 6) qe_int)))) qc_nil)) sc__law_fits.nd)
    (qs_cons (qs_lc (i := 4) (own := [("c", 5)]) sc__law_fits.nd rfl rfl (sw_true rfl rfl rfl (by decide +kernel)) (qi_rng1 T.n_range (qe_cb oc_len T.n_len (qc_cons (qv 0) qc_nil))) (blkOk_by (N := N__law_fits) (sc := defScope st__law_fits) (by decide +kernel)) (fun _ _ _ _ _ => (qg_name (i := 5) sc__law_fits.nd)) (fun _ _ _ _ _ => (qts_one (qt_cmp (o_eq hu) (qe_ix' (qv 0) (qv 5)) (qv 3)))) (fun _ _ _ _ _ => (qv 5)))
    (qs_one (qs_ret (qe_if (qt_cmp (o_eq hu) (qe_ct oc_list T.n_list (qc_cons (qv 3) qc_nil)) (qe_lrg T.n_list T.n_range (qe_neg qe_int) (qe_op' o_sub (qe_cb oc_len T.n_len (qc_cons (qv 3) qc_nil)) qe_int))) (qe_op' o_add (qv 4) (qe_lst (qa_cons (qe_neg qe_int) qa_nil))) (qv 4))))))
abbrev st__law_draw_scheme : Stmt := top 28
abbrev N__law_draw_scheme : List Str := ["pen", "values", "operands", "full", "v", "many", "effects", "written", "rules", "odd", "a", "b", "some"]
theorem sc__law_draw_scheme : FnScope N__law_draw_scheme ["pen", "values", "operands", "full"] (defScope st__law_draw_scheme) := ⟨rfl, rfl, rfl, by decide +kernel, rfl, by decide +kernel, by decide +kernel⟩
theorem run__law_draw_scheme {P : Program} {w : World} {K : PySem.W.Frag} {mg : Str → Option Value} {base : Heap} {C__law_draw_effect : Ct (penAmb K)} {C__law_draw_written : Ct (penAmb K)} {C__law_fits : Ct (penAmb K)} {C__law_one_of : Ct (penAmb K)} {C__law_take : Ct (penAmb K)} (T : Txt K mg) (D : Def K mg "_law_draw_scheme" st__law_draw_scheme ["pen", "values", "operands", "full"]) (O__law_draw_effect : Ok P w K mg base (penAmb K) "_law_draw_effect" 3 2 C__law_draw_effect) (O__law_draw_written : Ok P w K mg base (penAmb K) "_law_draw_written" 3 2 C__law_draw_written) (O__law_fits : Ok P w K mg base (penAmb K) "_law_fits" 1 3 C__law_fits) (O__law_one_of : Ok P w K mg base (penAmb K) "_law_one_of" 3 2 C__law_one_of) (O__law_take : Ok P w K mg base (penAmb K) "_law_take" 2 2 C__law_take) {C : Ct (penAmb K)}
    (hw : ∀ ds α Qd, ds.length = 4 → C ds α Qd → wb__law_draw_scheme K C__law_draw_effect C__law_draw_written C__law_fits C__law_one_of C__law_take (endsOf Qd) (startB 13 ds, α)) : Ok P w K mg base (penAmb K) "_law_draw_scheme" 4 4 C := by
  refine def_ok D sc__law_draw_scheme (fun f cdv A outer s H E hr hgd => ?_) hw
  have hu := hr.units
  unfold wb__law_draw_scheme
  exact (qs_cons (qs_asg (qe_tup (qa_cons (qe_op' o_add qe_int (qe_call O__law_take (hr.mono (by first | decide | omega)) hgd (qa_cons (qv 0) (qa_cons (qv 1) qa_nil)))) (qa_cons (qe_op' o_add qe_int (qe_call O__law_take (hr.mono (by first | decide | omega)) hgd (qa_cons (qv 0) (qa_cons (qv 2) qa_nil)))) qa_nil))) (qg_tup (qgs_cons (qg_name (i := 4) sc__law_draw_scheme.nd) (qgs_cons (qg_name (i := 5) sc__law_draw_scheme.nd) qgs_nil))))
    (qs_cons (qs_set (i := 6) (qe_ct oc_tuple T.n_tuple (qc_cons (qe_lc (own := [("a", 10)]) sc__law_draw_scheme.nd (qi_rng1 T.n_range (qv 5)) (blkOk_by (N := N__law_draw_scheme) (sc := defScope st__law_draw_scheme) (by decide +kernel)) (fun _ _ _ _ _ => (qg_name (i := 10) sc__law_draw_scheme.nd)) (fun _ _ _ _ _ => qts_nil) (fun _ _ _ _ _ => (qe_call O__law_draw_effect (hr.mono (by first | decide | omega)) hgd (qa_cons (qv 0) (qa_cons (qv 4) qa_nil))))) qc_nil)) sc__law_draw_scheme.nd)
    (qs_cons (qs_par (i := 7) (j := 8) sc__law_draw_scheme.nd (qe_call O__law_draw_written (hr.mono (by first | decide | omega)) hgd (qa_cons (qv 0) (qa_cons (qv 5) qa_nil))) (qe_lst qa_nil))
    (qs_cons (qs_set (i := 9) (qe_call O__law_one_of (hr.mono (by first | decide | omega)) hgd (qa_cons (qv 0) (qa_cons (qe_lst (qa_cons qe_int (qa_cons qe_int (qa_cons qe_int (qa_cons qe_int qa_nil))))) qa_nil))) sc__law_draw_scheme.nd)
    (qs_cons (qs_for PassesOwn.never (qi_rng1 T.n_range (qv 5)) (qg_name (i := 10) sc__law_draw_scheme.nd) (qs_one (qs_for PassesOwn.never (qi_rng1 T.n_range (qv 5)) (qg_name (i := 11) sc__law_draw_scheme.nd) (qs_cons (qs_set (i := 12) (qe_call O__law_fits (hr.mono (by first | decide | omega)) hgd (qa_cons (qv 6) (qa_cons (qv 10) (qa_cons (qv 11) qa_nil)))) sc__law_draw_scheme.nd)
    (qs_one (qs_if (qt_cmp o_lt (qe_call O__law_take (hr.mono (by first | decide | omega)) hgd (qa_cons (qv 0) (qa_cons qe_int qa_nil))) (qv 9)) (qs_one (qs_append (pv 8) (qe_tup (qa_cons (qv 10) (qa_cons (qv 11) (qa_cons (qe_op' o_sub (qe_call O__law_take (hr.mono (by first | decide | omega)) hgd (qa_cons (qv 0) (qa_cons (qe_op' o_add (qv 5) qe_int) qa_nil))) qe_int) qa_nil)))))) (qs_one (qs_if (qw_and (qt_cmp (o_ne hu) (qv 12) (qe_lst qa_nil)) (qw_and1 (qt_cmp o_gt (qe_call O__law_take (hr.mono (by first | decide | omega)) hgd (qa_cons (qv 0) (qa_cons (qv 3) qa_nil))) qe_int))).t (qs_one (qs_append (pv 8) (qe_tup (qa_cons (qv 10) (qa_cons (qv 11) (qa_cons (qe_call O__law_one_of (hr.mono (by first | decide | omega)) hgd (qa_cons (qv 0) (qa_cons (qv 12) qa_nil))) qa_nil)))))) qs_nil))))))))
    (qs_one (qs_ret (qe_tup (qa_cons (qv 4) (qa_cons (qv 6) (qa_cons (qv 7) (qa_cons (qe_ct oc_tuple T.n_tuple (qc_cons (qv 8) qc_nil)) qa_nil))))))))))))
abbrev st__law_reach : Stmt := top 29
abbrev N__law_reach : List Str := ["scheme", "found", "now", "later", "state", "a", "one"]
theorem sc__law_reach : FnScope N__law_reach ["scheme"] (defScope st__law_reach) := ⟨rfl, rfl, rfl, by decide +kernel, rfl, by decide +kernel, by decide +kernel⟩
theorem run__law_reach {P : Program} {w : World} {K : PySem.W.Frag} {mg : Str → Option Value} {base : Heap} (T : Txt K mg) (D : Def K mg "_law_reach" st__law_reach ["scheme"]) {C : Ct (penAmb K)}
    (hw : ∀ ds α Qd, ds.length = 1 → C ds α Qd → wb__law_reach K (endsOf Qd) (startB 7 ds, α)) : Ok P w K mg base (penAmb K) "_law_reach" 1 1 C := by
  refine def_ok D sc__law_reach (fun f cdv A outer s H E hr hgd => ?_) hw
  have hu := hr.units
  unfold wb__law_reach
  exact (qs_cons (qs_par (i := 1) (j := 2) sc__law_reach.nd (qe_disp (qe_neg qe_int) qe_int) (qe_lst (qa_cons (qe_neg qe_int) qa_nil)))
    (qs_cons (qs_while PassesOwn.never (qt_cmp (o_ne hu) (qv 2) (qe_lst qa_nil)) (qs_cons (qs_set (i := 3) (qe_lst qa_nil) sc__law_reach.nd)
    (qs_cons (qs_for PassesOwn.never (qi_seq (qv 2)) (qg_name (i := 4) sc__law_reach.nd) (qs_one (qs_for PassesOwn.never (qi_seq (qe_ix' (qv 0) qe_int)) (qg_name (i := 5) sc__law_reach.nd) (qs_cons (qs_set (i := 6) (qe_ix' (qe_ix' (qe_ix' (qv 0) qe_int) (qv 5)) (qe_op' o_add (qv 4) qe_int)) sc__law_reach.nd)
    (qs_one (qs_if (qt_dnin hu (qv 6) (qv 1)) (qs_cons (qs_putD hu (pv 1) (qv 6) (qe_op' o_add (qe_dget hu (qv 1) (qv 4)) qe_int))
    (qs_one (qs_append (pv 3) (qv 6)))) qs_nil))))))
    (qs_one (qs_set (i := 2) (qv 3) sc__law_reach.nd)))))
    (qs_one (qs_ret (qv 1)))))
abbrev st__law_draw_row : Stmt := top 30
abbrev N__law_draw_row : List Str := ["pen", "some", "most", "k"]
theorem sc__law_draw_row : FnScope N__law_draw_row ["pen", "some", "most"] (defScope st__law_draw_row) := ⟨rfl, rfl, rfl, by decide +kernel, rfl, by decide +kernel, by decide +kernel⟩
theorem run__law_draw_row {P : Program} {w : World} {K : PySem.W.Frag} {mg : Str → Option Value} {base : Heap} {C__law_one_of : Ct (penAmb K)} {C__law_take : Ct (penAmb K)} (T : Txt K mg) (D : Def K mg "_law_draw_row" st__law_draw_row ["pen", "some", "most"]) (O__law_one_of : Ok P w K mg base (penAmb K) "_law_one_of" 3 2 C__law_one_of) (O__law_take : Ok P w K mg base (penAmb K) "_law_take" 2 2 C__law_take) {C : Ct (penAmb K)}
    (hw : ∀ ds α Qd, ds.length = 3 → C ds α Qd → wb__law_draw_row K C__law_one_of C__law_take (endsOf Qd) (startB 4 ds, α)) : Ok P w K mg base (penAmb K) "_law_draw_row" 4 3 C := by
  refine def_ok D sc__law_draw_row (fun f cdv A outer s H E hr hgd => ?_) hw
  unfold wb__law_draw_row
  exact (qs_one (qs_ret (qe_ct oc_tuple T.n_tuple (qc_cons (qe_lc (own := [("k", 3)]) sc__law_draw_row.nd (qi_rng1 T.n_range (qe_call O__law_take (hr.mono (by first | decide | omega)) hgd (qa_cons (qv 0) (qa_cons (qe_op' o_add (qv 2) qe_int) qa_nil)))) (blkOk_by (N := N__law_draw_row) (sc := defScope st__law_draw_row) (by decide +kernel)) (fun _ _ _ _ _ => (qg_name (i := 3) sc__law_draw_row.nd)) (fun _ _ _ _ _ => qts_nil) (fun _ _ _ _ _ => (qe_call O__law_one_of (hr.mono (by first | decide | omega)) hgd (qa_cons (qv 0) (qa_cons (qv 1) qa_nil))))) qc_nil))))
abbrev st__law_turn : Stmt := top 31
abbrev N__law_turn : List Str := ["scheme", "row", "state"]
theorem sc__law_turn : FnScope N__law_turn ["scheme", "row"] (defScope st__law_turn) := ⟨rfl, rfl, rfl, by decide +kernel, rfl, by decide +kernel, by decide +kernel⟩
theorem run__law_turn {P : Program} {w : World} {K : PySem.W.Frag} {mg : Str → Option Value} {base : Heap} {C__law_fold : Ct (penAmb K)} {C__law_reach : Ct (penAmb K)} (T : Txt K mg) (D : Def K mg "_law_turn" st__law_turn ["scheme", "row"]) (O__law_fold : Ok P w K mg base (penAmb K) "_law_fold" 1 3 C__law_fold) (O__law_reach : Ok P w K mg base (penAmb K) "_law_reach" 1 1 C__law_reach) {C : Ct (penAmb K)}
    (hw : ∀ ds α Qd, ds.length = 2 → C ds α Qd → wb__law_turn K C__law_fold C__law_reach (endsOf Qd) (startB 3 ds, α)) : Ok P w K mg base (penAmb K) "_law_turn" 2 2 C := by
  refine def_ok D sc__law_turn (fun f cdv A outer s H E hr hgd => ?_) hw
  unfold wb__law_turn
  exact (qs_one (qs_ret (qe_ct oc_tuple T.n_tuple (qc_cons (qe_lc (own := [("state", 2)]) sc__law_turn.nd (qi_seq (qe_cb oc_sortD T.n_sorted (qc_cons (qe_call O__law_reach (hr.mono (by first | decide | omega)) hgd (qa_cons (qv 0) qa_nil)) qc_nil))) (blkOk_by (N := N__law_turn) (sc := defScope st__law_turn) (by decide +kernel)) (fun _ _ _ _ _ => (qg_name (i := 2) sc__law_turn.nd)) (fun _ _ _ _ _ => qts_nil) (fun _ _ _ _ _ => (qe_call O__law_fold (hr.mono (by first | decide | omega)) hgd (qa_cons (qv 0) (qa_cons (qv 1) (qa_cons (qv 2) qa_nil)))))) qc_nil))))
abbrev st__law_turns : Stmt := top 32
abbrev N__law_turns : List Str := ["scheme", "found", "now", "a", "later", "turn", "one", "state"]
theorem sc__law_turns : FnScope N__law_turns ["scheme"] (defScope st__law_turns) := ⟨rfl, rfl, rfl, by decide +kernel, rfl, by decide +kernel, by decide +kernel⟩
theorem run__law_turns {P : Program} {w : World} {K : PySem.W.Frag} {mg : Str → Option Value} {base : Heap} {C__law_turn : Ct (penAmb K)} (T : Txt K mg) (D : Def K mg "_law_turns" st__law_turns ["scheme"]) (O__law_turn : Ok P w K mg base (penAmb K) "_law_turn" 2 2 C__law_turn) {C : Ct (penAmb K)}
    (hw : ∀ ds α Qd, ds.length = 1 → C ds α Qd → wb__law_turns K C__law_turn (endsOf Qd) (startB 8 ds, α)) : Ok P w K mg base (penAmb K) "_law_turns" 3 1 C := by
  refine def_ok D sc__law_turns (fun f cdv A outer s H E hr hgd => ?_) hw
  have hu := hr.units
  unfold wb__law_turns
  exact (qs_cons (qs_par (i := 1) (j := 2) sc__law_turns.nd qe_newT (qe_lst qa_nil))
    (qs_cons (qs_for PassesOwn.never (qi_seq (qe_ix' (qv 0) qe_int)) (qg_name (i := 3) sc__law_turns.nd) (qs_one (qs_putT hu (pv 1) (qe_call O__law_turn (hr.mono (by first | decide | omega)) hgd (qa_cons (qv 0) (qa_cons (qe_tup (qa_cons (qv 3) qa_nil)) qa_nil))) qe_int)))
    (qs_cons (qs_set (i := 2) (qe_ct oc_listT T.n_list (qc_cons (qv 1) qc_nil)) sc__law_turns.nd)
    (qs_cons (qs_while PassesOwn.never (qt_cmp (o_ne hu) (qv 2) (qe_lst qa_nil)) (qs_cons (qs_set (i := 4) (qe_lst qa_nil) sc__law_turns.nd)
    (qs_cons (qs_for PassesOwn.never (qi_seq (qv 2)) (qg_name (i := 5) sc__law_turns.nd) (qs_one (qs_for PassesOwn.never (qi_seq (qe_ix' (qv 0) qe_int)) (qg_name (i := 3) sc__law_turns.nd) (qs_cons (qs_set (i := 6) (qe_ct oc_tuple T.n_tuple (qc_cons (qe_lc (own := [("state", 7)]) sc__law_turns.nd (qi_seq (qv 5)) (blkOk_by (N := N__law_turns) (sc := defScope st__law_turns) (by decide +kernel)) (fun _ _ _ _ _ => (qg_name (i := 7) sc__law_turns.nd)) (fun _ _ _ _ _ => qts_nil) (fun _ _ _ _ _ => (qe_ix' (qe_ix' (qe_ix' (qv 0) qe_int) (qv 3)) (qe_op' o_add (qv 7) qe_int)))) qc_nil)) sc__law_turns.nd)
    (qs_one (qs_if (qt_dninT hu (qv 6) (qv 1)) (qs_cons (qs_putT hu (pv 1) (qv 6) (qe_op' o_add (qe_dgetT hu (qv 1) (qv 5)) qe_int))
    (qs_one (qs_append (pv 4) (qv 6)))) qs_nil))))))
    (qs_one (qs_set (i := 2) (qv 4) sc__law_turns.nd)))))
    (qs_one (qs_ret (qv 1)))))))
abbrev st__law_count : Stmt := top 33
abbrev N__law_count : List Str := ["scheme", "have", "a", "turn"]
theorem sc__law_count : FnScope N__law_count ["scheme"] (defScope st__law_count) := ⟨rfl, rfl, rfl, by decide +kernel, rfl, by decide +kernel, by decide +kernel⟩
theorem run__law_count {P : Program} {w : World} {K : PySem.W.Frag} {mg : Str → Option Value} {base : Heap} {C__law_turn : Ct (penAmb K)} {C__law_turns : Ct (penAmb K)} (T : Txt K mg) (D : Def K mg "_law_count" st__law_count ["scheme"]) (O__law_turn : Ok P w K mg base (penAmb K) "_law_turn" 2 2 C__law_turn) (O__law_turns : Ok P w K mg base (penAmb K) "_law_turns" 3 1 C__law_turns) {C : Ct (penAmb K)}
    (hw : ∀ ds α Qd, ds.length = 1 → C ds α Qd → wb__law_count K C__law_turn C__law_turns (endsOf Qd) (startB 4 ds, α)) : Ok P w K mg base (penAmb K) "_law_count" 4 1 C := by
  refine def_ok D sc__law_count (fun f cdv A outer s H E hr hgd => ?_) hw
  have hu := hr.units
  unfold wb__law_count
  exact (qs_cons (qs_set (i := 1) (qe_op' o_add (qe_lc (own := [("a", 2)]) sc__law_count.nd (qi_seq (qe_ix' (qv 0) qe_int)) (blkOk_by (N := N__law_count) (sc := defScope st__law_count) (by decide +kernel)) (fun _ _ _ _ _ => (qg_name (i := 2) sc__law_count.nd)) (fun _ _ _ _ _ => qts_nil) (fun _ _ _ _ _ => (qe_call O__law_turn (hr.mono (by first | decide | omega)) hgd (qa_cons (qv 0) (qa_cons (qe_tup (qa_cons (qv 2) qa_nil)) qa_nil))))) (qe_lst (qa_cons (qe_call O__law_turn (hr.mono (by first | decide | omega)) hgd (qa_cons (qv 0) (qa_cons (qe_tup qa_nil) qa_nil))) qa_nil))) sc__law_count.nd)
    (qs_one (qs_ret (qe_op' o_add (qe_cb oc_len T.n_len (qc_cons (qe_ix' (qv 0) qe_int) qc_nil)) (qe_cb oc_len T.n_len (qc_cons (qe_lc (own := [("turn", 3)]) sc__law_count.nd (qi_keysNT (qe_call O__law_turns (hr.mono (by first | decide | omega)) hgd (qa_cons (qv 0) qa_nil))) (blkOk_by (N := N__law_count) (sc := defScope st__law_count) (by decide +kernel)) (fun _ _ _ _ _ => (qg_name (i := 3) sc__law_count.nd)) (fun _ _ _ _ _ => (qts_one (qt_cmp (o_ninE hu) (qv 3) (qv 1)))) (fun _ _ _ _ _ => (qv 3))) qc_nil))))))
abbrev st__law_rewritten : Stmt := top 34
abbrev N__law_rewritten : List Str := ["pen", "scheme"]
theorem sc__law_rewritten : FnScope N__law_rewritten ["pen", "scheme"] (defScope st__law_rewritten) := ⟨rfl, rfl, rfl, by decide +kernel, rfl, by decide +kernel, by decide +kernel⟩
theorem run__law_rewritten {P : Program} {w : World} {K : PySem.W.Frag} {mg : Str → Option Value} {base : Heap} {C__law_draw_written : Ct (penAmb K)} (T : Txt K mg) (D : Def K mg "_law_rewritten" st__law_rewritten ["pen", "scheme"]) (O__law_draw_written : Ok P w K mg base (penAmb K) "_law_draw_written" 3 2 C__law_draw_written) {C : Ct (penAmb K)}
    (hw : ∀ ds α Qd, ds.length = 2 → C ds α Qd → wb__law_rewritten K C__law_draw_written (endsOf Qd) (startB 2 ds, α)) : Ok P w K mg base (penAmb K) "_law_rewritten" 4 2 C := by
  refine def_ok D sc__law_rewritten (fun f cdv A outer s H E hr hgd => ?_) hw
  unfold wb__law_rewritten
  exact (qs_one (qs_ret (qe_op' o_add (qe_slice (qv 1) qo_none (qo_some qe_int)) (qe_tup (qa_cons (qe_call O__law_draw_written (hr.mono (by first | decide | omega)) hgd (qa_cons (qv 0) (qa_cons (qe_cb oc_len T.n_len (qc_cons (qe_ix' (qv 1) qe_int) qc_nil)) qa_nil))) (qa_cons (qe_ix' (qv 1) qe_int) qa_nil))))))
abbrev st_law : Stmt := top 35
abbrev N_law : List Str := ["script", "pen", "turn", "scheme", "every", "due", "other", "one", "told", "again", "row", "some", "goal", "state", "a"]
theorem sc_law : FnScope N_law ["script"] (defScope st_law) := ⟨rfl, rfl, rfl, by decide +kernel, rfl, by decide +kernel, by decide +kernel⟩
theorem run_law {P : Program} {w : World} {K : PySem.W.Frag} {mg : Str → Option Value} {base : Heap} {f : Addr} {fd : FuncData} {C__law_count : Ct (penAmb K)} {C__law_draw_row : Ct (penAmb K)} {C__law_draw_scheme : Ct (penAmb K)} {C__law_is_int : Ct (penAmb K)} {C__law_one_of : Ct (penAmb K)} {C__law_open : Ct (penAmb K)} {C__law_reach : Ct (penAmb K)} {C__law_rewritten : Ct (penAmb K)} {C__law_same : Ct (noAmb K)} {C__law_take : Ct (penAmb K)} {C__law_turn : Ct (penAmb K)} {C__law_turns : Ct (penAmb K)} {C_least_count : Ct (penAmb K)} {C_row_for : Ct (penAmb K)} {C_turn_of : Ct (penAmb K)} {C_turns : Ct (penAmb K)} (T : Txt K mg) (D : Fun K "law" "law" st_law f fd) (O__law_count : Ok P w K mg base (penAmb K) "_law_count" 4 1 C__law_count) (O__law_draw_row : Ok P w K mg base (penAmb K) "_law_draw_row" 4 3 C__law_draw_row) (O__law_draw_scheme : Ok P w K mg base (penAmb K) "_law_draw_scheme" 4 4 C__law_draw_scheme) (O__law_is_int : Ok P w K mg base (penAmb K) "_law_is_int" 1 3 C__law_is_int) (O__law_one_of : Ok P w K mg base (penAmb K) "_law_one_of" 3 2 C__law_one_of) (O__law_open : Ok P w K mg base (penAmb K) "_law_open" 1 1 C__law_open) (O__law_reach : Ok P w K mg base (penAmb K) "_law_reach" 1 1 C__law_reach) (O__law_rewritten : Ok P w K mg base (penAmb K) "_law_rewritten" 4 2 C__law_rewritten) (O__law_same : Ok P w K mg base (noAmb K) "_law_same" 3 2 C__law_same) (O__law_take : Ok P w K mg base (penAmb K) "_law_take" 2 2 C__law_take) (O__law_turn : Ok P w K mg base (penAmb K) "_law_turn" 2 2 C__law_turn) (O__law_turns : Ok P w K mg base (penAmb K) "_law_turns" 3 1 C__law_turns) (O_least_count : Ok P w K mg base (penAmb K) "least_count" 11 1 C_least_count) (O_row_for : Ok P w K mg base (penAmb K) "row_for" 9 2 C_row_for) (O_turn_of : Ok P w K mg base (penAmb K) "turn_of" 7 2 C_turn_of) (O_turns : Ok P w K mg base (penAmb K) "turns" 9 1 C_turns) {C : Ct (penAmb K)}
    (hw : ∀ ds α Qd, ds.length = 1 → C ds α Qd → wb_law K C__law_count C__law_draw_row C__law_draw_scheme C__law_is_int C__law_one_of C__law_open C__law_reach C__law_rewritten C__law_same C__law_take C__law_turn C__law_turns C_least_count C_row_for C_turn_of C_turns (endsOf Qd) (startB 15 ds, α)) : FnG P w K mg base 12 f fd ["script"] (spD (penAmb K) 1 C) := by
  refine fng_ok D sc_law (fun cdv A outer s H E hr hgd => ?_) hw
  have hu := hr.units
  unfold wb_law
  exact (qs_cons (qs_set (i := 1) (qe_call O__law_open (hr.mono (by first | decide | omega)) hgd (qa_cons (qv 0) qa_nil)) sc_law.nd)
    (qs_lend (i := 1) (qs_cons (qs_for PassesOwn.never (qi_rng1 T.n_range qe_int) (qg_name (i := 2) sc_law.nd) (qs_cons (qs_set (i := 3) (qe_call O__law_draw_scheme (hr.mono (by first | decide | omega)) hgd (qa_cons (qv 1) (qa_cons (qe_call O__law_one_of (hr.mono (by first | decide | omega)) hgd (qa_cons (qv 1) (qa_cons (qe_lst (qa_cons qe_int (qa_cons qe_int qa_nil))) qa_nil))) (qa_cons qe_int (qa_cons qe_int qa_nil))))) sc_law.nd)
    (qs_cons (qs_par (i := 4) (j := 5) sc_law.nd (qe_lrg1 T.n_list T.n_range (qe_cb oc_len T.n_len (qc_cons (qe_ix' (qv 3) qe_int) qc_nil))) (qe_call O__law_turns (hr.mono (by first | decide | omega)) hgd (qa_cons (qv 3) qa_nil)))
    (qs_cons (qs_set (i := 6) (qe_call O__law_rewritten (hr.mono (by first | decide | omega)) hgd (qa_cons (qv 1) (qa_cons (qv 3) qa_nil))) sc_law.nd)
    (qs_cons (qs_for PassesOwn.never (qi_seq (qe_lst (qa_cons (qv 3) (qa_cons (qv 3) (qa_cons (qv 6) (qa_cons (qv 3) qa_nil)))))) (qg_name (i := 7) sc_law.nd) (qs_cons (qs_set (i := 8) (qe_call O_turns (hr.mono (by first | decide | omega)) hgd (qa_cons (qv 7) qa_nil)) sc_law.nd)
    (qs_cons (qs_if (qt_not (qt_val (qe_callP O__law_same (hr.mono (by first | decide | omega)) hgd (qc_cons (qv 8) (qc_cons (qe_cb (oc_sortDT hu) T.n_sorted (qc_cons (qe_call O__law_turns (hr.mono (by first | decide | omega)) hgd (qa_cons (qv 7) qa_nil)) qc_nil)) qc_nil))))) (qs_one (qs_ret qe_bl)) qs_nil)
    (qs_cons (qs_append (pv 8) qe_non)
    (qs_one (qs_if (qt_not (qt_val (qe_callP O__law_same (hr.mono (by first | decide | omega)) hgd (qc_cons (qe_call O_least_count (hr.mono (by first | decide | omega)) hgd (qa_cons (qv 7) qa_nil)) (qc_cons (qe_call O__law_count (hr.mono (by first | decide | omega)) hgd (qa_cons (qv 7) qa_nil)) qc_nil))))) (qs_one (qs_ret qe_bl)) qs_nil))))))
    (qs_cons (qs_for PassesOwn.never (qi_rng1 T.n_range qe_int) (qg_name (i := 9) sc_law.nd) (qs_cons (qs_par (i := 10) (j := 11) sc_law.nd (qe_call O__law_draw_row (hr.mono (by first | decide | omega)) hgd (qa_cons (qv 1) (qa_cons (qv 4) (qa_cons qe_int qa_nil)))) (qe_call O__law_draw_row (hr.mono (by first | decide | omega)) hgd (qa_cons (qv 1) (qa_cons (qe_ct oc_list T.n_list (qc_cons (qe_ix' (qv 3) qe_int) qc_nil)) (qa_cons qe_int qa_nil)))))
    (qs_one (qs_for PassesOwn.never (qi_seq (qe_lst (qa_cons (qv 10) (qa_cons (qv 11) (qa_cons (qe_tup qa_nil) qa_nil))))) (qg_name (i := 7) sc_law.nd) (qs_cons (qs_set (i := 12) (qe_call O__law_turn (hr.mono (by first | decide | omega)) hgd (qa_cons (qv 3) (qa_cons (qv 7) qa_nil))) sc_law.nd)
    (qs_cons (qs_if (qt_not (qt_val (qe_callP O__law_same (hr.mono (by first | decide | omega)) hgd (qc_cons (qe_call O_turn_of (hr.mono (by first | decide | omega)) hgd (qa_cons (qv 3) (qa_cons (qv 7) qa_nil))) (qc_cons (qv 12) qc_nil))))) (qs_one (qs_ret qe_bl)) qs_nil)
    (qs_cons (qs_set (i := 8) (qe_call O_row_for (hr.mono (by first | decide | omega)) hgd (qa_cons (qv 3) (qa_cons (qv 12) qa_nil))) sc_law.nd)
    (qs_cons (qs_if (qt_cmp (o_ne hu) (qe_cmp' o_is (qv 8) qe_non) (qe_dninT hu (qv 12) (qv 5))) (qs_one (qs_ret qe_bl)) qs_nil)
    (qs_one (qs_if (qt_cmp o_isnt (qv 8) qe_non) (qs_cons (qs_if (qw_or (qt_not (qt_val (qe_isi (qv 8) (by decide) T.n_isinstance T.n_tuple))) (qw_or1 (qt_cmp o_in qe_bl (qe_lc (own := [("a", 14)]) sc_law.nd (qi_seq (qv 8)) (blkOk_by (N := N_law) (sc := defScope st_law) (by decide +kernel)) (fun _ _ _ _ _ => (qg_name (i := 14) sc_law.nd)) (fun _ _ _ _ _ => qts_nil) (fun _ _ _ _ _ => (qe_call O__law_is_int (hr.mono (by first | decide | omega)) hgd (qa_cons (qv 14) (qa_cons qe_int (qa_cons qe_int qa_nil))))))))).t (qs_one (qs_ret qe_bl)) qs_nil)
    (qs_cons (qs_if (qt_cmp (o_ne hu) (qe_lc (own := [("a", 14)]) sc_law.nd (qi_seq (qv 8)) (blkOk_by (N := N_law) (sc := defScope st_law) (by decide +kernel)) (fun _ _ _ _ _ => (qg_name (i := 14) sc_law.nd)) (fun _ _ _ _ _ => (qts_one (qt_cmp o_nin (qv 14) (qe_ix' (qv 3) qe_int)))) (fun _ _ _ _ _ => (qv 14))) (qe_lst qa_nil)) (qs_one (qs_ret qe_bl)) qs_nil)
    (qs_one (qs_if (qw_or (qt_cmp (o_ne hu) (qe_cb oc_len T.n_len (qc_cons (qv 8) qc_nil)) (qe_dgetT hu (qv 5) (qv 12))) (qw_or1 (qt_cmp (o_ne hu) (qe_call O__law_turn (hr.mono (by first | decide | omega)) hgd (qa_cons (qv 3) (qa_cons (qv 8) qa_nil))) (qv 12)))).t (qs_one (qs_ret qe_bl)) qs_nil)))) qs_nil))))))))))
    (qs_cons (qs_set (i := 12) (qe_ct oc_tuple T.n_tuple (qc_cons (qe_lc (own := [("state", 13)]) sc_law.nd (qi_keysN (qe_call O__law_reach (hr.mono (by first | decide | omega)) hgd (qa_cons (qv 3) qa_nil))) (blkOk_by (N := N_law) (sc := defScope st_law) (by decide +kernel)) (fun _ _ _ _ _ => (qg_name (i := 13) sc_law.nd)) (fun _ _ _ _ _ => qts_nil) (fun _ _ _ _ _ => (qe_op' o_sub (qe_call O__law_take (hr.mono (by first | decide | omega)) hgd (qa_cons (qv 1) (qa_cons (qe_op' o_add (qe_ix' (qv 3) qe_int) qe_int) qa_nil))) qe_int))) qc_nil)) sc_law.nd)
    (qs_one (qs_if (qt_cmp (o_ne hu) (qe_cmp' o_is (qe_call O_row_for (hr.mono (by first | decide | omega)) hgd (qa_cons (qv 3) (qa_cons (qv 12) qa_nil))) qe_non) (qe_dninT hu (qv 12) (qv 5))) (qs_one (qs_ret qe_bl)) qs_nil)))))))))
    (qs_one (qs_ret qe_bl)))))

end DL
set_option maxHeartbeats 4000000
namespace DL
open PySem PySem.Spec L2
open PyProof.Rows hiding St
abbrev Amp (K : PySem.W.Frag) := penAmb K
theorem atI_nn {α : Type} {xs : List α} {i : Int} (h0 : 0 ≤ i) (h1 : i < xs.length) : ∃ x, x ∈ xs ∧ atI xs i = some x ∧ xs[i.toNat]? = some x := by
  have h : i.toNat < xs.length := by omega
  refine ⟨xs[i.toNat], List.getElem_mem h, ?_, List.getElem?_eq_getElem h⟩
  unfold atI ixN
  rw [if_pos h0, if_pos h1]
  exact List.getElem?_eq_getElem h
theorem ixN_nn {n : Nat} {i : Int} (h0 : 0 ≤ i) (h1 : i < n) : ixN n i = some i.toNat := by
  unfold ixN
  rw [if_pos h0, if_pos h1]
theorem atI_ints {xs : List Int} {i : Int} (h0 : 0 ≤ i) (h1 : i < xs.length) : ∃ x, x ∈ xs ∧ atI (xs.map DL.D.int) i = some (.int x) ∧ xs[i.toNat]? = some x := by
  obtain ⟨x, h2, h3, h4⟩ := atI_nn (xs := xs) h0 h1
  refine ⟨x, h2, ?_, h4⟩
  unfold atI
  rw [List.length_map, ixN_nn h0 h1]
  show (xs.map DL.D.int)[i.toNat]? = _
  rw [List.getElem?_map, h4]
  rfl
theorem iteB {p : Prop} [Decidable p] {A B : Prop} (h1 : p → A) (h2 : ¬ p → B) : (if decide p = true then A else B) := by
  by_cases h : p
  · rw [if_pos (decide_eq_true h)]; exact h1 h
  · rw [if_neg (by simpa using h)]; exact h2 h
theorem iteb {b : Bool} {A B : Prop} (h1 : b = true → A) (h2 : b = false → B) : (if b = true then A else B) := by
  cases b
  · exact h2 rfl
  · exact h1 rfl
theorem get_enum {xs : List D} {i : Nat} {d : D} (h : (enumD xs)[i]? = some d) : ∃ x, xs[i]? = some x ∧ d = .tup [.int i, x] := by
  unfold enumD at h
  rw [List.getElem?_map, List.getElem?_zipIdx] at h
  cases e : xs[i]? with
  | none => rw [e] at h; cases h
  | some x =>
    rw [e] at h
    refine ⟨x, rfl, ?_⟩
    have h := Option.some.inj h
    rw [← h]
    simp
theorem get_rng {lo : Int} {n i : Nat} {d : D} (h : (rngD lo n)[i]? = some d) : i < n ∧ d = .int (lo + i) := by
  unfold rngD at h
  have hi : i < n := by
    have := (List.getElem?_eq_some_iff.mp h).1
    rwa [List.length_map, List.length_range] at this
  rw [List.getElem?_map, List.getElem?_range hi] at h
  exact ⟨hi, (Option.some.inj h).symm⟩
theorem rng_len {lo : Int} {n : Nat} : (rngD lo n).length = n := by unfold rngD; simp
theorem get_ints {xs : List Int} {i : Nat} {d : D} (h : (xs.map DL.D.int)[i]? = some d) : ∃ x, xs[i]? = some x ∧ d = .int x := by
  rw [List.getElem?_map] at h
  cases e : xs[i]? with
  | none => rw [e] at h; cases h
  | some x => rw [e] at h; exact ⟨x, rfl, (Option.some.inj h).symm⟩
/-! ### effect -/
def P_effect {K : PySem.W.Frag} : Ct (penAmb K) := fun ds α Q => ∃ x0 x2 x3 effs a s e r, ds = [.tup [x0, .tup effs, x2, x3], .int a, .int s] ∧ atI effs a = some (.tup e) ∧ atI e (s + 1) = some r ∧ Q (.fr r) α
theorem rd_effect {K : PySem.W.Frag} : ∀ ds α (Qd : R → (penAmb K).S → Prop), ds.length = 3 → P_effect ds α Qd → wb_effect K (endsOf Qd) (startB 3 ds, α) := by
  rintro _ α Q _ ⟨x0, x2, x3, effs, a, s, e, r, rfl, h1, h2, q⟩
  exact ⟨_, rfl, _, h1, _, h2, q⟩
/-! ### the script's cells -/
def P_open {K : PySem.W.Frag} : Ct (penAmb K) := fun ds α Q => ∃ ns, ds = [.seq ns] ∧ α = none ∧ ∀ cells : List Int, Q (.nw (.l [.lst (cells.map .int), .int 0, .int 0])) none
theorem rd_open {K : PySem.W.Frag} : ∀ ds α (Qd : R → (penAmb K).S → Prop), ds.length = 1 → P_open ds α Qd → wb__law_open K (endsOf Qd) (startB 4 ds, α) := by
  rintro _ α Q _ ⟨ns, rfl, rfl, q⟩
  refine ⟨_, rfl, ?_⟩
  refine ⟨fun i E => ∃ (cells : List Int) (x2 x3 : Option B), E = ([some (.d (.seq ns)), some (.l (cells.map .int)), x2, x3], none) ∧ cells.length = (cut ns none (some 12)).length, ⟨cut ns none (some 12), none, none, rfl, rfl⟩, ?_, ?_⟩
  · rintro i d _ hd ⟨cells, x2, x3, rfl, hl⟩
    obtain ⟨x, hx, rfl⟩ := get_enum hd
    obtain ⟨c, hc, rfl⟩ := get_ints hx
    have hlen : cells.length = 12 := by
      have h1 : i < (cut ns (some 12) (some 63)).length := (List.getElem?_eq_some_iff.mp hc).1
      rw [hl]
      simp only [cut, HT.sIx, List.length_take, List.length_drop] at h1 ⊢
      simp at h1 ⊢
      omega
    refine ⟨rfl, rfl, ?_⟩
    have m0 : (0 : Int) ≤ (i : Int) % 12 := Int.emod_nonneg _ (by decide)
    have m1 : (i : Int) % 12 < 12 := Int.emod_lt_of_pos _ (by decide)
    obtain ⟨y, _, hy, _⟩ := atI_ints (xs := cells) (i := (i : Int) % 12) m0 (by omega)
    refine ⟨by show (0:Int) < _; first | decide | omega, _, hy, ?_⟩
    refine ⟨by show (0:Int) < _; first | decide | omega, ((i : Int) % 12).toNat, ixN_nn m0 (by rw [List.length_map]; omega), cells.set ((i : Int) % 12).toNat (y + c), some (.d (.int i)), some (.d (.int c)), (by rw [List.map_set]; rfl), by rw [List.length_set]; exact hl⟩
  · rintro _ ⟨cells, x2, x3, rfl, hl⟩
    exact ⟨(by show 3 ≤ sizeLine; decide), q cells⟩
def P_spread {K : PySem.W.Frag} : Ct (penAmb K) := fun ds α Q => ∃ c a, ds = [.int c, .int a] ∧ 0 ≤ a ∧ a < 1073741824 ∧ ∀ r, Q (.fr (.int r)) α
def sp0 (c a : Int) : Int := c % 1000000007 * (2 * a + 69069) + a * 40503 + 977
def sp1 (x c a : Int) : Int := x * (a + 3) + c % 65537 + 5
def sp2 (x y a : Int) : Int := y + x % 1009 + a
theorem sp0_ok {c a : Int} (a0 : 0 ≤ a) (a1 : a < 1073741824) : (-(2 ^ 64) < c % 1000000007 ∧ c % 1000000007 < 2 ^ 64) ∧ (sp0 c a).natAbs < 2 ^ 64 := by
  have m2 := Int.emod_nonneg c (by decide : (1000000007 : Int) ≠ 0)
  have m3 := Int.emod_lt_of_pos c (by decide : (0 : Int) < 1000000007)
  have o1 : 0 ≤ c % 1000000007 * (2 * a + 69069) := Int.mul_nonneg m2 (by omega)
  have o2 : c % 1000000007 * (2 * a + 69069) ≤ 1000000007 * 2147552717 := Int.mul_le_mul (by omega) (by omega) (by omega) (by decide)
  unfold sp0
  generalize c % 1000000007 * (2 * a + 69069) = y at *
  omega
theorem sp1_ok {x c a : Int} (a0 : 0 ≤ a) (a1 : a < 1073741824) (x0 : 0 ≤ x) (x1 : x < 2147483629) : (-(2 ^ 64) < x ∧ x < 2 ^ 64) ∧ (sp1 x c a).natAbs < 2 ^ 64 := by
  have d0 : 0 ≤ x * (a + 3) := Int.mul_nonneg x0 (by omega)
  have d1 : x * (a + 3) ≤ 2147483629 * 1073741826 := Int.mul_le_mul (by omega) (by omega) (by omega) (by decide)
  have e0 := Int.emod_nonneg c (by decide : (65537 : Int) ≠ 0)
  have e1 := Int.emod_lt_of_pos c (by decide : (0 : Int) < 65537)
  unfold sp1
  generalize x * (a + 3) = y at *
  omega
theorem sp2_ok {x y a : Int} (a0 : 0 ≤ a) (a1 : a < 1073741824) (y0 : 0 ≤ y) (y1 : y < 2147483629) : (sp2 x y a).natAbs < 2 ^ 64 := by
  have e0 := Int.emod_nonneg x (by decide : (1009 : Int) ≠ 0)
  have e1 := Int.emod_lt_of_pos x (by decide : (0 : Int) < 1009)
  unfold sp2
  omega
theorem rd_spread {K : PySem.W.Frag} : ∀ ds α (Qd : R → (penAmb K).S → Prop), ds.length = 2 → P_spread ds α Qd → wb__law_spread K (endsOf Qd) (startB 6 ds, α) := by
  rintro _ α Q _ ⟨c, a, rfl, a0, a1, q⟩
  have P : ∀ i : Int, ∃ p, 0 < p ∧ p ≤ 2147483629 ∧ atI ([2147483629, 2147483587, 2147483579, 2147483563, 2147483549, 2147483543, 2147483497, 2147483489, 2147483477, 2147483423, 2147483399, 2147483353, 2147483323].map DL.D.int) (i % 13) = some (.int p) := fun i => by
    obtain ⟨p, h1, h2, _⟩ := atI_ints (xs := [2147483629, 2147483587, 2147483579, 2147483563, 2147483549, 2147483543, 2147483497, 2147483489, 2147483477, 2147483423, 2147483399, 2147483353, 2147483323]) (i := i % 13) (Int.emod_nonneg _ (by decide)) (Int.emod_lt_of_pos _ (by decide))
    refine ⟨p, ?_, ?_, h2⟩ <;> · simp at h1; omega
  refine ⟨⟨by decide, by decide, by decide⟩, iteB (fun _ => q _) fun _ => ?_⟩
  refine ⟨by show 8 ≤ sizeLine; decide, ?_⟩
  refine ⟨by show 5 ≤ sizeLine; decide, by show 13 ≤ sizeLine; decide, ?_⟩
  obtain ⟨h1, h2⟩ := sp0_ok (c := c) a0 a1
  refine ⟨by show (0:Int) < _; first | decide | omega, .inl ⟨by decide, by decide⟩, .inl h1, .inr ⟨by decide, by decide⟩, ?_⟩
  obtain ⟨p, p0, p1, hp⟩ := P a
  refine ⟨⟨by decide, by decide, h2⟩, by show (0:Int) < _; first | decide | omega, _, hp, p0, ?_⟩
  obtain ⟨h3, h4⟩ := sp1_ok (x := sp0 c a ^ (3 : Int).toNat % p) (c := c) a0 a1 (Int.emod_nonneg _ (by omega)) (by have := Int.emod_lt_of_pos (sp0 c a ^ (3 : Int).toNat) p0; omega)
  obtain ⟨p', p0', p1', hp'⟩ := P (a + 5)
  refine ⟨.inl h3, by show (0:Int) < _; first | decide | omega, ⟨by decide, by decide, h4⟩, by show (0:Int) < _; first | decide | omega, _, hp', p0', ?_⟩
  have h5 := sp2_ok (x := sp0 c a ^ (3 : Int).toNat % p) (y := sp1 (sp0 c a ^ (3 : Int).toNat % p) c a ^ (5 : Int).toNat % p') a0 a1 (Int.emod_nonneg _ (by omega)) (by have := Int.emod_lt_of_pos (sp1 (sp0 c a ^ (3 : Int).toNat % p) c a ^ (5 : Int).toNat) p0'; omega)
  obtain ⟨p2, p02, p12, hp2⟩ := P (a + 7)
  refine ⟨by show (0:Int) < _; first | decide | omega, ⟨by decide, by decide, h5⟩, by show (0:Int) < _; first | decide | omega, _, hp2, p02, ?_⟩
  exact ⟨.inr ⟨by decide, by decide⟩, .inr ⟨by decide, by decide⟩, q _⟩
/-! ### take -/
def P_take {K : PySem.W.Frag} : Ct (penAmb K) := fun ds α Q => ∃ (p : Pen) (n : Int), ds = [.obj p.p, .int n] ∧ α = some p ∧ 0 < n ∧ n < 1000000 ∧ 0 ≤ p.at_ ∧ p.at_ < 1000000 ∧ ∀ (f : Int) (p' : Pen), 0 ≤ f → f < n → Adv p 1 p' → Q (.fr (.int f)) (some p')
theorem rd_take {K : PySem.W.Frag} : ∀ ds α (Qd : R → (penAmb K).S → Prop), ds.length = 2 → P_take ds α Qd → wb__law_take K P_spread (endsOf Qd) (startB 5 ds, α) := by
  rintro _ α Q _ ⟨p, n, rfl, rfl, n0, n1, a0, a1, q⟩
  have m0 : ∀ c : Int, 0 ≤ c % n := fun c => Int.emod_nonneg _ (by omega)
  have m1 : ∀ c : Int, c % n < n := fun c => Int.emod_lt_of_pos _ n0
  have dv : CDiv p.cur n := ⟨n0, by omega⟩
  have dv' : ∀ c, CDiv c n := fun c => ⟨n0, by omega⟩
  refine ⟨rfl, iteB (fun _ => ?_) (fun _ => ?_)⟩
  · refine ⟨rfl, rfl, iteB (fun h => ?_) (fun h => ?_)⟩
    · have h : p.at_ < ((p.cells.map DL.D.int).length : Int) := h
      rw [List.length_map] at h
      obtain ⟨c, _, hc, _⟩ := atI_ints (xs := p.cells) a0 h
      refine ⟨rfl, _, hc, rfl, rfl, c, p.at_, rfl, a0, by omega, fun r => ?_⟩
      exact ⟨rfl, rfl, n0, rfl, dv' r, rfl, q _ _ (m0 r) (m1 r) ⟨rfl, by show p.at_ ≤ p.at_ + 1; omega, Int.le_refl _⟩⟩
    · refine ⟨rfl, iteB (fun h2 => ?_) (fun _ => ?_)⟩
      · have h2 : 0 < ((p.cells.map DL.D.int).length : Int) := h2
        obtain ⟨c, _, hc, _⟩ := atI_ints (xs := p.cells) (i := (p.at_ * 5 + 3) % ((p.cells.map DL.D.int).length : Int)) (Int.emod_nonneg _ (by omega)) (by have := Int.emod_lt_of_pos (p.at_ * 5 + 3) h2; rw [List.length_map] at this ⊢; exact this)
        have h10 : (0 : Int) < 10 ^ (17 : Int).toNat + p.at_ := by
          have : (0 : Int) < 10 ^ (17 : Int).toNat := by decide
          omega
        refine ⟨rfl, .inr ⟨by decide, by decide⟩, rfl, h2, _, hc, ⟨by decide, by decide, by decide⟩, h10, rfl, rfl, _, p.at_, rfl, a0, by omega, fun r => ?_⟩
        exact ⟨rfl, rfl, n0, rfl, dv' r, rfl, q _ _ (m0 r) (m1 r) ⟨rfl, by show p.at_ ≤ p.at_ + 1; omega, Int.le_refl _⟩⟩
      · refine ⟨rfl, rfl, _, p.at_, rfl, a0, by omega, fun r => ?_⟩
        exact ⟨rfl, rfl, n0, rfl, dv' r, rfl, q _ _ (m0 r) (m1 r) ⟨rfl, by show p.at_ ≤ p.at_ + 1; omega, Int.le_refl _⟩⟩
  · exact ⟨rfl, n0, rfl, dv, rfl, q _ _ (m0 _) (m1 _) ⟨rfl, Int.le_refl _, by show p.at_ ≤ p.at_ + 1; omega⟩⟩
theorem iteF' {b : Bool} {A B : Prop} (h : b = false) (h1 : B) : (if b = true then A else B) := by rw [h]; exact h1
theorem iteT' {b : Bool} {A B : Prop} (h : b = true) (h1 : A) : (if b = true then A else B) := by rw [h]; exact h1
def smp : Nat → D → Prop
  | 0, _ => False
  | n + 1, d => (d.flat = true ∧ d.okE = true) ∨ ∃ xs, (d = .tup xs ∨ d = .lst xs) ∧ xs.length ≤ 16000000 ∧ ∀ x ∈ xs, smp n x
theorem get_zip {xs ys : List D} {i : Nat} {d : D} (h : (zipD xs ys)[i]? = some d) : ∃ x y, xs[i]? = some x ∧ ys[i]? = some y ∧ d = .tup [x, y] := by
  unfold zipD at h
  rw [List.getElem?_zipWith] at h
  cases e : xs[i]? with
  | none => rw [e] at h; cases h
  | some x =>
    cases e' : ys[i]? with
    | none => rw [e, e'] at h; cases h
    | some y =>
      rw [e, e'] at h
      exact ⟨x, y, rfl, rfl, (Option.some.inj h).symm⟩
theorem zip_len {xs : List D} : (zipD xs xs).length = xs.length := by unfold zipD; simp
def P_same {K : PySem.W.Frag} (n : Nat) : Ct (noAmb K) := fun ds α Q => ∃ x, ds = [x, x] ∧ smp n x ∧ Q (.fr (.bl true)) α
theorem rd_same_it {K : PySem.W.Frag} {n : Nat} {x : D} {xs : List D} {α : (noAmb K).S} {Q : R → (noAmb K).S → Prop} (hx : x = .tup xs ∨ x = .lst xs) (hl : xs.length ≤ 16000000) (hs : ∀ y ∈ xs, smp n y) (q : Q (.fr (.bl true)) α) :
    wRet (wOp (gIn true) (wC (.bl false)) (wLc (wIt gZip (wCons (wVar 0) (wCons (wVar 1) wNil))) (gTup 2 (gConss (gN 2) (gConss (gN 3) gNils))) wYes (wCallP 2 (P_same n) (wConsC (wVar 2) (wConsC (wVar 3) wNil))) [2, 3])) (endsOf Q) (startB 4 [x, x], α) := by
  have go : ∃ Inv : Nat → List D → (noAmb K).S → Prop, Inv 0 [] α ∧ (∀ i d acc α', (zipD xs xs)[i]? = some d → Inv i acc α' → gTup 2 (gConss (gN 2) (gConss (gN 3) gNils)) d ([some (.d x), some (.d x), none, none], α') fun E2 => wCallP 2 (P_same n) (wConsC (wVar 2) (wConsC (wVar 3) wNil)) E2 fun r E4 => fz r E4 fun y E5 => wipeB E5.1 [2, 3] = [some (.d x), some (.d x), none, none] ∧ acc.length < sizeLine ∧ Inv (i + 1) (acc ++ [y]) E5.2) ∧
      ∀ acc α', Inv (zipD xs xs).length acc α' → gIn true (.bl false) (.lst acc) fun z => Q z.out α' := by
    refine ⟨fun i acc α' => α' = α ∧ acc = List.replicate i (.bl true), ⟨rfl, rfl⟩, ?_, ?_⟩
    · rintro i d acc _ hd ⟨rfl, rfl⟩
      obtain ⟨y, y', h1, h2, rfl⟩ := get_zip hd
      rw [h1] at h2
      cases h2
      have hi : i < xs.length := (List.getElem?_eq_some_iff.mp h1).1
      refine ⟨rfl, rfl, rfl, y, rfl, hs y (List.mem_of_getElem? h1), .bl true, rfl, rfl, rfl, ?_, rfl, ?_⟩
      · rw [List.length_replicate]
        show i < 2 ^ 24
        omega
      · rw [List.replicate_succ']
    · rintro acc _ ⟨rfl, rfl⟩
      refine ⟨_, rfl, rfl, ?_, ?_⟩
      · simp [DL.D.flat]
      · have e : (List.replicate (zipD xs xs).length (DL.D.bl true)).any (fun y => y.eqv (.bl false)) = false := by
          rw [List.any_replicate]
          split
          · rfl
          · rfl
        rw [e]
        exact q
  rcases hx with rfl | rfl
  · exact go
  · exact go
theorem rd_same {K : PySem.W.Frag} (n : Nat) : ∀ ds α (Qd : R → (noAmb K).S → Prop), ds.length = 2 → P_same (n + 1) ds α Qd → wb__law_same K (P_same n) (endsOf Qd) (startB 4 ds, α) := by
  rintro _ α Q _ ⟨x, rfl, hx, q⟩
  cases x with
  | non => exact q
  | bl b =>
    have e : (DL.D.bl b).eqv (.bl b) = true := by cases b <;> rfl
    refine ⟨fun _ => nofun, ⟨fun _ => nofun, ⟨fun _ => nofun, rfl, rfl, ?_⟩⟩⟩
    show Q (.fr (.bl ((DL.D.bl b).eqv (.bl b)))) α
    rw [e]
    exact q
  | int i =>
    have e : (DL.D.int i).eqv (.int i) = true := by show (i == i) = true; simp
    refine ⟨fun _ => nofun, fun _ => nofun, fun _ => nofun, fun _ => nofun, fun _ => nofun, rfl, rfl, fun _ => nofun, rfl, rfl, ?_⟩
    show Q (.fr (.bl ((DL.D.int i).eqv (.int i)))) α
    rw [e]
    exact q
  | str i =>
    have e : (DL.D.str i).eqv (.str i) = true := by show (i == i) = true; simp
    have ok : (DL.D.str i).okE = true := by
      rcases hx with h | ⟨ys, h | h, _⟩
      · exact h.2
      · cases h
      · cases h
    refine ⟨fun _ => nofun, fun _ => nofun, fun _ => nofun, fun _ => nofun, fun _ => nofun, rfl, rfl, fun _ => nofun, ok, ok, ?_⟩
    show Q (.fr (.bl ((DL.D.str i).eqv (.str i)))) α
    rw [e]
    exact q
  | tup xs =>
    obtain ⟨ys, hy, hl, hs⟩ : ∃ ys, (DL.D.tup xs = .tup ys ∨ DL.D.tup xs = .lst ys) ∧ ys.length ≤ 16000000 ∧ ∀ x ∈ ys, smp n x := hx.resolve_left fun h => by cases h.1
    refine ⟨fun _ => nofun, fun _ => nofun, fun _ => nofun, fun _ => nofun, fun _ => nofun, rfl, rfl, fun _ => nofun, fun _ => nofun, rfl, rfl, rfl, rfl, ?_⟩
    exact iteF' (by show (!((xs.length : Int) == (xs.length : Int))) = false; simp) (rd_same_it hy hl hs q)
  | lst xs =>
    obtain ⟨ys, hy, hl, hs⟩ : ∃ ys, (DL.D.lst xs = .tup ys ∨ DL.D.lst xs = .lst ys) ∧ ys.length ≤ 16000000 ∧ ∀ x ∈ ys, smp n x := hx.resolve_left fun h => by cases h.1
    refine ⟨fun _ => nofun, fun _ => nofun, fun _ => nofun, fun _ => nofun, fun _ => nofun, rfl, rfl, fun _ => nofun, fun _ => nofun, rfl, rfl, rfl, rfl, ?_⟩
    exact iteF' (by show (!((xs.length : Int) == (xs.length : Int))) = false; simp) (rd_same_it hy hl hs q)
  | dct xs =>
    obtain ⟨ys, hy, hl, hs⟩ : ∃ ys, (DL.D.dct xs = .tup ys ∨ DL.D.dct xs = .lst ys) ∧ ys.length ≤ 16000000 ∧ ∀ x ∈ ys, smp n x := hx.resolve_left fun h => by cases h.1
    rcases hy with h | h <;> cases h
  | dcT xs =>
    obtain ⟨ys, hy, hl, hs⟩ : ∃ ys, (DL.D.dcT xs = .tup ys ∨ DL.D.dcT xs = .lst ys) ∧ ys.length ≤ 16000000 ∧ ∀ x ∈ ys, smp n x := hx.resolve_left fun h => by cases h.1
    rcases hy with h | h <;> cases h
  | obj xs =>
    obtain ⟨ys, hy, hl, hs⟩ : ∃ ys, (DL.D.obj xs = .tup ys ∨ DL.D.obj xs = .lst ys) ∧ ys.length ≤ 16000000 ∧ ∀ x ∈ ys, smp n x := hx.resolve_left fun h => by cases h.1
    rcases hy with h | h <;> cases h
  | seq xs =>
    obtain ⟨ys, hy, hl, hs⟩ : ∃ ys, (DL.D.seq xs = .tup ys ∨ DL.D.seq xs = .lst ys) ∧ ys.length ≤ 16000000 ∧ ∀ x ∈ ys, smp n x := hx.resolve_left fun h => by cases h.1
    rcases hy with h | h <;> cases h
/-! ### one of -/
def P_one_of {K : PySem.W.Frag} : Ct (penAmb K) := fun ds α Q => ∃ (p : Pen) (xs : List D) (d : D), ds = [.obj p.p, d] ∧ (d = .lst xs ∨ d = .tup xs) ∧ α = some p ∧ xs ≠ [] ∧ xs.length < 900000 ∧ 0 ≤ p.at_ ∧ p.at_ < 1000000 ∧ ∀ (x : D) (p' : Pen), x ∈ xs → Adv p 1 p' → Q (.fr x) (some p')
theorem rd_one_of {K : PySem.W.Frag} : ∀ ds α (Qd : R → (penAmb K).S → Prop), ds.length = 2 → P_one_of ds α Qd → wb__law_one_of K P_take (endsOf Qd) (startB 2 ds, α) := by
  rintro _ α Q _ ⟨p, xs, d, rfl, hd, rfl, hn, hl, a0, a1, q⟩
  have h0 : (0 : Int) < xs.length := by
    cases xs with
    | nil => exact absurd rfl hn
    | cons a t => rw [List.length_cons]; omega
  rcases hd with rfl | rfl
  all_goals
    refine ⟨rfl, p, xs.length, rfl, rfl, h0, by omega, a0, a1, fun f p' f0 f1 adv => ?_⟩
    obtain ⟨x, hx, e, _⟩ := atI_nn f0 f1
    exact ⟨x, e, q x p' hx adv⟩
/-! ### then, fold, rule -/
def eff (xs : List Int) : D := .tup (xs.map .int)
def at0 (e : List Int) (s : Int) : Int := e.getD (s + 1).toNat 0
theorem at0_ok {e : List Int} {s : Int} (h0 : -1 ≤ s) (h1 : s + 1 < e.length) : atI (e.map DL.D.int) (s + 1) = some (.int (at0 e s)) := by
  obtain ⟨x, _, h2, h3⟩ := atI_ints (xs := e) (i := s + 1) (by omega) h1
  rw [h2]
  unfold at0
  rw [List.getD_eq_getElem?_getD, h3]
  rfl
structure Gd (d : D) (k w : Nat) : Prop where
  pl : d.plain = true
  lay : d.py.canLay0 = true
  dep : d.py.depth ≤ k
  wt : d.py.weight ≤ w
  ish : d.py.intsShort 13 = true
  sh : d.py.showable = true
theorem Gd.mono {d : D} {k w k' w' : Nat} (h : Gd d k w) (a : k ≤ k') (b : w ≤ w') : Gd d k' w' := ⟨h.pl, h.lay, Nat.le_trans h.dep a, Nat.le_trans h.wt b, h.ish, h.sh⟩
theorem Gd.non : Gd .non 0 0 := ⟨rfl, rfl, Nat.le_refl _, Nat.le_refl _, rfl, rfl⟩
theorem Gd.bl {b : Bool} : Gd (.bl b) 0 0 := ⟨rfl, rfl, Nat.le_refl _, Nat.le_refl _, rfl, rfl⟩
theorem Gd.int {i : Int} (h : i.natAbs < 1000) : Gd (.int i) 0 10 := by
  have hl : i.natAbs.log2 < 10 := by
    by_cases e : i.natAbs = 0
    · rw [e]; decide
    · exact (Nat.log2_lt e).mpr (by omega)
  refine ⟨rfl, rfl, Nat.le_refl _, ?_, ?_, ?_⟩
  · show (if i == 0 then 0 else i.natAbs.log2 + 1) ≤ 10
    split
    · omega
    · omega
  · exact decide_eq_true (PyData.shown_int_le (by omega))
  · exact decide_eq_true (by omega)
theorem Gd.all {xs : List D} {k w : Nat} (h : ∀ x ∈ xs, Gd x k w) : D.plains xs = true ∧ PyData.canLayAll0 (D.pys xs) = true ∧ PyData.depthAll (D.pys xs) ≤ k ∧ PyData.weightAll (D.pys xs) ≤ xs.length * (w + 1) ∧ PyData.intsShortAll 13 (D.pys xs) = true ∧ PyData.showableAll (D.pys xs) = true := by
  induction xs with
  | nil => exact ⟨rfl, rfl, Nat.zero_le _, Nat.zero_le _, rfl, rfl⟩
  | cons x xs ih =>
    obtain ⟨a1, a2, a3, a4, a5, a6⟩ := h x (List.mem_cons_self ..)
    obtain ⟨b1, b2, b3, b4, b5, b6⟩ := ih fun y hy => h y (List.mem_cons_of_mem _ hy)
    refine ⟨?_, ?_, ?_, ?_, ?_, ?_⟩
    · show (x.plain && D.plains xs) = true
      rw [a1, b1]; rfl
    · show (x.py.canLay0 && _) = true
      rw [a2, b2]; rfl
    · show max x.py.depth _ ≤ k
      exact Nat.max_le.mpr ⟨a3, b3⟩
    · show x.py.weight + 1 + _ ≤ _
      rw [List.length_cons, Nat.add_mul]
      omega
    · show (x.py.intsShort 13 && _) = true
      rw [a5, b5]; rfl
    · show (x.py.showable && _) = true
      rw [a6, b6]; rfl
theorem Gd.tup {xs : List D} {k w n : Nat} (h : ∀ x ∈ xs, Gd x k w) (hn : xs.length ≤ n) : Gd (.tup xs) (k + 1) (n * (w + 1)) := by
  obtain ⟨b1, b2, b3, b4, b5, b6⟩ := Gd.all h
  exact ⟨b1, b2, Nat.succ_le_succ b3, Nat.le_trans b4 (Nat.mul_le_mul_right _ hn), b5, b6⟩
theorem Gd.lst {xs : List D} {k w n : Nat} (h : ∀ x ∈ xs, Gd x k w) (hn : xs.length ≤ n) : Gd (.lst xs) (k + 1) (n * (w + 1)) := by
  obtain ⟨b1, b2, b3, b4, b5, b6⟩ := Gd.all h
  exact ⟨b1, b2, Nat.succ_le_succ b3, Nat.le_trans b4 (Nat.mul_le_mul_right _ hn), b5, b6⟩
theorem Gd.okE {d : D} {k w : Nat} (h : Gd d k w) (hk : k ≤ 64) : d.okE = true := by
  have := h.dep
  show (d.plain && (d.py.canLay0 && decide (d.py.depth ≤ 64))) = true
  rw [h.pl, h.lay, decide_eq_true (by omega)]
  rfl
theorem Gd.len {d : D} {k w : Nat} (h : Gd d k w) (hk : k ≤ 60) (hw : w ≤ 1048576) : d.py.depth ≤ 60 ∧ d.py.shown.length ≤ sizeLine := by
  have h1 := h.dep
  have h2 := h.wt
  refine ⟨by omega, PyData.shown_fits_of_layable0 (B := 13) (by decide) (by decide) ?_ h.ish⟩
  show (d.py.canLay0 && decide (d.py.depth ≤ 64) && decide (d.py.weight ≤ 2 ^ 20)) = true
  rw [h.lay, decide_eq_true (by omega), decide_eq_true (by omega)]
  rfl
theorem Gd.ints {xs : List Int} {n : Nat} (h : ∀ x ∈ xs, x.natAbs < 1000) (hn : xs.length ≤ n) : Gd (.tup (xs.map .int)) 1 (n * 11) :=
  Gd.tup (k := 0) (w := 10) (fun x hx => by
    obtain ⟨y, hy, rfl⟩ := List.mem_map.mp hx
    exact Gd.int (h y hy)) (by rw [List.length_map]; exact hn)
/-! ### a scheme -/
structure Sch where
  v : Int
  effs : List (List Int)
  wr : List Int
  rules : List (Int × Int × Int)
def ruleD (r : Int × Int × Int) : D := .tup [.int r.1, .int r.2.1, .int r.2.2]
def Sch.d (s : Sch) : D := .tup [.int s.v, .tup (s.effs.map eff), eff s.wr, .tup (s.rules.map ruleD)]
def EffOk (v : Int) (e : List Int) : Prop := (e.length : Int) = v + 1 ∧ ∀ x ∈ e, -1 ≤ x ∧ x < v
def RuleOk (n : Nat) (r : Int × Int × Int) : Prop := 0 ≤ r.1 ∧ r.1 < n ∧ 0 ≤ r.2.1 ∧ r.2.1 < n ∧ -1 ≤ r.2.2 ∧ r.2.2 < n
structure Sch.Ok (s : Sch) : Prop where
  v0 : 1 ≤ s.v
  v1 : s.v ≤ 4
  n0 : 1 ≤ s.effs.length
  n1 : s.effs.length ≤ 6
  e : ∀ e ∈ s.effs, EffOk s.v e
  w0 : s.wr ≠ []
  w1 : s.wr.length ≤ 6
  w : ∀ x ∈ s.wr, 0 ≤ x ∧ x < s.effs.length
  r1 : s.rules.length ≤ 36
  r : ∀ r ∈ s.rules, RuleOk s.effs.length r
theorem Sch.Ok.gd {s : Sch} (h : s.Ok) : Gd s.d 3 4900 := by
  have h1 := h.v0
  have h2 := h.v1
  have h3 := h.n1
  refine Gd.tup (k := 2) (w := 1224) (n := 4) (fun x hx => ?_) (Nat.le_refl _)
  simp only [List.mem_cons, List.mem_nil_iff, or_false, List.not_mem_nil] at hx
  rcases hx with rfl | rfl | rfl | rfl
  · exact (Gd.int (by omega)).mono (by decide) (by decide)
  · refine (Gd.tup (k := 1) (w := 55) (n := 6) (fun x hx => ?_) (by rw [List.length_map]; exact h3)).mono (by decide) (by decide)
    obtain ⟨e, he, rfl⟩ := List.mem_map.mp hx
    obtain ⟨l, b⟩ := h.e e he
    exact Gd.ints (n := 5) (fun x hx => by have := b x hx; omega) (by omega)
  · exact (Gd.ints (n := 6) (fun x hx => by have := h.w x hx; omega) h.w1).mono (by decide) (by decide)
  · refine (Gd.tup (k := 1) (w := 33) (n := 36) (fun x hx => ?_) (by rw [List.length_map]; exact h.r1)).mono (by decide) (by decide)
    obtain ⟨r, hr, rfl⟩ := List.mem_map.mp hx
    obtain ⟨a0, a1, b0, b1, c0, c1⟩ := h.r r hr
    refine (Gd.ints (xs := [r.1, r.2.1, r.2.2]) (n := 3) (fun x hx => ?_) (Nat.le_refl _))
    simp only [List.mem_cons, List.mem_nil_iff, or_false, List.not_mem_nil] at hx
    rcases hx with rfl | rfl | rfl <;> omega
/-! ### fold -/
def foldE (effs : List (List Int)) (row : List Int) (s : Int) : Int := row.foldl (fun s a => at0 (effs.getD a.toNat []) s) s
structure Tab (v : Int) (effs : List (List Int)) : Prop where
  v0 : 1 ≤ v
  v1 : v ≤ 1000
  e : ∀ e ∈ effs, EffOk v e
theorem Sch.Ok.tab {s : Sch} (h : s.Ok) : Tab s.v s.effs := ⟨h.v0, by have := h.v1; omega, h.e⟩
theorem Tab.get {v : Int} {effs : List (List Int)} (T : Tab v effs) {a s : Int} (a0 : 0 ≤ a) (a1 : a < effs.length) (s0 : -1 ≤ s) (s1 : s < v) :
    atI (effs.map eff) a = some (eff (effs.getD a.toNat [])) ∧ atI ((effs.getD a.toNat []).map DL.D.int) (s + 1) = some (.int (at0 (effs.getD a.toNat []) s)) ∧ -1 ≤ at0 (effs.getD a.toNat []) s ∧ at0 (effs.getD a.toNat []) s < v := by
  obtain ⟨e, he, h1, h2⟩ := atI_nn (xs := effs) a0 a1
  have hg : effs.getD a.toNat [] = e := by rw [List.getD_eq_getElem?_getD, h2]; rfl
  rw [hg]
  obtain ⟨l, b⟩ := T.e e he
  obtain ⟨x, hx, h3, h4⟩ := atI_nn (xs := e) (i := s + 1) (by omega) (by omega)
  have hx' : at0 e s = x := by unfold at0; rw [List.getD_eq_getElem?_getD, h4]; rfl
  refine ⟨?_, at0_ok s0 (by omega), ?_⟩
  · unfold atI
    rw [List.length_map, ixN_nn a0 a1]
    show (effs.map eff)[a.toNat]? = _
    rw [List.getElem?_map, h2]
    rfl
  · rw [hx']
    exact b x hx
theorem Tab.fold {v : Int} {effs : List (List Int)} (T : Tab v effs) {row : List Int} (hr : ∀ a ∈ row, 0 ≤ a ∧ a < effs.length) {s : Int} (s0 : -1 ≤ s) (s1 : s < v) : -1 ≤ foldE effs row s ∧ foldE effs row s < v := by
  induction row generalizing s with
  | nil => exact ⟨s0, s1⟩
  | cons a row ih =>
    obtain ⟨a0, a1⟩ := hr a (List.mem_cons_self ..)
    obtain ⟨_, _, h1, h2⟩ := T.get a0 a1 s0 s1
    exact ih (fun b hb => hr b (List.mem_cons_of_mem _ hb)) h1 h2
theorem fold_snoc (effs : List (List Int)) (row : List Int) (i : Nat) (a : Int) (h : row[i]? = some a) (s : Int) : foldE effs (row.take (i + 1)) s = at0 (effs.getD a.toNat []) (foldE effs (row.take i) s) := by
  unfold foldE
  rw [List.take_add_one, h, List.foldl_append]
  rfl
def P_fold {K : PySem.W.Frag} : Ct (penAmb K) := fun ds α Q => ∃ (v : Int) (effs : List (List Int)) (x0 x2 x3 : D) (row : List Int) (s : Int), ds = [.tup [x0, .tup (effs.map eff), x2, x3], eff row, .int s] ∧ Tab v effs ∧ (∀ a ∈ row, 0 ≤ a ∧ a < effs.length) ∧ -1 ≤ s ∧ s < v ∧ Q (.fr (.int (foldE effs row s))) α
theorem rd_fold {K : PySem.W.Frag} : ∀ ds α (Qd : R → (penAmb K).S → Prop), ds.length = 3 → P_fold ds α Qd → wb__law_fold K (endsOf Qd) (startB 4 ds, α) := by
  rintro _ α Q _ ⟨v, effs, x0, x2, x3, row, s, rfl, T, hr, s0, s1, q⟩
  refine ⟨_, rfl, fun i E => ∃ x, E = ([some (.d (.tup [x0, .tup (effs.map eff), x2, x3])), some (.d (eff row)), some (.d (.int (foldE effs (row.take i) s))), x], α), ⟨none, rfl⟩, ?_, ?_⟩
  · rintro i d _ hd ⟨x, rfl⟩
    obtain ⟨a, ha, rfl⟩ := get_ints hd
    obtain ⟨a0, a1⟩ := hr a (List.mem_of_getElem? ha)
    obtain ⟨f0, f1⟩ := T.fold (row := row.take i) (fun b hb => hr b (List.mem_of_mem_take hb)) s0 s1
    obtain ⟨h1, h2, h3, h4⟩ := T.get a0 a1 f0 f1
    refine ⟨_, rfl, _, h1, _, h2, some (.d (.int a)), ?_⟩
    rw [fold_snoc effs row i a ha s]
    rfl
  · rintro _ ⟨x, rfl⟩
    rw [List.length_map, List.take_length]
    exact q
theorem flat_rep {α : Type} (n : Nat) (x : α) : (List.replicate n [x]).flatten = List.replicate n x := by
  induction n with
  | zero => rfl
  | succ n ih => rw [List.replicate_succ, List.flatten_cons, ih]; rfl
def InR (lo hi : Int) (e : List Int) : Prop := ∀ x ∈ e, lo ≤ x ∧ x < hi
theorem InR.nil {lo hi : Int} : InR lo hi [] := nofun
theorem InR.snoc {lo hi : Int} {e : List Int} {x : Int} (h : InR lo hi e) (a : lo ≤ x) (b : x < hi) : InR lo hi (e ++ [x]) := fun y hy => by
  rcases List.mem_append.mp hy with hy | hy
  · exact h y hy
  · have : y = x := by simpa using hy
    rw [this]; exact ⟨a, b⟩
theorem InR.abs {lo hi : Int} {e : List Int} (h : InR lo hi e) (a : -1000 < lo) (b : hi ≤ 1000) : ∀ x ∈ e, x.natAbs < 1000 := fun x hx => by have := h x hx; omega
theorem cut_take {α β : Type} (f : α → β) (xs : List α) (n : Int) (h : 0 ≤ n) : cut (xs.map f) none (some n) = (xs.take n.toNat).map f := by
  show List.take ((if n < 0 then _ else min n.toNat (xs.map f).length) - 0) ((xs.map f).drop 0) = _
  rw [if_neg (by omega), List.drop_zero, List.length_map, Nat.sub_zero, List.map_take]
  by_cases e : n.toNat ≤ xs.length
  · rw [Nat.min_eq_left e]
  · rw [Nat.min_eq_right (by omega), List.take_of_length_le (by rw [List.length_map]; exact Nat.le_refl _), List.take_of_length_le (by rw [List.length_map]; omega)]
def AllE (v : Int) (es : List (List Int)) : Prop := ∀ e ∈ es, EffOk v e
theorem AllE.snoc {v : Int} {es : List (List Int)} {e : List Int} (h : AllE v es) (a : EffOk v e) : AllE v (es ++ [e]) := fun y hy => by
  rcases List.mem_append.mp hy with hy | hy
  · exact h y hy
  · have : y = e := by simpa using hy
    rw [this]; exact a
theorem atI0 {α : Type} (x : α) (l : List α) : atI (x :: l) 0 = some x := by
  unfold atI ixN
  rw [if_pos (by decide), if_pos (by rw [List.length_cons]; omega)]
  rfl
theorem get_map {α : Type} {f : α → D} {xs : List α} {i : Nat} {d : D} (h : (xs.map f)[i]? = some d) : ∃ x, xs[i]? = some x ∧ d = f x := by
  rw [List.getElem?_map] at h
  cases e : xs[i]? with
  | none => rw [e] at h; cases h
  | some x => rw [e] at h; exact ⟨x, rfl, (Option.some.inj h).symm⟩
def AllR (n : Nat) (rs : List (Int × Int × Int)) : Prop := ∀ r ∈ rs, RuleOk n r
theorem AllR.snoc {n : Nat} {rs : List (Int × Int × Int)} {r : Int × Int × Int} (h : AllR n rs) (a : RuleOk n r) : AllR n (rs ++ [r]) := fun y hy => by
  rcases List.mem_append.mp hy with hy | hy
  · exact h y hy
  · have : y = r := by simpa using hy
    rw [this]; exact a
theorem iteN {p : Prop} [Decidable p] {A B : Prop} (h1 : p → B) (h2 : ¬ p → A) : (if (!decide p) = true then A else B) := by
  by_cases h : p
  · rw [if_neg (by simp [h])]; exact h1 h
  · rw [if_pos (by simp [h])]; exact h2 h
theorem cut_drop {α β : Type} (f : α → β) (xs : List α) (n : Int) (h : 0 ≤ n) : cut (xs.map f) (some n) none = (xs.drop n.toNat).map f := by
  show List.take ((xs.map f).length - (if n < 0 then _ else min n.toNat (xs.map f).length)) ((xs.map f).drop (if n < 0 then _ else min n.toNat (xs.map f).length)) = _
  rw [if_neg (by omega), List.length_map, List.map_drop]
  by_cases e : n.toNat ≤ xs.length
  · rw [Nat.min_eq_left e, List.take_of_length_le (by rw [List.length_drop, List.length_map]; exact Nat.le_refl _)]
  · rw [Nat.min_eq_right (by omega), List.drop_of_length_le (by rw [List.length_map]; exact Nat.le_refl _), List.drop_of_length_le (by rw [List.length_map]; omega), List.take_nil]
theorem any_int (xs : List Int) (k : Int) : (xs.map DL.D.int).any (fun y => y.eqv (.int k)) = xs.any (· == k) := by
  rw [List.any_map]
  rfl
theorem flat_int (xs : List Int) : (xs.map DL.D.int).all DL.D.flat = true := by simp [DL.D.flat]
theorem lenI (xs : List Int) : ((xs.map DL.D.int).length : Int) = xs.length := by rw [List.length_map]
theorem zle {n : Nat} (h : n ≤ 1000) : n ≤ sizeLine := by
  show n ≤ 2 ^ 24
  omega
theorem zlt {n : Nat} (h : n ≤ 1000) : n < sizeLine := by
  show n < 2 ^ 24
  omega
theorem zlm {α : Type} {f : α → DL.D} {xs : List α} (h : xs.length ≤ 1000) : (xs.map f).length < sizeLine := by rw [List.length_map]; exact zlt h
theorem sz0 : 0 ≤ sizeLine := by decide
theorem sz1 : 1 ≤ sizeLine := by decide
theorem sz2 : 2 ≤ sizeLine := by decide
theorem sz3 : 3 ≤ sizeLine := by decide
theorem getD_ints {xs : List Int} {i : Int} (h0 : 0 ≤ i) (h1 : i < xs.length) : atI (xs.map DL.D.int) i = some (.int (xs.getD i.toNat 0)) := by
  obtain ⟨x, _, h2, h3⟩ := atI_ints h0 h1
  rw [h2, List.getD_eq_getElem?_getD, h3]
  rfl
theorem gd_eff {e : List Int} {v : Int} (h : EffOk v e) (hv : v ≤ 4) : Gd (eff e) 1 55 := Gd.ints (n := 5) (fun x hx => by have := h.2 x hx; omega) (by have := h.1; omega)
/-! ### an effect -/
def P_draw_effect {K : PySem.W.Frag} : Ct (penAmb K) := fun ds α Q => ∃ (p : Pen) (v : Int), ds = [.obj p.p, .int v] ∧ α = some p ∧ 1 ≤ v ∧ v ≤ 4 ∧ 0 ≤ p.at_ ∧ p.at_ < 900000 ∧ ∀ (e : List Int) (p' : Pen), EffOk v e → Adv p 10 p' → Q (.fr (eff e)) (some p')
theorem rd_draw_effect {K : PySem.W.Frag} : ∀ ds α (Qd : R → (penAmb K).S → Prop), ds.length = 2 → P_draw_effect ds α Qd → wb__law_draw_effect K P_take (endsOf Qd) (startB 4 ds, α) := by
  rintro _ α Q _ ⟨p, v, rfl, rfl, v0, v1, a0, a1, q⟩
  refine ⟨rfl, p, 5, rfl, rfl, by decide, by decide, a0, by omega, fun way p1 w0 w1 ad1 => ?_⟩
  obtain ⟨pp1, al1, au1⟩ := id ad1
  have hp : p.p = p1.p := pp1.symm
  refine iteB (fun _ => ?_) (fun _ => ?_)
  · refine ⟨rfl, p1, v + 1, (by rw [← hp]), rfl, by omega, by omega, by omega, by omega, fun f p2 f0 f1 ad2 => ?_⟩
    refine ⟨sz1, .inr (by omega), by omega, by omega, by show 1 ≤ 1000; decide, ?_⟩
    have h := q (List.replicate (v + 1).toNat (f - 1)) p2 ⟨by rw [List.length_replicate]; omega, fun x hx => by rw [List.eq_of_mem_replicate hx]; omega⟩ ((ad1.trans ad2).le (by decide))
    unfold eff at h
    rw [List.map_replicate] at h
    rw [flat_rep]
    exact h
  refine ⟨rfl, rfl, iteb (fun _ => ?_) fun _ => ⟨rfl, rfl, iteb (fun _ => ?_) fun _ => ?_⟩⟩
  · refine ⟨by decide, by decide, by omega, by omega, fun k acc α' => α' = some p1 ∧ ∃ e, acc = e.map DL.D.int ∧ e.length = k ∧ InR (-1) v e, ⟨rfl, [], rfl, rfl, .nil⟩, ?_, ?_⟩
    · rintro k d acc _ hd ⟨rfl, e, rfl, rfl, he⟩
      obtain ⟨hk, rfl⟩ := get_rng hd
      refine ⟨rfl, zlm (by omega), rfl, e ++ [if v - 1 < -1 + (e.length : Int) + 1 then v - 1 else -1 + (e.length : Int) + 1], by rw [List.map_append]; rfl, by simp, he.snoc ?_ ?_⟩
      · split <;> omega
      · split <;> omega
    · rintro acc _ ⟨rfl, e, rfl, hl, he⟩
      rw [rng_len] at hl
      exact q e p1 ⟨by omega, he⟩ (ad1.le (by decide))
  · refine ⟨by decide, by decide, by omega, by omega, fun k acc α' => α' = some p1 ∧ ∃ e, acc = e.map DL.D.int ∧ e.length = k ∧ InR (-1) v e, ⟨rfl, [], rfl, rfl, .nil⟩, ?_, ?_⟩
    · rintro k d acc _ hd ⟨rfl, e, rfl, rfl, he⟩
      obtain ⟨hk, rfl⟩ := get_rng hd
      have m0 : 0 ≤ (-1 + (e.length : Int) + 2) % (v + 1) := Int.emod_nonneg _ (by omega)
      have m1 : (-1 + (e.length : Int) + 2) % (v + 1) < v + 1 := Int.emod_lt_of_pos _ (by omega)
      exact ⟨by show (0 : Int) < _; omega, rfl, zlm (by omega), rfl, e ++ [(-1 + (e.length : Int) + 2) % (v + 1) - 1], by rw [List.map_append]; rfl, by simp, he.snoc (by omega) (by omega)⟩
    · rintro acc _ ⟨rfl, e, rfl, hl, he⟩
      rw [rng_len] at hl
      exact q e p1 ⟨by omega, he⟩ (ad1.le (by decide))
  · refine ⟨by decide, by decide, by omega, by omega, fun k acc α' => ∃ p2 e, α' = some p2 ∧ Adv p1 k p2 ∧ acc = e.map DL.D.int ∧ e.length = k ∧ InR (-1) v e, ⟨p1, [], rfl, .refl, rfl, rfl, .nil⟩, ?_, ?_⟩
    · rintro k d acc _ hd ⟨p2, e, rfl, ad2, rfl, rfl, he⟩
      obtain ⟨hk, rfl⟩ := get_rng hd
      obtain ⟨pp2, al2, au2⟩ := id ad2
      refine ⟨rfl, p2, v + 1, (by rw [pp2, ← hp]), rfl, by omega, by omega, by omega, by omega, fun f p3 f0 f1 ad3 => ?_⟩
      exact ⟨rfl, zlm (by omega), p3, e ++ [f - 1], rfl, (ad2.trans ad3).le (by omega), by rw [List.map_append]; rfl, by simp, he.snoc (by omega) (by omega)⟩
    · rintro acc _ ⟨p2, e, rfl, ad2, rfl, hl, he⟩
      rw [rng_len] at hl ad2
      exact q e p2 ⟨by omega, he⟩ ((ad1.trans ad2).le (by omega))
/-! ### the written ones -/
def P_draw_wr {K : PySem.W.Frag} : Ct (penAmb K) := fun ds α Q => ∃ (p : Pen) (m : Int), ds = [.obj p.p, .int m] ∧ α = some p ∧ 1 ≤ m ∧ m ≤ 6 ∧ 0 ≤ p.at_ ∧ p.at_ < 900000 ∧ ∀ (w : List Int) (p' : Pen), w ≠ [] → (w.length : Int) ≤ m → InR 0 m w → Adv p 10 p' → Q (.fr (eff w)) (some p')
theorem gdl_ints {xs : List Int} {n : Nat} (h : ∀ x ∈ xs, x.natAbs < 1000) (hn : xs.length ≤ n) : Gd (.lst (xs.map .int)) 1 (n * 11) := Gd.lst (k := 0) (w := 10) (fun x hx => by
  obtain ⟨y, hy, rfl⟩ := List.mem_map.mp hx
  exact Gd.int (h y hy)) (by rw [List.length_map]; exact hn)
theorem rd_draw_wr {K : PySem.W.Frag} : ∀ ds α (Qd : R → (penAmb K).S → Prop), ds.length = 2 → P_draw_wr ds α Qd → wb__law_draw_written K P_take (endsOf Qd) (startB 4 ds, α) := by
  rintro _ α Q _ ⟨p, m, rfl, rfl, m0, m1, a0, a1, q⟩
  refine ⟨by omega, by omega, fun k acc α' => ∃ p2 e, α' = some p2 ∧ Adv p k p2 ∧ acc = e.map DL.D.int ∧ e.length ≤ k ∧ InR 0 m e, ⟨p, [], rfl, .refl, rfl, Nat.le_refl _, .nil⟩, ?_, ?_⟩
  · rintro k d acc _ hd ⟨p2, e, rfl, ad2, rfl, hl, he⟩
    obtain ⟨hk, rfl⟩ := get_rng hd
    obtain ⟨pp2, al2, au2⟩ := id ad2
    refine ⟨rfl, p2, 3, (by rw [pp2]), rfl, by decide, by decide, by omega, by omega, fun f p3 f0 f1 ad3 => iteB (fun _ => ?_) fun _ => ?_⟩
    · exact ⟨rfl, zlm (by omega), p3, e ++ [0 + (k : Int)], rfl, (ad2.trans ad3).le (by omega), by rw [List.map_append]; rfl, by rw [List.length_append, List.length_singleton]; omega, he.snoc (by omega) (by omega)⟩
    · exact ⟨rfl, p3, e, rfl, (ad2.trans ad3).le (by omega), rfl, by omega, he⟩
  · rintro acc _ ⟨p2, e, rfl, ad2, rfl, hl, he⟩
    rw [rng_len] at hl ad2
    obtain ⟨pp2, al2, au2⟩ := id ad2
    have g1 : (DL.D.lst (e.map .int)).okE = true := (gdl_ints (n := 6) (he.abs (by decide) (by omega)) (by omega)).okE (by decide)
    refine ⟨sz0, g1, rfl, iteb (fun h => ?_) fun h => ?_⟩
    · refine q e p2 (fun z => ?_) (by omega) he (ad2.le (by omega))
      rw [z] at h
      exact absurd h (by decide)
    · refine ⟨rfl, p2, m, by rw [pp2], rfl, by omega, by omega, by omega, by omega, fun f p3 f0 f1 ad3 => ⟨sz1, ?_⟩⟩
      exact q [f] p3 nofun (by show (1 : Int) ≤ m; omega) (fun x hx => by
        obtain rfl : x = f := by simpa using hx
        exact ⟨f0, f1⟩) ((ad2.trans ad3).le (by omega))
/-! ### what fits -/
def P_fits {K : PySem.W.Frag} : Ct (penAmb K) := fun ds α Q => ∃ (v : Int) (effs : List (List Int)) (a b : Int), ds = [.tup (effs.map eff), .int a, .int b] ∧ Tab v effs ∧ v ≤ 4 ∧ effs.length ≤ 6 ∧ 0 ≤ a ∧ a < effs.length ∧ 0 ≤ b ∧ b < effs.length ∧ ∀ rt : List Int, rt.length ≤ 7 → InR (-1) effs.length rt → Q (.nw (.l (rt.map .int))) α
theorem rd_fits {K : PySem.W.Frag} : ∀ ds α (Qd : R → (penAmb K).S → Prop), ds.length = 3 → P_fits ds α Qd → wb__law_fits K (endsOf Qd) (startB 7 ds, α) := by
  rintro _ α Q _ ⟨v, effs, a, b, rfl, T, v4, n6, a0, a1, b0, b1, q⟩
  have hv0 := T.v0
  have effAt : ∀ {i : Int}, 0 ≤ i → i < effs.length → ∃ e, e ∈ effs ∧ atI (effs.map eff) i = some (eff e) := fun {i} h0 h1 => by
    obtain ⟨e, he, _, h3⟩ := atI_nn (xs := effs) h0 h1
    refine ⟨e, he, ?_⟩
    unfold atI
    rw [List.length_map, ixN_nn h0 h1]
    show (effs.map eff)[i.toNat]? = _
    rw [List.getElem?_map, h3]
    rfl
  obtain ⟨ea, hea, ga⟩ := effAt a0 a1
  obtain ⟨eb, heb, gb⟩ := effAt b0 b1
  obtain ⟨la, ra⟩ := T.e ea hea
  obtain ⟨lb, rb⟩ := T.e eb heb
  refine ⟨_, ga, _, rfl, fun i acc α' => α' = α ∧ acc = ((ea.take i).map (at0 eb)).map DL.D.int, ⟨rfl, rfl⟩, ?_, ?_⟩
  · rintro i d acc _ hd ⟨rfl, rfl⟩
    obtain ⟨x, hx, rfl⟩ := get_ints hd
    have hr := ra x (List.mem_of_getElem? hx)
    refine ⟨_, gb, _, at0_ok (by omega) (by omega), rfl, zlm (by rw [List.length_map, List.length_take]; omega), rfl, ?_⟩
    rw [List.take_add_one, hx, List.map_append, List.map_append]
    rfl
  · rintro acc α1 ⟨h1, rfl⟩
    subst h1
    rw [List.length_map, List.take_length]
    have lboth : (ea.map (at0 eb)).length ≤ 5 := by rw [List.length_map]; omega
    have rboth : ∀ x ∈ ea.map (at0 eb), x.natAbs < 1000 := fun x hx => by
      obtain ⟨y, hy, rfl⟩ := List.mem_map.mp hx
      have hr := ra y hy
      obtain ⟨z, hz, _, h3⟩ := atI_nn (xs := eb) (i := y + 1) (by omega) (by omega)
      have : at0 eb y = z := by unfold at0; rw [List.getD_eq_getElem?_getD, h3]; rfl
      rw [this]
      have := rb z hz
      omega
    have gboth : Gd (eff (ea.map (at0 eb))) 1 55 := Gd.ints (n := 5) rboth lboth
    have le : ((effs.map eff).length : Int) = effs.length := by rw [List.length_map]
    refine ⟨by omega, by omega, fun k acc α' => α' = α1 ∧ ∃ rt, acc = List.map DL.D.int rt ∧ rt.length ≤ k ∧ InR (-1) effs.length rt, ⟨rfl, [], rfl, Nat.le_refl _, .nil⟩, ?_, ?_⟩
    · rintro k d acc _ hd ⟨rfl, rt, rfl, hl, hr⟩
      obtain ⟨hk, rfl⟩ := get_rng hd
      have hk' : k < effs.length := by
        rw [List.length_map] at hk
        omega
      obtain ⟨e, he, ge⟩ := effAt (i := 0 + (k : Int)) (by omega) (by omega)
      refine ⟨_, ge, (gd_eff (T.e e he) v4).okE (by decide), gboth.okE (by decide), iteb (fun _ => ?_) fun _ => ?_⟩
      · exact ⟨rfl, zlm (by omega), rfl, rt ++ [0 + (k : Int)], by rw [List.map_append]; rfl, by rw [List.length_append, List.length_singleton]; omega, hr.snoc (by omega) (by omega)⟩
      · exact ⟨rfl, rfl, rt, rfl, by omega, hr⟩
    · rintro acc _ ⟨rfl, rt, rfl, hl, hr⟩
      rw [rng_len, List.length_map] at hl
      have hl6 : rt.length ≤ 6 := by omega
      have l2 : ((ea.map (at0 eb)).map DL.D.int).length = ea.length := by rw [List.length_map, List.length_map]
      have gr : ∀ n : Nat, n ≤ 5 → (DL.D.lst (rngD (-1) n)).okE = true := fun n hn => (Gd.lst (k := 0) (w := 10) (n := 5) (fun x hx => by
        obtain ⟨j, hj, rfl⟩ := List.mem_map.mp hx
        have := List.mem_range.mp hj
        exact Gd.int (by omega)) (by rw [rng_len]; exact hn)).okE (by decide)
      refine ⟨_, rfl, ⟨by decide, by omega⟩, (gdl_ints (n := 5) rboth lboth).okE (by decide), gr _ (by omega), iteb (fun _ => ?_) fun _ => ?_⟩
      · refine ⟨sz1, zle (by rw [List.length_map]; show rt.length + 1 ≤ _; omega), ?_⟩
        have h := q (rt ++ [-1]) (by rw [List.length_append, List.length_singleton]; omega) (hr.snoc (by decide) (by omega))
        rw [List.map_append] at h
        exact h
      · exact q rt (by omega) hr
/-! ### the scheme -/
def P_draw_scheme {K : PySem.W.Frag} : Ct (penAmb K) := fun ds α Q => ∃ (p : Pen) (vs ops full : Int), ds = [.obj p.p, .int vs, .int ops, .int full] ∧ α = some p ∧ 1 ≤ vs ∧ vs ≤ 4 ∧ 1 ≤ ops ∧ ops ≤ 6 ∧ 0 < full ∧ full < 1000 ∧ 0 ≤ p.at_ ∧ p.at_ < 800000 ∧
  ∀ (s : Sch) (p' : Pen), s.Ok → Adv p 500 p' → Q (.fr s.d) (some p')
theorem rd_draw_scheme {K : PySem.W.Frag} : ∀ ds α (Qd : R → (penAmb K).S → Prop), ds.length = 4 → P_draw_scheme ds α Qd → wb__law_draw_scheme K P_draw_effect P_draw_wr P_fits P_one_of P_take (endsOf Qd) (startB 13 ds, α) := by
  rintro _ α Q _ ⟨p, vs, ops, full, rfl, rfl, v0, v1, o0, o1, fu0, fu1, a0, a1, q⟩
  refine ⟨rfl, p, vs, rfl, rfl, by omega, by omega, by omega, by omega, fun f p1 f0 f1 ad1 => ?_⟩
  obtain ⟨pp1, al1, au1⟩ := id ad1
  refine ⟨rfl, p1, ops, by rw [pp1], rfl, by omega, by omega, by omega, by omega, fun g p2 g0 g1 ad2 => ⟨sz2, rfl, rfl, ?_⟩⟩
  obtain ⟨pp2, al2, au2⟩ := id ad2
  refine ⟨by omega, by omega, fun k acc α' => ∃ p3 effs, α' = some p3 ∧ Adv p2 (10 * k) p3 ∧ acc = effs.map eff ∧ effs.length = k ∧ AllE (1 + f) effs, ⟨p2, [], rfl, .refl, rfl, rfl, nofun⟩, ?_, ?_⟩
  · rintro k d acc _ hd ⟨p3, effs, rfl, ad3, rfl, hl, hE⟩
    obtain ⟨hk, rfl⟩ := get_rng hd
    obtain ⟨pp3, al3, au3⟩ := id ad3
    refine ⟨rfl, p3, 1 + f, by rw [pp3, pp2, pp1], rfl, by omega, by omega, by omega, by omega, fun e p4 he ad4 => ?_⟩
    exact ⟨rfl, zlm (by omega), p4, effs ++ [e], rfl, (ad3.trans ad4).le (by omega), by rw [List.map_append]; rfl, by rw [List.length_append, List.length_singleton, hl], hE.snoc he⟩
  · rintro acc _ ⟨p3, effs, rfl, ad3, rfl, hl, hE⟩
    rw [rng_len] at hl ad3
    obtain ⟨pp3, al3, au3⟩ := id ad3
    have hn : (effs.length : Int) = 1 + g := by omega
    have T : Tab (1 + f) effs := ⟨by omega, by omega, hE⟩
    refine ⟨rfl, p3, 1 + g, by rw [pp3, pp2, pp1], rfl, by omega, by omega, by omega, by omega, fun w p4 w0 w1 wr ad4 => ⟨sz0, ?_⟩⟩
    obtain ⟨pp4, al4, au4⟩ := id ad4
    refine ⟨by show 4 ≤ sizeLine; decide, rfl, p4, [.int 0, .int 0, .int 1, .int 3], _, by rw [pp4, pp3, pp2, pp1]; rfl, .inl rfl, rfl, nofun, by show 4 < 900000; decide, by omega, by omega, fun x p5 hx ad5 => ?_⟩
    obtain ⟨odd, rfl⟩ : ∃ odd : Int, x = .int odd := by
      simp only [List.mem_cons, List.mem_nil_iff, or_false, List.not_mem_nil] at hx
      rcases hx with rfl | rfl | rfl | rfl <;> exact ⟨_, rfl⟩
    obtain ⟨pp5, al5, au5⟩ := id ad5
    have pe5 : p5.p = p.p := pp5.trans (pp4.trans (pp3.trans (pp2.trans pp1)))
    have ad05 := (((ad1.trans ad2).trans ad3).trans ad4).trans ad5
    refine ⟨by omega, by omega, fun i E => ∃ rs p6 x10 x11 x12, E = ([some (.d (.obj p.p)), some (.d (.int vs)), some (.d (.int ops)), some (.d (.int full)), some (.d (.int (1 + f))), some (.d (.int (1 + g))), some (.d (.tup (effs.map eff))), some (.d (eff w)), some (.l (rs.map ruleD)), some (.d (.int odd)), x10, x11, x12], some p6) ∧ rs.length ≤ 6 * i ∧ AllR effs.length rs ∧ Adv p5 (20 * i) p6,
      ⟨[], p5, none, none, none, rfl, Nat.le_refl _, nofun, .refl⟩, ?_, ?_⟩
    · rintro i d _ hd ⟨rs, p6, x10, x11, x12, rfl, hrs, hR, ad6⟩
      obtain ⟨hi, rfl⟩ := get_rng hd
      have hi6 : i < 6 := by omega
      obtain ⟨pp6, al6, au6⟩ := id ad6
      refine ⟨by omega, by omega, fun j E => ∃ rs' p7 x11 x12, E = ([some (.d (.obj p.p)), some (.d (.int vs)), some (.d (.int ops)), some (.d (.int full)), some (.d (.int (1 + f))), some (.d (.int (1 + g))), some (.d (.tup (effs.map eff))), some (.d (eff w)), some (.l (rs'.map ruleD)), some (.d (.int odd)), some (.d (.int (0 + i))), x11, x12], some p7) ∧ rs'.length ≤ rs.length + j ∧ AllR effs.length rs' ∧ Adv p6 (3 * j) p7,
        ⟨rs, p6, x11, x12, rfl, Nat.le_refl _, hR, .refl⟩, ?_, ?_⟩
      · rintro j d _ hd ⟨rs', p7, x11, x12, rfl, hrs', hR', ad7⟩
        obtain ⟨hj, rfl⟩ := get_rng hd
        have hj6 : j < 6 := by omega
        obtain ⟨pp7, al7, au7⟩ := id ad7
        have pe7 : p7.p = p.p := pp7.trans (pp6.trans pe5)
        refine ⟨rfl, 1 + f, effs, 0 + (i : Int), 0 + (j : Int), rfl, T, by omega, by omega, by omega, by omega, by omega, by omega, fun rt hrt hin => ?_⟩
        have grt : (DL.D.lst (rt.map .int)).okE = true := (gdl_ints (n := 7) (hin.abs (by decide) (by omega)) hrt).okE (by decide)
        have put : ∀ (c : Int) (p9 : Pen) (x12 : Option B), -1 ≤ c → c < effs.length → Adv p7 3 p9 → ∃ rs'' p10 x11 x12', (([some (.d (.obj p.p)), some (.d (.int vs)), some (.d (.int ops)), some (.d (.int full)), some (.d (.int (1 + f))), some (.d (.int (1 + g))), some (.d (.tup (effs.map eff))), some (.d (eff w)), some (.l (rs'.map ruleD ++ [ruleD (0 + i, 0 + j, c)])), some (.d (.int odd)), some (.d (.int (0 + i))), some (.d (.int (0 + j))), x12], some p9) : Env (penAmb K)) = ([some (.d (.obj p.p)), some (.d (.int vs)), some (.d (.int ops)), some (.d (.int full)), some (.d (.int (1 + f))), some (.d (.int (1 + g))), some (.d (.tup (effs.map eff))), some (.d (eff w)), some (.l (rs''.map ruleD)), some (.d (.int odd)), some (.d (.int (0 + i))), x11, x12'], some p10) ∧ rs''.length ≤ rs.length + (j + 1) ∧ AllR effs.length rs'' ∧ Adv p6 (3 * (j + 1 : Nat)) p10 := by
          intro c p9 x12 c0 c1 ad9
          exact ⟨rs' ++ [(0 + (i : Int), 0 + (j : Int), c)], p9, _, _, by rw [List.map_append]; rfl, by rw [List.length_append, List.length_singleton]; omega, hR'.snoc ⟨by show (0 : Int) ≤ 0 + i; omega, by show (0 : Int) + i < _; omega, by show (0 : Int) ≤ 0 + j; omega, by show (0 : Int) + j < _; omega, c0, c1⟩, (ad7.trans ad9).le (by omega)⟩
        refine ⟨rfl, p7, 8, by rw [pe7], rfl, by decide, by decide, by omega, by omega, fun h p8 h0 h1 ad8 => ?_⟩
        obtain ⟨pp8, al8, au8⟩ := id ad8
        have pe8 : p8.p = p.p := pp8.trans pe7
        refine iteB (fun _ => ?_) fun _ => ?_
        · refine ⟨rfl, p8, (1 + g) + 1, by rw [pe8], rfl, by omega, by omega, by omega, by omega, fun c p9 c0 c1 ad9 => ⟨sz3, zlm (by omega), ?_⟩⟩
          exact put (c - 1) p9 _ (by omega) (by omega) ((ad8.trans ad9).le (by decide))
        · refine ⟨sz0, grt, rfl, iteb (fun hne => ?_) fun _ => ?_⟩
          · refine ⟨rfl, p8, full, by rw [pe8], rfl, fu0, by omega, by omega, by omega, fun h' p9 h0' h1' ad9 => ?_⟩
            obtain ⟨pp9, al9, au9⟩ := id ad9
            refine iteB (fun _ => ?_) fun _ => ?_
            · have hnil : rt.map DL.D.int ≠ [] := fun z => by
                rw [z] at hne
                exact absurd hne (by decide)
              refine ⟨rfl, p9, rt.map .int, _, by rw [pp9, pe8]; rfl, .inl rfl, rfl, hnil, by rw [List.length_map]; omega, by omega, by omega, fun x p10 hx ad10 => ?_⟩
              obtain ⟨c, hc, rfl⟩ := List.mem_map.mp hx
              have hb := hin c hc
              exact ⟨sz3, zlm (by omega), put c p10 _ hb.1 hb.2 (((ad8.trans ad9).trans ad10).le (by decide))⟩
            · exact ⟨rs', p9, _, _, rfl, by omega, hR', (ad7.trans (ad8.trans ad9)).le (by omega)⟩
          · exact ⟨rs', p8, _, _, rfl, by omega, hR', (ad7.trans ad8).le (by omega)⟩
      · rintro _ ⟨rs', p7, x11, x12, rfl, hrs', hR', ad7⟩
        rw [rng_len] at hrs' ad7
        exact ⟨rs', p7, _, _, _, rfl, by omega, hR', (ad6.trans ad7).le (by omega)⟩
    · rintro _ ⟨rs, p6, x10, x11, x12, rfl, hrs, hR, ad6⟩
      rw [rng_len] at hrs ad6
      refine ⟨by show 4 ≤ sizeLine; decide, ?_⟩
      exact q ⟨1 + f, effs, w, rs⟩ p6 ⟨by show 1 ≤ 1 + f; omega, by show 1 + f ≤ 4; omega, by show 1 ≤ effs.length; omega, by show effs.length ≤ 6; omega, hE, w0, by show w.length ≤ 6; omega, fun x hx => by have := wr x hx; show 0 ≤ x ∧ x < (effs.length : Int); omega, by show rs.length ≤ 36; omega, hR⟩ ((ad05.trans ad6).le (by omega))
/-! ### other written ones, a row -/
def P_rewr {K : PySem.W.Frag} : Ct (penAmb K) := fun ds α Q => ∃ (p : Pen) (s : Sch), ds = [.obj p.p, s.d] ∧ α = some p ∧ s.Ok ∧ 0 ≤ p.at_ ∧ p.at_ < 800000 ∧ ∀ (s' : Sch) (p' : Pen), s'.Ok → Adv p 10 p' → Q (.fr s'.d) (some p')
theorem rd_rewr {K : PySem.W.Frag} : ∀ ds α (Qd : R → (penAmb K).S → Prop), ds.length = 2 → P_rewr ds α Qd → wb__law_rewritten K P_draw_wr (endsOf Qd) (startB 2 ds, α) := by
  rintro _ α Q _ ⟨p, s, rfl, rfl, hs, a0, a1, q⟩
  have n0 := hs.n0
  have n1 := hs.n1
  have le : ((s.effs.map eff).length : Int) = s.effs.length := by rw [List.length_map]
  refine ⟨_, rfl, rfl, p, _, rfl, rfl, by omega, by omega, a0, by omega, fun w p1 w0 w1 wr ad1 => ?_⟩
  refine ⟨_, rfl, sz2, by show 2 + 2 ≤ sizeLine; decide, ?_⟩
  exact q ⟨s.v, s.effs, w, s.rules⟩ p1 ⟨hs.v0, hs.v1, hs.n0, hs.n1, hs.e, w0, by show w.length ≤ 6; omega, fun x hx => by have := wr x hx; show 0 ≤ x ∧ x < (s.effs.length : Int); omega, hs.r1, hs.r⟩ ad1
def P_row {K : PySem.W.Frag} : Ct (penAmb K) := fun ds α Q => ∃ (p : Pen) (xs : List Int) (m : Int), ds = [.obj p.p, .lst (xs.map .int), .int m] ∧ α = some p ∧ xs ≠ [] ∧ xs.length ≤ 100 ∧ 0 ≤ m ∧ m ≤ 20 ∧ 0 ≤ p.at_ ∧ p.at_ < 900000 ∧ ∀ (row : List Int) (p' : Pen), row.length ≤ m.toNat → (∀ a ∈ row, a ∈ xs) → Adv p 30 p' → Q (.fr (eff row)) (some p')
theorem rd_row {K : PySem.W.Frag} : ∀ ds α (Qd : R → (penAmb K).S → Prop), ds.length = 3 → P_row ds α Qd → wb__law_draw_row K P_one_of P_take (endsOf Qd) (startB 4 ds, α) := by
  rintro _ α Q _ ⟨p, xs, m, rfl, rfl, hn, hl, m0, m1, a0, a1, q⟩
  refine ⟨rfl, p, m + 1, rfl, rfl, by omega, by omega, a0, by omega, fun f p1 f0 f1 ad1 => ⟨by omega, by omega, fun k acc α' => ∃ p2 row, α' = some p2 ∧ Adv p1 k p2 ∧ acc = row.map DL.D.int ∧ row.length = k ∧ ∀ a ∈ row, a ∈ xs, ⟨p1, [], rfl, .refl, rfl, rfl, nofun⟩, ?_, ?_⟩⟩
  · rintro k d acc _ hd ⟨p2, row, rfl, ad2, rfl, hr, ha⟩
    obtain ⟨hk, rfl⟩ := get_rng hd
    obtain ⟨pp1, al1, au1⟩ := id ad1
    obtain ⟨pp2, al2, au2⟩ := id ad2
    refine ⟨rfl, p2, xs.map .int, _, by rw [pp2, pp1], .inl rfl, rfl, fun z => hn (List.map_eq_nil_iff.mp z), by rw [List.length_map]; omega, by omega, by omega, fun x p3 hx ad3 => ?_⟩
    obtain ⟨a, ham, rfl⟩ := List.mem_map.mp hx
    refine ⟨rfl, zlm (by omega), p3, row ++ [a], rfl, (ad2.trans ad3).le (by omega), by rw [List.map_append]; rfl, by rw [List.length_append, List.length_singleton, hr], fun y hy => ?_⟩
    rcases List.mem_append.mp hy with hy | hy
    · exact ha y hy
    · obtain rfl : y = a := by simpa using hy
      exact ham
  · rintro acc _ ⟨p2, row, rfl, ad2, rfl, hr, ha⟩
    rw [rng_len] at hr ad2
    exact q row p2 (by omega) ha ((ad1.trans ad2).le (by omega))

end DL
set_option maxHeartbeats 4000000
namespace DL
open PySem PySem.Spec L2
open PyProof.Rows hiding St
/-! ### shortest ways, in the order in which they are found -/
abbrev Fd := List (Int × List Int)
def hasF (F : Fd) (r : Int) : Bool := F.any fun e => e.1 == r
def wayF (F : Fd) (r : Int) : List Int := ((F.find? fun e => e.1 == r).map (·.2)).getD []
def vis (p : Int) (st : Fd × List Int) (a r : Int) : Fd × List Int := if hasF st.1 r = true then st else (st.1 ++ [(r, wayF st.1 p ++ [a])], st.2 ++ [r])
def nxt (s : Sch) (a p : Int) : Int := at0 (s.effs.getD a.toNat []) p
def visP (s : Sch) (st : Fd × List Int) (p : Int) : Fd × List Int := s.wr.foldl (fun st a => vis p st a (nxt s a p)) st
def rnd (s : Sch) (st : Fd × List Int) : Fd × List Int := st.2.foldl (visP s) (st.1, [])
def itr (s : Sch) : Nat → Fd × List Int
  | 0 => ([(-1, [])], [-1])
  | n + 1 => rnd s (itr s n)
def Fin (s : Sch) (F : Fd) : Prop := ∃ n, itr s n = (F, [])
theorem itr_stop {s : Sch} {n : Nat} {F : Fd} (h : itr s n = (F, [])) : ∀ k, itr s (n + k) = (F, [])
  | 0 => h
  | k + 1 => by
    show rnd s (itr s (n + k)) = _
    rw [itr_stop h k]
    rfl
theorem Fin.uniq {s : Sch} {F G : Fd} (h : Fin s F) (h' : Fin s G) : F = G := by
  obtain ⟨n, h⟩ := h
  obtain ⟨m, h'⟩ := h'
  rcases Nat.le_total n m with c | c
  · obtain ⟨k, rfl⟩ := Nat.exists_eq_add_of_le c
    have := itr_stop h k
    rw [h'] at this
    exact (Prod.mk.inj this).1.symm
  · obtain ⟨k, rfl⟩ := Nat.exists_eq_add_of_le c
    have := itr_stop h' k
    rw [h] at this
    exact (Prod.mk.inj this).1
def miss (v : Int) (F : Fd) : Nat := ((List.range (v + 1).toNat).filter fun i : Nat => !hasF F ((i : Int) - 1)).length
structure GF (s : Sch) (F : Fd) : Prop where
  lo : ∀ e ∈ F, -1 ≤ e.1 ∧ e.1 < s.v ∧ (∀ a ∈ e.2, a ∈ s.wr) ∧ foldE s.effs e.2 (-1) = e.1 ∧ e.2.length < F.length
  cnt : F.length + miss s.v F ≤ (s.v + 1).toNat
  nd : F.Pairwise fun a b => a.1 ≠ b.1
theorem hasF_snoc {F : Fd} {e : Int × List Int} {r : Int} : hasF (F ++ [e]) r = (hasF F r || (e.1 == r)) := by
  unfold hasF
  rw [List.any_append]
  simp
theorem hasF_mem {F : Fd} {r : Int} (h : hasF F r = true) : ∃ w, F.find? (fun e => e.1 == r) = some (r, w) ∧ (r, w) ∈ F ∧ wayF F r = w := by
  obtain ⟨e, he, q⟩ := List.any_eq_true.mp h
  cases f : F.find? fun e => e.1 == r with
  | none => exact absurd q (by simpa using List.find?_eq_none.mp f e he)
  | some y =>
    have h1 := List.find?_some f
    have h1 : y.1 = r := by simpa using h1
    have h2 := List.mem_of_find?_eq_some f
    refine ⟨y.2, ?_, ?_, ?_⟩
    · rw [← h1]
    · rw [← h1]; exact h2
    · unfold wayF
      rw [f]
      rfl
theorem filt_lt {α : Type} {p q : α → Bool} : ∀ {l : List α} {x : α}, (∀ y, q y = true → p y = true) → x ∈ l → p x = true → q x = false → (l.filter q).length < (l.filter p).length
  | [], _, _, h, _, _ => by cases h
  | y :: l, x, sub, h, hp, hq => by
    have mono : (l.filter q).length ≤ (l.filter p).length := by
      rw [← List.countP_eq_length_filter, ← List.countP_eq_length_filter]
      exact List.countP_mono_left fun y _ => sub y
    rcases List.mem_cons.mp h with e | h
    · subst e
      rw [List.filter_cons, List.filter_cons, if_pos hp, if_neg (by rw [hq]; exact Bool.false_ne_true), List.length_cons]
      omega
    · have ih := filt_lt sub h hp hq
      rw [List.filter_cons, List.filter_cons]
      by_cases c : q y = true
      · rw [if_pos c, if_pos (sub y c), List.length_cons, List.length_cons]
        omega
      · rw [if_neg c]
        split
        · rw [List.length_cons]; omega
        · exact ih
theorem miss_lt {v : Int} {F : Fd} {r : Int} {w : List Int} (h0 : -1 ≤ r) (h1 : r < v) (h : hasF F r = false) : miss v (F ++ [(r, w)]) < miss v F := by
  unfold miss
  refine filt_lt (x := (r + 1).toNat) (fun y hy => ?_) (List.mem_range.mpr (by omega)) ?_ ?_
  · rw [hasF_snoc, Bool.not_or, Bool.and_eq_true] at hy
    exact hy.1
  · have : (((r + 1).toNat : Nat) : Int) - 1 = r := by omega
    rw [this, h]; rfl
  · have : (((r + 1).toNat : Nat) : Int) - 1 = r := by omega
    rw [this, hasF_snoc]; simp
theorem fold_end (effs : List (List Int)) (row : List Int) (a s : Int) : foldE effs (row ++ [a]) s = at0 (effs.getD a.toNat []) (foldE effs row s) := by
  unfold foldE
  rw [List.foldl_append]
  rfl
theorem vis_ok {s : Sch} (hs : s.Ok) {F : Fd} {nw : List Int} {p a : Int} (g : GF s F) (hp : hasF F p = true) (ha : a ∈ s.wr) (hn : ∀ x ∈ nw, hasF F x = true) :
    GF s (vis p (F, nw) a (nxt s a p)).1 ∧ (∀ x, hasF F x = true → hasF (vis p (F, nw) a (nxt s a p)).1 x = true) ∧ (∀ x ∈ (vis p (F, nw) a (nxt s a p)).2, hasF (vis p (F, nw) a (nxt s a p)).1 x = true) ∧ miss s.v (vis p (F, nw) a (nxt s a p)).1 + (vis p (F, nw) a (nxt s a p)).2.length ≤ miss s.v F + nw.length := by
  unfold vis
  split
  · exact ⟨g, fun _ h => h, hn, Nat.le_refl _⟩
  · rename_i hh
    have hh : hasF F (nxt s a p) = false := by simpa using hh
    obtain ⟨w, h1, h2, h3⟩ := hasF_mem hp
    obtain ⟨l1, l2, l3, l4, l5⟩ := g.lo _ h2
    obtain ⟨a0, a1⟩ := hs.w a ha
    obtain ⟨_, _, r0, r1⟩ := hs.tab.get a0 a1 l1 l2
    have lt := miss_lt (w := wayF F p ++ [a]) r0 r1 hh
    refine ⟨⟨fun e he => ?_, ?_, List.pairwise_append.mpr ⟨g.nd, List.pairwise_singleton _ _, fun e he y hy => ?_⟩⟩, fun x hx => ?_, fun x hx => ?_, ?_⟩
    · rw [List.length_append, List.length_singleton]
      rcases List.mem_append.mp he with he | he
      · obtain ⟨q1, q2, q3, q4, q5⟩ := g.lo e he
        exact ⟨q1, q2, q3, q4, Nat.lt_succ_of_lt q5⟩
      · obtain rfl : e = (nxt s a p, wayF F p ++ [a]) := by simpa using he
        refine ⟨r0, r1, fun b hb => ?_, ?_, ?_⟩
        · rcases List.mem_append.mp hb with hb | hb
          · rw [h3] at hb; exact l3 b hb
          · obtain rfl : b = a := by simpa using hb
            exact ha
        · show foldE s.effs (wayF F p ++ [a]) (-1) = nxt s a p
          rw [fold_end, h3, l4]
          rfl
        · show (wayF F p ++ [a]).length < _
          rw [h3, List.length_append, List.length_singleton]
          exact Nat.succ_lt_succ l5
    · have := g.cnt
      rw [List.length_append, List.length_singleton]
      show F.length + 1 + miss s.v (F ++ [(nxt s a p, wayF F p ++ [a])]) ≤ _
      have lt : miss s.v (F ++ [(nxt s a p, wayF F p ++ [a])]) < miss s.v F := lt
      omega
    · obtain rfl : y = (nxt s a p, wayF F p ++ [a]) := by simpa using hy
      intro z
      have : hasF F (nxt s a p) = true := List.any_eq_true.mpr ⟨e, he, by simpa using z⟩
      rw [hh] at this
      cases this
    · rw [hasF_snoc, hx]; rfl
    · rw [hasF_snoc]
      rcases List.mem_append.mp hx with hx | hx
      · rw [hn x hx]; rfl
      · obtain rfl : x = nxt s a p := by simpa using hx
        simp
    · show miss s.v (F ++ [(nxt s a p, wayF F p ++ [a])]) + (nw ++ [nxt s a p]).length ≤ _
      have lt : miss s.v (F ++ [(nxt s a p, wayF F p ++ [a])]) < miss s.v F := lt
      rw [List.length_append, List.length_singleton]
      omega
structure GS (s : Sch) (F0 : Fd) (n0 : Nat) (st : Fd × List Int) : Prop where
  g : GF s st.1
  up : ∀ x, hasF F0 x = true → hasF st.1 x = true
  nw : ∀ x ∈ st.2, hasF st.1 x = true
  ms : miss s.v st.1 + st.2.length ≤ miss s.v F0
theorem GS.vis {s : Sch} (hs : s.Ok) {F0 : Fd} {n0 : Nat} {st : Fd × List Int} {p a : Int} (h : GS s F0 n0 st) (hp : hasF F0 p = true) (ha : a ∈ s.wr) : GS s F0 n0 (vis p st a (nxt s a p)) := by
  obtain ⟨F, nw⟩ := st
  obtain ⟨h1, h2, h3, h4⟩ := vis_ok hs (F := F) (nw := nw) (p := p) (a := a) h.g (h.up p hp) ha h.nw
  exact ⟨h1, fun x hx => h2 x (h.up x hx), h3, Nat.le_trans h4 h.ms⟩
theorem GS.row {s : Sch} (hs : s.Ok) {F0 : Fd} {n0 : Nat} {p : Int} (hp : hasF F0 p = true) : ∀ {as : List Int} {st : Fd × List Int}, GS s F0 n0 st → (∀ a ∈ as, a ∈ s.wr) → GS s F0 n0 (as.foldl (fun st a => DL.vis p st a (nxt s a p)) st)
  | [], _, h, _ => h
  | a :: as, st, h, ha => GS.row (as := as) (st := DL.vis p st a (nxt s a p)) hs hp (h.vis hs hp (ha a (List.mem_cons_self ..))) fun b hb => ha b (List.mem_cons_of_mem _ hb)
theorem GS.all {s : Sch} (hs : s.Ok) {F0 : Fd} {n0 : Nat} : ∀ {ps : List Int} {st : Fd × List Int}, GS s F0 n0 st → (∀ p ∈ ps, hasF F0 p = true) → GS s F0 n0 (ps.foldl (visP s) st)
  | [], _, h, _ => h
  | p :: ps, st, h, hp => GS.all (ps := ps) (st := visP s st p) hs (GS.row hs (hp p (List.mem_cons_self ..)) h fun _ h => h) fun q hq => hp q (List.mem_cons_of_mem _ hq)
theorem gf_init {s : Sch} (hs : s.Ok) : GF s [(-1, [])] := by
  have v0 := hs.v0
  refine ⟨fun e he => ?_, ?_, List.pairwise_singleton _ _⟩
  · obtain rfl : e = (-1, []) := by simpa using he
    exact ⟨by decide, by show -1 < s.v; omega, nofun, rfl, by decide⟩
  · have h : miss s.v ([] ++ [(-1, [])]) < miss s.v [] := miss_lt (by decide) (by omega) rfl
    have h2 : miss s.v [] ≤ (s.v + 1).toNat := Nat.le_trans (List.length_filter_le ..) (by rw [List.length_range]; exact Nat.le_refl _)
    have h : miss s.v [(-1, [])] < miss s.v [] := h
    show 1 + miss s.v [(-1, [])] ≤ _
    omega
theorem itr_ok {s : Sch} (hs : s.Ok) : ∀ n, GF s (itr s n).1 ∧ ∀ x ∈ (itr s n).2, hasF (itr s n).1 x = true
  | 0 => ⟨gf_init hs, fun x hx => by
    obtain rfl : x = -1 := by simpa [itr] using hx
    rfl⟩
  | n + 1 => by
    obtain ⟨g, h⟩ := itr_ok hs n
    have q : GS s (itr s n).1 0 (rnd s (itr s n)) := GS.all hs ⟨g, fun _ h => h, nofun, Nat.le_refl _⟩ h
    exact ⟨q.g, q.nw⟩
theorem itr_ms {s : Sch} (hs : s.Ok) (n : Nat) : miss s.v (itr s (n + 1)).1 + (itr s (n + 1)).2.length ≤ miss s.v (itr s n).1 := by
  obtain ⟨g, h⟩ := itr_ok hs n
  have q : GS s (itr s n).1 0 (rnd s (itr s n)) := GS.all hs ⟨g, fun _ h => h, nofun, Nat.le_refl _⟩ h
  exact q.ms
theorem GF.len {s : Sch} (hs : s.Ok) {F : Fd} (g : GF s F) : F.length ≤ 5 := by
  have := g.cnt
  have := hs.v1
  omega
theorem itr_nl {s : Sch} (hs : s.Ok) (n : Nat) : (itr s n).2.length ≤ 5 ∧ ∀ x ∈ (itr s n).2, -1 ≤ x ∧ x < s.v := by
  have v1 := hs.v1
  refine ⟨?_, fun x hx => ?_⟩
  · cases n with
    | zero => show 1 ≤ 5; decide
    | succ n =>
      have h1 := itr_ms hs n
      have h2 := (itr_ok hs n).1.cnt
      omega
  · obtain ⟨w, _, h, _⟩ := hasF_mem ((itr_ok hs n).2 x hx)
    obtain ⟨a, b, _⟩ := (itr_ok hs n).1.lo _ h
    exact ⟨a, b⟩
def mea (s : Sch) (st : Fd × List Int) : Nat := 2 * miss s.v st.1 + if st.2 = [] then 0 else 1
theorem mea_lt {s : Sch} (hs : s.Ok) (n : Nat) (h : (itr s n).2 ≠ []) : mea s (itr s (n + 1)) < mea s (itr s n) := by
  have ms := itr_ms hs n
  unfold mea
  rw [if_neg h]
  split
  · omega
  · rename_i q
    have : 0 < (itr s (n + 1)).2.length := List.length_pos_iff.mpr q
    omega
/-! ### the dicts -/
def entG (g : List Int → D) (F : Fd) : List (D × D) := F.map fun e => (DL.D.int e.1, g e.2)
def gW (w : List Int) : D := .tup (w.map .int)
def gL (w : List Int) : D := .int w.length
theorem look_ent (g : List Int → D) (r : Int) : ∀ F : Fd, lookD (entG g F) (.inl r) = (F.find? fun e => e.1 == r).map fun e => g e.2
  | [] => rfl
  | e :: F => by
    have h : lookD (entG g (e :: F)) (.inl r) = if (Sum.inl e.1 : Key) = .inl r then some (g e.2) else lookD (entG g F) (.inl r) := lookD_cons (k' := .inl e.1)
    rw [h, List.find?_cons]
    by_cases c : e.1 = r
    · rw [if_pos (by rw [c]), show (e.1 == r) = true by simpa using c]
      rfl
    · rw [if_neg fun z => c (Sum.inl.inj z), show (e.1 == r) = false by simpa using c, look_ent g r F]
theorem find_any {α : Type} (p : α → Bool) (l : List α) : (l.find? p).isSome = l.any p := by
  rw [Bool.eq_iff_iff, List.find?_isSome, List.any_eq_true]
theorem some_ent (g : List Int → D) (r : Int) (F : Fd) : (lookD (entG g F) (.inl r)).isSome = hasF F r := by
  rw [look_ent, Option.isSome_map]
  unfold hasF
  rw [find_any]
theorem get_ent (g : List Int → D) {r : Int} {F : Fd} (h : hasF F r = true) : lookD (entG g F) (.inl r) = some (g (wayF F r)) := by
  obtain ⟨w, h1, _, h3⟩ := hasF_mem h
  rw [look_ent, h1, h3]
  rfl
theorem put_ent (g : List Int → D) {r : Int} {F : Fd} {w : List Int} (h : hasF F r = false) : putD (entG g F) (.inl r) (g w) = entG g (F ++ [(r, w)]) := by
  have no : ((entG g F).any fun p => decide (keyOf p.1 = some (.inl r))) = false := by
    have e : ((entG g F).any fun p => decide (keyOf p.1 = some (.inl r))) = (lookD (entG g F) (.inl r)).isSome := by
      unfold lookD
      rw [Option.isSome_map, find_any]
    rw [e, some_ent, h]
  unfold putD
  rw [if_neg (by rw [no]; exact Bool.false_ne_true)]
  unfold entG
  rw [List.map_append]
  rfl
theorem ent_len (g : List Int → D) (F : Fd) : (entG g F).length = F.length := List.length_map ..
/-! ### the moves -/
def mvD (s : Sch) (p : Int) : List D := s.wr.map fun a => .tup [.int a, .int (nxt s a p)]
def P_mv {K : PySem.W.Frag} : List D → Ct (penAmb K) := fun caps ds α Q => ∃ s p, caps = [Sch.d s] ∧ ds = [.int p] ∧ s.Ok ∧ -1 ≤ p ∧ p < s.v ∧ Q (.nw (.l (mvD s p))) α
theorem rd_mv {K : PySem.W.Frag} : ∀ caps d α (Qd : R → (penAmb K).S → Prop), P_mv caps [d] α Qd → wl__shortest_ways K P_effect (startB 3 (d :: caps), α) fun r E => Qd r.out E.2 := by
  rintro _ _ α Q ⟨s, p, rfl, e, hs, p0, p1, q⟩
  cases e
  have w1 := hs.w1
  refine ⟨_, rfl, _, rfl, fun i acc α' => α' = α ∧ acc = (s.wr.take i).map fun a => DL.D.tup [.int a, .int (nxt s a p)], ⟨rfl, rfl⟩, ?_, ?_⟩
  · rintro i d acc _ hd ⟨rfl, rfl⟩
    obtain ⟨a, ha, rfl⟩ := get_ints hd
    obtain ⟨a0, a1⟩ := hs.w a (List.mem_of_getElem? ha)
    obtain ⟨h1, h2, _, _⟩ := hs.tab.get a0 a1 p0 p1
    refine ⟨rfl, _, _, _, _, _, _, _, _, rfl, h1, h2, sz2, rfl, zlm (by rw [List.length_take]; omega), rfl, ?_⟩
    rw [List.take_add_one, ha, List.map_append]
    rfl
  · rintro acc _ ⟨rfl, rfl⟩
    rw [List.length_map, List.take_length]
    exact q
/-! ### the search -/
def P_sw {K : PySem.W.Frag} : Addr → Ct (penAmb K) → Ct (penAmb K) := fun f Cb ds α Q => ∃ s : Sch, ds = [.int (-1), .obj f] ∧ s.Ok ∧ (∀ p α' (Q' : R → (penAmb K).S → Prop), -1 ≤ p → p < s.v → Q' (.nw (.l (mvD s p))) α' → Cb [.int p] α' Q') ∧ ∀ F, Fin s F → GF s F → Q (.nw (.m (entG gW F))) α
theorem take_fold {α β : Type} {f : β → α → β} {z : β} {xs : List α} {i : Nat} {x : α} (h : xs[i]? = some x) : (xs.take (i + 1)).foldl f z = f ((xs.take i).foldl f z) x := by
  rw [List.take_add_one, h, List.foldl_append]
  rfl
theorem rd_sw {K : PySem.W.Frag} : ∀ (F0 : Hp) (f : Addr) (Cb : Ct (penAmb K)) ds α (Qd : R → (penAmb K).S → Prop), ds.length = 2 → P_sw f Cb ds α Qd → wb_shortest_walks K F0 f Cb (endsOf (M := subAmb (penAmb K) F0) Qd) (startB 8 ds, α) := by
  rintro F0 f Cb _ α Q _ ⟨s, rfl, hs, hcb, q⟩
  refine ⟨sz0, .inl (-1), rfl, sz1, ?_⟩
  refine ⟨fun m E => ∃ n b x4 x5 x6 x7, E = ([some (.d (.int (-1))), some (.d (.obj f)), some (.m (entG gW (itr s n).1)), some b, x4, x5, x6, x7], α) ∧ (b = .d (.lst ((itr s n).2.map .int)) ∨ b = .l ((itr s n).2.map .int)) ∧ m = mea s (itr s n), ⟨_, 0, _, none, none, none, none, rfl, .inr rfl, rfl⟩, ?_⟩
  rintro m _ ⟨n, b, x4, x5, x6, x7, rfl, hb, rfl⟩
  obtain ⟨g, hnw⟩ := itr_ok hs n
  have hl5 := g.len hs
  have hv1 := hs.v1
  have body : itr s n ≠ ((itr s n).1, []) → ∀ (b : B) (x5 x6 x7 : Option B), (b = .d (.lst ((itr s n).2.map .int)) ∨ b = .l ((itr s n).2.map .int)) → ∀ De : EndsD (subAmb (penAmb K) F0), (∀ x4 x5 x6 x7, De.nx ([some (.d (.int (-1))), some (.d (.obj f)), some (.m (entG gW (itr s (n + 1)).1)), some (.d (.lst ((itr s (n + 1)).2.map .int))), x4, x5, x6, x7], α)) →
      (wSeq (wFor (wSeqI (wVar 3)) (gN 5) (wFor (wSeqI (wCallC 1 f Cb (wCons (wVar 5) wNil))) (gTup 2 (gConss (gN 6) (gConss (gN 7) gNils))) (wIfS (wB (wOp (gDIn true) (wVar 7) (wVar 2))) (wSeq (wPutD 2 (wVar 7) (wOp gAdd (wOp gDGet (wVar 2) (wVar 5)) (wTup (wCons (wVar 6) wNil))))
    (wApp 4 (wVar 7))) wNext)))
    (wSet 3 (wVar 4))) De ([some (.d (.int (-1))), some (.d (.obj f)), some (.m (entG gW (itr s n).1)), some b, some (.l []), x5, x6, x7], α) := by
    intro _ b x5 x6 x7 hb De kx
    have Z0 : GS s (itr s n).1 0 ((itr s n).1, []) := ⟨g, fun _ h => h, nofun, Nat.le_refl _⟩
    have go : ∃ Inv : Nat → Env (subAmb (penAmb K) F0) → Prop, Inv 0 ([some (.d (.int (-1))), some (.d (.obj f)), some (.m (entG gW (itr s n).1)), some (.d (.lst ((itr s n).2.map .int))), some (.l []), x5, x6, x7], α) ∧
        (∀ i d E, ((itr s n).2.map DL.D.int)[i]? = some d → Inv i E → gN 5 d E fun E' => wFor (wSeqI (wCallC 1 f Cb (wCons (wVar 5) wNil))) (gTup 2 (gConss (gN 6) (gConss (gN 7) gNils))) (wIfS (wB (wOp (gDIn true) (wVar 7) (wVar 2))) (wSeq (wPutD 2 (wVar 7) (wOp gAdd (wOp gDGet (wVar 2) (wVar 5)) (wTup (wCons (wVar 6) wNil)))) (wApp 4 (wVar 7))) wNext) { nx := Inv (i + 1), rt := De.rt, bk := wSet 3 (wVar 4) De, ct := Inv (i + 1) } E') ∧
        ∀ E, Inv ((itr s n).2.map DL.D.int).length E → wSet 3 (wVar 4) De E := by
      refine ⟨fun i E => ∃ x5 x6 x7, E = ([some (.d (.int (-1))), some (.d (.obj f)), some (.m (entG gW (((itr s n).2.take i).foldl (visP s) ((itr s n).1, [])).1)), some (.d (.lst ((itr s n).2.map .int))), some (.l ((((itr s n).2.take i).foldl (visP s) ((itr s n).1, [])).2.map .int)), x5, x6, x7], α), ⟨x5, x6, x7, rfl⟩, ?_, ?_⟩
      · rintro i d _ hd ⟨x5, x6, x7, rfl⟩
        obtain ⟨p, hp, rfl⟩ := get_ints hd
        have hpn := hnw p (List.mem_of_getElem? hp)
        have Z1 : GS s (itr s n).1 0 (((itr s n).2.take i).foldl (visP s) ((itr s n).1, [])) := GS.all hs Z0 fun x hx => hnw x (List.mem_of_mem_take hx)
        obtain ⟨w0, _, hmem, _⟩ := hasF_mem hpn
        obtain ⟨p0, p1, _⟩ := g.lo _ hmem
        have p0 : -1 ≤ p := p0
        have p1 : p < s.v := p1
        refine ⟨rfl, rfl, hcb p _ _ p0 p1 ?_⟩
        refine ⟨_, rfl, fun j E => ∃ x6 x7, E = ([some (.d (.int (-1))), some (.d (.obj f)), some (.m (entG gW ((s.wr.take j).foldl (fun st a => vis p st a (nxt s a p)) (((itr s n).2.take i).foldl (visP s) ((itr s n).1, []))).1)), some (.d (.lst ((itr s n).2.map .int))), some (.l (((s.wr.take j).foldl (fun st a => vis p st a (nxt s a p)) (((itr s n).2.take i).foldl (visP s) ((itr s n).1, []))).2.map .int)), some (.d (.int p)), x6, x7], α), ⟨x6, x7, rfl⟩, ?_, ?_⟩
        · rintro j d _ hd ⟨x6, x7, rfl⟩
          obtain ⟨a, ha, rfl⟩ := get_map hd
          have ham := List.mem_of_getElem? ha
          have Z2 := GS.row (as := s.wr.take j) hs hpn Z1 fun x hx => List.mem_of_mem_take hx
          have Z3 := Z2.vis hs hpn ham
          obtain ⟨st, hst⟩ : ∃ st, st = (s.wr.take j).foldl (fun st a => vis p st a (nxt s a p)) (((itr s n).2.take i).foldl (visP s) ((itr s n).1, [])) := ⟨_, rfl⟩
          have hst' : (s.wr.take (j + 1)).foldl (fun st a => vis p st a (nxt s a p)) (((itr s n).2.take i).foldl (visP s) ((itr s n).1, [])) = vis p st a (nxt s a p) := by rw [take_fold (f := fun st a => vis p st a (nxt s a p)) ha, ← hst]
          rw [← hst] at Z2 Z3
          rw [← hst]
          clear hst
          obtain ⟨F, nw⟩ := st
          have hF := Z2.g.len hs
          have hms := Z2.ms
          have hcn := g.cnt
          have hnl : nw.length ≤ 5 := by
            have hms : miss s.v F + nw.length ≤ _ := hms
            omega
          refine ⟨rfl, rfl, .inl (nxt s a p), rfl, ?_⟩
          show (if (!(lookD (entG gW F) (.inl (nxt s a p))).isSome) = true then _ else _)
          rw [some_ent]
          cases hh : hasF F (nxt s a p) with
          | true =>
            have hv : vis p (F, nw) a (nxt s a p) = (F, nw) := if_pos hh
            rw [hv] at hst'
            refine ⟨some (.d (.int a)), some (.d (.int (nxt s a p))), ?_⟩
            rw [hst']
            rfl
          | false =>
            have hpF := Z2.up p hpn
            obtain ⟨w, _, hm, hw⟩ := hasF_mem hpF
            have hwl : w.length < F.length := (Z2.g.lo _ hm).2.2.2.2
            have hF : F.length ≤ 5 := hF
            refine ⟨.inl p, gW (wayF F p), rfl, get_ent gW hpF, sz1, zle (by rw [List.length_map, hw]; show w.length + 1 ≤ _; omega), .inl (nxt s a p), rfl, zlt (by rw [ent_len]; omega), ?_⟩
            refine ⟨zlm (by show nw.length ≤ _; omega), some (.d (.int a)), some (.d (.int (nxt s a p))), ?_⟩
            have e1 : putD (entG gW F) (.inl (nxt s a p)) (.tup ((wayF F p).map DL.D.int ++ [.int a])) = entG gW (F ++ [(nxt s a p, wayF F p ++ [a])]) := by
              rw [← put_ent gW hh]
              unfold gW
              rw [List.map_append]
              rfl
            have e2 : nw.map DL.D.int ++ [DL.D.int (nxt s a p)] = (nw ++ [nxt s a p]).map DL.D.int := by rw [List.map_append]; rfl
            show ((([_, _, some (.m (putD (entG gW F) (.inl (nxt s a p)) (.tup ((wayF F p).map DL.D.int ++ [.int a])))), _, some (.l (nw.map DL.D.int ++ [DL.D.int (nxt s a p)])), _, _, _] : List (Option B)), α) : Env (subAmb (penAmb K) F0)) = _
            have hv : vis p (F, nw) a (nxt s a p) = (F ++ [(nxt s a p, wayF F p ++ [a])], nw ++ [nxt s a p]) := if_neg (by rw [hh]; exact Bool.false_ne_true)
            rw [hv] at hst'
            rw [e1, e2, hst']
            rfl
        · rintro _ ⟨x6, x7, rfl⟩
          refine ⟨some (.d (.int p)), x6, x7, ?_⟩
          rw [take_fold hp]
          have lm : (mvD s p).length = s.wr.length := List.length_map ..
          rw [lm, List.take_length]
          rfl
      · rintro _ ⟨x5, x6, x7, rfl⟩
        rw [List.length_map, List.take_length]
        exact kx _ _ _ _
    rcases hb with rfl | rfl
    · exact ⟨_, rfl, go⟩
    · exact ⟨_, rfl, go⟩
  have fin : ((!((itr s n).2.map DL.D.int).isEmpty) = false) → Fin s (itr s n).1 := fun h => ⟨n, by
    have : (itr s n).2 = [] := by
      cases e : (itr s n).2 with
      | nil => rfl
      | cons a t => rw [e] at h; cases h
    rw [Prod.ext_iff]
    exact ⟨rfl, this⟩⟩
  have non : ((!((itr s n).2.map DL.D.int).isEmpty) = true) → (itr s n).2 ≠ [] := fun h e => by
    rw [e] at h
    cases h
  rcases hb with rfl | rfl
  · refine iteb (fun h => ?_) fun h => ?_
    · refine ⟨sz0, body (fun z => non h (Prod.mk.inj z).2) _ _ _ _ (.inl rfl) _ fun x4 x5 x6 x7 => ?_⟩
      exact ⟨mea s (itr s (n + 1)), mea_lt hs n (non h), n + 1, _, _, _, _, _, rfl, .inl rfl, rfl⟩
    · exact q _ (fin h) g
  · refine iteb (fun h => ?_) fun h => ?_
    · refine ⟨sz0, body (fun z => non h (Prod.mk.inj z).2) _ _ _ _ (.inr rfl) _ fun x4 x5 x6 x7 => ?_⟩
      exact ⟨mea s (itr s (n + 1)), mea_lt hs n (non h), n + 1, _, _, _, _, _, rfl, .inl rfl, rfl⟩
    · exact q _ (fin h) g
/-! ### reached, ways, way_to -/
def P_sws {K : PySem.W.Frag} : Ct (penAmb K) := fun ds α Q => ∃ s, ds = [Sch.d s] ∧ s.Ok ∧ ∀ F, Fin s F → GF s F → Q (.nw (.m (entG gW F))) α
theorem rd_sws {K : PySem.W.Frag} : ∀ ds α (Qd : R → (penAmb K).S → Prop), ds.length = 1 → P_sws ds α Qd → wb__shortest_ways K P_effect P_sw P_mv (endsOf Qd) (startB 1 ds, α) := by
  rintro _ α Q _ ⟨s, rfl, hs, q⟩
  exact ⟨[s.d], rfl, fun f => ⟨s, rfl, hs, fun p α' Q' p0 p1 q' => ⟨s, p, rfl, rfl, hs, p0, p1, q'⟩, fun F h g => q F h g⟩⟩
theorem GF.keys {s : Sch} (hs : s.Ok) {F : Fd} (g : GF s F) (f : List Int → D) : (entG f F).map (·.1) = (F.map (·.1)).map DL.D.int ∧ (F.map (·.1)).length < 64 := by
  refine ⟨?_, ?_⟩
  · unfold entG
    rw [List.map_map, List.map_map]
    rfl
  · rw [List.length_map]
    have := g.len hs
    omega
def P_reached {K : PySem.W.Frag} : Ct (penAmb K) := fun ds α Q => ∃ s, ds = [Sch.d s] ∧ s.Ok ∧ ∀ F (ns : List Int), Fin s F → GF s F → ns.Perm (F.map (·.1)) → ns.Pairwise (· ≤ ·) → Q (.nw (.l (ns.map .int))) α
theorem rd_reached {K : PySem.W.Frag} : ∀ ds α (Qd : R → (penAmb K).S → Prop), ds.length = 1 → P_reached ds α Qd → wb_reached K P_sws (endsOf Qd) (startB 1 ds, α) := by
  rintro _ α Q _ ⟨s, rfl, hs, q⟩
  refine ⟨rfl, s, rfl, hs, fun F h g => ?_⟩
  obtain ⟨k1, k2⟩ := g.keys hs gW
  exact ⟨F.map (·.1), k1, k2, fun ns pm pw => q F ns h g pm pw⟩
def P_ways {K : PySem.W.Frag} : Ct (penAmb K) := fun ds α Q => ∃ s, ds = [Sch.d s] ∧ s.Ok ∧ ∀ F, Fin s F → GF s F → Q (.nw (.m (entG gL F))) α
def wayD (F : Fd) (r : Int) : D := if hasF F r = true then gW (wayF F r) else .non
theorem wayD_get (F : Fd) (r : Int) : (lookD (entG gW F) (.inl r)).getD .non = wayD F r := by
  unfold wayD
  split
  · rename_i h
    rw [get_ent gW h]
    rfl
  · rename_i h
    have h : hasF F r = false := by simpa using h
    have e := some_ent gW r F
    rw [h] at e
    rw [Option.isSome_eq_false_iff, Option.isNone_iff_eq_none] at e
    rw [e]
    rfl
def P_wayto {K : PySem.W.Frag} : Ct (penAmb K) := fun ds α Q => ∃ s r, ds = [Sch.d s, .int r] ∧ s.Ok ∧ ∀ F, Fin s F → GF s F → Q (.fr (wayD F r)) α
/-! ### the law's own search -/
def P_lreach {K : PySem.W.Frag} : Ct (penAmb K) := fun ds α Q => ∃ s, ds = [Sch.d s] ∧ s.Ok ∧ ∀ F, Fin s F → GF s F → Q (.nw (.m (entG gL F))) α
theorem rd_lreach {K : PySem.W.Frag} : ∀ ds α (Qd : R → (penAmb K).S → Prop), ds.length = 1 → P_lreach ds α Qd → wb__law_reach K (endsOf Qd) (startB 7 ds, α) := by
  rintro _ α Q _ ⟨s, rfl, hs, q⟩
  refine ⟨.inl (-1), rfl, sz1, ?_⟩
  refine ⟨fun m E => ∃ n b x3 x4 x5 x6, E = ([some (.d s.d), some (.m (entG gL (itr s n).1)), some b, x3, x4, x5, x6], α) ∧ (b = .d (.lst ((itr s n).2.map .int)) ∨ b = .l ((itr s n).2.map .int)) ∧ m = mea s (itr s n), ⟨_, 0, _, none, none, none, none, rfl, .inr rfl, rfl⟩, ?_⟩
  rintro m _ ⟨n, b, x3, x4, x5, x6, rfl, hb, rfl⟩
  obtain ⟨g, hnw⟩ := itr_ok hs n
  have hl5 := g.len hs
  have hv1 := hs.v1
  obtain ⟨nl, nb⟩ := itr_nl hs n
  have gnw : (DL.D.lst ((itr s n).2.map .int)).okE = true := (gdl_ints (n := 5) (fun x hx => by have := nb x hx; omega) nl).okE (by decide)
  have body : ∀ (b : B) (x4 x5 x6 : Option B), (b = .d (.lst ((itr s n).2.map .int)) ∨ b = .l ((itr s n).2.map .int)) → ∀ De : EndsD (penAmb K), (∀ x3 x4 x5 x6, De.nx ([some (.d s.d), some (.m (entG gL (itr s (n + 1)).1)), some (.d (.lst ((itr s (n + 1)).2.map .int))), x3, x4, x5, x6], α)) →
      (wSeq (wFor (wSeqI (wVar 2)) (gN 4) (wFor (wSeqI (wOp gIx (wVar 0) (wC (.int 2)))) (gN 5) (wSeq (wSet 6 (wOp gIx (wOp gIx (wOp gIx (wVar 0) (wC (.int 1))) (wVar 5)) (wOp gAdd (wVar 4) (wC (.int 1)))))
    (wIfS (wB (wOp (gDIn true) (wVar 6) (wVar 1))) (wSeq (wPutD 1 (wVar 6) (wOp gAdd (wOp gDGet (wVar 1) (wVar 4)) (wC (.int 1))))
    (wApp 3 (wVar 6))) wNext))))
    (wSet 2 (wVar 3))) De ([some (.d s.d), some (.m (entG gL (itr s n).1)), some b, some (.l []), x4, x5, x6], α) := by
    intro b x4 x5 x6 hb De kx
    have Z0 : GS s (itr s n).1 0 ((itr s n).1, []) := ⟨g, fun _ h => h, nofun, Nat.le_refl _⟩
    have go : ∃ Inv : Nat → Env (penAmb K) → Prop, Inv 0 ([some (.d s.d), some (.m (entG gL (itr s n).1)), some (.d (.lst ((itr s n).2.map .int))), some (.l []), x4, x5, x6], α) ∧
        (∀ i d E, ((itr s n).2.map DL.D.int)[i]? = some d → Inv i E → gN 4 d E fun E' => wFor (wSeqI (wOp gIx (wVar 0) (wC (.int 2)))) (gN 5) (wSeq (wSet 6 (wOp gIx (wOp gIx (wOp gIx (wVar 0) (wC (.int 1))) (wVar 5)) (wOp gAdd (wVar 4) (wC (.int 1)))))
    (wIfS (wB (wOp (gDIn true) (wVar 6) (wVar 1))) (wSeq (wPutD 1 (wVar 6) (wOp gAdd (wOp gDGet (wVar 1) (wVar 4)) (wC (.int 1))))
    (wApp 3 (wVar 6))) wNext)) { nx := Inv (i + 1), rt := De.rt, bk := wSet 2 (wVar 3) De, ct := Inv (i + 1) } E') ∧
        ∀ E, Inv ((itr s n).2.map DL.D.int).length E → wSet 2 (wVar 3) De E := by
      refine ⟨fun i E => ∃ x4 x5 x6, E = ([some (.d s.d), some (.m (entG gL (((itr s n).2.take i).foldl (visP s) ((itr s n).1, [])).1)), some (.d (.lst ((itr s n).2.map .int))), some (.l ((((itr s n).2.take i).foldl (visP s) ((itr s n).1, [])).2.map .int)), x4, x5, x6], α), ⟨x4, x5, x6, rfl⟩, ?_, ?_⟩
      · rintro i d _ hd ⟨x4, x5, x6, rfl⟩
        obtain ⟨p, hp, rfl⟩ := get_ints hd
        have hpn := hnw p (List.mem_of_getElem? hp)
        have Z1 : GS s (itr s n).1 0 (((itr s n).2.take i).foldl (visP s) ((itr s n).1, [])) := GS.all hs Z0 fun x hx => hnw x (List.mem_of_mem_take hx)
        obtain ⟨w0, _, hmem, _⟩ := hasF_mem hpn
        obtain ⟨p0, p1, _⟩ := g.lo _ hmem
        have p0 : -1 ≤ p := p0
        have p1 : p < s.v := p1
        refine ⟨_, rfl, _, rfl, fun j E => ∃ x5 x6, E = ([some (.d s.d), some (.m (entG gL ((s.wr.take j).foldl (fun st a => vis p st a (nxt s a p)) (((itr s n).2.take i).foldl (visP s) ((itr s n).1, []))).1)), some (.d (.lst ((itr s n).2.map .int))), some (.l (((s.wr.take j).foldl (fun st a => vis p st a (nxt s a p)) (((itr s n).2.take i).foldl (visP s) ((itr s n).1, []))).2.map .int)), some (.d (.int p)), x5, x6], α), ⟨x5, x6, rfl⟩, ?_, ?_⟩
        · rintro j d _ hd ⟨x5, x6, rfl⟩
          obtain ⟨a, ha, rfl⟩ := get_ints hd
          have ham := List.mem_of_getElem? ha
          obtain ⟨a0, a1⟩ := hs.w a ham
          obtain ⟨t1, t2, _, _⟩ := hs.tab.get a0 a1 p0 p1
          have Z2 := GS.row (as := s.wr.take j) hs hpn Z1 fun x hx => List.mem_of_mem_take hx
          have Z3 := Z2.vis hs hpn ham
          obtain ⟨st, hst⟩ : ∃ st, st = (s.wr.take j).foldl (fun st a => vis p st a (nxt s a p)) (((itr s n).2.take i).foldl (visP s) ((itr s n).1, [])) := ⟨_, rfl⟩
          have hst' : (s.wr.take (j + 1)).foldl (fun st a => vis p st a (nxt s a p)) (((itr s n).2.take i).foldl (visP s) ((itr s n).1, [])) = vis p st a (nxt s a p) := by rw [take_fold (f := fun st a => vis p st a (nxt s a p)) ha, ← hst]
          rw [← hst] at Z2 Z3
          rw [← hst]
          clear hst
          obtain ⟨F, nw⟩ := st
          have hF := Z2.g.len hs
          have hms := Z2.ms
          have hcn := g.cnt
          have hnl : nw.length ≤ 5 := by
            have hms : miss s.v F + nw.length ≤ _ := hms
            omega
          refine ⟨_, rfl, _, t1, _, t2, .inl (nxt s a p), rfl, ?_⟩
          show (if (!(lookD (entG gL F) (.inl (nxt s a p))).isSome) = true then _ else _)
          rw [some_ent]
          cases hh : hasF F (nxt s a p) with
          | true =>
            have hv : vis p (F, nw) a (nxt s a p) = (F, nw) := if_pos hh
            rw [hv] at hst'
            refine ⟨some (.d (.int a)), some (.d (.int (nxt s a p))), ?_⟩
            rw [hst']
            rfl
          | false =>
            have hpF := Z2.up p hpn
            have hF : F.length ≤ 5 := hF
            refine ⟨.inl p, gL (wayF F p), rfl, get_ent gL hpF, .inl (nxt s a p), rfl, zlt (by rw [ent_len]; omega), ?_⟩
            refine ⟨zlm (by show nw.length ≤ _; omega), some (.d (.int a)), some (.d (.int (nxt s a p))), ?_⟩
            have e1 : putD (entG gL F) (.inl (nxt s a p)) (.int ((wayF F p).length + 1)) = entG gL (F ++ [(nxt s a p, wayF F p ++ [a])]) := by
              rw [← put_ent gL hh]
              unfold gL
              rw [List.length_append]
              rfl
            have e2 : nw.map DL.D.int ++ [DL.D.int (nxt s a p)] = (nw ++ [nxt s a p]).map DL.D.int := by rw [List.map_append]; rfl
            show ((([_, some (.m (putD (entG gL F) (.inl (nxt s a p)) (.int ((wayF F p).length + 1)))), _, some (.l (nw.map DL.D.int ++ [DL.D.int (nxt s a p)])), _, _, _] : List (Option B)), α) : Env (penAmb K)) = _
            have hv : vis p (F, nw) a (nxt s a p) = (F ++ [(nxt s a p, wayF F p ++ [a])], nw ++ [nxt s a p]) := if_neg (by rw [hh]; exact Bool.false_ne_true)
            rw [hv] at hst'
            rw [e1, e2, hst']
            rfl
        · rintro _ ⟨x5, x6, rfl⟩
          refine ⟨some (.d (.int p)), x5, x6, ?_⟩
          rw [take_fold hp, List.length_map, List.take_length]
          rfl
      · rintro _ ⟨x4, x5, x6, rfl⟩
        rw [List.length_map, List.take_length]
        exact kx _ _ _ _
    rcases hb with rfl | rfl
    · exact ⟨_, rfl, go⟩
    · exact ⟨_, rfl, go⟩
  have en : ∀ h : Bool, (!(DL.D.lst ((itr s n).2.map .int)).eqv (.lst [])) = h → (if h = true then (itr s n).2 ≠ [] else Fin s (itr s n).1) := by
    intro h e
    cases c : (itr s n).2 with
    | nil =>
      rw [c] at e
      have : h = false := by rw [← e]; rfl
      rw [this, if_neg Bool.false_ne_true]
      exact ⟨n, by rw [Prod.ext_iff]; exact ⟨rfl, c⟩⟩
    | cons a t =>
      rw [c] at e
      have : h = true := by rw [← e]; rfl
      rw [this, if_pos rfl]
      exact nofun
  rcases hb with rfl | rfl
  · refine ⟨sz0, gnw, rfl, iteb (fun h => ?_) fun h => ?_⟩
    · have non := en _ h
      rw [if_pos rfl] at non
      refine ⟨sz0, body _ _ _ _ (.inl rfl) _ fun x3 x4 x5 x6 => ?_⟩
      exact ⟨mea s (itr s (n + 1)), mea_lt hs n non, n + 1, _, _, _, _, _, rfl, .inl rfl, rfl⟩
    · have fin := en _ h
      rw [if_neg Bool.false_ne_true] at fin
      exact q _ fin g
  · refine ⟨sz0, gnw, rfl, iteb (fun h => ?_) fun h => ?_⟩
    · have non := en _ h
      rw [if_pos rfl] at non
      refine ⟨sz0, body _ _ _ _ (.inr rfl) _ fun x3 x4 x5 x6 => ?_⟩
      exact ⟨mea s (itr s (n + 1)), mea_lt hs n non, n + 1, _, _, _, _, _, rfl, .inl rfl, rfl⟩
    · have fin := en _ h
      rw [if_neg Bool.false_ne_true] at fin
      exact q _ fin g

end DL
set_option maxHeartbeats 4000000
namespace DL
open PySem PySem.Spec L2
open PyProof.Rows hiding St
def isIn (lo hi : Int) : D → Bool
  | .int i => decide (lo ≤ i) && decide (i ≤ hi)
  | _ => false
def P_sa {K : PySem.W.Frag} : Ct (penAmb K) := fun ds α Q => ∃ (v : Int) (effs : List (List Int)) (x0 x2 x3 : D) (row : List Int) (s : Int), ds = [.tup [x0, .tup (effs.map eff), x2, x3], .int s, eff row] ∧ Tab v effs ∧ (∀ a ∈ row, 0 ≤ a ∧ a < effs.length) ∧ -1 ≤ s ∧ s < v ∧ Q (.fr (.int (foldE effs row s))) α
theorem rd_sa {K : PySem.W.Frag} : ∀ ds α (Qd : R → (penAmb K).S → Prop), ds.length = 3 → P_sa ds α Qd → wb_state_after K P_effect (endsOf Qd) (startB 5 ds, α) := by
  rintro _ α Q _ ⟨v, effs, x0, x2, x3, row, s, rfl, T, hr, s0, s1, q⟩
  refine ⟨_, rfl, fun i E => ∃ x, E = ([some (.d (.tup [x0, .tup (effs.map eff), x2, x3])), some (.d (.int s)), some (.d (eff row)), some (.d (.int (foldE effs (row.take i) s))), x], α), ⟨none, rfl⟩, ?_, ?_⟩
  · rintro i d _ hd ⟨x, rfl⟩
    obtain ⟨a, ha, rfl⟩ := get_ints hd
    obtain ⟨a0, a1⟩ := hr a (List.mem_of_getElem? ha)
    obtain ⟨f0, f1⟩ := T.fold (row := row.take i) (fun b hb => hr b (List.mem_of_mem_take hb)) s0 s1
    obtain ⟨h1, h2, h3, h4⟩ := T.get a0 a1 f0 f1
    refine ⟨rfl, _, _, _, _, _, _, _, _, rfl, h1, h2, some (.d (.int a)), ?_⟩
    rw [fold_snoc effs row i a ha s]
    rfl
  · rintro _ ⟨x, rfl⟩
    rw [List.length_map, List.take_length]
    exact q
def P_lii {K : PySem.W.Frag} : Ct (penAmb K) := fun ds α Q => ∃ d lo hi, ds = [d, .int lo, .int hi] ∧ (∀ a, d ≠ .obj a) ∧ Q (.fr (.bl (isIn lo hi d))) α
theorem rd_lii {K : PySem.W.Frag} : ∀ ds α (Qd : R → (penAmb K).S → Prop), ds.length = 3 → P_lii ds α Qd → wb__law_is_int K (endsOf Qd) (startB 3 ds, α) := by
  rintro _ α Q _ ⟨d, lo, hi, rfl, hd, q⟩
  cases d with
  | int i =>
    refine ⟨hd, hd, iteB (fun h => ?_) fun h => ?_⟩
    · have e : isIn lo hi (.int i) = decide (i ≤ hi) := by
        show (decide (lo ≤ i) && _) = _
        rw [decide_eq_true h, Bool.true_and]
      rw [e] at q
      exact q
    · have e : isIn lo hi (.int i) = false := by
        show (decide (lo ≤ i) && _) = _
        rw [decide_eq_false h, Bool.false_and]
      rw [e] at q
      exact q
  | bl b => exact ⟨hd, hd, q⟩
  | obj a => exact absurd rfl (hd a)
  | _ => exact ⟨hd, q⟩

end DL
set_option maxHeartbeats 4000000
namespace DL
open PySem PySem.Spec L2
open PyProof.Rows hiding St
/-! ### a search, a place at a time, in the order in which the places are found -/
structure Gr where
  mv : List Int → List Int
  nx : List Int → Int → List Int
  x0 : List Int
abbrev Fq := List (List Int × List Int)
def hasQ (F : Fq) (r : List Int) : Bool := F.any fun e => e.1 == r
def wayQ (F : Fq) (r : List Int) : List Int := ((F.find? fun e => e.1 == r).map (·.2)).getD []
def Gr.put (g : Gr) (p : List Int) (F : Fq) (a : Int) : Fq := if hasQ F (g.nx p a) = true then F else F ++ [(g.nx p a, wayQ F p ++ [a])]
def Gr.proc (g : Gr) (F : Fq) (p : List Int) : Fq := (g.mv p).foldl (g.put p) F
def Gr.q (g : Gr) : Nat → Fq
  | 0 => [(g.x0, [])]
  | n + 1 => match (g.q n)[n]? with
    | some e => g.proc (g.q n) e.1
    | none => g.q n
inductive Gr.Lead (g : Gr) (x : List Int) : List Int → List Int → Prop where
  | nil : Gr.Lead g x [] x
  | snoc {w y : List Int} {a : Int} : Gr.Lead g x w y → a ∈ g.mv y → Gr.Lead g x (w ++ [a]) (g.nx y a)
theorem hasQ_snoc {F : Fq} {e : List Int × List Int} {r : List Int} : hasQ (F ++ [e]) r = (hasQ F r || (e.1 == r)) := by
  unfold hasQ
  rw [List.any_append]
  simp
theorem hasQ_mem {F : Fq} {r : List Int} (h : hasQ F r = true) : ∃ w, F.find? (fun e => e.1 == r) = some (r, w) ∧ (r, w) ∈ F ∧ wayQ F r = w := by
  obtain ⟨e, he, q⟩ := List.any_eq_true.mp h
  cases f : F.find? fun e => e.1 == r with
  | none => exact absurd q (by simpa using List.find?_eq_none.mp f e he)
  | some y =>
    have h1 := List.find?_some f
    have h1 : y.1 = r := by simpa using h1
    have h2 := List.mem_of_find?_eq_some f
    refine ⟨y.2, ?_, ?_, ?_⟩
    · rw [← h1]
    · rw [← h1]; exact h2
    · unfold wayQ
      rw [f]
      rfl
theorem mem_hasQ {F : Fq} {e : List Int × List Int} (h : e ∈ F) : hasQ F e.1 = true := List.any_eq_true.mpr ⟨e, h, by simp⟩
structure GQ (g : Gr) (U : List (List Int)) (F : Fq) : Prop where
  u : ∀ e ∈ F, e.1 ∈ U
  w : ∀ e ∈ F, g.Lead g.x0 e.2 e.1 ∧ e.2.length < F.length
  nd : F.Pairwise fun a b => a.1 ≠ b.1
  ne : F ≠ []
structure ClG (g : Gr) (U : List (List Int)) : Prop where
  s : g.x0 ∈ U
  c : ∀ x ∈ U, ∀ a ∈ g.mv x, g.nx x a ∈ U
theorem nd_sub : ∀ {l U : List (List Int)}, l.Pairwise (fun a b => a ≠ b) → (∀ x ∈ l, x ∈ U) → l.length ≤ U.length
  | [], _, _, _ => Nat.zero_le _
  | x :: l, U, h, hs => by
    obtain ⟨h1, h2⟩ := List.pairwise_cons.mp h
    have hx := hs x (List.mem_cons_self ..)
    have h3 : ∀ y ∈ l, y ∈ U.erase x := fun y hy => by
      rw [List.mem_erase_of_ne fun e => h1 y hy e.symm]
      exact hs y (List.mem_cons_of_mem _ hy)
    have := nd_sub h2 h3
    rw [List.length_erase_of_mem hx] at this
    have : 0 < U.length := List.length_pos_of_mem hx
    rw [List.length_cons]
    omega
theorem GQ.len {g : Gr} {U : List (List Int)} {F : Fq} (h : GQ g U F) : F.length ≤ U.length := by
  have := nd_sub (l := F.map (·.1)) (U := U) (List.pairwise_map.mpr h.nd) fun x hx => by
    obtain ⟨e, he, rfl⟩ := List.mem_map.mp hx
    exact h.u e he
  rwa [List.length_map] at this
theorem GQ.put {g : Gr} {U : List (List Int)} (c : ClG g U) {F : Fq} (h : GQ g U F) {p : List Int} {a : Int} (hp : hasQ F p = true) (ha : a ∈ g.mv p) : GQ g U (g.put p F a) := by
  unfold Gr.put
  split
  · exact h
  · rename_i hh
    have hh : hasQ F (g.nx p a) = false := by simpa using hh
    obtain ⟨w, h1, h2, h3⟩ := hasQ_mem hp
    refine ⟨fun e he => ?_, fun e he => ?_, List.pairwise_append.mpr ⟨h.nd, List.pairwise_singleton _ _, fun e he y hy => ?_⟩, by simp⟩
    · rcases List.mem_append.mp he with he | he
      · exact h.u e he
      · rw [List.mem_singleton.mp he]
        exact c.c p (h.u _ h2) a ha
    · rw [List.length_append, List.length_singleton]
      rcases List.mem_append.mp he with he | he
      · exact ⟨(h.w e he).1, Nat.lt_succ_of_lt (h.w e he).2⟩
      · rw [List.mem_singleton.mp he]
        obtain ⟨l1, l2⟩ := h.w _ h2
        refine ⟨by rw [h3]; exact .snoc l1 ha, ?_⟩
        show (wayQ F p ++ [a]).length < _
        rw [h3, List.length_append, List.length_singleton]
        exact Nat.succ_lt_succ l2
    · rw [List.mem_singleton.mp hy]
      intro z
      have : hasQ F (g.nx p a) = true := List.any_eq_true.mpr ⟨e, he, by simpa using z⟩
      rw [hh] at this
      cases this
theorem put_has {g : Gr} {p : List Int} {F : Fq} {a : Int} : (∀ r, hasQ F r = true → hasQ (g.put p F a) r = true) ∧ hasQ (g.put p F a) (g.nx p a) = true ∧ ∃ G, g.put p F a = F ++ G := by
  unfold Gr.put
  split
  · rename_i h
    exact ⟨fun _ h => h, h, [], by simp⟩
  · exact ⟨fun r h => by rw [hasQ_snoc, h]; rfl, by rw [hasQ_snoc]; simp, _, rfl⟩
theorem fold_has {g : Gr} {p : List Int} : ∀ {as : List Int} {F : Fq}, (∀ r, hasQ F r = true → hasQ (as.foldl (g.put p) F) r = true) ∧ (∀ a ∈ as, hasQ (as.foldl (g.put p) F) (g.nx p a) = true) ∧ ∃ G, as.foldl (g.put p) F = F ++ G
  | [], F => ⟨fun _ h => h, nofun, [], by simp⟩
  | a :: as, F => by
    obtain ⟨h1, h2, G, h3⟩ := put_has (g := g) (p := p) (F := F) (a := a)
    obtain ⟨k1, k2, G2, k3⟩ := fold_has (g := g) (p := p) (as := as) (F := g.put p F a)
    refine ⟨fun r h => k1 r (h1 r h), fun b hb => ?_, G ++ G2, ?_⟩
    · rcases List.mem_cons.mp hb with rfl | hb
      · exact k1 _ h2
      · exact k2 b hb
    · rw [List.foldl_cons, k3, h3, List.append_assoc]
theorem GQ.fold {g : Gr} {U : List (List Int)} (c : ClG g U) {p : List Int} : ∀ {as : List Int} {F : Fq}, GQ g U F → hasQ F p = true → (∀ a ∈ as, a ∈ g.mv p) → GQ g U (as.foldl (g.put p) F)
  | [], _, h, _, _ => h
  | a :: as, F, h, hp, ha => GQ.fold c (as := as) (h.put c hp (ha a (List.mem_cons_self ..))) (put_has.1 _ hp) fun b hb => ha b (List.mem_cons_of_mem _ hb)
theorem q_succ {g : Gr} {n : Nat} {e : List Int × List Int} (h : (g.q n)[n]? = some e) : g.q (n + 1) = g.proc (g.q n) e.1 := by
  show (match (g.q n)[n]? with | some e => _ | none => _) = _
  rw [h]
theorem q_stop {g : Gr} {n : Nat} (h : (g.q n).length ≤ n) : g.q (n + 1) = g.q n := by
  show (match (g.q n)[n]? with | some e => _ | none => _) = _
  rw [List.getElem?_eq_none h]
theorem q_ok {g : Gr} {U : List (List Int)} (c : ClG g U) : ∀ n, GQ g U (g.q n)
  | 0 => ⟨fun e he => by rw [List.mem_singleton.mp he]; exact c.s, fun e he => by rw [List.mem_singleton.mp he]; exact ⟨.nil, Nat.zero_lt_one⟩, List.pairwise_singleton _ _, nofun⟩
  | n + 1 => by
    have h := q_ok c n
    cases e : (g.q n)[n]? with
    | none =>
      rw [q_stop (List.getElem?_eq_none_iff.mp e)]
      exact h
    | some y =>
      rw [q_succ e]
      exact h.fold c (mem_hasQ (List.mem_of_getElem? e)) fun _ h => h
theorem q_app {g : Gr} (n : Nat) : ∃ G, g.q (n + 1) = g.q n ++ G := by
  cases e : (g.q n)[n]? with
  | none => exact ⟨[], by rw [q_stop (List.getElem?_eq_none_iff.mp e), List.append_nil]⟩
  | some y =>
    rw [q_succ e]
    exact fold_has.2.2
def Gr.End (g : Gr) (F : Fq) : Prop := ∃ n, g.q n = F ∧ F.length ≤ n
theorem q_end {g : Gr} {n : Nat} (h : (g.q n).length ≤ n) : ∀ k, g.q (n + k) = g.q n
  | 0 => rfl
  | k + 1 => by
    have ih := q_end h k
    rw [Nat.add_succ, q_stop (by rw [ih]; omega), ih]
theorem End.uniq {g : Gr} {F G : Fq} (h : g.End F) (h' : g.End G) : F = G := by
  obtain ⟨n, e, l⟩ := h
  obtain ⟨m, e', l'⟩ := h'
  rcases Nat.le_total n m with c | c
  · obtain ⟨k, rfl⟩ := Nat.exists_eq_add_of_le c
    rw [q_end (by rw [e]; exact l), e] at e'
    exact e'
  · obtain ⟨k, rfl⟩ := Nat.exists_eq_add_of_le c
    rw [q_end (by rw [e']; exact l'), e'] at e
    exact e.symm
theorem q_grow {g : Gr} {n : Nat} : ∀ {k : Nat}, (∀ r, hasQ (g.q n) r = true → hasQ (g.q (n + k)) r = true)
  | 0 => fun _ h => h
  | k + 1 => fun r h => by
    obtain ⟨G, e⟩ := q_app (g := g) (n + k)
    have := q_grow (k := k) r h
    rw [show n + (k + 1) = n + k + 1 by omega, e]
    unfold hasQ at *
    rw [List.any_append, this]
    rfl
theorem q_pre {g : Gr} {n : Nat} : ∀ {k : Nat}, ∃ G, g.q (n + k) = g.q n ++ G
  | 0 => ⟨[], by simp⟩
  | k + 1 => by
    obtain ⟨G, e⟩ := q_app (g := g) (n + k)
    obtain ⟨G2, e2⟩ := q_pre (g := g) (n := n) (k := k)
    exact ⟨G2 ++ G, by rw [show n + (k + 1) = n + k + 1 by omega, e, e2, List.append_assoc]⟩
theorem End.closed {g : Gr} {F : Fq} (h : g.End F) {e : List Int × List Int} (he : e ∈ F) {a : Int} (ha : a ∈ g.mv e.1) : hasQ F (g.nx e.1 a) = true := by
  obtain ⟨n, e1, l⟩ := h
  obtain ⟨i, hi⟩ := List.getElem?_of_mem he
  have hl := (List.getElem?_eq_some_iff.mp hi).1
  have hn : i < n := by omega
  obtain ⟨k, rfl⟩ := Nat.exists_eq_add_of_lt hn
  -- entry i is there when it is looked at
  have hq : (g.q i)[i]? = some e := by
    obtain ⟨G, e2⟩ := q_pre (g := g) (n := i) (k := k + 1)
    have e3 : F = g.q i ++ G := by rw [← e1, ← e2]; rfl
    by_cases c : i < (g.q i).length
    · rw [e3, List.getElem?_append_left c] at hi
      exact hi
    · exfalso
      have := q_end (g := g) (n := i) (by omega) (k + 1)
      have e4 : F = g.q i := by rw [← e1, ← this]; rfl
      rw [e4] at hl
      omega
  have h1 := (fold_has (g := g) (p := e.1) (as := g.mv e.1) (F := g.q i)).2.1 a ha
  have h2 : hasQ (g.q (i + 1)) (g.nx e.1 a) = true := by rw [q_succ hq]; exact h1
  have h3 := q_grow (g := g) (n := i + 1) (k := k) _ h2
  rw [← e1, show i + k + 1 = i + 1 + k by omega]
  exact h3
theorem q_start {g : Gr} : ∀ n, ∃ G, g.q n = (g.x0, []) :: G
  | 0 => ⟨[], rfl⟩
  | n + 1 => by
    obtain ⟨G, e⟩ := q_app (g := g) n
    obtain ⟨G2, e2⟩ := q_start (g := g) n
    exact ⟨G2 ++ G, by rw [e, e2]; rfl⟩
/-! ### the dicts of what is found -/
theorem zlt2 {n : Nat} (h : n ≤ 16000000) : n < sizeLine := by
  show n < 2 ^ 24
  omega
theorem zle2 {n : Nat} (h : n ≤ 16000000) : n ≤ sizeLine := Nat.le_of_lt (zlt2 h)
theorem zlm2 {α : Type} {f : α → DL.D} {xs : List α} (h : xs.length ≤ 16000000) : (xs.map f).length < sizeLine := by rw [List.length_map]; exact zlt2 h
def tk (x : List Int) : List Key := x.map Sum.inl
theorem tkey_eff (x : List Int) : tkeyOf (eff x) = some (tk x) := by
  have h := tkey_tk (tk x)
  unfold tk at *
  rw [List.map_map] at h
  exact h
theorem tk_inj {x y : List Int} (h : tk x = tk y) : x = y := by
  induction x generalizing y with
  | nil => cases y with
    | nil => rfl
    | cons b y => cases h
  | cons a x ih => cases y with
    | nil => cases h
    | cons b y =>
      unfold tk at h
      rw [List.map_cons, List.map_cons] at h
      injection h with h1 h2
      injection h1 with h1
      rw [h1, ih h2]
def entQ (f : List Int → D) (F : Fq) : List (D × D) := F.map fun e => (eff e.1, f e.2)
theorem dec_tk (x r : List Int) : decide (tkeyOf (eff x) = some (tk r)) = (x == r) := by
  rw [tkey_eff]
  by_cases h : x = r
  · subst h; simp
  · have h1 : (x == r) = false := by simpa using h
    rw [h1]
    exact decide_eq_false fun z => h (tk_inj (Option.some.inj z))
theorem look_q (f : List Int → D) (r : List Int) : ∀ F : Fq, lookT (entQ f F) (tk r) = (F.find? fun e => e.1 == r).map fun e => f e.2
  | [] => rfl
  | e :: F => by
    have ih := look_q f r F
    unfold lookT entQ at *
    rw [List.map_cons, List.find?_cons, List.find?_cons]
    show Option.map _ (match decide (tkeyOf (eff e.1) = some (tk r)) with | true => _ | false => _) = _
    rw [dec_tk]
    cases (e.1 == r) with
    | true => rfl
    | false => exact ih
theorem some_q (f : List Int → D) (r : List Int) (F : Fq) : (lookT (entQ f F) (tk r)).isSome = hasQ F r := by
  rw [look_q, Option.isSome_map]
  unfold hasQ
  rw [find_any]
theorem get_q (f : List Int → D) {r : List Int} {F : Fq} (h : hasQ F r = true) : lookT (entQ f F) (tk r) = some (f (wayQ F r)) := by
  obtain ⟨w, h1, _, h3⟩ := hasQ_mem h
  rw [look_q, h1, h3]
  rfl
theorem none_q (f : List Int → D) {r : List Int} {F : Fq} (h : hasQ F r = false) : lookT (entQ f F) (tk r) = none := by
  have := some_q f r F
  rw [h] at this
  simpa using this
theorem tkD_eff (x : List Int) : tkD (tk x) = eff x := by
  show DL.D.tup ((x.map Sum.inl).map keyD) = _
  rw [List.map_map]
  rfl
theorem put_q (f : List Int → D) {r : List Int} {F : Fq} {w : List Int} (h : hasQ F r = false) : putT (entQ f F) (tk r) (f w) = entQ f (F ++ [(r, w)]) := by
  have no : ((entQ f F).any fun p => decide (tkeyOf p.1 = some (tk r))) = false := by
    have e : ((entQ f F).any fun p => decide (tkeyOf p.1 = some (tk r))) = (lookT (entQ f F) (tk r)).isSome := by
      unfold lookT
      rw [Option.isSome_map, find_any]
    rw [e, some_q, h]
  unfold putT
  rw [if_neg (by rw [no]; exact Bool.false_ne_true)]
  unfold entQ
  rw [List.map_append, tkD_eff]
  rfl
theorem entQ_len (f : List Int → D) (F : Fq) : (entQ f F).length = F.length := List.length_map ..
theorem entQ_keys (f : List Int → D) (F : Fq) : keyDs (entQ f F) = F.map fun e => eff e.1 := by
  unfold keyDs entQ
  rw [List.map_map]
  rfl
def newD (F : Fq) (k : Nat) : List D := (F.drop k).map fun e => eff e.1
theorem newD_at {F : Fq} {k i : Nat} {d : D} (h : (newD F k)[i]? = some d) : ∃ e, F[k + i]? = some e ∧ d = eff e.1 := by
  unfold newD at h
  obtain ⟨e, he, rfl⟩ := get_map h
  rw [List.getElem?_drop] at he
  exact ⟨e, he, rfl⟩
theorem newD_len (F : Fq) (k : Nat) : (newD F k).length = F.length - k := by
  unfold newD
  rw [List.length_map, List.length_drop]
theorem newD_snoc {F : Fq} {k : Nat} {e : List Int × List Int} (h : k ≤ F.length) : newD F k ++ [eff e.1] = newD (F ++ [e]) k := by
  unfold newD
  rw [List.drop_append_of_le_length h, List.map_append]
  rfl
/-! ### the search of the package -/
def mvQ (g : Gr) (x : List Int) : List D := (g.mv x).map fun a => .tup [.int a, eff (g.nx x a)]
def P_swq {K : PySem.W.Frag} : Addr → Ct (penAmb K) → Ct (penAmb K) := fun f Cb ds α Q => ∃ (g : Gr) (U : List (List Int)), ds = [eff g.x0, .obj f] ∧ ClG g U ∧ U.length ≤ 900000 ∧
  (∀ x ∈ U, ∀ α' (Q' : R → (penAmb K).S → Prop), Q' (.nw (.l (mvQ g x))) α' → Cb [eff x] α' Q') ∧ ∀ F, g.End F → GQ g U F → Q (.nw (.mT (entQ gW F))) α
theorem rd_swq {K : PySem.W.Frag} : ∀ (F0 : Hp) (f : Addr) (Cb : Ct (penAmb K)) ds α (Qd : R → (penAmb K).S → Prop), ds.length = 2 → P_swq f Cb ds α Qd → wb_shortest_walks_T K F0 f Cb (endsOf (M := subAmb (penAmb K) F0) Qd) (startB 8 ds, α) := by
  rintro F0 f Cb _ α Q _ ⟨g, U, rfl, c, hU, hcb, q⟩
  refine ⟨sz0, tk g.x0, tkey_eff _, sz1, ?_⟩
  have e0 : (some (.m []) : Option B) = some (.m []) := rfl
  refine ⟨fun m E => ∃ n b x4 x5 x6 x7, E = ([some (.d (eff g.x0)), some (.d (.obj f)), some (.mT (entQ gW (g.q n))), some b, x4, x5, x6, x7], α) ∧ (b = .d (.lst (newD (g.q n) n)) ∨ b = .l (newD (g.q n) n)) ∧ m = U.length - n, ⟨_, 0, .l (newD (g.q 0) 0), none, none, none, none, ?_, .inr rfl, rfl⟩, ?_⟩
  · show _ = ([some (B.d (eff g.x0)), some (B.d (.obj f)), some (B.mT [(eff g.x0, .tup [])]), some (B.l [eff g.x0]), none, none, none, none], α)
    rw [← tkD_eff]
    rfl
  rintro m _ ⟨n, b, x4, x5, x6, x7, rfl, hb, rfl⟩
  have gq := q_ok c n
  have hl := gq.len
  have body : (g.q n).length > n → ∀ (b : B) (x5 x6 x7 : Option B), (b = .d (.lst (newD (g.q n) n)) ∨ b = .l (newD (g.q n) n)) → ∀ De : EndsD (subAmb (penAmb K) F0), (∀ x4 x5 x6 x7, De.nx ([some (.d (eff g.x0)), some (.d (.obj f)), some (.mT (entQ gW (g.q (g.q n).length))), some (.d (.lst (newD (g.q (g.q n).length) (g.q n).length))), x4, x5, x6, x7], α)) →
      (wSeq (wFor (wSeqI (wVar 3)) (gN 5) (wFor (wSeqI (wCallC 1 f Cb (wCons (wVar 5) wNil))) (gTup 2 (gConss (gN 6) (gConss (gN 7) gNils))) (wIfS (wB (wOp (gDInT true) (wVar 7) (wVar 2))) (wSeq (wPutT 2 (wVar 7) (wOp gAdd (wOp gDGetT (wVar 2) (wVar 5)) (wTup (wCons (wVar 6) wNil))))
    (wApp 4 (wVar 7))) wNext)))
    (wSet 3 (wVar 4))) De ([some (.d (eff g.x0)), some (.d (.obj f)), some (.mT (entQ gW (g.q n))), some b, some (.l []), x5, x6, x7], α) := by
    intro hn b x5 x6 x7 hb De kx
    have go : ∃ Inv : Nat → Env (subAmb (penAmb K) F0) → Prop, Inv 0 ([some (.d (eff g.x0)), some (.d (.obj f)), some (.mT (entQ gW (g.q n))), some (.d (.lst (newD (g.q n) n))), some (.l []), x5, x6, x7], α) ∧
        (∀ i d E, (newD (g.q n) n)[i]? = some d → Inv i E → gN 5 d E fun E' => wFor (wSeqI (wCallC 1 f Cb (wCons (wVar 5) wNil))) (gTup 2 (gConss (gN 6) (gConss (gN 7) gNils))) (wIfS (wB (wOp (gDInT true) (wVar 7) (wVar 2))) (wSeq (wPutT 2 (wVar 7) (wOp gAdd (wOp gDGetT (wVar 2) (wVar 5)) (wTup (wCons (wVar 6) wNil)))) (wApp 4 (wVar 7))) wNext) { nx := Inv (i + 1), rt := De.rt, bk := wSet 3 (wVar 4) De, ct := Inv (i + 1) } E') ∧
        ∀ E, Inv (newD (g.q n) n).length E → wSet 3 (wVar 4) De E := by
      refine ⟨fun i E => ∃ x5 x6 x7, E = ([some (.d (eff g.x0)), some (.d (.obj f)), some (.mT (entQ gW (g.q (n + i)))), some (.d (.lst (newD (g.q n) n))), some (.l (newD (g.q (n + i)) (g.q n).length)), x5, x6, x7], α), ⟨x5, x6, x7, ?_⟩, ?_, ?_⟩
      · have : newD (g.q n) (g.q n).length = [] := by unfold newD; rw [List.drop_length]; rfl
        show _ = ([some (B.d (eff g.x0)), some (B.d (.obj f)), some (B.mT (entQ gW (g.q n))), some (B.d (.lst (newD (g.q n) n))), some (B.l (newD (g.q n) (g.q n).length)), x5, x6, x7], α)
        rw [this]
        rfl
      · rintro i d _ hd ⟨x5, x6, x7, rfl⟩
        obtain ⟨e, he, rfl⟩ := newD_at hd
        obtain ⟨G, eG⟩ := q_pre (g := g) (n := n) (k := i)
        have hlt := (List.getElem?_eq_some_iff.mp he).1
        have he' : (g.q (n + i))[n + i]? = some e := by rw [eG, List.getElem?_append_left hlt]; exact he
        have g1 := q_ok c (n + i)
        have hp := mem_hasQ (List.mem_of_getElem? he')
        have hu := g1.u e (List.mem_of_getElem? he')
        have L0 : (g.q n).length ≤ (g.q (n + i)).length := by rw [eG, List.length_append]; omega
        refine ⟨rfl, rfl, hcb e.1 hu _ _ ?_⟩
        refine ⟨_, rfl, fun j E => ∃ x6 x7, E = ([some (.d (eff g.x0)), some (.d (.obj f)), some (.mT (entQ gW (((g.mv e.1).take j).foldl (g.put e.1) (g.q (n + i))))), some (.d (.lst (newD (g.q n) n))), some (.l (newD (((g.mv e.1).take j).foldl (g.put e.1) (g.q (n + i))) (g.q n).length)), some (.d (eff e.1)), x6, x7], α), ⟨x6, x7, rfl⟩, ?_, ?_⟩
        · rintro j d _ hd ⟨x6, x7, rfl⟩
          obtain ⟨a, ha, rfl⟩ := get_map hd
          have ham := List.mem_of_getElem? ha
          have g2 := g1.fold c hp (as := (g.mv e.1).take j) fun x hx => List.mem_of_mem_take hx
          have h2 := (fold_has (g := g) (p := e.1) (as := (g.mv e.1).take j) (F := g.q (n + i)))
          have hst' : ((g.mv e.1).take (j + 1)).foldl (g.put e.1) (g.q (n + i)) = g.put e.1 (((g.mv e.1).take j).foldl (g.put e.1) (g.q (n + i))) a := by
            rw [List.take_add_one, ha, List.foldl_append]
            rfl
          obtain ⟨G2, eG2⟩ := h2.2.2
          obtain ⟨F, hF⟩ : ∃ F, F = ((g.mv e.1).take j).foldl (g.put e.1) (g.q (n + i)) := ⟨_, rfl⟩
          rw [← hF] at g2 h2 hst' eG2
          rw [← hF]
          have hpF := h2.1 _ hp
          have hFl := g2.len
          have L1 : (g.q n).length ≤ F.length := by rw [eG2, List.length_append]; omega
          clear hF
          refine ⟨rfl, rfl, tk (g.nx e.1 a), tkey_eff _, ?_⟩
          show (if (!(lookT (entQ gW F) (tk (g.nx e.1 a))).isSome) = true then _ else _)
          rw [some_q]
          cases hh : hasQ F (g.nx e.1 a) with
          | true =>
            have hv : g.put e.1 F a = F := if_pos hh
            rw [hv] at hst'
            refine ⟨some (.d (.int a)), some (.d (eff (g.nx e.1 a))), ?_⟩
            rw [hst']
            rfl
          | false =>
            obtain ⟨w, _, hm, hw⟩ := hasQ_mem hpF
            have hwl := (g2.w _ hm).2
            have hwl : w.length < F.length := hwl
            refine ⟨tk e.1, gW (wayQ F e.1), tkey_eff _, get_q gW hpF, sz1, zle2 (by rw [List.length_map, hw]; show w.length + 1 ≤ _; omega), tk (g.nx e.1 a), tkey_eff _, zlt2 (by rw [entQ_len]; omega), ?_⟩
            refine ⟨zlt2 (by rw [newD_len]; omega), some (.d (.int a)), some (.d (eff (g.nx e.1 a))), ?_⟩
            have e1 : putT (entQ gW F) (tk (g.nx e.1 a)) (.tup ((wayQ F e.1).map DL.D.int ++ [.int a])) = entQ gW (F ++ [(g.nx e.1 a, wayQ F e.1 ++ [a])]) := by
              rw [← put_q gW hh]
              unfold gW
              rw [List.map_append]
              rfl
            have hv : g.put e.1 F a = F ++ [(g.nx e.1 a, wayQ F e.1 ++ [a])] := if_neg (by rw [hh]; exact Bool.false_ne_true)
            show ((([_, _, some (.mT (putT (entQ gW F) (tk (g.nx e.1 a)) (.tup ((wayQ F e.1).map DL.D.int ++ [.int a])))), _, some (.l (newD F (g.q n).length ++ [eff (g.nx e.1 a)])), _, _, _] : List (Option B)), α) : Env (subAmb (penAmb K) F0)) = _
            rw [hv] at hst'
            rw [e1, newD_snoc (e := (g.nx e.1 a, wayQ F e.1 ++ [a])) L1, hst']
            rfl
        · rintro _ ⟨x6, x7, rfl⟩
          refine ⟨some (.d (eff e.1)), x6, x7, ?_⟩
          have lm : (mvQ g e.1).length = (g.mv e.1).length := List.length_map ..
          rw [lm, List.take_length]
          have := q_succ he'
          show _ = ([some (B.d (eff g.x0)), some (B.d (.obj f)), some (B.mT (entQ gW (g.q (n + i + 1)))), some (B.d (.lst (newD (g.q n) n))), some (B.l (newD (g.q (n + i + 1)) (g.q n).length)), some (B.d (eff e.1)), x6, x7], α)
          rw [this]
          rfl
      · rintro _ ⟨x5, x6, x7, rfl⟩
        have : n + (newD (g.q n) n).length = (g.q n).length := by rw [newD_len]; omega
        rw [this]
        exact kx _ _ _ _
    rcases hb with rfl | rfl
    · exact ⟨_, rfl, go⟩
    · exact ⟨_, rfl, go⟩
  have fin : ((!(newD (g.q n) n).isEmpty) = false) → g.End (g.q n) := fun h => ⟨n, rfl, by
    have : newD (g.q n) n = [] := by
      cases e : newD (g.q n) n with
      | nil => rfl
      | cons a t => rw [e] at h; cases h
    have := congrArg List.length this
    rw [newD_len] at this
    have : (g.q n).length - n = 0 := this
    omega⟩
  have non : ((!(newD (g.q n) n).isEmpty) = true) → (g.q n).length > n := fun h => by
    have : newD (g.q n) n ≠ [] := fun e => by
      rw [e] at h
      cases h
    have := List.length_pos_iff.mpr this
    rw [newD_len] at this
    omega
  rcases hb with rfl | rfl
  · refine iteb (fun h => ?_) fun h => ?_
    · have hn := non h
      refine ⟨sz0, body hn _ _ _ _ (.inl rfl) _ fun x4 x5 x6 x7 => ?_⟩
      exact ⟨U.length - (g.q n).length, by omega, (g.q n).length, _, _, _, _, _, rfl, .inl rfl, rfl⟩
    · exact q _ (fin h) gq
  · refine iteb (fun h => ?_) fun h => ?_
    · have hn := non h
      refine ⟨sz0, body hn _ _ _ _ (.inr rfl) _ fun x4 x5 x6 x7 => ?_⟩
      exact ⟨U.length - (g.q n).length, by omega, (g.q n).length, _, _, _, _, _, rfl, .inl rfl, rfl⟩
    · exact q _ (fin h) gq

end DL
set_option maxHeartbeats 4000000
namespace DL
open PySem PySem.Spec L2
open PyProof.Rows hiding St
def words (ops : List Int) : Nat → List (List Int)
  | 0 => [[]]
  | m + 1 => ops.flatMap fun a => (words ops m).map fun w => a :: w
theorem words_mem {ops : List Int} : ∀ {w : List Int}, (∀ a ∈ w, a ∈ ops) → w ∈ words ops w.length
  | [], _ => List.mem_singleton.mpr rfl
  | a :: w, h => List.mem_flatMap.mpr ⟨a, h a (List.mem_cons_self ..), List.mem_map_of_mem (words_mem fun b hb => h b (List.mem_cons_of_mem _ hb))⟩
theorem words_of {ops : List Int} : ∀ {m : Nat} {w : List Int}, w ∈ words ops m → w.length = m ∧ ∀ a ∈ w, a ∈ ops
  | 0, w, h => by
    rw [List.mem_singleton.mp h]
    exact ⟨rfl, nofun⟩
  | m + 1, w, h => by
    obtain ⟨a, ha, h⟩ := List.mem_flatMap.mp h
    obtain ⟨v, hv, rfl⟩ := List.mem_map.mp h
    obtain ⟨h1, h2⟩ := words_of hv
    refine ⟨by rw [List.length_cons, h1], fun b hb => ?_⟩
    rcases List.mem_cons.mp hb with rfl | hb
    · exact ha
    · exact h2 b hb
theorem words_len {ops : List Int} (h : ops.length ≤ 6) : ∀ m, (words ops m).length ≤ 6 ^ m
  | 0 => Nat.le_refl _
  | m + 1 => by
    have ih := words_len h m
    have : ∀ l : List Int, (l.flatMap fun a => (words ops m).map fun w => a :: w).length = l.length * (words ops m).length := by
      intro l
      induction l with
      | nil => simp
      | cons a l ih =>
        rw [List.flatMap_cons, List.length_append, ih, List.length_map, List.length_cons, Nat.succ_mul, Nat.add_comm]
    show (ops.flatMap fun a => (words ops m).map fun w => a :: w).length ≤ _
    rw [this, Nat.pow_succ, Nat.mul_comm]
    exact Nat.mul_le_mul ih h
theorem alike_ints : ∀ xs ys : List Int, PySem.W.alikeAll (D.pys (xs.map .int)) (D.pys (ys.map .int)) = true
  | [], _ => by cases ‹List Int› <;> rfl
  | x :: xs, [] => rfl
  | x :: xs, y :: ys => by
    show (PySem.W.alike (.int x) (.int y) && PySem.W.alikeAll (D.pys (xs.map .int)) (D.pys (ys.map .int))) = true
    rw [alike_ints xs ys]
    rfl
def wayT (F : Fq) (r : List Int) : D := if hasQ F r = true then gW (wayQ F r) else .non
theorem wayT_get (F : Fq) (r : List Int) : (lookT (entQ gW F) (tk r)).getD .non = wayT F r := by
  unfold wayT
  split
  · rename_i h
    rw [get_q gW h]
    rfl
  · rename_i h
    rw [none_q gW (by simpa using h)]
    rfl

end DL
set_option maxHeartbeats 800000
namespace DL
open PySem PySem.Spec L2
open PyProof.Rows hiding St
/-! ### the search for turns -/
theorem perm_eqI {ns ns' : List Int} {l : List Int} (a : ns.Perm l) (b : ns'.Perm l) (pa : ns.Pairwise (· ≤ ·)) (pb : ns'.Pairwise (· ≤ ·)) : ns' = ns := List.Perm.eq_of_pairwise (le := (· ≤ ·)) (fun _ _ _ _ h h' => Int.le_antisymm h h') pb pa (b.trans a.symm)
/-- the reached states, ascending -/
structure RS (s : Sch) (rs : List Int) : Prop where
  e : ∃ F, Fin s F ∧ GF s F ∧ rs.Perm (F.map (·.1))
  a : rs.Pairwise (· ≤ ·)
theorem RS.uniq {s : Sch} {rs rs' : List Int} (h : RS s rs) (h' : RS s rs') : rs' = rs := by
  obtain ⟨F, f, _, p⟩ := h.e
  obtain ⟨F', f', _, p'⟩ := h'.e
  obtain rfl := f.uniq f'
  exact perm_eqI p p' h.a h'.a
theorem RS.rg {s : Sch} {rs : List Int} (h : RS s rs) : ∀ x ∈ rs, -1 ≤ x ∧ x < s.v := fun x hx => by
  obtain ⟨F, _, g, p⟩ := h.e
  obtain ⟨e, he, rfl⟩ := List.mem_map.mp (p.mem_iff.mp hx)
  exact ⟨(g.lo e he).1, (g.lo e he).2.1⟩
theorem RS.len {s : Sch} (hs : s.Ok) {rs : List Int} (h : RS s rs) : rs.length ≤ 5 := by
  obtain ⟨F, _, g, p⟩ := h.e
  rw [p.length_eq, List.length_map]
  exact g.len hs
theorem itr_ne {s : Sch} : ∀ n, hasF (itr s n).1 (-1) = true := by
  have hv : ∀ (p : Int) (st : Fd × List Int) (a r : Int), hasF st.1 (-1) = true → hasF (vis p st a r).1 (-1) = true := fun p st a r h => by
    unfold vis
    split
    · exact h
    · rw [hasF_snoc, h]
      rfl
  have hp : ∀ (as : List Int) (p : Int) (st : Fd × List Int), hasF st.1 (-1) = true → hasF (as.foldl (fun st a => vis p st a (nxt s a p)) st).1 (-1) = true := fun as => by
    induction as with
    | nil => exact fun _ _ h => h
    | cons a as ih => exact fun p st h => ih p _ (hv _ _ _ _ h)
  have ha : ∀ (ps : List Int) (st : Fd × List Int), hasF st.1 (-1) = true → hasF (ps.foldl (visP s) st).1 (-1) = true := fun ps => by
    induction ps with
    | nil => exact fun _ h => h
    | cons a as ih => exact fun st h => ih _ (hp _ _ _ h)
  intro n
  induction n with
  | zero => rfl
  | succ n ih => exact ha _ _ ih
theorem RS.ne {s : Sch} {rs : List Int} (h : RS s rs) : rs ≠ [] := fun z => by
  obtain ⟨F, ⟨n, hn⟩, _, p⟩ := h.e
  have := itr_ne (s := s) n
  rw [hn] at this
  obtain ⟨w, _, hm, _⟩ := hasF_mem this
  have := p.mem_iff.mpr (List.mem_map.mpr ⟨_, hm, rfl⟩)
  rw [z] at this
  cases this
def mvT (s : Sch) (t : List Int) (a : Int) : List Int := t.map fun x => nxt s a x
def grT (s : Sch) (rs : List Int) : Gr := ⟨fun _ => s.wr, fun t a => mvT s (if t = [] then rs else t) a, []⟩
def stN (v : Int) : List Int := (List.range (v + 1).toNat).map fun i : Nat => (i : Int) - 1
theorem stN_mem {v x : Int} (h0 : -1 ≤ x) (h1 : x < v) : x ∈ stN v := List.mem_map.mpr ⟨(x + 1).toNat, List.mem_range.mpr (by omega), by omega⟩
theorem stN_len {v : Int} (h : v ≤ 4) : (stN v).length ≤ 6 := by unfold stN; rw [List.length_map, List.length_range]; omega
def UT (s : Sch) (rs : List Int) : List (List Int) := [] :: words (stN s.v) rs.length
theorem UT_len {s : Sch} (hs : s.Ok) {rs : List Int} (h : RS s rs) : (UT s rs).length ≤ 10000 := by
  have hl := h.len hs
  have hw := words_len (stN_len hs.v1) rs.length
  have : (6 : Nat) ^ rs.length ≤ 6 ^ 5 := Nat.pow_le_pow_right (by decide) hl
  unfold UT
  rw [List.length_cons]
  have e : (6 : Nat) ^ 5 = 7776 := by decide
  omega
/-- a turn: as many states as are reached -/
def TOk (s : Sch) (rs t : List Int) : Prop := t.length = rs.length ∧ ∀ x ∈ t, -1 ≤ x ∧ x < s.v
theorem UT_mem {s : Sch} {rs t : List Int} : t ∈ UT s rs ↔ t = [] ∨ TOk s rs t := by
  unfold UT
  rw [List.mem_cons]
  refine or_congr Iff.rfl ⟨fun h => ?_, fun h => ?_⟩
  · obtain ⟨h1, h2⟩ := words_of h
    refine ⟨h1, fun x hx => ?_⟩
    obtain ⟨i, hi, rfl⟩ := List.mem_map.mp (h2 x hx)
    have := List.mem_range.mp hi
    omega
  · rw [← h.1]
    exact words_mem fun a ha => stN_mem (h.2 a ha).1 (h.2 a ha).2
theorem nxt_ok {s : Sch} (hs : s.Ok) {a x : Int} (ha : 0 ≤ a ∧ a < s.effs.length) (h0 : -1 ≤ x) (h1 : x < s.v) : atI (s.effs.map eff) a = some (eff (s.effs.getD a.toNat [])) ∧ atI ((s.effs.getD a.toNat []).map DL.D.int) (x + 1) = some (.int (nxt s a x)) ∧ -1 ≤ nxt s a x ∧ nxt s a x < s.v := hs.tab.get ha.1 ha.2 h0 h1
theorem mvT_ok {s : Sch} (hs : s.Ok) {rs t : List Int} {a : Int} (ha : 0 ≤ a ∧ a < s.effs.length) (ht : TOk s rs t) : TOk s rs (mvT s t a) := ⟨by unfold mvT; rw [List.length_map]; exact ht.1, fun x hx => by
  obtain ⟨y, hy, rfl⟩ := List.mem_map.mp hx
  exact (nxt_ok hs ha (ht.2 y hy).1 (ht.2 y hy).2).2.2⟩
theorem RS.tok {s : Sch} {rs : List Int} (h : RS s rs) : TOk s rs rs := ⟨rfl, h.rg⟩
theorem from_tok {s : Sch} {rs t : List Int} (h : RS s rs) (ht : t = [] ∨ TOk s rs t) : TOk s rs (if t = [] then rs else t) := by
  split
  · exact h.tok
  · rename_i c
    exact ht.resolve_left c
theorem cl_T {s : Sch} (hs : s.Ok) {rs : List Int} (h : RS s rs) : ClG (grT s rs) (UT s rs) := ⟨List.mem_cons_self .., fun x hx a ha => UT_mem.mpr (.inr (mvT_ok hs (hs.w a ha) (from_tok h (UT_mem.mp hx))))⟩
theorem TOk.ne {s : Sch} {rs t : List Int} (h : RS s rs) (ht : TOk s rs t) : t ≠ [] := fun z => h.ne (List.eq_nil_of_length_eq_zero (by rw [← ht.1, z]; rfl))
/-- the turns, in the order in which they are found, with a row for each -/
structure Trn (s : Sch) (rs : List Int) (G : Fq) : Prop where
  e : (grT s rs).End (([], []) :: G)
  g : GQ (grT s rs) (UT s rs) (([], []) :: G)
theorem Trn.of {s : Sch} {rs : List Int} {F : Fq} (h : (grT s rs).End F) (g : GQ (grT s rs) (UT s rs) F) : ∃ G, F = ([], []) :: G ∧ Trn s rs G := by
  obtain ⟨n, hn, _⟩ := id h
  obtain ⟨G, e⟩ := q_start (g := grT s rs) n
  rw [hn] at e
  have e : F = ([], []) :: G := e
  subst e
  exact ⟨G, rfl, h, g⟩
theorem Trn.uniq {s : Sch} {rs : List Int} {G G' : Fq} (h : Trn s rs G) (h' : Trn s rs G') : G = G' := by
  have := End.uniq h.e h'.e
  injection this
theorem Trn.ne {s : Sch} {rs : List Int} {G : Fq} (h : Trn s rs G) : ∀ e ∈ G, e.1 ≠ [] := fun e he z => (List.pairwise_cons.mp h.g.nd).1 e he z.symm
theorem Trn.ok {s : Sch} {rs : List Int} {G : Fq} (h : Trn s rs G) : ∀ e ∈ G, TOk s rs e.1 := fun e he => (UT_mem.mp (h.g.u e (List.mem_cons_of_mem _ he))).resolve_left (h.ne e he)
theorem Trn.len {s : Sch} (hs : s.Ok) {rs : List Int} (r : RS s rs) {G : Fq} (h : Trn s rs G) : G.length < 10000 := by
  have h1 := h.g.len
  have h2 := UT_len hs r
  rw [List.length_cons] at h1
  omega
/-- what a row of operands makes of the reached states -/
def trn (s : Sch) (rs row : List Int) : List Int := rs.map (foldE s.effs row)
theorem trn_snoc (s : Sch) (rs row : List Int) (a : Int) : trn s rs (row ++ [a]) = mvT s (trn s rs row) a := by
  unfold trn mvT
  rw [List.map_map]
  refine List.map_congr_left fun x _ => ?_
  exact fold_end s.effs row a x
theorem trn_nil (s : Sch) (rs : List Int) : trn s rs [] = rs := by
  unfold trn foldE
  simp
theorem trn_ok {s : Sch} (hs : s.Ok) {rs : List Int} (r : RS s rs) (row : List Int) (h : ∀ a ∈ row, 0 ≤ a ∧ a < s.effs.length) : TOk s rs (trn s rs row) := by
  have : ∀ l : List Int, (∀ a ∈ l, 0 ≤ a ∧ a < s.effs.length) → TOk s rs (trn s rs l.reverse) := by
    intro l
    induction l with
    | nil => intro _; rw [List.reverse_nil, trn_nil]; exact r.tok
    | cons a l ih =>
      intro h
      rw [List.reverse_cons, trn_snoc]
      exact mvT_ok hs (h a (List.mem_cons_self ..)) (ih fun x hx => h x (List.mem_cons_of_mem _ hx))
  have h2 := this row.reverse fun a ha => h a (List.mem_reverse.mp ha)
  rwa [List.reverse_reverse] at h2
theorem lead_trn {s : Sch} {rs : List Int} (r : RS s rs) (hs : s.Ok) {w t : List Int} (h : (grT s rs).Lead [] w t) : (w = [] ∧ t = []) ∨ (w ≠ [] ∧ t = trn s rs w ∧ ∀ a ∈ w, a ∈ s.wr) := by
  induction h with
  | nil => exact .inl ⟨rfl, rfl⟩
  | snoc h ha ih =>
    rename_i w y a
    have ha : a ∈ s.wr := ha
    refine .inr ⟨by simp, ?_, ?_⟩
    · rw [trn_snoc]
      show mvT s (if y = [] then rs else y) a = _
      rcases ih with ⟨rfl, rfl⟩ | ⟨h1, h2, h3⟩
      · rw [if_pos rfl, trn_nil]
      · rw [if_neg, h2]
        rw [h2]
        exact (trn_ok hs r w fun a ha => hs.w a (h3 a ha)).ne r
    · intro b hb
      rcases List.mem_append.mp hb with hb | hb
      · rcases ih with ⟨rfl, _⟩ | ⟨_, _, h3⟩
        · cases hb
        · exact h3 b hb
      · rw [List.mem_singleton.mp hb]
        exact ha
end DL
set_option maxHeartbeats 400000
namespace DL
open PySem PySem.Spec L2
open PyProof.Rows hiding St
/-! ### the order of tuples of numbers -/
theorem toks_cons (x : Int) (xs : List Int) (y : Int) (ys : List Int) : PyProof.Rows.lexLt itemOrd (PySem.W.keyToksAll (D.pys ((x :: xs).map .int))) (PySem.W.keyToksAll (D.pys ((y :: ys).map .int))) =
    if x = y then PyProof.Rows.lexLt itemOrd (PySem.W.keyToksAll (D.pys (xs.map .int))) (PySem.W.keyToksAll (D.pys (ys.map .int))) else decide (x < y) := by
  show PyProof.Rows.lexLt itemOrd (PySem.W.keyToksAll (.int x :: D.pys (xs.map .int))) (PySem.W.keyToksAll (.int y :: D.pys (ys.map .int))) = _
  rw [PySem.W.dataLt_cons rfl]
  by_cases h : x = y
  · subst h
    rw [if_pos rfl, if_pos (by simp [PyData.eqv])]
  · rw [if_neg h, if_neg (by simp [PyData.eqv, h]), PySem.W.dataLt_int]
theorem toks_ints : ∀ xs ys : List Int, PyProof.Rows.lexLt itemOrd (PySem.W.keyToksAll (D.pys (xs.map .int))) (PySem.W.keyToksAll (D.pys (ys.map .int))) = HT.lexLt xs ys
  | [], [] => by decide
  | [], y :: ys => by rfl
  | x :: xs, [] => by rfl
  | x :: xs, y :: ys => by
    rw [toks_cons, HT.lexLt_cons, toks_ints xs ys]
theorem ord_eff (xs ys : List Int) : ordD (eff xs) (eff ys) = !HT.lexLt ys xs := by
  show (!PySem.W.dataLt (.tuple (D.pys (ys.map .int))) (.tuple (D.pys (xs.map .int)))) = _
  rw [PySem.W.dataLt_tuple, toks_ints]
abbrev LtR (x y : List Int) : Prop := HT.lexLt x y = true
theorem ltr_irr : ∀ x : List Int, ¬ LtR x x
  | [], h => by cases h
  | x :: xs, h => by
    unfold LtR at h
    rw [HT.lexLt_cons, if_pos rfl] at h
    exact ltr_irr xs h
theorem ltr_asymm : ∀ {x y : List Int}, LtR x y → HT.lexLt y x = false
  | [], [], h => by cases h
  | [], _ :: _, _ => rfl
  | _ :: _, [], h => by cases h
  | x :: xs, y :: ys, h => by
    unfold LtR at h
    rw [HT.lexLt_cons] at h ⊢
    by_cases e : x = y
    · rw [if_pos e] at h
      rw [if_pos e.symm]
      exact ltr_asymm h
    · rw [if_neg e] at h
      rw [if_neg (fun z => e z.symm)]
      have := of_decide_eq_true h
      exact decide_eq_false (by omega)
theorem ltr_trans : ∀ {x y z : List Int}, LtR x y → LtR y z → LtR x z
  | [], _, [], _, h => by
    rename_i y _
    cases y <;> cases h
  | [], _, _ :: _, _, _ => rfl
  | _ :: _, [], _, h, _ => by cases h
  | _ :: _, _ :: _, [], _, h => by cases h
  | x :: xs, y :: ys, z :: zs, h, h' => by
    unfold LtR at h h' ⊢
    rw [HT.lexLt_cons] at h h' ⊢
    by_cases e : x = y
    · subst e
      rw [if_pos rfl] at h
      by_cases e2 : x = z
      · rw [if_pos e2] at h' ⊢
        exact ltr_trans h h'
      · rw [if_neg e2] at h' ⊢
        exact h'
    · rw [if_neg e] at h
      have := of_decide_eq_true h
      by_cases e2 : y = z
      · subst e2
        rw [if_neg e]
        exact h
      · rw [if_neg e2] at h'
        have := of_decide_eq_true h'
        rw [if_neg (by omega)]
        exact decide_eq_true (by omega)
theorem ltr_total : ∀ {x y : List Int}, x ≠ y → LtR x y ∨ LtR y x
  | [], [], h => absurd rfl h
  | [], _ :: _, _ => .inl rfl
  | _ :: _, [], _ => .inr rfl
  | x :: xs, y :: ys, h => by
    unfold LtR
    rw [HT.lexLt_cons, HT.lexLt_cons]
    by_cases e : x = y
    · subst e
      rw [if_pos rfl, if_pos rfl]
      exact ltr_total fun z => h (by rw [z])
    · rw [if_neg e, if_neg (fun z => e z.symm)]
      rcases Int.lt_or_gt_of_ne e with q | q
      · exact .inl (decide_eq_true q)
      · exact .inr (decide_eq_true q)
/-- two ascending lists of the same rows are one -/
theorem asc_uniq : ∀ {a b : List (List Int)}, a.Pairwise LtR → b.Pairwise LtR → (∀ x, x ∈ a ↔ x ∈ b) → a = b
  | [], [], _, _, _ => rfl
  | [], y :: b, _, _, h => absurd ((h y).mpr (List.mem_cons_self ..)) (by simp)
  | x :: a, [], _, _, h => absurd ((h x).mp (List.mem_cons_self ..)) (by simp)
  | x :: a, y :: b, pa, pb, h => by
    obtain ⟨pa1, pa2⟩ := List.pairwise_cons.mp pa
    obtain ⟨pb1, pb2⟩ := List.pairwise_cons.mp pb
    have e : x = y := by
      rcases List.mem_cons.mp ((h x).mp (List.mem_cons_self ..)) with e | hx
      · exact e
      · rcases List.mem_cons.mp ((h y).mpr (List.mem_cons_self ..)) with e | hy
        · exact e.symm
        · have h1 := pa1 y hy
          have h2 := pb1 x hx
          have := ltr_asymm h1
          rw [show HT.lexLt y x = true from h2] at this
          cases this
    subst e
    rw [asc_uniq pa2 pb2 fun z => ⟨fun hz => ?_, fun hz => ?_⟩]
    · rcases List.mem_cons.mp ((h z).mp (List.mem_cons_of_mem _ hz)) with e | q
      · subst e; exact absurd (pa1 z hz) (ltr_irr z)
      · exact q
    · rcases List.mem_cons.mp ((h z).mpr (List.mem_cons_of_mem _ hz)) with e | q
      · subst e; exact absurd (pb1 z hz) (ltr_irr z)
      · exact q
/-- what is ascending is sorted already -/
theorem asc_sort {l : List (List Int)} (h : l.Pairwise LtR) : (l.map eff).mergeSort ordD = l.map eff := by
  refine List.mergeSort_of_pairwise ?_
  rw [List.pairwise_map]
  exact h.imp fun {a b} q => by rw [ord_eff, ltr_asymm q]; rfl
abbrev leR (x y : List Int) : Bool := !HT.lexLt y x
theorem leR_trans (a b c : List Int) (h : leR a b = true) (h' : leR b c = true) : leR a c = true := by
  by_cases e : a = c
  · subst e
    show (!HT.lexLt a a) = true
    rw [show HT.lexLt a a = false by simpa using ltr_irr a]
    rfl
  · rcases ltr_total e with z | z
    · show (!HT.lexLt c a) = true
      rw [ltr_asymm z]
      rfl
    · exfalso
      by_cases e1 : a = b
      · subst e1
        have h' : (!HT.lexLt c a) = true := h'
        rw [show HT.lexLt c a = true from z] at h'
        cases h'
      · rcases ltr_total e1 with q | q
        · have := ltr_trans z q
          have h' : (!HT.lexLt c b) = true := h'
          rw [show HT.lexLt c b = true from this] at h'
          cases h'
        · have h : (!HT.lexLt b a) = true := h
          rw [show HT.lexLt b a = true from q] at h
          cases h
theorem leR_total (a b : List Int) : (leR a b || leR b a) = true := by
  show ((!HT.lexLt b a) || !HT.lexLt a b) = true
  by_cases e : a = b
  · subst e
    rw [show HT.lexLt a a = false by simpa using ltr_irr a]
    rfl
  · rcases ltr_total e with z | z
    · rw [ltr_asymm z]; rfl
    · rw [ltr_asymm z, Bool.not_false, Bool.or_true]
theorem eff_inj {x y : List Int} (h : eff x = eff y) : x = y := by
  have h : x.map DL.D.int = y.map DL.D.int := by injection h
  exact (List.map_inj_right (fun a b h => by injection h)).mp h
theorem sort_map (l : List (List Int)) : (l.map eff).mergeSort ordD = (l.mergeSort leR).map eff := (List.map_mergeSort fun a _ b _ => (ord_eff a b).symm).symm
/-- a list of unlike rows, sorted, ascends -/
theorem sort_asc {l : List (List Int)} (h : l.Nodup) : (l.mergeSort leR).Pairwise LtR := by
  have s := List.pairwise_mergeSort leR_trans leR_total l
  have nd : (l.mergeSort leR).Nodup := (List.mergeSort_perm l leR).symm.nodup h
  refine (s.and nd).imp fun {a b} ⟨q, n⟩ => ?_
  rcases ltr_total n with z | z
  · exact z
  · have q : (!HT.lexLt b a) = true := q
    rw [show HT.lexLt b a = true from z] at q
    cases q
end DL
set_option maxHeartbeats 800000
namespace DL
open PySem PySem.Spec L2
open PyProof.Rows hiding St
/-! ### turns, by the package -/
theorem take_map {α : Type} {f : α → D} {xs : List α} {i : Nat} {x : α} (h : xs[i]? = some x) : (xs.take i).map f ++ [f x] = (xs.take (i + 1)).map f := by
  rw [List.take_add_one, h, List.map_append]
  rfl
def P_tb {K : PySem.W.Frag} : Ct (penAmb K) := fun ds α Q => ∃ s t b, ds = [Sch.d s, b] ∧ (b = .lst (t.map .int) ∨ b = eff t) ∧ s.Ok ∧ t.length ≤ 100 ∧ (∀ x ∈ t, -1 ≤ x ∧ x < s.v) ∧ Q (.nw (.l (s.wr.map fun a => .tup [.int a, eff (mvT s t a)]))) α
theorem rd_tb {K : PySem.W.Frag} : ∀ ds α (Qd : R → (penAmb K).S → Prop), ds.length = 2 → P_tb ds α Qd → wb__turns_behind K P_effect (endsOf Qd) (startB 4 ds, α) := by
  rintro _ α Q _ ⟨s, t, b, rfl, hb, hs, hl, ht, q⟩
  have w1 := hs.w1
  have it : b.items = some (t.map .int) := by rcases hb with rfl | rfl <;> rfl
  refine ⟨_, rfl, _, rfl, fun i acc α' => α' = α ∧ acc = (s.wr.take i).map fun a => DL.D.tup [.int a, eff (mvT s t a)], ⟨rfl, rfl⟩, ?_, ?_⟩
  · rintro i d acc α0 hd ⟨e0, rfl⟩
    subst e0
    obtain ⟨a, ha, rfl⟩ := get_ints hd
    have hra := hs.w a (List.mem_of_getElem? ha)
    refine ⟨_, it, fun j acc α' => α' = α0 ∧ acc = (t.take j).map fun x => DL.D.int (nxt s a x), ⟨rfl, rfl⟩, ?_, ?_⟩
    · rintro j d acc _ hd ⟨rfl, rfl⟩
      obtain ⟨x, hx, rfl⟩ := get_ints hd
      have hrx := ht x (List.mem_of_getElem? hx)
      obtain ⟨h1, h2, _, _⟩ := nxt_ok hs hra hrx.1 hrx.2
      exact ⟨rfl, _, _, _, _, _, _, _, _, rfl, h1, h2, rfl, zlm2 (by rw [List.length_take]; omega), rfl, take_map hx⟩
    · rintro acc _ ⟨rfl, h⟩
      rw [List.length_map, List.take_length] at h
      subst h
      refine ⟨sz2, rfl, zlm2 (by rw [List.length_take]; omega), rfl, ?_⟩
      rw [← take_map ha]
      unfold mvT
      rw [show eff (t.map fun x => nxt s a x) = DL.D.tup (t.map fun x => DL.D.int (nxt s a x)) by unfold eff; rw [List.map_map]; rfl]
  · rintro acc _ ⟨rfl, rfl⟩
    rw [List.length_map, List.take_length]
    exact q
def P_mvT {K : PySem.W.Frag} : List D → Ct (penAmb K) := fun caps ds α Q => ∃ s rs t, caps = [Sch.d s, .lst (rs.map .int)] ∧ ds = [eff t] ∧ s.Ok ∧ RS s rs ∧ (t = [] ∨ TOk s rs t) ∧ Q (.nw (.l (mvQ (grT s rs) t))) α
theorem rd_mvT {K : PySem.W.Frag} : ∀ caps d α (Qd : R → (penAmb K).S → Prop), P_mvT caps [d] α Qd → wl__shortest_rows K P_tb (startB 3 (d :: caps), α) fun r E => Qd r.out E.2 := by
  rintro _ _ α Q ⟨s, rs, t, rfl, e, hs, r, ht, q⟩
  cases e
  have l5 := r.len hs
  have hf := from_tok r ht
  cases t with
  | nil =>
    rw [if_pos rfl] at hf
    exact ⟨rfl, s, rs, _, rfl, .inl rfl, hs, by omega, r.rg, q⟩
  | cons x t =>
    rw [if_neg (by simp)] at hf
    exact ⟨rfl, s, x :: t, _, rfl, .inr rfl, hs, by have := hf.1; omega, hf.2, q⟩
theorem drop_q {rs : List Int} {s : Sch} {f : List Int → D} {G : Fq} (h : Trn s rs G) : dropT (entQ f (([], []) :: G)) (tk []) = entQ f G := by
  unfold dropT entQ
  rw [List.map_cons, List.filter_cons_of_neg (by rw [show tkeyOf (eff [], f []).1 = some (tk []) from tkey_eff []]; simp)]
  refine List.filter_eq_self.mpr fun p hp => ?_
  obtain ⟨e, he, rfl⟩ := List.mem_map.mp hp
  have := h.ne e he
  rw [show tkeyOf (eff e.1, f e.2).1 = some (tk e.1) from tkey_eff e.1]
  simp only [Bool.not_eq_true', decide_eq_false_iff_not]
  intro z
  exact this (tk_inj (Option.some.inj z))
def P_srows {K : PySem.W.Frag} : Ct (penAmb K) := fun ds α Q => ∃ s, ds = [Sch.d s] ∧ s.Ok ∧ ∀ rs G, RS s rs → Trn s rs G → Q (.nw (.mT (entQ gW G))) α
theorem rd_srows {K : PySem.W.Frag} : ∀ ds α (Qd : R → (penAmb K).S → Prop), ds.length = 1 → P_srows ds α Qd → wb__shortest_rows K P_tb P_reached P_swq P_mvT (endsOf Qd) (startB 3 ds, α) := by
  rintro _ α Q _ ⟨s, rfl, hs, q⟩
  refine ⟨rfl, s, rfl, hs, fun F rs h g pm pw => ?_⟩
  have r : RS s rs := ⟨⟨F, h, g, pm⟩, pw⟩
  refine ⟨sz0, [s.d, .lst (rs.map .int)], rfl, fun f => ⟨grT s rs, UT s rs, rfl, cl_T hs r, by have := UT_len hs r; omega, fun x hx α' Q' q' => ⟨s, rs, x, rfl, rfl, hs, r, UT_mem.mp hx, q'⟩, fun F h g => ?_⟩⟩
  obtain ⟨G, rfl, tr⟩ := Trn.of h g
  refine ⟨sz0, tk [], tkey_eff [], ?_, ?_⟩
  · rw [some_q]
    rfl
  · show Q (.nw (.mT (dropT (entQ gW (([], []) :: G)) (tk [])))) α
    rw [drop_q tr]
    exact q rs G r tr
/-- all turns, ascending -/
def trnsD (G : Fq) : List D := (G.map fun e => eff e.1).mergeSort ordD
theorem trn_alike {s : Sch} {rs : List Int} {G : Fq} (h : Trn s rs G) (f : List Int → D) : PySem.W.AllAlike ((entQ f G).map fun p => p.1.py) ∧ PySem.W.Sortable ((entQ f G).map fun p => p.1.py) := by
  have e : (entQ f G).map (fun p => p.1.py) = G.map fun e => (eff e.1).py := by
    unfold entQ
    rw [List.map_map]
    rfl
  rw [e]
  refine ⟨PySem.W.AllAlike.of fun a b => alike_ints a.1 b.1, .inl fun d hd => ?_⟩
  obtain ⟨x, hx, rfl⟩ := List.mem_map.mp hd
  have := h.ne x hx
  obtain ⟨t, w⟩ := x
  cases t with
  | nil => exact absurd rfl this
  | cons y t => exact ⟨_, _, rfl⟩
def P_turns {K : PySem.W.Frag} : Ct (penAmb K) := fun ds α Q => ∃ s, ds = [Sch.d s] ∧ s.Ok ∧ ∀ rs G, RS s rs → Trn s rs G → Q (.nw (.l (trnsD G))) α
theorem rd_turns {K : PySem.W.Frag} : ∀ ds α (Qd : R → (penAmb K).S → Prop), ds.length = 1 → P_turns ds α Qd → wb_turns K P_srows (endsOf Qd) (startB 1 ds, α) := by
  rintro _ α Q _ ⟨s, rfl, hs, q⟩
  refine ⟨rfl, s, rfl, hs, fun rs G r tr => ?_⟩
  obtain ⟨h1, h2⟩ := trn_alike tr gW
  refine ⟨h1, h2, ?_⟩
  rw [entQ_keys]
  exact q rs G r tr
def P_rowfor {K : PySem.W.Frag} : Ct (penAmb K) := fun ds α Q => ∃ s t, ds = [Sch.d s, eff t] ∧ s.Ok ∧ ∀ rs G, RS s rs → Trn s rs G → Q (.fr (wayT G t)) α
theorem rd_rowfor {K : PySem.W.Frag} : ∀ ds α (Qd : R → (penAmb K).S → Prop), ds.length = 2 → P_rowfor ds α Qd → wb_row_for K P_srows (endsOf Qd) (startB 2 ds, α) := by
  rintro _ α Q _ ⟨s, t, rfl, hs, q⟩
  refine ⟨rfl, s, rfl, hs, fun rs G r tr => ⟨tk t, tkey_eff t, ?_⟩⟩
  rw [wayT_get]
  exact q rs G r tr
def P_turnof {K : PySem.W.Frag} : Ct (penAmb K) := fun ds α Q => ∃ s row, ds = [Sch.d s, eff row] ∧ s.Ok ∧ (∀ a ∈ row, 0 ≤ a ∧ a < s.effs.length) ∧ ∀ rs, RS s rs → Q (.fr (eff (trn s rs row))) α
theorem rd_turnof {K : PySem.W.Frag} : ∀ ds α (Qd : R → (penAmb K).S → Prop), ds.length = 2 → P_turnof ds α Qd → wb_turn_of K P_reached P_sa (endsOf Qd) (startB 3 ds, α) := by
  rintro _ α Q _ ⟨s, row, rfl, hs, hr, q⟩
  refine ⟨rfl, s, rfl, hs, fun F rs h g pm pw => ?_⟩
  have r : RS s rs := ⟨⟨F, h, g, pm⟩, pw⟩
  have l5 := r.len hs
  refine ⟨_, rfl, fun i acc α' => α' = α ∧ acc = (rs.take i).map fun x => DL.D.int (foldE s.effs row x), ⟨rfl, rfl⟩, ?_, ?_⟩
  · rintro i d acc _ hd ⟨rfl, rfl⟩
    obtain ⟨x, hx, rfl⟩ := get_ints hd
    have hrx := r.rg x (List.mem_of_getElem? hx)
    exact ⟨rfl, s.v, s.effs, _, _, _, row, x, rfl, hs.tab, hr, hrx.1, hrx.2, rfl, zlm2 (by rw [List.length_take]; omega), rfl, take_map hx⟩
  · rintro acc _ ⟨rfl, h⟩
    rw [List.length_map, List.take_length] at h
    subst h
    have := q rs r
    unfold trn at this
    rw [show eff (rs.map (foldE s.effs row)) = DL.D.tup (rs.map fun x => DL.D.int (foldE s.effs row x)) by unfold eff; rw [List.map_map]; rfl] at this
    exact this
end DL
set_option maxHeartbeats 4000000
namespace DL
open PySem PySem.Spec L2
open PyProof.Rows hiding St
theorem smp_tup {n : Nat} {xs : List D} (hl : xs.length ≤ 16000000) (h : ∀ x ∈ xs, smp n x) : smp (n + 1) (.tup xs) := .inr ⟨xs, .inl rfl, hl, h⟩
theorem smp_lst {n : Nat} {xs : List D} (hl : xs.length ≤ 16000000) (h : ∀ x ∈ xs, smp n x) : smp (n + 1) (.lst xs) := .inr ⟨xs, .inr rfl, hl, h⟩
theorem smp_int {n : Nat} {i : Int} : smp (n + 1) (.int i) := .inl ⟨rfl, rfl⟩
theorem smp_eff {n : Nat} {xs : List Int} (h : xs.length ≤ 1000) : smp (n + 2) (eff xs) := smp_tup (by rw [List.length_map]; omega) fun x hx => by
  obtain ⟨y, _, rfl⟩ := List.mem_map.mp hx
  exact smp_int
theorem eqv_rows : ∀ xs ys : List Int, PyData.eqvAll (D.pys (xs.map .int)) (D.pys (ys.map .int)) = (xs == ys)
  | [], [] => rfl
  | [], _ :: _ => rfl
  | _ :: _, [] => rfl
  | x :: xs, y :: ys => by
    show ((x == y) && PyData.eqvAll (D.pys (xs.map .int)) (D.pys (ys.map .int))) = (x :: xs == y :: ys)
    rw [eqv_rows xs ys]
    rfl
theorem eqv_eff (xs ys : List Int) : (eff xs).eqv (eff ys) = (xs == ys) := eqv_rows xs ys

end DL
set_option maxHeartbeats 800000
namespace DL
open PySem PySem.Spec L2
open PyProof.Rows hiding St
/-! ### how many -/
theorem filter_snoc {α : Type} {p : α → Bool} {xs : List α} {i : Nat} {x : α} (h : xs[i]? = some x) : (xs.take (i + 1)).filter p = (xs.take i).filter p ++ (if p x = true then [x] else []) := by
  rw [List.take_add_one, h, List.filter_append]
  congr 1
  show List.filter p [x] = _
  rw [List.filter_cons, List.filter_nil]
def knownL (s : Sch) (rs : List Int) : List (List Int) := (s.wr.map fun a => mvT s rs a) ++ [rs]
def fur (s : Sch) (rs t : List Int) : Bool := !(knownL s rs).any fun y => y == t
theorem any_eqv (L : List (List Int)) (t : List Int) : ((L.map eff).any fun y => y.eqv (eff t)) = L.any fun y => y == t := by
  rw [List.any_map]
  congr 1
  funext y
  exact eqv_eff y t
theorem gd_tok {s : Sch} (hs : s.Ok) {rs : List Int} (r : RS s rs) {t : List Int} (h : TOk s rs t) : Gd (eff t) 1 100 := by
  have := r.len hs
  have h1 := h.1
  have v1 := hs.v1
  exact (Gd.ints (n := 5) (fun x hx => by have := h.2 x hx; omega) (by omega)).mono (by decide) (by decide)
theorem knownL_ok {s : Sch} (hs : s.Ok) {rs : List Int} (r : RS s rs) : ∀ t ∈ knownL s rs, TOk s rs t := fun t ht => by
  rcases List.mem_append.mp ht with h | h
  · obtain ⟨a, ha, rfl⟩ := List.mem_map.mp h
    exact mvT_ok hs (hs.w a ha) r.tok
  · rw [List.mem_singleton.mp h]
    exact r.tok
theorem okE_toks {s : Sch} (hs : s.Ok) {rs : List Int} (r : RS s rs) {L : List (List Int)} (h : ∀ t ∈ L, TOk s rs t) : (DL.D.lst (L.map eff)).okE = true :=
  (Gd.lst (k := 1) (w := 100) (n := L.length) (fun x hx => by
    obtain ⟨t, ht, rfl⟩ := List.mem_map.mp hx
    exact gd_tok hs r (h t ht)) (by rw [List.length_map]; exact Nat.le_refl _)).okE (by decide)
def P_ft {K : PySem.W.Frag} : Ct (penAmb K) := fun ds α Q => ∃ s, ds = [Sch.d s] ∧ s.Ok ∧ ∀ rs G, RS s rs → Trn s rs G → Q (.nw (.l ((((G.map (·.1)).mergeSort leR).filter (fur s rs)).map eff))) α
theorem rd_ft {K : PySem.W.Frag} : ∀ ds α (Qd : R → (penAmb K).S → Prop), ds.length = 1 → P_ft ds α Qd → wb__further_turns K P_tb P_reached P_turns (endsOf Qd) (startB 5 ds, α) := by
  rintro _ α Q _ ⟨s, rfl, hs, q⟩
  have w1 := hs.w1
  refine ⟨rfl, s, rfl, hs, fun F rs h g pm pw => ?_⟩
  have r : RS s rs := ⟨⟨F, h, g, pm⟩, pw⟩
  have l5 := r.len hs
  refine ⟨rfl, s, rs, _, rfl, .inl rfl, hs, by omega, r.rg, ?_⟩
  refine ⟨_, rfl, fun i acc α' => α' = α ∧ acc = (s.wr.take i).map fun a => eff (mvT s rs a), ⟨rfl, rfl⟩, ?_, ?_⟩
  · rintro i d acc _ hd ⟨rfl, rfl⟩
    obtain ⟨a, ha, rfl⟩ := get_map hd
    exact ⟨rfl, rfl, rfl, zlm2 (by rw [List.length_take]; omega), rfl, take_map ha⟩
  · rintro acc α1 ⟨rfl, h1⟩
    rw [List.length_map, List.take_length] at h1
    subst h1
    have ek : (s.wr.map fun a => eff (mvT s rs a)) ++ [DL.D.tup (rs.map .int)] = (knownL s rs).map eff := by
      unfold knownL
      rw [List.map_append, List.map_map]
      rfl
    refine ⟨sz1, (by show (s.wr.map _).length + 1 ≤ _; rw [List.length_map]; exact zle2 (by omega)), ?_⟩
    refine ⟨rfl, s, rfl, hs, fun rs' G r' tr => ?_⟩
    obtain rfl := r'.uniq r
    have lG := tr.len hs r
    have eT : trnsD G = ((G.map (·.1)).mergeSort leR).map eff := by
      unfold trnsD
      rw [← sort_map, List.map_map]
      rfl
    rw [eT]
    have pm := List.mergeSort_perm (G.map (·.1)) leR
    have lS : ((G.map (·.1)).mergeSort leR).length < 10000 := by rw [pm.length_eq, List.length_map]; exact lG
    refine ⟨_, rfl, fun i acc α' => α' = α1 ∧ acc = ((((G.map (·.1)).mergeSort leR).take i).filter (fur s rs)).map eff, ⟨rfl, rfl⟩, ?_, ?_⟩
    · rintro i d acc _ hd ⟨rfl, rfl⟩
      obtain ⟨t, ht, rfl⟩ := get_map hd
      have mt := pm.mem_iff.mp (List.mem_of_getElem? ht)
      obtain ⟨e, he, rfl⟩ := List.mem_map.mp mt
      have ok := tr.ok e he
      have lf := List.length_filter_le (fur s rs) (((G.map (·.1)).mergeSort leR).take i)
      rw [List.length_take] at lf
      refine ⟨_, rfl, (gd_tok hs r ok).okE (by decide), ?_, ?_⟩
      · have := okE_toks hs r (knownL_ok hs r)
        rw [← ek] at this
        exact this
      · show (if (!((s.wr.map fun a => eff (mvT s rs a)) ++ [DL.D.tup (rs.map .int)]).any fun y => y.eqv (eff e.1)) = true then _ else _)
        rw [ek, any_eqv]
        refine iteb (fun hh => ?_) fun hh => ?_
        · refine ⟨rfl, zlm2 (by omega), rfl, ?_⟩
          rw [filter_snoc ht, if_pos (show fur s rs e.1 = true from hh), List.map_append]
          rfl
        · refine ⟨rfl, rfl, ?_⟩
          rw [filter_snoc ht, if_neg (show ¬ fur s rs e.1 = true by rw [show fur s rs e.1 = false from hh]; exact Bool.false_ne_true), List.append_nil]
    · rintro acc _ ⟨rfl, h2⟩
      rw [List.length_map, List.take_length] at h2
      subst h2
      exact q rs G r tr
def cntT (s : Sch) (rs : List Int) (G : Fq) : Int := (s.wr.length : Int) + (((G.map (·.1)).filter (fur s rs)).length : Int)
def P_lc {K : PySem.W.Frag} : Ct (penAmb K) := fun ds α Q => ∃ s, ds = [Sch.d s] ∧ s.Ok ∧ ∀ rs G, RS s rs → Trn s rs G → Q (.fr (.int (cntT s rs G))) α
theorem rd_lc {K : PySem.W.Frag} : ∀ ds α (Qd : R → (penAmb K).S → Prop), ds.length = 1 → P_lc ds α Qd → wb_least_count K P_ft (endsOf Qd) (startB 1 ds, α) := by
  rintro _ α Q _ ⟨s, rfl, hs, q⟩
  refine ⟨_, rfl, rfl, s, rfl, hs, fun rs G r tr => ?_⟩
  have := q rs G r tr
  unfold cntT at this
  rw [← ((List.mergeSort_perm (G.map (·.1)) leR).filter (fur s rs)).length_eq] at this
  show Q (.fr (.int (((s.wr.map DL.D.int).length : Int) + (((((G.map (·.1)).mergeSort leR).filter (fur s rs)).map eff).length : Int)))) α
  rw [List.length_map, List.length_map]
  exact this
end DL
set_option maxHeartbeats 4000000
namespace DL
open PySem PySem.Spec L2
open PyProof.Rows hiding St
/-! ### turns, by the law -/
def P_lturn {K : PySem.W.Frag} : Ct (penAmb K) := fun ds α Q => ∃ s row, ds = [Sch.d s, eff row] ∧ s.Ok ∧ (∀ a ∈ row, 0 ≤ a ∧ a < s.effs.length) ∧ ∀ rs, RS s rs → Q (.fr (eff (trn s rs row))) α
theorem rd_lturn {K : PySem.W.Frag} : ∀ ds α (Qd : R → (penAmb K).S → Prop), ds.length = 2 → P_lturn ds α Qd → wb__law_turn K P_fold P_lreach (endsOf Qd) (startB 3 ds, α) := by
  rintro _ α Q _ ⟨s, row, rfl, hs, hr, q⟩
  refine ⟨rfl, s, rfl, hs, fun F h g => ?_⟩
  obtain ⟨k1, k2⟩ := g.keys hs gL
  refine ⟨F.map (·.1), k1, k2, fun rs pm pw => ?_⟩
  have r : RS s rs := ⟨⟨F, h, g, pm⟩, pw⟩
  have l5 := r.len hs
  refine ⟨_, rfl, fun i acc α' => α' = α ∧ acc = (rs.take i).map fun x => DL.D.int (foldE s.effs row x), ⟨rfl, rfl⟩, ?_, ?_⟩
  · rintro i d acc _ hd ⟨rfl, rfl⟩
    obtain ⟨x, hx, rfl⟩ := get_ints hd
    have hrx := r.rg x (List.mem_of_getElem? hx)
    exact ⟨rfl, s.v, s.effs, _, _, _, row, x, rfl, hs.tab, hr, hrx.1, hrx.2, rfl, zlm2 (by rw [List.length_take]; omega), rfl, take_map hx⟩
  · rintro acc _ ⟨rfl, h⟩
    rw [List.length_map, List.take_length] at h
    subst h
    have := q rs r
    unfold trn at this
    rw [show eff (rs.map (foldE s.effs row)) = DL.D.tup (rs.map fun x => DL.D.int (foldE s.effs row x)) by unfold eff; rw [List.map_map]; rfl] at this
    exact this
theorem tl_has {G : Fq} {r : List Int} (h : r ≠ []) : hasQ (([], []) :: G) r = hasQ G r := by
  unfold hasQ
  rw [List.any_cons, show ((([] : List Int), ([] : List Int)).1 == r) = false by simpa using h.symm]
  rfl
theorem tl_way {G : Fq} {r : List Int} (h : r ≠ []) : wayQ (([], []) :: G) r = wayQ G r := by
  unfold wayQ
  rw [List.find?_cons, show ((([] : List Int), ([] : List Int)).1 == r) = false by simpa using h.symm]
theorem put_cons {g : Gr} {p : List Int} {G : Fq} {a : Int} (hn : g.nx p a ≠ []) : g.put p (([], []) :: G) a = ([], []) :: (if hasQ G (g.nx p a) = true then G else G ++ [(g.nx p a, wayQ (([], []) :: G) p ++ [a])]) := by
  unfold Gr.put
  rw [tl_has hn]
  split <;> rfl
theorem putT_same {ps : List (D × D)} {k : List Key} {d : D} (h : ∀ p ∈ ps, tkeyOf p.1 = some k → p.2 = d) (hh : (ps.any fun p => decide (tkeyOf p.1 = some k)) = true) : putT ps k d = ps := by
  unfold putT
  rw [if_pos hh]
  refine (List.map_congr_left fun p hp => ?_).trans (List.map_id _)
  by_cases c : tkeyOf p.1 = some k
  · rw [if_pos c, ← h p hp c]
    rfl
  · rw [if_neg c]
    rfl
theorem any_q (f : List Int → D) (r : List Int) (F : Fq) : ((entQ f F).any fun p => decide (tkeyOf p.1 = some (tk r))) = hasQ F r := by
  unfold entQ hasQ
  rw [List.any_map]
  congr 1
  funext e
  show decide (tkeyOf (eff e.1) = some (tk r)) = (e.1 == r)
  rw [tkey_eff]
  by_cases c : e.1 = r
  · subst c
    simp
  · have : ¬ (some (tk e.1) = some (tk r)) := fun z => c (tk_inj (Option.some.inj z))
    simp [this, c]
theorem rs_ex {s : Sch} (hs : s.Ok) : ∃ rs, RS s rs := by
  have go : ∀ (m n : Nat), mea s (itr s n) ≤ m → ∃ k, (itr s k).2 = [] := by
    intro m
    induction m with
    | zero =>
      intro n h
      refine ⟨n, Classical.byContradiction fun z => ?_⟩
      have := mea_lt hs n z
      omega
    | succ m ih =>
      intro n h
      by_cases z : (itr s n).2 = []
      · exact ⟨n, z⟩
      · exact ih (n + 1) (by have := mea_lt hs n z; omega)
  obtain ⟨n, hn⟩ := go _ 0 (Nat.le_refl _)
  let le : Int → Int → Bool := fun a b => decide (a ≤ b)
  refine ⟨((itr s n).1.map (·.1)).mergeSort le, ⟨(itr s n).1, ⟨n, Prod.ext rfl hn⟩, (itr_ok hs n).1, List.mergeSort_perm _ _⟩, ?_⟩
  refine (List.pairwise_mergeSort (le := le) (fun a b c h h' => ?_) (fun a b => ?_) _).imp fun h => of_decide_eq_true h
  · have h := of_decide_eq_true h
    have h' := of_decide_eq_true h'
    exact decide_eq_true (by omega)
  · show (decide (a ≤ b) || decide (b ≤ a)) = true
    rcases Int.le_total a b with h | h
    · rw [decide_eq_true h]; rfl
    · rw [decide_eq_true h, Bool.or_true]
theorem eqv_nilD (xs : List D) : (DL.D.lst xs).eqv (.lst []) = xs.isEmpty := by cases xs <;> rfl
theorem gq_tok {s : Sch} {rs : List Int} {G : Fq} (g : GQ (grT s rs) (UT s rs) (([], []) :: G)) : ∀ e ∈ G, TOk s rs e.1 := fun e he => (UT_mem.mp (g.u e (List.mem_cons_of_mem _ he))).resolve_left fun z => (List.pairwise_cons.mp g.nd).1 e he z.symm
theorem drop_in {G : Fq} {n : Nat} (h : 1 ≤ n) {e : List Int × List Int} (he : e ∈ (([], []) :: G : Fq).drop n) : e ∈ G := by
  obtain ⟨k, rfl⟩ : ∃ k, n = k + 1 := ⟨n - 1, by omega⟩
  exact List.mem_of_mem_drop he
theorem okE_newD {s : Sch} (hs : s.Ok) {rs : List Int} (r : RS s rs) {G : Fq} (g : GQ (grT s rs) (UT s rs) (([], []) :: G)) {n : Nat} (h : 1 ≤ n) : (DL.D.lst (newD (([], []) :: G) n)).okE = true := by
  have e : newD (([], []) :: G) n = (((([], []) :: G : Fq).drop n).map (·.1)).map eff := by
    unfold newD
    rw [List.map_map]
    rfl
  rw [e]
  refine okE_toks hs r fun t ht => ?_
  obtain ⟨x, hx, rfl⟩ := List.mem_map.mp ht
  exact gq_tok g x (drop_in h hx)
theorem gL_snoc (w : List Int) (a : Int) : gL (w ++ [a]) = .int ((w.length : Int) + 1) := by
  unfold gL
  rw [List.length_append, List.length_singleton]
  rfl
theorem mapD_snoc {f : Int → Int} {t : List Int} {j : Nat} {x : Int} (h : t[j]? = some x) : ((t.take j).map f).map DL.D.int ++ [.int (f x)] = ((t.take (j + 1)).map f).map DL.D.int := by
  rw [List.take_add_one, h, List.map_append, List.map_append]
  rfl
def P_lturns {K : PySem.W.Frag} : Ct (penAmb K) := fun ds α Q => ∃ s, ds = [Sch.d s] ∧ s.Ok ∧ ∀ rs G, RS s rs → Trn s rs G → Q (.nw (.mT (entQ gL G))) α
theorem q_cons {g : Gr} (n : Nat) (h : g.x0 = []) : ∃ G, g.q n = ([], []) :: G := by
  obtain ⟨G, e⟩ := q_start (g := g) n
  rw [h] at e
  exact ⟨G, e⟩
def wb_turn (K : PySem.W.Frag) : WS (penAmb K) :=
    (wFor (wSeqI (wOp gIx (wVar 0) (wC (.int 2)))) (gN 3) (wSeq (wSet 6 (wCb gTuple (wConsC (wLc (wSeqI (wVar 5)) (gN 7) wYes (wOp gIx (wOp gIx (wOp gIx (wVar 0) (wC (.int 1))) (wVar 3)) (wOp gAdd (wVar 7) (wC (.int 1)))) [7]) wNil)))
    (wIfS (wB (wOp (gDInT true) (wVar 6) (wVar 1))) (wSeq (wPutT 1 (wVar 6) (wOp gAdd (wOp gDGetT (wVar 1) (wVar 5)) (wC (.int 1))))
    (wApp 4 (wVar 6))) wNext)))
def wb_round (K : PySem.W.Frag) : WS (penAmb K) :=
    (wSeq (wFor (wSeqI (wVar 2)) (gN 5) (wb_turn K))
    (wSet 2 (wVar 4)))
theorem rd_lturns {K : PySem.W.Frag} : ∀ ds α (Qd : R → (penAmb K).S → Prop), ds.length = 1 → P_lturns ds α Qd → wb__law_turns K P_lturn (endsOf Qd) (startB 8 ds, α) := by
  rintro _ α Q _ ⟨s, rfl, hs, q⟩
  have w1 := hs.w1
  obtain ⟨rs, r⟩ := rs_ex hs
  have c := cl_T hs r
  have hU := UT_len hs r
  have l5 := r.len hs
  have nxne : ∀ (t : List Int) (a : Int), a ∈ s.wr → (t = [] ∨ TOk s rs t) → (grT s rs).nx t a ≠ [] := fun t a ha ht => (mvT_ok hs (hs.w a ha) (from_tok r ht)).ne r
  refine ⟨sz0, ?_⟩
  refine ⟨_, rfl, _, rfl, fun i E => ∃ x3 G, E = ([some (.d s.d), some (.mT (entQ gL G)), some (.l []), x3, none, none, none, none], α) ∧ (s.wr.take i).foldl ((grT s rs).put []) [([], [])] = ([], []) :: G ∧ (∀ e ∈ G, e.2.length = 1) ∧ G.length ≤ i, ⟨none, [], rfl, rfl, nofun, Nat.le_refl _⟩, ?_, ?_⟩
  · rintro i d _ hd ⟨x3, G, rfl, eG, hG, lG⟩
    obtain ⟨a, ha, rfl⟩ := get_ints hd
    have hi := (List.getElem?_eq_some_iff.mp ha).1
    have ma := List.mem_of_getElem? ha
    have hra := hs.w a ma
    have e1 : trn s rs [a] = mvT s rs a := by
      have := trn_snoc s rs [] a
      rw [trn_nil] at this
      exact this
    have hn := nxne [] a ma (.inl rfl)
    have en : (grT s rs).nx [] a = mvT s rs a := rfl
    rw [en] at hn
    have step : (s.wr.take (i + 1)).foldl ((grT s rs).put []) [([], [])] = ([], []) :: (if hasQ G (mvT s rs a) = true then G else G ++ [(mvT s rs a, [a])]) := by
      rw [List.take_add_one, ha, List.foldl_append, eG]
      exact put_cons hn
    refine ⟨sz1, rfl, s, [a], rfl, hs, fun x hx => by rw [List.mem_singleton.mp hx]; exact hra, fun rs' r' => ?_⟩
    obtain rfl := r'.uniq r
    rw [e1]
    refine ⟨tk (mvT s rs a), tkey_eff _, zlt2 (by rw [entQ_len]; omega), ?_⟩
    cases hh : hasQ G (mvT s rs a) with
    | true =>
      rw [if_pos hh] at step
      have e2 : putT (entQ gL G) (tk (mvT s rs a)) (.int 1) = entQ gL G := putT_same (fun p hp _ => by
        obtain ⟨e, he, rfl⟩ := List.mem_map.mp hp
        show gL e.2 = _
        unfold gL
        rw [hG e he]
        rfl) (by rw [any_q]; exact hh)
      refine ⟨some (.d (.int a)), G, ?_, step, hG, by omega⟩
      show ((([_, some (.mT (putT (entQ gL G) (tk (mvT s rs a)) (.int 1))), _, _, _, _, _, _] : List (Option B)), α) : Env (penAmb K)) = _
      rw [e2]
    | false =>
      rw [if_neg (by rw [hh]; exact Bool.false_ne_true)] at step
      have e2 : putT (entQ gL G) (tk (mvT s rs a)) (.int 1) = entQ gL (G ++ [(mvT s rs a, [a])]) := put_q gL (w := [a]) hh
      refine ⟨some (.d (.int a)), _, ?_, step, fun e he => ?_, by rw [List.length_append, List.length_singleton]; omega⟩
      · show ((([_, some (.mT (putT (entQ gL G) (tk (mvT s rs a)) (.int 1))), _, _, _, _, _, _] : List (Option B)), α) : Env (penAmb K)) = _
        rw [e2]
      · rcases List.mem_append.mp he with he | he
        · exact hG e he
        · rw [List.mem_singleton.mp he]
          rfl
  · rintro _ ⟨x3, G1, rfl, eG1, hG1, lG1⟩
    rw [List.length_map, List.take_length] at eG1
    rw [List.length_map] at lG1
    have q1 : (grT s rs).q 1 = ([], []) :: G1 := eG1
    -- the rounds
    refine ⟨fun m E => ∃ n G b x3 x4 x5 x6 x7, E = ([some (.d s.d), some (.mT (entQ gL G)), some b, x3, x4, x5, x6, x7], α) ∧ 1 ≤ n ∧ (grT s rs).q n = ([], []) :: G ∧ (b = .d (.lst (newD (([], []) :: G) n)) ∨ b = .l (newD (([], []) :: G) n)) ∧ m = (UT s rs).length - n, ⟨_, 1, G1, .l (newD (([], []) :: G1) 1), x3, none, none, none, none, ?_, Nat.le_refl _, q1, .inr rfl, rfl⟩, ?_⟩
    · show _ = ([some (B.d s.d), some (B.mT (entQ gL G1)), some (B.l (G1.map fun e => eff e.1)), x3, none, none, none, none], α)
      rw [← entQ_keys gL]
      rfl
    rintro m _ ⟨n, G, b, y3, y4, y5, y6, y7, rfl, n1, qn, hb, rfl⟩
    have gq := q_ok c n
    rw [qn] at gq
    have hl := gq.len
    have okN := okE_newD hs r gq n1
    have body : (([], []) :: G : Fq).length > n → ∀ (b : B) (x3 x5 x6 x7 : Option B), (b = .d (.lst (newD (([], []) :: G) n)) ∨ b = .l (newD (([], []) :: G) n)) → ∀ De : EndsD (penAmb K), (∀ G' x3 x4 x5 x6 x7, (grT s rs).q (([], []) :: G : Fq).length = ([], []) :: G' → De.nx ([some (.d s.d), some (.mT (entQ gL G')), some (.d (.lst (newD (([], []) :: G') (([], []) :: G : Fq).length))), x3, x4, x5, x6, x7], α)) →
        wb_round K De ([some (.d s.d), some (.mT (entQ gL G)), some b, x3, some (.l []), x5, x6, x7], α) := by
      intro hn b x3 x5 x6 x7 hb De kx
      have go : ∃ Inv : Nat → Env (penAmb K) → Prop, Inv 0 ([some (.d s.d), some (.mT (entQ gL G)), some (.d (.lst (newD (([], []) :: G) n))), x3, some (.l []), x5, x6, x7], α) ∧
          (∀ i d E, (newD (([], []) :: G) n)[i]? = some d → Inv i E → gN 5 d E fun E' => wb_turn K { nx := Inv (i + 1), rt := De.rt, bk := wSet 2 (wVar 4) De, ct := Inv (i + 1) } E') ∧
          ∀ E, Inv (newD (([], []) :: G) n).length E → wSet 2 (wVar 4) De E := by
        refine ⟨fun i E => ∃ G' x3 x5 x6 x7, E = ([some (.d s.d), some (.mT (entQ gL G')), some (.d (.lst (newD (([], []) :: G) n))), x3, some (.l (newD (([], []) :: G') (([], []) :: G : Fq).length)), x5, x6, x7], α) ∧ (grT s rs).q (n + i) = ([], []) :: G', ⟨G, x3, x5, x6, x7, ?_, qn⟩, ?_, ?_⟩
        · have : newD (([], []) :: G) (([], []) :: G : Fq).length = [] := by unfold newD; rw [List.drop_length]; rfl
          rw [this]
        · rintro i d _ hd ⟨G0, x3, x5, x6, x7, rfl, q0⟩
          obtain ⟨e, he, rfl⟩ := newD_at hd
          obtain ⟨Gx, eG⟩ := q_pre (g := grT s rs) (n := n) (k := i)
          rw [qn, q0] at eG
          have hlt := (List.getElem?_eq_some_iff.mp he).1
          have he' : ((grT s rs).q (n + i))[n + i]? = some e := by rw [q0, eG, List.getElem?_append_left hlt]; exact he
          have g1 := q_ok c (n + i)
          have L0 : (([], []) :: G : Fq).length ≤ (([], []) :: G0 : Fq).length := by rw [eG, List.length_append]; omega
          have eG' : e ∈ G := drop_in n1 (List.mem_of_getElem? (by rw [List.getElem?_drop]; exact he))
          have te := gq_tok gq e eG'
          have ne : e.1 ≠ [] := te.ne r
          have hp := mem_hasQ (List.mem_of_getElem? he')
          have te1 := te.1
          refine ⟨_, rfl, _, rfl, fun j E => ∃ Gj x3 x6 x7, E = ([some (.d s.d), some (.mT (entQ gL Gj)), some (.d (.lst (newD (([], []) :: G) n))), x3, some (.l (newD (([], []) :: Gj) (([], []) :: G : Fq).length)), some (.d (eff e.1)), x6, x7], α) ∧ (s.wr.take j).foldl ((grT s rs).put e.1) ((grT s rs).q (n + i)) = ([], []) :: Gj, ⟨G0, x3, x6, x7, rfl, q0⟩, ?_, ?_⟩
          · rintro j d _ hd ⟨Gj, x3, x6, x7, rfl, qj⟩
            obtain ⟨a, ha, rfl⟩ := get_ints hd
            have ham := List.mem_of_getElem? ha
            have hra := hs.w a ham
            have g2 := g1.fold c hp (as := s.wr.take j) fun x hx => List.mem_of_mem_take hx
            have h2 := (fold_has (g := grT s rs) (p := e.1) (as := s.wr.take j) (F := (grT s rs).q (n + i)))
            have enx : (grT s rs).nx e.1 a = mvT s e.1 a := by show mvT s (if e.1 = [] then rs else e.1) a = _; rw [if_neg ne]
            have hn : (grT s rs).nx e.1 a ≠ [] := nxne e.1 a ham (.inr te)
            have hst' : (s.wr.take (j + 1)).foldl ((grT s rs).put e.1) ((grT s rs).q (n + i)) = (grT s rs).put e.1 (([], []) :: Gj) a := by
              rw [List.take_add_one, ha, List.foldl_append, qj]
              rfl
            rw [put_cons hn, enx, tl_way ne] at hst'
            rw [enx] at hn
            obtain ⟨G2, eG2⟩ := h2.2.2
            rw [qj] at g2 h2 eG2
            rw [q0] at eG2
            have hpF := h2.1 _ hp
            rw [tl_has ne] at hpF
            have hFl := g2.len
            rw [List.length_cons] at hFl
            have L1 : (([], []) :: G : Fq).length ≤ (([], []) :: Gj : Fq).length := by rw [eG2, List.length_append]; omega
            refine ⟨_, rfl, fun k acc α' => α' = α ∧ acc = ((e.1.take k).map (nxt s a)).map DL.D.int, ⟨rfl, rfl⟩, ?_, ?_⟩
            · rintro k d acc _ hd ⟨rfl, rfl⟩
              obtain ⟨x, hx, rfl⟩ := get_ints hd
              have hrx := te.2 x (List.mem_of_getElem? hx)
              obtain ⟨h1, h3, _, _⟩ := nxt_ok hs hra hrx.1 hrx.2
              exact ⟨_, rfl, _, h1, _, h3, rfl, zlt2 (by rw [List.length_map, List.length_map, List.length_take]; omega), rfl, mapD_snoc hx⟩
            · rintro acc α1 ⟨rfl, h⟩
              rw [List.length_map, List.take_length] at h
              subst h
              refine ⟨tk (mvT s e.1 a), tkey_eff (mvT s e.1 a), ?_⟩
              show (if (!(lookT (entQ gL Gj) (tk (mvT s e.1 a))).isSome) = true then _ else _)
              rw [some_q]
              cases hh : hasQ Gj (mvT s e.1 a) with
              | true =>
                rw [if_pos hh] at hst'
                exact ⟨Gj, some (.d (.int a)), some (.d (eff (mvT s e.1 a))), x7, rfl, hst'⟩
              | false =>
                rw [if_neg (by rw [hh]; exact Bool.false_ne_true)] at hst'
                refine ⟨tk e.1, gL (wayQ Gj e.1), tkey_eff _, get_q gL hpF, tk (mvT s e.1 a), tkey_eff _, zlt2 (by rw [entQ_len]; omega), ?_⟩
                have e1 : putT (entQ gL Gj) (tk (mvT s e.1 a)) (.int (((wayQ Gj e.1).length : Int) + 1)) = entQ gL (Gj ++ [(mvT s e.1 a, wayQ Gj e.1 ++ [a])]) := by
                  rw [← gL_snoc (wayQ Gj e.1) a]
                  exact put_q gL hh
                refine ⟨zlt2 (by rw [newD_len, List.length_cons]; omega), Gj ++ [(mvT s e.1 a, wayQ Gj e.1 ++ [a])], some (.d (.int a)), some (.d (eff (mvT s e.1 a))), x7, ?_, hst'⟩
                show ((([_, some (.mT (putT (entQ gL Gj) (tk (mvT s e.1 a)) (.int (((wayQ Gj e.1).length : Int) + 1)))), _, _, some (.l (newD (([], []) :: Gj) (([], []) :: G : Fq).length ++ [eff (mvT s e.1 a)])), _, _, _] : List (Option B)), α1) : Env (penAmb K)) = _
                rw [e1, newD_snoc (e := (mvT s e.1 a, wayQ Gj e.1 ++ [a])) L1]
                rfl
          · rintro _ ⟨Gj, x3, x6, x7, rfl, qj⟩
            rw [List.length_map, List.take_length] at qj
            refine ⟨Gj, x3, some (.d (eff e.1)), x6, x7, rfl, ?_⟩
            have := q_succ he'
            exact this.trans qj
        · rintro _ ⟨G0, x3, x5, x6, x7, rfl, q0⟩
          have : n + (newD (([], []) :: G) n).length = (([], []) :: G : Fq).length := by rw [newD_len]; omega
          rw [this] at q0
          exact kx _ _ _ _ _ _ q0
      rcases hb with rfl | rfl
      · exact ⟨_, rfl, go⟩
      · exact ⟨_, rfl, go⟩
    have fin : (!(newD (([], []) :: G) n).isEmpty) = false → Trn s rs G := fun h => by
      have e0 : newD (([], []) :: G) n = [] := by
        cases e : newD (([], []) :: G) n with
        | nil => rfl
        | cons a t => rw [e] at h; cases h
      have := congrArg List.length e0
      rw [newD_len] at this
      have : (([], []) :: G : Fq).length - n = 0 := this
      exact ⟨⟨n, qn, by omega⟩, gq⟩
    have non : (!(newD (([], []) :: G) n).isEmpty) = true → (([], []) :: G : Fq).length > n := fun h => by
      have : newD (([], []) :: G) n ≠ [] := fun e => by
        rw [e] at h
        cases h
      have := List.length_pos_iff.mpr this
      rw [newD_len] at this
      omega
    rcases hb with rfl | rfl
    · refine ⟨sz0, okN, rfl, ?_⟩
      show (if (!(DL.D.lst (newD (([], []) :: G) n)).eqv (.lst [])) = true then _ else _)
      rw [eqv_nilD]
      refine iteb (fun h => ?_) fun h => ?_
      · have hn := non h
        refine ⟨sz0, body hn _ _ _ _ _ (.inl rfl) _ fun G' z3 z4 z5 z6 z7 qq => ?_⟩
        exact ⟨(UT s rs).length - (([], []) :: G : Fq).length, by omega, (([], []) :: G : Fq).length, G', _, _, _, _, _, _, rfl, by omega, qq, .inl rfl, rfl⟩
      · exact q rs G r (fin h)
    · refine ⟨sz0, okN, rfl, ?_⟩
      show (if (!(DL.D.lst (newD (([], []) :: G) n)).eqv (.lst [])) = true then _ else _)
      rw [eqv_nilD]
      refine iteb (fun h => ?_) fun h => ?_
      · have hn := non h
        refine ⟨sz0, body hn _ _ _ _ _ (.inr rfl) _ fun G' z3 z4 z5 z6 z7 qq => ?_⟩
        exact ⟨(UT s rs).length - (([], []) :: G : Fq).length, by omega, (([], []) :: G : Fq).length, G', _, _, _, _, _, _, rfl, by omega, qq, .inl rfl, rfl⟩
      · exact q rs G r (fin h)
end DL
set_option maxHeartbeats 4000000
namespace DL
open PySem PySem.Spec L2
open PyProof.Rows hiding St
def P_lcount {K : PySem.W.Frag} : Ct (penAmb K) := fun ds α Q => ∃ s, ds = [Sch.d s] ∧ s.Ok ∧ ∀ rs G, RS s rs → Trn s rs G → Q (.fr (.int (cntT s rs G))) α
theorem rd_lcount {K : PySem.W.Frag} : ∀ ds α (Qd : R → (penAmb K).S → Prop), ds.length = 1 → P_lcount ds α Qd → wb__law_count K P_lturn P_lturns (endsOf Qd) (startB 4 ds, α) := by
  rintro _ α Q _ ⟨s, rfl, hs, q⟩
  have w1 := hs.w1
  obtain ⟨rs, r⟩ := rs_ex hs
  refine ⟨_, rfl, _, rfl, fun i acc α' => α' = α ∧ acc = (s.wr.take i).map fun a => eff (mvT s rs a), ⟨rfl, rfl⟩, ?_, ?_⟩
  · rintro i d acc _ hd ⟨rfl, rfl⟩
    obtain ⟨a, ha, rfl⟩ := get_ints hd
    have hra := hs.w a (List.mem_of_getElem? ha)
    have e1 : trn s rs [a] = mvT s rs a := by
      have := trn_snoc s rs [] a
      rw [trn_nil] at this
      exact this
    refine ⟨sz1, rfl, s, [a], rfl, hs, fun x hx => by rw [List.mem_singleton.mp hx]; exact hra, fun rs' r' => ?_⟩
    obtain rfl := r'.uniq r
    rw [e1]
    exact ⟨rfl, zlm2 (by rw [List.length_take]; omega), rfl, take_map ha⟩
  · rintro acc α1 ⟨rfl, h1⟩
    rw [List.length_map, List.take_length] at h1
    subst h1
    refine ⟨sz0, rfl, s, [], rfl, hs, nofun, fun rs' r' => ?_⟩
    obtain rfl := r'.uniq r
    rw [trn_nil]
    have ek : (s.wr.map fun a => eff (mvT s rs a)) ++ [eff rs] = (knownL s rs).map eff := by
      unfold knownL
      rw [List.map_append, List.map_map]
      rfl
    refine ⟨sz1, (by show (s.wr.map _).length + 1 ≤ _; rw [List.length_map]; exact zle2 (by omega)), ?_⟩
    refine ⟨_, rfl, rfl, s, rfl, hs, fun rs' G r' tr => ?_⟩
    obtain rfl := r'.uniq r
    have lG := tr.len hs r
    refine ⟨fun i acc α' => α' = α1 ∧ acc = (((G.map (·.1)).take i).filter (fur s rs)).map eff, ⟨rfl, rfl⟩, ?_, ?_⟩
    · rintro i d acc _ hd ⟨rfl, rfl⟩
      rw [entQ_keys] at hd
      obtain ⟨e, he, rfl⟩ := get_map hd
      have he' : (G.map (·.1))[i]? = some e.1 := by rw [List.getElem?_map, he]; rfl
      have ok := tr.ok e (List.mem_of_getElem? he)
      have lf := List.length_filter_le (fur s rs) ((G.map (·.1)).take i)
      rw [List.length_take, List.length_map] at lf
      refine ⟨_, rfl, (gd_tok hs r ok).okE (by decide), ?_, ?_⟩
      · have := okE_toks hs r (knownL_ok hs r)
        rw [← ek] at this
        exact this
      · show (if (!((s.wr.map fun a => eff (mvT s rs a)) ++ [eff rs]).any fun y => y.eqv (eff e.1)) = true then _ else _)
        rw [ek, any_eqv]
        refine iteb (fun hh => ?_) fun hh => ?_
        · refine ⟨rfl, zlm2 (by omega), rfl, ?_⟩
          rw [filter_snoc he', if_pos (show fur s rs e.1 = true from hh), List.map_append]
          rfl
        · refine ⟨rfl, rfl, ?_⟩
          rw [filter_snoc he', if_neg (show ¬ fur s rs e.1 = true by rw [show fur s rs e.1 = false from hh]; exact Bool.false_ne_true), List.append_nil]
    · rintro acc _ ⟨rfl, h2⟩
      have el : (keyDs (entQ gL G)).length = (G.map (·.1)).length := by rw [entQ_keys, List.length_map, List.length_map]
      rw [el, List.take_length] at h2
      subst h2
      have := q rs G r tr
      unfold cntT at this
      show Q (.fr (.int (((s.wr.map DL.D.int).length : Int) + ((((G.map (·.1)).filter (fur s rs)).map eff).length : Int)))) _
      rw [List.length_map, List.length_map]
      exact this
/-! ### the law, in parts -/
def wb_tl (K : PySem.W.Frag) : WS (penAmb K) :=
    (wIfS (wB (wOp gIsnt (wVar 8) (wC .non))) (wSeq (wIfS (wOr (wNot (wB (wIsi ["tuple"] (wVar 8)))) (wB (wOp (gIn false) (wC (.bl false)) (wLc (wSeqI (wVar 8)) (gN 14) wYes (wCall 3 P_lii (wCons (wVar 14) (wCons (wC (.int 0)) (wCons (wC (.int 5)) wNil)))) [14])))) (wRet (wC (.bl false))) wNext)
    (wSeq (wIfS (wB (wOp gNe (wLc (wSeqI (wVar 8)) (gN 14) (wB (wOp (gIn true) (wVar 14) (wOp gIx (wVar 3) (wC (.int 2))))) (wVar 14) [14]) (wLst wNil))) (wRet (wC (.bl false))) wNext)
    (wIfS (wOr (wB (wOp gNe (wCb gLen (wConsC (wVar 8) wNil)) (wOp gDGetT (wVar 5) (wVar 12)))) (wB (wOp gNe (wCall 2 P_lturn (wCons (wVar 3) (wCons (wVar 8) wNil))) (wVar 12)))) (wRet (wC (.bl false))) wNext))) wNext)
def wb_B (K : PySem.W.Frag) : WS (penAmb K) :=
    (wSeq (wSet 12 (wCall 2 P_lturn (wCons (wVar 3) (wCons (wVar 7) wNil))))
    (wSeq (wIfS (wNot (wB (wCallP 2 (P_same 3) (wConsC (wCall 2 P_turnof (wCons (wVar 3) (wCons (wVar 7) wNil))) (wConsC (wVar 12) wNil))))) (wRet (wC (.bl false))) wNext)
    (wSeq (wSet 8 (wCall 2 P_rowfor (wCons (wVar 3) (wCons (wVar 12) wNil))))
    (wSeq (wIfS (wB (wOp gNe (wOp gIs (wVar 8) (wC .non)) (wOp (gDInT true) (wVar 12) (wVar 5)))) (wRet (wC (.bl false))) wNext)
    (wb_tl K)))))
def wb_A (K : PySem.W.Frag) : WS (penAmb K) :=
    (wFor (wSeqI (wLst (wCons (wVar 3) (wCons (wVar 3) (wCons (wVar 6) (wCons (wVar 3) wNil)))))) (gN 7) (wSeq (wSet 8 (wCall 1 P_turns (wCons (wVar 7) wNil)))
    (wSeq (wIfS (wNot (wB (wCallP 2 (P_same 3) (wConsC (wVar 8) (wConsC (wCb gSortDT (wConsC (wCall 1 P_lturns (wCons (wVar 7) wNil)) wNil)) wNil))))) (wRet (wC (.bl false))) wNext)
    (wSeq (wApp 8 (wC .non))
    (wIfS (wNot (wB (wCallP 2 (P_same 3) (wConsC (wCall 1 P_lc (wCons (wVar 7) wNil)) (wConsC (wCall 1 P_lcount (wCons (wVar 7) wNil)) wNil))))) (wRet (wC (.bl false))) wNext)))))
def wb_C (K : PySem.W.Frag) : WS (penAmb K) :=
    (wSeq (wSet 12 (wCb gTuple (wConsC (wLc (wKeysN (wCall 1 P_lreach (wCons (wVar 3) wNil))) (gN 13) wYes (wOp (gI0 fun i j => .int (i - j)) (wCall 2 P_take (wCons (wVar 1) (wCons (wOp gAdd (wOp gIx (wVar 3) (wC (.int 0))) (wC (.int 1))) wNil))) (wC (.int 1))) [13]) wNil)))
    (wIfS (wB (wOp gNe (wOp gIs (wCall 2 P_rowfor (wCons (wVar 3) (wCons (wVar 12) wNil))) (wC .non)) (wOp (gDInT true) (wVar 12) (wVar 5)))) (wRet (wC (.bl false))) wNext))
theorem trn_ex {s : Sch} (hs : s.Ok) {rs : List Int} (r : RS s rs) : ∃ G, Trn s rs G := by
  have c := cl_T hs r
  obtain ⟨G, e, t⟩ := Trn.of (F := (grT s rs).q (UT s rs).length) ⟨_, rfl, (q_ok c _).len⟩ (q_ok c _)
  exact ⟨G, t⟩
theorem smp_trns {s : Sch} (hs : s.Ok) {rs : List Int} (r : RS s rs) {G : Fq} (t : Trn s rs G) : smp 3 (.lst (trnsD G)) := by
  have p := List.mergeSort_perm (G.map fun e => eff e.1) ordD
  have lG := t.len hs r
  have l5 := r.len hs
  refine smp_lst (by have := p.length_eq; rw [List.length_map] at this; show (trnsD G).length ≤ _; unfold trnsD; omega) fun x hx => ?_
  obtain ⟨e, he, rfl⟩ := List.mem_map.mp (p.mem_iff.mp hx)
  have := (t.ok e he).1
  exact smp_eff (by omega)
abbrev LT (ns : List Int) (ad : Addr) (x2 : Option B) (s : Sch) (x4 : Option B) (G : Fq) (x6 x7 x8 x9 x10 x11 x12 x13 x14 : Option B) : List (Option B) := [some (.d (.seq ns)), some (.d (.obj ad)), x2, some (.d s.d), x4, some (.mT (entQ gL G)), x6, x7, x8, x9, x10, x11, x12, x13, x14]
theorem rd_A {K : PySem.W.Frag} {ns : List Int} {ad : Addr} {x2 x4 x7 x8 x9 x10 x11 x12 x13 x14 : Option B} {s s' : Sch} (hs : s.Ok) (hs' : s'.Ok) {G : Fq} {α : (penAmb K).S} {De : EndsD (penAmb K)}
    (k : ∀ x7 x8, De.nx (LT ns ad x2 s x4 G (some (.d s'.d)) x7 x8 x9 x10 x11 x12 x13 x14, α)) :
    wb_A K De (LT ns ad x2 s x4 G (some (.d s'.d)) x7 x8 x9 x10 x11 x12 x13 x14, α) := by
  refine ⟨(by show 4 ≤ sizeLine; decide), _, rfl, fun i E => ∃ x7 x8, E = (LT ns ad x2 s x4 G (some (.d s'.d)) x7 x8 x9 x10 x11 x12 x13 x14, α), ⟨_, _, rfl⟩, ?_, ?_⟩
  · rintro i d _ hd ⟨y7, y8, rfl⟩
    have hm := List.mem_of_getElem? hd
    obtain ⟨s1, rfl, h1⟩ : ∃ s1 : Sch, d = s1.d ∧ s1.Ok := by
      simp only [List.mem_cons, List.mem_nil_iff, or_false, List.not_mem_nil] at hm
      rcases hm with rfl | rfl | rfl | rfl
      · exact ⟨s, rfl, hs⟩
      · exact ⟨s, rfl, hs⟩
      · exact ⟨s', rfl, hs'⟩
      · exact ⟨s, rfl, hs⟩
    refine ⟨rfl, s1, rfl, h1, fun rs G1 r tr => ?_⟩
    have sm := smp_trns h1 r tr
    have lG := tr.len h1 r
    refine ⟨rfl, s1, rfl, h1, fun rs' G' r' tr' => ?_⟩
    obtain rfl := r'.uniq r
    obtain rfl := tr'.uniq tr
    obtain ⟨a1, a2⟩ := trn_alike tr' gL
    refine ⟨a1, a2, ?_⟩
    rw [entQ_keys]
    refine ⟨rfl, _, rfl, sm, _, rfl, rfl, ?_⟩
    refine ⟨zlt2 (by show (trnsD _).length ≤ _; unfold trnsD; rw [List.length_mergeSort, List.length_map]; omega), ?_⟩
    refine ⟨rfl, s1, rfl, h1, fun rs2 G2 r2 t2 => ?_⟩
    obtain rfl := r2.uniq r
    obtain rfl := t2.uniq tr'
    refine ⟨rfl, s1, rfl, h1, fun rs2 G2 r2 t2 => ?_⟩
    obtain rfl := r2.uniq r
    obtain rfl := t2.uniq tr'
    exact ⟨rfl, _, rfl, .inl ⟨rfl, rfl⟩, _, rfl, rfl, _, _, rfl⟩
  · rintro _ ⟨y7, y8, rfl⟩
    exact k _ _
end DL
set_option maxHeartbeats 4000000
namespace DL
open PySem PySem.Spec L2
open PyProof.Rows hiding St
/-! ### rows and their turns -/
theorem at_zero {α : Type} (x : α) (xs : List α) : atI (x :: xs) 0 = some x := by
  unfold atI
  rw [ixN_nn (by decide) (by rw [List.length_cons]; omega)]
  rfl
theorem isIn_op {s : Sch} (hs : s.Ok) {a : Int} (h : 0 ≤ a ∧ a < s.effs.length) : isIn 0 5 (.int a) = true := by
  have := hs.n1
  show (decide (0 ≤ a) && decide (a ≤ 5)) = true
  rw [decide_eq_true h.1, decide_eq_true (by omega)]
  rfl
theorem all_tr {n : Nat} {Q : R → Prop} (q : Q (.fr (.bl false))) : gIn false (.bl false) (.lst (List.replicate n (.bl true))) Q := by
  refine ⟨_, rfl, rfl, ?_, ?_⟩
  · simp [DL.D.flat]
  · have e : (List.replicate n (DL.D.bl true)).any (fun y => y.eqv (.bl false)) = false := by
      rw [List.any_replicate]
      split <;> rfl
    show Q (.fr (.bl ((List.replicate n (DL.D.bl true)).any fun y => y.eqv (.bl false))))
    rw [e]
    exact q
theorem flat_ints : ∀ xs : List Int, (xs.map DL.D.int).all DL.D.flat = true
  | [] => rfl
  | x :: xs => by rw [List.map_cons, List.all_cons, flat_ints xs]; rfl
theorem any_intE {xs : List Int} {a : Int} (h : a ∈ xs) : ((xs.map DL.D.int).any fun y => y.eqv (.int a)) = true := List.any_eq_true.mpr ⟨.int a, List.mem_map.mpr ⟨a, h, rfl⟩, by
  show PyData.eqv (.int a) (.int a) = true
  simp [PyData.eqv]⟩
theorem rd_tl {K : PySem.W.Frag} {ns : List Int} {ad : Addr} {x2 x4 x6 x7 x9 x10 x11 x13 x14 : Option B} {s : Sch} (hs : s.Ok) {rs : List Int} (r : RS s rs) {G : Fq} (t : Trn s rs G) {goal : List Int} (hg : TOk s rs goal) (hh : hasQ G goal = true) {α : (penAmb K).S} {De : EndsD (penAmb K)}
    (k : ∀ x8 x14, De.nx (LT ns ad x2 s x4 G x6 x7 x8 x9 x10 x11 (some (.d (eff goal))) x13 x14, α)) :
    wb_tl K De (LT ns ad x2 s x4 G x6 x7 (some (.d (gW (wayQ G goal)))) x9 x10 x11 (some (.d (eff goal))) x13 x14, α) := by
  obtain ⟨w, _, hm, hw⟩ := hasQ_mem hh
  rw [hw]
  have lG := t.len hs r
  obtain ⟨ld, lw⟩ := t.g.w _ (List.mem_cons_of_mem _ hm)
  have ld : (grT s rs).Lead [] w goal := ld
  have lw : w.length < (([], []) :: G : Fq).length := lw
  rw [List.length_cons] at lw
  have ne := hg.ne r
  obtain ⟨_, ew, hin⟩ : w ≠ [] ∧ goal = trn s rs w ∧ ∀ a ∈ w, a ∈ s.wr := by
    rcases lead_trn r hs ld with ⟨_, z⟩ | h
    · exact absurd z ne
    · exact h
  have hrw : ∀ a ∈ w, 0 ≤ a ∧ a < s.effs.length := fun a ha => hs.w a (hin a ha)
  have gg := gd_tok hs r hg
  refine ⟨nofun, ?_⟩
  refine ⟨_, rfl, fun i acc α' => α' = α ∧ acc = List.replicate i (.bl true), ⟨rfl, rfl⟩, ?_, ?_⟩
  · rintro i d acc _ hd ⟨rfl, rfl⟩
    obtain ⟨a, ha, rfl⟩ := get_ints hd
    have hi := (List.getElem?_eq_some_iff.mp ha).1
    refine ⟨rfl, _, _, _, rfl, nofun, ?_⟩
    rw [isIn_op hs (hrw a (List.mem_of_getElem? ha))]
    exact ⟨rfl, by rw [List.length_replicate]; exact zlt2 (by omega), rfl, by rw [List.replicate_succ']⟩
  · rintro acc α1 ⟨rfl, rfl⟩
    refine all_tr ?_
    refine ⟨_, rfl, fun i acc α' => α' = α1 ∧ acc = [], ⟨rfl, rfl⟩, ?_, ?_⟩
    · rintro i d acc _ hd ⟨rfl, rfl⟩
      obtain ⟨a, ha, rfl⟩ := get_ints hd
      refine ⟨_, rfl, _, rfl, rfl, flat_ints _, ?_⟩
      show (if (!(s.wr.map DL.D.int).any fun y => y.eqv (.int a)) = true then _ else _)
      rw [any_intE (hin a (List.mem_of_getElem? ha))]
      exact ⟨rfl, rfl, rfl⟩
    · rintro acc α2 ⟨rfl, rfl⟩
      refine ⟨sz0, rfl, rfl, ?_⟩
      refine ⟨tk goal, gL w, tkey_eff _, (get_q gL hh).trans (by rw [hw]), rfl, rfl, ?_⟩
      have e1 : (DL.D.int ((w.map DL.D.int).length : Nat)).eqv (gL w) = true := by
        rw [List.length_map]
        show PyData.eqv (.int _) (.int _) = true
        simp [PyData.eqv]
      show (if (!(DL.D.int ((w.map DL.D.int).length : Nat)).eqv (gL w)) = true then _ else _)
      rw [e1]
      refine ⟨rfl, s, w, rfl, hs, hrw, fun rs' r' => ?_⟩
      obtain rfl := r'.uniq r
      rw [← ew]
      refine ⟨gg.okE (by decide), gg.okE (by decide), ?_⟩
      show (if (!(eff goal).eqv (eff goal)) = true then _ else _)
      rw [eqv_eff, beq_self_eq_true]
      exact k _ _
theorem rd_B {K : PySem.W.Frag} {ns : List Int} {ad : Addr} {x2 x4 x6 x7 x8 x9 x12 x13 x14 : Option B} {s : Sch} (hs : s.Ok) {rs : List Int} (r : RS s rs) {G : Fq} (t : Trn s rs G) {row some' : List Int} (h1 : ∀ a ∈ row, 0 ≤ a ∧ a < s.effs.length) (h2 : ∀ a ∈ some', 0 ≤ a ∧ a < s.effs.length) {α : (penAmb K).S} {De : EndsD (penAmb K)}
    (k : ∀ x7 x8 x12 x14, De.nx (LT ns ad x2 s x4 G x6 x7 x8 x9 (some (.d (eff row))) (some (.d (eff some'))) x12 x13 x14, α)) :
    wFor (wSeqI (wLst (wCons (wVar 10) (wCons (wVar 11) (wCons (wTup wNil) wNil))))) (gN 7) (wb_B K) De (LT ns ad x2 s x4 G x6 x7 x8 x9 (some (.d (eff row))) (some (.d (eff some'))) x12 x13 x14, α) := by
  refine ⟨sz0, sz3, _, rfl, fun i E => ∃ x7 x8 x12 x14, E = (LT ns ad x2 s x4 G x6 x7 x8 x9 (some (.d (eff row))) (some (.d (eff some'))) x12 x13 x14, α), ⟨_, _, _, _, rfl⟩, ?_, ?_⟩
  · rintro i d _ hd ⟨y7, y8, y12, y14, rfl⟩
    have hm := List.mem_of_getElem? hd
    obtain ⟨ro, rfl, hro⟩ : ∃ ro : List Int, d = eff ro ∧ ∀ a ∈ ro, 0 ≤ a ∧ a < s.effs.length := by
      simp only [List.mem_cons, List.mem_nil_iff, or_false, List.not_mem_nil] at hm
      rcases hm with rfl | rfl | rfl
      · exact ⟨row, rfl, h1⟩
      · exact ⟨some', rfl, h2⟩
      · exact ⟨[], rfl, nofun⟩
    refine ⟨rfl, s, ro, rfl, hs, hro, fun rs' r' => ?_⟩
    obtain rfl := r'.uniq r
    have hg := trn_ok hs r ro hro
    have l5 := r.len hs
    have hgl := hg.1
    refine ⟨rfl, s, ro, rfl, hs, hro, fun rs2 r2 => ?_⟩
    obtain rfl := r2.uniq r
    refine ⟨rfl, _, rfl, smp_eff (by omega), _, rfl, rfl, ?_⟩
    refine ⟨rfl, s, _, rfl, hs, fun rs2 G2 r2 t2 => ?_⟩
    obtain rfl := r2.uniq r
    obtain rfl := t2.uniq t
    cases hh : hasQ G2 (trn s rs ro) with
    | false =>
      have e : wayT G2 (trn s rs ro) = .non := by unfold wayT; rw [hh, if_neg Bool.false_ne_true]
      rw [e]
      refine ⟨tk (trn s rs ro), tkey_eff _, rfl, rfl, ?_⟩
      show (if (!(DL.D.bl true).eqv (.bl (!(lookT (entQ gL G2) (tk (trn s rs ro))).isSome))) = true then _ else _)
      rw [some_q, hh]
      exact ⟨_, _, _, _, rfl⟩
    | true =>
      have e : wayT G2 (trn s rs ro) = gW (wayQ G2 (trn s rs ro)) := by unfold wayT; rw [hh, if_pos rfl]
      rw [e]
      refine ⟨tk (trn s rs ro), tkey_eff _, rfl, rfl, ?_⟩
      show (if (!(DL.D.bl false).eqv (.bl (!(lookT (entQ gL G2) (tk (trn s rs ro))).isSome))) = true then _ else _)
      rw [some_q, hh]
      exact rd_tl hs r t2 hg hh fun z8 z14 => ⟨_, _, _, _, rfl⟩
  · rintro _ ⟨y7, y8, y12, y14, rfl⟩
    exact k _ _ _ _
/-! ### any states -/
theorem rd_C {K : PySem.W.Frag} {ns : List Int} {ad : Addr} {x2 x4 x6 x7 x8 x9 x10 x11 x12 x13 x14 : Option B} {s : Sch} (hs : s.Ok) {rs : List Int} (r : RS s rs) {G : Fq} (t : Trn s rs G) {p : Pen} (hp : p.p = ad) (a0 : 0 ≤ p.at_) (a1 : p.at_ < 800000) {De : EndsD (penAmb K)}
    (k : ∀ x12 p', Adv p 10 p' → De.nx (LT ns ad x2 s x4 G x6 x7 x8 x9 x10 x11 x12 x13 x14, some p')) :
    wb_C K De (LT ns ad x2 s x4 G x6 x7 x8 x9 x10 x11 x12 x13 x14, some p) := by
  have v0 := hs.v0
  have v1 := hs.v1
  refine ⟨rfl, s, rfl, hs, fun F h g => ?_⟩
  have lF := g.len hs
  refine ⟨fun i acc α' => ∃ p2 gs, α' = some p2 ∧ Adv p i p2 ∧ acc = gs.map DL.D.int ∧ gs.length = i, ⟨p, [], rfl, .refl, rfl, rfl⟩, ?_, ?_⟩
  · rintro i d acc _ hd ⟨p2, gs, rfl, ad2, rfl, hl⟩
    have hi : i < F.length := by
      have := (List.getElem?_eq_some_iff.mp hd).1
      unfold keysD entG at this
      simpa using this
    obtain ⟨pp, al, au⟩ := id ad2
    refine ⟨_, at_zero _ _, rfl, p2, s.v + 1, by rw [pp, hp] <;> rfl, rfl, by omega, by omega, by omega, by omega, fun f p3 f0 f1 ad3 => ?_⟩
    exact ⟨rfl, zlm2 (by omega), p3, gs ++ [f - 1], rfl, ad2.trans ad3, by rw [List.map_append]; rfl, by rw [List.length_append, List.length_singleton, hl]⟩
  · rintro acc _ ⟨p2, gs, rfl, ad2, rfl, hl⟩
    have hl2 : gs.length = F.length := by
      rw [hl]
      unfold keysD entG
      simp
    have ad3 : Adv p 10 p2 := ad2.le (by
      unfold keysD entG
      simp
      omega)
    refine ⟨rfl, s, gs, rfl, hs, fun rs2 G2 r2 t2 => ?_⟩
    obtain rfl := r2.uniq r
    obtain rfl := t2.uniq t
    cases hh : hasQ G2 gs with
    | false =>
      have e : wayT G2 gs = .non := by unfold wayT; rw [hh, if_neg Bool.false_ne_true]
      rw [e]
      refine ⟨tk gs, tkey_eff gs, rfl, rfl, ?_⟩
      show (if (!(DL.D.bl true).eqv (.bl (!(lookT (entQ gL G2) (tk gs)).isSome))) = true then _ else _)
      rw [some_q, hh]
      exact k _ p2 ad3
    | true =>
      have e : wayT G2 gs = gW (wayQ G2 gs) := by unfold wayT; rw [hh, if_pos rfl]
      rw [e]
      refine ⟨tk gs, tkey_eff gs, rfl, rfl, ?_⟩
      show (if (!(DL.D.bl false).eqv (.bl (!(lookT (entQ gL G2) (tk gs)).isSome))) = true then _ else _)
      rw [some_q, hh]
      exact k _ p2 ad3
end DL
set_option maxHeartbeats 4000000
namespace DL
open PySem PySem.Spec L2
open PyProof.Rows hiding St
/-! ### the law -/
def evN (n : Nat) : List Int := (List.range n).map fun i : Nat => (i : Int)
theorem rngD_ints (n : Nat) : rngD 0 n = (evN n).map DL.D.int := by
  unfold rngD evN
  rw [List.map_map]
  refine List.map_congr_left fun i _ => ?_
  show DL.D.int (0 + (i : Int)) = .int i
  rw [Int.zero_add]
theorem rd_law {K : PySem.W.Frag} : ∀ ds α (Qd : R → (penAmb K).S → Prop), ds.length = 1 → P_law ds α Qd → wb_law K P_lcount P_row P_draw_scheme P_lii P_one_of P_open P_lreach P_rewr (P_same 3) P_take P_lturn P_lturns P_lc P_rowfor P_turnof P_turns (endsOf Qd) (startB 15 ds, α) := by
  rintro _ α Q _ ⟨ns, rfl, rfl, q⟩
  refine ⟨rfl, ns, rfl, rfl, fun cells => ⟨cells, rfl, fun ad => ?_⟩⟩
  let p0 : Pen := ⟨ad, cells, 0, 0⟩
  refine ⟨by decide, by decide, fun t E => ∃ p' x2 x3 x4 x5 x6 x7 x8 x9 x10 x11 x12 x13 x14, E = ([some (.d (.seq ns)), some (.d (.obj ad)), x2, x3, x4, x5, x6, x7, x8, x9, x10, x11, x12, x13, x14], some p') ∧ Adv p0 (2000 * t) p', ⟨p0, none, none, none, none, none, none, none, none, none, none, none, none, none, rfl, .refl⟩, ?_, ?_⟩
  · rintro t d _ hd ⟨p1, x2, x3, x4, x5, x6, x7, x8, x9, x10, x11, x12, x13, x14, rfl, ad1⟩
    obtain ⟨ht, rfl⟩ := get_rng hd
    have ht : t < 2 := ht
    obtain ⟨pp1, al1, au1⟩ := id ad1
    have pp1 : p1.p = ad := pp1
    have z0 : p0.at_ = 0 := rfl
    refine ⟨sz2, rfl, p1, [.int 2, .int 3], .lst [.int 2, .int 3], by rw [pp1] <;> rfl, .inl rfl, rfl, nofun, by decide, by omega, by omega, fun full p2 hf ad2 => ?_⟩
    obtain ⟨pp2, al2, au2⟩ := id ad2
    obtain ⟨fi, rfl, f0, f1⟩ : ∃ fi : Int, full = .int fi ∧ 1 ≤ fi ∧ fi ≤ 4 := by
      simp only [List.mem_cons, List.mem_nil_iff, or_false, List.not_mem_nil] at hf
      rcases hf with rfl | rfl
      · exact ⟨2, rfl, by decide, by decide⟩
      · exact ⟨3, rfl, by decide, by decide⟩
    refine ⟨rfl, p2, fi, 6, 2, by rw [pp2, pp1] <;> rfl, rfl, f0, f1, by decide, by decide, by decide, by decide, by omega, by omega, fun s p3 hs ad3 => ?_⟩
    obtain ⟨pp3, al3, au3⟩ := id ad3
    have n0 := hs.n0
    have n1 := hs.n1
    obtain ⟨rs, r⟩ := rs_ex hs
    obtain ⟨G, tr⟩ := trn_ex hs r
    have pp3 : p3.p = ad := pp3.trans (pp2.trans pp1)
    refine ⟨_, rfl, ⟨by decide, by rw [List.length_map]; omega⟩, ?_⟩
    have e : rngD 0 (((s.effs.map eff).length : Nat) : Int).toNat = (evN s.effs.length).map .int := by
      rw [Int.toNat_natCast, List.length_map]
      exact rngD_ints _
    rw [e]
    have rl : (evN s.effs.length).length = s.effs.length := by unfold evN; rw [List.length_map, List.length_range]
    have rne : evN s.effs.length ≠ [] := fun z => by rw [z] at rl; have : ([] : List Int).length = 0 := rfl; omega
    have rmem : ∀ a ∈ evN s.effs.length, 0 ≤ a ∧ a < s.effs.length := fun a ha => by
      obtain ⟨i, hi, rfl⟩ := List.mem_map.mp ha
      have := List.mem_range.mp hi
      omega
    refine ⟨rfl, s, rfl, hs, fun rs' G' r' t' => ?_⟩
    obtain rfl := r'.uniq r
    obtain rfl := t'.uniq tr
    refine ⟨rfl, p3, s, by rw [pp3] <;> rfl, rfl, hs, by omega, by omega, fun s' p4 hs' ad4 => ?_⟩
    obtain ⟨pp4, al4, au4⟩ := id ad4
    have pp4 : p4.p = ad := pp4.trans pp3
    refine rd_A hs hs' fun y7 y8 => ?_
    refine ⟨by decide, by decide, fun i E => ∃ p' b x7 x8 x9 x10 x11 x12 x14, E = (LT ns ad (some (.d (.int (0 + (t : Int))))) s (some b) G' (some (.d s'.d)) x7 x8 x9 x10 x11 x12 x13 x14, some p') ∧ (b = .l ((evN s.effs.length).map .int) ∨ b = .d (.lst ((evN s.effs.length).map .int))) ∧ Adv p4 (70 * i) p', ⟨p4, _, _, _, _, _, _, _, _, rfl, .inl rfl, .refl⟩, ?_, ?_⟩
    · rintro i d _ hd ⟨p5, b, y7, y8, y9, y10, y11, y12, y14, rfl, hb, ad5⟩
      obtain ⟨hi, rfl⟩ := get_rng hd
      have hi : i < 4 := hi
      obtain ⟨pp5, al5, au5⟩ := id ad5
      have pp5 : p5.p = ad := pp5.trans pp4
      have w0 := hs.w0
      have w1 := hs.w1
      rcases hb with rfl | rfl
      · refine ⟨rfl, p5, _, 6, by rw [pp5] <;> rfl, rfl, rne, by omega, by decide, by decide, by omega, by omega, fun row p6 hl6 hm6 ad6 => ?_⟩
        obtain ⟨pp6, al6, au6⟩ := id ad6
        have pp6 : p6.p = ad := pp6.trans pp5
        refine ⟨_, rfl, _, rfl, rfl, p6, s.wr, 5, by rw [pp6] <;> rfl, rfl, w0, by omega, by decide, by decide, by omega, by omega, fun so p7 hl7 hm7 ad7 => ?_⟩
        exact rd_B hs r tr (fun a ha => rmem a (hm6 a ha)) (fun a ha => hs.w a (hm7 a ha)) fun z7 z8 z12 z14 => ⟨p7, _, _, _, _, _, _, _, _, rfl, .inr rfl, ((ad5.trans ad6).trans ad7).le (by omega)⟩
      · refine ⟨rfl, p5, _, 6, by rw [pp5] <;> rfl, rfl, rne, by omega, by decide, by decide, by omega, by omega, fun row p6 hl6 hm6 ad6 => ?_⟩
        obtain ⟨pp6, al6, au6⟩ := id ad6
        have pp6 : p6.p = ad := pp6.trans pp5
        refine ⟨_, rfl, _, rfl, rfl, p6, s.wr, 5, by rw [pp6] <;> rfl, rfl, w0, by omega, by decide, by decide, by omega, by omega, fun so p7 hl7 hm7 ad7 => ?_⟩
        exact rd_B hs r tr (fun a ha => rmem a (hm6 a ha)) (fun a ha => hs.w a (hm7 a ha)) fun z7 z8 z12 z14 => ⟨p7, _, _, _, _, _, _, _, _, rfl, .inr rfl, ((ad5.trans ad6).trans ad7).le (by omega)⟩
    · rintro _ ⟨p5, b, y7, y8, y9, y10, y11, y12, y14, rfl, hb, ad5⟩
      have ad5 : Adv p4 300 p5 := ad5.le (by show 70 * (4 : Int) ≤ 300; decide)
      obtain ⟨pp5, al5, au5⟩ := id ad5
      have pp5 : p5.p = ad := pp5.trans pp4
      exact rd_C hs r tr pp5 (by omega) (by omega) fun z12 p6 ad6 => ⟨p6, _, _, _, _, _, _, _, _, _, _, _, _, _, rfl, (((((ad1.trans ad2).trans ad3).trans ad4).trans ad5).trans ad6).le (by omega)⟩
  · rintro _ ⟨p1, x2, x3, x4, x5, x6, x7, x8, x9, x10, x11, x12, x13, x14, rfl, ad1⟩
    exact q _
end DL
namespace DL
open PySem PySem.Spec L2
open PyProof.Rows hiding St
theorem all_mk {l : PySem.W.OpenLaw} {w : World} {K : PySem.W.Frag} {h : Heap} {mg : Str → Option Value} {fa : Addr} {f0 f1 f2 f3 f4 f5 f6 f7 f8 f9 f10 f11 f12 f13 f14 f15 f16 f17 f18 f19 f20 f21 f22 f23 f24 f25 f26 f27 f28 f29 f30 : Addr} {od0 an0 od1 an1 od2 an2 od3 an3 od4 an4 od5 an5 od6 an6 od7 an7 od8 an8 od9 an9 od10 an10 od11 an11 od12 an12 od13 an13 od14 an14 od15 an15 od16 an16 od17 an17 od18 an18 od19 an19 od20 an20 od21 an21 od22 an22 od23 an23 od24 an24 od25 an25 od26 an26 od27 an27 od28 an28 od29 an29 od30 an30 : Option Addr} {sl0 sl1 sl2 sl3 sl4 sl5 sl6 sl7 sl8 sl9 sl10 sl11 sl12 sl13 sl14 sl15 sl16 sl17 sl18 sl19 sl20 sl21 sl22 sl23 sl24 sl25 sl26 sl27 sl28 sl29 sl30 : Array (Option Value)}
    {oc0 kV0 dc0 pm0 cd0 ct0 oc1 kV1 dc1 pm1 cd1 ct1 oc2 kV2 dc2 pm2 cd2 ct2 oc3 kV3 dc3 pm3 cd3 ct3 oc4 kV4 dc4 pm4 ct4 oc5 kV5 dc5 pm5 cd5 ct5 oc6 kV6 dc6 pm6 cd6 ct6 oc7 kV7 dc7 pm7 cd7 ct7 oc8 kV8 dc8 pm8 ct8 oc9 kV9 dc9 pm9 cd9 ct9 oc10 kV10 dc10 pm10 cd10 ct10 oc11 kV11 dc11 pm11 cd11 ct11 oc12 kV12 dc12 pm12 cd12 ct12 oc13 kV13 dc13 pm13 cd13 ct13 oc14 kV14 dc14 pm14 cd14 ct14 oc15 kV15 dc15 pm15 cd15 ct15 oc16 kV16 dc16 pm16 cd16 ct16 oc17 kV17 dc17 pm17 cd17 ct17 oc18 kV18 dc18 pm18 cd18 ct18 oc19 kV19 dc19 pm19 cd19 ct19 oc20 kV20 dc20 pm20 cd20 ct20 oc21 kV21 dc21 pm21 cd21 ct21 oc22 kV22 dc22 pm22 cd22 ct22 oc23 kV23 dc23 pm23 cd23 ct23 oc24 kV24 dc24 pm24 cd24 ct24 oc25 kV25 dc25 pm25 cd25 ct25 oc26 kV26 dc26 pm26 cd26 ct26 oc27 kV27 dc27 pm27 cd27 ct27 oc28 kV28 dc28 pm28 cd28 ct28 oc29 kV29 dc29 pm29 cd29 ct29 oc30 kV30 dc30 pm30 cd30 ct30 : Value} {cq4 cq8 : Addr} {t_ABSENT : Tok} (X : K.In h) (G : h.Ns mainGlobals mg) (hfa : mg "law" = some (.ref fa))
    (a0 : PySem.W.nsIn K mainGlobals "effect" = some (some (.ref f0))) (l0 : K.lookup f0 = some ⟨oc0, od0, .func (PySem.W.fnOf "effect" "effect" (defArgs st_effect) (defBody st_effect) (defScope st_effect) .none kV0 dc0 pm0 an0 cd0 ct0), sl0⟩) (c0 : PySem.W.codeIn K cd0 "effect" = true) (k0 : PySem.W.keepIn K (.ref f0) = true)
    (a1 : PySem.W.nsIn K mainGlobals "shortest_walks" = some (some (.ref f1))) (l1 : K.lookup f1 = some ⟨oc1, od1, .func (PySem.W.fnOf "shortest_walks" "shortest_walks" (defArgs st_shortest_walks) (defBody st_shortest_walks) (defScope st_shortest_walks) .none kV1 dc1 pm1 an1 cd1 ct1), sl1⟩) (c1 : PySem.W.codeIn K cd1 "shortest_walks" = true) (k1 : PySem.W.keepIn K (.ref f1) = true)
    (a2 : PySem.W.nsIn K mainGlobals "shortest_walks" = some (some (.ref f2))) (l2 : K.lookup f2 = some ⟨oc2, od2, .func (PySem.W.fnOf "shortest_walks" "shortest_walks" (defArgs st_shortest_walks_T) (defBody st_shortest_walks_T) (defScope st_shortest_walks_T) .none kV2 dc2 pm2 an2 cd2 ct2), sl2⟩) (c2 : PySem.W.codeIn K cd2 "shortest_walks" = true) (k2 : PySem.W.keepIn K (.ref f2) = true)
    (a3 : PySem.W.nsIn K mainGlobals "state_after" = some (some (.ref f3))) (l3 : K.lookup f3 = some ⟨oc3, od3, .func (PySem.W.fnOf "state_after" "state_after" (defArgs st_state_after) (defBody st_state_after) (defScope st_state_after) .none kV3 dc3 pm3 an3 cd3 ct3), sl3⟩) (c3 : PySem.W.codeIn K cd3 "state_after" = true) (k3 : PySem.W.keepIn K (.ref f3) = true)
    (a4 : PySem.W.nsIn K mainGlobals "_shortest_ways" = some (some (.ref f4))) (l4 : K.lookup f4 = some ⟨oc4, od4, .func (PySem.W.fnOf "_shortest_ways" "_shortest_ways" (defArgs st__shortest_ways) (defBody st__shortest_ways) (defScope st__shortest_ways) .none kV4 dc4 pm4 an4 (.ref cq4) ct4), sl4⟩) (c4 : PySem.W.codeIn K (.ref cq4) "_shortest_ways" = true) (k4 : PySem.W.keepIn K (.ref f4) = true)
    (a5 : PySem.W.nsIn K mainGlobals "reached" = some (some (.ref f5))) (l5 : K.lookup f5 = some ⟨oc5, od5, .func (PySem.W.fnOf "reached" "reached" (defArgs st_reached) (defBody st_reached) (defScope st_reached) .none kV5 dc5 pm5 an5 cd5 ct5), sl5⟩) (c5 : PySem.W.codeIn K cd5 "reached" = true) (k5 : PySem.W.keepIn K (.ref f5) = true)
    (a6 : PySem.W.nsIn K mainGlobals "turn_of" = some (some (.ref f6))) (l6 : K.lookup f6 = some ⟨oc6, od6, .func (PySem.W.fnOf "turn_of" "turn_of" (defArgs st_turn_of) (defBody st_turn_of) (defScope st_turn_of) .none kV6 dc6 pm6 an6 cd6 ct6), sl6⟩) (c6 : PySem.W.codeIn K cd6 "turn_of" = true) (k6 : PySem.W.keepIn K (.ref f6) = true)
    (a7 : PySem.W.nsIn K mainGlobals "_turns_behind" = some (some (.ref f7))) (l7 : K.lookup f7 = some ⟨oc7, od7, .func (PySem.W.fnOf "_turns_behind" "_turns_behind" (defArgs st__turns_behind) (defBody st__turns_behind) (defScope st__turns_behind) .none kV7 dc7 pm7 an7 cd7 ct7), sl7⟩) (c7 : PySem.W.codeIn K cd7 "_turns_behind" = true) (k7 : PySem.W.keepIn K (.ref f7) = true)
    (a8 : PySem.W.nsIn K mainGlobals "_shortest_rows" = some (some (.ref f8))) (l8 : K.lookup f8 = some ⟨oc8, od8, .func (PySem.W.fnOf "_shortest_rows" "_shortest_rows" (defArgs st__shortest_rows) (defBody st__shortest_rows) (defScope st__shortest_rows) .none kV8 dc8 pm8 an8 (.ref cq8) ct8), sl8⟩) (c8 : PySem.W.codeIn K (.ref cq8) "_shortest_rows" = true) (k8 : PySem.W.keepIn K (.ref f8) = true)
    (a9 : PySem.W.nsIn K mainGlobals "turns" = some (some (.ref f9))) (l9 : K.lookup f9 = some ⟨oc9, od9, .func (PySem.W.fnOf "turns" "turns" (defArgs st_turns) (defBody st_turns) (defScope st_turns) .none kV9 dc9 pm9 an9 cd9 ct9), sl9⟩) (c9 : PySem.W.codeIn K cd9 "turns" = true) (k9 : PySem.W.keepIn K (.ref f9) = true)
    (a10 : PySem.W.nsIn K mainGlobals "row_for" = some (some (.ref f10))) (l10 : K.lookup f10 = some ⟨oc10, od10, .func (PySem.W.fnOf "row_for" "row_for" (defArgs st_row_for) (defBody st_row_for) (defScope st_row_for) .none kV10 dc10 pm10 an10 cd10 ct10), sl10⟩) (c10 : PySem.W.codeIn K cd10 "row_for" = true) (k10 : PySem.W.keepIn K (.ref f10) = true)
    (a11 : PySem.W.nsIn K mainGlobals "_further_turns" = some (some (.ref f11))) (l11 : K.lookup f11 = some ⟨oc11, od11, .func (PySem.W.fnOf "_further_turns" "_further_turns" (defArgs st__further_turns) (defBody st__further_turns) (defScope st__further_turns) .none kV11 dc11 pm11 an11 cd11 ct11), sl11⟩) (c11 : PySem.W.codeIn K cd11 "_further_turns" = true) (k11 : PySem.W.keepIn K (.ref f11) = true)
    (a12 : PySem.W.nsIn K mainGlobals "least_count" = some (some (.ref f12))) (l12 : K.lookup f12 = some ⟨oc12, od12, .func (PySem.W.fnOf "least_count" "least_count" (defArgs st_least_count) (defBody st_least_count) (defScope st_least_count) .none kV12 dc12 pm12 an12 cd12 ct12), sl12⟩) (c12 : PySem.W.codeIn K cd12 "least_count" = true) (k12 : PySem.W.keepIn K (.ref f12) = true)
    (a13 : PySem.W.nsIn K mainGlobals "_law_open" = some (some (.ref f13))) (l13 : K.lookup f13 = some ⟨oc13, od13, .func (PySem.W.fnOf "_law_open" "_law_open" (defArgs st__law_open) (defBody st__law_open) (defScope st__law_open) .none kV13 dc13 pm13 an13 cd13 ct13), sl13⟩) (c13 : PySem.W.codeIn K cd13 "_law_open" = true) (k13 : PySem.W.keepIn K (.ref f13) = true)
    (a14 : PySem.W.nsIn K mainGlobals "_law_spread" = some (some (.ref f14))) (l14 : K.lookup f14 = some ⟨oc14, od14, .func (PySem.W.fnOf "_law_spread" "_law_spread" (defArgs st__law_spread) (defBody st__law_spread) (defScope st__law_spread) .none kV14 dc14 pm14 an14 cd14 ct14), sl14⟩) (c14 : PySem.W.codeIn K cd14 "_law_spread" = true) (k14 : PySem.W.keepIn K (.ref f14) = true)
    (a15 : PySem.W.nsIn K mainGlobals "_law_take" = some (some (.ref f15))) (l15 : K.lookup f15 = some ⟨oc15, od15, .func (PySem.W.fnOf "_law_take" "_law_take" (defArgs st__law_take) (defBody st__law_take) (defScope st__law_take) .none kV15 dc15 pm15 an15 cd15 ct15), sl15⟩) (c15 : PySem.W.codeIn K cd15 "_law_take" = true) (k15 : PySem.W.keepIn K (.ref f15) = true)
    (a16 : PySem.W.nsIn K mainGlobals "_law_same" = some (some (.ref f16))) (l16 : K.lookup f16 = some ⟨oc16, od16, .func (PySem.W.fnOf "_law_same" "_law_same" (defArgs st__law_same) (defBody st__law_same) (defScope st__law_same) .none kV16 dc16 pm16 an16 cd16 ct16), sl16⟩) (c16 : PySem.W.codeIn K cd16 "_law_same" = true) (k16 : PySem.W.keepIn K (.ref f16) = true)
    (a17 : PySem.W.nsIn K mainGlobals "_law_one_of" = some (some (.ref f17))) (l17 : K.lookup f17 = some ⟨oc17, od17, .func (PySem.W.fnOf "_law_one_of" "_law_one_of" (defArgs st__law_one_of) (defBody st__law_one_of) (defScope st__law_one_of) .none kV17 dc17 pm17 an17 cd17 ct17), sl17⟩) (c17 : PySem.W.codeIn K cd17 "_law_one_of" = true) (k17 : PySem.W.keepIn K (.ref f17) = true)
    (a18 : PySem.W.nsIn K mainGlobals "_law_is_int" = some (some (.ref f18))) (l18 : K.lookup f18 = some ⟨oc18, od18, .func (PySem.W.fnOf "_law_is_int" "_law_is_int" (defArgs st__law_is_int) (defBody st__law_is_int) (defScope st__law_is_int) .none kV18 dc18 pm18 an18 cd18 ct18), sl18⟩) (c18 : PySem.W.codeIn K cd18 "_law_is_int" = true) (k18 : PySem.W.keepIn K (.ref f18) = true)
    (a19 : PySem.W.nsIn K mainGlobals "_law_draw_effect" = some (some (.ref f19))) (l19 : K.lookup f19 = some ⟨oc19, od19, .func (PySem.W.fnOf "_law_draw_effect" "_law_draw_effect" (defArgs st__law_draw_effect) (defBody st__law_draw_effect) (defScope st__law_draw_effect) .none kV19 dc19 pm19 an19 cd19 ct19), sl19⟩) (c19 : PySem.W.codeIn K cd19 "_law_draw_effect" = true) (k19 : PySem.W.keepIn K (.ref f19) = true)
    (a20 : PySem.W.nsIn K mainGlobals "_law_draw_written" = some (some (.ref f20))) (l20 : K.lookup f20 = some ⟨oc20, od20, .func (PySem.W.fnOf "_law_draw_written" "_law_draw_written" (defArgs st__law_draw_written) (defBody st__law_draw_written) (defScope st__law_draw_written) .none kV20 dc20 pm20 an20 cd20 ct20), sl20⟩) (c20 : PySem.W.codeIn K cd20 "_law_draw_written" = true) (k20 : PySem.W.keepIn K (.ref f20) = true)
    (a21 : PySem.W.nsIn K mainGlobals "_law_fold" = some (some (.ref f21))) (l21 : K.lookup f21 = some ⟨oc21, od21, .func (PySem.W.fnOf "_law_fold" "_law_fold" (defArgs st__law_fold) (defBody st__law_fold) (defScope st__law_fold) .none kV21 dc21 pm21 an21 cd21 ct21), sl21⟩) (c21 : PySem.W.codeIn K cd21 "_law_fold" = true) (k21 : PySem.W.keepIn K (.ref f21) = true)
    (a22 : PySem.W.nsIn K mainGlobals "_law_fits" = some (some (.ref f22))) (l22 : K.lookup f22 = some ⟨oc22, od22, .func (PySem.W.fnOf "_law_fits" "_law_fits" (defArgs st__law_fits) (defBody st__law_fits) (defScope st__law_fits) .none kV22 dc22 pm22 an22 cd22 ct22), sl22⟩) (c22 : PySem.W.codeIn K cd22 "_law_fits" = true) (k22 : PySem.W.keepIn K (.ref f22) = true)
    (a23 : PySem.W.nsIn K mainGlobals "_law_draw_scheme" = some (some (.ref f23))) (l23 : K.lookup f23 = some ⟨oc23, od23, .func (PySem.W.fnOf "_law_draw_scheme" "_law_draw_scheme" (defArgs st__law_draw_scheme) (defBody st__law_draw_scheme) (defScope st__law_draw_scheme) .none kV23 dc23 pm23 an23 cd23 ct23), sl23⟩) (c23 : PySem.W.codeIn K cd23 "_law_draw_scheme" = true) (k23 : PySem.W.keepIn K (.ref f23) = true)
    (a24 : PySem.W.nsIn K mainGlobals "_law_reach" = some (some (.ref f24))) (l24 : K.lookup f24 = some ⟨oc24, od24, .func (PySem.W.fnOf "_law_reach" "_law_reach" (defArgs st__law_reach) (defBody st__law_reach) (defScope st__law_reach) .none kV24 dc24 pm24 an24 cd24 ct24), sl24⟩) (c24 : PySem.W.codeIn K cd24 "_law_reach" = true) (k24 : PySem.W.keepIn K (.ref f24) = true)
    (a25 : PySem.W.nsIn K mainGlobals "_law_draw_row" = some (some (.ref f25))) (l25 : K.lookup f25 = some ⟨oc25, od25, .func (PySem.W.fnOf "_law_draw_row" "_law_draw_row" (defArgs st__law_draw_row) (defBody st__law_draw_row) (defScope st__law_draw_row) .none kV25 dc25 pm25 an25 cd25 ct25), sl25⟩) (c25 : PySem.W.codeIn K cd25 "_law_draw_row" = true) (k25 : PySem.W.keepIn K (.ref f25) = true)
    (a26 : PySem.W.nsIn K mainGlobals "_law_turn" = some (some (.ref f26))) (l26 : K.lookup f26 = some ⟨oc26, od26, .func (PySem.W.fnOf "_law_turn" "_law_turn" (defArgs st__law_turn) (defBody st__law_turn) (defScope st__law_turn) .none kV26 dc26 pm26 an26 cd26 ct26), sl26⟩) (c26 : PySem.W.codeIn K cd26 "_law_turn" = true) (k26 : PySem.W.keepIn K (.ref f26) = true)
    (a27 : PySem.W.nsIn K mainGlobals "_law_turns" = some (some (.ref f27))) (l27 : K.lookup f27 = some ⟨oc27, od27, .func (PySem.W.fnOf "_law_turns" "_law_turns" (defArgs st__law_turns) (defBody st__law_turns) (defScope st__law_turns) .none kV27 dc27 pm27 an27 cd27 ct27), sl27⟩) (c27 : PySem.W.codeIn K cd27 "_law_turns" = true) (k27 : PySem.W.keepIn K (.ref f27) = true)
    (a28 : PySem.W.nsIn K mainGlobals "_law_count" = some (some (.ref f28))) (l28 : K.lookup f28 = some ⟨oc28, od28, .func (PySem.W.fnOf "_law_count" "_law_count" (defArgs st__law_count) (defBody st__law_count) (defScope st__law_count) .none kV28 dc28 pm28 an28 cd28 ct28), sl28⟩) (c28 : PySem.W.codeIn K cd28 "_law_count" = true) (k28 : PySem.W.keepIn K (.ref f28) = true)
    (a29 : PySem.W.nsIn K mainGlobals "_law_rewritten" = some (some (.ref f29))) (l29 : K.lookup f29 = some ⟨oc29, od29, .func (PySem.W.fnOf "_law_rewritten" "_law_rewritten" (defArgs st__law_rewritten) (defBody st__law_rewritten) (defScope st__law_rewritten) .none kV29 dc29 pm29 an29 cd29 ct29), sl29⟩) (c29 : PySem.W.codeIn K cd29 "_law_rewritten" = true) (k29 : PySem.W.keepIn K (.ref f29) = true)
    (a30 : PySem.W.nsIn K mainGlobals "law" = some (some (.ref f30))) (l30 : K.lookup f30 = some ⟨oc30, od30, .func (PySem.W.fnOf "law" "law" (defArgs st_law) (defBody st_law) (defScope st_law) .none kV30 dc30 pm30 an30 cd30 ct30), sl30⟩) (c30 : PySem.W.codeIn K cd30 "law" = true) (k30 : PySem.W.keepIn K (.ref f30) = true)
    (z0 : PySem.W.nsIn K mainGlobals "bool" = some none) (z1 : PySem.W.nsIn K mainGlobals "enumerate" = some none) (z2 : PySem.W.nsIn K mainGlobals "int" = some none) (z3 : PySem.W.nsIn K mainGlobals "isinstance" = some none) (z4 : PySem.W.nsIn K mainGlobals "len" = some none) (z5 : PySem.W.nsIn K mainGlobals "list" = some none) (z6 : PySem.W.nsIn K mainGlobals "min" = some none) (z7 : PySem.W.nsIn K mainGlobals "range" = some none) (z8 : PySem.W.nsIn K mainGlobals "sorted" = some none) (z9 : PySem.W.nsIn K mainGlobals "str" = some none) (z10 : PySem.W.nsIn K mainGlobals "tuple" = some none) (z11 : PySem.W.nsIn K mainGlobals "zip" = some none) (y0 : PySem.W.nsIn K mainGlobals "ABSENT" = some (some (.int c_ABSENT t_ABSENT))) :
    ∃ fd : FuncData, (∀ (s : Shared) (v : Value), BindsTo s fd ⟨[v], []⟩ [("script", v)]) ∧ ∀ base : Heap, K.In base → base.Ns mainGlobals mg → (∀ p ∈ ([(cq8, 77), (cq4, 44)] : List (Addr × Addr)), LamX.TabB base mg p.1 p.2) → FnG l.prog w K mg base 12 fa fd ["script"] (spD (penAmb K) 1 P_law) := by
  have e := hfa.symm.trans (PySem.W.mg_of X G a30)
  cases e
  have T : Txt K mg := ⟨PySem.W.mg_none_of X G z0, PySem.W.mg_none_of X G z1, PySem.W.mg_none_of X G z2, PySem.W.mg_none_of X G z3, PySem.W.mg_none_of X G z4, PySem.W.mg_none_of X G z5, PySem.W.mg_none_of X G z6, PySem.W.mg_none_of X G z7, PySem.W.mg_none_of X G z8, PySem.W.mg_none_of X G z9, PySem.W.mg_none_of X G z10, PySem.W.mg_none_of X G z11, ⟨_, PySem.W.mg_of X G y0⟩⟩
  have F0 := fun_mk (st := st_effect) l0 c0 k0
  have D0 : Def K mg "effect" st_effect ["scheme", "operand", "state"] := ⟨f0, _, PySem.W.mg_of X G a0, F0, F0.binds (ps := ["scheme", "operand", "state"]) fun _ _ _ _ _ _ us hl => match us, hl with | [_, _, _], _ => rfl⟩
  have F1 := fun_mk (st := st_shortest_walks) l1 c1 k1
  have D1 : Def K mg "shortest_walks" st_shortest_walks ["start", "moves"] := ⟨f1, _, PySem.W.mg_of X G a1, F1, F1.binds (ps := ["start", "moves"]) fun _ _ _ _ _ _ us hl => match us, hl with | [_, _], _ => rfl⟩
  have F2 := fun_mk (st := st_shortest_walks_T) l2 c2 k2
  have D2 : Def K mg "shortest_walks" st_shortest_walks_T ["start", "moves"] := ⟨f2, _, PySem.W.mg_of X G a2, F2, F2.binds (ps := ["start", "moves"]) fun _ _ _ _ _ _ us hl => match us, hl with | [_, _], _ => rfl⟩
  have F3 := fun_mk (st := st_state_after) l3 c3 k3
  have D3 : Def K mg "state_after" st_state_after ["scheme", "state", "row"] := ⟨f3, _, PySem.W.mg_of X G a3, F3, F3.binds (ps := ["scheme", "state", "row"]) fun _ _ _ _ _ _ us hl => match us, hl with | [_, _, _], _ => rfl⟩
  have F4 := fun_mk (st := st__shortest_ways) l4 c4 k4
  have D4 : DefC K mg "_shortest_ways" st__shortest_ways ["scheme"] cq4 := ⟨f4, _, PySem.W.mg_of X G a4, F4, F4.binds (ps := ["scheme"]) (fun _ _ _ _ _ _ us hl => match us, hl with | [_], _ => rfl), rfl⟩
  have F5 := fun_mk (st := st_reached) l5 c5 k5
  have D5 : Def K mg "reached" st_reached ["scheme"] := ⟨f5, _, PySem.W.mg_of X G a5, F5, F5.binds (ps := ["scheme"]) fun _ _ _ _ _ _ us hl => match us, hl with | [_], _ => rfl⟩
  have F6 := fun_mk (st := st_turn_of) l6 c6 k6
  have D6 : Def K mg "turn_of" st_turn_of ["scheme", "row"] := ⟨f6, _, PySem.W.mg_of X G a6, F6, F6.binds (ps := ["scheme", "row"]) fun _ _ _ _ _ _ us hl => match us, hl with | [_, _], _ => rfl⟩
  have F7 := fun_mk (st := st__turns_behind) l7 c7 k7
  have D7 : Def K mg "_turns_behind" st__turns_behind ["scheme", "states"] := ⟨f7, _, PySem.W.mg_of X G a7, F7, F7.binds (ps := ["scheme", "states"]) fun _ _ _ _ _ _ us hl => match us, hl with | [_, _], _ => rfl⟩
  have F8 := fun_mk (st := st__shortest_rows) l8 c8 k8
  have D8 : DefC K mg "_shortest_rows" st__shortest_rows ["scheme"] cq8 := ⟨f8, _, PySem.W.mg_of X G a8, F8, F8.binds (ps := ["scheme"]) (fun _ _ _ _ _ _ us hl => match us, hl with | [_], _ => rfl), rfl⟩
  have F9 := fun_mk (st := st_turns) l9 c9 k9
  have D9 : Def K mg "turns" st_turns ["scheme"] := ⟨f9, _, PySem.W.mg_of X G a9, F9, F9.binds (ps := ["scheme"]) fun _ _ _ _ _ _ us hl => match us, hl with | [_], _ => rfl⟩
  have F10 := fun_mk (st := st_row_for) l10 c10 k10
  have D10 : Def K mg "row_for" st_row_for ["scheme", "turn"] := ⟨f10, _, PySem.W.mg_of X G a10, F10, F10.binds (ps := ["scheme", "turn"]) fun _ _ _ _ _ _ us hl => match us, hl with | [_, _], _ => rfl⟩
  have F11 := fun_mk (st := st__further_turns) l11 c11 k11
  have D11 : Def K mg "_further_turns" st__further_turns ["scheme"] := ⟨f11, _, PySem.W.mg_of X G a11, F11, F11.binds (ps := ["scheme"]) fun _ _ _ _ _ _ us hl => match us, hl with | [_], _ => rfl⟩
  have F12 := fun_mk (st := st_least_count) l12 c12 k12
  have D12 : Def K mg "least_count" st_least_count ["scheme"] := ⟨f12, _, PySem.W.mg_of X G a12, F12, F12.binds (ps := ["scheme"]) fun _ _ _ _ _ _ us hl => match us, hl with | [_], _ => rfl⟩
  have F13 := fun_mk (st := st__law_open) l13 c13 k13
  have D13 : Def K mg "_law_open" st__law_open ["script"] := ⟨f13, _, PySem.W.mg_of X G a13, F13, F13.binds (ps := ["script"]) fun _ _ _ _ _ _ us hl => match us, hl with | [_], _ => rfl⟩
  have F14 := fun_mk (st := st__law_spread) l14 c14 k14
  have D14 : Def K mg "_law_spread" st__law_spread ["cell", "at"] := ⟨f14, _, PySem.W.mg_of X G a14, F14, F14.binds (ps := ["cell", "at"]) fun _ _ _ _ _ _ us hl => match us, hl with | [_, _], _ => rfl⟩
  have F15 := fun_mk (st := st__law_take) l15 c15 k15
  have D15 : Def K mg "_law_take" st__law_take ["pen", "amount"] := ⟨f15, _, PySem.W.mg_of X G a15, F15, F15.binds (ps := ["pen", "amount"]) fun _ _ _ _ _ _ us hl => match us, hl with | [_, _], _ => rfl⟩
  have F16 := fun_mk (st := st__law_same) l16 c16 k16
  have D16 : Def K mg "_law_same" st__law_same ["found", "due"] := ⟨f16, _, PySem.W.mg_of X G a16, F16, F16.binds (ps := ["found", "due"]) fun _ _ _ _ _ _ us hl => match us, hl with | [_, _], _ => rfl⟩
  have F17 := fun_mk (st := st__law_one_of) l17 c17 k17
  have D17 : Def K mg "_law_one_of" st__law_one_of ["pen", "some"] := ⟨f17, _, PySem.W.mg_of X G a17, F17, F17.binds (ps := ["pen", "some"]) fun _ _ _ _ _ _ us hl => match us, hl with | [_, _], _ => rfl⟩
  have F18 := fun_mk (st := st__law_is_int) l18 c18 k18
  have D18 : Def K mg "_law_is_int" st__law_is_int ["value", "low", "high"] := ⟨f18, _, PySem.W.mg_of X G a18, F18, F18.binds (ps := ["value", "low", "high"]) fun _ _ _ _ _ _ us hl => match us, hl with | [_, _, _], _ => rfl⟩
  have F19 := fun_mk (st := st__law_draw_effect) l19 c19 k19
  have D19 : Def K mg "_law_draw_effect" st__law_draw_effect ["pen", "v"] := ⟨f19, _, PySem.W.mg_of X G a19, F19, F19.binds (ps := ["pen", "v"]) fun _ _ _ _ _ _ us hl => match us, hl with | [_, _], _ => rfl⟩
  have F20 := fun_mk (st := st__law_draw_written) l20 c20 k20
  have D20 : Def K mg "_law_draw_written" st__law_draw_written ["pen", "many"] := ⟨f20, _, PySem.W.mg_of X G a20, F20, F20.binds (ps := ["pen", "many"]) fun _ _ _ _ _ _ us hl => match us, hl with | [_, _], _ => rfl⟩
  have F21 := fun_mk (st := st__law_fold) l21 c21 k21
  have D21 : Def K mg "_law_fold" st__law_fold ["scheme", "row", "state"] := ⟨f21, _, PySem.W.mg_of X G a21, F21, F21.binds (ps := ["scheme", "row", "state"]) fun _ _ _ _ _ _ us hl => match us, hl with | [_, _, _], _ => rfl⟩
  have F22 := fun_mk (st := st__law_fits) l22 c22 k22
  have D22 : Def K mg "_law_fits" st__law_fits ["effects", "a", "b"] := ⟨f22, _, PySem.W.mg_of X G a22, F22, F22.binds (ps := ["effects", "a", "b"]) fun _ _ _ _ _ _ us hl => match us, hl with | [_, _, _], _ => rfl⟩
  have F23 := fun_mk (st := st__law_draw_scheme) l23 c23 k23
  have D23 : Def K mg "_law_draw_scheme" st__law_draw_scheme ["pen", "values", "operands", "full"] := ⟨f23, _, PySem.W.mg_of X G a23, F23, F23.binds (ps := ["pen", "values", "operands", "full"]) fun _ _ _ _ _ _ us hl => match us, hl with | [_, _, _, _], _ => rfl⟩
  have F24 := fun_mk (st := st__law_reach) l24 c24 k24
  have D24 : Def K mg "_law_reach" st__law_reach ["scheme"] := ⟨f24, _, PySem.W.mg_of X G a24, F24, F24.binds (ps := ["scheme"]) fun _ _ _ _ _ _ us hl => match us, hl with | [_], _ => rfl⟩
  have F25 := fun_mk (st := st__law_draw_row) l25 c25 k25
  have D25 : Def K mg "_law_draw_row" st__law_draw_row ["pen", "some", "most"] := ⟨f25, _, PySem.W.mg_of X G a25, F25, F25.binds (ps := ["pen", "some", "most"]) fun _ _ _ _ _ _ us hl => match us, hl with | [_, _, _], _ => rfl⟩
  have F26 := fun_mk (st := st__law_turn) l26 c26 k26
  have D26 : Def K mg "_law_turn" st__law_turn ["scheme", "row"] := ⟨f26, _, PySem.W.mg_of X G a26, F26, F26.binds (ps := ["scheme", "row"]) fun _ _ _ _ _ _ us hl => match us, hl with | [_, _], _ => rfl⟩
  have F27 := fun_mk (st := st__law_turns) l27 c27 k27
  have D27 : Def K mg "_law_turns" st__law_turns ["scheme"] := ⟨f27, _, PySem.W.mg_of X G a27, F27, F27.binds (ps := ["scheme"]) fun _ _ _ _ _ _ us hl => match us, hl with | [_], _ => rfl⟩
  have F28 := fun_mk (st := st__law_count) l28 c28 k28
  have D28 : Def K mg "_law_count" st__law_count ["scheme"] := ⟨f28, _, PySem.W.mg_of X G a28, F28, F28.binds (ps := ["scheme"]) fun _ _ _ _ _ _ us hl => match us, hl with | [_], _ => rfl⟩
  have F29 := fun_mk (st := st__law_rewritten) l29 c29 k29
  have D29 : Def K mg "_law_rewritten" st__law_rewritten ["pen", "scheme"] := ⟨f29, _, PySem.W.mg_of X G a29, F29, F29.binds (ps := ["pen", "scheme"]) fun _ _ _ _ _ _ us hl => match us, hl with | [_, _], _ => rfl⟩
  have F30 := fun_mk (st := st_law) l30 c30 k30
  refine ⟨PySem.W.fnOf "law" "law" (defArgs st_law) (defBody st_law) (defScope st_law) .none kV30 dc30 pm30 an30 cd30 ct30, fun s v => .of_eq rfl, fun base _ _ hTB => ?_⟩
  have O_effect := run_effect (P := l.prog) (w := w) (base := base) T D0  rd_effect
  have O_shortest_walks := run_shortest_walks (P := l.prog) (w := w) (base := base) T D1  rd_sw
  have O_shortest_walks_T := run_shortest_walks_T (P := l.prog) (w := w) (base := base) T D2  rd_swq
  have O_state_after := run_state_after (P := l.prog) (w := w) (base := base) T D3 O_effect rd_sa
  have O__shortest_ways := run__shortest_ways (P := l.prog) (w := w) (base := base) T (hTB (cq4, 44) (by simp)) D4 O_effect O_shortest_walks rd_mv rd_sws
  have O_reached := run_reached (P := l.prog) (w := w) (base := base) T D5 O__shortest_ways rd_reached
  have O_turn_of := run_turn_of (P := l.prog) (w := w) (base := base) T D6 O_reached O_state_after rd_turnof
  have O__turns_behind := run__turns_behind (P := l.prog) (w := w) (base := base) T D7 O_effect rd_tb
  have O__shortest_rows := run__shortest_rows (P := l.prog) (w := w) (base := base) T (hTB (cq8, 77) (by simp)) D8 O__turns_behind O_reached O_shortest_walks_T rd_mvT rd_srows
  have O_turns := run_turns (P := l.prog) (w := w) (base := base) T D9 O__shortest_rows rd_turns
  have O_row_for := run_row_for (P := l.prog) (w := w) (base := base) T D10 O__shortest_rows rd_rowfor
  have O__further_turns := run__further_turns (P := l.prog) (w := w) (base := base) T D11 O__turns_behind O_reached O_turns rd_ft
  have O_least_count := run_least_count (P := l.prog) (w := w) (base := base) T D12 O__further_turns rd_lc
  have O__law_open := run__law_open (P := l.prog) (w := w) (base := base) T D13  rd_open
  have O__law_spread := run__law_spread (P := l.prog) (w := w) (base := base) T D14  rd_spread
  have O__law_take := run__law_take (P := l.prog) (w := w) (base := base) T D15 O__law_spread rd_take
  have O__law_same0 : Ok l.prog w K mg base (noAmb K) "_law_same" 0 2 (P_same 0) := (ok_none D16 (fun _ _ _ ⟨_, _, h, _⟩ => h.elim)).mono (Nat.zero_le _)
  have O__law_same1 := run__law_same (P := l.prog) (w := w) (base := base) T D16 O__law_same0 (by decide) (rd_same 0)
  have O__law_same2 := run__law_same (P := l.prog) (w := w) (base := base) T D16 O__law_same1 (by decide) (rd_same 1)
  have O__law_same3 := run__law_same (P := l.prog) (w := w) (base := base) T D16 O__law_same2 (by decide) (rd_same 2)
  have O__law_same := O__law_same3
  have O__law_one_of := run__law_one_of (P := l.prog) (w := w) (base := base) T D17 O__law_take rd_one_of
  have O__law_is_int := run__law_is_int (P := l.prog) (w := w) (base := base) T D18  rd_lii
  have O__law_draw_effect := run__law_draw_effect (P := l.prog) (w := w) (base := base) T D19 O__law_take rd_draw_effect
  have O__law_draw_written := run__law_draw_written (P := l.prog) (w := w) (base := base) T D20 O__law_take rd_draw_wr
  have O__law_fold := run__law_fold (P := l.prog) (w := w) (base := base) T D21  rd_fold
  have O__law_fits := run__law_fits (P := l.prog) (w := w) (base := base) T D22  rd_fits
  have O__law_draw_scheme := run__law_draw_scheme (P := l.prog) (w := w) (base := base) T D23 O__law_draw_effect O__law_draw_written O__law_fits O__law_one_of O__law_take rd_draw_scheme
  have O__law_reach := run__law_reach (P := l.prog) (w := w) (base := base) T D24  rd_lreach
  have O__law_draw_row := run__law_draw_row (P := l.prog) (w := w) (base := base) T D25 O__law_one_of O__law_take rd_row
  have O__law_turn := run__law_turn (P := l.prog) (w := w) (base := base) T D26 O__law_fold O__law_reach rd_lturn
  have O__law_turns := run__law_turns (P := l.prog) (w := w) (base := base) T D27 O__law_turn rd_lturns
  have O__law_count := run__law_count (P := l.prog) (w := w) (base := base) T D28 O__law_turn O__law_turns rd_lcount
  have O__law_rewritten := run__law_rewritten (P := l.prog) (w := w) (base := base) T D29 O__law_draw_written rd_rewr
  exact run_law T F30 O__law_count O__law_draw_row O__law_draw_scheme O__law_is_int O__law_one_of O__law_open O__law_reach O__law_rewritten O__law_same O__law_take O__law_turn O__law_turns O_least_count O_row_for O_turn_of O_turns rd_law
end DL
open PySem PySem.W PyProof.Rows
set_option maxRecDepth 100000 in
set_option maxHeartbeats 0 in
theorem PySem.Challenge.cw_stackedputs_k53_turns_told_holds : PySem.Challenge.rw_stackedputs_k53_turns_told.Holds := by
  w_on; o_law; k_head; (case hw => w_witness2)
  k_fill
  refine DL.law_walkT (l := PySem.Challenge.rw_stackedputs_k53_turns_told) (k := 12) [(81, 77), (48, 44)] ⟨rfl, by decide, by decide⟩ rfl rfl (fun w h Y => PySem.W.km_in_of Y) (fun w h Y => List.forall_mem_cons.mpr ⟨PySem.W.km_tabs_of Y 77 (by simp), List.forall_mem_cons.mpr ⟨PySem.W.km_tabs_of Y 44 (by simp), (fun _ h => nomatch h)⟩⟩) (fun w => List.forall_mem_cons.mpr ⟨by kernel_rfl, List.forall_mem_cons.mpr ⟨by kernel_rfl, (fun _ h => nomatch h)⟩⟩) (fun w => List.forall_mem_cons.mpr ⟨by kernel_rfl, List.forall_mem_cons.mpr ⟨by kernel_rfl, (fun _ h => nomatch h)⟩⟩) (by decide +kernel) ?F
  case F =>
    intro w mg fa h KX G hmg
    refine' DL.all_mk KX G hmg ?a0 ?l0 ?c0 ?k0 ?a1 ?l1 ?c1 ?k1 ?a2 ?l2 ?c2 ?k2 ?a3 ?l3 ?c3 ?k3 ?a4 ?l4 ?c4 ?k4 ?a5 ?l5 ?c5 ?k5 ?a6 ?l6 ?c6 ?k6 ?a7 ?l7 ?c7 ?k7 ?a8 ?l8 ?c8 ?k8 ?a9 ?l9 ?c9 ?k9 ?a10 ?l10 ?c10 ?k10 ?a11 ?l11 ?c11 ?k11 ?a12 ?l12 ?c12 ?k12 ?a13 ?l13 ?c13 ?k13 ?a14 ?l14 ?c14 ?k14 ?a15 ?l15 ?c15 ?k15 ?a16 ?l16 ?c16 ?k16 ?a17 ?l17 ?c17 ?k17 ?a18 ?l18 ?c18 ?k18 ?a19 ?l19 ?c19 ?k19 ?a20 ?l20 ?c20 ?k20 ?a21 ?l21 ?c21 ?k21 ?a22 ?l22 ?c22 ?k22 ?a23 ?l23 ?c23 ?k23 ?a24 ?l24 ?c24 ?k24 ?a25 ?l25 ?c25 ?k25 ?a26 ?l26 ?c26 ?k26 ?a27 ?l27 ?c27 ?k27 ?a28 ?l28 ?c28 ?k28 ?a29 ?l29 ?c29 ?k29 ?a30 ?l30 ?c30 ?k30 ?z0 ?z1 ?z2 ?z3 ?z4 ?z5 ?z6 ?z7 ?z8 ?z9 ?z10 ?z11 ?y0
    (case a0 => k_is)
    (case l0 => k_is)
    (case c0 => k_is)
    (case k0 => k_is)
    (case a1 => k_is)
    (case l1 => k_is)
    (case c1 => k_is)
    (case k1 => k_is)
    (case a2 => k_is)
    (case l2 => k_is)
    (case c2 => k_is)
    (case k2 => k_is)
    (case a3 => k_is)
    (case l3 => k_is)
    (case c3 => k_is)
    (case k3 => k_is)
    (case a4 => k_is)
    (case l4 => k_is)
    (case c4 => k_is)
    (case k4 => k_is)
    (case a5 => k_is)
    (case l5 => k_is)
    (case c5 => k_is)
    (case k5 => k_is)
    (case a6 => k_is)
    (case l6 => k_is)
    (case c6 => k_is)
    (case k6 => k_is)
    (case a7 => k_is)
    (case l7 => k_is)
    (case c7 => k_is)
    (case k7 => k_is)
    (case a8 => k_is)
    (case l8 => k_is)
    (case c8 => k_is)
    (case k8 => k_is)
    (case a9 => k_is)
    (case l9 => k_is)
    (case c9 => k_is)
    (case k9 => k_is)
    (case a10 => k_is)
    (case l10 => k_is)
    (case c10 => k_is)
    (case k10 => k_is)
    (case a11 => k_is)
    (case l11 => k_is)
    (case c11 => k_is)
    (case k11 => k_is)
    (case a12 => k_is)
    (case l12 => k_is)
    (case c12 => k_is)
    (case k12 => k_is)
    (case a13 => k_is)
    (case l13 => k_is)
    (case c13 => k_is)
    (case k13 => k_is)
    (case a14 => k_is)
    (case l14 => k_is)
    (case c14 => k_is)
    (case k14 => k_is)
    (case a15 => k_is)
    (case l15 => k_is)
    (case c15 => k_is)
    (case k15 => k_is)
    (case a16 => k_is)
    (case l16 => k_is)
    (case c16 => k_is)
    (case k16 => k_is)
    (case a17 => k_is)
    (case l17 => k_is)
    (case c17 => k_is)
    (case k17 => k_is)
    (case a18 => k_is)
    (case l18 => k_is)
    (case c18 => k_is)
    (case k18 => k_is)
    (case a19 => k_is)
    (case l19 => k_is)
    (case c19 => k_is)
    (case k19 => k_is)
    (case a20 => k_is)
    (case l20 => k_is)
    (case c20 => k_is)
    (case k20 => k_is)
    (case a21 => k_is)
    (case l21 => k_is)
    (case c21 => k_is)
    (case k21 => k_is)
    (case a22 => k_is)
    (case l22 => k_is)
    (case c22 => k_is)
    (case k22 => k_is)
    (case a23 => k_is)
    (case l23 => k_is)
    (case c23 => k_is)
    (case k23 => k_is)
    (case a24 => k_is)
    (case l24 => k_is)
    (case c24 => k_is)
    (case k24 => k_is)
    (case a25 => k_is)
    (case l25 => k_is)
    (case c25 => k_is)
    (case k25 => k_is)
    (case a26 => k_is)
    (case l26 => k_is)
    (case c26 => k_is)
    (case k26 => k_is)
    (case a27 => k_is)
    (case l27 => k_is)
    (case c27 => k_is)
    (case k27 => k_is)
    (case a28 => k_is)
    (case l28 => k_is)
    (case c28 => k_is)
    (case k28 => k_is)
    (case a29 => k_is)
    (case l29 => k_is)
    (case c29 => k_is)
    (case k29 => k_is)
    (case a30 => k_is)
    (case l30 => k_is)
    (case c30 => k_is)
    (case k30 => k_is)
    (case z0 => k_is)
    (case z1 => k_is)
    (case z2 => k_is)
    (case z3 => k_is)
    (case z4 => k_is)
    (case z5 => k_is)
    (case z6 => k_is)
    (case z7 => k_is)
    (case z8 => k_is)
    (case z9 => k_is)
    (case z10 => k_is)
    (case z11 => k_is)
    (case y0 => k_is)
#print axioms PySem.Challenge.cw_stackedputs_k53_turns_told_holds

