import PyProof.Rows.All
import Wide.All
import OpenK.AllK
import Wide.FinOn
import PySem.Challenge.RW_eightworlds_k81_whole_two_above_one_piec
import HandS.ForMost
import HandS.Lambda
import HandS.TupAny
import HandS.Deep
import HandS.Wide
import HandS.Style
import HandS.TupMul
import HandS.ExcOwn
import HandS.Walk
import HandS.Zip
import HandS.Rev
import HandS.WordsExc
import KE.GoesEnum
import HandS.IsInst
import HandS.Gcd
import HandS.SetFor
import KE.SortData
import KE.DataCmp
import HandS.Struct
import HandS.Conv
import KE.KMathG
import KE.DataMinMax
import HandS.DictComp
import HandS.WideBits
import HandS.DictSubView
import KE.KDictSum
import HandS.Text
import PyProof.ListCopy
import HandS.TupSets
set_option Elab.async false
set_option linter.all false
set_option maxRecDepth 100000
/-! PL1: pure data over the hand layer: what a value stands for, slots, the state's relation. -/
namespace PL
open PySem PySem.Spec PyProof.Rows L2

abbrev Ax := Addr → Prop
abbrev St := L2.St
/-- a list that is tracked and that is not among the addresses N -/
def LL (K : PySem.W.Frag) (N : Ax) (H : Hp) (a : Addr) (xs : List V) : Prop :=
  (¬ N a ∧ Rd H a (.lst xs)) ∨
    ∃ (o : Obj) (its : Array Value) (n : Nat), K.lookup a = some o ∧ o.cls = .type "list" ∧ o.dict = none ∧ o.data = .seq its n ∧ its.size ≤ sizeLine ∧ Vals xs its.toList
def LT (K : PySem.W.Frag) (N : Ax) (H : Hp) (a : Addr) (xs : List V) : Prop :=
  (¬ N a ∧ Rd H a (.tup xs)) ∨
    ∃ (o : Obj) (its : Array Value) (n : Nat), K.lookup a = some o ∧ o.cls = .type "tuple" ∧ o.data = .seq its n ∧ its.size ≤ sizeLine ∧ Vals xs its.toList
section
variable {K : PySem.W.Frag} {N N' : Ax} {H H' : Hp} {a : Addr} {xs : List V}
theorem LL.sq (h : LL K N H a xs) : SqL K H a xs := h.elim (fun h => .inl h.2) .inr
theorem LT.sq (h : LT K N H a xs) : SqT K H a xs := h.elim (fun h => .inl h.2) .inr
/-- what stood outside N1 stands outside N2 as it was -/
def Tr (N1 : Ax) (H1 : Hp) (N2 : Ax) (H2 : Hp) : Prop := ∀ a o, H1 a = some o → (∀ ps, o ≠ .tbl ps) → ¬ N1 a → H2 a = some o ∧ ¬ N2 a
theorem Tr.rd {N1 N2 : Ax} {H1 H2 : Hp} (t : Tr N1 H1 N2 H2) {u : HO} (hu : ∀ ps, u ≠ .tbl ps) (n : ¬ N1 a) (h : Rd H1 a u) : ¬ N2 a ∧ Rd H2 a u := by
  rcases h with h | ⟨o, h⟩
  · exact ⟨(t a _ h hu n).2, .inl (t a _ h hu n).1⟩
  · exact ⟨(t a _ h (fun ps z => by cases z) n).2, .inr ⟨o, (t a _ h (fun ps z => by cases z) n).1⟩⟩
theorem LL.tr {N1 N2 : Ax} {H1 H2 : Hp} (t : Tr N1 H1 N2 H2) (h : LL K N1 H1 a xs) : LL K N2 H2 a xs :=
  h.elim (fun h => .inl (t.rd (fun ps z => by cases z) h.1 h.2)) .inr
theorem LT.tr {N1 N2 : Ax} {H1 H2 : Hp} (t : Tr N1 H1 N2 H2) (h : LT K N1 H1 a xs) : LT K N2 H2 a xs :=
  h.elim (fun h => .inl (t.rd (fun ps z => by cases z) h.1 h.2)) .inr
end

/-- a key as data -/
def keyD : L2.Key → PyData
  | .inl i => .int i
  | .inr x => .str x
mutual
/-- what a value stands for, off the addresses N -/
inductive Rp (K : PySem.W.Frag) (N : Ax) (H : Hp) : V → PyData → Prop
  | non : Rp K N H .non .none
  | bl (b : Bool) : Rp K N H (.bl b) (.bool b)
  | int (i : Int) : Rp K N H (.int i) (.int i)
  | str (x : Str) : Rp K N H (.str x) (.str x)
  | lst {a : Addr} {xs : List V} {ds : List PyData} : LL K N H a xs → Rps K N H xs ds → Rp K N H (.ref a) (.list ds)
  | tup {a : Addr} {xs : List V} {ds : List PyData} : LT K N H a xs → Rps K N H xs ds → Rp K N H (.ref a) (.tuple ds)
  | dicT {a : Addr} {kvs : List (List L2.Key × V)} {ps : List (PyData × PyData)} : ¬ N a → Rd H a (.dT kvs) → RpT K N H kvs ps → Rp K N H (.ref a) (.dict ps)
  | dicK {a : Addr} {kvs : List (L2.Key × V)} {ps : List (PyData × PyData)} : ¬ N a → Rd H a (.dK kvs) → RpK K N H kvs ps → Rp K N H (.ref a) (.dict ps)
  | rng {a : Addr} {i j : Int} : ¬ N a → Rd H a (.rng i j) → Rp K N H (.ref a) (.dict [(.none, .int i), (.none, .int j)])
inductive Rps (K : PySem.W.Frag) (N : Ax) (H : Hp) : List V → List PyData → Prop
  | nil : Rps K N H [] []
  | cons {v : V} {vs : List V} {d : PyData} {ds : List PyData} : Rp K N H v d → Rps K N H vs ds → Rps K N H (v :: vs) (d :: ds)
inductive RpT (K : PySem.W.Frag) (N : Ax) (H : Hp) : List (List L2.Key × V) → List (PyData × PyData) → Prop
  | nil : RpT K N H [] []
  | cons {k : List L2.Key} {v : V} {kvs : List (List L2.Key × V)} {d : PyData} {ps : List (PyData × PyData)} : Rp K N H v d → RpT K N H kvs ps → RpT K N H ((k, v) :: kvs) ((.tuple (k.map keyD), d) :: ps)
inductive RpK (K : PySem.W.Frag) (N : Ax) (H : Hp) : List (L2.Key × V) → List (PyData × PyData) → Prop
  | nil : RpK K N H [] []
  | cons {k : L2.Key} {v : V} {kvs : List (L2.Key × V)} {d : PyData} {ps : List (PyData × PyData)} : Rp K N H v d → RpK K N H kvs ps → RpK K N H ((k, v) :: kvs) ((keyD k, d) :: ps)
end
section
variable {K : PySem.W.Frag} {N1 N2 : Ax} {H1 H2 : Hp}
theorem Rp.trI (t : Tr N1 H1 N2 H2) {v : V} {d : PyData} (h : Rp K N1 H1 v d) : Rp K N2 H2 v d :=
  Rp.rec (motive_1 := fun v d _ => Rp K N2 H2 v d) (motive_2 := fun vs ds _ => Rps K N2 H2 vs ds) (motive_3 := fun vs ds _ => RpT K N2 H2 vs ds) (motive_4 := fun vs ds _ => RpK K N2 H2 vs ds)
    .non (fun b => .bl b) (fun i => .int i) (fun x => .str x) (fun l _ r => .lst (l.tr t) r) (fun l _ r => .tup (l.tr t) r)
    (fun n e _ r => let z := t.rd (fun ps z => by cases z) n e; .dicT z.1 z.2 r) (fun n e _ r => let z := t.rd (fun ps z => by cases z) n e; .dicK z.1 z.2 r) (fun n e => let z := t.rd (fun ps z => by cases z) n e; .rng z.1 z.2)
    .nil (fun _ _ a b => .cons a b) .nil (fun _ _ a b => .cons a b) .nil (fun _ _ a b => .cons a b) h
theorem Rp.tr (t : Tr N1 H1 N2 H2) (d : PyData) {v : V} (h : Rp K N1 H1 v d) : Rp K N2 H2 v d := h.trI t
theorem Rps.tr (t : Tr N1 H1 N2 H2) : ∀ (ds : List PyData) {vs : List V}, Rps K N1 H1 vs ds → Rps K N2 H2 vs ds
  | [], _, h => by cases h; exact .nil
  | d :: ds, _, h => by
    cases h with
    | cons h1 h2 => exact .cons (Rp.tr t d h1) (Rps.tr t ds h2)
theorem RpT.tr (t : Tr N1 H1 N2 H2) : ∀ {kvs : List (List L2.Key × V)} {ps : List (PyData × PyData)}, RpT K N1 H1 kvs ps → RpT K N2 H2 kvs ps
  | _, _, .nil => .nil
  | _, _, .cons a b => .cons (a.trI t) (RpT.tr t b)
theorem RpK.tr (t : Tr N1 H1 N2 H2) : ∀ {kvs : List (L2.Key × V)} {ps : List (PyData × PyData)}, RpK K N1 H1 kvs ps → RpK K N2 H2 kvs ps
  | _, _, .nil => .nil
  | _, _, .cons a b => .cons (a.trI t) (RpK.tr t b)
mutual
theorem Rp.dp {N : Ax} {H : Hp} : ∀ (d : PyData) {v : V}, d.canLay0 = true → Rp K N H v d → Dp K H v d
  | .none, _, _, h => by cases h; exact .non
  | .bool b, _, _, h => by cases h; exact .bl b
  | .int i, _, _, h => by cases h; exact .int i
  | .str x, _, _, h => by cases h; exact .str x
  | .list ds, _, c, h => by
    cases h with
    | lst hs ha => exact .lst hs.sq (Rps.dp ds (by simpa [PyData.canLay0] using c) ha)
  | .tuple ds, _, c, h => by
    cases h with
    | tup hs ha => exact .tup hs.sq (Rps.dp ds (by simpa [PyData.canLay0] using c) ha)
  | .dict _, _, c, h => by simp [PyData.canLay0] at c
theorem Rps.dp {N : Ax} {H : Hp} : ∀ (ds : List PyData) {vs : List V}, PyData.canLayAll0 ds = true → Rps K N H vs ds → DpAll K H vs ds
  | [], _, _, h => by cases h; exact .nil
  | d :: ds, _, c, h => by
    have c : d.canLay0 = true ∧ PyData.canLayAll0 ds = true := by simpa [PyData.canLayAll0] using c
    cases h with
    | cons h1 h2 => exact .cons (Rp.dp d c.1 h1) (Rps.dp ds c.2 h2)
end
theorem Rps.length {N : Ax} {H : Hp} : ∀ {ds : List PyData} {vs : List V}, Rps K N H vs ds → vs.length = ds.length
  | [], _, h => by cases h; rfl
  | d :: ds, _, h => by
    cases h with
    | cons h1 h2 => rw [List.length_cons, List.length_cons, Rps.length h2]
theorem Rps.get {N : Ax} {H : Hp} : ∀ {ds : List PyData} {vs : List V} {i : Nat} {d : PyData}, Rps K N H vs ds → ds[i]? = some d → ∃ v, vs[i]? = some v ∧ Rp K N H v d
  | _ :: _, _, 0, _, .cons h1 _, e => by simp at e; subst e; exact ⟨_, rfl, h1⟩
  | _ :: _, _, i + 1, d, .cons _ h2, e => by
    obtain ⟨v, e', r⟩ := Rps.get (i := i) (d := d) h2 (by simpa using e)
    exact ⟨v, by simpa using e', r⟩
  | [], _, _, _, _, e => by simp at e
theorem Rps.append {N : Ax} {H : Hp} : ∀ {ds es : List PyData} {vs ws : List V}, Rps K N H vs ds → Rps K N H ws es → Rps K N H (vs ++ ws) (ds ++ es)
  | [], _, _, _, .nil, s => s
  | _ :: _, _, _, _, .cons r t, s => .cons r (Rps.append t s)
theorem Rps.take {N : Ax} {H : Hp} : ∀ {ds : List PyData} {vs : List V} (n : Nat), Rps K N H vs ds → Rps K N H (vs.take n) (ds.take n)
  | _, _, 0, _ => by rw [List.take_zero, List.take_zero]; exact .nil
  | _, _, _ + 1, .nil => .nil
  | _, _, n + 1, .cons r t => .cons r (Rps.take n t)
theorem Rps.drop {N : Ax} {H : Hp} : ∀ {ds : List PyData} {vs : List V} (n : Nat), Rps K N H vs ds → Rps K N H (vs.drop n) (ds.drop n)
  | _, _, 0, r => r
  | _, _, _ + 1, .nil => .nil
  | _, _, n + 1, .cons _ t => Rps.drop n t
theorem Rps.set {N : Ax} {H : Hp} {v : V} {d : PyData} (r : Rp K N H v d) : ∀ {ds : List PyData} {vs : List V} (i : Nat), Rps K N H vs ds → Rps K N H (vs.set i v) (ds.set i d)
  | _, _, _, .nil => .nil
  | _, _, 0, .cons _ t => .cons r t
  | _, _, i + 1, .cons q t => .cons q (Rps.set r i t)
theorem Rps.rev {N : Ax} {H : Hp} {ds : List PyData} {vs : List V} (h : Rps K N H vs ds) : Rps K N H vs.reverse ds.reverse := by
  induction ds generalizing vs with
  | nil => cases h; exact .nil
  | cons d ds ih =>
    cases h with
    | cons h1 h2 =>
      rw [List.reverse_cons, List.reverse_cons]
      exact (ih h2).append (.cons h1 .nil)
end

/-! ### slots -/
/-- a frame's own object: a list, a dict with flat keys -/
inductive Oc where
  | l (ds : List PyData) | k (ps : List (PyData × PyData))
instance : Coe (List PyData) Oc := ⟨Oc.l⟩
def Oc.data : Oc → PyData
  | .l ds => .list ds
  | .k ps => .dict ps
inductive Sl where
  | e | im (x : PyData) | own (o : Oc) | io (ds : List PyData)
abbrev Sl.ow (ds : List PyData) : Sl := .own (.l ds)
abbrev Sl.od (ps : List (PyData × PyData)) : Sl := .own (.k ps)
abbrev Env := List Sl
/-- the object at a stands for o -/
def OcR (K : PySem.W.Frag) (N : Ax) (H : Hp) (a : Addr) : Oc → Prop
  | .l ds => ∃ xs, H a = some (.lst xs) ∧ Rps K N H xs ds
  | .k ps => ∃ kvs, H a = some (.dK kvs) ∧ RpK K N H kvs ps
theorem OcR.tr {K : PySem.W.Frag} {N1 N2 : Ax} {H1 H2 : Hp} {a : Addr} {o : Oc} (t : Tr N1 H1 N2 H2) (ke : ∀ u, H1 a = some u → (∀ ps, u ≠ .tbl ps) → H2 a = some u) (h : OcR K N1 H1 a o) : OcR K N2 H2 a o := by
  cases o with
  | l ds => obtain ⟨xs, e, r⟩ := h; exact ⟨xs, ke _ e (fun ps z => by cases z), r.tr t⟩
  | k ps => obtain ⟨xs, e, r⟩ := h; exact ⟨xs, ke _ e (fun ps z => by cases z), r.tr t⟩
theorem OcR.at {K : PySem.W.Frag} {N : Ax} {H : Hp} {a : Addr} {o : Oc} (h : OcR K N H a o) : ∃ u, H a = some u ∧ ∀ ps, u ≠ .tbl ps := by
  cases o with
  | l ds => obtain ⟨xs, e, _⟩ := h; exact ⟨_, e, fun ps z => by cases z⟩
  | k ps => obtain ⟨xs, e, _⟩ := h; exact ⟨_, e, fun ps z => by cases z⟩
/-- the frame: the written part, the tables, the module's names, the address of the list handed in to be changed -/
structure G where
  K : PySem.W.Frag
  T : List (Addr × Str)
  mg : Str → Option Value
  io : Addr
/-- the lists that this frame may change -/
def Mo (g : G) (σ : St) (env : Env) : Ax := fun a => (∃ (i : Nat) (o : Oc), env[i]? = some (.own o) ∧ σ[i]? = some (some (.ref a))) ∨ (a = g.io ∧ ∃ (i : Nat) (ds : List PyData), env[i]? = some (.io ds))
abbrev Un2 (A B : Ax) : Ax := fun a => A a ∨ B a
structure RepS (g : G) (No : Ax) (H : Hp) (σ : St) (env : Env) : Prop where
  len : σ.length = env.length
  tab : LamX.Tabs g.T H
  nout : ∀ a, No a → H a ≠ none ∧ ¬ Mo g σ env a
  im : ∀ (i : Nat) (x : PyData), env[i]? = some (.im x) → ∃ v, σ[i]? = some (some v) ∧ Rp g.K (Un2 No (Mo g σ env)) H v x
  oc : ∀ (i : Nat) (o : Oc), env[i]? = some (.own o) → ∃ a, σ[i]? = some (some (.ref a)) ∧ OcR g.K (Un2 No (Mo g σ env)) H a o
  io : ∀ (i : Nat) (ds : List PyData), env[i]? = some (.io ds) → ∃ xs, σ[i]? = some (some (.ref g.io)) ∧ H g.io = some (.lst xs) ∧ Rps g.K (Un2 No (Mo g σ env)) H xs ds
  dis : ∀ (i j : Nat) (ds es : Oc) (a : Addr), env[i]? = some (.own ds) → env[j]? = some (.own es) → σ[i]? = some (some (.ref a)) → σ[j]? = some (some (.ref a)) → i = j
  dio : ∀ (i j : Nat) (ds : Oc) (es : List PyData), env[i]? = some (.own ds) → env[j]? = some (.io es) → σ[i]? ≠ some (some (.ref g.io))
  io1 : ∀ (i j : Nat) (ds es : List PyData), env[i]? = some (.io ds) → env[j]? = some (.io es) → i = j
theorem RepS.ow {g : G} {No : Ax} {H : Hp} {σ : St} {env : Env} (r : RepS g No H σ env) (i : Nat) (ds : List PyData) (e : env[i]? = some (.ow ds)) : ∃ a xs, σ[i]? = some (some (.ref a)) ∧ H a = some (.lst xs) ∧ Rps g.K (Un2 No (Mo g σ env)) H xs ds := by
  obtain ⟨a, e1, xs, e2, e3⟩ := r.oc i _ e
  exact ⟨a, xs, e1, e2, e3⟩
/-- from (M1, H1) to (M2, H2): what isn't of M1 stays; M2 has new ones besides -/
structure EvM (M1 : Ax) (H1 : Hp) (M2 : Ax) (H2 : Hp) : Prop where
  keep : ∀ a o, H1 a = some o → (∀ ps, o ≠ .tbl ps) → ¬ M1 a → H2 a = some o
  new : ∀ a, M2 a → M1 a ∨ H1 a = none
  dom : ∀ a, H1 a ≠ none → H2 a ≠ none
theorem EvM.refl (M : Ax) (H : Hp) : EvM M H M H := ⟨fun _ _ h _ _ => h, fun _ h => .inl h, fun _ h => h⟩
theorem EvM.trans {M1 M2 M3 : Ax} {H1 H2 H3 : Hp} (a : EvM M1 H1 M2 H2) (b : EvM M2 H2 M3 H3) : EvM M1 H1 M3 H3 where
  keep := fun c o h n m => b.keep c o (a.keep c o h n m) n fun z => (a.new c z).elim m fun z => by rw [h] at z; cases z
  new := fun c h => (b.new c h).elim (a.new c) fun h2 => .inr (by
    cases q : H1 c with
    | none => rfl
    | some o => exact absurd h2 (a.dom c (by rw [q]; exact fun z => by cases z)))
  dom := fun c h => b.dom c (a.dom c h)
theorem EvM.mono2 {M1 M2 M3 : Ax} {H1 H2 : Hp} (a : EvM M1 H1 M2 H2) (h : ∀ c, M3 c → M2 c) : EvM M1 H1 M3 H2 := ⟨a.keep, fun c z => a.new c (h c z), a.dom⟩
theorem EvM.mono1 {M1 M2 M3 : Ax} {H1 H2 : Hp} (a : EvM M1 H1 M2 H2) (h : ∀ c, M1 c → M3 c) : EvM M3 H1 M2 H2 := ⟨fun c o e n m => a.keep c o e n fun z => m (h c z), fun c z => (a.new c z).imp (h c) id, a.dom⟩
theorem EvM.tr {No M1 M2 : Ax} {H1 H2 : Hp} (a : EvM M1 H1 M2 H2) : Tr (Un2 No M1) H1 (Un2 No M2) H2 := fun c o h n m =>
  ⟨a.keep c o h n fun z => m (.inr z), fun z => z.elim (fun z => m (.inl z)) fun z => (a.new c z).elim (fun z => m (.inr z)) fun z => by rw [h] at z; cases z⟩
/-- fewer addresses are kept off -/
theorem Tr.anti {N1 N2 : Ax} {H : Hp} (h : ∀ a, N2 a → N1 a) : Tr N1 H N2 H := fun c o e _ m => ⟨e, fun z => m (h c z)⟩
/-- a new object -/
theorem EvM.upd {M : Ax} {H : Hp} {p : Addr} {o : HO} (np : H p = none) : EvM M H M (upd H p o) where
  keep := fun a u h _ _ => by rw [upd_ne (ne_of_none h np)]; exact h
  new := fun _ h => .inl h
  dom := fun a h => by
    by_cases e : a = p
    · subst e; exact absurd np h
    · rw [upd_ne e]; exact h
section
variable {g : G} {No No' : Ax} {H H' : Hp} {σ : St} {env : Env}
theorem RepS.anti (r : RepS g No H σ env) (h : ∀ a, No' a → No a) : RepS g No' H σ env := by
  have t : Tr (Un2 No (Mo g σ env)) H (Un2 No' (Mo g σ env)) H := Tr.anti fun a z => z.imp (h a) id
  refine ⟨r.len, r.tab, fun a z => r.nout a (h a z), fun i x e => ?_, fun i ds e => ?_, fun i ds e => ?_, r.dis, r.dio, r.io1⟩
  · obtain ⟨v, e1, q⟩ := r.im i x e
    exact ⟨v, e1, q.tr t _⟩
  · obtain ⟨a, e1, q⟩ := r.oc i ds e
    exact ⟨a, e1, q.tr t fun _ z _ => z⟩
  · obtain ⟨xs, e1, e2, q⟩ := r.io i ds e
    exact ⟨xs, e1, e2, q.tr t _⟩
/-- the heap goes on, nothing of this frame's changes; new ones may be kept off -/
theorem RepS.ev (r : RepS g No H σ env) (e : EvM (fun _ => False) H (fun _ => False) H') (t : LamX.Tabs g.T H') (hn : ∀ a, No' a → No a ∨ (H a = none ∧ H' a ≠ none)) : RepS g No' H' σ env := by
  have ke : ∀ a o, H a = some o → (∀ ps, o ≠ .tbl ps) → H' a = some o := fun a o h n => e.keep a o h n fun z => z
  have t1 : Tr (Un2 No (Mo g σ env)) H (Un2 No' (Mo g σ env)) H' := fun a o h n m => ⟨ke a o h n, fun z => m (z.imp (fun z => (hn a z).elim id fun q => by rw [h] at q; cases q.1) id)⟩
  have mo : ∀ a, Mo g σ env a → H a ≠ none := fun a h => by
    rcases h with ⟨i, ds, e1, e2⟩ | ⟨rfl, i, ds, e1⟩
    · obtain ⟨b, e3, q⟩ := r.oc i ds e1
      rw [e2] at e3
      cases e3
      obtain ⟨u, e4, _⟩ := q.at
      rw [e4]
      exact fun z => by cases z
    · obtain ⟨xs, e3, e4, _⟩ := r.io i ds e1
      rw [e4]
      exact fun z => by cases z
  refine ⟨r.len, t, fun a z => ?_, fun i x q => ?_, fun i ds q => ?_, fun i ds q => ?_, r.dis, r.dio, r.io1⟩
  · rcases hn a z with z | ⟨z1, z2⟩
    · exact ⟨e.dom a (r.nout a z).1, (r.nout a z).2⟩
    · exact ⟨z2, fun q => mo a q z1⟩
  · obtain ⟨v, e1, q⟩ := r.im i x q
    exact ⟨v, e1, q.tr t1 _⟩
  · obtain ⟨a, e1, q⟩ := r.oc i ds q
    exact ⟨a, e1, q.tr t1 (ke a)⟩
  · obtain ⟨xs, e1, e2, q⟩ := r.io i ds q
    exact ⟨xs, e1, ke _ _ e2 (fun ps z => by cases z), q.tr t1 _⟩
theorem Mo_some (r : RepS g No H σ env) {a : Addr} (h : Mo g σ env a) : ∃ u, H a = some u ∧ ∀ ps, u ≠ .tbl ps := by
  rcases h with ⟨i, ds, e1, e2⟩ | ⟨rfl, i, ds, e1⟩
  · obtain ⟨b, e3, q⟩ := r.oc i ds e1
    rw [e2] at e3
    cases e3
    exact q.at
  · obtain ⟨xs, e3, e4, _⟩ := r.io i ds e1
    exact ⟨_, e4, fun ps z => by cases z⟩
end
theorem tabs_upd {T : List (Addr × Str)} {H : Hp} {p : Addr} {o : HO} (t : LamX.Tabs T H) (np : H p = none) : LamX.Tabs T (upd H p o) :=
  t.ext fun b u h => by rw [upd_ne (ne_of_none h np)]; exact h
end PL

set_option Elab.async false
set_option linter.all false
set_option maxRecDepth 100000
/-! PL2: the pure runs, what an expression gives, the judgement. -/
namespace PL
open PySem PySem.Spec PyProof.Rows L2

/-- what an expression gives: data, what slot k holds, a new list of its own -/
inductive W where
  | d (x : PyData) | o (k : Nat) | f (ds : List PyData)
structure Xn where
  cls : Str
  lim : Option PyData
inductive R (α : Type) where
  | ok (a : α) (env : Env) | ex (x : Xn) (env : Env) | no
abbrev EM (α : Type) := Env → R α
def ret {α : Type} (a : α) : EM α := fun env => .ok a env
def bnd {α β : Type} (m : EM α) (f : α → EM β) : EM β := fun env => match m env with
  | .ok a env' => f a env'
  | .ex x env' => .ex x env'
  | .no => .no
def lift {α : Type} : Option α → EM α
  | some a => ret a
  | none => fun _ => .no

theorem set_get {α : Type} {l : List α} {k i : Nat} {s t : α} (h : (l.set k s)[i]? = some t) : (i = k ∧ t = s) ∨ (i ≠ k ∧ l[i]? = some t) := by
  by_cases e : k = i
  · subst e
    rw [List.getElem?_set] at h
    rw [if_pos rfl] at h
    split at h
    · exact .inl ⟨rfl, (Option.some.inj h).symm⟩
    · cases h
  · rw [List.getElem?_set_ne e] at h
    exact .inr ⟨fun z => e z.symm, h⟩
section
variable {g : G} {No No' : Ax} {H H' : Hp} {σ : St} {env env' : Env}
/-- slot k's own object is given out -/
theorem OcR.out {g : G} {N N' : Ax} {H : Hp} {a : Addr} {o : Oc} (h : OcR g.K N H a o) (n : ¬ N' a) (t : Tr N H N' H) : Rp g.K N' H (.ref a) o.data := by
  cases o with
  | l ds => obtain ⟨xs, e, r⟩ := h; exact .lst (.inl ⟨n, .of e⟩) (r.tr t _)
  | k ps => obtain ⟨xs, e, r⟩ := h; exact .dicK n (.of e) (r.tr t)
theorem RepS.releaseO (r : RepS g No H σ env) {k : Nat} {ds : Oc} (e : env[k]? = some (.own ds)) :
    RepS g No H σ (env.set k (.im ds.data)) ∧ (∀ a, Mo g σ (env.set k (.im ds.data)) a → Mo g σ env a) ∧ ∀ v, σ[k]? = some (some v) → Rp g.K (Un2 No (Mo g σ (env.set k (.im ds.data)))) H v ds.data := by
  have sub : ∀ a, Mo g σ (env.set k (.im ds.data)) a → Mo g σ env a := by
    rintro a (⟨i, es, e1, e2⟩ | ⟨rfl, i, es, e1⟩)
    · rcases set_get e1 with ⟨_, z⟩ | ⟨_, z⟩
      · cases z
      · exact .inl ⟨i, es, z, e2⟩
    · rcases set_get e1 with ⟨_, z⟩ | ⟨_, z⟩
      · cases z
      · exact .inr ⟨rfl, i, es, z⟩
  obtain ⟨a, e1, q⟩ := r.oc k ds e
  have mk : Mo g σ env a := .inl ⟨k, ds, e, e1⟩
  have nMo : ¬ Mo g σ (env.set k (.im ds.data)) a := by
    rintro (⟨i, es, e3, e4⟩ | ⟨rfl, i, es, e3⟩)
    · rcases set_get e3 with ⟨_, z⟩ | ⟨ne, z⟩
      · cases z
      · exact ne (r.dis i k es ds a z e e4 e1)
    · rcases set_get e3 with ⟨_, z⟩ | ⟨ne, z⟩
      · cases z
      · exact r.dio k i ds es e z e1
  have nNo : ¬ No a := fun z => (r.nout a z).2 mk
  have t : Tr (Un2 No (Mo g σ env)) H (Un2 No (Mo g σ (env.set k (.im ds.data)))) H := Tr.anti fun a z => z.imp id (sub a)
  have main : Rp g.K (Un2 No (Mo g σ (env.set k (.im ds.data)))) H (.ref a) ds.data := q.out (fun z => z.elim nNo nMo) t
  refine ⟨⟨by rw [List.length_set]; exact r.len, r.tab, fun a z => ⟨(r.nout a z).1, fun q => (r.nout a z).2 (sub a q)⟩, fun i x h => ?_, fun i es h => ?_, fun i es h => ?_, fun i j es fs b h1 h2 => ?_, fun i j es fs h1 h2 => ?_, fun i j es fs h1 h2 => ?_⟩, sub, fun v hv => ?_⟩
  · rcases set_get h with ⟨rfl, z⟩ | ⟨ne, z⟩
    · cases z
      exact ⟨_, e1, main⟩
    · obtain ⟨v, a1, a2⟩ := r.im i x z
      exact ⟨v, a1, a2.tr t _⟩
  · rcases set_get h with ⟨rfl, z⟩ | ⟨ne, z⟩
    · cases z
    · obtain ⟨b, a1, a2⟩ := r.oc i es z
      exact ⟨b, a1, a2.tr t fun _ z _ => z⟩
  · rcases set_get h with ⟨rfl, z⟩ | ⟨ne, z⟩
    · cases z
    · obtain ⟨ys, a1, a2, a3⟩ := r.io i es z
      exact ⟨ys, a1, a2, a3.tr t _⟩
  · rcases set_get h1 with ⟨_, z⟩ | ⟨_, z1⟩
    · cases z
    rcases set_get h2 with ⟨_, z⟩ | ⟨_, z2⟩
    · cases z
    exact r.dis i j es fs b z1 z2
  · rcases set_get h1 with ⟨_, z⟩ | ⟨_, z1⟩
    · cases z
    rcases set_get h2 with ⟨_, z⟩ | ⟨_, z2⟩
    · cases z
    exact r.dio i j es fs z1 z2
  · rcases set_get h1 with ⟨_, z⟩ | ⟨_, z1⟩
    · cases z
    rcases set_get h2 with ⟨_, z⟩ | ⟨_, z2⟩
    · cases z
    exact r.io1 i j es fs z1 z2
  · rw [e1] at hv
    cases hv
    exact main
theorem RepS.release (r : RepS g No H σ env) {k : Nat} {ds : List PyData} (e : env[k]? = some (.ow ds)) :
    RepS g No H σ (env.set k (.im (.list ds))) ∧ (∀ a, Mo g σ (env.set k (.im (.list ds))) a → Mo g σ env a) ∧ ∀ v, σ[k]? = some (some v) → Rp g.K (Un2 No (Mo g σ (env.set k (.im (.list ds))))) H v (.list ds) := r.releaseO e
end

/-! ### what an expression's value is -/
def plus (No : Ax) (v : V) (w : W) : Ax := match w, v with
  | .f _, .ref a => fun b => No b ∨ b = a
  | _, _ => No
theorem plus_of {No : Ax} {v : V} {w : W} : ∀ a, No a → plus No v w a := fun a h => by
  unfold plus
  split
  · exact .inl h
  · exact h
def Vw (g : G) (No : Ax) (H : Hp) (σ : St) (env : Env) (v : V) : W → Prop
  | .d x => Rp g.K (Un2 No (Mo g σ env)) H v x
  | .o k => σ[k]? = some (some v)
  | .f ds => ∃ a xs, v = .ref a ∧ H a = some (.lst xs) ∧ Rps g.K (Un2 (fun b => No b ∨ b = a) (Mo g σ env)) H xs ds ∧ ¬ No a ∧ ¬ Mo g σ env a
structure PV (g : G) (No : Ax) (H : Hp) (σ : St) (env : Env) (v : V) (w : W) : Prop where
  rep : RepS g (plus No v w) H σ env
  val : Vw g No H σ env v w
/-- a new list is new -/
def Fr (H : Hp) (v : V) (w : W) : Prop := match w, v with
  | .f _, .ref a => H a = none
  | _, _ => True
theorem plus_new {No : Ax} {H : Hp} {v : V} {w : W} (fr : Fr H v w) (c : Addr) (z : plus No v w c) : No c ∨ H c = none := by
  cases w with
  | f ds =>
    cases v with
    | ref p => exact z.elim .inl fun z => .inr (by rw [z]; exact fr)
    | _ => exact .inl z
  | _ => cases v <;> exact .inl z
section
variable {g : G} {No No' : Ax} {H H1 H2 : Hp} {σ : St} {env env1 env2 : Env} {v : V} {w : W}
theorem PV.base (p : PV g No H σ env v w) : RepS g No H σ env := p.rep.anti fun _ h => plus_of _ h
theorem PV.go (p : PV g No H1 σ env1 v w) (e : EvM (Mo g σ env1) H1 (Mo g σ env2) H2) (r : RepS g (plus No v w) H2 σ env2) : PV g No H2 σ env2 v w := by
  refine ⟨r, ?_⟩
  have q := p.val
  cases w with
  | d x => exact Rp.tr e.tr _ q
  | o k => exact q
  | f ds =>
    obtain ⟨a, xs, rfl, e1, e2, n1, n2⟩ := q
    have n3 : ¬ Mo g σ env2 a := (r.nout a (.inr rfl)).2
    exact ⟨a, xs, rfl, e.keep a _ e1 (fun ps z => by cases z) n2, e2.tr e.tr _, n1, n3⟩
/-- fewer kept off -/
theorem PV.anti (p : PV g No H σ env v w) (h : ∀ a, No' a → No a) : PV g No' H σ env v w := by
  have hp : ∀ a, plus No' v w a → plus No v w a := fun a z => by
    cases w with
    | f ds =>
      cases v with
      | ref b => exact z.imp (h a) id
      | _ => exact h a z
    | _ => cases v <;> exact h a z
  refine ⟨p.rep.anti hp, ?_⟩
  have q := p.val
  cases w with
  | d x => exact Rp.tr (Tr.anti fun a z => z.imp (h a) id) _ q
  | o k => exact q
  | f ds =>
    obtain ⟨a, xs, rfl, e1, e2, n1, n2⟩ := q
    exact ⟨a, xs, rfl, e1, e2.tr (Tr.anti fun b z => z.imp (fun z => z.imp (h b) id) id) _, fun z => n1 (h _ z), n2⟩
end
/-- the value as it is given out -/
def escS (k : Nat) : EM PyData := fun env => match env[k]? with
  | some (.im x) => .ok x env
  | some (.own o) => .ok o.data (env.set k (.im o.data))
  | _ => .no
def esc : W → EM PyData
  | .d x => ret x
  | .f ds => ret (.list ds)
  | .o k => escS k
def pkS : Option Sl → Option PyData
  | some (.im x) => some x
  | some (.own o) => some o.data
  | some (.io ds) => some (.list ds)
  | _ => none
/-- the value as it is read -/
def pk (w : W) (env : Env) : Option PyData := match w with
  | .d x => some x
  | .f ds => some (.list ds)
  | .o k => pkS env[k]?
/-- read: a list perhaps of the frame's own, its items off N -/
def Rq (K : PySem.W.Frag) (N : Ax) (H : Hp) (v : V) : PyData → Prop
  | .list ds => ∃ a xs, v = .ref a ∧ SqL K H a xs ∧ Rps K N H xs ds
  | .dict ps => Rp K N H v (.dict ps) ∨ ∃ a kvs, v = .ref a ∧ Rd H a (.dK kvs) ∧ RpK K N H kvs ps
  | x => Rp K N H v x
section
variable {g : G} {K : PySem.W.Frag} {N No No' : Ax} {H H1 H2 : Hp} {σ : St} {env env1 env2 : Env} {v : V} {w : W} {x : PyData}
theorem Rp.rq (h : Rp K N H v x) : Rq K N H v x := by
  cases x with
  | list ds => cases h with | lst h1 h2 => exact ⟨_, _, rfl, h1.sq, h2⟩
  | dict ps => exact .inl h
  | _ => exact h
theorem Rq.dp (c : x.canLay0 = true) (h : Rq K N H v x) : Dp K H v x := by
  cases x with
  | list ds => obtain ⟨a, xs, rfl, h1, h2⟩ := h; exact .lst h1 (h2.dp _ (by simpa [PyData.canLay0] using c))
  | dict ps => simp [PyData.canLay0] at c
  | _ => exact Rp.dp _ c h
theorem PV.pk (p : PV g No H σ env v w) (h : pk w env = some x) : Rq g.K (Un2 (plus No v w) (Mo g σ env)) H v x := by
  obtain ⟨r, q⟩ := p
  cases w with
  | d y =>
    cases h
    exact Rp.rq (Rp.tr (Tr.anti fun a z => z) _ q)
  | f ds =>
    cases h
    obtain ⟨a, xs, rfl, e1, e2, _⟩ := q
    exact ⟨a, xs, rfl, .of e1, e2⟩
  | o k =>
    have h : pkS env[k]? = some x := h
    have q : σ[k]? = some (some v) := q
    unfold pkS at h
    split at h
    · rename_i y e
      cases h
      obtain ⟨v', e1, e2⟩ := r.im k _ e
      rw [q] at e1
      cases e1
      exact e2.rq
    · rename_i o e
      cases h
      obtain ⟨a, e1, e2⟩ := r.oc k _ e
      rw [q] at e1
      cases e1
      cases o with
      | l ds => obtain ⟨xs, e2, e3⟩ := e2; exact ⟨a, xs, rfl, .of e2, e3⟩
      | k ps => obtain ⟨xs, e2, e3⟩ := e2; exact .inr ⟨a, xs, rfl, .of e2, e3⟩
    · rename_i ds e
      cases h
      obtain ⟨xs, e1, e2, e3⟩ := r.io k _ e
      rw [q] at e1
      cases e1
      exact ⟨_, xs, rfl, .of e2, e3⟩
    · cases h
/-- given out -/
theorem PV.esc (p : PV g No H σ env v w) (h : esc w env = .ok x env2) : RepS g No H σ env2 ∧ Rp g.K (Un2 No (Mo g σ env2)) H v x ∧ (∀ a, Mo g σ env2 a → Mo g σ env a) := by
  obtain ⟨r, q⟩ := id p
  cases w with
  | d y => cases h; exact ⟨r, q, fun _ z => z⟩
  | f ds =>
    cases h
    obtain ⟨a, xs, rfl, e1, e2, n1, n2⟩ := q
    exact ⟨p.base, .lst (.inl ⟨fun z => z.elim n1 n2, .of e1⟩) (e2.tr (Tr.anti fun b z => z.imp .inl id) _), fun _ z => z⟩
  | o k =>
    have h : escS k env = .ok x env2 := h
    have q : σ[k]? = some (some v) := q
    unfold escS at h
    split at h
    · rename_i y e
      cases h
      obtain ⟨v', e1, e2⟩ := r.im k _ e
      rw [q] at e1
      cases e1
      exact ⟨r, e2, fun _ z => z⟩
    · rename_i ds e
      cases h
      obtain ⟨z1, z2, z3⟩ := RepS.releaseO (show RepS g No H σ env from r) e
      exact ⟨z1, z3 v q, z2⟩
    · cases h
theorem esc_nex {x : Xn} : PL.esc w env ≠ .ex x env2 := by
  cases w with
  | d y => exact fun h => by cases h
  | f ds => exact fun h => by cases h
  | o k =>
    show escS k env ≠ _
    unfold escS
    split <;> exact fun h => by cases h
end

/-! ### exceptions, the judgement -/
def IsX (K : PySem.W.Frag) (mg : Str → Option Value) (N : Ax) (H : Hp) (cls : Value) (dx : Option Addr) (x : Xn) : Prop :=
  mg x.cls = some cls ∧ match x.lim with
    | none => dx = none
    | some y => ∃ p v, dx = some p ∧ H p = some (.xd [("limit", v)]) ∧ Rp K N H v y
theorem IsX.anti {K : PySem.W.Frag} {mg : Str → Option Value} {N N' : Ax} {H : Hp} {cls : Value} {dx : Option Addr} {x : Xn} (i : IsX K mg N H cls dx x) (h : ∀ a, N' a → N a) : IsX K mg N' H cls dx x := by
  obtain ⟨i1, i2⟩ := i
  refine ⟨i1, ?_⟩
  split at i2
  · exact i2
  · obtain ⟨p, v, a1, a2, a3⟩ := i2
    exact ⟨p, v, a1, a2, a3.tr (Tr.anti h) _⟩
def exC (g : G) (WW : WX) (No : Ax) (env : Env) (σ : St) (H : Hp) (x : Xn) (env' : Env) : Prop :=
  ∀ cls dx H', EvM (Mo g σ env) H (Mo g σ env') H' → RepS g No H' σ env' → IsX g.K g.mg (Un2 No (Mo g σ env')) H' cls dx x → WW cls dx σ H'
def tX (g : G) (WW : WX) (m : EM W) : TE := fun σ H Q => ∃ No env, RepS g No H σ env ∧ match m env with
  | .ok w env' => ∀ v H', EvM (Mo g σ env) H (Mo g σ env') H' → PV g No H' σ env' v w → Fr H v w → Q v H'
  | .ex x env' => exC g WW No env σ H x env'
  | .no => False
def tT (g : G) (WW : WX) (m : EM Bool) : TT := fun σ H Q => ∃ No env, RepS g No H σ env ∧ match m env with
  | .ok b env' => ∀ H', EvM (Mo g σ env) H (Mo g σ env') H' → RepS g No H' σ env' → Q b H'
  | .ex x env' => exC g WW No env σ H x env'
  | .no => False
def evs : List (EM W) → EM (List PyData)
  | [] => ret []
  | m :: ms => bnd m fun w => bnd (esc w) fun x => bnd (evs ms) fun xs => ret (x :: xs)
def tA (g : G) (WW : WX) (ms : List (EM W)) : TA := fun σ H Q => ∃ No env, RepS g No H σ env ∧ match evs ms env with
  | .ok xs env' => ∀ vs H', EvM (Mo g σ env) H (Mo g σ env') H' → RepS g No H' σ env' → Rps g.K (Un2 No (Mo g σ env')) H' vs xs → Q vs H'
  | .ex x env' => exC g WW No env σ H x env'
  | .no => False
abbrev gX (X : Cx) (T : List (Addr × Str)) (io : Addr) : G := ⟨X.K, T, X.mg, io⟩
theorem _root_.L2.PE.imp {X : Cx} {e : Expr} {t t' : TE} (h : PE X e t) (i : ∀ σ H Q, t' σ H Q → t σ H Q) : PE X e t' := ⟨fun pins s σ H Q I hw => h.run pins s σ H Q I (i _ _ _ hw)⟩
theorem _root_.L2.PT.imp {X : Cx} {e : Expr} {t t' : TT} (h : PT X e t) (i : ∀ σ H Q, t' σ H Q → t σ H Q) : PT X e t' := ⟨fun pins s σ H Q I hw => h.run pins s σ H Q I (i _ _ _ hw)⟩
theorem _root_.L2.PW.imp {X : Cx} {e : Expr} {t t' : TT} (h : PW X e t) (i : ∀ σ H Q, t' σ H Q → t σ H Q) : PW X e t' := ⟨fun wh pins s σ H Q I hw => h.run wh pins s σ H Q I (i _ _ _ hw)⟩
theorem _root_.L2.PA.imp {X : Cx} {es : List Expr} {t t' : TA} (h : PA X es t) (i : ∀ σ H Q, t' σ H Q → t σ H Q) : PA X es t' := ⟨fun pos pins s σ H Q I hw => h.run pos pins s σ H Q I (i _ _ _ hw)⟩
section
variable {g : G} {WW : WX} {No : Ax} {H H1 H2 : Hp} {σ : St} {env env1 env2 : Env}
theorem exC.back {x : Xn} {No1 : Ax} (h : exC g WW No env σ H x env2) (e : EvM (Mo g σ env) H (Mo g σ env1) H1) (hn : ∀ a, No a → No1 a) : exC g WW No1 env1 σ H1 x env2 := fun cls dx H' e' r i =>
  h cls dx H' (e.trans e') (r.anti hn) (i.anti fun a z => z.imp (hn a) id)
/-- the first part of a run -/
theorem tX_of {m : EM W} {Q : VK} (r : RepS g No H σ env) (hx : ∀ x env', m env = .ex x env' → exC g WW No env σ H x env') (hn : m env ≠ .no)
    (hq : ∀ w env' v H', m env = .ok w env' → EvM (Mo g σ env) H (Mo g σ env') H' → PV g No H' σ env' v w → Fr H v w → Q v H') : tX g WW m σ H Q := by
  refine ⟨No, env, r, ?_⟩
  cases e : m env with
  | ok w env' => exact fun v H' => hq w env' v H' e
  | ex x env' => exact hx x env' e
  | no => exact hn e
theorem tT_of {m : EM Bool} {Q : Bool → Hp → Prop} (r : RepS g No H σ env) (hx : ∀ x env', m env = .ex x env' → exC g WW No env σ H x env') (hn : m env ≠ .no)
    (hq : ∀ b env' H', m env = .ok b env' → EvM (Mo g σ env) H (Mo g σ env') H' → RepS g No H' σ env' → Q b H') : tT g WW m σ H Q := by
  refine ⟨No, env, r, ?_⟩
  cases e : m env with
  | ok w env' => exact fun H' => hq w env' H' e
  | ex x env' => exact hx x env' e
  | no => exact hn e
theorem tA_of {ms : List (EM W)} {Q : List V → Hp → Prop} (r : RepS g No H σ env) (hx : ∀ x env', evs ms env = .ex x env' → exC g WW No env σ H x env') (hn : evs ms env ≠ .no)
    (hq : ∀ xs env' vs H', evs ms env = .ok xs env' → EvM (Mo g σ env) H (Mo g σ env') H' → RepS g No H' σ env' → Rps g.K (Un2 No (Mo g σ env')) H' vs xs → Q vs H') : tA g WW ms σ H Q := by
  refine ⟨No, env, r, ?_⟩
  cases e : evs ms env with
  | ok w env' => exact fun vs H' => hq w env' vs H' e
  | ex x env' => exact hx x env' e
  | no => exact hn e
/-- a run in two parts: what the whole says of the first -/
structure Two {α β : Type} (m : EM α) (f : α → EM β) (env : Env) (res : R β) : Prop where
  eq : bnd m f env = res
theorem bnd_ok {α β : Type} {m : EM α} {f : α → EM β} {a : α} (e : m env = .ok a env1) : bnd m f env = f a env1 := by unfold bnd; rw [e]
theorem bnd_ex {α β : Type} {m : EM α} {f : α → EM β} {x : Xn} (e : m env = .ex x env1) : bnd m f env = .ex x env1 := by unfold bnd; rw [e]
theorem bnd_no {α β : Type} {m : EM α} {f : α → EM β} (e : m env = .no) : bnd m f env = .no := by unfold bnd; rw [e]
end
end PL

set_option Elab.async false
set_option linter.all false
set_option maxRecDepth 100000
/-! PL3: expressions: names, constants, operators, comparisons, tests. -/
namespace PL
open PySem PySem.Spec PyProof.Rows L2

abbrev F0 : Ax := fun _ => False
def Nok (N : Ax) (H : Hp) : Prop := ∀ a, N a → H a ≠ none
/-- what an operation hands back -/
def RvW (K : PySem.W.Frag) (N : Ax) (H H' : Hp) (v : V) : W → Prop
  | .d x => Rp K N H' v x
  | .f ds => ∃ p xs, v = .ref p ∧ H p = none ∧ H' p = some (.lst xs) ∧ Rps K (fun a => N a ∨ a = p) H' xs ds
  | .o _ => False
def Post (K : PySem.W.Frag) (T : List (Addr × Str)) (N : Ax) (H : Hp) (w : W) (Q : VK) : Prop :=
  ∀ v H', EvM F0 H F0 H' → LamX.Tabs T H' → RvW K N H H' v w → Q v H'
def Spec1 (K : PySem.W.Frag) (T : List (Addr × Str)) (r : V → Hp → VK → Prop) (f : PyData → Option W) : Prop :=
  ∀ (x : V) (H : Hp) (Q : VK) (N : Ax) (a : PyData) (w : W), Nok N H → LamX.Tabs T H → Rq K N H x a → f a = some w → Post K T N H w Q → r x H Q
def Spec2 (K : PySem.W.Frag) (T : List (Addr × Str)) (r : R2) (f : PyData → PyData → Option W) : Prop :=
  ∀ (x y : V) (H : Hp) (Q : VK) (N : Ax) (a b : PyData) (w : W), Nok N H → LamX.Tabs T H → Rq K N H x a → Rq K N H y b → f a b = some w → Post K T N H w Q → r x y H Q
theorem EvM.up {M : Ax} {H H' : Hp} (e : EvM F0 H F0 H') : EvM M H M H' := ⟨fun a o h n _ => e.keep a o h n fun z => z, fun _ z => .inl z, e.dom⟩
theorem EvM.down {M1 M2 : Ax} {H H' : Hp} (e : EvM M1 H M2 H') (h : ∀ a, ¬ M1 a) : EvM F0 H F0 H' := ⟨fun a o q n _ => e.keep a o q n (h a), fun _ z => z.elim, e.dom⟩
section
variable {g : G} {No No1 : Ax} {H H2 H' : Hp} {σ : St} {env env2 : Env} {v : V} {w : W}
theorem RepS.nok (r : RepS g No H σ env) : Nok (Un2 No (Mo g σ env)) H := fun a z => z.elim (fun z => (r.nout a z).1) fun z => by
  obtain ⟨xs, e, _⟩ := Mo_some r z
  rw [e]
  exact fun q => by cases q
theorem fin_of (r : RepS g No1 H2 σ env2) (hs : ∀ a, No a → No1 a) (e : EvM F0 H2 F0 H') (t : LamX.Tabs g.T H') (q : RvW g.K (Un2 No1 (Mo g σ env2)) H2 H' v w) : PV g No H' σ env2 v w ∧ Fr H2 v w := by
  cases w with
  | d x => exact ⟨⟨r.ev e t fun a z => .inl (hs a z), Rp.tr (Tr.anti fun a z => z.imp (hs a) id) _ q⟩, trivial⟩
  | o k => exact q.elim
  | f ds =>
    obtain ⟨p, xs, rfl, np, hp, q⟩ := q
    have n1 : ¬ Un2 No1 (Mo g σ env2) p := fun z => r.nok p z np
    refine ⟨⟨r.ev e t fun a z => ?_, p, xs, rfl, hp, q.tr (Tr.anti fun a z => ?_) _, fun z => n1 (.inl (hs p z)), fun z => n1 (.inr z)⟩, np⟩
    · rcases z with z | rfl
      · exact .inl (hs a z)
      · exact .inr ⟨np, by rw [hp]; exact fun z => by cases z⟩
    · rcases z with (z | rfl) | z
      · exact .inl (.inl (hs a z))
      · exact .inr rfl
      · exact .inl (.inr z)
theorem Fr.back {H1 : Hp} {M1 M2 : Ax} (h : Fr H2 v w) (e : EvM M1 H1 M2 H2) : Fr H1 v w := by
  cases w with
  | f ds =>
    cases v with
    | ref a =>
      cases q : H1 a with
      | none => exact q
      | some o => exact absurd (show H2 a = none from h) (e.dom a (by rw [q]; exact fun z => by cases z))
    | _ => exact trivial
  | _ => exact trivial
end

section
variable {g : G} {No No2 : Ax} {H1 H2 : Hp} {σ : St} {env1 env2 : Env} {v : V} {a : W} {x : PyData}
theorem PV.pk2 (p : PV g No H1 σ env1 v a) (e : EvM (Mo g σ env1) H1 (Mo g σ env2) H2) (r : RepS g No2 H2 σ env2) (hn : ∀ c, No2 c → plus No v a c ∨ H1 c = none) (h : PL.pk a env2 = some x) :
    Rq g.K (Un2 No2 (Mo g σ env2)) H2 v x := by
  have tr : Tr (Un2 (plus No v a) (Mo g σ env1)) H1 (Un2 No2 (Mo g σ env2)) H2 := fun c o hc nt nm => by
    refine ⟨e.keep c o hc nt fun z => nm (.inr z), fun z => ?_⟩
    rcases z with z | z
    · rcases hn c z with z | z
      · exact nm (.inl z)
      · rw [hc] at z
        cases z
    · exact (e.new c z).elim (fun z => nm (.inr z)) fun z => by rw [hc] at z; cases z
  cases a with
  | d y =>
    cases h
    exact Rp.rq (Rp.tr tr _ (show Rp g.K (Un2 (plus No v (.d _)) (Mo g σ env1)) H1 v _ from p.val))
  | f ds =>
    cases h
    obtain ⟨q, xs, rfl, a1, a2, a3, a4⟩ := p.val
    exact ⟨q, xs, rfl, .of (e.keep q _ a1 (fun ps z => by cases z) a4), a2.tr tr _⟩
  | o k => exact PV.pk (w := .o k) (No := No2) ⟨r, p.val⟩ h
end

/-! ### operations on what was run -/
def app1 (f : PyData → Option W) (a : W) : EM W := fun env => match pk a env with
  | none => .no
  | some x => match f x with
    | none => .no
    | some w => .ok w env
def app2 (f : PyData → PyData → Option W) (a b : W) : EM W := fun env => match pk a env with
  | none => .no
  | some x => match pk b env with
    | none => .no
    | some y => match f x y with
      | none => .no
      | some w => .ok w env
def op1 (f : PyData → Option W) (ma : EM W) : EM W := bnd ma fun a => app1 f a
def op2 (f : PyData → PyData → Option W) (ma mb : EM W) : EM W := bnd ma fun a => bnd mb fun b => app2 f a b
theorem app1_ok {f : PyData → Option W} {a : W} {env env' : Env} {w : W} (h : app1 f a env = .ok w env') : env' = env ∧ ∃ x, pk a env = some x ∧ f x = some w := by
  unfold app1 at h
  split at h
  · cases h
  · rename_i x e
    split at h
    · cases h
    · rename_i w' e'
      cases h
      exact ⟨rfl, x, e, e'⟩
theorem app2_ok {f : PyData → PyData → Option W} {a b : W} {env env' : Env} {w : W} (h : app2 f a b env = .ok w env') : env' = env ∧ ∃ x y, pk a env = some x ∧ pk b env = some y ∧ f x y = some w := by
  unfold app2 at h
  split at h
  · cases h
  · rename_i x e
    split at h
    · cases h
    · rename_i y e2
      split at h
      · cases h
      · rename_i w' e'
        cases h
        exact ⟨rfl, x, y, e, e2, e'⟩
theorem app1_nex {f : PyData → Option W} {a : W} {env env' : Env} {x : Xn} : app1 f a env ≠ .ex x env' := by
  unfold app1
  split
  · exact fun h => by cases h
  · split <;> exact fun h => by cases h
theorem app2_nex {f : PyData → PyData → Option W} {a b : W} {env env' : Env} {x : Xn} : app2 f a b env ≠ .ex x env' := by
  unfold app2
  split
  · exact fun h => by cases h
  · split
    · exact fun h => by cases h
    · split <;> exact fun h => by cases h
section
variable {g : G} {WW : WX} {H : Hp} {σ : St} {Q : VK} {ma mb : EM W}
theorem one_of {r : V → Hp → VK → Prop} {f : PyData → Option W} (hs : Spec1 g.K g.T r f) (h : tX g WW (op1 f ma) σ H Q) : tX g WW ma σ H fun x H1 => r x H1 Q := by
  obtain ⟨No, env, rep, h⟩ := h
  refine tX_of rep (fun x env' e => ?_) (fun e => ?_) fun a env1 v H1 e ev pv fr => ?_
  · rw [show op1 f ma env = _ from bnd_ex e] at h
    exact h
  · rw [show op1 f ma env = _ from bnd_no e] at h
    exact h
  · rw [show op1 f ma env = app1 f a env1 from bnd_ok e] at h
    cases q : app1 f a env1 with
    | no => rw [q] at h; exact h.elim
    | ex x e' => exact absurd q app1_nex
    | ok w env' =>
      rw [q] at h
      obtain ⟨rfl, x, e1, e2⟩ := app1_ok q
      refine hs v H1 Q _ x w pv.rep.nok pv.rep.tab (pv.pk e1) e2 fun v' H' e' t' q' => ?_
      obtain ⟨p1, p2⟩ := fin_of pv.rep (fun a z => plus_of a z) e' t' q'
      exact h v' H' (ev.trans e'.up) p1 (p2.back ev)
theorem two_core {β : Type} {m2 : W → W → EM β} {Z : V → V → Hp → Prop} {No : Ax} {env : Env} (rep : RepS g No H σ env)
    (hx : ∀ x env', bnd ma (fun a => bnd mb fun b => m2 a b) env = .ex x env' → exC g WW No env σ H x env') (hn : bnd ma (fun a => bnd mb fun b => m2 a b) env ≠ .no)
    (hz : ∀ a b env2 v u H2, bnd ma (fun a => bnd mb fun b => m2 a b) env = m2 a b env2 → EvM (Mo g σ env) H (Mo g σ env2) H2 → RepS g (plus (plus No v a) u b) H2 σ env2 →
      (∀ x, pk a env2 = some x → Rq g.K (Un2 (plus (plus No v a) u b) (Mo g σ env2)) H2 v x) → PV g (plus No v a) H2 σ env2 u b → Z v u H2) :
    tX g WW ma σ H fun x H1 => tX g WW mb σ H1 fun y H2 => Z x y H2 := by
  refine tX_of rep (fun x env' e => hx x env' (bnd_ex e)) (fun e => hn (bnd_no e)) fun a env1 v H1 e ev pv fr => ?_
  have w1 := bnd_ok (f := fun a => bnd mb fun b => m2 a b) e
  refine tX_of pv.rep (fun x env' e => ?_) (fun e => hn (w1.trans (bnd_no e))) fun b env2 u H2 e2 ev2 pu fr2 => ?_
  · exact (hx x env' (w1.trans (bnd_ex e))).back ev fun a z => plus_of a z
  · refine hz a b env2 v u H2 (w1.trans (bnd_ok e2)) (ev.trans ev2) pu.rep (fun x h => pv.pk2 ev2 pu.rep (plus_new fr2) h) pu
theorem two_of {r : R2} {f : PyData → PyData → Option W} (hs : Spec2 g.K g.T r f) (h : tX g WW (op2 f ma mb) σ H Q) : tX g WW ma σ H fun x H1 => tX g WW mb σ H1 fun y H2 => r x y H2 Q := by
  obtain ⟨No, env, rep, h⟩ := h
  refine two_core (m2 := app2 f) rep (fun x env' e => ?_) (fun e => ?_) fun a b env2 v u H2 e ev r2 k1 k2 => ?_
  · rw [show op2 f ma mb env = _ from e] at h
    exact h
  · rw [show op2 f ma mb env = _ from e] at h
    exact h
  · rw [show op2 f ma mb env = _ from e] at h
    cases q : app2 f a b env2 with
    | no => rw [q] at h; exact h.elim
    | ex x e' => exact absurd q app2_nex
    | ok w env' =>
      rw [q] at h
      obtain ⟨rfl, x, y, e3, e4, e5⟩ := app2_ok q
      refine hs v u H2 Q _ x y w r2.nok r2.tab (k1 x e3) (k2.pk e4) e5 fun v' H' e' t' q' => ?_
      obtain ⟨p1, p2⟩ := fin_of r2 (fun c z => plus_of c (plus_of c z)) e' t' q'
      exact h v' H' (ev.trans e'.up) p1 (p2.back ev)
end
end PL

set_option Elab.async false
set_option linter.all false
set_option maxRecDepth 100000
/-! PL4: names, constants, operators, comparisons, tests over the text. -/
namespace PL
open PySem PySem.Spec PyProof.Rows L2

abbrev PX (X : Cx) (T : List (Addr × Str)) (io : Addr) (WW : WX) (e : Expr) (m : EM W) : Prop := PE X e (tX (gX X T io) WW m)
abbrev PXT (X : Cx) (T : List (Addr × Str)) (io : Addr) (WW : WX) (e : Expr) (m : EM Bool) : Prop := PT X e (tT (gX X T io) WW m)
abbrev PXA (X : Cx) (T : List (Addr × Str)) (io : Addr) (WW : WX) (es : List Expr) (ms : List (EM W)) : Prop := PA X es (tA (gX X T io) WW ms)

section
variable {g : G} {WW : WX} {H : Hp} {σ : St}
theorem tX_d {Q : VK} {x : PyData} {v : V} (h : tX g WW (ret (.d x)) σ H Q) (hv : ∀ N, Rp g.K N H v x) : Q v H := by
  obtain ⟨No, env, r, h⟩ := h
  exact h v H (EvM.refl _ _) ⟨r, hv _⟩ trivial
theorem tT.mono {m : EM Bool} {Q Q' : Bool → Hp → Prop} (h : tT g WW m σ H Q) (i : ∀ b H', Q b H' → Q' b H') : tT g WW m σ H Q' := by
  obtain ⟨No, env, r, h⟩ := h
  refine ⟨No, env, r, ?_⟩
  split at h
  · exact fun H' e q => i _ _ (h H' e q)
  · exact h
  · exact h
def bv (m : EM Bool) : EM W := bnd m fun b => ret (.d (.bool b))
theorem bv_of {m : EM Bool} {Q : VK} (h : tX g WW (bv m) σ H Q) : tT g WW m σ H fun b H' => Q (.bl b) H' := by
  obtain ⟨No, env, r, h⟩ := h
  refine tT_of r (fun x env' e => ?_) (fun e => ?_) fun b env' H' e ev r' => ?_
  · rw [show bv m env = _ from bnd_ex e] at h
    exact h
  · rw [show bv m env = _ from bnd_no e] at h
    exact h
  · rw [show bv m env = _ from bnd_ok e] at h
    exact h (.bl b) H' ev ⟨r', .bl b⟩ trivial
end

/-! ### names, constants -/
def rdV (i : Nat) : EM W := fun env => match env[i]? with
  | some (.im x) => .ok (.d x) env
  | some (.own _) => .ok (.o i) env
  | some (.io _) => .ok (.o i) env
  | _ => .no
section
variable {X : Cx} {T : List (Addr × Str)} {io : Addr} {WW : WX} {pos : Pos}
theorem px_var (i : Nat) {x : Str} (hN : X.N[i]? = some x := by rfl) (hv : Vis X.env.scope x := by first | exact Or.inl rfl | exact Or.inr (Or.inl rfl) | exact Or.inr (Or.inr rfl)) (hd : (x == ("__debug__" : Str)) = false := by decide)
    (hcd : (x == ("__classdict__" : Str)) = false := by decide) : PX X T io WW (.Name x pos) (rdV i) := by
  refine (pe_var hN hv hd hcd).imp fun σ H Q h => ?_
  obtain ⟨No, env, r, h⟩ := h
  unfold rdV at h
  cases e : env[i]? with
  | none => rw [e] at h; exact h.elim
  | some s =>
    rw [e] at h
    cases s with
    | e => exact h.elim
    | im x =>
      obtain ⟨v, e1, q⟩ := r.im i x e
      exact ⟨v, e1, h v H (EvM.refl _ _) ⟨r, q⟩ trivial⟩
    | own o =>
      obtain ⟨a, e1, q⟩ := r.oc i o e
      exact ⟨_, e1, h _ H (EvM.refl _ _) ⟨r, e1⟩ trivial⟩
    | io ds =>
      obtain ⟨xs, e1, e2, q⟩ := r.io i ds e
      exact ⟨_, e1, h _ H (EvM.refl _ _) ⟨r, e1⟩ trivial⟩
theorem px_int {i : Int} {j : Nat} : PX X T io WW (.Constant (.int i) j pos) (ret (.d (.int i))) := pe_int.imp fun σ H Q h => tX_d h fun N => .int i
theorem px_bl {b : Bool} {j : Nat} : PX X T io WW (.Constant (.bool b) j pos) (ret (.d (.bool b))) := pe_bl.imp fun σ H Q h => tX_d h fun N => .bl b
theorem px_non {j : Nat} : PX X T io WW (.Constant .none j pos) (ret (.d .none)) := pe_non.imp fun σ H Q h => tX_d h fun N => .non
theorem px_str {x : Str} {j : Nat} : PX X T io WW (.Constant (.str x) j pos) (ret (.d (.str x))) := pe_str.imp fun σ H Q h => tX_d h fun N => .str x
theorem px_glob {x : Str} {v : V} {u : Value} (d : PyData) (hg : Gl X x) (hm : X.mg x = some u) (r : RelV v u) (hp : ∀ N H, Rp X.K N H v d) (hd : (x == ("__debug__" : Str)) = false := by decide) : PX X T io WW (.Name x pos) (ret (.d d)) :=
  (pe_glob hg hm r hd).imp fun σ H Q h => tX_d h fun N => hp N H

/-! ### operators -/
variable {a b c d : Expr} {ma mb mc md : EM W}
theorem px_bin {op : Operator} {r : R2} {f : PyData → PyData → Option W} (ho : OpR X (binaryOp op) r) (hs : Spec2 X.K T r f) (ha : PX X T io WW a ma) (hb : PX X T io WW b mb) : PX X T io WW (.BinOp a op b pos) (op2 f ma mb) :=
  (pe_op ho ha hb).imp fun σ H Q h => two_of hs h
theorem px_un {op : UnaryOp} {r : V → Hp → VK → Prop} {f : PyData → Option W} (ho : UnR X (unaryOp op) r) (hs : Spec1 X.K T r f) (ha : PX X T io WW a ma) : PX X T io WW (.UnaryOp op a pos) (op1 f ma) :=
  (pe_un ho ha).imp fun σ H Q h => one_of hs h

/-! ### comparisons -/
def SpecB (K : PySem.W.Frag) (T : List (Addr × Str)) (r : R2) (f : PyData → PyData → Option Bool) : Prop :=
  ∀ (x y : V) (H : Hp) (Q : VK) (N : Ax) (a b : PyData) (c : Bool), Nok N H → LamX.Tabs T H → Rq K N H x a → Rq K N H y b → f a b = some c → Q (.bl c) H → r x y H Q
def cmpA (f : PyData → PyData → Option Bool) (a b : W) : EM Bool := fun env => match pk a env with
  | none => .no
  | some x => match pk b env with
    | none => .no
    | some y => match f x y with
      | none => .no
      | some w => .ok w env
def cmp2 (f : PyData → PyData → Option Bool) (ma mb : EM W) : EM Bool := bnd ma fun a => bnd mb fun b => cmpA f a b
theorem cmpA_ok {f : PyData → PyData → Option Bool} {a b : W} {env env' : Env} {w : Bool} (h : cmpA f a b env = .ok w env') : env' = env ∧ ∃ x y, pk a env = some x ∧ pk b env = some y ∧ f x y = some w := by
  unfold cmpA at h
  split at h
  · cases h
  · rename_i x e
    split at h
    · cases h
    · rename_i y e2
      split at h
      · cases h
      · rename_i w' e'
        cases h
        exact ⟨rfl, x, y, e, e2, e'⟩
theorem cmpA_nex {f : PyData → PyData → Option Bool} {a b : W} {env env' : Env} {x : Xn} : cmpA f a b env ≠ .ex x env' := by
  unfold cmpA
  split
  · exact fun h => by cases h
  · split
    · exact fun h => by cases h
    · split <;> exact fun h => by cases h
theorem twoB_of {g : G} {σ : St} {H : Hp} {r : R2} {f : PyData → PyData → Option Bool} {Q : VK} (hs : SpecB g.K g.T r f) (h : tT g WW (cmp2 f ma mb) σ H fun c H' => Q (.bl c) H') :
    tX g WW ma σ H fun x H1 => tX g WW mb σ H1 fun y H2 => r x y H2 Q := by
  obtain ⟨No, env, rep, h⟩ := h
  refine two_core (m2 := cmpA f) rep (fun x env' e => ?_) (fun e => ?_) fun a b env2 v u H2 e ev r2 k1 k2 => ?_
  · rw [show cmp2 f ma mb env = _ from e] at h
    exact h
  · rw [show cmp2 f ma mb env = _ from e] at h
    exact h
  · rw [show cmp2 f ma mb env = _ from e] at h
    cases q : cmpA f a b env2 with
    | no => rw [q] at h; exact h.elim
    | ex x e' => exact absurd q cmpA_nex
    | ok w env' =>
      rw [q] at h
      obtain ⟨rfl, x, y, e3, e4, e5⟩ := cmpA_ok q
      exact hs v u H2 Q _ x y w r2.nok r2.tab (k1 x e3) (k2.pk e4) e5 (h H2 ev (r2.anti fun c z => plus_of c (plus_of c z)))
theorem pxt_cmp {op : CmpOp} {r : R2} {f : PyData → PyData → Option Bool} (ho : OpR X (compareOp op) r) (hs : SpecB X.K T r f) (ha : PX X T io WW a ma) (hb : PX X T io WW b mb) (hm : behindInMarks op b = false) :
    PXT X T io WW (.Compare a [op] [b] pos) (cmp2 f ma mb) :=
  (pt_cmpR ho ha hb hm).imp fun σ H Q h => twoB_of (g := gX X T io) hs (h.mono fun b H' q => ⟨b, rfl, q⟩)
theorem px_cmp {op : CmpOp} {r : R2} {f : PyData → PyData → Option Bool} (ho : OpR X (compareOp op) r) (hs : SpecB X.K T r f) (ha : PX X T io WW a ma) (hb : PX X T io WW b mb) (hm : behindInMarks op b = false) :
    PX X T io WW (.Compare a [op] [b] pos) (bv (cmp2 f ma mb)) :=
  (pe_cmpR ho ha hb hm).imp fun σ H Q h => twoB_of (g := gX X T io) hs (bv_of h)
/-- a op b op' c -/
def chn2 (f f' : PyData → PyData → Option Bool) (ma mb mc : EM W) : EM Bool :=
  bnd ma fun a => bnd mb fun b => bnd (cmpA f a b) fun k => if k = true then bnd mc fun c => cmpA f' b c else ret false
def chn3 (f f' f'' : PyData → PyData → Option Bool) (ma mb mc md : EM W) : EM Bool :=
  bnd ma fun a => bnd mb fun b => bnd (cmpA f a b) fun k => if k = true then bnd mc fun c => bnd (cmpA f' b c) fun k' => if k' = true then bnd md fun d => cmpA f'' c d else ret false else ret false
def tChain3 (r r' r'' : R2) (ta tb tc td : TE) : TE := fun σ H Q => ta σ H fun x H1 => tb σ H1 fun y H2 => r x y H2 fun z H3 => ∃ k, z = .bl k ∧
  (if k = true then tc σ H3 fun w H4 => r' y w H4 fun z' H5 => ∃ k', z' = .bl k' ∧ (if k' = true then td σ H5 fun w' H6 => r'' w w' H6 Q else Q (.bl false) H5) else Q (.bl false) H3)
theorem pe_chain3 {op op' op'' : CmpOp} {r r' r'' : R2} {ta tb tc td : TE} (ho : OpR X (compareOp op) r) (ho' : OpR X (compareOp op') r') (ho'' : OpR X (compareOp op'') r'') (ha : PE X a ta) (hb : PE X b tb) (hc : PE X c tc) (hd : PE X d td)
    (hm : lastMarks [op, op', op''] [b, c, d] = false := by with_unfolding_all rfl) : PE X (.Compare a [op, op', op''] [b, c, d] pos) (tChain3 r r' r'' ta tb tc td) := by
  refine ⟨fun pins s σ H Q I h => ?_⟩
  refine Compare_chain (thn (ha.run pins s σ H _ I h) fun v s1 ⟨x, H1, I1, r1, q1⟩ => chain_link (thn (hb.run pins s1 σ H1 _ I1 q1) fun u s2 ⟨y, H2, I2, r2, q2⟩ =>
    thn (ho pins s2 σ H2 x y v u _ I2 r1 r2 q2) fun d s3 ⟨z, H3, I3, r3, k, e, q3⟩ => ?_)) hm
  subst e
  cases r3
  refine wpAny_truthy_bool ?_
  cases k with
  | false => exact ite_ff ⟨.bl false, H3, I3, rfl, q3⟩
  | true =>
    refine ite_tt (chain_link (thn (hc.run pins s3 σ H3 _ I3 q3) fun w' s4 ⟨z', H4, I4, r4, q4⟩ => thn (ho' pins s4 σ H4 y z' u w' _ I4 r2 r4 q4) fun d s5 ⟨z, H5, I5, r5, k, e, q5⟩ => ?_))
    subst e
    cases r5
    refine wpAny_truthy_bool ?_
    cases k with
    | false => exact ite_ff ⟨.bl false, H5, I5, rfl, q5⟩
    | true => exact ite_tt (chain_last (thn (hd.run pins s5 σ H5 _ I5 q5) fun w2 s6 ⟨z2, H6, I6, r6, q6⟩ => ho'' pins s6 σ H6 z' z2 w' w2 Q I6 r4 r6 q6))
theorem chn2_of {g : G} {σ : St} {H : Hp} {r r' : R2} {f f' : PyData → PyData → Option Bool} {Q : VK} (hs : SpecB g.K g.T r f) (hs' : SpecB g.K g.T r' f') (h : tT g WW (chn2 f f' ma mb mc) σ H fun c H' => Q (.bl c) H') :
    tChain r r' (tX g WW ma) (tX g WW mb) (tX g WW mc) σ H Q := by
  obtain ⟨No, env, rep, h⟩ := h
  refine two_core (m2 := fun a b => bnd (cmpA f a b) fun k => if k = true then bnd mc fun c => cmpA f' b c else ret false) rep (fun x env' e => ?_) (fun e => ?_) fun a b env2 v u H2 e ev r2 k1 k2 => ?_
  · rw [show chn2 f f' ma mb mc env = _ from e] at h
    exact h
  · rw [show chn2 f f' ma mb mc env = _ from e] at h
    exact h
  · rw [show chn2 f f' ma mb mc env = _ from e] at h
    cases q : cmpA f a b env2 with
    | no => rw [bnd_no q] at h; exact h.elim
    | ex x e' => exact absurd q cmpA_nex
    | ok w env' =>
      rw [bnd_ok q] at h
      obtain ⟨rfl, x, y, e3, e4, e5⟩ := cmpA_ok q
      refine hs v u H2 _ _ x y w r2.nok r2.tab (k1 x e3) (k2.pk e4) e5 ⟨w, rfl, ?_⟩
      cases w with
      | false =>
        rw [if_neg Bool.false_ne_true] at h ⊢
        exact h H2 ev (r2.anti fun c z => plus_of c (plus_of c z))
      | true =>
        rw [if_pos rfl] at h ⊢
        refine tX_of r2 (fun x env' e => ?_) (fun e => ?_) fun c env3 w3 H3 e ev3 p3 f3 => ?_
        · rw [bnd_ex e] at h
          exact h.back ev fun c z => plus_of c (plus_of c z)
        · rw [bnd_no e] at h
          exact h
        · rw [bnd_ok e] at h
          cases q : cmpA f' b c env3 with
          | no => rw [q] at h; exact h.elim
          | ex x e' => exact absurd q cmpA_nex
          | ok w env' =>
            rw [q] at h
            obtain ⟨rfl, x, y, e3, e4, e5⟩ := cmpA_ok q
            refine hs' u w3 H3 Q _ x y w p3.rep.nok p3.rep.tab (k2.pk2 ev3 p3.rep (plus_new f3) e3) (p3.pk e4) e5 (h H3 (ev.trans ev3) (p3.rep.anti fun c z => plus_of c (plus_of c (plus_of c z))))
theorem px_chn2 {op op' : CmpOp} {r r' : R2} {f f' : PyData → PyData → Option Bool} (ho : OpR X (compareOp op) r) (ho' : OpR X (compareOp op') r') (hs : SpecB X.K T r f) (hs' : SpecB X.K T r' f') (ha : PX X T io WW a ma) (hb : PX X T io WW b mb) (hc : PX X T io WW c mc)
    (hm : lastMarks [op, op'] [b, c] = false := by with_unfolding_all rfl) : PX X T io WW (.Compare a [op, op'] [b, c] pos) (bv (chn2 f f' ma mb mc)) :=
  (pe_chain ho ho' ha hb hc hm).imp fun σ H Q h => chn2_of (g := gX X T io) hs hs' (bv_of h)
theorem pxt_chn2 {op op' : CmpOp} {r r' : R2} {f f' : PyData → PyData → Option Bool} (ho : OpR X (compareOp op) r) (ho' : OpR X (compareOp op') r') (hs : SpecB X.K T r f) (hs' : SpecB X.K T r' f') (ha : PX X T io WW a ma) (hb : PX X T io WW b mb) (hc : PX X T io WW c mc)
    (hm : lastMarks [op, op'] [b, c] = false := by with_unfolding_all rfl) : PXT X T io WW (.Compare a [op, op'] [b, c] pos) (chn2 f f' ma mb mc) :=
  (pt_chain ho ho' ha hb hc hm).imp fun σ H Q h => chn2_of (g := gX X T io) (Q := fun x H' => ∃ k, x = .bl k ∧ Q k H') hs hs' (h.mono fun b H' q => ⟨b, rfl, q⟩)
end
end PL

set_option Elab.async false
set_option linter.all false
set_option maxRecDepth 100000
/-! PL5: truth, and, or, not, if, items, slices, displays. -/
namespace PL
open PySem PySem.Spec PyProof.Rows L2

abbrev PXW (X : Cx) (T : List (Addr × Str)) (io : Addr) (WW : WX) (e : Expr) (m : EM Bool) : Prop := PW X e (tT (gX X T io) WW m)
/-! ### the truth of data -/
def tru : PyData → Option Bool
  | .none => some false
  | .bool b => some b
  | .int i => some (i != 0)
  | .str x => if x.length ≤ sizeLine then some ((x.length : Int) != 0) else none
  | .list xs => some (!xs.isEmpty)
  | .tuple xs => some (!xs.isEmpty)
  | .dict _ => none
def truA (w : W) : EM Bool := fun env => match pk w env with
  | none => .no
  | some x => match tru x with
    | none => .no
    | some b => .ok b env
def truM (m : EM W) : EM Bool := bnd m truA
theorem truA_ok {a : W} {env env' : Env} {b : Bool} (h : truA a env = .ok b env') : env' = env ∧ ∃ x, pk a env = some x ∧ tru x = some b := by
  unfold truA at h
  split at h
  · cases h
  · rename_i x e
    split at h
    · cases h
    · rename_i b' e'
      cases h
      exact ⟨rfl, x, e, e'⟩
theorem truA_nex {a : W} {env env' : Env} {x : Xn} : truA a env ≠ .ex x env' := by
  unfold truA
  split
  · exact fun h => by cases h
  · split <;> exact fun h => by cases h
theorem Rps.isEmpty {K : PySem.W.Frag} {N : Ax} {H : Hp} {ds : List PyData} {vs : List V} (h : Rps K N H vs ds) : (!vs.isEmpty) = !ds.isEmpty := by
  cases h <;> rfl
theorem truV_of {K : PySem.W.Frag} {N : Ax} {H : Hp} {v : V} {x : PyData} {b : Bool} (r : Rq K N H v x) (h : tru x = some b) : TruV K v H b := by
  cases x with
  | none => cases r; exact (Option.some.inj h).symm
  | bool c => cases r; exact (Option.some.inj h).symm
  | int i => cases r; exact (Option.some.inj h).symm
  | str y =>
    cases r
    have h : (if y.length ≤ sizeLine then some ((y.length : Int) != 0) else none) = some b := h
    split at h
    · rename_i hz
      exact ⟨hz, (Option.some.inj h).symm⟩
    · cases h
  | list ds =>
    obtain ⟨a, xs, rfl, e, q⟩ := r
    exact .inl ⟨xs, e, by rw [q.isEmpty]; exact (Option.some.inj h).symm⟩
  | tuple ds =>
    cases r with
    | tup e q => exact .inr (.inl ⟨_, e.sq, by rw [q.isEmpty]; exact (Option.some.inj h).symm⟩)
  | dict _ => cases h

/-! ### and, or, not, if -/
def andM (c d : EM Bool) : EM Bool := bnd c fun b => if b = true then d else ret false
def orM (c d : EM Bool) : EM Bool := bnd c fun b => if b = true then ret true else d
def notM (c : EM Bool) : EM Bool := bnd c fun b => ret (!b)
def ifM (c : EM Bool) (a b : EM W) : EM W := bnd c fun k => if k = true then a else b
def boolK (w : W) : EM Bool := match w with
  | .d (.bool b) => ret b
  | _ => fun _ => .no
def boolM (m : EM W) : EM Bool := bnd m boolK
def andV (a b : EM W) : EM W := bnd (boolM a) fun k => if k = true then b else ret (.d (.bool false))
def orV (a b : EM W) : EM W := bnd (boolM a) fun k => if k = true then ret (.d (.bool true)) else b
section
variable {g : G} {WW : WX} {H : Hp} {σ : St} {No : Ax} {env : Env}
/-- a test first -/
theorem tT_then {β : Type} {c : EM Bool} {m2 : Bool → EM β} {Z : Bool → Hp → Prop} (rep : RepS g No H σ env) (hx : ∀ x env', bnd c m2 env = .ex x env' → exC g WW No env σ H x env') (hn : bnd c m2 env ≠ .no)
    (hz : ∀ b env1 H1, bnd c m2 env = m2 b env1 → EvM (Mo g σ env) H (Mo g σ env1) H1 → RepS g No H1 σ env1 → Z b H1) : tT g WW c σ H Z :=
  tT_of rep (fun x env' e => hx x env' (bnd_ex e)) (fun e => hn (bnd_no e)) fun b env1 H1 e ev r => hz b env1 H1 (bnd_ok e) ev r
theorem tX_res {m : EM W} {m0 : EM W} {env0 : Env} {H0 : Hp} {Q : VK} (rep : RepS g No H σ env) (ev : EvM (Mo g σ env0) H0 (Mo g σ env) H) (e : m0 env0 = m env)
    (h : match m0 env0 with
      | .ok w env' => ∀ v H', EvM (Mo g σ env0) H0 (Mo g σ env') H' → PV g No H' σ env' v w → Fr H0 v w → Q v H'
      | .ex x env' => exC g WW No env0 σ H0 x env'
      | .no => False) : tX g WW m σ H Q := by
  rw [e] at h
  refine ⟨No, env, rep, ?_⟩
  cases q : m env with
  | ok w env' => rw [q] at h; exact fun v H' e' p f => h v H' (ev.trans e') p (f.back ev)
  | ex x env' => rw [q] at h; exact exC.back h ev fun _ z => z
  | no => rw [q] at h; exact h
theorem tT_res {m : EM Bool} {m0 : EM Bool} {env0 : Env} {H0 : Hp} {Q : Bool → Hp → Prop} (rep : RepS g No H σ env) (ev : EvM (Mo g σ env0) H0 (Mo g σ env) H) (e : m0 env0 = m env)
    (h : match m0 env0 with
      | .ok b env' => ∀ H', EvM (Mo g σ env0) H0 (Mo g σ env') H' → RepS g No H' σ env' → Q b H'
      | .ex x env' => exC g WW No env0 σ H0 x env'
      | .no => False) : tT g WW m σ H Q := by
  rw [e] at h
  refine ⟨No, env, rep, ?_⟩
  cases q : m env with
  | ok w env' => rw [q] at h; exact fun H' e' p => h H' (ev.trans e') p
  | ex x env' => rw [q] at h; exact exC.back h ev fun _ z => z
  | no => rw [q] at h; exact h
end
section
variable {X : Cx} {T : List (Addr × Str)} {io : Addr} {WW : WX} {pos p2 : Pos} {a b c : Expr} {ma mb : EM W} {mc md : EM Bool} {rest : List Expr}
theorem truB_of {g : G} {σ : St} {H : Hp} {Q : Bool → Hp → Prop} (h : tT g WW (truM ma) σ H Q) : tX g WW ma σ H fun x H' => ∃ k, TruV g.K x H' k ∧ Q k H' := by
  obtain ⟨No, env, rep, h⟩ := h
  refine tX_of rep (fun x env' e => ?_) (fun e => ?_) fun w env1 v H1 e ev pv fr => ?_
  · rw [show truM ma env = _ from bnd_ex e] at h; exact h
  · rw [show truM ma env = _ from bnd_no e] at h; exact h
  · rw [show truM ma env = _ from bnd_ok e] at h
    cases q : truA w env1 with
    | no => rw [q] at h; exact h.elim
    | ex x e' => exact absurd q truA_nex
    | ok b env' =>
      rw [q] at h
      obtain ⟨rfl, x, e1, e2⟩ := truA_ok q
      exact ⟨b, truV_of (pv.pk e1) e2, h H1 ev pv.base⟩
theorem pxt_tru (ha : PX X T io WW a ma) (he : ∀ whole, isTrue a X.env whole = (do let v ← whole; standAt a.pos; holding [v] (truthy v)) := by intro _; rfl) : PXT X T io WW a (truM ma) :=
  (pt_truth ha he).imp fun σ H Q h => truB_of (g := gX X T io) h
theorem pxw_and1 (ha : PXT X T io WW a mc) : PXW X T io WW (.BoolOp .And [a] pos) mc := pw_and1 ha
theorem pxw_or1 (ha : PXT X T io WW a mc) : PXW X T io WW (.BoolOp .Or [a] pos) mc := pw_or1 ha
theorem pxw_and (ha : PXT X T io WW a mc) (hb : PXW X T io WW (.BoolOp .And (b :: rest) pos) md) : PXW X T io WW (.BoolOp .And (a :: b :: rest) pos) (andM mc md) := by
  refine (pw_and ha hb).imp fun σ H Q h => ?_
  obtain ⟨No, env, rep, h⟩ := h
  refine tT_then (m2 := fun b => if b = true then md else ret false) rep (fun x env' e => ?_) (fun e => ?_) fun k env1 H1 e ev r => ?_
  · rw [show andM mc md env = _ from e] at h; exact h
  · rw [show andM mc md env = _ from e] at h; exact h
  · cases k with
    | true =>
      rw [if_pos rfl] at e ⊢
      exact tT_res r ev e h
    | false =>
      rw [if_neg Bool.false_ne_true] at e ⊢
      rw [show andM mc md env = _ from e] at h
      exact h H1 ev r
theorem pxw_or (ha : PXT X T io WW a mc) (hb : PXW X T io WW (.BoolOp .Or (b :: rest) pos) md) : PXW X T io WW (.BoolOp .Or (a :: b :: rest) pos) (orM mc md) := by
  refine (pw_or ha hb).imp fun σ H Q h => ?_
  obtain ⟨No, env, rep, h⟩ := h
  refine tT_then (m2 := fun b => if b = true then ret true else md) rep (fun x env' e => ?_) (fun e => ?_) fun k env1 H1 e ev r => ?_
  · rw [show orM mc md env = _ from e] at h; exact h
  · rw [show orM mc md env = _ from e] at h; exact h
  · cases k with
    | false =>
      rw [if_neg Bool.false_ne_true] at e ⊢
      exact tT_res r ev e h
    | true =>
      rw [if_pos rfl] at e ⊢
      rw [show orM mc md env = _ from e] at h
      exact h H1 ev r
theorem not_of {g : G} {σ : St} {H : Hp} {Q : Bool → Hp → Prop} (h : tT g WW (notM mc) σ H Q) : tT g WW mc σ H fun c H1 => Q (!c) H1 := by
  obtain ⟨No, env, rep, h⟩ := h
  refine tT_of rep (fun x env' e => ?_) (fun e => ?_) fun b env' H' e ev r' => ?_
  · rw [show notM mc env = _ from bnd_ex e] at h; exact h
  · rw [show notM mc env = _ from bnd_no e] at h; exact h
  · rw [show notM mc env = _ from bnd_ok e] at h
    exact h H' ev r'
theorem pxt_not (ha : PXT X T io WW a mc) : PXT X T io WW (.UnaryOp .Not a pos) (notM mc) :=
  (pt_not ha).imp fun σ H Q h => not_of h
theorem px_if (hc : PXT X T io WW c mc) (ha : PX X T io WW a ma) (hb : PX X T io WW b mb) : PX X T io WW (.IfExp c a b pos) (ifM mc ma mb) := by
  refine (pe_ifExp hc ha hb).imp fun σ H Q h => ?_
  obtain ⟨No, env, rep, h⟩ := h
  refine tT_then (m2 := fun k => if k = true then ma else mb) rep (fun x env' e => ?_) (fun e => ?_) fun k env1 H1 e ev r => ?_
  · rw [show ifM mc ma mb env = _ from e] at h; exact h
  · rw [show ifM mc ma mb env = _ from e] at h; exact h
  · cases k with
    | true =>
      rw [if_pos rfl] at e ⊢
      exact tX_res r ev e h
    | false =>
      rw [if_neg Bool.false_ne_true] at e ⊢
      exact tX_res r ev e h
theorem boolK_ok {w : W} {env env' : Env} {b : Bool} (h : boolK w env = .ok b env') : env' = env ∧ w = .d (.bool b) := by
  unfold boolK at h
  split at h
  · cases h; exact ⟨rfl, rfl⟩
  · cases h
theorem boolK_nex {w : W} {env env' : Env} {x : Xn} : boolK w env ≠ .ex x env' := by
  unfold boolK
  split <;> exact fun h => by cases h
/-- a bool first, as a value -/
theorem bool_then {g : G} {σ : St} {H : Hp} {β : Type} {m2 : Bool → EM β} {Z : Bool → Hp → Prop} {No : Ax} {env : Env} (rep : RepS g No H σ env) (hx : ∀ x env', bnd (boolM ma) m2 env = .ex x env' → exC g WW No env σ H x env') (hn : bnd (boolM ma) m2 env ≠ .no)
    (hz : ∀ b env1 H1, bnd (boolM ma) m2 env = m2 b env1 → EvM (Mo g σ env) H (Mo g σ env1) H1 → RepS g No H1 σ env1 → Z b H1) : tX g WW ma σ H fun x H1 => ∃ c, x = .bl c ∧ Z c H1 := by
  refine tX_of rep (fun x env' e => hx x env' (bnd_ex (bnd_ex e))) (fun e => hn (bnd_no (bnd_no e))) fun w env1 v H1 e ev pv fr => ?_
  cases q : boolK w env1 with
  | no => exact (hn (bnd_no ((bnd_ok e).trans q))).elim
  | ex x e' => exact absurd q boolK_nex
  | ok b env' =>
    obtain ⟨rfl, rfl⟩ := boolK_ok q
    have r : Rp g.K (Un2 No (Mo g σ env')) H1 v (.bool b) := pv.val
    cases r
    exact ⟨b, rfl, hz b env' H1 (bnd_ok ((bnd_ok e).trans q)) ev pv.base⟩
theorem px_one {op : BoolOp} (ha : PX X T io WW a ma) : PX X T io WW (.BoolOp op [a] pos) ma := pe_one ha
theorem px_and (ha : PX X T io WW a ma) (hb : PX X T io WW (.BoolOp .And (b :: rest) pos) mb) : PX X T io WW (.BoolOp .And (a :: b :: rest) pos) (andV ma mb) := by
  refine (pe_and ha hb).imp fun σ H Q h => ?_
  obtain ⟨No, env, rep, h⟩ := h
  refine bool_then (m2 := fun k => if k = true then mb else ret (.d (.bool false))) (Z := fun c H1 => if c = true then tX (gX X T io) WW mb σ H1 Q else Q (.bl false) H1) rep (fun x env' e => ?_) (fun e => ?_) fun k env1 H1 e ev r => ?_
  · rw [show andV ma mb env = _ from e] at h; exact h
  · rw [show andV ma mb env = _ from e] at h; exact h
  · cases k with
    | true =>
      rw [if_pos rfl] at e ⊢
      exact tX_res r ev e h
    | false =>
      rw [if_neg Bool.false_ne_true] at e ⊢
      rw [show andV ma mb env = _ from e] at h
      exact h _ H1 ev ⟨r, .bl false⟩ trivial
theorem px_or (ha : PX X T io WW a ma) (hb : PX X T io WW (.BoolOp .Or (b :: rest) pos) mb) : PX X T io WW (.BoolOp .Or (a :: b :: rest) pos) (orV ma mb) := by
  refine (pe_or ha hb).imp fun σ H Q h => ?_
  obtain ⟨No, env, rep, h⟩ := h
  refine bool_then (m2 := fun k => if k = true then ret (.d (.bool true)) else mb) (Z := fun c H1 => if c = true then Q (.bl true) H1 else tX (gX X T io) WW mb σ H1 Q) rep (fun x env' e => ?_) (fun e => ?_) fun k env1 H1 e ev r => ?_
  · rw [show orV ma mb env = _ from e] at h; exact h
  · rw [show orV ma mb env = _ from e] at h; exact h
  · cases k with
    | false =>
      rw [if_neg Bool.false_ne_true] at e ⊢
      exact tX_res r ev e h
    | true =>
      rw [if_pos rfl] at e ⊢
      rw [show orV ma mb env = _ from e] at h
      exact h _ H1 ev ⟨r, .bl true⟩ trivial
def notV (m : EM W) : EM W := bv (notM (boolM m))
theorem px_not (ha : PX X T io WW a ma) : PX X T io WW (.UnaryOp .Not a pos) (notV ma) := by
  refine (pe_not ha).imp fun σ H Q h => ?_
  have h1 := not_of (bv_of h)
  obtain ⟨No, env, rep, h⟩ := h1
  have e0 : ∀ env, bnd (boolM ma) (fun b => ret b) env = boolM ma env := fun env => by
    unfold bnd
    split <;> (rename_i q; rw [q] <;> rfl)
  refine bool_then (m2 := fun k => ret k) (Z := fun c H1 => Q (.bl (!c)) H1) rep (fun x env' e => ?_) (fun e => ?_) fun k env1 H1 e ev r => ?_
  · rw [e0] at e; rw [e] at h; exact h
  · rw [e0] at e; rw [e] at h; exact h
  · rw [e0] at e; rw [e] at h; exact h H1 ev r

/-! ### items -/
theorem atI_map {K : PySem.W.Frag} {N : Ax} {H : Hp} {vs : List V} {ds : List PyData} {i : Int} {d : PyData} (r : Rps K N H vs ds) (h : atI ds i = some d) : ∃ v, atI vs i = some v ∧ Rp K N H v d := by
  unfold atI at h ⊢
  rw [r.length]
  cases q : ixN ds.length i with
  | none => rw [q] at h; cases h
  | some j =>
    rw [q] at h
    exact Rps.get r h
def ixF : PyData → PyData → Option W
  | .list xs, .int i => (atI xs i).map .d
  | .tuple xs, .int i => (atI xs i).map .d
  | _, _ => none
def rIxD (K : PySem.W.Frag) : R2 := fun x y H Q => rIxL K x y H Q ∨ rIxT K x y H Q
theorem ix_dat : IxR X (rIxD X.K) := ix_list.or ix_tup
theorem s2_ix {K : PySem.W.Frag} : Spec2 K T (rIxD K) ixF := by
  intro x y H Q N a b w nok t ra rb e post
  unfold ixF at e
  split at e
  · cases q : atI _ _ with
    | none => rw [q] at e; cases e
    | some d =>
      rw [q] at e
      cases e
      obtain ⟨p, vs, rfl, hp, r⟩ := ra
      cases rb
      obtain ⟨v, h1, h2⟩ := atI_map r q
      exact .inl ⟨p, vs, _, v, rfl, rfl, hp, h1, post v H (EvM.refl _ _) t h2⟩
  · cases q : atI _ _ with
    | none => rw [q] at e; cases e
    | some d =>
      rw [q] at e
      cases e
      cases ra with
      | tup h r =>
        cases rb
        obtain ⟨v, h1, h2⟩ := atI_map r q
        exact .inr ⟨_, _, _, v, rfl, rfl, h.sq, h1, post v H (EvM.refl _ _) t h2⟩
  · cases e
theorem px_ix (ha : PX X T io WW a ma) (hb : PX X T io WW b mb) (hs : PlainIx b := by exact fun _ _ => rfl) : PX X T io WW (.Subscript a b pos) (op2 ixF ma mb) :=
  (pe_ix ix_dat ha hb hs).imp fun σ H Q h => two_of (g := gX X T io) s2_ix h

/-! ### slices -/
def cut {α : Type} (xs : List α) (lo hi : Option Int) : List α := (xs.drop (HT.sIx xs.length 0 lo)).take (HT.sIx xs.length xs.length hi - HT.sIx xs.length 0 lo)
theorem cut_reps {K : PySem.W.Frag} {N : Ax} {H : Hp} {vs : List V} {ds : List PyData} (r : Rps K N H vs ds) (lo hi : Option Int) : Rps K N H (cutV vs lo hi) (cut ds lo hi) := by
  unfold cutV cut
  rw [r.length]
  exact (r.drop _).take _
def slF (x : PyData) (lo hi : Option Int) : Option W := match x with
  | .list xs => some (.f (cut xs lo hi))
  | .tuple xs => some (.d (.tuple (cut xs lo hi)))
  | _ => none
def intK (w : W) : EM (Option Int) := match w with
  | .d (.int i) => ret (some i)
  | _ => fun _ => .no
def partM : Option (EM W) → EM (Option Int)
  | none => ret none
  | some m => bnd m intK
def slM (ma : EM W) (lo hi : Option (EM W)) : EM W := bnd ma fun a => bnd (partM lo) fun l => bnd (partM hi) fun h => app1 (fun x => slF x l h) a
theorem intK_ok {w : W} {env env' : Env} {b : Option Int} (h : intK w env = .ok b env') : env' = env ∧ ∃ i, b = some i ∧ w = .d (.int i) := by
  unfold intK at h
  split at h
  · cases h; exact ⟨rfl, _, rfl, rfl⟩
  · cases h
theorem intK_nex {w : W} {env env' : Env} {x : Xn} : intK w env ≠ .ex x env' := by
  unfold intK
  split <;> exact fun h => by cases h
/-- a slice's part over the text -/
inductive POx (X : Cx) (T : List (Addr × Str)) (io : Addr) (WW : WX) : Option Expr → Option (EM W) → TO → Prop
  | none : POx X T io WW none none tNoPart
  | some {e : Expr} {m : EM W} : PX X T io WW e m → POx X T io WW (some e) (some m) (tPart (tX (gX X T io) WW m))
theorem POx.po {lo : Option Expr} {ml : Option (EM W)} {t : TO} (h : POx X T io WW lo ml t) : PO X lo t := by
  cases h with
  | none => exact po_none
  | some h => exact po_some h
theorem part_then {lo : Option Expr} {ml : Option (EM W)} {t : TO} (h : POx X T io WW lo ml t) {σ : St} {H : Hp} {β : Type} {m2 : Option Int → EM β} {Z : Option Int → Hp → Prop} {No : Ax} {env : Env} (rep : RepS (gX X T io) No H σ env)
    (hx : ∀ x env', bnd (partM ml) m2 env = .ex x env' → exC (gX X T io) WW No env σ H x env') (hn : bnd (partM ml) m2 env ≠ .no)
    (hz : ∀ b env1 H1, bnd (partM ml) m2 env = m2 b env1 → EvM (Mo (gX X T io) σ env) H (Mo (gX X T io) σ env1) H1 → RepS (gX X T io) No H1 σ env1 → Z b H1) : t σ H Z := by
  cases h with
  | none => exact hz none env H rfl (EvM.refl _ _) rep
  | some h =>
    rename_i e m
    refine tX_of rep (fun x env' e => hx x env' (bnd_ex (bnd_ex e))) (fun e => hn (bnd_no (bnd_no e))) fun w env1 v H1 e ev pv fr => ?_
    cases q : intK w env1 with
    | no => exact (hn (bnd_no ((bnd_ok e).trans q))).elim
    | ex x e' => exact absurd q intK_nex
    | ok b env' =>
      obtain ⟨rfl, i, rfl, rfl⟩ := intK_ok q
      have r : Rp (gX X T io).K (Un2 No (Mo (gX X T io) σ env')) H1 v (.int i) := pv.val
      cases r
      exact ⟨i, rfl, hz (some i) env' H1 (bnd_ok ((bnd_ok e).trans q)) ev pv.base⟩
def rSlD (K : PySem.W.Frag) : V → Option Int → Option Int → Hp → VK → Prop := fun x lo hi H Q => rSlL K x lo hi H Q ∨ rSlA K x lo hi H Q
theorem sl_dat : SlR X (rSlD X.K) := sl_list.or sl_tupA
theorem cut_whole {α : Type} (xs : List α) (lo hi : Option Int) (h : HT.sIx xs.length 0 lo = 0 ∧ HT.sIx xs.length xs.length hi = xs.length) : cut xs lo hi = xs := by
  unfold cut
  rw [h.1, h.2, List.drop_zero, Nat.sub_zero, List.take_length]
theorem s1_sl {K : PySem.W.Frag} (lo hi : Option Int) : Spec1 K T (fun x H Q => rSlD K x lo hi H Q) (fun x => slF x lo hi) := by
  intro x H Q N a w nok t ra e post
  have e : slF a lo hi = some w := e
  unfold slF at e
  split at e
  · cases e
    obtain ⟨p, vs, rfl, hp, r⟩ := ra
    refine .inl ⟨p, vs, rfl, hp, fun q nq => post _ _ (EvM.upd nq) (tabs_upd t nq) ⟨q, _, rfl, nq, upd_same, (cut_reps r lo hi).tr (fun c o hc _ nm => ?_) _⟩⟩
    have ne := ne_of_none hc nq
    exact ⟨by rw [upd_ne ne]; exact hc, fun z => z.elim nm ne⟩
  · cases e
    cases ra with
    | tup h r =>
      rename_i p vs
      refine .inr ⟨p, vs, rfl, h.sq, fun hw => post _ H (EvM.refl _ _) t ?_, fun hw q nq => post _ _ (EvM.upd nq) (tabs_upd t nq) (.tup (.inl ⟨fun z => nok q z nq, .inl upd_same⟩) ((cut_reps r lo hi).tr (fun c o hc _ nm => ?_) _))⟩
      · rw [r.length] at hw
        rw [cut_whole _ lo hi hw]
        exact .tup h r
      · have ne := ne_of_none hc nq
        exact ⟨by rw [upd_ne ne]; exact hc, nm⟩
  · cases e
theorem px_sl {lo hi : Option Expr} {ml mh : Option (EM W)} {tl th : TO} (ha : PX X T io WW a ma) (hl : POx X T io WW lo ml tl) (hh : POx X T io WW hi mh th) : PX X T io WW (.Subscript a (.Slice lo hi none p2) pos) (slM ma ml mh) := by
  refine (pe_slice sl_dat ha hl.po hh.po).imp fun σ H Q h => ?_
  obtain ⟨No, env, rep, h⟩ := h
  refine tX_of rep (fun x env' e => ?_) (fun e => ?_) fun w env1 v H1 e ev pv fr => ?_
  · rw [show slM ma ml mh env = _ from bnd_ex e] at h; exact h
  · rw [show slM ma ml mh env = _ from bnd_no e] at h; exact h
  rw [show slM ma ml mh env = _ from bnd_ok e] at h
  refine part_then (m2 := fun l => bnd (partM mh) fun h => app1 (fun x => slF x l h) w) hl pv.rep (fun x env' e => ?_) (fun e => ?_) fun l env2 H2 e2 ev2 r2 => ?_
  · rw [e] at h; exact h.back ev fun c z => plus_of c z
  · rw [e] at h; exact h
  rw [e2] at h
  refine part_then (m2 := fun h => app1 (fun x => slF x l h) w) hh r2 (fun x env' e => ?_) (fun e => ?_) fun u env3 H3 e3 ev3 r3 => ?_
  · rw [e] at h; exact h.back (ev.trans ev2) fun c z => plus_of c z
  · rw [e] at h; exact h
  rw [e3] at h
  cases q : app1 (fun x => slF x l u) w env3 with
  | no => rw [q] at h; exact h.elim
  | ex x e' => exact absurd q app1_nex
  | ok w' env' =>
    rw [q] at h
    obtain ⟨rfl, x, e4, e5⟩ := app1_ok q
    refine s1_sl l u v H3 Q (Un2 (plus No v w) (Mo (gX X T io) σ env')) x w' r3.nok r3.tab (pv.pk2 (ev2.trans ev3) r3 (fun c z => .inl z) e4) e5 fun v' H' e' t' q' => ?_
    obtain ⟨p1, p2⟩ := fin_of r3 (fun a z => plus_of a z) e' t' q'
    exact h v' H' (((ev.trans ev2).trans ev3).trans e'.up) p1 (p2.back ((ev.trans ev2).trans ev3))
end
end PL

set_option Elab.async false
set_option linter.all false
set_option maxRecDepth 100000
/-! PL6: arithmetic, comparisons by data; argument lists, displays. -/
namespace PL
open PySem PySem.Spec PyProof.Rows L2

section
variable {K : PySem.W.Frag} {T : List (Addr × Str)} {X : Cx}
def orF {α : Type} (f f' : PyData → PyData → Option α) : PyData → PyData → Option α := fun x y => match f x y with
  | some w => some w
  | none => f' x y
theorem Spec2.or {r r' : R2} {f f' : PyData → PyData → Option W} (h : Spec2 K T r f) (h' : Spec2 K T r' f') : Spec2 K T (fun x y H Q => r x y H Q ∨ r' x y H Q) (orF f f') := by
  intro x y H Q N a b w nok t ra rb e post
  unfold orF at e
  cases q : f a b with
  | some z =>
    rw [q] at e
    cases e
    exact .inl (h x y H Q N a b _ nok t ra rb q post)
  | none =>
    rw [q] at e
    exact .inr (h' x y H Q N a b w nok t ra rb e post)
theorem SpecB.or {r r' : R2} {f f' : PyData → PyData → Option Bool} (h : SpecB K T r f) (h' : SpecB K T r' f') : SpecB K T (fun x y H Q => r x y H Q ∨ r' x y H Q) (orF f f') := by
  intro x y H Q N a b w nok t ra rb e post
  unfold orF at e
  cases q : f a b with
  | some z =>
    rw [q] at e
    cases e
    exact .inl (h x y H Q N a b _ nok t ra rb q post)
  | none =>
    rw [q] at e
    exact .inr (h' x y H Q N a b w nok t ra rb e post)
/-- ints to an int -/
def iiF (c : Int → Int → Bool) (h : Int → Int → Int) : PyData → PyData → Option W
  | .int i, .int j => if c i j = true then some (.d (.int (h i j))) else none
  | _, _ => none
theorem s2_ii (c : Int → Int → Bool) (h : Int → Int → Int) : Spec2 K T (rI (fun i j => c i j = true) fun i j => .int (h i j)) (iiF c h) := by
  intro x y H Q N a b w nok t ra rb e post
  unfold iiF at e
  split at e
  · rename_i i j
    split at e
    · rename_i hc
      cases e
      cases ra
      cases rb
      exact ⟨i, j, rfl, rfl, hc, post _ H (EvM.refl _ _) t (.int _)⟩
    · cases e
  · cases e
def yes2 : Int → Int → Bool := fun _ _ => true
def mulOk (i j : Int) : Bool := decide (i.natAbs.log2 + j.natAbs.log2 < 1000000) || decide (-(2 ^ 64) < i ∧ i < 2 ^ 64) || decide (-(2 ^ 64) < j ∧ j < 2 ^ 64)
def divOk (_ j : Int) : Bool := decide (j ≠ 0 ∧ j.natAbs < 1073741824) || decide (0 < j ∧ j.natAbs.log2 < 9000)
def modOk (_ j : Int) : Bool := decide (j ≠ 0)
def powOk (i j : Int) : Bool := decide (0 ≤ j ∧ j ≤ 1000000 ∧ i.natAbs < 2 ^ 64)
theorem mulOk_ok {i j : Int} (h : mulOk i j = true) : IntMulOk i j := by
  unfold mulOk at h
  rw [Bool.or_eq_true, Bool.or_eq_true] at h
  rcases h with (h | h) | h
  · exact CMulW.ok (show i.natAbs.log2 + j.natAbs.log2 < 1000000 from of_decide_eq_true h)
  · exact CMul.ok (.inl (of_decide_eq_true h))
  · exact CMul.ok (.inr (of_decide_eq_true h))
theorem op_addA : OpR X (binaryOp .Add) (rI (fun i j => yes2 i j = true) fun i j => .int (i + j)) := opI fun _ _ _ _ _ _ _ _ q => add_int q
theorem op_subA : OpR X (binaryOp .Sub) (rI (fun i j => yes2 i j = true) fun i j => .int (i - j)) := opI fun _ _ _ _ _ _ _ _ q => sub_int q
theorem op_mulA : OpR X (binaryOp .Mult) (rI (fun i j => mulOk i j = true) fun i j => .int (i * j)) := opI fun _ _ _ _ _ _ _ hc q => mul_int q (mulOk_ok hc)
theorem op_fdivA : OpR X (binaryOp .FloorDiv) (rI (fun i j => divOk i j = true) fun i j => .int (i.fdiv j)) := opI fun i j _ _ _ _ _ hc q => by
  unfold divOk at hc
  rw [Bool.or_eq_true] at hc
  rcases hc with h | h
  · have h := of_decide_eq_true h
    exact floordiv_int h.1 q (.inl (PyProof.noPylong_small h.2))
  · have h := of_decide_eq_true h
    exact floordiv_int (by omega) q (.inl (PyProof.noPylong_of_log2 h.2))
theorem op_modA : OpR X (binaryOp .Mod) (rI (fun i j => modOk i j = true) fun i j => .int (i.fmod j)) := opI fun _ _ _ _ _ _ _ hc q => mod_int' (of_decide_eq_true hc) q
theorem op_powA : OpR X (binaryOp .Pow) (rI (fun i j => powOk i j = true) fun i j => .int (i ^ j.toNat)) := opI fun _ _ _ _ _ _ _ hc q => by
  have h := of_decide_eq_true hc
  exact pow_int_small h.1 h.2.1 h.2.2 q
/-- sequences, added -/
def catF : PyData → PyData → Option W
  | .list xs, .list ys => if xs.length + ys.length ≤ sizeLine then some (.f (xs ++ ys)) else none
  | .tuple xs, .tuple ys => if xs.length + ys.length ≤ sizeLine then some (.d (.tuple (xs ++ ys))) else none
  | _, _ => none
def rCatR (K : PySem.W.Frag) : R2 := fun x y H Q => ∃ l b xs zs, x = .ref l ∧ y = .ref b ∧ SqL K H l xs ∧ SqL K H b zs ∧ xs.length + zs.length ≤ sizeLine ∧ ∀ p, H p = none → Q (.ref p) (upd H p (.lst (xs ++ zs)))
theorem op_catR : OpR X (binaryOp .Add) (rCatR X.K) := by
  intro pins s σ H x y v u Q I rx ry h
  obtain ⟨l, b, xs, zs, rfl, rfl, hl, hb, hz, q⟩ := h
  cases rx
  cases ry
  obtain ⟨vs, r1, p1, _⟩ := I.list hl
  obtain ⟨ws, r2, p2, _⟩ := I.list hb
  obtain ⟨⟨cls, dd, data, sl⟩, ho, hc, n, hd⟩ := id p1.isList
  obtain ⟨⟨cls2, dd2, data2, sl2⟩, ho2, hc2, n2, hd2⟩ := id p2.isList
  simp only at hc hd hc2 hd2
  subst hc hd hc2 hd2
  have e : vs.toArray ++ ws.toArray = (vs ++ ws).toArray := by simp
  have k1 := r1.length
  have k2 := r2.length
  refine concat_meets ⟨_, ho, rfl⟩ ⟨_, ho2, rfl⟩ noFill_list_add seq_list_add PySem.F.slot_list_add PySem.F.entry_list_add (PySem.F.args_list_add_2 _ _) (list_addW l b vs.toArray ws.toArray n n2 dd dd2 sl sl2 (by simp only [List.size_toArray]; omega)) ⟨ho, ho2, ?_⟩
  rw [e]
  exact ⟨.ref _, _, I.lnew (t' := s.toks) (r1.append r2) (by rw [List.length_append]; omega), rfl, q _ I.fresh⟩
def rCatD (K : PySem.W.Frag) : R2 := fun x y H Q => rCatR K x y H Q ∨ rCatA K x y H Q
theorem op_catD : OpR X (binaryOp .Add) (rCatD X.K) := op_catR.or op_catA
theorem Tr.new {N : Ax} {H : Hp} {p : Addr} {o : HO} (np : H p = none) : Tr N H (fun a => N a ∨ a = p) (upd H p o) := fun c u hc _ nm => by
  have ne := ne_of_none hc np
  exact ⟨by rw [upd_ne ne]; exact hc, fun z => z.elim nm ne⟩
theorem Tr.newN {N : Ax} {H : Hp} {p : Addr} {o : HO} (np : H p = none) : Tr N H N (upd H p o) := fun c u hc _ nm => by
  have ne := ne_of_none hc np
  exact ⟨by rw [upd_ne ne]; exact hc, nm⟩
theorem Post.lst {N : Ax} {H : Hp} {Q : VK} {ds : List PyData} {vs : List V} (post : Post K T N H (.f ds) Q) (t : LamX.Tabs T H) (r : Rps K N H vs ds) : ∀ p, H p = none → Q (.ref p) (upd H p (.lst vs)) :=
  fun p np => post _ _ (EvM.upd np) (tabs_upd t np) ⟨p, vs, rfl, np, upd_same, r.tr (Tr.new np) _⟩
theorem Post.tup {N : Ax} {H : Hp} {Q : VK} {ds : List PyData} {vs : List V} (post : Post K T N H (.d (.tuple ds)) Q) (nok : Nok N H) (t : LamX.Tabs T H) (r : Rps K N H vs ds) : ∀ p, H p = none → Q (.ref p) (upd H p (.tup vs)) :=
  fun p np => post _ _ (EvM.upd np) (tabs_upd t np) (.tup (.inl ⟨fun z => nok p z np, .inl upd_same⟩) (r.tr (Tr.newN np) _))
theorem s2_cat : Spec2 K T (rCatD K) catF := by
  intro x y H Q N a b w nok t ra rb e post
  unfold catF at e
  split at e
  · split at e
    · rename_i hz
      cases e
      obtain ⟨p, xs, rfl, hp, r1⟩ := ra
      obtain ⟨q, ys, rfl, hq, r2⟩ := rb
      exact .inl ⟨p, q, xs, ys, rfl, rfl, hp, hq, by rw [r1.length, r2.length]; exact hz, post.lst t (r1.append r2)⟩
    · cases e
  · split at e
    · rename_i hz
      cases e
      cases ra with
      | tup h1 r1 =>
        cases rb with
        | tup h2 r2 =>
          rename_i xs _ p vs q ws
          refine .inr ⟨_, _, _, _, rfl, rfl, h1.sq, h2.sq, by rw [r1.length, r2.length]; exact hz, fun e => ?_, fun _ e => ?_, fun _ _ => post.tup nok t (r1.append r2)⟩
          · subst e
            cases r1
            exact post _ H (EvM.refl _ _) t (.tup h2 r2)
          · subst e
            cases r2
            rw [List.append_nil] at post
            exact post _ H (EvM.refl _ _) t (.tup h1 r1)
    · cases e
  · cases e
def rAdd' (K : PySem.W.Frag) : R2 := fun x y H Q => rI (fun i j => yes2 i j = true) (fun i j => .int (i + j)) x y H Q ∨ rCatD K x y H Q
def addF : PyData → PyData → Option W := orF (iiF yes2 (· + ·)) catF
theorem op_add' : OpR X (binaryOp .Add) (rAdd' X.K) := op_addA.or op_catD
theorem s2_add : Spec2 K T (rAdd' K) addF := (s2_ii yes2 (· + ·)).or s2_cat
abbrev subF : PyData → PyData → Option W := iiF yes2 (· - ·)
abbrev fdivF : PyData → PyData → Option W := iiF divOk Int.fdiv
abbrev modF : PyData → PyData → Option W := iiF modOk Int.fmod
abbrev powF : PyData → PyData → Option W := iiF powOk fun i j => i ^ j.toNat
/-- a list times an int -/
def repF : PyData → PyData → Option W
  | .tuple xs, .int k => if xs ≠ [] ∧ 2 ≤ k ∧ k ≤ 1000 ∧ xs.length ≤ 1000 then some (.d (.tuple (List.replicate k.toNat xs).flatten)) else none
  | _, _ => none
theorem Rps.rep {N : Ax} {H : Hp} {vs : List V} {ds : List PyData} (r : Rps K N H vs ds) : ∀ k : Nat, Rps K N H (List.replicate k vs).flatten (List.replicate k ds).flatten
  | 0 => .nil
  | k + 1 => by
    rw [List.replicate_succ, List.replicate_succ, List.flatten_cons, List.flatten_cons]
    exact r.append (Rps.rep r k)
abbrev rRepD (K : PySem.W.Frag) : R2 := rRepT K
theorem s2_rep : Spec2 K T (rRepD K) repF := by
  intro x y H Q N a b w nok t ra rb e post
  unfold repF at e
  split at e
  · split at e
    · rename_i hz
      cases e
      cases ra with
      | tup h1 r1 =>
        cases rb
        refine ⟨_, _, _, rfl, rfl, h1.sq, fun z => hz.1 ?_, hz.2.1, hz.2.2.1, by rw [r1.length]; exact hz.2.2.2, post.tup nok t (r1.rep _)⟩
        rw [z] at r1
        cases r1
        rfl
    · cases e
  · cases e
def mulF : PyData → PyData → Option W := orF (iiF mulOk (· * ·)) repF
def rMul' (K : PySem.W.Frag) : R2 := fun x y H Q => rI (fun i j => mulOk i j = true) (fun i j => .int (i * j)) x y H Q ∨ rRepD K x y H Q
theorem op_mul' : OpR X (binaryOp .Mult) (rMul' X.K) := op_mulA.or op_repT
theorem s2_mul : Spec2 K T (rMul' K) mulF := (s2_ii mulOk (· * ·)).or s2_rep
def negF : PyData → Option W
  | .int i => some (.d (.int (-i)))
  | _ => none
theorem s1_neg : Spec1 K T (rU fun i => .int (-i)) negF := by
  intro x H Q N a w nok t ra e post
  unfold negF at e
  split at e
  · cases e
    cases ra
    exact ⟨_, rfl, post _ H (EvM.refl _ _) t (.int _)⟩
  · cases e

/-! ### comparisons -/
def icF (h : Int → Int → Bool) : PyData → PyData → Option Bool
  | .int i, .int j => some (h i j)
  | _, _ => none
theorem sB_ic (h : Int → Int → Bool) : SpecB K T (rI0 fun i j => .bl (h i j)) (icF h) := by
  intro x y H Q N a b w nok t ra rb e q
  unfold icF at e
  split at e
  · cases e
    cases ra
    cases rb
    exact ⟨_, _, rfl, rfl, q⟩
  · cases e
abbrev ltF := icF fun i j => decide (i < j)
abbrev leF := icF fun i j => decide (i ≤ j)
abbrev gtF := icF fun i j => decide (j < i)
abbrev geF := icF fun i j => decide (j ≤ i)
def eqF (x y : PyData) : Option Bool := if SeqAt.shaped x = true ∧ SeqAt.shaped y = true then some (PyData.eqv x y) else none
def neF (x y : PyData) : Option Bool := if SeqAt.shaped x = true ∧ SeqAt.shaped y = true then some (!PyData.eqv x y) else none
theorem sB_eq : SpecB K T (rEqD K) eqF := by
  intro x y H Q N a b w nok t ra rb e q
  unfold eqF at e
  split at e
  · rename_i h
    cases e
    exact ⟨a, b, ra.dp (SeqAt.canLay_of_shaped h.1), rb.dp (SeqAt.canLay_of_shaped h.2), h.1, h.2, q⟩
  · cases e
theorem sB_ne : SpecB K T (rNeD K) neF := by
  intro x y H Q N a b w nok t ra rb e q
  unfold neF at e
  split at e
  · rename_i h
    cases e
    exact ⟨a, b, ra.dp (SeqAt.canLay_of_shaped h.1), rb.dp (SeqAt.canLay_of_shaped h.2), h.1, h.2, q⟩
  · cases e
/-- in -/
def rInT (K : PySem.W.Frag) (neg : Bool) : R2 := fun x y H Q => ∃ d ds, Dp K H x d ∧ Dp K H y (.tuple ds) ∧ SeqAt.shaped d = true ∧ SeqAt.shaped (.tuple ds) = true ∧ Q (.bl (if neg then !ds.any fun z => PyData.eqv z d else ds.any fun z => PyData.eqv z d)) H
def inF (neg : Bool) : PyData → PyData → Option Bool
  | d, .list ds => if SeqAt.shaped d = true ∧ SeqAt.shaped (.list ds) = true then some (if neg then !ds.any fun z => PyData.eqv z d else ds.any fun z => PyData.eqv z d) else none
  | d, .tuple ds => if SeqAt.shaped d = true ∧ SeqAt.shaped (.tuple ds) = true then some (if neg then !ds.any fun z => PyData.eqv z d else ds.any fun z => PyData.eqv z d) else none
  | _, _ => none
def rInA (K : PySem.W.Frag) : R2 := fun x y H Q => rInD K x y H Q ∨ rInT K false x y H Q
def rNotInA (K : PySem.W.Frag) : R2 := fun x y H Q => rNotInD K x y H Q ∨ rInT K true x y H Q
theorem sB_in : SpecB K T (rInA K) (inF false) := by
  intro x y H Q N a b w nok t ra rb e q
  unfold inF at e
  split at e
  · split at e
    · rename_i h
      cases e
      exact .inl ⟨a, _, ra.dp (SeqAt.canLay_of_shaped h.1), rb.dp (SeqAt.canLay_of_shaped h.2), h.1, h.2, q⟩
    · cases e
  · split at e
    · rename_i h
      cases e
      exact .inr ⟨a, _, ra.dp (SeqAt.canLay_of_shaped h.1), rb.dp (SeqAt.canLay_of_shaped h.2), h.1, h.2, q⟩
    · cases e
  · cases e
theorem sB_notIn : SpecB K T (rNotInA K) (inF true) := by
  intro x y H Q N a b w nok t ra rb e q
  unfold inF at e
  split at e
  · split at e
    · rename_i h
      cases e
      exact .inl ⟨a, _, ra.dp (SeqAt.canLay_of_shaped h.1), rb.dp (SeqAt.canLay_of_shaped h.2), h.1, h.2, q⟩
    · cases e
  · split at e
    · rename_i h
      cases e
      exact .inr ⟨a, _, ra.dp (SeqAt.canLay_of_shaped h.1), rb.dp (SeqAt.canLay_of_shaped h.2), h.1, h.2, q⟩
    · cases e
  · cases e
def isNone : PyData → Bool
  | .none => true
  | _ => false
def isNF : PyData → PyData → Option Bool
  | x, .none => some (isNone x)
  | _, _ => none
def notNF : PyData → PyData → Option Bool
  | x, .none => some (!isNone x)
  | _, _ => none
theorem Rq.is_none {N : Ax} {H : Hp} {v : V} {x : PyData} (r : Rq K N H v x) : decide (v = .non) = isNone x := by
  cases x with
  | none => cases r; rfl
  | list ds => obtain ⟨a, xs, rfl, _⟩ := r; rfl
  | bool b => cases r; rfl
  | int b => cases r; rfl
  | str b => cases r; rfl
  | tuple b => cases r; rfl
  | dict b =>
    rcases r with r | ⟨a, kvs, rfl, _⟩
    · cases r <;> rfl
    · rfl
theorem sB_isN : SpecB K T (fun x y H Q => y = .non ∧ Q (.bl (decide (x = .non))) H) isNF := by
  intro x y H Q N a b w nok t ra rb e q
  unfold isNF at e
  split at e
  · cases e
    cases rb
    refine ⟨rfl, ?_⟩
    rw [ra.is_none]
    exact q
  · cases e
theorem sB_notN : SpecB K T (fun x y H Q => y = .non ∧ Q (.bl (!decide (x = .non))) H) notNF := by
  intro x y H Q N a b w nok t ra rb e q
  unfold notNF at e
  split at e
  · cases e
    cases rb
    refine ⟨rfl, ?_⟩
    rw [ra.is_none]
    exact q
  · cases e
def isBF : PyData → PyData → Option Bool
  | .bool a, .bool b => some (decide (a = b))
  | _, _ => none
def notBF : PyData → PyData → Option Bool
  | .bool a, .bool b => some (!decide (a = b))
  | _, _ => none
theorem sB_isB : SpecB K T rIsB isBF := by
  intro x y H Q N a b w nok t ra rb e q
  unfold isBF at e
  split at e
  · cases e; cases ra; cases rb; exact ⟨_, _, rfl, rfl, q⟩
  · cases e
theorem sB_notB : SpecB K T rNotB notBF := by
  intro x y H Q N a b w nok t ra rb e q
  unfold notBF at e
  split at e
  · cases e; cases ra; cases rb; exact ⟨_, _, rfl, rfl, q⟩
  · cases e
end

/-! ### argument lists, displays -/
section
variable {X : Cx} {T : List (Addr × Str)} {io : Addr} {WW : WX} {pos p2 : Pos} {e : Expr} {es : List Expr} {m : EM W} {ms : List (EM W)}
theorem bnd_inv {α β : Type} {m : EM α} {f : α → EM β} {env env' : Env} {b : β} (h : bnd m f env = .ok b env') : ∃ a env1, m env = .ok a env1 ∧ f a env1 = .ok b env' := by
  unfold bnd at h
  cases q : m env with
  | ok a env1 => rw [q] at h; exact ⟨a, env1, rfl, h⟩
  | ex x e => rw [q] at h; cases h
  | no => rw [q] at h; cases h
theorem evs_len : ∀ {ms : List (EM W)} {env env' : Env} {xs : List PyData}, evs ms env = .ok xs env' → xs.length = ms.length
  | [], env, env', xs, h => by cases h; rfl
  | m :: ms, env, env', xs, h => by
    obtain ⟨w, e1, _, h⟩ := bnd_inv h
    obtain ⟨x, e2, _, h⟩ := bnd_inv h
    obtain ⟨ys, e3, h3, h⟩ := bnd_inv h
    cases h
    rw [List.length_cons, List.length_cons, evs_len h3]
theorem pxa_nil : PXA X T io WW [] [] := pa_nil.imp fun σ H Q h => by
  obtain ⟨No, env, r, h⟩ := h
  exact h [] H (EvM.refl _ _) r .nil
theorem pxa_cons (ha : PX X T io WW e m) (hr : PXA X T io WW es ms) (hs : starEach (e :: es) X.env = (false, eval e X.env) :: starEach es X.env := by rfl) : PXA X T io WW (e :: es) (m :: ms) := by
  refine (pa_cons ha hr hs).imp fun σ H Q h => ?_
  obtain ⟨No, env, rep, h⟩ := h
  refine tX_of rep (fun x env' e => ?_) (fun e => ?_) fun w env1 v H1 e ev pv fr => ?_
  · rw [show evs (m :: ms) env = _ from bnd_ex e] at h; exact h
  · rw [show evs (m :: ms) env = _ from bnd_no e] at h; exact h
  rw [show evs (m :: ms) env = _ from bnd_ok e] at h
  cases q : esc w env1 with
  | no => rw [bnd_no q] at h; exact h.elim
  | ex x e' => exact absurd q esc_nex
  | ok x env2 =>
    rw [bnd_ok q] at h
    obtain ⟨r2, rx, sub⟩ := pv.esc q
    have ev2 : EvM (Mo (gX X T io) σ env) H (Mo (gX X T io) σ env2) H1 := ev.mono2 sub
    refine tA_of r2 (fun x env' e => ?_) (fun e => ?_) fun xs env3 vs H3 e ev3 r3 rs => ?_
    · rw [bnd_ex e] at h; exact h.back ev2 fun c z => z
    · rw [bnd_no e] at h; exact h
    rw [bnd_ok e] at h
    exact h (v :: vs) H3 (ev2.trans ev3) r3 (.cons (rx.tr ev3.tr _) rs)
def tupM (ms : List (EM W)) : EM W := bnd (evs ms) fun xs => ret (.d (.tuple xs))
def lstM (ms : List (EM W)) : EM W := bnd (evs ms) fun xs => ret (.f xs)
/-- behind the arguments -/
theorem args_of {g : G} {σ : St} {H : Hp} {Q : List V → Hp → Prop} {No : Ax} {env : Env} {β : Type} {f : List PyData → EM β} (rep : RepS g No H σ env) (hx : ∀ x env', bnd (evs ms) f env = .ex x env' → exC g WW No env σ H x env') (hn : bnd (evs ms) f env ≠ .no)
    (hz : ∀ xs env1 vs H1, bnd (evs ms) f env = f xs env1 → xs.length = ms.length → EvM (Mo g σ env) H (Mo g σ env1) H1 → RepS g No H1 σ env1 → Rps g.K (Un2 No (Mo g σ env1)) H1 vs xs → Q vs H1) : tA g WW ms σ H Q :=
  tA_of rep (fun x env' e => hx x env' (bnd_ex e)) (fun e => hn (bnd_no e)) fun xs env1 vs H1 e ev r rs => hz xs env1 vs H1 (bnd_ok e) (evs_len e) ev r rs
theorem px_tup {x1 : Nat} (h : PXA X T io WW es ms) (hz : ms.length ≤ sizeLine := by decide) : PX X T io WW (.Tuple es x1 pos) (tupM ms) := by
  refine (pe_tup h).imp fun σ H Q h => ?_
  obtain ⟨No, env, rep, h⟩ := h
  refine args_of (f := fun xs => ret (W.d (.tuple xs))) rep (fun x env' e => ?_) (fun e => ?_) fun xs env1 vs H1 e hl ev r rs => ⟨by rw [rs.length, hl]; exact hz, fun p np => ?_⟩
  · rw [show tupM ms env = _ from e] at h; exact h
  · rw [show tupM ms env = _ from e] at h; exact h
  rw [show tupM ms env = _ from e] at h
  obtain ⟨p1, p2⟩ := fin_of (v := .ref p) (w := .d (.tuple xs)) (H' := upd H1 p (.tup vs)) r (fun a z => z) (EvM.upd np) (tabs_upd r.tab np) (.tup (.inl ⟨fun z => r.nok p z np, .inl upd_same⟩) (rs.tr (Tr.newN np) _))
  exact h _ _ (ev.trans (EvM.upd np)) p1 trivial
theorem px_lst (h : PXA X T io WW es ms) (hz : ms.length ≤ sizeLine := by decide) : PX X T io WW (.List es pos) (lstM ms) := by
  refine (pe_lst h).imp fun σ H Q h => ?_
  obtain ⟨No, env, rep, h⟩ := h
  refine args_of (f := fun xs => ret (W.f xs)) rep (fun x env' e => ?_) (fun e => ?_) fun xs env1 vs H1 e hl ev r rs => ⟨by rw [rs.length, hl]; exact hz, fun p np => ?_⟩
  · rw [show lstM ms env = _ from e] at h; exact h
  · rw [show lstM ms env = _ from e] at h; exact h
  rw [show lstM ms env = _ from e] at h
  obtain ⟨p1, p2⟩ := fin_of (v := .ref p) (w := .f xs) (H' := upd H1 p (.lst vs)) r (fun a z => z) (EvM.upd np) (tabs_upd r.tab np) ⟨p, vs, rfl, np, upd_same, rs.tr (Tr.new np) _⟩
  exact h _ _ (ev.trans (EvM.upd np)) p1 (p2.back ev)
end
end PL

set_option Elab.async false
set_option linter.all false
set_option maxRecDepth 100000
/-! PL7: calls of built-ins and of defs; what is written to an own list. -/
namespace PL
open PySem PySem.Spec PyProof.Rows L2
section
variable {X : Cx} {T : List (Addr × Str)} {io : Addr} {WW : WX} {p pos : Pos} {x : Str} {e a b : Expr} {es : List Expr} {ma mb : EM W} {ms : List (EM W)} {id : String} {r : List V → Hp → VK → Prop}
theorem px_b1 {f : PyData → Option W} (hc : CallR X (.builtin id) r) (hs : Spec1 X.K T (fun x H Q => r [x] H Q) f) (hg : Gl X x) (hm : X.mg x = none) (hv : bootBuiltins x = some (.builtin id)) (ha : PX X T io WW a ma)
    (he : starEach [a] X.env = [(false, eval a X.env)] := by rfl) (hn : x ≠ "__name__" := by decide) (hdb : (x == ("__debug__" : Str)) = false := by decide) : PX X T io WW (.Call (.Name x p) [a] [] pos) (op1 f ma) :=
  (pe_callB hc hg hm hv (pa_cons ha pa_nil he) hn hdb he (by rfl)).imp fun σ H Q h => one_of (g := gX X T io) hs h
theorem px_b2 {f : PyData → PyData → Option W} (hc : CallR X (.builtin id) r) (hs : Spec2 X.K T (fun x y H Q => r [x, y] H Q) f) (hg : Gl X x) (hm : X.mg x = none) (hv : bootBuiltins x = some (.builtin id)) (ha : PX X T io WW a ma) (hb : PX X T io WW b mb)
    (he : starEach [a, b] X.env = (false, eval a X.env) :: starEach [b] X.env := by rfl) (he2 : starEach [b] X.env = [(false, eval b X.env)] := by rfl) (hn : x ≠ "__name__" := by decide) (hdb : (x == ("__debug__" : Str)) = false := by decide) : PX X T io WW (.Call (.Name x p) [a, b] [] pos) (op2 f ma mb) :=
  (pe_callB hc hg hm hv (pa_cons ha (pa_cons hb pa_nil he2) he) hn hdb he (by rw [he2]; rfl)).imp fun σ H Q h => two_of (g := gX X T io) hs h
theorem px_t1 {f : PyData → Option W} (hc : CallR X (.type id) r) (hs : Spec1 X.K T (fun x H Q => r [x] H Q) f) (hg : Gl X x) (hm : X.mg x = none) (hv : bootBuiltins x = some (.type id)) (ha : PX X T io WW a ma)
    (he : starEach [a] X.env = [(false, eval a X.env)] := by rfl) (hn : x ≠ "__name__" := by decide) (hdb : (x == ("__debug__" : Str)) = false := by decide) : PX X T io WW (.Call (.Name x p) [a] [] pos) (op1 f ma) :=
  (pe_callTy hc hg hm hv (pa_cons ha pa_nil he) hn hdb he (by rfl)).imp fun σ H Q h => one_of (g := gX X T io) hs h
end

/-! ### defs -/
/-- what a def comes to -/
inductive FR where
  | ok (w : W) | ex (x : Xn) | no
def spF (K : PySem.W.Frag) (T : List (Addr × Str)) (mg : Str → Option Value) (n : Nat) (F : List PyData → FR) : Sp := fun vs H Q E =>
  ∃ No ds, Nok No H ∧ LamX.Tabs T H ∧ Rps K No H vs ds ∧ ds.length = n ∧ match F ds with
    | .ok w => Post K T No H w Q
    | .ex x => ∀ cls dx H', EvM F0 H F0 H' → LamX.Tabs T H' → IsX K mg No H' cls dx x → E cls dx H'
    | .no => False
def frA : FR → EM W
  | .ok w => ret w
  | .ex x => fun env => .ex x env
  | .no => fun _ => .no
def callM (F : List PyData → FR) (ms : List (EM W)) : EM W := bnd (evs ms) fun xs => frA (F xs)
section
variable {X : Cx} {T : List (Addr × Str)} {io : Addr} {WW : WX} {p pos : Pos} {x : Str} {e : Expr} {es : List Expr} {ms : List (EM W)} {k : Nat} {f : Addr} {fd : FuncData} {ps : List Str}
theorem px_call {F : List PyData → FR} (FO : FnOk X.prog X.w X.K X.mg X.base (L2.CX X.prog X.w) k f fd ps (spF X.K T X.mg ps.length F)) (hr : Room k X.A) (hg : Gl X x) (hm : X.mg x = some (.ref f)) (hk : PySem.W.keepIn X.K (.ref f) = true) (hb : Binds X.K fd ps []) (tk : Takes X WW)
    (ha : PXA X T io WW (e :: es) ms) (hl : ms.length = ps.length := by rfl) (hdb : (x == ("__debug__" : Str)) = false := by decide) (he : starEach (e :: es) X.env = (false, eval e X.env) :: starEach es X.env := by rfl) (hpl : (backTo pos (starEach es X.env)).any (·.1) = false := by rfl) :
    PX X T io WW (.Call (.Name x p) (e :: es) [] pos) (callM F ms) := by
  refine (pe_callS FO hr hg hm hk hb (fun σ => passAt tk σ) ha hdb he hpl).imp fun σ H Q h => ?_
  obtain ⟨No, env, rep, h⟩ := h
  refine args_of (f := fun xs => frA (F xs)) rep (fun x env' e => ?_) (fun e => ?_) fun xs env1 vs H1 e hz ev r rs => ⟨_, xs, r.nok, r.tab, rs, hz.trans hl, ?_⟩
  · rw [show callM F ms env = _ from e] at h; exact h
  · rw [show callM F ms env = _ from e] at h; exact h
  rw [show callM F ms env = _ from e] at h
  cases q : F xs with
  | ok w =>
    rw [q] at h
    intro v H' e' t' q'
    obtain ⟨p1, p2⟩ := fin_of r (fun a z => z) e' t' q'
    exact h v H' (ev.trans e'.up) p1 (p2.back ev)
  | ex y =>
    rw [q] at h
    intro cls dx H' e' t' q'
    exact h cls dx H' (ev.trans e'.up) (r.ev e' t' fun a z => .inl z) q'
  | no =>
    rw [q] at h
    exact h
end

/-! ### own lists, written -/
def ownO : Option Sl → Option Oc
  | some (.own o) => some o
  | some (.io ks) => some (.l ks)
  | _ => none
def ownAt : Option Sl → Option (List PyData)
  | some (.own (.l ks)) => some ks
  | some (.io ks) => some ks
  | _ => none
def wrS (k : Nat) (ks : List PyData) (env : Env) : Env := match env[k]? with
  | some (.own (.l _)) => env.set k (.ow ks)
  | some (.io _) => env.set k (.io ks)
  | _ => env
def wrO (k : Nat) (o : Oc) (env : Env) : Env := env.set k (.own o)
theorem ownAt_ok {s : Option Sl} {ks : List PyData} (h : ownAt s = some ks) : s = some (.ow ks) ∨ s = some (.io ks) := by
  unfold ownAt at h
  split at h
  · cases h; exact .inl rfl
  · cases h; exact .inr rfl
  · cases h
section
variable {g : G} {No : Ax} {H H' : Hp} {σ : St} {env : Env} {k : Nat} {ks ks' : List PyData} {a : Addr} {xs' : List V}
theorem RepS.own (r : RepS g No H σ env) (h : ownAt env[k]? = some ks) : ∃ a xs, σ[k]? = some (some (.ref a)) ∧ H a = some (.lst xs) ∧ Rps g.K (Un2 No (Mo g σ env)) H xs ks ∧ Mo g σ env a := by
  rcases ownAt_ok h with e | e
  · obtain ⟨a, xs, e1, e2, e3⟩ := r.ow k _ e
    exact ⟨a, xs, e1, e2, e3, .inl ⟨k, _, e, e1⟩⟩
  · obtain ⟨xs, e1, e2, e3⟩ := r.io k _ e
    exact ⟨_, xs, e1, e2, e3, .inr ⟨rfl, k, _, e⟩⟩
theorem wrS_ow (e : env[k]? = some (.ow ks)) : wrS k ks' env = env.set k (.ow ks') := by unfold wrS; rw [e]
theorem wrS_io (e : env[k]? = some (.io ks)) : wrS k ks' env = env.set k (.io ks') := by unfold wrS; rw [e]
theorem lt_of_some {α : Type} {l : List α} {k : Nat} {x : α} (e : l[k]? = some x) : k < l.length := by
  rcases Nat.lt_or_ge k l.length with z | z
  · exact z
  · rw [List.getElem?_eq_none z] at e; cases e
theorem Mo_wrO {o o' : Oc} (e : env[k]? = some (.own o)) (b : Addr) : Mo g σ (wrO k o' env) b ↔ Mo g σ env b := by
  have hk := lt_of_some e
  unfold wrO
  constructor
  · rintro (⟨i, es, e1, e2⟩ | ⟨rfl, i, es, e1⟩)
    · rcases set_get e1 with ⟨rfl, z⟩ | ⟨_, z⟩
      · exact .inl ⟨i, _, e, e2⟩
      · exact .inl ⟨i, es, z, e2⟩
    · rcases set_get e1 with ⟨rfl, z⟩ | ⟨_, z⟩
      · cases z
      · exact .inr ⟨rfl, i, es, z⟩
  · rintro (⟨i, es, e1, e2⟩ | ⟨rfl, i, es, e1⟩)
    · by_cases hi : k = i
      · subst hi
        exact .inl ⟨k, o', by rw [List.getElem?_set_self hk], e2⟩
      · exact .inl ⟨i, es, by rw [List.getElem?_set_ne hi]; exact e1, e2⟩
    · by_cases hi : k = i
      · subst hi
        rw [e] at e1
        cases e1
      · exact .inr ⟨rfl, i, es, by rw [List.getElem?_set_ne hi]; exact e1⟩
theorem Mo_wr (h : ownAt env[k]? = some ks) (b : Addr) : Mo g σ (wrS k ks' env) b ↔ Mo g σ env b := by
  rcases ownAt_ok h with e | e
  · rw [wrS_ow e]
    exact Mo_wrO e b
  · have hk := lt_of_some e
    rw [wrS_io e]
    constructor
    · rintro (⟨i, es, e1, e2⟩ | ⟨rfl, i, es, e1⟩)
      · rcases set_get e1 with ⟨rfl, z⟩ | ⟨_, z⟩
        · cases z
        · exact .inl ⟨i, es, z, e2⟩
      · rcases set_get e1 with ⟨rfl, z⟩ | ⟨_, z⟩
        · exact .inr ⟨rfl, i, _, e⟩
        · exact .inr ⟨rfl, i, es, z⟩
    · rintro (⟨i, es, e1, e2⟩ | ⟨rfl, i, es, e1⟩)
      · by_cases hi : k = i
        · subst hi
          rw [e] at e1
          cases e1
        · exact .inl ⟨i, es, by rw [List.getElem?_set_ne hi]; exact e1, e2⟩
      · by_cases hi : k = i
        · subst hi
          exact .inr ⟨rfl, k, ks', by rw [List.getElem?_set_self hk]⟩
        · exact .inr ⟨rfl, i, es, by rw [List.getElem?_set_ne hi]; exact e1⟩
/-- slot k's own object is written -/
theorem RepS.writeO {o o' : Oc} (r : RepS g No H σ env) (q : env[k]? = some (.own o)) (ha : σ[k]? = some (some (.ref a))) (e : ∀ b o, H b = some o → (∀ ps, o ≠ .tbl ps) → b ≠ a → H' b = some o) (dom : ∀ b, H b ≠ none → H' b ≠ none)
    (rs : OcR g.K (Un2 No (Mo g σ env)) H' a o') (tab : LamX.Tabs g.T H') : RepS g No H' σ (wrO k o' env) := by
  have ma : Mo g σ env a := .inl ⟨k, o, q, ha⟩
  have iff := fun b => Mo_wrO (g := g) (σ := σ) (o' := o') q b
  have t1 : Tr (Un2 No (Mo g σ env)) H (Un2 No (Mo g σ (wrO k o' env))) H' := fun b o hb n m =>
    ⟨e b o hb n fun z => m (.inr (by rw [z]; exact ma)), fun z => m (z.imp id (iff b).1)⟩
  have t2 : Tr (Un2 No (Mo g σ env)) H' (Un2 No (Mo g σ (wrO k o' env))) H' := Tr.anti fun b z => z.imp id (iff b).1
  have other : ∀ (i : Nat) (s : Sl), (wrO k o' env)[i]? = some s → (i = k ∧ s = .own o') ∨ (i ≠ k ∧ env[i]? = some s) := fun i s hs => set_get hs
  have back : ∀ (i : Nat) (ds : Oc), (wrO k o' env)[i]? = some (.own ds) → ∃ es, env[i]? = some (.own es) := fun i ds hs => by
    rcases other i _ hs with ⟨rfl, z⟩ | ⟨_, z⟩
    · exact ⟨o, q⟩
    · exact ⟨ds, z⟩
  refine ⟨?_, tab, fun b z => ⟨dom b (r.nout b z).1, fun q => (r.nout b z).2 ((iff b).1 q)⟩, fun i x hs => ?_, fun i ds hs => ?_, fun i ds hs => ?_, fun i j ds es b h1 h2 => ?_, fun i j ds es h1 h2 => ?_, fun i j ds es h1 h2 => ?_⟩
  · unfold wrO
    rw [List.length_set]; exact r.len
  · rcases other i _ hs with ⟨rfl, z⟩ | ⟨_, z⟩
    · cases z
    · obtain ⟨v, a1, a2⟩ := r.im i x z
      exact ⟨v, a1, a2.tr t1 _⟩
  · rcases other i _ hs with ⟨rfl, z⟩ | ⟨ne, z⟩
    · cases z
      exact ⟨a, ha, rs.tr t2 fun _ z _ => z⟩
    · obtain ⟨b, a1, a2⟩ := r.oc i ds z
      refine ⟨b, a1, a2.tr t1 fun u hu nt => e b _ hu nt fun zz => ?_⟩
      subst zz
      exact ne (r.dis i k ds o b z q a1 ha)
  · rcases other i _ hs with ⟨rfl, z⟩ | ⟨ne, z⟩
    · cases z
    · obtain ⟨ys, a1, a2, a3⟩ := r.io i ds z
      refine ⟨ys, a1, e _ _ a2 (fun ps z => by cases z) fun zz => ?_, a3.tr t1 _⟩
      rw [← zz] at ha
      exact r.dio k i o ds q z ha
  · obtain ⟨ds', h1⟩ := back i ds h1
    obtain ⟨es', h2⟩ := back j es h2
    exact r.dis i j _ _ b h1 h2
  · obtain ⟨ds', h1⟩ := back i ds h1
    rcases other j _ h2 with ⟨_, z⟩ | ⟨_, z⟩
    · cases z
    · exact r.dio i j _ es h1 z
  · rcases other i _ h1 with ⟨_, z⟩ | ⟨_, z1⟩
    · cases z
    rcases other j _ h2 with ⟨_, z⟩ | ⟨_, z2⟩
    · cases z
    exact r.io1 i j _ _ z1 z2
/-- slot k's list, handed in, is written -/
theorem RepS.writeI (r : RepS g No H σ env) (q : env[k]? = some (.io ks)) (ha : σ[k]? = some (some (.ref a))) (e : ∀ b o, H b = some o → (∀ ps, o ≠ .tbl ps) → b ≠ a → H' b = some o) (dom : ∀ b, H b ≠ none → H' b ≠ none)
    (h' : H' a = some (.lst xs')) (rs : Rps g.K (Un2 No (Mo g σ env)) H' xs' ks') (tab : LamX.Tabs g.T H') : RepS g No H' σ (env.set k (.io ks')) := by
  obtain ⟨_, c1, _⟩ := r.io k _ q
  rw [ha] at c1
  cases c1
  have ma : Mo g σ env g.io := .inr ⟨rfl, k, _, q⟩
  have h : ownAt env[k]? = some ks := by rw [q]; rfl
  have iff : ∀ b, Mo g σ (env.set k (.io ks')) b ↔ Mo g σ env b := fun b => by rw [← wrS_io (ks' := ks') q]; exact Mo_wr h b
  have t1 : Tr (Un2 No (Mo g σ env)) H (Un2 No (Mo g σ (env.set k (.io ks')))) H' := fun b o hb n m =>
    ⟨e b o hb n fun z => m (.inr (by rw [z]; exact ma)), fun z => m (z.imp id (iff b).1)⟩
  have t2 : Tr (Un2 No (Mo g σ env)) H' (Un2 No (Mo g σ (env.set k (.io ks')))) H' := Tr.anti fun b z => z.imp id (iff b).1
  refine ⟨?_, tab, fun b z => ⟨dom b (r.nout b z).1, fun q => (r.nout b z).2 ((iff b).1 q)⟩, fun i x hs => ?_, fun i ds hs => ?_, fun i ds hs => ?_, fun i j ds es b h1 h2 => ?_, fun i j ds es h1 h2 => ?_, fun i j ds es h1 h2 => ?_⟩
  · rw [List.length_set]; exact r.len
  · rcases set_get hs with ⟨rfl, z⟩ | ⟨_, z⟩
    · cases z
    · obtain ⟨v, a1, a2⟩ := r.im i x z
      exact ⟨v, a1, a2.tr t1 _⟩
  · rcases set_get hs with ⟨rfl, z⟩ | ⟨ne, z⟩
    · cases z
    · obtain ⟨b, a1, a2⟩ := r.oc i ds z
      refine ⟨b, a1, a2.tr t1 fun u hu nt => e b _ hu nt fun zz => ?_⟩
      subst zz
      exact r.dio i k ds ks z q a1
  · rcases set_get hs with ⟨rfl, z⟩ | ⟨ne, z⟩
    · cases z
      exact ⟨xs', ha, h', rs.tr t2 _⟩
    · exact absurd (r.io1 i k ds ks z q) ne
  · rcases set_get h1 with ⟨_, z⟩ | ⟨_, z1⟩
    · cases z
    rcases set_get h2 with ⟨_, z⟩ | ⟨_, z2⟩
    · cases z
    exact r.dis i j _ _ b z1 z2
  · rcases set_get h1 with ⟨_, z⟩ | ⟨_, z1⟩
    · cases z
    rcases set_get h2 with ⟨rfl, z⟩ | ⟨_, z2⟩
    · exact r.dio i j ds _ z1 q
    · exact r.dio i j ds _ z1 z2
  · rcases set_get h1 with ⟨rfl, _⟩ | ⟨_, z1⟩
    · rcases set_get h2 with ⟨rfl, _⟩ | ⟨_, z2⟩
      · rfl
      · exact r.io1 i j _ _ q z2
    · rcases set_get h2 with ⟨rfl, _⟩ | ⟨_, z2⟩
      · exact r.io1 i j _ _ z1 q
      · exact r.io1 i j _ _ z1 z2
theorem RepS.write (r : RepS g No H σ env) (h : ownAt env[k]? = some ks) (ha : σ[k]? = some (some (.ref a))) (e : ∀ b o, H b = some o → (∀ ps, o ≠ .tbl ps) → b ≠ a → H' b = some o) (dom : ∀ b, H b ≠ none → H' b ≠ none)
    (h' : H' a = some (.lst xs')) (rs : Rps g.K (Un2 No (Mo g σ env)) H' xs' ks') (tab : LamX.Tabs g.T H') : RepS g No H' σ (wrS k ks' env) := by
  rcases ownAt_ok h with q | q
  · rw [wrS_ow q]
    exact r.writeO q ha e dom ⟨xs', h', rs⟩ tab
  · rw [wrS_io q]
    exact r.writeI q ha e dom h' rs tab
end

/-! ### a def that changes the list handed in first -/
abbrev At1 (a : Addr) : Ax := fun b => b = a
abbrev FI := List PyData → List PyData → Option (W × List PyData)
def spIO (K : PySem.W.Frag) (T : List (Addr × Str)) (n : Nat) (F : FI) : Sp := fun vs H Q E =>
  ∃ No a ks xs vs' ds, vs = .ref a :: vs' ∧ Nok No H ∧ LamX.Tabs T H ∧ ¬ No a ∧ H a = some (.lst xs) ∧ Rps K (fun b => No b ∨ b = a) H xs ks ∧ Rps K (fun b => No b ∨ b = a) H vs' ds ∧ ds.length + 1 = n ∧ match F ks ds with
    | some (w, ks') => ∀ v H' xs', EvM (At1 a) H (At1 a) H' → LamX.Tabs T H' → H' a = some (.lst xs') → Rps K (plus (fun b => No b ∨ b = a) v w) H' xs' ks' → RvW K (fun b => No b ∨ b = a) H H' v w → Q v H'
    | none => False
def ioA (F : FI) (k : Nat) (xs : List PyData) : EM W := fun env => match ownAt env[k]? with
  | some ks => match F ks xs with
    | some (w, ks') => .ok w (wrS k ks' env)
    | none => .no
  | none => .no
theorem ioA_of {F : FI} {k : Nat} {xs ks : List PyData} {env : Env} (h : ownAt env[k]? = some ks) : ioA F k xs env = match F ks xs with
    | some (w, ks') => .ok w (wrS k ks' env)
    | none => .no := by
  unfold ioA
  rw [h]
def callIO (F : FI) (k : Nat) (ms : List (EM W)) : EM W := fun env => match ownAt env[k]? with
  | some _ => bnd (evs ms) (ioA F k) env
  | none => .no
section
variable {X : Cx} {T : List (Addr × Str)} {io : Addr} {WW : WX} {p p1 pos : Pos} {x y : Str} {es : List Expr} {ms : List (EM W)} {k : Nat} {f : Addr} {fd : FuncData} {ps : List Str}
theorem Tr.sub {N1 N2 : Ax} {H : Hp} (h : ∀ a, N2 a → N1 a) : Tr N1 H N2 H := Tr.anti h
theorem px_callIO {F : FI} (i : Nat) (FO : FnOk X.prog X.w X.K X.mg X.base (L2.CX X.prog X.w) k f fd ps (spIO X.K T ps.length F)) (hr : Room k X.A) (hg : Gl X x) (hm : X.mg x = some (.ref f)) (hk : PySem.W.keepIn X.K (.ref f) = true) (hb : Binds X.K fd ps []) (tk : Takes X WW)
    (ha : PXA X T io WW es ms) (hl : ms.length + 1 = ps.length := by rfl) (hN : X.N[i]? = some y := by rfl) (hv : Vis X.env.scope y := by first | exact Or.inl rfl | exact Or.inr (Or.inl rfl) | exact Or.inr (Or.inr rfl)) (hd : (y == ("__debug__" : Str)) = false := by decide)
    (hcd : (y == ("__classdict__" : Str)) = false := by decide) (hdb : (x == ("__debug__" : Str)) = false := by decide) (he : starEach (.Name y p1 :: es) X.env = (false, eval (.Name y p1) X.env) :: starEach es X.env := by rfl) (hpl : (backTo pos (starEach es X.env)).any (·.1) = false := by rfl) :
    PX X T io WW (.Call (.Name x p) (.Name y p1 :: es) [] pos) (callIO F i ms) := by
  refine (pe_callS FO hr hg hm hk hb (fun σ => passAt tk σ) (pa_cons (pe_var (i := i) hN hv hd hcd) ha he) hdb he hpl).imp fun σ H Q h => ?_
  obtain ⟨No, env, rep, h⟩ := h
  unfold callIO at h
  cases q0 : ownAt env[i]? with
  | none => rw [q0] at h; exact h.elim
  | some ks0 =>
    rw [q0] at h
    obtain ⟨a, xs0, e1, e2, e3, ma⟩ := rep.own q0
    refine ⟨.ref a, e1, ?_⟩
    refine args_of (f := ioA F i) rep (fun x env' e => ?_) (fun e => ?_) fun xs env1 vs H1 e hz ev r rs => ?_
    · rw [e] at h; exact h
    · rw [e] at h; exact h
    have h : match ioA F i xs env1 with
      | .ok w env' => ∀ v H', EvM (Mo (gX X T io) σ env) H (Mo (gX X T io) σ env') H' → PV (gX X T io) No H' σ env' v w → Fr H v w → Q v H'
      | .ex x env' => exC (gX X T io) WW No env σ H x env'
      | .no => False := by rw [e] at h; exact h
    cases q1 : ownAt env1[i]? with
    | none => rw [show ioA F i xs env1 = .no by unfold ioA; rw [q1]] at h; exact h.elim
    | some ks =>
      rw [ioA_of q1] at h
      obtain ⟨a', xs1, f1, f2, f3, ma'⟩ := r.own q1
      rw [e1] at f1
      cases f1
      have sub : ∀ b, ((Un2 No (Mo (gX X T io) σ env1) b ∧ b ≠ a) ∨ b = a) → Un2 No (Mo (gX X T io) σ env1) b := fun b z => z.elim (fun z => z.1) fun z => by rw [z]; exact .inr ma'
      refine ⟨fun b => Un2 No (Mo (gX X T io) σ env1) b ∧ b ≠ a, a, ks, xs1, vs, xs, rfl, fun b z => r.nok b z.1, r.tab, fun z => z.2 rfl, f2, f3.tr (Tr.anti sub) _, rs.tr (Tr.anti sub) _, by rw [hz]; exact hl, ?_⟩
      have sub2 : ∀ b, Un2 No (Mo (gX X T io) σ env1) b → ((Un2 No (Mo (gX X T io) σ env1) b ∧ b ≠ a) ∨ b = a) := fun b z => by
        by_cases hb : b = a
        · exact .inr hb
        · exact .inl ⟨z, hb⟩
      cases q2 : F ks xs with
      | none => rw [q2] at h; exact h.elim
      | some wk =>
        obtain ⟨w, ks'⟩ := wk
        rw [q2] at h
        intro v H' xs' e' t' h' rs' rv
        have rs0 : Rps X.K (fun b => (Un2 No (Mo (gX X T io) σ env1) b ∧ b ≠ a) ∨ b = a) H' xs' ks' := rs'.tr (Tr.anti fun b z => plus_of b z) _
        have r' : RepS (gX X T io) No H' σ (wrS i ks' env1) := r.write q1 e1 (fun b o hb n ne => e'.keep b o hb n ne) e'.dom h' (rs0.tr (Tr.anti sub2) _) t'
        have iff := fun b => Mo_wr (g := gX X T io) (σ := σ) (ks' := ks') q1 b
        have ev' : EvM (Mo (gX X T io) σ env1) H1 (Mo (gX X T io) σ (wrS i ks' env1)) H' := ⟨fun b o hb n m => e'.keep b o hb n fun z => m (by rw [show b = a from z]; exact ma'), fun b z => .inl ((iff b).1 z), e'.dom⟩
        cases w with
        | o k => exact rv.elim
        | d z => exact h v H' (ev.trans ev') ⟨r', Rp.tr (Tr.anti fun b z => sub2 b (z.imp id (iff b).1)) _ rv⟩ trivial
        | f ds =>
          obtain ⟨pp, ys, rfl, np, hp, rq⟩ := rv
          have nk : ¬ Un2 No (Mo (gX X T io) σ env1) pp := fun z => r.nok pp z np
          have npa : pp ≠ a := fun z => by rw [z, f2] at np; cases np
          refine h _ H' (ev.trans ev') ⟨?_, pp, ys, rfl, hp, rq.tr (Tr.anti fun b z => ?_) _, fun z => nk (.inl z), fun z => nk (.inr ((iff pp).1 z))⟩ ?_
          · -- the new list is kept off
            have rbig : RepS (gX X T io) (fun b => No b ∨ b = pp) (upd H1 pp (.lst ys)) σ env1 := r.ev (EvM.upd np) (tabs_upd r.tab np) fun b z => z.imp (fun z => z) fun z => ⟨by rw [z]; exact np, by rw [z, upd_same]; exact fun q => by cases q⟩
            refine rbig.write (H' := H') q1 e1 (fun b o hb n ne => ?_) (fun b hb => ?_) h' (rs'.tr (Tr.anti fun c z => ?_) _) t'
            · by_cases hbp : b = pp
              · subst hbp
                rw [upd_same] at hb
                cases hb
                exact hp
              · rw [upd_ne hbp] at hb
                exact e'.keep b o hb n ne
            · by_cases hbp : b = pp
              · subst hbp
                rw [hp]
                exact fun q => by cases q
              · rw [upd_ne hbp] at hb
                exact e'.dom b hb
            · rcases z with (z | z) | z
              · exact .inl (sub2 c (.inl z))
              · exact .inr z
              · exact .inl (sub2 c (.inr z))
          · rcases z with (z | z) | z
            · exact .inl (sub2 b (.inl z))
            · exact .inr z
            · exact .inl (sub2 b (.inr ((iff b).1 z)))
          · show H pp = none
            cases qq : H pp with
            | none => rfl
            | some o => exact absurd np (ev.dom pp (by rw [qq]; exact fun z => by cases z))
end
end PL

set_option Elab.async false
set_option linter.all false
set_option maxRecDepth 100000
/-! PL8: statements. -/
namespace PL
open PySem PySem.Spec PyProof.Rows L2

inductive SR where
  | nx (env : Env) | rt (w : W) (env : Env) | bk (env : Env) | ct (env : Env) | ex (x : Xn) (env : Env) | no
abbrev SM := Env → SR
def zC (g : G) (WW : WX) (No : Ax) (σ : St) (H : Hp) (env : Env) (D : Ends) : SR → Prop
  | .nx env' => ∀ σ' H', EvM (Mo g σ env) H (Mo g σ' env') H' → RepS g No H' σ' env' → D.nx σ' H'
  | .rt w env' => ∀ v σ' H', EvM (Mo g σ env) H (Mo g σ' env') H' → PV g No H' σ' env' v w → Fr H v w → D.rt v H'
  | .bk env' => ∀ σ' H', EvM (Mo g σ env) H (Mo g σ' env') H' → RepS g No H' σ' env' → D.bk σ' H'
  | .ct env' => ∀ σ' H', EvM (Mo g σ env) H (Mo g σ' env') H' → RepS g No H' σ' env' → D.ct σ' H'
  | .ex x env' => ∀ cls dx σ' H', EvM (Mo g σ env) H (Mo g σ' env') H' → RepS g No H' σ' env' → IsX g.K g.mg (Un2 No (Mo g σ' env')) H' cls dx x → WW cls dx σ' H'
  | .no => False
def tZ (g : G) (WW : WX) (z : SM) : TS := fun D σ H => ∃ No env, RepS g No H σ env ∧ zC g WW No σ H env D (z env)
abbrev PZ (X : Cx) (T : List (Addr × Str)) (io : Addr) (WW : WX) (s : Stmt) (z : SM) : Prop := PS X s (tZ (gX X T io) WW z)
abbrev PZs (X : Cx) (T : List (Addr × Str)) (io : Addr) (WW : WX) (s : List Stmt) (z : SM) : Prop := PSs X s (tZ (gX X T io) WW z)
theorem _root_.L2.PS.imp {X : Cx} {s : Stmt} {t t' : TS} (h : PS X s t) (i : ∀ D σ H, t' D σ H → t D σ H) : PS X s t' := ⟨fun pins s σ H D I hw => h.run pins s σ H D I (i _ _ _ hw)⟩
theorem _root_.L2.PSs.imp {X : Cx} {s : List Stmt} {t t' : TS} (h : PSs X s t) (i : ∀ D σ H, t' D σ H → t D σ H) : PSs X s t' := ⟨fun pins s σ H D I hw => h.run pins s σ H D I (i _ _ _ hw)⟩
theorem Fr.to {H H1 : Hp} {M1 M2 : Ax} {v : V} {w : W} (f : Fr H1 v w) (e : EvM M1 H M2 H1) : Fr H v w := f.back e
section
variable {g : G} {WW : WX} {No : Ax} {σ σ1 : St} {H H1 : Hp} {env env1 : Env} {D : Ends}
theorem zC.go {r : SR} (h : zC g WW No σ H env D r) (e : EvM (Mo g σ env) H (Mo g σ1 env1) H1) : zC g WW No σ1 H1 env1 D r := by
  cases r with
  | nx env' => exact fun σ' H' e' r => h σ' H' (e.trans e') r
  | rt w env' => exact fun v σ' H' e' r f => h v σ' H' (e.trans e') r (f.back e)
  | bk env' => exact fun σ' H' e' r => h σ' H' (e.trans e') r
  | ct env' => exact fun σ' H' e' r => h σ' H' (e.trans e') r
  | ex x env' => exact fun c d σ' H' e' r => h c d σ' H' (e.trans e') r
  | no => exact h
end
/-! ### blocks -/
def skipM : SM := fun env => .nx env
def seqM (a b : SM) : SM := fun env => match a env with
  | .nx env' => b env'
  | r => r
section
variable {X : Cx} {T : List (Addr × Str)} {io : Addr} {WW : WX} {pos : Pos} {s : Stmt} {ss : List Stmt} {z z1 z2 : SM}
theorem pzs_nil : PZs X T io WW [] skipM := pss_nil.imp fun D σ H h => by
  obtain ⟨No, env, r, h⟩ := h
  exact h σ H (EvM.refl _ _) r
theorem pzs_cons (h1 : PZ X T io WW s z1) (h2 : PZs X T io WW ss z2) : PZs X T io WW (s :: ss) (seqM z1 z2) := by
  refine (pss_cons h1 h2).imp fun D σ H h => ?_
  obtain ⟨No, env, r, h⟩ := h
  refine ⟨No, env, r, ?_⟩
  unfold seqM at h
  cases q : z1 env with
  | nx env' => rw [q] at h; exact fun σ' H' e r' => ⟨No, env', r', zC.go h e⟩
  | rt w env' => rw [q] at h; exact h
  | bk env' => rw [q] at h; exact h
  | ct env' => rw [q] at h; exact h
  | ex x env' => rw [q] at h; exact h
  | no => rw [q] at h; exact h
theorem pzs_one (h1 : PZ X T io WW s z) : PZs X T io WW [s] z := pss_one h1
theorem pz_pass : PZ X T io WW (.Pass pos) skipM := ps_pass.imp fun D σ H h => by
  obtain ⟨No, env, r, h⟩ := h
  exact h σ H (EvM.refl _ _) r
theorem pz_break : PZ X T io WW (.Break pos) (fun env => .bk env) := ps_break.imp fun D σ H h => by
  obtain ⟨No, env, r, h⟩ := h
  exact h σ H (EvM.refl _ _) r
theorem pz_continue : PZ X T io WW (.Continue pos) (fun env => .ct env) := ps_continue.imp fun D σ H h => by
  obtain ⟨No, env, r, h⟩ := h
  exact h σ H (EvM.refl _ _) r
/-- a statement that is not reached -/
theorem pz_never : PZ X T io WW s (fun _ => .no) := ⟨fun pins s σ H D I h => by
  obtain ⟨No, env, r, h⟩ := h
  exact h.elim⟩
/-! ### return, if, an expression alone -/
def retM (m : EM W) : SM := fun env => match m env with
  | .ok w env' => .rt w env'
  | .ex x env' => .ex x env'
  | .no => .no
def exprM (m : EM W) : SM := fun env => match m env with
  | .ok _ env' => .nx env'
  | .ex x env' => .ex x env'
  | .no => .no
def iteM (c : EM Bool) (a b : SM) : SM := fun env => match c env with
  | .ok true env' => a env'
  | .ok false env' => b env'
  | .ex x env' => .ex x env'
  | .no => .no
variable {e c : Expr} {m : EM W} {mc : EM Bool} {body orelse : List Stmt}
theorem ex_of {g : G} {No : Ax} {σ : St} {H : Hp} {env env' : Env} {D : Ends} {x : Xn} (h : zC g WW No σ H env D (.ex x env')) : exC g WW No env σ H x env' := fun cls dx H' e r i => h cls dx σ H' e r i
theorem pz_ret (h : PX X T io WW e m) : PZ X T io WW (.Return (some e) pos) (retM m) := by
  refine (ps_ret h).imp fun D σ H h => ?_
  obtain ⟨No, env, rep, h⟩ := h
  refine tX_of rep (fun x env' e => ?_) (fun e => ?_) fun w env1 v H1 e ev pv fr => ?_
  · unfold retM at h; rw [e] at h; exact ex_of h
  · unfold retM at h; rw [e] at h; exact h
  · unfold retM at h; rw [e] at h; exact h v σ H1 ev pv fr
theorem pz_retN : PZ X T io WW (.Return none pos) (fun env => .rt (.d .none) env) := by
  refine (ps_retN).imp fun D σ H h => ?_
  obtain ⟨No, env, rep, h⟩ := h
  exact h .non σ H (EvM.refl _ _) ⟨rep, .non⟩ trivial
theorem pz_expr (h : PX X T io WW e m) (hs : swapsWith e none pos.line X.env = pure false := by rfl) : PZ X T io WW (.Expr e pos) (exprM m) := by
  refine (ps_expr h hs).imp fun D σ H h => ?_
  obtain ⟨No, env, rep, h⟩ := h
  refine tX_of rep (fun x env' e => ?_) (fun e => ?_) fun w env1 v H1 e ev pv fr => ?_
  · unfold exprM at h; rw [e] at h; exact ex_of h
  · unfold exprM at h; rw [e] at h; exact h
  · unfold exprM at h; rw [e] at h; exact h σ H1 ev pv.base
theorem pz_if (hc : PXT X T io WW c mc) (h1 : PZs X T io WW body z1) (h2 : PZs X T io WW orelse z2) : PZ X T io WW (.If c body orelse pos) (iteM mc z1 z2) := by
  refine (ps_if hc h1 h2).imp fun D σ H h => ?_
  obtain ⟨No, env, rep, h⟩ := h
  refine tT_of rep (fun x env' e => ?_) (fun e => ?_) fun b env1 H1 e ev r => ?_
  · unfold iteM at h; rw [e] at h; exact ex_of h
  · unfold iteM at h; rw [e] at h; exact h
  · cases b with
    | true =>
      unfold iteM at h; rw [e] at h
      rw [if_pos rfl]
      exact ⟨No, env1, r, zC.go h ev⟩
    | false =>
      unfold iteM at h; rw [e] at h
      rw [if_neg Bool.false_ne_true]
      exact ⟨No, env1, r, zC.go h ev⟩
end

/-! ### stores -/
def noIo : Option Sl → Bool
  | some (.io _) => false
  | none => false
  | _ => true
section
variable {g : G} {No : Ax} {H : Hp} {σ : St} {env : Env} {i : Nat} {x : PyData} {v : V} {ds : List PyData}
theorem noIo_lt (h : noIo env[i]? = true) : i < env.length := by
  rcases Nat.lt_or_ge i env.length with z | z
  · exact z
  · rw [List.getElem?_eq_none z] at h; cases h
theorem Mo_set {s : Sl} (hi : noIo env[i]? = true) (hs : ∀ es, s ≠ .io es) (v' : V) (b : Addr) : Mo g (σ.set i (some v')) (env.set i s) b → Mo g σ env b ∨ ∃ es, s = .own es ∧ v' = .ref b := by
  rintro (⟨j, es, e1, e2⟩ | ⟨rfl, j, es, e1⟩)
  · rcases set_get e1 with ⟨rfl, z⟩ | ⟨ne, z⟩
    · refine .inr ⟨es, z.symm, ?_⟩
      rw [List.getElem?_set] at e2
      rw [if_pos rfl] at e2
      split at e2
      · exact Option.some.inj (Option.some.inj e2)
      · cases e2
    · rw [List.getElem?_set_ne (fun z => ne z.symm)] at e2
      exact .inl (.inl ⟨j, es, z, e2⟩)
  · rcases set_get e1 with ⟨rfl, z⟩ | ⟨ne, z⟩
    · exact absurd z.symm (hs es)
    · exact .inl (.inr ⟨rfl, j, es, z⟩)
theorem RepS.setIm (r : RepS g No H σ env) (hi : noIo env[i]? = true) (rv : Rp g.K (Un2 No (Mo g σ env)) H v x) : RepS g No H (σ.set i (some v)) (env.set i (.im x)) ∧ ∀ b, Mo g (σ.set i (some v)) (env.set i (.im x)) b → Mo g σ env b := by
  have sub : ∀ b, Mo g (σ.set i (some v)) (env.set i (.im x)) b → Mo g σ env b := fun b z => (Mo_set hi (fun es q => by cases q) v b z).elim id fun ⟨es, q, _⟩ => by cases q
  have hl := noIo_lt hi
  have hl2 : i < σ.length := by rw [r.len]; exact hl
  have t : Tr (Un2 No (Mo g σ env)) H (Un2 No (Mo g (σ.set i (some v)) (env.set i (.im x)))) H := Tr.anti fun b z => z.imp id (sub b)
  have sg : ∀ j, j ≠ i → (σ.set i (some v))[j]? = σ[j]? := fun j h => List.getElem?_set_ne fun z => h z.symm
  refine ⟨⟨by rw [List.length_set, List.length_set]; exact r.len, r.tab, fun a z => ⟨(r.nout a z).1, fun q => (r.nout a z).2 (sub a q)⟩, fun j y h => ?_, fun j es h => ?_, fun j es h => ?_, fun j k es fs b h1 h2 h3 h4 => ?_, fun j k es fs h1 h2 => ?_, fun j k es fs h1 h2 => ?_⟩, sub⟩
  · rcases set_get h with ⟨rfl, z⟩ | ⟨ne, z⟩
    · cases z
      exact ⟨v, List.getElem?_set_self hl2, rv.tr t _⟩
    · obtain ⟨u, a1, a2⟩ := r.im j y z
      exact ⟨u, by rw [sg j ne]; exact a1, a2.tr t _⟩
  · rcases set_get h with ⟨rfl, z⟩ | ⟨ne, z⟩
    · cases z
    · obtain ⟨a, a1, a2⟩ := r.oc j es z
      exact ⟨a, by rw [sg j ne]; exact a1, a2.tr t fun _ z _ => z⟩
  · rcases set_get h with ⟨rfl, z⟩ | ⟨ne, z⟩
    · cases z
    · obtain ⟨ys, a1, a2, a3⟩ := r.io j es z
      exact ⟨ys, by rw [sg j ne]; exact a1, a2, a3.tr t _⟩
  · rcases set_get h1 with ⟨_, z⟩ | ⟨n1, z1⟩
    · cases z
    rcases set_get h2 with ⟨_, z⟩ | ⟨n2, z2⟩
    · cases z
    rw [sg j n1] at h3
    rw [sg k n2] at h4
    exact r.dis j k es fs b z1 z2 h3 h4
  · rcases set_get h1 with ⟨_, z⟩ | ⟨n1, z1⟩
    · cases z
    rcases set_get h2 with ⟨_, z⟩ | ⟨n2, z2⟩
    · cases z
    rw [sg j n1]
    exact r.dio j k es fs z1 z2
  · rcases set_get h1 with ⟨_, z⟩ | ⟨n1, z1⟩
    · cases z
    rcases set_get h2 with ⟨_, z⟩ | ⟨n2, z2⟩
    · cases z
    exact r.io1 j k es fs z1 z2
theorem RepS.setOc {a : Addr} {ds : Oc} (r : RepS g (fun b => No b ∨ b = a) H σ env) (hi : noIo env[i]? = true) (rv : OcR g.K (Un2 (fun b => No b ∨ b = a) (Mo g σ env)) H a ds) (n1 : ¬ No a) (n2 : ¬ Mo g σ env a) :
    RepS g No H (σ.set i (some (.ref a))) (env.set i (.own ds)) ∧ ∀ b, Mo g (σ.set i (some (.ref a))) (env.set i (.own ds)) b → Mo g σ env b ∨ b = a := by
  have sub : ∀ b, Mo g (σ.set i (some (.ref a))) (env.set i (.own ds)) b → Mo g σ env b ∨ b = a := fun b z => (Mo_set hi (fun es q => by cases q) _ b z).imp id fun ⟨es, _, q⟩ => by cases q; rfl
  have hl := noIo_lt hi
  have hl2 : i < σ.length := by rw [r.len]; exact hl
  have t : Tr (Un2 (fun b => No b ∨ b = a) (Mo g σ env)) H (Un2 No (Mo g (σ.set i (some (.ref a))) (env.set i (.own ds)))) H := Tr.anti fun b z => z.elim (fun z => .inl (.inl z)) fun z => (sub b z).elim .inr fun z => .inl (.inr z)
  have sg : ∀ j, j ≠ i → (σ.set i (some (.ref a)))[j]? = σ[j]? := fun j h => List.getElem?_set_ne fun z => h z.symm
  have ss : (σ.set i (some (.ref a)))[i]? = some (some (.ref a)) := List.getElem?_set_self hl2
  refine ⟨⟨by rw [List.length_set, List.length_set]; exact r.len, r.tab, fun b z => ⟨(r.nout b (.inl z)).1, fun q => (sub b q).elim (r.nout b (.inl z)).2 fun q => n1 (by rw [← q]; exact z)⟩, fun j y h => ?_, fun j es h => ?_, fun j es h => ?_, fun j k es fs b h1 h2 h3 h4 => ?_, fun j k es fs h1 h2 => ?_, fun j k es fs h1 h2 => ?_⟩, sub⟩
  · rcases set_get h with ⟨rfl, z⟩ | ⟨ne, z⟩
    · cases z
    · obtain ⟨u, a1, a2⟩ := r.im j y z
      exact ⟨u, by rw [sg j ne]; exact a1, a2.tr t _⟩
  · rcases set_get h with ⟨rfl, z⟩ | ⟨ne, z⟩
    · cases z
      exact ⟨a, ss, rv.tr t fun _ z _ => z⟩
    · obtain ⟨b, a1, a2⟩ := r.oc j es z
      exact ⟨b, by rw [sg j ne]; exact a1, a2.tr t fun _ z _ => z⟩
  · rcases set_get h with ⟨rfl, z⟩ | ⟨ne, z⟩
    · cases z
    · obtain ⟨ys, a1, a2, a3⟩ := r.io j es z
      exact ⟨ys, by rw [sg j ne]; exact a1, a2, a3.tr t _⟩
  · rcases set_get h1 with ⟨q1, z1⟩ | ⟨q1, z1⟩
    · subst q1
      rcases set_get h2 with ⟨q2, _⟩ | ⟨q2, z2⟩
      · exact q2.symm
      · rw [ss] at h3
        rw [sg k q2] at h4
        cases h3
        exact absurd (.inl ⟨k, fs, z2, h4⟩) n2
    · rcases set_get h2 with ⟨q2, _⟩ | ⟨q2, z2⟩
      · subst q2
        rw [ss] at h4
        rw [sg j q1] at h3
        cases h4
        exact absurd (.inl ⟨j, es, z1, h3⟩) n2
      · rw [sg j q1] at h3
        rw [sg k q2] at h4
        exact r.dis j k es fs b z1 z2 h3 h4
  · rcases set_get h2 with ⟨_, z⟩ | ⟨q2, z2⟩
    · cases z
    rcases set_get h1 with ⟨q1, _⟩ | ⟨q1, z1⟩
    · subst q1
      rw [ss]
      intro q
      have q : a = g.io := by
        have := Option.some.inj (Option.some.inj q)
        cases this
        rfl
      exact n2 (.inr ⟨q, k, fs, z2⟩)
    · rw [sg j q1]
      exact r.dio j k es fs z1 z2
  · rcases set_get h1 with ⟨_, z⟩ | ⟨_, z1⟩
    · cases z
    rcases set_get h2 with ⟨_, z⟩ | ⟨_, z2⟩
    · cases z
    exact r.io1 j k es fs z1 z2
theorem RepS.setOw {a : Addr} {xs : List V} (r : RepS g (fun b => No b ∨ b = a) H σ env) (hi : noIo env[i]? = true) (ha : H a = some (.lst xs)) (rv : Rps g.K (Un2 (fun b => No b ∨ b = a) (Mo g σ env)) H xs ds) (n1 : ¬ No a) (n2 : ¬ Mo g σ env a) :
    RepS g No H (σ.set i (some (.ref a))) (env.set i (.ow ds)) ∧ ∀ b, Mo g (σ.set i (some (.ref a))) (env.set i (.ow ds)) b → Mo g σ env b ∨ b = a := r.setOc hi ⟨xs, ha, rv⟩ n1 n2
end
def setW (i : Nat) (w : W) : SM := fun env => match w with
  | .f ds => if noIo env[i]? = true then .nx (env.set i (.ow ds)) else .no
  | w => match esc w env with
    | .ok x env2 => if noIo env2[i]? = true then .nx (env2.set i (.im x)) else .no
    | _ => .no
def setM (i : Nat) (m : EM W) : SM := fun env => match m env with
  | .ok w env' => setW i w env'
  | .ex x env' => .ex x env'
  | .no => .no
theorem setW_of {g : G} {WW : WX} {No : Ax} {H H1 : Hp} {σ : St} {env env1 : Env} {i : Nat} {w : W} {v : V} {D : Ends} (h : zC g WW No σ H env D (setW i w env1)) (ev : EvM (Mo g σ env) H (Mo g σ env1) H1) (pv : PV g No H1 σ env1 v w) (fr : Fr H v w) : D.nx (σ.set i (some v)) H1 := by
  have gen : ∀ x env2, esc w env1 = .ok x env2 → noIo env2[i]? = true → zC g WW No σ H env D (.nx (env2.set i (.im x))) → D.nx (σ.set i (some v)) H1 := fun x env2 q hi h => by
    obtain ⟨r2, rx, sub⟩ := pv.esc q
    obtain ⟨r3, sub3⟩ := r2.setIm hi rx
    exact h _ H1 (ev.mono2 fun c z => sub c (sub3 c z)) r3
  unfold setW at h
  cases w with
  | f ds =>
    dsimp only at h
    split at h
    · rename_i hi
      obtain ⟨a, xs, rfl, ha, rv, n1, n2⟩ := pv.val
      obtain ⟨r3, sub⟩ := RepS.setOw pv.rep hi ha rv n1 n2
      exact h _ H1 ⟨ev.keep, fun c z => (sub c z).elim (ev.new c) fun z => .inr (by rw [z]; exact fr), ev.dom⟩ r3
    · exact h.elim
  | d x =>
    dsimp only at h
    split at h
    · rename_i x' env2 q
      split at h
      · rename_i hi
        exact gen _ _ q hi h
      · exact h.elim
    · exact h.elim
  | o k =>
    dsimp only at h
    split at h
    · rename_i x' env2 q
      split at h
      · rename_i hi
        exact gen _ _ q hi h
      · exact h.elim
    · exact h.elim
section
variable {X : Cx} {T : List (Addr × Str)} {io : Addr} {WW : WX} {pos p2 : Pos} {e : Expr} {m : EM W} {y : Str}
theorem pz_set (i : Nat) (he : PX X T io WW e m) (hN : X.N.Nodup) (hi : X.N[i]? = some y := by rfl) (hx : Loc X.env.scope y := by first | exact Or.inl rfl | exact Or.inr rfl) (hs : swapsWith e (some (.Name y p2)) pos.line X.env = pure false := by rfl)
    (hf : X.fn y = true ∨ X.env.scope.names.lookup y = some .local := by first | exact .inl rfl | exact .inr rfl | assumption) : PZ X T io WW (.Assign [.Name y p2] e pos) (setM i m) := by
  refine (ps_set hN hi hx he hs hf).imp fun D σ H h => ?_
  obtain ⟨No, env, rep, h⟩ := h
  refine tX_of rep (fun x env' e => ?_) (fun e => ?_) fun w env1 v H1 e ev pv fr => ?_
  · unfold setM at h; rw [e] at h; exact ex_of h
  · unfold setM at h; rw [e] at h; exact h
  · unfold setM at h; rw [e] at h
    exact setW_of h ev pv fr
end
end PL

set_option Elab.async false
set_option linter.all false
set_option maxRecDepth 100000
/-! PL9: targets, loops. -/
namespace PL
open PySem PySem.Spec PyProof.Rows L2

inductive Tg where
  | nm (i : Nat) | tp (is : List Nat) | ls (is : List Nat)
def Tg.sl : Tg → List Nat
  | .nm i => [i]
  | .tp is => is
  | .ls is => is
def asgN : List Nat → List PyData → Env → Option Env
  | [], [], env => some env
  | i :: is, x :: xs, env => if noIo env[i]? = true then asgN is xs (env.set i (.im x)) else none
  | _, _, _ => none
def asgT : Tg → PyData → Env → Option Env
  | .nm i, x, env => asgN [i] [x] env
  | .tp is, .tuple xs, env => asgN is xs env
  | .ls is, .list xs, env => asgN is xs env
  | _, _, _ => none
/-- behind a store of the slots is -/
structure Sto (g : G) (No : Ax) (H : Hp) (σ σ' : St) (env env' : Env) (is : List Nat) : Prop where
  rep : RepS g No H σ' env'
  mo : ∀ b, Mo g σ' env' b → Mo g σ env b
  len : σ'.length = σ.length
  out : ∀ j, j ∉ is → σ'[j]? = σ[j]?
def tgR (g : G) (t : Tg) : TG := fun v σ H Q => ∃ No env x, RepS g No H σ env ∧ Rp g.K (Un2 No (Mo g σ env)) H v x ∧ match asgT t x env with
  | some env' => ∀ σ', Sto g No H σ σ' env env' t.sl → Q σ' H
  | none => False
abbrev PGx (X : Cx) (T : List (Addr × Str)) (io : Addr) (tg : Expr) (t : Tg) : Prop := PG X tg (tgR (gX X T io) t)
theorem _root_.L2.PG.imp {X : Cx} {e : Expr} {t t' : TG} (h : PG X e t) (i : ∀ v σ H Q, t' v σ H Q → t v σ H Q) : PG X e t' := ⟨fun pins s σ H v u Q I r hw => h.run pins s σ H v u Q I r (i _ _ _ _ hw)⟩
def gNs : List Nat → TGs
  | [] => gNil
  | i :: is => gCons (gName i) (gNs is)
theorem gNs_of {g : G} {No : Ax} {H : Hp} {Q : St → Hp → Prop} : ∀ {is : List Nat} {ds : List PyData} {vs : List V} {σ : St} {env env' : Env}, RepS g No H σ env → Rps g.K (Un2 No (Mo g σ env)) H vs ds → asgN is ds env = some env' →
    (∀ σ', Sto g No H σ σ' env env' is → Q σ' H) → gNs is vs σ H Q
  | [], [], vs, σ, env, env', r, rs, e, q => by
    cases rs
    cases e
    exact ⟨rfl, q σ ⟨r, fun _ z => z, rfl, fun _ _ => rfl⟩⟩
  | [], _ :: _, _, _, _, _, _, _, e, _ => by cases e
  | _ :: _, [], _, _, _, _, _, _, e, _ => by cases e
  | i :: is, d :: ds, vs, σ, env, env', r, rs, e, q => by
    cases rs with
    | cons r1 r2 =>
      rename_i v vs
      unfold asgN at e
      split at e
      · rename_i hi
        obtain ⟨r3, sub⟩ := r.setIm hi r1
        refine ⟨v, vs, rfl, gNs_of r3 (r2.tr (Tr.anti fun b z => z.imp id (sub b)) _) e fun σ' s => q σ' ⟨s.rep, fun b z => sub b (s.mo b z), s.len.trans (List.length_set), fun j hj => ?_⟩⟩
        rw [s.out j fun z => hj (List.mem_cons_of_mem _ z)]
        exact List.getElem?_set_ne fun z => hj (by rw [← z]; exact List.mem_cons_self)
      · cases e
section
variable {X : Cx} {T : List (Addr × Str)} {io : Addr} {WW : WX} {pos : Pos} {x : Str}
theorem pgx_nm (i : Nat) (hN : X.N.Nodup) (hi : X.N[i]? = some x := by rfl) (hx : Loc X.env.scope x := by first | exact Or.inl rfl | exact Or.inr rfl) (hf : X.fn x = true ∨ X.env.scope.names.lookup x = some .local := by first | exact .inl rfl | exact .inr rfl | assumption) :
    PGx X T io (.Name x pos) (.nm i) := by
  refine (pg_name hN hi hx hf).imp fun v σ H Q h => ?_
  obtain ⟨No, env, y, r, rv, h⟩ := h
  cases q : asgN [i] [y] env with
  | none => rw [show asgT (.nm i) y env = none from q] at h; exact h.elim
  | some env' =>
    rw [show asgT (.nm i) y env = some env' from q] at h
    have z : gNs [i] [v] σ H Q := gNs_of r (.cons rv .nil) q h
    obtain ⟨v', r', e, z⟩ := z
    cases e
    exact z.2
/-- a list of names -/
inductive PNs (X : Cx) : List Expr → List Nat → Prop
  | nil : PNs X [] []
  | cons {x : Str} {p : Pos} {es : List Expr} {i : Nat} {is : List Nat} : X.N[i]? = some x → Loc X.env.scope x → (X.fn x = true ∨ X.env.scope.names.lookup x = some .local) → PNs X es is → PNs X (.Name x p :: es) (i :: is)
theorem PNs.pgs (hN : X.N.Nodup) : ∀ {es : List Expr} {is : List Nat}, PNs X es is → PGs X es (gNs is)
  | _, _, .nil => pgs_nil
  | _, _, .cons hi hx hf r => pgs_cons (pg_name hN hi hx hf) (r.pgs hN)
theorem asgN_len : ∀ {is : List Nat} {ds : List PyData} {env env' : Env}, asgN is ds env = some env' → ds.length = is.length
  | [], [], _, _, _ => rfl
  | [], _ :: _, _, _, e => by cases e
  | _ :: _, [], _, _, e => by cases e
  | i :: is, d :: ds, env, env', e => by
    unfold asgN at e
    split at e
    · rw [List.length_cons, List.length_cons, asgN_len e]
    · cases e
theorem PNs.len : ∀ {es : List Expr} {is : List Nat}, PNs X es is → (assignEach es X.env).length = is.length
  | _, _, .nil => rfl
  | _, _, .cons _ _ _ r => congrArg (· + 1) r.len
theorem PNs.star : ∀ {es : List Expr} {is : List Nat}, PNs X es is → (assignEach es X.env).findIdx? (·.1) = none
  | _, _, .nil => rfl
  | _, _, .cons (x := x) (p := p) (es := es) _ _ _ r => by
    have e : assignEach (.Name x p :: es) X.env = (false, assign (.Name x p) X.env) :: assignEach es X.env := rfl
    rw [e, List.findIdx?_cons]
    rw [if_neg Bool.false_ne_true, r.star]
    rfl
theorem pgx_tp {es : List Expr} {is : List Nat} {k : Nat} (hc : X.calm = true) (hN : X.N.Nodup) (h : PNs X es is) : PGx X T io (.Tuple es k pos) (.tp is) := by
  refine (pg_tup (n := is.length) hc (h.pgs hN) h.len h.star).imp fun v σ H Q hq => ?_
  obtain ⟨No, env, y, r, rv, hq⟩ := hq
  cases y with
  | tuple ds =>
    cases q : asgN is ds env with
    | none => rw [show asgT (.tp is) (.tuple ds) env = none from q] at hq; exact hq.elim
    | some env' =>
      rw [show asgT (.tp is) (.tuple ds) env = some env' from q] at hq
      cases rv with
      | tup l rs => exact ⟨_, _, rfl, l.sq, by rw [rs.length]; exact asgN_len q, gNs_of r rs q hq⟩
  | _ => exact hq.elim
theorem pgx_ls {es : List Expr} {is : List Nat} {k : Nat} (hc : X.calm = true) (hN : X.N.Nodup) (h : PNs X es is) : PGx X T io (.Tuple es k pos) (.ls is) := by
  refine (pg_lst (n := is.length) hc (h.pgs hN) h.len h.star).imp fun v σ H Q hq => ?_
  obtain ⟨No, env, y, r, rv, hq⟩ := hq
  cases y with
  | list ds =>
    cases q : asgN is ds env with
    | none => rw [show asgT (.ls is) (.list ds) env = none from q] at hq; exact hq.elim
    | some env' =>
      rw [show asgT (.ls is) (.list ds) env = some env' from q] at hq
      cases rv with
      | lst l rs => exact ⟨_, _, rfl, l.sq, by rw [rs.length]; exact asgN_len q, gNs_of r rs q hq⟩
  | _ => exact hq.elim
/-- target = value -/
def asgM (t : Tg) (m : EM W) : SM := fun env => match bnd m esc env with
  | .ok x env2 => match asgT t x env2 with
    | some env3 => .nx env3
    | none => .no
  | .ex x env' => .ex x env'
  | .no => .no
/-- a value, given out -/
theorem tX_esc {g : G} {No : Ax} {H : Hp} {σ : St} {env : Env} {m : EM W} {Q : VK} (rep : RepS g No H σ env) (hx : ∀ x env', bnd m esc env = .ex x env' → exC g WW No env σ H x env') (hn : bnd m esc env ≠ .no)
    (hz : ∀ x env1 v H1, bnd m esc env = .ok x env1 → EvM (Mo g σ env) H (Mo g σ env1) H1 → RepS g No H1 σ env1 → Rp g.K (Un2 No (Mo g σ env1)) H1 v x → Q v H1) : tX g WW m σ H Q := by
  refine tX_of rep (fun x env' e => hx x env' (bnd_ex e)) (fun e => hn (bnd_no e)) fun w env1 v H1 e ev pv fr => ?_
  cases q : esc w env1 with
  | no => exact (hn ((bnd_ok e).trans q)).elim
  | ex x e' => exact absurd q esc_nex
  | ok x env2 =>
    obtain ⟨r2, rx, sub⟩ := pv.esc q
    exact hz x env2 v H1 ((bnd_ok e).trans q) (ev.mono2 sub) r2 rx
theorem pz_asg {tg e : Expr} {t : Tg} {m : EM W} (he : PX X T io WW e m) (hg : PGx X T io tg t) (hs : swapsWithSole [tg] e pos.line X.env = pure false := by rfl) (hw : swappedStores [tg] e X.env = pure none := by rfl) (h1 : (assignEach [tg] X.env).map (·.2) = [assign tg X.env] := by rfl) :
    PZ X T io WW (.Assign [tg] e pos) (asgM t m) := by
  refine (ps_asg he hg hs hw h1).imp fun D σ H h => ?_
  obtain ⟨No, env, rep, h⟩ := h
  refine tX_esc rep (fun x env' e => ?_) (fun e => ?_) fun x env1 v H1 e ev r rx => ?_
  · unfold asgM at h; rw [e] at h; exact ex_of h
  · unfold asgM at h; rw [e] at h; exact h
  · unfold asgM at h; rw [e] at h
    dsimp only at h
    refine ⟨No, env1, x, r, rx, ?_⟩
    cases q : asgT t x env1 with
    | none => rw [q] at h; exact h.elim
    | some env' =>
      rw [q] at h
      exact fun σ' s => h σ' H1 (ev.mono2 s.mo) s.rep
end

/-! ### what is walked -/
def ItOk (K : PySem.W.Frag) (T : List (Addr × Str)) (N : Ax) (J : It) (xs : List PyData) (H1 : Hp) : Prop :=
  ∃ (Gd : Hp → Prop) (Y : Nat → Hp → V → Hp → Prop), Walk J xs.length Gd Y ∧ (∀ N2 H2, Tr N H1 N2 H2 → Gd H2) ∧
    ∀ N2 H2 i v H3 x, Tr N H1 N2 H2 → Nok N2 H2 → LamX.Tabs T H2 → xs[i]? = some x → Y i H2 v H3 → EvM F0 H2 F0 H3 ∧ LamX.Tabs T H3 ∧ Rp K N2 H3 v x
def tI (g : G) (WW : WX) (it : EM (List PyData)) : TI := fun σ H R => ∃ No env, RepS g No H σ env ∧ match it env with
  | .ok xs env' => ∀ J H', EvM (Mo g σ env) H (Mo g σ env') H' → RepS g No H' σ env' → ItOk g.K g.T (Un2 No (Mo g σ env')) J xs H' → R J H'
  | .ex x env' => exC g WW No env σ H x env'
  | .no => False
abbrev PIx (X : Cx) (T : List (Addr × Str)) (io : Addr) (WW : WX) (tg iter : Expr) (it : EM (List PyData)) : Prop := PI X tg iter (tI (gX X T io) WW it)
theorem _root_.L2.PI.imp {X : Cx} {tg e : Expr} {t t' : TI} (h : PI X tg e t) (i : ∀ σ H Q, t' σ H Q → t σ H Q) : PI X tg e t' := ⟨fun pins s σ H R I hw => h.run pins s σ H R I (i _ _ _ hw)⟩
section
variable {K : PySem.W.Frag} {T : List (Addr × Str)} {N : Ax} {H1 : Hp} {a b : Addr} {xs ys : List V} {ds es : List PyData}
theorem itOk_list (h : LL K N H1 a xs) (r : Rps K N H1 xs ds) : ItOk K T N (Itl K a) ds H1 := by
  refine ⟨_, _, r.length ▸ walk_list (xs := xs), fun N2 H2 t => (h.tr t).sq, ?_⟩
  rintro N2 H2 i v H3 x t nok tb e ⟨rfl, y⟩
  obtain ⟨v', e1, q⟩ := r.get e
  rw [y] at e1
  cases e1
  exact ⟨EvM.refl _ _, tb, q.tr t _⟩
theorem itOk_tup (h : LT K N H1 a xs) (r : Rps K N H1 xs ds) : ItOk K T N (Itt K a) ds H1 := by
  refine ⟨_, _, r.length ▸ walk_tup (xs := xs), fun N2 H2 t => (h.tr t).sq, ?_⟩
  rintro N2 H2 i v H3 x t nok tb e ⟨rfl, y⟩
  obtain ⟨v', e1, q⟩ := r.get e
  rw [y] at e1
  cases e1
  exact ⟨EvM.refl _ _, tb, q.tr t _⟩
def rngL (lo : Int) (n : Nat) : List PyData := (List.range n).map fun (k : Nat) => .int (lo + (k : Int))
theorem rngL_len (lo : Int) (n : Nat) : (rngL lo n).length = n := by unfold rngL; rw [List.length_map, List.length_range]
theorem itOk_range (lo : Int) (n : Nat) : ItOk K T N (Itr lo n) (rngL lo n) H1 := by
  refine ⟨fun _ => True, _, by rw [rngL_len]; exact walk_range (lo := lo) (n := n), fun _ _ _ => trivial, ?_⟩
  rintro N2 H2 i v H3 x t nok tb e ⟨rfl, y⟩
  unfold rngL at e
  rw [List.getElem?_map] at e
  have hi : i < n := by
    rcases Nat.lt_or_ge i n with z | z
    · exact z
    · rw [List.getElem?_eq_none (by rw [List.length_range]; exact z)] at e
      cases e
  rw [List.getElem?_range hi] at e
  cases e
  rw [y]
  exact ⟨EvM.refl _ _, tb, .int _⟩
theorem zip_get {α β : Type} {xs : List α} {ys : List β} {i : Nat} {x : α} {y : β} (h : (xs.zip ys)[i]? = some (x, y)) : xs[i]? = some x ∧ ys[i]? = some y := by
  rw [List.getElem?_zip_eq_some] at h
  exact h
def zipL (xs ys : List PyData) : List PyData := (xs.zip ys).map fun p => .tuple [p.1, p.2]
theorem zipL_len (xs ys : List PyData) : (zipL xs ys).length = min xs.length ys.length := by unfold zipL; rw [List.length_map, List.length_zip]
theorem yPair_ok {N2 : Ax} {H2 H3 : Hp} {i : Nat} {v : V} {d e : PyData} {f1 f2 : Nat → Option V} (nok : Nok N2 H2) (tb : LamX.Tabs T H2) (y : YPair f1 f2 i H2 v H3) (h1 : ∀ x, f1 i = some x → Rp K N2 H2 x d) (h2 : ∀ x, f2 i = some x → Rp K N2 H2 x e) :
    EvM F0 H2 F0 H3 ∧ LamX.Tabs T H3 ∧ Rp K N2 H3 v (.tuple [d, e]) := by
  obtain ⟨Tt, x, z, rfl, nT, rfl, e1, e2⟩ := y
  exact ⟨EvM.upd nT, tabs_upd tb nT, .tup (.inl ⟨fun q => nok Tt q nT, .inl upd_same⟩) (.cons ((h1 x e1).tr (Tr.newN nT) _) (.cons ((h2 z e2).tr (Tr.newN nT) _) .nil))⟩
theorem zipL_get {i : Nat} {x : PyData} (h : (zipL ds es)[i]? = some x) : ∃ d e, x = .tuple [d, e] ∧ ds[i]? = some d ∧ es[i]? = some e := by
  unfold zipL at h
  rw [List.getElem?_map] at h
  cases q : (ds.zip es)[i]? with
  | none => rw [q] at h; cases h
  | some p =>
    rw [q] at h
    cases h
    obtain ⟨d, e⟩ := p
    exact ⟨d, e, rfl, (zip_get q).1, (zip_get q).2⟩
theorem itOk_zip (h : LL K N H1 a xs) (r : Rps K N H1 xs ds) (h' : LL K N H1 b ys) (r' : Rps K N H1 ys es) : ItOk K T N (Itz K a b) (zipL ds es) H1 := by
  refine ⟨_, _, walk_zip (xs := xs) (ys := ys) (n := (zipL ds es).length) (by rw [zipL_len, r.length, r'.length]), fun N2 H2 t => ⟨(h.tr t).sq, (h'.tr t).sq⟩, ?_⟩
  intro N2 H2 i v H3 x t nok tb e y
  obtain ⟨d, e', rfl, e1, e2⟩ := zipL_get e
  refine yPair_ok nok tb y (fun z q => ?_) (fun z q => ?_)
  · obtain ⟨u, a1, a2⟩ := r.get e1
    rw [q] at a1
    cases a1
    exact a2.tr t _
  · obtain ⟨u, a1, a2⟩ := r'.get e2
    rw [q] at a1
    cases a1
    exact a2.tr t _
def enumL (xs : List PyData) : List PyData := zipL (rngL 0 xs.length) xs
theorem itOk_enum (h : LL K N H1 a xs) (r : Rps K N H1 xs ds) : ItOk K T N (Ite K a) (enumL ds) H1 := by
  have hl : (enumL ds).length = xs.length := by unfold enumL; rw [zipL_len, rngL_len, r.length, Nat.min_self]
  refine ⟨fun H => SqL K H a xs, YPair (fun i => some (.int (i : Nat))) (fun i => xs[i]?), by rw [hl]; exact walk_enum (xs := xs), fun N2 H2 t => (h.tr t).sq, ?_⟩
  intro N2 H2 i v H3 x t nok tb e y
  obtain ⟨d, e', rfl, e1, e2⟩ := zipL_get e
  unfold rngL at e1
  rw [List.getElem?_map] at e1
  have hi : i < ds.length := by
    rcases Nat.lt_or_ge i ds.length with z | z
    · exact z
    · rw [List.getElem?_eq_none (by rw [List.length_range]; exact z)] at e1
      cases e1
  rw [List.getElem?_range hi] at e1
  cases e1
  refine yPair_ok nok tb y (fun z q => ?_) (fun z q => ?_)
  · cases q
    show Rp K N2 H2 (V.int (i : Nat)) (.int (0 + (i : Int)))
    rw [Int.zero_add]
    exact .int _
  · obtain ⟨u, a1, a2⟩ := r.get e2
    rw [q] at a1
    cases a1
    exact a2.tr t _
end
end PL

set_option Elab.async false
set_option linter.all false
set_option maxRecDepth 100000
/-! PL10: for, while, comprehensions. -/
namespace PL
open PySem PySem.Spec PyProof.Rows L2

/-! ### for -/
def loopL (t : Tg) (body : SM) : List PyData → SM
  | [] => fun env => .nx env
  | x :: xs => fun env => match asgT t x env with
    | none => .no
    | some env1 => match body env1 with
      | .nx e => loopL t body xs e
      | .ct e => loopL t body xs e
      | .bk e => .nx e
      | r => r
def forM (it : EM (List PyData)) (t : Tg) (body : SM) : SM := fun env => match it env with
  | .ok xs env' => loopL t body xs env'
  | .ex x env' => .ex x env'
  | .no => .no
theorem drop_cons {α : Type} {xs : List α} {i : Nat} (h : i < xs.length) : xs.drop i = xs[i] :: xs.drop (i + 1) := List.drop_eq_getElem_cons h
section
variable {X : Cx} {T : List (Addr × Str)} {io : Addr} {WW : WX} {pos p2 : Pos} {tg iter c : Expr} {it : EM (List PyData)} {t : Tg} {body : List Stmt} {zb : SM} {mc : EM Bool}
theorem pz_for (hp : PassesOwn (model X.prog X.w) X.A X.env X.xe) (hc : X.calm = true) (hi : PIx X T io WW tg iter it) (hg : PGx X T io tg t) (hb : PZs X T io WW body zb) (hs : ∀ x, foldedSetIterable iter X.env x = pure x := by intro _; rfl) :
    PZ X T io WW (.For tg iter body [] pos) (forM it t zb) := by
  refine (ps_for hp hc hi hg hb hs).imp fun D σ H h => ?_
  obtain ⟨No, env, rep, h⟩ := h
  refine ⟨No, env, rep, ?_⟩
  unfold forM at h
  cases q : it env with
  | no => rw [q] at h; exact h
  | ex x env' => rw [q] at h; exact ex_of h
  | ok xs env1 =>
    rw [q] at h
    intro J H1 ev r1 ⟨Gd, Y, wk, hG, hY⟩
    have h1 : zC (gX X T io) WW No σ H1 env1 D (loopL t zb xs env1) := zC.go h ev
    refine for_it wk (fun i σ' H' => ∃ env', RepS (gX X T io) No H' σ' env' ∧ EvM (Mo (gX X T io) σ env1) H1 (Mo (gX X T io) σ' env') H' ∧ zC (gX X T io) WW No σ H1 env1 D (loopL t zb (xs.drop i) env'))
      ⟨env1, r1, EvM.refl _ _, h1⟩ (fun i σ' H' hi ⟨env', r', ev', z⟩ => hG _ H' ev'.tr) (fun i v σ' H' H3 hi ⟨env', r', ev', z⟩ y => ?_) fun σ' H' ⟨env', r', ev', z⟩ => ?_
    · rw [drop_cons hi] at z
      obtain ⟨e3, t3, rv⟩ := hY _ H' i v H3 xs[i] ev'.tr r'.nok r'.tab (List.getElem?_eq_getElem hi) y
      have r3 : RepS (gX X T io) No H3 σ' env' := r'.ev e3 t3 fun a z => .inl z
      refine ⟨No, env', xs[i], r3, rv, ?_⟩
      unfold loopL at z
      cases qa : asgT t xs[i] env' with
      | none => rw [qa] at z; exact z.elim
      | some env2 =>
        rw [qa] at z
        dsimp only at z
        intro σ2 sto
        refine ⟨No, env2, sto.rep, ?_⟩
        have ev3 : EvM (Mo (gX X T io) σ env1) H1 (Mo (gX X T io) σ2 env2) H3 := (ev'.trans e3.up).mono2 sto.mo
        cases qb : zb env2 with
        | nx e => rw [qb] at z; exact fun σ4 H4 e4 r4 => ⟨e, r4, ev3.trans e4, z⟩
        | ct e => rw [qb] at z; exact fun σ4 H4 e4 r4 => ⟨e, r4, ev3.trans e4, z⟩
        | bk e => rw [qb] at z; exact fun σ4 H4 e4 r4 => z σ4 H4 (ev3.trans e4) r4
        | rt w e => rw [qb] at z; exact fun v σ4 H4 e4 r4 f => z v σ4 H4 (ev3.trans e4) r4 (f.back ev3)
        | ex x e => rw [qb] at z; exact fun c d σ4 H4 e4 r4 => z c d σ4 H4 (ev3.trans e4) r4
        | no => rw [qb] at z; exact z
    · rw [List.drop_length] at z
      exact z σ' H' ev' r'

/-! ### while -/
def loopW (mc : EM Bool) (body : SM) : Nat → SM
  | 0 => fun _ => .no
  | n + 1 => fun env => match mc env with
    | .ok true env1 => match body env1 with
      | .nx e => loopW mc body n e
      | .ct e => loopW mc body n e
      | .bk e => .nx e
      | r => r
    | .ok false env1 => .nx env1
    | .ex x e => .ex x e
    | .no => .no
theorem pz_while (n : Nat) (hp : PassesOwn (model X.prog X.w) X.A X.env X.xe) (hc : PXT X T io WW c mc) (hb : PZs X T io WW body zb) : PZ X T io WW (.While c body [] pos) (loopW mc zb n) := by
  refine (ps_while hp hc hb).imp fun D σ H h => ?_
  obtain ⟨No, env, rep, h⟩ := h
  refine ⟨fun m σ' H' => ∃ env', RepS (gX X T io) No H' σ' env' ∧ EvM (Mo (gX X T io) σ env) H (Mo (gX X T io) σ' env') H' ∧ zC (gX X T io) WW No σ H env D (loopW mc zb m env'), ⟨n, env, rep, EvM.refl _ _, h⟩, fun m σ' H' ⟨env', r', ev', z⟩ => ?_⟩
  cases m with
  | zero => exact z.elim
  | succ m =>
    unfold loopW at z
    refine tT_of r' (fun x e q => ?_) (fun q => ?_) fun b env1 H1 q ev1 r1 => ?_
    · rw [q] at z
      exact fun cls dx H2 e2 r2 i2 => z cls dx σ' H2 (ev'.trans e2) r2 i2
    · rw [q] at z
      exact z
    · rw [q] at z
      cases b with
      | false =>
        rw [if_neg Bool.false_ne_true]
        exact z σ' H1 (ev'.trans ev1) r1
      | true =>
        rw [if_pos rfl]
        dsimp only at z
        refine ⟨fun σ2 H2 => ∃ e, RepS (gX X T io) No H2 σ2 e ∧ EvM (Mo (gX X T io) σ env) H (Mo (gX X T io) σ2 e) H2 ∧ zC (gX X T io) WW No σ H env D (loopW mc zb m e), fun σ2 H2 hh => ⟨m, Nat.lt_succ_self m, hh⟩, No, env1, r1, ?_⟩
        have ev2 := ev'.trans ev1
        cases qb : zb env1 with
        | nx e => rw [qb] at z; exact fun σ4 H4 e4 r4 => ⟨e, r4, ev2.trans e4, z⟩
        | ct e => rw [qb] at z; exact fun σ4 H4 e4 r4 => ⟨e, r4, ev2.trans e4, z⟩
        | bk e => rw [qb] at z; exact fun σ4 H4 e4 r4 => z σ4 H4 (ev2.trans e4) r4
        | rt w e => rw [qb] at z; exact fun v σ4 H4 e4 r4 f => z v σ4 H4 (ev2.trans e4) r4 (f.back ev2)
        | ex x e => rw [qb] at z; exact fun c d σ4 H4 e4 r4 => z c d σ4 H4 (ev2.trans e4) r4
        | no => rw [qb] at z; exact z
end

/-! ### comprehensions -/
def wipeE (vs : List Nat) (env : Env) : Env := match vs with
  | [] => env
  | v :: vs => (wipeE vs env).set v .e
def okS : Option Sl → Bool
  | some .e => true
  | some (.im _) => true
  | _ => false
def okV (vs : List Nat) (env : Env) : Bool := vs.all fun i => okS env[i]?
def backE (vs : List Nat) (old : Env) (env : Env) : Env := match vs with
  | [] => env
  | v :: vs => match old[v]? with
    | some s => (backE vs old env).set v s
    | none => backE vs old env
theorem wipeE_len (env : Env) : ∀ vs : List Nat, (wipeE vs env).length = env.length
  | [] => rfl
  | v :: vs => by unfold wipeE; rw [List.length_set, wipeE_len env vs]
theorem wipeE_at {env : Env} {i : Nat} {s : Sl} : ∀ {vs : List Nat}, (wipeE vs env)[i]? = some s → (i ∈ vs ∧ s = .e) ∨ (i ∉ vs ∧ env[i]? = some s)
  | [], h => .inr ⟨by simp, h⟩
  | v :: vs, h => by
    unfold wipeE at h
    rcases set_get h with ⟨rfl, z⟩ | ⟨ne, z⟩
    · exact .inl ⟨List.mem_cons_self, z⟩
    · rcases wipeE_at z with ⟨a, b⟩ | ⟨a, b⟩
      · exact .inl ⟨List.mem_cons_of_mem _ a, b⟩
      · exact .inr ⟨by simp only [List.mem_cons, not_or]; exact ⟨ne, a⟩, b⟩
theorem wipeE_out {env : Env} {i : Nat} : ∀ {vs : List Nat}, i ∉ vs → (wipeE vs env)[i]? = env[i]?
  | [], _ => rfl
  | v :: vs, h => by
    simp only [List.mem_cons, not_or] at h
    unfold wipeE
    rw [List.getElem?_set_ne (fun z => h.1 z.symm)]
    exact wipeE_out h.2
theorem wipe_out' {σ : St} {i : Nat} : ∀ {vs : List Nat}, i ∉ vs → (wipe σ vs)[i]? = σ[i]?
  | [], _ => rfl
  | v :: vs, h => by
    simp only [List.mem_cons, not_or] at h
    unfold wipe
    rw [List.getElem?_set_ne (fun z => h.1 z.symm)]
    exact wipe_out' h.2
theorem wipe_in {σ : St} {i : Nat} : ∀ {vs : List Nat}, i ∈ vs → i < σ.length → (wipe σ vs)[i]? = some none
  | v :: vs, h, hl => by
    unfold wipe
    by_cases e : v = i
    · subst e
      rw [List.getElem?_set_self (by rw [wipe_length]; exact hl)]
    · rw [List.getElem?_set_ne e]
      rcases List.mem_cons.mp h with z | z
      · exact absurd z.symm e
      · exact wipe_in z hl
theorem wipe_eq {σ σ2 : St} {vs : List Nat} (hl : σ2.length = σ.length) (h : ∀ j, j ∉ vs → σ2[j]? = (wipe σ vs)[j]?) : wipe σ2 vs = wipe σ vs := by
  apply List.ext_getElem?
  intro i
  by_cases hi : i ∈ vs
  · by_cases hb : i < σ.length
    · rw [wipe_in hi hb, wipe_in hi (by rw [hl]; exact hb)]
    · rw [List.getElem?_eq_none (by rw [wipe_length, hl]; omega), List.getElem?_eq_none (by rw [wipe_length]; omega)]
  · rw [wipe_out' hi, h i hi]
theorem okV_at {vs : List Nat} {env : Env} (h : okV vs env = true) {i : Nat} (hi : i ∈ vs) : okS env[i]? = true := List.all_eq_true.mp h i hi
section
variable {g : G} {No : Ax} {H H' : Hp} {σ : St} {env env2 : Env} {vs : List Nat}
theorem Mo_wipe (h : okV vs env = true) (b : Addr) : Mo g (wipe σ vs) (wipeE vs env) b ↔ Mo g σ env b := by
  constructor
  · rintro (⟨i, es, e1, e2⟩ | ⟨rfl, i, es, e1⟩)
    · rcases wipeE_at e1 with ⟨_, z⟩ | ⟨n, z⟩
      · cases z
      · rw [wipe_out' n] at e2
        exact .inl ⟨i, es, z, e2⟩
    · rcases wipeE_at e1 with ⟨_, z⟩ | ⟨n, z⟩
      · cases z
      · exact .inr ⟨rfl, i, es, z⟩
  · rintro (⟨i, es, e1, e2⟩ | ⟨rfl, i, es, e1⟩)
    · have n : i ∉ vs := fun z => by
        have q := okV_at h z
        rw [e1] at q
        cases q
      exact .inl ⟨i, es, by rw [wipeE_out n]; exact e1, by rw [wipe_out' n]; exact e2⟩
    · have n : i ∉ vs := fun z => by
        have q := okV_at h z
        rw [e1] at q
        cases q
      exact .inr ⟨rfl, i, es, by rw [wipeE_out n]; exact e1⟩
theorem RepS.wipe (r : RepS g No H σ env) (h : okV vs env = true) : RepS g No H (wipe σ vs) (wipeE vs env) := by
  have iff := fun b => Mo_wipe (g := g) (σ := σ) h b
  have t : Tr (Un2 No (Mo g σ env)) H (Un2 No (Mo g (L2.wipe σ vs) (wipeE vs env))) H := Tr.anti fun a z => z.imp id (iff a).1
  have dn : ∀ {i : Nat} {s : Sl}, (wipeE vs env)[i]? = some s → s ≠ .e → i ∉ vs ∧ env[i]? = some s := fun e ne => (wipeE_at e).elim (fun z => absurd z.2 ne) id
  refine ⟨by rw [wipe_length, wipeE_len]; exact r.len, r.tab, fun a z => ⟨(r.nout a z).1, fun q => (r.nout a z).2 ((iff a).1 q)⟩, fun i x e => ?_, fun i ds e => ?_, fun i ds e => ?_, fun i j ds es a h1 h2 h3 h4 => ?_, fun i j ds es h1 h2 => ?_, fun i j ds es h1 h2 => ?_⟩
  · obtain ⟨n, e⟩ := dn e (fun z => by cases z)
    obtain ⟨v, a1, a2⟩ := r.im i x e
    exact ⟨v, by rw [wipe_out' n]; exact a1, a2.tr t _⟩
  · obtain ⟨n, e⟩ := dn e (fun z => by cases z)
    obtain ⟨a, a1, a2⟩ := r.oc i ds e
    exact ⟨a, by rw [wipe_out' n]; exact a1, a2.tr t fun _ z _ => z⟩
  · obtain ⟨n, e⟩ := dn e (fun z => by cases z)
    obtain ⟨xs, a1, a2, a3⟩ := r.io i ds e
    exact ⟨xs, by rw [wipe_out' n]; exact a1, a2, a3.tr t _⟩
  · obtain ⟨n1, e1⟩ := dn h1 (fun z => by cases z)
    obtain ⟨n2, e2⟩ := dn h2 (fun z => by cases z)
    rw [wipe_out' n1] at h3
    rw [wipe_out' n2] at h4
    exact r.dis i j ds es a e1 e2 h3 h4
  · obtain ⟨n1, e1⟩ := dn h1 (fun z => by cases z)
    obtain ⟨n2, e2⟩ := dn h2 (fun z => by cases z)
    rw [wipe_out' n1]
    exact r.dio i j ds es e1 e2
  · obtain ⟨n1, e1⟩ := dn h1 (fun z => by cases z)
    obtain ⟨n2, e2⟩ := dn h2 (fun z => by cases z)
    exact r.io1 i j ds es e1 e2
theorem backE_at {old : Env} {i : Nat} {s : Sl} : ∀ {vs : List Nat}, (backE vs old env2)[i]? = some s → (i ∈ vs ∧ old[i]? = some s) ∨ env2[i]? = some s
  | [], h => .inr h
  | v :: vs, h => by
    unfold backE at h
    split at h
    · rename_i t q
      rcases set_get h with ⟨rfl, z⟩ | ⟨ne, z⟩
      · exact .inl ⟨List.mem_cons_self, by rw [z]; exact q⟩
      · exact (backE_at z).imp (fun z => ⟨List.mem_cons_of_mem _ z.1, z.2⟩) id
    · exact (backE_at h).imp (fun z => ⟨List.mem_cons_of_mem _ z.1, z.2⟩) id
theorem backE_len {old : Env} : ∀ {vs : List Nat}, (backE vs old env2).length = env2.length
  | [] => rfl
  | v :: vs => by
    unfold backE
    split
    · rw [List.length_set]; exact backE_len
    · exact backE_len
theorem backE_out {old : Env} {i : Nat} : ∀ {vs : List Nat}, i ∉ vs → (backE vs old env2)[i]? = env2[i]?
  | [], _ => rfl
  | v :: vs, h => by
    simp only [List.mem_cons, not_or] at h
    unfold backE
    split
    · rw [List.getElem?_set_ne (fun z => h.1 z.symm)]; exact backE_out h.2
    · exact backE_out h.2
theorem backE_in {old : Env} {i : Nat} {t : Sl} : ∀ {vs : List Nat}, i ∈ vs → i < env2.length → old[i]? = some t → (backE vs old env2)[i]? = some t
  | v :: vs, hi, lt, ht => by
    unfold backE
    by_cases ev : v = i
    · subst ev
      rw [ht]
      exact List.getElem?_set_self (by rw [backE_len]; exact lt)
    · have hi' : i ∈ vs := (List.mem_cons.mp hi).elim (fun z => absurd z.symm ev) id
      split
      · rw [List.getElem?_set_ne ev]; exact backE_in hi' lt ht
      · exact backE_in hi' lt ht
/-- behind a comprehension: the slots as they were ahead of it -/
theorem RepS.back {old : Env} {No1 : Ax} {H1 : Hp} (r1 : RepS g No1 H1 σ old) (h : okV vs old = true) (r2 : RepS g No H' (L2.wipe σ vs) env2) (hw : ∀ i, i ∈ vs → ∀ s, env2[i]? = some s → s = .e)
    (tr : Tr (Un2 No1 (Mo g σ old)) H1 (Un2 No (Mo g (L2.wipe σ vs) env2)) H') : RepS g No H' σ (backE vs old env2) ∧ ∀ b, Mo g σ (backE vs old env2) b ↔ Mo g (L2.wipe σ vs) env2 b := by
  have dn : ∀ {i : Nat} {s : Sl}, (backE vs old env2)[i]? = some s → (i ∈ vs ∧ old[i]? = some s) ∨ (i ∉ vs ∧ env2[i]? = some s) := fun {i s} e => by
    by_cases hi : i ∈ vs
    · rcases backE_at e with z | z
      · exact .inl z
      · -- the slot is empty, and was so
        have se := hw i hi s z
        rcases backE_at e with z | z
        · exact .inl z
        · refine .inl ⟨hi, ?_⟩
          have ho : ∃ t, old[i]? = some t := by
            cases q : old[i]? with
            | some t => exact ⟨t, rfl⟩
            | none =>
              have q2 := okV_at h hi
              rw [q] at q2
              cases q2
          obtain ⟨t, ht⟩ := ho
          have lt : i < env2.length := by
            rcases Nat.lt_or_ge i env2.length with l | l
            · exact l
            · have l2 := r2.len
              rw [wipe_length, r1.len] at l2
              rw [List.getElem?_eq_none (by omega)] at ht
              cases ht
          have hset : (backE vs old env2)[i]? = some t := backE_in hi lt ht
          rw [hset] at e
          rw [ht]
          exact e
    · rw [backE_out hi] at e
      exact .inr ⟨hi, e⟩
  have noOw : ∀ {i : Nat} {s : Sl}, i ∈ vs → old[i]? = some s → (∀ ds, s ≠ .own ds) ∧ ∀ ds, s ≠ .io ds := fun {i s} hi e => by
    have q := okV_at h hi
    rw [e] at q
    exact ⟨fun ds z => (by rw [z] at q; cases q), fun ds z => (by rw [z] at q; cases q)⟩
  have iff : ∀ b, Mo g σ (backE vs old env2) b ↔ Mo g (L2.wipe σ vs) env2 b := fun b => by
    constructor
    · rintro (⟨i, es, e1, e2⟩ | ⟨rfl, i, es, e1⟩)
      · rcases dn e1 with ⟨hi, z⟩ | ⟨n, z⟩
        · exact absurd rfl ((noOw hi z).1 es)
        · exact .inl ⟨i, es, z, by rw [wipe_out' n]; exact e2⟩
      · rcases dn e1 with ⟨hi, z⟩ | ⟨n, z⟩
        · exact absurd rfl ((noOw hi z).2 es)
        · exact .inr ⟨rfl, i, es, z⟩
    · rintro (⟨i, es, e1, e2⟩ | ⟨rfl, i, es, e1⟩)
      · have n : i ∉ vs := fun z => by cases hw i z _ e1
        exact .inl ⟨i, es, by rw [backE_out n]; exact e1, by rw [wipe_out' n] at e2; exact e2⟩
      · have n : i ∉ vs := fun z => by cases hw i z _ e1
        exact .inr ⟨rfl, i, es, by rw [backE_out n]; exact e1⟩
  have t2 : Tr (Un2 No (Mo g (L2.wipe σ vs) env2)) H' (Un2 No (Mo g σ (backE vs old env2))) H' := Tr.anti fun a z => z.imp id (iff a).1
  refine ⟨⟨?_, r2.tab, fun a z => ⟨(r2.nout a z).1, fun q => (r2.nout a z).2 ((iff a).1 q)⟩, fun i x e => ?_, fun i ds e => ?_, fun i ds e => ?_, fun i j ds es a h1 h2 h3 h4 => ?_, fun i j ds es h1 h2 => ?_, fun i j ds es h1 h2 => ?_⟩, iff⟩
  · rw [backE_len, ← r2.len, wipe_length]
  · rcases dn e with ⟨hi, z⟩ | ⟨n, z⟩
    · obtain ⟨v, a1, a2⟩ := r1.im i x z
      exact ⟨v, a1, (a2.tr tr _).tr t2 _⟩
    · obtain ⟨v, a1, a2⟩ := r2.im i x z
      rw [wipe_out' n] at a1
      exact ⟨v, a1, a2.tr t2 _⟩
  · rcases dn e with ⟨hi, z⟩ | ⟨n, z⟩
    · exact absurd rfl ((noOw hi z).1 ds)
    · obtain ⟨a, a1, a2⟩ := r2.oc i ds z
      rw [wipe_out' n] at a1
      exact ⟨a, a1, a2.tr t2 fun _ z _ => z⟩
  · rcases dn e with ⟨hi, z⟩ | ⟨n, z⟩
    · exact absurd rfl ((noOw hi z).2 ds)
    · obtain ⟨xs, a1, a2, a3⟩ := r2.io i ds z
      rw [wipe_out' n] at a1
      exact ⟨xs, a1, a2, a3.tr t2 _⟩
  · rcases dn h1 with ⟨hi, z⟩ | ⟨n1, z1⟩
    · exact absurd rfl ((noOw hi z).1 ds)
    rcases dn h2 with ⟨hi, z⟩ | ⟨n2, z2⟩
    · exact absurd rfl ((noOw hi z).1 es)
    exact r2.dis i j ds es a z1 z2 (by rw [wipe_out' n1]; exact h3) (by rw [wipe_out' n2]; exact h4)
  · rcases dn h1 with ⟨hi, z⟩ | ⟨n1, z1⟩
    · exact absurd rfl ((noOw hi z).1 ds)
    rcases dn h2 with ⟨hi, z⟩ | ⟨n2, z2⟩
    · exact absurd rfl ((noOw hi z).2 es)
    have q := r2.dio i j ds es z1 z2
    rw [wipe_out' n1] at q
    exact q
  · rcases dn h1 with ⟨hi, z⟩ | ⟨n1, z1⟩
    · exact absurd rfl ((noOw hi z).2 ds)
    rcases dn h2 with ⟨hi, z⟩ | ⟨n2, z2⟩
    · exact absurd rfl ((noOw hi z).2 es)
    exact r2.io1 i j ds es z1 z2
/-- a list that is kept off is written -/
theorem tabs_chg {T : List (Addr × Str)} {a : Addr} {xs ys : List V} (ha : H a = some (.lst xs)) (t : LamX.Tabs T H) : LamX.Tabs T (upd H a (.lst ys)) := fun p hp => by
  obtain ⟨ps, h1, h2, h3⟩ := t p hp
  refine ⟨ps, by rw [upd_ne (ne_of h1 ha fun z => by cases z)]; exact h1, h2, fun pos cv hc => ?_⟩
  obtain ⟨c, e1, e2⟩ := h3 pos cv hc
  refine ⟨c, e1, ?_⟩
  have ne : c ≠ a := ne_of e2 ha fun z => by unfold LamX.CodeO at z; cases z
  rw [upd_ne ne]
  exact e2
theorem RepS.chg {a : Addr} {xs ys : List V} (r : RepS g No H σ env) (hn : No a) (ha : H a = some (.lst xs)) : RepS g No (upd H a (.lst ys)) σ env := by
  have ke : ∀ c o, H c = some o → c ≠ a → upd H a (.lst ys) c = some o := fun c o hc ne => by rw [upd_ne ne]; exact hc
  have t : Tr (Un2 No (Mo g σ env)) H (Un2 No (Mo g σ env)) (upd H a (.lst ys)) := fun c o hc _ m => ⟨ke c o hc fun z => m (.inl (by rw [z]; exact hn)), m⟩
  have nm : ¬ Mo g σ env a := (r.nout a hn).2
  refine ⟨r.len, tabs_chg ha r.tab, fun b z => ⟨?_, (r.nout b z).2⟩, fun i x e => ?_, fun i ds e => ?_, fun i ds e => ?_, r.dis, r.dio, r.io1⟩
  · by_cases e : b = a
    · rw [e, upd_same]; exact fun z => by cases z
    · rw [upd_ne e]; exact (r.nout b z).1
  · obtain ⟨v, a1, a2⟩ := r.im i x e
    exact ⟨v, a1, a2.tr t _⟩
  · obtain ⟨b, a1, a2⟩ := r.oc i ds e
    exact ⟨b, a1, a2.tr t fun u hu _ => ke b _ hu fun z => nm (by rw [← z]; exact .inl ⟨i, ds, e, a1⟩)⟩
  · obtain ⟨zs, a1, a2, a3⟩ := r.io i ds e
    exact ⟨zs, a1, ke _ _ a2 fun z => nm (by rw [← z]; exact .inr ⟨rfl, i, ds, e⟩), a3.tr t _⟩
end
def loopC (t : Tg) (tt : EM Bool) (te : EM W) (vs : List Nat) : List PyData → List PyData → EM (List PyData)
  | [], acc => fun env => .ok acc env
  | x :: xs, acc => fun env => match asgT t x env with
    | none => .no
    | some e1 => match tt e1 with
      | .ok false e2 => if okV vs e2 = true then loopC t tt te vs xs acc (wipeE vs e2) else .no
      | .ok true e2 => match bnd te esc e2 with
        | .ok y e3 => if okV vs e3 = true then loopC t tt te vs xs (acc ++ [y]) (wipeE vs e3) else .no
        | _ => .no
      | _ => .no
def lcM (it : EM (List PyData)) (t : Tg) (tt : EM Bool) (te : EM W) (vs : List Nat) : EM W := fun env => match it env with
  | .ok xs env1 => if okV vs env1 = true ∧ xs.length ≤ sizeLine ∧ (t.sl.all fun i => vs.contains i) = true then match loopC t tt te vs xs [] (wipeE vs env1) with
      | .ok ys env2 => .ok (.f ys) (backE vs env1 env2)
      | _ => .no
    else .no
  | .ex x env1 => .ex x env1
  | .no => .no

section
variable {X : Cx} {T : List (Addr × Str)} {io : Addr} {WW : WX} {pos p2 : Pos} {tg iter elt c : Expr} {ifs : List Expr} {it : EM (List PyData)} {t : Tg} {tt : EM Bool} {te : EM W} {scope : Scope} {own : List (Str × Nat)}
abbrev WF : WX := fun _ _ _ _ => False
/-- the tests of a comprehension -/
theorem loopC_len {t : Tg} {tt : EM Bool} {te : EM W} {vs : List Nat} : ∀ {xs acc : List PyData} {env env' : Env} {ys : List PyData}, okV vs env = true → loopC t tt te vs xs acc env = .ok ys env' → True := fun _ _ => trivial
theorem wipeE_e {env : Env} {vs : List Nat} : ∀ i, i ∈ vs → ∀ s, (wipeE vs env)[i]? = some s → s = .e := fun i hi s h => (wipeE_at h).elim (fun z => z.2) fun z => absurd hi z.1
theorem loopC_e {t : Tg} {tt : EM Bool} {te : EM W} {vs : List Nat} : ∀ {xs acc : List PyData} {env env' : Env} {ys : List PyData}, (∀ i, i ∈ vs → ∀ s, env[i]? = some s → s = .e) → loopC t tt te vs xs acc env = .ok ys env' → ∀ i, i ∈ vs → ∀ s, env'[i]? = some s → s = .e
  | [], acc, env, env', ys, h, e => by cases e; exact h
  | x :: xs, acc, env, env', ys, h, e => by
    unfold loopC at e
    split at e
    · cases e
    · split at e
      · split at e
        · exact loopC_e wipeE_e e
        · cases e
      · split at e
        · split at e
          · exact loopC_e wipeE_e e
          · cases e
        · cases e
      · cases e
theorem lc_of {vs : List Nat} {σ : St} {H : Hp} {Q : VK} (h : tX (gX X T io) WW (lcM it t tt te vs) σ H Q) : tLc (tI (gX X T io) WW it) (tgR (gX X T io) t) (tT (gX X T io) WF tt) (tX (gX X T io) WF te) vs σ H Q := by
  obtain ⟨No, env, rep, h⟩ := h
  refine ⟨No, env, rep, ?_⟩
  unfold lcM at h
  cases q : it env with
  | no => rw [q] at h; exact h
  | ex x env' => rw [q] at h; exact h
  | ok xs env1 =>
    rw [q] at h
    intro J H1 ev r1 ⟨Gd, Y, wk, hG, hY⟩ D nD
    dsimp only at h
    by_cases hok : okV vs env1 = true ∧ xs.length ≤ sizeLine ∧ (t.sl.all fun i => vs.contains i) = true
    · rw [if_pos hok] at h
      obtain ⟨ok1, hz, hsl⟩ := hok
      cases ql : loopC t tt te vs xs [] (wipeE vs env1) with
      | no => rw [ql] at h; exact h.elim
      | ex x e => rw [ql] at h; exact h.elim
      | ok ys env2 =>
        rw [ql] at h
        dsimp only at h
        have inV : ∀ j, j ∉ vs → j ∉ t.sl := fun j hj z => hj (by
          have q := List.all_eq_true.mp hsl j z
          exact List.contains_iff_mem.mp q)
        let ND : Ax := fun b => No b ∨ b = D
        have r0 : RepS (gX X T io) ND (upd H1 D (.lst [])) (wipe σ vs) (wipeE vs env1) := (r1.ev (EvM.upd nD) (tabs_upd r1.tab nD) fun b z => z.imp id fun z => ⟨by rw [z]; exact nD, by rw [z, upd_same]; exact fun q => by cases q⟩).wipe ok1
        have mo0 := fun b => Mo_wipe (g := gX X T io) (σ := σ) ok1 b
        have ev0 : EvM (Mo (gX X T io) σ env1) H1 (Mo (gX X T io) (wipe σ vs) (wipeE vs env1)) (upd H1 D (.lst [])) := (EvM.upd nD).mono2 fun b z => (mo0 b).1 z
        refine lc_it wk (fun i H' => ∃ env' acc accV, RepS (gX X T io) ND H' (wipe σ vs) env' ∧ EvM (Mo (gX X T io) σ env1) H1 (Mo (gX X T io) (wipe σ vs) env') H' ∧ H' D = some (.lst accV) ∧
            Rps X.K (Un2 ND (Mo (gX X T io) (wipe σ vs) env')) H' accV acc ∧ acc.length ≤ i ∧ loopC t tt te vs (xs.drop i) acc env' = .ok ys env2)
          ⟨_, [], [], r0, ev0, upd_same, .nil, Nat.zero_le _, ql⟩ (fun i H' hi ⟨env', acc, accV, r', ev', _⟩ => hG _ H' ev'.tr) (fun i v H' H3 hi ⟨env', acc, accV, r', ev', hD, ra, hl, z⟩ y => ?_) fun H' ⟨env', acc, accV, r', ev', hD, ra, hl, z⟩ => ?_
        · rw [drop_cons hi] at z
          -- the item comes
          have trN : Tr (Un2 No (Mo (gX X T io) σ env1)) H1 (Un2 ND (Mo (gX X T io) (wipe σ vs) env')) H' := fun c o hc nt nm => by
            obtain ⟨k1, k2⟩ := ev'.tr (No := No) c o hc nt nm
            refine ⟨k1, fun zz => ?_⟩
            rcases zz with (zz | zz) | zz
            · exact k2 (.inl zz)
            · rw [zz, nD] at hc; cases hc
            · exact k2 (.inr zz)
          obtain ⟨e3, t3, rv⟩ := hY _ H' i v H3 xs[i] trN r'.nok r'.tab (List.getElem?_eq_getElem hi) y
          have r3 : RepS (gX X T io) ND H3 (wipe σ vs) env' := r'.ev e3 t3 fun a z => .inl z
          have hD3 : H3 D = some (.lst accV) := e3.keep D _ hD (fun ps z => by cases z) fun z => z
          refine ⟨ND, env', xs[i], r3, rv, ?_⟩
          unfold loopC at z
          cases qa : asgT t xs[i] env' with
          | none => rw [qa] at z; cases z
          | some e1 =>
            rw [qa] at z
            dsimp only at z
            intro σ2 sto
            have hw : wipe σ2 vs = wipe σ vs := wipe_eq (by rw [sto.len, wipe_length]) fun j hj => sto.out j (inV j hj)
            refine ⟨hw, ?_⟩
            have ev3 : EvM (Mo (gX X T io) σ env1) H1 (Mo (gX X T io) σ2 e1) H3 := (ev'.trans e3.up).mono2 sto.mo
            have nMo : ∀ {σ' : St} {e : Env} {Hx : Hp}, RepS (gX X T io) ND Hx σ' e → ¬ Mo (gX X T io) σ' e D := fun r => (r.nout D (.inr rfl)).2
            refine tT_of sto.rep (fun x e qt => ?_) (fun qt => ?_) fun b e2 H4 qt ev4 r4 => ?_
            · rw [qt] at z; cases z
            · rw [qt] at z; cases z
            · rw [qt] at z
              have hD4 : H4 D = some (.lst accV) := ev4.keep D _ hD3 (fun ps z => by cases z) (nMo sto.rep)
              have trA : Tr (Un2 ND (Mo (gX X T io) (wipe σ vs) env')) H' (Un2 ND (Mo (gX X T io) σ2 e2)) H4 := ((e3.up.mono2 sto.mo).trans ev4).tr
              cases b with
              | false =>
                rw [if_neg Bool.false_ne_true]
                dsimp only at z
                split at z
                · rename_i okv
                  have r5 := r4.wipe okv
                  have mo5 := fun b => Mo_wipe (g := gX X T io) (σ := σ2) okv b
                  rw [hw] at r5 mo5
                  exact ⟨_, acc, accV, r5, (ev3.trans ev4).mono2 fun b z => (mo5 b).1 z, hD4, (ra.tr trA _).tr (Tr.anti fun b z => z.imp id (mo5 b).1) _, Nat.le_succ_of_le hl, z⟩
                · cases z
              | true =>
                rw [if_pos rfl]
                dsimp only at z
                refine tX_esc r4 (fun x e qe => ?_) (fun qe => ?_) fun x e3' u H5 qe ev5 r5 rx => ?_
                · rw [qe] at z; cases z
                · rw [qe] at z; cases z
                · rw [qe] at z
                  dsimp only at z
                  split at z
                  · rename_i okv
                    have hD5 : H5 D = some (.lst accV) := ev5.keep D _ hD4 (fun ps z => by cases z) (nMo r4)
                    have hlen : accV.length = acc.length := ra.length
                    refine ⟨accV, hD5, by rw [hlen]; omega, ?_⟩
                    have r6 := (r5.chg (ys := accV ++ [u]) (.inr rfl) hD5).wipe okv
                    have mo6 := fun b => Mo_wipe (g := gX X T io) (σ := σ2) okv b
                    rw [hw] at r6 mo6
                    have trB : Tr (Un2 ND (Mo (gX X T io) σ2 e2)) H4 (Un2 ND (Mo (gX X T io) σ2 e3')) H5 := ev5.tr
                    have trC : Tr (Un2 ND (Mo (gX X T io) σ2 e3')) H5 (Un2 ND (Mo (gX X T io) (wipe σ vs) (wipeE vs e3'))) (upd H5 D (.lst (accV ++ [u]))) := fun c o hc _ nm =>
                      ⟨by rw [upd_ne (fun zz => nm (.inl (.inr zz)))]; exact hc, fun zz => nm (zz.imp id (mo6 c).1)⟩
                    refine ⟨_, acc ++ [x], accV ++ [u], r6, ⟨fun c o hc nt nm => ?_, fun c zz => ((ev3.trans ev4).trans ev5).new c ((mo6 c).1 zz), fun c hc => ?_⟩, upd_same, ?_, by rw [List.length_append]; exact Nat.succ_le_succ hl, z⟩
                    · have ne : c ≠ D := ne_of_none hc nD
                      rw [upd_ne ne]
                      exact ((ev3.trans ev4).trans ev5).keep c o hc nt nm
                    · have ne : c ≠ D := fun zz => hc (by rw [zz]; exact nD)
                      rw [upd_ne ne]
                      exact ((ev3.trans ev4).trans ev5).dom c hc
                    · exact (((ra.tr trA _).tr trB _).tr trC _).append (.cons (rx.tr trC _) .nil)
                  · cases z
        · rw [List.drop_length] at z
          cases z
          have hw := loopC_e wipeE_e ql
          have trN : Tr (Un2 No (Mo (gX X T io) σ env1)) H1 (Un2 ND (Mo (gX X T io) (wipe σ vs) env2)) H' := fun c o hc nt nm => by
            obtain ⟨k1, k2⟩ := ev'.tr (No := No) c o hc nt nm
            refine ⟨k1, fun zz => ?_⟩
            rcases zz with (zz | zz) | zz
            · exact k2 (.inl zz)
            · rw [zz, nD] at hc; cases hc
            · exact k2 (.inr zz)
          obtain ⟨rb, iff⟩ := r1.back ok1 r' hw trN
          have nMo : ¬ Mo (gX X T io) σ (backE vs env1 env2) D := (rb.nout D (.inr rfl)).2
          refine h (.ref D) H' (ev.trans (ev'.mono2 fun b z => (iff b).1 z)) ⟨rb, D, accV, rfl, hD, ra.tr (Tr.anti fun b z => z.imp id (iff b).1) _, fun z => (r1.nout D z).1 nD, nMo⟩ ?_
          show H D = none
          cases qq : H D with
          | none => rfl
          | some o => exact absurd nD (ev.dom D (by rw [qq]; exact fun z => by cases z))
    · rw [if_neg hok] at h
      exact h.elim
theorem px_lc (hc : X.calm = true) (hN : X.N.Nodup) (hi : PIx X T io WW tg iter it) (ok : BlkOk X.N X.env.scope scope own)
    (hg : ∀ (s : Shared) (H : Hp) (C : Addr) (cl : List (Str × Addr)) (fp : List Addr), PGx (X.blk s H scope (compEnvC scope cl C X.env) fp) T io tg t)
    (ht : ∀ (s : Shared) (H : Hp) (C : Addr) (cl : List (Str × Addr)) (fp : List Addr), PTs (X.blk s H scope (compEnvC scope cl C X.env) fp) ifs (tT (gX (X.blk s H scope (compEnvC scope cl C X.env) fp) T io) WF tt))
    (he : ∀ (s : Shared) (H : Hp) (C : Addr) (cl : List (Str × Addr)) (fp : List Addr), PX (X.blk s H scope (compEnvC scope cl C X.env) fp) T io WF elt te) (hs : ∀ x, foldedSetIterable iter X.env x = pure x := by intro _; rfl) :
    PX X T io WW (.ListComp elt [⟨tg, iter, ifs, 0⟩] scope pos) (lcM it t tt te (own.map (·.2))) :=
  (pe_lc (wi := tI (gX X T io) WW it) (g := tgR (gX X T io) t) (tt := tT (gX X T io) WF tt) (te := tX (gX X T io) WF te) hc hN hi ok hg ht he hs).imp fun σ H Q h => lc_of h
end
end PL

set_option Elab.async false
set_option linter.all false
set_option maxRecDepth 100000
/-! PL11: a def by its body's run. -/
namespace PL
open PySem PySem.Spec PyProof.Rows L2

/-- the slots at the entry -/
def startE (m : Nat) (ds : List PyData) : Env := ds.map Sl.im ++ List.replicate (m - ds.length) .e
def finW (w : W) (env : Env) : Option W := match w with
  | .d x => some (.d x)
  | .f ds => some (.f ds)
  | .o k => match env[k]? with
    | some (.own (.l ds)) => some (.f ds)
    | some (.im x) => some (.d x)
    | _ => none
def runB (z : SM) (env : Env) : FR := match z env with
  | .rt w env' => match finW w env' with
    | some w' => .ok w'
    | none => .no
  | .nx _ => .ok (.d .none)
  | .ex x _ => .ex x
  | _ => .no
def runF (z : SM) (m : Nat) (ds : List PyData) : FR := runB z (startE m ds)
theorem startE_im {m : Nat} {ds : List PyData} {i : Nat} {s : Sl} (h : (startE m ds)[i]? = some s) : (∃ x, ds[i]? = some x ∧ s = .im x) ∨ s = .e := by
  unfold startE at h
  by_cases hi : i < ds.length
  · rw [List.getElem?_append_left (by rw [List.length_map]; exact hi), List.getElem?_map] at h
    rw [List.getElem?_eq_getElem hi] at h
    cases h
    exact .inl ⟨_, List.getElem?_eq_getElem hi, rfl⟩
  · rw [List.getElem?_append_right (by rw [List.length_map]; omega), List.getElem?_replicate] at h
    split at h
    · cases h; exact .inr rfl
    · cases h
theorem start_at {N : List Str} {vs : List V} {i : Nat} {v : V} (h : vs[i]? = some v) : (L2.start N vs)[i]? = some (some v) := by
  unfold L2.start
  have hi : i < vs.length := (List.getElem?_eq_some_iff.mp h).1
  rw [List.getElem?_append_left (by rw [List.length_map]; exact hi), List.getElem?_map, h]
  rfl
theorem start_len {N : List Str} {vs : List V} (h : vs.length ≤ N.length) : (L2.start N vs).length = N.length := by
  unfold L2.start
  rw [List.length_append, List.length_map, List.length_replicate]
  omega
theorem startE_len {m : Nat} {ds : List PyData} (h : ds.length ≤ m) : (startE m ds).length = m := by
  unfold startE
  rw [List.length_append, List.length_map, List.length_replicate]
  omega
theorem Mo_startE {g : G} {σ : St} {m : Nat} {ds : List PyData} (b : Addr) : ¬ Mo g σ (startE m ds) b := by
  rintro (⟨i, es, e1, e2⟩ | ⟨rfl, i, es, e1⟩)
  · rcases startE_im e1 with ⟨x, _, z⟩ | z <;> cases z
  · rcases startE_im e1 with ⟨x, _, z⟩ | z <;> cases z
theorem RepS.start {g : G} {No : Ax} {H : Hp} {N : List Str} {vs : List V} {ds : List PyData} (nok : Nok No H) (tb : LamX.Tabs g.T H) (r : Rps g.K No H vs ds) (hl : vs.length ≤ N.length) : RepS g No H (L2.start N vs) (startE N.length ds) := by
  have mo := fun b => Mo_startE (g := g) (σ := L2.start N vs) (m := N.length) (ds := ds) b
  have t : Tr No H (Un2 No (Mo g (L2.start N vs) (startE N.length ds))) H := fun c o h _ m => ⟨h, fun z => z.elim m (mo c)⟩
  refine ⟨by rw [start_len hl, startE_len (by rw [← r.length]; exact hl)], tb, fun a z => ⟨nok a z, mo a⟩, fun i x h => ?_, fun i es h => ?_, fun i es h => ?_, fun i j es fs a h1 => ?_, fun i j es fs h1 => ?_, fun i j es fs h1 => ?_⟩
  · rcases startE_im h with ⟨y, e, z⟩ | z
    · cases z
      obtain ⟨v, e1, q⟩ := r.get e
      exact ⟨v, start_at e1, q.tr t _⟩
    · cases z
  · rcases startE_im h with ⟨x, _, z⟩ | z <;> cases z
  · rcases startE_im h with ⟨x, _, z⟩ | z <;> cases z
  · rcases startE_im h1 with ⟨x, _, z⟩ | z <;> cases z
  · rcases startE_im h1 with ⟨x, _, z⟩ | z <;> cases z
  · rcases startE_im h1 with ⟨x, _, z⟩ | z <;> cases z
/-- what is handed back -/
theorem fin_rv {g : G} {No : Ax} {H H' : Hp} {σ0 σ' : St} {env0 env' : Env} {v : V} {w w' : W} (e0 : ∀ b, ¬ Mo g σ0 env0 b) (ev : EvM (Mo g σ0 env0) H (Mo g σ' env') H') (pv : PV g No H' σ' env' v w) (fr : Fr H v w) (h : finW w env' = some w') : RvW g.K No H H' v w' := by
  cases w with
  | d x =>
    cases h
    exact Rp.tr (Tr.anti fun a z => .inl z) _ pv.val
  | f ds =>
    cases h
    obtain ⟨a, xs, rfl, e1, e2, n1, n2⟩ := pv.val
    exact ⟨a, xs, rfl, fr, e1, e2.tr (Tr.anti fun b z => .inl z) _⟩
  | o k =>
    have q : σ'[k]? = some (some v) := pv.val
    unfold finW at h
    dsimp only at h
    split at h
    · rename_i ds e
      cases h
      obtain ⟨a, xs, e1, e2, e3⟩ := pv.base.ow k _ e
      rw [q] at e1
      cases e1
      have mo : Mo g σ' env' a := .inl ⟨k, _, e, q⟩
      refine ⟨a, xs, rfl, (ev.new a mo).elim (fun z => absurd z (e0 a)) id, e2, e3.tr (Tr.anti fun b z => ?_) _⟩
      rcases z with z | z
      · exact .inl z
      · exact .inr (by rw [z]; exact mo)
    · rename_i x e
      cases h
      obtain ⟨v', e1, e2⟩ := pv.base.im k _ e
      rw [q] at e1
      cases e1
      exact Rp.tr (Tr.anti fun a z => .inl z) _ e2
    · cases h
section
variable {P : Program} {w : World} {K : PySem.W.Frag} {mg : Str → Option Value} {base : Heap}
abbrev cxD (P : Program) (w : World) (K : PySem.W.Frag) (mg : Str → Option Value) (base : Heap) (N : List Str) (qual : Str) (sc : Scope) (f : Addr) (cdv : Value) (A : Around) (outer : List PySem.Env) (s : Shared) (H : Hp) (E : XK) : Cx :=
  cxOf (L2.CX P w) P w K mg base N qual sc f cdv A outer s H E
abbrev WE' (E : XK) : WX := fun cls d _ H => E cls d H
/-- THE RULE: a def by its body's run -/
theorem fn_pure {x qual : Str} {st : Stmt} {f : Addr} {fd : FuncData} {N ps : List Str} {k : Nat} {T : List (Addr × Str)} {FM : List PyData → FR} {z : SM} (F : Fun K x qual st f fd) (S : FnScope N ps (defScope st))
    (hb : ∀ (cdv : Value) (A : Around) (outer : List PySem.Env) (s : Shared) (H : Hp) (E : XK), Room k (A.deeper (envOfC qual (defScope st) s.heap.objs.size f cdv)) →
      Takes (cxD P w K mg base N qual (defScope st) f cdv A outer s H E) (WE' E) → PZs (cxD P w K mg base N qual (defScope st) f cdv A outer s H E) T 0 (WE' E) (defBody st) z)
    (hF : ∀ ds, ds.length = ps.length → FM ds ≠ .no → runF z N.length ds = FM ds) : FnOk P w K mg base (L2.CX P w) (k + 1) f fd ps (spF K T mg ps.length FM) := by
  have hpl : ps.length ≤ N.length := by have := congrArg List.length S.pre; rw [List.length_take] at this; omega
  refine F.okX S (fun vs H Q E h => ?_) (fun cdv A outer s H vs Q E hr h => ?_)
  · obtain ⟨No, ds, _, _, r, hl, _⟩ := h
    rw [r.length, hl]
  · obtain ⟨No, ds, nok, tb, r, hl, h⟩ := h
    refine ⟨_, hb cdv A outer s H E hr (takes_of rfl rfl rfl rfl), No, startE N.length ds, RepS.start nok tb r (by rw [r.length, hl]; exact hpl), ?_⟩
    have hne : FM ds ≠ .no := fun z => by rw [z] at h; exact h
    have e := hF ds hl hne
    rw [← e] at h
    have mo := fun b => Mo_startE (g := gX (cxD P w K mg base N qual (defScope st) f cdv A outer s H E) T 0) (σ := L2.start N vs) (m := N.length) (ds := ds) b
    unfold runF runB at h
    have dn : ∀ {M2 : Ax} {H' : Hp}, EvM (Mo (gX (cxD P w K mg base N qual (defScope st) f cdv A outer s H E) T 0) (L2.start N vs) (startE N.length ds)) H M2 H' → EvM F0 H F0 H' := fun e => e.down mo
    cases q : z (startE N.length ds) with
    | nx env' =>
      rw [q] at h
      exact fun σ' H' ev rp => h .non H' (dn ev) rp.tab .non
    | rt w0 env' =>
      rw [q] at h
      dsimp only at h
      cases q2 : finW w0 env' with
      | none => rw [q2] at h; exact h.elim
      | some w' =>
        rw [q2] at h
        exact fun v σ' H' ev pv fr => h v H' (dn ev) pv.rep.tab (fin_rv mo ev pv fr q2)
    | bk env' => rw [q] at h; exact h.elim
    | ct env' => rw [q] at h; exact h.elim
    | ex y env' =>
      rw [q] at h
      exact fun cls dx σ' H' ev rp i => h cls dx H' (dn ev) rp.tab (i.anti fun a z => .inl z)
    | no => rw [q] at h; exact h.elim
/-- a def that changes the list handed in first -/
def startI (m : Nat) (ks : List PyData) (ds : List PyData) : Env := .io ks :: startE (m - 1) ds
def ioOf (env : Env) : Option (List PyData) := match env with
  | .io ks :: _ => some ks
  | _ => none
theorem ioOf_at {env : Env} {ks : List PyData} (h : ioOf env = some ks) : env[0]? = some (.io ks) := by
  unfold ioOf at h
  split at h
  · cases h; rfl
  · cases h
def runI (z : SM) (m : Nat) : FI := fun ks ds => match z (startI m ks ds) with
  | .rt w env' => match finW w env', ioOf env' with
    | some w', some ks' => some (w', ks')
    | _, _ => none
  | .nx env' => match ioOf env' with
    | some ks' => some (.d .none, ks')
    | none => none
  | _ => none
theorem Mo_startI {g : G} {σ : St} {m : Nat} {ks ds : List PyData} (b : Addr) : Mo g σ (startI m ks ds) b ↔ b = g.io := by
  constructor
  · rintro (⟨i, es, e1, e2⟩ | ⟨rfl, i, es, e1⟩)
    · cases i with
      | zero => cases e1
      | succ i => rcases startE_im (show (startE (m - 1) ds)[i]? = some (.own es) from e1) with ⟨x, _, z⟩ | z <;> cases z
    · rfl
  · rintro rfl
    exact .inr ⟨rfl, 0, ks, rfl⟩
theorem RepS.startI {g : G} {No : Ax} {H : Hp} {N : List Str} {vs xs : List V} {ds ks : List PyData} (nok : Nok No H) (na : ¬ No g.io) (tb : LamX.Tabs g.T H) (ha : H g.io = some (.lst xs)) (rk : Rps g.K (fun b => No b ∨ b = g.io) H xs ks) (r : Rps g.K (fun b => No b ∨ b = g.io) H vs ds)
    (hl : vs.length + 1 ≤ N.length) : RepS g No H (L2.start N (.ref g.io :: vs)) (startI N.length ks ds) := by
  have mo := fun b => Mo_startI (g := g) (σ := L2.start N (.ref g.io :: vs)) (m := N.length) (ks := ks) (ds := ds) b
  have t : Tr (fun b => No b ∨ b = g.io) H (Un2 No (Mo g (L2.start N (.ref g.io :: vs)) (PL.startI N.length ks ds))) H := fun c o h _ m => ⟨h, fun z => m (z.imp id (mo c).1)⟩
  have s0 : (L2.start N (.ref g.io :: vs))[0]? = some (some (.ref g.io)) := rfl
  have imA : ∀ (i : Nat) (s : Sl), (PL.startI N.length ks ds)[i]? = some s → (i = 0 ∧ s = .io ks) ∨ (∃ j x, i = j + 1 ∧ ds[j]? = some x ∧ s = .im x) ∨ s = .e := fun i s h => by
    cases i with
    | zero => cases h; exact .inl ⟨rfl, rfl⟩
    | succ i =>
      rcases startE_im (show (startE (N.length - 1) ds)[i]? = some s from h) with ⟨x, e, z⟩ | z
      · exact .inr (.inl ⟨i, x, rfl, e, z⟩)
      · exact .inr (.inr z)
  refine ⟨?_, tb, fun a z => ⟨nok a z, fun q => na (by rw [← (mo a).1 q]; exact z)⟩, fun i x h => ?_, fun i es h => ?_, fun i es h => ?_, fun i j es fs a h1 => ?_, fun i j es fs h1 => ?_, fun i j es fs h1 h2 => ?_⟩
  · rw [start_len (by rw [List.length_cons]; exact hl)]
    show N.length = (startE (N.length - 1) ds).length + 1
    rw [startE_len (by rw [← r.length]; omega)]
    omega
  · rcases imA i _ h with ⟨_, z⟩ | ⟨j, y, rfl, e, z⟩ | z
    · cases z
    · cases z
      obtain ⟨v, e1, q⟩ := r.get e
      exact ⟨v, start_at (by rw [List.getElem?_cons_succ]; exact e1), q.tr t _⟩
    · cases z
  · rcases imA i _ h with ⟨_, z⟩ | ⟨j, y, _, _, z⟩ | z <;> cases z
  · rcases imA i _ h with ⟨rfl, z⟩ | ⟨j, y, _, _, z⟩ | z
    · cases z
      exact ⟨xs, s0, ha, rk.tr t _⟩
    · cases z
    · cases z
  · rcases imA i _ h1 with ⟨_, z⟩ | ⟨j, y, _, _, z⟩ | z <;> cases z
  · rcases imA i _ h1 with ⟨_, z⟩ | ⟨j, y, _, _, z⟩ | z <;> cases z
  · rcases imA i _ h1 with ⟨e1, z⟩ | ⟨j, y, _, _, z⟩ | z
    · rcases imA j _ h2 with ⟨e2, _⟩ | ⟨_, y, _, _, z⟩ | z
      · rw [e1, e2]
      · cases z
      · cases z
    · cases z
    · cases z
theorem fn_io {x qual : Str} {st : Stmt} {f : Addr} {fd : FuncData} {N ps : List Str} {k : Nat} {T : List (Addr × Str)} {FM : FI} {z : SM} (F : Fun K x qual st f fd) (S : FnScope N ps (defScope st))
    (hb : ∀ (cdv : Value) (A : Around) (outer : List PySem.Env) (s : Shared) (H : Hp) (E : XK) (io : Addr), Room k (A.deeper (envOfC qual (defScope st) s.heap.objs.size f cdv)) →
      Takes (cxD P w K mg base N qual (defScope st) f cdv A outer s H E) (WE' E) → PZs (cxD P w K mg base N qual (defScope st) f cdv A outer s H E) T io (WE' E) (defBody st) z)
    (hF : ∀ ks ds, ds.length + 1 = ps.length → FM ks ds ≠ none → runI z N.length ks ds = FM ks ds) : FnOk P w K mg base (L2.CX P w) (k + 1) f fd ps (spIO K T ps.length FM) := by
  have hpl : ps.length ≤ N.length := by have := congrArg List.length S.pre; rw [List.length_take] at this; omega
  refine F.okX S (fun vs H Q E h => ?_) (fun cdv A outer s H vs Q E hr h => ?_)
  · obtain ⟨No, a, ks, xs, vs', ds, rfl, _, _, _, _, _, r, hl, _⟩ := h
    rw [List.length_cons, r.length, hl]
  · obtain ⟨No, a, ks, xs, vs', ds, rfl, nok, tb, na, ha, rk, r, hl, h⟩ := h
    let g : G := gX (cxD P w K mg base N qual (defScope st) f cdv A outer s H E) T a
    refine ⟨_, hb cdv A outer s H E a hr (takes_of rfl rfl rfl rfl), No, startI N.length ks ds, RepS.startI (g := g) nok na tb ha rk r (by rw [r.length]; omega), ?_⟩
    have hne : FM ks ds ≠ none := fun z => by rw [z] at h; exact h
    have e := hF ks ds hl hne
    rw [← e] at h
    have mo := fun b => Mo_startI (g := g) (σ := L2.start N (.ref a :: vs')) (m := N.length) (ks := ks) (ds := ds) b
    unfold runI at h
    have up : ∀ {σ' : St} {env' : Env} {H' : Hp}, EvM (Mo g (L2.start N (.ref a :: vs')) (startI N.length ks ds)) H (Mo g σ' env') H' → EvM (At1 a) H (At1 a) H' := fun e => ⟨fun b o hb n m => e.keep b o hb n fun z => m ((mo b).1 z), fun b z => .inl z, e.dom⟩
    have io' : ∀ {σ' : St} {env' : Env} {H' : Hp} {No' : Ax} {ks' : List PyData}, RepS g No' H' σ' env' → env'[0]? = some (.io ks') → (∃ xs', H' a = some (.lst xs') ∧ Rps K (Un2 No' (Mo g σ' env')) H' xs' ks') ∧ Mo g σ' env' a := fun r e => by
      obtain ⟨xs', e1, e2, e3⟩ := r.io 0 _ e
      exact ⟨⟨xs', e2, e3⟩, .inr ⟨rfl, 0, _, e⟩⟩
    have inj : ∀ {H' : Hp} {xs1 xs2 : List V}, H' a = some (.lst xs1) → H' a = some (.lst xs2) → xs1 = xs2 := fun h1 h2 => by
      rw [h1] at h2
      exact HO.lst.inj (Option.some.inj h2)
    cases q : z (startI N.length ks ds) with
    | nx env' =>
      rw [q] at h
      dsimp only at h
      split at h
      · rename_i w' ks' qq
        split at qq
        · rename_i ks'' e0
          have e0 := ioOf_at e0
          cases qq
          intro σ' H' ev rp
          obtain ⟨⟨xs', i1, i2⟩, i3⟩ := io' rp e0
          exact h .non H' xs' (up ev) rp.tab i1 (i2.tr (Tr.anti fun b z => z.elim .inl fun z => .inr (by rw [z]; exact i3)) _) .non
        · cases qq
      · exact h.elim
    | rt w0 env' =>
      rw [q] at h
      dsimp only at h
      split at h
      · rename_i w' ks' qq
        split at qq
        · rename_i w'' ks'' ef e0
          have e0 := ioOf_at e0
          cases qq
          intro v σ' H' ev pv fr
          obtain ⟨⟨xs', i1, i2⟩, i3⟩ := io' pv.base e0
          have keep : ∀ b, No b ∨ b = a → Un2 No (Mo g σ' env') b := fun b z => z.elim .inl fun z => .inr (by rw [z]; exact i3)
          cases w0 with
          | d y =>
            cases ef
            exact h v H' xs' (up ev) pv.rep.tab i1 (i2.tr (Tr.anti keep) _) (Rp.tr (Tr.anti keep) _ pv.val)
          | f es =>
            cases ef
            obtain ⟨⟨xs2, j1, j2⟩, j3⟩ := io' pv.rep e0
            have ex := inj i1 j1
            subst ex
            obtain ⟨p, ys, rfl, a1, a2, n1, n2⟩ := pv.val
            refine h _ H' xs' (up ev) pv.rep.tab i1 (j2.tr (Tr.anti fun b z => ?_) _) ⟨p, ys, rfl, fr, a1, a2.tr (Tr.anti fun b z => ?_) _⟩
            · rcases z with z | z
              · exact (keep b z).imp .inl id
              · exact .inl (.inr z)
            · rcases z with z | z
              · exact (keep b z).imp .inl id
              · exact .inl (.inr z)
          | o k =>
            have qk : σ'[k]? = some (some v) := pv.val
            unfold finW at ef
            dsimp only at ef
            split at ef
            · rename_i es ek
              cases ef
              obtain ⟨p, ys, e1, e2, e3⟩ := pv.base.ow k _ ek
              rw [qk] at e1
              cases e1
              have mp : Mo g σ' env' p := .inl ⟨k, _, ek, qk⟩
              have npa : p ≠ a := fun z => pv.base.dio k 0 _ _ ek e0 (by rw [qk, z])
              have np : H p = none := (ev.new p mp).elim (fun z => absurd ((mo p).1 z) npa) id
              refine h _ H' xs' (up ev) pv.rep.tab i1 (i2.tr (Tr.anti fun b z => ?_) _) ⟨p, ys, rfl, np, e2, e3.tr (Tr.anti fun b z => ?_) _⟩
              · rcases z with z | z
                · exact keep b z
                · exact .inr (by rw [z]; exact mp)
              · rcases z with z | z
                · exact keep b z
                · exact .inr (by rw [z]; exact mp)
            · rename_i y ek
              cases ef
              obtain ⟨v', e1, e2⟩ := pv.base.im k _ ek
              rw [qk] at e1
              cases e1
              exact h v H' xs' (up ev) pv.rep.tab i1 (i2.tr (Tr.anti keep) _) (Rp.tr (Tr.anti keep) _ e2)
            · cases ef
        · cases qq
      · exact h.elim
    | bk env' => rw [q] at h; exact h.elim
    | ct env' => rw [q] at h; exact h.elim
    | ex y env' => rw [q] at h; exact h.elim
    | no => rw [q] at h; exact h.elim
end
end PL

set_option Elab.async false
set_option linter.all false
set_option maxRecDepth 100000
/-! PL12: what is walked: lists, tuples, ranges, zip, enumerate, reversed. -/
namespace PL
open PySem PySem.Spec PyProof.Rows L2

/-! ### a list or a tuple -/
def iSeq (K : PySem.W.Frag) (tl : TE) : TI := fun σ H R => tl σ H fun x H1 => ∃ a, x = .ref a ∧ (((∃ xs, SqL K H1 a xs) ∧ R (Itl K a) H1) ∨ ((∃ xs, SqT K H1 a xs) ∧ R (Itt K a) H1))
section
variable {X : Cx} {tg : Expr}
theorem pi_seqA {l : Expr} {tl : TE} (hl : PE X l tl) : PI X tg l (iSeq X.K tl) := by
  refine ⟨fun pins s σ H R I h => ?_⟩
  refine thn (hl.run pins s σ H _ I h) fun v s1 ⟨x, H1, I1, r1, q1⟩ => ?_
  obtain ⟨a, e, ⟨⟨xs, hq⟩, q⟩ | ⟨⟨xs, hq⟩, q⟩⟩ := q1
  · subst e
    cases r1
    obtain ⟨its, rv, p, hz⟩ := I1.list hq
    refine wpAny_pyIter_list p.isList ?_
    refine ⟨s1.heap.objs.size, [s1.heap.objs.size], _, _, H1, rfl, I1.kept (t' := s1.toks) fun b o e => Heap.get?_push_of_some _ e, turn_list a _, ⟨_, Heap.get?_push_size _ rfl, rfl, rfl⟩, fun b hb => ?_, q⟩
    have e : b = s1.heap.objs.size := by simpa using hb
    subst e
    exact I1.fpOk (Nat.le_refl _) (I1.hok.fresh (Nat.le_refl _))
  · subst e
    cases r1
    obtain ⟨its, rv, p, hz⟩ := I1.tuple hq
    refine wpAny_pyIter_tuple (show s1.heap.IsTuple a its.toArray from p) ?_
    refine ⟨s1.heap.objs.size, [s1.heap.objs.size], _, _, H1, rfl, I1.kept (t' := s1.toks) fun b o e => Heap.get?_push_of_some _ e, turn_tuple a _, ⟨_, Heap.get?_push_size _ rfl, rfl, rfl⟩, fun b hb => ?_, q⟩
    have e : b = s1.heap.objs.size := by simpa using hb
    subst e
    exact I1.fpOk (Nat.le_refl _) (I1.hok.fresh (Nat.le_refl _))
end

/-! ### enumerate of a tuple -/
def IteT (K : PySem.W.Frag) (a : Addr) : It :=
  ⟨fun i H => ∃ (xs : List V) (x : V), SqT K H a xs ∧ xs[i]? = some x, fun i H v H' => ∃ T x, v = .ref T ∧ H T = none ∧ H' = upd H T (.tup [.int (i : Nat), x]) ∧ ∀ xs, SqT K H a xs → xs[i]? = some x, fun i H => ∃ xs : List V, SqT K H a xs ∧ xs.length ≤ i⟩
theorem enum_endT {prog : Program} {w : World} {A : Around} {E : Value → Shared → Prop} {s : Shared} {e it t : Addr} {j : Nat} {i : Int} {old : Value} {items : Array Value} {Q : Option Value → Shared → Prop} (hh : A.in1.handled = none)
    (he : IsEnum s.heap e it i old) (hit : s.heap.IsTupleIter it t j) (ht : s.heap.IsTuple t items) (hx : items[j]? = none) (hQ : ∀ h', Heap.ExtBut it s.heap h' → Q none { s with heap := h' }) : wpAny (model prog w) A (pyNext (.ref e)) Q E s := by
  have hT : s.TypeIs (.ref e) "enumerate" := ⟨_, he, rfl⟩
  unfold pyNext
  refine wpAny_bind (wpAny_attempt (wpAny_callSpecial?_slot (name := Str.ofString "__next__") hT F.slot_enumerate_next
    (wpAny_call_entry F.slot_enumerate_next hT F.entry_enumerate_next ?_ (F.args_enumerate_next_1 _))))
  show wpAny _ _ (field (.ref e) 2 >>= _) _ _ _
  refine wpAny_bind (wpAny_field he rfl (x := .ref it) rfl ?_)
  refine wpAny_bind (wpAny_nextOf_tuple_end hh hit ht hx fun h' x he' hx' => ?_)
  obtain ⟨o, ho, hc⟩ := hx'
  refine wpAny_bind (wpAny_isInstance (T := "StopIteration") (b := true) ⟨o, ho, hc⟩ isSubtype_stop ?_)
  exact wpAny_pure (hQ _ he')
theorem turn_enumT {P : Program} {w : World} {K : PySem.W.Frag} {elts : List Expr} {kk : Nat} {tpos : Pos} (a e it : Addr) :
    Turn P w K (.Tuple elts kk tpos) (IteT K a) [e, it] e (fun i h => (∃ old, IsEnum h e it ((i : Nat) : Int) old) ∧ h.IsTupleIter it a i ∧ e ≠ it ∧ e ≠ a ∧ a ≠ it) where
  mem := by simp
  obj := fun i h st b hb => by
    obtain ⟨⟨old, he⟩, ⟨o, ho, hc, hd⟩, _⟩ := st
    have e' : b = e ∨ b = it := by simpa using hb
    rcases e' with z | z
    · rw [z]; exact ⟨_, he, fun v q => nomatch q⟩
    · rw [z]; exact ⟨o, ho, fun v q => by rw [hd] at q; cases q⟩
  keep := fun i h h' st k => let ⟨⟨old, he⟩, hi, hne⟩ := st; ⟨⟨old, k e (by simp) _ he⟩, hi.at fun o q => k it (by simp) o q, hne⟩
  item := by
    intro X hP hw hK hc i pins s σ H E I hf st hg
    subst hP hw hK
    obtain ⟨⟨old, he⟩, hit, hne, hea, hai⟩ := st
    obtain ⟨xs, x, hq, hx⟩ := hg
    obtain ⟨its, rv, p, hz⟩ := I.tuple hq
    obtain ⟨u, hu, ru⟩ := rv.get hx
    have hel : e < s.heap.objs.size := Heap.lt_size he
    have hil : it < s.heap.objs.size := by obtain ⟨_, q, _⟩ := hit; exact Heap.lt_size q
    have hh : X.A.in1.handled = none := I.ok.hd hc
    have p : s.heap.IsTuple a its.toArray := p
    have hlt : i < its.toArray.size := by
      rcases Nat.lt_or_ge i its.toArray.size with z | z
      · exact z
      · rw [List.size_toArray] at z; rw [List.getElem?_eq_none z] at hu; cases hu
    refine wpAny_pyNext_enum_itemD (Draws.tuple (prog := X.prog) (w := X.w) (A := X.A.in1) hh it a hai its.toArray) he ⟨hit, p⟩ hlt hne (by simp [hne, hea]) fun y h' tk hP ho hs' hT hsz hk => ?_
    have ey : y = u := by
      have hP : its.toArray[i]? = some y := hP
      have : some y = some u := by rw [← hP, ← hu]; simp
      exact Option.some.inj this
    subst ey
    refine ⟨_, rfl, wpAny_letOwnedTupleGo_enum (s := { s with heap := h', toks := tk + 1 }) ho fun h'' he' sb => ?_⟩
    have hT2 : h''.get? s.heap.objs.size = some { cls := .type "tuple", data := .seq #[.int i tk, y] } := (sb.2 _ (Nat.ne_of_gt hel)).trans hT
    have new : ObjOk X.prog X.w (upd H s.heap.objs.size (.tup [.int (i : Nat), x])) h'' s.heap.objs.size (.tup [.int (i : Nat), x]) :=
      ⟨by show 2 ≤ sizeLine; decide, [.int i tk, y], .cons ⟨_, rfl⟩ (.cons ru .nil), ⟨_, hT2, rfl, _, rfl⟩⟩
    have I1 : Inv X pins σ (upd H s.heap.objs.size (.tup [.int (i : Nat), x])) { s with heap := h'', toks := tk + 1 } :=
      I.turnedNew (ch := [e, it]) (fun b ob hb q => (sb.2 b (fun z => hb (by simp [z]))).trans (hk b ob (fun z => hb (by simp [z])) (fun z => hb (by simp [z])) q)) hf (Nat.le_refl _) new
    refine ⟨.ref s.heap.objs.size, _, I1, rfl, ⟨_, x, rfl, I.hok.fresh (Nat.le_refl _), rfl, fun ys hy => by rw [I.tuple_inj hy hq]; exact hx⟩, ⟨⟨y, ?_⟩, hs'.1.at fun o q => (sb.2 it (Ne.symm hne)).trans q, hne, hea, hai⟩, fun b hb => ?_⟩
    · have e1 : ((i + 1 : Nat) : Int) = (i : Int) + 1 := by omega
      rw [e1]; exact he'
    · have hb' : b < s.heap.objs.size := by
        have e' : b = e ∨ b = it := by simpa using hb
        rcases e' with z | z
        · rw [z]; exact hel
        · rw [z]; exact hil
      rw [upd_ne (Nat.ne_of_lt hb')]
      exact (hf b hb).1
  done := by
    intro X hP hw hK hc i pins s σ H E I hf st hg
    subst hP hw hK
    obtain ⟨⟨old, he⟩, hit, hne, hea, hai⟩ := st
    obtain ⟨xs, hq, hx⟩ := hg
    obtain ⟨its, rv, p, hz⟩ := I.tuple hq
    obtain ⟨f0, f1, f2, f3, f4, f5⟩ := hf it (by simp)
    have hl := rv.length
    have hh : X.A.in1.handled = none := I.ok.hd hc
    have p : s.heap.IsTuple a its.toArray := p
    have hge : its.toArray[i]? = none := by simp; omega
    refine enum_endT hh he hit p hge fun h' eb => ⟨rfl, I.turned (t' := s.toks) (fun b o hb q => eb b o hb q) f0 f1 f3 f4 f5⟩
  self := fun A i s Q E st h => let ⟨⟨_, he⟩, _⟩ := st; wpAny_pyIter_enum he h
theorem meets_enumerate_newB1 {v : Value} {o : Obj} {H : Heap → Prop} (B : Begins v o H) :
    Meets (Builtin.«enumerate.__new__» ⟨[.type "enumerate", v], []⟩) (fun _ R s => H s.heap ∧
      R (.ok (.ret (.ref (s.heap.push o).objs.size))) { s with heap := (s.heap.push o).push { cls := .type "enumerate", data := .fields #[.none, .bool false, .ref s.heap.objs.size, rawInt 0, .none, .none] } }) :=
  .of_wp fun prog w A R s h => by
    obtain ⟨hp, g, d, tk, os⟩ := s; obtain ⟨h1, h⟩ := h
    have hsub := sub_enumerate
    have q1 : ∀ {A' : Around} {E : Value → Shared → Prop} {Q : Value → Shared → Prop}, Q (.ref hp.objs.size) ⟨hp.push o, g, d, tk, os⟩ → wpAny (model prog w) A' (pyIter v) Q E ⟨hp, g, d, tk, os⟩ :=
      fun q => B.iter prog w _ _ ⟨hp, g, d, tk, os⟩ _ h1 q
    wp_walk using q1
    refine wpAny_stack_any fun st => wpAny_pure ?_
    split
    · rename_i c _ _ _ _ _
      cases (c == Value.type "enumerate")
      · wp_walk using q1
        exact ⟨_, rfl, h⟩
      · wp_walk using q1
        exact ⟨_, rfl, h⟩
    · wp_walk using q1
      exact ⟨_, rfl, h⟩
theorem enum_beginsB1 {prog : Program} {w : World} {A : Around} {E : Value → Shared → Prop} {s : Shared} {v : Value} {o : Obj} {H : Heap → Prop} {Q : Value → Shared → Prop} (B : Begins v o H) (h1 : H s.heap)
    (h : ∀ h', IsEnum h' (s.heap.objs.size + 1) s.heap.objs.size 0 .none → h'.get? s.heap.objs.size = some o → h'.objs.size = s.heap.objs.size + 2 →
      (∀ b o, s.heap.get? b = some o → h'.get? b = some o) → Q (.ref (s.heap.objs.size + 1)) { s with heap := h' }) :
    wpAny (model prog w) A (call (.type "enumerate") [v]) Q E s := by
  refine callType_new F.called_enumerate (by decide) (F.typeCall_enumerate_1 _) (F.newCall_enumerate_1 _) (fun obj => F.args_object_init_2 obj _) F.entry_enumerate_new
    (meets_enumerate_newB1 B) ⟨h1, ?_⟩
  have hz : (s.heap.push o).objs.size = s.heap.objs.size + 1 := Heap.size_push ..
  show _ ∧ _
  rw [hz]
  have he : IsEnum ((s.heap.push o).push { cls := .type "enumerate", data := .fields #[.none, .bool false, .ref s.heap.objs.size, rawInt 0, .none, .none] }) (s.heap.objs.size + 1) s.heap.objs.size 0 .none := by
    have := Heap.get?_push_size (s.heap.push o) (o := { cls := .type "enumerate", data := .fields #[.none, .bool false, .ref s.heap.objs.size, rawInt 0, .none, .none] }) rfl
    rw [hz] at this; exact this
  refine ⟨⟨_, he, rfl⟩, h _ he (Heap.get?_push_of_some _ (Heap.get?_push_size _ B.free)) (by rw [Heap.size_push, hz]) fun b o x => Heap.get?_push_of_some _ (Heap.get?_push_of_some _ x)⟩
def iEnumA (K : PySem.W.Frag) (te : TE) : TI := fun σ H R => te σ H fun v H1 => ∃ a xs, v = .ref a ∧ ((SqL K H1 a xs ∧ R (Ite K a) H1) ∨ (SqT K H1 a xs ∧ R (IteT K a) H1))
theorem pi_enumA {X : Cx} {e : Expr} {te : TE} {p pos tpos : Pos} {elts : List Expr} {kk : Nat} (hg : Gl X "enumerate") (hm : X.mg "enumerate" = none) (he : PE X e te) (hs : starEach [e] X.env = (false, eval e X.env) :: starEach [] X.env := by rfl) :
    PI X (.Tuple elts kk tpos) (.Call (.Name "enumerate" p) [e] [] pos) (iEnumA X.K te) := by
  refine ⟨fun pins s σ H R I h => ?_⟩
  refine Call_ (ld_blt I hg hm boot_enumerate (PyProof.Rows.callWith_type1 (args_cons (thn (he.run pins s σ H _ I h) fun u s1 ⟨v, H1, I1, r1, q1⟩ => args_nil ?_) hs) hs rfl))
  obtain ⟨a, xs, ev, q⟩ := q1
  subst ev
  obtain rfl : u = Value.ref a := r1
  rcases q with ⟨hq, q⟩ | ⟨hq, q⟩
  · obtain ⟨its, rv, p', hz⟩ := I1.list hq
    refine call_enumerate_list p'.isList fun h' he hit hsz hk => wpAny_pyIter_enum he ?_
    have I2 : Inv X pins σ H1 { s1 with heap := h' } := I1.kept (t' := s1.toks) hk
    refine ⟨s1.heap.objs.size + 1, [s1.heap.objs.size + 1, s1.heap.objs.size], _, _, H1, rfl, I2, turn_enum a (s1.heap.objs.size + 1) s1.heap.objs.size, ⟨⟨.none, he⟩, hit, Nat.succ_ne_self _⟩, fun b hb => ?_, q⟩
    have e' : b = s1.heap.objs.size + 1 ∨ b = s1.heap.objs.size := by simpa using hb
    have hle : s1.heap.objs.size ≤ b := by
      rcases e' with z | z
      · rw [z]; exact Nat.le_add_right _ _
      · rw [z]; exact Nat.le_refl _
    exact I1.fpOk hle (I1.hok.fresh hle)
  · obtain ⟨its, rv, p', hz⟩ := I1.tuple hq
    have hT : s1.heap.IsTuple a its.toArray := p'
    have hlt : a < s1.heap.objs.size := by obtain ⟨o, ho, _⟩ := hT; exact Heap.lt_size ho
    refine enum_beginsB1 (begins_tuple a its.toArray) hT fun h' he hit hsz hk => wpAny_pyIter_enum he ?_
    have I2 : Inv X pins σ H1 { s1 with heap := h' } := I1.kept (t' := s1.toks) hk
    refine ⟨s1.heap.objs.size + 1, [s1.heap.objs.size + 1, s1.heap.objs.size], _, _, H1, rfl, I2, turn_enumT a (s1.heap.objs.size + 1) s1.heap.objs.size, ⟨⟨.none, he⟩, ⟨_, hit, rfl, rfl⟩, Nat.succ_ne_self _, ?_, ?_⟩, fun b hb => ?_, q⟩
    · exact Nat.ne_of_gt (Nat.lt_succ_of_lt hlt)
    · exact Nat.ne_of_lt hlt
    have e' : b = s1.heap.objs.size + 1 ∨ b = s1.heap.objs.size := by simpa using hb
    have hle : s1.heap.objs.size ≤ b := by
      rcases e' with z | z
      · rw [z]; exact Nat.le_add_right _ _
      · rw [z]; exact Nat.le_refl _
    exact I1.fpOk hle (I1.hok.fresh hle)

/-! ### walks of tuples in pairs -/
theorem walk_enumT {K : PySem.W.Frag} {a : Addr} {xs : List V} : Walk (IteT K a) xs.length (fun H => SqT K H a xs) (YPair (fun i => some (.int (i : Nat))) (fun i => xs[i]?)) := by
  refine ⟨fun i _ hi q => ⟨xs, xs[i], q, by simp [hi]⟩, fun _ q => ⟨xs, q, Nat.le_refl _⟩, fun i H v H' _ q y => ?_⟩
  obtain ⟨T, x, h1, h2, h3, h4⟩ := y
  exact ⟨T, .int (i : Nat), x, h1, h2, h3, rfl, h4 xs q⟩
theorem walk_zipT {K : PySem.W.Frag} {a b : Addr} {xs ys : List V} {n : Nat} (hn : n = min xs.length ys.length) : Walk (RZ.ItzT K a b) n (fun H => SqT K H a xs ∧ SqT K H b ys) (YPair (fun i => xs[i]?) (fun i => ys[i]?)) := by
  subst hn
  refine ⟨fun i _ hi q => ?_, fun _ q => ⟨xs, ys, q.1, q.2, by omega⟩, fun i H v H' _ q y => ?_⟩
  · have h1 : i < xs.length := by omega
    have h2 : i < ys.length := by omega
    exact ⟨xs, ys, xs[i], ys[i], q.1, q.2, by simp [h1], by simp [h2]⟩
  · obtain ⟨T, x, z, h1, h2, h3, h4, h5⟩ := y
    exact ⟨T, x, z, h1, h2, h3, h4 xs q.1, h5 ys q.2⟩
theorem walk_revT {K : PySem.W.Frag} {a : Addr} {xs : List V} : Walk (RT.ItvT K a xs.length) xs.length (fun H => SqT K H a xs) (fun i H x H' => H' = H ∧ xs[xs.length - 1 - i]? = some x) :=
  ⟨fun i _ hi q => ⟨hi, xs, xs[xs.length - 1 - i]'(by omega), q, by simp [show xs.length - 1 - i < xs.length by omega]⟩, fun _ _ => Nat.le_refl _, fun _ _ _ _ _ q y => ⟨y.1, y.2 xs q⟩⟩
section
variable {K : PySem.W.Frag} {T : List (Addr × Str)} {N : Ax} {H1 : Hp} {a b : Addr} {xs ys : List V} {ds es : List PyData}
theorem itOk_zipT (h : LT K N H1 a xs) (r : Rps K N H1 xs ds) (h' : LT K N H1 b ys) (r' : Rps K N H1 ys es) : ItOk K T N (RZ.ItzT K a b) (zipL ds es) H1 := by
  refine ⟨_, _, walk_zipT (xs := xs) (ys := ys) (n := (zipL ds es).length) (by rw [zipL_len, r.length, r'.length]), fun N2 H2 t => ⟨(h.tr t).sq, (h'.tr t).sq⟩, ?_⟩
  intro N2 H2 i v H3 x t nok tb e y
  obtain ⟨d, e', rfl, e1, e2⟩ := zipL_get e
  refine yPair_ok nok tb y (fun z q => ?_) (fun z q => ?_)
  · obtain ⟨u, a1, a2⟩ := r.get e1
    rw [q] at a1
    cases a1
    exact a2.tr t _
  · obtain ⟨u, a1, a2⟩ := r'.get e2
    rw [q] at a1
    cases a1
    exact a2.tr t _
theorem itOk_enumT (h : LT K N H1 a xs) (r : Rps K N H1 xs ds) : ItOk K T N (IteT K a) (enumL ds) H1 := by
  have hl : (enumL ds).length = xs.length := by unfold enumL; rw [zipL_len, rngL_len, r.length, Nat.min_self]
  refine ⟨fun H => SqT K H a xs, YPair (fun i => some (.int (i : Nat))) (fun i => xs[i]?), by rw [hl]; exact walk_enumT (xs := xs), fun N2 H2 t => (h.tr t).sq, ?_⟩
  intro N2 H2 i v H3 x t nok tb e y
  obtain ⟨d, e', rfl, e1, e2⟩ := zipL_get e
  unfold rngL at e1
  rw [List.getElem?_map] at e1
  have hi : i < ds.length := by
    rcases Nat.lt_or_ge i ds.length with z | z
    · exact z
    · rw [List.getElem?_eq_none (by rw [List.length_range]; exact z)] at e1
      cases e1
  rw [List.getElem?_range hi] at e1
  cases e1
  refine yPair_ok nok tb y (fun z q => ?_) (fun z q => ?_)
  · cases q
    show Rp K N2 H2 (V.int (i : Nat)) (.int (0 + (i : Int)))
    rw [Int.zero_add]
    exact .int _
  · obtain ⟨u, a1, a2⟩ := r.get e2
    rw [q] at a1
    cases a1
    exact a2.tr t _
theorem rev_get {α β : Type} {xs : List α} {ds : List β} {i : Nat} {d : β} (hl : xs.length = ds.length) (e : ds.reverse[i]? = some d) : ds[xs.length - 1 - i]? = some d := by
  have hi : i < ds.length := by
    rcases Nat.lt_or_ge i ds.length with z | z
    · exact z
    · rw [List.getElem?_eq_none (by rw [List.length_reverse]; exact z)] at e; cases e
  rw [List.getElem?_reverse hi] at e
  rw [hl]
  exact e
theorem itOk_rev (h : LL K N H1 a xs) (r : Rps K N H1 xs ds) : ItOk K T N (Itv K a xs.length) ds.reverse H1 := by
  refine ⟨_, _, by rw [List.length_reverse, ← r.length]; exact walk_rev (xs := xs), fun N2 H2 t => (h.tr t).sq, ?_⟩
  rintro N2 H2 i v H3 x t nok tb e ⟨rfl, y⟩
  obtain ⟨v', e1, q⟩ := r.get (rev_get r.length e)
  rw [y] at e1
  cases e1
  exact ⟨EvM.refl _ _, tb, q.tr t _⟩
theorem itOk_revT (h : LT K N H1 a xs) (r : Rps K N H1 xs ds) : ItOk K T N (RT.ItvT K a xs.length) ds.reverse H1 := by
  refine ⟨_, _, by rw [List.length_reverse, ← r.length]; exact walk_revT (xs := xs), fun N2 H2 t => (h.tr t).sq, ?_⟩
  rintro N2 H2 i v H3 x t nok tb e ⟨rfl, y⟩
  obtain ⟨v', e1, q⟩ := r.get (rev_get r.length e)
  rw [y] at e1
  cases e1
  exact ⟨EvM.refl _ _, tb, q.tr t _⟩
end

/-! ### the mirrors -/
def seqK : PyData → EM (List PyData)
  | .list xs => ret xs
  | .tuple xs => ret xs
  | _ => fun _ => .no
def seqI (m : EM W) : EM (List PyData) := bnd (bnd m esc) seqK
def enumK : PyData → EM (List PyData)
  | .list xs => ret (enumL xs)
  | .tuple xs => ret (enumL xs)
  | _ => fun _ => .no
def enumI (m : EM W) : EM (List PyData) := bnd (bnd m esc) enumK
def revK : PyData → EM (List PyData)
  | .list xs => ret xs.reverse
  | .tuple xs => ret xs.reverse
  | _ => fun _ => .no
def revI (m : EM W) : EM (List PyData) := bnd (bnd m esc) revK
def rngOk (i : Int) : Bool := decide (-(2 ^ 62) ≤ i) && decide (i < 2 ^ 62)
def rng1K : List PyData → EM (List PyData)
  | [.int j] => if rngOk j = true then ret (rngL 0 j.toNat) else fun _ => .no
  | _ => fun _ => .no
def rng1I (m : EM W) : EM (List PyData) := bnd (evs [m]) rng1K
def rng2K : List PyData → EM (List PyData)
  | [.int i, .int j] => if (rngOk i && rngOk j) = true then ret (rngL i (j - i).toNat) else fun _ => .no
  | _ => fun _ => .no
def rng2I (m m' : EM W) : EM (List PyData) := bnd (evs [m, m']) rng2K
def zipK : List PyData → EM (List PyData)
  | [.list xs, .list ys] => ret (zipL xs ys)
  | [.tuple xs, .tuple ys] => ret (zipL xs ys)
  | _ => fun _ => .no
def zipI (m m' : EM W) : EM (List PyData) := bnd (evs [m, m']) zipK
end PL

set_option Elab.async false
set_option linter.all false
set_option maxRecDepth 100000
/-! PL13: what is walked, the rules. -/
namespace PL
open PySem PySem.Spec PyProof.Rows L2

section
variable {g : G} {WW : WX} {σ : St} {H : Hp} {R : It → Hp → Prop} {m m' : EM W} {k : PyData → EM (List PyData)}
/-- a value first, given out -/
theorem it_of {J : V → Hp → Prop} (hk : ∀ x env, (∃ xs, k x env = .ok xs env) ∨ k x env = .no) (h : tI g WW (bnd (bnd m esc) k) σ H R)
    (hz : ∀ x xs env No v H1, k x env = .ok xs env → RepS g No H1 σ env → Rp g.K (Un2 No (Mo g σ env)) H1 v x → (∀ J, ItOk g.K g.T (Un2 No (Mo g σ env)) J xs H1 → R J H1) → J v H1) : tX g WW m σ H J := by
  obtain ⟨No, env, rep, h⟩ := h
  refine tX_esc rep (fun x env' e => ?_) (fun e => ?_) fun x env1 v H1 e ev r rx => ?_
  · rw [bnd_ex e] at h; exact h
  · rw [bnd_no e] at h; exact h
  · rw [bnd_ok e] at h
    rcases hk x env1 with ⟨xs, q⟩ | q
    · rw [q] at h
      exact hz x xs env1 No v H1 q r rx fun J i => h J H1 ev r i
    · rw [q] at h
      exact h.elim
theorem itA_of {ms : List (EM W)} {k : List PyData → EM (List PyData)} {J : List V → Hp → Prop} (hk : ∀ x env, (∃ xs, k x env = .ok xs env) ∨ k x env = .no) (h : tI g WW (bnd (evs ms) k) σ H R)
    (hz : ∀ x xs env No vs H1, k x env = .ok xs env → RepS g No H1 σ env → Rps g.K (Un2 No (Mo g σ env)) H1 vs x → (∀ J, ItOk g.K g.T (Un2 No (Mo g σ env)) J xs H1 → R J H1) → J vs H1) : tA g WW ms σ H J := by
  obtain ⟨No, env, rep, h⟩ := h
  refine args_of (f := k) rep (fun x env' e => ?_) (fun e => ?_) fun xs env1 vs H1 e hz' ev r rs => ?_
  · rw [e] at h; exact h
  · rw [e] at h; exact h
  · rw [e] at h
    rcases hk xs env1 with ⟨ys, q⟩ | q
    · rw [q] at h
      exact hz xs ys env1 No vs H1 q r rs fun J i => h J H1 ev r i
    · rw [q] at h
      exact h.elim
theorem kk_seq (x : PyData) (env : Env) : (∃ xs, seqK x env = .ok xs env) ∨ seqK x env = .no := by
  cases x <;> first | exact .inl ⟨_, rfl⟩ | exact .inr rfl
theorem kk_enum (x : PyData) (env : Env) : (∃ xs, enumK x env = .ok xs env) ∨ enumK x env = .no := by
  cases x <;> first | exact .inl ⟨_, rfl⟩ | exact .inr rfl
theorem kk_rev (x : PyData) (env : Env) : (∃ xs, revK x env = .ok xs env) ∨ revK x env = .no := by
  cases x <;> first | exact .inl ⟨_, rfl⟩ | exact .inr rfl
theorem kk_rng1 (x : List PyData) (env : Env) : (∃ xs, rng1K x env = .ok xs env) ∨ rng1K x env = .no := by
  unfold rng1K
  split
  · split
    · exact .inl ⟨_, rfl⟩
    · exact .inr rfl
  · exact .inr rfl
theorem kk_rng2 (x : List PyData) (env : Env) : (∃ xs, rng2K x env = .ok xs env) ∨ rng2K x env = .no := by
  unfold rng2K
  split
  · split
    · exact .inl ⟨_, rfl⟩
    · exact .inr rfl
  · exact .inr rfl
theorem kk_zip (x : List PyData) (env : Env) : (∃ xs, zipK x env = .ok xs env) ∨ zipK x env = .no := by
  unfold zipK
  split
  · exact .inl ⟨_, rfl⟩
  · exact .inl ⟨_, rfl⟩
  · exact .inr rfl
end
section
variable {X : Cx} {T : List (Addr × Str)} {io : Addr} {WW : WX} {tg : Expr} {e e2 : Expr} {m m' : EM W} {p pos tpos : Pos} {elts : List Expr} {kk : Nat}
theorem pix_seq (he : PX X T io WW e m) : PIx X T io WW tg e (seqI m) := by
  refine (pi_seqA he).imp fun σ H R h => ?_
  refine it_of (k := seqK) kk_seq h fun x xs env No v H1 q r rx hR => ?_
  cases x with
  | list ds =>
    cases q
    cases rx with
    | lst l rs => exact ⟨_, rfl, .inl ⟨⟨_, l.sq⟩, hR _ (itOk_list l rs)⟩⟩
  | tuple ds =>
    cases q
    cases rx with
    | tup l rs => exact ⟨_, rfl, .inr ⟨⟨_, l.sq⟩, hR _ (itOk_tup l rs)⟩⟩
  | _ => cases q
theorem pix_enum (hg : Gl X "enumerate") (hm : X.mg "enumerate" = none) (he : PX X T io WW e m) (hs : starEach [e] X.env = (false, eval e X.env) :: starEach [] X.env := by rfl) : PIx X T io WW (.Tuple elts kk tpos) (.Call (.Name "enumerate" p) [e] [] pos) (enumI m) := by
  refine (pi_enumA hg hm he hs).imp fun σ H R h => ?_
  refine it_of (k := enumK) kk_enum h fun x xs env No v H1 q r rx hR => ?_
  cases x with
  | list ds =>
    cases q
    cases rx with
    | lst l rs => exact ⟨_, _, rfl, .inl ⟨l.sq, hR _ (itOk_enum l rs)⟩⟩
  | tuple ds =>
    cases q
    cases rx with
    | tup l rs => exact ⟨_, _, rfl, .inr ⟨l.sq, hR _ (itOk_enumT l rs)⟩⟩
  | _ => cases q
theorem pix_rev (hg : Gl X "reversed") (hm : X.mg "reversed" = none) (he : PX X T io WW e m) (hs : starEach [e] X.env = (false, eval e X.env) :: starEach [] X.env := by rfl) : PIx X T io WW tg (.Call (.Name "reversed" p) [e] [] pos) (revI m) := by
  refine (RT.pi_revA hg hm he hs).imp fun σ H R h => ?_
  refine it_of (k := revK) kk_rev h fun x xs env No v H1 q r rx hR => ?_
  cases x with
  | list ds =>
    cases q
    cases rx with
    | lst l rs => exact ⟨_, _, rfl, .inl ⟨l.sq, hR _ (itOk_rev l rs)⟩⟩
  | tuple ds =>
    cases q
    cases rx with
    | tup l rs => exact ⟨_, _, rfl, .inr ⟨l.sq, hR _ (itOk_revT l rs)⟩⟩
  | _ => cases q
theorem rngOk_of {i : Int} (h : rngOk i = true) : -(2 ^ 62) ≤ i ∧ i < 2 ^ 62 := by
  unfold rngOk at h
  rw [Bool.and_eq_true, decide_eq_true_eq, decide_eq_true_eq] at h
  exact h
theorem pix_rng1 (hg : Gl X "range") (hm : X.mg "range" = none) (he : PX X T io WW e m) (hs : starEach [e] X.env = [(false, eval e X.env)] := by rfl) : PIx X T io WW tg (.Call (.Name "range" p) [e] [] pos) (rng1I m) := by
  refine (pi_range1 hg hm (pxa_cons he pxa_nil hs) hs).imp fun σ H R h => ?_
  refine itA_of (k := rng1K) kk_rng1 h fun x xs env No vs H1 q r rx hR => ?_
  unfold rng1K at q
  split at q
  · split at q
    · rename_i j hj
      cases q
      cases rx with
      | cons a b =>
        cases a
        cases b
        have := rngOk_of hj
        exact ⟨j, rfl, this.1, this.2, hR _ (itOk_range 0 _)⟩
    · cases q
  · cases q
theorem pix_rng2 (hg : Gl X "range") (hm : X.mg "range" = none) (he : PX X T io WW e m) (he2 : PX X T io WW e2 m') (hs : starEach [e, e2] X.env = [(false, eval e X.env), (false, eval e2 X.env)] := by rfl) (hs2 : starEach [e2] X.env = [(false, eval e2 X.env)] := by rfl) :
    PIx X T io WW tg (.Call (.Name "range" p) [e, e2] [] pos) (rng2I m m') := by
  refine (pi_range2 hg hm (pxa_cons he (pxa_cons he2 pxa_nil hs2) (by rw [hs, hs2])) hs hs2).imp fun σ H R h => ?_
  refine itA_of (k := rng2K) kk_rng2 h fun x xs env No vs H1 q r rx hR => ?_
  unfold rng2K at q
  split at q
  · split at q
    · rename_i i j hj
      rw [Bool.and_eq_true] at hj
      cases q
      cases rx with
      | cons a b =>
        cases a
        cases b with
        | cons a b =>
          cases a
          cases b
          have h1 := rngOk_of hj.1
          have h2 := rngOk_of hj.2
          exact ⟨i, j, rfl, ⟨h1.1, h1.2, h2.1, h2.2⟩, hR _ (itOk_range i _)⟩
    · cases q
  · cases q
theorem pix_zip (hg : Gl X "zip") (hm : X.mg "zip" = none) (he : PX X T io WW e m) (he2 : PX X T io WW e2 m')
    (hs : starEach [e, e2] X.env = (false, eval e X.env) :: starEach [e2] X.env := by rfl) (hs2 : starEach [e2] X.env = (false, eval e2 X.env) :: starEach [] X.env := by rfl) (hpl : (backTo pos (starEach [e2] X.env)).any (·.1) = false := by rfl) :
    PIx X T io WW (.Tuple elts kk tpos) (.Call (.Name "zip" p) [e, e2] [] pos) (zipI m m') := by
  refine (RZ.pi_zipA hg hm (pxa_cons he (pxa_cons he2 pxa_nil hs2) hs) hs hpl).imp fun σ H R h => ?_
  refine itA_of (k := zipK) kk_zip h fun x xs env No vs H1 q r rx hR => ?_
  unfold zipK at q
  split at q
  · cases q
    cases rx with
    | cons a b =>
      cases b with
      | cons a' b =>
        cases b
        cases a with
        | lst l rs => cases a' with | lst l' rs' => exact ⟨_, _, _, _, rfl, .inl ⟨l.sq, l'.sq, hR _ (itOk_zip l rs l' rs')⟩⟩
  · cases q
    cases rx with
    | cons a b =>
      cases b with
      | cons a' b =>
        cases b
        cases a with
        | tup l rs => cases a' with | tup l' rs' => exact ⟨_, _, _, _, rfl, .inr ⟨l.sq, l'.sq, hR _ (itOk_zipT l rs l' rs')⟩⟩
  · cases q
end
end PL

set_option Elab.async false
set_option linter.all false
set_option maxRecDepth 100000
/-! PL14: built-ins over data. -/
namespace PL
open PySem PySem.Spec PyProof.Rows L2

def intsL : List PyData → Option (List Int)
  | [] => some []
  | .int i :: xs => (intsL xs).map (i :: ·)
  | _ :: _ => none
def boolsL : List PyData → Option (List Bool)
  | [] => some []
  | .bool i :: xs => (boolsL xs).map (i :: ·)
  | _ :: _ => none
section
variable {K : PySem.W.Frag} {N : Ax} {H : Hp}
theorem Rps.intsL : ∀ {ds : List PyData} {vs : List V} {ns : List Int}, Rps K N H vs ds → PL.intsL ds = some ns → vs = ns.map V.int
  | [], _, _, h, e => by cases h; cases e; rfl
  | .int i :: ds, _, _, h, e => by
    cases h with
    | cons a b =>
      unfold PL.intsL at e
      cases q : PL.intsL ds with
      | none => rw [q] at e; cases e
      | some ms =>
        rw [q] at e
        cases e
        cases a
        rw [Rps.intsL b q]
        rfl
  | .none :: _, _, _, _, e => by cases e
  | .bool _ :: _, _, _, _, e => by cases e
  | .str _ :: _, _, _, _, e => by cases e
  | .list _ :: _, _, _, _, e => by cases e
  | .tuple _ :: _, _, _, _, e => by cases e
  | .dict _ :: _, _, _, _, e => by cases e
theorem Rps.boolsL : ∀ {ds : List PyData} {vs : List V} {ns : List Bool}, Rps K N H vs ds → PL.boolsL ds = some ns → vs = ns.map V.bl
  | [], _, _, h, e => by cases h; cases e; rfl
  | .bool i :: ds, _, _, h, e => by
    cases h with
    | cons a b =>
      unfold PL.boolsL at e
      cases q : PL.boolsL ds with
      | none => rw [q] at e; cases e
      | some ms =>
        rw [q] at e
        cases e
        cases a
        rw [Rps.boolsL b q]
        rfl
  | .none :: _, _, _, _, e => by cases e
  | .int _ :: _, _, _, _, e => by cases e
  | .str _ :: _, _, _, _, e => by cases e
  | .list _ :: _, _, _, _, e => by cases e
  | .tuple _ :: _, _, _, _, e => by cases e
  | .dict _ :: _, _, _, _, e => by cases e
theorem intsL_len : ∀ {ds : List PyData} {ns : List Int}, PL.intsL ds = some ns → ns.length = ds.length
  | [], _, e => by cases e; rfl
  | .int i :: ds, _, e => by
    unfold PL.intsL at e
    cases q : PL.intsL ds with
    | none => rw [q] at e; cases e
    | some ms => rw [q] at e; cases e; rw [List.length_cons, List.length_cons, intsL_len q]
  | .none :: _, _, e => by cases e
  | .bool _ :: _, _, e => by cases e
  | .str _ :: _, _, e => by cases e
  | .list _ :: _, _, e => by cases e
  | .tuple _ :: _, _, e => by cases e
  | .dict _ :: _, _, e => by cases e
end

/-! ### len, abs, int, sum, max, min, all, any, tuple, list -/
def lenF : PyData → Option W
  | .list xs => some (.d (.int xs.length))
  | .tuple xs => some (.d (.int xs.length))
  | .str x => if x.length ≤ sizeLine then some (.d (.int x.length)) else none
  | _ => none
def rLenD (K : PySem.W.Frag) : List V → Hp → VK → Prop := fun xs H Q => (∃ p ys, xs = [.ref p] ∧ (SqL K H p ys ∨ SqT K H p ys) ∧ Q (.int ys.length) H) ∨ (∃ z, xs = [.str z] ∧ z.length ≤ sizeLine ∧ Q (.int z.length) H)
theorem cr_lenD {X : Cx} : CallR X (.builtin "len") (rLenD X.K) := call_len_seq.or call_len_str
def absF : PyData → Option W
  | .int i => some (.d (.int (if i < 0 then -i else i)))
  | _ => none
def intF : PyData → Option W
  | .int i => some (.d (.int i))
  | .bool k => some (.d (.int (if k then 1 else 0)))
  | _ => none
def sumF : PyData → Option W
  | .list xs => (intsL xs).map fun ns => .d (.int ns.sum)
  | _ => none
def maxL : List Int → Option Int
  | [] => none
  | [a] => some a
  | a :: as => (maxL as).map fun m => if m > a then m else a
def minL : List Int → Option Int
  | [] => none
  | [a] => some a
  | a :: as => (minL as).map fun m => if m < a then m else a
theorem maxL_of : ∀ {ns : List Int} {m : Int}, m ∈ ns → (∀ y, y ∈ ns → y ≤ m) → maxL ns = some m
  | [a], m, h, _ => by
    rw [List.mem_singleton] at h
    rw [h]
    rfl
  | a :: b :: as, m, h, hu => by
    show (maxL (b :: as)).map (fun m => if m > a then m else a) = some m
    by_cases hm : m ∈ b :: as
    · rw [maxL_of hm fun y hy => hu y (List.mem_cons_of_mem _ hy)]
      have := hu a List.mem_cons_self
      show some (if m > a then m else a) = some m
      by_cases q : m > a
      · rw [if_pos q]
      · rw [if_neg q]
        congr 1
        omega
    · have e : m = a := by
        rcases List.mem_cons.mp h with z | z
        · exact z
        · exact absurd z hm
      have sub : ∃ m', maxL (b :: as) = some m' ∧ m' ≤ m := by
        have : ∀ (l : List Int), l ≠ [] → (∀ y, y ∈ l → y ≤ m) → ∃ m', maxL l = some m' ∧ m' ≤ m := by
          intro l
          induction l with
          | nil => exact fun z => absurd rfl z
          | cons c l ih =>
            intro _ hy
            cases l with
            | nil => exact ⟨c, rfl, hy c List.mem_cons_self⟩
            | cons d l =>
              obtain ⟨m', e1, e2⟩ := ih (fun z => by cases z) fun y z => hy y (List.mem_cons_of_mem _ z)
              refine ⟨if m' > c then m' else c, ?_, ?_⟩
              · show (maxL (d :: l)).map _ = _
                rw [e1]
                rfl
              · split
                · exact e2
                · exact hy c List.mem_cons_self
        exact this _ (fun z => by cases z) fun y z => hu y (List.mem_cons_of_mem _ z)
      obtain ⟨m', e1, e2⟩ := sub
      rw [e1]
      show some (if m' > a then m' else a) = some m
      rw [if_neg (by omega), e]
theorem minL_of : ∀ {ns : List Int} {m : Int}, m ∈ ns → (∀ y, y ∈ ns → m ≤ y) → minL ns = some m
  | [a], m, h, _ => by
    rw [List.mem_singleton] at h
    rw [h]
    rfl
  | a :: b :: as, m, h, hu => by
    show (minL (b :: as)).map (fun m => if m < a then m else a) = some m
    by_cases hm : m ∈ b :: as
    · rw [minL_of hm fun y hy => hu y (List.mem_cons_of_mem _ hy)]
      have := hu a List.mem_cons_self
      show some (if m < a then m else a) = some m
      by_cases q : m < a
      · rw [if_pos q]
      · rw [if_neg q]
        congr 1
        omega
    · have e : m = a := by
        rcases List.mem_cons.mp h with z | z
        · exact z
        · exact absurd z hm
      have sub : ∃ m', minL (b :: as) = some m' ∧ m ≤ m' := by
        have : ∀ (l : List Int), l ≠ [] → (∀ y, y ∈ l → m ≤ y) → ∃ m', minL l = some m' ∧ m ≤ m' := by
          intro l
          induction l with
          | nil => exact fun z => absurd rfl z
          | cons c l ih =>
            intro _ hy
            cases l with
            | nil => exact ⟨c, rfl, hy c List.mem_cons_self⟩
            | cons d l =>
              obtain ⟨m', e1, e2⟩ := ih (fun z => by cases z) fun y z => hy y (List.mem_cons_of_mem _ z)
              refine ⟨if m' < c then m' else c, ?_, ?_⟩
              · show (minL (d :: l)).map _ = _
                rw [e1]
                rfl
              · split
                · exact e2
                · exact hy c List.mem_cons_self
        exact this _ (fun z => by cases z) fun y z => hu y (List.mem_cons_of_mem _ z)
      obtain ⟨m', e1, e2⟩ := sub
      rw [e1]
      show some (if m' < a then m' else a) = some m
      rw [if_neg (by omega), e]
def maxF : PyData → Option W
  | .list xs => (intsL xs).bind fun ns => (maxL ns).map fun m => .d (.int m)
  | _ => none
def minF : PyData → Option W
  | .list xs => (intsL xs).bind fun ns => (minL ns).map fun m => .d (.int m)
  | _ => none
def allF : PyData → Option W
  | .list xs => (boolsL xs).map fun bs => .d (.bool (bs.all id))
  | _ => none
def anyF : PyData → Option W
  | .list xs => (boolsL xs).map fun bs => .d (.bool (bs.any id))
  | _ => none
def tupF : PyData → Option W
  | .list xs => some (.d (.tuple xs))
  | .tuple xs => some (.d (.tuple xs))
  | _ => none
def listF : PyData → Option W
  | .list xs => some (.f xs)
  | .tuple xs => some (.f xs)
  | _ => none
def max2F : PyData → PyData → Option W
  | .int i, .int j => some (.d (.int (if j > i then j else i)))
  | _, _ => none
def min2F : PyData → PyData → Option W
  | .int i, .int j => some (.d (.int (if j < i then j else i)))
  | _, _ => none
def gcdF : PyData → PyData → Option W
  | .int i, .int j => some (.d (.int ((Nat.gcd i.natAbs j.natAbs : Nat) : Int)))
  | _, _ => none
def divmodF : PyData → PyData → Option W
  | .int i, .int j => if 0 < j ∧ Builtin.divisionGoesByPylong i j = false then some (.d (.tuple [.int (i / j), .int (i % j)])) else none
  | _, _ => none
section
variable {K : PySem.W.Frag} {T : List (Addr × Str)}
theorem s1_len : Spec1 K T (fun x H Q => rLenD K [x] H Q) lenF := by
  intro x H Q N a w nok t ra e post
  cases a with
  | list ds =>
    cases e
    obtain ⟨p, xs, rfl, hp, r⟩ := ra
    exact .inl ⟨p, xs, rfl, .inl hp, by rw [r.length]; exact post _ H (EvM.refl _ _) t (.int _)⟩
  | tuple ds =>
    cases e
    cases ra with
    | tup l r => exact .inl ⟨_, _, rfl, .inr l.sq, by rw [r.length]; exact post _ H (EvM.refl _ _) t (.int _)⟩
  | str z =>
    have e : (if z.length ≤ sizeLine then some (W.d (.int z.length)) else none) = some w := e
    split at e
    · rename_i hz
      cases e
      cases ra
      exact .inr ⟨_, rfl, hz, post _ H (EvM.refl _ _) t (.int _)⟩
    · cases e
  | _ => cases e
theorem s1_abs : Spec1 K T (fun x H Q => ∃ i, [x] = [V.int i] ∧ Q (.int (if i < 0 then -i else i)) H) absF := by
  intro x H Q N a w nok t ra e post
  cases a with
  | int i => cases e; cases ra; exact ⟨i, rfl, post _ H (EvM.refl _ _) t (.int _)⟩
  | _ => cases e
theorem s1_int : Spec1 K T (fun x H Q => (∃ i, [x] = [V.int i] ∧ Q (.int i) H) ∨ ∃ k, [x] = [V.bl k] ∧ Q (.int (if k then 1 else 0)) H) intF := by
  intro x H Q N a w nok t ra e post
  cases a with
  | int i => cases e; cases ra; exact .inl ⟨i, rfl, post _ H (EvM.refl _ _) t (.int _)⟩
  | bool i => cases e; cases ra; exact .inr ⟨i, rfl, post _ H (EvM.refl _ _) t (.int _)⟩
  | _ => cases e
theorem s1_sum : Spec1 K T (fun x H Q => rSum K [x] H Q) sumF := by
  intro x H Q N a w nok t ra e post
  cases a with
  | list ds =>
    obtain ⟨p, xs, rfl, hp, r⟩ := ra
    have e : (intsL ds).map (fun ns => W.d (.int ns.sum)) = some w := e
    cases q : intsL ds with
    | none => rw [q] at e; cases e
    | some ns =>
      rw [q] at e
      cases e
      rw [r.intsL q] at hp
      exact ⟨p, ns, rfl, hp, post _ H (EvM.refl _ _) t (.int _)⟩
  | _ => cases e
theorem s1_max : Spec1 K T (fun x H Q => rMax K [x] H Q) maxF := by
  intro x H Q N a w nok t ra e post
  cases a with
  | list ds =>
    obtain ⟨p, xs, rfl, hp, r⟩ := ra
    have e : (intsL ds).bind (fun ns => (maxL ns).map fun m => W.d (.int m)) = some w := e
    cases q : intsL ds with
    | none => rw [q] at e; cases e
    | some ns =>
      rw [q] at e
      rw [r.intsL q] at hp
      cases q2 : maxL ns with
      | none => rw [show (some ns).bind (fun ns => (maxL ns).map fun m => W.d (.int m)) = none by show (maxL ns).map _ = none; rw [q2]; rfl] at e; cases e
      | some m0 =>
        rw [show (some ns).bind (fun ns => (maxL ns).map fun m => W.d (.int m)) = some (.d (.int m0)) by show (maxL ns).map _ = _; rw [q2]; rfl] at e
        cases e
        refine ⟨p, ns, rfl, hp, ?_, fun m h1 h2 => ?_⟩
        · cases ns with
          | nil => cases q2
          | cons a as => exact Nat.zero_lt_succ _
        · have := maxL_of h1 h2
          rw [q2] at this
          cases this
          exact post _ H (EvM.refl _ _) t (.int _)
  | _ => cases e
theorem s1_min : Spec1 K T (fun x H Q => rMin K [x] H Q) minF := by
  intro x H Q N a w nok t ra e post
  cases a with
  | list ds =>
    obtain ⟨p, xs, rfl, hp, r⟩ := ra
    have e : (intsL ds).bind (fun ns => (minL ns).map fun m => W.d (.int m)) = some w := e
    cases q : intsL ds with
    | none => rw [q] at e; cases e
    | some ns =>
      rw [q] at e
      rw [r.intsL q] at hp
      cases q2 : minL ns with
      | none => rw [show (some ns).bind (fun ns => (minL ns).map fun m => W.d (.int m)) = none by show (minL ns).map _ = none; rw [q2]; rfl] at e; cases e
      | some m0 =>
        rw [show (some ns).bind (fun ns => (minL ns).map fun m => W.d (.int m)) = some (.d (.int m0)) by show (minL ns).map _ = _; rw [q2]; rfl] at e
        cases e
        refine ⟨p, ns, rfl, hp, ?_, fun m h1 h2 => ?_⟩
        · cases ns with
          | nil => cases q2
          | cons a as => exact Nat.zero_lt_succ _
        · have := minL_of h1 h2
          rw [q2] at this
          cases this
          exact post _ H (EvM.refl _ _) t (.int _)
  | _ => cases e
theorem s1_all : Spec1 K T (fun x H Q => rAll K [x] H Q) allF := by
  intro x H Q N a w nok t ra e post
  cases a with
  | list ds =>
    obtain ⟨p, xs, rfl, hp, r⟩ := ra
    have e : (boolsL ds).map (fun bs => W.d (.bool (bs.all id))) = some w := e
    cases q : boolsL ds with
    | none => rw [q] at e; cases e
    | some ns =>
      rw [q] at e
      cases e
      rw [r.boolsL q] at hp
      exact ⟨p, ns, rfl, hp, post _ H (EvM.refl _ _) t (.bl _)⟩
  | _ => cases e
theorem s1_any : Spec1 K T (fun x H Q => rAny K [x] H Q) anyF := by
  intro x H Q N a w nok t ra e post
  cases a with
  | list ds =>
    obtain ⟨p, xs, rfl, hp, r⟩ := ra
    have e : (boolsL ds).map (fun bs => W.d (.bool (bs.any id))) = some w := e
    cases q : boolsL ds with
    | none => rw [q] at e; cases e
    | some ns =>
      rw [q] at e
      cases e
      rw [r.boolsL q] at hp
      exact ⟨p, ns, rfl, hp, post _ H (EvM.refl _ _) t (.bl _)⟩
  | _ => cases e
abbrev rTupOf (K : PySem.W.Frag) : List V → Hp → VK → Prop := fun xs H Q => ∃ p ys, xs = [.ref p] ∧ ((SqL K H p ys ∧ ∀ l, H l = none → Q (.ref l) (upd H l (.tup ys))) ∨ (SqT K H p ys ∧ Q (.ref p) H))
abbrev rListOf (K : PySem.W.Frag) : List V → Hp → VK → Prop := fun xs H Q => ∃ p ys, xs = [.ref p] ∧ (SqL K H p ys ∨ SqT K H p ys) ∧ ∀ l, H l = none → Q (.ref l) (upd H l (.lst ys))
theorem s1_tup : Spec1 K T (fun x H Q => rTupOf K [x] H Q) tupF := by
  intro x H Q N a w nok t ra e post
  cases a with
  | list ds =>
    cases e
    obtain ⟨p, xs, rfl, hp, r⟩ := ra
    exact ⟨p, xs, rfl, .inl ⟨hp, post.tup nok t r⟩⟩
  | tuple ds =>
    cases e
    cases ra with
    | tup l r => exact ⟨_, _, rfl, .inr ⟨l.sq, post _ H (EvM.refl _ _) t (.tup l r)⟩⟩
  | _ => cases e
theorem s1_list : Spec1 K T (fun x H Q => rListOf K [x] H Q) listF := by
  intro x H Q N a w nok t ra e post
  cases a with
  | list ds =>
    cases e
    obtain ⟨p, xs, rfl, hp, r⟩ := ra
    exact ⟨p, xs, rfl, .inl hp, post.lst t r⟩
  | tuple ds =>
    cases e
    cases ra with
    | tup l r => exact ⟨_, _, rfl, .inr l.sq, post.lst t r⟩
  | _ => cases e
theorem s2_max2 : Spec2 K T (fun x y H Q => ∃ i j, [x, y] = [V.int i, V.int j] ∧ Q (.int (if j > i then j else i)) H) max2F := by
  intro x y H Q N a b w nok t ra rb e post
  unfold max2F at e
  split at e
  · cases e; cases ra; cases rb; exact ⟨_, _, rfl, post _ H (EvM.refl _ _) t (.int _)⟩
  · cases e
theorem s2_min2 : Spec2 K T (fun x y H Q => ∃ i j, [x, y] = [V.int i, V.int j] ∧ Q (.int (if j < i then j else i)) H) min2F := by
  intro x y H Q N a b w nok t ra rb e post
  unfold min2F at e
  split at e
  · cases e; cases ra; cases rb; exact ⟨_, _, rfl, post _ H (EvM.refl _ _) t (.int _)⟩
  · cases e
theorem s2_gcd : Spec2 K T (fun x y H Q => rGcd [x, y] H Q) gcdF := by
  intro x y H Q N a b w nok t ra rb e post
  unfold gcdF at e
  split at e
  · cases e; cases ra; cases rb; exact ⟨_, _, rfl, post _ H (EvM.refl _ _) t (.int _)⟩
  · cases e
theorem s2_divmod : Spec2 K T (fun x y H Q => ∃ i j, [x, y] = [V.int i, V.int j] ∧ (0 < j ∧ Builtin.divisionGoesByPylong i j = false) ∧ ∀ p, H p = none → Q (.ref p) (upd H p (.tup [.int (i / j), .int (i % j)]))) divmodF := by
  intro x y H Q N a b w nok t ra rb e post
  unfold divmodF at e
  split at e
  · split at e
    · rename_i hz
      cases e; cases ra; cases rb
      exact ⟨_, _, rfl, hz, post.tup nok t (.cons (.int _) (.cons (.int _) .nil))⟩
    · cases e
  · cases e
end

/-! ### isinstance -/
def tyS : PyData → String
  | .none => "NoneType"
  | .bool _ => "bool"
  | .int _ => "int"
  | .str _ => "str"
  | .list _ => "list"
  | .tuple _ => "tuple"
  | .dict _ => "dict"
theorem Rq.ty {K : PySem.W.Frag} {N : Ax} {H : Hp} {v : V} {x : PyData} (nd : ∀ ps, x ≠ .dict ps) (r : Rq K N H v x) : TyX K H v (.type (tyS x)) := by
  cases x with
  | none => cases r; exact .base .non
  | bool b => cases r; exact .base (.bl b)
  | int i => cases r; exact .base (.int i)
  | str z => cases r; exact .base (.str z)
  | list ds =>
    obtain ⟨a, xs, rfl, l, _⟩ := r
    rcases l with (l | ⟨o, l⟩) | ⟨o, its, n, e, c, _⟩
    · exact .base (.lst l)
    · exact .base (.frz l)
    · exact .kList e c
  | tuple ds =>
    cases r with
    | tup l _ =>
      rcases l.sq with (l | ⟨o, l⟩) | ⟨o, its, n, e, c, _⟩
      · exact .base (.tup l)
      · exact .fTuple l
      · exact .kTuple e c
  | dict ps => exact absurd rfl (nd ps)
def isF (f : PyData → Bool) : PyData → Option W
  | .dict _ => none
  | x => some (.d (.bool (f x)))
def isTup : PyData → Bool
  | .tuple _ => true
  | _ => false
def isLst : PyData → Bool
  | .list _ => true
  | _ => false
def isStr : PyData → Bool
  | .str _ => true
  | _ => false
def isBoo : PyData → Bool
  | .bool _ => true
  | _ => false
def isInt : PyData → Bool
  | .int _ => true
  | .bool _ => true
  | _ => false
/-- the answers of isinstance(x, n) -/
def IsiOk (n : String) (f : PyData → Bool) : Prop := ∀ x, (∀ ps, x ≠ .dict ps) → kitB (tyS x) n = some (f x)
theorem isi_all {n : String} {f : PyData → Bool} {a b c d e g : Bool} (h1 : kitB "NoneType" n = some a) (h2 : kitB "bool" n = some b) (h3 : kitB "int" n = some c) (h4 : kitB "str" n = some d) (h5 : kitB "list" n = some e) (h6 : kitB "tuple" n = some g)
    (f1 : f .none = a) (f2 : ∀ x, f (.bool x) = b) (f3 : ∀ x, f (.int x) = c) (f4 : ∀ x, f (.str x) = d) (f5 : ∀ x, f (.list x) = e) (f6 : ∀ x, f (.tuple x) = g) : IsiOk n f := fun x hx => by
  cases x with
  | none => rw [f1]; exact h1
  | bool _ => rw [f2]; exact h2
  | int _ => rw [f3]; exact h3
  | str _ => rw [f4]; exact h4
  | list _ => rw [f5]; exact h5
  | tuple _ => rw [f6]; exact h6
  | dict ps => exact absurd rfl (hx ps)
theorem isi_tuple : IsiOk "tuple" isTup := isi_all (by decide +kernel) (by decide +kernel) (by decide +kernel) (by decide +kernel) (by decide +kernel) (by decide +kernel) rfl (fun _ => rfl) (fun _ => rfl) (fun _ => rfl) (fun _ => rfl) (fun _ => rfl)
theorem isi_list : IsiOk "list" isLst := isi_all (by decide +kernel) (by decide +kernel) (by decide +kernel) (by decide +kernel) (by decide +kernel) (by decide +kernel) rfl (fun _ => rfl) (fun _ => rfl) (fun _ => rfl) (fun _ => rfl) (fun _ => rfl)
theorem isi_str : IsiOk "str" isStr := isi_all (by decide +kernel) (by decide +kernel) (by decide +kernel) (by decide +kernel) (by decide +kernel) (by decide +kernel) rfl (fun _ => rfl) (fun _ => rfl) (fun _ => rfl) (fun _ => rfl) (fun _ => rfl)
theorem isi_bool : IsiOk "bool" isBoo := isi_all (by decide +kernel) (by decide +kernel) (by decide +kernel) (by decide +kernel) (by decide +kernel) (by decide +kernel) rfl (fun _ => rfl) (fun _ => rfl) (fun _ => rfl) (fun _ => rfl) (fun _ => rfl)
theorem isi_int : IsiOk "int" isInt := isi_all (by decide +kernel) (by decide +kernel) (by decide +kernel) (by decide +kernel) (by decide +kernel) (by decide +kernel) rfl (fun _ => rfl) (fun _ => rfl) (fun _ => rfl) (fun _ => rfl) (fun _ => rfl)
theorem s1_isi {K : PySem.W.Frag} {T : List (Addr × Str)} {n : String} {f : PyData → Bool} (ok : IsiOk n f) : Spec1 K T (fun x H Q => rIsi K [x, .ty n] H Q) (isF f) := by
  intro x H Q N a w nok t ra e post
  have nd : ∀ ps, a ≠ .dict ps := fun ps z => by subst z; cases e
  have ew : w = .d (.bool (f a)) := by cases a <;> first | (cases e; rfl) | cases e
  subst ew
  exact ⟨x, .ty n, .type (tyS a), .type n, f a, rfl, .ty n, ra.ty nd, kit_ty (ok a nd), post _ H (EvM.refl _ _) t (.bl _)⟩
section
variable {X : Cx} {T : List (Addr × Str)} {io : Addr} {WW : WX} {p p2 pos : Pos} {x y : Str} {a : Expr} {m : EM W}
theorem px_isi {n : String} {f : PyData → Bool} (ok : IsiOk n f) (hg : Gl X x) (hm : X.mg x = none) (hv : bootBuiltins x = some (.builtin "isinstance")) (hg2 : Gl X y) (hm2 : X.mg y = none) (hv2 : bootBuiltins y = some (.type n)) (ha : PX X T io WW a m)
    (he : starEach [a, .Name y p2] X.env = (false, eval a X.env) :: starEach [.Name y p2] X.env := by rfl) (he2 : starEach [.Name y p2] X.env = (false, eval (.Name y p2) X.env) :: starEach [] X.env := by rfl) (hn : x ≠ "__name__" := by decide) (hdb : (x == ("__debug__" : Str)) = false := by decide)
    (hn2 : y ≠ "__name__" := by decide) (hdb2 : (y == ("__debug__" : Str)) = false := by decide) :
    PX X T io WW (.Call (.Name x p) [a, .Name y p2] [] pos) (op1 (isF f) m) :=
  (pe_callB call_isi hg hm hv (pa_cons ha (pa_cons (pe_bltn hg2 hm2 hv2 (v := .ty n) rfl hn2 hdb2) pa_nil he2) he) hn hdb he (by rw [he2]; rfl)).imp fun σ H Q h => one_of (g := gX X T io) (s1_isi ok) h
end
end PL

set_option Elab.async false
set_option linter.all false
set_option maxRecDepth 100000
/-! PL15: chains of three, a list times an int, methods of lists, item stores. -/
namespace PL
open PySem PySem.Spec PyProof.Rows L2

/-! ### a op b op' c op'' d -/
section
variable {g : G} {WW : WX} {σ : St} {H : Hp} {ma mb mc md : EM W}
theorem chn3_of {r r' r'' : R2} {f f' f'' : PyData → PyData → Option Bool} {Q : VK} (hs : SpecB g.K g.T r f) (hs' : SpecB g.K g.T r' f') (hs'' : SpecB g.K g.T r'' f'') (h : tT g WW (chn3 f f' f'' ma mb mc md) σ H fun c H' => Q (.bl c) H') :
    tChain3 r r' r'' (tX g WW ma) (tX g WW mb) (tX g WW mc) (tX g WW md) σ H Q := by
  obtain ⟨No, env, rep, h⟩ := h
  refine two_core (m2 := fun a b => bnd (cmpA f a b) fun k => if k = true then bnd mc fun c => bnd (cmpA f' b c) fun k' => if k' = true then bnd md fun d => cmpA f'' c d else ret false else ret false) rep (fun x env' e => ?_) (fun e => ?_) fun a b env2 v u H2 e ev r2 k1 k2 => ?_
  · rw [show chn3 f f' f'' ma mb mc md env = _ from e] at h
    exact h
  · rw [show chn3 f f' f'' ma mb mc md env = _ from e] at h
    exact h
  · rw [show chn3 f f' f'' ma mb mc md env = _ from e] at h
    cases q : cmpA f a b env2 with
    | no => rw [bnd_no q] at h; exact h.elim
    | ex x e' => exact absurd q cmpA_nex
    | ok w env' =>
      rw [bnd_ok q] at h
      obtain ⟨rfl, x, y, e3, e4, e5⟩ := cmpA_ok q
      refine hs v u H2 _ _ x y w r2.nok r2.tab (k1 x e3) (k2.pk e4) e5 ⟨w, rfl, ?_⟩
      cases w with
      | false =>
        rw [if_neg Bool.false_ne_true] at h ⊢
        exact h H2 ev (r2.anti fun c z => plus_of c (plus_of c z))
      | true =>
        rw [if_pos rfl] at h ⊢
        refine tX_of r2 (fun x env' e => ?_) (fun e => ?_) fun c env3 w3 H3 e ev3 p3 f3 => ?_
        · rw [bnd_ex e] at h
          exact h.back ev fun c z => plus_of c (plus_of c z)
        · rw [bnd_no e] at h
          exact h
        · rw [bnd_ok e] at h
          cases q : cmpA f' b c env3 with
          | no => rw [bnd_no q] at h; exact h.elim
          | ex x e' => exact absurd q cmpA_nex
          | ok w env' =>
            rw [bnd_ok q] at h
            obtain ⟨rfl, x, y, e3, e4, e5⟩ := cmpA_ok q
            refine hs' u w3 H3 _ _ x y w p3.rep.nok p3.rep.tab (k2.pk2 ev3 p3.rep (plus_new f3) e3) (p3.pk e4) e5 ⟨w, rfl, ?_⟩
            cases w with
            | false =>
              rw [if_neg Bool.false_ne_true] at h ⊢
              exact h H3 (ev.trans ev3) (p3.rep.anti fun c z => plus_of c (plus_of c (plus_of c z)))
            | true =>
              rw [if_pos rfl] at h ⊢
              refine tX_of p3.rep (fun x env' e => ?_) (fun e => ?_) fun d env4 w4 H4 e ev4 p4 f4 => ?_
              · rw [bnd_ex e] at h
                exact h.back (ev.trans ev3) fun c z => plus_of c (plus_of c (plus_of c z))
              · rw [bnd_no e] at h
                exact h
              · rw [bnd_ok e] at h
                cases q : cmpA f'' c d env4 with
                | no => rw [q] at h; exact h.elim
                | ex x e' => exact absurd q cmpA_nex
                | ok w env' =>
                  rw [q] at h
                  obtain ⟨rfl, x, y, e3, e4, e5⟩ := cmpA_ok q
                  exact hs'' w3 w4 H4 Q _ x y w p4.rep.nok p4.rep.tab (p3.pk2 ev4 p4.rep (plus_new f4) e3) (p4.pk e4) e5 (h H4 ((ev.trans ev3).trans ev4) (p4.rep.anti fun c z => plus_of c (plus_of c (plus_of c (plus_of c z)))))
end
section
variable {X : Cx} {T : List (Addr × Str)} {io : Addr} {WW : WX} {pos : Pos} {a b c d : Expr} {ma mb mc md : EM W}
theorem px_chn3 {op op' op'' : CmpOp} {r r' r'' : R2} {f f' f'' : PyData → PyData → Option Bool} (ho : OpR X (compareOp op) r) (ho' : OpR X (compareOp op') r') (ho'' : OpR X (compareOp op'') r'') (hs : SpecB X.K T r f) (hs' : SpecB X.K T r' f') (hs'' : SpecB X.K T r'' f'')
    (ha : PX X T io WW a ma) (hb : PX X T io WW b mb) (hc : PX X T io WW c mc) (hd : PX X T io WW d md)
    (hm : lastMarks [op, op', op''] [b, c, d] = false := by with_unfolding_all rfl) : PX X T io WW (.Compare a [op, op', op''] [b, c, d] pos) (bv (chn3 f f' f'' ma mb mc md)) :=
  (pe_chain3 ho ho' ho'' ha hb hc hd hm).imp fun σ H Q h => chn3_of (g := gX X T io) hs hs' hs'' (bv_of h)
end

section
variable {X : Cx} {T : List (Addr × Str)} {io : Addr} {WW : WX} {pos : Pos} {a b c d : Expr} {ma mb mc md : EM W}
theorem pt_chain3 {op op' op'' : CmpOp} {r r' r'' : R2} {ta tb tc td : TE} (ho : OpR X (compareOp op) r) (ho' : OpR X (compareOp op') r') (ho'' : OpR X (compareOp op'') r'') (ha : PE X a ta) (hb : PE X b tb) (hc : PE X c tc) (hd : PE X d td)
    (hm : lastMarks [op, op', op''] [b, c, d] = false := by with_unfolding_all rfl) : PT X (.Compare a [op, op', op''] [b, c, d] pos) (tTest (tChain3 r r' r'' ta tb tc td)) := by
  refine ⟨fun pins s σ H Q I h => ?_⟩
  refine isTrue_chain (thn (ha.run pins s σ H _ I h) fun v s1 ⟨x, H1, I1, r1, q1⟩ => test_link (thn (hb.run pins s1 σ H1 _ I1 q1) fun u s2 ⟨y, H2, I2, r2, q2⟩ =>
    thn (ho pins s2 σ H2 x y v u _ I2 r1 r2 q2) fun d s3 ⟨z, H3, I3, r3, k, e, q3⟩ => ?_)) hm
  subst e
  cases r3
  refine wpAny_truthy_bool ?_
  cases k with
  | false =>
    obtain ⟨k', e', q'⟩ := q3
    cases e'
    exact ite_ff ⟨H3, I3, q'⟩
  | true =>
    refine ite_tt (test_link (thn (hc.run pins s3 σ H3 _ I3 q3) fun w' s4 ⟨z', H4, I4, r4, q4⟩ => thn (ho' pins s4 σ H4 y z' u w' _ I4 r2 r4 q4) fun d' s5 ⟨z2, H5, I5, r5, k2, e2, q5⟩ => ?_))
    subst e2
    cases r5
    refine wpAny_truthy_bool ?_
    cases k2 with
    | false =>
      obtain ⟨k', e', q'⟩ := q5
      cases e'
      exact ite_ff ⟨H5, I5, q'⟩
    | true =>
      refine ite_tt (test_last (thn (hd.run pins s5 σ H5 _ I5 q5) fun w2 s6 ⟨z3, H6, I6, r6, q6⟩ => thn (ho'' pins s6 σ H6 z' z3 w' w2 _ I6 r4 r6 q6) fun d'' s7 ⟨z4, H7, I7, r7, k3, e3, q7⟩ => ?_))
      subst e3
      cases r7
      exact wpAny_truthy_bool ⟨H7, I7, q7⟩
theorem pxt_chn3 {op op' op'' : CmpOp} {r r' r'' : R2} {f f' f'' : PyData → PyData → Option Bool} (ho : OpR X (compareOp op) r) (ho' : OpR X (compareOp op') r') (ho'' : OpR X (compareOp op'') r'') (hs : SpecB X.K T r f) (hs' : SpecB X.K T r' f') (hs'' : SpecB X.K T r'' f'')
    (ha : PX X T io WW a ma) (hb : PX X T io WW b mb) (hc : PX X T io WW c mc) (hd : PX X T io WW d md)
    (hm : lastMarks [op, op', op''] [b, c, d] = false := by with_unfolding_all rfl) : PXT X T io WW (.Compare a [op, op', op''] [b, c, d] pos) (chn3 f f' f'' ma mb mc md) :=
  (pt_chain3 ho ho' ho'' ha hb hc hd hm).imp fun σ H Q h => chn3_of (g := gX X T io) (Q := fun x H' => ∃ k, x = .bl k ∧ Q k H') hs hs' hs'' (h.mono fun b H' q => ⟨b, rfl, q⟩)
end

/-! ### a list times an int -/
def repL (k : Int) (ds : List PyData) : Option W := if -(2 ^ 63) ≤ k ∧ k < 2 ^ 63 ∧ ds.length * k.toNat ≤ sizeLine then some (.f (List.replicate k.toNat ds).flatten) else none
def mulLM (ma mb : EM W) : EM W := bnd ma fun a => bnd mb fun b => match a, b with
  | .f ds, .d (.int k) => lift (repL k ds)
  | a, b => app2 mulF a b
theorem op_mulL {X : Cx} : OpR X (binaryOp .Mult) (fun x y H Q => rMul' X.K x y H Q ∨ rRep x y H Q) := op_mul'.or op_rep
section
variable {X : Cx} {T : List (Addr × Str)} {io : Addr} {WW : WX} {pos : Pos} {a b : Expr} {ma mb : EM W}
theorem px_mulL (ha : PX X T io WW a ma) (hb : PX X T io WW b mb) : PX X T io WW (.BinOp a .Mult b pos) (mulLM ma mb) := by
  refine (pe_op op_mulL ha hb).imp fun σ H Q h => ?_
  let g : G := gX X T io
  obtain ⟨No, env, rep, h⟩ := h
  refine tX_of rep (fun x env' e => ?_) (fun e => ?_) fun wa env1 v H1 e ev pv fr => ?_
  · rw [show mulLM ma mb env = _ from bnd_ex e] at h; exact h
  · rw [show mulLM ma mb env = _ from bnd_no e] at h; exact h
  rw [show mulLM ma mb env = _ from bnd_ok e] at h
  refine tX_of pv.rep (fun x env' e => ?_) (fun e => ?_) fun wb env2 u H2 e2 ev2 pu fr2 => ?_
  · rw [bnd_ex e] at h; exact exC.back h ev fun a z => plus_of a z
  · rw [bnd_no e] at h; exact h
  rw [bnd_ok e2] at h
  have gen : (match app2 mulF wa wb env2 with
      | .ok w env' => ∀ v H', EvM (Mo g σ env) H (Mo g σ env') H' → PV g No H' σ env' v w → Fr H v w → Q v H'
      | .ex x env' => exC g WW No env σ H x env'
      | .no => False) → rMul' X.K v u H2 Q ∨ rRep v u H2 Q := fun h0 => by
    cases q : app2 mulF wa wb env2 with
    | no => rw [q] at h0; exact h0.elim
    | ex x e' => exact absurd q app2_nex
    | ok w env' =>
      rw [q] at h0
      obtain ⟨rfl, x, y, e3, e4, e5⟩ := app2_ok q
      refine .inl (s2_mul v u H2 Q _ x y w pu.rep.nok pu.rep.tab (pv.pk2 ev2 pu.rep (plus_new fr2) e3) (pu.pk e4) e5 fun v' H' e' t' q' => ?_)
      obtain ⟨p1, p2⟩ := fin_of pu.rep (fun c z => plus_of c (plus_of c z)) e' t' q'
      exact h0 v' H' ((ev.trans ev2).trans e'.up) p1 (p2.back (ev.trans ev2))
  cases wa with
  | d x => exact gen h
  | o k => exact gen h
  | f ds =>
    cases wb with
    | f es => exact gen h
    | o k => exact gen h
    | d y =>
      cases y with
      | int k =>
        have h : match lift (repL k ds) env2 with
          | .ok w env' => ∀ v H', EvM (Mo g σ env) H (Mo g σ env') H' → PV g No H' σ env' v w → Fr H v w → Q v H'
          | .ex x env' => exC g WW No env σ H x env'
          | .no => False := h
        unfold repL at h
        split at h
        · rename_i w env' q
          by_cases hz : -(2 ^ 63) ≤ k ∧ k < 2 ^ 63 ∧ ds.length * k.toNat ≤ sizeLine
          · rw [if_pos hz] at q
            cases q
            obtain ⟨p, xs, rfl, a1, a2, a3, a4⟩ := pv.val
            have uval : Rp X.K (Un2 (plus (plus No (.ref p) (.f ds)) u (.d (.int k))) (Mo g σ env2)) H2 u (.int k) := Rp.tr (Tr.anti fun a z => z) _ pu.val
            cases uval
            have hp2 : H2 p = some (.lst xs) := ev2.keep p _ a1 (fun ps z => by cases z) a4
            have rs2 : Rps X.K (Un2 (plus No (.ref p) (.f ds)) (Mo g σ env2)) H2 xs ds := a2.tr (fun c o hc nt nm => by
              refine ⟨ev2.keep c o hc nt fun z => nm (.inr z), fun z => ?_⟩
              rcases z with z | z
              · exact nm (.inl z)
              · exact (ev2.new c z).elim (fun z => nm (.inr z)) fun z => by rw [hc] at z; cases z) _
            refine .inr ⟨p, k, xs, rfl, rfl, hp2, hz.1, hz.2.1, by rw [rs2.length]; exact hz.2.2, fun q nq => ?_⟩
            have e' : EvM F0 H2 F0 (upd H2 q (.lst (List.replicate k.toNat xs).flatten)) := EvM.upd nq
            have t' := tabs_upd (o := HO.lst (List.replicate k.toNat xs).flatten) pu.rep.tab nq
            obtain ⟨p1, p2⟩ := fin_of (v := .ref q) (w := .f (List.replicate k.toNat ds).flatten) (No := No) pu.rep (fun c z => plus_of c (plus_of c z)) e' t' ⟨q, _, rfl, nq, upd_same, (rs2.rep _).tr (Tr.new nq) _⟩
            exact h _ _ ((ev.trans ev2).trans e'.up) p1 (p2.back (ev.trans ev2))
          · rw [if_neg hz] at q
            cases q
        · rename_i q
          by_cases hz : -(2 ^ 63) ≤ k ∧ k < 2 ^ 63 ∧ ds.length * k.toNat ≤ sizeLine
          · rw [if_pos hz] at q; cases q
          · rw [if_neg hz] at q; cases q
        · exact h.elim
      | _ => exact gen h
end
end PL

set_option Elab.async false
set_option linter.all false
set_option maxRecDepth 100000
/-! PL16: own lists changed: append, pop, extend, xs[i] = v; count, index. -/
namespace PL
open PySem PySem.Spec PyProof.Rows L2

section
variable {g : G} {WW : WX} {No : Ax} {H : Hp} {σ : St} {env : Env} {k : Nat} {ks ks' : List PyData} {a : Addr} {xs ys : List V}
theorem RepS.wr (r : RepS g No H σ env) (h : ownAt env[k]? = some ks) (ha : σ[k]? = some (some (.ref a))) (hx : H a = some (.lst xs)) (rs : Rps g.K (Un2 No (Mo g σ env)) H ys ks') :
    RepS g No (upd H a (.lst ys)) σ (wrS k ks' env) ∧ EvM (Mo g σ env) H (Mo g σ (wrS k ks' env)) (upd H a (.lst ys)) := by
  obtain ⟨a', xs', e1, e2, e3, ma⟩ := r.own h
  rw [ha] at e1
  cases e1
  have t : Tr (Un2 No (Mo g σ env)) H (Un2 No (Mo g σ env)) (upd H a (.lst ys)) := fun c o hc _ nm => ⟨by rw [upd_ne (fun z => nm (.inr (by rw [z]; exact ma)))]; exact hc, nm⟩
  have dom : ∀ b, H b ≠ none → upd H a (.lst ys) b ≠ none := fun b hb => by
    by_cases e : b = a
    · rw [e, upd_same]; exact fun z => by cases z
    · rw [upd_ne e]; exact hb
  refine ⟨r.write h ha (fun b o hb _ ne => by rw [upd_ne ne]; exact hb) dom upd_same (rs.tr t _) (tabs_chg hx r.tab), fun c o hc _ nm => by rw [upd_ne (fun z => nm (by rw [z]; exact ma))]; exact hc, fun c z => .inl ((Mo_wr h c).1 z), dom⟩
theorem RepS.ownA (r : RepS g No H σ env) (h : ownAt env[k]? = some ks) (ha : σ[k]? = some (some (.ref a))) : ∃ xs, H a = some (.lst xs) ∧ Rps g.K (Un2 No (Mo g σ env)) H xs ks := by
  obtain ⟨a', xs', e1, e2, e3, ma⟩ := r.own h
  rw [ha] at e1
  cases e1
  exact ⟨xs', e2, e3⟩
end

/-! ### append -/
def appA (k : Nat) (x : PyData) : EM W := fun env => match ownAt env[k]? with
  | some ks => if ks.length < sizeLine then .ok (.d .none) (wrS k (ks ++ [x]) env) else .no
  | none => .no
def appM (k : Nat) (m : EM W) : EM W := fun env => match ownAt env[k]? with
  | some _ => bnd (bnd m esc) (appA k) env
  | none => .no
section
variable {X : Cx} {T : List (Addr × Str)} {io : Addr} {WW : WX} {p pos apos cpos : Pos} {y : Str} {e i : Expr} {m mi : EM W}
theorem px_append (k : Nat) (he : PX X T io WW e m) (hN : X.N[k]? = some y := by rfl) (hv : Vis X.env.scope y := by first | exact Or.inl rfl | exact Or.inr (Or.inl rfl) | exact Or.inr (Or.inr rfl)) (hd : (y == ("__debug__" : Str)) = false := by decide)
    (hcd : (y == ("__classdict__" : Str)) = false := by decide)
    (hbase : attributeBase (.Name y p) "append" X.env (eval (.Name y p) X.env) = eval (.Name y p) X.env := by rfl)
    (hfew : ((backTo cpos (starEach [e] X.env)).all (fun x => !x.1) && (backToKw cpos (keywordEach [] X.env)).all (fun x => x.1.isSome)
      && decide ([e].length + ([] : List Keyword).length + (if ([] : List Keyword).isEmpty then 0 else 1) < 30)) = true := by rfl)
    (hline : (apos.endLine == cpos.line) = true := by rfl) (hs : starEach [e] X.env = (false, eval e X.env) :: starEach [] X.env := by rfl) :
    PX X T io WW (.Call (.Attribute (.Name y p) "append" apos) [e] [] cpos) (appM k m) := by
  refine (pe_bm PySem.F.plainAttrs_list PySem.F.slot_list_append PySem.F.type_list_append mt_append (pe_var (i := k) hN hv hd hcd) (pa_cons he pa_nil hs) hbase hfew hline hs (by rfl)).imp fun σ H Q h => ?_
  let g : G := gX X T io
  obtain ⟨No, env, rep, h⟩ := h
  unfold appM at h
  cases q0 : ownAt env[k]? with
  | none => rw [q0] at h; exact h.elim
  | some ks0 =>
    rw [q0] at h
    obtain ⟨a, xs0, e1, e2, e3, ma⟩ := rep.own q0
    refine ⟨.ref a, e1, .inl ⟨rfl, xs0, .inl (.inl e2)⟩, ?_⟩
    refine tX_esc (m := m) rep (fun x env' e => ?_) (fun e => ?_) fun x env1 v H1 e ev r rx => ?_
    · rw [bnd_ex e] at h; exact h
    · rw [bnd_no e] at h; exact h
    have h : match appA k x env1 with
      | .ok w env' => ∀ v H', EvM (Mo g σ env) H (Mo g σ env') H' → PV g No H' σ env' v w → Fr H v w → Q v H'
      | .ex x env' => exC g WW No env σ H x env'
      | .no => False := by rw [bnd_ok e] at h; exact h
    unfold appA at h
    cases q1 : ownAt env1[k]? with
    | none => rw [q1] at h; exact h.elim
    | some ks =>
      rw [q1] at h
      dsimp only at h
      by_cases hz : ks.length < sizeLine
      · rw [if_pos hz] at h
        obtain ⟨xs1, h1, h2⟩ := r.ownA q1 e1
        obtain ⟨r', ev'⟩ := r.wr q1 e1 h1 (h2.append (.cons rx .nil))
        exact ⟨a, xs1, v, rfl, rfl, h1, by rw [h2.length]; exact hz, h .non _ (ev.trans ev') ⟨r', .non⟩ trivial⟩
      · rw [if_neg hz] at h; exact h.elim
end

/-! ### pop() -/
def popM (k : Nat) : EM W := fun env => match ownAt env[k]? with
  | some ks => match ks[ks.length - 1]? with
    | some y => .ok (.d y) (wrS k ks.dropLast env)
    | none => .no
  | none => .no
section
variable {X : Cx} {T : List (Addr × Str)} {io : Addr} {WW : WX} {p pos apos cpos : Pos} {y : Str} {e i : Expr} {m mi : EM W}
theorem dropLast_eq {α : Type} (l : List α) : l.dropLast = l.take (l.length - 1) := by rw [List.dropLast_eq_take]
theorem px_pop (k : Nat) (hN : X.N[k]? = some y := by rfl) (hv : Vis X.env.scope y := by first | exact Or.inl rfl | exact Or.inr (Or.inl rfl) | exact Or.inr (Or.inr rfl)) (hd : (y == ("__debug__" : Str)) = false := by decide)
    (hcd : (y == ("__classdict__" : Str)) = false := by decide)
    (hbase : attributeBase (.Name y p) "pop" X.env (eval (.Name y p) X.env) = eval (.Name y p) X.env := by rfl)
    (hline : (apos.endLine == cpos.line) = true := by rfl) : PX X T io WW (.Call (.Attribute (.Name y p) "pop" apos) [] [] cpos) (popM k) := by
  refine (pe_bm0 PySem.F.plainAttrs_list PySem.F.slot_list_pop PySem.F.type_list_pop mt_pop (pe_var (i := k) hN hv hd hcd) hbase hline).imp fun σ H Q h => ?_
  obtain ⟨No, env, rep, h⟩ := h
  unfold popM at h
  cases q0 : ownAt env[k]? with
  | none => rw [q0] at h; exact h.elim
  | some ks =>
    rw [q0] at h
    dsimp only at h
    obtain ⟨a, xs, e1, e2, e3, ma⟩ := rep.own q0
    refine ⟨.ref a, e1, .inl ⟨rfl, xs, .inl (.inl e2)⟩, ?_⟩
    cases q1 : ks[ks.length - 1]? with
    | none => rw [q1] at h; exact h.elim
    | some d =>
      rw [q1] at h
      obtain ⟨v, h1, h2⟩ := e3.get q1
      have hl := e3.length
      have rs : Rps X.K (Un2 No (Mo (gX X T io) σ env)) H xs.dropLast ks.dropLast := by
        rw [dropLast_eq, dropLast_eq, hl]
        exact e3.take _
      obtain ⟨r', ev'⟩ := rep.wr q0 e1 e2 rs
      exact ⟨a, xs, v, rfl, rfl, e2, by rw [hl]; exact h1, h v _ ev' ⟨r', h2.tr ev'.tr _⟩ trivial⟩
end

/-! ### xs[i] = v -/
def setIxA (k : Nat) (x : PyData) (w : W) : SM := fun env => match w, ownAt env[k]? with
  | .d (.int i), some ks => match ixN ks.length i with
    | some j => .nx (wrS k (ks.set j x) env)
    | none => .no
  | _, _ => .no
def setIxM (k : Nat) (mi m : EM W) : SM := fun env => match bnd m esc env with
  | .ok x env1 => match ownAt env1[k]? with
    | some _ => match mi env1 with
      | .ok w env2 => setIxA k x w env2
      | .ex y env' => .ex y env'
      | .no => .no
    | none => .no
  | .ex x env' => .ex x env'
  | .no => .no
section
variable {X : Cx} {T : List (Addr × Str)} {io : Addr} {WW : WX} {p pos p2 : Pos} {y : Str} {e i : Expr} {m mi : EM W}
theorem pz_setIx (k : Nat) (he : PX X T io WW e m) (hi : PX X T io WW i mi) (hN : X.N[k]? = some y := by rfl) (hv : Vis X.env.scope y := by first | exact Or.inl rfl | exact Or.inr (Or.inl rfl) | exact Or.inr (Or.inr rfl)) (hd : (y == ("__debug__" : Str)) = false := by decide)
    (hcd : (y == ("__classdict__" : Str)) = false := by decide)
    (ha : ∀ v, assign (.Subscript (.Name y p) i p2) X.env v = (do
      let ov ← holding [v] (eval (.Name y p) X.env)
      let iv ← holding [v, ov] (eval i X.env)
      standAt p2
      holding [v, ov, iv] (setItem ov iv v)
      release [v, ov, iv] []) := by intro _; rfl)
    (hs : swapsWithSole [.Subscript (.Name y p) i p2] e pos.line X.env = pure false := by rfl) (hw : swappedStores [.Subscript (.Name y p) i p2] e X.env = pure none := by rfl)
    (h1 : (assignEach [.Subscript (.Name y p) i p2] X.env).map (·.2) = [assign (.Subscript (.Name y p) i p2) X.env] := by rfl) : PZ X T io WW (.Assign [.Subscript (.Name y p) i p2] e pos) (setIxM k mi m) := by
  refine (ps_asg he (pg_sub (pe_var (i := k) hN hv hd hcd) hi set_list ha) hs hw h1).imp fun D σ H h => ?_
  let g : G := gX X T io
  obtain ⟨No, env, rep, h⟩ := h
  refine tX_esc rep (fun x env' e => ?_) (fun e => ?_) fun x env1 v H1 e ev r rx => ?_
  · unfold setIxM at h; rw [e] at h; exact ex_of h
  · unfold setIxM at h; rw [e] at h; exact h
  unfold setIxM at h
  rw [e] at h
  dsimp only at h
  cases q0 : ownAt env1[k]? with
  | none => rw [q0] at h; exact h.elim
  | some ks0 =>
    rw [q0] at h
    dsimp only at h
    obtain ⟨a, xs0, e1, e2, e3, ma⟩ := r.own q0
    refine ⟨.ref a, e1, ?_⟩
    have rq : PV g No H1 σ env1 v (.d x) := ⟨r, rx⟩
    refine tX_of r (fun x env' e => ?_) (fun e => ?_) fun w env2 u H2 e5 ev2 pu fr2 => ?_
    · rw [e] at h; exact exC.back (ex_of h) ev fun _ z => z
    · rw [e] at h; exact h
    rw [e5] at h
    dsimp only at h
    unfold setIxA at h
    split at h
    · rename_i j ks q1
      split at h
      · rename_i n hn
        have uval : Rp g.K (Un2 No (Mo g σ env2)) H2 u (.int j) := pu.val
        cases uval
        have r2 : RepS g No H2 σ env2 := pu.base
        obtain ⟨xs1, h1, h2⟩ := r2.ownA q1 e1
        have rx2 : Rp g.K (Un2 No (Mo g σ env2)) H2 v x := rx.tr ev2.tr _
        obtain ⟨r', ev'⟩ := r2.wr q1 e1 h1 (h2.set rx2 n)
        exact ⟨a, xs1, j, n, rfl, rfl, h1, by rw [h2.length]; exact hn, h σ _ ((ev.trans ev2).trans ev') r'⟩
      · exact h.elim
    · exact h.elim
end

/-! ### xs.count(i), xs.index(d) -/
def isLA (a : W) : EM Unit := fun env => match pk a env with
  | some (.list _) => .ok () env
  | _ => .no
def metM (f : PyData → PyData → Option W) (ma mb : EM W) : EM W := bnd ma fun a => bnd (isLA a) fun _ => bnd mb fun b => app2 f a b
def cntF : PyData → PyData → Option W
  | .list xs, .int k => (intsL xs).map fun ns => .d (.int (ns.count k : Nat))
  | _, _ => none
def idxAt (d : PyData) : List PyData → Nat → Option Nat
  | [], _ => none
  | z :: zs, j => if PyData.eqv z d = true then some j else idxAt d zs (j + 1)
def idxF : PyData → PyData → Option W
  | .list xs, d => if SeqAt.shaped (.list xs) = true ∧ SeqAt.shaped d = true then (idxAt d xs 0).map fun j => .d (.int (j : Nat)) else none
  | _, _ => none
theorem idxAt_of {d : PyData} : ∀ {xs : List PyData} {n j : Nat}, idxAt d xs n = some j → ∃ i, j = n + i ∧ ∃ z, xs[i]? = some z ∧ PyData.eqv z d = true ∧ ∀ (m : Nat) (z' : PyData), m < i → xs[m]? = some z' → PyData.eqv z' d = false
  | [], _, _, e => by cases e
  | z :: zs, n, j, e => by
    unfold idxAt at e
    split at e
    · rename_i q
      cases e
      exact ⟨0, rfl, z, rfl, q, fun m z' hm => absurd hm (Nat.not_lt_zero _)⟩
    · rename_i q
      obtain ⟨i, rfl, z1, h1, h2, h3⟩ := idxAt_of e
      refine ⟨i + 1, by omega, z1, h1, h2, fun m z' hm h => ?_⟩
      cases m with
      | zero => cases h; exact Bool.eq_false_iff.mpr q
      | succ m => exact h3 m z' (Nat.lt_of_succ_lt_succ hm) h
section
variable {K : PySem.W.Frag} {T : List (Addr × Str)}
theorem s2_cnt : Spec2 K T (fun x y H Q => rCntI K x [y] H Q) cntF := by
  intro x y H Q N a b w nok t ra rb e post
  unfold cntF at e
  split at e
  · rename_i xs k
    obtain ⟨p, vs, rfl, hp, r⟩ := ra
    cases rb
    cases q : intsL xs with
    | none => rw [q] at e; cases e
    | some ns =>
      rw [q] at e
      cases e
      rw [r.intsL q] at hp
      exact ⟨p, ns, k, rfl, rfl, hp, post _ H (EvM.refl _ _) t (.int _)⟩
  · cases e
theorem s2_idx : Spec2 K T (fun x y H Q => rIndexD K x [y] H Q) idxF := by
  intro x y H Q N a b w nok t ra rb e post
  unfold idxF at e
  split at e
  · rename_i xs
    split at e
    · rename_i hs
      cases q : idxAt b xs 0 with
      | none => rw [q] at e; cases e
      | some j =>
        rw [q] at e
        cases e
        obtain ⟨i, e1, z, h1, h2, h3⟩ := idxAt_of q
        rw [Nat.zero_add] at e1
        subst e1
        have da := ra.dp (SeqAt.canLay_of_shaped hs.1)
        obtain ⟨p, vs, rfl, hp, r⟩ := ra
        exact ⟨p, y, b, xs, j, z, rfl, rfl, da, rb.dp (SeqAt.canLay_of_shaped hs.2), hs.1, hs.2, h1, h2, h3, post _ H (EvM.refl _ _) t (.int _)⟩
    · cases e
  · cases e
end
theorem met_of {g : G} {WW : WX} {σ : St} {H : Hp} {Q : VK} {ma mb : EM W} {r : V → List V → Hp → VK → Prop} {f : PyData → PyData → Option W} (hs : Spec2 g.K g.T (fun x y H Q => r x [y] H Q) f) (h : tX g WW (metM f ma mb) σ H Q) :
    tX g WW ma σ H fun x H1 => tyV g.K "list" x H1 ∧ tX g WW mb σ H1 fun y H2 => r x [y] H2 Q := by
  obtain ⟨No, env, rep, h⟩ := h
  refine tX_of rep (fun x env' e => ?_) (fun e => ?_) fun a env1 v H1 e ev pv fr => ?_
  · rw [show metM f ma mb env = _ from bnd_ex e] at h; exact h
  · rw [show metM f ma mb env = _ from bnd_no e] at h; exact h
  rw [show metM f ma mb env = _ from bnd_ok e] at h
  have hl : ∃ ds, pk a env1 = some (.list ds) := by
    unfold bnd isLA at h
    cases q : pk a env1 with
    | none => rw [q] at h; exact h.elim
    | some d =>
      rw [q] at h
      cases d with
      | list ds => exact ⟨ds, rfl⟩
      | _ => exact h.elim
  obtain ⟨ds, hl⟩ := hl
  rw [show bnd (isLA a) (fun _ => bnd mb fun b => app2 f a b) env1 = bnd mb (fun b => app2 f a b) env1 from bnd_ok (show isLA a env1 = .ok () env1 by unfold isLA; rw [hl])] at h
  refine ⟨?_, ?_⟩
  · obtain ⟨p, xs, rfl, hp, _⟩ := pv.pk hl
    exact .inl ⟨rfl, xs, hp⟩
  refine tX_of pv.rep (fun x env' e => ?_) (fun e => ?_) fun b env2 u H2 e2 ev2 pu fr2 => ?_
  · rw [bnd_ex e] at h; exact exC.back h ev fun a z => plus_of a z
  · rw [bnd_no e] at h; exact h
  rw [bnd_ok e2] at h
  cases q : app2 f a b env2 with
  | no => rw [q] at h; exact h.elim
  | ex x e' => exact absurd q app2_nex
  | ok w env' =>
    rw [q] at h
    obtain ⟨rfl, x, y, e3, e4, e5⟩ := app2_ok q
    refine hs v u H2 Q _ x y w pu.rep.nok pu.rep.tab (pv.pk2 ev2 pu.rep (plus_new fr2) e3) (pu.pk e4) e5 fun v' H' e' t' q' => ?_
    obtain ⟨p1, p2⟩ := fin_of pu.rep (fun c z => plus_of c (plus_of c z)) e' t' q'
    exact h v' H' ((ev.trans ev2).trans e'.up) p1 (p2.back (ev.trans ev2))
section
variable {X : Cx} {T : List (Addr × Str)} {io : Addr} {WW : WX} {apos cpos : Pos} {o e : Expr} {ma mb : EM W} {name : Str}
theorem px_lm1 {id : String} {r : V → List V → Hp → VK → Prop} {f : PyData → PyData → Option W} (slot : Slot "list" name id) (hty : typeOf (.builtin id) = pure (.type "method_descriptor")) (hm : MtR X id r) (hsp : Spec2 X.K T (fun x y H Q => r x [y] H Q) f) (ho : PX X T io WW o ma) (he : PX X T io WW e mb)
    (hbase : attributeBase o name X.env (eval o X.env) = eval o X.env := by rfl)
    (hfew : ((backTo cpos (starEach [e] X.env)).all (fun x => !x.1) && (backToKw cpos (keywordEach [] X.env)).all (fun x => x.1.isSome)
      && decide ([e].length + ([] : List Keyword).length + (if ([] : List Keyword).isEmpty then 0 else 1) < 30)) = true := by rfl)
    (hline : (apos.endLine == cpos.line) = true := by rfl) (hs : starEach [e] X.env = (false, eval e X.env) :: starEach [] X.env := by rfl) :
    PX X T io WW (.Call (.Attribute o name apos) [e] [] cpos) (metM f ma mb) :=
  (pe_bm PySem.F.plainAttrs_list slot hty hm ho (pa_cons he pa_nil hs) hbase hfew hline hs (by rfl)).imp fun σ H Q h => met_of (g := gX X T io) hsp h
end
end PL

set_option Elab.async false
set_option linter.all false
set_option maxRecDepth 100000
/-! PL17: comprehensions of two clauses. -/
namespace PL
open PySem PySem.Spec PyProof.Rows L2

def stepC (t : Tg) (tt : EM Bool) (te : EM W) (vs : List Nat) (x : PyData) (acc : List PyData) (env : Env) : Option (List PyData × Env) := match asgT t x env with
  | none => none
  | some e1 => match tt e1 with
    | .ok false e2 => if okV vs e2 = true then some (acc, wipeE vs e2) else none
    | .ok true e2 => match bnd te esc e2 with
      | .ok y e3 => if okV vs e3 = true ∧ acc.length < sizeLine then some (acc ++ [y], wipeE vs e3) else none
      | _ => none
    | _ => none
def loopI (t : Tg) (tt : EM Bool) (te : EM W) (vs : List Nat) : List PyData → List PyData → Env → Option (List PyData × Env)
  | [], acc, env => some (acc, env)
  | x :: xs, acc, env => match stepC t tt te vs x acc env with
    | some (acc', env') => loopI t tt te vs xs acc' env'
    | none => none
def step2 (t : Tg) (tt : EM Bool) (it1 : EM (List PyData)) (t1 : Tg) (tt1 : EM Bool) (te : EM W) (vs vs1 : List Nat) (x : PyData) (acc : List PyData) (env : Env) : Option (List PyData × Env) := match asgT t x env with
  | none => none
  | some e1 => match tt e1 with
    | .ok false e2 => if okV vs e2 = true then some (acc, wipeE vs e2) else none
    | .ok true e2 => match it1 e2 with
      | .ok ys e3 => if okV vs1 e3 = true then match loopI t1 tt1 te vs1 ys acc (wipeE vs1 e3) with
          | some (acc', e4) => if okV vs e4 = true then some (acc', wipeE vs e4) else none
          | none => none
        else none
      | _ => none
    | _ => none
def loop2 (t : Tg) (tt : EM Bool) (it1 : EM (List PyData)) (t1 : Tg) (tt1 : EM Bool) (te : EM W) (vs vs1 : List Nat) : List PyData → List PyData → Env → Option (List PyData × Env)
  | [], acc, env => some (acc, env)
  | x :: xs, acc, env => match step2 t tt it1 t1 tt1 te vs vs1 x acc env with
    | some (acc', env') => loop2 t tt it1 t1 tt1 te vs vs1 xs acc' env'
    | none => none
def inV (is vs : List Nat) : Bool := is.all fun i => vs.contains i
def lcM2 (it : EM (List PyData)) (t : Tg) (tt : EM Bool) (it1 : EM (List PyData)) (t1 : Tg) (tt1 : EM Bool) (te : EM W) (vs vs1 : List Nat) : EM W := fun env => match it env with
  | .ok xs env1 => if okV vs env1 = true ∧ inV t.sl vs = true ∧ inV t1.sl vs1 = true ∧ inV vs1 vs = true then match loop2 t tt it1 t1 tt1 te vs vs1 xs [] (wipeE vs env1) with
      | some (ys, env2) => .ok (.f ys) (backE vs env1 env2)
      | none => .no
    else .no
  | .ex x env1 => .ex x env1
  | .no => .no
theorem inV_of {is vs : List Nat} (h : inV is vs = true) {j : Nat} (hj : j ∉ vs) : j ∉ is := fun z => hj (List.contains_iff_mem.mp (List.all_eq_true.mp h j z))

/-- the list at D on its way, from (M0, H0) on -/
theorem Tr.trans {N1 N2 N3 : Ax} {H1 H2 H3 : Hp} (a : Tr N1 H1 N2 H2) (b : Tr N2 H2 N3 H3) : Tr N1 H1 N3 H3 := fun c o h nt n => by
  obtain ⟨h2, n2⟩ := a c o h nt n
  exact b c o h2 nt n2
structure LI (g : G) (No : Ax) (M0 : Ax) (H0 : Hp) (N1 : Ax) (H1 : Hp) (D : Addr) (σ : St) (env : Env) (acc : List PyData) (H : Hp) : Prop where
  tr : Tr N1 H1 (Un2 (fun b => No b ∨ b = D) (Mo g σ env)) H
  rep : RepS g (fun b => No b ∨ b = D) H σ env
  ev : EvM M0 H0 (Mo g σ env) H
  at_ : ∃ accV, H D = some (.lst accV) ∧ Rps g.K (Un2 (fun b => No b ∨ b = D) (Mo g σ env)) H accV acc
section
variable {g : G} {No M0 N1 : Ax} {H0 H H' H1 : Hp} {D : Addr} {σ σ2 : St} {env env' env2 : Env} {acc acc' : List PyData} {vs : List Nat}
theorem LI.nMo (l : LI g No M0 H0 N1 H1 D σ env acc H) : ¬ Mo g σ env D := (l.rep.nout D (.inr rfl)).2
/-- the heap goes on, D stays -/
theorem LI.go (l : LI g No M0 H0 N1 H1 D σ env acc H) (e : EvM (Mo g σ env) H (Mo g σ2 env2) H') (r : RepS g (fun b => No b ∨ b = D) H' σ2 env2) : LI g No M0 H0 N1 H1 D σ2 env2 acc H' := by
  obtain ⟨accV, h1, h2⟩ := l.at_
  exact ⟨l.tr.trans e.tr, r, l.ev.trans e, accV, e.keep D _ h1 (fun ps z => by cases z) l.nMo, h2.tr e.tr _⟩
theorem LI.wipe (l : LI g No M0 H0 N1 H1 D σ env acc H) (ok : okV vs env = true) : LI g No M0 H0 N1 H1 D (wipe σ vs) (wipeE vs env) acc H :=
  l.go ((EvM.refl _ _).mono2 fun b z => (Mo_wipe ok b).1 z) (l.rep.wipe ok)
/-- one more -/
theorem LI.put {u : V} {x : PyData} (l : LI g No M0 H0 N1 H1 D σ env acc H) (n0 : H0 D = none) (rx : Rp g.K (Un2 (fun b => No b ∨ b = D) (Mo g σ env)) H u x) :
    ∃ accV, H D = some (.lst accV) ∧ accV.length = acc.length ∧ LI g No M0 H0 N1 H1 D σ env (acc ++ [x]) (upd H D (.lst (accV ++ [u]))) := by
  obtain ⟨accV, h1, h2⟩ := l.at_
  have tr : Tr (Un2 (fun b => No b ∨ b = D) (Mo g σ env)) H (Un2 (fun b => No b ∨ b = D) (Mo g σ env)) (upd H D (.lst (accV ++ [u]))) := fun c o hc _ nm => ⟨by rw [upd_ne (fun zz => nm (.inl (.inr zz)))]; exact hc, nm⟩
  refine ⟨accV, h1, h2.length, l.tr.trans tr, l.rep.chg (.inr rfl) h1, ⟨fun c o hc nt nm => ?_, fun c zz => l.ev.new c zz, fun c hc => ?_⟩, _, upd_same, (h2.tr tr _).append (.cons (rx.tr tr _) .nil)⟩
  · have ne : c ≠ D := ne_of_none hc n0
    rw [upd_ne ne]
    exact l.ev.keep c o hc nt nm
  · have ne : c ≠ D := fun zz => hc (by rw [zz]; exact n0)
    rw [upd_ne ne]
    exact l.ev.dom c hc
theorem turn_lc {t : Tg} {tt : EM Bool} {te : EM W} {v : V} {x : PyData} (l : LI g No M0 H0 N1 H1 D (L2.wipe σ vs) env acc H) (n0 : H0 D = none) (rv : Rp g.K (Un2 (fun b => No b ∨ b = D) (Mo g (L2.wipe σ vs) env)) H v x) (hsl : inV t.sl vs = true) (z : stepC t tt te vs x acc env = some (acc', env')) :
    tgR g t v (L2.wipe σ vs) H fun σ2 H2 => L2.wipe σ2 vs = L2.wipe σ vs ∧ tT g WF tt σ2 H2 fun b H3 =>
      if b = true then tX g WF te σ2 H3 fun y H4 => ∃ a, H4 D = some (.lst a) ∧ a.length < sizeLine ∧ LI g No M0 H0 N1 H1 D (L2.wipe σ vs) env' acc' (upd H4 D (.lst (a ++ [y]))) else LI g No M0 H0 N1 H1 D (L2.wipe σ vs) env' acc' H3 := by
  refine ⟨_, env, x, l.rep, rv, ?_⟩
  unfold stepC at z
  cases qa : asgT t x env with
  | none => rw [qa] at z; cases z
  | some e1 =>
    rw [qa] at z
    dsimp only at z
    intro σ2 sto
    have hw : L2.wipe σ2 vs = L2.wipe σ vs := wipe_eq (by rw [sto.len, wipe_length]) fun j hj => sto.out j (inV_of hsl hj)
    refine ⟨hw, ?_⟩
    have l1 : LI g No M0 H0 N1 H1 D σ2 e1 acc H := l.go ((EvM.refl _ _).mono2 sto.mo) sto.rep
    refine tT_of sto.rep (fun x e qt => ?_) (fun qt => ?_) fun b e2 H4 qt ev4 r4 => ?_
    · rw [qt] at z; cases z
    · rw [qt] at z; cases z
    · rw [qt] at z
      have l4 := l1.go ev4 r4
      cases b with
      | false =>
        rw [if_neg Bool.false_ne_true]
        dsimp only at z
        split at z
        · rename_i okv
          cases z
          have := l4.wipe okv
          rw [hw] at this
          exact this
        · cases z
      | true =>
        rw [if_pos rfl]
        dsimp only at z
        refine tX_esc r4 (fun x e qe => ?_) (fun qe => ?_) fun y e3 u H5 qe ev5 r5 ry => ?_
        · rw [qe] at z; cases z
        · rw [qe] at z; cases z
        · rw [qe] at z
          dsimp only at z
          split at z
          · rename_i okv
            cases z
            obtain ⟨accV, a1, a2, a3⟩ := (l4.go ev5 r5).put n0 ry
            refine ⟨accV, a1, by rw [a2]; exact okv.2, ?_⟩
            have := a3.wipe okv.1
            rw [hw] at this
            exact this
          · cases z
/-- the second clause's own loop -/
theorem walk_lc {t : Tg} {tt : EM Bool} {te : EM W} {J : It} {ys : List PyData} {Nx : Hp → Prop} {H4 : Hp} (l : LI g No M0 H0 N1 H1 D σ env acc H4) (n0 : H0 D = none) (hsl : inV t.sl vs = true) (ok : okV vs env = true)
    (it : ItOk g.K g.T (Un2 (fun b => No b ∨ b = D) (Mo g σ env)) J ys H4) (z : loopI t tt te vs ys acc (wipeE vs env) = some (acc', env')) (hN : ∀ H', LI g No M0 H0 N1 H1 D (L2.wipe σ vs) env' acc' H' → Nx H') :
    ∃ W1 : Nat → Nat → Hp → Prop, (∃ m, W1 0 m H4) ∧ ∀ j k H, W1 j k H →
      (J.stop j H ∧ Nx H) ∨ (J.go j H ∧ ∃ Nx1 : Hp → Prop, (∀ H', Nx1 H' → ∃ k', k' < k ∧ W1 (j + 1) k' H') ∧ ∀ x H', J.yld j H x H' → tgR g t x (L2.wipe σ vs) H' fun σ3 H5 => L2.wipe σ3 vs = L2.wipe σ vs ∧ tT g WF tt σ3 H5 fun b H6 =>
        if b = true then tX g WF te σ3 H6 fun y H7 => ∃ acc, H7 D = some (.lst acc) ∧ acc.length < sizeLine ∧ Nx1 (upd H7 D (.lst (acc ++ [y]))) else Nx1 H6) := by
  obtain ⟨Gd, Y, wk, hG, hY⟩ := it
  let P : Nat → Hp → Prop := fun i H' => ∃ e1 a1, LI g No M0 H0 (Un2 (fun b => No b ∨ b = D) (Mo g σ env)) H4 D (L2.wipe σ vs) e1 a1 H' ∧ loopI t tt te vs (ys.drop i) a1 e1 = some (acc', env')
  have l0 : LI g No M0 H0 (Un2 (fun b => No b ∨ b = D) (Mo g σ env)) H4 D σ env acc H4 := ⟨fun c o h _ n => ⟨h, n⟩, l.rep, l.ev, l.at_⟩
  refine ⟨fun i m H => m = ys.length - i ∧ i ≤ ys.length ∧ P i H, ⟨ys.length, by simp, Nat.zero_le _, wipeE vs env, acc, l0.wipe ok, z⟩, ?_⟩
  rintro i m H ⟨rfl, hi, e1, a1, l1, z1⟩
  have q := hG _ H l1.tr
  by_cases hlt : i < ys.length
  · rw [drop_cons hlt] at z1
    unfold loopI at z1
    cases qs : stepC t tt te vs ys[i] a1 e1 with
    | none => rw [qs] at z1; cases z1
    | some r =>
      rw [qs] at z1
      obtain ⟨a2, e2⟩ := r
      refine .inr ⟨wk.goes i H hlt q, P (i + 1), fun H' p => ⟨ys.length - (i + 1), by omega, rfl, hlt, p⟩, fun x H' y => ?_⟩
      obtain ⟨e3, t3, rv⟩ := hY _ H i x H' ys[i] l1.tr l1.rep.nok l1.rep.tab (List.getElem?_eq_getElem hlt) (wk.yields i H x H' hlt q y)
      have l3 := l1.go e3.up (l1.rep.ev e3 t3 fun a z => .inl z)
      obtain ⟨No', env'', x', r', rv', h⟩ := turn_lc l3 n0 rv hsl qs
      refine ⟨No', env'', x', r', rv', ?_⟩
      cases qa : asgT t x' env'' with
      | none => rw [qa] at h; exact h.elim
      | some e5 =>
        rw [qa] at h
        intro σ' sto
        obtain ⟨h1, h2⟩ := h σ' sto
        refine ⟨h1, h2.mono fun b H6 h6 => ?_⟩
        cases b with
        | false =>
          rw [if_neg Bool.false_ne_true] at h6 ⊢
          exact ⟨e2, a2, h6, z1⟩
        | true =>
          rw [if_pos rfl] at h6 ⊢
          obtain ⟨No5, env5, r5, h5⟩ := h6
          refine ⟨No5, env5, r5, ?_⟩
          cases qe : te env5 with
          | no => rw [qe] at h5; exact h5
          | ex x e => rw [qe] at h5; exact h5
          | ok w e =>
            rw [qe] at h5
            intro v H7 ev pv fr
            obtain ⟨a, b1, b2, b3⟩ := h5 v H7 ev pv fr
            exact ⟨a, b1, b2, e2, a2, b3, z1⟩
  · have e : i = ys.length := by omega
    subst e
    rw [List.drop_length] at z1
    cases z1
    exact .inl ⟨wk.stops H q, hN H ⟨l.tr.trans l1.tr, l1.rep, l1.ev, l1.at_⟩⟩
end
end PL

set_option Elab.async false
set_option linter.all false
set_option maxRecDepth 100000
/-! PL18: comprehensions of two clauses, the rule; stores of comprehensions. -/
namespace PL
open PySem PySem.Spec PyProof.Rows L2

theorem wipe_wipe {σ : St} {vs vs1 : List Nat} (h : inV vs1 vs = true) : wipe (wipe σ vs1) vs = wipe σ vs :=
  wipe_eq (wipe_length σ vs1) fun j hj => by
    rw [wipe_out hj, wipe_out (inV_of h hj)]
section
variable {g : G} {No M0 N1 : Ax} {H0 H H' H1 : Hp} {D : Addr} {σ σ2 : St} {env env' env2 : Env} {acc acc' : List PyData} {vs vs1 : List Nat}
theorem tI.mono {WW : WX} {it : EM (List PyData)} {R R' : It → Hp → Prop} (h : tI g WW it σ H R) (i : ∀ J H, R J H → R' J H) : tI g WW it σ H R' := by
  obtain ⟨No, env, r, h⟩ := h
  refine ⟨No, env, r, ?_⟩
  split at h
  · exact fun J H' e q k => i _ _ (h J H' e q k)
  · exact h
  · exact h
theorem turn_lc2 {t t1 : Tg} {tt tt1 : EM Bool} {te : EM W} {it1 : EM (List PyData)} {v : V} {x : PyData} (l : LI g No M0 H0 N1 H1 D (wipe σ vs) env acc H) (n0 : H0 D = none) (rv : Rp g.K (Un2 (fun b => No b ∨ b = D) (Mo g (wipe σ vs) env)) H v x)
    (hsl : inV t.sl vs = true) (hsl1 : inV t1.sl vs1 = true) (hv : inV vs1 vs = true) (z : step2 t tt it1 t1 tt1 te vs vs1 x acc env = some (acc', env')) {Nx : Hp → Prop} (hN : ∀ H', LI g No M0 H0 N1 H1 D (wipe σ vs) env' acc' H' → Nx H') :
    tgR g t v (wipe σ vs) H fun σ2 H2 => wipe σ2 vs = wipe σ vs ∧ tT g WF tt σ2 H2 fun b H3 =>
      if b = true then tI g WF it1 σ2 H3 fun J1 H4 => ∃ W1 : Nat → Nat → Hp → Prop, (∃ m, W1 0 m H4) ∧ ∀ j k H, W1 j k H →
        (J1.stop j H ∧ Nx H) ∨ (J1.go j H ∧ ∃ Nx1 : Hp → Prop, (∀ H', Nx1 H' → ∃ k', k' < k ∧ W1 (j + 1) k' H') ∧ ∀ x H', J1.yld j H x H' → tgR g t1 x (wipe σ2 vs1) H' fun σ3 H5 => wipe σ3 vs1 = wipe σ2 vs1 ∧ tT g WF tt1 σ3 H5 fun b H6 =>
          if b = true then tX g WF te σ3 H6 fun y H7 => ∃ acc, H7 D = some (.lst acc) ∧ acc.length < sizeLine ∧ Nx1 (upd H7 D (.lst (acc ++ [y]))) else Nx1 H6)
      else Nx H3 := by
  refine ⟨_, env, x, l.rep, rv, ?_⟩
  unfold step2 at z
  cases qa : asgT t x env with
  | none => rw [qa] at z; cases z
  | some e1 =>
    rw [qa] at z
    dsimp only at z
    intro σ2 sto
    have hw : wipe σ2 vs = wipe σ vs := wipe_eq (by rw [sto.len, wipe_length]) fun j hj => sto.out j (inV_of hsl hj)
    refine ⟨hw, ?_⟩
    have l1 : LI g No M0 H0 N1 H1 D σ2 e1 acc H := l.go ((EvM.refl _ _).mono2 sto.mo) sto.rep
    refine tT_of sto.rep (fun x e qt => ?_) (fun qt => ?_) fun b e2 H4 qt ev4 r4 => ?_
    · rw [qt] at z; cases z
    · rw [qt] at z; cases z
    · rw [qt] at z
      have l4 := l1.go ev4 r4
      cases b with
      | false =>
        rw [if_neg Bool.false_ne_true]
        dsimp only at z
        split at z
        · rename_i okv
          cases z
          have := l4.wipe okv
          rw [hw] at this
          exact hN _ this
        · cases z
      | true =>
        rw [if_pos rfl]
        dsimp only at z
        refine ⟨_, e2, r4, ?_⟩
        cases qi : it1 e2 with
        | no => rw [qi] at z; cases z
        | ex x e => rw [qi] at z; cases z
        | ok ys e3 =>
          rw [qi] at z
          dsimp only at z
          split at z
          · rename_i okv
            cases ql : loopI t1 tt1 te vs1 ys acc (wipeE vs1 e3) with
            | none => rw [ql] at z; cases z
            | some r =>
              rw [ql] at z
              obtain ⟨a2, e4⟩ := r
              dsimp only at z
              split at z
              · rename_i okv4
                cases z
                intro J H5 ev5 r5 it
                refine walk_lc (l4.go ev5 r5) n0 hsl1 okv it ql fun H' l' => hN H' ?_
                have := l'.wipe okv4
                rw [wipe_wipe hv, hw] at this
                exact this
              · cases z
          · cases z
end
section
variable {X : Cx} {T : List (Addr × Str)} {io : Addr} {WW : WX} {pos p2 : Pos} {tg iter elt c tg1 iter1 : Expr} {ifs ifs1 : List Expr} {it it1 : EM (List PyData)} {t t1 : Tg} {tt tt1 : EM Bool} {te : EM W} {scope : Scope} {own : List (Str × Nat)} {vs1 : List Nat}
theorem loopI_e {t : Tg} {tt : EM Bool} {te : EM W} {vs vs2 : List Nat} : ∀ {xs acc acc' : List PyData} {env env' : Env}, True → loopI t tt te vs xs acc env = some (acc', env') → True := fun _ _ => trivial
theorem loop2_e {vs vs1 : List Nat} : ∀ {xs acc acc' : List PyData} {env env' : Env}, (∀ i, i ∈ vs → ∀ s, env[i]? = some s → s = .e) → loop2 t tt it1 t1 tt1 te vs vs1 xs acc env = some (acc', env') → ∀ i, i ∈ vs → ∀ s, env'[i]? = some s → s = .e
  | [], acc, acc', env, env', h, e => by cases e; exact h
  | x :: xs, acc, acc', env, env', h, e => by
    unfold loop2 at e
    split at e
    · rename_i a1 e1 q
      refine loop2_e ?_ e
      unfold step2 at q
      split at q
      · cases q
      · split at q
        · split at q
          · cases q; exact wipeE_e
          · cases q
        · split at q
          · split at q
            · split at q
              · split at q
                · cases q; exact wipeE_e
                · cases q
              · cases q
            · cases q
          · cases q
        · cases q
    · cases e
theorem lc2_of {σ : St} {H : Hp} {Q : VK} {own1 : List Nat} (h : tX (gX X T io) WW (lcM2 it t tt it1 t1 tt1 te own1 vs1) σ H Q) :
    tLc2 (tI (gX X T io) WW it) (tgR (gX X T io) t) (tT (gX X T io) WF tt) (tI (gX X T io) WF it1) (tgR (gX X T io) t1) (tT (gX X T io) WF tt1) (tX (gX X T io) WF te) own1 vs1 σ H Q := by
  obtain ⟨No, env, rep, h⟩ := h
  refine ⟨No, env, rep, ?_⟩
  unfold lcM2 at h
  cases q : it env with
  | no => rw [q] at h; exact h
  | ex x env' => rw [q] at h; exact h
  | ok xs env1 =>
    rw [q] at h
    intro J H1 ev r1 ⟨Gd, Y, wk, hG, hY⟩ D nD
    dsimp only at h
    by_cases hok : okV own1 env1 = true ∧ inV t.sl own1 = true ∧ inV t1.sl vs1 = true ∧ inV vs1 own1 = true
    · rw [if_pos hok] at h
      obtain ⟨ok1, hsl, hsl1, hv⟩ := hok
      cases ql : loop2 t tt it1 t1 tt1 te own1 vs1 xs [] (wipeE own1 env1) with
      | none => rw [ql] at h; exact h.elim
      | some r =>
        obtain ⟨ys, env2⟩ := r
        rw [ql] at h
        dsimp only at h
        let g : G := gX X T io
        let N1 : Ax := Un2 No (Mo g σ env1)
        have r0 : RepS g (fun b => No b ∨ b = D) (upd H1 D (.lst [])) σ env1 := r1.ev (EvM.upd nD) (tabs_upd r1.tab nD) fun b z => z.imp id fun z => ⟨by rw [z]; exact nD, by rw [z, upd_same]; exact fun q => by cases q⟩
        have l0 : LI g No (Mo g σ env1) H1 N1 H1 D σ env1 [] (upd H1 D (.lst [])) := ⟨fun c o hc nt nm => by
            have ne := ne_of_none hc nD
            exact ⟨by rw [upd_ne ne]; exact hc, fun zz => zz.elim (fun zz => zz.elim (fun zz => nm (.inl zz)) ne) fun zz => nm (.inr zz)⟩, r0, EvM.upd nD, [], upd_same, .nil⟩
        let P : Nat → Hp → Prop := fun i H' => ∃ e1 a1, LI g No (Mo g σ env1) H1 N1 H1 D (wipe σ own1) e1 a1 H' ∧ loop2 t tt it1 t1 tt1 te own1 vs1 (xs.drop i) a1 e1 = some (ys, env2)
        refine ⟨fun i m H => m = xs.length - i ∧ i ≤ xs.length ∧ P i H, ⟨xs.length, by simp, Nat.zero_le _, _, [], l0.wipe ok1, ql⟩, ?_⟩
        rintro i m H' ⟨rfl, hi, e1, a1, l1, z1⟩
        have trD : Tr N1 H1 (Un2 (fun b => No b ∨ b = D) (Mo g (wipe σ own1) e1)) H' := l1.tr
        have qG := hG _ H' trD
        by_cases hlt : i < xs.length
        · rw [drop_cons hlt] at z1
          unfold loop2 at z1
          cases qs : step2 t tt it1 t1 tt1 te own1 vs1 xs[i] a1 e1 with
          | none => rw [qs] at z1; cases z1
          | some r =>
            rw [qs] at z1
            obtain ⟨a2, e2⟩ := r
            refine .inr ⟨wk.goes i H' hlt qG, P (i + 1), fun H'' p => ⟨xs.length - (i + 1), by omega, rfl, hlt, p⟩, fun x H3 y => ?_⟩
            obtain ⟨e3, t3, rv⟩ := hY _ H' i x H3 xs[i] trD l1.rep.nok l1.rep.tab (List.getElem?_eq_getElem hlt) (wk.yields i H' x H3 hlt qG y)
            exact turn_lc2 (l1.go e3.up (l1.rep.ev e3 t3 fun a z => .inl z)) nD rv hsl hsl1 hv qs fun H5 l5 => ⟨e2, a2, l5, z1⟩
        · have e : i = xs.length := by omega
          subst e
          rw [List.drop_length] at z1
          cases z1
          refine .inl ⟨wk.stops H' qG, ?_⟩
          have hw := loop2_e wipeE_e ql
          obtain ⟨rb, iff⟩ := r1.back ok1 l1.rep hw trD
          have nMo : ¬ Mo g σ (backE own1 env1 env2) D := (rb.nout D (.inr rfl)).2
          obtain ⟨accV, hD, ra⟩ := l1.at_
          refine h (.ref D) H' (ev.trans (l1.ev.mono2 fun b z => (iff b).1 z)) ⟨rb, D, accV, rfl, hD, ra.tr (Tr.anti fun b z => z.imp id (iff b).1) _, fun z => (r1.nout D z).1 nD, nMo⟩ ?_
          show H D = none
          cases qq : H D with
          | none => rfl
          | some o => exact absurd nD (ev.dom D (by rw [qq]; exact fun z => by cases z))
    · rw [if_neg hok] at h
      exact h.elim
theorem px_lc2 (hc : X.calm = true) (hN : X.N.Nodup) (hi : PIx X T io WW tg iter it) (ok : BlkOk X.N X.env.scope scope own) (hv : ∀ i ∈ vs1, i ∈ own.map (·.2))
    (hg : ∀ (s : Shared) (H : Hp) (C : Addr) (cl : List (Str × Addr)) (fp : List Addr), PGx (X.blk s H scope (compEnvC scope cl C X.env) fp) T io tg t)
    (ht : ∀ (s : Shared) (H : Hp) (C : Addr) (cl : List (Str × Addr)) (fp : List Addr), PTs (X.blk s H scope (compEnvC scope cl C X.env) fp) ifs (tT (gX (X.blk s H scope (compEnvC scope cl C X.env) fp) T io) WF tt))
    (hi1 : ∀ (s : Shared) (H : Hp) (C : Addr) (cl : List (Str × Addr)) (fp : List Addr), PIx (X.blk s H scope (compEnvC scope cl C X.env) fp) T io WF tg1 iter1 it1)
    (hg1 : ∀ (s : Shared) (H : Hp) (C : Addr) (cl : List (Str × Addr)) (fp : List Addr), PGx (X.blk s H scope (compEnvC scope cl C X.env) fp) T io tg1 t1)
    (ht1 : ∀ (s : Shared) (H : Hp) (C : Addr) (cl : List (Str × Addr)) (fp : List Addr), PTs (X.blk s H scope (compEnvC scope cl C X.env) fp) ifs1 (tT (gX (X.blk s H scope (compEnvC scope cl C X.env) fp) T io) WF tt1))
    (he : ∀ (s : Shared) (H : Hp) (C : Addr) (cl : List (Str × Addr)) (fp : List Addr), PX (X.blk s H scope (compEnvC scope cl C X.env) fp) T io WF elt te) (hs : ∀ x, foldedSetIterable iter X.env x = pure x := by intro _; rfl) (hs1 : ∀ env x, foldedSetIterable iter1 env x = pure x := by intro _ _; rfl) :
    PX X T io WW (.ListComp elt [⟨tg, iter, ifs, 0⟩, ⟨tg1, iter1, ifs1, 0⟩] scope pos) (lcM2 it t tt it1 t1 tt1 te (own.map (·.2)) vs1) :=
  (pe_lc2 (wi := tI (gX X T io) WW it) (g := tgR (gX X T io) t) (tt := tT (gX X T io) WF tt) (wi1 := tI (gX X T io) WF it1) (g1 := tgR (gX X T io) t1) (tt1 := tT (gX X T io) WF tt1) (te := tX (gX X T io) WF te) hc hN hi ok hv hg ht hi1 hg1 ht1 he hs hs1).imp fun σ H Q h => lc2_of h
end
end PL

set_option Elab.async false
set_option linter.all false
set_option maxRecDepth 100000
/-! PL19: x = [..] on one line; a, b = x, y. -/
namespace PL
open PySem PySem.Spec PyProof.Rows L2

section
variable {X : Cx} {T : List (Addr × Str)} {io : Addr} {WW : WX} {pos p2 py spos : Pos} {tg iter elt c tg1 iter1 : Expr} {ifs ifs1 : List Expr} {it it1 : EM (List PyData)} {t t1 : Tg} {tt tt1 : EM Bool} {te m : EM W} {scope : Scope} {own : List (Str × Nat)} {vs1 : List Nat} {y : Str}
theorem set_of {i : Nat} {σ : St} {H : Hp} {D : Ends} (h : tZ (gX X T io) WW (setM i m) D σ H) : tX (gX X T io) WW m σ H fun v H1 => D.nx (σ.set i (some v)) H1 := by
  obtain ⟨No, env, rep, h⟩ := h
  refine tX_of rep (fun x env' e => ?_) (fun e => ?_) fun w env1 v H1 e ev pv fr => ?_
  · unfold setM at h; rw [e] at h; exact ex_of h
  · unfold setM at h; rw [e] at h; exact h
  · unfold setM at h; rw [e] at h
    exact setW_of h ev pv fr
theorem pz_setLc (i : Nat) (hc : X.calm = true) (hN : X.N.Nodup) (hy : X.N[i]? = some y) (hyl : X.env.scope.names.lookup y = some .local)
    (hsw : swapsWith (.ListComp elt [⟨tg, iter, ifs, 0⟩] scope pos) (some (.Name y py)) spos.line X.env = pure true) (hi : PIx X T io WW tg iter it) (ok : BlkOk X.N X.env.scope scope own)
    (hg : ∀ (s : Shared) (H : Hp) (C : Addr) (cl : List (Str × Addr)) (fp : List Addr), PGx (X.blk s H scope (compEnvC scope cl C X.env) fp) T io tg t)
    (ht : ∀ (s : Shared) (H : Hp) (C : Addr) (cl : List (Str × Addr)) (fp : List Addr), PTs (X.blk s H scope (compEnvC scope cl C X.env) fp) ifs (tT (gX (X.blk s H scope (compEnvC scope cl C X.env) fp) T io) WF tt))
    (he : ∀ (s : Shared) (H : Hp) (C : Addr) (cl : List (Str × Addr)) (fp : List Addr), PX (X.blk s H scope (compEnvC scope cl C X.env) fp) T io WF elt te) (hs : ∀ x, foldedSetIterable iter X.env x = pure x := by intro _; rfl) :
    PZ X T io WW (.Assign [.Name y py] (.ListComp elt [⟨tg, iter, ifs, 0⟩] scope pos) spos) (setM i (lcM it t tt te (own.map (·.2)))) :=
  (ps_setLc (wi := tI (gX X T io) WW it) (g := tgR (gX X T io) t) (tt := tT (gX X T io) WF tt) (te := tX (gX X T io) WF te) hc hN hy hyl hsw hi ok hg ht he hs).imp fun D σ H h => lc_of (set_of h)
theorem pz_setLc2 (i : Nat) (hc : X.calm = true) (hN : X.N.Nodup) (hy : X.N[i]? = some y) (hyl : X.env.scope.names.lookup y = some .local)
    (hsw : swapsWith (.ListComp elt [⟨tg, iter, ifs, 0⟩, ⟨tg1, iter1, ifs1, 0⟩] scope pos) (some (.Name y py)) spos.line X.env = pure true) (hi : PIx X T io WW tg iter it) (ok : BlkOk X.N X.env.scope scope own) (hv : ∀ i ∈ vs1, i ∈ own.map (·.2))
    (hg : ∀ (s : Shared) (H : Hp) (C : Addr) (cl : List (Str × Addr)) (fp : List Addr), PGx (X.blk s H scope (compEnvC scope cl C X.env) fp) T io tg t)
    (ht : ∀ (s : Shared) (H : Hp) (C : Addr) (cl : List (Str × Addr)) (fp : List Addr), PTs (X.blk s H scope (compEnvC scope cl C X.env) fp) ifs (tT (gX (X.blk s H scope (compEnvC scope cl C X.env) fp) T io) WF tt))
    (hi1 : ∀ (s : Shared) (H : Hp) (C : Addr) (cl : List (Str × Addr)) (fp : List Addr), PIx (X.blk s H scope (compEnvC scope cl C X.env) fp) T io WF tg1 iter1 it1)
    (hg1 : ∀ (s : Shared) (H : Hp) (C : Addr) (cl : List (Str × Addr)) (fp : List Addr), PGx (X.blk s H scope (compEnvC scope cl C X.env) fp) T io tg1 t1)
    (ht1 : ∀ (s : Shared) (H : Hp) (C : Addr) (cl : List (Str × Addr)) (fp : List Addr), PTs (X.blk s H scope (compEnvC scope cl C X.env) fp) ifs1 (tT (gX (X.blk s H scope (compEnvC scope cl C X.env) fp) T io) WF tt1))
    (he : ∀ (s : Shared) (H : Hp) (C : Addr) (cl : List (Str × Addr)) (fp : List Addr), PX (X.blk s H scope (compEnvC scope cl C X.env) fp) T io WF elt te) (hs : ∀ x, foldedSetIterable iter X.env x = pure x := by intro _; rfl) (hs1 : ∀ env x, foldedSetIterable iter1 env x = pure x := by intro _ _; rfl) :
    PZ X T io WW (.Assign [.Name y py] (.ListComp elt [⟨tg, iter, ifs, 0⟩, ⟨tg1, iter1, ifs1, 0⟩] scope pos) spos) (setM i (lcM2 it t tt it1 t1 tt1 te (own.map (·.2)) vs1)) :=
  (ps_setLc2 (wi := tI (gX X T io) WW it) (g := tgR (gX X T io) t) (tt := tT (gX X T io) WF tt) (wi1 := tI (gX X T io) WF it1) (g1 := tgR (gX X T io) t1) (tt1 := tT (gX X T io) WF tt1) (te := tX (gX X T io) WF te) hc hN hy hyl hsw hi ok hv hg ht hi1 hg1 ht1 he hs hs1).imp fun D σ H h => lc2_of (set_of h)
end

/-! ### a, b = x, y -/
def prepM (m : EM W) : EM W := bnd m fun w => match w with
  | .f ds => ret (.f ds)
  | w => bnd (esc w) fun x => ret (.d x)
def setE (i : Nat) (w : W) (env : Env) : Option Env := if noIo env[i]? = true then (match w with
  | .f ds => some (env.set i (.ow ds))
  | .d x => some (env.set i (.im x))
  | .o _ => none) else none
section
variable {g : G} {WW : WX} {No : Ax} {H H1 H2 : Hp} {σ σ2 : St} {env env1 env2 env3 : Env} {v u : V} {w w2 : W} {m : EM W} {Q : VK} {i : Nat}
def notO : W → Prop
  | .o _ => False
  | _ => True
theorem prep_no {env' : Env} (h : prepM m env = .ok w env') : notO w := by
  obtain ⟨w1, e1, _, h⟩ := bnd_inv h
  cases w1 with
  | f ds => cases h; trivial
  | d x =>
    obtain ⟨x, e2, _, h⟩ := bnd_inv h
    cases h; trivial
  | o k =>
    obtain ⟨x, e2, _, h⟩ := bnd_inv h
    cases h; trivial
theorem tX_prep (rep : RepS g No H σ env) (hx : ∀ x env', prepM m env = .ex x env' → exC g WW No env σ H x env') (hn : prepM m env ≠ .no)
    (hz : ∀ w env1 v H1, prepM m env = .ok w env1 → notO w → EvM (Mo g σ env) H (Mo g σ env1) H1 → PV g No H1 σ env1 v w → Fr H v w → Q v H1) : tX g WW m σ H Q := by
  refine tX_of rep (fun x env' e => hx x env' (bnd_ex e)) (fun e => hn (bnd_no e)) fun w env1 v H1 e ev pv fr => ?_
  have gen : prepM m env = (bnd (esc w) fun x => ret (.d x)) env1 → Q v H1 := fun z => by
    cases q : esc w env1 with
    | no => exact (hn (z.trans (bnd_no q))).elim
    | ex x e' => exact absurd q esc_nex
    | ok x e2 =>
      obtain ⟨r2, rx, sub⟩ := pv.esc q
      exact hz (.d x) e2 v H1 (z.trans (bnd_ok q)) trivial (ev.mono2 sub) ⟨r2, rx⟩ trivial
  cases w with
  | f ds => exact hz (.f ds) env1 v H1 (bnd_ok e) trivial ev pv fr
  | d x => exact gen (bnd_ok e)
  | o k => exact gen (bnd_ok e)
/-- a value, no slot's, as the slots change -/
theorem PV.mv (p : PV g No H1 σ env1 v w) (hw : notO w) (e : EvM (Mo g σ env1) H1 (Mo g σ2 env2) H2) (r : RepS g (plus No v w) H2 σ2 env2) : PV g No H2 σ2 env2 v w := by
  refine ⟨r, ?_⟩
  have q := p.val
  cases w with
  | d x => exact Rp.tr e.tr _ q
  | o k => exact hw.elim
  | f ds =>
    obtain ⟨a, xs, rfl, e1, e2, n1, n2⟩ := q
    exact ⟨a, xs, rfl, e.keep a _ e1 (fun ps z => by cases z) n2, e2.tr e.tr _, n1, (r.nout a (.inr rfl)).2⟩
/-- stored -/
theorem PV.put (p : PV g No H σ env v w) (h : setE i w env = some env2) : RepS g No H (σ.set i (some v)) env2 ∧ ∀ b, Mo g (σ.set i (some v)) env2 b → Mo g σ env b ∨ plus (fun _ => False) v w b := by
  unfold setE at h
  split at h
  · rename_i hi
    cases w with
    | d x =>
      cases h
      obtain ⟨r3, sub⟩ := RepS.setIm (show RepS g No H σ env from p.rep) hi p.val
      exact ⟨r3, fun b z => .inl (sub b z)⟩
    | o k => cases h
    | f ds =>
      cases h
      obtain ⟨a, xs, rfl, ha, rv, n1, n2⟩ := p.val
      obtain ⟨r3, sub⟩ := RepS.setOw p.rep hi ha rv n1 n2
      exact ⟨r3, fun b z => (sub b z).imp id .inr⟩
  · cases h
theorem plus_fr {b : Addr} (fr : Fr H v w) (z : plus (fun _ => False) v w b) : H b = none := by
  cases w with
  | f ds =>
    cases v with
    | ref p => exact z.elim (fun z => z.elim) fun z => by rw [z]; exact fr
    | _ => exact z.elim
  | _ => cases v <;> exact z.elim
theorem EvM.put {M M1 M2 : Ax} (ev : EvM M H M1 H1) (fr : Fr H v w) (h : ∀ b, M2 b → M1 b ∨ plus (fun _ => False) v w b) : EvM M H M2 H1 :=
  ⟨ev.keep, fun c z => (h c z).elim (ev.new c) fun z => .inr (plus_fr fr z), ev.dom⟩
end
def par2M (i j : Nat) (ma mb : EM W) : SM := fun env => match (bnd (prepM ma) fun wa => bnd (prepM mb) fun wb => ret (wa, wb)) env with
  | .ok (wa, wb) env2 => match setE j wb env2 with
    | some env3 => match setE i wa env3 with
      | some env4 => .nx env4
      | none => .no
    | none => .no
  | .ex x env' => .ex x env'
  | .no => .no
section
variable {X : Cx} {T : List (Addr × Str)} {io : Addr} {WW : WX} {px py pz pt pos : Pos} {kt k2 : Nat} {pt2 : Pos} {a b c : Expr} {ma mb mc : EM W} {x y z : Str}
theorem set_comm {α : Type} {l : List α} {i j : Nat} {u v : α} (h : i ≠ j) : (l.set i u).set j v = (l.set j v).set i u := by rw [List.set_comm _ _ h]
theorem pz_par2 (i j : Nat) (ha : PX X T io WW a ma) (hb : PX X T io WW b mb) (hc : X.calm = true) (hN : X.N.Nodup) (hi : X.N[i]? = some x) (hj : X.N[j]? = some y) (hij : i ≠ j)
    (hx : X.env.scope.names.lookup x = some .local) (hy : X.env.scope.names.lookup y = some .local)
    (hw : swappedStores [.Tuple [.Name x px, .Name y py] kt pt] (.Tuple [a, b] k2 pt2) X.env = pure (some [x, y]))
    (hs : swapsWithSole [.Tuple [.Name x px, .Name y py] kt pt] (.Tuple [a, b] k2 pt2) pos.line X.env = pure false := by rfl)
    (he : starEach [a, b] X.env = (false, eval a X.env) :: starEach [b] X.env := by rfl) (he2 : starEach [b] X.env = (false, eval b X.env) :: starEach [] X.env := by rfl) :
    PZ X T io WW (.Assign [.Tuple [.Name x px, .Name y py] kt pt] (.Tuple [a, b] k2 pt2) pos) (par2M i j ma mb) := by
  refine (ps_par hc hN hi hj hij hx hy (pa_cons ha (pa_cons hb pa_nil he2) he) hw hs).imp fun D σ H h => ?_
  let g : G := gX X T io
  obtain ⟨No, env, rep, h⟩ := h
  unfold par2M at h
  refine tX_prep rep (fun x env' e => ?_) (fun e => ?_) fun wa env1 v H1 e na ev pv fr => ?_
  · rw [bnd_ex e] at h; exact ex_of h
  · rw [bnd_no e] at h; exact h
  rw [bnd_ok e] at h
  refine tX_prep pv.rep (fun x env' e => ?_) (fun e => ?_) fun wb env2 u H2 e2 nb ev2 pu fr2 => ?_
  · rw [bnd_ex e] at h; exact exC.back (ex_of h) ev fun a z => plus_of a z
  · rw [bnd_no e] at h; exact h
  rw [bnd_ok e2] at h
  refine ⟨v, u, rfl, ?_⟩
  have h : zC g WW No σ H env D (match setE j wb env2 with
    | some env3 => match setE i wa env3 with
      | some env4 => .nx env4
      | none => .no
    | none => .no) := h
  cases q1 : setE j wb env2 with
  | none => rw [q1] at h; exact h.elim
  | some env3 =>
    rw [q1] at h
    dsimp only at h
    cases q2 : setE i wa env3 with
    | none => rw [q2] at h; exact h.elim
    | some env4 =>
      rw [q2] at h
      obtain ⟨r3, s3⟩ := pu.put q1
      have ev3 : EvM (Mo g σ env1) H1 (Mo g (σ.set j (some u)) env3) H2 := ev2.put fr2 s3
      have pv3 := pv.mv na ev3 r3
      obtain ⟨r4, s4⟩ := pv3.put q2
      rw [set_comm hij]
      exact h _ H2 ((ev.trans ev3).put fr s4) r4
end
def par3M (i j l : Nat) (ma mb mc : EM W) : SM := fun env => match (bnd (prepM ma) fun wa => bnd (prepM mb) fun wb => bnd (prepM mc) fun wc => ret (wa, wb, wc)) env with
  | .ok (wa, wb, wc) env1 => match setE l wc env1 with
    | some env2 => match setE j wb env2 with
      | some env3 => match setE i wa env3 with
        | some env4 => .nx env4
        | none => .no
      | none => .no
    | none => .no
  | .ex x env' => .ex x env'
  | .no => .no
section
variable {X : Cx} {T : List (Addr × Str)} {io : Addr} {WW : WX} {px py pz pt pos : Pos} {kt k2 : Nat} {pt2 : Pos} {a b c : Expr} {ma mb mc : EM W} {x y z : Str}
theorem pz_par3 (i j l : Nat) (ha : PX X T io WW a ma) (hb : PX X T io WW b mb) (hcc : PX X T io WW c mc) (hc : X.calm = true) (hN : X.N.Nodup) (hi : X.N[i]? = some x) (hj : X.N[j]? = some y) (hl : X.N[l]? = some z) (hij : i ≠ j) (hil : i ≠ l) (hjl : j ≠ l)
    (hx : X.env.scope.names.lookup x = some .local) (hy : X.env.scope.names.lookup y = some .local) (hz : X.env.scope.names.lookup z = some .local)
    (hw : swappedStores [.Tuple [.Name x px, .Name y py, .Name z pz] kt pt] (.Tuple [a, b, c] k2 pt2) X.env = pure (some [x, y, z]))
    (hs : swapsWithSole [.Tuple [.Name x px, .Name y py, .Name z pz] kt pt] (.Tuple [a, b, c] k2 pt2) pos.line X.env = pure false := by rfl)
    (he : starEach [a, b, c] X.env = (false, eval a X.env) :: starEach [b, c] X.env := by rfl) (he2 : starEach [b, c] X.env = (false, eval b X.env) :: starEach [c] X.env := by rfl) (he3 : starEach [c] X.env = (false, eval c X.env) :: starEach [] X.env := by rfl) :
    PZ X T io WW (.Assign [.Tuple [.Name x px, .Name y py, .Name z pz] kt pt] (.Tuple [a, b, c] k2 pt2) pos) (par3M i j l ma mb mc) := by
  refine (ps_par3 hc hN hi hj hl hij hil hjl hx hy hz (pa_cons ha (pa_cons hb (pa_cons hcc pa_nil he3) he2) he) hw hs).imp fun D σ H h => ?_
  let g : G := gX X T io
  obtain ⟨No, env, rep, h⟩ := h
  unfold par3M at h
  refine tX_prep rep (fun x env' e => ?_) (fun e => ?_) fun wa env1 v H1 e na ev pv fr => ?_
  · rw [bnd_ex e] at h; exact ex_of h
  · rw [bnd_no e] at h; exact h
  rw [bnd_ok e] at h
  refine tX_prep pv.rep (fun x env' e => ?_) (fun e => ?_) fun wb env2 u H2 e2 nb ev2 pu fr2 => ?_
  · rw [bnd_ex e] at h; exact exC.back (ex_of h) ev fun a z => plus_of a z
  · rw [bnd_no e] at h; exact h
  rw [bnd_ok e2] at h
  refine tX_prep pu.rep (fun x env' e => ?_) (fun e => ?_) fun wc env3 t H3 e3 nc ev3 pt fr3 => ?_
  · rw [bnd_ex e] at h; exact exC.back (ex_of h) (ev.trans ev2) fun a z => plus_of a (plus_of a z)
  · rw [bnd_no e] at h; exact h
  rw [bnd_ok e3] at h
  refine ⟨v, u, t, rfl, ?_⟩
  have h : zC g WW No σ H env D (match setE l wc env3 with
    | some env2 => match setE j wb env2 with
      | some env3 => match setE i wa env3 with
        | some env4 => .nx env4
        | none => .no
      | none => .no
    | none => .no) := h
  cases q0 : setE l wc env3 with
  | none => rw [q0] at h; exact h.elim
  | some env4 =>
    rw [q0] at h
    dsimp only at h
    cases q1 : setE j wb env4 with
    | none => rw [q1] at h; exact h.elim
    | some env5 =>
      rw [q1] at h
      dsimp only at h
      cases q2 : setE i wa env5 with
      | none => rw [q2] at h; exact h.elim
      | some env6 =>
        rw [q2] at h
        obtain ⟨r4, s4⟩ := pt.put q0
        have ev4 : EvM (Mo g σ env2) H2 (Mo g (σ.set l (some t)) env4) H3 := ev3.put fr3 s4
        have pu4 := pu.mv nb ev4 r4
        obtain ⟨r5, s5⟩ := pu4.put q1
        have ev5 : EvM (Mo g σ env1) H1 (Mo g ((σ.set l (some t)).set j (some u)) env5) H3 := (ev2.trans ev4).put fr2 s5
        have pv5 := pv.mv na ev5 r5
        obtain ⟨r6, s6⟩ := pv5.put q2
        have es : ((σ.set i (some v)).set j (some u)).set l (some t) = ((σ.set l (some t)).set j (some u)).set i (some v) := by
          rw [set_comm hij, set_comm hil, set_comm (l := σ) hjl]
        rw [es]
        exact h _ H3 ((ev.trans ev5).put fr s6) r6
end
end PL

set_option Elab.async false
set_option linter.all false
set_option maxRecDepth 100000
/-! PL20: sorted. -/
namespace PL
open PySem PySem.Spec PyProof.Rows L2

def insS {α : Type} (le : α → α → Bool) (a : α) : List α → List α
  | [] => [a]
  | b :: bs => if le a b = true then a :: b :: bs else b :: insS le a bs
def isort {α : Type} (le : α → α → Bool) : List α → List α
  | [] => []
  | a :: as => insS le a (isort le as)
theorem insS_split {α : Type} {le : α → α → Bool} (a : α) : ∀ (l₁ l₂ : List α), (∀ b, b ∈ l₁ → (!le a b) = true) → (∀ b, b ∈ l₂ → le a b = true) → insS le a (l₁ ++ l₂) = l₁ ++ a :: l₂
  | [], [], _, _ => rfl
  | [], b :: bs, _, h => by
    show (if le a b = true then a :: b :: bs else b :: insS le a bs) = _
    rw [if_pos (h b List.mem_cons_self)]
    rfl
  | b :: l₁, l₂, h1, h2 => by
    have e : le a b = false := by simpa using h1 b List.mem_cons_self
    show (if le a b = true then a :: b :: (l₁ ++ l₂) else b :: insS le a (l₁ ++ l₂)) = _
    rw [e, if_neg Bool.false_ne_true, insS_split a l₁ l₂ (fun c hc => h1 c (List.mem_cons_of_mem _ hc)) h2]
    rfl
theorem isort_eq {α : Type} {le : α → α → Bool} (trans : ∀ (a b c : α), le a b = true → le b c = true → le a c = true) (total : ∀ (a b : α), (le a b || le b a) = true) : ∀ l : List α, l.mergeSort le = isort le l
  | [] => by rw [List.mergeSort_nil]; rfl
  | a :: as => by
    obtain ⟨l₁, l₂, h1, h2, h3⟩ := List.mergeSort_cons trans total a as
    have hp := List.pairwise_mergeSort (le := le) trans total (a :: as)
    rw [h1] at hp ⊢
    have h4 : ∀ b, b ∈ l₂ → le a b = true := fun b hb => by
      have := (List.pairwise_append.mp hp).2.1
      exact (List.pairwise_cons.mp this).1 b hb
    show _ = insS le a (isort le as)
    rw [← isort_eq trans total as, h2, insS_split a l₁ l₂ h3 h4]
theorem insS_map {α β : Type} {le : β → β → Bool} (f : α → β) (a : α) : ∀ l : List α, (insS (fun x y => le (f x) (f y)) a l).map f = insS le (f a) (l.map f)
  | [] => rfl
  | b :: bs => by
    show List.map f (if le (f a) (f b) = true then a :: b :: bs else b :: insS (fun x y => le (f x) (f y)) a bs) = if le (f a) (f b) = true then f a :: f b :: bs.map f else f b :: insS le (f a) (bs.map f)
    split
    · rfl
    · rw [List.map_cons, insS_map f a bs]
theorem isort_map {α β : Type} {le : β → β → Bool} (f : α → β) : ∀ l : List α, (isort (fun x y => le (f x) (f y)) l).map f = isort le (l.map f)
  | [] => rfl
  | a :: as => by
    show (insS (fun x y => le (f x) (f y)) a (isort (fun x y => le (f x) (f y)) as)).map f = insS le (f a) (isort le (as.map f))
    rw [insS_map, isort_map f as]
theorem insS_mem {α : Type} {le : α → α → Bool} {a c : α} : ∀ {l : List α}, c ∈ insS le a l → c = a ∨ c ∈ l
  | [], h => by rw [show insS le a [] = [a] from rfl, List.mem_singleton] at h; exact .inl h
  | b :: bs, h => by
    have h : c ∈ (if le a b = true then a :: b :: bs else b :: insS le a bs) := h
    split at h
    · exact (List.mem_cons.mp h)
    · rcases List.mem_cons.mp h with z | z
      · exact .inr (by rw [z]; exact List.mem_cons_self)
      · exact (insS_mem z).imp id (List.mem_cons_of_mem _)
theorem isort_mem {α : Type} {le : α → α → Bool} {c : α} : ∀ {l : List α}, c ∈ isort le l → c ∈ l
  | [], h => h
  | a :: as, h => by
    rcases insS_mem (show c ∈ insS le a (isort le as) from h) with z | z
    · rw [z]; exact List.mem_cons_self
    · exact List.mem_cons_of_mem _ (isort_mem z)

/-- a ≤ b of data, as sorted asks it -/
def leD (a b : PyData) : Bool := !PySem.W.dataLt b a
def sortD (ds : List PyData) : List PyData := isort leD ds
theorem dataLe_leD {β : Type} (k : β → PyData) : PySem.W.dataLe false k = fun a b => leD (k a) (k b) := rfl
theorem merge_isort {β : Type} (k : β → PyData) (l : List β) : l.mergeSort (PySem.W.dataLe false k) = isort (fun a b => leD (k a) (k b)) l := by
  have t : PySem.W.TotalLe (PySem.W.dataLe false k) := PySem.W.sortLe_total _ _ _
  rw [← dataLe_leD k]
  exact isort_eq t.trans (fun a b => by rw [Bool.or_eq_true]; exact t.total a b) l
def nonT : PyData → Bool
  | .none => false
  | .tuple _ => false
  | _ => true
def conT : PyData → Bool
  | .tuple (_ :: _) => true
  | _ => false
def sortOk (ds : List PyData) : Bool := (ds.all fun d => ds.all fun d' => PySem.W.alike d d') && (ds.all conT || ds.all nonT) && (ds.all fun d => decide (d.depth ≤ 60)) && decide (ds.length ≤ sizeLine) && PyData.canLayAll0 ds
def sortF : PyData → Option W
  | .list ds => if sortOk ds = true then some (.f (sortD ds)) else none
  | _ => none
def rSortD (X : Cx) : List V → Hp → VK → Prop := fun vs H Q => ∃ a xs ds, vs = [.ref a] ∧ SqL X.K H a xs ∧ DpAll X.K H xs ds ∧ sortOk ds = true ∧ ∀ p, H p = none → Q (.ref p) (upd H p (.lst ((isort (fun p q : V × PyData => leD p.2 q.2) (xs.zip ds)).map Prod.fst)))
theorem each_zip {X : Cx} {pins : List (Addr × Obj)} {σ : St} {H : Hp} {s : Shared} (I : Inv X pins σ H s) : ∀ {ds : List PyData} {xs : List V} {its : List Value}, DpAll X.K H xs ds → Vals xs its →
    PySem.W.EachIs (fun u (b : V × PyData) => RelV b.1 u) its (xs.zip ds) ∧ PySem.W.EachIs (fun u (b : V × PyData) => ∃ as, Reads s.heap u b.2 as) its (xs.zip ds) ∧ (xs.zip ds).map Prod.snd = ds
  | [], _, _, h, r => by cases h; cases r; exact ⟨.nil, .nil, rfl⟩
  | d :: ds, _, _, h, r => by
    cases h with
    | cons h1 h2 =>
      cases r with
      | cons r1 r2 =>
        obtain ⟨a, b, c⟩ := each_zip I h2 r2
        exact ⟨.cons r1 a, .cons (Dp.reads I d _ _ h1 r1) b, by rw [List.zip_cons_cons, List.map_cons, c]⟩
theorem vals_each : ∀ {out : List Value} {bs : List (V × PyData)}, PySem.W.EachIs (fun u (b : V × PyData) => RelV b.1 u) out bs → Vals (bs.map Prod.fst) out
  | _, _, .nil => .nil
  | _, _, .cons r t => .cons r (vals_each t)
theorem cr_sortD {X : Cx} (hu : X.A.units + 65 < cLine) : CallR X (.builtin "sorted") (rSortD X) := by
  intro pins s σ H vs us Q I r h
  obtain ⟨a, xs, ds, rfl, hs, hd, ok, q⟩ := h
  obtain ⟨its, rv, hl, hz⟩ := I.list hs
  rw [Vals.ref1 r]
  obtain ⟨e1, e2, e3⟩ := each_zip I hd rv
  unfold sortOk at ok
  rw [Bool.and_eq_true, Bool.and_eq_true, Bool.and_eq_true, Bool.and_eq_true] at ok
  obtain ⟨⟨⟨⟨k1, k2⟩, k3⟩, k4⟩, _⟩ := ok
  have hal : PySem.W.AllAlike ((xs.zip ds).map Prod.snd) := by
    rw [e3]
    intro d hd d' hd'
    exact List.all_eq_true.mp (List.all_eq_true.mp k1 d hd) d' hd'
  have hk : PySem.W.Sortable ((xs.zip ds).map Prod.snd) := by
    rw [e3]
    rcases (Bool.or_eq_true _ _).mp k2 with k2 | k2
    · refine .inl fun d hd => ?_
      have := List.all_eq_true.mp k2 d hd
      unfold conT at this
      split at this
      · exact ⟨_, _, rfl⟩
      · cases this
    · refine .inr fun d hd => ?_
      have := List.all_eq_true.mp k2 d hd
      unfold nonT at this
      split at this
      · cases this
      · cases this
      · rename_i h1 h2
        exact ⟨fun z => h1 z, fun xs z => h2 xs z⟩
  have hzl : (xs.zip ds).length = ds.length := by
    have := congrArg List.length e3
    rw [List.length_map] at this
    exact this
  have hL : (xs.zip ds).length ≤ sizeLine := by rw [hzl]; exact of_decide_eq_true k4
  refine PySem.W.sorted_data (enc := Prod.snd) hl.isList e1 e2 hal hk hL (fun b hb => ?_) fun out ho eo => ?_
  · have hm : b.2 ∈ ds := by rw [← e3]; exact List.mem_map.mpr ⟨b, hb, rfl⟩
    have := of_decide_eq_true (List.all_eq_true.mp k3 _ hm)
    omega
  · obtain ⟨ep, he'⟩ := PyProof.Rows.sortedAll_at s.heap its (List.toArray out)
    rw [merge_isort] at eo
    have v := vals_each eo
    have hlen : ((isort (fun p q : V × PyData => leD p.2 q.2) (xs.zip ds)).map Prod.fst).length ≤ sizeLine := by
      rw [v.length, ho]
      exact hL
    exact ⟨.ref _, upd H (s.heap.objs.size + 1) (.lst _), I.laid (t' := s.toks) (fun _ _ => PyProof.Rows.sortedAll_old) (Nat.le_succ _) ⟨hlen, out, ep, v, he'⟩, rfl, q _ (I.hok.fresh (Nat.le_succ _))⟩
section
variable {X : Cx} {T : List (Addr × Str)}
theorem Rps.sorted {K : PySem.W.Frag} {N : Ax} {H : Hp} {xs : List V} {ds : List PyData} (r : Rps K N H xs ds) : Rps K N H ((isort (fun p q : V × PyData => leD p.2 q.2) (xs.zip ds)).map Prod.fst) (sortD ds) := by
  have all : ∀ {xs : List V} {ds : List PyData}, Rps K N H xs ds → (∀ p, p ∈ xs.zip ds → Rp K N H p.1 p.2) ∧ (xs.zip ds).map Prod.snd = ds := by
    intro xs ds r
    induction ds generalizing xs with
    | nil =>
      cases r
      refine ⟨fun p h => ?_, rfl⟩
      have h : p ∈ ([] : List (V × PyData)) := h
      cases h
    | cons d ds ih =>
      cases r with
      | cons a b =>
        obtain ⟨h1, h2⟩ := ih b
        refine ⟨fun p h => ?_, by rw [List.zip_cons_cons, List.map_cons, h2]⟩
        rw [List.zip_cons_cons] at h
        rcases List.mem_cons.mp h with z | z
        · rw [z]; exact a
        · exact h1 p z
  obtain ⟨h1, h2⟩ := all r
  have e : sortD ds = (isort (fun p q : V × PyData => leD p.2 q.2) (xs.zip ds)).map Prod.snd := by
    unfold sortD
    rw [isort_map (le := leD) Prod.snd, h2]
  rw [e]
  have h3 : ∀ p, p ∈ isort (fun p q : V × PyData => leD p.2 q.2) (xs.zip ds) → Rp K N H p.1 p.2 := fun p hp => h1 p (isort_mem hp)
  generalize isort (fun p q : V × PyData => leD p.2 q.2) (xs.zip ds) = l at h3
  induction l with
  | nil => exact .nil
  | cons p l ih => exact .cons (h3 p List.mem_cons_self) (ih fun q hq => h3 q (List.mem_cons_of_mem _ hq))
theorem s1_sort : Spec1 X.K T (fun x H Q => rSortD X [x] H Q) sortF := by
  intro x H Q N a w nok t ra e post
  cases a with
  | list ds =>
    have e : (if sortOk ds = true then some (W.f (sortD ds)) else none) = some w := e
    split at e
    · rename_i ok
      cases e
      obtain ⟨p, xs, rfl, hp, r⟩ := ra
      exact ⟨p, xs, ds, rfl, hp, r.dp _ (by unfold sortOk at ok; rw [Bool.and_eq_true] at ok; exact ok.2), ok, post.lst t r.sorted⟩
    · cases e
  | _ => cases e
end
end PL

set_option Elab.async false
set_option linter.all false
set_option maxRecDepth 100000
/-! PL21: what the derivations lean on: names of built-ins, room, in over tuples, tests of comprehensions. -/
namespace PL
open PySem PySem.Spec PyProof.Rows L2

theorem bb_len : bootBuiltins "len" = some (.builtin "len") := PySem.boot_len
theorem bb_abs : bootBuiltins "abs" = some (.builtin "abs") := PyProof.Rows.boot_abs
theorem bb_divmod : bootBuiltins "divmod" = some (.builtin "divmod") := PyProof.Rows.boot_divmod
theorem bb_isinstance : bootBuiltins "isinstance" = some (.builtin "isinstance") := PyProof.Rows.boot_isinstance
theorem bb_int : bootBuiltins "int" = some (.type "int") := PyProof.Rows.boot_int
theorem bb_list : bootBuiltins "list" = some (.type "list") := PyProof.Rows.boot_list
theorem bb_tuple : bootBuiltins "tuple" = some (.type "tuple") := PyProof.Rows.boot_tuple
theorem bb_bool : bootBuiltins "bool" = some (.type "bool") := by decide +kernel
theorem bb_str : bootBuiltins "str" = some (.type "str") := by decide +kernel
theorem bb_sorted : bootBuiltins "sorted" = some (.builtin "sorted") := PyProof.Rows.boot_sorted
theorem bb_max : bootBuiltins "max" = some (.builtin "max") := PyProof.Rows.boot_max
theorem bb_min : bootBuiltins "min" = some (.builtin "min") := PyProof.Rows.boot_min
theorem bb_sum : bootBuiltins "sum" = some (.builtin "sum") := PyProof.Rows.boot_sum
theorem bb_all : bootBuiltins "all" = some (.builtin "all") := PyProof.Rows.boot_all
theorem bb_any : bootBuiltins "any" = some (.builtin "any") := PyProof.Rows.boot_any
theorem takes_F {X : Cx} : Takes X WF := fun _ _ ⟨_, _, _, _, _, _, _, _, _, _, _, _, _, _, _, _, w⟩ => w.elim
theorem hu64 {k : Nat} {A : Around} (r : Room k A) : A.units + 64 < cLine := r.units
theorem hu65 {k : Nat} {A : Around} (r : Room k A) : A.units + 65 < cLine := by have := r.un; omega
section
variable {X : Cx} {T : List (Addr × Str)} {io : Addr} {WW : WX}
theorem op_inT (hu : X.A.units + 65 < cLine) : OpR X (compareOp .In) (rInT X.K false) := by
  intro pins s σ H x y v u Q I rx ry h
  obtain ⟨d, ds, hd, he, sd, se, q⟩ := h
  obtain ⟨as, r1⟩ := Dp.reads I d x v hd rx
  obtain ⟨bs, r2⟩ := Dp.reads I (.tuple ds) y u he ry
  exact SeqAt.in_tuple_reads r2 r1 (SeqAt.canLay_of_shaped se) (SeqAt.canLay_of_shaped sd) (room_in_shaped sd hu) ⟨.bl _, H, I, rfl, q⟩
theorem op_notInT (hu : X.A.units + 65 < cLine) : OpR X (compareOp .NotIn) (rInT X.K true) := by
  intro pins s σ H x y v u Q I rx ry h
  obtain ⟨d, ds, hd, he, sd, se, q⟩ := h
  obtain ⟨as, r1⟩ := Dp.reads I d x v hd rx
  obtain ⟨bs, r2⟩ := Dp.reads I (.tuple ds) y u he ry
  exact SeqAt.notIn_tuple_reads r2 r1 (SeqAt.canLay_of_shaped se) (SeqAt.canLay_of_shaped sd) (room_in_shaped sd hu) ⟨.bl _, H, I, rfl, q⟩
theorem op_inA (hu : X.A.units + 65 < cLine) : OpR X (compareOp .In) (rInA X.K) := (op_inD hu).or (op_inT hu)
theorem op_notInA (hu : X.A.units + 65 < cLine) : OpR X (compareOp .NotIn) (rNotInA X.K) := (op_notInD hu).or (op_notInT hu)
/-- no test -/
theorem ptx_nil : PTs X [] (tT (gX X T io) WF (ret true)) := ⟨fun pins s σ H Q I h => pts_nil.run pins s σ H Q I (by
  obtain ⟨No, env, r, h⟩ := h
  exact h H (EvM.refl _ _) r)⟩
theorem ptx_one {c : Expr} {m : EM Bool} (h : PXT X T io WF c m) : PTs X [c] (tT (gX X T io) WF m) := pts_one h
theorem pzs_never {ss : List Stmt} : PZs X T io WW ss (fun _ => .no) := ⟨fun pins s σ H D I h => by
  obtain ⟨No, env, r, h⟩ := h
  exact h.elim⟩
/-! ### the order of data -/
def ltOk (x y : PyData) : Bool := PySem.W.alike x y && decide (isNone x = false) && decide (x.depth ≤ 60) && (x.canLay0 && y.canLay0)
theorem ltOk_of {x y : PyData} (h : ltOk x y = true) : PySem.W.alike x y = true ∧ x ≠ .none ∧ x.depth ≤ 60 := by
  unfold ltOk at h
  rw [Bool.and_eq_true, Bool.and_eq_true, Bool.and_eq_true] at h
  refine ⟨h.1.1.1, fun z => ?_, of_decide_eq_true h.1.2⟩
  have q := of_decide_eq_true h.1.1.2
  rw [z] at q
  cases q
theorem ltOk_lay {x y : PyData} (h : ltOk x y = true) : x.canLay0 = true ∧ y.canLay0 = true := by
  unfold ltOk at h
  rw [Bool.and_eq_true] at h
  have h := h.2
  rw [Bool.and_eq_true] at h
  exact h
def rCmpD (K : PySem.W.Frag) (f : PyData → PyData → Bool) : R2 := fun x y H Q => ∃ d e, Dp K H x d ∧ Dp K H y e ∧ ltOk d e = true ∧ Q (.bl (f d e)) H
def cmpDF (h : Int → Int → Bool) (f : PyData → PyData → Bool) : PyData → PyData → Option Bool
  | .int i, .int j => some (h i j)
  | x, y => if ltOk x y = true then some (f x y) else none
theorem min_room {d e : PyData} {A : Around} (hu : A.units + 65 < cLine) (h : d.depth ≤ 60) : A.units + min d.depth e.depth < cLine := by
  have := Nat.min_le_left d.depth e.depth
  omega
theorem op_ltD (hu : X.A.units + 65 < cLine) : OpR X (compareOp .Lt) (rCmpD X.K fun d e => PySem.W.dataLt d e) := by
  intro pins s σ H x y v u Q I rx ry h
  obtain ⟨d, e, hd, he, ok, q⟩ := h
  obtain ⟨as, r1⟩ := Dp.reads I d x v hd rx
  obtain ⟨bs, r2⟩ := Dp.reads I e y u he ry
  obtain ⟨k1, k2, k3⟩ := ltOk_of ok
  exact PySem.W.lt_data r1 r2 k1 k2 (min_room hu k3) ⟨.bl _, H, I, rfl, q⟩
theorem op_gtD (hu : X.A.units + 65 < cLine) : OpR X (compareOp .Gt) (rCmpD X.K fun d e => PySem.W.dataLt e d) := by
  intro pins s σ H x y v u Q I rx ry h
  obtain ⟨d, e, hd, he, ok, q⟩ := h
  obtain ⟨as, r1⟩ := Dp.reads I d x v hd rx
  obtain ⟨bs, r2⟩ := Dp.reads I e y u he ry
  obtain ⟨k1, k2, k3⟩ := ltOk_of ok
  exact PySem.W.gt_data r1 r2 k1 k2 (min_room hu k3) ⟨.bl _, H, I, rfl, q⟩
theorem op_leD (hu : X.A.units + 65 < cLine) : OpR X (compareOp .LtE) (rCmpD X.K fun d e => !PySem.W.dataLt e d) := by
  intro pins s σ H x y v u Q I rx ry h
  obtain ⟨d, e, hd, he, ok, q⟩ := h
  obtain ⟨as, r1⟩ := Dp.reads I d x v hd rx
  obtain ⟨bs, r2⟩ := Dp.reads I e y u he ry
  obtain ⟨k1, k2, k3⟩ := ltOk_of ok
  exact PySem.W.le_data r1 r2 k1 k2 (min_room hu k3) ⟨.bl _, H, I, rfl, q⟩
theorem op_geD (hu : X.A.units + 65 < cLine) : OpR X (compareOp .GtE) (rCmpD X.K fun d e => !PySem.W.dataLt d e) := by
  intro pins s σ H x y v u Q I rx ry h
  obtain ⟨d, e, hd, he, ok, q⟩ := h
  obtain ⟨as, r1⟩ := Dp.reads I d x v hd rx
  obtain ⟨bs, r2⟩ := Dp.reads I e y u he ry
  obtain ⟨k1, k2, k3⟩ := ltOk_of ok
  exact PySem.W.ge_data r1 r2 k1 k2 (min_room hu k3) ⟨.bl _, H, I, rfl, q⟩
theorem sB_cmp {K : PySem.W.Frag} (h : Int → Int → Bool) (f : PyData → PyData → Bool) : SpecB K T (fun x y H Q => rI0 (fun i j => .bl (h i j)) x y H Q ∨ rCmpD K f x y H Q) (cmpDF h f) := by
  intro x y H Q N a b w nok t ra rb e q
  unfold cmpDF at e
  split at e
  · cases e; cases ra; cases rb; exact .inl ⟨_, _, rfl, rfl, q⟩
  · split at e
    · rename_i ok
      cases e
      exact .inr ⟨_, _, ra.dp (ltOk_lay ok).1, rb.dp (ltOk_lay ok).2, ok, q⟩
    · cases e
def ltA : PyData → PyData → Option Bool := cmpDF (fun i j => decide (i < j)) fun d e => PySem.W.dataLt d e
def leA : PyData → PyData → Option Bool := cmpDF (fun i j => decide (i ≤ j)) fun d e => !PySem.W.dataLt e d
def gtA : PyData → PyData → Option Bool := cmpDF (fun i j => decide (j < i)) fun d e => PySem.W.dataLt e d
def geA : PyData → PyData → Option Bool := cmpDF (fun i j => decide (j ≤ i)) fun d e => !PySem.W.dataLt d e
def rCA (K : PySem.W.Frag) (h : Int → Int → Bool) (f : PyData → PyData → Bool) : R2 := fun x y H Q => rI0 (fun i j => .bl (h i j)) x y H Q ∨ rCmpD K f x y H Q
theorem op_ltAll (hu : X.A.units + 65 < cLine) : OpR X (compareOp .Lt) (rCA X.K (fun i j => decide (i < j)) fun d e => PySem.W.dataLt d e) := op_lt.or (op_ltD hu)
theorem op_leAll (hu : X.A.units + 65 < cLine) : OpR X (compareOp .LtE) (rCA X.K (fun i j => decide (i ≤ j)) fun d e => !PySem.W.dataLt e d) := op_le.or (op_leD hu)
theorem op_gtAll (hu : X.A.units + 65 < cLine) : OpR X (compareOp .Gt) (rCA X.K (fun i j => decide (j < i)) fun d e => PySem.W.dataLt e d) := op_gt.or (op_gtD hu)
theorem op_geAll (hu : X.A.units + 65 < cLine) : OpR X (compareOp .GtE) (rCA X.K (fun i j => decide (j ≤ i)) fun d e => !PySem.W.dataLt d e) := op_ge.or (op_geD hu)
end
end PL

set_option Elab.async false
set_option linter.all false
set_option maxRecDepth 100000
/-! PL22: gcd, comb, list(range(..)), xs[::-1]. -/
namespace PySem.W
open PySem PySem.Calls
theorem plc_entry : entryFor table "math.comb" = some Builtin.«math.comb» := entryFor_of_tree (by kernel_rfl)
theorem plc_kind : builtinKind "math.comb" = none := by kernel_rfl
theorem plc_plain : plainId "math.comb" = true := by decide +kernel
theorem plc_args (a b : Value) : argsOk "math.comb" ⟨[a, b], []⟩ := by unfold argsOk; kernel_rfl
def combV (a b : Int) : Int := Builtin.Math.fallingProduct a (min b (a - b)).toNat / Builtin.Math.fallingProduct (min b (a - b)) (min b (a - b)).toNat
theorem plc_run (a : Int) (t : Tok) (b : Int) (u : Tok) (h1 : ¬a < 0) (h2 : ¬b < 0) (h3 : ¬b > a) (h4 : ¬min b (a - b) > Builtin.Math.maxSsize) (h5 : ¬min b (a - b) > Builtin.Math.manyFactors) (h6 : ¬min b (a - b) > 9000)
    (hsz : (Builtin.Math.fallingProduct a (min b (a - b)).toNat / Builtin.Math.fallingProduct (min b (a - b)) (min b (a - b)).toNat).natAbs.log2 < bitsLine) :
    Gives (Builtin.«math.comb» ⟨[.int a t, .int b u], []⟩) (.int (Builtin.Math.fallingProduct a (min b (a - b)).toNat / Builtin.Math.fallingProduct (min b (a - b)) (min b (a - b)).toNat)) :=
  .of_wp fun M A E s Q h => by obtain ⟨hp, g, d, tk, os⟩ := s; wp_walk; (try (refine wpAny_ite_false (decide_eq_false (Nat.not_le.mpr hsz)) ?_; wp_walk)); exact ⟨_, rfl, h⟩
end PySem.W
namespace PL
open PySem PySem.Spec PyProof.Rows L2
def combOk (a b : Int) : Bool := decide (0 ≤ b) && decide (b ≤ a) && decide (min b (a - b) ≤ 9000) && decide ((PySem.W.combV a b).natAbs.log2 < bitsLine)
def rComb : List V → Hp → VK → Prop := fun vs H Q => ∃ a b : Int, vs = [.int a, .int b] ∧ combOk a b = true ∧ Q (.int (PySem.W.combV a b)) H
theorem cr_comb {X : Cx} : CallR X (.builtin "math.comb") rComb := by
  intro pins s σ H vs us Q I r h
  obtain ⟨a, b, rfl, ok, q⟩ := h
  obtain ⟨t, u, rfl⟩ := Vals.int2 r
  unfold combOk at ok
  rw [Bool.and_eq_true, Bool.and_eq_true, Bool.and_eq_true, decide_eq_true_eq, decide_eq_true_eq, decide_eq_true_eq, decide_eq_true_eq] at ok
  obtain ⟨⟨⟨h1, h2⟩, h3⟩, h4⟩ := ok
  refine call_function_meets PySem.W.plc_kind PySem.W.plc_plain PySem.W.plc_entry (PySem.W.plc_args _ _) (PySem.W.plc_run a t b u (by omega) (by omega) (by omega) (by unfold Builtin.Math.maxSsize; omega) (by unfold Builtin.Math.manyFactors; omega) (by omega) h4).meets ?_
  exact ⟨.int _, H, I.tok _, ⟨_, rfl⟩, q⟩
def combF : PyData → PyData → Option W
  | .int a, .int b => if combOk a b = true then some (.d (.int (PySem.W.combV a b))) else none
  | _, _ => none
section
variable {K : PySem.W.Frag} {T : List (Addr × Str)}
theorem s2_comb : Spec2 K T (fun x y H Q => rComb [x, y] H Q) combF := by
  intro x y H Q N a b w nok t ra rb e post
  unfold combF at e
  split at e
  · split at e
    · rename_i ok
      cases e; cases ra; cases rb; exact ⟨_, _, rfl, ok, post _ H (EvM.refl _ _) t (.int _)⟩
    · cases e
  · cases e
end
section
variable {X : Cx} {T : List (Addr × Str)} {io : Addr} {WW : WX} {p pos p1 p2 p3 : Pos} {x y : Str} {e a b : Expr} {ma mb : EM W} {id : String} {r : List V → Hp → VK → Prop}
/-- a built-in that a global names -/
theorem px_g2 {f : PyData → PyData → Option W} (hc : CallR X (.builtin id) r) (hs : Spec2 X.K T (fun x y H Q => r [x, y] H Q) f) (hg : Gl X x) (hm : X.mg x = some (.builtin id)) (ha : PX X T io WW a ma) (hb : PX X T io WW b mb)
    (he : starEach [a, b] X.env = (false, eval a X.env) :: starEach [b] X.env := by rfl) (he2 : starEach [b] X.env = [(false, eval b X.env)] := by rfl) (hdb : (x == ("__debug__" : Str)) = false := by decide) : PX X T io WW (.Call (.Name x p) [a, b] [] pos) (op2 f ma mb) :=
  (StS.pe_callG hc hg hm (pa_cons ha (pa_cons hb pa_nil he2) he) hdb he (by rw [he2]; rfl)).imp fun σ H Q h => two_of (g := gX X T io) hs h
/-! ### list(range(n)) -/
def rgOk (a b : Int) : Bool := decide (-(2 ^ 62) ≤ a) && decide (a < 2 ^ 62) && decide (-(2 ^ 62) ≤ b) && decide (b < 2 ^ 62) && decide ((b - a).toNat ≤ 2 ^ 24)
theorem rgOk_of {a b : Int} (h : rgOk a b = true) : RgOk a b := by
  unfold rgOk at h
  rw [Bool.and_eq_true, Bool.and_eq_true, Bool.and_eq_true, Bool.and_eq_true, decide_eq_true_eq, decide_eq_true_eq, decide_eq_true_eq, decide_eq_true_eq, decide_eq_true_eq] at h
  exact ⟨h.1.1.1.1, h.1.1.1.2, h.1.1.2, h.1.2, h.2⟩
theorem rps_rg {K : PySem.W.Frag} {N : Ax} {H : Hp} (a b : Int) : Rps K N H (rgV a b) (rngL a (b - a).toNat) := by
  unfold rgV rngL
  generalize List.range (b - a).toNat = l
  induction l with
  | nil => exact .nil
  | cons i l ih => exact .cons (.int _) ih
def lrg1F : PyData → Option W
  | .int j => if rgOk 0 j = true then some (.f (rngL 0 j.toNat)) else none
  | _ => none
def lrg2F : PyData → PyData → Option W
  | .int i, .int j => if rgOk i j = true then some (.f (rngL i (j - i).toNat)) else none
  | _, _ => none
theorem s1_lrg1 {K : PySem.W.Frag} : Spec1 K T (fun x H Q => ∃ n, x = .int n ∧ RgOk 0 n ∧ ∀ q, H q = none → Q (.ref q) (upd H q (.lst (rgV 0 n)))) lrg1F := by
  intro x H Q N a w nok t ra e post
  cases a with
  | int j =>
    have e : (if rgOk 0 j = true then some (W.f (rngL 0 j.toNat)) else none) = some w := e
    split at e
    · rename_i ok
      cases e
      cases ra
      have r := rps_rg (K := K) (N := N) (H := H) 0 j
      rw [Int.sub_zero] at r
      exact ⟨j, rfl, rgOk_of ok, post.lst t r⟩
    · cases e
  | _ => cases e
theorem s2_lrg2 {K : PySem.W.Frag} : Spec2 K T (fun x y H Q => ∃ i j, x = .int i ∧ y = .int j ∧ RgOk i j ∧ ∀ q, H q = none → Q (.ref q) (upd H q (.lst (rgV i j)))) lrg2F := by
  intro x y H Q N a b w nok t ra rb e post
  unfold lrg2F at e
  split at e
  · split at e
    · rename_i ok
      cases e; cases ra; cases rb
      exact ⟨_, _, rfl, rfl, rgOk_of ok, post.lst t (rps_rg _ _)⟩
    · cases e
  · cases e
theorem px_lrg1 (hc : X.calm = true) (hg : Gl X "range") (hm : X.mg "range" = none) (hg2 : Gl X "list") (hm2 : X.mg "list" = none) (ha : PX X T io WW a ma)
    (na : starEach [a] X.env = (false, eval a X.env) :: starEach [] X.env := by rfl) (nb : starEach [.Call (.Name "range" p1) [a] [] p2] X.env = (false, eval (.Call (.Name "range" p1) [a] [] p2) X.env) :: starEach [] X.env := by rfl) :
    PX X T io WW (.Call (.Name "list" p) [.Call (.Name "range" p1) [a] [] p2] [] pos) (op1 lrg1F ma) :=
  (pe_listRg hc hg2 hm2 (prg_1 hg hm ha na) nb).imp fun σ H Q h => one_of (g := gX X T io) s1_lrg1 h
theorem px_lrg2 (hc : X.calm = true) (hg : Gl X "range") (hm : X.mg "range" = none) (hg2 : Gl X "list") (hm2 : X.mg "list" = none) (ha : PX X T io WW a ma) (hb : PX X T io WW b mb)
    (na : starEach [a, b] X.env = (false, eval a X.env) :: starEach [b] X.env := by rfl) (nc : starEach [b] X.env = (false, eval b X.env) :: starEach [] X.env := by rfl) (nb : starEach [.Call (.Name "range" p1) [a, b] [] p2] X.env = (false, eval (.Call (.Name "range" p1) [a, b] [] p2) X.env) :: starEach [] X.env := by rfl) :
    PX X T io WW (.Call (.Name "list" p) [.Call (.Name "range" p1) [a, b] [] p2] [] pos) (op2 lrg2F ma mb) :=
  (pe_listRg hc hg2 hm2 (prg_2 hg hm ha hb na nc (by rw [nc]; rfl)) nb).imp fun σ H Q h => two_of (g := gX X T io) s2_lrg2 h
/-! ### xs[::-1] of a list -/
def revF : PyData → Option W
  | .list xs => some (.f xs.reverse)
  | _ => none
theorem s1_rev {K : PySem.W.Frag} : Spec1 K T (fun x H Q => ∃ a xs, x = .ref a ∧ SqL K H a xs ∧ ∀ p, H p = none → Q (.ref p) (upd H p (.lst xs.reverse))) revF := by
  intro x H Q N a w nok t ra e post
  cases a with
  | list ds =>
    cases e
    obtain ⟨p, xs, rfl, hp, r⟩ := ra
    exact ⟨p, xs, rfl, hp, post.lst t r.rev⟩
  | _ => cases e
theorem px_rev {k : Nat} (ha : PX X T io WW a ma) : PX X T io WW (.Subscript a (.Slice none none (some (.UnaryOp .USub (.Constant (.int 1) k p1) p2)) p3) pos) (op1 revF ma) :=
  (pe_revL ha).imp fun σ H Q h => one_of (g := gX X T io) s1_rev h
end
end PL

set_option Elab.async false
set_option linter.all false
set_option maxRecDepth 100000
/-! PL23: extend by a new list. -/
namespace PL
open PySem PySem.Spec PyProof.Rows L2

def extA (k : Nat) (w : W) : EM W := fun env => match w, ownAt env[k]? with
  | .f es, some ks => if ks.length + es.length ≤ sizeLine then .ok (.d .none) (wrS k (ks ++ es) env) else .no
  | _, _ => .no
def extM (k : Nat) (m : EM W) : EM W := fun env => match ownAt env[k]? with
  | some _ => bnd m (extA k) env
  | none => .no
section
variable {X : Cx} {T : List (Addr × Str)} {io : Addr} {WW : WX} {p pos apos cpos : Pos} {y : Str} {e i : Expr} {m mi : EM W}
theorem px_extend (k : Nat) (he : PX X T io WW e m) (hN : X.N[k]? = some y := by rfl) (hv : Vis X.env.scope y := by first | exact Or.inl rfl | exact Or.inr (Or.inl rfl) | exact Or.inr (Or.inr rfl)) (hd : (y == ("__debug__" : Str)) = false := by decide)
    (hcd : (y == ("__classdict__" : Str)) = false := by decide)
    (hbase : attributeBase (.Name y p) "extend" X.env (eval (.Name y p) X.env) = eval (.Name y p) X.env := by rfl)
    (hfew : ((backTo cpos (starEach [e] X.env)).all (fun x => !x.1) && (backToKw cpos (keywordEach [] X.env)).all (fun x => x.1.isSome)
      && decide ([e].length + ([] : List Keyword).length + (if ([] : List Keyword).isEmpty then 0 else 1) < 30)) = true := by rfl)
    (hline : (apos.endLine == cpos.line) = true := by rfl) (hs : starEach [e] X.env = (false, eval e X.env) :: starEach [] X.env := by rfl) :
    PX X T io WW (.Call (.Attribute (.Name y p) "extend" apos) [e] [] cpos) (extM k m) := by
  refine (pe_bm PySem.F.plainAttrs_list PySem.F.slot_list_extend PySem.F.type_list_extend mt_extend (pe_var (i := k) hN hv hd hcd) (pa_cons he pa_nil hs) hbase hfew hline hs (by rfl)).imp fun σ H Q h => ?_
  let g : G := gX X T io
  obtain ⟨No, env, rep, h⟩ := h
  unfold extM at h
  cases q0 : ownAt env[k]? with
  | none => rw [q0] at h; exact h.elim
  | some ks0 =>
    rw [q0] at h
    obtain ⟨a, xs0, e1, e2, e3, ma⟩ := rep.own q0
    refine ⟨.ref a, e1, .inl ⟨rfl, xs0, .inl (.inl e2)⟩, ?_⟩
    refine tX_of (m := m) rep (fun x env' e => ?_) (fun e => ?_) fun w env1 v H1 e ev pv fr => ?_
    · rw [bnd_ex e] at h; exact h
    · rw [bnd_no e] at h; exact h
    have h : match extA k w env1 with
      | .ok w env' => ∀ v H', EvM (Mo g σ env) H (Mo g σ env') H' → PV g No H' σ env' v w → Fr H v w → Q v H'
      | .ex x env' => exC g WW No env σ H x env'
      | .no => False := by rw [bnd_ok e] at h; exact h
    unfold extA at h
    split at h
    · rename_i w' env' q
      split at q
      · rename_i es ks q1
        split at q
        · rename_i hz
          cases q
          obtain ⟨b, zs, rfl, b1, b2, b3, b4⟩ := pv.val
          obtain ⟨xs1, h1, h2⟩ := pv.base.ownA q1 e1
          have b2' : Rps g.K (Un2 No (Mo g σ env1)) H1 zs es := b2.tr (Tr.anti fun c z => z.imp .inl id) _
          obtain ⟨r', ev'⟩ := pv.base.wr q1 e1 h1 (h2.append b2')
          exact ⟨a, b, xs1, zs, rfl, rfl, h1, b1, by rw [h2.length, b2.length]; exact hz, h .non _ (ev.trans ev') ⟨r', .non⟩ trivial⟩
        · cases q
      · cases q
    · rename_i x env' q
      split at q
      · split at q <;> cases q
      · cases q
    · exact h.elim
end
end PL

set_option Elab.async false
set_option linter.all false
set_option maxRecDepth 100000
/-! PL24: the law's own head. -/
namespace PL
open PySem PySem.Spec PyProof.Rows L2

def spL (K : PySem.W.Frag) : Sp := fun vs H Q _ => ∃ (a : Addr) (ns : List Int), vs = [.ref a] ∧ SqL K H a (ns.map V.int) ∧ ns.length ≤ 63 ∧ ∀ H', Q (.bl true) H'
theorem rps_ints {K : PySem.W.Frag} {N : Ax} {H : Hp} : ∀ ns : List Int, Rps K N H (ns.map V.int) (ns.map .int)
  | [] => .nil
  | n :: ns => .cons (.int n) (rps_ints ns)
theorem law_sp {K : PySem.W.Frag} {mg : Str → Option Value} {F : List PyData → FR} (hF : ∀ ns : List Int, ns.length ≤ 63 → F [.list (ns.map .int)] = .ok (.d (.bool true))) (vs : List V) (H : Hp) (Q : VK) (E : XK) (h : spL K vs H Q E) : spF K [] mg 1 F vs H Q E := by
  obtain ⟨a, ns, rfl, hs, hl, q⟩ := h
  refine ⟨F0, [.list (ns.map .int)], fun a z => z.elim, (fun p hp => by cases hp), .cons (.lst (hs.elim (fun h => .inl ⟨fun z => z, h⟩) .inr) (rps_ints ns)) .nil, rfl, ?_⟩
  rw [hF ns hl]
  intro v H' _ _ r
  have r : Rp K F0 H' v (.bool true) := r
  cases r
  exact q H'
theorem cx_none {P : Program} {w : World} {H : Hp} {s s' : Shared} {e : Value} (h : L2.CX P w [] H s (fun _ _ _ => False) e s') : False := by
  obtain ⟨_, _, _, _, _, _, _, _, _, _, _, _, h⟩ := h
  exact h
end PL

set_option Elab.async false
set_option linter.all false
set_option maxRecDepth 100000
/-! PL25: a def's promise by a table. -/
namespace PL
open PySem PySem.Spec PyProof.Rows L2

mutual
def beqD : PyData → PyData → Bool
  | .none, .none => true
  | .bool a, .bool b => a == b
  | .int a, .int b => decide (a = b)
  | .str a, .str b => decide (a.cps.toList = b.cps.toList)
  | .list xs, .list ys => beqL xs ys
  | .tuple xs, .tuple ys => beqL xs ys
  | _, _ => false
def beqL : List PyData → List PyData → Bool
  | [], [] => true
  | x :: xs, y :: ys => beqD x y && beqL xs ys
  | _, _ => false
end
mutual
theorem beqD_eq : ∀ {a b : PyData}, beqD a b = true → a = b
  | .none, b, h => by cases b <;> first | rfl | (unfold beqD at h; cases h)
  | .bool a, b, h => by
    cases b with
    | bool c =>
      unfold beqD at h
      rw [eq_of_beq h]
    | _ => unfold beqD at h; cases h
  | .int a, b, h => by
    cases b with
    | int c =>
      unfold beqD at h
      rw [of_decide_eq_true h]
    | _ => unfold beqD at h; cases h
  | .str a, b, h => by
    cases b with
    | str c =>
      unfold beqD at h
      have e := of_decide_eq_true h
      obtain ⟨x⟩ := a
      obtain ⟨y⟩ := c
      have e : x = y := Array.toList_inj.mp e
      rw [e]
    | _ => unfold beqD at h; cases h
  | .list xs, b, h => by
    cases b with
    | list ys =>
      unfold beqD at h
      rw [beqL_eq h]
    | _ => unfold beqD at h; cases h
  | .tuple xs, b, h => by
    cases b with
    | tuple ys =>
      unfold beqD at h
      rw [beqL_eq h]
    | _ => unfold beqD at h; cases h
  | .dict xs, b, h => by cases b <;> (unfold beqD at h; cases h)
theorem beqL_eq : ∀ {a b : List PyData}, beqL a b = true → a = b
  | [], b, h => by
    cases b with
    | nil => rfl
    | cons _ _ => unfold beqL at h; cases h
  | x :: xs, b, h => by
    cases b with
    | nil => unfold beqL at h; cases h
    | cons y ys =>
      unfold beqL at h
      rw [Bool.and_eq_true] at h
      rw [beqD_eq h.1, beqL_eq h.2]
end
/-- a table: arguments, the result (as data, or as a new list) -/
inductive TV where
  | d (x : PyData) | f (xs : List PyData)
def TV.fr : TV → FR
  | .d x => .ok (.d x)
  | .f xs => .ok (.f xs)
def isTV : FR → TV → Bool
  | .ok (.d x), .d y => beqD x y
  | .ok (.f x), .f y => beqL x y
  | _, _ => false
theorem isTV_eq {r : FR} {t : TV} (h : isTV r t = true) : r = t.fr := by
  unfold isTV at h
  split at h
  · rw [beqD_eq h]; rfl
  · rw [beqL_eq h]; rfl
  · cases h
def lookT : List (List PyData × TV) → List PyData → FR
  | [], _ => .no
  | (k, r) :: t, ds => if beqL k ds = true then r.fr else lookT t ds
theorem tab_ok {F : List PyData → FR} : ∀ {t : List (List PyData × TV)}, (t.all fun p => isTV (F p.1) p.2) = true → ∀ ds, lookT t ds ≠ .no → F ds = lookT t ds
  | [], _, ds, h => absurd rfl h
  | (k, r) :: t, h, ds, hn => by
    rw [List.all_cons, Bool.and_eq_true] at h
    unfold lookT at hn ⊢
    by_cases e : beqL k ds = true
    · rw [if_pos e]
      rw [← beqL_eq e]
      exact isTV_eq h.1
    · rw [if_neg e] at hn ⊢
      exact tab_ok h.2 ds hn
theorem fn_part {P : Program} {w : World} {K : PySem.W.Frag} {mg : Str → Option Value} {base : Heap} {CX : CXT} {k n : Nat} {f : Addr} {fd : FuncData} {ps : List Str} {T : List (Addr × Str)} {F G : List PyData → FR}
    (FO : FnOk P w K mg base CX k f fd ps (spF K T mg n F)) (h : ∀ ds, G ds ≠ .no → F ds = G ds) : FnOk P w K mg base CX k f fd ps (spF K T mg n G) :=
  FO.imp fun vs H Q E q => by
    obtain ⟨No, ds, nok, tb, r, hl, q⟩ := q
    refine ⟨No, ds, nok, tb, r, hl, ?_⟩
    have hn : G ds ≠ .no := fun z => by rw [z] at q; exact q
    rw [h ds hn]
    exact q
theorem fn_tab {P : Program} {w : World} {K : PySem.W.Frag} {mg : Str → Option Value} {base : Heap} {CX : CXT} {k n : Nat} {f : Addr} {fd : FuncData} {ps : List Str} {T : List (Addr × Str)} {F : List PyData → FR} (t : List (List PyData × TV))
    (FO : FnOk P w K mg base CX k f fd ps (spF K T mg n F)) (h : (t.all fun p => isTV (F p.1) p.2) = true) : FnOk P w K mg base CX k f fd ps (spF K T mg n (lookT t)) :=
  fn_part FO (tab_ok h)
end PL

set_option Elab.async false
set_option linter.all false
set_option maxRecDepth 100000
/-! PL26: min, max of lists and tuples of any data. -/
namespace PL
open PySem PySem.Spec PyProof.Rows L2

def mmOk (ds : List PyData) : Bool := (ds.all fun d => ds.all fun d' => PySem.W.alike d d') && (ds.all fun d => !isNone d) && decide (PyData.depthAll ds ≤ 60) && PyData.canLayAll0 ds
/-- the item that is chosen -/
theorem mmOk_lay {ds : List PyData} (h : mmOk ds = true) : PyData.canLayAll0 ds = true := by
  unfold mmOk at h
  rw [Bool.and_eq_true] at h
  exact h.2
def rMM (K : PySem.W.Frag) (f : PyData → List PyData → PyData) : List V → Hp → VK → Prop := fun vs H Q => ∃ a xs d ds, vs = [.ref a] ∧ (SqL K H a xs ∨ SqT K H a xs) ∧ DpAll K H xs (d :: ds) ∧ mmOk (d :: ds) = true ∧
  ∀ (i : Nat) (v : V), xs[i]? = some v → (d :: ds)[i]? = some (f d ds) → Q v H
theorem mmOk_of {ds : List PyData} (h : mmOk ds = true) : PySem.W.AlikeAll ds ∧ PyData.depthAll ds ≤ 60 := by
  unfold mmOk at h
  rw [Bool.and_eq_true, Bool.and_eq_true, Bool.and_eq_true] at h
  have h := h.1
  exact ⟨⟨fun d hd d' hd' => List.all_eq_true.mp (List.all_eq_true.mp h.1.1 d hd) d' hd', fun d hd z => by
    have := List.all_eq_true.mp h.1.2 d hd
    rw [z] at this
    cases this⟩, of_decide_eq_true h.2⟩
theorem mm_at {X : Cx} {pins : List (Addr × Obj)} {σ : St} {H : Hp} {s : Shared} {xs : List V} {its : List Value} {d : PyData} {ds : List PyData} {f : PyData → List PyData → PyData} {i : Nat} {v : Value} {h' : Heap} {bs : List Addr} (I : Inv X pins σ H s) (rv : Vals xs its) (hd : DpAll X.K H xs (d :: ds)) (al : PySem.W.AlikeAll (d :: ds)) (hf : f d ds ∈ d :: ds)
    (hi : its[i]? = some v) (r : Reads h' v (f d ds) bs) (hk : ∀ b o, s.heap.get? b = some o → h'.get? b = some o) : ∃ x, xs[i]? = some x ∧ RelV x v ∧ (d :: ds)[i]? = some (f d ds) := by
  obtain ⟨as, ra⟩ := Dp.readsAll I (d :: ds) xs its hd rv
  obtain ⟨bs2, r2, hlt, hm, _⟩ := PySem.W.readsAll_at ra i v hi
  have r3 := PyProof.Rows.Reads.keeps hk r2
  have e := PySem.W.alike_unique _ _ _ _ _ (al.1 _ hm _ hf) r3 r
  have hx : i < xs.length := by
    rw [rv.length]
    rcases Nat.lt_or_ge i its.length with z | z
    · exact z
    · rw [List.getElem?_eq_none z] at hi; cases hi
  obtain ⟨u, hu, ru⟩ := rv.get (List.getElem?_eq_getElem hx)
  rw [hi] at hu
  cases hu
  refine ⟨xs[i], List.getElem?_eq_getElem hx, ru, ?_⟩
  rw [List.getElem?_eq_getElem hlt, ← e, List.getD_eq_getElem?_getD, List.getElem?_eq_getElem hlt]
  rfl
theorem fold_mem {f : PyData → PyData → Bool} : ∀ (ds : List PyData) (d : PyData), ds.foldl (fun a y => if f a y = true then y else a) d ∈ d :: ds
  | [], d => List.mem_cons_self
  | e :: ds, d => by
    rw [List.foldl_cons]
    have := fold_mem (f := f) ds (if f d e = true then e else d)
    rcases List.mem_cons.mp this with z | z
    · rw [z]
      split
      · exact List.mem_cons_of_mem _ List.mem_cons_self
      · exact List.mem_cons_self
    · exact List.mem_cons_of_mem _ (List.mem_cons_of_mem _ z)
theorem cr_minD {X : Cx} (hc : X.calm = true) (hu : X.A.units + 65 < cLine) : CallR X (.builtin "min") (rMM X.K PySem.W.minD) := by
  intro pins s σ H vs us Q I r h
  obtain ⟨a, xs, d, ds, rfl, hs, hd, ok, q⟩ := h
  rw [Vals.ref1 r]
  obtain ⟨al, dp⟩ := mmOk_of ok
  have hf : PySem.W.minD d ds ∈ d :: ds := fold_mem (f := fun a y => PySem.W.dataLt y a) ds d
  have fin : ∀ {its : List Value} (rv : Vals xs its) (i : Nat) v h' tk bs, its.toArray[i]? = some v → Reads h' v (PySem.W.minD d ds) bs → (∀ b o, s.heap.get? b = some o → h'.get? b = some o) → EP X pins σ Q v { s with heap := h', toks := tk } := fun rv i v h' tk bs hi rr hk => by
    obtain ⟨x, e1, e2, e3⟩ := mm_at (f := PySem.W.minD) I rv hd al hf (by simpa using hi) rr hk
    exact ⟨x, H, I.kept hk, e2, q i x e1 e3⟩
  rcases hs with hs | hs
  · obtain ⟨its, rv, hl, _⟩ := I.list hs
    obtain ⟨as, ra⟩ := Dp.readsAll I (d :: ds) xs its hd rv
    exact PySem.W.min_list_data (vs := its.toArray) (I.ok.hd hc) hl.isList ra al (by omega) (fin rv)
  · obtain ⟨its, rv, hl, _⟩ := I.tuple hs
    obtain ⟨as, ra⟩ := Dp.readsAll I (d :: ds) xs its hd rv
    exact PySem.W.min_tuple_data (vs := its.toArray) (I.ok.hd hc) hl ra al (by omega) (fin rv)
theorem cr_maxD' {X : Cx} (hc : X.calm = true) (hu : X.A.units + 65 < cLine) : CallR X (.builtin "max") (rMM X.K PySem.W.maxD) := by
  intro pins s σ H vs us Q I r h
  obtain ⟨a, xs, d, ds, rfl, hs, hd, ok, q⟩ := h
  rw [Vals.ref1 r]
  obtain ⟨al, dp⟩ := mmOk_of ok
  have hf : PySem.W.maxD d ds ∈ d :: ds := fold_mem (f := fun a y => PySem.W.dataLt a y) ds d
  have fin : ∀ {its : List Value} (rv : Vals xs its) (i : Nat) v h' tk bs, its.toArray[i]? = some v → Reads h' v (PySem.W.maxD d ds) bs → (∀ b o, s.heap.get? b = some o → h'.get? b = some o) → EP X pins σ Q v { s with heap := h', toks := tk } := fun rv i v h' tk bs hi rr hk => by
    obtain ⟨x, e1, e2, e3⟩ := mm_at (f := PySem.W.maxD) I rv hd al hf (by simpa using hi) rr hk
    exact ⟨x, H, I.kept hk, e2, q i x e1 e3⟩
  rcases hs with hs | hs
  · obtain ⟨its, rv, hl, _⟩ := I.list hs
    obtain ⟨as, ra⟩ := Dp.readsAll I (d :: ds) xs its hd rv
    exact PySem.W.max_list_data (vs := its.toArray) (I.ok.hd hc) hl.isList ra al (by omega) (fin rv)
  · obtain ⟨its, rv, hl, _⟩ := I.tuple hs
    obtain ⟨as, ra⟩ := Dp.readsAll I (d :: ds) xs its hd rv
    exact PySem.W.max_tuple_data (vs := its.toArray) (I.ok.hd hc) hl ra al (by omega) (fin rv)
def mmF (f : PyData → List PyData → PyData) : PyData → Option W
  | .list (d :: ds) => if mmOk (d :: ds) = true then some (.d (f d ds)) else none
  | .tuple (d :: ds) => if mmOk (d :: ds) = true then some (.d (f d ds)) else none
  | _ => none
abbrev minDF : PyData → Option W := mmF PySem.W.minD
abbrev maxDF : PyData → Option W := mmF PySem.W.maxD
theorem Rps.at_ {K : PySem.W.Frag} {N : Ax} {H : Hp} {xs : List V} {ds : List PyData} {i : Nat} {v : V} {d : PyData} (r : Rps K N H xs ds) (e : xs[i]? = some v) (e' : ds[i]? = some d) : Rp K N H v d := by
  obtain ⟨u, h1, h2⟩ := r.get e'
  rw [e] at h1
  cases h1
  exact h2
theorem s1_mm {K : PySem.W.Frag} {T : List (Addr × Str)} {f : PyData → List PyData → PyData} : Spec1 K T (fun x H Q => rMM K f [x] H Q) (mmF f) := by
  intro x H Q N a w nok t ra e post
  unfold mmF at e
  split at e
  · split at e
    · rename_i d ds ok
      cases e
      obtain ⟨p, xs, rfl, hp, r⟩ := ra
      exact ⟨p, xs, d, ds, rfl, .inl hp, r.dp _ (mmOk_lay ok), ok, fun i v e1 e2 => post v H (EvM.refl _ _) t (r.at_ e1 e2)⟩
    · cases e
  · split at e
    · rename_i d ds ok
      cases e
      cases ra with
      | tup l r => exact ⟨_, _, d, ds, rfl, .inr l.sq, r.dp _ (mmOk_lay ok), ok, fun i v e1 e2 => post v H (EvM.refl _ _) t (r.at_ e1 e2)⟩
    · cases e
  · cases e
end PL

set_option Elab.async false
set_option linter.all false
set_option maxRecDepth 100000
/-! PL27: defs of no argument; tests by tables. -/
namespace PL
open PySem PySem.Spec PyProof.Rows L2
section
variable {X : Cx} {T : List (Addr × Str)} {io : Addr} {WW : WX} {p pos : Pos} {x : Str} {k : Nat} {f : Addr} {fd : FuncData}
def tCallS0 (sp : Sp) (E : St → XK) : TE := fun σ H Q => sp [] H Q (E σ)
theorem pe_callS0 {sp : Sp} {E : St → XK} (F : FnOk X.prog X.w X.K X.mg X.base (L2.CX X.prog X.w) k f fd [] sp) (hr : Room k X.A) (hg : Gl X x) (hm : X.mg x = some (.ref f)) (hk : PySem.W.keepIn X.K (.ref f) = true) (hb : Binds X.K fd [] []) (hx : ∀ σ, PassesAt (L2.CX X.prog X.w) X σ (E σ))
    (hdb : (x == ("__debug__" : Str)) = false := by decide) : PE X (.Call (.Name x p) [] [] pos) (tCallS0 sp E) := by
  refine ⟨fun pins s σ H Q I h => ?_⟩
  refine wpAny_Call_Name_kw (ld_glob I hg hm ?_ hdb)
  exact PySem.W.callWith_K0 I.kIn hk (run_fnS F hr hb (hx σ) I .nil h)
theorem px_call0 {F : List PyData → FR} (FO : FnOk X.prog X.w X.K X.mg X.base (L2.CX X.prog X.w) k f fd [] (spF X.K T X.mg 0 F)) (hr : Room k X.A) (hg : Gl X x) (hm : X.mg x = some (.ref f)) (hk : PySem.W.keepIn X.K (.ref f) = true) (hb : Binds X.K fd [] []) (tk : Takes X WW)
    (hdb : (x == ("__debug__" : Str)) = false := by decide) : PX X T io WW (.Call (.Name x p) [] [] pos) (frA (F [])) := by
  refine (pe_callS0 FO hr hg hm hk hb (fun σ => passAt tk σ) hdb).imp fun σ H Q h => ?_
  obtain ⟨No, env, r, h⟩ := h
  refine ⟨_, [], r.nok, r.tab, .nil, rfl, ?_⟩
  cases q : F [] with
  | ok w =>
    rw [q] at h
    intro v H' e' t' q'
    obtain ⟨p1, p2⟩ := fin_of r (fun a z => z) e' t' q'
    exact h v H' e'.up p1 p2
  | ex y =>
    rw [q] at h
    intro cls dx H' e' t' q'
    exact h cls dx H' e'.up (r.ev e' t' fun a z => .inl z) q'
  | no =>
    rw [q] at h
    exact h
end
end PL

set_option Elab.async false
set_option linter.all false
set_option maxRecDepth 100000
/-! PL28: ranges kept as values; any list, tuple or range walked. -/
namespace PL
open PySem PySem.Spec PyProof.Rows L2

def rngD (i j : Int) : PyData := .dict [(.none, .int i), (.none, .int j)]
theorem cr_range1 {X : Cx} : CallR X (.type "range") (fun vs H Q => ∃ j, vs = [V.int j] ∧ ∀ p, H p = none → Q (.ref p) (upd H p (.rng 0 j))) := by
  intro pins s σ H vs us Q I r h
  obtain ⟨j, rfl, q⟩ := h
  obtain ⟨u, rfl, ru⟩ := r.one
  obtain ⟨t, rfl⟩ := ru
  exact call_range_1 ⟨.ref s.heap.objs.size, _, I.laid (t' := _) (o := .rng 0 j) (fun b o e => Heap.get?_push_of_some _ e) (Nat.le_refl _) ⟨_, t, _, Heap.get?_push_size _ rfl⟩, rfl, q _ (I.hok.fresh (Nat.le_refl _))⟩
def rng1F : PyData → Option W
  | .int j => some (.d (rngD 0 j))
  | _ => none
def rng2F : PyData → PyData → Option W
  | .int i, .int j => some (.d (rngD i j))
  | _, _ => none
section
variable {K : PySem.W.Frag} {T : List (Addr × Str)}
theorem Post.rng {N : Ax} {H : Hp} {Q : VK} {i j : Int} (post : Post K T N H (.d (rngD i j)) Q) (nok : Nok N H) (t : LamX.Tabs T H) : ∀ p, H p = none → Q (.ref p) (upd H p (.rng i j)) :=
  fun p np => post _ _ (EvM.upd np) (tabs_upd t np) (.rng (fun z => nok p z np) (.inl upd_same))
theorem s1_rng1 : Spec1 K T (fun x H Q => ∃ j, [x] = [V.int j] ∧ ∀ p, H p = none → Q (.ref p) (upd H p (.rng 0 j))) rng1F := by
  intro x H Q N a w nok t ra e post
  cases a with
  | int j => cases e; cases ra; exact ⟨j, rfl, post.rng nok t⟩
  | _ => cases e
theorem s2_rng2 : Spec2 K T (fun x y H Q => ∃ i j, [x, y] = [V.int i, V.int j] ∧ ∀ p, H p = none → Q (.ref p) (upd H p (.rng i j))) rng2F := by
  intro x y H Q N a b w nok t ra rb e post
  unfold rng2F at e
  split at e
  · cases e; cases ra; cases rb; exact ⟨_, _, rfl, post.rng nok t⟩
  · cases e
end
theorem RpK.nn {K : PySem.W.Frag} {N : Ax} {H : Hp} {kvs : List (L2.Key × V)} {qs : List (PyData × PyData)} (h : RpK K N H kvs qs) (d : PyData) (ps : List (PyData × PyData)) : qs ≠ (.none, d) :: ps := by
  cases h with
  | nil => exact fun z => by cases z
  | cons a b =>
    rename_i k _ _ _ _
    intro z
    have z1 : keyD k = .none := congrArg Prod.fst (List.cons.inj z).1
    cases k <;> cases z1
def iAny (K : PySem.W.Frag) (tl : TE) : TI := fun σ H R => tl σ H fun x H1 => ∃ a, x = .ref a ∧ (((∃ xs, SqL K H1 a xs) ∧ R (Itl K a) H1) ∨ ((∃ xs, SqT K H1 a xs) ∧ R (Itt K a) H1) ∨ ∃ i j, Rd H1 a (.rng i j) ∧ (rngOk i && rngOk j) = true ∧ R (Itr i (j - i).toNat) H1)
theorem pi_anyA {X : Cx} {tg l : Expr} {tl : TE} (hl : PE X l tl) : PI X tg l (iAny X.K tl) := by
  refine ⟨fun pins s σ H R I h => ?_⟩
  refine thn (hl.run pins s σ H _ I h) fun v s1 ⟨x, H1, I1, r1, q1⟩ => ?_
  have new : ∀ b, b ∈ [s1.heap.objs.size] → FpOk X pins H1 b := fun b hb => by
    obtain rfl : b = s1.heap.objs.size := by simpa using hb
    exact I1.fpOk (Nat.le_refl _) (I1.hok.fresh (Nat.le_refl _))
  obtain ⟨a, rfl, q1⟩ := q1
  obtain rfl : v = Value.ref a := r1
  rcases q1 with ⟨⟨xs, hq⟩, q⟩ | ⟨⟨xs, hq⟩, q⟩ | ⟨i, j, hr, hb, q⟩
  · obtain ⟨its, rv, p, hz⟩ := I1.list hq
    exact wpAny_pyIter_list p.isList ⟨s1.heap.objs.size, [s1.heap.objs.size], _, _, H1, rfl, I1.kept (t' := s1.toks) fun b o e => Heap.get?_push_of_some _ e, turn_list a _, ⟨_, Heap.get?_push_size _ rfl, rfl, rfl⟩, new, q⟩
  · obtain ⟨its, rv, p, hz⟩ := I1.tuple hq
    exact wpAny_pyIter_tuple (show s1.heap.IsTuple a its.toArray from p) ⟨s1.heap.objs.size, [s1.heap.objs.size], _, _, H1, rfl, I1.kept (t' := s1.toks) fun b o e => Heap.get?_push_of_some _ e, turn_tuple a _, ⟨_, Heap.get?_push_size _ rfl, rfl, rfl⟩, new, q⟩
  · rw [Bool.and_eq_true] at hb
    have b1 := rngOk_of hb.1
    have b2 := rngOk_of hb.2
    obtain ⟨t, u, w, ho⟩ := (show ObjOk X.prog X.w H1 s1.heap a (.rng i j) from rd_of I1.hok hr)
    refine wpAny_pyIter_range (show IsRange s1.heap a i j 1 t u w from ho) (small_one b1.1 b1.2 b2.1 b2.2) ?_
    refine ⟨s1.heap.objs.size, [s1.heap.objs.size], _, _, H1, rfl, I1.kept (t' := s1.toks) fun b o e => Heap.get?_push_of_some _ e, turn_range _ i (j - i).toNat, ?_, new, q⟩
    show IsRangeIter _ _ (i + ((0 : Nat) : Int) * 1) ((((j - i).toNat : Nat) : Int) - ((0 : Nat) : Int)) 1
    have z1 : i + ((0 : Nat) : Int) * 1 = i := by simp
    have z2 : (((j - i).toNat : Nat) : Int) - ((0 : Nat) : Int) = Builtin.Range.rangeSize i j 1 := by
      rw [rangeSize_one]
      split <;> omega
    rw [z1, z2]
    exact Heap.get?_push_size _ rfl
def anyK : PyData → EM (List PyData)
  | .list xs => ret xs
  | .tuple xs => ret xs
  | .dict [(.none, .int i), (.none, .int j)] => if (rngOk i && rngOk j) = true then ret (rngL i (j - i).toNat) else fun _ => .no
  | _ => fun _ => .no
def anyI (m : EM W) : EM (List PyData) := bnd (bnd m esc) anyK
theorem kk_any (x : PyData) (env : Env) : (∃ xs, anyK x env = .ok xs env) ∨ anyK x env = .no := by
  unfold anyK
  split
  · exact .inl ⟨_, rfl⟩
  · exact .inl ⟨_, rfl⟩
  · split
    · exact .inl ⟨_, rfl⟩
    · exact .inr rfl
  · exact .inr rfl
theorem pix_any {X : Cx} {T : List (Addr × Str)} {io : Addr} {WW : WX} {tg e : Expr} {m : EM W} (he : PX X T io WW e m) : PIx X T io WW tg e (anyI m) := by
  refine (pi_anyA he).imp fun σ H R h => ?_
  refine it_of (k := anyK) kk_any h fun x xs env No v H1 q r rx hR => ?_
  unfold anyK at q
  split at q
  · cases q
    cases rx with
    | lst l rs => exact ⟨_, rfl, .inl ⟨⟨_, l.sq⟩, hR _ (itOk_list l rs)⟩⟩
  · cases q
    cases rx with
    | tup l rs => exact ⟨_, rfl, .inr (.inl ⟨⟨_, l.sq⟩, hR _ (itOk_tup l rs)⟩)⟩
  · split at q
    · rename_i i j hb
      cases q
      cases rx with
      | rng n e => exact ⟨_, rfl, .inr (.inr ⟨i, j, e, hb, hR _ (itOk_range i _)⟩)⟩
      | dicT n e r => cases r
      | dicK n e r => exact absurd rfl (RpK.nn r _ _)
    · cases q
  · cases q
section
variable {X : Cx} {T : List (Addr × Str)} {io : Addr} {WW : WX} {p pos : Pos} {x : Str} {a b : Expr} {ma mb : EM W} {id : String} {r : List V → Hp → VK → Prop}
theorem px_t2 {f : PyData → PyData → Option W} (hc : CallR X (.type id) r) (hs : Spec2 X.K T (fun x y H Q => r [x, y] H Q) f) (hg : Gl X x) (hm : X.mg x = none) (hv : bootBuiltins x = some (.type id)) (ha : PX X T io WW a ma) (hb : PX X T io WW b mb)
    (he : starEach [a, b] X.env = (false, eval a X.env) :: starEach [b] X.env := by rfl) (he2 : starEach [b] X.env = [(false, eval b X.env)] := by rfl) (hn : x ≠ "__name__" := by decide) (hdb : (x == ("__debug__" : Str)) = false := by decide) : PX X T io WW (.Call (.Name x p) [a, b] [] pos) (op2 f ma mb) :=
  (pe_callTy hc hg hm hv (pa_cons ha (pa_cons hb pa_nil he2) he) hn hdb he (by rw [he2]; rfl)).imp fun σ H Q h => two_of (g := gX X T io) hs h
theorem bb_range : bootBuiltins "range" = some (.type "range") := PyProof.Rows.boot_range
end
end PL

set_option Elab.async false
set_option linter.all false
set_option maxRecDepth 100000
/-! PL29: d[k] of dicts that are data. -/
namespace PL
open PySem PySem.Spec PyProof.Rows L2

def lookD : List (PyData × PyData) → PyData → Option PyData
  | [], _ => none
  | (k, d) :: ps, x => if beqD k x = true then some d else lookD ps x
theorem keyD_inj : ∀ {a b : L2.Key}, keyD a = keyD b → a = b
  | .inl i, .inl j, h => by cases h; rfl
  | .inl i, .inr j, h => by cases h
  | .inr i, .inl j, h => by cases h
  | .inr i, .inr j, h => by cases h; rfl
theorem keyDs_inj : ∀ {a b : List L2.Key}, a.map keyD = b.map keyD → a = b
  | [], [], _ => rfl
  | [], _ :: _, h => by cases h
  | _ :: _, [], h => by cases h
  | a :: as, b :: bs, h => by
    rw [List.map_cons, List.map_cons] at h
    have h1 := List.cons.inj h
    rw [keyD_inj h1.1, keyDs_inj h1.2]
theorem beqD_key (k : L2.Key) : beqD (keyD k) (keyD k) = true := by
  cases k with
  | inl i => unfold keyD beqD; exact decide_eq_true rfl
  | inr x => unfold keyD beqD; exact decide_eq_true rfl
theorem beqL_keys : ∀ ks : List L2.Key, beqL (ks.map keyD) (ks.map keyD) = true
  | [] => by rw [List.map_nil]; unfold beqL; rfl
  | k :: ks => by
    rw [List.map_cons]
    unfold beqL
    rw [beqD_key, beqL_keys ks]
    rfl
theorem beqD_keys (ks : List L2.Key) : beqD (.tuple (ks.map keyD)) (.tuple (ks.map keyD)) = true := by
  unfold beqD
  exact beqL_keys ks
section
variable {K : PySem.W.Frag} {N : Ax} {H : Hp}
theorem RpT.look : ∀ {kvs : List (List L2.Key × V)} {ps : List (PyData × PyData)} {x d : PyData}, RpT K N H kvs ps → lookD ps x = some d → ∃ k v, x = .tuple (k.map keyD) ∧ valV kvs k = some v ∧ Rp K N H v d
  | _, _, _, _, .nil, e => by cases e
  | _, _, x, d, .cons (k := k) (v := v) (kvs := kvs) (d := d0) r t, e => by
    unfold lookD at e
    split at e
    · rename_i q
      cases e
      exact ⟨k, v, (beqD_eq q).symm, valV_pos rfl, r⟩
    · rename_i q
      obtain ⟨k', v', e1, e2, e3⟩ := RpT.look t e
      refine ⟨k', v', e1, ?_, e3⟩
      rw [valV_neg (fun z => q (by
        have z : k = k' := z
        rw [e1, z]
        exact beqD_keys k'))]
      exact e2
theorem RpK.look : ∀ {kvs : List (L2.Key × V)} {ps : List (PyData × PyData)} {x d : PyData}, RpK K N H kvs ps → lookD ps x = some d → ∃ k v, x = keyD k ∧ valV kvs k = some v ∧ Rp K N H v d
  | _, _, _, _, .nil, e => by cases e
  | _, _, x, d, .cons (k := k) (v := v) (kvs := kvs) (d := d0) r t, e => by
    unfold lookD at e
    split at e
    · rename_i q
      cases e
      exact ⟨k, v, (beqD_eq q).symm, valV_pos rfl, r⟩
    · rename_i q
      obtain ⟨k', v', e1, e2, e3⟩ := RpK.look t e
      refine ⟨k', v', e1, ?_, e3⟩
      rw [valV_neg (fun z => q (by
        have z : k = k' := z
        rw [e1, z]
        exact beqD_key k'))]
      exact e2
theorem Rp.key {v : V} {k : L2.Key} (r : Rp K N H v (keyD k)) : v = kV k := by
  cases k with
  | inl i => unfold keyD at r; cases r; rfl
  | inr x => unfold keyD at r; cases r; rfl
theorem Rps.keys : ∀ {ks : List L2.Key} {vs : List V}, Rps K N H vs (ks.map keyD) → vs = ks.map kV
  | [], _, h => by cases h; rfl
  | k :: ks, _, h => by
    rw [List.map_cons] at h
    cases h with
    | cons a b => rw [a.key, Rps.keys b]; rfl
end
/-- d[k] -/
def rIxDc (K : PySem.W.Frag) : R2 := fun x y H Q => (∃ a kvs k v, x = .ref a ∧ y = kV k ∧ Rd H a (.dK kvs) ∧ valV kvs k = some v ∧ Q v H) ∨ ∃ a b kvs k v, x = .ref a ∧ y = .ref b ∧ Rd H a (.dT kvs) ∧ SqT K H b (k.map kV) ∧ valV kvs k = some v ∧ Q v H
theorem ix_dict {X : Cx} (hu : X.A.units + 65 < cLine) : IxR X (rIxDc X.K) := by
  intro value slice pins s σ H x y v u Q I rx ry h hs
  rcases h with ⟨a, kvs, k, w, rfl, rfl, e, l, q⟩ | ⟨a, b, kvs, k, w, rfl, rfl, e, hb, l, q⟩
  · obtain rfl : v = Value.ref a := rx
    obtain ⟨z, hd, vs, rel, dd⟩ := dk_rd I.hok e
    have g : DGet H a (kV k) (some w) := .inl ⟨kvs, k, e, rfl, l.symm⟩
    exact tail_any dd.typeIs PySem.F.slot_dict_getitem.lookup (d_getItem (by omega) I g ry fun w' s' I' rw' => ⟨w, H, I', rw', q⟩) hs
  · obtain rfl : v = Value.ref a := rx
    obtain rfl : u = Value.ref b := ry
    obtain ⟨z, hd, xs, rel, dd⟩ := dt_rd I.hok e
    obtain ⟨its, rv, ⟨⟨oc, od, dt, sl⟩, ho, hc, n, hdt⟩, _⟩ := I.tuple hb
    obtain ⟨w', hw, rw'⟩ := RelO.some_of (v := w) (o := (atKey xs k).map (·.2)) (by rw [← l]; exact rel.val k)
    obtain ⟨p, hp, hp2⟩ := Option.map_eq_some_iff.mp hw
    refine tail_any dd.typeIs PySem.F.slot_dict_getitem.lookup (wpAny_getItem_heap (tupleKind_room_in1 (by omega)) ⟨_, its.toArray, n, ho, hc, hdt, by simpa using items_are rv⟩ dd hp ?_) hs
    rw [hp2]
    exact ⟨w, H, I.tok _, rw', q⟩
def dgetF : PyData → PyData → Option W
  | .dict ps, k => if isNone k = true then none else (lookD ps k).map .d
  | _, _ => none
def ixA : PyData → PyData → Option W := orF ixF dgetF
theorem s2_dget {K : PySem.W.Frag} {T : List (Addr × Str)} : Spec2 K T (rIxDc K) dgetF := by
  intro x y H Q N a b w nok t ra rb e post
  unfold dgetF at e
  split at e
  · rename_i ps
    by_cases hn : isNone b = true
    · rw [if_pos hn] at e; cases e
    rw [if_neg hn] at e
    cases q : lookD ps b with
    | none => rw [q] at e; cases e
    | some d =>
      rw [q] at e
      cases e
      rcases ra with ra | ⟨a', kvs, rfl, e, r⟩
      rotate_left
      · obtain ⟨k, v, rfl, e2, e3⟩ := r.look q
        have rk : Rp K N H y (keyD k) := by cases k <;> exact rb
        exact .inl ⟨_, _, k, v, rfl, rk.key, e, e2, post v H (EvM.refl _ _) t e3⟩
      cases ra with
      | dicT n e r =>
        obtain ⟨k, v, rfl, e2, e3⟩ := r.look q
        cases rb with
        | tup l rs =>
          have lsq := l.sq
          rw [rs.keys] at lsq
          exact .inr ⟨_, _, _, k, v, rfl, rfl, e, lsq, e2, post v H (EvM.refl _ _) t e3⟩
      | dicK n e r =>
        obtain ⟨k, v, rfl, e2, e3⟩ := r.look q
        have rk : Rp K N H y (keyD k) := by cases k <;> exact rb
        exact .inl ⟨_, _, k, v, rfl, rk.key, e, e2, post v H (EvM.refl _ _) t e3⟩
      | rng n e =>
        have nz : ∀ {p : PyData}, beqD .none b = true → False := fun z => hn (by rw [← beqD_eq z]; rfl)
        unfold lookD at q
        split at q
        · rename_i z; exact (nz (p := .none) z).elim
        · unfold lookD at q
          split at q
          · rename_i z; exact (nz (p := .none) z).elim
          · cases q
  · cases e
section
variable {X : Cx} {T : List (Addr × Str)} {io : Addr} {WW : WX} {pos : Pos} {a b : Expr} {ma mb : EM W}
def rIxAll (K : PySem.W.Frag) : R2 := fun x y H Q => rIxD K x y H Q ∨ rIxDc K x y H Q
theorem px_ixA (hu : X.A.units + 65 < cLine) (ha : PX X T io WW a ma) (hb : PX X T io WW b mb) (hs : PlainIx b := by exact fun _ _ => rfl) : PX X T io WW (.Subscript a b pos) (op2 ixA ma mb) :=
  (pe_ix (ix_dat.or (ix_dict hu)) ha hb hs).imp fun σ H Q h => two_of (g := gX X T io) (s2_ix.or s2_dget) h
end
end PL

set_option Elab.async false
set_option linter.all false
set_option maxRecDepth 100000
/-! PL30: dict comprehensions whose keys are tuples. -/
namespace PL
open PySem PySem.Spec PyProof.Rows L2

/-- the dict at D gets one more under a tuple -/
theorem dictSet_tup {X : Cx} {pins : List (Addr × Obj)} {σ : St} {H : Hp} {s : Shared} {D b : Addr} {kvs : List (List L2.Key × V)} {k : List L2.Key} {v : V} {r : Value} {A : Around} {E : Value → Shared → Prop} {Q : Unit → Shared → Prop} (hu : A.units + 1 < cLine) (I : Inv X pins σ H s) (hD : H D = some (.dT kvs)) (hb : H b = some (.tup (k.map kV)))
    (hz : kvs.length < sizeLine) (rv : RelV v r) (h : ∀ s', Inv X pins σ (upd H D (.dT (putK kvs k v))) s' → Q () s') : wpAny (model X.prog X.w) A (dictSet D (.ref b) r) Q E s := by
  obtain ⟨z, nm, ents, rel, dd⟩ := dt_of I.hok hD
  have small : (putK kvs k v).length ≤ sizeLine := by have := length_putK kvs k v; omega
  refine wpAny_dictSet_heap (hsz := by rw [← Paired.length rel]; exact z) (show A.units < cLine by omega) (key_of I.hok hb) dd fun h2 dd2 same => h _ ?_
  obtain ⟨o2, es2, ep2, g2, c2, e2, f2, _, nd2⟩ := dd2
  refine d_write I (by rw [hD]; trivial) same ⟨o2, g2⟩ ⟨small, nm, _, (rel.put k hb rv).keeps fun c ys ec => ?_, o2, es2, ep2, g2, c2, e2, f2, nd2⟩
  have ne : c ≠ D := ne_of ec hD fun z => by cases z
  rw [upd_ne ne]
  exact ec
/-- {key: value for tg in iter if ..}: each key a new tuple of ints and texts -/
def tDcT (wi : TI) (g : TG) (tt : TT) (tk tv : TE) (vs : List Nat) : TE := fun σ H Q => wi σ H fun J H1 => ∀ D, H1 D = none → ∃ W : Nat → Nat → Hp → Prop, (∃ m, W 0 m (upd H1 D (.dT []))) ∧ ∀ i m H, W i m H →
  (J.stop i H ∧ Q (.ref D) H) ∨ (J.go i H ∧ ∃ Nx : Hp → Prop, (∀ H', Nx H' → ∃ m', m' < m ∧ W (i + 1) m' H') ∧ ∀ x H', J.yld i H x H' → g x (wipe σ vs) H' fun σ2 H2 => wipe σ2 vs = wipe σ vs ∧ tt σ2 H2 fun b H3 =>
    if b = true then tk σ2 H3 fun y H4 => tv σ2 H4 fun z H5 => ∃ kvs k c, y = .ref c ∧ H5 c = some (.tup (k.map kV)) ∧ H5 D = some (.dT kvs) ∧ kvs.length < sizeLine ∧ Nx (upd H5 D (.dT (putK kvs k z))) else Nx H3)
section
variable {X : Cx} {kx vx tg iter : Expr} {ifs : List Expr} {scope : Scope} {own : List (Str × Nat)} {pos : Pos} {wi : TI} {g : TG} {tt : TT} {tk tv : TE}
theorem dcT_core {pins : List (Addr × Obj)} {s : Shared} {σ : St} {H : Hp} {Q : VK} {pos' : Pos} {use : Option (Value → Sem Unit)} {Qf : Value → Shared → Prop} (hu : X.A.units + 65 < cLine) (hc : X.calm = true) (hN : X.N.Nodup) (hi : PI X tg iter wi) (ok : BlkOk X.N X.env.scope scope own)
    (hg : ∀ (s : Shared) (H : Hp) (C : Addr) (cl : List (Str × Addr)) (fp : List Addr), PG (X.blk s H scope (compEnvC scope cl C X.env) fp) tg g)
    (ht : ∀ (s : Shared) (H : Hp) (C : Addr) (cl : List (Str × Addr)) (fp : List Addr), PTs (X.blk s H scope (compEnvC scope cl C X.env) fp) ifs tt)
    (hk : ∀ (s : Shared) (H : Hp) (C : Addr) (cl : List (Str × Addr)) (fp : List Addr), PE (X.blk s H scope (compEnvC scope cl C X.env) fp) kx tk)
    (he : ∀ (s : Shared) (H : Hp) (C : Addr) (cl : List (Str × Addr)) (fp : List Addr), PE (X.blk s H scope (compEnvC scope cl C X.env) fp) vx tv)
    (hs : ∀ x, foldedSetIterable iter X.env x = pure x) (I0 : Inv X pins σ H s) (h : tDcT wi g tt tk tv (own.map (·.2)) σ H Q)
    (fin0 : ∀ D C s' m H', Inv X pins σ H' s' → Q (.ref D) H' → s'.heap.Ns C m → FpOk X pins H' C → compPost (model X.prog X.w) X.A X.xe use Qf (.ref D) C (.ok .next) s') :
    wpAny (model X.prog X.w) X.A (comprehension (.DictComp kx vx [⟨tg, iter, ifs, 0⟩] scope pos) scope X.env pos' newDict false (eval iter X.env) use) Qf X.xe s := by
  have cells : ∀ y ∈ scope.names, y.2 = .free → ∃ c, X.env.cells.lookup y.1 = some c := fun y hy e => I0.ok.has _ (ok.free y hy e)
  refine wpAny_comprehension_free (use := use) rfl hs (closure_ok cells) ok.kind (fun y hy e => by rw [ok.uniq y hy, e]) (thn (hi.run pins s σ H _ I0 h) fun _ sA hA => thn hA fun _ sB hB => ?_)
  obtain ⟨it, fp, tn, J, HB, rfl, IB, turn, st, fpB, walk⟩ := hB
  refine wpAny_newObj_type (newEnv_comp ?_)
  obtain ⟨W, ⟨m0, w0⟩, next⟩ := walk sB.heap.objs.size (IB.hok.fresh (Nat.le_refl _))
  let D : Addr := sB.heap.objs.size
  let sC : Shared := { sB with heap := sB.heap.push { cls := .type "dict", data := .dict #[] } }
  let HC : Hp := upd HB D (.dT [])
  have IC : Inv X pins σ HC sC := IB.laid (t' := sB.toks) (fun b o e => Heap.get?_push_of_some _ e) (Nat.le_refl _) (dt_empty sB.heap IB.big)
  have below : ∀ b ∈ fp, b < D := fun b hb => by
    obtain ⟨o, e, _⟩ := turn.obj _ _ st b hb
    exact Heap.lt_size e
  have fpC : ∀ b ∈ fp, FpOk X pins HC b ∧ b < sC.heap.objs.size := fun b hb =>
    ⟨⟨by show upd HB D (.dT []) b = none; rw [upd_ne (Nat.ne_of_lt (below b hb))]; exact (fpB b hb).1, (fpB b hb).2⟩, by show b < (sB.heap.push _).objs.size; rw [Heap.size_push]; exact Nat.lt_succ_of_lt (below b hb)⟩
  have stC : tn 0 sC.heap := turn.keep _ _ _ st fun b _ o e => Heap.get?_push_of_some _ e
  have IS := block_start IC ok hN fpC
  let cl := cellsFrom (sC.heap.objs.size + 1) scope.names (cloFrom X.env.cells scope.names [])
  let ce := compEnvC scope cl sC.heap.objs.size X.env
  let Y : Cx := X.blk sC HC scope ce fp
  let sS : Shared := { sC with heap := pushCells (sC.heap.push { cls := .type "dict", data := .dict #[] }) scope.names }
  have IS : Inv Y [] (wipe σ (own.map (·.2))) HC sS := IS
  have stS : tn 0 sS.heap := turn.keep _ _ _ stC fun b _ o e => pushCells_keeps _ _ _ _ (Heap.get?_push_of_some _ e)
  have offS : ∀ b ∈ fp, HC b = none := fun b hb => (fpC b hb).1.1
  have hold : ∀ {σ' : St} {H' : Hp} {s' : Shared}, Inv Y [] σ' H' s' → (∀ b ∈ fp, H' b = none) → ∀ b ∈ fp, FpOk Y [] H' b := fun {σ' H' s'} J n b hb =>
    ⟨n b hb, (J.ok.exf b hb).1, J.ok.exfs b hb, .inl hb, fun x c e => (J.ok.exf b hb).2 x c e, fun p hp => absurd (show p ∈ ([] : List (Addr × Obj)) ++ [] from hp) (by simp)⟩
  show codeAny _ _ (.compStart (.DictComp kx vx [⟨tg, iter, ifs, 0⟩] scope pos) 0 (.ref it) (.ref D) ce) (compPost (model X.prog X.w) X.A X.xe use Qf (.ref D) sC.heap.objs.size) sS
  have loop : codeAny (model X.prog X.w) X.A (.compLoop (.DictComp kx vx [⟨tg, iter, ifs, 0⟩] scope pos) 0 (.ref it) (.ref D) ce) (compPost (model X.prog X.w) X.A X.xe use Qf (.ref D) sC.heap.objs.size) sS := by
    refine compLoop_anyD (fun n s' => ∃ i H', Inv Y [] (wipe σ (own.map (·.2))) H' s' ∧ tn i s'.heap ∧ (∀ b ∈ fp, H' b = none) ∧ W i n H') ?_ m0 ⟨0, HC, IS, stS, offS, w0⟩
    rintro n s5 ⟨i, H5, I5, t5, n5, w5⟩
    rcases next i n H5 w5 with ⟨stop, done⟩ | ⟨go, Nx, down, step⟩
    · refine thnF (turn.done Y rfl rfl rfl hc i [] s5 _ H5 (fun _ _ => False) I5 (hold I5 n5) t5 stop) fun r s6 ⟨hr, I6⟩ => ?_
      subst hr
      have I7 : Inv X pins σ H5 s6 := IC.call' (ch := fp) I6.os I6.base I6.hok I6.bare fun b hb => ⟨(fpC b hb).1.2.2.2.1, (fpC b hb).1.2.1, (fpC b hb).1.2.2.2.2.1, (fpC b hb).1.2.2.2.2.2⟩
      have nC : H5 sC.heap.objs.size = none := I6.free
      obtain ⟨m, hm, _⟩ := I6.loc
      exact fin0 D sC.heap.objs.size s6 m H5 I7 done hm (IC.fpOk (H' := H5) (Nat.le_refl _) nC)
    · refine thnF (turn.item Y rfl rfl rfl hc i [] s5 _ H5 (fun _ _ => False) I5 (hold I5 n5) t5 go) fun r s6 ⟨u, hr, h6⟩ => ?_
      subst hr
      refine thnF h6 fun _ s7 ⟨x, H7, I7, r7, y7, t7, n7⟩ => ?_
      refine thnF ((hg sC HC sC.heap.objs.size cl fp).run _ s7 _ H7 x u _ (I7.pinned (hold I7 n7) (turn.obj _ _ t7)) r7 (step x H7 y7)) fun _ s8 ⟨σ8, H8, I8, hw8, q8⟩ => ?_
      have fin : ∀ {s' : Shared} {H' : Hp}, Inv Y ([] ++ pinsAt fp s7.heap) σ8 H' s' → Nx H' → ∃ m, m < n ∧ ∃ i H', Inv Y [] (wipe σ (own.map (·.2))) H' s' ∧ tn i s'.heap ∧ (∀ b ∈ fp, H' b = none) ∧ W i m H' := fun {s' H'} J nx => by
        obtain ⟨m', lt, w'⟩ := down H' nx
        have pin : ∀ b ∈ fp, ∀ o, s7.heap.get? b = some o → s'.heap.get? b = some o ∧ H' b = none := fun b hb o e =>
          let z := J.pin (b, o) (List.mem_append_right _ (List.mem_append_right _ (mem_pinsAt hb e)))
          ⟨z.1, z.2.1⟩
        refine ⟨m', lt, i + 1, H', (J.unpinned (pins := [])).weak (by rw [← hw8, wipe_length]) (fun j v e => by rw [← hw8] at e; exact (wipe_some e).1), turn.keep _ _ _ t7 fun b hb o e => (pin b hb o e).1, fun b hb => ?_, w'⟩
        obtain ⟨o, e, _⟩ := turn.obj _ _ t7 b hb
        exact (pin b hb o e).2
      refine thnF ((ht sC HC sC.heap.objs.size cl fp).run _ s8 σ8 H8 _ I8 q8) fun b s9 ⟨H9, I9, q9⟩ => ?_
      cases b with
      | false => exact fin I9 q9
      | true =>
        refine thnF ((hk sC HC sC.heap.objs.size cl fp).run _ s9 σ8 H9 _ I9 q9) fun z s10 ⟨yk, H10, I10, r10, q10⟩ => ?_
        refine thnF ((he sC HC sC.heap.objs.size cl fp).run _ s10 σ8 H10 _ I10 q10) fun z2 s11 ⟨yv, H11, I11, r11, kvs, k, c, ek, hb, hD, hz, nx⟩ => ?_
        subst ek
        obtain rfl : z = Value.ref c := r10
        exact dictSet_tup (X := Y) (show X.A.units + 1 < cLine by omega) I11 hD hb hz r11 fun s12 I12 => fin I12 nx
  exact codeAny_compStart_dict loop (turn.self X.A 0 _ _ _ stS loop)
theorem pe_dcT (hu : X.A.units + 65 < cLine) (hc : X.calm = true) (hN : X.N.Nodup) (hi : PI X tg iter wi) (ok : BlkOk X.N X.env.scope scope own)
    (hg : ∀ (s : Shared) (H : Hp) (C : Addr) (cl : List (Str × Addr)) (fp : List Addr), PG (X.blk s H scope (compEnvC scope cl C X.env) fp) tg g)
    (ht : ∀ (s : Shared) (H : Hp) (C : Addr) (cl : List (Str × Addr)) (fp : List Addr), PTs (X.blk s H scope (compEnvC scope cl C X.env) fp) ifs tt)
    (hk : ∀ (s : Shared) (H : Hp) (C : Addr) (cl : List (Str × Addr)) (fp : List Addr), PE (X.blk s H scope (compEnvC scope cl C X.env) fp) kx tk)
    (he : ∀ (s : Shared) (H : Hp) (C : Addr) (cl : List (Str × Addr)) (fp : List Addr), PE (X.blk s H scope (compEnvC scope cl C X.env) fp) vx tv) (hs : ∀ x, foldedSetIterable iter X.env x = pure x := by intro _; rfl) :
    PE X (.DictComp kx vx [⟨tg, iter, ifs, 0⟩] scope pos) (tDcT wi g tt tk tv (own.map (·.2))) := by
  refine ⟨fun pins s σ H Q I h => ?_⟩
  rw [arm_eval_DictComp]
  refine dcT_core hu hc hN hi ok hg ht hk he hs I h fun D C s' m H' I' q hm f => ⟨m, hm, fun h'' sb => ?_⟩
  obtain ⟨f0, f1, _, f3, f4, f5⟩ := f
  exact ⟨.ref D, H', I'.turned (t' := s'.toks) (fun b o hb e => (sb.2 b hb).trans e) f0 f1 f3 f4 f5, rfl, q⟩
/-- y = {..} on one line, y a local -/
theorem ps_setDcT {i : Nat} {y : Str} {py spos : Pos} (hu : X.A.units + 65 < cLine) (hc : X.calm = true) (hN : X.N.Nodup) (hy : X.N[i]? = some y) (hyl : X.env.scope.names.lookup y = some .local)
    (hsw : swapsWith (.DictComp kx vx [⟨tg, iter, ifs, 0⟩] scope pos) (some (.Name y py)) spos.line X.env = pure true) (hi : PI X tg iter wi) (ok : BlkOk X.N X.env.scope scope own)
    (hg : ∀ (s : Shared) (H : Hp) (C : Addr) (cl : List (Str × Addr)) (fp : List Addr), PG (X.blk s H scope (compEnvC scope cl C X.env) fp) tg g)
    (ht : ∀ (s : Shared) (H : Hp) (C : Addr) (cl : List (Str × Addr)) (fp : List Addr), PTs (X.blk s H scope (compEnvC scope cl C X.env) fp) ifs tt)
    (hk : ∀ (s : Shared) (H : Hp) (C : Addr) (cl : List (Str × Addr)) (fp : List Addr), PE (X.blk s H scope (compEnvC scope cl C X.env) fp) kx tk)
    (he : ∀ (s : Shared) (H : Hp) (C : Addr) (cl : List (Str × Addr)) (fp : List Addr), PE (X.blk s H scope (compEnvC scope cl C X.env) fp) vx tv) (hs : ∀ x, foldedSetIterable iter X.env x = pure x := by intro _; rfl) :
    PS X (.Assign [.Name y py] (.DictComp kx vx [⟨tg, iter, ifs, 0⟩] scope pos) spos) (tAsg (tDcT wi g tt tk tv (own.map (·.2))) (gName i)) := by
  refine ⟨fun pins s σ H D I h => ?_⟩
  rw [exec_Assign_Name_used _ _ _ _ hsw]
  refine wpAny_bind (wpAny_standAt (wpAny_bind ?_))
  show wpAny _ X.A (do let _ ← comprehension (.DictComp kx vx [⟨tg, iter, ifs, 0⟩] scope pos) scope X.env (firstIterPos [⟨tg, iter, ifs, 0⟩] pos) newDict false (eval iter X.env) (some (assign (.Name y py) X.env))) _ _ s
  have h : tDcT wi g tt tk tv (own.map (·.2)) σ H (fun x H1 => gName i x σ H1 D.nx) := h
  refine wpAny_bind (thn (dcT_core (Qf := fun _ s' => SP X pins D .next s') hu hc hN hi ok hg ht hk he hs I h fun L C s' m H' I' q hm f => ?_) fun _ s' hq => wpAny_pure (wpAny_pure hq))
  show wpAny _ _ (assign (.Name y py) X.env (.ref L)) _ _ _
  refine wpAny_assign_Name (store_ok2 (v := V.ref L) I' hN hy (.inl hyl) rfl (fun s2 I2 ⟨a, sb, ha⟩ => ?_) (.inr hyl))
  obtain ⟨f0, f1, f2, f3, f4, f5⟩ := f
  have apart : C ≠ a := ha.elim (fun z => by rw [z]; exact f1) fun z e => f4 y a z e.symm
  exact ⟨m, hm.sameBut sb apart, fun h3 sb3 => ⟨_, H', I2.turned (t' := s2.toks) (fun b o hb e => (sb3.2 b hb).trans e) f0 f1 f3 f4 f5, q⟩⟩
theorem sw_dict {l : Nat} {y : Str} {py : Pos} {env : PySem.Env} {gs : List Comprehension} (hk : env.scope.kind = .function) (hy : env.scope.names.lookup y = some .local) (hl : (py.line == pos.line) = true)
    (ha : (scope.names.any fun (n, k) => n == y && (k == .local || k == .cell)) = false) : swapsWith (.DictComp kx vx gs scope pos) (some (.Name y py)) l env = pure true := by
  have ky : env.kindOf y = some .local := hy
  have hb : env.blockKind = .function := by unfold Env.blockKind; rw [hk]; rfl
  unfold swapsWith
  simp only [hb, ky, ha, Expr.pos, hl]
  rfl
end
end PL

set_option Elab.async false
set_option linter.all false
set_option maxRecDepth 100000
/-! PL31: dict comprehensions whose keys are tuples: the mirror. -/
namespace PL
open PySem PySem.Spec PyProof.Rows L2

def keyOf : PyData → Option L2.Key
  | .int i => some (.inl i)
  | .str x => some (.inr x)
  | _ => none
def keysOf : List PyData → Option (List L2.Key)
  | [] => some []
  | x :: xs => match keyOf x, keysOf xs with
    | some k, some ks => some (k :: ks)
    | _, _ => none
theorem keyOf_eq {x : PyData} {k : L2.Key} (h : keyOf x = some k) : x = keyD k := by
  unfold keyOf at h
  split at h <;> first | (cases h; rfl) | cases h
theorem keysOf_eq : ∀ {xs : List PyData} {ks : List L2.Key}, keysOf xs = some ks → xs = ks.map keyD
  | [], _, h => by cases h; rfl
  | x :: xs, _, h => by
    unfold keysOf at h
    split at h
    · rename_i k ks h1 h2
      cases h
      rw [keyOf_eq h1, keysOf_eq h2]
      rfl
    · cases h
def hasD (ps : List (PyData × PyData)) (x : PyData) : Bool := ps.any fun p => beqD p.1 x
def putD (ps : List (PyData × PyData)) (x d : PyData) : List (PyData × PyData) := if hasD ps x = true then ps.map (fun p => if beqD p.1 x = true then (p.1, d) else p) else ps ++ [(x, d)]
section
variable {K : PySem.W.Frag} {N : Ax} {H : Hp}
theorem keq (k k' : List L2.Key) : beqD (.tuple (k.map keyD)) (.tuple (k'.map keyD)) = decide (k = k') := by
  by_cases e : k = k'
  · rw [e, decide_eq_true rfl]
    exact beqD_keys k'
  · rw [decide_eq_false e]
    cases q : beqD (.tuple (k.map keyD)) (.tuple (k'.map keyD)) with
    | false => rfl
    | true =>
      have z := beqD_eq q
      exact absurd (keyDs_inj (PyData.tuple.inj z)) e
theorem RpT.has : ∀ {kvs : List (List L2.Key × V)} {ps : List (PyData × PyData)} (k : List L2.Key), RpT K N H kvs ps → hasD ps (.tuple (k.map keyD)) = kvs.any fun kv => decide (kv.1 = k)
  | _, _, _, .nil => rfl
  | _, _, k, .cons (k := k') r t => by
    unfold hasD
    rw [List.any_cons, List.any_cons, keq k' k]
    congr 1
    exact RpT.has k t
theorem RpT.repl {v : V} {d : PyData} (rv : Rp K N H v d) : ∀ {kvs : List (List L2.Key × V)} {ps : List (PyData × PyData)} (k : List L2.Key), RpT K N H kvs ps →
    RpT K N H (kvs.map fun kv => if kv.1 = k then (kv.1, v) else kv) (ps.map fun p => if beqD p.1 (.tuple (k.map keyD)) = true then (p.1, d) else p)
  | _, _, _, .nil => .nil
  | _, _, k, .cons (k := k') r t => by
    rw [List.map_cons, List.map_cons]
    have ih := RpT.repl rv k t
    by_cases e : k' = k
    · rw [if_pos e, if_pos (by rw [keq]; exact decide_eq_true e)]
      exact .cons rv ih
    · rw [if_neg e, if_neg (by rw [keq, decide_eq_false e]; exact Bool.false_ne_true)]
      exact .cons r ih
theorem RpT.snoc {v : V} {d : PyData} (rv : Rp K N H v d) (k : List L2.Key) : ∀ {kvs : List (List L2.Key × V)} {ps : List (PyData × PyData)}, RpT K N H kvs ps → RpT K N H (kvs ++ [(k, v)]) (ps ++ [(.tuple (k.map keyD), d)])
  | _, _, .nil => .cons rv .nil
  | _, _, .cons r t => .cons r (RpT.snoc rv k t)
theorem RpT.put {v : V} {d : PyData} {kvs : List (List L2.Key × V)} {ps : List (PyData × PyData)} (r : RpT K N H kvs ps) (k : List L2.Key) (rv : Rp K N H v d) : RpT K N H (putK kvs k v) (putD ps (.tuple (k.map keyD)) d) := by
  unfold putK putD
  rw [r.has k]
  split
  · exact r.repl rv k
  · exact r.snoc rv k
theorem RpT.length : ∀ {kvs : List (List L2.Key × V)} {ps : List (PyData × PyData)}, RpT K N H kvs ps → kvs.length = ps.length
  | _, _, .nil => rfl
  | _, _, .cons r t => congrArg (· + 1) (RpT.length t)
end
end PL

set_option Elab.async false
set_option linter.all false
set_option maxRecDepth 100000
/-! PL32: dict comprehensions whose keys are tuples: the rule. -/
namespace PL
open PySem PySem.Spec PyProof.Rows L2

section
variable {g : G} {No M0 N1 : Ax} {H0 H H' H1 : Hp} {D : Addr} {σ σ2 : St} {env env' env2 : Env} {vs : List Nat} {kvs kvs' : List (List L2.Key × V)}
theorem tabs_chgD {T : List (Addr × Str)} {a : Addr} (ha : H a = some (.dT kvs)) (t : LamX.Tabs T H) : LamX.Tabs T (upd H a (.dT kvs')) := fun p hp => by
  obtain ⟨ps, h1, h2, h3⟩ := t p hp
  refine ⟨ps, by rw [upd_ne (ne_of h1 ha fun z => by cases z)]; exact h1, h2, fun pos cv hc => ?_⟩
  obtain ⟨c, e1, e2⟩ := h3 pos cv hc
  refine ⟨c, e1, ?_⟩
  have ne : c ≠ a := ne_of e2 ha fun z => by unfold LamX.CodeO at z; cases z
  rw [upd_ne ne]
  exact e2
theorem RepS.chgD {a : Addr} (r : RepS g No H σ env) (hn : No a) (ha : H a = some (.dT kvs)) : RepS g No (upd H a (.dT kvs')) σ env := by
  have ke : ∀ c o, H c = some o → c ≠ a → upd H a (.dT kvs') c = some o := fun c o hc ne => by rw [upd_ne ne]; exact hc
  have t : Tr (Un2 No (Mo g σ env)) H (Un2 No (Mo g σ env)) (upd H a (.dT kvs')) := fun c o hc _ m => ⟨ke c o hc fun z => m (.inl (by rw [z]; exact hn)), m⟩
  have nm : ¬ Mo g σ env a := (r.nout a hn).2
  refine ⟨r.len, tabs_chgD ha r.tab, fun b z => ⟨?_, (r.nout b z).2⟩, fun i x e => ?_, fun i ds e => ?_, fun i ds e => ?_, r.dis, r.dio, r.io1⟩
  · by_cases e : b = a
    · rw [e, upd_same]; exact fun z => by cases z
    · rw [upd_ne e]; exact (r.nout b z).1
  · obtain ⟨v, a1, a2⟩ := r.im i x e
    exact ⟨v, a1, a2.tr t _⟩
  · obtain ⟨b, a1, a2⟩ := r.oc i ds e
    exact ⟨b, a1, a2.tr t fun u hu _ => ke b _ hu fun z => nm (by rw [← z]; exact .inl ⟨i, ds, e, a1⟩)⟩
  · obtain ⟨zs, a1, a2, a3⟩ := r.io i ds e
    exact ⟨zs, a1, ke _ _ a2 fun z => nm (by rw [← z]; exact .inr ⟨rfl, i, ds, e⟩), a3.tr t _⟩
/-- the dict at D on its way -/
structure LD (g : G) (No : Ax) (M0 : Ax) (H0 : Hp) (N1 : Ax) (H1 : Hp) (D : Addr) (σ : St) (env : Env) (acc : List (PyData × PyData)) (H : Hp) : Prop where
  tr : Tr N1 H1 (Un2 (fun b => No b ∨ b = D) (Mo g σ env)) H
  rep : RepS g (fun b => No b ∨ b = D) H σ env
  ev : EvM M0 H0 (Mo g σ env) H
  at_ : ∃ kvs, H D = some (.dT kvs) ∧ RpT g.K (Un2 (fun b => No b ∨ b = D) (Mo g σ env)) H kvs acc
variable {acc acc' : List (PyData × PyData)}
theorem LD.nMo (l : LD g No M0 H0 N1 H1 D σ env acc H) : ¬ Mo g σ env D := (l.rep.nout D (.inr rfl)).2
theorem LD.go (l : LD g No M0 H0 N1 H1 D σ env acc H) (e : EvM (Mo g σ env) H (Mo g σ2 env2) H') (r : RepS g (fun b => No b ∨ b = D) H' σ2 env2) : LD g No M0 H0 N1 H1 D σ2 env2 acc H' := by
  obtain ⟨kvs, h1, h2⟩ := l.at_
  exact ⟨l.tr.trans e.tr, r, l.ev.trans e, kvs, e.keep D _ h1 (fun ps z => by cases z) l.nMo, h2.tr e.tr⟩
theorem LD.wipe (l : LD g No M0 H0 N1 H1 D σ env acc H) (ok : okV vs env = true) : LD g No M0 H0 N1 H1 D (wipe σ vs) (wipeE vs env) acc H :=
  l.go ((EvM.refl _ _).mono2 fun b z => (Mo_wipe ok b).1 z) (l.rep.wipe ok)
theorem LD.put {u : V} {x : PyData} (l : LD g No M0 H0 N1 H1 D σ env acc H) (n0 : H0 D = none) (k : List L2.Key) (rx : Rp g.K (Un2 (fun b => No b ∨ b = D) (Mo g σ env)) H u x) :
    ∃ kvs, H D = some (.dT kvs) ∧ kvs.length = acc.length ∧ LD g No M0 H0 N1 H1 D σ env (putD acc (.tuple (k.map keyD)) x) (upd H D (.dT (putK kvs k u))) := by
  obtain ⟨kvs, h1, h2⟩ := l.at_
  have tr : Tr (Un2 (fun b => No b ∨ b = D) (Mo g σ env)) H (Un2 (fun b => No b ∨ b = D) (Mo g σ env)) (upd H D (.dT (putK kvs k u))) := fun c o hc _ nm => ⟨by rw [upd_ne (fun zz => nm (.inl (.inr zz)))]; exact hc, nm⟩
  refine ⟨kvs, h1, h2.length, l.tr.trans tr, l.rep.chgD (.inr rfl) h1, ⟨fun c o hc nt nm => ?_, fun c zz => l.ev.new c zz, fun c hc => ?_⟩, _, upd_same, (h2.tr tr).put k (rx.tr tr _)⟩
  · have ne : c ≠ D := ne_of_none hc n0
    rw [upd_ne ne]
    exact l.ev.keep c o hc nt nm
  · have ne : c ≠ D := fun zz => hc (by rw [zz]; exact n0)
    rw [upd_ne ne]
    exact l.ev.dom c hc
end
def stepD (t : Tg) (tt : EM Bool) (mk : List (EM W)) (mv : EM W) (vs : List Nat) (x : PyData) (acc : List (PyData × PyData)) (env : Env) : Option (List (PyData × PyData) × Env) := match asgT t x env with
  | none => none
  | some e1 => match tt e1 with
    | .ok false e2 => if okV vs e2 = true then some (acc, wipeE vs e2) else none
    | .ok true e2 => match evs mk e2 with
      | .ok ks e3 => match keysOf ks with
        | some _ => match bnd mv esc e3 with
          | .ok y e4 => if okV vs e4 = true ∧ acc.length < sizeLine then some (putD acc (.tuple ks) y, wipeE vs e4) else none
          | _ => none
        | none => none
      | _ => none
    | _ => none
def loopD (t : Tg) (tt : EM Bool) (mk : List (EM W)) (mv : EM W) (vs : List Nat) : List PyData → List (PyData × PyData) → Env → Option (List (PyData × PyData) × Env)
  | [], acc, env => some (acc, env)
  | x :: xs, acc, env => match stepD t tt mk mv vs x acc env with
    | some (acc', env') => loopD t tt mk mv vs xs acc' env'
    | none => none
def dcM (it : EM (List PyData)) (t : Tg) (tt : EM Bool) (mk : List (EM W)) (mv : EM W) (vs : List Nat) : EM W := fun env => match it env with
  | .ok xs env1 => if okV vs env1 = true ∧ inV t.sl vs = true ∧ mk.length ≤ sizeLine then match loopD t tt mk mv vs xs [] (wipeE vs env1) with
      | some (ps, env2) => .ok (.d (.dict ps)) (backE vs env1 env2)
      | none => .no
    else .no
  | .ex x env1 => .ex x env1
  | .no => .no
section
variable {g : G} {No M0 N1 : Ax} {H0 H H' H1 : Hp} {D : Addr} {σ σ2 : St} {env env' env2 : Env} {vs : List Nat} {acc acc' : List (PyData × PyData)}
theorem turn_dc {t : Tg} {tt : EM Bool} {mk : List (EM W)} {mv : EM W} {v : V} {x : PyData} (l : LD g No M0 H0 N1 H1 D (wipe σ vs) env acc H) (n0 : H0 D = none) (rv : Rp g.K (Un2 (fun b => No b ∨ b = D) (Mo g (wipe σ vs) env)) H v x) (hsl : inV t.sl vs = true) (hml : mk.length ≤ sizeLine) (z : stepD t tt mk mv vs x acc env = some (acc', env'))
    {Nx : Hp → Prop} (hN : ∀ H', LD g No M0 H0 N1 H1 D (wipe σ vs) env' acc' H' → Nx H') :
    tgR g t v (wipe σ vs) H fun σ2 H2 => wipe σ2 vs = wipe σ vs ∧ tT g WF tt σ2 H2 fun b H3 =>
      if b = true then tTup (tA g WF mk) σ2 H3 fun y H4 => tX g WF mv σ2 H4 fun z H5 => ∃ kvs k c, y = .ref c ∧ H5 c = some (.tup (k.map kV)) ∧ H5 D = some (.dT kvs) ∧ kvs.length < sizeLine ∧ Nx (upd H5 D (.dT (putK kvs k z))) else Nx H3 := by
  refine ⟨_, env, x, l.rep, rv, ?_⟩
  unfold stepD at z
  cases qa : asgT t x env with
  | none => rw [qa] at z; cases z
  | some e1 =>
    rw [qa] at z
    dsimp only at z
    intro σ2 sto
    have hw : wipe σ2 vs = wipe σ vs := wipe_eq (by rw [sto.len, wipe_length]) fun j hj => sto.out j (inV_of hsl hj)
    refine ⟨hw, ?_⟩
    have l1 : LD g No M0 H0 N1 H1 D σ2 e1 acc H := l.go ((EvM.refl _ _).mono2 sto.mo) sto.rep
    refine tT_of sto.rep (fun x e qt => ?_) (fun qt => ?_) fun b e2 H4 qt ev4 r4 => ?_
    · rw [qt] at z; cases z
    · rw [qt] at z; cases z
    · rw [qt] at z
      have l4 := l1.go ev4 r4
      cases b with
      | false =>
        rw [if_neg Bool.false_ne_true]
        dsimp only at z
        split at z
        · rename_i okv
          cases z
          have := l4.wipe okv
          rw [hw] at this
          exact hN _ this
        · cases z
      | true =>
        rw [if_pos rfl]
        dsimp only at z
        show tA g WF mk σ2 H4 _
        refine tA_of r4 (fun x e qe => ?_) (fun qe => ?_) fun ks e3 us H5 qe ev5 r5 rks => ?_
        · rw [qe] at z; cases z
        · rw [qe] at z; cases z
        · rw [qe] at z
          dsimp only at z
          cases qk : keysOf ks with
          | none => rw [qk] at z; cases z
          | some k =>
            rw [qk] at z
            dsimp only at z
            have ek := keysOf_eq qk
            have eu : us = k.map kV := by rw [ek] at rks; exact rks.keys
            refine ⟨by rw [rks.length, evs_len qe]; exact hml, fun c nc => ?_⟩
            have l5 := l4.go ev5 r5
            have evc : EvM (Mo g σ2 e3) H5 (Mo g σ2 e3) (upd H5 c (.tup us)) := EvM.upd nc
            have r6 : RepS g (fun b => No b ∨ b = D) (upd H5 c (.tup us)) σ2 e3 := r5.ev (EvM.upd nc) (tabs_upd r5.tab nc) fun a z => .inl z
            have l6 := l5.go evc r6
            have ncM : ¬ Mo g σ2 e3 c := fun zz => by
              obtain ⟨xs, e, _⟩ := Mo_some r5 zz
              rw [nc] at e
              cases e
            refine tX_esc r6 (fun x e qv => ?_) (fun qv => ?_) fun y e4 u H7 qv ev7 r7 ry => ?_
            · rw [qv] at z; cases z
            · rw [qv] at z; cases z
            · rw [qv] at z
              dsimp only at z
              split at z
              · rename_i okv
                cases z
                obtain ⟨kvs, a1, a2, a3⟩ := (l6.go ev7 r7).put n0 k ry
                have hc7 : H7 c = some (.tup (k.map kV)) := by
                  rw [← eu]
                  exact ev7.keep c _ upd_same (fun ps z => by cases z) ncM
                refine ⟨kvs, k, c, rfl, hc7, a1, by rw [a2]; exact okv.2, hN _ ?_⟩
                have := a3.wipe okv.1
                rw [hw] at this
                rw [ek]
                exact this
              · cases z
end
end PL

set_option Elab.async false
set_option linter.all false
set_option maxRecDepth 100000
/-! PL33: {(a, b, ..): v for ..}. -/
namespace PL
open PySem PySem.Spec PyProof.Rows L2

theorem stepD_e {t : Tg} {tt : EM Bool} {mk : List (EM W)} {mv : EM W} {vs : List Nat} {x : PyData} {acc acc' : List (PyData × PyData)} {env env' : Env} (q : stepD t tt mk mv vs x acc env = some (acc', env')) : ∀ i, i ∈ vs → ∀ s, env'[i]? = some s → s = .e := by
  unfold stepD at q
  split at q
  · cases q
  · split at q
    · split at q
      · cases q; exact wipeE_e
      · cases q
    · split at q
      · split at q
        · split at q
          · split at q
            · cases q; exact wipeE_e
            · cases q
          · cases q
        · cases q
      · cases q
    · cases q
theorem loopD_e {t : Tg} {tt : EM Bool} {mk : List (EM W)} {mv : EM W} {vs : List Nat} : ∀ {xs : List PyData} {acc acc' : List (PyData × PyData)} {env env' : Env}, (∀ i, i ∈ vs → ∀ s, env[i]? = some s → s = .e) → loopD t tt mk mv vs xs acc env = some (acc', env') → ∀ i, i ∈ vs → ∀ s, env'[i]? = some s → s = .e
  | [], acc, acc', env, env', h, e => by cases e; exact h
  | x :: xs, acc, acc', env, env', h, e => by
    unfold loopD at e
    split at e
    · rename_i a1 e1 q
      exact loopD_e (stepD_e q) e
    · cases e
section
variable {X : Cx} {T : List (Addr × Str)} {io : Addr} {WW : WX} {pos kpos : Pos} {tg iter vx : Expr} {es ifs : List Expr} {it : EM (List PyData)} {t : Tg} {tt : EM Bool} {mk : List (EM W)} {mv : EM W} {scope : Scope} {own : List (Str × Nat)} {x1 : Nat}
theorem dc_of {σ : St} {H : Hp} {Q : VK} {vs : List Nat} (h : tX (gX X T io) WW (dcM it t tt mk mv vs) σ H Q) :
    tDcT (tI (gX X T io) WW it) (tgR (gX X T io) t) (tT (gX X T io) WF tt) (tTup (tA (gX X T io) WF mk)) (tX (gX X T io) WF mv) vs σ H Q := by
  obtain ⟨No, env, rep, h⟩ := h
  refine ⟨No, env, rep, ?_⟩
  unfold dcM at h
  cases q : it env with
  | no => rw [q] at h; exact h
  | ex x env' => rw [q] at h; exact h
  | ok xs env1 =>
    rw [q] at h
    intro J H1 ev r1 ⟨Gd, Y, wk, hG, hY⟩ D nD
    dsimp only at h
    by_cases hok : okV vs env1 = true ∧ inV t.sl vs = true ∧ mk.length ≤ sizeLine
    · rw [if_pos hok] at h
      obtain ⟨ok1, hsl, hml⟩ := hok
      cases ql : loopD t tt mk mv vs xs [] (wipeE vs env1) with
      | none => rw [ql] at h; exact h.elim
      | some r =>
        obtain ⟨ps, env2⟩ := r
        rw [ql] at h
        dsimp only at h
        let g : G := gX X T io
        let N1 : Ax := Un2 No (Mo g σ env1)
        have r0 : RepS g (fun b => No b ∨ b = D) (upd H1 D (.dT [])) σ env1 := r1.ev (EvM.upd nD) (tabs_upd r1.tab nD) fun b z => z.imp id fun z => ⟨by rw [z]; exact nD, by rw [z, upd_same]; exact fun q => by cases q⟩
        have l0 : LD g No (Mo g σ env1) H1 N1 H1 D σ env1 [] (upd H1 D (.dT [])) := ⟨fun c o hc nt nm => by
            have ne := ne_of_none hc nD
            exact ⟨by rw [upd_ne ne]; exact hc, fun zz => zz.elim (fun zz => zz.elim (fun zz => nm (.inl zz)) ne) fun zz => nm (.inr zz)⟩, r0, EvM.upd nD, [], upd_same, .nil⟩
        let P : Nat → Hp → Prop := fun i H' => ∃ e1 a1, LD g No (Mo g σ env1) H1 N1 H1 D (wipe σ vs) e1 a1 H' ∧ loopD t tt mk mv vs (xs.drop i) a1 e1 = some (ps, env2)
        refine ⟨fun i m H => m = xs.length - i ∧ i ≤ xs.length ∧ P i H, ⟨xs.length, by simp, Nat.zero_le _, _, [], l0.wipe ok1, ql⟩, ?_⟩
        rintro i m H' ⟨rfl, hi, e1, a1, l1, z1⟩
        have qG := hG _ H' l1.tr
        by_cases hlt : i < xs.length
        · rw [drop_cons hlt] at z1
          unfold loopD at z1
          cases qs : stepD t tt mk mv vs xs[i] a1 e1 with
          | none => rw [qs] at z1; cases z1
          | some r =>
            rw [qs] at z1
            obtain ⟨a2, e2⟩ := r
            refine .inr ⟨wk.goes i H' hlt qG, P (i + 1), fun H'' p => ⟨xs.length - (i + 1), by omega, rfl, hlt, p⟩, fun x H3 y => ?_⟩
            obtain ⟨e3, t3, rv⟩ := hY _ H' i x H3 xs[i] l1.tr l1.rep.nok l1.rep.tab (List.getElem?_eq_getElem hlt) (wk.yields i H' x H3 hlt qG y)
            exact turn_dc (l1.go e3.up (l1.rep.ev e3 t3 fun a z => .inl z)) nD rv hsl hml qs fun H5 l5 => ⟨e2, a2, l5, z1⟩
        · have e : i = xs.length := by omega
          subst e
          rw [List.drop_length] at z1
          cases z1
          refine .inl ⟨wk.stops H' qG, ?_⟩
          have hw := loopD_e wipeE_e ql
          obtain ⟨rb, iff⟩ := r1.back ok1 l1.rep hw l1.tr
          have nMo : ¬ Mo g σ (backE vs env1 env2) D := (rb.nout D (.inr rfl)).2
          obtain ⟨kvs, hD, ra⟩ := l1.at_
          have nNo : ¬ No D := fun z => (r1.nout D z).1 nD
          refine h (.ref D) H' (ev.trans (l1.ev.mono2 fun b z => (iff b).1 z)) ⟨rb.anti fun b z => .inl z, .dicT (fun z => z.elim nNo nMo) (.inl hD) (ra.tr (Tr.anti fun b z => z.elim (fun z => .inl (.inl z)) fun z => .inr ((iff b).1 z)))⟩ trivial
    · rw [if_neg hok] at h
      exact h.elim
theorem px_dcT (hu : X.A.units + 65 < cLine) (hc : X.calm = true) (hN : X.N.Nodup) (hi : PIx X T io WW tg iter it) (ok : BlkOk X.N X.env.scope scope own)
    (hg : ∀ (s : Shared) (H : Hp) (C : Addr) (cl : List (Str × Addr)) (fp : List Addr), PGx (X.blk s H scope (compEnvC scope cl C X.env) fp) T io tg t)
    (ht : ∀ (s : Shared) (H : Hp) (C : Addr) (cl : List (Str × Addr)) (fp : List Addr), PTs (X.blk s H scope (compEnvC scope cl C X.env) fp) ifs (tT (gX (X.blk s H scope (compEnvC scope cl C X.env) fp) T io) WF tt))
    (hk : ∀ (s : Shared) (H : Hp) (C : Addr) (cl : List (Str × Addr)) (fp : List Addr), PXA (X.blk s H scope (compEnvC scope cl C X.env) fp) T io WF es mk)
    (he : ∀ (s : Shared) (H : Hp) (C : Addr) (cl : List (Str × Addr)) (fp : List Addr), PX (X.blk s H scope (compEnvC scope cl C X.env) fp) T io WF vx mv) (hs : ∀ x, foldedSetIterable iter X.env x = pure x := by intro _; rfl) :
    PX X T io WW (.DictComp (.Tuple es x1 kpos) vx [⟨tg, iter, ifs, 0⟩] scope pos) (dcM it t tt mk mv (own.map (·.2))) :=
  (pe_dcT (wi := tI (gX X T io) WW it) (g := tgR (gX X T io) t) (tt := tT (gX X T io) WF tt) (tk := tTup (tA (gX X T io) WF mk)) (tv := tX (gX X T io) WF mv) hu hc hN hi ok hg ht (fun s H C cl fp => pe_tup (hk s H C cl fp)) he hs).imp fun σ H Q h => dc_of h
theorem pz_setDcT {y : Str} {py spos : Pos} (i : Nat) (hu : X.A.units + 65 < cLine) (hc : X.calm = true) (hN : X.N.Nodup) (hy : X.N[i]? = some y) (hyl : X.env.scope.names.lookup y = some .local)
    (hsw : swapsWith (.DictComp (.Tuple es x1 kpos) vx [⟨tg, iter, ifs, 0⟩] scope pos) (some (.Name y py)) spos.line X.env = pure true) (hi : PIx X T io WW tg iter it) (ok : BlkOk X.N X.env.scope scope own)
    (hg : ∀ (s : Shared) (H : Hp) (C : Addr) (cl : List (Str × Addr)) (fp : List Addr), PGx (X.blk s H scope (compEnvC scope cl C X.env) fp) T io tg t)
    (ht : ∀ (s : Shared) (H : Hp) (C : Addr) (cl : List (Str × Addr)) (fp : List Addr), PTs (X.blk s H scope (compEnvC scope cl C X.env) fp) ifs (tT (gX (X.blk s H scope (compEnvC scope cl C X.env) fp) T io) WF tt))
    (hk : ∀ (s : Shared) (H : Hp) (C : Addr) (cl : List (Str × Addr)) (fp : List Addr), PXA (X.blk s H scope (compEnvC scope cl C X.env) fp) T io WF es mk)
    (he : ∀ (s : Shared) (H : Hp) (C : Addr) (cl : List (Str × Addr)) (fp : List Addr), PX (X.blk s H scope (compEnvC scope cl C X.env) fp) T io WF vx mv) (hs : ∀ x, foldedSetIterable iter X.env x = pure x := by intro _; rfl) :
    PZ X T io WW (.Assign [.Name y py] (.DictComp (.Tuple es x1 kpos) vx [⟨tg, iter, ifs, 0⟩] scope pos) spos) (setM i (dcM it t tt mk mv (own.map (·.2)))) :=
  (ps_setDcT (wi := tI (gX X T io) WW it) (g := tgR (gX X T io) t) (tt := tT (gX X T io) WF tt) (tk := tTup (tA (gX X T io) WF mk)) (tv := tX (gX X T io) WF mv) hu hc hN hy hyl hsw hi ok hg ht (fun s H C cl fp => pe_tup (hk s H C cl fp)) he hs).imp fun D σ H h => dc_of (set_of h)
end
end PL

set_option Elab.async false
set_option linter.all false
set_option maxRecDepth 100000
/-! PL34: dict comprehensions with flat keys. -/
namespace PL
open PySem PySem.Spec PyProof.Rows L2

section
variable {K : PySem.W.Frag} {N : Ax} {H : Hp}
theorem keq1 (k k' : L2.Key) : beqD (keyD k) (keyD k') = decide (k = k') := by
  by_cases e : k = k'
  · rw [e, decide_eq_true rfl]
    exact beqD_key k'
  · rw [decide_eq_false e]
    cases q : beqD (keyD k) (keyD k') with
    | false => rfl
    | true => exact absurd (keyD_inj (beqD_eq q)) e
theorem RpK.has : ∀ {kvs : List (L2.Key × V)} {ps : List (PyData × PyData)} (k : L2.Key), RpK K N H kvs ps → hasD ps (keyD k) = kvs.any fun kv => decide (kv.1 = k)
  | _, _, _, .nil => rfl
  | _, _, k, .cons (k := k') r t => by
    unfold hasD
    rw [List.any_cons, List.any_cons, keq1 k' k]
    congr 1
    exact RpK.has k t
theorem RpK.repl {v : V} {d : PyData} (rv : Rp K N H v d) : ∀ {kvs : List (L2.Key × V)} {ps : List (PyData × PyData)} (k : L2.Key), RpK K N H kvs ps →
    RpK K N H (kvs.map fun kv => if kv.1 = k then (kv.1, v) else kv) (ps.map fun p => if beqD p.1 (keyD k) = true then (p.1, d) else p)
  | _, _, _, .nil => .nil
  | _, _, k, .cons (k := k') r t => by
    rw [List.map_cons, List.map_cons]
    have ih := RpK.repl rv k t
    by_cases e : k' = k
    · rw [if_pos e, if_pos (by rw [keq1]; exact decide_eq_true e)]
      exact .cons rv ih
    · rw [if_neg e, if_neg (by rw [keq1, decide_eq_false e]; exact Bool.false_ne_true)]
      exact .cons r ih
theorem RpK.snoc {v : V} {d : PyData} (rv : Rp K N H v d) (k : L2.Key) : ∀ {kvs : List (L2.Key × V)} {ps : List (PyData × PyData)}, RpK K N H kvs ps → RpK K N H (kvs ++ [(k, v)]) (ps ++ [(keyD k, d)])
  | _, _, .nil => .cons rv .nil
  | _, _, .cons r t => .cons r (RpK.snoc rv k t)
theorem RpK.put {v : V} {d : PyData} {kvs : List (L2.Key × V)} {ps : List (PyData × PyData)} (r : RpK K N H kvs ps) (k : L2.Key) (rv : Rp K N H v d) : RpK K N H (putK kvs k v) (putD ps (keyD k) d) := by
  unfold putK putD
  rw [r.has k]
  split
  · exact r.repl rv k
  · exact r.snoc rv k
theorem RpK.length : ∀ {kvs : List (L2.Key × V)} {ps : List (PyData × PyData)}, RpK K N H kvs ps → kvs.length = ps.length
  | _, _, .nil => rfl
  | _, _, .cons r t => congrArg (· + 1) (RpK.length t)
end
section
variable {g : G} {No M0 N1 : Ax} {H0 H H' H1 : Hp} {D : Addr} {σ σ2 : St} {env env' env2 : Env} {vs : List Nat} {kvs kvs' : List (L2.Key × V)}
theorem tabs_chgK {T : List (Addr × Str)} {a : Addr} (ha : H a = some (.dK kvs)) (t : LamX.Tabs T H) : LamX.Tabs T (upd H a (.dK kvs')) := fun p hp => by
  obtain ⟨ps, h1, h2, h3⟩ := t p hp
  refine ⟨ps, by rw [upd_ne (ne_of h1 ha fun z => by cases z)]; exact h1, h2, fun pos cv hc => ?_⟩
  obtain ⟨c, e1, e2⟩ := h3 pos cv hc
  refine ⟨c, e1, ?_⟩
  have ne : c ≠ a := ne_of e2 ha fun z => by unfold LamX.CodeO at z; cases z
  rw [upd_ne ne]
  exact e2
theorem RepS.chgK {a : Addr} (r : RepS g No H σ env) (hn : No a) (ha : H a = some (.dK kvs)) : RepS g No (upd H a (.dK kvs')) σ env := by
  have ke : ∀ c o, H c = some o → c ≠ a → upd H a (.dK kvs') c = some o := fun c o hc ne => by rw [upd_ne ne]; exact hc
  have t : Tr (Un2 No (Mo g σ env)) H (Un2 No (Mo g σ env)) (upd H a (.dK kvs')) := fun c o hc _ m => ⟨ke c o hc fun z => m (.inl (by rw [z]; exact hn)), m⟩
  have nm : ¬ Mo g σ env a := (r.nout a hn).2
  refine ⟨r.len, tabs_chgK ha r.tab, fun b z => ⟨?_, (r.nout b z).2⟩, fun i x e => ?_, fun i ds e => ?_, fun i ds e => ?_, r.dis, r.dio, r.io1⟩
  · by_cases e : b = a
    · rw [e, upd_same]; exact fun z => by cases z
    · rw [upd_ne e]; exact (r.nout b z).1
  · obtain ⟨v, a1, a2⟩ := r.im i x e
    exact ⟨v, a1, a2.tr t _⟩
  · obtain ⟨b, a1, a2⟩ := r.oc i ds e
    exact ⟨b, a1, a2.tr t fun u hu _ => ke b _ hu fun z => nm (by rw [← z]; exact .inl ⟨i, ds, e, a1⟩)⟩
  · obtain ⟨zs, a1, a2, a3⟩ := r.io i ds e
    exact ⟨zs, a1, ke _ _ a2 fun z => nm (by rw [← z]; exact .inr ⟨rfl, i, ds, e⟩), a3.tr t _⟩
/-- the dict at D on its way -/
structure LK (g : G) (No : Ax) (M0 : Ax) (H0 : Hp) (N1 : Ax) (H1 : Hp) (D : Addr) (σ : St) (env : Env) (acc : List (PyData × PyData)) (H : Hp) : Prop where
  tr : Tr N1 H1 (Un2 (fun b => No b ∨ b = D) (Mo g σ env)) H
  rep : RepS g (fun b => No b ∨ b = D) H σ env
  ev : EvM M0 H0 (Mo g σ env) H
  at_ : ∃ kvs, H D = some (.dK kvs) ∧ RpK g.K (Un2 (fun b => No b ∨ b = D) (Mo g σ env)) H kvs acc
variable {acc acc' : List (PyData × PyData)}
theorem LK.nMo (l : LK g No M0 H0 N1 H1 D σ env acc H) : ¬ Mo g σ env D := (l.rep.nout D (.inr rfl)).2
theorem LK.go (l : LK g No M0 H0 N1 H1 D σ env acc H) (e : EvM (Mo g σ env) H (Mo g σ2 env2) H') (r : RepS g (fun b => No b ∨ b = D) H' σ2 env2) : LK g No M0 H0 N1 H1 D σ2 env2 acc H' := by
  obtain ⟨kvs, h1, h2⟩ := l.at_
  exact ⟨l.tr.trans e.tr, r, l.ev.trans e, kvs, e.keep D _ h1 (fun ps z => by cases z) l.nMo, h2.tr e.tr⟩
theorem LK.wipe (l : LK g No M0 H0 N1 H1 D σ env acc H) (ok : okV vs env = true) : LK g No M0 H0 N1 H1 D (wipe σ vs) (wipeE vs env) acc H :=
  l.go ((EvM.refl _ _).mono2 fun b z => (Mo_wipe ok b).1 z) (l.rep.wipe ok)
theorem LK.put {u : V} {x : PyData} (l : LK g No M0 H0 N1 H1 D σ env acc H) (n0 : H0 D = none) (k : L2.Key) (rx : Rp g.K (Un2 (fun b => No b ∨ b = D) (Mo g σ env)) H u x) :
    ∃ kvs, H D = some (.dK kvs) ∧ kvs.length = acc.length ∧ LK g No M0 H0 N1 H1 D σ env (putD acc (keyD k) x) (upd H D (.dK (putK kvs k u))) := by
  obtain ⟨kvs, h1, h2⟩ := l.at_
  have tr : Tr (Un2 (fun b => No b ∨ b = D) (Mo g σ env)) H (Un2 (fun b => No b ∨ b = D) (Mo g σ env)) (upd H D (.dK (putK kvs k u))) := fun c o hc _ nm => ⟨by rw [upd_ne (fun zz => nm (.inl (.inr zz)))]; exact hc, nm⟩
  refine ⟨kvs, h1, h2.length, l.tr.trans tr, l.rep.chgK (.inr rfl) h1, ⟨fun c o hc nt nm => ?_, fun c zz => l.ev.new c zz, fun c hc => ?_⟩, _, upd_same, (h2.tr tr).put k (rx.tr tr _)⟩
  · have ne : c ≠ D := ne_of_none hc n0
    rw [upd_ne ne]
    exact l.ev.keep c o hc nt nm
  · have ne : c ≠ D := fun zz => hc (by rw [zz]; exact n0)
    rw [upd_ne ne]
    exact l.ev.dom c hc
end
def stepK (t : Tg) (tt : EM Bool) (mk : EM W) (mv : EM W) (vs : List Nat) (x : PyData) (acc : List (PyData × PyData)) (env : Env) : Option (List (PyData × PyData) × Env) := match asgT t x env with
  | none => none
  | some e1 => match tt e1 with
    | .ok false e2 => if okV vs e2 = true then some (acc, wipeE vs e2) else none
    | .ok true e2 => match bnd mk esc e2 with
      | .ok ks e3 => match keyOf ks with
        | some _ => match bnd mv esc e3 with
          | .ok y e4 => if okV vs e4 = true ∧ acc.length < sizeLine then some (putD acc ks y, wipeE vs e4) else none
          | _ => none
        | none => none
      | _ => none
    | _ => none
def loopK (t : Tg) (tt : EM Bool) (mk : EM W) (mv : EM W) (vs : List Nat) : List PyData → List (PyData × PyData) → Env → Option (List (PyData × PyData) × Env)
  | [], acc, env => some (acc, env)
  | x :: xs, acc, env => match stepK t tt mk mv vs x acc env with
    | some (acc', env') => loopK t tt mk mv vs xs acc' env'
    | none => none
def dcKM (it : EM (List PyData)) (t : Tg) (tt : EM Bool) (mk : EM W) (mv : EM W) (vs : List Nat) : EM W := fun env => match it env with
  | .ok xs env1 => if okV vs env1 = true ∧ inV t.sl vs = true then match loopK t tt mk mv vs xs [] (wipeE vs env1) with
      | some (ps, env2) => .ok (.d (.dict ps)) (backE vs env1 env2)
      | none => .no
    else .no
  | .ex x env1 => .ex x env1
  | .no => .no
section
variable {g : G} {No M0 N1 : Ax} {H0 H H' H1 : Hp} {D : Addr} {σ σ2 : St} {env env' env2 : Env} {vs : List Nat} {acc acc' : List (PyData × PyData)}
theorem turn_dcK {t : Tg} {tt : EM Bool} {mk : EM W} {mv : EM W} {v : V} {x : PyData} (l : LK g No M0 H0 N1 H1 D (wipe σ vs) env acc H) (n0 : H0 D = none) (rv : Rp g.K (Un2 (fun b => No b ∨ b = D) (Mo g (wipe σ vs) env)) H v x) (hsl : inV t.sl vs = true) (z : stepK t tt mk mv vs x acc env = some (acc', env'))
    {Nx : Hp → Prop} (hN : ∀ H', LK g No M0 H0 N1 H1 D (wipe σ vs) env' acc' H' → Nx H') :
    tgR g t v (wipe σ vs) H fun σ2 H2 => wipe σ2 vs = wipe σ vs ∧ tT g WF tt σ2 H2 fun b H3 =>
      if b = true then tX g WF mk σ2 H3 fun y H4 => tX g WF mv σ2 H4 fun z H5 => ∃ kvs k, y = kV k ∧ H5 D = some (.dK kvs) ∧ kvs.length < sizeLine ∧ Nx (upd H5 D (.dK (putK kvs k z))) else Nx H3 := by
  refine ⟨_, env, x, l.rep, rv, ?_⟩
  unfold stepK at z
  cases qa : asgT t x env with
  | none => rw [qa] at z; cases z
  | some e1 =>
    rw [qa] at z
    dsimp only at z
    intro σ2 sto
    have hw : wipe σ2 vs = wipe σ vs := wipe_eq (by rw [sto.len, wipe_length]) fun j hj => sto.out j (inV_of hsl hj)
    refine ⟨hw, ?_⟩
    have l1 : LK g No M0 H0 N1 H1 D σ2 e1 acc H := l.go ((EvM.refl _ _).mono2 sto.mo) sto.rep
    refine tT_of sto.rep (fun x e qt => ?_) (fun qt => ?_) fun b e2 H4 qt ev4 r4 => ?_
    · rw [qt] at z; cases z
    · rw [qt] at z; cases z
    · rw [qt] at z
      have l4 := l1.go ev4 r4
      cases b with
      | false =>
        rw [if_neg Bool.false_ne_true]
        dsimp only at z
        split at z
        · rename_i okv
          cases z
          have := l4.wipe okv
          rw [hw] at this
          exact hN _ this
        · cases z
      | true =>
        rw [if_pos rfl]
        dsimp only at z
        refine tX_esc r4 (fun x e qe => ?_) (fun qe => ?_) fun ks e3 us H5 qe ev5 r5 rks => ?_
        · rw [qe] at z; cases z
        · rw [qe] at z; cases z
        · rw [qe] at z
          dsimp only at z
          cases qk : keyOf ks with
          | none => rw [qk] at z; cases z
          | some k =>
            rw [qk] at z
            dsimp only at z
            have ek := keyOf_eq qk
            have eu : us = kV k := by rw [ek] at rks; exact rks.key
            have l5 := l4.go ev5 r5
            refine tX_esc r5 (fun x e qv => ?_) (fun qv => ?_) fun y e4 u H7 qv ev7 r7 ry => ?_
            · rw [qv] at z; cases z
            · rw [qv] at z; cases z
            · rw [qv] at z
              dsimp only at z
              split at z
              · rename_i okv
                cases z
                obtain ⟨kvs, a1, a2, a3⟩ := (l5.go ev7 r7).put n0 k ry
                refine ⟨kvs, k, eu, a1, by rw [a2]; exact okv.2, hN _ ?_⟩
                have := a3.wipe okv.1
                rw [hw] at this
                rw [ek]
                exact this
              · cases z
end
theorem ps_setDcK {kx vx tg iter : Expr} {ifs : List Expr} {scope : Scope} {own : List (Str × Nat)} {pos : Pos} {wi : TI} {g : TG} {tt : TT} {tk tv : TE} {X : Cx} {i : Nat} {y : Str} {py spos : Pos} (hc : X.calm = true) (hN : X.N.Nodup) (hy : X.N[i]? = some y) (hyl : X.env.scope.names.lookup y = some .local)
    (hsw : swapsWith (.DictComp kx vx [⟨tg, iter, ifs, 0⟩] scope pos) (some (.Name y py)) spos.line X.env = pure true) (hi : PI X tg iter wi) (ok : BlkOk X.N X.env.scope scope own)
    (hg : ∀ (s : Shared) (H : Hp) (C : Addr) (cl : List (Str × Addr)) (fp : List Addr), PG (X.blk s H scope (compEnvC scope cl C X.env) fp) tg g)
    (ht : ∀ (s : Shared) (H : Hp) (C : Addr) (cl : List (Str × Addr)) (fp : List Addr), PTs (X.blk s H scope (compEnvC scope cl C X.env) fp) ifs tt)
    (hk : ∀ (s : Shared) (H : Hp) (C : Addr) (cl : List (Str × Addr)) (fp : List Addr), PE (X.blk s H scope (compEnvC scope cl C X.env) fp) kx tk)
    (he : ∀ (s : Shared) (H : Hp) (C : Addr) (cl : List (Str × Addr)) (fp : List Addr), PE (X.blk s H scope (compEnvC scope cl C X.env) fp) vx tv) (hs : ∀ x, foldedSetIterable iter X.env x = pure x := by intro _; rfl) :
    PS X (.Assign [.Name y py] (.DictComp kx vx [⟨tg, iter, ifs, 0⟩] scope pos) spos) (tAsg (tDc wi g tt tk tv (own.map (·.2))) (gName i)) := by
  refine ⟨fun pins s σ H D I h => ?_⟩
  rw [exec_Assign_Name_used _ _ _ _ hsw]
  refine wpAny_bind (wpAny_standAt (wpAny_bind ?_))
  show wpAny _ X.A (do let _ ← comprehension (.DictComp kx vx [⟨tg, iter, ifs, 0⟩] scope pos) scope X.env (firstIterPos [⟨tg, iter, ifs, 0⟩] pos) newDict false (eval iter X.env) (some (assign (.Name y py) X.env))) _ _ s
  have h : tDc wi g tt tk tv (own.map (·.2)) σ H (fun x H1 => gName i x σ H1 D.nx) := h
  refine wpAny_bind (thn (dc_core (Qf := fun _ s' => SP X pins D .next s') hc hN I hi ok hg ht hk he hs h fun L C s' m H' I' q hm f => ?_) fun _ s' hq => wpAny_pure (wpAny_pure hq))
  show wpAny _ _ (assign (.Name y py) X.env (.ref L)) _ _ _
  refine wpAny_assign_Name (store_ok2 (v := V.ref L) I' hN hy (.inl hyl) rfl (fun s2 I2 ⟨a, sb, ha⟩ => ?_) (.inr hyl))
  obtain ⟨f0, f1, f2, f3, f4, f5⟩ := f
  have apart : C ≠ a := ha.elim (fun z => by rw [z]; exact f1) fun z e => f4 y a z e.symm
  exact ⟨m, hm.sameBut sb apart, fun h3 sb3 => ⟨_, H', I2.turned (t' := s2.toks) (fun b o hb e => (sb3.2 b hb).trans e) f0 f1 f3 f4 f5, q⟩⟩
theorem stepK_e {t : Tg} {tt : EM Bool} {mk : EM W} {mv : EM W} {vs : List Nat} {x : PyData} {acc acc' : List (PyData × PyData)} {env env' : Env} (q : stepK t tt mk mv vs x acc env = some (acc', env')) : ∀ i, i ∈ vs → ∀ s, env'[i]? = some s → s = .e := by
  unfold stepK at q
  split at q
  · cases q
  · split at q
    · split at q
      · cases q; exact wipeE_e
      · cases q
    · split at q
      · split at q
        · split at q
          · split at q
            · cases q; exact wipeE_e
            · cases q
          · cases q
        · cases q
      · cases q
    · cases q
theorem loopK_e {t : Tg} {tt : EM Bool} {mk : EM W} {mv : EM W} {vs : List Nat} : ∀ {xs : List PyData} {acc acc' : List (PyData × PyData)} {env env' : Env}, (∀ i, i ∈ vs → ∀ s, env[i]? = some s → s = .e) → loopK t tt mk mv vs xs acc env = some (acc', env') → ∀ i, i ∈ vs → ∀ s, env'[i]? = some s → s = .e
  | [], acc, acc', env, env', h, e => by cases e; exact h
  | x :: xs, acc, acc', env, env', h, e => by
    unfold loopK at e
    split at e
    · rename_i a1 e1 q
      exact loopK_e (stepK_e q) e
    · cases e
section
variable {X : Cx} {T : List (Addr × Str)} {io : Addr} {WW : WX} {pos kpos : Pos} {tg iter vx kx : Expr} {ifs : List Expr} {it : EM (List PyData)} {t : Tg} {tt : EM Bool} {mk : EM W} {mv : EM W} {scope : Scope} {own : List (Str × Nat)}
theorem dcK_of {σ : St} {H : Hp} {Q : VK} {vs : List Nat} (h : tX (gX X T io) WW (dcKM it t tt mk mv vs) σ H Q) :
    tDc (tI (gX X T io) WW it) (tgR (gX X T io) t) (tT (gX X T io) WF tt) (tX (gX X T io) WF mk) (tX (gX X T io) WF mv) vs σ H Q := by
  obtain ⟨No, env, rep, h⟩ := h
  refine ⟨No, env, rep, ?_⟩
  unfold dcKM at h
  cases q : it env with
  | no => rw [q] at h; exact h
  | ex x env' => rw [q] at h; exact h
  | ok xs env1 =>
    rw [q] at h
    intro J H1 ev r1 ⟨Gd, Y, wk, hG, hY⟩ D nD
    dsimp only at h
    by_cases hok : okV vs env1 = true ∧ inV t.sl vs = true
    · rw [if_pos hok] at h
      obtain ⟨ok1, hsl⟩ := hok
      cases ql : loopK t tt mk mv vs xs [] (wipeE vs env1) with
      | none => rw [ql] at h; exact h.elim
      | some r =>
        obtain ⟨ps, env2⟩ := r
        rw [ql] at h
        dsimp only at h
        let g : G := gX X T io
        let N1 : Ax := Un2 No (Mo g σ env1)
        have r0 : RepS g (fun b => No b ∨ b = D) (upd H1 D (.dK [])) σ env1 := r1.ev (EvM.upd nD) (tabs_upd r1.tab nD) fun b z => z.imp id fun z => ⟨by rw [z]; exact nD, by rw [z, upd_same]; exact fun q => by cases q⟩
        have l0 : LK g No (Mo g σ env1) H1 N1 H1 D σ env1 [] (upd H1 D (.dK [])) := ⟨fun c o hc nt nm => by
            have ne := ne_of_none hc nD
            exact ⟨by rw [upd_ne ne]; exact hc, fun zz => zz.elim (fun zz => zz.elim (fun zz => nm (.inl zz)) ne) fun zz => nm (.inr zz)⟩, r0, EvM.upd nD, [], upd_same, .nil⟩
        let P : Nat → Hp → Prop := fun i H' => ∃ e1 a1, LK g No (Mo g σ env1) H1 N1 H1 D (wipe σ vs) e1 a1 H' ∧ loopK t tt mk mv vs (xs.drop i) a1 e1 = some (ps, env2)
        refine ⟨fun i m H => m = xs.length - i ∧ i ≤ xs.length ∧ P i H, ⟨xs.length, by simp, Nat.zero_le _, _, [], l0.wipe ok1, ql⟩, ?_⟩
        rintro i m H' ⟨rfl, hi, e1, a1, l1, z1⟩
        have qG := hG _ H' l1.tr
        by_cases hlt : i < xs.length
        · rw [drop_cons hlt] at z1
          unfold loopK at z1
          cases qs : stepK t tt mk mv vs xs[i] a1 e1 with
          | none => rw [qs] at z1; cases z1
          | some r =>
            rw [qs] at z1
            obtain ⟨a2, e2⟩ := r
            refine .inr ⟨wk.goes i H' hlt qG, P (i + 1), fun H'' p => ⟨xs.length - (i + 1), by omega, rfl, hlt, p⟩, fun x H3 y => ?_⟩
            obtain ⟨e3, t3, rv⟩ := hY _ H' i x H3 xs[i] l1.tr l1.rep.nok l1.rep.tab (List.getElem?_eq_getElem hlt) (wk.yields i H' x H3 hlt qG y)
            exact turn_dcK (l1.go e3.up (l1.rep.ev e3 t3 fun a z => .inl z)) nD rv hsl qs fun H5 l5 => ⟨e2, a2, l5, z1⟩
        · have e : i = xs.length := by omega
          subst e
          rw [List.drop_length] at z1
          cases z1
          refine .inl ⟨wk.stops H' qG, ?_⟩
          have hw := loopK_e wipeE_e ql
          obtain ⟨rb, iff⟩ := r1.back ok1 l1.rep hw l1.tr
          have nMo : ¬ Mo g σ (backE vs env1 env2) D := (rb.nout D (.inr rfl)).2
          obtain ⟨kvs, hD, ra⟩ := l1.at_
          have nNo : ¬ No D := fun z => (r1.nout D z).1 nD
          refine h (.ref D) H' (ev.trans (l1.ev.mono2 fun b z => (iff b).1 z)) ⟨rb.anti fun b z => .inl z, .dicK (fun z => z.elim nNo nMo) (.inl hD) (ra.tr (Tr.anti fun b z => z.elim (fun z => .inl (.inl z)) fun z => .inr ((iff b).1 z)))⟩ trivial
    · rw [if_neg hok] at h
      exact h.elim
theorem px_dcK (hc : X.calm = true) (hN : X.N.Nodup) (hi : PIx X T io WW tg iter it) (ok : BlkOk X.N X.env.scope scope own)
    (hg : ∀ (s : Shared) (H : Hp) (C : Addr) (cl : List (Str × Addr)) (fp : List Addr), PGx (X.blk s H scope (compEnvC scope cl C X.env) fp) T io tg t)
    (ht : ∀ (s : Shared) (H : Hp) (C : Addr) (cl : List (Str × Addr)) (fp : List Addr), PTs (X.blk s H scope (compEnvC scope cl C X.env) fp) ifs (tT (gX (X.blk s H scope (compEnvC scope cl C X.env) fp) T io) WF tt))
    (hk : ∀ (s : Shared) (H : Hp) (C : Addr) (cl : List (Str × Addr)) (fp : List Addr), PX (X.blk s H scope (compEnvC scope cl C X.env) fp) T io WF kx mk)
    (he : ∀ (s : Shared) (H : Hp) (C : Addr) (cl : List (Str × Addr)) (fp : List Addr), PX (X.blk s H scope (compEnvC scope cl C X.env) fp) T io WF vx mv) (hs : ∀ x, foldedSetIterable iter X.env x = pure x := by intro _; rfl) :
    PX X T io WW (.DictComp kx vx [⟨tg, iter, ifs, 0⟩] scope pos) (dcKM it t tt mk mv (own.map (·.2))) :=
  (pe_dc (wi := tI (gX X T io) WW it) (g := tgR (gX X T io) t) (tt := tT (gX X T io) WF tt) (tk := tX (gX X T io) WF mk) (tv := tX (gX X T io) WF mv) hc hN hi ok hg ht hk he hs).imp fun σ H Q h => dcK_of h
theorem pz_setDcK {y : Str} {py spos : Pos} (i : Nat) (hc : X.calm = true) (hN : X.N.Nodup) (hy : X.N[i]? = some y) (hyl : X.env.scope.names.lookup y = some .local)
    (hsw : swapsWith (.DictComp kx vx [⟨tg, iter, ifs, 0⟩] scope pos) (some (.Name y py)) spos.line X.env = pure true) (hi : PIx X T io WW tg iter it) (ok : BlkOk X.N X.env.scope scope own)
    (hg : ∀ (s : Shared) (H : Hp) (C : Addr) (cl : List (Str × Addr)) (fp : List Addr), PGx (X.blk s H scope (compEnvC scope cl C X.env) fp) T io tg t)
    (ht : ∀ (s : Shared) (H : Hp) (C : Addr) (cl : List (Str × Addr)) (fp : List Addr), PTs (X.blk s H scope (compEnvC scope cl C X.env) fp) ifs (tT (gX (X.blk s H scope (compEnvC scope cl C X.env) fp) T io) WF tt))
    (hk : ∀ (s : Shared) (H : Hp) (C : Addr) (cl : List (Str × Addr)) (fp : List Addr), PX (X.blk s H scope (compEnvC scope cl C X.env) fp) T io WF kx mk)
    (he : ∀ (s : Shared) (H : Hp) (C : Addr) (cl : List (Str × Addr)) (fp : List Addr), PX (X.blk s H scope (compEnvC scope cl C X.env) fp) T io WF vx mv) (hs : ∀ x, foldedSetIterable iter X.env x = pure x := by intro _; rfl) :
    PZ X T io WW (.Assign [.Name y py] (.DictComp kx vx [⟨tg, iter, ifs, 0⟩] scope pos) spos) (setM i (dcKM it t tt mk mv (own.map (·.2)))) :=
  (ps_setDcK (wi := tI (gX X T io) WW it) (g := tgR (gX X T io) t) (tt := tT (gX X T io) WF tt) (tk := tX (gX X T io) WF mk) (tv := tX (gX X T io) WF mv) hc hN hy hyl hsw hi ok hg ht hk he hs).imp fun D σ H h => dcK_of (set_of h)
end
end PL

set_option Elab.async false
set_option linter.all false
set_option maxRecDepth 100000
/-! PL35: a frame's own dict with flat keys: y = {}, y[k] = v, y.get(k, z). -/
namespace PL
open PySem PySem.Spec PyProof.Rows L2

def odAt : Option Sl → Option (List (PyData × PyData))
  | some (.own (.k ps)) => some ps
  | _ => none
theorem odAt_ok {s : Option Sl} {ps : List (PyData × PyData)} (h : odAt s = some ps) : s = some (.od ps) := by
  unfold odAt at h
  split at h
  · cases h; rfl
  · cases h
section
variable {g : G} {WW : WX} {No : Ax} {H : Hp} {σ : St} {env : Env} {k : Nat} {ps ps' : List (PyData × PyData)} {a : Addr} {kvs kvs' : List (L2.Key × V)}
theorem RepS.odA (r : RepS g No H σ env) (h : odAt env[k]? = some ps) : ∃ a kvs, σ[k]? = some (some (.ref a)) ∧ H a = some (.dK kvs) ∧ RpK g.K (Un2 No (Mo g σ env)) H kvs ps ∧ Mo g σ env a := by
  obtain ⟨a, e1, kvs, e2, e3⟩ := r.oc k _ (odAt_ok h)
  exact ⟨a, kvs, e1, e2, e3, .inl ⟨k, _, odAt_ok h, e1⟩⟩
theorem RepS.odB (r : RepS g No H σ env) (h : odAt env[k]? = some ps) (ha : σ[k]? = some (some (.ref a))) : ∃ kvs, H a = some (.dK kvs) ∧ RpK g.K (Un2 No (Mo g σ env)) H kvs ps := by
  obtain ⟨a', kvs, e1, e2, e3, _⟩ := r.odA h
  rw [ha] at e1
  cases e1
  exact ⟨kvs, e2, e3⟩
theorem RepS.wrD (r : RepS g No H σ env) (h : odAt env[k]? = some ps) (ha : σ[k]? = some (some (.ref a))) (hx : H a = some (.dK kvs)) (rs : RpK g.K (Un2 No (Mo g σ env)) H kvs' ps') :
    RepS g No (upd H a (.dK kvs')) σ (wrO k (.k ps') env) ∧ EvM (Mo g σ env) H (Mo g σ (wrO k (.k ps') env)) (upd H a (.dK kvs')) := by
  obtain ⟨a', xs', e1, e2, e3, ma⟩ := r.odA h
  rw [ha] at e1
  cases e1
  have t : Tr (Un2 No (Mo g σ env)) H (Un2 No (Mo g σ env)) (upd H a (.dK kvs')) := fun c o hc _ nm => ⟨by rw [upd_ne (fun z => nm (.inr (by rw [z]; exact ma)))]; exact hc, nm⟩
  have dom : ∀ b, H b ≠ none → upd H a (.dK kvs') b ≠ none := fun b hb => by
    by_cases e : b = a
    · rw [e, upd_same]; exact fun z => by cases z
    · rw [upd_ne e]; exact hb
  refine ⟨r.writeO (odAt_ok h) ha (fun b o hb _ ne => by rw [upd_ne ne]; exact hb) dom ⟨kvs', upd_same, rs.tr t⟩ (tabs_chgK hx r.tab), fun c o hc _ nm => by rw [upd_ne (fun z => nm (by rw [z]; exact ma))]; exact hc, fun c z => .inl ((Mo_wrO (odAt_ok h) c).1 z), dom⟩
end

/-! ### y = {} -/
def newDM (i : Nat) : SM := fun env => if noIo env[i]? = true then .nx (env.set i (.od [])) else .no
section
variable {X : Cx} {T : List (Addr × Str)} {io : Addr} {WW : WX} {pos p2 dpos p apos cpos : Pos} {y : Str} {e i f : Expr} {m mi mf : EM W}
theorem new_od {σ : St} {H : Hp} {D : Ends} {i : Nat} (h : tZ (gX X T io) WW (newDM i) D σ H) (p : Addr) (np : H p = none) : D.nx (σ.set i (some (.ref p))) (upd H p (.dK [])) := by
  obtain ⟨No, env, rep, h⟩ := h
  unfold newDM at h
  split at h
  · rename_i hi
    let g : G := gX X T io
    have nNo : ¬ No p := fun z => (rep.nout p z).1 np
    have nMo : ¬ Mo g σ env p := fun z => by
      obtain ⟨u, e, _⟩ := Mo_some rep z
      rw [np] at e
      cases e
    have r1 : RepS g (fun b => No b ∨ b = p) (upd H p (.dK [])) σ env := rep.ev (EvM.upd np) (tabs_upd rep.tab np) fun b z => z.imp id fun z => ⟨by rw [z]; exact np, by rw [z, upd_same]; exact fun q => by cases q⟩
    obtain ⟨r2, sub⟩ := r1.setOc (ds := .k []) hi ⟨[], upd_same, .nil⟩ nNo nMo
    exact h _ _ ⟨(EvM.upd np : EvM (Mo g σ env) H (Mo g σ env) _).keep, fun c z => (sub c z).imp id fun z => by rw [z]; exact np, (EvM.upd np : EvM (Mo g σ env) H (Mo g σ env) _).dom⟩ r2
  · exact h.elim
theorem pz_newD (i : Nat) (hN : X.N.Nodup) (hi : X.N[i]? = some y := by rfl) (hx : Loc X.env.scope y := by first | exact Or.inl rfl | exact Or.inr rfl) (hs : swapsWith (.Dict [] [] dpos) (some (.Name y p2)) pos.line X.env = pure false := by rfl)
    (hf : X.fn y = true ∨ X.env.scope.names.lookup y = some .local := by first | exact .inl rfl | exact .inr rfl | assumption) : PZ X T io WW (.Assign [.Name y p2] (.Dict [] [] dpos) pos) (newDM i) :=
  (ps_set hN hi hx pe_dnewK hs hf).imp fun D σ H h => fun p np => new_od h p np

/-! ### y[k] = v -/
def setKyM (k : Nat) (mi m : EM W) : SM := fun env => match bnd m esc env with
  | .ok x env1 => match odAt env1[k]? with
    | some _ => match bnd mi esc env1 with
      | .ok z env2 => match odAt env2[k]?, keyOf z with
        | some ps, some _ => if ps.length < sizeLine then .nx (wrO k (.k (putD ps z x)) env2) else .no
        | _, _ => .no
      | .ex y env' => .ex y env'
      | .no => .no
    | none => .no
  | .ex x env' => .ex x env'
  | .no => .no
theorem pz_setKy (k : Nat) (hu : X.A.units + 65 < cLine) (he : PX X T io WW e m) (hi : PX X T io WW i mi) (hN : X.N[k]? = some y := by rfl) (hv : Vis X.env.scope y := by first | exact Or.inl rfl | exact Or.inr (Or.inl rfl) | exact Or.inr (Or.inr rfl)) (hd : (y == ("__debug__" : Str)) = false := by decide)
    (hcd : (y == ("__classdict__" : Str)) = false := by decide) (hs : swapsWith e (some (.Subscript (.Name y p) i p2)) pos.line X.env = pure false := by rfl) :
    PZ X T io WW (.Assign [.Subscript (.Name y p) i p2] e pos) (setKyM k mi m) := by
  refine (ps_dput (by omega) (pe_var (i := k) hN hv hd hcd) hi he hs).imp fun D σ H h => ?_
  let g : G := gX X T io
  obtain ⟨No, env, rep, h⟩ := h
  refine tX_esc rep (fun x env' e => ?_) (fun e => ?_) fun x env1 v H1 e ev r rx => ?_
  · unfold setKyM at h; rw [e] at h; exact ex_of h
  · unfold setKyM at h; rw [e] at h; exact h
  unfold setKyM at h
  rw [e] at h
  dsimp only at h
  cases q0 : odAt env1[k]? with
  | none => rw [q0] at h; exact h.elim
  | some ks0 =>
    rw [q0] at h
    dsimp only at h
    obtain ⟨a, xs0, e1, e2, e3, ma⟩ := r.odA q0
    refine ⟨.ref a, e1, ?_⟩
    refine tX_esc r (fun x env' e => ?_) (fun e => ?_) fun z env2 u H2 e5 ev2 r2 rz => ?_
    · rw [e] at h; exact exC.back (ex_of h) ev fun _ z => z
    · rw [e] at h; exact h
    rw [e5] at h
    dsimp only at h
    split at h
    · rename_i ps key q1 qk
      split at h
      · rename_i hz
        obtain ⟨kvs, h1, h2⟩ := r2.odB q1 e1
        have ek := keyOf_eq qk
        have eu : u = kV key := by rw [ek] at rz; exact rz.key
        have rx2 : Rp g.K (Un2 No (Mo g σ env2)) H2 v x := rx.tr ev2.tr _
        obtain ⟨r', ev'⟩ := r2.wrD q1 e1 h1 (h2.put key rx2)
        rw [ek] at h
        subst eu
        exact ⟨a, _, rfl, DPut.k h1 (by rw [h2.length]; exact hz), h σ _ ((ev.trans ev2).trans ev') r'⟩
      · exact h.elim
    · exact h.elim

/-! ### y.get(k, z) -/
def getDM (k : Nat) (mi mf : EM W) : EM W := fun env => match odAt env[k]? with
  | some _ => bnd (bnd mi esc) (fun x => bnd (bnd mf esc) fun z => fun env2 => match odAt env2[k]?, keyOf x with
    | some ps, some _ => .ok (.d ((lookD ps x).getD z)) env2
    | _, _ => .no) env
  | none => .no
theorem RpK.miss {K : PySem.W.Frag} {N : Ax} {H : Hp} : ∀ {kvs : List (L2.Key × V)} {ps : List (PyData × PyData)} {k : L2.Key}, RpK K N H kvs ps → lookD ps (keyD k) = none → valV kvs k = none
  | _, _, _, .nil, _ => rfl
  | _, _, k, .cons (k := k') r t, e => by
    unfold lookD at e
    split at e
    · cases e
    · rename_i q
      rw [valV_neg (fun z => q (by
        have z : k' = k := z
        rw [z]; exact beqD_key k))]
      exact RpK.miss t e
theorem px_getD (k : Nat) (hu : X.A.units + 65 < cLine) (hi : PX X T io WW i mi) (hf : PX X T io WW f mf) (m2 : M2 X (.Name y p) "get" apos i f cpos := by exact ⟨rfl, rfl, rfl, rfl⟩) (hN : X.N[k]? = some y := by rfl) (hv : Vis X.env.scope y := by first | exact Or.inl rfl | exact Or.inr (Or.inl rfl) | exact Or.inr (Or.inr rfl)) (hd : (y == ("__debug__" : Str)) = false := by decide)
    (hcd : (y == ("__classdict__" : Str)) = false := by decide) : PX X T io WW (.Call (.Attribute (.Name y p) "get" apos) [i, f] [] cpos) (getDM k mi mf) := by
  refine (pe_dget2 (by omega) (pe_var (i := k) hN hv hd hcd) hi hf m2).imp fun σ H Q h => ?_
  let g : G := gX X T io
  obtain ⟨No, env, rep, h⟩ := h
  unfold getDM at h
  cases q0 : odAt env[k]? with
  | none => rw [q0] at h; exact h.elim
  | some ps0 =>
    rw [q0] at h
    dsimp only at h
    obtain ⟨a, kvs0, e1, e2, e3, ma⟩ := rep.odA q0
    refine ⟨.ref a, e1, a, rfl, .inl ⟨kvs0, .inl e2⟩, ?_⟩
    refine tX_esc rep (fun x env' e => ?_) (fun e => ?_) fun x env1 v H1 e ev r rx => ?_
    · rw [bnd_ex e] at h; exact h
    · rw [bnd_no e] at h; exact h
    rw [bnd_ok e] at h
    refine tX_esc r (fun x env' e => ?_) (fun e => ?_) fun z env2 u H2 e5 ev2 r2 rz => ?_
    · rw [bnd_ex e] at h; exact exC.back h ev fun _ z => z
    · rw [bnd_no e] at h; exact h
    rw [bnd_ok e5] at h
    cases q1 : odAt env2[k]? with
    | none => rw [q1] at h; exact h.elim
    | some ps =>
      rw [q1] at h
      cases qk : keyOf x with
      | none => rw [qk] at h; exact h.elim
      | some key =>
        rw [qk] at h
        obtain ⟨kvs, h1, h2⟩ := r2.odB q1 e1
        have ek := keyOf_eq qk
        have eu : v = kV key := by rw [ek] at rx; exact rx.key
        subst eu
        refine ⟨_, .k h1, ?_⟩
        refine h _ H2 (ev.trans ev2) ⟨r2, ?_⟩ trivial
        show Rp g.K (Un2 No (Mo g σ env2)) H2 _ ((lookD ps x).getD z)
        cases ql : lookD ps x with
        | some d =>
          obtain ⟨key', w, a1, a2, a3⟩ := h2.look ql
          have : key' = key := keyD_inj (by rw [← a1, ek])
          subst this
          rw [a2]
          exact a3
        | none =>
          rw [ek] at ql
          rw [h2.miss ql]
          exact rz
end
end PL

set_option Elab.async false
set_option linter.all false
set_option maxRecDepth 100000
/-! PL36: sorted(y.values()). -/
namespace PL
open PySem PySem.Spec PyProof.Rows L2

mutual
theorem reads_at {h : Heap} : ∀ {v : Value} {d : PyData} {as : List Addr}, Reads h v d as → ∀ b ∈ as, ∃ o, h.get? b = some o
  | _, _, _, .none, _, m => by simp at m
  | _, _, _, .bool _, _, m => by simp at m
  | _, _, _, .int _ _, _, m => by simp at m
  | _, _, _, .str _ _, _, m => by simp at m
  | _, _, _, .list h1 _ _ h4, b, m => by
    rcases List.mem_cons.mp m with rfl | m
    · exact ⟨_, h1⟩
    · exact readsAll_at h4 b m
  | _, _, _, .tuple _ _ _ h4, b, m => readsAll_at h4 b m
  | _, _, _, .dict h1 _ _ h4 h5, b, m => by
    rcases List.mem_append.mp m with m | m
    · rcases List.mem_cons.mp m with rfl | m
      · exact ⟨_, h1⟩
      · exact readsAll_at h4 b m
    · exact readsAll_at h5 b m
theorem readsAll_at {h : Heap} : ∀ {vs : List Value} {ds : List PyData} {as : List Addr}, ReadsAll h vs ds as → ∀ b ∈ as, ∃ o, h.get? b = some o
  | _, _, _, .nil, _, m => by simp at m
  | _, _, _, .cons h1 h2, b, m => (List.mem_append.mp m).elim (reads_at h1 b) (readsAll_at h2 b)
end
theorem KV.vals : ∀ {kvs : List (L2.Key × V)} {vs : List (L2.Key × Value)}, KV kvs vs → Vals (kvs.map (·.2)) (vs.map (·.2))
  | _, _, h => by
    unfold KV at h
    induction h with
    | nil => exact .nil
    | cons h t ih => exact .cons h.2 ih
def rValsK : V → List V → Hp → VK → Prop := fun x xs H Q => ∃ (a : Addr) (kvs : List (L2.Key × V)), x = .ref a ∧ xs = [] ∧ H a = some (.dK kvs) ∧ ∀ p, H p = none → Q (.ref p) (upd H p (viewO "dict_values" p a))
theorem mt_valsK {X : Cx} : MtR X "dict.values" rValsK := by
  intro pins s σ H x xs v us Q I rx rxs h
  obtain ⟨a, kvs, rfl, rfl, ha, q⟩ := h
  cases rx
  cases rxs
  obtain ⟨z, hd, vs, rel, dd⟩ := dk_of I.hok ha
  refine call_meetsIn PySem.F.slot_dict_values dd.typeIs PySem.F.entry_dict_values (PySem.F.args_dict_values_1 _) (meets_dict_values (mixKind X.prog X.w) a hd) ⟨⟨vs, dd⟩, ?_⟩
  have hf : H s.heap.objs.size = none := I.hok.fresh (Nat.le_refl _)
  exact ⟨.ref s.heap.objs.size, upd H s.heap.objs.size (viewO "dict_values" s.heap.objs.size a), I.laid (t' := s.toks) (fun b u e => Heap.get?_push_of_some _ e) (Nat.le_refl _) (viewO_ok (Heap.get?_push_size _ rfl)), rfl, q _ hf⟩
/-- a source taken into a new list, the heap no smaller -/
theorem collect_sz {prog : Program} {w : World} {A : Around} {E : Value → Shared → Prop} {s : Shared} {Tn : String} {r d : Addr} {n : Nat} {P : Nat → Value → Prop} {OK : Heap → Prop} {R : List Value → Shared → Prop} (src : PySem.W.KdlSrc prog w Tn r d n P OK) (hh : A.handled = none) (hok : OK s.heap) (hn : n ≤ sizeLine)
    (fin : ∀ (g : Heap) (tk : Nat) (ac : Array Value), s.heap.objs.size ≤ g.objs.size → (∀ b o, s.heap.get? b = some o → g.get? b = some o) → ItemsOf P ac n → R ac.toList { s with heap := g, toks := tk }) :
    wpAny (model prog w) A (collect (.ref r)) R E s := by
  let S : Addr := s.heap.objs.size
  let L0 : Heap := s.heap.push { cls := .type "list", data := .seq ([] : List Value).toArray }
  have th := src.there _ hok
  have at0 : L0.get? S = some { cls := .type "list", data := .seq #[] } := Heap.get?_push_size _ rfl
  have ext := PySem.W.kdl_extend (A := A) (s := { s with heap := L0 })
    (R := fun (q : Result) (t : Shared) => ∃ (g : Heap) (tk : Nat) (ac : Array Value) (c : Nat), q = .ok (.ret (.ref S)) ∧ t = { s with heap := g, toks := tk } ∧
      (∀ b o, s.heap.get? b = some o → g.get? b = some o) ∧ g.get? S = some { cls := .type "list", dict := none, data := .seq ac c, slots := #[] } ∧ ItemsOf P ac n)
    src hh (src.keep _ _ hok fun b _ o z => Heap.get?_push_of_some _ z) S (Nat.ne_of_gt th.1) (Nat.ne_of_gt th.2) (.ref S) 0 at0
    (fun g tk ac c k1 k2 k3 => ⟨g, tk, ac, c, rfl, rfl, fun b o z => k1 b o (Nat.ne_of_lt (Heap.lt_size z)) (Heap.get?_push_of_some _ z), k2, k3⟩) hn
  unfold collect
  refine wpAny_bind (wpAny_runValue (codeAny_builtin entry_proto_collect' ?_))
  rw [Around.under_plainId PySem.F.plain_proto_collect _]
  refine wpAny_bind (m := newList []) (wpAny_newObj_type (wpAny_pure ⟨plainId_quiet PySem.F.plain_list_iadd _, codeAny_builtin entry_list_iadd' ?_⟩))
  rw [Around.under_plainId PySem.F.plain_list_iadd _]
  refine wpAny_mono ext (fun out t x => ?_) fun e t x => ?_
  · cases out with
    | done f =>
      obtain ⟨g, tk, ac, c, z, rfl, k1, k2, k3⟩ := x
      cases z
      refine wpAny_bind (m := load S) (wpAny_load k2 (wpAny_pure (fin g tk ac (Nat.le_of_lt (Heap.lt_size k2)) k1 k3)))
    | again c1 =>
      refine ⟨x.1, codeAny_mono x.2 fun q t2 y => ?_⟩
      obtain ⟨g, tk, ac, c, rfl, rfl, k1, k2, k3⟩ := y
      refine wpAny_bind (m := load S) (wpAny_load k2 (wpAny_pure (fin g tk ac (Nat.le_of_lt (Heap.lt_size k2)) k1 k3)))
  · obtain ⟨_, _, _, _, z, _⟩ := x
    cases z
def rSortV (X : Cx) : List V → Hp → VK → Prop := fun us H Q => ∃ p a kvs ds, us = [.ref p] ∧ H p = some (viewO "dict_values" p a) ∧ H a = some (.dK kvs) ∧ DpAll X.K H (kvs.map (·.2)) ds ∧ sortOk ds = true ∧
  ∀ q, H q = none → Q (.ref q) (upd H q (.lst ((isort (fun p q : V × PyData => leD p.2 q.2) ((kvs.map (·.2)).zip ds)).map Prod.fst)))
theorem cr_sortV {X : Cx} (hc : X.calm = true) (hu : X.A.units + 65 < cLine) : CallR X (.builtin "sorted") (rSortV X) := by
  intro pins s σ H vs us Q I r h
  obtain ⟨p, a, kvs, ds, rfl, hp, ha, hd, ok, q⟩ := h
  rw [Vals.ref1 r]
  have hv : s.heap.get? p = some (DSub.viewOb "dict_values" a) := (show ObjOk X.prog X.w H s.heap p (viewO "dict_values" p a) from I.hok p _ hp).1
  obtain ⟨hz, _, rs, rel, dd⟩ := dk_of I.hok ha
  obtain ⟨ep, hat⟩ := dd.dictAt
  have rv : Vals (kvs.map (·.2)) (rs.map (·.2)) := KV.vals rel
  have hlen : rs.length ≤ sizeLine := by have := rv.length; rw [List.length_map, List.length_map] at this; omega
  have hh : X.A.handled = none := I.ok.hd hc
  refine PySem.Calls.call_function_entry kind_sorted plain_sorted entry_sorted (args_sorted1 _) ?_
  unfold Builtin.«sorted»
  refine wpAny_bind (m := checkCount "sorted" 1 1 _) (wpAny_pure ?_)
  refine wpAny_bind (collect_sz (A := X.A.in1) (PySem.W.kdl_values (knd := mixKind X.prog X.w) (kvs := rs) (ep := ep)) hh ⟨⟨_, hv, rfl, rfl⟩, hat⟩ hlen fun h' tk acc hls hk hacc => ?_)
  have hl : acc.toList.length = rs.length := by rw [Array.length_toList]; exact hacc.1
  have hvals : acc.toList = rs.map (·.2) := PySem.W.kdl_vals_eq _ hl fun j v e => hacc.2 j v (by rw [← Array.getElem?_toList]; exact e)
  rw [hvals]
  refine wpAny_bind (wpAny_newList ?_ (by rw [List.length_map]; exact hlen))
  have hob : (h'.push { cls := .type "list", data := .seq (rs.map (·.2)).toArray }).get? h'.objs.size = some (seqObj "list" (rs.map (·.2)).toArray 0) := Heap.get?_push_size _ rfl
  have kb : ∀ b o, s.heap.get? b = some o → (h'.push { cls := .type "list", data := .seq (rs.map (·.2)).toArray }).get? b = some o := fun b o e => Heap.get?_push_of_some _ (hk b o e)
  have ne0 : ∀ b o, s.heap.get? b = some o → b ≠ h'.objs.size := fun b o e => Nat.ne_of_lt (Heap.lt_size (hk b o e))
  obtain ⟨e1, e2, e3⟩ := each_zip I hd rv
  unfold sortOk at ok
  rw [Bool.and_eq_true, Bool.and_eq_true, Bool.and_eq_true, Bool.and_eq_true] at ok
  obtain ⟨⟨⟨⟨k1, k2⟩, k3⟩, k4⟩, _⟩ := ok
  have hal : PySem.W.AllAlike (((kvs.map (·.2)).zip ds).map Prod.snd) := by
    rw [e3]
    intro d hd d' hd'
    exact List.all_eq_true.mp (List.all_eq_true.mp k1 d hd) d' hd'
  have hkk : PySem.W.Sortable (((kvs.map (·.2)).zip ds).map Prod.snd) := by
    rw [e3]
    rcases (Bool.or_eq_true _ _).mp k2 with k2 | k2
    · refine .inl fun d hd => ?_
      have := List.all_eq_true.mp k2 d hd
      unfold conT at this
      split at this
      · exact ⟨_, _, rfl⟩
      · cases this
    · refine .inr fun d hd => ?_
      have := List.all_eq_true.mp k2 d hd
      unfold nonT at this
      split at this
      · cases this
      · cases this
      · rename_i h1 h2
        exact ⟨fun z => h1 z, fun xs z => h2 xs z⟩
  have hzl : ((kvs.map (·.2)).zip ds).length = ds.length := by
    have := congrArg List.length e3
    rw [List.length_map] at this
    exact this
  have hL : ((kvs.map (·.2)).zip ds).length ≤ sizeLine := by rw [hzl]; exact of_decide_eq_true k4
  have key : wpAny (model X.prog X.w) X.A.in1 (call (.builtin "list.sort") [.ref h'.objs.size]) (fun _ s' => EP X pins σ Q (.ref h'.objs.size) s') X.xe { s with heap := h'.push { cls := .type "list", data := .seq (rs.map (·.2)).toArray }, toks := tk } :=
    PySem.W.list_sort_data (s := { s with heap := h'.push { cls := .type "list", data := .seq (rs.map (·.2)).toArray }, toks := tk }) (enc := Prod.snd) hob e1 (e2.mono fun v b ⟨as, ra⟩ => ⟨as, PyProof.Rows.Reads.keeps kb ra, fun m => by
      obtain ⟨o, eo⟩ := reads_at ra _ m
      exact ne0 _ _ eo rfl⟩) hal hkk hL (fun b hb => by
      have hm : b.2 ∈ ds := by rw [← e3]; exact List.mem_map.mpr ⟨b, hb, rfl⟩
      have := of_decide_eq_true (List.all_eq_true.mp k3 _ hm)
      show X.A.units + 1 + 1 + _ < _
      omega) fun out ho eo => by
      rw [merge_isort] at eo
      have v := vals_each eo
      have hlen2 : ((isort (fun p q : V × PyData => leD p.2 q.2) ((kvs.map (·.2)).zip ds)).map Prod.fst).length ≤ sizeLine := by
        rw [v.length, ho]
        exact hL
      have kF : ∀ b o, b ≠ h'.objs.size → (h'.push { cls := .type "list", data := .seq (rs.map (·.2)).toArray }).get? b = some o → (sortedHeap (h'.push { cls := .type "list", data := .seq (rs.map (·.2)).toArray }) h'.objs.size (rs.map (·.2)) (List.toArray out)).get? b = some o := fun b o hb e => (PyProof.Rows.sortedHeap_old hb (Heap.lt_size e)).trans e
      obtain ⟨eF, heF⟩ := PyProof.Rows.sortedHeap_at (vs := rs.map (·.2)) (out := List.toArray out) hob
      exact ⟨.ref h'.objs.size, upd H h'.objs.size (.lst _), I.laid (t' := tk) (fun b o e => kF b o (ne0 _ _ e) (kb b o e)) hls ⟨hlen2, out, eF, v, heF⟩, rfl, q _ (I.hok.fresh hls)⟩
  refine wpAny_bind (wpAny_holding (wpAny_mono key (fun _ s' x => ?_) fun _ _ e => e))
  exact wpAny_pure ⟨_, rfl, x⟩
theorem RpK.vals {K : PySem.W.Frag} {N : Ax} {H : Hp} : ∀ {kvs : List (L2.Key × V)} {ps : List (PyData × PyData)}, RpK K N H kvs ps → Rps K N H (kvs.map (·.2)) (ps.map (·.2))
  | _, _, .nil => .nil
  | _, _, .cons r t => .cons r (RpK.vals t)
def sortVM (k : Nat) : EM W := fun env => match odAt env[k]? with
  | some ps => if sortOk (ps.map (·.2)) = true then .ok (.f (sortD (ps.map (·.2)))) env else .no
  | none => .no
section
variable {X : Cx} {T : List (Addr × Str)} {io : Addr} {WW : WX} {p pos apos cpos p2 : Pos} {x y : Str}
theorem px_sortV (k : Nat) (hu : X.A.units + 65 < cLine) (hc : X.calm = true) (hg : Gl X x) (hm : X.mg x = none) (hv : bootBuiltins x = some (.builtin "sorted")) (hN : X.N[k]? = some y := by rfl) (hvi : Vis X.env.scope y := by first | exact Or.inl rfl | exact Or.inr (Or.inl rfl) | exact Or.inr (Or.inr rfl)) (hd : (y == ("__debug__" : Str)) = false := by decide)
    (hcd : (y == ("__classdict__" : Str)) = false := by decide) (hbase : attributeBase (.Name y p2) "values" X.env (eval (.Name y p2) X.env) = eval (.Name y p2) X.env := by rfl) (hline : (apos.endLine == cpos.line) = true := by rfl)
    (he : starEach [.Call (.Attribute (.Name y p2) "values" apos) [] [] cpos] X.env = [(false, eval (.Call (.Attribute (.Name y p2) "values" apos) [] [] cpos) X.env)] := by rfl) (hn : x ≠ "__name__" := by decide) (hdb : (x == ("__debug__" : Str)) = false := by decide) :
    PX X T io WW (.Call (.Name x p) [.Call (.Attribute (.Name y p2) "values" apos) [] [] cpos] [] pos) (sortVM k) := by
  refine (pe_callB (cr_sortV hc hu) hg hm hv (pa_cons (pe_bm0 PySem.F.plainAttrs_dict PySem.F.slot_dict_values PySem.F.type_dict_values mt_valsK (pe_var (i := k) hN hvi hd hcd) hbase hline) pa_nil he) hn hdb he (by rfl)).imp fun σ H Q h => ?_
  let g : G := gX X T io
  obtain ⟨No, env, rep, h⟩ := h
  unfold sortVM at h
  cases q0 : odAt env[k]? with
  | none => rw [q0] at h; exact h.elim
  | some ps =>
    rw [q0] at h
    dsimp only at h
    by_cases ok : sortOk (ps.map (·.2)) = true
    · rw [if_pos ok] at h
      obtain ⟨a, kvs, e1, e2, e3, ma⟩ := rep.odA q0
      refine ⟨.ref a, e1, .inr (.inr (.inl ⟨rfl, .inl ⟨kvs, e2⟩⟩)), a, kvs, rfl, rfl, e2, fun p np => ?_⟩
      have ne : a ≠ p := fun z => by rw [← z, e2] at np; cases np
      have ev1 : EvM F0 H F0 (upd H p (viewO "dict_values" p a)) := EvM.upd np
      have t1 := tabs_upd (o := viewO "dict_values" p a) rep.tab np
      have r1 : RepS g No (upd H p (viewO "dict_values" p a)) σ env := rep.ev ev1 t1 fun b z => .inl z
      have rv := e3.vals.tr (H2 := upd H p (viewO "dict_values" p a)) (N2 := Un2 No (Mo g σ env)) (fun c o hc _ m => ⟨by rw [upd_ne (ne_of_none hc np)]; exact hc, m⟩) _
      refine ⟨p, a, kvs, ps.map (·.2), rfl, upd_same, by rw [upd_ne ne]; exact e2, rv.dp _ (by unfold sortOk at ok; rw [Bool.and_eq_true] at ok; exact ok.2), ok, fun q nq => ?_⟩
      have ev2 : EvM F0 (upd H p (viewO "dict_values" p a)) F0 (upd (upd H p (viewO "dict_values" p a)) q (.lst ((isort (fun p q : V × PyData => leD p.2 q.2) ((kvs.map (·.2)).zip (ps.map (·.2)))).map Prod.fst))) := EvM.upd nq
      obtain ⟨p1, p2⟩ := fin_of (w := .f (sortD (ps.map (·.2)))) r1 (fun c z => z) ev2 (tabs_upd t1 nq) ⟨q, _, rfl, nq, upd_same, (rv.sorted).tr (fun c o hc _ m => by
        have nc : c ≠ q := ne_of_none hc nq
        exact ⟨by rw [upd_ne nc]; exact hc, fun z => z.elim m nc⟩) _⟩
      exact h _ _ (ev1.trans ev2).up p1 (p2.back ev1)
    · rw [if_neg ok] at h; exact h.elim
end
end PL

set_option Elab.async false
set_option linter.all false
set_option maxRecDepth 100000
/-! PL37: extend by a tuple; texts added and counted; a new list handed in to be changed. -/
namespace PL
open PySem PySem.Spec PyProof.Rows L2

theorem meets_extT (l b : Addr) (its its2 : Array Value) (n n2 : Nat) (o : Obj) (hc : o.cls = .type "tuple") (hd : o.data = .seq its2 n2) (hz : its.size + its2.size ≤ sizeLine) :
    Meets (Builtin.«list.extend» ⟨[.ref l, .ref b], []⟩) (fun _ R s => s.heap.get? l = some { cls := .type "list", dict := none, data := .seq its n, slots := #[] } ∧ s.heap.get? b = some o ∧ R (.ok (.ret Value.none)) { s with heap := s.heap.update l (Obj.mapSeq fun x => x ++ its2) }) :=
  .of_wp fun prog w A R s ⟨hl, hb, h⟩ => by
    have door : (!its.isEmpty && Builtin.List.listTooLong (its.size + its2.size)) = false := by
      have := notLongL hz
      rw [this, Bool.and_false]
    show wpAny _ _ (Builtin.List.listExtendWith (.ref l) (.ref b) .none) _ _ s
    unfold Builtin.List.listExtendWith
    refine wpAny_bind (wpAny_typeOf ⟨o, hb, hc⟩ ?_)
    have h1 : (Builtin.List.listSameRef (.ref l) (.ref b) || Value.type "tuple" == Value.type "list" || Value.type "tuple" == Value.type "tuple") = true := by simp
    simp only [h1, if_true]
    refine wpAny_bind ?_
    unfold Builtin.List.listItems
    refine wpAny_bind (wpAny_seqItems hb hd (wpAny_pure ?_))
    refine wpAny_bind ?_
    refine wpAny_bind (wpAny_seqItems hl rfl (wpAny_pure ?_))
    rw [door, if_neg Bool.false_ne_true]
    show wpAny _ _ (updateSeq l (· ++ its2) >>= fun _ => PySem.ret .none) _ _ s
    refine wpAny_bind (wpAny_updateSeq hl rfl ?_ (hz := by omega) (_hz' := by rw [Array.size_append]; omega))
    exact wpAny_pure ⟨_, rfl, h⟩
def rExtendT (K : PySem.W.Frag) : V → List V → Hp → VK → Prop := fun x vs H Q => ∃ l b xs zs, x = .ref l ∧ vs = [.ref b] ∧ H l = some (.lst xs) ∧ SqT K H b zs ∧ xs.length + zs.length ≤ sizeLine ∧ Q .non (upd H l (.lst (xs ++ zs)))
def rExtendA (K : PySem.W.Frag) : V → List V → Hp → VK → Prop := fun x vs H Q => rExtend x vs H Q ∨ rExtendT K x vs H Q
theorem mt_extendT {X : Cx} : MtR X "list.extend" (rExtendA X.K) := by
  intro pins s σ H x vs v us Q I rx rv h
  rcases h with h | h
  · exact mt_extend pins s σ H x vs v us Q I rx rv h
  obtain ⟨l, b, xs, zs, rfl, rfl, hH, hB, hz, q⟩ := h
  cases rx
  obtain ⟨u, rfl, ru⟩ := rv.one
  cases ru
  obtain ⟨z, its, n, r, hl, e⟩ := I.lstM hH
  obtain ⟨its2, r2, ⟨o, ho, hc, n2, hd⟩, hz2⟩ := I.tuple hB
  have l1 := r.length
  have l2 := r2.length
  refine call_meets PySem.F.slot_list_extend ⟨_, e, rfl⟩ PySem.F.entry_list_extend (PySem.F.args_list_extend_2 _ _) (meets_extT l b its.toArray its2.toArray n n2 o hc hd (by rw [List.size_toArray, List.size_toArray]; omega)) ⟨e, ho, ?_⟩
  refine ⟨.non, _, I.lset (its' := its ++ its2) hH e (by simp) (r.append r2) ?_, rfl, q⟩
  rw [List.length_append]
  omega
def extB (k : Nat) (w : W) : EM W := match w with
  | .f es => extA k (.f es)
  | w => bnd (esc w) fun x => fun env => match x, ownAt env[k]? with
    | .tuple es, some ks => if ks.length + es.length ≤ sizeLine then .ok (.d .none) (wrS k (ks ++ es) env) else .no
    | _, _ => .no
def extBM (k : Nat) (m : EM W) : EM W := fun env => match ownAt env[k]? with
  | some _ => bnd m (extB k) env
  | none => .no
section
variable {X : Cx} {T : List (Addr × Str)} {io : Addr} {WW : WX} {p pos apos cpos : Pos} {y : Str} {e i : Expr} {m mi : EM W}
theorem px_extendB (k : Nat) (he : PX X T io WW e m) (hN : X.N[k]? = some y := by rfl) (hv : Vis X.env.scope y := by first | exact Or.inl rfl | exact Or.inr (Or.inl rfl) | exact Or.inr (Or.inr rfl)) (hd : (y == ("__debug__" : Str)) = false := by decide)
    (hcd : (y == ("__classdict__" : Str)) = false := by decide)
    (hbase : attributeBase (.Name y p) "extend" X.env (eval (.Name y p) X.env) = eval (.Name y p) X.env := by rfl)
    (hfew : ((backTo cpos (starEach [e] X.env)).all (fun x => !x.1) && (backToKw cpos (keywordEach [] X.env)).all (fun x => x.1.isSome)
      && decide ([e].length + ([] : List Keyword).length + (if ([] : List Keyword).isEmpty then 0 else 1) < 30)) = true := by rfl)
    (hline : (apos.endLine == cpos.line) = true := by rfl) (hs : starEach [e] X.env = (false, eval e X.env) :: starEach [] X.env := by rfl) :
    PX X T io WW (.Call (.Attribute (.Name y p) "extend" apos) [e] [] cpos) (extBM k m) := by
  refine (pe_bm PySem.F.plainAttrs_list PySem.F.slot_list_extend PySem.F.type_list_extend mt_extendT (pe_var (i := k) hN hv hd hcd) (pa_cons he pa_nil hs) hbase hfew hline hs (by rfl)).imp fun σ H Q h => ?_
  let g : G := gX X T io
  obtain ⟨No, env, rep, h⟩ := h
  unfold extBM at h
  cases q0 : ownAt env[k]? with
  | none => rw [q0] at h; exact h.elim
  | some ks0 =>
    rw [q0] at h
    obtain ⟨a, xs0, e1, e2, e3, ma⟩ := rep.own q0
    refine ⟨.ref a, e1, .inl ⟨rfl, xs0, .inl (.inl e2)⟩, ?_⟩
    refine tX_of (m := m) rep (fun x env' e => ?_) (fun e => ?_) fun w env1 v H1 e ev pv fr => ?_
    · rw [bnd_ex e] at h; exact h
    · rw [bnd_no e] at h; exact h
    have h : match extB k w env1 with
      | .ok w env' => ∀ v H', EvM (Mo g σ env) H (Mo g σ env') H' → PV g No H' σ env' v w → Fr H v w → Q v H'
      | .ex x env' => exC g WW No env σ H x env'
      | .no => False := by rw [bnd_ok e] at h; exact h
    have gen : (match bnd (esc w) (fun x => fun env => match x, ownAt env[k]? with
        | .tuple es, some ks => if ks.length + es.length ≤ sizeLine then .ok (.d .none) (wrS k (ks ++ es) env) else .no
        | _, _ => .no) env1 with
      | .ok w env' => ∀ v H', EvM (Mo g σ env) H (Mo g σ env') H' → PV g No H' σ env' v w → Fr H v w → Q v H'
      | .ex x env' => exC g WW No env σ H x env'
      | .no => False) → rExtendA X.K (.ref a) [v] H1 Q := fun h => by
      cases qe : esc w env1 with
      | no => rw [bnd_no qe] at h; exact h.elim
      | ex x env' => exact absurd qe esc_nex
      | ok x env2 =>
        rw [bnd_ok qe] at h
        obtain ⟨r2, rx, sub⟩ := pv.esc qe
        have ev2 : EvM (Mo g σ env) H (Mo g σ env2) H1 := ev.mono2 sub
        split at h
        · rename_i w' env' q
          split at q
          · rename_i es ks q1
            split at q
            · rename_i hz
              cases q
              obtain ⟨xs1, h1, h2⟩ := r2.ownA q1 e1
              cases rx with
              | tup lt rs =>
                obtain ⟨r', ev'⟩ := r2.wr q1 e1 h1 (h2.append rs)
                exact .inr ⟨a, _, xs1, _, rfl, rfl, h1, lt.sq, by rw [h2.length, rs.length]; exact hz, h .non _ (ev2.trans ev') ⟨r', .non⟩ trivial⟩
            · cases q
          · cases q
        · rename_i x env' q
          split at q
          · split at q <;> cases q
          · cases q
        · exact h.elim
    cases w with
    | d x => exact gen h
    | o j => exact gen h
    | f es =>
      have h : match extA k (.f es) env1 with
        | .ok w env' => ∀ v H', EvM (Mo g σ env) H (Mo g σ env') H' → PV g No H' σ env' v w → Fr H v w → Q v H'
        | .ex x env' => exC g WW No env σ H x env'
        | .no => False := h
      unfold extA at h
      split at h
      · rename_i w' env' q
        split at q
        · rename_i es' ks z q1
          cases z
          split at q
          · rename_i hz
            cases q
            obtain ⟨b, zs, rfl, b1, b2, b3, b4⟩ := pv.val
            obtain ⟨xs1, h1, h2⟩ := pv.base.ownA q1 e1
            have b2' : Rps g.K (Un2 No (Mo g σ env1)) H1 zs es := b2.tr (Tr.anti fun c z => z.imp .inl id) _
            obtain ⟨r', ev'⟩ := pv.base.wr q1 e1 h1 (h2.append b2')
            exact .inl ⟨a, b, xs1, zs, rfl, rfl, h1, b1, by rw [h2.length, b2.length]; exact hz, h .non _ (ev.trans ev') ⟨r', .non⟩ trivial⟩
          · cases q
        · cases q
      · rename_i x env' q
        split at q
        · split at q <;> cases q
        · cases q
      · exact h.elim
end

/-! ### texts -/
def strF : PyData → PyData → Option W
  | .str x, .str y => if x.length + y.length ≤ sizeLine then some (.d (.str (x ++ y))) else none
  | _, _ => none
def addS : PyData → PyData → Option W := orF addF strF
def rStr : R2 := fun x y H Q => ∃ i j, x = .str i ∧ y = .str j ∧ i.length + j.length ≤ sizeLine ∧ Q (.str (i ++ j)) H
def rAddS (K : PySem.W.Frag) : R2 := fun x y H Q => rAdd' K x y H Q ∨ rStr x y H Q
theorem op_addS {X : Cx} : OpR X (binaryOp .Add) (rAddS X.K) := op_add'.or op_add_str
section
variable {K : PySem.W.Frag} {T : List (Addr × Str)}
theorem s2_str : Spec2 K T rStr strF := by
  intro x y H Q N a b w nok t ra rb e post
  unfold strF at e
  split at e
  · split at e
    · rename_i hz
      cases e
      cases ra
      cases rb
      exact ⟨_, _, rfl, rfl, hz, post _ H (EvM.refl _ _) t (.str _)⟩
    · cases e
  · cases e
theorem s2_addS : Spec2 K T (rAddS K) addS := s2_add.or s2_str
def isSA (a : W) : EM Unit := fun env => match pk a env with
  | some (.str _) => .ok () env
  | _ => .no
def smM (f : PyData → PyData → Option W) (ma mb : EM W) : EM W := bnd ma fun a => bnd (isSA a) fun _ => bnd mb fun b => app2 f a b
def scntF : PyData → PyData → Option W
  | .str a, .str b => some (.d (.int (Txt.count a b)))
  | _, _ => none
def rScnt : V → List V → Hp → VK → Prop := fun x xs H Q => ∃ a b, x = .str a ∧ xs = [.str b] ∧ Q (.int (Txt.count a b)) H
theorem s2_scnt : Spec2 K T (fun x y H Q => rScnt x [y] H Q) scntF := by
  intro x y H Q N a b w nok t ra rb e post
  unfold scntF at e
  split at e
  · cases e
    cases ra
    cases rb
    exact ⟨_, _, rfl, rfl, post _ H (EvM.refl _ _) t (.int _)⟩
  · cases e
end
theorem sm_of {g : G} {WW : WX} {σ : St} {H : Hp} {Q : VK} {ma mb : EM W} {r : V → List V → Hp → VK → Prop} {f : PyData → PyData → Option W} (hs : Spec2 g.K g.T (fun x y H Q => r x [y] H Q) f) (h : tX g WW (smM f ma mb) σ H Q) :
    tX g WW ma σ H fun x H1 => tyV g.K "str" x H1 ∧ tX g WW mb σ H1 fun y H2 => r x [y] H2 Q := by
  obtain ⟨No, env, rep, h⟩ := h
  refine tX_of rep (fun x env' e => ?_) (fun e => ?_) fun a env1 v H1 e ev pv fr => ?_
  · rw [show smM f ma mb env = _ from bnd_ex e] at h; exact h
  · rw [show smM f ma mb env = _ from bnd_no e] at h; exact h
  rw [show smM f ma mb env = _ from bnd_ok e] at h
  have hl : ∃ ds, pk a env1 = some (.str ds) := by
    unfold bnd isSA at h
    cases q : pk a env1 with
    | none => rw [q] at h; exact h.elim
    | some d =>
      rw [q] at h
      cases d with
      | str ds => exact ⟨ds, rfl⟩
      | _ => exact h.elim
  obtain ⟨ds, hl⟩ := hl
  rw [show bnd (isSA a) (fun _ => bnd mb fun b => app2 f a b) env1 = bnd mb (fun b => app2 f a b) env1 from bnd_ok (show isSA a env1 = .ok () env1 by unfold isSA; rw [hl])] at h
  refine ⟨?_, ?_⟩
  · have z : Rp g.K _ H1 v (.str ds) := pv.pk hl
    cases z
    rfl
  refine tX_of pv.rep (fun x env' e => ?_) (fun e => ?_) fun b env2 u H2 e2 ev2 pu fr2 => ?_
  · rw [bnd_ex e] at h; exact exC.back h ev fun a z => plus_of a z
  · rw [bnd_no e] at h; exact h
  rw [bnd_ok e2] at h
  cases q : app2 f a b env2 with
  | no => rw [q] at h; exact h.elim
  | ex x e' => exact absurd q app2_nex
  | ok w env' =>
    rw [q] at h
    obtain ⟨rfl, x, y, e3, e4, e5⟩ := app2_ok q
    refine hs v u H2 Q _ x y w pu.rep.nok pu.rep.tab (pv.pk2 ev2 pu.rep (plus_new fr2) e3) (pu.pk e4) e5 fun v' H' e' t' q' => ?_
    obtain ⟨p1, p2⟩ := fin_of pu.rep (fun c z => plus_of c (plus_of c z)) e' t' q'
    exact h v' H' ((ev.trans ev2).trans e'.up) p1 (p2.back (ev.trans ev2))
section
variable {X : Cx} {T : List (Addr × Str)} {io : Addr} {WW : WX} {apos cpos : Pos} {o e : Expr} {ma mb : EM W}
theorem px_scount (ho : PX X T io WW o ma) (he : PX X T io WW e mb) (hbase : attributeBase o "count" X.env (eval o X.env) = eval o X.env := by rfl)
    (hfew : ((backTo cpos (starEach [e] X.env)).all (fun x => !x.1) && (backToKw cpos (keywordEach [] X.env)).all (fun x => x.1.isSome)
      && decide ([e].length + ([] : List Keyword).length + (if ([] : List Keyword).isEmpty then 0 else 1) < 30)) = true := by rfl)
    (hline : (apos.endLine == cpos.line) = true := by rfl) (hs : starEach [e] X.env = (false, eval e X.env) :: starEach [] X.env := by rfl) :
    PX X T io WW (.Call (.Attribute o "count" apos) [e] [] cpos) (smM scntF ma mb) :=
  (pe_bm PySem.F.plainAttrs_str PySem.F.slot_str_count PySem.F.type_str_count (r := rScnt) mt_count ho (pa_cons he pa_nil hs) hbase hfew hline hs (by rfl)).imp fun σ H Q h => sm_of (g := gX X T io) s2_scnt h
end
end PL

set_option Elab.async false
set_option linter.all false
set_option maxRecDepth 100000
/-! PL38: a new list handed in to be changed. -/
namespace PL
open PySem PySem.Spec PyProof.Rows L2

def newK (F : FI) (ms : List (EM W)) : W → EM W
  | .f ks => bnd (evs ms) fun xs env => match F ks xs with
    | some (w, _) => .ok w env
    | none => .no
  | _ => fun _ => .no
def callNew (F : FI) (m0 : EM W) (ms : List (EM W)) : EM W := bnd m0 (newK F ms)
section
variable {X : Cx} {T : List (Addr × Str)} {io : Addr} {WW : WX} {p p1 pos : Pos} {x y : Str} {e0 : Expr} {es : List Expr} {m0 : EM W} {ms : List (EM W)} {k : Nat} {f : Addr} {fd : FuncData} {ps : List Str}
theorem px_callNew {F : FI} (FO : FnOk X.prog X.w X.K X.mg X.base (L2.CX X.prog X.w) k f fd ps (spIO X.K T ps.length F)) (hr : Room k X.A) (hg : Gl X x) (hm : X.mg x = some (.ref f)) (hk : PySem.W.keepIn X.K (.ref f) = true) (hb : Binds X.K fd ps []) (tk : Takes X WW)
    (h0 : PX X T io WW e0 m0) (ha : PXA X T io WW es ms) (hl : ms.length + 1 = ps.length := by rfl) (hdb : (x == ("__debug__" : Str)) = false := by decide) (he : starEach (e0 :: es) X.env = (false, eval e0 X.env) :: starEach es X.env := by rfl) (hpl : (backTo pos (starEach es X.env)).any (·.1) = false := by rfl) :
    PX X T io WW (.Call (.Name x p) (e0 :: es) [] pos) (callNew F m0 ms) := by
  refine (pe_callS FO hr hg hm hk hb (fun σ => passAt tk σ) (pa_cons h0 ha he) hdb he hpl).imp fun σ H Q h => ?_
  let g : G := gX X T io
  obtain ⟨No, env, rep, h⟩ := h
  unfold callNew at h
  refine tX_of (m := m0) rep (fun x env' e => ?_) (fun e => ?_) fun w0 env1 v0 H1 e ev pv fr => ?_
  · rw [bnd_ex e] at h; exact h
  · rw [bnd_no e] at h; exact h
  rw [bnd_ok e] at h
  cases w0 with
  | d z => exact h.elim
  | o z => exact h.elim
  | f ks =>
    obtain ⟨a, xs, rfl, h1, rv, n1, n2⟩ := pv.val
    have fra : H a = none := fr
    have rep1 : RepS g (fun b => No b ∨ b = a) H1 σ env1 := pv.rep
    refine args_of (f := fun xs env => match F ks xs with
      | some (w, _) => R.ok w env
      | none => R.no) rep1 (fun x env' e => ?_) (fun e => ?_) fun zs env2 vs H2 e hz ev2 r rs => ?_
    · rw [show newK F ms (.f ks) env1 = _ from e] at h
      exact exC.back h ev fun b z => .inl z
    · rw [show newK F ms (.f ks) env1 = _ from e] at h; exact h
    rw [show newK F ms (.f ks) env1 = _ from e] at h
    have h2 : H2 a = some (.lst xs) := ev2.keep a _ h1 (fun ps z => by cases z) n2
    have nM2 : ¬ Mo g σ env2 a := (r.nout a (.inr rfl)).2
    have rv2 := rv.tr ev2.tr
    have sub : ∀ b, (Un2 No (Mo g σ env2) b ∨ b = a) → Un2 (fun b => No b ∨ b = a) (Mo g σ env2) b := fun b z => z.elim (fun z => z.imp .inl id) fun z => .inl (.inr z)
    refine ⟨Un2 No (Mo g σ env2), a, ks, xs, vs, zs, rfl, fun b z => r.nok b (z.imp .inl id), r.tab, fun z => z.elim n1 nM2, h2, rv2.tr (Tr.anti sub) _, rs.tr (Tr.anti sub) _, by rw [hz]; exact hl, ?_⟩
    cases q2 : F ks zs with
    | none => rw [q2] at h; exact h.elim
    | some wk =>
      obtain ⟨w, ks'⟩ := wk
      rw [q2] at h
      intro v H' xs' e' t' h' rs' rw'
      have evA := ev.trans ev2
      have ev' : EvM (Mo g σ env) H (Mo g σ env2) H' := ⟨fun b o hb n m => e'.keep b o (evA.keep b o hb n m) n fun z => (by rw [show b = a from z, fra] at hb; cases hb), fun b z => evA.new b z, fun b z => e'.dom b (evA.dom b z)⟩
      have evU : EvM F0 (upd H2 a (.lst xs')) F0 H' := ⟨fun b o hb n _ => by
          by_cases z : b = a
          · rw [z, upd_same] at hb
            rw [z, ← hb]
            exact h'
          · rw [upd_ne z] at hb
            exact e'.keep b o hb n z, fun b z => z.elim, fun b z => by
          by_cases q : b = a
          · rw [q, h']
            exact fun z => by cases z
          · rw [upd_ne q] at z
            exact e'.dom b z⟩
      have rU := r.chg (a := a) (ys := xs') (.inr rfl) h2
      cases w with
      | o z => exact rw'.elim
      | d z =>
        exact h v H' ev' ⟨rU.ev evU t' fun b z => .inl (.inl z), Rp.tr (Tr.anti fun b z => .inl z) _ rw'⟩ trivial
      | f ds =>
        obtain ⟨pp, ys, rfl, np, hp, rq⟩ := rw'
        have npa : pp ≠ a := fun z => by rw [z, h2] at np; cases np
        have nk : ¬ Un2 No (Mo g σ env2) pp := fun z => r.nok pp (z.imp .inl id) np
        refine h _ H' ev' ⟨rU.ev evU t' fun b z => z.elim (fun z => .inl (.inl z)) fun z => .inr ⟨by rw [z, upd_ne npa]; exact np, by rw [z, hp]; exact fun q => by cases q⟩, pp, ys, rfl, hp, rq.tr (Tr.anti fun b z => ?_) _, fun z => nk (.inl z), fun z => nk (.inr z)⟩ ?_
        · rcases z with (z | z) | z
          · exact .inl (.inl (.inl z))
          · exact .inr z
          · exact .inl (.inl (.inr z))
        · show H pp = none
          cases qq : H pp with
          | none => rfl
          | some o => exact absurd np (evA.dom pp (by rw [qq]; exact fun z => by cases z))
end
end PL

set_option Elab.async false
set_option linter.all false
set_option maxRecDepth 100000
/-! PL39: steps of mirrors, to run by hand what is drawn. -/
namespace PL
open PySem PySem.Spec PyProof.Rows L2

section
variable {F : FI} {k i : Nat} {ms : List (EM W)} {ma mb m : EM W} {env env1 env2 env3 : Env} {ks ks1 ks' xs : List PyData} {w a b : W} {x y z : PyData} {f : PyData → PyData → Option W} {g : PyData → Option W}
theorem callIO_ok (h0 : ownAt env[k]? = some ks) (e : evs ms env = .ok xs env1) (h1 : ownAt env1[k]? = some ks1) (h2 : F ks1 xs = some (w, ks')) : callIO F k ms env = .ok w (wrS k ks' env1) := by
  unfold callIO
  rw [h0]
  show bnd (evs ms) (ioA F k) env = _
  rw [bnd_ok e, ioA_of h1, h2]
theorem op2_ok (ha : ma env = .ok a env1) (hb : mb env1 = .ok b env2) (pa : pk a env2 = some x) (pb : pk b env2 = some y) (hf : f x y = some w) : op2 f ma mb env = .ok w env2 := by
  unfold op2
  rw [bnd_ok ha, bnd_ok hb]
  unfold app2
  rw [pa, pb]
  show (match f x y with | none => R.no | some w => .ok w env2) = _
  rw [hf]
theorem op1_ok (ha : ma env = .ok a env1) (pa : pk a env1 = some x) (hf : g x = some w) : op1 g ma env = .ok w env1 := by
  unfold op1
  rw [bnd_ok ha]
  unfold app1
  rw [pa]
  show (match g x with | none => R.no | some w => .ok w env1) = _
  rw [hf]
theorem evs_nil : evs [] env = .ok [] env := rfl
theorem evs_cons (h : m env = .ok (.d x) env1) (t : evs ms env1 = .ok xs env2) : evs (m :: ms) env = .ok (x :: xs) env2 := by
  show bnd m _ env = _
  rw [bnd_ok h]
  show bnd (evs ms) _ env1 = _
  rw [bnd_ok t]
  rfl
theorem evs_cons' (h : m env = .ok w env1) (he : esc w env1 = .ok x env2) (t : evs ms env2 = .ok xs env3) : evs (m :: ms) env = .ok (x :: xs) env3 := by
  show bnd m _ env = _
  rw [bnd_ok h]
  show bnd (esc w) _ env1 = _
  rw [bnd_ok he]
  show bnd (evs ms) _ env2 = _
  rw [bnd_ok t]
  rfl
theorem andV_t (h : ma env = .ok (.d (.bool true)) env1) : andV ma mb env = mb env1 := by
  have e : boolM ma env = .ok true env1 := by
    show bnd ma boolK env = _
    rw [bnd_ok h]
    rfl
  show bnd (boolM ma) _ env = _
  rw [bnd_ok e]
  rfl
theorem tup_ok (h : evs ms env = .ok xs env1) : tupM ms env = .ok (.d (.tuple xs)) env1 := by
  unfold tupM
  rw [bnd_ok h]
  rfl
theorem lst_ok (h : evs ms env = .ok xs env1) : lstM ms env = .ok (.f xs) env1 := by
  unfold lstM
  rw [bnd_ok h]
  rfl
theorem set_ok {sm : SR} (h : m env = .ok w env1) (hs : setW i w env1 = sm) : setM i m env = sm := by
  unfold setM
  rw [h]
  exact hs
theorem asg_ok {t : Tg} (h : m env = .ok (.d x) env1) (hs : asgT t x env1 = some env2) : asgM t m env = .nx env2 := by
  have e : bnd m esc env = .ok x env1 := by rw [bnd_ok h]; rfl
  unfold asgM
  rw [e]
  dsimp only
  rw [hs]
theorem seq_nx {za zb : SM} (h : za env = .nx env1) : seqM za zb env = zb env1 := by
  unfold seqM
  rw [h]
theorem ret_rt (h : m env = .ok w env1) : retM m env = .rt w env1 := by
  unfold retM
  rw [h]
theorem callM_ok {G : List PyData → FR} (h : evs ms env = .ok xs env1) (hg : G xs = .ok w) : callM G ms env = .ok w env1 := by
  unfold callM
  rw [bnd_ok h, hg]
  rfl
theorem callNew_ok (h : m env = .ok (.f ks) env1) (e : evs ms env1 = .ok xs env2) (h2 : F ks xs = some (w, ks')) : callNew F m ms env = .ok w env2 := by
  unfold callNew
  rw [bnd_ok h]
  show bnd (evs ms) _ env1 = _
  rw [bnd_ok e, h2]
theorem runI_rt {zz : SM} {n : Nat} {ks ds : List PyData} {d : PyData} {e : Env} (h : zz (startI n ks ds) = .rt (.d d) (.io ks' :: e)) : runI zz n ks ds = some (.d d, ks') := by
  unfold runI
  rw [h]
  rfl
theorem runF_rt {zz : SM} {n : Nat} {ds : List PyData} {d : PyData} {e : Env} (h : zz (startE n ds) = .rt (.d d) e) : runF zz n ds = .ok (.d d) := by
  unfold runF runB
  rw [h]
  rfl
end
end PL

set_option Elab.async false
set_option linter.all false
set_option maxRecDepth 100000
/-! PL40: sorted(set(x)), x a list of pairs of small ints. -/
namespace PL
open PySem PySem.Spec PyProof.Rows L2

theorem bb_set : bootBuiltins "set" = some (.type "set") := PyProof.Rows.boot_set
def pairC : PyData → Option Nat
  | .tuple [.int (.ofNat x), .int (.ofNat y)] => if (Nat.blt x 64 && Nat.blt y 64) = true then some (x * 64 + y) else none
  | _ => none
def pairsC : List PyData → Option (List Nat)
  | [] => some []
  | d :: ds => match pairC d with
    | some c => match pairsC ds with
      | some cs => some (c :: cs)
      | none => none
    | none => none
def insU (c : Nat) : List Nat → List Nat
  | [] => [c]
  | b :: bs => if Nat.blt c b = true then c :: b :: bs else if Nat.beq c b = true then b :: bs else b :: insU c bs
def usort : List Nat → List Nat
  | [] => []
  | c :: cs => insU c (usort cs)
def pairK (c : Nat) : List Int := [((c / 64 : Nat) : Int), ((c % 64 : Nat) : Int)]
def pairD (c : Nat) : PyData := .tuple ((pairK c).map .int)
def ssF : PyData → Option W
  | .list ds => match pairsC ds with
    | some cs => if Nat.blt ds.length 64 = true then some (.f ((usort cs).map pairD)) else none
    | none => none
  | _ => none

theorem insU_mem {c d : Nat} : ∀ {l : List Nat}, d ∈ insU c l ↔ d = c ∨ d ∈ l
  | [] => by show d ∈ [c] ↔ _; simp
  | b :: bs => by
    show d ∈ (if Nat.blt c b = true then c :: b :: bs else if Nat.beq c b = true then b :: bs else b :: insU c bs) ↔ _
    split
    · simp
    · split
      · rename_i h
        have e : c = b := Nat.eq_of_beq_eq_true h
        subst e
        simp
      · rw [List.mem_cons, insU_mem, List.mem_cons]
        constructor
        · rintro (h | h | h)
          · exact .inr (.inl h)
          · exact .inl h
          · exact .inr (.inr h)
        · rintro (h | h | h)
          · exact .inr (.inl h)
          · exact .inl h
          · exact .inr (.inr h)
theorem insU_asc {c : Nat} : ∀ {l : List Nat}, l.Pairwise (· < ·) → (insU c l).Pairwise (· < ·)
  | [], _ => List.pairwise_singleton _ _
  | b :: bs, h => by
    obtain ⟨h1, h2⟩ := List.pairwise_cons.mp h
    show (if Nat.blt c b = true then c :: b :: bs else if Nat.beq c b = true then b :: bs else b :: insU c bs).Pairwise (· < ·)
    split
    · rename_i k
      have k : c < b := Nat.le_of_ble_eq_true k
      refine List.pairwise_cons.mpr ⟨fun x hx => ?_, h⟩
      rcases List.mem_cons.mp hx with e | hx
      · rw [e]; exact k
      · exact Nat.lt_trans k (h1 x hx)
    · rename_i k
      split
      · exact h
      · rename_i k2
        refine List.pairwise_cons.mpr ⟨fun x hx => ?_, insU_asc h2⟩
        rcases insU_mem.mp hx with e | hx
        · subst e
          have a1 : ¬ x < b := fun z => k (Nat.ble_eq_true_of_le z)
          have a2 : x ≠ b := fun z => k2 (by rw [z]; exact Nat.beq_refl b)
          omega
        · exact h1 x hx
theorem usort_mem {d : Nat} : ∀ {l : List Nat}, d ∈ usort l ↔ d ∈ l
  | [] => Iff.rfl
  | c :: cs => by
    show d ∈ insU c (usort cs) ↔ _
    rw [insU_mem, usort_mem, List.mem_cons]
theorem usort_asc : ∀ (l : List Nat), (usort l).Pairwise (· < ·)
  | [] => .nil
  | _ :: cs => insU_asc (usort_asc cs)
theorem asc_ext : ∀ {l m : List Nat}, l.Pairwise (· < ·) → m.Pairwise (· < ·) → (∀ c, c ∈ l ↔ c ∈ m) → l = m
  | [], [], _, _, _ => rfl
  | [], b :: m, _, _, h => absurd ((h b).mpr List.mem_cons_self) (by simp)
  | a :: l, [], _, _, h => absurd ((h a).mp List.mem_cons_self) (by simp)
  | a :: l, b :: m, hl, hm, h => by
    obtain ⟨l1, l2⟩ := List.pairwise_cons.mp hl
    obtain ⟨m1, m2⟩ := List.pairwise_cons.mp hm
    have e : a = b := by
      rcases List.mem_cons.mp ((h a).mp List.mem_cons_self) with e | ha
      · exact e
      · rcases List.mem_cons.mp ((h b).mpr List.mem_cons_self) with e | hb
        · exact e.symm
        · have := m1 a ha
          have := l1 b hb
          omega
    subst e
    congr 1
    refine asc_ext l2 m2 fun c => ⟨fun hc => ?_, fun hc => ?_⟩
    · rcases List.mem_cons.mp ((h c).mp (List.mem_cons_of_mem _ hc)) with e | k
      · have := l1 c hc; omega
      · exact k
    · rcases List.mem_cons.mp ((h c).mpr (List.mem_cons_of_mem _ hc)) with e | k
      · have := m1 c hc; omega
      · exact k
theorem pairC_some {d : PyData} {c : Nat} (h : pairC d = some c) : d = pairD c ∧ c < 4096 := by
  unfold pairC at h
  split at h
  · rename_i x y
    split at h
    · rename_i k
      rw [Bool.and_eq_true] at k
      have k1 : x < 64 := Nat.le_of_ble_eq_true k.1
      have k2 : y < 64 := Nat.le_of_ble_eq_true k.2
      cases h
      have e1 : (x * 64 + y) / 64 = x := by omega
      have e2 : (x * 64 + y) % 64 = y := by omega
      refine ⟨?_, by omega⟩
      unfold pairD pairK
      rw [e1, e2]
      rfl
    · cases h
  · cases h
theorem pairsC_some : ∀ {ds : List PyData} {cs : List Nat}, pairsC ds = some cs → ds = cs.map pairD ∧ ∀ c ∈ cs, c < 4096
  | [], _, h => by cases h; exact ⟨rfl, fun _ z => by cases z⟩
  | d :: ds, cs, h => by
    unfold pairsC at h
    split at h
    · rename_i c hc
      split at h
      · rename_i cs' hs
        cases h
        obtain ⟨e1, b1⟩ := pairC_some hc
        obtain ⟨e2, b2⟩ := pairsC_some hs
        refine ⟨by rw [e1, e2]; rfl, fun x hx => ?_⟩
        rcases List.mem_cons.mp hx with e | hx
        · rw [e]; exact b1
        · exact b2 x hx
      · cases h
    · cases h
theorem rps_intsV {K : PySem.W.Frag} {N : Ax} {H : Hp} : ∀ {is : List Int} {xs : List V}, Rps K N H xs (is.map PyData.int) → xs = is.map V.int
  | [], _, h => by cases h; rfl
  | i :: is, _, h => by
    cases h with
    | cons a b =>
      cases a
      rw [rps_intsV b]
      rfl
/-- the tuples' addresses -/
theorem pairs_at {K : PySem.W.Frag} {N : Ax} {H : Hp} : ∀ {cs : List Nat} {xs : List V}, Rps K N H xs (cs.map pairD) → ∃ ks : List (Addr × List Int), xs = ks.map (fun p => V.ref p.1) ∧ ks.map (·.2) = cs.map pairK ∧
    ∀ p ∈ ks, SqT K H p.1 (p.2.map V.int) ∧ Rp K N H (.ref p.1) (.tuple (p.2.map PyData.int))
  | [], _, h => by cases h; exact ⟨[], rfl, rfl, fun _ z => by cases z⟩
  | c :: cs, _, h => by
    cases h with
    | cons a b =>
      obtain ⟨ks, e1, e2, e3⟩ := pairs_at b
      have a0 := a
      cases a with
      | tup hs ha =>
        rename_i t xs
        refine ⟨(t, pairK c) :: ks, by rw [e1]; rfl, by rw [List.map_cons, e2]; rfl, fun p hp => ?_⟩
        rcases List.mem_cons.mp hp with e | hp
        · subst e
          have := rps_intsV ha
          subst this
          exact ⟨hs.sq, a0⟩
        · exact e3 p hp
theorem pairK_code {c : Nat} (h : c < 4096) : TS.code 64 (pairK c) = c := by
  unfold pairK
  rw [L2.code_pair]
  omega
theorem pairK_bd {c : Nat} (h : c < 4096) : TS.Bd 64 (pairK c) := by
  intro n hn
  have hn : n ∈ [((c / 64 : Nat) : Int), ((c % 64 : Nat) : Int)] := hn
  simp only [List.mem_cons, List.not_mem_nil, or_false] at hn
  rcases hn with e | e <;> (subst e; omega)
def rSS (X : Cx) : V → Hp → VK → Prop := fun x H Q => rSetOfT X.K X.prog X.w [x] H fun v H2 => rSortedT X.K X.prog X.w [v] H2 Q
theorem s1_ss {X : Cx} {T : List (Addr × Str)} : Spec1 X.K T (rSS X) ssF := by
  intro x H Q N a w nok t ra e post
  cases a with
  | list ds =>
    have e : (match pairsC ds with
      | some cs => if Nat.blt ds.length 64 = true then some (W.f ((usort cs).map pairD)) else none
      | none => none) = some w := e
    split at e
    · rename_i cs hcs
      split at e
      · rename_i hlen
        have hlen : ds.length < 64 := Nat.le_of_ble_eq_true hlen
        cases e
        obtain ⟨p, xs, rfl, hp, r⟩ := ra
        obtain ⟨e1, bd⟩ := pairsC_some hcs
        subst e1
        obtain ⟨ks, rfl, ek, hk⟩ := pairs_at r
        have kin : ∀ q ∈ ks, ∃ c ∈ cs, q.2 = pairK c := fun q hq => by
          have : q.2 ∈ ks.map (·.2) := List.mem_map.mpr ⟨q, hq, rfl⟩
          rw [ek] at this
          obtain ⟨c, hc, e⟩ := List.mem_map.mp this
          exact ⟨c, hc, e.symm⟩
        refine ⟨p, ks, rfl, hp, fun q hq => (hk q hq).1, ?_, fun a L ha hL1 hL2 => ?_⟩
        · have : ks.length = cs.length := by have := congrArg List.length ek; simpa using this
          rw [List.length_map] at hlen
          omega
        have ne : ∀ q ∈ ks, ∀ o, H q.1 = some o → q.1 ≠ a := fun q hq o ho z => by rw [z, ha] at ho; cases ho
        have sq2 : ∀ q ∈ L, SqT X.K (upd H a (SetTO X.prog X.w a L)) q.1 (q.2.map V.int) := fun q hq => by
          have := (hk q (hL1 q hq)).2
          cases this.tr (Tr.newN (o := SetTO X.prog X.w a L) ha) with
          | tup hs hr =>
            have := rps_intsV hr
            subst this
            exact hs.sq
        refine ⟨a, L, 2, 64, rfl, upd_same, sq2, by omega, fun q hq => ?_, fun L' b pm nd hl pw hb => ?_⟩
        · obtain ⟨c, hc, e⟩ := kin q (hL1 q hq)
          rw [e]
          exact ⟨rfl, pairK_bd (bd c hc)⟩
        have hL' : ∀ q ∈ L', q ∈ ks := fun q hq => hL1 q (pm.mem_iff.mp hq)
        have cod : ∀ q ∈ L', ∃ c ∈ cs, q.2 = pairK c ∧ TS.code 64 q.2 = c := fun q hq => by
          obtain ⟨c, hc, e⟩ := kin q (hL' q hq)
          exact ⟨c, hc, e, by rw [e]; exact pairK_code (bd c hc)⟩
        let ls := L'.map fun q => (TS.code 64 q.2).toNat
        have e2 : L'.map (·.2) = ls.map pairK := by
          rw [List.map_map]
          refine List.map_congr_left fun q hq => ?_
          obtain ⟨c, _, e, e'⟩ := cod q hq
          show q.2 = pairK (TS.code 64 q.2).toNat
          rw [e', e]
          rfl
        have asc : ls.Pairwise (· < ·) := by
          rw [List.pairwise_map]
          have nd' : L'.Pairwise (fun q r => q.2 ≠ r.2) := List.pairwise_map.mp nd
          refine (List.Pairwise.and pw nd').imp_of_mem fun {q r} hq hr h => ?_
          obtain ⟨c, _, e, e'⟩ := cod q hq
          obtain ⟨d, _, f, f'⟩ := cod r hr
          obtain ⟨h1, h2⟩ := h
          rw [e', f'] at h1 ⊢
          have : c ≠ d := fun z => h2 (by rw [e, f, z])
          show (c : Int).toNat < (d : Int).toNat
          omega
        have mem : ∀ c, c ∈ ls ↔ c ∈ cs := fun c => by
          constructor
          · intro h
            obtain ⟨q, hq, e⟩ := List.mem_map.mp h
            obtain ⟨d, hd, _, f'⟩ := cod q hq
            rw [f'] at e
            have : d = c := by have e : (d : Int).toNat = c := e; omega
            rw [← this]
            exact hd
          · intro h
            have h1 : pairK c ∈ ks.map (·.2) := by rw [ek]; exact List.mem_map.mpr ⟨c, h, rfl⟩
            obtain ⟨q, hq, e⟩ := List.mem_map.mp h1
            have h2 := hL2 q hq
            rw [e] at h2
            obtain ⟨q', hq', e'⟩ := List.mem_map.mp h2
            refine List.mem_map.mpr ⟨q', pm.mem_iff.mpr hq', ?_⟩
            show (TS.code 64 q'.2).toNat = c
            rw [e', pairK_code (bd c h)]
            rfl
        have els : ls = usort cs := asc_ext asc (usort_asc cs) fun c => by rw [mem, usort_mem]
        have hb0 : H b = none := by
          cases q : H b with
          | none => rfl
          | some o => rw [upd_ne (ne_of_none q ha)] at hb; rw [q] at hb; cases hb
        have rr : ∀ (M : List (Addr × List Int)), (∀ q ∈ M, q ∈ ks) → Rps X.K N H (M.map fun q => V.ref q.1) ((M.map (·.2)).map fun k => PyData.tuple (k.map .int)) := fun M => by
          induction M with
          | nil => exact fun _ => .nil
          | cons q M ih => exact fun h => .cons (hk q (h q List.mem_cons_self)).2 (ih fun r hr => h r (List.mem_cons_of_mem _ hr))
        have r1 := rr L' hL'
        rw [e2, els, List.map_map] at r1
        have ev1 : EvM F0 H F0 (upd H a (SetTO X.prog X.w a L)) := EvM.upd ha
        have ev2 : EvM F0 (upd H a (SetTO X.prog X.w a L)) F0 (upd (upd H a (SetTO X.prog X.w a L)) b (.lst (L'.map fun q => V.ref q.1))) := EvM.upd hb
        exact post _ _ (ev1.trans ev2) (tabs_upd (tabs_upd t ha) hb) ⟨b, _, rfl, hb0, upd_same, (r1.tr (Tr.newN ha) _).tr (Tr.new hb) _⟩
      · cases e
    · cases e
  | _ => cases e
section
variable {X : Cx} {T : List (Addr × Str)} {io : Addr} {WW : WX} {p q pos pos2 : Pos} {x y : Str} {e : Expr} {ma : EM W}
theorem px_sortSet (hu : X.A.units + 65 < cLine) (hc : X.calm = true) (hg : Gl X x) (hm : X.mg x = none) (hv : bootBuiltins x = some (.builtin "sorted")) (hg2 : Gl X y) (hm2 : X.mg y = none) (hv2 : bootBuiltins y = some (.type "set")) (ha : PX X T io WW e ma)
    (he : starEach [.Call (.Name y q) [e] [] pos2] X.env = [(false, eval (.Call (.Name y q) [e] [] pos2) X.env)] := by rfl) (he2 : starEach [e] X.env = [(false, eval e X.env)] := by rfl)
    (hn : x ≠ "__name__" := by decide) (hdb : (x == ("__debug__" : Str)) = false := by decide) (hn2 : y ≠ "__name__" := by decide) (hdb2 : (y == ("__debug__" : Str)) = false := by decide) :
    PX X T io WW (.Call (.Name x p) [.Call (.Name y q) [e] [] pos2] [] pos) (op1 ssF ma) :=
  (pe_callB (cr_sortedT hc) hg hm hv (pa_cons (pe_callTy (cr_setOfT hc (by omega)) hg2 hm2 hv2 (pa_cons ha pa_nil he2) hn2 hdb2 he2 (by rfl)) pa_nil he) hn hdb he (by rfl)).imp fun σ H Q h => one_of (g := gX X T io) s1_ss h
end
end PL

set_option Elab.async false
set_option linter.all false
set_option maxRecDepth 100000
/-! PL41: y = {k: v, ..} with flat keys. -/
namespace PL
open PySem PySem.Spec PyProof.Rows L2

def evP : List (EM W × EM W) → EM (List (PyData × PyData))
  | [] => ret []
  | m :: r => bnd (bnd m.1 esc) fun x => bnd (bnd m.2 esc) fun y => bnd (evP r) fun ps => ret ((x, y) :: ps)
def Rpp (K : PySem.W.Frag) (N : Ax) (H : Hp) : List (V × V) → List (PyData × PyData) → Prop
  | [], [] => True
  | v :: vs, p :: ps => Rp K N H v.1 p.1 ∧ Rp K N H v.2 p.2 ∧ Rpp K N H vs ps
  | _, _ => False
def flatKs (ps : List (PyData × PyData)) : Bool := ps.all fun p => (keyOf p.1).isSome
def mergeD (qs ps : List (PyData × PyData)) : List (PyData × PyData) := ps.foldl (fun acc p => putD acc p.1 p.2) qs
theorem Rpp.flat {K : PySem.W.Frag} {N : Ax} {H : Hp} : ∀ {ps : List (PyData × PyData)} {vs : List (V × V)}, Rpp K N H vs ps → flatKs ps = true → ∃ kvs : List (L2.Key × V), vs = kvs.map (fun kv => (kV kv.1, kv.2)) ∧ RpK K N H kvs ps
  | [], [], _, _ => ⟨[], rfl, .nil⟩
  | [], _ :: _, h, _ => h.elim
  | _ :: _, [], h, _ => h.elim
  | p :: ps, v :: vs, h, f => by
    obtain ⟨h1, h2, h3⟩ := h
    unfold flatKs at f
    rw [List.all_cons, Bool.and_eq_true] at f
    obtain ⟨kvs, e, r⟩ := Rpp.flat h3 f.2
    cases q : keyOf p.1 with
    | none => rw [q] at f; exact absurd f.1 (by simp)
    | some key =>
      have ek := keyOf_eq q
      obtain ⟨p1, p2⟩ := p
      dsimp only at ek h1 h2
      subst ek
      have eu : v.1 = kV key := h1.key
      refine ⟨(key, v.2) :: kvs, ?_, .cons h2 r⟩
      rw [List.map_cons, ← e, ← eu]
theorem RpK.merge {K : PySem.W.Frag} {N : Ax} {H : Hp} {more : List (L2.Key × V)} {ps : List (PyData × PyData)} (h : RpK K N H more ps) : ∀ {kvs : List (L2.Key × V)} {qs : List (PyData × PyData)}, RpK K N H kvs qs → RpK K N H (mergeK kvs more) (mergeD qs ps) := by
  induction more generalizing ps with
  | nil => cases h; exact fun r => r
  | cons kv more ih =>
    cases h with
    | cons a b => exact fun r => ih b (r.put _ a)
theorem evP_len : ∀ {ms : List (EM W × EM W)} {env env' : Env} {ps : List (PyData × PyData)}, evP ms env = .ok ps env' → ps.length = ms.length
  | [], env, env', ps, h => by cases h; rfl
  | m :: ms, env, env', ps, h => by
    obtain ⟨x, e1, _, h⟩ := bnd_inv h
    obtain ⟨y, e2, _, h⟩ := bnd_inv h
    obtain ⟨qs, e3, h3, h⟩ := bnd_inv h
    cases h
    rw [List.length_cons, List.length_cons, evP_len h3]
theorem pairs_of {g : G} {WW : WX} {σ : St} : ∀ (ms : List (EM W × EM W)) {No : Ax} {H : Hp} {env : Env} {Q : List (V × V) → Hp → Prop}, RepS g No H σ env → (∀ x env', evP ms env = .ex x env' → exC g WW No env σ H x env') → evP ms env ≠ .no →
    (∀ ps env1 vs H1, evP ms env = .ok ps env1 → EvM (Mo g σ env) H (Mo g σ env1) H1 → RepS g No H1 σ env1 → Rpp g.K (Un2 No (Mo g σ env1)) H1 vs ps → Q vs H1) → tPairs (ms.map fun m => (tX g WW m.1, tX g WW m.2)) σ H Q
  | [], No, H, env, Q, rep, hx, hn, hz => hz [] env [] H rfl (EvM.refl _ _) rep trivial
  | m :: ms, No, H, env, Q, rep, hx, hn, hz => by
    refine tX_esc rep (fun x env' e => hx x env' (bnd_ex e)) (fun e => hn (bnd_no e)) fun x env1 v H1 e1 ev r rx => ?_
    have w1 := bnd_ok (f := fun x => bnd (bnd m.2 esc) fun y => bnd (evP ms) fun ps => ret ((x, y) :: ps)) e1
    refine tX_esc r (fun y env' e => (hx y env' (w1.trans (bnd_ex e))).back ev fun _ z => z) (fun e => hn (w1.trans (bnd_no e))) fun y env2 u H2 e2 ev2 r2 ry => ?_
    have w2 := w1.trans (bnd_ok (f := fun y => bnd (evP ms) fun ps => ret ((x, y) :: ps)) e2)
    refine pairs_of ms r2 (fun z env' e => (hx z env' (w2.trans (bnd_ex e))).back (ev.trans ev2) fun _ z => z) (fun e => hn (w2.trans (bnd_no e))) fun ps env3 vs H3 e3 ev3 r3 rs => ?_
    exact hz _ env3 ((v, u) :: vs) H3 (w2.trans (bnd_ok e3)) ((ev.trans ev2).trans ev3) r3 ⟨rx.tr (ev2.trans ev3).tr _, ry.tr ev3.tr _, rs⟩
def dispM (i : Nat) (ms : List (EM W × EM W)) : SM := fun env => match evP ms env with
  | .ok ps env1 => if noIo env1[i]? = true ∧ flatKs ps = true then .nx (env1.set i (.od (mergeD [] ps))) else .no
  | .ex x env' => .ex x env'
  | .no => .no
section
variable {X : Cx} {T : List (Addr × Str)} {io : Addr} {WW : WX} {pos dpos p2 : Pos} {y : Str} {keys : List (Option Expr)} {values : List Expr} {ms : List (EM W × EM W)}
theorem pz_disp (i : Nat) (hN : X.N.Nodup) (hp : PPs X dpos keys values (ms.map fun m => (tX (gX X T io) WW m.1, tX (gX X T io) WW m.2))) (h15 : ms.length ≤ 15 := by decide) (hall : keys.all (·.isSome) = true := by rfl) (hl : keys.length = values.length := by rfl) (h0 : keys ≠ [] := by exact fun z => nomatch z) (hk15 : keys.length ≤ 15 := by decide)
    (hi : X.N[i]? = some y := by rfl) (hx : Loc X.env.scope y := by first | exact Or.inl rfl | exact Or.inr rfl) (hs : swapsWith (.Dict keys values dpos) (some (.Name y p2)) pos.line X.env = pure false := by rfl)
    (hf : X.fn y = true ∨ X.env.scope.names.lookup y = some .local := by first | exact .inl rfl | exact .inr rfl | assumption) : PZ X T io WW (.Assign [.Name y p2] (.Dict keys values dpos) pos) (dispM i ms) :=
  (ps_set hN hi hx (pe_disp hp hall hl h0 hk15) hs hf).imp fun D σ H h => fun p np => by
    let g : G := gX X T io
    obtain ⟨No, env, rep, h⟩ := h
    have nNo : ¬ No p := fun z => (rep.nout p z).1 np
    have nMo : ¬ Mo g σ env p := fun z => by
      obtain ⟨u, e, _⟩ := Mo_some rep z
      rw [np] at e
      cases e
    have ev0 : EvM (Mo g σ env) H (Mo g σ env) (upd H p (.dK [])) := EvM.upd np
    have r1 : RepS g (fun b => No b ∨ b = p) (upd H p (.dK [])) σ env := rep.ev (EvM.upd np) (tabs_upd rep.tab np) fun b z => z.imp id fun z => ⟨by rw [z]; exact np, by rw [z, upd_same]; exact fun q => by cases q⟩
    refine pairs_of ms r1 (fun x env' e => ?_) (fun e => ?_) fun ps env1 vs H1 e ev r2 rs => ?_
    · unfold dispM at h
      rw [e] at h
      exact (ex_of h).back ev0 fun a z => .inl z
    · unfold dispM at h
      rw [e] at h
      exact h
    · unfold dispM at h
      rw [e] at h
      dsimp only at h
      split at h
      · rename_i hc
        obtain ⟨kvs, ek, rk⟩ := rs.flat hc.2
        have hD : H1 p = some (.dK []) := ev.keep p _ upd_same (fun ps z => by cases z) nMo
        have nM1 : ¬ Mo g σ env1 p := (r2.nout p (.inr rfl)).2
        refine ⟨hD, kvs, ek, by have := rk.length; have := evP_len e; omega, ?_⟩
        have tr : Tr (Un2 (fun b => No b ∨ b = p) (Mo g σ env1)) H1 (Un2 (fun b => No b ∨ b = p) (Mo g σ env1)) (upd H1 p (.dK (mergeK [] kvs))) := fun c o hc _ nm => ⟨by rw [upd_ne (fun z => nm (.inl (.inr z)))]; exact hc, nm⟩
        have r3 : RepS g (fun b => No b ∨ b = p) (upd H1 p (.dK (mergeK [] kvs))) σ env1 := r2.chgK (.inr rfl) hD
        obtain ⟨r4, sub⟩ := r3.setOc (ds := .k (mergeD [] ps)) hc.1 ⟨_, upd_same, (rk.tr tr).merge .nil⟩ nNo nM1
        refine h _ _ ⟨fun c o hc nt nm => ?_, fun c z => ?_, fun c hc => ?_⟩ r4
        · have ne : c ≠ p := ne_of_none hc np
          rw [upd_ne ne]
          exact (ev0.trans ev).keep c o hc nt nm
        · rcases sub c z with z | z
          · exact (ev0.trans ev).new c z
          · exact .inr (by rw [z]; exact np)
        · have ne : c ≠ p := fun z => hc (by rw [z]; exact np)
          rw [upd_ne ne]
          exact (ev0.trans ev).dom c hc
      · exact h.elim
end
end PL

set_option Elab.async false
set_option linter.all false
set_option maxRecDepth 100000
/-! PL42: slices of tuples with a step below 0. -/
namespace PL
open PySem PySem.Spec PyProof.Rows L2 HT
section
variable {prog : Program} {w : World} {A : Around} {E : Value → Shared → Prop} {s : Shared}
def stepF (lo hi : Option Int) (st : Int) (n : Nat) : Int × Nat :=
  ((Builtin.Slice.sliceAdjust lo hi st (n : Int)).1, Builtin.Slice.slicePlaces (Builtin.Slice.sliceAdjust lo hi st (n : Int)).1 (Builtin.Slice.sliceAdjust lo hi st (n : Int)).2 st)
theorem sliceApplied_st {sl : Addr} {vl vu vs : Value} {lo hi : Option Int} {st : Int} {n : Nat} {Q : Int × Int × Nat → Shared → Prop} (hs : s.heap.IsSliceOf sl vl vu vs) (pl : IsPart vl lo) (pu : IsPart vu hi) (ps : IsPart vs (some st)) (h0 : st ≠ 0)
    (h : Q ((stepF lo hi st n).1, st, (stepF lo hi st n).2) s) : wpAny (model prog w) A (Builtin.Slice.sliceApplied (.ref sl) (pure (n : Int))) Q E s := by
  obtain ⟨os, hos, hcs, hds⟩ := id hs
  unfold Builtin.Slice.sliceApplied Builtin.Slice.sliceFields
  refine wpAny_bind (wpAny_bind (wpAny_field hos hds (x := vl) rfl (wpAny_bind (wpAny_field hos hds (x := vu) rfl (wpAny_bind (wpAny_field hos hds (x := vs) rfl (wpAny_pure ?_)))))))
  refine wpAny_bind (slicePart_ ps ?_)
  show wpAny _ _ (if (st == 0) = true then _ else _) _ _ s
  rw [if_neg (by simpa using h0)]
  refine wpAny_bind (slicePart_ pl (wpAny_bind (slicePart_ pu (wpAny_bind (wpAny_pure ?_)))))
  exact wpAny_pure h
def pickI {α : Type} (xs : List α) (p : Int × Nat) (st : Int) : List α := (List.range p.2).filterMap fun (k : Nat) => xs[(p.1 + (k : Int) * st).toNat]?
theorem pickI_len {α : Type} (xs : List α) (p : Int × Nat) (st : Int) : (pickI xs p st).length ≤ p.2 := by
  unfold pickI
  refine Nat.le_trans (List.length_filterMap_le _ _) ?_
  rw [List.length_range]
  exact Nat.le_refl _
theorem getItem_tuple_st {t sl : Addr} {items : List Value} {vl vu vs : Value} {lo hi : Option Int} {st : Int} {Q : Value → Shared → Prop} (ht : IsTup s.heap t items.toArray) (hs : s.heap.IsSliceOf sl vl vu vs) (pl : IsPart vl lo) (pu : IsPart vu hi) (ps : IsPart vs (some st)) (h0 : st ≠ 0) (h1 : st ≠ 1)
    (hsz : (stepF lo hi st items.length).2 ≤ sizeLine)
    (h : Q (.ref s.heap.objs.size) { s with heap := s.heap.push { cls := .type "tuple", data := .seq (pickI items (stepF lo hi st items.length) st).toArray } }) : wpAny (model prog w) A (getItem (.ref t) (.ref sl)) Q E s := by
  obtain ⟨os, hos, hcs, hds⟩ := id hs
  have hTs : s.TypeIs (.ref sl) "slice" := ⟨os, hos, hcs⟩
  have htake : sizeOk (.seq (pickI items (stepF lo hi st items.length) st).toArray) := by
    show (pickI items (stepF lo hi st items.length) st).toArray.size ≤ sizeLine
    rw [List.size_toArray]
    exact Nat.le_trans (pickI_len _ _ _) hsz
  have e : ((List.range (stepF lo hi st items.length).2).filterMap fun (k : Nat) => items.toArray[((stepF lo hi st items.length).1 + (k : Int) * st).toNat]?) = pickI items (stepF lo hi st items.length) st := by
    unfold pickI
    congr 1
    funext k
    simp
  unfold getItem
  try with_reducible refine wpAny_holding ?_
  first | refine wpAny_bind (wpAny_pure ?_) | skip
  refine wpAny_bind (wpAny_sequenceKey ht.typeIs (by decide) ?_)
  refine wpAny_bind (wpAny_callSpecial?_slot (name := Str.ofString "__getitem__") ht.typeIs PyProof.Rows.slot_tuple_getitem
    (wpAny_call_entry PyProof.Rows.slot_tuple_getitem ht.typeIs entry_tuple_getitem ?_ (args_tuple_getitem _ _)))
  show wpAny _ _ (Builtin.Tuple.tupleItemsOf (.ref t) >>= _) _ _ s
  refine wpAny_bind (tupleItemsOf_ ht ?_)
  refine wpAny_bind (wpAny_typeOf hTs ?_)
  rw [if_pos (by decide)]
  rw [List.size_toArray]
  refine wpAny_bind (sliceApplied_st hs pl pu ps h0 ?_)
  have hno : ¬ (((stepF lo hi st items.length).1 == 0 && st == 1 && (stepF lo hi st items.length).2 == items.length) = true) := by
    intro q
    rw [Bool.and_eq_true, Bool.and_eq_true] at q
    exact h1 (eq_of_beq q.1.2)
  show wpAny _ _ (if ((stepF lo hi st items.length).1 == 0 && st == 1 && (stepF lo hi st items.length).2 == items.length) = true then _ else _) _ _ s
  rw [if_neg hno, e]
  first
    | exact wpAny_bind (m := Builtin.Tuple.tupleExact _) (wpAny_newObj_type (wpAny_pure ⟨_, rfl, wpAny_pure h⟩) htake)
    | exact wpAny_bind (m := Builtin.Tuple.tupleExact _) (wpAny_newObj_type (wpAny_bind (wpAny_pure (wpAny_pure ⟨_, rfl, wpAny_pure h⟩))) htake)
    | exact wpAny_bind (wpAny_bind (m := Builtin.Tuple.tupleExact _) (wpAny_newObj_type (wpAny_pure (wpAny_pure ⟨_, rfl, wpAny_pure h⟩)) htake))
    | exact wpAny_bind (wpAny_bind (m := Builtin.Tuple.tupleExact _) (wpAny_newObj_type (wpAny_pure ⟨_, rfl, wpAny_pure h⟩) htake))
end
def tSlN (K : PySem.W.Frag) (i j : Int) (te : TE) : TE := fun σ H Q => te σ H fun x H1 => ∃ a xs, x = .ref a ∧ SqT K H1 a xs ∧ (stepF (some (-i)) none (-j) xs.length).2 ≤ sizeLine ∧ ∀ p, H1 p = none → Q (.ref p) (upd H1 p (.tup (pickI xs (stepF (some (-i)) none (-j) xs.length) (-j))))
theorem pickI_vals {xs : List V} {us : List Value} (r : Vals xs us) (p : Int × Nat) (st : Int) : Vals (pickI xs p st) (pickI us p st) := by
  have g : ∀ (i : Nat), (∃ x u, xs[i]? = some x ∧ us[i]? = some u ∧ RelV x u) ∨ (xs[i]? = none ∧ us[i]? = none) := fun i => by
    have hl := r.length
    by_cases h : i < xs.length
    · obtain ⟨u, e, rr⟩ := r.get (List.getElem?_eq_getElem h)
      exact .inl ⟨_, u, List.getElem?_eq_getElem h, e, rr⟩
    · exact .inr ⟨List.getElem?_eq_none (by omega), List.getElem?_eq_none (by omega)⟩
  unfold pickI
  generalize List.range p.2 = is
  induction is with
  | nil => exact .nil
  | cons i is ih =>
    rcases g (p.1 + (i : Int) * st).toNat with ⟨x, u, e1, e2, rr⟩ | ⟨e1, e2⟩
    · rw [List.filterMap_cons, List.filterMap_cons, e1, e2]
      exact .cons rr ih
    · rw [List.filterMap_cons, List.filterMap_cons, e1, e2]
      exact ih
theorem pickI_reps {K : PySem.W.Frag} {N : Ax} {H : Hp} {vs : List V} {ds : List PyData} (r : Rps K N H vs ds) (p : Int × Nat) (st : Int) : Rps K N H (pickI vs p st) (pickI ds p st) := by
  have g : ∀ (i : Nat), (∃ x d, vs[i]? = some x ∧ ds[i]? = some d ∧ Rp K N H x d) ∨ (vs[i]? = none ∧ ds[i]? = none) := fun i => by
    have hl := r.length
    by_cases h : i < ds.length
    · obtain ⟨v, e, rr⟩ := r.get (List.getElem?_eq_getElem h)
      exact .inl ⟨v, _, e, List.getElem?_eq_getElem h, rr⟩
    · exact .inr ⟨List.getElem?_eq_none (by omega), List.getElem?_eq_none (by omega)⟩
  unfold pickI
  generalize List.range p.2 = is
  induction is with
  | nil => exact .nil
  | cons i is ih =>
    rcases g (p.1 + (i : Int) * st).toNat with ⟨x, u, e1, e2, rr⟩ | ⟨e1, e2⟩
    · rw [List.filterMap_cons, List.filterMap_cons, e1, e2]
      exact .cons rr ih
    · rw [List.filterMap_cons, List.filterMap_cons, e1, e2]
      exact ih
def slNF (i j : Int) (x : PyData) : Option W := match x with
  | .tuple ds => if (stepF (some (-i)) none (-j) ds.length).2 ≤ sizeLine then some (.d (.tuple (pickI ds (stepF (some (-i)) none (-j) ds.length) (-j)))) else none
  | _ => none
section
variable {X : Cx} {T : List (Addr × Str)} {io : Addr} {WW : WX} {e : Expr} {m : EM W} {k1 k2 : Nat} {p1 p2 p3 p4 p5 pos : Pos} {te : TE}
theorem pe_slN (i j : Int) (h0 : -j ≠ 0) (h1 : -j ≠ 1) (he : PE X e te) : PE X (.Subscript e (.Slice (some (.UnaryOp .USub (.Constant (.int i) k1 p1) p2)) none (some (.UnaryOp .USub (.Constant (.int j) k2 p3) p4)) p5) pos) (tSlN X.K i j te) := by
  refine ⟨fun pins s σ H Q I h => ?_⟩
  refine Subscript_ (thn (he.run pins s σ H _ I h) fun v s1 ⟨x, H1, I1, r1, q1⟩ => ?_)
  obtain ⟨a, xs, ex, hx, hz0, q⟩ := q1
  subst ex
  cases r1
  have hlo : PO X (some (.UnaryOp .USub (.Constant (.int i) k1 p1) p2)) (tPart (tUn (rU fun i => .int (-i)) (tC (.int i)))) := po_some (pe_un un_neg pe_int)
  have hst : PO X (some (.UnaryOp .USub (.Constant (.int j) k2 p3) p4)) (tPart (tUn (rU fun i => .int (-i)) (tC (.int j)))) := po_some (pe_un un_neg pe_int)
  refine wpAny_Slice (thn (hlo.run pins s1 σ H1 (fun o H2 => o = some (-i) ∧ H2 = H1) I1 ⟨i, rfl, -i, rfl, rfl, rfl⟩) fun vl s2 ⟨l, H2, I2, pl, el, e2⟩ => ?_)
  subst el e2
  refine thn (po_none.run pins s2 σ H2 (fun o H3 => o = none ∧ H3 = H2) I2 ⟨rfl, rfl⟩) fun vu s3 ⟨u, H3, I3, pu, eu, e3⟩ => ?_
  subst eu e3
  refine thn (hst.run pins s3 σ H3 (fun o H4 => o = some (-j) ∧ H4 = H3) I3 ⟨j, rfl, -j, rfl, rfl, rfl⟩) fun vs s4 ⟨o, H4, I4, ps, eo, e4⟩ => ?_
  subst eo e4
  have I5 : Inv X pins σ H4 { s4 with heap := s4.heap.push { cls := .type "slice", data := .fields #[vl, vu, vs] } } := I4.kept (t' := s4.toks) fun b ob q => Heap.get?_push_of_some _ q
  obtain ⟨its, r, ht, hz⟩ := I5.tuple hx
  have hlen := r.length
  show wpAny (model X.prog X.w) X.A (subscriptTail e (.Slice (some (.UnaryOp .USub (.Constant (.int i) k1 p1) p2)) none (some (.UnaryOp .USub (.Constant (.int j) k2 p3) p4)) p5) (.ref a) (.ref s4.heap.objs.size)) (EP X pins σ Q) X.xe { s4 with heap := s4.heap.push { cls := .type "slice", data := .fields #[vl, vu, vs] } }
  refine tail_any (ops := [.ref a, .ref s4.heap.objs.size]) ht.typeIs (PyProof.Rows.slot_tuple_getitem.lookup) ?_ (by with_unfolding_all rfl)
  rw [hlen] at hz0 q
  refine getItem_tuple_st ht (Heap.IsSliceOf.new _ vl vu vs) pl pu ps h0 h1 hz0 ?_
  refine ⟨.ref _, _, I5.laid (t' := s4.toks) (o := .tup (pickI xs (stepF (some (-i)) none (-j) its.length) (-j))) (fun b ob q => Heap.get?_push_of_some _ q) (Nat.le_refl _) ?_, rfl, q _ (I5.hok.fresh (Nat.le_refl _))⟩
  exact ⟨Nat.le_trans (pickI_len _ _ _) hz0, _, pickI_vals r _ _, _, Heap.get?_push_size _ rfl, rfl, _, rfl⟩
theorem s1_slN {K : PySem.W.Frag} {T : List (Addr × Str)} (i j : Int) : Spec1 K T (fun x H Q => ∃ a xs, x = .ref a ∧ SqT K H a xs ∧ (stepF (some (-i)) none (-j) xs.length).2 ≤ sizeLine ∧ ∀ p, H p = none → Q (.ref p) (upd H p (.tup (pickI xs (stepF (some (-i)) none (-j) xs.length) (-j))))) (slNF i j) := by
  intro x H Q N a w nok t ra e post
  cases a with
  | tuple ds =>
    have e : (if (stepF (some (-i)) none (-j) ds.length).2 ≤ sizeLine then some (W.d (.tuple (pickI ds (stepF (some (-i)) none (-j) ds.length) (-j)))) else none) = some w := e
    split at e
    · rename_i hz
      cases e
      have ra : Rp K N H x (.tuple ds) := ra
      cases ra with
      | tup h r =>
        rename_i p vs
        rw [← r.length] at hz post
        exact ⟨p, vs, rfl, h.sq, hz, post.tup nok t (pickI_reps r _ _)⟩
    · cases e
  | _ => cases e
theorem px_slN (i j : Int) (ha : PX X T io WW e m) (h0 : -j ≠ 0 := by decide) (h1 : -j ≠ 1 := by decide) : PX X T io WW (.Subscript e (.Slice (some (.UnaryOp .USub (.Constant (.int i) k1 p1) p2)) none (some (.UnaryOp .USub (.Constant (.int j) k2 p3) p4)) p5) pos) (op1 (slNF i j) m) :=
  (pe_slN i j h0 h1 ha).imp fun σ H Q h => one_of (g := gX X T io) (s1_slN i j) h
end
end PL

set_option Elab.async false
set_option linter.all false
set_option maxRecDepth 100000
/-! PL43: x[::-1] of a list, of a tuple. -/
namespace PL
open PySem PySem.Spec PyProof.Rows L2 HT
def rRevA (K : PySem.W.Frag) : V → Hp → VK → Prop := fun x H Q => ∃ a xs, x = .ref a ∧ ((SqL K H a xs ∧ ∀ p, H p = none → Q (.ref p) (upd H p (.lst xs.reverse))) ∨
  (SqT K H a xs ∧ (stepF none none (-1) xs.length).2 ≤ sizeLine ∧ ∀ p, H p = none → Q (.ref p) (upd H p (.tup (pickI xs (stepF none none (-1) xs.length) (-1))))))
def revAF (x : PyData) : Option W := match x with
  | .list ds => some (.f ds.reverse)
  | .tuple ds => if (stepF none none (-1) ds.length).2 ≤ sizeLine then some (.d (.tuple (pickI ds (stepF none none (-1) ds.length) (-1)))) else none
  | _ => none
section
variable {X : Cx} {T : List (Addr × Str)} {io : Addr} {WW : WX} {e : Expr} {m : EM W} {k : Nat} {p1 p2 p3 pos : Pos} {te : TE}
theorem pe_revA (he : PE X e te) : PE X (.Subscript e (.Slice none none (some (.UnaryOp .USub (.Constant (.int 1) k p1) p2)) p3) pos) (fun σ H Q => te σ H fun x H1 => rRevA X.K x H1 Q) := by
  refine ⟨fun pins s σ H Q I h => ?_⟩
  refine Subscript_ (thn (he.run pins s σ H _ I h) fun v s1 ⟨x, H1, I1, r1, q1⟩ => ?_)
  obtain ⟨a, xs, ex, q1⟩ := q1
  subst ex
  cases r1
  have hst : PO X (some (.UnaryOp .USub (.Constant (.int 1) k p1) p2)) (tPart (tUn (rU fun i => .int (-i)) (tC (.int 1)))) := po_some (pe_un un_neg pe_int)
  refine wpAny_Slice (thn (po_none.run pins s1 σ H1 (fun o H2 => o = none ∧ H2 = H1) I1 ⟨rfl, rfl⟩) fun vl s2 ⟨l, H2, I2, pl, el, e2⟩ => ?_)
  subst el e2
  refine thn (po_none.run pins s2 σ H2 (fun o H3 => o = none ∧ H3 = H2) I2 ⟨rfl, rfl⟩) fun vu s3 ⟨u, H3, I3, pu, eu, e3⟩ => ?_
  subst eu e3
  refine thn (hst.run pins s3 σ H3 (fun o H4 => o = some (-1) ∧ H4 = H3) I3 ⟨1, rfl, -1, rfl, rfl, rfl⟩) fun vs s4 ⟨o, H4, I4, ps, eo, e4⟩ => ?_
  subst eo e4
  have I5 : Inv X pins σ H4 { s4 with heap := s4.heap.push { cls := .type "slice", data := .fields #[vl, vu, vs] } } := I4.kept (t' := s4.toks) fun b ob q => Heap.get?_push_of_some _ q
  show wpAny (model X.prog X.w) X.A (subscriptTail e (.Slice none none (some (.UnaryOp .USub (.Constant (.int 1) k p1) p2)) p3) (.ref a) (.ref s4.heap.objs.size)) (EP X pins σ Q) X.xe { s4 with heap := s4.heap.push { cls := .type "slice", data := .fields #[vl, vu, vs] } }
  rcases q1 with ⟨hx, q⟩ | ⟨hx, hz0, q⟩
  · obtain ⟨its, r, ht, hz⟩ := I5.list hx
    have hlen := r.length
    refine tail_any (ops := [.ref a, .ref s4.heap.objs.size]) ht.isList.typeIs (PySem.slot_list_getitem.lookup) ?_ (by with_unfolding_all rfl)
    refine wpAny_getItem_list_slice ht.isList (Heap.IsSliceOf.new _ vl vu vs) pl pu ps (by decide) ?_ (by rw [List.size_toArray]; omega)
    rw [PySem.W.krv_pick]
    refine ⟨.ref _, _, I5.laid (t' := s4.toks) (o := .lst xs.reverse) (fun b ob q => Heap.get?_push_of_some _ q) (Nat.le_refl _) ?_, rfl, q _ (I5.hok.fresh (Nat.le_refl _))⟩
    exact ⟨by rw [List.length_reverse]; exact hz, _, 0, r.reverse, Heap.get?_push_size _ rfl⟩
  · obtain ⟨its, r, ht, hz⟩ := I5.tuple hx
    have hlen := r.length
    refine tail_any (ops := [.ref a, .ref s4.heap.objs.size]) ht.typeIs (PyProof.Rows.slot_tuple_getitem.lookup) ?_ (by with_unfolding_all rfl)
    rw [hlen] at hz0 q
    refine getItem_tuple_st ht (Heap.IsSliceOf.new _ vl vu vs) pl pu ps (by decide) (by decide) hz0 ?_
    refine ⟨.ref _, _, I5.laid (t' := s4.toks) (o := .tup (pickI xs (stepF none none (-1) its.length) (-1))) (fun b ob q => Heap.get?_push_of_some _ q) (Nat.le_refl _) ?_, rfl, q _ (I5.hok.fresh (Nat.le_refl _))⟩
    exact ⟨Nat.le_trans (pickI_len _ _ _) hz0, _, pickI_vals r _ _, _, Heap.get?_push_size _ rfl, rfl, _, rfl⟩
theorem s1_revA {K : PySem.W.Frag} {T : List (Addr × Str)} : Spec1 K T (rRevA K) revAF := by
  intro x H Q N a w nok t ra e post
  cases a with
  | list ds =>
    cases e
    obtain ⟨p, xs, rfl, hp, r⟩ := ra
    exact ⟨p, xs, rfl, .inl ⟨hp, post.lst t r.rev⟩⟩
  | tuple ds =>
    have e : (if (stepF none none (-1) ds.length).2 ≤ sizeLine then some (W.d (.tuple (pickI ds (stepF none none (-1) ds.length) (-1)))) else none) = some w := e
    split at e
    · rename_i hz
      cases e
      have ra : Rp K N H x (.tuple ds) := ra
      cases ra with
      | tup h r =>
        rename_i p vs
        rw [← r.length] at hz post
        exact ⟨p, vs, rfl, .inr ⟨h.sq, hz, post.tup nok t (pickI_reps r _ _)⟩⟩
    · cases e
  | _ => cases e
theorem px_revA (ha : PX X T io WW e m) : PX X T io WW (.Subscript e (.Slice none none (some (.UnaryOp .USub (.Constant (.int 1) k p1) p2)) p3) pos) (op1 revAF m) :=
  (pe_revA ha).imp fun σ H Q h => one_of (g := gX X T io) s1_revA h
end
end PL

set_option Elab.async false
set_option linter.all false
set_option maxRecDepth 100000
/-! PL44: x, y = a, b and x, y, z = a, b, c by way of a tuple (a name is a cell): new lists stay the frame's own. -/
namespace PL
open PySem PySem.Spec PyProof.Rows L2
section
variable {X : Cx} {T : List (Addr × Str)} {io : Addr} {WW : WX} {pt pos : Pos} {kt k2 : Nat} {pt2 : Pos} {a b c : Expr} {ma mb mc : EM W} {es : List Expr}
theorem pz_tpar2 (i j : Nat) (ha : PX X T io WW a ma) (hb : PX X T io WW b mb) (hc : X.calm = true) (hN : X.N.Nodup) (hn : PNs X es [i, j]) (hij : i ≠ j)
    (hs : swapsWithSole [.Tuple es kt pt] (.Tuple [a, b] k2 pt2) pos.line X.env = pure false := by rfl) (hw : swappedStores [.Tuple es kt pt] (.Tuple [a, b] k2 pt2) X.env = pure none := by rfl)
    (h1 : (assignEach [.Tuple es kt pt] X.env).map (·.2) = [assign (.Tuple es kt pt) X.env] := by rfl)
    (he : starEach [a, b] X.env = (false, eval a X.env) :: starEach [b] X.env := by rfl) (he2 : starEach [b] X.env = (false, eval b X.env) :: starEach [] X.env := by rfl) :
    PZ X T io WW (.Assign [.Tuple es kt pt] (.Tuple [a, b] k2 pt2) pos) (par2M i j ma mb) := by
  refine (ps_asg (pe_tup (pa_cons ha (pa_cons hb pa_nil he2) he)) (pg_tup (n := 2) hc (hn.pgs hN) hn.len hn.star) hs hw h1).imp fun D σ H h => ?_
  let g : G := gX X T io
  obtain ⟨No, env, rep, h⟩ := h
  unfold par2M at h
  refine tX_prep rep (fun x env' e => ?_) (fun e => ?_) fun wa env1 v H1 e na ev pv fr => ?_
  · rw [bnd_ex e] at h; exact ex_of h
  · rw [bnd_no e] at h; exact h
  rw [bnd_ok e] at h
  refine tX_prep pv.rep (fun x env' e => ?_) (fun e => ?_) fun wb env2 u H2 e2 nb ev2 pu fr2 => ?_
  · rw [bnd_ex e] at h; exact exC.back (ex_of h) ev fun a z => plus_of a z
  · rw [bnd_no e] at h; exact h
  rw [bnd_ok e2] at h
  have h : zC g WW No σ H env D (match setE j wb env2 with
    | some env3 => match setE i wa env3 with
      | some env4 => .nx env4
      | none => .no
    | none => .no) := h
  refine ⟨by show 2 ≤ sizeLine; decide, fun p np => ⟨p, [v, u], rfl, .inl (.inl upd_same), rfl, ?_⟩⟩
  have evp : EvM F0 H2 F0 (upd H2 p (.tup [v, u])) := EvM.upd np
  have pu' := pu.go evp.up (pu.rep.ev evp (tabs_upd pu.rep.tab np) fun b z => .inl z)
  cases q1 : setE j wb env2 with
  | none => rw [q1] at h; exact h.elim
  | some env3 =>
    rw [q1] at h
    dsimp only at h
    cases q2 : setE i wa env3 with
    | none => rw [q2] at h; exact h.elim
    | some env4 =>
      rw [q2] at h
      obtain ⟨r3, s3⟩ := pu'.put q1
      have ev3 : EvM (Mo g σ env1) H1 (Mo g (σ.set j (some u)) env3) (upd H2 p (.tup [v, u])) := (ev2.trans evp.up).put fr2 s3
      have pv3 := pv.mv na ev3 r3
      obtain ⟨r4, s4⟩ := pv3.put q2
      have fin := h _ _ ((ev.trans ev3).put fr s4) r4
      rw [← set_comm hij] at fin
      exact ⟨v, [u], rfl, u, [], rfl, rfl, fin⟩
theorem pz_tpar3 (i j l : Nat) (ha : PX X T io WW a ma) (hb : PX X T io WW b mb) (hcc : PX X T io WW c mc) (hc : X.calm = true) (hN : X.N.Nodup) (hn : PNs X es [i, j, l]) (hij : i ≠ j) (hil : i ≠ l) (hjl : j ≠ l)
    (hs : swapsWithSole [.Tuple es kt pt] (.Tuple [a, b, c] k2 pt2) pos.line X.env = pure false := by rfl) (hw : swappedStores [.Tuple es kt pt] (.Tuple [a, b, c] k2 pt2) X.env = pure none := by rfl)
    (h1 : (assignEach [.Tuple es kt pt] X.env).map (·.2) = [assign (.Tuple es kt pt) X.env] := by rfl)
    (he : starEach [a, b, c] X.env = (false, eval a X.env) :: starEach [b, c] X.env := by rfl) (he2 : starEach [b, c] X.env = (false, eval b X.env) :: starEach [c] X.env := by rfl) (he3 : starEach [c] X.env = (false, eval c X.env) :: starEach [] X.env := by rfl) :
    PZ X T io WW (.Assign [.Tuple es kt pt] (.Tuple [a, b, c] k2 pt2) pos) (par3M i j l ma mb mc) := by
  refine (ps_asg (pe_tup (pa_cons ha (pa_cons hb (pa_cons hcc pa_nil he3) he2) he)) (pg_tup (n := 3) hc (hn.pgs hN) hn.len hn.star) hs hw h1).imp fun D σ H h => ?_
  let g : G := gX X T io
  obtain ⟨No, env, rep, h⟩ := h
  unfold par3M at h
  refine tX_prep rep (fun x env' e => ?_) (fun e => ?_) fun wa env1 v H1 e na ev pv fr => ?_
  · rw [bnd_ex e] at h; exact ex_of h
  · rw [bnd_no e] at h; exact h
  rw [bnd_ok e] at h
  refine tX_prep pv.rep (fun x env' e => ?_) (fun e => ?_) fun wb env2 u H2 e2 nb ev2 pu fr2 => ?_
  · rw [bnd_ex e] at h; exact exC.back (ex_of h) ev fun a z => plus_of a z
  · rw [bnd_no e] at h; exact h
  rw [bnd_ok e2] at h
  refine tX_prep pu.rep (fun x env' e => ?_) (fun e => ?_) fun wc env3 t H3 e3 nc ev3 pt fr3 => ?_
  · rw [bnd_ex e] at h; exact exC.back (ex_of h) (ev.trans ev2) fun a z => plus_of a (plus_of a z)
  · rw [bnd_no e] at h; exact h
  rw [bnd_ok e3] at h
  have h : zC g WW No σ H env D (match setE l wc env3 with
    | some env2 => match setE j wb env2 with
      | some env3 => match setE i wa env3 with
        | some env4 => .nx env4
        | none => .no
      | none => .no
    | none => .no) := h
  refine ⟨by show 3 ≤ sizeLine; decide, fun p np => ⟨p, [v, u, t], rfl, .inl (.inl upd_same), rfl, ?_⟩⟩
  have evp : EvM F0 H3 F0 (upd H3 p (.tup [v, u, t])) := EvM.upd np
  have pt' := pt.go evp.up (pt.rep.ev evp (tabs_upd pt.rep.tab np) fun b z => .inl z)
  cases q0 : setE l wc env3 with
  | none => rw [q0] at h; exact h.elim
  | some env4 =>
    rw [q0] at h
    dsimp only at h
    cases q1 : setE j wb env4 with
    | none => rw [q1] at h; exact h.elim
    | some env5 =>
      rw [q1] at h
      dsimp only at h
      cases q2 : setE i wa env5 with
      | none => rw [q2] at h; exact h.elim
      | some env6 =>
        rw [q2] at h
        obtain ⟨r4, s4⟩ := pt'.put q0
        have ev4 : EvM (Mo g σ env2) H2 (Mo g (σ.set l (some t)) env4) (upd H3 p (.tup [v, u, t])) := (ev3.trans evp.up).put fr3 s4
        have pu4 := pu.mv nb ev4 r4
        obtain ⟨r5, s5⟩ := pu4.put q1
        have ev5 : EvM (Mo g σ env1) H1 (Mo g ((σ.set l (some t)).set j (some u)) env5) (upd H3 p (.tup [v, u, t])) := (ev2.trans ev4).put fr2 s5
        have pv5 := pv.mv na ev5 r5
        obtain ⟨r6, s6⟩ := pv5.put q2
        have es : ((σ.set i (some v)).set j (some u)).set l (some t) = ((σ.set l (some t)).set j (some u)).set i (some v) := by
          rw [set_comm hij, set_comm hil, set_comm (l := σ) hjl]
        have fin := h _ _ ((ev.trans ev5).put fr s6) r6
        rw [← es] at fin
        exact ⟨v, [u, t], rfl, u, [t], rfl, t, [], rfl, rfl, fin⟩
end
end PL

set_option Elab.async false
set_option linter.all false
set_option maxRecDepth 100000
/-! PL45: slices of lists, tuples, texts. -/
namespace PL
open PySem PySem.Spec PyProof.Rows L2
def slAF (x : PyData) (lo hi : Option Int) : Option W := match x with
  | .str z => if z.length ≤ sizeLine then some (.d (.str (cutS z lo hi))) else none
  | x => slF x lo hi
def slMA (ma : EM W) (lo hi : Option (EM W)) : EM W := bnd ma fun a => bnd (partM lo) fun l => bnd (partM hi) fun h => app1 (fun x => slAF x l h) a
section
variable {X : Cx} {T : List (Addr × Str)} {io : Addr} {WW : WX} {p2 pos : Pos} {a : Expr} {ma : EM W}
def rSlDA (K : PySem.W.Frag) : V → Option Int → Option Int → Hp → VK → Prop := fun x lo hi H Q => rSlD K x lo hi H Q ∨ rSlS x lo hi H Q
theorem sl_datA : SlR X (rSlDA X.K) := sl_dat.or sl_str
theorem s1_slA {K : PySem.W.Frag} {T : List (Addr × Str)} (lo hi : Option Int) : Spec1 K T (fun x H Q => rSlDA K x lo hi H Q) (fun x => slAF x lo hi) := by
  intro x H Q N a w nok t ra e post
  cases a with
  | str z =>
    have e : (if z.length ≤ sizeLine then some (W.d (.str (cutS z lo hi))) else none) = some w := e
    split at e
    · rename_i hz
      cases e
      cases ra
      exact .inr ⟨z, rfl, hz, post _ H (EvM.refl _ _) t (.str _)⟩
    · cases e
  | _ => exact .inl (s1_sl lo hi x H Q N _ w nok t ra e post)
theorem px_slA {lo hi : Option Expr} {ml mh : Option (EM W)} {tl th : TO} (ha : PX X T io WW a ma) (hl : POx X T io WW lo ml tl) (hh : POx X T io WW hi mh th) : PX X T io WW (.Subscript a (.Slice lo hi none p2) pos) (slMA ma ml mh) := by
  refine (pe_slice sl_datA ha hl.po hh.po).imp fun σ H Q h => ?_
  obtain ⟨No, env, rep, h⟩ := h
  refine tX_of rep (fun x env' e => ?_) (fun e => ?_) fun w env1 v H1 e ev pv fr => ?_
  · rw [show slMA ma ml mh env = _ from bnd_ex e] at h; exact h
  · rw [show slMA ma ml mh env = _ from bnd_no e] at h; exact h
  rw [show slMA ma ml mh env = _ from bnd_ok e] at h
  refine part_then (m2 := fun l => bnd (partM mh) fun h => app1 (fun x => slAF x l h) w) hl pv.rep (fun x env' e => ?_) (fun e => ?_) fun l env2 H2 e2 ev2 r2 => ?_
  · rw [e] at h; exact h.back ev fun c z => plus_of c z
  · rw [e] at h; exact h
  rw [e2] at h
  refine part_then (m2 := fun h => app1 (fun x => slAF x l h) w) hh r2 (fun x env' e => ?_) (fun e => ?_) fun u env3 H3 e3 ev3 r3 => ?_
  · rw [e] at h; exact h.back (ev.trans ev2) fun c z => plus_of c z
  · rw [e] at h; exact h
  rw [e3] at h
  cases q : app1 (fun x => slAF x l u) w env3 with
  | no => rw [q] at h; exact h.elim
  | ex x e' => exact absurd q app1_nex
  | ok w' env' =>
    rw [q] at h
    obtain ⟨rfl, x, e4, e5⟩ := app1_ok q
    refine s1_slA l u v H3 Q (Un2 (plus No v w) (Mo (gX X T io) σ env')) x w' r3.nok r3.tab (pv.pk2 (ev2.trans ev3) r3 (fun c z => .inl z) e4) e5 fun v' H' e' t' q' => ?_
    obtain ⟨p1, p2⟩ := fin_of r3 (fun a z => plus_of a z) e' t' q'
    exact h v' H' (((ev.trans ev2).trans ev3).trans e'.up) p1 (p2.back ((ev.trans ev2).trans ev3))
end
end PL

set_option Elab.async false
set_option linter.all false
set_option maxRecDepth 100000
set_option maxHeartbeats 0
namespace GL
open PySem PySem.Spec PyProof.Rows L2 PL
def topS (i : Nat) : Stmt := PySem.Challenge.pw_eightworlds_k81_whole_two_above_one_piec.main.body.getD i (.Pass ⟨0, 0, 0, 0⟩)
structure FS (K : PySem.W.Frag) (mg : Str → Option Value) where
  c_MOST_FORKS : ∃ t, mg "MOST_FORKS" = some (.int 24 t)
  c_MOST_SIDES : ∃ t, mg "MOST_SIDES" = some (.int 40 t)
  c_MOST_WORDS : ∃ t, mg "MOST_WORDS" = some (.int 60 t)
  f__law_blocks : Addr
  fd__law_blocks : FuncData
  F__law_blocks : Fun K "_law_blocks" "_law_blocks" (topS 69) f__law_blocks fd__law_blocks
  m__law_blocks : mg "_law_blocks" = some (.ref f__law_blocks)
  b__law_blocks : Binds K fd__law_blocks ["_law_one", "_law_two", "_law_mine", "_law_yours"] []
  f__law_both : Addr
  fd__law_both : FuncData
  F__law_both : Fun K "_law_both" "_law_both" (topS 68) f__law_both fd__law_both
  m__law_both : mg "_law_both" = some (.ref f__law_both)
  b__law_both : Binds K fd__law_both ["_law_one", "_law_two"] []
  f__law_cup : Addr
  fd__law_cup : FuncData
  F__law_cup : Fun K "_law_cup" "_law_cup" (topS 63) f__law_cup fd__law_cup
  m__law_cup : mg "_law_cup" = some (.ref f__law_cup)
  b__law_cup : Binds K fd__law_cup ["_law_script"] []
  f__law_cuts : Addr
  fd__law_cuts : FuncData
  F__law_cuts : Fun K "_law_cuts" "_law_cuts" (topS 65) f__law_cuts fd__law_cuts
  m__law_cuts : mg "_law_cuts" = some (.ref f__law_cuts)
  b__law_cuts : Binds K fd__law_cuts ["_law_cup_here", "_law_first", "_law_last"] []
  f__law_cutting : Addr
  fd__law_cutting : FuncData
  F__law_cutting : Fun K "_law_cutting" "_law_cutting" (topS 66) f__law_cutting fd__law_cutting
  m__law_cutting : mg "_law_cutting" = some (.ref f__law_cutting)
  b__law_cutting : Binds K fd__law_cutting ["_law_cup_here", "_law_least", "_law_most"] []
  f__law_is_last : Addr
  fd__law_is_last : FuncData
  F__law_is_last : Fun K "_law_is_last" "_law_is_last" (topS 70) f__law_is_last fd__law_is_last
  m__law_is_last : mg "_law_is_last" = some (.ref f__law_is_last)
  b__law_is_last : Binds K fd__law_is_last ["_law_cutting_here", "_law_block"] []
  f__law_number_across : Addr
  fd__law_number_across : FuncData
  F__law_number_across : Fun K "_law_number_across" "_law_number_across" (topS 71) f__law_number_across fd__law_number_across
  m__law_number_across : mg "_law_number_across" = some (.ref f__law_number_across)
  b__law_number_across : Binds K fd__law_number_across ["_law_mine", "_law_yours", "_law_i", "_law_j"] []
  f__law_right : Addr
  fd__law_right : FuncData
  F__law_right : Fun K "_law_right" "_law_right" (topS 72) f__law_right fd__law_right
  m__law_right : mg "_law_right" = some (.ref f__law_right)
  b__law_right : Binds K fd__law_right ["_law_one", "_law_two"] []
  f__law_roll : Addr
  fd__law_roll : FuncData
  F__law_roll : Fun K "_law_roll" "_law_roll" (topS 64) f__law_roll fd__law_roll
  m__law_roll : mg "_law_roll" = some (.ref f__law_roll)
  b__law_roll : Binds K fd__law_roll ["_law_cup_here", "_law_many"] []
  f__law_ties : Addr
  fd__law_ties : FuncData
  F__law_ties : Fun K "_law_ties" "_law_ties" (topS 67) f__law_ties fd__law_ties
  m__law_ties : mg "_law_ties" = some (.ref f__law_ties)
  b__law_ties : Binds K fd__law_ties ["_law_cutting_here"] []
  f_are_free_cuts : Addr
  fd_are_free_cuts : FuncData
  F_are_free_cuts : Fun K "are_free_cuts" "are_free_cuts" (topS 17) f_are_free_cuts fd_are_free_cuts
  m_are_free_cuts : mg "are_free_cuts" = some (.ref f_are_free_cuts)
  b_are_free_cuts : Binds K fd_are_free_cuts ["sides", "value"] []
  f_are_ints : Addr
  fd_are_ints : FuncData
  F_are_ints : Fun K "are_ints" "are_ints" (topS 10) f_are_ints fd_are_ints
  m_are_ints : mg "are_ints" = some (.ref f_are_ints)
  b_are_ints : Binds K fd_are_ints ["value", "many"] []
  f_count_pairings : Addr
  fd_count_pairings : FuncData
  F_count_pairings : Fun K "count_pairings" "count_pairings" (topS 53) f_count_pairings fd_count_pairings
  m_count_pairings : mg "count_pairings" = some (.ref f_count_pairings)
  b_count_pairings : Binds K fd_count_pairings ["cutting", "line"] []
  f_counts_at : Addr
  fd_counts_at : FuncData
  F_counts_at : Fun K "counts_at" "counts_at" (topS 23) f_counts_at fd_counts_at
  m_counts_at : mg "counts_at" = some (.ref f_counts_at)
  b_counts_at : Binds K fd_counts_at ["cutting"] []
  f_counts_by_cuts : Addr
  fd_counts_by_cuts : FuncData
  F_counts_by_cuts : Fun K "counts_by_cuts" "counts_by_cuts" (topS 22) f_counts_by_cuts fd_counts_by_cuts
  m_counts_by_cuts : mg "counts_by_cuts" = some (.ref f_counts_by_cuts)
  b_counts_by_cuts : Binds K fd_counts_by_cuts ["sides", "cuts"] []
  f_crosses : Addr
  fd_crosses : FuncData
  F_crosses : Fun K "crosses" "crosses" (topS 16) f_crosses fd_crosses
  m_crosses : mg "crosses" = some (.ref f_crosses)
  b_crosses : Binds K fd_crosses ["one", "other"] []
  f_cuts_along : Addr
  fd_cuts_along : FuncData
  F_cuts_along : Fun K "cuts_along" "cuts_along" (topS 46) f_cuts_along fd_cuts_along
  m_cuts_along : mg "cuts_along" = some (.ref f_cuts_along)
  b_cuts_along : Binds K fd_cuts_along ["cutting", "line"] []
  f_ends_ahead : Addr
  fd_ends_ahead : FuncData
  F_ends_ahead : Fun K "ends_ahead" "ends_ahead" (topS 48) f_ends_ahead fd_ends_ahead
  m_ends_ahead : mg "ends_ahead" = some (.ref f_ends_ahead)
  b_ends_ahead : Binds K fd_ends_ahead ["line", "cuts"] []
  f_first_tile : Addr
  fd_first_tile : FuncData
  F_first_tile : Fun K "first_tile" "first_tile" (topS 47) f_first_tile fd_first_tile
  m_first_tile : mg "first_tile" = some (.ref f_first_tile)
  b_first_tile : Binds K fd_first_tile ["line", "cut"] []
  f_forks_within : Addr
  fd_forks_within : FuncData
  F_forks_within : Fun K "forks_within" "forks_within" (topS 28) f_forks_within fd_forks_within
  m_forks_within : mg "forks_within" = some (.ref f_forks_within)
  b_forks_within : Binds K fd_forks_within ["tree"] []
  f_frieze : Addr
  fd_frieze : FuncData
  F_frieze : Fun K "frieze" "frieze" (topS 37) f_frieze fd_frieze
  m_frieze : mg "frieze" = some (.ref f_frieze)
  b_frieze : Binds K fd_frieze ["cutting"] []
  f_frieze_of_counts : Addr
  fd_frieze_of_counts : FuncData
  F_frieze_of_counts : Fun K "frieze_of_counts" "frieze_of_counts" (topS 36) f_frieze_of_counts fd_frieze_of_counts
  m_frieze_of_counts : mg "frieze_of_counts" = some (.ref f_frieze_of_counts)
  b_frieze_of_counts : Binds K fd_frieze_of_counts ["row"] []
  f_is_ascending : Addr
  fd_is_ascending : FuncData
  F_is_ascending : Fun K "is_ascending" "is_ascending" (topS 11) f_is_ascending fd_is_ascending
  m_is_ascending : mg "is_ascending" = some (.ref f_is_ascending)
  b_is_ascending : Binds K fd_is_ascending ["items"] []
  f_is_between : Addr
  fd_is_between : FuncData
  F_is_between : Fun K "is_between" "is_between" (topS 9) f_is_between fd_is_between
  m_is_between : mg "is_between" = some (.ref f_is_between)
  b_is_between : Binds K fd_is_between ["value", "low", "high"] []
  f_is_cut_within : Addr
  fd_is_cut_within : FuncData
  F_is_cut_within : Fun K "is_cut_within" "is_cut_within" (topS 15) f_is_cut_within fd_is_cut_within
  m_is_cut_within : mg "is_cut_within" = some (.ref f_is_cut_within)
  b_is_cut_within : Binds K fd_is_cut_within ["sides", "value"] []
  f_is_cutting : Addr
  fd_is_cutting : FuncData
  F_is_cutting : Fun K "is_cutting" "is_cutting" (topS 18) f_is_cutting fd_is_cutting
  m_is_cutting : mg "is_cutting" = some (.ref f_is_cutting)
  b_is_cutting : Binds K fd_is_cutting ["value"] []
  f_is_int : Addr
  fd_is_int : FuncData
  F_is_int : Fun K "is_int" "is_int" (topS 8) f_is_int fd_is_int
  m_is_int : mg "is_int" = some (.ref f_is_int)
  b_is_int : Binds K fd_is_int ["value"] []
  f_is_line : Addr
  fd_is_line : FuncData
  F_is_line : Fun K "is_line" "is_line" (topS 44) f_is_line fd_is_line
  m_is_line : mg "is_line" = some (.ref f_is_line)
  b_is_line : Binds K fd_is_line ["cutting", "value"] []
  f_is_shape : Addr
  fd_is_shape : FuncData
  F_is_shape : Fun K "is_shape" "is_shape" (topS 40) f_is_shape fd_is_shape
  m_is_shape : mg "is_shape" = some (.ref f_is_shape)
  b_is_shape : Binds K fd_is_shape ["value"] []
  f_is_tree : Addr
  fd_is_tree : FuncData
  F_is_tree : Fun K "is_tree" "is_tree" (topS 26) f_is_tree fd_is_tree
  m_is_tree : mg "is_tree" = some (.ref f_is_tree)
  b_is_tree : Binds K fd_is_tree ["value"] []
  f_law : Addr
  fd_law : FuncData
  F_law : Fun K "law" "law" (topS 73) f_law fd_law
  m_law : mg "law" = some (.ref f_law)
  b_law : Binds K fd_law ["_law_script"] []
  f_mountain : Addr
  fd_mountain : FuncData
  F_mountain : Fun K "mountain" "mountain" (topS 56) f_mountain fd_mountain
  m_mountain : mg "mountain" = some (.ref f_mountain)
  b_mountain : Binds K fd_mountain ["tree"] []
  f_mountain_over : Addr
  fd_mountain_over : FuncData
  F_mountain_over : Fun K "mountain_over" "mountain_over" (topS 55) f_mountain_over fd_mountain_over
  m_mountain_over : mg "mountain_over" = some (.ref f_mountain_over)
  b_mountain_over : Binds K fd_mountain_over ["tree"] []
  f_need_cutting : Addr
  fd_need_cutting : FuncData
  F_need_cutting : Fun K "need_cutting" "need_cutting" (topS 19) f_need_cutting fd_need_cutting
  m_need_cutting : mg "need_cutting" = some (.ref f_need_cutting)
  b_need_cutting : Binds K fd_need_cutting ["value"] []
  f_need_few : Addr
  fd_need_few : FuncData
  F_need_few : Fun K "need_few" "need_few" (topS 12) f_need_few fd_need_few
  m_need_few : mg "need_few" = some (.ref f_need_few)
  b_need_few : Binds K fd_need_few ["many", "limit"] []
  f_need_line : Addr
  fd_need_line : FuncData
  F_need_line : Fun K "need_line" "need_line" (topS 45) f_need_line fd_need_line
  m_need_line : mg "need_line" = some (.ref f_need_line)
  b_need_line : Binds K fd_need_line ["cutting", "value"] []
  f_need_shape : Addr
  fd_need_shape : FuncData
  F_need_shape : Fun K "need_shape" "need_shape" (topS 41) f_need_shape fd_need_shape
  m_need_shape : mg "need_shape" = some (.ref f_need_shape)
  b_need_shape : Binds K fd_need_shape ["value"] []
  f_need_tree : Addr
  fd_need_tree : FuncData
  F_need_tree : Fun K "need_tree" "need_tree" (topS 27) f_need_tree fd_need_tree
  m_need_tree : mg "need_tree" = some (.ref f_need_tree)
  b_need_tree : Binds K fd_need_tree ["value"] []
  f_numbers_from : Addr
  fd_numbers_from : FuncData
  F_numbers_from : Fun K "numbers_from" "numbers_from" (topS 35) f_numbers_from fd_numbers_from
  m_numbers_from : mg "numbers_from" = some (.ref f_numbers_from)
  b_numbers_from : Binds K fd_numbers_from ["row", "place", "steps"] []
  f_part_over : Addr
  fd_part_over : FuncData
  F_part_over : Fun K "part_over" "part_over" (topS 20) f_part_over fd_part_over
  m_part_over : mg "part_over" = some (.ref f_part_over)
  b_part_over : Binds K fd_part_over ["base", "ends"] []
  f_parting_by : Addr
  fd_parting_by : FuncData
  F_parting_by : Fun K "parting_by" "parting_by" (topS 58) f_parting_by fd_parting_by
  m_parting_by : mg "parting_by" = some (.ref f_parting_by)
  b_parting_by : Binds K fd_parting_by ["keys"] []
  f_parting_by_corners : Addr
  fd_parting_by_corners : FuncData
  F_parting_by_corners : Fun K "parting_by_corners" "parting_by_corners" (topS 59) f_parting_by_corners fd_parting_by_corners
  m_parting_by_corners : mg "parting_by_corners" = some (.ref f_parting_by_corners)
  b_parting_by_corners : Binds K fd_parting_by_corners ["cutting", "place"] []
  f_parting_of : Addr
  fd_parting_of : FuncData
  F_parting_of : Fun K "parting_of" "parting_of" (topS 61) f_parting_of fd_parting_of
  m_parting_of : mg "parting_of" = some (.ref f_parting_of)
  b_parting_of : Binds K fd_parting_of ["cutting"] []
  f_parts : Addr
  fd_parts : FuncData
  F_parts : Fun K "parts" "parts" (topS 21) f_parts fd_parts
  m_parts : mg "parts" = some (.ref f_parts)
  b_parts : Binds K fd_parts ["sides", "cuts"] []
  f_reaches : Addr
  fd_reaches : FuncData
  F_reaches : Fun K "reaches" "reaches" (topS 33) f_reaches fd_reaches
  m_reaches : mg "reaches" = some (.ref f_reaches)
  b_reaches : Binds K fd_reaches ["tree"] []
  f_reaches_within : Addr
  fd_reaches_within : FuncData
  F_reaches_within : Fun K "reaches_within" "reaches_within" (topS 32) f_reaches_within fd_reaches_within
  m_reaches_within : mg "reaches_within" = some (.ref f_reaches_within)
  b_reaches_within : Binds K fd_reaches_within ["tree"] []
  f_shape_of : Addr
  fd_shape_of : FuncData
  F_shape_of : Fun K "shape_of" "shape_of" (topS 51) f_shape_of fd_shape_of
  m_shape_of : mg "shape_of" = some (.ref f_shape_of)
  b_shape_of : Binds K fd_shape_of ["cutting", "line"] []
  f_snake_along : Addr
  fd_snake_along : FuncData
  F_snake_along : Fun K "snake_along" "snake_along" (topS 50) f_snake_along fd_snake_along
  m_snake_along : mg "snake_along" = some (.ref f_snake_along)
  b_snake_along : Binds K fd_snake_along ["cutting", "line"] []
  f_tally : Addr
  fd_tally : FuncData
  F_tally : Fun K "tally" "tally" (topS 42) f_tally fd_tally
  m_tally : mg "tally" = some (.ref f_tally)
  b_tally : Binds K fd_tally ["shape"] []
  f_tiles_along : Addr
  fd_tiles_along : FuncData
  F_tiles_along : Fun K "tiles_along" "tiles_along" (topS 49) f_tiles_along fd_tiles_along
  m_tiles_along : mg "tiles_along" = some (.ref f_tiles_along)
  b_tiles_along : Binds K fd_tiles_along ["line", "cuts"] []
  f_tree_by_cutting : Addr
  fd_tree_by_cutting : FuncData
  F_tree_by_cutting : Fun K "tree_by_cutting" "tree_by_cutting" (topS 30) f_tree_by_cutting fd_tree_by_cutting
  m_tree_by_cutting : mg "tree_by_cutting" = some (.ref f_tree_by_cutting)
  b_tree_by_cutting : Binds K fd_tree_by_cutting ["cutting"] []
  f_tree_of : Addr
  fd_tree_of : FuncData
  F_tree_of : Fun K "tree_of" "tree_of" (topS 31) f_tree_of fd_tree_of
  m_tree_of : mg "tree_of" = some (.ref f_tree_of)
  b_tree_of : Binds K fd_tree_of ["cutting"] []
  f_tree_over : Addr
  fd_tree_over : FuncData
  F_tree_over : Fun K "tree_over" "tree_over" (topS 29) f_tree_over fd_tree_over
  m_tree_over : mg "tree_over" = some (.ref f_tree_over)
  b_tree_over : Binds K fd_tree_over ["low", "high", "thirds"] []
  z_abs : mg "abs" = none
  z_all : mg "all" = none
  z_any : mg "any" = none
  z_bool : mg "bool" = none
  z_enumerate : mg "enumerate" = none
  z_int : mg "int" = none
  z_isinstance : mg "isinstance" = none
  z_len : mg "len" = none
  z_list : mg "list" = none
  z_max : mg "max" = none
  z_min : mg "min" = none
  z_range : mg "range" = none
  z_set : mg "set" = none
  z_sorted : mg "sorted" = none
  z_tuple : mg "tuple" = none
  z_zip : mg "zip" = none
section
variable {P : Program} {w : World} {K : PySem.W.Frag} {mg : Str → Option Value} {base : Heap}
theorem sc_is_int : FnScope ["value"] ["value"] (defScope (topS 8)) := ⟨rfl, rfl, rfl, by decide +kernel, rfl, by decide +kernel, by decide +kernel⟩
def m_is_int  : SM := retM (andV (op1 (isF isInt) (rdV 0)) (notV (op1 (isF isBoo) (rdV 0))))
def F_is_int : List PyData → FR := runF m_is_int 1
theorem ok_is_int (fs : FS K mg) : FnOk P w K mg base (L2.CX P w) 1 fs.f_is_int fs.fd_is_int ["value"] (spF K [] mg 1 F_is_int) :=
  have sc := sc_is_int
  fn_pure fs.F_is_int sc (z := m_is_int) (fun cdv A outer s H E hr tk => pzs_one (pz_ret (px_and (px_isi isi_int (by rfl) fs.z_isinstance bb_isinstance (by rfl) fs.z_int bb_int (px_var 0)) (px_one (px_not (px_isi isi_bool (by rfl) fs.z_isinstance bb_isinstance (by rfl) fs.z_bool bb_bool (px_var 0))))))) (fun _ _ _ => rfl)
theorem sc_is_between : FnScope ["value", "low", "high"] ["value", "low", "high"] (defScope (topS 9)) := ⟨rfl, rfl, rfl, by decide +kernel, rfl, by decide +kernel, by decide +kernel⟩
def m_is_between  : SM := retM (andV (callM F_is_int [rdV 0]) (bv (chn2 leA leA (rdV 1) (rdV 0) (rdV 2))))
def F_is_between : List PyData → FR := runF m_is_between 3
theorem ok_is_between (fs : FS K mg) : FnOk P w K mg base (L2.CX P w) 2 fs.f_is_between fs.fd_is_between ["value", "low", "high"] (spF K [] mg 3 F_is_between) :=
  have sc := sc_is_between
  fn_pure fs.F_is_between sc (z := m_is_between) (fun cdv A outer s H E hr tk => pzs_one (pz_ret (px_and (px_call (ok_is_int fs) (hr.mono (by omega)) (by rfl) fs.m_is_int fs.F_is_int.kp fs.b_is_int tk (pxa_cons (px_var 0) (pxa_nil))) (px_one (px_chn2 (op_leAll (hu65 hr)) (op_leAll (hu65 hr)) (sB_cmp _ _) (sB_cmp _ _) (px_var 1) (px_var 0) (px_var 2)))))) (fun _ _ _ => rfl)
theorem sc_are_ints : FnScope ["value", "many", "item"] ["value", "many"] (defScope (topS 10)) := ⟨rfl, rfl, rfl, by decide +kernel, rfl, by decide +kernel, by decide +kernel⟩
def m_are_ints  : SM := retM (andV (op1 (isF isTup) (rdV 0)) (andV (bv (cmp2 eqF (op1 lenF (rdV 0)) (rdV 1))) (op1 allF (lcM (anyI (rdV 0)) (.nm 2) (ret true) (callM F_is_int [rdV 2]) [2]))))
def F_are_ints : List PyData → FR := runF m_are_ints 3
theorem ok_are_ints (fs : FS K mg) : FnOk P w K mg base (L2.CX P w) 2 fs.f_are_ints fs.fd_are_ints ["value", "many"] (spF K [] mg 2 F_are_ints) :=
  have sc := sc_are_ints
  fn_pure fs.F_are_ints sc (z := m_are_ints) (fun cdv A outer s H E hr tk => pzs_one (pz_ret (px_and (px_isi isi_tuple (by rfl) fs.z_isinstance bb_isinstance (by rfl) fs.z_tuple bb_tuple (px_var 0)) (px_and (px_cmp (op_eqD (hu64 hr)) sB_eq (px_b1 cr_lenD s1_len (by rfl) fs.z_len bb_len (px_var 0)) (px_var 1) (nomark _)) (px_one (px_b1 (cr_all rfl) s1_all (by rfl) fs.z_all bb_all (px_lc (own := [("item", 2)]) rfl sc.nd (pix_any (px_var 0)) (blkOk_by (by kernel_rfl)) (fun _ _ _ _ _ => pgx_nm 2 sc.nd) (fun _ _ _ _ _ => ptx_nil) (fun _ _ _ _ _ => px_call (ok_is_int fs) (hr.mono (by omega)) (by rfl) fs.m_is_int fs.F_is_int.kp fs.b_is_int takes_F (pxa_cons (px_var 2) (pxa_nil)))))))))) (fun _ _ _ => rfl)
theorem sc_is_ascending : FnScope ["items", "one", "other"] ["items"] (defScope (topS 11)) := ⟨rfl, rfl, rfl, by decide +kernel, rfl, by decide +kernel, by decide +kernel⟩
def m_is_ascending  : SM := retM (op1 allF (lcM (zipI (rdV 0) (slM (rdV 0) (some (ret (.d (.int 1)))) none)) (.tp [1, 2]) (ret true) (bv (cmp2 ltA (rdV 1) (rdV 2))) [1, 2]))
def F_is_ascending : List PyData → FR := runF m_is_ascending 3
theorem ok_is_ascending (fs : FS K mg) : FnOk P w K mg base (L2.CX P w) 1 fs.f_is_ascending fs.fd_is_ascending ["items"] (spF K [] mg 1 F_is_ascending) :=
  have sc := sc_is_ascending
  fn_pure fs.F_is_ascending sc (z := m_is_ascending) (fun cdv A outer s H E hr tk => pzs_one (pz_ret (px_b1 (cr_all rfl) s1_all (by rfl) fs.z_all bb_all (px_lc (own := [("one", 1), ("other", 2)]) rfl sc.nd (pix_zip (by rfl) fs.z_zip (px_var 0) (px_sl (px_var 0) (.some (px_int)) .none)) (blkOk_by (by kernel_rfl)) (fun _ _ _ _ _ => pgx_tp rfl sc.nd (.cons rfl (by first | exact Or.inl rfl | exact Or.inr rfl) (by first | exact .inl rfl | exact .inr rfl) (.cons rfl (by first | exact Or.inl rfl | exact Or.inr rfl) (by first | exact .inl rfl | exact .inr rfl) (.nil)))) (fun _ _ _ _ _ => ptx_nil) (fun _ _ _ _ _ => px_cmp (op_ltAll (hu65 hr)) (sB_cmp _ _) (px_var 1) (px_var 2) (nomark _)))))) (fun _ _ _ => rfl)
theorem sc_need_few : FnScope ["many", "limit"] ["many", "limit"] (defScope (topS 12)) := ⟨rfl, rfl, rfl, by decide +kernel, rfl, by decide +kernel, by decide +kernel⟩
def m_need_few  : SM := iteM (cmp2 gtA (rdV 0) (rdV 1)) ((fun _ => .no)) (skipM)
def F_need_few : List PyData → FR := runF m_need_few 2
theorem ok_need_few (fs : FS K mg) : FnOk P w K mg base (L2.CX P w) 1 fs.f_need_few fs.fd_need_few ["many", "limit"] (spF K [] mg 2 F_need_few) :=
  have sc := sc_need_few
  fn_pure fs.F_need_few sc (z := m_need_few) (fun cdv A outer s H E hr tk => pzs_one (pz_if (pxt_cmp (op_gtAll (hu65 hr)) (sB_cmp _ _) (px_var 0) (px_var 1) (nomark _)) (pzs_one (pz_never)) (pzs_nil))) (fun _ _ _ => rfl)
theorem sc_is_cut_within : FnScope ["sides", "value", "low", "high"] ["sides", "value"] (defScope (topS 15)) := ⟨rfl, rfl, rfl, by decide +kernel, rfl, by decide +kernel, by decide +kernel⟩
def m_is_cut_within  : SM := seqM (iteM (notM (truM (callM F_are_ints [rdV 1, ret (.d (.int 2))]))) (retM (ret (.d (.bool false)))) (skipM)) (seqM (asgM (.tp [2, 3]) (rdV 1)) (retM (andV (bv (cmp2 leA (ret (.d (.int 0))) (rdV 2))) (andV (bv (chn2 leA ltA (op2 addS (rdV 2) (ret (.d (.int 2)))) (rdV 3) (rdV 0))) (bv (cmp2 ltA (op2 subF (rdV 3) (rdV 2)) (op2 subF (rdV 0) (ret (.d (.int 1))))))))))
def F_is_cut_within : List PyData → FR := runF m_is_cut_within 4
theorem ok_is_cut_within (fs : FS K mg) : FnOk P w K mg base (L2.CX P w) 3 fs.f_is_cut_within fs.fd_is_cut_within ["sides", "value"] (spF K [] mg 2 F_is_cut_within) :=
  have sc := sc_is_cut_within
  fn_pure fs.F_is_cut_within sc (z := m_is_cut_within) (fun cdv A outer s H E hr tk => pzs_cons (pz_if (pxt_not (pxt_tru (px_call (ok_are_ints fs) (hr.mono (by omega)) (by rfl) fs.m_are_ints fs.F_are_ints.kp fs.b_are_ints tk (pxa_cons (px_var 1) (pxa_cons (px_int) (pxa_nil)))))) (pzs_one (pz_ret (px_bl))) (pzs_nil)) (pzs_cons (pz_asg (px_var 1) (pgx_tp rfl sc.nd (.cons rfl (by first | exact Or.inl rfl | exact Or.inr rfl) (by first | exact .inl rfl | exact .inr rfl) (.cons rfl (by first | exact Or.inl rfl | exact Or.inr rfl) (by first | exact .inl rfl | exact .inr rfl) (.nil))))) (pzs_one (pz_ret (px_and (px_cmp (op_leAll (hu65 hr)) (sB_cmp _ _) (px_int) (px_var 2) (nomark _)) (px_and (px_chn2 (op_leAll (hu65 hr)) (op_ltAll (hu65 hr)) (sB_cmp _ _) (sB_cmp _ _) (px_bin op_addS s2_addS (px_var 2) (px_int)) (px_var 3) (px_var 0)) (px_one (px_cmp (op_ltAll (hu65 hr)) (sB_cmp _ _) (px_bin op_subA (s2_ii yes2 (· - ·)) (px_var 3) (px_var 2)) (px_bin op_subA (s2_ii yes2 (· - ·)) (px_var 0) (px_int)) (nomark _))))))))) (fun _ _ _ => rfl)
theorem sc_crosses : FnScope ["one", "other"] ["one", "other"] (defScope (topS 16)) := ⟨rfl, rfl, rfl, by decide +kernel, rfl, by decide +kernel, by decide +kernel⟩
def m_crosses  : SM := retM (orV (bv (chn3 ltA ltA ltA (op2 ixA (rdV 0) (ret (.d (.int 0)))) (op2 ixA (rdV 1) (ret (.d (.int 0)))) (op2 ixA (rdV 0) (ret (.d (.int 1)))) (op2 ixA (rdV 1) (ret (.d (.int 1)))))) (bv (chn3 ltA ltA ltA (op2 ixA (rdV 1) (ret (.d (.int 0)))) (op2 ixA (rdV 0) (ret (.d (.int 0)))) (op2 ixA (rdV 1) (ret (.d (.int 1)))) (op2 ixA (rdV 0) (ret (.d (.int 1)))))))
def F_crosses : List PyData → FR := runF m_crosses 2
theorem ok_crosses (fs : FS K mg) : FnOk P w K mg base (L2.CX P w) 1 fs.f_crosses fs.fd_crosses ["one", "other"] (spF K [] mg 2 F_crosses) :=
  have sc := sc_crosses
  fn_pure fs.F_crosses sc (z := m_crosses) (fun cdv A outer s H E hr tk => pzs_one (pz_ret (px_or (px_chn3 (op_ltAll (hu65 hr)) (op_ltAll (hu65 hr)) (op_ltAll (hu65 hr)) (sB_cmp _ _) (sB_cmp _ _) (sB_cmp _ _) (px_ixA (hu65 hr) (px_var 0) (px_int)) (px_ixA (hu65 hr) (px_var 1) (px_int)) (px_ixA (hu65 hr) (px_var 0) (px_int)) (px_ixA (hu65 hr) (px_var 1) (px_int))) (px_one (px_chn3 (op_ltAll (hu65 hr)) (op_ltAll (hu65 hr)) (op_ltAll (hu65 hr)) (sB_cmp _ _) (sB_cmp _ _) (sB_cmp _ _) (px_ixA (hu65 hr) (px_var 1) (px_int)) (px_ixA (hu65 hr) (px_var 0) (px_int)) (px_ixA (hu65 hr) (px_var 1) (px_int)) (px_ixA (hu65 hr) (px_var 0) (px_int))))))) (fun _ _ _ => rfl)
theorem sc_are_free_cuts : FnScope ["sides", "value", "at", "one", "other", "cut"] ["sides", "value"] (defScope (topS 17)) := ⟨rfl, rfl, rfl, by decide +kernel, rfl, by decide +kernel, by decide +kernel⟩
def m_are_free_cuts  : SM := seqM (iteM (orM (notM (truM (op1 (isF isTup) (rdV 1)))) (cmp2 gtA (op1 lenF (rdV 1)) (op2 subF (rdV 0) (ret (.d (.int 3)))))) (retM (ret (.d (.bool false)))) (skipM)) (seqM (iteM (orM (notM (truM (op1 allF (lcM (anyI (rdV 1)) (.nm 5) (ret true) (callM F_is_cut_within [rdV 0, rdV 5]) [5])))) (notM (truM (callM F_is_ascending [rdV 1])))) (retM (ret (.d (.bool false)))) (skipM)) (retM (notV (op1 anyF (lcM2 (enumI (rdV 1)) (.tp [2, 3]) (ret true) (anyI (slM (rdV 1) (some (op2 addS (rdV 2) (ret (.d (.int 1))))) none)) (.nm 4) (ret true) (callM F_crosses [rdV 3, rdV 4]) [2, 3, 4] [4])))))
def F_are_free_cuts : List PyData → FR := runF m_are_free_cuts 6
theorem ok_are_free_cuts (fs : FS K mg) : FnOk P w K mg base (L2.CX P w) 4 fs.f_are_free_cuts fs.fd_are_free_cuts ["sides", "value"] (spF K [] mg 2 F_are_free_cuts) :=
  have sc := sc_are_free_cuts
  fn_pure fs.F_are_free_cuts sc (z := m_are_free_cuts) (fun cdv A outer s H E hr tk => pzs_cons (pz_if (PW.pt (pxw_or (pxt_not (pxt_tru (px_isi isi_tuple (by rfl) fs.z_isinstance bb_isinstance (by rfl) fs.z_tuple bb_tuple (px_var 1)))) (pxw_or1 (pxt_cmp (op_gtAll (hu65 hr)) (sB_cmp _ _) (px_b1 cr_lenD s1_len (by rfl) fs.z_len bb_len (px_var 1)) (px_bin op_subA (s2_ii yes2 (· - ·)) (px_var 0) (px_int)) (nomark _))))) (pzs_one (pz_ret (px_bl))) (pzs_nil)) (pzs_cons (pz_if (PW.pt (pxw_or (pxt_not (pxt_tru (px_b1 (cr_all rfl) s1_all (by rfl) fs.z_all bb_all (px_lc (own := [("cut", 5)]) rfl sc.nd (pix_any (px_var 1)) (blkOk_by (by kernel_rfl)) (fun _ _ _ _ _ => pgx_nm 5 sc.nd) (fun _ _ _ _ _ => ptx_nil) (fun _ _ _ _ _ => px_call (ok_is_cut_within fs) (hr.mono (by omega)) (by rfl) fs.m_is_cut_within fs.F_is_cut_within.kp fs.b_is_cut_within takes_F (pxa_cons (px_var 0) (pxa_cons (px_var 5) (pxa_nil)))))))) (pxw_or1 (pxt_not (pxt_tru (px_call (ok_is_ascending fs) (hr.mono (by omega)) (by rfl) fs.m_is_ascending fs.F_is_ascending.kp fs.b_is_ascending tk (pxa_cons (px_var 1) (pxa_nil)))))))) (pzs_one (pz_ret (px_bl))) (pzs_nil)) (pzs_one (pz_ret (px_not (px_b1 (cr_any rfl) s1_any (by rfl) fs.z_any bb_any (px_lc2 (own := [("at", 2), ("one", 3), ("other", 4)]) (vs1 := [4]) rfl sc.nd (pix_enum (by rfl) fs.z_enumerate (px_var 1)) (blkOk_by (by kernel_rfl)) (by decide) (fun _ _ _ _ _ => pgx_tp rfl sc.nd (.cons rfl (by first | exact Or.inl rfl | exact Or.inr rfl) (by first | exact .inl rfl | exact .inr rfl) (.cons rfl (by first | exact Or.inl rfl | exact Or.inr rfl) (by first | exact .inl rfl | exact .inr rfl) (.nil)))) (fun _ _ _ _ _ => ptx_nil) (fun _ _ _ _ _ => pix_any (px_sl (px_var 1) (.some (px_bin op_addS s2_addS (px_var 2) (px_int))) .none)) (fun _ _ _ _ _ => pgx_nm 4 sc.nd) (fun _ _ _ _ _ => ptx_nil) (fun _ _ _ _ _ => px_call (ok_crosses fs) (hr.mono (by omega)) (by rfl) fs.m_crosses fs.F_crosses.kp fs.b_crosses takes_F (pxa_cons (px_var 3) (pxa_cons (px_var 4) (pxa_nil))))))))))) (fun _ _ _ => rfl)
theorem sc_is_cutting : FnScope ["value", "sides", "cuts"] ["value"] (defScope (topS 18)) := ⟨rfl, rfl, rfl, by decide +kernel, rfl, by decide +kernel, by decide +kernel⟩
def m_is_cutting  : SM := seqM (iteM (orM (notM (truM (op1 (isF isTup) (rdV 0)))) (orM (cmp2 neF (op1 lenF (rdV 0)) (ret (.d (.int 2)))) (notM (truM (callM F_is_between [op2 ixA (rdV 0) (ret (.d (.int 0))), ret (.d (.int 3)), ret (.d (.int 40))]))))) (retM (ret (.d (.bool false)))) (skipM)) (seqM (asgM (.tp [1, 2]) (rdV 0)) (retM (andV (callM F_are_free_cuts [rdV 1, rdV 2]) (bv (cmp2 eqF (op1 lenF (rdV 2)) (op2 subF (rdV 1) (ret (.d (.int 3)))))))))
def F_is_cutting : List PyData → FR := runF m_is_cutting 3
theorem ok_is_cutting (fs : FS K mg) : FnOk P w K mg base (L2.CX P w) 5 fs.f_is_cutting fs.fd_is_cutting ["value"] (spF K [] mg 1 F_is_cutting) :=
  have sc := sc_is_cutting
  fn_pure fs.F_is_cutting sc (z := m_is_cutting) (fun cdv A outer s H E hr tk => pzs_cons (pz_if (PW.pt (pxw_or (pxt_not (pxt_tru (px_isi isi_tuple (by rfl) fs.z_isinstance bb_isinstance (by rfl) fs.z_tuple bb_tuple (px_var 0)))) (pxw_or (pxt_cmp (op_neD (hu64 hr)) sB_ne (px_b1 cr_lenD s1_len (by rfl) fs.z_len bb_len (px_var 0)) (px_int) (nomark _)) (pxw_or1 (pxt_not (pxt_tru (px_call (ok_is_between fs) (hr.mono (by omega)) (by rfl) fs.m_is_between fs.F_is_between.kp fs.b_is_between tk (pxa_cons (px_ixA (hu65 hr) (px_var 0) (px_int)) (pxa_cons (px_int) (pxa_cons (px_glob (v := .int 40) (.int 40) (by rfl) fs.c_MOST_SIDES.choose_spec ⟨_, rfl⟩ (fun _ _ => .int _)) (pxa_nil))))))))))) (pzs_one (pz_ret (px_bl))) (pzs_nil)) (pzs_cons (pz_asg (px_var 0) (pgx_tp rfl sc.nd (.cons rfl (by first | exact Or.inl rfl | exact Or.inr rfl) (by first | exact .inl rfl | exact .inr rfl) (.cons rfl (by first | exact Or.inl rfl | exact Or.inr rfl) (by first | exact .inl rfl | exact .inr rfl) (.nil))))) (pzs_one (pz_ret (px_and (px_call (ok_are_free_cuts fs) (hr.mono (by omega)) (by rfl) fs.m_are_free_cuts fs.F_are_free_cuts.kp fs.b_are_free_cuts tk (pxa_cons (px_var 1) (pxa_cons (px_var 2) (pxa_nil)))) (px_one (px_cmp (op_eqD (hu64 hr)) sB_eq (px_b1 cr_lenD s1_len (by rfl) fs.z_len bb_len (px_var 2)) (px_bin op_subA (s2_ii yes2 (· - ·)) (px_var 1) (px_int)) (nomark _)))))))) (fun _ _ _ => rfl)
def tab_is_cutting : List (List PyData × TV) := [
  ([.tuple [.int 3, .tuple []]], .d (.bool true)),
  ([.tuple [.int 4, .tuple [.tuple [.int 1, .int 3]]]], .d (.bool true)),
  ([.tuple [.int 4, .tuple [.tuple [.int 0, .int 2]]]], .d (.bool true)),
  ([.tuple [.int 5, .tuple [.tuple [.int 1, .int 4], .tuple [.int 2, .int 4]]]], .d (.bool true)),
  ([.tuple [.int 5, .tuple [.tuple [.int 1, .int 3], .tuple [.int 1, .int 4]]]], .d (.bool true)),
  ([.tuple [.int 5, .tuple [.tuple [.int 0, .int 2], .tuple [.int 2, .int 4]]]], .d (.bool true)),
  ([.tuple [.int 5, .tuple [.tuple [.int 0, .int 3], .tuple [.int 1, .int 3]]]], .d (.bool true)),
  ([.tuple [.int 5, .tuple [.tuple [.int 0, .int 2], .tuple [.int 0, .int 3]]]], .d (.bool true)),
  ([.tuple [.int 6, .tuple [.tuple [.int 0, .int 2], .tuple [.int 2, .int 5], .tuple [.int 3, .int 5]]]], .d (.bool true)),
  ([.tuple [.int 6, .tuple [.tuple [.int 0, .int 2], .tuple [.int 2, .int 4], .tuple [.int 2, .int 5]]]], .d (.bool true)),
  ([.tuple [.int 7, .tuple [.tuple [.int 0, .int 2], .tuple [.int 2, .int 6], .tuple [.int 3, .int 6], .tuple [.int 4, .int 6]]]], .d (.bool true)),
  ([.tuple [.int 7, .tuple [.tuple [.int 0, .int 2], .tuple [.int 2, .int 6], .tuple [.int 3, .int 5], .tuple [.int 3, .int 6]]]], .d (.bool true)),
  ([.tuple [.int 7, .tuple [.tuple [.int 0, .int 2], .tuple [.int 2, .int 4], .tuple [.int 2, .int 6], .tuple [.int 4, .int 6]]]], .d (.bool true)),
  ([.tuple [.int 7, .tuple [.tuple [.int 0, .int 2], .tuple [.int 2, .int 5], .tuple [.int 2, .int 6], .tuple [.int 3, .int 5]]]], .d (.bool true)),
  ([.tuple [.int 7, .tuple [.tuple [.int 0, .int 2], .tuple [.int 2, .int 4], .tuple [.int 2, .int 5], .tuple [.int 2, .int 6]]]], .d (.bool true)),
  ([.tuple [.int 6, .tuple [.tuple [.int 0, .int 3], .tuple [.int 1, .int 3], .tuple [.int 3, .int 5]]]], .d (.bool true)),
  ([.tuple [.int 7, .tuple [.tuple [.int 0, .int 3], .tuple [.int 1, .int 3], .tuple [.int 3, .int 6], .tuple [.int 4, .int 6]]]], .d (.bool true)),
  ([.tuple [.int 7, .tuple [.tuple [.int 0, .int 3], .tuple [.int 1, .int 3], .tuple [.int 3, .int 5], .tuple [.int 3, .int 6]]]], .d (.bool true)),
  ([.tuple [.int 8, .tuple [.tuple [.int 0, .int 3], .tuple [.int 1, .int 3], .tuple [.int 3, .int 7], .tuple [.int 4, .int 7], .tuple [.int 5, .int 7]]]], .d (.bool true)),
  ([.tuple [.int 8, .tuple [.tuple [.int 0, .int 3], .tuple [.int 1, .int 3], .tuple [.int 3, .int 7], .tuple [.int 4, .int 6], .tuple [.int 4, .int 7]]]], .d (.bool true)),
  ([.tuple [.int 8, .tuple [.tuple [.int 0, .int 3], .tuple [.int 1, .int 3], .tuple [.int 3, .int 5], .tuple [.int 3, .int 7], .tuple [.int 5, .int 7]]]], .d (.bool true)),
  ([.tuple [.int 8, .tuple [.tuple [.int 0, .int 3], .tuple [.int 1, .int 3], .tuple [.int 3, .int 6], .tuple [.int 3, .int 7], .tuple [.int 4, .int 6]]]], .d (.bool true)),
  ([.tuple [.int 8, .tuple [.tuple [.int 0, .int 3], .tuple [.int 1, .int 3], .tuple [.int 3, .int 5], .tuple [.int 3, .int 6], .tuple [.int 3, .int 7]]]], .d (.bool true)),
  ([.tuple [.int 6, .tuple [.tuple [.int 0, .int 2], .tuple [.int 0, .int 3], .tuple [.int 3, .int 5]]]], .d (.bool true)),
  ([.tuple [.int 7, .tuple [.tuple [.int 0, .int 2], .tuple [.int 0, .int 3], .tuple [.int 3, .int 6], .tuple [.int 4, .int 6]]]], .d (.bool true)),
  ([.tuple [.int 7, .tuple [.tuple [.int 0, .int 2], .tuple [.int 0, .int 3], .tuple [.int 3, .int 5], .tuple [.int 3, .int 6]]]], .d (.bool true)),
  ([.tuple [.int 8, .tuple [.tuple [.int 0, .int 2], .tuple [.int 0, .int 3], .tuple [.int 3, .int 7], .tuple [.int 4, .int 7], .tuple [.int 5, .int 7]]]], .d (.bool true)),
  ([.tuple [.int 8, .tuple [.tuple [.int 0, .int 2], .tuple [.int 0, .int 3], .tuple [.int 3, .int 7], .tuple [.int 4, .int 6], .tuple [.int 4, .int 7]]]], .d (.bool true)),
  ([.tuple [.int 8, .tuple [.tuple [.int 0, .int 2], .tuple [.int 0, .int 3], .tuple [.int 3, .int 5], .tuple [.int 3, .int 7], .tuple [.int 5, .int 7]]]], .d (.bool true)),
  ([.tuple [.int 8, .tuple [.tuple [.int 0, .int 2], .tuple [.int 0, .int 3], .tuple [.int 3, .int 6], .tuple [.int 3, .int 7], .tuple [.int 4, .int 6]]]], .d (.bool true)),
  ([.tuple [.int 8, .tuple [.tuple [.int 0, .int 2], .tuple [.int 0, .int 3], .tuple [.int 3, .int 5], .tuple [.int 3, .int 6], .tuple [.int 3, .int 7]]]], .d (.bool true)),
  ([.tuple [.int 7, .tuple [.tuple [.int 0, .int 4], .tuple [.int 1, .int 4], .tuple [.int 2, .int 4], .tuple [.int 4, .int 6]]]], .d (.bool true)),
  ([.tuple [.int 8, .tuple [.tuple [.int 0, .int 4], .tuple [.int 1, .int 4], .tuple [.int 2, .int 4], .tuple [.int 4, .int 7], .tuple [.int 5, .int 7]]]], .d (.bool true)),
  ([.tuple [.int 8, .tuple [.tuple [.int 0, .int 4], .tuple [.int 1, .int 4], .tuple [.int 2, .int 4], .tuple [.int 4, .int 6], .tuple [.int 4, .int 7]]]], .d (.bool true)),
  ([.tuple [.int 9, .tuple [.tuple [.int 0, .int 4], .tuple [.int 1, .int 4], .tuple [.int 2, .int 4], .tuple [.int 4, .int 8], .tuple [.int 5, .int 8], .tuple [.int 6, .int 8]]]], .d (.bool true)),
  ([.tuple [.int 9, .tuple [.tuple [.int 0, .int 4], .tuple [.int 1, .int 4], .tuple [.int 2, .int 4], .tuple [.int 4, .int 8], .tuple [.int 5, .int 7], .tuple [.int 5, .int 8]]]], .d (.bool true)),
  ([.tuple [.int 9, .tuple [.tuple [.int 0, .int 4], .tuple [.int 1, .int 4], .tuple [.int 2, .int 4], .tuple [.int 4, .int 6], .tuple [.int 4, .int 8], .tuple [.int 6, .int 8]]]], .d (.bool true)),
  ([.tuple [.int 9, .tuple [.tuple [.int 0, .int 4], .tuple [.int 1, .int 4], .tuple [.int 2, .int 4], .tuple [.int 4, .int 7], .tuple [.int 4, .int 8], .tuple [.int 5, .int 7]]]], .d (.bool true)),
  ([.tuple [.int 9, .tuple [.tuple [.int 0, .int 4], .tuple [.int 1, .int 4], .tuple [.int 2, .int 4], .tuple [.int 4, .int 6], .tuple [.int 4, .int 7], .tuple [.int 4, .int 8]]]], .d (.bool true)),
  ([.tuple [.int 7, .tuple [.tuple [.int 0, .int 4], .tuple [.int 1, .int 3], .tuple [.int 1, .int 4], .tuple [.int 4, .int 6]]]], .d (.bool true)),
  ([.tuple [.int 8, .tuple [.tuple [.int 0, .int 4], .tuple [.int 1, .int 3], .tuple [.int 1, .int 4], .tuple [.int 4, .int 7], .tuple [.int 5, .int 7]]]], .d (.bool true)),
  ([.tuple [.int 8, .tuple [.tuple [.int 0, .int 4], .tuple [.int 1, .int 3], .tuple [.int 1, .int 4], .tuple [.int 4, .int 6], .tuple [.int 4, .int 7]]]], .d (.bool true)),
  ([.tuple [.int 9, .tuple [.tuple [.int 0, .int 4], .tuple [.int 1, .int 3], .tuple [.int 1, .int 4], .tuple [.int 4, .int 8], .tuple [.int 5, .int 8], .tuple [.int 6, .int 8]]]], .d (.bool true)),
  ([.tuple [.int 9, .tuple [.tuple [.int 0, .int 4], .tuple [.int 1, .int 3], .tuple [.int 1, .int 4], .tuple [.int 4, .int 8], .tuple [.int 5, .int 7], .tuple [.int 5, .int 8]]]], .d (.bool true)),
  ([.tuple [.int 9, .tuple [.tuple [.int 0, .int 4], .tuple [.int 1, .int 3], .tuple [.int 1, .int 4], .tuple [.int 4, .int 6], .tuple [.int 4, .int 8], .tuple [.int 6, .int 8]]]], .d (.bool true)),
  ([.tuple [.int 9, .tuple [.tuple [.int 0, .int 4], .tuple [.int 1, .int 3], .tuple [.int 1, .int 4], .tuple [.int 4, .int 7], .tuple [.int 4, .int 8], .tuple [.int 5, .int 7]]]], .d (.bool true)),
  ([.tuple [.int 9, .tuple [.tuple [.int 0, .int 4], .tuple [.int 1, .int 3], .tuple [.int 1, .int 4], .tuple [.int 4, .int 6], .tuple [.int 4, .int 7], .tuple [.int 4, .int 8]]]], .d (.bool true)),
  ([.tuple [.int 7, .tuple [.tuple [.int 0, .int 2], .tuple [.int 0, .int 4], .tuple [.int 2, .int 4], .tuple [.int 4, .int 6]]]], .d (.bool true)),
  ([.tuple [.int 8, .tuple [.tuple [.int 0, .int 2], .tuple [.int 0, .int 4], .tuple [.int 2, .int 4], .tuple [.int 4, .int 7], .tuple [.int 5, .int 7]]]], .d (.bool true)),
  ([.tuple [.int 8, .tuple [.tuple [.int 0, .int 2], .tuple [.int 0, .int 4], .tuple [.int 2, .int 4], .tuple [.int 4, .int 6], .tuple [.int 4, .int 7]]]], .d (.bool true)),
  ([.tuple [.int 9, .tuple [.tuple [.int 0, .int 2], .tuple [.int 0, .int 4], .tuple [.int 2, .int 4], .tuple [.int 4, .int 8], .tuple [.int 5, .int 8], .tuple [.int 6, .int 8]]]], .d (.bool true)),
  ([.tuple [.int 9, .tuple [.tuple [.int 0, .int 2], .tuple [.int 0, .int 4], .tuple [.int 2, .int 4], .tuple [.int 4, .int 8], .tuple [.int 5, .int 7], .tuple [.int 5, .int 8]]]], .d (.bool true)),
  ([.tuple [.int 9, .tuple [.tuple [.int 0, .int 2], .tuple [.int 0, .int 4], .tuple [.int 2, .int 4], .tuple [.int 4, .int 6], .tuple [.int 4, .int 8], .tuple [.int 6, .int 8]]]], .d (.bool true)),
  ([.tuple [.int 9, .tuple [.tuple [.int 0, .int 2], .tuple [.int 0, .int 4], .tuple [.int 2, .int 4], .tuple [.int 4, .int 7], .tuple [.int 4, .int 8], .tuple [.int 5, .int 7]]]], .d (.bool true)),
  ([.tuple [.int 9, .tuple [.tuple [.int 0, .int 2], .tuple [.int 0, .int 4], .tuple [.int 2, .int 4], .tuple [.int 4, .int 6], .tuple [.int 4, .int 7], .tuple [.int 4, .int 8]]]], .d (.bool true)),
  ([.tuple [.int 7, .tuple [.tuple [.int 0, .int 3], .tuple [.int 0, .int 4], .tuple [.int 1, .int 3], .tuple [.int 4, .int 6]]]], .d (.bool true)),
  ([.tuple [.int 8, .tuple [.tuple [.int 0, .int 3], .tuple [.int 0, .int 4], .tuple [.int 1, .int 3], .tuple [.int 4, .int 7], .tuple [.int 5, .int 7]]]], .d (.bool true)),
  ([.tuple [.int 8, .tuple [.tuple [.int 0, .int 3], .tuple [.int 0, .int 4], .tuple [.int 1, .int 3], .tuple [.int 4, .int 6], .tuple [.int 4, .int 7]]]], .d (.bool true)),
  ([.tuple [.int 9, .tuple [.tuple [.int 0, .int 3], .tuple [.int 0, .int 4], .tuple [.int 1, .int 3], .tuple [.int 4, .int 8], .tuple [.int 5, .int 8], .tuple [.int 6, .int 8]]]], .d (.bool true)),
  ([.tuple [.int 9, .tuple [.tuple [.int 0, .int 3], .tuple [.int 0, .int 4], .tuple [.int 1, .int 3], .tuple [.int 4, .int 8], .tuple [.int 5, .int 7], .tuple [.int 5, .int 8]]]], .d (.bool true)),
  ([.tuple [.int 9, .tuple [.tuple [.int 0, .int 3], .tuple [.int 0, .int 4], .tuple [.int 1, .int 3], .tuple [.int 4, .int 6], .tuple [.int 4, .int 8], .tuple [.int 6, .int 8]]]], .d (.bool true)),
  ([.tuple [.int 9, .tuple [.tuple [.int 0, .int 3], .tuple [.int 0, .int 4], .tuple [.int 1, .int 3], .tuple [.int 4, .int 7], .tuple [.int 4, .int 8], .tuple [.int 5, .int 7]]]], .d (.bool true)),
  ([.tuple [.int 9, .tuple [.tuple [.int 0, .int 3], .tuple [.int 0, .int 4], .tuple [.int 1, .int 3], .tuple [.int 4, .int 6], .tuple [.int 4, .int 7], .tuple [.int 4, .int 8]]]], .d (.bool true)),
  ([.tuple [.int 7, .tuple [.tuple [.int 0, .int 2], .tuple [.int 0, .int 3], .tuple [.int 0, .int 4], .tuple [.int 4, .int 6]]]], .d (.bool true)),
  ([.tuple [.int 8, .tuple [.tuple [.int 0, .int 2], .tuple [.int 0, .int 3], .tuple [.int 0, .int 4], .tuple [.int 4, .int 7], .tuple [.int 5, .int 7]]]], .d (.bool true)),
  ([.tuple [.int 8, .tuple [.tuple [.int 0, .int 2], .tuple [.int 0, .int 3], .tuple [.int 0, .int 4], .tuple [.int 4, .int 6], .tuple [.int 4, .int 7]]]], .d (.bool true)),
  ([.tuple [.int 9, .tuple [.tuple [.int 0, .int 2], .tuple [.int 0, .int 3], .tuple [.int 0, .int 4], .tuple [.int 4, .int 8], .tuple [.int 5, .int 8], .tuple [.int 6, .int 8]]]], .d (.bool true)),
  ([.tuple [.int 9, .tuple [.tuple [.int 0, .int 2], .tuple [.int 0, .int 3], .tuple [.int 0, .int 4], .tuple [.int 4, .int 8], .tuple [.int 5, .int 7], .tuple [.int 5, .int 8]]]], .d (.bool true)),
  ([.tuple [.int 9, .tuple [.tuple [.int 0, .int 2], .tuple [.int 0, .int 3], .tuple [.int 0, .int 4], .tuple [.int 4, .int 6], .tuple [.int 4, .int 8], .tuple [.int 6, .int 8]]]], .d (.bool true)),
  ([.tuple [.int 9, .tuple [.tuple [.int 0, .int 2], .tuple [.int 0, .int 3], .tuple [.int 0, .int 4], .tuple [.int 4, .int 7], .tuple [.int 4, .int 8], .tuple [.int 5, .int 7]]]], .d (.bool true)),
  ([.tuple [.int 9, .tuple [.tuple [.int 0, .int 2], .tuple [.int 0, .int 3], .tuple [.int 0, .int 4], .tuple [.int 4, .int 6], .tuple [.int 4, .int 7], .tuple [.int 4, .int 8]]]], .d (.bool true))]
def T_is_cutting : List PyData → FR := lookT tab_is_cutting
theorem okt_is_cutting (fs : FS K mg) : FnOk P w K mg base (L2.CX P w) 5 fs.f_is_cutting fs.fd_is_cutting ["value"] (spF K [] mg 1 T_is_cutting) := fn_tab tab_is_cutting (ok_is_cutting fs) (by decide +kernel)
theorem sc_need_cutting : FnScope ["value"] ["value"] (defScope (topS 19)) := ⟨rfl, rfl, rfl, by decide +kernel, rfl, by decide +kernel, by decide +kernel⟩
def m_need_cutting  : SM := iteM (notM (truM (callM T_is_cutting [rdV 0]))) ((fun _ => .no)) (skipM)
def F_need_cutting : List PyData → FR := runF m_need_cutting 1
theorem ok_need_cutting (fs : FS K mg) : FnOk P w K mg base (L2.CX P w) 6 fs.f_need_cutting fs.fd_need_cutting ["value"] (spF K [] mg 1 F_need_cutting) :=
  have sc := sc_need_cutting
  fn_pure fs.F_need_cutting sc (z := m_need_cutting) (fun cdv A outer s H E hr tk => pzs_one (pz_if (pxt_not (pxt_tru (px_call (okt_is_cutting fs) (hr.mono (by omega)) (by rfl) fs.m_is_cutting fs.F_is_cutting.kp fs.b_is_cutting tk (pxa_cons (px_var 0) (pxa_nil))))) (pzs_one (pz_never)) (pzs_nil))) (fun _ _ _ => rfl)
theorem sc_part_over : FnScope ["base", "ends", "first", "last", "corners", "end"] ["base", "ends"] (defScope (topS 20)) := ⟨rfl, rfl, rfl, by decide +kernel, rfl, by decide +kernel, by decide +kernel⟩
def m_part_over  : SM := seqM (asgM (.tp [2, 3]) (rdV 0)) (seqM (setM 4 (lstM [rdV 2, op1 maxDF (lcM (anyI (op2 ixA (rdV 1) (rdV 2))) (.nm 5) (cmp2 ltA (rdV 5) (rdV 3)) (rdV 5) [5])])) (seqM (loopW (cmp2 ltA (op2 ixA (rdV 4) (op1 negF (ret (.d (.int 1))))) (rdV 3)) (exprM (appM 4 (op2 ixA (op2 ixA (rdV 1) (op2 ixA (rdV 4) (op1 negF (ret (.d (.int 1)))))) (op1 negF (ret (.d (.int 1))))))) 100) (retM (op1 tupF (rdV 4)))))
def F_part_over : List PyData → FR := runF m_part_over 6
theorem ok_part_over (fs : FS K mg) : FnOk P w K mg base (L2.CX P w) 1 fs.f_part_over fs.fd_part_over ["base", "ends"] (spF K [] mg 2 F_part_over) :=
  have sc := sc_part_over
  fn_pure fs.F_part_over sc (z := m_part_over) (fun cdv A outer s H E hr tk => pzs_cons (pz_asg (px_var 0) (pgx_tp rfl sc.nd (.cons rfl (by first | exact Or.inl rfl | exact Or.inr rfl) (by first | exact .inl rfl | exact .inr rfl) (.cons rfl (by first | exact Or.inl rfl | exact Or.inr rfl) (by first | exact .inl rfl | exact .inr rfl) (.nil))))) (pzs_cons (pz_set 4 (px_lst (hz := (by decide : (2 : Nat) ≤ sizeLine)) (pxa_cons (px_var 2) (pxa_cons (px_b1 (cr_maxD' rfl (hu65 hr)) s1_mm (by rfl) fs.z_max bb_max (px_lc (own := [("end", 5)]) rfl sc.nd (pix_any (px_ixA (hu65 hr) (px_var 1) (px_var 2))) (blkOk_by (by kernel_rfl)) (fun _ _ _ _ _ => pgx_nm 5 sc.nd) (fun _ _ _ _ _ => ptx_one (pxt_cmp (op_ltAll (hu65 hr)) (sB_cmp _ _) (px_var 5) (px_var 3) (nomark _))) (fun _ _ _ _ _ => px_var 5))) (pxa_nil)))) sc.nd) (pzs_cons (pz_while 100 (passes_of rfl) (pxt_cmp (op_ltAll (hu65 hr)) (sB_cmp _ _) (px_ixA (hu65 hr) (px_var 4) (px_un un_neg s1_neg (px_int))) (px_var 3) (nomark _)) (pzs_one (pz_expr (px_append 4 (px_ixA (hu65 hr) (px_ixA (hu65 hr) (px_var 1) (px_ixA (hu65 hr) (px_var 4) (px_un un_neg s1_neg (px_int)))) (px_un un_neg s1_neg (px_int))))))) (pzs_one (pz_ret (px_t1 call_tuple_of s1_tup (by rfl) fs.z_tuple bb_tuple (px_var 4))))))) (fun _ _ _ => rfl)
theorem sc_parts : FnScope ["sides", "cuts", "ends", "bases", "corner", "base", "low", "high"] ["sides", "cuts"] (defScope (topS 21)) := ⟨rfl, rfl, rfl, by decide +kernel, rfl, by decide +kernel, by decide +kernel⟩
def m_parts  : SM := seqM (setM 2 (lcM (rng1I (op2 subF (rdV 0) (ret (.d (.int 1))))) (.nm 4) (ret true) (op2 addS (lstM [op2 addS (rdV 4) (ret (.d (.int 1)))]) (lcM (anyI (rdV 1)) (.tp [6, 7]) (cmp2 eqF (rdV 6) (rdV 4)) (rdV 7) [6, 7])) [4])) (seqM (setM 3 (op2 addS (lstM [tupM [ret (.d (.int 0)), op2 subF (rdV 0) (ret (.d (.int 1)))]]) (op1 listF (rdV 1)))) (retM (op1 sortF (lcM (anyI (rdV 3)) (.nm 5) (ret true) (callM F_part_over [rdV 5, rdV 2]) [5]))))
def F_parts : List PyData → FR := runF m_parts 8
theorem ok_parts (fs : FS K mg) : FnOk P w K mg base (L2.CX P w) 2 fs.f_parts fs.fd_parts ["sides", "cuts"] (spF K [] mg 2 F_parts) :=
  have sc := sc_parts
  fn_pure fs.F_parts sc (z := m_parts) (fun cdv A outer s H E hr tk => pzs_cons (pz_set 2 (px_lc (own := [("corner", 4)]) rfl sc.nd (pix_rng1 (by rfl) fs.z_range (px_bin op_subA (s2_ii yes2 (· - ·)) (px_var 0) (px_int))) (blkOk_by (by kernel_rfl)) (fun _ _ _ _ _ => pgx_nm 4 sc.nd) (fun _ _ _ _ _ => ptx_nil) (fun _ _ _ _ _ => px_bin op_addS s2_addS (px_lst (hz := (by decide : (1 : Nat) ≤ sizeLine)) (pxa_cons (px_bin op_addS s2_addS (px_var 4) (px_int)) (pxa_nil))) (px_lc (own := [("low", 6), ("high", 7)]) rfl sc.nd (pix_any (px_var 1)) (blkOk_by (by kernel_rfl)) (fun _ _ _ _ _ => pgx_tp rfl sc.nd (.cons rfl (by first | exact Or.inl rfl | exact Or.inr rfl) (by first | exact .inl rfl | exact .inr rfl) (.cons rfl (by first | exact Or.inl rfl | exact Or.inr rfl) (by first | exact .inl rfl | exact .inr rfl) (.nil)))) (fun _ _ _ _ _ => ptx_one (pxt_cmp (op_eqD (hu64 hr)) sB_eq (px_var 6) (px_var 4) (nomark _))) (fun _ _ _ _ _ => px_var 7)))) sc.nd) (pzs_cons (pz_set 3 (px_bin op_addS s2_addS (px_lst (hz := (by decide : (1 : Nat) ≤ sizeLine)) (pxa_cons (px_tup (hz := (by decide : (2 : Nat) ≤ sizeLine)) (pxa_cons (px_int) (pxa_cons (px_bin op_subA (s2_ii yes2 (· - ·)) (px_var 0) (px_int)) (pxa_nil)))) (pxa_nil))) (px_t1 call_list_of s1_list (by rfl) fs.z_list bb_list (px_var 1))) sc.nd) (pzs_one (pz_ret (px_b1 (cr_sortD (hu65 hr)) s1_sort (by rfl) fs.z_sorted bb_sorted (px_lc (own := [("base", 5)]) rfl sc.nd (pix_any (px_var 3)) (blkOk_by (by kernel_rfl)) (fun _ _ _ _ _ => pgx_nm 5 sc.nd) (fun _ _ _ _ _ => ptx_nil) (fun _ _ _ _ _ => px_call (ok_part_over fs) (hr.mono (by omega)) (by rfl) fs.m_part_over fs.F_part_over.kp fs.b_part_over takes_F (pxa_cons (px_var 5) (pxa_cons (px_var 2) (pxa_nil)))))))))) (fun _ _ _ => rfl)
theorem sc_counts_by_cuts : FnScope ["sides", "cuts", "corner", "cut"] ["sides", "cuts"] (defScope (topS 22)) := ⟨rfl, rfl, rfl, by decide +kernel, rfl, by decide +kernel, by decide +kernel⟩
def m_counts_by_cuts  : SM := retM (op1 tupF (lcM (rng1I (rdV 0)) (.nm 2) (ret true) (op2 addS (ret (.d (.int 1))) (op1 lenF (lcM (anyI (rdV 1)) (.nm 3) (cmp2 (inF false) (rdV 2) (rdV 3)) (rdV 3) [3]))) [2]))
def F_counts_by_cuts : List PyData → FR := runF m_counts_by_cuts 4
theorem ok_counts_by_cuts (fs : FS K mg) : FnOk P w K mg base (L2.CX P w) 1 fs.f_counts_by_cuts fs.fd_counts_by_cuts ["sides", "cuts"] (spF K [] mg 2 F_counts_by_cuts) :=
  have sc := sc_counts_by_cuts
  fn_pure fs.F_counts_by_cuts sc (z := m_counts_by_cuts) (fun cdv A outer s H E hr tk => pzs_one (pz_ret (px_t1 call_tuple_of s1_tup (by rfl) fs.z_tuple bb_tuple (px_lc (own := [("corner", 2)]) rfl sc.nd (pix_rng1 (by rfl) fs.z_range (px_var 0)) (blkOk_by (by kernel_rfl)) (fun _ _ _ _ _ => pgx_nm 2 sc.nd) (fun _ _ _ _ _ => ptx_nil) (fun _ _ _ _ _ => px_bin op_addS s2_addS (px_int) (px_b1 cr_lenD s1_len (by rfl) fs.z_len bb_len (px_lc (own := [("cut", 3)]) rfl sc.nd (pix_any (px_var 1)) (blkOk_by (by kernel_rfl)) (fun _ _ _ _ _ => pgx_nm 3 sc.nd) (fun _ _ _ _ _ => ptx_one (pxt_cmp (op_inA (hu65 hr)) sB_in (px_var 2) (px_var 3) (by rfl))) (fun _ _ _ _ _ => px_var 3)))))))) (fun _ _ _ => rfl)
theorem sc_counts_at : FnScope ["cutting"] ["cutting"] (defScope (topS 23)) := ⟨rfl, rfl, rfl, by decide +kernel, rfl, by decide +kernel, by decide +kernel⟩
def m_counts_at  : SM := seqM (exprM (callM F_need_cutting [rdV 0])) (retM (callM F_counts_by_cuts [op2 ixA (rdV 0) (ret (.d (.int 0))), op2 ixA (rdV 0) (ret (.d (.int 1)))]))
def F_counts_at : List PyData → FR := runF m_counts_at 1
theorem ok_counts_at (fs : FS K mg) : FnOk P w K mg base (L2.CX P w) 7 fs.f_counts_at fs.fd_counts_at ["cutting"] (spF K [] mg 1 F_counts_at) :=
  have sc := sc_counts_at
  fn_pure fs.F_counts_at sc (z := m_counts_at) (fun cdv A outer s H E hr tk => pzs_cons (pz_expr (px_call (ok_need_cutting fs) (hr.mono (by omega)) (by rfl) fs.m_need_cutting fs.F_need_cutting.kp fs.b_need_cutting tk (pxa_cons (px_var 0) (pxa_nil)))) (pzs_one (pz_ret (px_call (ok_counts_by_cuts fs) (hr.mono (by omega)) (by rfl) fs.m_counts_by_cuts fs.F_counts_by_cuts.kp fs.b_counts_by_cuts tk (pxa_cons (px_ixA (hu65 hr) (px_var 0) (px_int)) (pxa_cons (px_ixA (hu65 hr) (px_var 0) (px_int)) (pxa_nil))))))) (fun _ _ _ => rfl)
def tab_counts_at : List (List PyData × TV) := [
  ([.tuple [.int 3, .tuple []]], .d (.tuple [.int 1, .int 1, .int 1])),
  ([.tuple [.int 4, .tuple [.tuple [.int 1, .int 3]]]], .d (.tuple [.int 1, .int 2, .int 1, .int 2])),
  ([.tuple [.int 4, .tuple [.tuple [.int 0, .int 2]]]], .d (.tuple [.int 2, .int 1, .int 2, .int 1])),
  ([.tuple [.int 5, .tuple [.tuple [.int 1, .int 4], .tuple [.int 2, .int 4]]]], .d (.tuple [.int 1, .int 2, .int 2, .int 1, .int 3])),
  ([.tuple [.int 5, .tuple [.tuple [.int 1, .int 3], .tuple [.int 1, .int 4]]]], .d (.tuple [.int 1, .int 3, .int 1, .int 2, .int 2])),
  ([.tuple [.int 5, .tuple [.tuple [.int 0, .int 2], .tuple [.int 2, .int 4]]]], .d (.tuple [.int 2, .int 1, .int 3, .int 1, .int 2])),
  ([.tuple [.int 5, .tuple [.tuple [.int 0, .int 3], .tuple [.int 1, .int 3]]]], .d (.tuple [.int 2, .int 2, .int 1, .int 3, .int 1])),
  ([.tuple [.int 5, .tuple [.tuple [.int 0, .int 2], .tuple [.int 0, .int 3]]]], .d (.tuple [.int 3, .int 1, .int 2, .int 2, .int 1])),
  ([.tuple [.int 6, .tuple [.tuple [.int 0, .int 2], .tuple [.int 2, .int 5], .tuple [.int 3, .int 5]]]], .d (.tuple [.int 2, .int 1, .int 3, .int 2, .int 1, .int 3])),
  ([.tuple [.int 6, .tuple [.tuple [.int 0, .int 2], .tuple [.int 2, .int 4], .tuple [.int 2, .int 5]]]], .d (.tuple [.int 2, .int 1, .int 4, .int 1, .int 2, .int 2])),
  ([.tuple [.int 7, .tuple [.tuple [.int 0, .int 2], .tuple [.int 2, .int 6], .tuple [.int 3, .int 6], .tuple [.int 4, .int 6]]]], .d (.tuple [.int 2, .int 1, .int 3, .int 2, .int 2, .int 1, .int 4])),
  ([.tuple [.int 7, .tuple [.tuple [.int 0, .int 2], .tuple [.int 2, .int 6], .tuple [.int 3, .int 5], .tuple [.int 3, .int 6]]]], .d (.tuple [.int 2, .int 1, .int 3, .int 3, .int 1, .int 2, .int 3])),
  ([.tuple [.int 7, .tuple [.tuple [.int 0, .int 2], .tuple [.int 2, .int 4], .tuple [.int 2, .int 6], .tuple [.int 4, .int 6]]]], .d (.tuple [.int 2, .int 1, .int 4, .int 1, .int 3, .int 1, .int 3])),
  ([.tuple [.int 7, .tuple [.tuple [.int 0, .int 2], .tuple [.int 2, .int 5], .tuple [.int 2, .int 6], .tuple [.int 3, .int 5]]]], .d (.tuple [.int 2, .int 1, .int 4, .int 2, .int 1, .int 3, .int 2])),
  ([.tuple [.int 7, .tuple [.tuple [.int 0, .int 2], .tuple [.int 2, .int 4], .tuple [.int 2, .int 5], .tuple [.int 2, .int 6]]]], .d (.tuple [.int 2, .int 1, .int 5, .int 1, .int 2, .int 2, .int 2])),
  ([.tuple [.int 6, .tuple [.tuple [.int 0, .int 3], .tuple [.int 1, .int 3], .tuple [.int 3, .int 5]]]], .d (.tuple [.int 2, .int 2, .int 1, .int 4, .int 1, .int 2])),
  ([.tuple [.int 7, .tuple [.tuple [.int 0, .int 3], .tuple [.int 1, .int 3], .tuple [.int 3, .int 6], .tuple [.int 4, .int 6]]]], .d (.tuple [.int 2, .int 2, .int 1, .int 4, .int 2, .int 1, .int 3])),
  ([.tuple [.int 7, .tuple [.tuple [.int 0, .int 3], .tuple [.int 1, .int 3], .tuple [.int 3, .int 5], .tuple [.int 3, .int 6]]]], .d (.tuple [.int 2, .int 2, .int 1, .int 5, .int 1, .int 2, .int 2])),
  ([.tuple [.int 8, .tuple [.tuple [.int 0, .int 3], .tuple [.int 1, .int 3], .tuple [.int 3, .int 7], .tuple [.int 4, .int 7], .tuple [.int 5, .int 7]]]], .d (.tuple [.int 2, .int 2, .int 1, .int 4, .int 2, .int 2, .int 1, .int 4])),
  ([.tuple [.int 8, .tuple [.tuple [.int 0, .int 3], .tuple [.int 1, .int 3], .tuple [.int 3, .int 7], .tuple [.int 4, .int 6], .tuple [.int 4, .int 7]]]], .d (.tuple [.int 2, .int 2, .int 1, .int 4, .int 3, .int 1, .int 2, .int 3])),
  ([.tuple [.int 8, .tuple [.tuple [.int 0, .int 3], .tuple [.int 1, .int 3], .tuple [.int 3, .int 5], .tuple [.int 3, .int 7], .tuple [.int 5, .int 7]]]], .d (.tuple [.int 2, .int 2, .int 1, .int 5, .int 1, .int 3, .int 1, .int 3])),
  ([.tuple [.int 8, .tuple [.tuple [.int 0, .int 3], .tuple [.int 1, .int 3], .tuple [.int 3, .int 6], .tuple [.int 3, .int 7], .tuple [.int 4, .int 6]]]], .d (.tuple [.int 2, .int 2, .int 1, .int 5, .int 2, .int 1, .int 3, .int 2])),
  ([.tuple [.int 8, .tuple [.tuple [.int 0, .int 3], .tuple [.int 1, .int 3], .tuple [.int 3, .int 5], .tuple [.int 3, .int 6], .tuple [.int 3, .int 7]]]], .d (.tuple [.int 2, .int 2, .int 1, .int 6, .int 1, .int 2, .int 2, .int 2])),
  ([.tuple [.int 6, .tuple [.tuple [.int 0, .int 2], .tuple [.int 0, .int 3], .tuple [.int 3, .int 5]]]], .d (.tuple [.int 3, .int 1, .int 2, .int 3, .int 1, .int 2])),
  ([.tuple [.int 7, .tuple [.tuple [.int 0, .int 2], .tuple [.int 0, .int 3], .tuple [.int 3, .int 6], .tuple [.int 4, .int 6]]]], .d (.tuple [.int 3, .int 1, .int 2, .int 3, .int 2, .int 1, .int 3])),
  ([.tuple [.int 7, .tuple [.tuple [.int 0, .int 2], .tuple [.int 0, .int 3], .tuple [.int 3, .int 5], .tuple [.int 3, .int 6]]]], .d (.tuple [.int 3, .int 1, .int 2, .int 4, .int 1, .int 2, .int 2])),
  ([.tuple [.int 8, .tuple [.tuple [.int 0, .int 2], .tuple [.int 0, .int 3], .tuple [.int 3, .int 7], .tuple [.int 4, .int 7], .tuple [.int 5, .int 7]]]], .d (.tuple [.int 3, .int 1, .int 2, .int 3, .int 2, .int 2, .int 1, .int 4])),
  ([.tuple [.int 8, .tuple [.tuple [.int 0, .int 2], .tuple [.int 0, .int 3], .tuple [.int 3, .int 7], .tuple [.int 4, .int 6], .tuple [.int 4, .int 7]]]], .d (.tuple [.int 3, .int 1, .int 2, .int 3, .int 3, .int 1, .int 2, .int 3])),
  ([.tuple [.int 8, .tuple [.tuple [.int 0, .int 2], .tuple [.int 0, .int 3], .tuple [.int 3, .int 5], .tuple [.int 3, .int 7], .tuple [.int 5, .int 7]]]], .d (.tuple [.int 3, .int 1, .int 2, .int 4, .int 1, .int 3, .int 1, .int 3])),
  ([.tuple [.int 8, .tuple [.tuple [.int 0, .int 2], .tuple [.int 0, .int 3], .tuple [.int 3, .int 6], .tuple [.int 3, .int 7], .tuple [.int 4, .int 6]]]], .d (.tuple [.int 3, .int 1, .int 2, .int 4, .int 2, .int 1, .int 3, .int 2])),
  ([.tuple [.int 8, .tuple [.tuple [.int 0, .int 2], .tuple [.int 0, .int 3], .tuple [.int 3, .int 5], .tuple [.int 3, .int 6], .tuple [.int 3, .int 7]]]], .d (.tuple [.int 3, .int 1, .int 2, .int 5, .int 1, .int 2, .int 2, .int 2])),
  ([.tuple [.int 7, .tuple [.tuple [.int 0, .int 4], .tuple [.int 1, .int 4], .tuple [.int 2, .int 4], .tuple [.int 4, .int 6]]]], .d (.tuple [.int 2, .int 2, .int 2, .int 1, .int 5, .int 1, .int 2])),
  ([.tuple [.int 8, .tuple [.tuple [.int 0, .int 4], .tuple [.int 1, .int 4], .tuple [.int 2, .int 4], .tuple [.int 4, .int 7], .tuple [.int 5, .int 7]]]], .d (.tuple [.int 2, .int 2, .int 2, .int 1, .int 5, .int 2, .int 1, .int 3])),
  ([.tuple [.int 8, .tuple [.tuple [.int 0, .int 4], .tuple [.int 1, .int 4], .tuple [.int 2, .int 4], .tuple [.int 4, .int 6], .tuple [.int 4, .int 7]]]], .d (.tuple [.int 2, .int 2, .int 2, .int 1, .int 6, .int 1, .int 2, .int 2])),
  ([.tuple [.int 9, .tuple [.tuple [.int 0, .int 4], .tuple [.int 1, .int 4], .tuple [.int 2, .int 4], .tuple [.int 4, .int 8], .tuple [.int 5, .int 8], .tuple [.int 6, .int 8]]]], .d (.tuple [.int 2, .int 2, .int 2, .int 1, .int 5, .int 2, .int 2, .int 1, .int 4])),
  ([.tuple [.int 9, .tuple [.tuple [.int 0, .int 4], .tuple [.int 1, .int 4], .tuple [.int 2, .int 4], .tuple [.int 4, .int 8], .tuple [.int 5, .int 7], .tuple [.int 5, .int 8]]]], .d (.tuple [.int 2, .int 2, .int 2, .int 1, .int 5, .int 3, .int 1, .int 2, .int 3])),
  ([.tuple [.int 9, .tuple [.tuple [.int 0, .int 4], .tuple [.int 1, .int 4], .tuple [.int 2, .int 4], .tuple [.int 4, .int 6], .tuple [.int 4, .int 8], .tuple [.int 6, .int 8]]]], .d (.tuple [.int 2, .int 2, .int 2, .int 1, .int 6, .int 1, .int 3, .int 1, .int 3])),
  ([.tuple [.int 9, .tuple [.tuple [.int 0, .int 4], .tuple [.int 1, .int 4], .tuple [.int 2, .int 4], .tuple [.int 4, .int 7], .tuple [.int 4, .int 8], .tuple [.int 5, .int 7]]]], .d (.tuple [.int 2, .int 2, .int 2, .int 1, .int 6, .int 2, .int 1, .int 3, .int 2])),
  ([.tuple [.int 9, .tuple [.tuple [.int 0, .int 4], .tuple [.int 1, .int 4], .tuple [.int 2, .int 4], .tuple [.int 4, .int 6], .tuple [.int 4, .int 7], .tuple [.int 4, .int 8]]]], .d (.tuple [.int 2, .int 2, .int 2, .int 1, .int 7, .int 1, .int 2, .int 2, .int 2])),
  ([.tuple [.int 7, .tuple [.tuple [.int 0, .int 4], .tuple [.int 1, .int 3], .tuple [.int 1, .int 4], .tuple [.int 4, .int 6]]]], .d (.tuple [.int 2, .int 3, .int 1, .int 2, .int 4, .int 1, .int 2])),
  ([.tuple [.int 8, .tuple [.tuple [.int 0, .int 4], .tuple [.int 1, .int 3], .tuple [.int 1, .int 4], .tuple [.int 4, .int 7], .tuple [.int 5, .int 7]]]], .d (.tuple [.int 2, .int 3, .int 1, .int 2, .int 4, .int 2, .int 1, .int 3])),
  ([.tuple [.int 8, .tuple [.tuple [.int 0, .int 4], .tuple [.int 1, .int 3], .tuple [.int 1, .int 4], .tuple [.int 4, .int 6], .tuple [.int 4, .int 7]]]], .d (.tuple [.int 2, .int 3, .int 1, .int 2, .int 5, .int 1, .int 2, .int 2])),
  ([.tuple [.int 9, .tuple [.tuple [.int 0, .int 4], .tuple [.int 1, .int 3], .tuple [.int 1, .int 4], .tuple [.int 4, .int 8], .tuple [.int 5, .int 8], .tuple [.int 6, .int 8]]]], .d (.tuple [.int 2, .int 3, .int 1, .int 2, .int 4, .int 2, .int 2, .int 1, .int 4])),
  ([.tuple [.int 9, .tuple [.tuple [.int 0, .int 4], .tuple [.int 1, .int 3], .tuple [.int 1, .int 4], .tuple [.int 4, .int 8], .tuple [.int 5, .int 7], .tuple [.int 5, .int 8]]]], .d (.tuple [.int 2, .int 3, .int 1, .int 2, .int 4, .int 3, .int 1, .int 2, .int 3])),
  ([.tuple [.int 9, .tuple [.tuple [.int 0, .int 4], .tuple [.int 1, .int 3], .tuple [.int 1, .int 4], .tuple [.int 4, .int 6], .tuple [.int 4, .int 8], .tuple [.int 6, .int 8]]]], .d (.tuple [.int 2, .int 3, .int 1, .int 2, .int 5, .int 1, .int 3, .int 1, .int 3])),
  ([.tuple [.int 9, .tuple [.tuple [.int 0, .int 4], .tuple [.int 1, .int 3], .tuple [.int 1, .int 4], .tuple [.int 4, .int 7], .tuple [.int 4, .int 8], .tuple [.int 5, .int 7]]]], .d (.tuple [.int 2, .int 3, .int 1, .int 2, .int 5, .int 2, .int 1, .int 3, .int 2])),
  ([.tuple [.int 9, .tuple [.tuple [.int 0, .int 4], .tuple [.int 1, .int 3], .tuple [.int 1, .int 4], .tuple [.int 4, .int 6], .tuple [.int 4, .int 7], .tuple [.int 4, .int 8]]]], .d (.tuple [.int 2, .int 3, .int 1, .int 2, .int 6, .int 1, .int 2, .int 2, .int 2])),
  ([.tuple [.int 7, .tuple [.tuple [.int 0, .int 2], .tuple [.int 0, .int 4], .tuple [.int 2, .int 4], .tuple [.int 4, .int 6]]]], .d (.tuple [.int 3, .int 1, .int 3, .int 1, .int 4, .int 1, .int 2])),
  ([.tuple [.int 8, .tuple [.tuple [.int 0, .int 2], .tuple [.int 0, .int 4], .tuple [.int 2, .int 4], .tuple [.int 4, .int 7], .tuple [.int 5, .int 7]]]], .d (.tuple [.int 3, .int 1, .int 3, .int 1, .int 4, .int 2, .int 1, .int 3])),
  ([.tuple [.int 8, .tuple [.tuple [.int 0, .int 2], .tuple [.int 0, .int 4], .tuple [.int 2, .int 4], .tuple [.int 4, .int 6], .tuple [.int 4, .int 7]]]], .d (.tuple [.int 3, .int 1, .int 3, .int 1, .int 5, .int 1, .int 2, .int 2])),
  ([.tuple [.int 9, .tuple [.tuple [.int 0, .int 2], .tuple [.int 0, .int 4], .tuple [.int 2, .int 4], .tuple [.int 4, .int 8], .tuple [.int 5, .int 8], .tuple [.int 6, .int 8]]]], .d (.tuple [.int 3, .int 1, .int 3, .int 1, .int 4, .int 2, .int 2, .int 1, .int 4])),
  ([.tuple [.int 9, .tuple [.tuple [.int 0, .int 2], .tuple [.int 0, .int 4], .tuple [.int 2, .int 4], .tuple [.int 4, .int 8], .tuple [.int 5, .int 7], .tuple [.int 5, .int 8]]]], .d (.tuple [.int 3, .int 1, .int 3, .int 1, .int 4, .int 3, .int 1, .int 2, .int 3])),
  ([.tuple [.int 9, .tuple [.tuple [.int 0, .int 2], .tuple [.int 0, .int 4], .tuple [.int 2, .int 4], .tuple [.int 4, .int 6], .tuple [.int 4, .int 8], .tuple [.int 6, .int 8]]]], .d (.tuple [.int 3, .int 1, .int 3, .int 1, .int 5, .int 1, .int 3, .int 1, .int 3])),
  ([.tuple [.int 9, .tuple [.tuple [.int 0, .int 2], .tuple [.int 0, .int 4], .tuple [.int 2, .int 4], .tuple [.int 4, .int 7], .tuple [.int 4, .int 8], .tuple [.int 5, .int 7]]]], .d (.tuple [.int 3, .int 1, .int 3, .int 1, .int 5, .int 2, .int 1, .int 3, .int 2])),
  ([.tuple [.int 9, .tuple [.tuple [.int 0, .int 2], .tuple [.int 0, .int 4], .tuple [.int 2, .int 4], .tuple [.int 4, .int 6], .tuple [.int 4, .int 7], .tuple [.int 4, .int 8]]]], .d (.tuple [.int 3, .int 1, .int 3, .int 1, .int 6, .int 1, .int 2, .int 2, .int 2])),
  ([.tuple [.int 7, .tuple [.tuple [.int 0, .int 3], .tuple [.int 0, .int 4], .tuple [.int 1, .int 3], .tuple [.int 4, .int 6]]]], .d (.tuple [.int 3, .int 2, .int 1, .int 3, .int 3, .int 1, .int 2])),
  ([.tuple [.int 8, .tuple [.tuple [.int 0, .int 3], .tuple [.int 0, .int 4], .tuple [.int 1, .int 3], .tuple [.int 4, .int 7], .tuple [.int 5, .int 7]]]], .d (.tuple [.int 3, .int 2, .int 1, .int 3, .int 3, .int 2, .int 1, .int 3])),
  ([.tuple [.int 8, .tuple [.tuple [.int 0, .int 3], .tuple [.int 0, .int 4], .tuple [.int 1, .int 3], .tuple [.int 4, .int 6], .tuple [.int 4, .int 7]]]], .d (.tuple [.int 3, .int 2, .int 1, .int 3, .int 4, .int 1, .int 2, .int 2])),
  ([.tuple [.int 9, .tuple [.tuple [.int 0, .int 3], .tuple [.int 0, .int 4], .tuple [.int 1, .int 3], .tuple [.int 4, .int 8], .tuple [.int 5, .int 8], .tuple [.int 6, .int 8]]]], .d (.tuple [.int 3, .int 2, .int 1, .int 3, .int 3, .int 2, .int 2, .int 1, .int 4])),
  ([.tuple [.int 9, .tuple [.tuple [.int 0, .int 3], .tuple [.int 0, .int 4], .tuple [.int 1, .int 3], .tuple [.int 4, .int 8], .tuple [.int 5, .int 7], .tuple [.int 5, .int 8]]]], .d (.tuple [.int 3, .int 2, .int 1, .int 3, .int 3, .int 3, .int 1, .int 2, .int 3])),
  ([.tuple [.int 9, .tuple [.tuple [.int 0, .int 3], .tuple [.int 0, .int 4], .tuple [.int 1, .int 3], .tuple [.int 4, .int 6], .tuple [.int 4, .int 8], .tuple [.int 6, .int 8]]]], .d (.tuple [.int 3, .int 2, .int 1, .int 3, .int 4, .int 1, .int 3, .int 1, .int 3])),
  ([.tuple [.int 9, .tuple [.tuple [.int 0, .int 3], .tuple [.int 0, .int 4], .tuple [.int 1, .int 3], .tuple [.int 4, .int 7], .tuple [.int 4, .int 8], .tuple [.int 5, .int 7]]]], .d (.tuple [.int 3, .int 2, .int 1, .int 3, .int 4, .int 2, .int 1, .int 3, .int 2])),
  ([.tuple [.int 9, .tuple [.tuple [.int 0, .int 3], .tuple [.int 0, .int 4], .tuple [.int 1, .int 3], .tuple [.int 4, .int 6], .tuple [.int 4, .int 7], .tuple [.int 4, .int 8]]]], .d (.tuple [.int 3, .int 2, .int 1, .int 3, .int 5, .int 1, .int 2, .int 2, .int 2])),
  ([.tuple [.int 7, .tuple [.tuple [.int 0, .int 2], .tuple [.int 0, .int 3], .tuple [.int 0, .int 4], .tuple [.int 4, .int 6]]]], .d (.tuple [.int 4, .int 1, .int 2, .int 2, .int 3, .int 1, .int 2])),
  ([.tuple [.int 8, .tuple [.tuple [.int 0, .int 2], .tuple [.int 0, .int 3], .tuple [.int 0, .int 4], .tuple [.int 4, .int 7], .tuple [.int 5, .int 7]]]], .d (.tuple [.int 4, .int 1, .int 2, .int 2, .int 3, .int 2, .int 1, .int 3])),
  ([.tuple [.int 8, .tuple [.tuple [.int 0, .int 2], .tuple [.int 0, .int 3], .tuple [.int 0, .int 4], .tuple [.int 4, .int 6], .tuple [.int 4, .int 7]]]], .d (.tuple [.int 4, .int 1, .int 2, .int 2, .int 4, .int 1, .int 2, .int 2])),
  ([.tuple [.int 9, .tuple [.tuple [.int 0, .int 2], .tuple [.int 0, .int 3], .tuple [.int 0, .int 4], .tuple [.int 4, .int 8], .tuple [.int 5, .int 8], .tuple [.int 6, .int 8]]]], .d (.tuple [.int 4, .int 1, .int 2, .int 2, .int 3, .int 2, .int 2, .int 1, .int 4])),
  ([.tuple [.int 9, .tuple [.tuple [.int 0, .int 2], .tuple [.int 0, .int 3], .tuple [.int 0, .int 4], .tuple [.int 4, .int 8], .tuple [.int 5, .int 7], .tuple [.int 5, .int 8]]]], .d (.tuple [.int 4, .int 1, .int 2, .int 2, .int 3, .int 3, .int 1, .int 2, .int 3])),
  ([.tuple [.int 9, .tuple [.tuple [.int 0, .int 2], .tuple [.int 0, .int 3], .tuple [.int 0, .int 4], .tuple [.int 4, .int 6], .tuple [.int 4, .int 8], .tuple [.int 6, .int 8]]]], .d (.tuple [.int 4, .int 1, .int 2, .int 2, .int 4, .int 1, .int 3, .int 1, .int 3])),
  ([.tuple [.int 9, .tuple [.tuple [.int 0, .int 2], .tuple [.int 0, .int 3], .tuple [.int 0, .int 4], .tuple [.int 4, .int 7], .tuple [.int 4, .int 8], .tuple [.int 5, .int 7]]]], .d (.tuple [.int 4, .int 1, .int 2, .int 2, .int 4, .int 2, .int 1, .int 3, .int 2])),
  ([.tuple [.int 9, .tuple [.tuple [.int 0, .int 2], .tuple [.int 0, .int 3], .tuple [.int 0, .int 4], .tuple [.int 4, .int 6], .tuple [.int 4, .int 7], .tuple [.int 4, .int 8]]]], .d (.tuple [.int 4, .int 1, .int 2, .int 2, .int 5, .int 1, .int 2, .int 2, .int 2]))]
def T_counts_at : List PyData → FR := lookT tab_counts_at
theorem okt_counts_at (fs : FS K mg) : FnOk P w K mg base (L2.CX P w) 7 fs.f_counts_at fs.fd_counts_at ["cutting"] (spF K [] mg 1 T_counts_at) := fn_tab tab_counts_at (ok_counts_at fs) (by decide +kernel)
theorem sc_is_tree : FnScope ["value", "waiting", "forks", "branch"] ["value"] (defScope (topS 26)) := ⟨rfl, rfl, rfl, by decide +kernel, rfl, by decide +kernel, by decide +kernel⟩
def m_is_tree  : SM := seqM (setM 1 (lstM [rdV 0])) (seqM (setM 2 (ret (.d (.int 0)))) (seqM (loopW (truM (rdV 1)) (seqM (setM 3 (popM 1)) (seqM (iteM (orM (notM (truM (op1 (isF isTup) (rdV 3)))) (cmp2 (inF true) (op1 lenF (rdV 3)) (tupM [ret (.d (.int 0)), ret (.d (.int 2))]))) (retM (ret (.d (.bool false)))) (skipM)) (iteM (truM (rdV 3)) (seqM (setM 2 (op2 addS (rdV 2) (ret (.d (.int 1))))) (seqM (iteM (cmp2 gtA (rdV 2) (ret (.d (.int 24)))) (retM (ret (.d (.bool false)))) (skipM)) (exprM (extBM 1 (rdV 3))))) (skipM)))) 100) (retM (ret (.d (.bool true))))))
def F_is_tree : List PyData → FR := runF m_is_tree 4
theorem ok_is_tree (fs : FS K mg) : FnOk P w K mg base (L2.CX P w) 1 fs.f_is_tree fs.fd_is_tree ["value"] (spF K [] mg 1 F_is_tree) :=
  have sc := sc_is_tree
  fn_pure fs.F_is_tree sc (z := m_is_tree) (fun cdv A outer s H E hr tk => pzs_cons (pz_set 1 (px_lst (hz := (by decide : (1 : Nat) ≤ sizeLine)) (pxa_cons (px_var 0) (pxa_nil))) sc.nd) (pzs_cons (pz_set 2 (px_int) sc.nd) (pzs_cons (pz_while 100 (passes_of rfl) (pxt_tru (px_var 1)) (pzs_cons (pz_set 3 (px_pop 1) sc.nd) (pzs_cons (pz_if (PW.pt (pxw_or (pxt_not (pxt_tru (px_isi isi_tuple (by rfl) fs.z_isinstance bb_isinstance (by rfl) fs.z_tuple bb_tuple (px_var 3)))) (pxw_or1 (pxt_cmp (op_notInA (hu65 hr)) sB_notIn (px_b1 cr_lenD s1_len (by rfl) fs.z_len bb_len (px_var 3)) (px_tup (hz := (by decide : (2 : Nat) ≤ sizeLine)) (pxa_cons (px_int) (pxa_cons (px_int) (pxa_nil)))) (by rfl))))) (pzs_one (pz_ret (px_bl))) (pzs_nil)) (pzs_one (pz_if (pxt_tru (px_var 3)) (pzs_cons (pz_set 2 (px_bin op_addS s2_addS (px_var 2) (px_int)) sc.nd) (pzs_cons (pz_if (pxt_cmp (op_gtAll (hu65 hr)) (sB_cmp _ _) (px_var 2) (px_glob (v := .int 24) (.int 24) (by rfl) fs.c_MOST_FORKS.choose_spec ⟨_, rfl⟩ (fun _ _ => .int _)) (nomark _)) (pzs_one (pz_ret (px_bl))) (pzs_nil)) (pzs_one (pz_expr (px_extendB 1 (px_var 3)))))) (pzs_nil)))))) (pzs_one (pz_ret (px_bl)))))) (fun _ _ _ => rfl)
theorem sc_need_tree : FnScope ["value"] ["value"] (defScope (topS 27)) := ⟨rfl, rfl, rfl, by decide +kernel, rfl, by decide +kernel, by decide +kernel⟩
def m_need_tree  : SM := iteM (notM (truM (callM F_is_tree [rdV 0]))) ((fun _ => .no)) (skipM)
def F_need_tree : List PyData → FR := runF m_need_tree 1
theorem ok_need_tree (fs : FS K mg) : FnOk P w K mg base (L2.CX P w) 2 fs.f_need_tree fs.fd_need_tree ["value"] (spF K [] mg 1 F_need_tree) :=
  have sc := sc_need_tree
  fn_pure fs.F_need_tree sc (z := m_need_tree) (fun cdv A outer s H E hr tk => pzs_one (pz_if (pxt_not (pxt_tru (px_call (ok_is_tree fs) (hr.mono (by omega)) (by rfl) fs.m_is_tree fs.F_is_tree.kp fs.b_is_tree tk (pxa_cons (px_var 0) (pxa_nil))))) (pzs_one (pz_never)) (pzs_nil))) (fun _ _ _ => rfl)
theorem sc_forks_within : FnScope ["tree", "left", "right"] ["tree"] (defScope (topS 28)) := ⟨rfl, rfl, rfl, by decide +kernel, rfl, by decide +kernel, by decide +kernel⟩
def m_forks_within (rec_forks_within : List PyData → FR) : SM := seqM (iteM (notM (truM (rdV 0))) (retM (ret (.d (.int 0)))) (skipM)) (seqM (asgM (.tp [1, 2]) (rdV 0)) (retM (op2 addS (op2 addS (callM rec_forks_within [rdV 1]) (ret (.d (.int 1)))) (callM rec_forks_within [rdV 2]))))
def Fn_forks_within : Nat → List PyData → FR
  | 0 => fun _ => .no
  | n + 1 => runF (m_forks_within (Fn_forks_within n)) 3
def F_forks_within : List PyData → FR := Fn_forks_within 60
theorem okg_forks_within (fs : FS K mg) : ∀ n : Nat, FnOk P w K mg base (L2.CX P w) (1 + n) fs.f_forks_within fs.fd_forks_within ["tree"] (spF K [] mg 1 (Fn_forks_within n))
  | 0 => fn_pure (k := 0) fs.F_forks_within sc_forks_within (z := fun _ => .no) (fun cdv A outer s H E hr tk => pzs_never) (fun _ _ h => absurd rfl h)
  | n + 1 => by
    have h := okg_forks_within fs n
    have okn_forks_within := h
    exact (have sc := sc_forks_within; fn_pure (k := 1 + n) fs.F_forks_within sc (z := m_forks_within (Fn_forks_within n)) (fun cdv A outer s H E hr tk => pzs_cons (pz_if (pxt_not (pxt_tru (px_var 0))) (pzs_one (pz_ret (px_int))) (pzs_nil)) (pzs_cons (pz_asg (px_var 0) (pgx_tp rfl sc.nd (.cons rfl (by first | exact Or.inl rfl | exact Or.inr rfl) (by first | exact .inl rfl | exact .inr rfl) (.cons rfl (by first | exact Or.inl rfl | exact Or.inr rfl) (by first | exact .inl rfl | exact .inr rfl) (.nil))))) (pzs_one (pz_ret (px_bin op_addS s2_addS (px_bin op_addS s2_addS (px_call (okn_forks_within) (hr.mono (by omega)) (by rfl) fs.m_forks_within fs.F_forks_within.kp fs.b_forks_within tk (pxa_cons (px_var 1) (pxa_nil))) (px_int)) (px_call (okn_forks_within) (hr.mono (by omega)) (by rfl) fs.m_forks_within fs.F_forks_within.kp fs.b_forks_within tk (pxa_cons (px_var 2) (pxa_nil)))))))) (fun _ _ _ => rfl))
theorem ok_forks_within (fs : FS K mg) : FnOk P w K mg base (L2.CX P w) 61 fs.f_forks_within fs.fd_forks_within ["tree"] (spF K [] mg 1 F_forks_within) := (okg_forks_within fs 60)
theorem sc_tree_over : FnScope ["low", "high", "thirds", "third"] ["low", "high", "thirds"] (defScope (topS 29)) := ⟨rfl, rfl, rfl, by decide +kernel, rfl, by decide +kernel, by decide +kernel⟩
def m_tree_over (rec_tree_over : List PyData → FR) : SM := seqM (iteM (cmp2 eqF (rdV 1) (op2 addS (rdV 0) (ret (.d (.int 1))))) (retM (tupM [])) (skipM)) (seqM (setM 3 (op2 ixA (rdV 2) (tupM [rdV 0, rdV 1]))) (retM (tupM [callM rec_tree_over [rdV 0, rdV 3, rdV 2], callM rec_tree_over [rdV 3, rdV 1, rdV 2]])))
def Fn_tree_over : Nat → List PyData → FR
  | 0 => fun _ => .no
  | n + 1 => runF (m_tree_over (Fn_tree_over n)) 4
def F_tree_over : List PyData → FR := Fn_tree_over 60
theorem okg_tree_over (fs : FS K mg) : ∀ n : Nat, FnOk P w K mg base (L2.CX P w) (1 + n) fs.f_tree_over fs.fd_tree_over ["low", "high", "thirds"] (spF K [] mg 3 (Fn_tree_over n))
  | 0 => fn_pure (k := 0) fs.F_tree_over sc_tree_over (z := fun _ => .no) (fun cdv A outer s H E hr tk => pzs_never) (fun _ _ h => absurd rfl h)
  | n + 1 => by
    have h := okg_tree_over fs n
    have okn_tree_over := h
    exact (have sc := sc_tree_over; fn_pure (k := 1 + n) fs.F_tree_over sc (z := m_tree_over (Fn_tree_over n)) (fun cdv A outer s H E hr tk => pzs_cons (pz_if (pxt_cmp (op_eqD (hu64 hr)) sB_eq (px_var 1) (px_bin op_addS s2_addS (px_var 0) (px_int)) (nomark _)) (pzs_one (pz_ret (px_tup (hz := (by decide : (0 : Nat) ≤ sizeLine)) (pxa_nil)))) (pzs_nil)) (pzs_cons (pz_set 3 (px_ixA (hu65 hr) (px_var 2) (px_tup (hz := (by decide : (2 : Nat) ≤ sizeLine)) (pxa_cons (px_var 0) (pxa_cons (px_var 1) (pxa_nil))))) sc.nd) (pzs_one (pz_ret (px_tup (hz := (by decide : (2 : Nat) ≤ sizeLine)) (pxa_cons (px_call (okn_tree_over) (hr.mono (by omega)) (by rfl) fs.m_tree_over fs.F_tree_over.kp fs.b_tree_over tk (pxa_cons (px_var 0) (pxa_cons (px_var 3) (pxa_cons (px_var 2) (pxa_nil))))) (pxa_cons (px_call (okn_tree_over) (hr.mono (by omega)) (by rfl) fs.m_tree_over fs.F_tree_over.kp fs.b_tree_over tk (pxa_cons (px_var 3) (pxa_cons (px_var 1) (pxa_cons (px_var 2) (pxa_nil))))) (pxa_nil)))))))) (fun _ _ _ => rfl))
theorem ok_tree_over (fs : FS K mg) : FnOk P w K mg base (L2.CX P w) 61 fs.f_tree_over fs.fd_tree_over ["low", "high", "thirds"] (spF K [] mg 3 F_tree_over) := (okg_tree_over fs 60)
theorem sc_tree_by_cutting : FnScope ["cutting", "thirds", "low", "third", "high"] ["cutting"] (defScope (topS 30)) := ⟨rfl, rfl, rfl, by decide +kernel, rfl, by decide +kernel, by decide +kernel⟩
def m_tree_by_cutting  : SM := seqM (setM 1 (dcM (anyI (callM F_parts [op2 ixA (rdV 0) (ret (.d (.int 0))), op2 ixA (rdV 0) (ret (.d (.int 1)))])) (.tp [2, 3, 4]) (ret true) [rdV 2, rdV 4] (rdV 3) [2, 3, 4])) (retM (callM F_tree_over [ret (.d (.int 0)), op2 subF (op2 ixA (rdV 0) (ret (.d (.int 0)))) (ret (.d (.int 1))), rdV 1]))
def F_tree_by_cutting : List PyData → FR := runF m_tree_by_cutting 5
theorem ok_tree_by_cutting (fs : FS K mg) : FnOk P w K mg base (L2.CX P w) 62 fs.f_tree_by_cutting fs.fd_tree_by_cutting ["cutting"] (spF K [] mg 1 F_tree_by_cutting) :=
  have sc := sc_tree_by_cutting
  fn_pure fs.F_tree_by_cutting sc (z := m_tree_by_cutting) (fun cdv A outer s H E hr tk => pzs_cons (pz_setDcT (own := [("low", 2), ("third", 3), ("high", 4)]) 1 (hu65 hr) rfl sc.nd rfl rfl (sw_dict rfl rfl rfl (by decide +kernel)) (pix_any (px_call (ok_parts fs) (hr.mono (by omega)) (by rfl) fs.m_parts fs.F_parts.kp fs.b_parts tk (pxa_cons (px_ixA (hu65 hr) (px_var 0) (px_int)) (pxa_cons (px_ixA (hu65 hr) (px_var 0) (px_int)) (pxa_nil))))) (blkOk_by (by kernel_rfl)) (fun _ _ _ _ _ => pgx_tp rfl sc.nd (.cons rfl (by first | exact Or.inl rfl | exact Or.inr rfl) (by first | exact .inl rfl | exact .inr rfl) (.cons rfl (by first | exact Or.inl rfl | exact Or.inr rfl) (by first | exact .inl rfl | exact .inr rfl) (.cons rfl (by first | exact Or.inl rfl | exact Or.inr rfl) (by first | exact .inl rfl | exact .inr rfl) (.nil))))) (fun _ _ _ _ _ => ptx_nil) (fun _ _ _ _ _ => pxa_cons (px_var 2) (pxa_cons (px_var 4) (pxa_nil))) (fun _ _ _ _ _ => px_var 3)) (pzs_one (pz_ret (px_call (ok_tree_over fs) (hr.mono (by omega)) (by rfl) fs.m_tree_over fs.F_tree_over.kp fs.b_tree_over tk (pxa_cons (px_int) (pxa_cons (px_bin op_subA (s2_ii yes2 (· - ·)) (px_ixA (hu65 hr) (px_var 0) (px_int)) (px_int)) (pxa_cons (px_var 1) (pxa_nil)))))))) (fun _ _ _ => rfl)
theorem sc_tree_of : FnScope ["cutting"] ["cutting"] (defScope (topS 31)) := ⟨rfl, rfl, rfl, by decide +kernel, rfl, by decide +kernel, by decide +kernel⟩
def m_tree_of  : SM := seqM (exprM (callM F_need_cutting [rdV 0])) (seqM (exprM (callM F_need_few [op2 ixA (rdV 0) (ret (.d (.int 0))), op2 addS (ret (.d (.int 24))) (ret (.d (.int 2)))])) (retM (callM F_tree_by_cutting [rdV 0])))
def F_tree_of : List PyData → FR := runF m_tree_of 1
theorem ok_tree_of (fs : FS K mg) : FnOk P w K mg base (L2.CX P w) 63 fs.f_tree_of fs.fd_tree_of ["cutting"] (spF K [] mg 1 F_tree_of) :=
  have sc := sc_tree_of
  fn_pure fs.F_tree_of sc (z := m_tree_of) (fun cdv A outer s H E hr tk => pzs_cons (pz_expr (px_call (ok_need_cutting fs) (hr.mono (by omega)) (by rfl) fs.m_need_cutting fs.F_need_cutting.kp fs.b_need_cutting tk (pxa_cons (px_var 0) (pxa_nil)))) (pzs_cons (pz_expr (px_call (ok_need_few fs) (hr.mono (by omega)) (by rfl) fs.m_need_few fs.F_need_few.kp fs.b_need_few tk (pxa_cons (px_ixA (hu65 hr) (px_var 0) (px_int)) (pxa_cons (px_bin op_addS s2_addS (px_glob (v := .int 24) (.int 24) (by rfl) fs.c_MOST_FORKS.choose_spec ⟨_, rfl⟩ (fun _ _ => .int _)) (px_int)) (pxa_nil))))) (pzs_one (pz_ret (px_call (ok_tree_by_cutting fs) (hr.mono (by omega)) (by rfl) fs.m_tree_by_cutting fs.F_tree_by_cutting.kp fs.b_tree_by_cutting tk (pxa_cons (px_var 0) (pxa_nil))))))) (fun _ _ _ => rfl)
def tab_tree_of : List (List PyData × TV) := [
  ([.tuple [.int 3, .tuple []]], .d (.tuple [.tuple [], .tuple []])),
  ([.tuple [.int 4, .tuple [.tuple [.int 1, .int 3]]]], .d (.tuple [.tuple [], .tuple [.tuple [], .tuple []]])),
  ([.tuple [.int 4, .tuple [.tuple [.int 0, .int 2]]]], .d (.tuple [.tuple [.tuple [], .tuple []], .tuple []])),
  ([.tuple [.int 5, .tuple [.tuple [.int 1, .int 4], .tuple [.int 2, .int 4]]]], .d (.tuple [.tuple [], .tuple [.tuple [], .tuple [.tuple [], .tuple []]]])),
  ([.tuple [.int 5, .tuple [.tuple [.int 1, .int 3], .tuple [.int 1, .int 4]]]], .d (.tuple [.tuple [], .tuple [.tuple [.tuple [], .tuple []], .tuple []]])),
  ([.tuple [.int 5, .tuple [.tuple [.int 0, .int 2], .tuple [.int 2, .int 4]]]], .d (.tuple [.tuple [.tuple [], .tuple []], .tuple [.tuple [], .tuple []]])),
  ([.tuple [.int 5, .tuple [.tuple [.int 0, .int 3], .tuple [.int 1, .int 3]]]], .d (.tuple [.tuple [.tuple [], .tuple [.tuple [], .tuple []]], .tuple []])),
  ([.tuple [.int 5, .tuple [.tuple [.int 0, .int 2], .tuple [.int 0, .int 3]]]], .d (.tuple [.tuple [.tuple [.tuple [], .tuple []], .tuple []], .tuple []])),
  ([.tuple [.int 6, .tuple [.tuple [.int 0, .int 2], .tuple [.int 2, .int 5], .tuple [.int 3, .int 5]]]], .d (.tuple [.tuple [.tuple [], .tuple []], .tuple [.tuple [], .tuple [.tuple [], .tuple []]]])),
  ([.tuple [.int 6, .tuple [.tuple [.int 0, .int 2], .tuple [.int 2, .int 4], .tuple [.int 2, .int 5]]]], .d (.tuple [.tuple [.tuple [], .tuple []], .tuple [.tuple [.tuple [], .tuple []], .tuple []]])),
  ([.tuple [.int 7, .tuple [.tuple [.int 0, .int 2], .tuple [.int 2, .int 6], .tuple [.int 3, .int 6], .tuple [.int 4, .int 6]]]], .d (.tuple [.tuple [.tuple [], .tuple []], .tuple [.tuple [], .tuple [.tuple [], .tuple [.tuple [], .tuple []]]]])),
  ([.tuple [.int 7, .tuple [.tuple [.int 0, .int 2], .tuple [.int 2, .int 6], .tuple [.int 3, .int 5], .tuple [.int 3, .int 6]]]], .d (.tuple [.tuple [.tuple [], .tuple []], .tuple [.tuple [], .tuple [.tuple [.tuple [], .tuple []], .tuple []]]])),
  ([.tuple [.int 7, .tuple [.tuple [.int 0, .int 2], .tuple [.int 2, .int 4], .tuple [.int 2, .int 6], .tuple [.int 4, .int 6]]]], .d (.tuple [.tuple [.tuple [], .tuple []], .tuple [.tuple [.tuple [], .tuple []], .tuple [.tuple [], .tuple []]]])),
  ([.tuple [.int 7, .tuple [.tuple [.int 0, .int 2], .tuple [.int 2, .int 5], .tuple [.int 2, .int 6], .tuple [.int 3, .int 5]]]], .d (.tuple [.tuple [.tuple [], .tuple []], .tuple [.tuple [.tuple [], .tuple [.tuple [], .tuple []]], .tuple []]])),
  ([.tuple [.int 7, .tuple [.tuple [.int 0, .int 2], .tuple [.int 2, .int 4], .tuple [.int 2, .int 5], .tuple [.int 2, .int 6]]]], .d (.tuple [.tuple [.tuple [], .tuple []], .tuple [.tuple [.tuple [.tuple [], .tuple []], .tuple []], .tuple []]])),
  ([.tuple [.int 6, .tuple [.tuple [.int 0, .int 3], .tuple [.int 1, .int 3], .tuple [.int 3, .int 5]]]], .d (.tuple [.tuple [.tuple [], .tuple [.tuple [], .tuple []]], .tuple [.tuple [], .tuple []]])),
  ([.tuple [.int 7, .tuple [.tuple [.int 0, .int 3], .tuple [.int 1, .int 3], .tuple [.int 3, .int 6], .tuple [.int 4, .int 6]]]], .d (.tuple [.tuple [.tuple [], .tuple [.tuple [], .tuple []]], .tuple [.tuple [], .tuple [.tuple [], .tuple []]]])),
  ([.tuple [.int 7, .tuple [.tuple [.int 0, .int 3], .tuple [.int 1, .int 3], .tuple [.int 3, .int 5], .tuple [.int 3, .int 6]]]], .d (.tuple [.tuple [.tuple [], .tuple [.tuple [], .tuple []]], .tuple [.tuple [.tuple [], .tuple []], .tuple []]])),
  ([.tuple [.int 8, .tuple [.tuple [.int 0, .int 3], .tuple [.int 1, .int 3], .tuple [.int 3, .int 7], .tuple [.int 4, .int 7], .tuple [.int 5, .int 7]]]], .d (.tuple [.tuple [.tuple [], .tuple [.tuple [], .tuple []]], .tuple [.tuple [], .tuple [.tuple [], .tuple [.tuple [], .tuple []]]]])),
  ([.tuple [.int 8, .tuple [.tuple [.int 0, .int 3], .tuple [.int 1, .int 3], .tuple [.int 3, .int 7], .tuple [.int 4, .int 6], .tuple [.int 4, .int 7]]]], .d (.tuple [.tuple [.tuple [], .tuple [.tuple [], .tuple []]], .tuple [.tuple [], .tuple [.tuple [.tuple [], .tuple []], .tuple []]]])),
  ([.tuple [.int 8, .tuple [.tuple [.int 0, .int 3], .tuple [.int 1, .int 3], .tuple [.int 3, .int 5], .tuple [.int 3, .int 7], .tuple [.int 5, .int 7]]]], .d (.tuple [.tuple [.tuple [], .tuple [.tuple [], .tuple []]], .tuple [.tuple [.tuple [], .tuple []], .tuple [.tuple [], .tuple []]]])),
  ([.tuple [.int 8, .tuple [.tuple [.int 0, .int 3], .tuple [.int 1, .int 3], .tuple [.int 3, .int 6], .tuple [.int 3, .int 7], .tuple [.int 4, .int 6]]]], .d (.tuple [.tuple [.tuple [], .tuple [.tuple [], .tuple []]], .tuple [.tuple [.tuple [], .tuple [.tuple [], .tuple []]], .tuple []]])),
  ([.tuple [.int 8, .tuple [.tuple [.int 0, .int 3], .tuple [.int 1, .int 3], .tuple [.int 3, .int 5], .tuple [.int 3, .int 6], .tuple [.int 3, .int 7]]]], .d (.tuple [.tuple [.tuple [], .tuple [.tuple [], .tuple []]], .tuple [.tuple [.tuple [.tuple [], .tuple []], .tuple []], .tuple []]])),
  ([.tuple [.int 6, .tuple [.tuple [.int 0, .int 2], .tuple [.int 0, .int 3], .tuple [.int 3, .int 5]]]], .d (.tuple [.tuple [.tuple [.tuple [], .tuple []], .tuple []], .tuple [.tuple [], .tuple []]])),
  ([.tuple [.int 7, .tuple [.tuple [.int 0, .int 2], .tuple [.int 0, .int 3], .tuple [.int 3, .int 6], .tuple [.int 4, .int 6]]]], .d (.tuple [.tuple [.tuple [.tuple [], .tuple []], .tuple []], .tuple [.tuple [], .tuple [.tuple [], .tuple []]]])),
  ([.tuple [.int 7, .tuple [.tuple [.int 0, .int 2], .tuple [.int 0, .int 3], .tuple [.int 3, .int 5], .tuple [.int 3, .int 6]]]], .d (.tuple [.tuple [.tuple [.tuple [], .tuple []], .tuple []], .tuple [.tuple [.tuple [], .tuple []], .tuple []]])),
  ([.tuple [.int 8, .tuple [.tuple [.int 0, .int 2], .tuple [.int 0, .int 3], .tuple [.int 3, .int 7], .tuple [.int 4, .int 7], .tuple [.int 5, .int 7]]]], .d (.tuple [.tuple [.tuple [.tuple [], .tuple []], .tuple []], .tuple [.tuple [], .tuple [.tuple [], .tuple [.tuple [], .tuple []]]]])),
  ([.tuple [.int 8, .tuple [.tuple [.int 0, .int 2], .tuple [.int 0, .int 3], .tuple [.int 3, .int 7], .tuple [.int 4, .int 6], .tuple [.int 4, .int 7]]]], .d (.tuple [.tuple [.tuple [.tuple [], .tuple []], .tuple []], .tuple [.tuple [], .tuple [.tuple [.tuple [], .tuple []], .tuple []]]])),
  ([.tuple [.int 8, .tuple [.tuple [.int 0, .int 2], .tuple [.int 0, .int 3], .tuple [.int 3, .int 5], .tuple [.int 3, .int 7], .tuple [.int 5, .int 7]]]], .d (.tuple [.tuple [.tuple [.tuple [], .tuple []], .tuple []], .tuple [.tuple [.tuple [], .tuple []], .tuple [.tuple [], .tuple []]]])),
  ([.tuple [.int 8, .tuple [.tuple [.int 0, .int 2], .tuple [.int 0, .int 3], .tuple [.int 3, .int 6], .tuple [.int 3, .int 7], .tuple [.int 4, .int 6]]]], .d (.tuple [.tuple [.tuple [.tuple [], .tuple []], .tuple []], .tuple [.tuple [.tuple [], .tuple [.tuple [], .tuple []]], .tuple []]])),
  ([.tuple [.int 8, .tuple [.tuple [.int 0, .int 2], .tuple [.int 0, .int 3], .tuple [.int 3, .int 5], .tuple [.int 3, .int 6], .tuple [.int 3, .int 7]]]], .d (.tuple [.tuple [.tuple [.tuple [], .tuple []], .tuple []], .tuple [.tuple [.tuple [.tuple [], .tuple []], .tuple []], .tuple []]])),
  ([.tuple [.int 7, .tuple [.tuple [.int 0, .int 4], .tuple [.int 1, .int 4], .tuple [.int 2, .int 4], .tuple [.int 4, .int 6]]]], .d (.tuple [.tuple [.tuple [], .tuple [.tuple [], .tuple [.tuple [], .tuple []]]], .tuple [.tuple [], .tuple []]])),
  ([.tuple [.int 8, .tuple [.tuple [.int 0, .int 4], .tuple [.int 1, .int 4], .tuple [.int 2, .int 4], .tuple [.int 4, .int 7], .tuple [.int 5, .int 7]]]], .d (.tuple [.tuple [.tuple [], .tuple [.tuple [], .tuple [.tuple [], .tuple []]]], .tuple [.tuple [], .tuple [.tuple [], .tuple []]]])),
  ([.tuple [.int 8, .tuple [.tuple [.int 0, .int 4], .tuple [.int 1, .int 4], .tuple [.int 2, .int 4], .tuple [.int 4, .int 6], .tuple [.int 4, .int 7]]]], .d (.tuple [.tuple [.tuple [], .tuple [.tuple [], .tuple [.tuple [], .tuple []]]], .tuple [.tuple [.tuple [], .tuple []], .tuple []]])),
  ([.tuple [.int 9, .tuple [.tuple [.int 0, .int 4], .tuple [.int 1, .int 4], .tuple [.int 2, .int 4], .tuple [.int 4, .int 8], .tuple [.int 5, .int 8], .tuple [.int 6, .int 8]]]], .d (.tuple [.tuple [.tuple [], .tuple [.tuple [], .tuple [.tuple [], .tuple []]]], .tuple [.tuple [], .tuple [.tuple [], .tuple [.tuple [], .tuple []]]]])),
  ([.tuple [.int 9, .tuple [.tuple [.int 0, .int 4], .tuple [.int 1, .int 4], .tuple [.int 2, .int 4], .tuple [.int 4, .int 8], .tuple [.int 5, .int 7], .tuple [.int 5, .int 8]]]], .d (.tuple [.tuple [.tuple [], .tuple [.tuple [], .tuple [.tuple [], .tuple []]]], .tuple [.tuple [], .tuple [.tuple [.tuple [], .tuple []], .tuple []]]])),
  ([.tuple [.int 9, .tuple [.tuple [.int 0, .int 4], .tuple [.int 1, .int 4], .tuple [.int 2, .int 4], .tuple [.int 4, .int 6], .tuple [.int 4, .int 8], .tuple [.int 6, .int 8]]]], .d (.tuple [.tuple [.tuple [], .tuple [.tuple [], .tuple [.tuple [], .tuple []]]], .tuple [.tuple [.tuple [], .tuple []], .tuple [.tuple [], .tuple []]]])),
  ([.tuple [.int 9, .tuple [.tuple [.int 0, .int 4], .tuple [.int 1, .int 4], .tuple [.int 2, .int 4], .tuple [.int 4, .int 7], .tuple [.int 4, .int 8], .tuple [.int 5, .int 7]]]], .d (.tuple [.tuple [.tuple [], .tuple [.tuple [], .tuple [.tuple [], .tuple []]]], .tuple [.tuple [.tuple [], .tuple [.tuple [], .tuple []]], .tuple []]])),
  ([.tuple [.int 9, .tuple [.tuple [.int 0, .int 4], .tuple [.int 1, .int 4], .tuple [.int 2, .int 4], .tuple [.int 4, .int 6], .tuple [.int 4, .int 7], .tuple [.int 4, .int 8]]]], .d (.tuple [.tuple [.tuple [], .tuple [.tuple [], .tuple [.tuple [], .tuple []]]], .tuple [.tuple [.tuple [.tuple [], .tuple []], .tuple []], .tuple []]])),
  ([.tuple [.int 7, .tuple [.tuple [.int 0, .int 4], .tuple [.int 1, .int 3], .tuple [.int 1, .int 4], .tuple [.int 4, .int 6]]]], .d (.tuple [.tuple [.tuple [], .tuple [.tuple [.tuple [], .tuple []], .tuple []]], .tuple [.tuple [], .tuple []]])),
  ([.tuple [.int 8, .tuple [.tuple [.int 0, .int 4], .tuple [.int 1, .int 3], .tuple [.int 1, .int 4], .tuple [.int 4, .int 7], .tuple [.int 5, .int 7]]]], .d (.tuple [.tuple [.tuple [], .tuple [.tuple [.tuple [], .tuple []], .tuple []]], .tuple [.tuple [], .tuple [.tuple [], .tuple []]]])),
  ([.tuple [.int 8, .tuple [.tuple [.int 0, .int 4], .tuple [.int 1, .int 3], .tuple [.int 1, .int 4], .tuple [.int 4, .int 6], .tuple [.int 4, .int 7]]]], .d (.tuple [.tuple [.tuple [], .tuple [.tuple [.tuple [], .tuple []], .tuple []]], .tuple [.tuple [.tuple [], .tuple []], .tuple []]])),
  ([.tuple [.int 9, .tuple [.tuple [.int 0, .int 4], .tuple [.int 1, .int 3], .tuple [.int 1, .int 4], .tuple [.int 4, .int 8], .tuple [.int 5, .int 8], .tuple [.int 6, .int 8]]]], .d (.tuple [.tuple [.tuple [], .tuple [.tuple [.tuple [], .tuple []], .tuple []]], .tuple [.tuple [], .tuple [.tuple [], .tuple [.tuple [], .tuple []]]]])),
  ([.tuple [.int 9, .tuple [.tuple [.int 0, .int 4], .tuple [.int 1, .int 3], .tuple [.int 1, .int 4], .tuple [.int 4, .int 8], .tuple [.int 5, .int 7], .tuple [.int 5, .int 8]]]], .d (.tuple [.tuple [.tuple [], .tuple [.tuple [.tuple [], .tuple []], .tuple []]], .tuple [.tuple [], .tuple [.tuple [.tuple [], .tuple []], .tuple []]]])),
  ([.tuple [.int 9, .tuple [.tuple [.int 0, .int 4], .tuple [.int 1, .int 3], .tuple [.int 1, .int 4], .tuple [.int 4, .int 6], .tuple [.int 4, .int 8], .tuple [.int 6, .int 8]]]], .d (.tuple [.tuple [.tuple [], .tuple [.tuple [.tuple [], .tuple []], .tuple []]], .tuple [.tuple [.tuple [], .tuple []], .tuple [.tuple [], .tuple []]]])),
  ([.tuple [.int 9, .tuple [.tuple [.int 0, .int 4], .tuple [.int 1, .int 3], .tuple [.int 1, .int 4], .tuple [.int 4, .int 7], .tuple [.int 4, .int 8], .tuple [.int 5, .int 7]]]], .d (.tuple [.tuple [.tuple [], .tuple [.tuple [.tuple [], .tuple []], .tuple []]], .tuple [.tuple [.tuple [], .tuple [.tuple [], .tuple []]], .tuple []]])),
  ([.tuple [.int 9, .tuple [.tuple [.int 0, .int 4], .tuple [.int 1, .int 3], .tuple [.int 1, .int 4], .tuple [.int 4, .int 6], .tuple [.int 4, .int 7], .tuple [.int 4, .int 8]]]], .d (.tuple [.tuple [.tuple [], .tuple [.tuple [.tuple [], .tuple []], .tuple []]], .tuple [.tuple [.tuple [.tuple [], .tuple []], .tuple []], .tuple []]])),
  ([.tuple [.int 7, .tuple [.tuple [.int 0, .int 2], .tuple [.int 0, .int 4], .tuple [.int 2, .int 4], .tuple [.int 4, .int 6]]]], .d (.tuple [.tuple [.tuple [.tuple [], .tuple []], .tuple [.tuple [], .tuple []]], .tuple [.tuple [], .tuple []]])),
  ([.tuple [.int 8, .tuple [.tuple [.int 0, .int 2], .tuple [.int 0, .int 4], .tuple [.int 2, .int 4], .tuple [.int 4, .int 7], .tuple [.int 5, .int 7]]]], .d (.tuple [.tuple [.tuple [.tuple [], .tuple []], .tuple [.tuple [], .tuple []]], .tuple [.tuple [], .tuple [.tuple [], .tuple []]]])),
  ([.tuple [.int 8, .tuple [.tuple [.int 0, .int 2], .tuple [.int 0, .int 4], .tuple [.int 2, .int 4], .tuple [.int 4, .int 6], .tuple [.int 4, .int 7]]]], .d (.tuple [.tuple [.tuple [.tuple [], .tuple []], .tuple [.tuple [], .tuple []]], .tuple [.tuple [.tuple [], .tuple []], .tuple []]])),
  ([.tuple [.int 9, .tuple [.tuple [.int 0, .int 2], .tuple [.int 0, .int 4], .tuple [.int 2, .int 4], .tuple [.int 4, .int 8], .tuple [.int 5, .int 8], .tuple [.int 6, .int 8]]]], .d (.tuple [.tuple [.tuple [.tuple [], .tuple []], .tuple [.tuple [], .tuple []]], .tuple [.tuple [], .tuple [.tuple [], .tuple [.tuple [], .tuple []]]]])),
  ([.tuple [.int 9, .tuple [.tuple [.int 0, .int 2], .tuple [.int 0, .int 4], .tuple [.int 2, .int 4], .tuple [.int 4, .int 8], .tuple [.int 5, .int 7], .tuple [.int 5, .int 8]]]], .d (.tuple [.tuple [.tuple [.tuple [], .tuple []], .tuple [.tuple [], .tuple []]], .tuple [.tuple [], .tuple [.tuple [.tuple [], .tuple []], .tuple []]]])),
  ([.tuple [.int 9, .tuple [.tuple [.int 0, .int 2], .tuple [.int 0, .int 4], .tuple [.int 2, .int 4], .tuple [.int 4, .int 6], .tuple [.int 4, .int 8], .tuple [.int 6, .int 8]]]], .d (.tuple [.tuple [.tuple [.tuple [], .tuple []], .tuple [.tuple [], .tuple []]], .tuple [.tuple [.tuple [], .tuple []], .tuple [.tuple [], .tuple []]]])),
  ([.tuple [.int 9, .tuple [.tuple [.int 0, .int 2], .tuple [.int 0, .int 4], .tuple [.int 2, .int 4], .tuple [.int 4, .int 7], .tuple [.int 4, .int 8], .tuple [.int 5, .int 7]]]], .d (.tuple [.tuple [.tuple [.tuple [], .tuple []], .tuple [.tuple [], .tuple []]], .tuple [.tuple [.tuple [], .tuple [.tuple [], .tuple []]], .tuple []]])),
  ([.tuple [.int 9, .tuple [.tuple [.int 0, .int 2], .tuple [.int 0, .int 4], .tuple [.int 2, .int 4], .tuple [.int 4, .int 6], .tuple [.int 4, .int 7], .tuple [.int 4, .int 8]]]], .d (.tuple [.tuple [.tuple [.tuple [], .tuple []], .tuple [.tuple [], .tuple []]], .tuple [.tuple [.tuple [.tuple [], .tuple []], .tuple []], .tuple []]])),
  ([.tuple [.int 7, .tuple [.tuple [.int 0, .int 3], .tuple [.int 0, .int 4], .tuple [.int 1, .int 3], .tuple [.int 4, .int 6]]]], .d (.tuple [.tuple [.tuple [.tuple [], .tuple [.tuple [], .tuple []]], .tuple []], .tuple [.tuple [], .tuple []]])),
  ([.tuple [.int 8, .tuple [.tuple [.int 0, .int 3], .tuple [.int 0, .int 4], .tuple [.int 1, .int 3], .tuple [.int 4, .int 7], .tuple [.int 5, .int 7]]]], .d (.tuple [.tuple [.tuple [.tuple [], .tuple [.tuple [], .tuple []]], .tuple []], .tuple [.tuple [], .tuple [.tuple [], .tuple []]]])),
  ([.tuple [.int 8, .tuple [.tuple [.int 0, .int 3], .tuple [.int 0, .int 4], .tuple [.int 1, .int 3], .tuple [.int 4, .int 6], .tuple [.int 4, .int 7]]]], .d (.tuple [.tuple [.tuple [.tuple [], .tuple [.tuple [], .tuple []]], .tuple []], .tuple [.tuple [.tuple [], .tuple []], .tuple []]])),
  ([.tuple [.int 9, .tuple [.tuple [.int 0, .int 3], .tuple [.int 0, .int 4], .tuple [.int 1, .int 3], .tuple [.int 4, .int 8], .tuple [.int 5, .int 8], .tuple [.int 6, .int 8]]]], .d (.tuple [.tuple [.tuple [.tuple [], .tuple [.tuple [], .tuple []]], .tuple []], .tuple [.tuple [], .tuple [.tuple [], .tuple [.tuple [], .tuple []]]]])),
  ([.tuple [.int 9, .tuple [.tuple [.int 0, .int 3], .tuple [.int 0, .int 4], .tuple [.int 1, .int 3], .tuple [.int 4, .int 8], .tuple [.int 5, .int 7], .tuple [.int 5, .int 8]]]], .d (.tuple [.tuple [.tuple [.tuple [], .tuple [.tuple [], .tuple []]], .tuple []], .tuple [.tuple [], .tuple [.tuple [.tuple [], .tuple []], .tuple []]]])),
  ([.tuple [.int 9, .tuple [.tuple [.int 0, .int 3], .tuple [.int 0, .int 4], .tuple [.int 1, .int 3], .tuple [.int 4, .int 6], .tuple [.int 4, .int 8], .tuple [.int 6, .int 8]]]], .d (.tuple [.tuple [.tuple [.tuple [], .tuple [.tuple [], .tuple []]], .tuple []], .tuple [.tuple [.tuple [], .tuple []], .tuple [.tuple [], .tuple []]]])),
  ([.tuple [.int 9, .tuple [.tuple [.int 0, .int 3], .tuple [.int 0, .int 4], .tuple [.int 1, .int 3], .tuple [.int 4, .int 7], .tuple [.int 4, .int 8], .tuple [.int 5, .int 7]]]], .d (.tuple [.tuple [.tuple [.tuple [], .tuple [.tuple [], .tuple []]], .tuple []], .tuple [.tuple [.tuple [], .tuple [.tuple [], .tuple []]], .tuple []]])),
  ([.tuple [.int 9, .tuple [.tuple [.int 0, .int 3], .tuple [.int 0, .int 4], .tuple [.int 1, .int 3], .tuple [.int 4, .int 6], .tuple [.int 4, .int 7], .tuple [.int 4, .int 8]]]], .d (.tuple [.tuple [.tuple [.tuple [], .tuple [.tuple [], .tuple []]], .tuple []], .tuple [.tuple [.tuple [.tuple [], .tuple []], .tuple []], .tuple []]])),
  ([.tuple [.int 7, .tuple [.tuple [.int 0, .int 2], .tuple [.int 0, .int 3], .tuple [.int 0, .int 4], .tuple [.int 4, .int 6]]]], .d (.tuple [.tuple [.tuple [.tuple [.tuple [], .tuple []], .tuple []], .tuple []], .tuple [.tuple [], .tuple []]])),
  ([.tuple [.int 8, .tuple [.tuple [.int 0, .int 2], .tuple [.int 0, .int 3], .tuple [.int 0, .int 4], .tuple [.int 4, .int 7], .tuple [.int 5, .int 7]]]], .d (.tuple [.tuple [.tuple [.tuple [.tuple [], .tuple []], .tuple []], .tuple []], .tuple [.tuple [], .tuple [.tuple [], .tuple []]]])),
  ([.tuple [.int 8, .tuple [.tuple [.int 0, .int 2], .tuple [.int 0, .int 3], .tuple [.int 0, .int 4], .tuple [.int 4, .int 6], .tuple [.int 4, .int 7]]]], .d (.tuple [.tuple [.tuple [.tuple [.tuple [], .tuple []], .tuple []], .tuple []], .tuple [.tuple [.tuple [], .tuple []], .tuple []]])),
  ([.tuple [.int 9, .tuple [.tuple [.int 0, .int 2], .tuple [.int 0, .int 3], .tuple [.int 0, .int 4], .tuple [.int 4, .int 8], .tuple [.int 5, .int 8], .tuple [.int 6, .int 8]]]], .d (.tuple [.tuple [.tuple [.tuple [.tuple [], .tuple []], .tuple []], .tuple []], .tuple [.tuple [], .tuple [.tuple [], .tuple [.tuple [], .tuple []]]]])),
  ([.tuple [.int 9, .tuple [.tuple [.int 0, .int 2], .tuple [.int 0, .int 3], .tuple [.int 0, .int 4], .tuple [.int 4, .int 8], .tuple [.int 5, .int 7], .tuple [.int 5, .int 8]]]], .d (.tuple [.tuple [.tuple [.tuple [.tuple [], .tuple []], .tuple []], .tuple []], .tuple [.tuple [], .tuple [.tuple [.tuple [], .tuple []], .tuple []]]])),
  ([.tuple [.int 9, .tuple [.tuple [.int 0, .int 2], .tuple [.int 0, .int 3], .tuple [.int 0, .int 4], .tuple [.int 4, .int 6], .tuple [.int 4, .int 8], .tuple [.int 6, .int 8]]]], .d (.tuple [.tuple [.tuple [.tuple [.tuple [], .tuple []], .tuple []], .tuple []], .tuple [.tuple [.tuple [], .tuple []], .tuple [.tuple [], .tuple []]]])),
  ([.tuple [.int 9, .tuple [.tuple [.int 0, .int 2], .tuple [.int 0, .int 3], .tuple [.int 0, .int 4], .tuple [.int 4, .int 7], .tuple [.int 4, .int 8], .tuple [.int 5, .int 7]]]], .d (.tuple [.tuple [.tuple [.tuple [.tuple [], .tuple []], .tuple []], .tuple []], .tuple [.tuple [.tuple [], .tuple [.tuple [], .tuple []]], .tuple []]])),
  ([.tuple [.int 9, .tuple [.tuple [.int 0, .int 2], .tuple [.int 0, .int 3], .tuple [.int 0, .int 4], .tuple [.int 4, .int 6], .tuple [.int 4, .int 7], .tuple [.int 4, .int 8]]]], .d (.tuple [.tuple [.tuple [.tuple [.tuple [], .tuple []], .tuple []], .tuple []], .tuple [.tuple [.tuple [.tuple [], .tuple []], .tuple []], .tuple []]]))]
def T_tree_of : List PyData → FR := lookT tab_tree_of
theorem okt_tree_of (fs : FS K mg) : FnOk P w K mg base (L2.CX P w) 63 fs.f_tree_of fs.fd_tree_of ["cutting"] (spF K [] mg 1 T_tree_of) := fn_tab tab_tree_of (ok_tree_of fs) (by decide +kernel)
theorem sc_reaches_within : FnScope ["tree", "left", "right"] ["tree"] (defScope (topS 32)) := ⟨rfl, rfl, rfl, by decide +kernel, rfl, by decide +kernel, by decide +kernel⟩
def m_reaches_within (rec_reaches_within : List PyData → FR) : SM := seqM (iteM (notM (truM (rdV 0))) (retM (tupM [])) (skipM)) (seqM (asgM (.tp [1, 2]) (rdV 0)) (retM (op2 addS (op2 addS (callM rec_reaches_within [rdV 1]) (tupM [callM F_forks_within [rdV 2]])) (callM rec_reaches_within [rdV 2]))))
def Fn_reaches_within : Nat → List PyData → FR
  | 0 => fun _ => .no
  | n + 1 => runF (m_reaches_within (Fn_reaches_within n)) 3
def F_reaches_within : List PyData → FR := Fn_reaches_within 60
theorem okg_reaches_within (fs : FS K mg) : ∀ n : Nat, FnOk P w K mg base (L2.CX P w) (62 + n) fs.f_reaches_within fs.fd_reaches_within ["tree"] (spF K [] mg 1 (Fn_reaches_within n))
  | 0 => fn_pure (k := 61) fs.F_reaches_within sc_reaches_within (z := fun _ => .no) (fun cdv A outer s H E hr tk => pzs_never) (fun _ _ h => absurd rfl h)
  | n + 1 => by
    have h := okg_reaches_within fs n
    have okn_reaches_within := h
    exact (have sc := sc_reaches_within; fn_pure (k := 62 + n) fs.F_reaches_within sc (z := m_reaches_within (Fn_reaches_within n)) (fun cdv A outer s H E hr tk => pzs_cons (pz_if (pxt_not (pxt_tru (px_var 0))) (pzs_one (pz_ret (px_tup (hz := (by decide : (0 : Nat) ≤ sizeLine)) (pxa_nil)))) (pzs_nil)) (pzs_cons (pz_asg (px_var 0) (pgx_tp rfl sc.nd (.cons rfl (by first | exact Or.inl rfl | exact Or.inr rfl) (by first | exact .inl rfl | exact .inr rfl) (.cons rfl (by first | exact Or.inl rfl | exact Or.inr rfl) (by first | exact .inl rfl | exact .inr rfl) (.nil))))) (pzs_one (pz_ret (px_bin op_addS s2_addS (px_bin op_addS s2_addS (px_call (okn_reaches_within) (hr.mono (by omega)) (by rfl) fs.m_reaches_within fs.F_reaches_within.kp fs.b_reaches_within tk (pxa_cons (px_var 1) (pxa_nil))) (px_tup (hz := (by decide : (1 : Nat) ≤ sizeLine)) (pxa_cons (px_call (ok_forks_within fs) (hr.mono (by omega)) (by rfl) fs.m_forks_within fs.F_forks_within.kp fs.b_forks_within tk (pxa_cons (px_var 2) (pxa_nil))) (pxa_nil)))) (px_call (okn_reaches_within) (hr.mono (by omega)) (by rfl) fs.m_reaches_within fs.F_reaches_within.kp fs.b_reaches_within tk (pxa_cons (px_var 2) (pxa_nil)))))))) (fun _ _ _ => rfl))
theorem ok_reaches_within (fs : FS K mg) : FnOk P w K mg base (L2.CX P w) 122 fs.f_reaches_within fs.fd_reaches_within ["tree"] (spF K [] mg 1 F_reaches_within) := (okg_reaches_within fs 60)
theorem sc_reaches : FnScope ["tree"] ["tree"] (defScope (topS 33)) := ⟨rfl, rfl, rfl, by decide +kernel, rfl, by decide +kernel, by decide +kernel⟩
def m_reaches  : SM := seqM (exprM (callM F_need_tree [rdV 0])) (retM (callM F_reaches_within [rdV 0]))
def F_reaches : List PyData → FR := runF m_reaches 1
theorem ok_reaches (fs : FS K mg) : FnOk P w K mg base (L2.CX P w) 123 fs.f_reaches fs.fd_reaches ["tree"] (spF K [] mg 1 F_reaches) :=
  have sc := sc_reaches
  fn_pure fs.F_reaches sc (z := m_reaches) (fun cdv A outer s H E hr tk => pzs_cons (pz_expr (px_call (ok_need_tree fs) (hr.mono (by omega)) (by rfl) fs.m_need_tree fs.F_need_tree.kp fs.b_need_tree tk (pxa_cons (px_var 0) (pxa_nil)))) (pzs_one (pz_ret (px_call (ok_reaches_within fs) (hr.mono (by omega)) (by rfl) fs.m_reaches_within fs.F_reaches_within.kp fs.b_reaches_within tk (pxa_cons (px_var 0) (pxa_nil)))))) (fun _ _ _ => rfl)
def tab_reaches : List (List PyData × TV) := [
  ([.tuple [.tuple [], .tuple []]], .d (.tuple [.int 0])),
  ([.tuple [.tuple [], .tuple [.tuple [], .tuple []]]], .d (.tuple [.int 1, .int 0])),
  ([.tuple [.tuple [.tuple [], .tuple []], .tuple []]], .d (.tuple [.int 0, .int 0])),
  ([.tuple [.tuple [], .tuple [.tuple [], .tuple [.tuple [], .tuple []]]]], .d (.tuple [.int 2, .int 1, .int 0])),
  ([.tuple [.tuple [], .tuple [.tuple [.tuple [], .tuple []], .tuple []]]], .d (.tuple [.int 2, .int 0, .int 0])),
  ([.tuple [.tuple [.tuple [], .tuple []], .tuple [.tuple [], .tuple []]]], .d (.tuple [.int 0, .int 1, .int 0])),
  ([.tuple [.tuple [.tuple [], .tuple [.tuple [], .tuple []]], .tuple []]], .d (.tuple [.int 1, .int 0, .int 0])),
  ([.tuple [.tuple [.tuple [.tuple [], .tuple []], .tuple []], .tuple []]], .d (.tuple [.int 0, .int 0, .int 0])),
  ([.tuple [.tuple [.tuple [], .tuple []], .tuple [.tuple [], .tuple [.tuple [], .tuple []]]]], .d (.tuple [.int 0, .int 2, .int 1, .int 0])),
  ([.tuple [.tuple [.tuple [], .tuple []], .tuple [.tuple [.tuple [], .tuple []], .tuple []]]], .d (.tuple [.int 0, .int 2, .int 0, .int 0])),
  ([.tuple [.tuple [.tuple [], .tuple []], .tuple [.tuple [], .tuple [.tuple [], .tuple [.tuple [], .tuple []]]]]], .d (.tuple [.int 0, .int 3, .int 2, .int 1, .int 0])),
  ([.tuple [.tuple [.tuple [], .tuple []], .tuple [.tuple [], .tuple [.tuple [.tuple [], .tuple []], .tuple []]]]], .d (.tuple [.int 0, .int 3, .int 2, .int 0, .int 0])),
  ([.tuple [.tuple [.tuple [], .tuple []], .tuple [.tuple [.tuple [], .tuple []], .tuple [.tuple [], .tuple []]]]], .d (.tuple [.int 0, .int 3, .int 0, .int 1, .int 0])),
  ([.tuple [.tuple [.tuple [], .tuple []], .tuple [.tuple [.tuple [], .tuple [.tuple [], .tuple []]], .tuple []]]], .d (.tuple [.int 0, .int 3, .int 1, .int 0, .int 0])),
  ([.tuple [.tuple [.tuple [], .tuple []], .tuple [.tuple [.tuple [.tuple [], .tuple []], .tuple []], .tuple []]]], .d (.tuple [.int 0, .int 3, .int 0, .int 0, .int 0])),
  ([.tuple [.tuple [.tuple [], .tuple [.tuple [], .tuple []]], .tuple [.tuple [], .tuple []]]], .d (.tuple [.int 1, .int 0, .int 1, .int 0])),
  ([.tuple [.tuple [.tuple [], .tuple [.tuple [], .tuple []]], .tuple [.tuple [], .tuple [.tuple [], .tuple []]]]], .d (.tuple [.int 1, .int 0, .int 2, .int 1, .int 0])),
  ([.tuple [.tuple [.tuple [], .tuple [.tuple [], .tuple []]], .tuple [.tuple [.tuple [], .tuple []], .tuple []]]], .d (.tuple [.int 1, .int 0, .int 2, .int 0, .int 0])),
  ([.tuple [.tuple [.tuple [], .tuple [.tuple [], .tuple []]], .tuple [.tuple [], .tuple [.tuple [], .tuple [.tuple [], .tuple []]]]]], .d (.tuple [.int 1, .int 0, .int 3, .int 2, .int 1, .int 0])),
  ([.tuple [.tuple [.tuple [], .tuple [.tuple [], .tuple []]], .tuple [.tuple [], .tuple [.tuple [.tuple [], .tuple []], .tuple []]]]], .d (.tuple [.int 1, .int 0, .int 3, .int 2, .int 0, .int 0])),
  ([.tuple [.tuple [.tuple [], .tuple [.tuple [], .tuple []]], .tuple [.tuple [.tuple [], .tuple []], .tuple [.tuple [], .tuple []]]]], .d (.tuple [.int 1, .int 0, .int 3, .int 0, .int 1, .int 0])),
  ([.tuple [.tuple [.tuple [], .tuple [.tuple [], .tuple []]], .tuple [.tuple [.tuple [], .tuple [.tuple [], .tuple []]], .tuple []]]], .d (.tuple [.int 1, .int 0, .int 3, .int 1, .int 0, .int 0])),
  ([.tuple [.tuple [.tuple [], .tuple [.tuple [], .tuple []]], .tuple [.tuple [.tuple [.tuple [], .tuple []], .tuple []], .tuple []]]], .d (.tuple [.int 1, .int 0, .int 3, .int 0, .int 0, .int 0])),
  ([.tuple [.tuple [.tuple [.tuple [], .tuple []], .tuple []], .tuple [.tuple [], .tuple []]]], .d (.tuple [.int 0, .int 0, .int 1, .int 0])),
  ([.tuple [.tuple [.tuple [.tuple [], .tuple []], .tuple []], .tuple [.tuple [], .tuple [.tuple [], .tuple []]]]], .d (.tuple [.int 0, .int 0, .int 2, .int 1, .int 0])),
  ([.tuple [.tuple [.tuple [.tuple [], .tuple []], .tuple []], .tuple [.tuple [.tuple [], .tuple []], .tuple []]]], .d (.tuple [.int 0, .int 0, .int 2, .int 0, .int 0])),
  ([.tuple [.tuple [.tuple [.tuple [], .tuple []], .tuple []], .tuple [.tuple [], .tuple [.tuple [], .tuple [.tuple [], .tuple []]]]]], .d (.tuple [.int 0, .int 0, .int 3, .int 2, .int 1, .int 0])),
  ([.tuple [.tuple [.tuple [.tuple [], .tuple []], .tuple []], .tuple [.tuple [], .tuple [.tuple [.tuple [], .tuple []], .tuple []]]]], .d (.tuple [.int 0, .int 0, .int 3, .int 2, .int 0, .int 0])),
  ([.tuple [.tuple [.tuple [.tuple [], .tuple []], .tuple []], .tuple [.tuple [.tuple [], .tuple []], .tuple [.tuple [], .tuple []]]]], .d (.tuple [.int 0, .int 0, .int 3, .int 0, .int 1, .int 0])),
  ([.tuple [.tuple [.tuple [.tuple [], .tuple []], .tuple []], .tuple [.tuple [.tuple [], .tuple [.tuple [], .tuple []]], .tuple []]]], .d (.tuple [.int 0, .int 0, .int 3, .int 1, .int 0, .int 0])),
  ([.tuple [.tuple [.tuple [.tuple [], .tuple []], .tuple []], .tuple [.tuple [.tuple [.tuple [], .tuple []], .tuple []], .tuple []]]], .d (.tuple [.int 0, .int 0, .int 3, .int 0, .int 0, .int 0])),
  ([.tuple [.tuple [.tuple [], .tuple [.tuple [], .tuple [.tuple [], .tuple []]]], .tuple [.tuple [], .tuple []]]], .d (.tuple [.int 2, .int 1, .int 0, .int 1, .int 0])),
  ([.tuple [.tuple [.tuple [], .tuple [.tuple [], .tuple [.tuple [], .tuple []]]], .tuple [.tuple [], .tuple [.tuple [], .tuple []]]]], .d (.tuple [.int 2, .int 1, .int 0, .int 2, .int 1, .int 0])),
  ([.tuple [.tuple [.tuple [], .tuple [.tuple [], .tuple [.tuple [], .tuple []]]], .tuple [.tuple [.tuple [], .tuple []], .tuple []]]], .d (.tuple [.int 2, .int 1, .int 0, .int 2, .int 0, .int 0])),
  ([.tuple [.tuple [.tuple [], .tuple [.tuple [], .tuple [.tuple [], .tuple []]]], .tuple [.tuple [], .tuple [.tuple [], .tuple [.tuple [], .tuple []]]]]], .d (.tuple [.int 2, .int 1, .int 0, .int 3, .int 2, .int 1, .int 0])),
  ([.tuple [.tuple [.tuple [], .tuple [.tuple [], .tuple [.tuple [], .tuple []]]], .tuple [.tuple [], .tuple [.tuple [.tuple [], .tuple []], .tuple []]]]], .d (.tuple [.int 2, .int 1, .int 0, .int 3, .int 2, .int 0, .int 0])),
  ([.tuple [.tuple [.tuple [], .tuple [.tuple [], .tuple [.tuple [], .tuple []]]], .tuple [.tuple [.tuple [], .tuple []], .tuple [.tuple [], .tuple []]]]], .d (.tuple [.int 2, .int 1, .int 0, .int 3, .int 0, .int 1, .int 0])),
  ([.tuple [.tuple [.tuple [], .tuple [.tuple [], .tuple [.tuple [], .tuple []]]], .tuple [.tuple [.tuple [], .tuple [.tuple [], .tuple []]], .tuple []]]], .d (.tuple [.int 2, .int 1, .int 0, .int 3, .int 1, .int 0, .int 0])),
  ([.tuple [.tuple [.tuple [], .tuple [.tuple [], .tuple [.tuple [], .tuple []]]], .tuple [.tuple [.tuple [.tuple [], .tuple []], .tuple []], .tuple []]]], .d (.tuple [.int 2, .int 1, .int 0, .int 3, .int 0, .int 0, .int 0])),
  ([.tuple [.tuple [.tuple [], .tuple [.tuple [.tuple [], .tuple []], .tuple []]], .tuple [.tuple [], .tuple []]]], .d (.tuple [.int 2, .int 0, .int 0, .int 1, .int 0])),
  ([.tuple [.tuple [.tuple [], .tuple [.tuple [.tuple [], .tuple []], .tuple []]], .tuple [.tuple [], .tuple [.tuple [], .tuple []]]]], .d (.tuple [.int 2, .int 0, .int 0, .int 2, .int 1, .int 0])),
  ([.tuple [.tuple [.tuple [], .tuple [.tuple [.tuple [], .tuple []], .tuple []]], .tuple [.tuple [.tuple [], .tuple []], .tuple []]]], .d (.tuple [.int 2, .int 0, .int 0, .int 2, .int 0, .int 0])),
  ([.tuple [.tuple [.tuple [], .tuple [.tuple [.tuple [], .tuple []], .tuple []]], .tuple [.tuple [], .tuple [.tuple [], .tuple [.tuple [], .tuple []]]]]], .d (.tuple [.int 2, .int 0, .int 0, .int 3, .int 2, .int 1, .int 0])),
  ([.tuple [.tuple [.tuple [], .tuple [.tuple [.tuple [], .tuple []], .tuple []]], .tuple [.tuple [], .tuple [.tuple [.tuple [], .tuple []], .tuple []]]]], .d (.tuple [.int 2, .int 0, .int 0, .int 3, .int 2, .int 0, .int 0])),
  ([.tuple [.tuple [.tuple [], .tuple [.tuple [.tuple [], .tuple []], .tuple []]], .tuple [.tuple [.tuple [], .tuple []], .tuple [.tuple [], .tuple []]]]], .d (.tuple [.int 2, .int 0, .int 0, .int 3, .int 0, .int 1, .int 0])),
  ([.tuple [.tuple [.tuple [], .tuple [.tuple [.tuple [], .tuple []], .tuple []]], .tuple [.tuple [.tuple [], .tuple [.tuple [], .tuple []]], .tuple []]]], .d (.tuple [.int 2, .int 0, .int 0, .int 3, .int 1, .int 0, .int 0])),
  ([.tuple [.tuple [.tuple [], .tuple [.tuple [.tuple [], .tuple []], .tuple []]], .tuple [.tuple [.tuple [.tuple [], .tuple []], .tuple []], .tuple []]]], .d (.tuple [.int 2, .int 0, .int 0, .int 3, .int 0, .int 0, .int 0])),
  ([.tuple [.tuple [.tuple [.tuple [], .tuple []], .tuple [.tuple [], .tuple []]], .tuple [.tuple [], .tuple []]]], .d (.tuple [.int 0, .int 1, .int 0, .int 1, .int 0])),
  ([.tuple [.tuple [.tuple [.tuple [], .tuple []], .tuple [.tuple [], .tuple []]], .tuple [.tuple [], .tuple [.tuple [], .tuple []]]]], .d (.tuple [.int 0, .int 1, .int 0, .int 2, .int 1, .int 0])),
  ([.tuple [.tuple [.tuple [.tuple [], .tuple []], .tuple [.tuple [], .tuple []]], .tuple [.tuple [.tuple [], .tuple []], .tuple []]]], .d (.tuple [.int 0, .int 1, .int 0, .int 2, .int 0, .int 0])),
  ([.tuple [.tuple [.tuple [.tuple [], .tuple []], .tuple [.tuple [], .tuple []]], .tuple [.tuple [], .tuple [.tuple [], .tuple [.tuple [], .tuple []]]]]], .d (.tuple [.int 0, .int 1, .int 0, .int 3, .int 2, .int 1, .int 0])),
  ([.tuple [.tuple [.tuple [.tuple [], .tuple []], .tuple [.tuple [], .tuple []]], .tuple [.tuple [], .tuple [.tuple [.tuple [], .tuple []], .tuple []]]]], .d (.tuple [.int 0, .int 1, .int 0, .int 3, .int 2, .int 0, .int 0])),
  ([.tuple [.tuple [.tuple [.tuple [], .tuple []], .tuple [.tuple [], .tuple []]], .tuple [.tuple [.tuple [], .tuple []], .tuple [.tuple [], .tuple []]]]], .d (.tuple [.int 0, .int 1, .int 0, .int 3, .int 0, .int 1, .int 0])),
  ([.tuple [.tuple [.tuple [.tuple [], .tuple []], .tuple [.tuple [], .tuple []]], .tuple [.tuple [.tuple [], .tuple [.tuple [], .tuple []]], .tuple []]]], .d (.tuple [.int 0, .int 1, .int 0, .int 3, .int 1, .int 0, .int 0])),
  ([.tuple [.tuple [.tuple [.tuple [], .tuple []], .tuple [.tuple [], .tuple []]], .tuple [.tuple [.tuple [.tuple [], .tuple []], .tuple []], .tuple []]]], .d (.tuple [.int 0, .int 1, .int 0, .int 3, .int 0, .int 0, .int 0])),
  ([.tuple [.tuple [.tuple [.tuple [], .tuple [.tuple [], .tuple []]], .tuple []], .tuple [.tuple [], .tuple []]]], .d (.tuple [.int 1, .int 0, .int 0, .int 1, .int 0])),
  ([.tuple [.tuple [.tuple [.tuple [], .tuple [.tuple [], .tuple []]], .tuple []], .tuple [.tuple [], .tuple [.tuple [], .tuple []]]]], .d (.tuple [.int 1, .int 0, .int 0, .int 2, .int 1, .int 0])),
  ([.tuple [.tuple [.tuple [.tuple [], .tuple [.tuple [], .tuple []]], .tuple []], .tuple [.tuple [.tuple [], .tuple []], .tuple []]]], .d (.tuple [.int 1, .int 0, .int 0, .int 2, .int 0, .int 0])),
  ([.tuple [.tuple [.tuple [.tuple [], .tuple [.tuple [], .tuple []]], .tuple []], .tuple [.tuple [], .tuple [.tuple [], .tuple [.tuple [], .tuple []]]]]], .d (.tuple [.int 1, .int 0, .int 0, .int 3, .int 2, .int 1, .int 0])),
  ([.tuple [.tuple [.tuple [.tuple [], .tuple [.tuple [], .tuple []]], .tuple []], .tuple [.tuple [], .tuple [.tuple [.tuple [], .tuple []], .tuple []]]]], .d (.tuple [.int 1, .int 0, .int 0, .int 3, .int 2, .int 0, .int 0])),
  ([.tuple [.tuple [.tuple [.tuple [], .tuple [.tuple [], .tuple []]], .tuple []], .tuple [.tuple [.tuple [], .tuple []], .tuple [.tuple [], .tuple []]]]], .d (.tuple [.int 1, .int 0, .int 0, .int 3, .int 0, .int 1, .int 0])),
  ([.tuple [.tuple [.tuple [.tuple [], .tuple [.tuple [], .tuple []]], .tuple []], .tuple [.tuple [.tuple [], .tuple [.tuple [], .tuple []]], .tuple []]]], .d (.tuple [.int 1, .int 0, .int 0, .int 3, .int 1, .int 0, .int 0])),
  ([.tuple [.tuple [.tuple [.tuple [], .tuple [.tuple [], .tuple []]], .tuple []], .tuple [.tuple [.tuple [.tuple [], .tuple []], .tuple []], .tuple []]]], .d (.tuple [.int 1, .int 0, .int 0, .int 3, .int 0, .int 0, .int 0])),
  ([.tuple [.tuple [.tuple [.tuple [.tuple [], .tuple []], .tuple []], .tuple []], .tuple [.tuple [], .tuple []]]], .d (.tuple [.int 0, .int 0, .int 0, .int 1, .int 0])),
  ([.tuple [.tuple [.tuple [.tuple [.tuple [], .tuple []], .tuple []], .tuple []], .tuple [.tuple [], .tuple [.tuple [], .tuple []]]]], .d (.tuple [.int 0, .int 0, .int 0, .int 2, .int 1, .int 0])),
  ([.tuple [.tuple [.tuple [.tuple [.tuple [], .tuple []], .tuple []], .tuple []], .tuple [.tuple [.tuple [], .tuple []], .tuple []]]], .d (.tuple [.int 0, .int 0, .int 0, .int 2, .int 0, .int 0])),
  ([.tuple [.tuple [.tuple [.tuple [.tuple [], .tuple []], .tuple []], .tuple []], .tuple [.tuple [], .tuple [.tuple [], .tuple [.tuple [], .tuple []]]]]], .d (.tuple [.int 0, .int 0, .int 0, .int 3, .int 2, .int 1, .int 0])),
  ([.tuple [.tuple [.tuple [.tuple [.tuple [], .tuple []], .tuple []], .tuple []], .tuple [.tuple [], .tuple [.tuple [.tuple [], .tuple []], .tuple []]]]], .d (.tuple [.int 0, .int 0, .int 0, .int 3, .int 2, .int 0, .int 0])),
  ([.tuple [.tuple [.tuple [.tuple [.tuple [], .tuple []], .tuple []], .tuple []], .tuple [.tuple [.tuple [], .tuple []], .tuple [.tuple [], .tuple []]]]], .d (.tuple [.int 0, .int 0, .int 0, .int 3, .int 0, .int 1, .int 0])),
  ([.tuple [.tuple [.tuple [.tuple [.tuple [], .tuple []], .tuple []], .tuple []], .tuple [.tuple [.tuple [], .tuple [.tuple [], .tuple []]], .tuple []]]], .d (.tuple [.int 0, .int 0, .int 0, .int 3, .int 1, .int 0, .int 0])),
  ([.tuple [.tuple [.tuple [.tuple [.tuple [], .tuple []], .tuple []], .tuple []], .tuple [.tuple [.tuple [.tuple [], .tuple []], .tuple []], .tuple []]]], .d (.tuple [.int 0, .int 0, .int 0, .int 3, .int 0, .int 0, .int 0]))]
def T_reaches : List PyData → FR := lookT tab_reaches
theorem okt_reaches (fs : FS K mg) : FnOk P w K mg base (L2.CX P w) 123 fs.f_reaches fs.fd_reaches ["tree"] (spF K [] mg 1 T_reaches) := fn_tab tab_reaches (ok_reaches fs) (by decide +kernel)
theorem sc_numbers_from : FnScope ["row", "place", "steps", "numbers", "step"] ["row", "place", "steps"] (defScope (topS 35)) := ⟨rfl, rfl, rfl, by decide +kernel, rfl, by decide +kernel, by decide +kernel⟩
def m_numbers_from  : SM := seqM (setM 3 (lstM [ret (.d (.int 0)), ret (.d (.int 1))])) (seqM (forM (rng2I (ret (.d (.int 1))) (rdV 2)) (.nm 4) (exprM (appM 3 (op2 subF (op2 mulF (op2 ixA (rdV 3) (op1 negF (ret (.d (.int 1))))) (op2 ixA (rdV 0) (op2 modF (op2 addS (rdV 1) (rdV 4)) (op1 lenF (rdV 0))))) (op2 ixA (rdV 3) (op1 negF (ret (.d (.int 2))))))))) (retM (slM (rdV 3) none (some (op2 addS (rdV 2) (ret (.d (.int 1))))))))
def F_numbers_from : List PyData → FR := runF m_numbers_from 5
theorem ok_numbers_from (fs : FS K mg) : FnOk P w K mg base (L2.CX P w) 1 fs.f_numbers_from fs.fd_numbers_from ["row", "place", "steps"] (spF K [] mg 3 F_numbers_from) :=
  have sc := sc_numbers_from
  fn_pure fs.F_numbers_from sc (z := m_numbers_from) (fun cdv A outer s H E hr tk => pzs_cons (pz_set 3 (px_lst (hz := (by decide : (2 : Nat) ≤ sizeLine)) (pxa_cons (px_int) (pxa_cons (px_int) (pxa_nil)))) sc.nd) (pzs_cons (pz_for (passes_of rfl) rfl (pix_rng2 (by rfl) fs.z_range (px_int) (px_var 2)) (pgx_nm 4 sc.nd) (pzs_one (pz_expr (px_append 3 (px_bin op_subA (s2_ii yes2 (· - ·)) (px_bin op_mul' s2_mul (px_ixA (hu65 hr) (px_var 3) (px_un un_neg s1_neg (px_int))) (px_ixA (hu65 hr) (px_var 0) (px_bin op_modA (s2_ii modOk Int.fmod) (px_bin op_addS s2_addS (px_var 1) (px_var 4)) (px_b1 cr_lenD s1_len (by rfl) fs.z_len bb_len (px_var 0))))) (px_ixA (hu65 hr) (px_var 3) (px_un un_neg s1_neg (px_int)))))))) (pzs_one (pz_ret (px_sl (px_var 3) .none (.some (px_bin op_addS s2_addS (px_var 2) (px_int)))))))) (fun _ _ _ => rfl)
theorem sc_frieze_of_counts : FnScope ["row", "sides", "upper", "corners", "corner", "one", "other"] ["row"] (defScope (topS 36)) := ⟨rfl, rfl, rfl, by decide +kernel, rfl, by decide +kernel, by decide +kernel⟩
def m_frieze_of_counts  : SM := seqM (setM 1 (op1 lenF (rdV 0))) (seqM (setM 2 (lcM (rng1I (rdV 1)) (.nm 4) (ret true) (callM F_numbers_from [rdV 0, rdV 4, op2 subF (op2 subF (rdV 1) (ret (.d (.int 1)))) (rdV 4)]) [4])) (seqM (setM 3 (op1 rng1F (rdV 1))) (retM (op1 tupF (lcM (anyI (rdV 3)) (.nm 5) (ret true) (op1 tupF (lcM (anyI (rdV 3)) (.nm 6) (ret true) (op2 ixA (op2 ixA (rdV 2) (op2 min2F (rdV 5) (rdV 6))) (op1 absF (op2 subF (rdV 5) (rdV 6)))) [6])) [5])))))
def F_frieze_of_counts : List PyData → FR := runF m_frieze_of_counts 7
theorem ok_frieze_of_counts (fs : FS K mg) : FnOk P w K mg base (L2.CX P w) 2 fs.f_frieze_of_counts fs.fd_frieze_of_counts ["row"] (spF K [] mg 1 F_frieze_of_counts) :=
  have sc := sc_frieze_of_counts
  fn_pure fs.F_frieze_of_counts sc (z := m_frieze_of_counts) (fun cdv A outer s H E hr tk => pzs_cons (pz_set 1 (px_b1 cr_lenD s1_len (by rfl) fs.z_len bb_len (px_var 0)) sc.nd) (pzs_cons (pz_set 2 (px_lc (own := [("corner", 4)]) rfl sc.nd (pix_rng1 (by rfl) fs.z_range (px_var 1)) (blkOk_by (by kernel_rfl)) (fun _ _ _ _ _ => pgx_nm 4 sc.nd) (fun _ _ _ _ _ => ptx_nil) (fun _ _ _ _ _ => px_call (ok_numbers_from fs) (hr.mono (by omega)) (by rfl) fs.m_numbers_from fs.F_numbers_from.kp fs.b_numbers_from takes_F (pxa_cons (px_var 0) (pxa_cons (px_var 4) (pxa_cons (px_bin op_subA (s2_ii yes2 (· - ·)) (px_bin op_subA (s2_ii yes2 (· - ·)) (px_var 1) (px_int)) (px_var 4)) (pxa_nil)))))) sc.nd) (pzs_cons (pz_set 3 (px_t1 cr_range1 s1_rng1 (by rfl) fs.z_range bb_range (px_var 1)) sc.nd) (pzs_one (pz_ret (px_t1 call_tuple_of s1_tup (by rfl) fs.z_tuple bb_tuple (px_lc (own := [("one", 5)]) rfl sc.nd (pix_any (px_var 3)) (blkOk_by (by kernel_rfl)) (fun _ _ _ _ _ => pgx_nm 5 sc.nd) (fun _ _ _ _ _ => ptx_nil) (fun _ _ _ _ _ => px_t1 call_tuple_of s1_tup (by rfl) fs.z_tuple bb_tuple (px_lc (own := [("other", 6)]) rfl sc.nd (pix_any (px_var 3)) (blkOk_by (by kernel_rfl)) (fun _ _ _ _ _ => pgx_nm 6 sc.nd) (fun _ _ _ _ _ => ptx_nil) (fun _ _ _ _ _ => px_ixA (hu65 hr) (px_ixA (hu65 hr) (px_var 2) (px_b2 (call_min2 rfl) s2_min2 (by rfl) fs.z_min bb_min (px_var 5) (px_var 6))) (px_b1 call_abs s1_abs (by rfl) fs.z_abs bb_abs (px_bin op_subA (s2_ii yes2 (· - ·)) (px_var 5) (px_var 6))))))))))))) (fun _ _ _ => rfl)
theorem sc_frieze : FnScope ["cutting"] ["cutting"] (defScope (topS 37)) := ⟨rfl, rfl, rfl, by decide +kernel, rfl, by decide +kernel, by decide +kernel⟩
def m_frieze  : SM := retM (callM F_frieze_of_counts [callM T_counts_at [rdV 0]])
def F_frieze : List PyData → FR := runF m_frieze 1
theorem ok_frieze (fs : FS K mg) : FnOk P w K mg base (L2.CX P w) 8 fs.f_frieze fs.fd_frieze ["cutting"] (spF K [] mg 1 F_frieze) :=
  have sc := sc_frieze
  fn_pure fs.F_frieze sc (z := m_frieze) (fun cdv A outer s H E hr tk => pzs_one (pz_ret (px_call (ok_frieze_of_counts fs) (hr.mono (by omega)) (by rfl) fs.m_frieze_of_counts fs.F_frieze_of_counts.kp fs.b_frieze_of_counts tk (pxa_cons (px_call (okt_counts_at fs) (hr.mono (by omega)) (by rfl) fs.m_counts_at fs.F_counts_at.kp fs.b_counts_at tk (pxa_cons (px_var 0) (pxa_nil))) (pxa_nil))))) (fun _ _ _ => rfl)
def tab_frieze : List (List PyData × TV) := [
  ([.tuple [.int 3, .tuple []]], .d (.tuple [.tuple [.int 0, .int 1, .int 1], .tuple [.int 1, .int 0, .int 1], .tuple [.int 1, .int 1, .int 0]])),
  ([.tuple [.int 4, .tuple [.tuple [.int 1, .int 3]]]], .d (.tuple [.tuple [.int 0, .int 1, .int 2, .int 1], .tuple [.int 1, .int 0, .int 1, .int 1], .tuple [.int 2, .int 1, .int 0, .int 1], .tuple [.int 1, .int 1, .int 1, .int 0]])),
  ([.tuple [.int 4, .tuple [.tuple [.int 0, .int 2]]]], .d (.tuple [.tuple [.int 0, .int 1, .int 1, .int 1], .tuple [.int 1, .int 0, .int 1, .int 2], .tuple [.int 1, .int 1, .int 0, .int 1], .tuple [.int 1, .int 2, .int 1, .int 0]])),
  ([.tuple [.int 5, .tuple [.tuple [.int 1, .int 4], .tuple [.int 2, .int 4]]]], .d (.tuple [.tuple [.int 0, .int 1, .int 2, .int 3, .int 1], .tuple [.int 1, .int 0, .int 1, .int 2, .int 1], .tuple [.int 2, .int 1, .int 0, .int 1, .int 1], .tuple [.int 3, .int 2, .int 1, .int 0, .int 1], .tuple [.int 1, .int 1, .int 1, .int 1, .int 0]])),
  ([.tuple [.int 5, .tuple [.tuple [.int 1, .int 3], .tuple [.int 1, .int 4]]]], .d (.tuple [.tuple [.int 0, .int 1, .int 3, .int 2, .int 1], .tuple [.int 1, .int 0, .int 1, .int 1, .int 1], .tuple [.int 3, .int 1, .int 0, .int 1, .int 2], .tuple [.int 2, .int 1, .int 1, .int 0, .int 1], .tuple [.int 1, .int 1, .int 2, .int 1, .int 0]])),
  ([.tuple [.int 5, .tuple [.tuple [.int 0, .int 2], .tuple [.int 2, .int 4]]]], .d (.tuple [.tuple [.int 0, .int 1, .int 1, .int 2, .int 1], .tuple [.int 1, .int 0, .int 1, .int 3, .int 2], .tuple [.int 1, .int 1, .int 0, .int 1, .int 1], .tuple [.int 2, .int 3, .int 1, .int 0, .int 1], .tuple [.int 1, .int 2, .int 1, .int 1, .int 0]])),
  ([.tuple [.int 5, .tuple [.tuple [.int 0, .int 3], .tuple [.int 1, .int 3]]]], .d (.tuple [.tuple [.int 0, .int 1, .int 2, .int 1, .int 1], .tuple [.int 1, .int 0, .int 1, .int 1, .int 2], .tuple [.int 2, .int 1, .int 0, .int 1, .int 3], .tuple [.int 1, .int 1, .int 1, .int 0, .int 1], .tuple [.int 1, .int 2, .int 3, .int 1, .int 0]])),
  ([.tuple [.int 5, .tuple [.tuple [.int 0, .int 2], .tuple [.int 0, .int 3]]]], .d (.tuple [.tuple [.int 0, .int 1, .int 1, .int 1, .int 1], .tuple [.int 1, .int 0, .int 1, .int 2, .int 3], .tuple [.int 1, .int 1, .int 0, .int 1, .int 2], .tuple [.int 1, .int 2, .int 1, .int 0, .int 1], .tuple [.int 1, .int 3, .int 2, .int 1, .int 0]])),
  ([.tuple [.int 6, .tuple [.tuple [.int 0, .int 2], .tuple [.int 2, .int 5], .tuple [.int 3, .int 5]]]], .d (.tuple [.tuple [.int 0, .int 1, .int 1, .int 2, .int 3, .int 1], .tuple [.int 1, .int 0, .int 1, .int 3, .int 5, .int 2], .tuple [.int 1, .int 1, .int 0, .int 1, .int 2, .int 1], .tuple [.int 2, .int 3, .int 1, .int 0, .int 1, .int 1], .tuple [.int 3, .int 5, .int 2, .int 1, .int 0, .int 1], .tuple [.int 1, .int 2, .int 1, .int 1, .int 1, .int 0]])),
  ([.tuple [.int 6, .tuple [.tuple [.int 0, .int 2], .tuple [.int 2, .int 4], .tuple [.int 2, .int 5]]]], .d (.tuple [.tuple [.int 0, .int 1, .int 1, .int 3, .int 2, .int 1], .tuple [.int 1, .int 0, .int 1, .int 4, .int 3, .int 2], .tuple [.int 1, .int 1, .int 0, .int 1, .int 1, .int 1], .tuple [.int 3, .int 4, .int 1, .int 0, .int 1, .int 2], .tuple [.int 2, .int 3, .int 1, .int 1, .int 0, .int 1], .tuple [.int 1, .int 2, .int 1, .int 2, .int 1, .int 0]])),
  ([.tuple [.int 7, .tuple [.tuple [.int 0, .int 2], .tuple [.int 2, .int 6], .tuple [.int 3, .int 6], .tuple [.int 4, .int 6]]]], .d (.tuple [.tuple [.int 0, .int 1, .int 1, .int 2, .int 3, .int 4, .int 1], .tuple [.int 1, .int 0, .int 1, .int 3, .int 5, .int 7, .int 2], .tuple [.int 1, .int 1, .int 0, .int 1, .int 2, .int 3, .int 1], .tuple [.int 2, .int 3, .int 1, .int 0, .int 1, .int 2, .int 1], .tuple [.int 3, .int 5, .int 2, .int 1, .int 0, .int 1, .int 1], .tuple [.int 4, .int 7, .int 3, .int 2, .int 1, .int 0, .int 1], .tuple [.int 1, .int 2, .int 1, .int 1, .int 1, .int 1, .int 0]])),
  ([.tuple [.int 7, .tuple [.tuple [.int 0, .int 2], .tuple [.int 2, .int 6], .tuple [.int 3, .int 5], .tuple [.int 3, .int 6]]]], .d (.tuple [.tuple [.int 0, .int 1, .int 1, .int 2, .int 5, .int 3, .int 1], .tuple [.int 1, .int 0, .int 1, .int 3, .int 8, .int 5, .int 2], .tuple [.int 1, .int 1, .int 0, .int 1, .int 3, .int 2, .int 1], .tuple [.int 2, .int 3, .int 1, .int 0, .int 1, .int 1, .int 1], .tuple [.int 5, .int 8, .int 3, .int 1, .int 0, .int 1, .int 2], .tuple [.int 3, .int 5, .int 2, .int 1, .int 1, .int 0, .int 1], .tuple [.int 1, .int 2, .int 1, .int 1, .int 2, .int 1, .int 0]])),
  ([.tuple [.int 7, .tuple [.tuple [.int 0, .int 2], .tuple [.int 2, .int 4], .tuple [.int 2, .int 6], .tuple [.int 4, .int 6]]]], .d (.tuple [.tuple [.int 0, .int 1, .int 1, .int 3, .int 2, .int 3, .int 1], .tuple [.int 1, .int 0, .int 1, .int 4, .int 3, .int 5, .int 2], .tuple [.int 1, .int 1, .int 0, .int 1, .int 1, .int 2, .int 1], .tuple [.int 3, .int 4, .int 1, .int 0, .int 1, .int 3, .int 2], .tuple [.int 2, .int 3, .int 1, .int 1, .int 0, .int 1, .int 1], .tuple [.int 3, .int 5, .int 2, .int 3, .int 1, .int 0, .int 1], .tuple [.int 1, .int 2, .int 1, .int 2, .int 1, .int 1, .int 0]])),
  ([.tuple [.int 7, .tuple [.tuple [.int 0, .int 2], .tuple [.int 2, .int 5], .tuple [.int 2, .int 6], .tuple [.int 3, .int 5]]]], .d (.tuple [.tuple [.int 0, .int 1, .int 1, .int 3, .int 5, .int 2, .int 1], .tuple [.int 1, .int 0, .int 1, .int 4, .int 7, .int 3, .int 2], .tuple [.int 1, .int 1, .int 0, .int 1, .int 2, .int 1, .int 1], .tuple [.int 3, .int 4, .int 1, .int 0, .int 1, .int 1, .int 2], .tuple [.int 5, .int 7, .int 2, .int 1, .int 0, .int 1, .int 3], .tuple [.int 2, .int 3, .int 1, .int 1, .int 1, .int 0, .int 1], .tuple [.int 1, .int 2, .int 1, .int 2, .int 3, .int 1, .int 0]])),
  ([.tuple [.int 7, .tuple [.tuple [.int 0, .int 2], .tuple [.int 2, .int 4], .tuple [.int 2, .int 5], .tuple [.int 2, .int 6]]]], .d (.tuple [.tuple [.int 0, .int 1, .int 1, .int 4, .int 3, .int 2, .int 1], .tuple [.int 1, .int 0, .int 1, .int 5, .int 4, .int 3, .int 2], .tuple [.int 1, .int 1, .int 0, .int 1, .int 1, .int 1, .int 1], .tuple [.int 4, .int 5, .int 1, .int 0, .int 1, .int 2, .int 3], .tuple [.int 3, .int 4, .int 1, .int 1, .int 0, .int 1, .int 2], .tuple [.int 2, .int 3, .int 1, .int 2, .int 1, .int 0, .int 1], .tuple [.int 1, .int 2, .int 1, .int 3, .int 2, .int 1, .int 0]])),
  ([.tuple [.int 6, .tuple [.tuple [.int 0, .int 3], .tuple [.int 1, .int 3], .tuple [.int 3, .int 5]]]], .d (.tuple [.tuple [.int 0, .int 1, .int 2, .int 1, .int 2, .int 1], .tuple [.int 1, .int 0, .int 1, .int 1, .int 3, .int 2], .tuple [.int 2, .int 1, .int 0, .int 1, .int 4, .int 3], .tuple [.int 1, .int 1, .int 1, .int 0, .int 1, .int 1], .tuple [.int 2, .int 3, .int 4, .int 1, .int 0, .int 1], .tuple [.int 1, .int 2, .int 3, .int 1, .int 1, .int 0]])),
  ([.tuple [.int 7, .tuple [.tuple [.int 0, .int 3], .tuple [.int 1, .int 3], .tuple [.int 3, .int 6], .tuple [.int 4, .int 6]]]], .d (.tuple [.tuple [.int 0, .int 1, .int 2, .int 1, .int 2, .int 3, .int 1], .tuple [.int 1, .int 0, .int 1, .int 1, .int 3, .int 5, .int 2], .tuple [.int 2, .int 1, .int 0, .int 1, .int 4, .int 7, .int 3], .tuple [.int 1, .int 1, .int 1, .int 0, .int 1, .int 2, .int 1], .tuple [.int 2, .int 3, .int 4, .int 1, .int 0, .int 1, .int 1], .tuple [.int 3, .int 5, .int 7, .int 2, .int 1, .int 0, .int 1], .tuple [.int 1, .int 2, .int 3, .int 1, .int 1, .int 1, .int 0]])),
  ([.tuple [.int 7, .tuple [.tuple [.int 0, .int 3], .tuple [.int 1, .int 3], .tuple [.int 3, .int 5], .tuple [.int 3, .int 6]]]], .d (.tuple [.tuple [.int 0, .int 1, .int 2, .int 1, .int 3, .int 2, .int 1], .tuple [.int 1, .int 0, .int 1, .int 1, .int 4, .int 3, .int 2], .tuple [.int 2, .int 1, .int 0, .int 1, .int 5, .int 4, .int 3], .tuple [.int 1, .int 1, .int 1, .int 0, .int 1, .int 1, .int 1], .tuple [.int 3, .int 4, .int 5, .int 1, .int 0, .int 1, .int 2], .tuple [.int 2, .int 3, .int 4, .int 1, .int 1, .int 0, .int 1], .tuple [.int 1, .int 2, .int 3, .int 1, .int 2, .int 1, .int 0]])),
  ([.tuple [.int 8, .tuple [.tuple [.int 0, .int 3], .tuple [.int 1, .int 3], .tuple [.int 3, .int 7], .tuple [.int 4, .int 7], .tuple [.int 5, .int 7]]]], .d (.tuple [.tuple [.int 0, .int 1, .int 2, .int 1, .int 2, .int 3, .int 4, .int 1], .tuple [.int 1, .int 0, .int 1, .int 1, .int 3, .int 5, .int 7, .int 2], .tuple [.int 2, .int 1, .int 0, .int 1, .int 4, .int 7, .int 10, .int 3], .tuple [.int 1, .int 1, .int 1, .int 0, .int 1, .int 2, .int 3, .int 1], .tuple [.int 2, .int 3, .int 4, .int 1, .int 0, .int 1, .int 2, .int 1], .tuple [.int 3, .int 5, .int 7, .int 2, .int 1, .int 0, .int 1, .int 1], .tuple [.int 4, .int 7, .int 10, .int 3, .int 2, .int 1, .int 0, .int 1], .tuple [.int 1, .int 2, .int 3, .int 1, .int 1, .int 1, .int 1, .int 0]])),
  ([.tuple [.int 8, .tuple [.tuple [.int 0, .int 3], .tuple [.int 1, .int 3], .tuple [.int 3, .int 7], .tuple [.int 4, .int 6], .tuple [.int 4, .int 7]]]], .d (.tuple [.tuple [.int 0, .int 1, .int 2, .int 1, .int 2, .int 5, .int 3, .int 1], .tuple [.int 1, .int 0, .int 1, .int 1, .int 3, .int 8, .int 5, .int 2], .tuple [.int 2, .int 1, .int 0, .int 1, .int 4, .int 11, .int 7, .int 3], .tuple [.int 1, .int 1, .int 1, .int 0, .int 1, .int 3, .int 2, .int 1], .tuple [.int 2, .int 3, .int 4, .int 1, .int 0, .int 1, .int 1, .int 1], .tuple [.int 5, .int 8, .int 11, .int 3, .int 1, .int 0, .int 1, .int 2], .tuple [.int 3, .int 5, .int 7, .int 2, .int 1, .int 1, .int 0, .int 1], .tuple [.int 1, .int 2, .int 3, .int 1, .int 1, .int 2, .int 1, .int 0]])),
  ([.tuple [.int 8, .tuple [.tuple [.int 0, .int 3], .tuple [.int 1, .int 3], .tuple [.int 3, .int 5], .tuple [.int 3, .int 7], .tuple [.int 5, .int 7]]]], .d (.tuple [.tuple [.int 0, .int 1, .int 2, .int 1, .int 3, .int 2, .int 3, .int 1], .tuple [.int 1, .int 0, .int 1, .int 1, .int 4, .int 3, .int 5, .int 2], .tuple [.int 2, .int 1, .int 0, .int 1, .int 5, .int 4, .int 7, .int 3], .tuple [.int 1, .int 1, .int 1, .int 0, .int 1, .int 1, .int 2, .int 1], .tuple [.int 3, .int 4, .int 5, .int 1, .int 0, .int 1, .int 3, .int 2], .tuple [.int 2, .int 3, .int 4, .int 1, .int 1, .int 0, .int 1, .int 1], .tuple [.int 3, .int 5, .int 7, .int 2, .int 3, .int 1, .int 0, .int 1], .tuple [.int 1, .int 2, .int 3, .int 1, .int 2, .int 1, .int 1, .int 0]])),
  ([.tuple [.int 8, .tuple [.tuple [.int 0, .int 3], .tuple [.int 1, .int 3], .tuple [.int 3, .int 6], .tuple [.int 3, .int 7], .tuple [.int 4, .int 6]]]], .d (.tuple [.tuple [.int 0, .int 1, .int 2, .int 1, .int 3, .int 5, .int 2, .int 1], .tuple [.int 1, .int 0, .int 1, .int 1, .int 4, .int 7, .int 3, .int 2], .tuple [.int 2, .int 1, .int 0, .int 1, .int 5, .int 9, .int 4, .int 3], .tuple [.int 1, .int 1, .int 1, .int 0, .int 1, .int 2, .int 1, .int 1], .tuple [.int 3, .int 4, .int 5, .int 1, .int 0, .int 1, .int 1, .int 2], .tuple [.int 5, .int 7, .int 9, .int 2, .int 1, .int 0, .int 1, .int 3], .tuple [.int 2, .int 3, .int 4, .int 1, .int 1, .int 1, .int 0, .int 1], .tuple [.int 1, .int 2, .int 3, .int 1, .int 2, .int 3, .int 1, .int 0]])),
  ([.tuple [.int 8, .tuple [.tuple [.int 0, .int 3], .tuple [.int 1, .int 3], .tuple [.int 3, .int 5], .tuple [.int 3, .int 6], .tuple [.int 3, .int 7]]]], .d (.tuple [.tuple [.int 0, .int 1, .int 2, .int 1, .int 4, .int 3, .int 2, .int 1], .tuple [.int 1, .int 0, .int 1, .int 1, .int 5, .int 4, .int 3, .int 2], .tuple [.int 2, .int 1, .int 0, .int 1, .int 6, .int 5, .int 4, .int 3], .tuple [.int 1, .int 1, .int 1, .int 0, .int 1, .int 1, .int 1, .int 1], .tuple [.int 4, .int 5, .int 6, .int 1, .int 0, .int 1, .int 2, .int 3], .tuple [.int 3, .int 4, .int 5, .int 1, .int 1, .int 0, .int 1, .int 2], .tuple [.int 2, .int 3, .int 4, .int 1, .int 2, .int 1, .int 0, .int 1], .tuple [.int 1, .int 2, .int 3, .int 1, .int 3, .int 2, .int 1, .int 0]])),
  ([.tuple [.int 6, .tuple [.tuple [.int 0, .int 2], .tuple [.int 0, .int 3], .tuple [.int 3, .int 5]]]], .d (.tuple [.tuple [.int 0, .int 1, .int 1, .int 1, .int 2, .int 1], .tuple [.int 1, .int 0, .int 1, .int 2, .int 5, .int 3], .tuple [.int 1, .int 1, .int 0, .int 1, .int 3, .int 2], .tuple [.int 1, .int 2, .int 1, .int 0, .int 1, .int 1], .tuple [.int 2, .int 5, .int 3, .int 1, .int 0, .int 1], .tuple [.int 1, .int 3, .int 2, .int 1, .int 1, .int 0]])),
  ([.tuple [.int 7, .tuple [.tuple [.int 0, .int 2], .tuple [.int 0, .int 3], .tuple [.int 3, .int 6], .tuple [.int 4, .int 6]]]], .d (.tuple [.tuple [.int 0, .int 1, .int 1, .int 1, .int 2, .int 3, .int 1], .tuple [.int 1, .int 0, .int 1, .int 2, .int 5, .int 8, .int 3], .tuple [.int 1, .int 1, .int 0, .int 1, .int 3, .int 5, .int 2], .tuple [.int 1, .int 2, .int 1, .int 0, .int 1, .int 2, .int 1], .tuple [.int 2, .int 5, .int 3, .int 1, .int 0, .int 1, .int 1], .tuple [.int 3, .int 8, .int 5, .int 2, .int 1, .int 0, .int 1], .tuple [.int 1, .int 3, .int 2, .int 1, .int 1, .int 1, .int 0]])),
  ([.tuple [.int 7, .tuple [.tuple [.int 0, .int 2], .tuple [.int 0, .int 3], .tuple [.int 3, .int 5], .tuple [.int 3, .int 6]]]], .d (.tuple [.tuple [.int 0, .int 1, .int 1, .int 1, .int 3, .int 2, .int 1], .tuple [.int 1, .int 0, .int 1, .int 2, .int 7, .int 5, .int 3], .tuple [.int 1, .int 1, .int 0, .int 1, .int 4, .int 3, .int 2], .tuple [.int 1, .int 2, .int 1, .int 0, .int 1, .int 1, .int 1], .tuple [.int 3, .int 7, .int 4, .int 1, .int 0, .int 1, .int 2], .tuple [.int 2, .int 5, .int 3, .int 1, .int 1, .int 0, .int 1], .tuple [.int 1, .int 3, .int 2, .int 1, .int 2, .int 1, .int 0]])),
  ([.tuple [.int 8, .tuple [.tuple [.int 0, .int 2], .tuple [.int 0, .int 3], .tuple [.int 3, .int 7], .tuple [.int 4, .int 7], .tuple [.int 5, .int 7]]]], .d (.tuple [.tuple [.int 0, .int 1, .int 1, .int 1, .int 2, .int 3, .int 4, .int 1], .tuple [.int 1, .int 0, .int 1, .int 2, .int 5, .int 8, .int 11, .int 3], .tuple [.int 1, .int 1, .int 0, .int 1, .int 3, .int 5, .int 7, .int 2], .tuple [.int 1, .int 2, .int 1, .int 0, .int 1, .int 2, .int 3, .int 1], .tuple [.int 2, .int 5, .int 3, .int 1, .int 0, .int 1, .int 2, .int 1], .tuple [.int 3, .int 8, .int 5, .int 2, .int 1, .int 0, .int 1, .int 1], .tuple [.int 4, .int 11, .int 7, .int 3, .int 2, .int 1, .int 0, .int 1], .tuple [.int 1, .int 3, .int 2, .int 1, .int 1, .int 1, .int 1, .int 0]])),
  ([.tuple [.int 8, .tuple [.tuple [.int 0, .int 2], .tuple [.int 0, .int 3], .tuple [.int 3, .int 7], .tuple [.int 4, .int 6], .tuple [.int 4, .int 7]]]], .d (.tuple [.tuple [.int 0, .int 1, .int 1, .int 1, .int 2, .int 5, .int 3, .int 1], .tuple [.int 1, .int 0, .int 1, .int 2, .int 5, .int 13, .int 8, .int 3], .tuple [.int 1, .int 1, .int 0, .int 1, .int 3, .int 8, .int 5, .int 2], .tuple [.int 1, .int 2, .int 1, .int 0, .int 1, .int 3, .int 2, .int 1], .tuple [.int 2, .int 5, .int 3, .int 1, .int 0, .int 1, .int 1, .int 1], .tuple [.int 5, .int 13, .int 8, .int 3, .int 1, .int 0, .int 1, .int 2], .tuple [.int 3, .int 8, .int 5, .int 2, .int 1, .int 1, .int 0, .int 1], .tuple [.int 1, .int 3, .int 2, .int 1, .int 1, .int 2, .int 1, .int 0]])),
  ([.tuple [.int 8, .tuple [.tuple [.int 0, .int 2], .tuple [.int 0, .int 3], .tuple [.int 3, .int 5], .tuple [.int 3, .int 7], .tuple [.int 5, .int 7]]]], .d (.tuple [.tuple [.int 0, .int 1, .int 1, .int 1, .int 3, .int 2, .int 3, .int 1], .tuple [.int 1, .int 0, .int 1, .int 2, .int 7, .int 5, .int 8, .int 3], .tuple [.int 1, .int 1, .int 0, .int 1, .int 4, .int 3, .int 5, .int 2], .tuple [.int 1, .int 2, .int 1, .int 0, .int 1, .int 1, .int 2, .int 1], .tuple [.int 3, .int 7, .int 4, .int 1, .int 0, .int 1, .int 3, .int 2], .tuple [.int 2, .int 5, .int 3, .int 1, .int 1, .int 0, .int 1, .int 1], .tuple [.int 3, .int 8, .int 5, .int 2, .int 3, .int 1, .int 0, .int 1], .tuple [.int 1, .int 3, .int 2, .int 1, .int 2, .int 1, .int 1, .int 0]])),
  ([.tuple [.int 8, .tuple [.tuple [.int 0, .int 2], .tuple [.int 0, .int 3], .tuple [.int 3, .int 6], .tuple [.int 3, .int 7], .tuple [.int 4, .int 6]]]], .d (.tuple [.tuple [.int 0, .int 1, .int 1, .int 1, .int 3, .int 5, .int 2, .int 1], .tuple [.int 1, .int 0, .int 1, .int 2, .int 7, .int 12, .int 5, .int 3], .tuple [.int 1, .int 1, .int 0, .int 1, .int 4, .int 7, .int 3, .int 2], .tuple [.int 1, .int 2, .int 1, .int 0, .int 1, .int 2, .int 1, .int 1], .tuple [.int 3, .int 7, .int 4, .int 1, .int 0, .int 1, .int 1, .int 2], .tuple [.int 5, .int 12, .int 7, .int 2, .int 1, .int 0, .int 1, .int 3], .tuple [.int 2, .int 5, .int 3, .int 1, .int 1, .int 1, .int 0, .int 1], .tuple [.int 1, .int 3, .int 2, .int 1, .int 2, .int 3, .int 1, .int 0]])),
  ([.tuple [.int 8, .tuple [.tuple [.int 0, .int 2], .tuple [.int 0, .int 3], .tuple [.int 3, .int 5], .tuple [.int 3, .int 6], .tuple [.int 3, .int 7]]]], .d (.tuple [.tuple [.int 0, .int 1, .int 1, .int 1, .int 4, .int 3, .int 2, .int 1], .tuple [.int 1, .int 0, .int 1, .int 2, .int 9, .int 7, .int 5, .int 3], .tuple [.int 1, .int 1, .int 0, .int 1, .int 5, .int 4, .int 3, .int 2], .tuple [.int 1, .int 2, .int 1, .int 0, .int 1, .int 1, .int 1, .int 1], .tuple [.int 4, .int 9, .int 5, .int 1, .int 0, .int 1, .int 2, .int 3], .tuple [.int 3, .int 7, .int 4, .int 1, .int 1, .int 0, .int 1, .int 2], .tuple [.int 2, .int 5, .int 3, .int 1, .int 2, .int 1, .int 0, .int 1], .tuple [.int 1, .int 3, .int 2, .int 1, .int 3, .int 2, .int 1, .int 0]])),
  ([.tuple [.int 7, .tuple [.tuple [.int 0, .int 4], .tuple [.int 1, .int 4], .tuple [.int 2, .int 4], .tuple [.int 4, .int 6]]]], .d (.tuple [.tuple [.int 0, .int 1, .int 2, .int 3, .int 1, .int 2, .int 1], .tuple [.int 1, .int 0, .int 1, .int 2, .int 1, .int 3, .int 2], .tuple [.int 2, .int 1, .int 0, .int 1, .int 1, .int 4, .int 3], .tuple [.int 3, .int 2, .int 1, .int 0, .int 1, .int 5, .int 4], .tuple [.int 1, .int 1, .int 1, .int 1, .int 0, .int 1, .int 1], .tuple [.int 2, .int 3, .int 4, .int 5, .int 1, .int 0, .int 1], .tuple [.int 1, .int 2, .int 3, .int 4, .int 1, .int 1, .int 0]])),
  ([.tuple [.int 8, .tuple [.tuple [.int 0, .int 4], .tuple [.int 1, .int 4], .tuple [.int 2, .int 4], .tuple [.int 4, .int 7], .tuple [.int 5, .int 7]]]], .d (.tuple [.tuple [.int 0, .int 1, .int 2, .int 3, .int 1, .int 2, .int 3, .int 1], .tuple [.int 1, .int 0, .int 1, .int 2, .int 1, .int 3, .int 5, .int 2], .tuple [.int 2, .int 1, .int 0, .int 1, .int 1, .int 4, .int 7, .int 3], .tuple [.int 3, .int 2, .int 1, .int 0, .int 1, .int 5, .int 9, .int 4], .tuple [.int 1, .int 1, .int 1, .int 1, .int 0, .int 1, .int 2, .int 1], .tuple [.int 2, .int 3, .int 4, .int 5, .int 1, .int 0, .int 1, .int 1], .tuple [.int 3, .int 5, .int 7, .int 9, .int 2, .int 1, .int 0, .int 1], .tuple [.int 1, .int 2, .int 3, .int 4, .int 1, .int 1, .int 1, .int 0]])),
  ([.tuple [.int 8, .tuple [.tuple [.int 0, .int 4], .tuple [.int 1, .int 4], .tuple [.int 2, .int 4], .tuple [.int 4, .int 6], .tuple [.int 4, .int 7]]]], .d (.tuple [.tuple [.int 0, .int 1, .int 2, .int 3, .int 1, .int 3, .int 2, .int 1], .tuple [.int 1, .int 0, .int 1, .int 2, .int 1, .int 4, .int 3, .int 2], .tuple [.int 2, .int 1, .int 0, .int 1, .int 1, .int 5, .int 4, .int 3], .tuple [.int 3, .int 2, .int 1, .int 0, .int 1, .int 6, .int 5, .int 4], .tuple [.int 1, .int 1, .int 1, .int 1, .int 0, .int 1, .int 1, .int 1], .tuple [.int 3, .int 4, .int 5, .int 6, .int 1, .int 0, .int 1, .int 2], .tuple [.int 2, .int 3, .int 4, .int 5, .int 1, .int 1, .int 0, .int 1], .tuple [.int 1, .int 2, .int 3, .int 4, .int 1, .int 2, .int 1, .int 0]])),
  ([.tuple [.int 9, .tuple [.tuple [.int 0, .int 4], .tuple [.int 1, .int 4], .tuple [.int 2, .int 4], .tuple [.int 4, .int 8], .tuple [.int 5, .int 8], .tuple [.int 6, .int 8]]]], .d (.tuple [.tuple [.int 0, .int 1, .int 2, .int 3, .int 1, .int 2, .int 3, .int 4, .int 1], .tuple [.int 1, .int 0, .int 1, .int 2, .int 1, .int 3, .int 5, .int 7, .int 2], .tuple [.int 2, .int 1, .int 0, .int 1, .int 1, .int 4, .int 7, .int 10, .int 3], .tuple [.int 3, .int 2, .int 1, .int 0, .int 1, .int 5, .int 9, .int 13, .int 4], .tuple [.int 1, .int 1, .int 1, .int 1, .int 0, .int 1, .int 2, .int 3, .int 1], .tuple [.int 2, .int 3, .int 4, .int 5, .int 1, .int 0, .int 1, .int 2, .int 1], .tuple [.int 3, .int 5, .int 7, .int 9, .int 2, .int 1, .int 0, .int 1, .int 1], .tuple [.int 4, .int 7, .int 10, .int 13, .int 3, .int 2, .int 1, .int 0, .int 1], .tuple [.int 1, .int 2, .int 3, .int 4, .int 1, .int 1, .int 1, .int 1, .int 0]])),
  ([.tuple [.int 9, .tuple [.tuple [.int 0, .int 4], .tuple [.int 1, .int 4], .tuple [.int 2, .int 4], .tuple [.int 4, .int 8], .tuple [.int 5, .int 7], .tuple [.int 5, .int 8]]]], .d (.tuple [.tuple [.int 0, .int 1, .int 2, .int 3, .int 1, .int 2, .int 5, .int 3, .int 1], .tuple [.int 1, .int 0, .int 1, .int 2, .int 1, .int 3, .int 8, .int 5, .int 2], .tuple [.int 2, .int 1, .int 0, .int 1, .int 1, .int 4, .int 11, .int 7, .int 3], .tuple [.int 3, .int 2, .int 1, .int 0, .int 1, .int 5, .int 14, .int 9, .int 4], .tuple [.int 1, .int 1, .int 1, .int 1, .int 0, .int 1, .int 3, .int 2, .int 1], .tuple [.int 2, .int 3, .int 4, .int 5, .int 1, .int 0, .int 1, .int 1, .int 1], .tuple [.int 5, .int 8, .int 11, .int 14, .int 3, .int 1, .int 0, .int 1, .int 2], .tuple [.int 3, .int 5, .int 7, .int 9, .int 2, .int 1, .int 1, .int 0, .int 1], .tuple [.int 1, .int 2, .int 3, .int 4, .int 1, .int 1, .int 2, .int 1, .int 0]])),
  ([.tuple [.int 9, .tuple [.tuple [.int 0, .int 4], .tuple [.int 1, .int 4], .tuple [.int 2, .int 4], .tuple [.int 4, .int 6], .tuple [.int 4, .int 8], .tuple [.int 6, .int 8]]]], .d (.tuple [.tuple [.int 0, .int 1, .int 2, .int 3, .int 1, .int 3, .int 2, .int 3, .int 1], .tuple [.int 1, .int 0, .int 1, .int 2, .int 1, .int 4, .int 3, .int 5, .int 2], .tuple [.int 2, .int 1, .int 0, .int 1, .int 1, .int 5, .int 4, .int 7, .int 3], .tuple [.int 3, .int 2, .int 1, .int 0, .int 1, .int 6, .int 5, .int 9, .int 4], .tuple [.int 1, .int 1, .int 1, .int 1, .int 0, .int 1, .int 1, .int 2, .int 1], .tuple [.int 3, .int 4, .int 5, .int 6, .int 1, .int 0, .int 1, .int 3, .int 2], .tuple [.int 2, .int 3, .int 4, .int 5, .int 1, .int 1, .int 0, .int 1, .int 1], .tuple [.int 3, .int 5, .int 7, .int 9, .int 2, .int 3, .int 1, .int 0, .int 1], .tuple [.int 1, .int 2, .int 3, .int 4, .int 1, .int 2, .int 1, .int 1, .int 0]])),
  ([.tuple [.int 9, .tuple [.tuple [.int 0, .int 4], .tuple [.int 1, .int 4], .tuple [.int 2, .int 4], .tuple [.int 4, .int 7], .tuple [.int 4, .int 8], .tuple [.int 5, .int 7]]]], .d (.tuple [.tuple [.int 0, .int 1, .int 2, .int 3, .int 1, .int 3, .int 5, .int 2, .int 1], .tuple [.int 1, .int 0, .int 1, .int 2, .int 1, .int 4, .int 7, .int 3, .int 2], .tuple [.int 2, .int 1, .int 0, .int 1, .int 1, .int 5, .int 9, .int 4, .int 3], .tuple [.int 3, .int 2, .int 1, .int 0, .int 1, .int 6, .int 11, .int 5, .int 4], .tuple [.int 1, .int 1, .int 1, .int 1, .int 0, .int 1, .int 2, .int 1, .int 1], .tuple [.int 3, .int 4, .int 5, .int 6, .int 1, .int 0, .int 1, .int 1, .int 2], .tuple [.int 5, .int 7, .int 9, .int 11, .int 2, .int 1, .int 0, .int 1, .int 3], .tuple [.int 2, .int 3, .int 4, .int 5, .int 1, .int 1, .int 1, .int 0, .int 1], .tuple [.int 1, .int 2, .int 3, .int 4, .int 1, .int 2, .int 3, .int 1, .int 0]])),
  ([.tuple [.int 9, .tuple [.tuple [.int 0, .int 4], .tuple [.int 1, .int 4], .tuple [.int 2, .int 4], .tuple [.int 4, .int 6], .tuple [.int 4, .int 7], .tuple [.int 4, .int 8]]]], .d (.tuple [.tuple [.int 0, .int 1, .int 2, .int 3, .int 1, .int 4, .int 3, .int 2, .int 1], .tuple [.int 1, .int 0, .int 1, .int 2, .int 1, .int 5, .int 4, .int 3, .int 2], .tuple [.int 2, .int 1, .int 0, .int 1, .int 1, .int 6, .int 5, .int 4, .int 3], .tuple [.int 3, .int 2, .int 1, .int 0, .int 1, .int 7, .int 6, .int 5, .int 4], .tuple [.int 1, .int 1, .int 1, .int 1, .int 0, .int 1, .int 1, .int 1, .int 1], .tuple [.int 4, .int 5, .int 6, .int 7, .int 1, .int 0, .int 1, .int 2, .int 3], .tuple [.int 3, .int 4, .int 5, .int 6, .int 1, .int 1, .int 0, .int 1, .int 2], .tuple [.int 2, .int 3, .int 4, .int 5, .int 1, .int 2, .int 1, .int 0, .int 1], .tuple [.int 1, .int 2, .int 3, .int 4, .int 1, .int 3, .int 2, .int 1, .int 0]])),
  ([.tuple [.int 7, .tuple [.tuple [.int 0, .int 4], .tuple [.int 1, .int 3], .tuple [.int 1, .int 4], .tuple [.int 4, .int 6]]]], .d (.tuple [.tuple [.int 0, .int 1, .int 3, .int 2, .int 1, .int 2, .int 1], .tuple [.int 1, .int 0, .int 1, .int 1, .int 1, .int 3, .int 2], .tuple [.int 3, .int 1, .int 0, .int 1, .int 2, .int 7, .int 5], .tuple [.int 2, .int 1, .int 1, .int 0, .int 1, .int 4, .int 3], .tuple [.int 1, .int 1, .int 2, .int 1, .int 0, .int 1, .int 1], .tuple [.int 2, .int 3, .int 7, .int 4, .int 1, .int 0, .int 1], .tuple [.int 1, .int 2, .int 5, .int 3, .int 1, .int 1, .int 0]])),
  ([.tuple [.int 8, .tuple [.tuple [.int 0, .int 4], .tuple [.int 1, .int 3], .tuple [.int 1, .int 4], .tuple [.int 4, .int 7], .tuple [.int 5, .int 7]]]], .d (.tuple [.tuple [.int 0, .int 1, .int 3, .int 2, .int 1, .int 2, .int 3, .int 1], .tuple [.int 1, .int 0, .int 1, .int 1, .int 1, .int 3, .int 5, .int 2], .tuple [.int 3, .int 1, .int 0, .int 1, .int 2, .int 7, .int 12, .int 5], .tuple [.int 2, .int 1, .int 1, .int 0, .int 1, .int 4, .int 7, .int 3], .tuple [.int 1, .int 1, .int 2, .int 1, .int 0, .int 1, .int 2, .int 1], .tuple [.int 2, .int 3, .int 7, .int 4, .int 1, .int 0, .int 1, .int 1], .tuple [.int 3, .int 5, .int 12, .int 7, .int 2, .int 1, .int 0, .int 1], .tuple [.int 1, .int 2, .int 5, .int 3, .int 1, .int 1, .int 1, .int 0]])),
  ([.tuple [.int 8, .tuple [.tuple [.int 0, .int 4], .tuple [.int 1, .int 3], .tuple [.int 1, .int 4], .tuple [.int 4, .int 6], .tuple [.int 4, .int 7]]]], .d (.tuple [.tuple [.int 0, .int 1, .int 3, .int 2, .int 1, .int 3, .int 2, .int 1], .tuple [.int 1, .int 0, .int 1, .int 1, .int 1, .int 4, .int 3, .int 2], .tuple [.int 3, .int 1, .int 0, .int 1, .int 2, .int 9, .int 7, .int 5], .tuple [.int 2, .int 1, .int 1, .int 0, .int 1, .int 5, .int 4, .int 3], .tuple [.int 1, .int 1, .int 2, .int 1, .int 0, .int 1, .int 1, .int 1], .tuple [.int 3, .int 4, .int 9, .int 5, .int 1, .int 0, .int 1, .int 2], .tuple [.int 2, .int 3, .int 7, .int 4, .int 1, .int 1, .int 0, .int 1], .tuple [.int 1, .int 2, .int 5, .int 3, .int 1, .int 2, .int 1, .int 0]])),
  ([.tuple [.int 9, .tuple [.tuple [.int 0, .int 4], .tuple [.int 1, .int 3], .tuple [.int 1, .int 4], .tuple [.int 4, .int 8], .tuple [.int 5, .int 8], .tuple [.int 6, .int 8]]]], .d (.tuple [.tuple [.int 0, .int 1, .int 3, .int 2, .int 1, .int 2, .int 3, .int 4, .int 1], .tuple [.int 1, .int 0, .int 1, .int 1, .int 1, .int 3, .int 5, .int 7, .int 2], .tuple [.int 3, .int 1, .int 0, .int 1, .int 2, .int 7, .int 12, .int 17, .int 5], .tuple [.int 2, .int 1, .int 1, .int 0, .int 1, .int 4, .int 7, .int 10, .int 3], .tuple [.int 1, .int 1, .int 2, .int 1, .int 0, .int 1, .int 2, .int 3, .int 1], .tuple [.int 2, .int 3, .int 7, .int 4, .int 1, .int 0, .int 1, .int 2, .int 1], .tuple [.int 3, .int 5, .int 12, .int 7, .int 2, .int 1, .int 0, .int 1, .int 1], .tuple [.int 4, .int 7, .int 17, .int 10, .int 3, .int 2, .int 1, .int 0, .int 1], .tuple [.int 1, .int 2, .int 5, .int 3, .int 1, .int 1, .int 1, .int 1, .int 0]])),
  ([.tuple [.int 9, .tuple [.tuple [.int 0, .int 4], .tuple [.int 1, .int 3], .tuple [.int 1, .int 4], .tuple [.int 4, .int 8], .tuple [.int 5, .int 7], .tuple [.int 5, .int 8]]]], .d (.tuple [.tuple [.int 0, .int 1, .int 3, .int 2, .int 1, .int 2, .int 5, .int 3, .int 1], .tuple [.int 1, .int 0, .int 1, .int 1, .int 1, .int 3, .int 8, .int 5, .int 2], .tuple [.int 3, .int 1, .int 0, .int 1, .int 2, .int 7, .int 19, .int 12, .int 5], .tuple [.int 2, .int 1, .int 1, .int 0, .int 1, .int 4, .int 11, .int 7, .int 3], .tuple [.int 1, .int 1, .int 2, .int 1, .int 0, .int 1, .int 3, .int 2, .int 1], .tuple [.int 2, .int 3, .int 7, .int 4, .int 1, .int 0, .int 1, .int 1, .int 1], .tuple [.int 5, .int 8, .int 19, .int 11, .int 3, .int 1, .int 0, .int 1, .int 2], .tuple [.int 3, .int 5, .int 12, .int 7, .int 2, .int 1, .int 1, .int 0, .int 1], .tuple [.int 1, .int 2, .int 5, .int 3, .int 1, .int 1, .int 2, .int 1, .int 0]])),
  ([.tuple [.int 9, .tuple [.tuple [.int 0, .int 4], .tuple [.int 1, .int 3], .tuple [.int 1, .int 4], .tuple [.int 4, .int 6], .tuple [.int 4, .int 8], .tuple [.int 6, .int 8]]]], .d (.tuple [.tuple [.int 0, .int 1, .int 3, .int 2, .int 1, .int 3, .int 2, .int 3, .int 1], .tuple [.int 1, .int 0, .int 1, .int 1, .int 1, .int 4, .int 3, .int 5, .int 2], .tuple [.int 3, .int 1, .int 0, .int 1, .int 2, .int 9, .int 7, .int 12, .int 5], .tuple [.int 2, .int 1, .int 1, .int 0, .int 1, .int 5, .int 4, .int 7, .int 3], .tuple [.int 1, .int 1, .int 2, .int 1, .int 0, .int 1, .int 1, .int 2, .int 1], .tuple [.int 3, .int 4, .int 9, .int 5, .int 1, .int 0, .int 1, .int 3, .int 2], .tuple [.int 2, .int 3, .int 7, .int 4, .int 1, .int 1, .int 0, .int 1, .int 1], .tuple [.int 3, .int 5, .int 12, .int 7, .int 2, .int 3, .int 1, .int 0, .int 1], .tuple [.int 1, .int 2, .int 5, .int 3, .int 1, .int 2, .int 1, .int 1, .int 0]])),
  ([.tuple [.int 9, .tuple [.tuple [.int 0, .int 4], .tuple [.int 1, .int 3], .tuple [.int 1, .int 4], .tuple [.int 4, .int 7], .tuple [.int 4, .int 8], .tuple [.int 5, .int 7]]]], .d (.tuple [.tuple [.int 0, .int 1, .int 3, .int 2, .int 1, .int 3, .int 5, .int 2, .int 1], .tuple [.int 1, .int 0, .int 1, .int 1, .int 1, .int 4, .int 7, .int 3, .int 2], .tuple [.int 3, .int 1, .int 0, .int 1, .int 2, .int 9, .int 16, .int 7, .int 5], .tuple [.int 2, .int 1, .int 1, .int 0, .int 1, .int 5, .int 9, .int 4, .int 3], .tuple [.int 1, .int 1, .int 2, .int 1, .int 0, .int 1, .int 2, .int 1, .int 1], .tuple [.int 3, .int 4, .int 9, .int 5, .int 1, .int 0, .int 1, .int 1, .int 2], .tuple [.int 5, .int 7, .int 16, .int 9, .int 2, .int 1, .int 0, .int 1, .int 3], .tuple [.int 2, .int 3, .int 7, .int 4, .int 1, .int 1, .int 1, .int 0, .int 1], .tuple [.int 1, .int 2, .int 5, .int 3, .int 1, .int 2, .int 3, .int 1, .int 0]])),
  ([.tuple [.int 9, .tuple [.tuple [.int 0, .int 4], .tuple [.int 1, .int 3], .tuple [.int 1, .int 4], .tuple [.int 4, .int 6], .tuple [.int 4, .int 7], .tuple [.int 4, .int 8]]]], .d (.tuple [.tuple [.int 0, .int 1, .int 3, .int 2, .int 1, .int 4, .int 3, .int 2, .int 1], .tuple [.int 1, .int 0, .int 1, .int 1, .int 1, .int 5, .int 4, .int 3, .int 2], .tuple [.int 3, .int 1, .int 0, .int 1, .int 2, .int 11, .int 9, .int 7, .int 5], .tuple [.int 2, .int 1, .int 1, .int 0, .int 1, .int 6, .int 5, .int 4, .int 3], .tuple [.int 1, .int 1, .int 2, .int 1, .int 0, .int 1, .int 1, .int 1, .int 1], .tuple [.int 4, .int 5, .int 11, .int 6, .int 1, .int 0, .int 1, .int 2, .int 3], .tuple [.int 3, .int 4, .int 9, .int 5, .int 1, .int 1, .int 0, .int 1, .int 2], .tuple [.int 2, .int 3, .int 7, .int 4, .int 1, .int 2, .int 1, .int 0, .int 1], .tuple [.int 1, .int 2, .int 5, .int 3, .int 1, .int 3, .int 2, .int 1, .int 0]])),
  ([.tuple [.int 7, .tuple [.tuple [.int 0, .int 2], .tuple [.int 0, .int 4], .tuple [.int 2, .int 4], .tuple [.int 4, .int 6]]]], .d (.tuple [.tuple [.int 0, .int 1, .int 1, .int 2, .int 1, .int 2, .int 1], .tuple [.int 1, .int 0, .int 1, .int 3, .int 2, .int 5, .int 3], .tuple [.int 1, .int 1, .int 0, .int 1, .int 1, .int 3, .int 2], .tuple [.int 2, .int 3, .int 1, .int 0, .int 1, .int 4, .int 3], .tuple [.int 1, .int 2, .int 1, .int 1, .int 0, .int 1, .int 1], .tuple [.int 2, .int 5, .int 3, .int 4, .int 1, .int 0, .int 1], .tuple [.int 1, .int 3, .int 2, .int 3, .int 1, .int 1, .int 0]])),
  ([.tuple [.int 8, .tuple [.tuple [.int 0, .int 2], .tuple [.int 0, .int 4], .tuple [.int 2, .int 4], .tuple [.int 4, .int 7], .tuple [.int 5, .int 7]]]], .d (.tuple [.tuple [.int 0, .int 1, .int 1, .int 2, .int 1, .int 2, .int 3, .int 1], .tuple [.int 1, .int 0, .int 1, .int 3, .int 2, .int 5, .int 8, .int 3], .tuple [.int 1, .int 1, .int 0, .int 1, .int 1, .int 3, .int 5, .int 2], .tuple [.int 2, .int 3, .int 1, .int 0, .int 1, .int 4, .int 7, .int 3], .tuple [.int 1, .int 2, .int 1, .int 1, .int 0, .int 1, .int 2, .int 1], .tuple [.int 2, .int 5, .int 3, .int 4, .int 1, .int 0, .int 1, .int 1], .tuple [.int 3, .int 8, .int 5, .int 7, .int 2, .int 1, .int 0, .int 1], .tuple [.int 1, .int 3, .int 2, .int 3, .int 1, .int 1, .int 1, .int 0]])),
  ([.tuple [.int 8, .tuple [.tuple [.int 0, .int 2], .tuple [.int 0, .int 4], .tuple [.int 2, .int 4], .tuple [.int 4, .int 6], .tuple [.int 4, .int 7]]]], .d (.tuple [.tuple [.int 0, .int 1, .int 1, .int 2, .int 1, .int 3, .int 2, .int 1], .tuple [.int 1, .int 0, .int 1, .int 3, .int 2, .int 7, .int 5, .int 3], .tuple [.int 1, .int 1, .int 0, .int 1, .int 1, .int 4, .int 3, .int 2], .tuple [.int 2, .int 3, .int 1, .int 0, .int 1, .int 5, .int 4, .int 3], .tuple [.int 1, .int 2, .int 1, .int 1, .int 0, .int 1, .int 1, .int 1], .tuple [.int 3, .int 7, .int 4, .int 5, .int 1, .int 0, .int 1, .int 2], .tuple [.int 2, .int 5, .int 3, .int 4, .int 1, .int 1, .int 0, .int 1], .tuple [.int 1, .int 3, .int 2, .int 3, .int 1, .int 2, .int 1, .int 0]])),
  ([.tuple [.int 9, .tuple [.tuple [.int 0, .int 2], .tuple [.int 0, .int 4], .tuple [.int 2, .int 4], .tuple [.int 4, .int 8], .tuple [.int 5, .int 8], .tuple [.int 6, .int 8]]]], .d (.tuple [.tuple [.int 0, .int 1, .int 1, .int 2, .int 1, .int 2, .int 3, .int 4, .int 1], .tuple [.int 1, .int 0, .int 1, .int 3, .int 2, .int 5, .int 8, .int 11, .int 3], .tuple [.int 1, .int 1, .int 0, .int 1, .int 1, .int 3, .int 5, .int 7, .int 2], .tuple [.int 2, .int 3, .int 1, .int 0, .int 1, .int 4, .int 7, .int 10, .int 3], .tuple [.int 1, .int 2, .int 1, .int 1, .int 0, .int 1, .int 2, .int 3, .int 1], .tuple [.int 2, .int 5, .int 3, .int 4, .int 1, .int 0, .int 1, .int 2, .int 1], .tuple [.int 3, .int 8, .int 5, .int 7, .int 2, .int 1, .int 0, .int 1, .int 1], .tuple [.int 4, .int 11, .int 7, .int 10, .int 3, .int 2, .int 1, .int 0, .int 1], .tuple [.int 1, .int 3, .int 2, .int 3, .int 1, .int 1, .int 1, .int 1, .int 0]])),
  ([.tuple [.int 9, .tuple [.tuple [.int 0, .int 2], .tuple [.int 0, .int 4], .tuple [.int 2, .int 4], .tuple [.int 4, .int 8], .tuple [.int 5, .int 7], .tuple [.int 5, .int 8]]]], .d (.tuple [.tuple [.int 0, .int 1, .int 1, .int 2, .int 1, .int 2, .int 5, .int 3, .int 1], .tuple [.int 1, .int 0, .int 1, .int 3, .int 2, .int 5, .int 13, .int 8, .int 3], .tuple [.int 1, .int 1, .int 0, .int 1, .int 1, .int 3, .int 8, .int 5, .int 2], .tuple [.int 2, .int 3, .int 1, .int 0, .int 1, .int 4, .int 11, .int 7, .int 3], .tuple [.int 1, .int 2, .int 1, .int 1, .int 0, .int 1, .int 3, .int 2, .int 1], .tuple [.int 2, .int 5, .int 3, .int 4, .int 1, .int 0, .int 1, .int 1, .int 1], .tuple [.int 5, .int 13, .int 8, .int 11, .int 3, .int 1, .int 0, .int 1, .int 2], .tuple [.int 3, .int 8, .int 5, .int 7, .int 2, .int 1, .int 1, .int 0, .int 1], .tuple [.int 1, .int 3, .int 2, .int 3, .int 1, .int 1, .int 2, .int 1, .int 0]])),
  ([.tuple [.int 9, .tuple [.tuple [.int 0, .int 2], .tuple [.int 0, .int 4], .tuple [.int 2, .int 4], .tuple [.int 4, .int 6], .tuple [.int 4, .int 8], .tuple [.int 6, .int 8]]]], .d (.tuple [.tuple [.int 0, .int 1, .int 1, .int 2, .int 1, .int 3, .int 2, .int 3, .int 1], .tuple [.int 1, .int 0, .int 1, .int 3, .int 2, .int 7, .int 5, .int 8, .int 3], .tuple [.int 1, .int 1, .int 0, .int 1, .int 1, .int 4, .int 3, .int 5, .int 2], .tuple [.int 2, .int 3, .int 1, .int 0, .int 1, .int 5, .int 4, .int 7, .int 3], .tuple [.int 1, .int 2, .int 1, .int 1, .int 0, .int 1, .int 1, .int 2, .int 1], .tuple [.int 3, .int 7, .int 4, .int 5, .int 1, .int 0, .int 1, .int 3, .int 2], .tuple [.int 2, .int 5, .int 3, .int 4, .int 1, .int 1, .int 0, .int 1, .int 1], .tuple [.int 3, .int 8, .int 5, .int 7, .int 2, .int 3, .int 1, .int 0, .int 1], .tuple [.int 1, .int 3, .int 2, .int 3, .int 1, .int 2, .int 1, .int 1, .int 0]])),
  ([.tuple [.int 9, .tuple [.tuple [.int 0, .int 2], .tuple [.int 0, .int 4], .tuple [.int 2, .int 4], .tuple [.int 4, .int 7], .tuple [.int 4, .int 8], .tuple [.int 5, .int 7]]]], .d (.tuple [.tuple [.int 0, .int 1, .int 1, .int 2, .int 1, .int 3, .int 5, .int 2, .int 1], .tuple [.int 1, .int 0, .int 1, .int 3, .int 2, .int 7, .int 12, .int 5, .int 3], .tuple [.int 1, .int 1, .int 0, .int 1, .int 1, .int 4, .int 7, .int 3, .int 2], .tuple [.int 2, .int 3, .int 1, .int 0, .int 1, .int 5, .int 9, .int 4, .int 3], .tuple [.int 1, .int 2, .int 1, .int 1, .int 0, .int 1, .int 2, .int 1, .int 1], .tuple [.int 3, .int 7, .int 4, .int 5, .int 1, .int 0, .int 1, .int 1, .int 2], .tuple [.int 5, .int 12, .int 7, .int 9, .int 2, .int 1, .int 0, .int 1, .int 3], .tuple [.int 2, .int 5, .int 3, .int 4, .int 1, .int 1, .int 1, .int 0, .int 1], .tuple [.int 1, .int 3, .int 2, .int 3, .int 1, .int 2, .int 3, .int 1, .int 0]])),
  ([.tuple [.int 9, .tuple [.tuple [.int 0, .int 2], .tuple [.int 0, .int 4], .tuple [.int 2, .int 4], .tuple [.int 4, .int 6], .tuple [.int 4, .int 7], .tuple [.int 4, .int 8]]]], .d (.tuple [.tuple [.int 0, .int 1, .int 1, .int 2, .int 1, .int 4, .int 3, .int 2, .int 1], .tuple [.int 1, .int 0, .int 1, .int 3, .int 2, .int 9, .int 7, .int 5, .int 3], .tuple [.int 1, .int 1, .int 0, .int 1, .int 1, .int 5, .int 4, .int 3, .int 2], .tuple [.int 2, .int 3, .int 1, .int 0, .int 1, .int 6, .int 5, .int 4, .int 3], .tuple [.int 1, .int 2, .int 1, .int 1, .int 0, .int 1, .int 1, .int 1, .int 1], .tuple [.int 4, .int 9, .int 5, .int 6, .int 1, .int 0, .int 1, .int 2, .int 3], .tuple [.int 3, .int 7, .int 4, .int 5, .int 1, .int 1, .int 0, .int 1, .int 2], .tuple [.int 2, .int 5, .int 3, .int 4, .int 1, .int 2, .int 1, .int 0, .int 1], .tuple [.int 1, .int 3, .int 2, .int 3, .int 1, .int 3, .int 2, .int 1, .int 0]])),
  ([.tuple [.int 7, .tuple [.tuple [.int 0, .int 3], .tuple [.int 0, .int 4], .tuple [.int 1, .int 3], .tuple [.int 4, .int 6]]]], .d (.tuple [.tuple [.int 0, .int 1, .int 2, .int 1, .int 1, .int 2, .int 1], .tuple [.int 1, .int 0, .int 1, .int 1, .int 2, .int 5, .int 3], .tuple [.int 2, .int 1, .int 0, .int 1, .int 3, .int 8, .int 5], .tuple [.int 1, .int 1, .int 1, .int 0, .int 1, .int 3, .int 2], .tuple [.int 1, .int 2, .int 3, .int 1, .int 0, .int 1, .int 1], .tuple [.int 2, .int 5, .int 8, .int 3, .int 1, .int 0, .int 1], .tuple [.int 1, .int 3, .int 5, .int 2, .int 1, .int 1, .int 0]])),
  ([.tuple [.int 8, .tuple [.tuple [.int 0, .int 3], .tuple [.int 0, .int 4], .tuple [.int 1, .int 3], .tuple [.int 4, .int 7], .tuple [.int 5, .int 7]]]], .d (.tuple [.tuple [.int 0, .int 1, .int 2, .int 1, .int 1, .int 2, .int 3, .int 1], .tuple [.int 1, .int 0, .int 1, .int 1, .int 2, .int 5, .int 8, .int 3], .tuple [.int 2, .int 1, .int 0, .int 1, .int 3, .int 8, .int 13, .int 5], .tuple [.int 1, .int 1, .int 1, .int 0, .int 1, .int 3, .int 5, .int 2], .tuple [.int 1, .int 2, .int 3, .int 1, .int 0, .int 1, .int 2, .int 1], .tuple [.int 2, .int 5, .int 8, .int 3, .int 1, .int 0, .int 1, .int 1], .tuple [.int 3, .int 8, .int 13, .int 5, .int 2, .int 1, .int 0, .int 1], .tuple [.int 1, .int 3, .int 5, .int 2, .int 1, .int 1, .int 1, .int 0]])),
  ([.tuple [.int 8, .tuple [.tuple [.int 0, .int 3], .tuple [.int 0, .int 4], .tuple [.int 1, .int 3], .tuple [.int 4, .int 6], .tuple [.int 4, .int 7]]]], .d (.tuple [.tuple [.int 0, .int 1, .int 2, .int 1, .int 1, .int 3, .int 2, .int 1], .tuple [.int 1, .int 0, .int 1, .int 1, .int 2, .int 7, .int 5, .int 3], .tuple [.int 2, .int 1, .int 0, .int 1, .int 3, .int 11, .int 8, .int 5], .tuple [.int 1, .int 1, .int 1, .int 0, .int 1, .int 4, .int 3, .int 2], .tuple [.int 1, .int 2, .int 3, .int 1, .int 0, .int 1, .int 1, .int 1], .tuple [.int 3, .int 7, .int 11, .int 4, .int 1, .int 0, .int 1, .int 2], .tuple [.int 2, .int 5, .int 8, .int 3, .int 1, .int 1, .int 0, .int 1], .tuple [.int 1, .int 3, .int 5, .int 2, .int 1, .int 2, .int 1, .int 0]])),
  ([.tuple [.int 9, .tuple [.tuple [.int 0, .int 3], .tuple [.int 0, .int 4], .tuple [.int 1, .int 3], .tuple [.int 4, .int 8], .tuple [.int 5, .int 8], .tuple [.int 6, .int 8]]]], .d (.tuple [.tuple [.int 0, .int 1, .int 2, .int 1, .int 1, .int 2, .int 3, .int 4, .int 1], .tuple [.int 1, .int 0, .int 1, .int 1, .int 2, .int 5, .int 8, .int 11, .int 3], .tuple [.int 2, .int 1, .int 0, .int 1, .int 3, .int 8, .int 13, .int 18, .int 5], .tuple [.int 1, .int 1, .int 1, .int 0, .int 1, .int 3, .int 5, .int 7, .int 2], .tuple [.int 1, .int 2, .int 3, .int 1, .int 0, .int 1, .int 2, .int 3, .int 1], .tuple [.int 2, .int 5, .int 8, .int 3, .int 1, .int 0, .int 1, .int 2, .int 1], .tuple [.int 3, .int 8, .int 13, .int 5, .int 2, .int 1, .int 0, .int 1, .int 1], .tuple [.int 4, .int 11, .int 18, .int 7, .int 3, .int 2, .int 1, .int 0, .int 1], .tuple [.int 1, .int 3, .int 5, .int 2, .int 1, .int 1, .int 1, .int 1, .int 0]])),
  ([.tuple [.int 9, .tuple [.tuple [.int 0, .int 3], .tuple [.int 0, .int 4], .tuple [.int 1, .int 3], .tuple [.int 4, .int 8], .tuple [.int 5, .int 7], .tuple [.int 5, .int 8]]]], .d (.tuple [.tuple [.int 0, .int 1, .int 2, .int 1, .int 1, .int 2, .int 5, .int 3, .int 1], .tuple [.int 1, .int 0, .int 1, .int 1, .int 2, .int 5, .int 13, .int 8, .int 3], .tuple [.int 2, .int 1, .int 0, .int 1, .int 3, .int 8, .int 21, .int 13, .int 5], .tuple [.int 1, .int 1, .int 1, .int 0, .int 1, .int 3, .int 8, .int 5, .int 2], .tuple [.int 1, .int 2, .int 3, .int 1, .int 0, .int 1, .int 3, .int 2, .int 1], .tuple [.int 2, .int 5, .int 8, .int 3, .int 1, .int 0, .int 1, .int 1, .int 1], .tuple [.int 5, .int 13, .int 21, .int 8, .int 3, .int 1, .int 0, .int 1, .int 2], .tuple [.int 3, .int 8, .int 13, .int 5, .int 2, .int 1, .int 1, .int 0, .int 1], .tuple [.int 1, .int 3, .int 5, .int 2, .int 1, .int 1, .int 2, .int 1, .int 0]])),
  ([.tuple [.int 9, .tuple [.tuple [.int 0, .int 3], .tuple [.int 0, .int 4], .tuple [.int 1, .int 3], .tuple [.int 4, .int 6], .tuple [.int 4, .int 8], .tuple [.int 6, .int 8]]]], .d (.tuple [.tuple [.int 0, .int 1, .int 2, .int 1, .int 1, .int 3, .int 2, .int 3, .int 1], .tuple [.int 1, .int 0, .int 1, .int 1, .int 2, .int 7, .int 5, .int 8, .int 3], .tuple [.int 2, .int 1, .int 0, .int 1, .int 3, .int 11, .int 8, .int 13, .int 5], .tuple [.int 1, .int 1, .int 1, .int 0, .int 1, .int 4, .int 3, .int 5, .int 2], .tuple [.int 1, .int 2, .int 3, .int 1, .int 0, .int 1, .int 1, .int 2, .int 1], .tuple [.int 3, .int 7, .int 11, .int 4, .int 1, .int 0, .int 1, .int 3, .int 2], .tuple [.int 2, .int 5, .int 8, .int 3, .int 1, .int 1, .int 0, .int 1, .int 1], .tuple [.int 3, .int 8, .int 13, .int 5, .int 2, .int 3, .int 1, .int 0, .int 1], .tuple [.int 1, .int 3, .int 5, .int 2, .int 1, .int 2, .int 1, .int 1, .int 0]])),
  ([.tuple [.int 9, .tuple [.tuple [.int 0, .int 3], .tuple [.int 0, .int 4], .tuple [.int 1, .int 3], .tuple [.int 4, .int 7], .tuple [.int 4, .int 8], .tuple [.int 5, .int 7]]]], .d (.tuple [.tuple [.int 0, .int 1, .int 2, .int 1, .int 1, .int 3, .int 5, .int 2, .int 1], .tuple [.int 1, .int 0, .int 1, .int 1, .int 2, .int 7, .int 12, .int 5, .int 3], .tuple [.int 2, .int 1, .int 0, .int 1, .int 3, .int 11, .int 19, .int 8, .int 5], .tuple [.int 1, .int 1, .int 1, .int 0, .int 1, .int 4, .int 7, .int 3, .int 2], .tuple [.int 1, .int 2, .int 3, .int 1, .int 0, .int 1, .int 2, .int 1, .int 1], .tuple [.int 3, .int 7, .int 11, .int 4, .int 1, .int 0, .int 1, .int 1, .int 2], .tuple [.int 5, .int 12, .int 19, .int 7, .int 2, .int 1, .int 0, .int 1, .int 3], .tuple [.int 2, .int 5, .int 8, .int 3, .int 1, .int 1, .int 1, .int 0, .int 1], .tuple [.int 1, .int 3, .int 5, .int 2, .int 1, .int 2, .int 3, .int 1, .int 0]])),
  ([.tuple [.int 9, .tuple [.tuple [.int 0, .int 3], .tuple [.int 0, .int 4], .tuple [.int 1, .int 3], .tuple [.int 4, .int 6], .tuple [.int 4, .int 7], .tuple [.int 4, .int 8]]]], .d (.tuple [.tuple [.int 0, .int 1, .int 2, .int 1, .int 1, .int 4, .int 3, .int 2, .int 1], .tuple [.int 1, .int 0, .int 1, .int 1, .int 2, .int 9, .int 7, .int 5, .int 3], .tuple [.int 2, .int 1, .int 0, .int 1, .int 3, .int 14, .int 11, .int 8, .int 5], .tuple [.int 1, .int 1, .int 1, .int 0, .int 1, .int 5, .int 4, .int 3, .int 2], .tuple [.int 1, .int 2, .int 3, .int 1, .int 0, .int 1, .int 1, .int 1, .int 1], .tuple [.int 4, .int 9, .int 14, .int 5, .int 1, .int 0, .int 1, .int 2, .int 3], .tuple [.int 3, .int 7, .int 11, .int 4, .int 1, .int 1, .int 0, .int 1, .int 2], .tuple [.int 2, .int 5, .int 8, .int 3, .int 1, .int 2, .int 1, .int 0, .int 1], .tuple [.int 1, .int 3, .int 5, .int 2, .int 1, .int 3, .int 2, .int 1, .int 0]])),
  ([.tuple [.int 7, .tuple [.tuple [.int 0, .int 2], .tuple [.int 0, .int 3], .tuple [.int 0, .int 4], .tuple [.int 4, .int 6]]]], .d (.tuple [.tuple [.int 0, .int 1, .int 1, .int 1, .int 1, .int 2, .int 1], .tuple [.int 1, .int 0, .int 1, .int 2, .int 3, .int 7, .int 4], .tuple [.int 1, .int 1, .int 0, .int 1, .int 2, .int 5, .int 3], .tuple [.int 1, .int 2, .int 1, .int 0, .int 1, .int 3, .int 2], .tuple [.int 1, .int 3, .int 2, .int 1, .int 0, .int 1, .int 1], .tuple [.int 2, .int 7, .int 5, .int 3, .int 1, .int 0, .int 1], .tuple [.int 1, .int 4, .int 3, .int 2, .int 1, .int 1, .int 0]])),
  ([.tuple [.int 8, .tuple [.tuple [.int 0, .int 2], .tuple [.int 0, .int 3], .tuple [.int 0, .int 4], .tuple [.int 4, .int 7], .tuple [.int 5, .int 7]]]], .d (.tuple [.tuple [.int 0, .int 1, .int 1, .int 1, .int 1, .int 2, .int 3, .int 1], .tuple [.int 1, .int 0, .int 1, .int 2, .int 3, .int 7, .int 11, .int 4], .tuple [.int 1, .int 1, .int 0, .int 1, .int 2, .int 5, .int 8, .int 3], .tuple [.int 1, .int 2, .int 1, .int 0, .int 1, .int 3, .int 5, .int 2], .tuple [.int 1, .int 3, .int 2, .int 1, .int 0, .int 1, .int 2, .int 1], .tuple [.int 2, .int 7, .int 5, .int 3, .int 1, .int 0, .int 1, .int 1], .tuple [.int 3, .int 11, .int 8, .int 5, .int 2, .int 1, .int 0, .int 1], .tuple [.int 1, .int 4, .int 3, .int 2, .int 1, .int 1, .int 1, .int 0]])),
  ([.tuple [.int 8, .tuple [.tuple [.int 0, .int 2], .tuple [.int 0, .int 3], .tuple [.int 0, .int 4], .tuple [.int 4, .int 6], .tuple [.int 4, .int 7]]]], .d (.tuple [.tuple [.int 0, .int 1, .int 1, .int 1, .int 1, .int 3, .int 2, .int 1], .tuple [.int 1, .int 0, .int 1, .int 2, .int 3, .int 10, .int 7, .int 4], .tuple [.int 1, .int 1, .int 0, .int 1, .int 2, .int 7, .int 5, .int 3], .tuple [.int 1, .int 2, .int 1, .int 0, .int 1, .int 4, .int 3, .int 2], .tuple [.int 1, .int 3, .int 2, .int 1, .int 0, .int 1, .int 1, .int 1], .tuple [.int 3, .int 10, .int 7, .int 4, .int 1, .int 0, .int 1, .int 2], .tuple [.int 2, .int 7, .int 5, .int 3, .int 1, .int 1, .int 0, .int 1], .tuple [.int 1, .int 4, .int 3, .int 2, .int 1, .int 2, .int 1, .int 0]])),
  ([.tuple [.int 9, .tuple [.tuple [.int 0, .int 2], .tuple [.int 0, .int 3], .tuple [.int 0, .int 4], .tuple [.int 4, .int 8], .tuple [.int 5, .int 8], .tuple [.int 6, .int 8]]]], .d (.tuple [.tuple [.int 0, .int 1, .int 1, .int 1, .int 1, .int 2, .int 3, .int 4, .int 1], .tuple [.int 1, .int 0, .int 1, .int 2, .int 3, .int 7, .int 11, .int 15, .int 4], .tuple [.int 1, .int 1, .int 0, .int 1, .int 2, .int 5, .int 8, .int 11, .int 3], .tuple [.int 1, .int 2, .int 1, .int 0, .int 1, .int 3, .int 5, .int 7, .int 2], .tuple [.int 1, .int 3, .int 2, .int 1, .int 0, .int 1, .int 2, .int 3, .int 1], .tuple [.int 2, .int 7, .int 5, .int 3, .int 1, .int 0, .int 1, .int 2, .int 1], .tuple [.int 3, .int 11, .int 8, .int 5, .int 2, .int 1, .int 0, .int 1, .int 1], .tuple [.int 4, .int 15, .int 11, .int 7, .int 3, .int 2, .int 1, .int 0, .int 1], .tuple [.int 1, .int 4, .int 3, .int 2, .int 1, .int 1, .int 1, .int 1, .int 0]])),
  ([.tuple [.int 9, .tuple [.tuple [.int 0, .int 2], .tuple [.int 0, .int 3], .tuple [.int 0, .int 4], .tuple [.int 4, .int 8], .tuple [.int 5, .int 7], .tuple [.int 5, .int 8]]]], .d (.tuple [.tuple [.int 0, .int 1, .int 1, .int 1, .int 1, .int 2, .int 5, .int 3, .int 1], .tuple [.int 1, .int 0, .int 1, .int 2, .int 3, .int 7, .int 18, .int 11, .int 4], .tuple [.int 1, .int 1, .int 0, .int 1, .int 2, .int 5, .int 13, .int 8, .int 3], .tuple [.int 1, .int 2, .int 1, .int 0, .int 1, .int 3, .int 8, .int 5, .int 2], .tuple [.int 1, .int 3, .int 2, .int 1, .int 0, .int 1, .int 3, .int 2, .int 1], .tuple [.int 2, .int 7, .int 5, .int 3, .int 1, .int 0, .int 1, .int 1, .int 1], .tuple [.int 5, .int 18, .int 13, .int 8, .int 3, .int 1, .int 0, .int 1, .int 2], .tuple [.int 3, .int 11, .int 8, .int 5, .int 2, .int 1, .int 1, .int 0, .int 1], .tuple [.int 1, .int 4, .int 3, .int 2, .int 1, .int 1, .int 2, .int 1, .int 0]])),
  ([.tuple [.int 9, .tuple [.tuple [.int 0, .int 2], .tuple [.int 0, .int 3], .tuple [.int 0, .int 4], .tuple [.int 4, .int 6], .tuple [.int 4, .int 8], .tuple [.int 6, .int 8]]]], .d (.tuple [.tuple [.int 0, .int 1, .int 1, .int 1, .int 1, .int 3, .int 2, .int 3, .int 1], .tuple [.int 1, .int 0, .int 1, .int 2, .int 3, .int 10, .int 7, .int 11, .int 4], .tuple [.int 1, .int 1, .int 0, .int 1, .int 2, .int 7, .int 5, .int 8, .int 3], .tuple [.int 1, .int 2, .int 1, .int 0, .int 1, .int 4, .int 3, .int 5, .int 2], .tuple [.int 1, .int 3, .int 2, .int 1, .int 0, .int 1, .int 1, .int 2, .int 1], .tuple [.int 3, .int 10, .int 7, .int 4, .int 1, .int 0, .int 1, .int 3, .int 2], .tuple [.int 2, .int 7, .int 5, .int 3, .int 1, .int 1, .int 0, .int 1, .int 1], .tuple [.int 3, .int 11, .int 8, .int 5, .int 2, .int 3, .int 1, .int 0, .int 1], .tuple [.int 1, .int 4, .int 3, .int 2, .int 1, .int 2, .int 1, .int 1, .int 0]])),
  ([.tuple [.int 9, .tuple [.tuple [.int 0, .int 2], .tuple [.int 0, .int 3], .tuple [.int 0, .int 4], .tuple [.int 4, .int 7], .tuple [.int 4, .int 8], .tuple [.int 5, .int 7]]]], .d (.tuple [.tuple [.int 0, .int 1, .int 1, .int 1, .int 1, .int 3, .int 5, .int 2, .int 1], .tuple [.int 1, .int 0, .int 1, .int 2, .int 3, .int 10, .int 17, .int 7, .int 4], .tuple [.int 1, .int 1, .int 0, .int 1, .int 2, .int 7, .int 12, .int 5, .int 3], .tuple [.int 1, .int 2, .int 1, .int 0, .int 1, .int 4, .int 7, .int 3, .int 2], .tuple [.int 1, .int 3, .int 2, .int 1, .int 0, .int 1, .int 2, .int 1, .int 1], .tuple [.int 3, .int 10, .int 7, .int 4, .int 1, .int 0, .int 1, .int 1, .int 2], .tuple [.int 5, .int 17, .int 12, .int 7, .int 2, .int 1, .int 0, .int 1, .int 3], .tuple [.int 2, .int 7, .int 5, .int 3, .int 1, .int 1, .int 1, .int 0, .int 1], .tuple [.int 1, .int 4, .int 3, .int 2, .int 1, .int 2, .int 3, .int 1, .int 0]])),
  ([.tuple [.int 9, .tuple [.tuple [.int 0, .int 2], .tuple [.int 0, .int 3], .tuple [.int 0, .int 4], .tuple [.int 4, .int 6], .tuple [.int 4, .int 7], .tuple [.int 4, .int 8]]]], .d (.tuple [.tuple [.int 0, .int 1, .int 1, .int 1, .int 1, .int 4, .int 3, .int 2, .int 1], .tuple [.int 1, .int 0, .int 1, .int 2, .int 3, .int 13, .int 10, .int 7, .int 4], .tuple [.int 1, .int 1, .int 0, .int 1, .int 2, .int 9, .int 7, .int 5, .int 3], .tuple [.int 1, .int 2, .int 1, .int 0, .int 1, .int 5, .int 4, .int 3, .int 2], .tuple [.int 1, .int 3, .int 2, .int 1, .int 0, .int 1, .int 1, .int 1, .int 1], .tuple [.int 4, .int 13, .int 9, .int 5, .int 1, .int 0, .int 1, .int 2, .int 3], .tuple [.int 3, .int 10, .int 7, .int 4, .int 1, .int 1, .int 0, .int 1, .int 2], .tuple [.int 2, .int 7, .int 5, .int 3, .int 1, .int 2, .int 1, .int 0, .int 1], .tuple [.int 1, .int 4, .int 3, .int 2, .int 1, .int 3, .int 2, .int 1, .int 0]]))]
def T_frieze : List PyData → FR := lookT tab_frieze
theorem okt_frieze (fs : FS K mg) : FnOk P w K mg base (L2.CX P w) 8 fs.f_frieze fs.fd_frieze ["cutting"] (spF K [] mg 1 T_frieze) := fn_tab tab_frieze (ok_frieze fs) (by decide +kernel)
theorem sc_is_shape : FnScope ["value", "word"] ["value"] (defScope (topS 40)) := ⟨rfl, rfl, rfl, by decide +kernel, rfl, by decide +kernel, by decide +kernel⟩
def m_is_shape  : SM := seqM (iteM (orM (notM (truM (op1 (isF isTup) (rdV 0)))) (cmp2 gtA (op1 lenF (rdV 0)) (ret (.d (.int 60))))) (retM (ret (.d (.bool false)))) (skipM)) (retM (op1 allF (lcM (anyI (rdV 0)) (.nm 1) (ret true) (bv (cmp2 (inF false) (rdV 1) (tupM [ret (.d (.str "right")), ret (.d (.str "up"))]))) [1])))
def F_is_shape : List PyData → FR := runF m_is_shape 2
theorem ok_is_shape (fs : FS K mg) : FnOk P w K mg base (L2.CX P w) 1 fs.f_is_shape fs.fd_is_shape ["value"] (spF K [] mg 1 F_is_shape) :=
  have sc := sc_is_shape
  fn_pure fs.F_is_shape sc (z := m_is_shape) (fun cdv A outer s H E hr tk => pzs_cons (pz_if (PW.pt (pxw_or (pxt_not (pxt_tru (px_isi isi_tuple (by rfl) fs.z_isinstance bb_isinstance (by rfl) fs.z_tuple bb_tuple (px_var 0)))) (pxw_or1 (pxt_cmp (op_gtAll (hu65 hr)) (sB_cmp _ _) (px_b1 cr_lenD s1_len (by rfl) fs.z_len bb_len (px_var 0)) (px_glob (v := .int 60) (.int 60) (by rfl) fs.c_MOST_WORDS.choose_spec ⟨_, rfl⟩ (fun _ _ => .int _)) (nomark _))))) (pzs_one (pz_ret (px_bl))) (pzs_nil)) (pzs_one (pz_ret (px_b1 (cr_all rfl) s1_all (by rfl) fs.z_all bb_all (px_lc (own := [("word", 1)]) rfl sc.nd (pix_any (px_var 0)) (blkOk_by (by kernel_rfl)) (fun _ _ _ _ _ => pgx_nm 1 sc.nd) (fun _ _ _ _ _ => ptx_nil) (fun _ _ _ _ _ => px_cmp (op_inA (hu65 hr)) sB_in (px_var 1) (px_tup (hz := (by decide : (2 : Nat) ≤ sizeLine)) (pxa_cons (px_str) (pxa_cons (px_str) (pxa_nil)))) (by rfl))))))) (fun _ _ _ => rfl)
theorem sc_need_shape : FnScope ["value"] ["value"] (defScope (topS 41)) := ⟨rfl, rfl, rfl, by decide +kernel, rfl, by decide +kernel, by decide +kernel⟩
def m_need_shape  : SM := iteM (notM (truM (callM F_is_shape [rdV 0]))) ((fun _ => .no)) (skipM)
def F_need_shape : List PyData → FR := runF m_need_shape 1
theorem ok_need_shape (fs : FS K mg) : FnOk P w K mg base (L2.CX P w) 2 fs.f_need_shape fs.fd_need_shape ["value"] (spF K [] mg 1 F_need_shape) :=
  have sc := sc_need_shape
  fn_pure fs.F_need_shape sc (z := m_need_shape) (fun cdv A outer s H E hr tk => pzs_one (pz_if (pxt_not (pxt_tru (px_call (ok_is_shape fs) (hr.mono (by omega)) (by rfl) fs.m_is_shape fs.F_is_shape.kp fs.b_is_shape tk (pxa_cons (px_var 0) (pxa_nil))))) (pzs_one (pz_never)) (pzs_nil))) (fun _ _ _ => rfl)
theorem sc_tally : FnScope ["shape", "top", "below", "word"] ["shape"] (defScope (topS 42)) := ⟨rfl, rfl, rfl, by decide +kernel, rfl, by decide +kernel, by decide +kernel⟩
def m_tally  : SM := seqM (exprM (callM F_need_shape [rdV 0])) (seqM (asgM (.tp [1, 2]) (tupM [ret (.d (.int 2)), ret (.d (.int 1))])) (seqM (forM (anyI (op1 revAF (rdV 0))) (.nm 3) (iteM (cmp2 eqF (rdV 3) (ret (.d (.str "right")))) (par2M 1 2 (op2 addS (rdV 1) (rdV 2)) (rdV 1)) (par2M 1 2 (op2 subF (op2 mulF (ret (.d (.int 2))) (rdV 1)) (rdV 2)) (op2 subF (rdV 1) (rdV 2))))) (retM (tupM [rdV 1, rdV 2]))))
def F_tally : List PyData → FR := runF m_tally 4
theorem ok_tally (fs : FS K mg) : FnOk P w K mg base (L2.CX P w) 3 fs.f_tally fs.fd_tally ["shape"] (spF K [] mg 1 F_tally) :=
  have sc := sc_tally
  fn_pure fs.F_tally sc (z := m_tally) (fun cdv A outer s H E hr tk => pzs_cons (pz_expr (px_call (ok_need_shape fs) (hr.mono (by omega)) (by rfl) fs.m_need_shape fs.F_need_shape.kp fs.b_need_shape tk (pxa_cons (px_var 0) (pxa_nil)))) (pzs_cons (pz_asg (px_tup (hz := (by decide : (2 : Nat) ≤ sizeLine)) (pxa_cons (px_int) (pxa_cons (px_int) (pxa_nil)))) (pgx_tp rfl sc.nd (.cons rfl (by first | exact Or.inl rfl | exact Or.inr rfl) (by first | exact .inl rfl | exact .inr rfl) (.cons rfl (by first | exact Or.inl rfl | exact Or.inr rfl) (by first | exact .inl rfl | exact .inr rfl) (.nil))))) (pzs_cons (pz_for (passes_of rfl) rfl (pix_any (px_revA (px_var 0))) (pgx_nm 3 sc.nd) (pzs_one (pz_if (pxt_cmp (op_eqD (hu64 hr)) sB_eq (px_var 3) (px_str) (nomark _)) (pzs_one (pz_par2 1 2 (px_bin op_addS s2_addS (px_var 1) (px_var 2)) (px_var 1) rfl sc.nd rfl rfl (by decide) rfl rfl (by rfl))) (pzs_one (pz_par2 1 2 (px_bin op_subA (s2_ii yes2 (· - ·)) (px_bin op_mul' s2_mul (px_int) (px_var 1)) (px_var 2)) (px_bin op_subA (s2_ii yes2 (· - ·)) (px_var 1) (px_var 2)) rfl sc.nd rfl rfl (by decide) rfl rfl (by rfl)))))) (pzs_one (pz_ret (px_tup (hz := (by decide : (2 : Nat) ≤ sizeLine)) (pxa_cons (px_var 1) (pxa_cons (px_var 2) (pxa_nil))))))))) (fun _ _ _ => rfl)
theorem sc_is_line : FnScope ["cutting", "value"] ["cutting", "value"] (defScope (topS 44)) := ⟨rfl, rfl, rfl, by decide +kernel, rfl, by decide +kernel, by decide +kernel⟩
def m_is_line  : SM := retM (andV (callM F_are_ints [rdV 1, ret (.d (.int 2))]) (bv (chn3 leA ltA ltA (ret (.d (.int 0))) (op2 ixA (rdV 1) (ret (.d (.int 0)))) (op2 ixA (rdV 1) (ret (.d (.int 1)))) (op2 ixA (rdV 0) (ret (.d (.int 0)))))))
def F_is_line : List PyData → FR := runF m_is_line 2
theorem ok_is_line (fs : FS K mg) : FnOk P w K mg base (L2.CX P w) 3 fs.f_is_line fs.fd_is_line ["cutting", "value"] (spF K [] mg 2 F_is_line) :=
  have sc := sc_is_line
  fn_pure fs.F_is_line sc (z := m_is_line) (fun cdv A outer s H E hr tk => pzs_one (pz_ret (px_and (px_call (ok_are_ints fs) (hr.mono (by omega)) (by rfl) fs.m_are_ints fs.F_are_ints.kp fs.b_are_ints tk (pxa_cons (px_var 1) (pxa_cons (px_int) (pxa_nil)))) (px_one (px_chn3 (op_leAll (hu65 hr)) (op_ltAll (hu65 hr)) (op_ltAll (hu65 hr)) (sB_cmp _ _) (sB_cmp _ _) (sB_cmp _ _) (px_int) (px_ixA (hu65 hr) (px_var 1) (px_int)) (px_ixA (hu65 hr) (px_var 1) (px_int)) (px_ixA (hu65 hr) (px_var 0) (px_int))))))) (fun _ _ _ => rfl)
theorem sc_need_line : FnScope ["cutting", "value"] ["cutting", "value"] (defScope (topS 45)) := ⟨rfl, rfl, rfl, by decide +kernel, rfl, by decide +kernel, by decide +kernel⟩
def m_need_line  : SM := iteM (notM (truM (callM F_is_line [rdV 0, rdV 1]))) ((fun _ => .no)) (skipM)
def F_need_line : List PyData → FR := runF m_need_line 2
theorem ok_need_line (fs : FS K mg) : FnOk P w K mg base (L2.CX P w) 4 fs.f_need_line fs.fd_need_line ["cutting", "value"] (spF K [] mg 2 F_need_line) :=
  have sc := sc_need_line
  fn_pure fs.F_need_line sc (z := m_need_line) (fun cdv A outer s H E hr tk => pzs_one (pz_if (pxt_not (pxt_tru (px_call (ok_is_line fs) (hr.mono (by omega)) (by rfl) fs.m_is_line fs.F_is_line.kp fs.b_is_line tk (pxa_cons (px_var 0) (pxa_cons (px_var 1) (pxa_nil)))))) (pzs_one (pz_never)) (pzs_nil))) (fun _ _ _ => rfl)
theorem sc_cuts_along : FnScope ["cutting", "line", "sides", "cuts", "first", "last", "ends", "met", "pairs", "low", "high", "inner", "outer", "pair"] ["cutting", "line"] (defScope (topS 46)) := ⟨rfl, rfl, rfl, by decide +kernel, rfl, by decide +kernel, by decide +kernel⟩
def m_cuts_along  : SM := seqM (asgM (.tp [2, 3]) (rdV 0)) (seqM (asgM (.tp [4, 5]) (rdV 1)) (seqM (setM 6 (lcM (anyI (rdV 3)) (.tp [9, 10]) (truM (callM F_crosses [tupM [rdV 9, rdV 10], rdV 1])) (ifM (chn2 ltA ltA (rdV 4) (rdV 9) (rdV 5)) (tupM [rdV 9, rdV 10]) (tupM [rdV 10, rdV 9])) [9, 10])) (seqM (setM 7 (op1 sortF (lcM (anyI (rdV 6)) (.tp [11, 12]) (ret true) (tupM [op2 subF (rdV 11) (rdV 4), op2 modF (op2 subF (rdV 4) (rdV 12)) (rdV 2)]) [11, 12]))) (seqM (setM 8 (lcM (anyI (rdV 7)) (.tp [11, 12]) (ret true) (tupM [op2 addS (rdV 4) (rdV 11), op2 modF (op2 subF (rdV 4) (rdV 12)) (rdV 2)]) [11, 12])) (retM (lcM (anyI (rdV 8)) (.nm 13) (ret true) (tupM [op1 minDF (rdV 13), op1 maxDF (rdV 13)]) [13]))))))
def F_cuts_along : List PyData → FR := runF m_cuts_along 14
theorem ok_cuts_along (fs : FS K mg) : FnOk P w K mg base (L2.CX P w) 2 fs.f_cuts_along fs.fd_cuts_along ["cutting", "line"] (spF K [] mg 2 F_cuts_along) :=
  have sc := sc_cuts_along
  fn_pure fs.F_cuts_along sc (z := m_cuts_along) (fun cdv A outer s H E hr tk => pzs_cons (pz_asg (px_var 0) (pgx_tp rfl sc.nd (.cons rfl (by first | exact Or.inl rfl | exact Or.inr rfl) (by first | exact .inl rfl | exact .inr rfl) (.cons rfl (by first | exact Or.inl rfl | exact Or.inr rfl) (by first | exact .inl rfl | exact .inr rfl) (.nil))))) (pzs_cons (pz_asg (px_var 1) (pgx_tp rfl sc.nd (.cons rfl (by first | exact Or.inl rfl | exact Or.inr rfl) (by first | exact .inl rfl | exact .inr rfl) (.cons rfl (by first | exact Or.inl rfl | exact Or.inr rfl) (by first | exact .inl rfl | exact .inr rfl) (.nil))))) (pzs_cons (pz_setLc (own := [("low", 9), ("high", 10)]) 6 rfl sc.nd rfl rfl (sw_true rfl rfl rfl (by decide +kernel)) (pix_any (px_var 3)) (blkOk_by (by kernel_rfl)) (fun _ _ _ _ _ => pgx_tp rfl sc.nd (.cons rfl (by first | exact Or.inl rfl | exact Or.inr rfl) (by first | exact .inl rfl | exact .inr rfl) (.cons rfl (by first | exact Or.inl rfl | exact Or.inr rfl) (by first | exact .inl rfl | exact .inr rfl) (.nil)))) (fun _ _ _ _ _ => ptx_one (pxt_tru (px_call (ok_crosses fs) (hr.mono (by omega)) (by rfl) fs.m_crosses fs.F_crosses.kp fs.b_crosses takes_F (pxa_cons (px_tup (hz := (by decide : (2 : Nat) ≤ sizeLine)) (pxa_cons (px_var 9) (pxa_cons (px_var 10) (pxa_nil)))) (pxa_cons (px_var 1) (pxa_nil)))))) (fun _ _ _ _ _ => px_if (pxt_chn2 (op_ltAll (hu65 hr)) (op_ltAll (hu65 hr)) (sB_cmp _ _) (sB_cmp _ _) (px_var 4) (px_var 9) (px_var 5)) (px_tup (hz := (by decide : (2 : Nat) ≤ sizeLine)) (pxa_cons (px_var 9) (pxa_cons (px_var 10) (pxa_nil)))) (px_tup (hz := (by decide : (2 : Nat) ≤ sizeLine)) (pxa_cons (px_var 10) (pxa_cons (px_var 9) (pxa_nil)))))) (pzs_cons (pz_set 7 (px_b1 (cr_sortD (hu65 hr)) s1_sort (by rfl) fs.z_sorted bb_sorted (px_lc (own := [("inner", 11), ("outer", 12)]) rfl sc.nd (pix_any (px_var 6)) (blkOk_by (by kernel_rfl)) (fun _ _ _ _ _ => pgx_tp rfl sc.nd (.cons rfl (by first | exact Or.inl rfl | exact Or.inr rfl) (by first | exact .inl rfl | exact .inr rfl) (.cons rfl (by first | exact Or.inl rfl | exact Or.inr rfl) (by first | exact .inl rfl | exact .inr rfl) (.nil)))) (fun _ _ _ _ _ => ptx_nil) (fun _ _ _ _ _ => px_tup (hz := (by decide : (2 : Nat) ≤ sizeLine)) (pxa_cons (px_bin op_subA (s2_ii yes2 (· - ·)) (px_var 11) (px_var 4)) (pxa_cons (px_bin op_modA (s2_ii modOk Int.fmod) (px_bin op_subA (s2_ii yes2 (· - ·)) (px_var 4) (px_var 12)) (px_var 2)) (pxa_nil)))))) sc.nd) (pzs_cons (pz_setLc (own := [("inner", 11), ("outer", 12)]) 8 rfl sc.nd rfl rfl (sw_true rfl rfl rfl (by decide +kernel)) (pix_any (px_var 7)) (blkOk_by (by kernel_rfl)) (fun _ _ _ _ _ => pgx_tp rfl sc.nd (.cons rfl (by first | exact Or.inl rfl | exact Or.inr rfl) (by first | exact .inl rfl | exact .inr rfl) (.cons rfl (by first | exact Or.inl rfl | exact Or.inr rfl) (by first | exact .inl rfl | exact .inr rfl) (.nil)))) (fun _ _ _ _ _ => ptx_nil) (fun _ _ _ _ _ => px_tup (hz := (by decide : (2 : Nat) ≤ sizeLine)) (pxa_cons (px_bin op_addS s2_addS (px_var 4) (px_var 11)) (pxa_cons (px_bin op_modA (s2_ii modOk Int.fmod) (px_bin op_subA (s2_ii yes2 (· - ·)) (px_var 4) (px_var 12)) (px_var 2)) (pxa_nil))))) (pzs_one (pz_ret (px_lc (own := [("pair", 13)]) rfl sc.nd (pix_any (px_var 8)) (blkOk_by (by kernel_rfl)) (fun _ _ _ _ _ => pgx_nm 13 sc.nd) (fun _ _ _ _ _ => ptx_nil) (fun _ _ _ _ _ => px_tup (hz := (by decide : (2 : Nat) ≤ sizeLine)) (pxa_cons (px_b1 (cr_minD rfl (hu65 hr)) s1_mm (by rfl) fs.z_min bb_min (px_var 13)) (pxa_cons (px_b1 (cr_maxD' rfl (hu65 hr)) s1_mm (by rfl) fs.z_max bb_max (px_var 13)) (pxa_nil)))))))))))) (fun _ _ _ => rfl)
theorem sc_first_tile : FnScope ["line", "cut", "low", "high", "first", "last", "inner", "outer"] ["line", "cut"] (defScope (topS 47)) := ⟨rfl, rfl, rfl, by decide +kernel, rfl, by decide +kernel, by decide +kernel⟩
def m_first_tile  : SM := seqM (asgM (.tp [2, 3]) (rdV 1)) (seqM (asgM (.tp [4, 5]) (rdV 0)) (seqM (asgM (.tp [6, 7]) (ifM (chn2 ltA ltA (rdV 4) (rdV 2) (rdV 5)) (tupM [rdV 2, rdV 3]) (tupM [rdV 3, rdV 2]))) (retM (tupM [rdV 4, rdV 7, rdV 6]))))
def F_first_tile : List PyData → FR := runF m_first_tile 8
theorem ok_first_tile (fs : FS K mg) : FnOk P w K mg base (L2.CX P w) 1 fs.f_first_tile fs.fd_first_tile ["line", "cut"] (spF K [] mg 2 F_first_tile) :=
  have sc := sc_first_tile
  fn_pure fs.F_first_tile sc (z := m_first_tile) (fun cdv A outer s H E hr tk => pzs_cons (pz_asg (px_var 1) (pgx_tp rfl sc.nd (.cons rfl (by first | exact Or.inl rfl | exact Or.inr rfl) (by first | exact .inl rfl | exact .inr rfl) (.cons rfl (by first | exact Or.inl rfl | exact Or.inr rfl) (by first | exact .inl rfl | exact .inr rfl) (.nil))))) (pzs_cons (pz_asg (px_var 0) (pgx_tp rfl sc.nd (.cons rfl (by first | exact Or.inl rfl | exact Or.inr rfl) (by first | exact .inl rfl | exact .inr rfl) (.cons rfl (by first | exact Or.inl rfl | exact Or.inr rfl) (by first | exact .inl rfl | exact .inr rfl) (.nil))))) (pzs_cons (pz_asg (px_if (pxt_chn2 (op_ltAll (hu65 hr)) (op_ltAll (hu65 hr)) (sB_cmp _ _) (sB_cmp _ _) (px_var 4) (px_var 2) (px_var 5)) (px_tup (hz := (by decide : (2 : Nat) ≤ sizeLine)) (pxa_cons (px_var 2) (pxa_cons (px_var 3) (pxa_nil)))) (px_tup (hz := (by decide : (2 : Nat) ≤ sizeLine)) (pxa_cons (px_var 3) (pxa_cons (px_var 2) (pxa_nil))))) (pgx_tp rfl sc.nd (.cons rfl (by first | exact Or.inl rfl | exact Or.inr rfl) (by first | exact .inl rfl | exact .inr rfl) (.cons rfl (by first | exact Or.inl rfl | exact Or.inr rfl) (by first | exact .inl rfl | exact .inr rfl) (.nil))))) (pzs_one (pz_ret (px_tup (hz := (by decide : (3 : Nat) ≤ sizeLine)) (pxa_cons (px_var 4) (pxa_cons (px_var 7) (pxa_cons (px_var 6) (pxa_nil)))))))))) (fun _ _ _ => rfl)
theorem sc_ends_ahead : FnScope ["line", "cuts", "between", "cut", "behind", "corner"] ["line", "cuts"] (defScope (topS 48)) := ⟨rfl, rfl, rfl, by decide +kernel, rfl, by decide +kernel, by decide +kernel⟩
def m_ends_ahead  : SM := seqM (setM 2 (lcM (zipI (rdV 1) (slM (rdV 1) (some (ret (.d (.int 1)))) none)) (.tp [3, 4]) (ret true) (op2 ixA (lcM (anyI (rdV 4)) (.nm 5) (cmp2 (inF true) (rdV 5) (rdV 3)) (rdV 5) [5]) (ret (.d (.int 0)))) [3, 4])) (retM (op2 addS (rdV 2) (lstM [op2 ixA (rdV 0) (ret (.d (.int 1)))])))
def F_ends_ahead : List PyData → FR := runF m_ends_ahead 6
theorem ok_ends_ahead (fs : FS K mg) : FnOk P w K mg base (L2.CX P w) 1 fs.f_ends_ahead fs.fd_ends_ahead ["line", "cuts"] (spF K [] mg 2 F_ends_ahead) :=
  have sc := sc_ends_ahead
  fn_pure fs.F_ends_ahead sc (z := m_ends_ahead) (fun cdv A outer s H E hr tk => pzs_cons (pz_setLc (own := [("cut", 3), ("behind", 4)]) 2 rfl sc.nd rfl rfl (sw_true rfl rfl rfl (by decide +kernel)) (pix_zip (by rfl) fs.z_zip (px_var 1) (px_sl (px_var 1) (.some (px_int)) .none)) (blkOk_by (by kernel_rfl)) (fun _ _ _ _ _ => pgx_tp rfl sc.nd (.cons rfl (by first | exact Or.inl rfl | exact Or.inr rfl) (by first | exact .inl rfl | exact .inr rfl) (.cons rfl (by first | exact Or.inl rfl | exact Or.inr rfl) (by first | exact .inl rfl | exact .inr rfl) (.nil)))) (fun _ _ _ _ _ => ptx_nil) (fun _ _ _ _ _ => px_ixA (hu65 hr) (px_lc (own := [("corner", 5)]) rfl sc.nd (pix_any (px_var 4)) (blkOk_by (by kernel_rfl)) (fun _ _ _ _ _ => pgx_nm 5 sc.nd) (fun _ _ _ _ _ => ptx_one (pxt_cmp (op_notInA (hu65 hr)) sB_notIn (px_var 5) (px_var 3) (by rfl))) (fun _ _ _ _ _ => px_var 5)) (px_int))) (pzs_one (pz_ret (px_bin op_addS s2_addS (px_var 2) (px_lst (hz := (by decide : (1 : Nat) ≤ sizeLine)) (pxa_cons (px_ixA (hu65 hr) (px_var 0) (px_int)) (pxa_nil))))))) (fun _ _ _ => rfl)
theorem sc_tiles_along : FnScope ["line", "cuts", "across", "up", "lower_left", "upper_left", "lower_right", "tiles", "at", "upper_right"] ["line", "cuts"] (defScope (topS 49)) := ⟨rfl, rfl, rfl, by decide +kernel, rfl, by decide +kernel, by decide +kernel⟩
def m_tiles_along  : SM := seqM (asgM (.tp [2, 3]) (tupM [ret (.d (.int 0)), ret (.d (.int 0))])) (seqM (asgM (.tp [4, 5, 6]) (callM F_first_tile [rdV 0, op2 ixA (rdV 1) (ret (.d (.int 0)))])) (seqM (setM 7 (lstM [])) (seqM (forM (enumI (callM F_ends_ahead [rdV 0, rdV 1])) (.tp [8, 9]) (seqM (exprM (appM 7 (tupM [tupM [rdV 2, rdV 3], tupM [rdV 4, rdV 5, rdV 9, rdV 6]]))) (iteM (andM (cmp2 ltA (op2 addS (rdV 8) (ret (.d (.int 1)))) (op1 lenF (rdV 1))) (cmp2 (inF false) (rdV 5) (op2 ixA (rdV 1) (op2 addS (rdV 8) (ret (.d (.int 1))))))) (seqM (setM 2 (op2 addS (rdV 2) (ret (.d (.int 1))))) (par3M 4 5 6 (rdV 6) (rdV 9) (rdV 5))) (seqM (setM 3 (op2 addS (rdV 3) (ret (.d (.int 1))))) (par3M 4 5 6 (rdV 5) (rdV 6) (rdV 9)))))) (retM (op1 tupF (rdV 7))))))
def F_tiles_along : List PyData → FR := runF m_tiles_along 10
theorem ok_tiles_along (fs : FS K mg) : FnOk P w K mg base (L2.CX P w) 2 fs.f_tiles_along fs.fd_tiles_along ["line", "cuts"] (spF K [] mg 2 F_tiles_along) :=
  have sc := sc_tiles_along
  fn_pure fs.F_tiles_along sc (z := m_tiles_along) (fun cdv A outer s H E hr tk => pzs_cons (pz_asg (px_tup (hz := (by decide : (2 : Nat) ≤ sizeLine)) (pxa_cons (px_int) (pxa_cons (px_int) (pxa_nil)))) (pgx_tp rfl sc.nd (.cons rfl (by first | exact Or.inl rfl | exact Or.inr rfl) (by first | exact .inl rfl | exact .inr rfl) (.cons rfl (by first | exact Or.inl rfl | exact Or.inr rfl) (by first | exact .inl rfl | exact .inr rfl) (.nil))))) (pzs_cons (pz_asg (px_call (ok_first_tile fs) (hr.mono (by omega)) (by rfl) fs.m_first_tile fs.F_first_tile.kp fs.b_first_tile tk (pxa_cons (px_var 0) (pxa_cons (px_ixA (hu65 hr) (px_var 1) (px_int)) (pxa_nil)))) (pgx_tp rfl sc.nd (.cons rfl (by first | exact Or.inl rfl | exact Or.inr rfl) (by first | exact .inl rfl | exact .inr rfl) (.cons rfl (by first | exact Or.inl rfl | exact Or.inr rfl) (by first | exact .inl rfl | exact .inr rfl) (.cons rfl (by first | exact Or.inl rfl | exact Or.inr rfl) (by first | exact .inl rfl | exact .inr rfl) (.nil)))))) (pzs_cons (pz_set 7 (px_lst (hz := (by decide : (0 : Nat) ≤ sizeLine)) (pxa_nil)) sc.nd) (pzs_cons (pz_for (passes_of rfl) rfl (pix_enum (by rfl) fs.z_enumerate (px_call (ok_ends_ahead fs) (hr.mono (by omega)) (by rfl) fs.m_ends_ahead fs.F_ends_ahead.kp fs.b_ends_ahead tk (pxa_cons (px_var 0) (pxa_cons (px_var 1) (pxa_nil))))) (pgx_tp rfl sc.nd (.cons rfl (by first | exact Or.inl rfl | exact Or.inr rfl) (by first | exact .inl rfl | exact .inr rfl) (.cons rfl (by first | exact Or.inl rfl | exact Or.inr rfl) (by first | exact .inl rfl | exact .inr rfl) (.nil)))) (pzs_cons (pz_expr (px_append 7 (px_tup (hz := (by decide : (2 : Nat) ≤ sizeLine)) (pxa_cons (px_tup (hz := (by decide : (2 : Nat) ≤ sizeLine)) (pxa_cons (px_var 2) (pxa_cons (px_var 3) (pxa_nil)))) (pxa_cons (px_tup (hz := (by decide : (4 : Nat) ≤ sizeLine)) (pxa_cons (px_var 4) (pxa_cons (px_var 5) (pxa_cons (px_var 9) (pxa_cons (px_var 6) (pxa_nil)))))) (pxa_nil)))))) (pzs_one (pz_if (PW.pt (pxw_and (pxt_cmp (op_ltAll (hu65 hr)) (sB_cmp _ _) (px_bin op_addS s2_addS (px_var 8) (px_int)) (px_b1 cr_lenD s1_len (by rfl) fs.z_len bb_len (px_var 1)) (nomark _)) (pxw_and1 (pxt_cmp (op_inA (hu65 hr)) sB_in (px_var 5) (px_ixA (hu65 hr) (px_var 1) (px_bin op_addS s2_addS (px_var 8) (px_int))) (by rfl))))) (pzs_cons (pz_set 2 (px_bin op_addS s2_addS (px_var 2) (px_int)) sc.nd) (pzs_one (pz_par3 4 5 6 (px_var 6) (px_var 9) (px_var 5) rfl sc.nd rfl rfl rfl (by decide) (by decide) (by decide) rfl rfl rfl (by rfl)))) (pzs_cons (pz_set 3 (px_bin op_addS s2_addS (px_var 3) (px_int)) sc.nd) (pzs_one (pz_par3 4 5 6 (px_var 5) (px_var 6) (px_var 9) rfl sc.nd rfl rfl rfl (by decide) (by decide) (by decide) rfl rfl rfl (by rfl)))))))) (pzs_one (pz_ret (px_t1 call_tuple_of s1_tup (by rfl) fs.z_tuple bb_tuple (px_var 7)))))))) (fun _ _ _ => rfl)
theorem sc_snake_along : FnScope ["cutting", "line", "cuts"] ["cutting", "line"] (defScope (topS 50)) := ⟨rfl, rfl, rfl, by decide +kernel, rfl, by decide +kernel, by decide +kernel⟩
def m_snake_along  : SM := seqM (setM 2 (callM F_cuts_along [rdV 0, rdV 1])) (retM (ifM (truM (rdV 2)) (callM F_tiles_along [rdV 1, rdV 2]) (tupM [])))
def F_snake_along : List PyData → FR := runF m_snake_along 3
theorem ok_snake_along (fs : FS K mg) : FnOk P w K mg base (L2.CX P w) 3 fs.f_snake_along fs.fd_snake_along ["cutting", "line"] (spF K [] mg 2 F_snake_along) :=
  have sc := sc_snake_along
  fn_pure fs.F_snake_along sc (z := m_snake_along) (fun cdv A outer s H E hr tk => pzs_cons (pz_set 2 (px_call (ok_cuts_along fs) (hr.mono (by omega)) (by rfl) fs.m_cuts_along fs.F_cuts_along.kp fs.b_cuts_along tk (pxa_cons (px_var 0) (pxa_cons (px_var 1) (pxa_nil)))) sc.nd) (pzs_one (pz_ret (px_if (pxt_tru (px_var 2)) (px_call (ok_tiles_along fs) (hr.mono (by omega)) (by rfl) fs.m_tiles_along fs.F_tiles_along.kp fs.b_tiles_along tk (pxa_cons (px_var 1) (pxa_cons (px_var 2) (pxa_nil)))) (px_tup (hz := (by decide : (0 : Nat) ≤ sizeLine)) (pxa_nil)))))) (fun _ _ _ => rfl)
theorem sc_shape_of : FnScope ["cutting", "line", "spots", "spot", "_", "behind"] ["cutting", "line"] (defScope (topS 51)) := ⟨rfl, rfl, rfl, by decide +kernel, rfl, by decide +kernel, by decide +kernel⟩
def m_shape_of  : SM := seqM (exprM (callM F_need_cutting [rdV 0])) (seqM (exprM (callM F_need_line [rdV 0, rdV 1])) (seqM (setM 2 (lcM (anyI (callM F_snake_along [rdV 0, rdV 1])) (.tp [3, 4]) (ret true) (rdV 3) [3, 4])) (seqM (iteM (notM (truM (rdV 2))) (retM (ret (.d .none))) (skipM)) (retM (op1 tupF (lcM (zipI (rdV 2) (slM (rdV 2) (some (ret (.d (.int 1)))) none)) (.tp [3, 5]) (ret true) (ifM (cmp2 gtA (op2 ixA (rdV 5) (ret (.d (.int 0)))) (op2 ixA (rdV 3) (ret (.d (.int 0))))) (ret (.d (.str "right"))) (ret (.d (.str "up")))) [3, 5]))))))
def F_shape_of : List PyData → FR := runF m_shape_of 6
theorem ok_shape_of (fs : FS K mg) : FnOk P w K mg base (L2.CX P w) 7 fs.f_shape_of fs.fd_shape_of ["cutting", "line"] (spF K [] mg 2 F_shape_of) :=
  have sc := sc_shape_of
  fn_pure fs.F_shape_of sc (z := m_shape_of) (fun cdv A outer s H E hr tk => pzs_cons (pz_expr (px_call (ok_need_cutting fs) (hr.mono (by omega)) (by rfl) fs.m_need_cutting fs.F_need_cutting.kp fs.b_need_cutting tk (pxa_cons (px_var 0) (pxa_nil)))) (pzs_cons (pz_expr (px_call (ok_need_line fs) (hr.mono (by omega)) (by rfl) fs.m_need_line fs.F_need_line.kp fs.b_need_line tk (pxa_cons (px_var 0) (pxa_cons (px_var 1) (pxa_nil))))) (pzs_cons (pz_setLc (own := [("spot", 3), ("_", 4)]) 2 rfl sc.nd rfl rfl (sw_true rfl rfl rfl (by decide +kernel)) (pix_any (px_call (ok_snake_along fs) (hr.mono (by omega)) (by rfl) fs.m_snake_along fs.F_snake_along.kp fs.b_snake_along tk (pxa_cons (px_var 0) (pxa_cons (px_var 1) (pxa_nil))))) (blkOk_by (by kernel_rfl)) (fun _ _ _ _ _ => pgx_tp rfl sc.nd (.cons rfl (by first | exact Or.inl rfl | exact Or.inr rfl) (by first | exact .inl rfl | exact .inr rfl) (.cons rfl (by first | exact Or.inl rfl | exact Or.inr rfl) (by first | exact .inl rfl | exact .inr rfl) (.nil)))) (fun _ _ _ _ _ => ptx_nil) (fun _ _ _ _ _ => px_var 3)) (pzs_cons (pz_if (pxt_not (pxt_tru (px_var 2))) (pzs_one (pz_ret (px_non))) (pzs_nil)) (pzs_one (pz_ret (px_t1 call_tuple_of s1_tup (by rfl) fs.z_tuple bb_tuple (px_lc (own := [("spot", 3), ("behind", 5)]) rfl sc.nd (pix_zip (by rfl) fs.z_zip (px_var 2) (px_sl (px_var 2) (.some (px_int)) .none)) (blkOk_by (by kernel_rfl)) (fun _ _ _ _ _ => pgx_tp rfl sc.nd (.cons rfl (by first | exact Or.inl rfl | exact Or.inr rfl) (by first | exact .inl rfl | exact .inr rfl) (.cons rfl (by first | exact Or.inl rfl | exact Or.inr rfl) (by first | exact .inl rfl | exact .inr rfl) (.nil)))) (fun _ _ _ _ _ => ptx_nil) (fun _ _ _ _ _ => px_if (pxt_cmp (op_gtAll (hu65 hr)) (sB_cmp _ _) (px_ixA (hu65 hr) (px_var 5) (px_int)) (px_ixA (hu65 hr) (px_var 3) (px_int)) (nomark _)) (px_str) (px_str)))))))))) (fun _ _ _ => rfl)
theorem sc_count_pairings : FnScope ["cutting", "line", "shape"] ["cutting", "line"] (defScope (topS 53)) := ⟨rfl, rfl, rfl, by decide +kernel, rfl, by decide +kernel, by decide +kernel⟩
def m_count_pairings  : SM := seqM (setM 2 (callM F_shape_of [rdV 0, rdV 1])) (retM (ifM (cmp2 isNF (rdV 2) (ret (.d .none))) (ret (.d (.int 1))) (op2 ixA (callM F_tally [rdV 2]) (ret (.d (.int 0))))))
def F_count_pairings : List PyData → FR := runF m_count_pairings 3
theorem ok_count_pairings (fs : FS K mg) : FnOk P w K mg base (L2.CX P w) 8 fs.f_count_pairings fs.fd_count_pairings ["cutting", "line"] (spF K [] mg 2 F_count_pairings) :=
  have sc := sc_count_pairings
  fn_pure fs.F_count_pairings sc (z := m_count_pairings) (fun cdv A outer s H E hr tk => pzs_cons (pz_set 2 (px_call (ok_shape_of fs) (hr.mono (by omega)) (by rfl) fs.m_shape_of fs.F_shape_of.kp fs.b_shape_of tk (pxa_cons (px_var 0) (pxa_cons (px_var 1) (pxa_nil)))) sc.nd) (pzs_one (pz_ret (px_if (pxt_cmp op_isN sB_isN (px_var 2) (px_non) (nomark _)) (px_int) (px_ixA (hu65 hr) (px_call (ok_tally fs) (hr.mono (by omega)) (by rfl) fs.m_tally fs.F_tally.kp fs.b_tally tk (pxa_cons (px_var 2) (pxa_nil))) (px_int)))))) (fun _ _ _ => rfl)
def tab_count_pairings : List (List PyData × TV) := [
  ([.tuple [.int 5, .tuple [.tuple [.int 0, .int 2], .tuple [.int 2, .int 4]]], .tuple [.int 1, .int 3]], .d (.int 3)),
  ([.tuple [.int 6, .tuple [.tuple [.int 0, .int 2], .tuple [.int 2, .int 5], .tuple [.int 3, .int 5]]], .tuple [.int 1, .int 4]], .d (.int 5)),
  ([.tuple [.int 6, .tuple [.tuple [.int 0, .int 2], .tuple [.int 2, .int 4], .tuple [.int 2, .int 5]]], .tuple [.int 1, .int 4]], .d (.int 3)),
  ([.tuple [.int 7, .tuple [.tuple [.int 0, .int 2], .tuple [.int 2, .int 6], .tuple [.int 3, .int 6], .tuple [.int 4, .int 6]]], .tuple [.int 1, .int 4]], .d (.int 5)),
  ([.tuple [.int 7, .tuple [.tuple [.int 0, .int 2], .tuple [.int 2, .int 6], .tuple [.int 3, .int 5], .tuple [.int 3, .int 6]]], .tuple [.int 1, .int 4]], .d (.int 8)),
  ([.tuple [.int 7, .tuple [.tuple [.int 0, .int 2], .tuple [.int 2, .int 4], .tuple [.int 2, .int 6], .tuple [.int 4, .int 6]]], .tuple [.int 1, .int 4]], .d (.int 3)),
  ([.tuple [.int 7, .tuple [.tuple [.int 0, .int 2], .tuple [.int 2, .int 5], .tuple [.int 2, .int 6], .tuple [.int 3, .int 5]]], .tuple [.int 1, .int 4]], .d (.int 7)),
  ([.tuple [.int 7, .tuple [.tuple [.int 0, .int 2], .tuple [.int 2, .int 4], .tuple [.int 2, .int 5], .tuple [.int 2, .int 6]]], .tuple [.int 1, .int 4]], .d (.int 4)),
  ([.tuple [.int 6, .tuple [.tuple [.int 0, .int 3], .tuple [.int 1, .int 3], .tuple [.int 3, .int 5]]], .tuple [.int 2, .int 4]], .d (.int 4)),
  ([.tuple [.int 7, .tuple [.tuple [.int 0, .int 3], .tuple [.int 1, .int 3], .tuple [.int 3, .int 6], .tuple [.int 4, .int 6]]], .tuple [.int 2, .int 5]], .d (.int 7)),
  ([.tuple [.int 7, .tuple [.tuple [.int 0, .int 3], .tuple [.int 1, .int 3], .tuple [.int 3, .int 5], .tuple [.int 3, .int 6]]], .tuple [.int 2, .int 5]], .d (.int 4)),
  ([.tuple [.int 8, .tuple [.tuple [.int 0, .int 3], .tuple [.int 1, .int 3], .tuple [.int 3, .int 7], .tuple [.int 4, .int 7], .tuple [.int 5, .int 7]]], .tuple [.int 2, .int 5]], .d (.int 7)),
  ([.tuple [.int 8, .tuple [.tuple [.int 0, .int 3], .tuple [.int 1, .int 3], .tuple [.int 3, .int 7], .tuple [.int 4, .int 6], .tuple [.int 4, .int 7]]], .tuple [.int 2, .int 5]], .d (.int 11)),
  ([.tuple [.int 8, .tuple [.tuple [.int 0, .int 3], .tuple [.int 1, .int 3], .tuple [.int 3, .int 5], .tuple [.int 3, .int 7], .tuple [.int 5, .int 7]]], .tuple [.int 2, .int 5]], .d (.int 4)),
  ([.tuple [.int 8, .tuple [.tuple [.int 0, .int 3], .tuple [.int 1, .int 3], .tuple [.int 3, .int 6], .tuple [.int 3, .int 7], .tuple [.int 4, .int 6]]], .tuple [.int 2, .int 5]], .d (.int 9)),
  ([.tuple [.int 8, .tuple [.tuple [.int 0, .int 3], .tuple [.int 1, .int 3], .tuple [.int 3, .int 5], .tuple [.int 3, .int 6], .tuple [.int 3, .int 7]]], .tuple [.int 2, .int 5]], .d (.int 5)),
  ([.tuple [.int 6, .tuple [.tuple [.int 0, .int 2], .tuple [.int 0, .int 3], .tuple [.int 3, .int 5]]], .tuple [.int 2, .int 4]], .d (.int 3)),
  ([.tuple [.int 7, .tuple [.tuple [.int 0, .int 2], .tuple [.int 0, .int 3], .tuple [.int 3, .int 6], .tuple [.int 4, .int 6]]], .tuple [.int 2, .int 5]], .d (.int 5)),
  ([.tuple [.int 7, .tuple [.tuple [.int 0, .int 2], .tuple [.int 0, .int 3], .tuple [.int 3, .int 5], .tuple [.int 3, .int 6]]], .tuple [.int 2, .int 5]], .d (.int 3)),
  ([.tuple [.int 8, .tuple [.tuple [.int 0, .int 2], .tuple [.int 0, .int 3], .tuple [.int 3, .int 7], .tuple [.int 4, .int 7], .tuple [.int 5, .int 7]]], .tuple [.int 2, .int 5]], .d (.int 5)),
  ([.tuple [.int 8, .tuple [.tuple [.int 0, .int 2], .tuple [.int 0, .int 3], .tuple [.int 3, .int 7], .tuple [.int 4, .int 6], .tuple [.int 4, .int 7]]], .tuple [.int 2, .int 5]], .d (.int 8)),
  ([.tuple [.int 8, .tuple [.tuple [.int 0, .int 2], .tuple [.int 0, .int 3], .tuple [.int 3, .int 5], .tuple [.int 3, .int 7], .tuple [.int 5, .int 7]]], .tuple [.int 2, .int 5]], .d (.int 3)),
  ([.tuple [.int 8, .tuple [.tuple [.int 0, .int 2], .tuple [.int 0, .int 3], .tuple [.int 3, .int 6], .tuple [.int 3, .int 7], .tuple [.int 4, .int 6]]], .tuple [.int 2, .int 5]], .d (.int 7)),
  ([.tuple [.int 8, .tuple [.tuple [.int 0, .int 2], .tuple [.int 0, .int 3], .tuple [.int 3, .int 5], .tuple [.int 3, .int 6], .tuple [.int 3, .int 7]]], .tuple [.int 2, .int 5]], .d (.int 4)),
  ([.tuple [.int 7, .tuple [.tuple [.int 0, .int 4], .tuple [.int 1, .int 4], .tuple [.int 2, .int 4], .tuple [.int 4, .int 6]]], .tuple [.int 2, .int 5]], .d (.int 4)),
  ([.tuple [.int 8, .tuple [.tuple [.int 0, .int 4], .tuple [.int 1, .int 4], .tuple [.int 2, .int 4], .tuple [.int 4, .int 7], .tuple [.int 5, .int 7]]], .tuple [.int 2, .int 6]], .d (.int 7)),
  ([.tuple [.int 8, .tuple [.tuple [.int 0, .int 4], .tuple [.int 1, .int 4], .tuple [.int 2, .int 4], .tuple [.int 4, .int 6], .tuple [.int 4, .int 7]]], .tuple [.int 2, .int 6]], .d (.int 4)),
  ([.tuple [.int 9, .tuple [.tuple [.int 0, .int 4], .tuple [.int 1, .int 4], .tuple [.int 2, .int 4], .tuple [.int 4, .int 8], .tuple [.int 5, .int 8], .tuple [.int 6, .int 8]]], .tuple [.int 2, .int 6]], .d (.int 7)),
  ([.tuple [.int 9, .tuple [.tuple [.int 0, .int 4], .tuple [.int 1, .int 4], .tuple [.int 2, .int 4], .tuple [.int 4, .int 8], .tuple [.int 5, .int 7], .tuple [.int 5, .int 8]]], .tuple [.int 2, .int 6]], .d (.int 11)),
  ([.tuple [.int 9, .tuple [.tuple [.int 0, .int 4], .tuple [.int 1, .int 4], .tuple [.int 2, .int 4], .tuple [.int 4, .int 6], .tuple [.int 4, .int 8], .tuple [.int 6, .int 8]]], .tuple [.int 2, .int 6]], .d (.int 4)),
  ([.tuple [.int 9, .tuple [.tuple [.int 0, .int 4], .tuple [.int 1, .int 4], .tuple [.int 2, .int 4], .tuple [.int 4, .int 7], .tuple [.int 4, .int 8], .tuple [.int 5, .int 7]]], .tuple [.int 2, .int 6]], .d (.int 9)),
  ([.tuple [.int 9, .tuple [.tuple [.int 0, .int 4], .tuple [.int 1, .int 4], .tuple [.int 2, .int 4], .tuple [.int 4, .int 6], .tuple [.int 4, .int 7], .tuple [.int 4, .int 8]]], .tuple [.int 2, .int 6]], .d (.int 5)),
  ([.tuple [.int 7, .tuple [.tuple [.int 0, .int 4], .tuple [.int 1, .int 3], .tuple [.int 1, .int 4], .tuple [.int 4, .int 6]]], .tuple [.int 2, .int 5]], .d (.int 7)),
  ([.tuple [.int 8, .tuple [.tuple [.int 0, .int 4], .tuple [.int 1, .int 3], .tuple [.int 1, .int 4], .tuple [.int 4, .int 7], .tuple [.int 5, .int 7]]], .tuple [.int 2, .int 6]], .d (.int 12)),
  ([.tuple [.int 8, .tuple [.tuple [.int 0, .int 4], .tuple [.int 1, .int 3], .tuple [.int 1, .int 4], .tuple [.int 4, .int 6], .tuple [.int 4, .int 7]]], .tuple [.int 2, .int 6]], .d (.int 7)),
  ([.tuple [.int 9, .tuple [.tuple [.int 0, .int 4], .tuple [.int 1, .int 3], .tuple [.int 1, .int 4], .tuple [.int 4, .int 8], .tuple [.int 5, .int 8], .tuple [.int 6, .int 8]]], .tuple [.int 2, .int 6]], .d (.int 12)),
  ([.tuple [.int 9, .tuple [.tuple [.int 0, .int 4], .tuple [.int 1, .int 3], .tuple [.int 1, .int 4], .tuple [.int 4, .int 8], .tuple [.int 5, .int 7], .tuple [.int 5, .int 8]]], .tuple [.int 2, .int 6]], .d (.int 19)),
  ([.tuple [.int 9, .tuple [.tuple [.int 0, .int 4], .tuple [.int 1, .int 3], .tuple [.int 1, .int 4], .tuple [.int 4, .int 6], .tuple [.int 4, .int 8], .tuple [.int 6, .int 8]]], .tuple [.int 2, .int 6]], .d (.int 7)),
  ([.tuple [.int 9, .tuple [.tuple [.int 0, .int 4], .tuple [.int 1, .int 3], .tuple [.int 1, .int 4], .tuple [.int 4, .int 7], .tuple [.int 4, .int 8], .tuple [.int 5, .int 7]]], .tuple [.int 2, .int 6]], .d (.int 16)),
  ([.tuple [.int 9, .tuple [.tuple [.int 0, .int 4], .tuple [.int 1, .int 3], .tuple [.int 1, .int 4], .tuple [.int 4, .int 6], .tuple [.int 4, .int 7], .tuple [.int 4, .int 8]]], .tuple [.int 2, .int 6]], .d (.int 9)),
  ([.tuple [.int 7, .tuple [.tuple [.int 0, .int 2], .tuple [.int 0, .int 4], .tuple [.int 2, .int 4], .tuple [.int 4, .int 6]]], .tuple [.int 2, .int 5]], .d (.int 3)),
  ([.tuple [.int 8, .tuple [.tuple [.int 0, .int 2], .tuple [.int 0, .int 4], .tuple [.int 2, .int 4], .tuple [.int 4, .int 7], .tuple [.int 5, .int 7]]], .tuple [.int 2, .int 6]], .d (.int 5)),
  ([.tuple [.int 8, .tuple [.tuple [.int 0, .int 2], .tuple [.int 0, .int 4], .tuple [.int 2, .int 4], .tuple [.int 4, .int 6], .tuple [.int 4, .int 7]]], .tuple [.int 2, .int 6]], .d (.int 3)),
  ([.tuple [.int 9, .tuple [.tuple [.int 0, .int 2], .tuple [.int 0, .int 4], .tuple [.int 2, .int 4], .tuple [.int 4, .int 8], .tuple [.int 5, .int 8], .tuple [.int 6, .int 8]]], .tuple [.int 2, .int 6]], .d (.int 5)),
  ([.tuple [.int 9, .tuple [.tuple [.int 0, .int 2], .tuple [.int 0, .int 4], .tuple [.int 2, .int 4], .tuple [.int 4, .int 8], .tuple [.int 5, .int 7], .tuple [.int 5, .int 8]]], .tuple [.int 2, .int 6]], .d (.int 8)),
  ([.tuple [.int 9, .tuple [.tuple [.int 0, .int 2], .tuple [.int 0, .int 4], .tuple [.int 2, .int 4], .tuple [.int 4, .int 6], .tuple [.int 4, .int 8], .tuple [.int 6, .int 8]]], .tuple [.int 2, .int 6]], .d (.int 3)),
  ([.tuple [.int 9, .tuple [.tuple [.int 0, .int 2], .tuple [.int 0, .int 4], .tuple [.int 2, .int 4], .tuple [.int 4, .int 7], .tuple [.int 4, .int 8], .tuple [.int 5, .int 7]]], .tuple [.int 2, .int 6]], .d (.int 7)),
  ([.tuple [.int 9, .tuple [.tuple [.int 0, .int 2], .tuple [.int 0, .int 4], .tuple [.int 2, .int 4], .tuple [.int 4, .int 6], .tuple [.int 4, .int 7], .tuple [.int 4, .int 8]]], .tuple [.int 2, .int 6]], .d (.int 4)),
  ([.tuple [.int 7, .tuple [.tuple [.int 0, .int 3], .tuple [.int 0, .int 4], .tuple [.int 1, .int 3], .tuple [.int 4, .int 6]]], .tuple [.int 2, .int 5]], .d (.int 8)),
  ([.tuple [.int 8, .tuple [.tuple [.int 0, .int 3], .tuple [.int 0, .int 4], .tuple [.int 1, .int 3], .tuple [.int 4, .int 7], .tuple [.int 5, .int 7]]], .tuple [.int 2, .int 6]], .d (.int 13)),
  ([.tuple [.int 8, .tuple [.tuple [.int 0, .int 3], .tuple [.int 0, .int 4], .tuple [.int 1, .int 3], .tuple [.int 4, .int 6], .tuple [.int 4, .int 7]]], .tuple [.int 2, .int 6]], .d (.int 8)),
  ([.tuple [.int 9, .tuple [.tuple [.int 0, .int 3], .tuple [.int 0, .int 4], .tuple [.int 1, .int 3], .tuple [.int 4, .int 8], .tuple [.int 5, .int 8], .tuple [.int 6, .int 8]]], .tuple [.int 2, .int 6]], .d (.int 13)),
  ([.tuple [.int 9, .tuple [.tuple [.int 0, .int 3], .tuple [.int 0, .int 4], .tuple [.int 1, .int 3], .tuple [.int 4, .int 8], .tuple [.int 5, .int 7], .tuple [.int 5, .int 8]]], .tuple [.int 2, .int 6]], .d (.int 21)),
  ([.tuple [.int 9, .tuple [.tuple [.int 0, .int 3], .tuple [.int 0, .int 4], .tuple [.int 1, .int 3], .tuple [.int 4, .int 6], .tuple [.int 4, .int 8], .tuple [.int 6, .int 8]]], .tuple [.int 2, .int 6]], .d (.int 8)),
  ([.tuple [.int 9, .tuple [.tuple [.int 0, .int 3], .tuple [.int 0, .int 4], .tuple [.int 1, .int 3], .tuple [.int 4, .int 7], .tuple [.int 4, .int 8], .tuple [.int 5, .int 7]]], .tuple [.int 2, .int 6]], .d (.int 19)),
  ([.tuple [.int 9, .tuple [.tuple [.int 0, .int 3], .tuple [.int 0, .int 4], .tuple [.int 1, .int 3], .tuple [.int 4, .int 6], .tuple [.int 4, .int 7], .tuple [.int 4, .int 8]]], .tuple [.int 2, .int 6]], .d (.int 11)),
  ([.tuple [.int 7, .tuple [.tuple [.int 0, .int 2], .tuple [.int 0, .int 3], .tuple [.int 0, .int 4], .tuple [.int 4, .int 6]]], .tuple [.int 2, .int 5]], .d (.int 5)),
  ([.tuple [.int 8, .tuple [.tuple [.int 0, .int 2], .tuple [.int 0, .int 3], .tuple [.int 0, .int 4], .tuple [.int 4, .int 7], .tuple [.int 5, .int 7]]], .tuple [.int 2, .int 6]], .d (.int 8)),
  ([.tuple [.int 8, .tuple [.tuple [.int 0, .int 2], .tuple [.int 0, .int 3], .tuple [.int 0, .int 4], .tuple [.int 4, .int 6], .tuple [.int 4, .int 7]]], .tuple [.int 2, .int 6]], .d (.int 5)),
  ([.tuple [.int 9, .tuple [.tuple [.int 0, .int 2], .tuple [.int 0, .int 3], .tuple [.int 0, .int 4], .tuple [.int 4, .int 8], .tuple [.int 5, .int 8], .tuple [.int 6, .int 8]]], .tuple [.int 2, .int 6]], .d (.int 8)),
  ([.tuple [.int 9, .tuple [.tuple [.int 0, .int 2], .tuple [.int 0, .int 3], .tuple [.int 0, .int 4], .tuple [.int 4, .int 8], .tuple [.int 5, .int 7], .tuple [.int 5, .int 8]]], .tuple [.int 2, .int 6]], .d (.int 13)),
  ([.tuple [.int 9, .tuple [.tuple [.int 0, .int 2], .tuple [.int 0, .int 3], .tuple [.int 0, .int 4], .tuple [.int 4, .int 6], .tuple [.int 4, .int 8], .tuple [.int 6, .int 8]]], .tuple [.int 2, .int 6]], .d (.int 5)),
  ([.tuple [.int 9, .tuple [.tuple [.int 0, .int 2], .tuple [.int 0, .int 3], .tuple [.int 0, .int 4], .tuple [.int 4, .int 7], .tuple [.int 4, .int 8], .tuple [.int 5, .int 7]]], .tuple [.int 2, .int 6]], .d (.int 12)),
  ([.tuple [.int 9, .tuple [.tuple [.int 0, .int 2], .tuple [.int 0, .int 3], .tuple [.int 0, .int 4], .tuple [.int 4, .int 6], .tuple [.int 4, .int 7], .tuple [.int 4, .int 8]]], .tuple [.int 2, .int 6]], .d (.int 7))]
def T_count_pairings : List PyData → FR := lookT tab_count_pairings
theorem okt_count_pairings (fs : FS K mg) : FnOk P w K mg base (L2.CX P w) 8 fs.f_count_pairings fs.fd_count_pairings ["cutting", "line"] (spF K [] mg 2 T_count_pairings) := fn_tab tab_count_pairings (ok_count_pairings fs) (by decide +kernel)
theorem sc_mountain_over : FnScope ["tree", "left", "right"] ["tree"] (defScope (topS 55)) := ⟨rfl, rfl, rfl, by decide +kernel, rfl, by decide +kernel, by decide +kernel⟩
def m_mountain_over (rec_mountain_over : List PyData → FR) : SM := seqM (iteM (notM (truM (rdV 0))) (retM (ret (.d (.str "")))) (skipM)) (seqM (asgM (.tp [1, 2]) (rdV 0)) (retM (op2 addS (op2 addS (op2 addS (ret (.d (.str "u"))) (callM rec_mountain_over [rdV 1])) (ret (.d (.str "d")))) (callM rec_mountain_over [rdV 2]))))
def Fn_mountain_over : Nat → List PyData → FR
  | 0 => fun _ => .no
  | n + 1 => runF (m_mountain_over (Fn_mountain_over n)) 3
def F_mountain_over : List PyData → FR := Fn_mountain_over 60
theorem okg_mountain_over (fs : FS K mg) : ∀ n : Nat, FnOk P w K mg base (L2.CX P w) (1 + n) fs.f_mountain_over fs.fd_mountain_over ["tree"] (spF K [] mg 1 (Fn_mountain_over n))
  | 0 => fn_pure (k := 0) fs.F_mountain_over sc_mountain_over (z := fun _ => .no) (fun cdv A outer s H E hr tk => pzs_never) (fun _ _ h => absurd rfl h)
  | n + 1 => by
    have h := okg_mountain_over fs n
    have okn_mountain_over := h
    exact (have sc := sc_mountain_over; fn_pure (k := 1 + n) fs.F_mountain_over sc (z := m_mountain_over (Fn_mountain_over n)) (fun cdv A outer s H E hr tk => pzs_cons (pz_if (pxt_not (pxt_tru (px_var 0))) (pzs_one (pz_ret (px_str))) (pzs_nil)) (pzs_cons (pz_asg (px_var 0) (pgx_tp rfl sc.nd (.cons rfl (by first | exact Or.inl rfl | exact Or.inr rfl) (by first | exact .inl rfl | exact .inr rfl) (.cons rfl (by first | exact Or.inl rfl | exact Or.inr rfl) (by first | exact .inl rfl | exact .inr rfl) (.nil))))) (pzs_one (pz_ret (px_bin op_addS s2_addS (px_bin op_addS s2_addS (px_bin op_addS s2_addS (px_str) (px_call (okn_mountain_over) (hr.mono (by omega)) (by rfl) fs.m_mountain_over fs.F_mountain_over.kp fs.b_mountain_over tk (pxa_cons (px_var 1) (pxa_nil)))) (px_str)) (px_call (okn_mountain_over) (hr.mono (by omega)) (by rfl) fs.m_mountain_over fs.F_mountain_over.kp fs.b_mountain_over tk (pxa_cons (px_var 2) (pxa_nil)))))))) (fun _ _ _ => rfl))
theorem ok_mountain_over (fs : FS K mg) : FnOk P w K mg base (L2.CX P w) 61 fs.f_mountain_over fs.fd_mountain_over ["tree"] (spF K [] mg 1 F_mountain_over) := (okg_mountain_over fs 60)
theorem sc_mountain : FnScope ["tree"] ["tree"] (defScope (topS 56)) := ⟨rfl, rfl, rfl, by decide +kernel, rfl, by decide +kernel, by decide +kernel⟩
def m_mountain  : SM := seqM (exprM (callM F_need_tree [rdV 0])) (retM (callM F_mountain_over [rdV 0]))
def F_mountain : List PyData → FR := runF m_mountain 1
theorem ok_mountain (fs : FS K mg) : FnOk P w K mg base (L2.CX P w) 62 fs.f_mountain fs.fd_mountain ["tree"] (spF K [] mg 1 F_mountain) :=
  have sc := sc_mountain
  fn_pure fs.F_mountain sc (z := m_mountain) (fun cdv A outer s H E hr tk => pzs_cons (pz_expr (px_call (ok_need_tree fs) (hr.mono (by omega)) (by rfl) fs.m_need_tree fs.F_need_tree.kp fs.b_need_tree tk (pxa_cons (px_var 0) (pxa_nil)))) (pzs_one (pz_ret (px_call (ok_mountain_over fs) (hr.mono (by omega)) (by rfl) fs.m_mountain_over fs.F_mountain_over.kp fs.b_mountain_over tk (pxa_cons (px_var 0) (pxa_nil)))))) (fun _ _ _ => rfl)
def tab_mountain : List (List PyData × TV) := [
  ([.tuple [.tuple [], .tuple []]], .d (.str "ud")),
  ([.tuple [.tuple [], .tuple [.tuple [], .tuple []]]], .d (.str "udud")),
  ([.tuple [.tuple [.tuple [], .tuple []], .tuple []]], .d (.str "uudd")),
  ([.tuple [.tuple [], .tuple [.tuple [], .tuple [.tuple [], .tuple []]]]], .d (.str "ududud")),
  ([.tuple [.tuple [], .tuple [.tuple [.tuple [], .tuple []], .tuple []]]], .d (.str "uduudd")),
  ([.tuple [.tuple [.tuple [], .tuple []], .tuple [.tuple [], .tuple []]]], .d (.str "uuddud")),
  ([.tuple [.tuple [.tuple [], .tuple [.tuple [], .tuple []]], .tuple []]], .d (.str "uududd")),
  ([.tuple [.tuple [.tuple [.tuple [], .tuple []], .tuple []], .tuple []]], .d (.str "uuuddd")),
  ([.tuple [.tuple [.tuple [], .tuple []], .tuple [.tuple [], .tuple [.tuple [], .tuple []]]]], .d (.str "uuddudud")),
  ([.tuple [.tuple [.tuple [], .tuple []], .tuple [.tuple [.tuple [], .tuple []], .tuple []]]], .d (.str "uudduudd")),
  ([.tuple [.tuple [.tuple [], .tuple []], .tuple [.tuple [], .tuple [.tuple [], .tuple [.tuple [], .tuple []]]]]], .d (.str "uuddududud")),
  ([.tuple [.tuple [.tuple [], .tuple []], .tuple [.tuple [], .tuple [.tuple [.tuple [], .tuple []], .tuple []]]]], .d (.str "uudduduudd")),
  ([.tuple [.tuple [.tuple [], .tuple []], .tuple [.tuple [.tuple [], .tuple []], .tuple [.tuple [], .tuple []]]]], .d (.str "uudduuddud")),
  ([.tuple [.tuple [.tuple [], .tuple []], .tuple [.tuple [.tuple [], .tuple [.tuple [], .tuple []]], .tuple []]]], .d (.str "uudduududd")),
  ([.tuple [.tuple [.tuple [], .tuple []], .tuple [.tuple [.tuple [.tuple [], .tuple []], .tuple []], .tuple []]]], .d (.str "uudduuuddd")),
  ([.tuple [.tuple [.tuple [], .tuple [.tuple [], .tuple []]], .tuple [.tuple [], .tuple []]]], .d (.str "uududdud")),
  ([.tuple [.tuple [.tuple [], .tuple [.tuple [], .tuple []]], .tuple [.tuple [], .tuple [.tuple [], .tuple []]]]], .d (.str "uududdudud")),
  ([.tuple [.tuple [.tuple [], .tuple [.tuple [], .tuple []]], .tuple [.tuple [.tuple [], .tuple []], .tuple []]]], .d (.str "uududduudd")),
  ([.tuple [.tuple [.tuple [], .tuple [.tuple [], .tuple []]], .tuple [.tuple [], .tuple [.tuple [], .tuple [.tuple [], .tuple []]]]]], .d (.str "uududdududud")),
  ([.tuple [.tuple [.tuple [], .tuple [.tuple [], .tuple []]], .tuple [.tuple [], .tuple [.tuple [.tuple [], .tuple []], .tuple []]]]], .d (.str "uududduduudd")),
  ([.tuple [.tuple [.tuple [], .tuple [.tuple [], .tuple []]], .tuple [.tuple [.tuple [], .tuple []], .tuple [.tuple [], .tuple []]]]], .d (.str "uududduuddud")),
  ([.tuple [.tuple [.tuple [], .tuple [.tuple [], .tuple []]], .tuple [.tuple [.tuple [], .tuple [.tuple [], .tuple []]], .tuple []]]], .d (.str "uududduududd")),
  ([.tuple [.tuple [.tuple [], .tuple [.tuple [], .tuple []]], .tuple [.tuple [.tuple [.tuple [], .tuple []], .tuple []], .tuple []]]], .d (.str "uududduuuddd")),
  ([.tuple [.tuple [.tuple [.tuple [], .tuple []], .tuple []], .tuple [.tuple [], .tuple []]]], .d (.str "uuudddud")),
  ([.tuple [.tuple [.tuple [.tuple [], .tuple []], .tuple []], .tuple [.tuple [], .tuple [.tuple [], .tuple []]]]], .d (.str "uuudddudud")),
  ([.tuple [.tuple [.tuple [.tuple [], .tuple []], .tuple []], .tuple [.tuple [.tuple [], .tuple []], .tuple []]]], .d (.str "uuuddduudd")),
  ([.tuple [.tuple [.tuple [.tuple [], .tuple []], .tuple []], .tuple [.tuple [], .tuple [.tuple [], .tuple [.tuple [], .tuple []]]]]], .d (.str "uuudddududud")),
  ([.tuple [.tuple [.tuple [.tuple [], .tuple []], .tuple []], .tuple [.tuple [], .tuple [.tuple [.tuple [], .tuple []], .tuple []]]]], .d (.str "uuuddduduudd")),
  ([.tuple [.tuple [.tuple [.tuple [], .tuple []], .tuple []], .tuple [.tuple [.tuple [], .tuple []], .tuple [.tuple [], .tuple []]]]], .d (.str "uuuddduuddud")),
  ([.tuple [.tuple [.tuple [.tuple [], .tuple []], .tuple []], .tuple [.tuple [.tuple [], .tuple [.tuple [], .tuple []]], .tuple []]]], .d (.str "uuuddduududd")),
  ([.tuple [.tuple [.tuple [.tuple [], .tuple []], .tuple []], .tuple [.tuple [.tuple [.tuple [], .tuple []], .tuple []], .tuple []]]], .d (.str "uuuddduuuddd")),
  ([.tuple [.tuple [.tuple [], .tuple [.tuple [], .tuple [.tuple [], .tuple []]]], .tuple [.tuple [], .tuple []]]], .d (.str "uudududdud")),
  ([.tuple [.tuple [.tuple [], .tuple [.tuple [], .tuple [.tuple [], .tuple []]]], .tuple [.tuple [], .tuple [.tuple [], .tuple []]]]], .d (.str "uudududdudud")),
  ([.tuple [.tuple [.tuple [], .tuple [.tuple [], .tuple [.tuple [], .tuple []]]], .tuple [.tuple [.tuple [], .tuple []], .tuple []]]], .d (.str "uudududduudd")),
  ([.tuple [.tuple [.tuple [], .tuple [.tuple [], .tuple [.tuple [], .tuple []]]], .tuple [.tuple [], .tuple [.tuple [], .tuple [.tuple [], .tuple []]]]]], .d (.str "uudududdududud")),
  ([.tuple [.tuple [.tuple [], .tuple [.tuple [], .tuple [.tuple [], .tuple []]]], .tuple [.tuple [], .tuple [.tuple [.tuple [], .tuple []], .tuple []]]]], .d (.str "uudududduduudd")),
  ([.tuple [.tuple [.tuple [], .tuple [.tuple [], .tuple [.tuple [], .tuple []]]], .tuple [.tuple [.tuple [], .tuple []], .tuple [.tuple [], .tuple []]]]], .d (.str "uudududduuddud")),
  ([.tuple [.tuple [.tuple [], .tuple [.tuple [], .tuple [.tuple [], .tuple []]]], .tuple [.tuple [.tuple [], .tuple [.tuple [], .tuple []]], .tuple []]]], .d (.str "uudududduududd")),
  ([.tuple [.tuple [.tuple [], .tuple [.tuple [], .tuple [.tuple [], .tuple []]]], .tuple [.tuple [.tuple [.tuple [], .tuple []], .tuple []], .tuple []]]], .d (.str "uudududduuuddd")),
  ([.tuple [.tuple [.tuple [], .tuple [.tuple [.tuple [], .tuple []], .tuple []]], .tuple [.tuple [], .tuple []]]], .d (.str "uuduudddud")),
  ([.tuple [.tuple [.tuple [], .tuple [.tuple [.tuple [], .tuple []], .tuple []]], .tuple [.tuple [], .tuple [.tuple [], .tuple []]]]], .d (.str "uuduudddudud")),
  ([.tuple [.tuple [.tuple [], .tuple [.tuple [.tuple [], .tuple []], .tuple []]], .tuple [.tuple [.tuple [], .tuple []], .tuple []]]], .d (.str "uuduuddduudd")),
  ([.tuple [.tuple [.tuple [], .tuple [.tuple [.tuple [], .tuple []], .tuple []]], .tuple [.tuple [], .tuple [.tuple [], .tuple [.tuple [], .tuple []]]]]], .d (.str "uuduudddududud")),
  ([.tuple [.tuple [.tuple [], .tuple [.tuple [.tuple [], .tuple []], .tuple []]], .tuple [.tuple [], .tuple [.tuple [.tuple [], .tuple []], .tuple []]]]], .d (.str "uuduuddduduudd")),
  ([.tuple [.tuple [.tuple [], .tuple [.tuple [.tuple [], .tuple []], .tuple []]], .tuple [.tuple [.tuple [], .tuple []], .tuple [.tuple [], .tuple []]]]], .d (.str "uuduuddduuddud")),
  ([.tuple [.tuple [.tuple [], .tuple [.tuple [.tuple [], .tuple []], .tuple []]], .tuple [.tuple [.tuple [], .tuple [.tuple [], .tuple []]], .tuple []]]], .d (.str "uuduuddduududd")),
  ([.tuple [.tuple [.tuple [], .tuple [.tuple [.tuple [], .tuple []], .tuple []]], .tuple [.tuple [.tuple [.tuple [], .tuple []], .tuple []], .tuple []]]], .d (.str "uuduuddduuuddd")),
  ([.tuple [.tuple [.tuple [.tuple [], .tuple []], .tuple [.tuple [], .tuple []]], .tuple [.tuple [], .tuple []]]], .d (.str "uuudduddud")),
  ([.tuple [.tuple [.tuple [.tuple [], .tuple []], .tuple [.tuple [], .tuple []]], .tuple [.tuple [], .tuple [.tuple [], .tuple []]]]], .d (.str "uuudduddudud")),
  ([.tuple [.tuple [.tuple [.tuple [], .tuple []], .tuple [.tuple [], .tuple []]], .tuple [.tuple [.tuple [], .tuple []], .tuple []]]], .d (.str "uuuddudduudd")),
  ([.tuple [.tuple [.tuple [.tuple [], .tuple []], .tuple [.tuple [], .tuple []]], .tuple [.tuple [], .tuple [.tuple [], .tuple [.tuple [], .tuple []]]]]], .d (.str "uuudduddududud")),
  ([.tuple [.tuple [.tuple [.tuple [], .tuple []], .tuple [.tuple [], .tuple []]], .tuple [.tuple [], .tuple [.tuple [.tuple [], .tuple []], .tuple []]]]], .d (.str "uuuddudduduudd")),
  ([.tuple [.tuple [.tuple [.tuple [], .tuple []], .tuple [.tuple [], .tuple []]], .tuple [.tuple [.tuple [], .tuple []], .tuple [.tuple [], .tuple []]]]], .d (.str "uuuddudduuddud")),
  ([.tuple [.tuple [.tuple [.tuple [], .tuple []], .tuple [.tuple [], .tuple []]], .tuple [.tuple [.tuple [], .tuple [.tuple [], .tuple []]], .tuple []]]], .d (.str "uuuddudduududd")),
  ([.tuple [.tuple [.tuple [.tuple [], .tuple []], .tuple [.tuple [], .tuple []]], .tuple [.tuple [.tuple [.tuple [], .tuple []], .tuple []], .tuple []]]], .d (.str "uuuddudduuuddd")),
  ([.tuple [.tuple [.tuple [.tuple [], .tuple [.tuple [], .tuple []]], .tuple []], .tuple [.tuple [], .tuple []]]], .d (.str "uuududddud")),
  ([.tuple [.tuple [.tuple [.tuple [], .tuple [.tuple [], .tuple []]], .tuple []], .tuple [.tuple [], .tuple [.tuple [], .tuple []]]]], .d (.str "uuududddudud")),
  ([.tuple [.tuple [.tuple [.tuple [], .tuple [.tuple [], .tuple []]], .tuple []], .tuple [.tuple [.tuple [], .tuple []], .tuple []]]], .d (.str "uuududdduudd")),
  ([.tuple [.tuple [.tuple [.tuple [], .tuple [.tuple [], .tuple []]], .tuple []], .tuple [.tuple [], .tuple [.tuple [], .tuple [.tuple [], .tuple []]]]]], .d (.str "uuududddududud")),
  ([.tuple [.tuple [.tuple [.tuple [], .tuple [.tuple [], .tuple []]], .tuple []], .tuple [.tuple [], .tuple [.tuple [.tuple [], .tuple []], .tuple []]]]], .d (.str "uuududdduduudd")),
  ([.tuple [.tuple [.tuple [.tuple [], .tuple [.tuple [], .tuple []]], .tuple []], .tuple [.tuple [.tuple [], .tuple []], .tuple [.tuple [], .tuple []]]]], .d (.str "uuududdduuddud")),
  ([.tuple [.tuple [.tuple [.tuple [], .tuple [.tuple [], .tuple []]], .tuple []], .tuple [.tuple [.tuple [], .tuple [.tuple [], .tuple []]], .tuple []]]], .d (.str "uuududdduududd")),
  ([.tuple [.tuple [.tuple [.tuple [], .tuple [.tuple [], .tuple []]], .tuple []], .tuple [.tuple [.tuple [.tuple [], .tuple []], .tuple []], .tuple []]]], .d (.str "uuududdduuuddd")),
  ([.tuple [.tuple [.tuple [.tuple [.tuple [], .tuple []], .tuple []], .tuple []], .tuple [.tuple [], .tuple []]]], .d (.str "uuuuddddud")),
  ([.tuple [.tuple [.tuple [.tuple [.tuple [], .tuple []], .tuple []], .tuple []], .tuple [.tuple [], .tuple [.tuple [], .tuple []]]]], .d (.str "uuuuddddudud")),
  ([.tuple [.tuple [.tuple [.tuple [.tuple [], .tuple []], .tuple []], .tuple []], .tuple [.tuple [.tuple [], .tuple []], .tuple []]]], .d (.str "uuuudddduudd")),
  ([.tuple [.tuple [.tuple [.tuple [.tuple [], .tuple []], .tuple []], .tuple []], .tuple [.tuple [], .tuple [.tuple [], .tuple [.tuple [], .tuple []]]]]], .d (.str "uuuuddddududud")),
  ([.tuple [.tuple [.tuple [.tuple [.tuple [], .tuple []], .tuple []], .tuple []], .tuple [.tuple [], .tuple [.tuple [.tuple [], .tuple []], .tuple []]]]], .d (.str "uuuudddduduudd")),
  ([.tuple [.tuple [.tuple [.tuple [.tuple [], .tuple []], .tuple []], .tuple []], .tuple [.tuple [.tuple [], .tuple []], .tuple [.tuple [], .tuple []]]]], .d (.str "uuuudddduuddud")),
  ([.tuple [.tuple [.tuple [.tuple [.tuple [], .tuple []], .tuple []], .tuple []], .tuple [.tuple [.tuple [], .tuple [.tuple [], .tuple []]], .tuple []]]], .d (.str "uuuudddduududd")),
  ([.tuple [.tuple [.tuple [.tuple [.tuple [], .tuple []], .tuple []], .tuple []], .tuple [.tuple [.tuple [.tuple [], .tuple []], .tuple []], .tuple []]]], .d (.str "uuuudddduuuddd"))]
def T_mountain : List PyData → FR := lookT tab_mountain
theorem okt_mountain (fs : FS K mg) : FnOk P w K mg base (L2.CX P w) 62 fs.f_mountain fs.fd_mountain ["tree"] (spF K [] mg 1 T_mountain) := fn_tab tab_mountain (ok_mountain fs) (by decide +kernel)
theorem sc_parting_by : FnScope ["keys", "blocks", "point", "key"] ["keys"] (defScope (topS 58)) := ⟨rfl, rfl, rfl, by decide +kernel, rfl, by decide +kernel, by decide +kernel⟩
def m_parting_by  : SM := seqM (newDM 1) (seqM (forM (enumI (rdV 0)) (.tp [2, 3]) (setKyM 1 (rdV 3) (op2 addS (getDM 1 (rdV 3) (tupM [])) (tupM [rdV 2])))) (retM (op1 tupF (sortVM 1))))
def F_parting_by : List PyData → FR := runF m_parting_by 4
theorem ok_parting_by (fs : FS K mg) : FnOk P w K mg base (L2.CX P w) 1 fs.f_parting_by fs.fd_parting_by ["keys"] (spF K [] mg 1 F_parting_by) :=
  have sc := sc_parting_by
  fn_pure fs.F_parting_by sc (z := m_parting_by) (fun cdv A outer s H E hr tk => pzs_cons (pz_newD 1 sc.nd) (pzs_cons (pz_for (passes_of rfl) rfl (pix_enum (by rfl) fs.z_enumerate (px_var 0)) (pgx_tp rfl sc.nd (.cons rfl (by first | exact Or.inl rfl | exact Or.inr rfl) (by first | exact .inl rfl | exact .inr rfl) (.cons rfl (by first | exact Or.inl rfl | exact Or.inr rfl) (by first | exact .inl rfl | exact .inr rfl) (.nil)))) (pzs_one (pz_setKy 1 (hu65 hr) (px_bin op_addS s2_addS (px_getD 1 (hu65 hr) (px_var 3) (px_tup (hz := (by decide : (0 : Nat) ≤ sizeLine)) (pxa_nil))) (px_tup (hz := (by decide : (1 : Nat) ≤ sizeLine)) (pxa_cons (px_var 2) (pxa_nil)))) (px_var 3)))) (pzs_one (pz_ret (px_t1 call_tuple_of s1_tup (by rfl) fs.z_tuple bb_tuple (px_sortV 1 (hu65 hr) rfl (by rfl) fs.z_sorted bb_sorted)))))) (fun _ _ _ => rfl)
theorem sc_parting_by_corners : FnScope ["cutting", "place", "keys", "piece", "corner"] ["cutting", "place"] (defScope (topS 59)) := ⟨rfl, rfl, rfl, by decide +kernel, rfl, by decide +kernel, by decide +kernel⟩
def m_parting_by_corners  : SM := seqM (setM 2 (dcKM (anyI (callM F_parts [op2 ixA (rdV 0) (ret (.d (.int 0))), op2 ixA (rdV 0) (ret (.d (.int 1)))])) (.nm 3) (ret true) (op2 ixA (rdV 3) (ret (.d (.int 1)))) (op2 ixA (rdV 3) (rdV 1)) [3])) (retM (callM F_parting_by [lcM (rng2I (ret (.d (.int 1))) (op2 subF (op2 ixA (rdV 0) (ret (.d (.int 0)))) (ret (.d (.int 1))))) (.nm 4) (ret true) (op2 ixA (rdV 2) (rdV 4)) [4]]))
def F_parting_by_corners : List PyData → FR := runF m_parting_by_corners 5
theorem ok_parting_by_corners (fs : FS K mg) : FnOk P w K mg base (L2.CX P w) 3 fs.f_parting_by_corners fs.fd_parting_by_corners ["cutting", "place"] (spF K [] mg 2 F_parting_by_corners) :=
  have sc := sc_parting_by_corners
  fn_pure fs.F_parting_by_corners sc (z := m_parting_by_corners) (fun cdv A outer s H E hr tk => pzs_cons (pz_set 2 (px_dcK (own := [("piece", 3)]) rfl sc.nd (pix_any (px_call (ok_parts fs) (hr.mono (by omega)) (by rfl) fs.m_parts fs.F_parts.kp fs.b_parts tk (pxa_cons (px_ixA (hu65 hr) (px_var 0) (px_int)) (pxa_cons (px_ixA (hu65 hr) (px_var 0) (px_int)) (pxa_nil))))) (blkOk_by (by kernel_rfl)) (fun _ _ _ _ _ => pgx_nm 3 sc.nd) (fun _ _ _ _ _ => ptx_nil) (fun _ _ _ _ _ => px_ixA (hu65 hr) (px_var 3) (px_int)) (fun _ _ _ _ _ => px_ixA (hu65 hr) (px_var 3) (px_var 1))) sc.nd) (pzs_one (pz_ret (px_call (ok_parting_by fs) (hr.mono (by omega)) (by rfl) fs.m_parting_by fs.F_parting_by.kp fs.b_parting_by tk (pxa_cons (px_lc (own := [("corner", 4)]) rfl sc.nd (pix_rng2 (by rfl) fs.z_range (px_int) (px_bin op_subA (s2_ii yes2 (· - ·)) (px_ixA (hu65 hr) (px_var 0) (px_int)) (px_int))) (blkOk_by (by kernel_rfl)) (fun _ _ _ _ _ => pgx_nm 4 sc.nd) (fun _ _ _ _ _ => ptx_nil) (fun _ _ _ _ _ => px_ixA (hu65 hr) (px_var 2) (px_var 4))) (pxa_nil)))))) (fun _ _ _ => rfl)
theorem sc_parting_of : FnScope ["cutting"] ["cutting"] (defScope (topS 61)) := ⟨rfl, rfl, rfl, by decide +kernel, rfl, by decide +kernel, by decide +kernel⟩
def m_parting_of  : SM := seqM (exprM (callM F_need_cutting [rdV 0])) (retM (callM F_parting_by_corners [rdV 0, ret (.d (.int 2))]))
def F_parting_of : List PyData → FR := runF m_parting_of 1
theorem ok_parting_of (fs : FS K mg) : FnOk P w K mg base (L2.CX P w) 7 fs.f_parting_of fs.fd_parting_of ["cutting"] (spF K [] mg 1 F_parting_of) :=
  have sc := sc_parting_of
  fn_pure fs.F_parting_of sc (z := m_parting_of) (fun cdv A outer s H E hr tk => pzs_cons (pz_expr (px_call (ok_need_cutting fs) (hr.mono (by omega)) (by rfl) fs.m_need_cutting fs.F_need_cutting.kp fs.b_need_cutting tk (pxa_cons (px_var 0) (pxa_nil)))) (pzs_one (pz_ret (px_call (ok_parting_by_corners fs) (hr.mono (by omega)) (by rfl) fs.m_parting_by_corners fs.F_parting_by_corners.kp fs.b_parting_by_corners tk (pxa_cons (px_var 0) (pxa_cons (px_int) (pxa_nil))))))) (fun _ _ _ => rfl)
def tab_parting_of : List (List PyData × TV) := [
  ([.tuple [.int 3, .tuple []]], .d (.tuple [.tuple [.int 0]])),
  ([.tuple [.int 4, .tuple [.tuple [.int 1, .int 3]]]], .d (.tuple [.tuple [.int 0, .int 1]])),
  ([.tuple [.int 4, .tuple [.tuple [.int 0, .int 2]]]], .d (.tuple [.tuple [.int 0], .tuple [.int 1]])),
  ([.tuple [.int 5, .tuple [.tuple [.int 1, .int 4], .tuple [.int 2, .int 4]]]], .d (.tuple [.tuple [.int 0, .int 1, .int 2]])),
  ([.tuple [.int 5, .tuple [.tuple [.int 1, .int 3], .tuple [.int 1, .int 4]]]], .d (.tuple [.tuple [.int 0, .int 2], .tuple [.int 1]])),
  ([.tuple [.int 5, .tuple [.tuple [.int 0, .int 2], .tuple [.int 2, .int 4]]]], .d (.tuple [.tuple [.int 0], .tuple [.int 1, .int 2]])),
  ([.tuple [.int 5, .tuple [.tuple [.int 0, .int 3], .tuple [.int 1, .int 3]]]], .d (.tuple [.tuple [.int 0, .int 1], .tuple [.int 2]])),
  ([.tuple [.int 5, .tuple [.tuple [.int 0, .int 2], .tuple [.int 0, .int 3]]]], .d (.tuple [.tuple [.int 0], .tuple [.int 1], .tuple [.int 2]])),
  ([.tuple [.int 6, .tuple [.tuple [.int 0, .int 2], .tuple [.int 2, .int 5], .tuple [.int 3, .int 5]]]], .d (.tuple [.tuple [.int 0], .tuple [.int 1, .int 2, .int 3]])),
  ([.tuple [.int 6, .tuple [.tuple [.int 0, .int 2], .tuple [.int 2, .int 4], .tuple [.int 2, .int 5]]]], .d (.tuple [.tuple [.int 0], .tuple [.int 1, .int 3], .tuple [.int 2]])),
  ([.tuple [.int 7, .tuple [.tuple [.int 0, .int 2], .tuple [.int 2, .int 6], .tuple [.int 3, .int 6], .tuple [.int 4, .int 6]]]], .d (.tuple [.tuple [.int 0], .tuple [.int 1, .int 2, .int 3, .int 4]])),
  ([.tuple [.int 7, .tuple [.tuple [.int 0, .int 2], .tuple [.int 2, .int 6], .tuple [.int 3, .int 5], .tuple [.int 3, .int 6]]]], .d (.tuple [.tuple [.int 0], .tuple [.int 1, .int 2, .int 4], .tuple [.int 3]])),
  ([.tuple [.int 7, .tuple [.tuple [.int 0, .int 2], .tuple [.int 2, .int 4], .tuple [.int 2, .int 6], .tuple [.int 4, .int 6]]]], .d (.tuple [.tuple [.int 0], .tuple [.int 1, .int 3, .int 4], .tuple [.int 2]])),
  ([.tuple [.int 7, .tuple [.tuple [.int 0, .int 2], .tuple [.int 2, .int 5], .tuple [.int 2, .int 6], .tuple [.int 3, .int 5]]]], .d (.tuple [.tuple [.int 0], .tuple [.int 1, .int 4], .tuple [.int 2, .int 3]])),
  ([.tuple [.int 7, .tuple [.tuple [.int 0, .int 2], .tuple [.int 2, .int 4], .tuple [.int 2, .int 5], .tuple [.int 2, .int 6]]]], .d (.tuple [.tuple [.int 0], .tuple [.int 1, .int 4], .tuple [.int 2], .tuple [.int 3]])),
  ([.tuple [.int 6, .tuple [.tuple [.int 0, .int 3], .tuple [.int 1, .int 3], .tuple [.int 3, .int 5]]]], .d (.tuple [.tuple [.int 0, .int 1], .tuple [.int 2, .int 3]])),
  ([.tuple [.int 7, .tuple [.tuple [.int 0, .int 3], .tuple [.int 1, .int 3], .tuple [.int 3, .int 6], .tuple [.int 4, .int 6]]]], .d (.tuple [.tuple [.int 0, .int 1], .tuple [.int 2, .int 3, .int 4]])),
  ([.tuple [.int 7, .tuple [.tuple [.int 0, .int 3], .tuple [.int 1, .int 3], .tuple [.int 3, .int 5], .tuple [.int 3, .int 6]]]], .d (.tuple [.tuple [.int 0, .int 1], .tuple [.int 2, .int 4], .tuple [.int 3]])),
  ([.tuple [.int 8, .tuple [.tuple [.int 0, .int 3], .tuple [.int 1, .int 3], .tuple [.int 3, .int 7], .tuple [.int 4, .int 7], .tuple [.int 5, .int 7]]]], .d (.tuple [.tuple [.int 0, .int 1], .tuple [.int 2, .int 3, .int 4, .int 5]])),
  ([.tuple [.int 8, .tuple [.tuple [.int 0, .int 3], .tuple [.int 1, .int 3], .tuple [.int 3, .int 7], .tuple [.int 4, .int 6], .tuple [.int 4, .int 7]]]], .d (.tuple [.tuple [.int 0, .int 1], .tuple [.int 2, .int 3, .int 5], .tuple [.int 4]])),
  ([.tuple [.int 8, .tuple [.tuple [.int 0, .int 3], .tuple [.int 1, .int 3], .tuple [.int 3, .int 5], .tuple [.int 3, .int 7], .tuple [.int 5, .int 7]]]], .d (.tuple [.tuple [.int 0, .int 1], .tuple [.int 2, .int 4, .int 5], .tuple [.int 3]])),
  ([.tuple [.int 8, .tuple [.tuple [.int 0, .int 3], .tuple [.int 1, .int 3], .tuple [.int 3, .int 6], .tuple [.int 3, .int 7], .tuple [.int 4, .int 6]]]], .d (.tuple [.tuple [.int 0, .int 1], .tuple [.int 2, .int 5], .tuple [.int 3, .int 4]])),
  ([.tuple [.int 8, .tuple [.tuple [.int 0, .int 3], .tuple [.int 1, .int 3], .tuple [.int 3, .int 5], .tuple [.int 3, .int 6], .tuple [.int 3, .int 7]]]], .d (.tuple [.tuple [.int 0, .int 1], .tuple [.int 2, .int 5], .tuple [.int 3], .tuple [.int 4]])),
  ([.tuple [.int 6, .tuple [.tuple [.int 0, .int 2], .tuple [.int 0, .int 3], .tuple [.int 3, .int 5]]]], .d (.tuple [.tuple [.int 0], .tuple [.int 1], .tuple [.int 2, .int 3]])),
  ([.tuple [.int 7, .tuple [.tuple [.int 0, .int 2], .tuple [.int 0, .int 3], .tuple [.int 3, .int 6], .tuple [.int 4, .int 6]]]], .d (.tuple [.tuple [.int 0], .tuple [.int 1], .tuple [.int 2, .int 3, .int 4]])),
  ([.tuple [.int 7, .tuple [.tuple [.int 0, .int 2], .tuple [.int 0, .int 3], .tuple [.int 3, .int 5], .tuple [.int 3, .int 6]]]], .d (.tuple [.tuple [.int 0], .tuple [.int 1], .tuple [.int 2, .int 4], .tuple [.int 3]])),
  ([.tuple [.int 8, .tuple [.tuple [.int 0, .int 2], .tuple [.int 0, .int 3], .tuple [.int 3, .int 7], .tuple [.int 4, .int 7], .tuple [.int 5, .int 7]]]], .d (.tuple [.tuple [.int 0], .tuple [.int 1], .tuple [.int 2, .int 3, .int 4, .int 5]])),
  ([.tuple [.int 8, .tuple [.tuple [.int 0, .int 2], .tuple [.int 0, .int 3], .tuple [.int 3, .int 7], .tuple [.int 4, .int 6], .tuple [.int 4, .int 7]]]], .d (.tuple [.tuple [.int 0], .tuple [.int 1], .tuple [.int 2, .int 3, .int 5], .tuple [.int 4]])),
  ([.tuple [.int 8, .tuple [.tuple [.int 0, .int 2], .tuple [.int 0, .int 3], .tuple [.int 3, .int 5], .tuple [.int 3, .int 7], .tuple [.int 5, .int 7]]]], .d (.tuple [.tuple [.int 0], .tuple [.int 1], .tuple [.int 2, .int 4, .int 5], .tuple [.int 3]])),
  ([.tuple [.int 8, .tuple [.tuple [.int 0, .int 2], .tuple [.int 0, .int 3], .tuple [.int 3, .int 6], .tuple [.int 3, .int 7], .tuple [.int 4, .int 6]]]], .d (.tuple [.tuple [.int 0], .tuple [.int 1], .tuple [.int 2, .int 5], .tuple [.int 3, .int 4]])),
  ([.tuple [.int 8, .tuple [.tuple [.int 0, .int 2], .tuple [.int 0, .int 3], .tuple [.int 3, .int 5], .tuple [.int 3, .int 6], .tuple [.int 3, .int 7]]]], .d (.tuple [.tuple [.int 0], .tuple [.int 1], .tuple [.int 2, .int 5], .tuple [.int 3], .tuple [.int 4]])),
  ([.tuple [.int 7, .tuple [.tuple [.int 0, .int 4], .tuple [.int 1, .int 4], .tuple [.int 2, .int 4], .tuple [.int 4, .int 6]]]], .d (.tuple [.tuple [.int 0, .int 1, .int 2], .tuple [.int 3, .int 4]])),
  ([.tuple [.int 8, .tuple [.tuple [.int 0, .int 4], .tuple [.int 1, .int 4], .tuple [.int 2, .int 4], .tuple [.int 4, .int 7], .tuple [.int 5, .int 7]]]], .d (.tuple [.tuple [.int 0, .int 1, .int 2], .tuple [.int 3, .int 4, .int 5]])),
  ([.tuple [.int 8, .tuple [.tuple [.int 0, .int 4], .tuple [.int 1, .int 4], .tuple [.int 2, .int 4], .tuple [.int 4, .int 6], .tuple [.int 4, .int 7]]]], .d (.tuple [.tuple [.int 0, .int 1, .int 2], .tuple [.int 3, .int 5], .tuple [.int 4]])),
  ([.tuple [.int 9, .tuple [.tuple [.int 0, .int 4], .tuple [.int 1, .int 4], .tuple [.int 2, .int 4], .tuple [.int 4, .int 8], .tuple [.int 5, .int 8], .tuple [.int 6, .int 8]]]], .d (.tuple [.tuple [.int 0, .int 1, .int 2], .tuple [.int 3, .int 4, .int 5, .int 6]])),
  ([.tuple [.int 9, .tuple [.tuple [.int 0, .int 4], .tuple [.int 1, .int 4], .tuple [.int 2, .int 4], .tuple [.int 4, .int 8], .tuple [.int 5, .int 7], .tuple [.int 5, .int 8]]]], .d (.tuple [.tuple [.int 0, .int 1, .int 2], .tuple [.int 3, .int 4, .int 6], .tuple [.int 5]])),
  ([.tuple [.int 9, .tuple [.tuple [.int 0, .int 4], .tuple [.int 1, .int 4], .tuple [.int 2, .int 4], .tuple [.int 4, .int 6], .tuple [.int 4, .int 8], .tuple [.int 6, .int 8]]]], .d (.tuple [.tuple [.int 0, .int 1, .int 2], .tuple [.int 3, .int 5, .int 6], .tuple [.int 4]])),
  ([.tuple [.int 9, .tuple [.tuple [.int 0, .int 4], .tuple [.int 1, .int 4], .tuple [.int 2, .int 4], .tuple [.int 4, .int 7], .tuple [.int 4, .int 8], .tuple [.int 5, .int 7]]]], .d (.tuple [.tuple [.int 0, .int 1, .int 2], .tuple [.int 3, .int 6], .tuple [.int 4, .int 5]])),
  ([.tuple [.int 9, .tuple [.tuple [.int 0, .int 4], .tuple [.int 1, .int 4], .tuple [.int 2, .int 4], .tuple [.int 4, .int 6], .tuple [.int 4, .int 7], .tuple [.int 4, .int 8]]]], .d (.tuple [.tuple [.int 0, .int 1, .int 2], .tuple [.int 3, .int 6], .tuple [.int 4], .tuple [.int 5]])),
  ([.tuple [.int 7, .tuple [.tuple [.int 0, .int 4], .tuple [.int 1, .int 3], .tuple [.int 1, .int 4], .tuple [.int 4, .int 6]]]], .d (.tuple [.tuple [.int 0, .int 2], .tuple [.int 1], .tuple [.int 3, .int 4]])),
  ([.tuple [.int 8, .tuple [.tuple [.int 0, .int 4], .tuple [.int 1, .int 3], .tuple [.int 1, .int 4], .tuple [.int 4, .int 7], .tuple [.int 5, .int 7]]]], .d (.tuple [.tuple [.int 0, .int 2], .tuple [.int 1], .tuple [.int 3, .int 4, .int 5]])),
  ([.tuple [.int 8, .tuple [.tuple [.int 0, .int 4], .tuple [.int 1, .int 3], .tuple [.int 1, .int 4], .tuple [.int 4, .int 6], .tuple [.int 4, .int 7]]]], .d (.tuple [.tuple [.int 0, .int 2], .tuple [.int 1], .tuple [.int 3, .int 5], .tuple [.int 4]])),
  ([.tuple [.int 9, .tuple [.tuple [.int 0, .int 4], .tuple [.int 1, .int 3], .tuple [.int 1, .int 4], .tuple [.int 4, .int 8], .tuple [.int 5, .int 8], .tuple [.int 6, .int 8]]]], .d (.tuple [.tuple [.int 0, .int 2], .tuple [.int 1], .tuple [.int 3, .int 4, .int 5, .int 6]])),
  ([.tuple [.int 9, .tuple [.tuple [.int 0, .int 4], .tuple [.int 1, .int 3], .tuple [.int 1, .int 4], .tuple [.int 4, .int 8], .tuple [.int 5, .int 7], .tuple [.int 5, .int 8]]]], .d (.tuple [.tuple [.int 0, .int 2], .tuple [.int 1], .tuple [.int 3, .int 4, .int 6], .tuple [.int 5]])),
  ([.tuple [.int 9, .tuple [.tuple [.int 0, .int 4], .tuple [.int 1, .int 3], .tuple [.int 1, .int 4], .tuple [.int 4, .int 6], .tuple [.int 4, .int 8], .tuple [.int 6, .int 8]]]], .d (.tuple [.tuple [.int 0, .int 2], .tuple [.int 1], .tuple [.int 3, .int 5, .int 6], .tuple [.int 4]])),
  ([.tuple [.int 9, .tuple [.tuple [.int 0, .int 4], .tuple [.int 1, .int 3], .tuple [.int 1, .int 4], .tuple [.int 4, .int 7], .tuple [.int 4, .int 8], .tuple [.int 5, .int 7]]]], .d (.tuple [.tuple [.int 0, .int 2], .tuple [.int 1], .tuple [.int 3, .int 6], .tuple [.int 4, .int 5]])),
  ([.tuple [.int 9, .tuple [.tuple [.int 0, .int 4], .tuple [.int 1, .int 3], .tuple [.int 1, .int 4], .tuple [.int 4, .int 6], .tuple [.int 4, .int 7], .tuple [.int 4, .int 8]]]], .d (.tuple [.tuple [.int 0, .int 2], .tuple [.int 1], .tuple [.int 3, .int 6], .tuple [.int 4], .tuple [.int 5]])),
  ([.tuple [.int 7, .tuple [.tuple [.int 0, .int 2], .tuple [.int 0, .int 4], .tuple [.int 2, .int 4], .tuple [.int 4, .int 6]]]], .d (.tuple [.tuple [.int 0], .tuple [.int 1, .int 2], .tuple [.int 3, .int 4]])),
  ([.tuple [.int 8, .tuple [.tuple [.int 0, .int 2], .tuple [.int 0, .int 4], .tuple [.int 2, .int 4], .tuple [.int 4, .int 7], .tuple [.int 5, .int 7]]]], .d (.tuple [.tuple [.int 0], .tuple [.int 1, .int 2], .tuple [.int 3, .int 4, .int 5]])),
  ([.tuple [.int 8, .tuple [.tuple [.int 0, .int 2], .tuple [.int 0, .int 4], .tuple [.int 2, .int 4], .tuple [.int 4, .int 6], .tuple [.int 4, .int 7]]]], .d (.tuple [.tuple [.int 0], .tuple [.int 1, .int 2], .tuple [.int 3, .int 5], .tuple [.int 4]])),
  ([.tuple [.int 9, .tuple [.tuple [.int 0, .int 2], .tuple [.int 0, .int 4], .tuple [.int 2, .int 4], .tuple [.int 4, .int 8], .tuple [.int 5, .int 8], .tuple [.int 6, .int 8]]]], .d (.tuple [.tuple [.int 0], .tuple [.int 1, .int 2], .tuple [.int 3, .int 4, .int 5, .int 6]])),
  ([.tuple [.int 9, .tuple [.tuple [.int 0, .int 2], .tuple [.int 0, .int 4], .tuple [.int 2, .int 4], .tuple [.int 4, .int 8], .tuple [.int 5, .int 7], .tuple [.int 5, .int 8]]]], .d (.tuple [.tuple [.int 0], .tuple [.int 1, .int 2], .tuple [.int 3, .int 4, .int 6], .tuple [.int 5]])),
  ([.tuple [.int 9, .tuple [.tuple [.int 0, .int 2], .tuple [.int 0, .int 4], .tuple [.int 2, .int 4], .tuple [.int 4, .int 6], .tuple [.int 4, .int 8], .tuple [.int 6, .int 8]]]], .d (.tuple [.tuple [.int 0], .tuple [.int 1, .int 2], .tuple [.int 3, .int 5, .int 6], .tuple [.int 4]])),
  ([.tuple [.int 9, .tuple [.tuple [.int 0, .int 2], .tuple [.int 0, .int 4], .tuple [.int 2, .int 4], .tuple [.int 4, .int 7], .tuple [.int 4, .int 8], .tuple [.int 5, .int 7]]]], .d (.tuple [.tuple [.int 0], .tuple [.int 1, .int 2], .tuple [.int 3, .int 6], .tuple [.int 4, .int 5]])),
  ([.tuple [.int 9, .tuple [.tuple [.int 0, .int 2], .tuple [.int 0, .int 4], .tuple [.int 2, .int 4], .tuple [.int 4, .int 6], .tuple [.int 4, .int 7], .tuple [.int 4, .int 8]]]], .d (.tuple [.tuple [.int 0], .tuple [.int 1, .int 2], .tuple [.int 3, .int 6], .tuple [.int 4], .tuple [.int 5]])),
  ([.tuple [.int 7, .tuple [.tuple [.int 0, .int 3], .tuple [.int 0, .int 4], .tuple [.int 1, .int 3], .tuple [.int 4, .int 6]]]], .d (.tuple [.tuple [.int 0, .int 1], .tuple [.int 2], .tuple [.int 3, .int 4]])),
  ([.tuple [.int 8, .tuple [.tuple [.int 0, .int 3], .tuple [.int 0, .int 4], .tuple [.int 1, .int 3], .tuple [.int 4, .int 7], .tuple [.int 5, .int 7]]]], .d (.tuple [.tuple [.int 0, .int 1], .tuple [.int 2], .tuple [.int 3, .int 4, .int 5]])),
  ([.tuple [.int 8, .tuple [.tuple [.int 0, .int 3], .tuple [.int 0, .int 4], .tuple [.int 1, .int 3], .tuple [.int 4, .int 6], .tuple [.int 4, .int 7]]]], .d (.tuple [.tuple [.int 0, .int 1], .tuple [.int 2], .tuple [.int 3, .int 5], .tuple [.int 4]])),
  ([.tuple [.int 9, .tuple [.tuple [.int 0, .int 3], .tuple [.int 0, .int 4], .tuple [.int 1, .int 3], .tuple [.int 4, .int 8], .tuple [.int 5, .int 8], .tuple [.int 6, .int 8]]]], .d (.tuple [.tuple [.int 0, .int 1], .tuple [.int 2], .tuple [.int 3, .int 4, .int 5, .int 6]])),
  ([.tuple [.int 9, .tuple [.tuple [.int 0, .int 3], .tuple [.int 0, .int 4], .tuple [.int 1, .int 3], .tuple [.int 4, .int 8], .tuple [.int 5, .int 7], .tuple [.int 5, .int 8]]]], .d (.tuple [.tuple [.int 0, .int 1], .tuple [.int 2], .tuple [.int 3, .int 4, .int 6], .tuple [.int 5]])),
  ([.tuple [.int 9, .tuple [.tuple [.int 0, .int 3], .tuple [.int 0, .int 4], .tuple [.int 1, .int 3], .tuple [.int 4, .int 6], .tuple [.int 4, .int 8], .tuple [.int 6, .int 8]]]], .d (.tuple [.tuple [.int 0, .int 1], .tuple [.int 2], .tuple [.int 3, .int 5, .int 6], .tuple [.int 4]])),
  ([.tuple [.int 9, .tuple [.tuple [.int 0, .int 3], .tuple [.int 0, .int 4], .tuple [.int 1, .int 3], .tuple [.int 4, .int 7], .tuple [.int 4, .int 8], .tuple [.int 5, .int 7]]]], .d (.tuple [.tuple [.int 0, .int 1], .tuple [.int 2], .tuple [.int 3, .int 6], .tuple [.int 4, .int 5]])),
  ([.tuple [.int 9, .tuple [.tuple [.int 0, .int 3], .tuple [.int 0, .int 4], .tuple [.int 1, .int 3], .tuple [.int 4, .int 6], .tuple [.int 4, .int 7], .tuple [.int 4, .int 8]]]], .d (.tuple [.tuple [.int 0, .int 1], .tuple [.int 2], .tuple [.int 3, .int 6], .tuple [.int 4], .tuple [.int 5]])),
  ([.tuple [.int 7, .tuple [.tuple [.int 0, .int 2], .tuple [.int 0, .int 3], .tuple [.int 0, .int 4], .tuple [.int 4, .int 6]]]], .d (.tuple [.tuple [.int 0], .tuple [.int 1], .tuple [.int 2], .tuple [.int 3, .int 4]])),
  ([.tuple [.int 8, .tuple [.tuple [.int 0, .int 2], .tuple [.int 0, .int 3], .tuple [.int 0, .int 4], .tuple [.int 4, .int 7], .tuple [.int 5, .int 7]]]], .d (.tuple [.tuple [.int 0], .tuple [.int 1], .tuple [.int 2], .tuple [.int 3, .int 4, .int 5]])),
  ([.tuple [.int 8, .tuple [.tuple [.int 0, .int 2], .tuple [.int 0, .int 3], .tuple [.int 0, .int 4], .tuple [.int 4, .int 6], .tuple [.int 4, .int 7]]]], .d (.tuple [.tuple [.int 0], .tuple [.int 1], .tuple [.int 2], .tuple [.int 3, .int 5], .tuple [.int 4]])),
  ([.tuple [.int 9, .tuple [.tuple [.int 0, .int 2], .tuple [.int 0, .int 3], .tuple [.int 0, .int 4], .tuple [.int 4, .int 8], .tuple [.int 5, .int 8], .tuple [.int 6, .int 8]]]], .d (.tuple [.tuple [.int 0], .tuple [.int 1], .tuple [.int 2], .tuple [.int 3, .int 4, .int 5, .int 6]])),
  ([.tuple [.int 9, .tuple [.tuple [.int 0, .int 2], .tuple [.int 0, .int 3], .tuple [.int 0, .int 4], .tuple [.int 4, .int 8], .tuple [.int 5, .int 7], .tuple [.int 5, .int 8]]]], .d (.tuple [.tuple [.int 0], .tuple [.int 1], .tuple [.int 2], .tuple [.int 3, .int 4, .int 6], .tuple [.int 5]])),
  ([.tuple [.int 9, .tuple [.tuple [.int 0, .int 2], .tuple [.int 0, .int 3], .tuple [.int 0, .int 4], .tuple [.int 4, .int 6], .tuple [.int 4, .int 8], .tuple [.int 6, .int 8]]]], .d (.tuple [.tuple [.int 0], .tuple [.int 1], .tuple [.int 2], .tuple [.int 3, .int 5, .int 6], .tuple [.int 4]])),
  ([.tuple [.int 9, .tuple [.tuple [.int 0, .int 2], .tuple [.int 0, .int 3], .tuple [.int 0, .int 4], .tuple [.int 4, .int 7], .tuple [.int 4, .int 8], .tuple [.int 5, .int 7]]]], .d (.tuple [.tuple [.int 0], .tuple [.int 1], .tuple [.int 2], .tuple [.int 3, .int 6], .tuple [.int 4, .int 5]])),
  ([.tuple [.int 9, .tuple [.tuple [.int 0, .int 2], .tuple [.int 0, .int 3], .tuple [.int 0, .int 4], .tuple [.int 4, .int 6], .tuple [.int 4, .int 7], .tuple [.int 4, .int 8]]]], .d (.tuple [.tuple [.int 0], .tuple [.int 1], .tuple [.int 2], .tuple [.int 3, .int 6], .tuple [.int 4], .tuple [.int 5]]))]
def T_parting_of : List PyData → FR := lookT tab_parting_of
theorem okt_parting_of (fs : FS K mg) : FnOk P w K mg base (L2.CX P w) 7 fs.f_parting_of fs.fd_parting_of ["cutting"] (spF K [] mg 1 T_parting_of) := fn_tab tab_parting_of (ok_parting_of fs) (by decide +kernel)
theorem sc__law_cup : FnScope ["_law_script", "_law_cell", "_law_great"] ["_law_script"] (defScope (topS 63)) := ⟨rfl, rfl, rfl, by decide +kernel, rfl, by decide +kernel, by decide +kernel⟩
def m__law_cup  : SM := seqM (setM 1 (op1 absF (op2 ixA (op2 addS (op1 listF (rdV 0)) (lstM [ret (.d (.int 0))])) (ret (.d (.int 0)))))) (seqM (setM 2 (ifM (cmp2 geA (rdV 1) (op2 powF (ret (.d (.int 10))) (ret (.d (.int 18))))) (op2 fdivF (rdV 1) (ret (.d (.int 11)))) (ret (.d (.int 0))))) (retM (lstM [rdV 2, op2 addS (op2 modF (op1 intF (op2 addS (op2 mulF (rdV 1) (ret (.d (.int 193)))) (ret (.d (.int 1201))))) (ret (.d (.int 2077504273)))) (ret (.d (.int 89)))])))
def F__law_cup : List PyData → FR := runF m__law_cup 3
theorem ok__law_cup (fs : FS K mg) : FnOk P w K mg base (L2.CX P w) 1 fs.f__law_cup fs.fd__law_cup ["_law_script"] (spF K [] mg 1 F__law_cup) :=
  have sc := sc__law_cup
  fn_pure fs.F__law_cup sc (z := m__law_cup) (fun cdv A outer s H E hr tk => pzs_cons (pz_set 1 (px_b1 call_abs s1_abs (by rfl) fs.z_abs bb_abs (px_ixA (hu65 hr) (px_bin op_addS s2_addS (px_t1 call_list_of s1_list (by rfl) fs.z_list bb_list (px_var 0)) (px_lst (hz := (by decide : (1 : Nat) ≤ sizeLine)) (pxa_cons (px_int) (pxa_nil)))) (px_int))) sc.nd) (pzs_cons (pz_set 2 (px_if (pxt_cmp (op_geAll (hu65 hr)) (sB_cmp _ _) (px_var 1) (px_bin op_powA (s2_ii powOk fun i j => i ^ j.toNat) (px_int) (px_int)) (nomark _)) (px_bin op_fdivA (s2_ii divOk Int.fdiv) (px_var 1) (px_int)) (px_int)) sc.nd) (pzs_one (pz_ret (px_lst (hz := (by decide : (2 : Nat) ≤ sizeLine)) (pxa_cons (px_var 2) (pxa_cons (px_bin op_addS s2_addS (px_bin op_modA (s2_ii modOk Int.fmod) (px_t1 call_int1 s1_int (by rfl) fs.z_int bb_int (px_bin op_addS s2_addS (px_bin op_mul' s2_mul (px_var 1) (px_int)) (px_int))) (px_int)) (px_int)) (pxa_nil)))))))) (fun _ _ _ => rfl)
theorem sc__law_roll : FnScope ["_law_cup_here", "_law_many", "_law_deep", "_law_found"] ["_law_cup_here", "_law_many"] (defScope (topS 64)) := ⟨rfl, rfl, rfl, by decide +kernel, rfl, by decide +kernel, by decide +kernel⟩
def m__law_roll  : SM := seqM (iteM (cmp2 gtA (op2 ixA (rdV 0) (ret (.d (.int 0)))) (ret (.d (.int 0)))) (seqM (setM 3 (op2 modF (op1 intF (op2 ixA (rdV 0) (ret (.d (.int 0))))) (rdV 1))) (seqM (setIxM 0 (ret (.d (.int 0))) (op2 fdivF (op2 ixA (rdV 0) (ret (.d (.int 0)))) (rdV 1))) (retM (rdV 3)))) (skipM)) (seqM (setIxM 0 (ret (.d (.int 1))) (op2 modF (op1 intF (op2 addS (op2 mulF (op2 ixA (rdV 0) (ret (.d (.int 1)))) (ret (.d (.int 30671)))) (ret (.d (.int 7919))))) (ret (.d (.int 2147483549))))) (seqM (setM 2 (op2 modF (op1 intF (op2 mulF (op2 ixA (rdV 0) (ret (.d (.int 1)))) (op2 addS (op2 ixA (rdV 0) (ret (.d (.int 1)))) (ret (.d (.int 131)))))) (ret (.d (.int 2147483587))))) (retM (op2 modF (op1 intF (op2 fdivF (rdV 2) (ret (.d (.int 709))))) (rdV 1)))))
def t__law_roll_1 : SM := seqM (setIxM 0 (ret (.d (.int 1))) (op2 modF (op1 intF (op2 addS (op2 mulF (op2 ixA (rdV 0) (ret (.d (.int 1)))) (ret (.d (.int 30671)))) (ret (.d (.int 7919))))) (ret (.d (.int 2147483549))))) (seqM (setM 2 (op2 modF (op1 intF (op2 mulF (op2 ixA (rdV 0) (ret (.d (.int 1)))) (op2 addS (op2 ixA (rdV 0) (ret (.d (.int 1)))) (ret (.d (.int 131)))))) (ret (.d (.int 2147483587))))) (retM (op2 modF (op1 intF (op2 fdivF (rdV 2) (ret (.d (.int 709))))) (rdV 1))))
def s__law_roll_0 : SM := iteM (cmp2 gtA (op2 ixA (rdV 0) (ret (.d (.int 0)))) (ret (.d (.int 0)))) (seqM (setM 3 (op2 modF (op1 intF (op2 ixA (rdV 0) (ret (.d (.int 0))))) (rdV 1))) (seqM (setIxM 0 (ret (.d (.int 0))) (op2 fdivF (op2 ixA (rdV 0) (ret (.d (.int 0)))) (rdV 1))) (retM (rdV 3)))) (skipM)
def t__law_roll_2 : SM := seqM (setM 2 (op2 modF (op1 intF (op2 mulF (op2 ixA (rdV 0) (ret (.d (.int 1)))) (op2 addS (op2 ixA (rdV 0) (ret (.d (.int 1)))) (ret (.d (.int 131)))))) (ret (.d (.int 2147483587))))) (retM (op2 modF (op1 intF (op2 fdivF (rdV 2) (ret (.d (.int 709))))) (rdV 1)))
def s__law_roll_1 : SM := setIxM 0 (ret (.d (.int 1))) (op2 modF (op1 intF (op2 addS (op2 mulF (op2 ixA (rdV 0) (ret (.d (.int 1)))) (ret (.d (.int 30671)))) (ret (.d (.int 7919))))) (ret (.d (.int 2147483549))))
def t__law_roll_3 : SM := retM (op2 modF (op1 intF (op2 fdivF (rdV 2) (ret (.d (.int 709))))) (rdV 1))
def s__law_roll_2 : SM := setM 2 (op2 modF (op1 intF (op2 mulF (op2 ixA (rdV 0) (ret (.d (.int 1)))) (op2 addS (op2 ixA (rdV 0) (ret (.d (.int 1)))) (ret (.d (.int 131)))))) (ret (.d (.int 2147483587))))
def F__law_roll : FI := runI m__law_roll 4
theorem ok__law_roll (fs : FS K mg) : FnOk P w K mg base (L2.CX P w) 1 fs.f__law_roll fs.fd__law_roll ["_law_cup_here", "_law_many"] (spIO K [] 2 F__law_roll) :=
  have sc := sc__law_roll
  fn_io fs.F__law_roll sc (z := m__law_roll) (fun cdv A outer s H E io hr tk => pzs_cons (pz_if (pxt_cmp (op_gtAll (hu65 hr)) (sB_cmp _ _) (px_ixA (hu65 hr) (px_var 0) (px_int)) (px_int) (nomark _)) (pzs_cons (pz_set 3 (px_bin op_modA (s2_ii modOk Int.fmod) (px_t1 call_int1 s1_int (by rfl) fs.z_int bb_int (px_ixA (hu65 hr) (px_var 0) (px_int))) (px_var 1)) sc.nd) (pzs_cons (pz_setIx 0 (px_bin op_fdivA (s2_ii divOk Int.fdiv) (px_ixA (hu65 hr) (px_var 0) (px_int)) (px_var 1)) (px_int)) (pzs_one (pz_ret (px_var 3))))) (pzs_nil)) (pzs_cons (pz_setIx 0 (px_bin op_modA (s2_ii modOk Int.fmod) (px_t1 call_int1 s1_int (by rfl) fs.z_int bb_int (px_bin op_addS s2_addS (px_bin op_mul' s2_mul (px_ixA (hu65 hr) (px_var 0) (px_int)) (px_int)) (px_int))) (px_int)) (px_int)) (pzs_cons (pz_set 2 (px_bin op_modA (s2_ii modOk Int.fmod) (px_t1 call_int1 s1_int (by rfl) fs.z_int bb_int (px_bin op_mul' s2_mul (px_ixA (hu65 hr) (px_var 0) (px_int)) (px_bin op_addS s2_addS (px_ixA (hu65 hr) (px_var 0) (px_int)) (px_int)))) (px_int)) sc.nd) (pzs_one (pz_ret (px_bin op_modA (s2_ii modOk Int.fmod) (px_t1 call_int1 s1_int (by rfl) fs.z_int bb_int (px_bin op_fdivA (s2_ii divOk Int.fdiv) (px_var 2) (px_int))) (px_var 1))))))) (fun _ _ _ _ => rfl)
theorem sc__law_cuts : FnScope ["_law_cup_here", "_law_first", "_law_last", "_law_third", "_law_found", "_law_one", "_law_two"] ["_law_cup_here", "_law_first", "_law_last"] (defScope (topS 65)) := ⟨rfl, rfl, rfl, by decide +kernel, rfl, by decide +kernel, by decide +kernel⟩
def m__law_cuts (rec__law_cuts : FI) : SM := seqM (iteM (cmp2 ltA (op2 subF (rdV 2) (rdV 1)) (ret (.d (.int 2)))) (retM (lstM [])) (skipM)) (seqM (setM 3 (op2 addS (op2 addS (rdV 1) (ret (.d (.int 1)))) (callIO F__law_roll 0 [op2 subF (op2 subF (rdV 2) (rdV 1)) (ret (.d (.int 1)))]))) (seqM (setM 4 (lcM (anyI (tupM [tupM [rdV 1, rdV 3], tupM [rdV 3, rdV 2]])) (.tp [5, 6]) (cmp2 gtA (op2 subF (rdV 6) (rdV 5)) (ret (.d (.int 1)))) (tupM [rdV 5, rdV 6]) [5, 6])) (retM (op2 addS (op2 addS (rdV 4) (callIO rec__law_cuts 0 [rdV 1, rdV 3])) (callIO rec__law_cuts 0 [rdV 3, rdV 2])))))
def Fn__law_cuts : Nat → FI
  | 0 => fun _ _ => none
  | n + 1 => runI (m__law_cuts (Fn__law_cuts n)) 7
def F__law_cuts : FI := Fn__law_cuts 60
theorem okg__law_cuts (fs : FS K mg) : ∀ n : Nat, FnOk P w K mg base (L2.CX P w) (2 + n) fs.f__law_cuts fs.fd__law_cuts ["_law_cup_here", "_law_first", "_law_last"] (spIO K [] 3 (Fn__law_cuts n))
  | 0 => fn_io (k := 1) fs.F__law_cuts sc__law_cuts (z := fun _ => .no) (fun cdv A outer s H E io hr tk => pzs_never) (fun _ _ _ h => absurd rfl h)
  | n + 1 => by
    have h := okg__law_cuts fs n
    have okn__law_cuts := h
    exact (have sc := sc__law_cuts; fn_io (k := 2 + n) fs.F__law_cuts sc (z := m__law_cuts (Fn__law_cuts n)) (fun cdv A outer s H E io hr tk => pzs_cons (pz_if (pxt_cmp (op_ltAll (hu65 hr)) (sB_cmp _ _) (px_bin op_subA (s2_ii yes2 (· - ·)) (px_var 2) (px_var 1)) (px_int) (nomark _)) (pzs_one (pz_ret (px_lst (hz := (by decide : (0 : Nat) ≤ sizeLine)) (pxa_nil)))) (pzs_nil)) (pzs_cons (pz_set 3 (px_bin op_addS s2_addS (px_bin op_addS s2_addS (px_var 1) (px_int)) (px_callIO 0 (ok__law_roll fs) (hr.mono (by omega)) (by rfl) fs.m__law_roll fs.F__law_roll.kp fs.b__law_roll tk (pxa_cons (px_bin op_subA (s2_ii yes2 (· - ·)) (px_bin op_subA (s2_ii yes2 (· - ·)) (px_var 2) (px_var 1)) (px_int)) (pxa_nil)))) sc.nd) (pzs_cons (pz_setLc (own := [("_law_one", 5), ("_law_two", 6)]) 4 rfl sc.nd rfl rfl (sw_true rfl rfl rfl (by decide +kernel)) (pix_any (px_tup (hz := (by decide : (2 : Nat) ≤ sizeLine)) (pxa_cons (px_tup (hz := (by decide : (2 : Nat) ≤ sizeLine)) (pxa_cons (px_var 1) (pxa_cons (px_var 3) (pxa_nil)))) (pxa_cons (px_tup (hz := (by decide : (2 : Nat) ≤ sizeLine)) (pxa_cons (px_var 3) (pxa_cons (px_var 2) (pxa_nil)))) (pxa_nil))))) (blkOk_by (by kernel_rfl)) (fun _ _ _ _ _ => pgx_tp rfl sc.nd (.cons rfl (by first | exact Or.inl rfl | exact Or.inr rfl) (by first | exact .inl rfl | exact .inr rfl) (.cons rfl (by first | exact Or.inl rfl | exact Or.inr rfl) (by first | exact .inl rfl | exact .inr rfl) (.nil)))) (fun _ _ _ _ _ => ptx_one (pxt_cmp (op_gtAll (hu65 hr)) (sB_cmp _ _) (px_bin op_subA (s2_ii yes2 (· - ·)) (px_var 6) (px_var 5)) (px_int) (nomark _))) (fun _ _ _ _ _ => px_tup (hz := (by decide : (2 : Nat) ≤ sizeLine)) (pxa_cons (px_var 5) (pxa_cons (px_var 6) (pxa_nil))))) (pzs_one (pz_ret (px_bin op_addS s2_addS (px_bin op_addS s2_addS (px_var 4) (px_callIO 0 (okn__law_cuts) (hr.mono (by omega)) (by rfl) fs.m__law_cuts fs.F__law_cuts.kp fs.b__law_cuts tk (pxa_cons (px_var 1) (pxa_cons (px_var 3) (pxa_nil))))) (px_callIO 0 (okn__law_cuts) (hr.mono (by omega)) (by rfl) fs.m__law_cuts fs.F__law_cuts.kp fs.b__law_cuts tk (pxa_cons (px_var 3) (pxa_cons (px_var 2) (pxa_nil)))))))))) (fun _ _ _ _ => rfl))
theorem ok__law_cuts (fs : FS K mg) : FnOk P w K mg base (L2.CX P w) 62 fs.f__law_cuts fs.fd__law_cuts ["_law_cup_here", "_law_first", "_law_last"] (spIO K [] 3 F__law_cuts) := (okg__law_cuts fs 60)
theorem sc__law_cutting : FnScope ["_law_cup_here", "_law_least", "_law_most", "_law_sides"] ["_law_cup_here", "_law_least", "_law_most"] (defScope (topS 66)) := ⟨rfl, rfl, rfl, by decide +kernel, rfl, by decide +kernel, by decide +kernel⟩
def m__law_cutting  : SM := seqM (setM 3 (op2 addS (rdV 1) (callIO F__law_roll 0 [op2 addS (op2 subF (rdV 2) (rdV 1)) (ret (.d (.int 1)))]))) (retM (tupM [rdV 3, op1 tupF (op1 sortF (callIO F__law_cuts 0 [ret (.d (.int 0)), op2 subF (rdV 3) (ret (.d (.int 1)))]))]))
def t__law_cutting_1 : SM := retM (tupM [rdV 3, op1 tupF (op1 sortF (callIO F__law_cuts 0 [ret (.d (.int 0)), op2 subF (rdV 3) (ret (.d (.int 1)))]))])
def s__law_cutting_0 : SM := setM 3 (op2 addS (rdV 1) (callIO F__law_roll 0 [op2 addS (op2 subF (rdV 2) (rdV 1)) (ret (.d (.int 1)))]))
def F__law_cutting : FI := runI m__law_cutting 4
theorem ok__law_cutting (fs : FS K mg) : FnOk P w K mg base (L2.CX P w) 63 fs.f__law_cutting fs.fd__law_cutting ["_law_cup_here", "_law_least", "_law_most"] (spIO K [] 3 F__law_cutting) :=
  have sc := sc__law_cutting
  fn_io fs.F__law_cutting sc (z := m__law_cutting) (fun cdv A outer s H E io hr tk => pzs_cons (pz_set 3 (px_bin op_addS s2_addS (px_var 1) (px_callIO 0 (ok__law_roll fs) (hr.mono (by omega)) (by rfl) fs.m__law_roll fs.F__law_roll.kp fs.b__law_roll tk (pxa_cons (px_bin op_addS s2_addS (px_bin op_subA (s2_ii yes2 (· - ·)) (px_var 2) (px_var 1)) (px_int)) (pxa_nil)))) sc.nd) (pzs_one (pz_ret (px_tup (hz := (by decide : (2 : Nat) ≤ sizeLine)) (pxa_cons (px_var 3) (pxa_cons (px_t1 call_tuple_of s1_tup (by rfl) fs.z_tuple bb_tuple (px_b1 (cr_sortD (hu65 hr)) s1_sort (by rfl) fs.z_sorted bb_sorted (px_callIO 0 (ok__law_cuts fs) (hr.mono (by omega)) (by rfl) fs.m__law_cuts fs.F__law_cuts.kp fs.b__law_cuts tk (pxa_cons (px_int) (pxa_cons (px_bin op_subA (s2_ii yes2 (· - ·)) (px_var 3) (px_int)) (pxa_nil)))))) (pxa_nil))))))) (fun _ _ _ _ => rfl)
theorem sc__law_ties : FnScope ["_law_cutting_here", "_law_sides", "_law_cuts_here", "_law_rim", "_law_at"] ["_law_cutting_here"] (defScope (topS 67)) := ⟨rfl, rfl, rfl, by decide +kernel, rfl, by decide +kernel, by decide +kernel⟩
def m__law_ties  : SM := seqM (asgM (.tp [1, 2]) (rdV 0)) (seqM (setM 3 (op2 addS (lcM (rng1I (op2 subF (rdV 1) (ret (.d (.int 1))))) (.nm 4) (ret true) (tupM [rdV 4, op2 addS (rdV 4) (ret (.d (.int 1)))]) [4]) (lstM [tupM [ret (.d (.int 0)), op2 subF (rdV 1) (ret (.d (.int 1)))]]))) (retM (op1 ssF (op2 addS (op1 listF (rdV 2)) (rdV 3)))))
def F__law_ties : List PyData → FR := runF m__law_ties 5
theorem ok__law_ties (fs : FS K mg) : FnOk P w K mg base (L2.CX P w) 1 fs.f__law_ties fs.fd__law_ties ["_law_cutting_here"] (spF K [] mg 1 F__law_ties) :=
  have sc := sc__law_ties
  fn_pure fs.F__law_ties sc (z := m__law_ties) (fun cdv A outer s H E hr tk => pzs_cons (pz_asg (px_var 0) (pgx_tp rfl sc.nd (.cons rfl (by first | exact Or.inl rfl | exact Or.inr rfl) (by first | exact .inl rfl | exact .inr rfl) (.cons rfl (by first | exact Or.inl rfl | exact Or.inr rfl) (by first | exact .inl rfl | exact .inr rfl) (.nil))))) (pzs_cons (pz_set 3 (px_bin op_addS s2_addS (px_lc (own := [("_law_at", 4)]) rfl sc.nd (pix_rng1 (by rfl) fs.z_range (px_bin op_subA (s2_ii yes2 (· - ·)) (px_var 1) (px_int))) (blkOk_by (by kernel_rfl)) (fun _ _ _ _ _ => pgx_nm 4 sc.nd) (fun _ _ _ _ _ => ptx_nil) (fun _ _ _ _ _ => px_tup (hz := (by decide : (2 : Nat) ≤ sizeLine)) (pxa_cons (px_var 4) (pxa_cons (px_bin op_addS s2_addS (px_var 4) (px_int)) (pxa_nil))))) (px_lst (hz := (by decide : (1 : Nat) ≤ sizeLine)) (pxa_cons (px_tup (hz := (by decide : (2 : Nat) ≤ sizeLine)) (pxa_cons (px_int) (pxa_cons (px_bin op_subA (s2_ii yes2 (· - ·)) (px_var 1) (px_int)) (pxa_nil)))) (pxa_nil)))) sc.nd) (pzs_one (pz_ret (px_sortSet (hu65 hr) rfl (by rfl) fs.z_sorted bb_sorted (by rfl) fs.z_set bb_set (px_bin op_addS s2_addS (px_t1 call_list_of s1_list (by rfl) fs.z_list bb_list (px_var 2)) (px_var 3))))))) (fun _ _ _ => rfl)
theorem sc__law_both : FnScope ["_law_one", "_law_two", "_law_middle", "_law_last", "_law_cuts_here", "_law_first", "_law_second", "_law_cut"] ["_law_one", "_law_two"] (defScope (topS 68)) := ⟨rfl, rfl, rfl, by decide +kernel, rfl, by decide +kernel, by decide +kernel⟩
def m__law_both  : SM := seqM (par2M 2 3 (op2 subF (op2 ixA (rdV 0) (ret (.d (.int 0)))) (ret (.d (.int 1)))) (op2 subF (op2 addS (op2 ixA (rdV 0) (ret (.d (.int 0)))) (op2 ixA (rdV 1) (ret (.d (.int 0))))) (ret (.d (.int 2))))) (seqM (setM 4 (op2 addS (op2 addS (op1 listF (op2 ixA (rdV 0) (ret (.d (.int 1))))) (lcM (anyI (op2 ixA (rdV 1) (ret (.d (.int 1))))) (.tp [5, 6]) (ret true) (tupM [op2 addS (rdV 5) (rdV 2), op2 addS (rdV 6) (rdV 2)]) [5, 6])) (lstM [tupM [ret (.d (.int 0)), rdV 2], tupM [rdV 2, rdV 3]]))) (retM (tupM [op2 addS (rdV 3) (ret (.d (.int 1))), op1 tupF (op1 sortF (lcM (anyI (rdV 4)) (.nm 7) (cmp2 gtA (op2 subF (op2 ixA (rdV 7) (ret (.d (.int 1)))) (op2 ixA (rdV 7) (ret (.d (.int 0))))) (ret (.d (.int 1)))) (rdV 7) [7]))])))
def F__law_both : List PyData → FR := runF m__law_both 8
theorem ok__law_both (fs : FS K mg) : FnOk P w K mg base (L2.CX P w) 1 fs.f__law_both fs.fd__law_both ["_law_one", "_law_two"] (spF K [] mg 2 F__law_both) :=
  have sc := sc__law_both
  fn_pure fs.F__law_both sc (z := m__law_both) (fun cdv A outer s H E hr tk => pzs_cons (pz_tpar2 2 3 (px_bin op_subA (s2_ii yes2 (· - ·)) (px_ixA (hu65 hr) (px_var 0) (px_int)) (px_int)) (px_bin op_subA (s2_ii yes2 (· - ·)) (px_bin op_addS s2_addS (px_ixA (hu65 hr) (px_var 0) (px_int)) (px_ixA (hu65 hr) (px_var 1) (px_int))) (px_int)) rfl sc.nd (.cons rfl (by first | exact Or.inl rfl | exact Or.inr rfl) (by first | exact .inl rfl | exact .inr rfl) (.cons rfl (by first | exact Or.inl rfl | exact Or.inr rfl) (by first | exact .inl rfl | exact .inr rfl) (.nil))) (by decide)) (pzs_cons (pz_set 4 (px_bin op_addS s2_addS (px_bin op_addS s2_addS (px_t1 call_list_of s1_list (by rfl) fs.z_list bb_list (px_ixA (hu65 hr) (px_var 0) (px_int))) (px_lc (own := [("_law_first", 5), ("_law_second", 6)]) rfl sc.nd (pix_any (px_ixA (hu65 hr) (px_var 1) (px_int))) (blkOk_by (by kernel_rfl)) (fun _ _ _ _ _ => pgx_tp rfl sc.nd (.cons rfl (by first | exact Or.inl rfl | exact Or.inr rfl) (by first | exact .inl rfl | exact .inr rfl) (.cons rfl (by first | exact Or.inl rfl | exact Or.inr rfl) (by first | exact .inl rfl | exact .inr rfl) (.nil)))) (fun _ _ _ _ _ => ptx_nil) (fun _ _ _ _ _ => px_tup (hz := (by decide : (2 : Nat) ≤ sizeLine)) (pxa_cons (px_bin op_addS s2_addS (px_var 5) (px_var 2)) (pxa_cons (px_bin op_addS s2_addS (px_var 6) (px_var 2)) (pxa_nil)))))) (px_lst (hz := (by decide : (2 : Nat) ≤ sizeLine)) (pxa_cons (px_tup (hz := (by decide : (2 : Nat) ≤ sizeLine)) (pxa_cons (px_int) (pxa_cons (px_var 2) (pxa_nil)))) (pxa_cons (px_tup (hz := (by decide : (2 : Nat) ≤ sizeLine)) (pxa_cons (px_var 2) (pxa_cons (px_var 3) (pxa_nil)))) (pxa_nil))))) sc.nd) (pzs_one (pz_ret (px_tup (hz := (by decide : (2 : Nat) ≤ sizeLine)) (pxa_cons (px_bin op_addS s2_addS (px_var 3) (px_int)) (pxa_cons (px_t1 call_tuple_of s1_tup (by rfl) fs.z_tuple bb_tuple (px_b1 (cr_sortD (hu65 hr)) s1_sort (by rfl) fs.z_sorted bb_sorted (px_lc (own := [("_law_cut", 7)]) rfl sc.nd (pix_any (px_var 4)) (blkOk_by (by kernel_rfl)) (fun _ _ _ _ _ => pgx_nm 7 sc.nd) (fun _ _ _ _ _ => ptx_one (pxt_cmp (op_gtAll (hu65 hr)) (sB_cmp _ _) (px_bin op_subA (s2_ii yes2 (· - ·)) (px_ixA (hu65 hr) (px_var 7) (px_int)) (px_ixA (hu65 hr) (px_var 7) (px_int))) (px_int) (nomark _))) (fun _ _ _ _ _ => px_var 7)))) (pxa_nil)))))))) (fun _ _ _ => rfl)
theorem sc__law_is_last : FnScope ["_law_cutting_here", "_law_block", "_law_corner", "_law_last"] ["_law_cutting_here", "_law_block"] (defScope (topS 70)) := ⟨rfl, rfl, rfl, by decide +kernel, rfl, by decide +kernel, by decide +kernel⟩
def m__law_is_last  : SM := seqM (par2M 2 3 (op2 addS (op2 ixA (rdV 1) (op1 negF (ret (.d (.int 1))))) (ret (.d (.int 1)))) (op2 subF (op2 ixA (rdV 0) (ret (.d (.int 0)))) (ret (.d (.int 1))))) (retM (bv (cmp2 (inF false) (tupM [rdV 2, rdV 3]) (callM F__law_ties [rdV 0]))))
def F__law_is_last : List PyData → FR := runF m__law_is_last 4
theorem ok__law_is_last (fs : FS K mg) : FnOk P w K mg base (L2.CX P w) 2 fs.f__law_is_last fs.fd__law_is_last ["_law_cutting_here", "_law_block"] (spF K [] mg 2 F__law_is_last) :=
  have sc := sc__law_is_last
  fn_pure fs.F__law_is_last sc (z := m__law_is_last) (fun cdv A outer s H E hr tk => pzs_cons (pz_par2 2 3 (px_bin op_addS s2_addS (px_ixA (hu65 hr) (px_var 1) (px_un un_neg s1_neg (px_int))) (px_int)) (px_bin op_subA (s2_ii yes2 (· - ·)) (px_ixA (hu65 hr) (px_var 0) (px_int)) (px_int)) rfl sc.nd rfl rfl (by decide) rfl rfl (by rfl)) (pzs_one (pz_ret (px_cmp (op_inA (hu65 hr)) sB_in (px_tup (hz := (by decide : (2 : Nat) ≤ sizeLine)) (pxa_cons (px_var 2) (pxa_cons (px_var 3) (pxa_nil)))) (px_call (ok__law_ties fs) (hr.mono (by omega)) (by rfl) fs.m__law_ties fs.F__law_ties.kp fs.b__law_ties tk (pxa_cons (px_var 0) (pxa_nil))) (by rfl))))) (fun _ _ _ => rfl)
theorem sc__law_blocks : FnScope ["_law_one", "_law_two", "_law_mine", "_law_yours", "_law_middle", "_law_found", "_law_top", "_law_block", "_law_fresh", "_law_point"] ["_law_one", "_law_two", "_law_mine", "_law_yours"] (defScope (topS 69)) := ⟨rfl, rfl, rfl, by decide +kernel, rfl, by decide +kernel, by decide +kernel⟩
def m__law_blocks  : SM := seqM (par3M 4 5 6 (op2 subF (op2 ixA (rdV 0) (ret (.d (.int 0)))) (ret (.d (.int 1)))) (op1 listF (rdV 2)) (tupM [op2 subF (op2 ixA (rdV 0) (ret (.d (.int 0)))) (ret (.d (.int 2)))])) (seqM (forM (anyI (rdV 3)) (.nm 7) (seqM (setM 8 (op1 tupF (lcM (anyI (rdV 7)) (.nm 9) (ret true) (op2 addS (rdV 9) (rdV 4)) [9]))) (iteM (andM (cmp2 (inF false) (op2 subF (op2 ixA (rdV 1) (ret (.d (.int 0)))) (ret (.d (.int 3)))) (rdV 7)) (truM (callM F__law_is_last [rdV 1, rdV 7]))) (setM 6 (op2 addS (rdV 6) (rdV 8))) (exprM (appM 5 (rdV 8)))))) (retM (op1 tupF (op1 sortF (op2 addS (rdV 5) (lstM [rdV 6]))))))
def F__law_blocks : List PyData → FR := runF m__law_blocks 10
theorem ok__law_blocks (fs : FS K mg) : FnOk P w K mg base (L2.CX P w) 3 fs.f__law_blocks fs.fd__law_blocks ["_law_one", "_law_two", "_law_mine", "_law_yours"] (spF K [] mg 4 F__law_blocks) :=
  have sc := sc__law_blocks
  fn_pure fs.F__law_blocks sc (z := m__law_blocks) (fun cdv A outer s H E hr tk => pzs_cons (pz_tpar3 4 5 6 (px_bin op_subA (s2_ii yes2 (· - ·)) (px_ixA (hu65 hr) (px_var 0) (px_int)) (px_int)) (px_t1 call_list_of s1_list (by rfl) fs.z_list bb_list (px_var 2)) (px_tup (hz := (by decide : (1 : Nat) ≤ sizeLine)) (pxa_cons (px_bin op_subA (s2_ii yes2 (· - ·)) (px_ixA (hu65 hr) (px_var 0) (px_int)) (px_int)) (pxa_nil))) rfl sc.nd (.cons rfl (by first | exact Or.inl rfl | exact Or.inr rfl) (by first | exact .inl rfl | exact .inr rfl) (.cons rfl (by first | exact Or.inl rfl | exact Or.inr rfl) (by first | exact .inl rfl | exact .inr rfl) (.cons rfl (by first | exact Or.inl rfl | exact Or.inr rfl) (by first | exact .inl rfl | exact .inr rfl) (.nil)))) (by decide) (by decide) (by decide)) (pzs_cons (pz_for (passes_of rfl) rfl (pix_any (px_var 3)) (pgx_nm 7 sc.nd) (pzs_cons (pz_set 8 (px_t1 call_tuple_of s1_tup (by rfl) fs.z_tuple bb_tuple (px_lc (own := [("_law_point", 9)]) rfl sc.nd (pix_any (px_var 7)) (blkOk_by (by kernel_rfl)) (fun _ _ _ _ _ => pgx_nm 9 sc.nd) (fun _ _ _ _ _ => ptx_nil) (fun _ _ _ _ _ => px_bin op_addS s2_addS (px_var 9) (px_var 4)))) sc.nd) (pzs_one (pz_if (PW.pt (pxw_and (pxt_cmp (op_inA (hu65 hr)) sB_in (px_bin op_subA (s2_ii yes2 (· - ·)) (px_ixA (hu65 hr) (px_var 1) (px_int)) (px_int)) (px_var 7) (by rfl)) (pxw_and1 (pxt_tru (px_call (ok__law_is_last fs) (hr.mono (by omega)) (by rfl) fs.m__law_is_last fs.F__law_is_last.kp fs.b__law_is_last tk (pxa_cons (px_var 1) (pxa_cons (px_var 7) (pxa_nil)))))))) (pzs_one (pz_set 6 (px_bin op_addS s2_addS (px_var 6) (px_var 8)) sc.nd)) (pzs_one (pz_expr (px_append 5 (px_var 8)))))))) (pzs_one (pz_ret (px_t1 call_tuple_of s1_tup (by rfl) fs.z_tuple bb_tuple (px_b1 (cr_sortD (hu65 hr)) s1_sort (by rfl) fs.z_sorted bb_sorted (px_bin op_addS s2_addS (px_var 5) (px_lst (hz := (by decide : (1 : Nat) ≤ sizeLine)) (pxa_cons (px_var 6) (pxa_nil)))))))))) (fun _ _ _ => rfl)
theorem sc__law_number_across : FnScope ["_law_mine", "_law_yours", "_law_i", "_law_j", "_law_middle", "_law_last"] ["_law_mine", "_law_yours", "_law_i", "_law_j"] (defScope (topS 71)) := ⟨rfl, rfl, rfl, by decide +kernel, rfl, by decide +kernel, by decide +kernel⟩
def m__law_number_across  : SM := seqM (par2M 4 5 (op2 subF (op1 lenF (rdV 0)) (ret (.d (.int 1)))) (op2 subF (op1 lenF (rdV 1)) (ret (.d (.int 1))))) (retM (op2 addS (op2 mulF (op2 ixA (op2 ixA (rdV 0) (ret (.d (.int 0)))) (rdV 2)) (op2 ixA (op2 ixA (rdV 1) (ret (.d (.int 0)))) (rdV 3))) (op2 mulF (op2 addS (op2 ixA (op2 ixA (rdV 1) (rdV 3)) (rdV 5)) (op2 ixA (op2 ixA (rdV 1) (ret (.d (.int 0)))) (rdV 3))) (op2 ixA (op2 ixA (rdV 0) (rdV 2)) (rdV 4)))))
def F__law_number_across : List PyData → FR := runF m__law_number_across 6
theorem ok__law_number_across (fs : FS K mg) : FnOk P w K mg base (L2.CX P w) 1 fs.f__law_number_across fs.fd__law_number_across ["_law_mine", "_law_yours", "_law_i", "_law_j"] (spF K [] mg 4 F__law_number_across) :=
  have sc := sc__law_number_across
  fn_pure fs.F__law_number_across sc (z := m__law_number_across) (fun cdv A outer s H E hr tk => pzs_cons (pz_par2 4 5 (px_bin op_subA (s2_ii yes2 (· - ·)) (px_b1 cr_lenD s1_len (by rfl) fs.z_len bb_len (px_var 0)) (px_int)) (px_bin op_subA (s2_ii yes2 (· - ·)) (px_b1 cr_lenD s1_len (by rfl) fs.z_len bb_len (px_var 1)) (px_int)) rfl sc.nd rfl rfl (by decide) rfl rfl (by rfl)) (pzs_one (pz_ret (px_bin op_addS s2_addS (px_bin op_mul' s2_mul (px_ixA (hu65 hr) (px_ixA (hu65 hr) (px_var 0) (px_int)) (px_var 2)) (px_ixA (hu65 hr) (px_ixA (hu65 hr) (px_var 1) (px_int)) (px_var 3))) (px_bin op_mul' s2_mul (px_bin op_addS s2_addS (px_ixA (hu65 hr) (px_ixA (hu65 hr) (px_var 1) (px_var 3)) (px_var 5)) (px_ixA (hu65 hr) (px_ixA (hu65 hr) (px_var 1) (px_int)) (px_var 3))) (px_ixA (hu65 hr) (px_ixA (hu65 hr) (px_var 0) (px_var 2)) (px_var 4))))))) (fun _ _ _ => rfl)
theorem sc__law_right : FnScope ["_law_one", "_law_two", "_law_whole", "_law_middle", "_law_left", "_law_right_here", "_law_due", "_law_mine", "_law_yours", "_law_lines", "_law_i", "_law_j", "_law_line"] ["_law_one", "_law_two"] (defScope (topS 72)) := ⟨rfl, rfl, rfl, by decide +kernel, rfl, by decide +kernel, by decide +kernel⟩
def m__law_right  : SM := seqM (par2M 2 3 (callM F__law_both [rdV 0, rdV 1]) (op2 subF (op2 ixA (rdV 0) (ret (.d (.int 0)))) (ret (.d (.int 1))))) (seqM (iteM (orM (cmp2 notBF (callM T_is_cutting [rdV 2]) (ret (.d (.bool true)))) (cmp2 neF (callM T_tree_of [rdV 2]) (tupM [callM T_tree_of [rdV 0], callM T_tree_of [rdV 1]]))) (retM (ret (.d (.bool false)))) (skipM)) (seqM (iteM (cmp2 neF (callM T_mountain [callM T_tree_of [rdV 2]]) (op2 addS (op2 addS (op2 addS (ret (.d (.str "u"))) (callM T_mountain [callM T_tree_of [rdV 0]])) (ret (.d (.str "d")))) (callM T_mountain [callM T_tree_of [rdV 1]]))) (retM (ret (.d (.bool false)))) (skipM)) (seqM (iteM (cmp2 neF (callM T_reaches [callM T_tree_of [rdV 2]]) (op2 addS (op2 addS (callM T_reaches [callM T_tree_of [rdV 0]]) (tupM [op2 subF (op2 ixA (rdV 1) (ret (.d (.int 0)))) (ret (.d (.int 2)))])) (callM T_reaches [callM T_tree_of [rdV 1]]))) (retM (ret (.d (.bool false)))) (skipM)) (seqM (par2M 4 5 (op1 listF (callM T_counts_at [rdV 0])) (op1 listF (callM T_counts_at [rdV 1]))) (seqM (setM 6 (op2 addS (op2 addS (op2 addS (op2 addS (lstM [op2 addS (op2 ixA (rdV 4) (ret (.d (.int 0)))) (ret (.d (.int 1)))]) (slM (rdV 4) (some (ret (.d (.int 1)))) (some (op1 negF (ret (.d (.int 1))))))) (lstM [op2 addS (op2 addS (op2 ixA (rdV 4) (op1 negF (ret (.d (.int 1))))) (ret (.d (.int 1)))) (op2 ixA (rdV 5) (ret (.d (.int 0))))])) (slM (rdV 5) (some (ret (.d (.int 1)))) (some (op1 negF (ret (.d (.int 1))))))) (lstM [op2 addS (op2 ixA (rdV 5) (op1 negF (ret (.d (.int 1))))) (ret (.d (.int 1)))]))) (seqM (iteM (orM (cmp2 neF (op1 listF (callM T_counts_at [rdV 2])) (rdV 6)) (cmp2 neF (callM T_parting_of [rdV 2]) (callM F__law_blocks [rdV 0, rdV 1, callM T_parting_of [rdV 0], callM T_parting_of [rdV 1]]))) (retM (ret (.d (.bool false)))) (skipM)) (seqM (par3M 7 8 9 (callM T_frieze [rdV 0]) (callM T_frieze [rdV 1]) (callM T_frieze [rdV 2])) (seqM (iteM (cmp2 neF (lcM (anyI (slM (rdV 9) none (some (op2 ixA (rdV 0) (ret (.d (.int 0))))))) (.nm 12) (ret true) (op1 listF (slM (rdV 12) none (some (op2 ixA (rdV 0) (ret (.d (.int 0))))))) [12]) (lcM (anyI (rdV 7)) (.nm 12) (ret true) (op1 listF (rdV 12)) [12])) (retM (ret (.d (.bool false)))) (skipM)) (seqM (iteM (cmp2 neF (lcM (anyI (slM (rdV 9) (some (rdV 3)) none)) (.nm 12) (ret true) (op1 listF (slM (rdV 12) (some (rdV 3)) none)) [12]) (lcM (anyI (rdV 8)) (.nm 12) (ret true) (op1 listF (rdV 12)) [12])) (retM (ret (.d (.bool false)))) (skipM)) (seqM (forM (rng1I (op2 ixA (rdV 0) (ret (.d (.int 0))))) (.nm 10) (forM (rng2I (ret (.d (.int 1))) (op2 ixA (rdV 1) (ret (.d (.int 0))))) (.nm 11) (seqM (setM 6 (callM F__law_number_across [rdV 7, rdV 8, rdV 10, rdV 11])) (iteM (cmp2 neF (op2 ixA (op2 ixA (rdV 9) (rdV 10)) (op2 addS (rdV 11) (rdV 3))) (rdV 6)) (retM (ret (.d (.bool false)))) (skipM))))) (seqM (par2M 10 11 (op2 fdivF (op2 ixA (rdV 0) (ret (.d (.int 0)))) (ret (.d (.int 2)))) (op2 fdivF (op2 ixA (rdV 1) (ret (.d (.int 0)))) (ret (.d (.int 2))))) (retM (bv (cmp2 eqF (callM T_count_pairings [rdV 2, tupM [rdV 10, op2 addS (rdV 11) (rdV 3)]]) (callM F__law_number_across [rdV 7, rdV 8, rdV 10, rdV 11])))))))))))))))
def F__law_right : List PyData → FR := runF m__law_right 13
theorem ok__law_right (fs : FS K mg) : FnOk P w K mg base (L2.CX P w) 124 fs.f__law_right fs.fd__law_right ["_law_one", "_law_two"] (spF K [] mg 2 F__law_right) :=
  have sc := sc__law_right
  fn_pure fs.F__law_right sc (z := m__law_right) (fun cdv A outer s H E hr tk => pzs_cons (pz_tpar2 2 3 (px_call (ok__law_both fs) (hr.mono (by omega)) (by rfl) fs.m__law_both fs.F__law_both.kp fs.b__law_both tk (pxa_cons (px_var 0) (pxa_cons (px_var 1) (pxa_nil)))) (px_bin op_subA (s2_ii yes2 (· - ·)) (px_ixA (hu65 hr) (px_var 0) (px_int)) (px_int)) rfl sc.nd (.cons rfl (by first | exact Or.inl rfl | exact Or.inr rfl) (by first | exact .inl rfl | exact .inr rfl) (.cons rfl (by first | exact Or.inl rfl | exact Or.inr rfl) (by first | exact .inl rfl | exact .inr rfl) (.nil))) (by decide)) (pzs_cons (pz_if (PW.pt (pxw_or (pxt_cmp op_notBl sB_notB (px_call (okt_is_cutting fs) (hr.mono (by omega)) (by rfl) fs.m_is_cutting fs.F_is_cutting.kp fs.b_is_cutting tk (pxa_cons (px_var 2) (pxa_nil))) (px_bl) (nomark _)) (pxw_or1 (pxt_cmp (op_neD (hu64 hr)) sB_ne (px_call (okt_tree_of fs) (hr.mono (by omega)) (by rfl) fs.m_tree_of fs.F_tree_of.kp fs.b_tree_of tk (pxa_cons (px_var 2) (pxa_nil))) (px_tup (hz := (by decide : (2 : Nat) ≤ sizeLine)) (pxa_cons (px_call (okt_tree_of fs) (hr.mono (by omega)) (by rfl) fs.m_tree_of fs.F_tree_of.kp fs.b_tree_of tk (pxa_cons (px_var 0) (pxa_nil))) (pxa_cons (px_call (okt_tree_of fs) (hr.mono (by omega)) (by rfl) fs.m_tree_of fs.F_tree_of.kp fs.b_tree_of tk (pxa_cons (px_var 1) (pxa_nil))) (pxa_nil)))) (nomark _))))) (pzs_one (pz_ret (px_bl))) (pzs_nil)) (pzs_cons (pz_if (pxt_cmp (op_neD (hu64 hr)) sB_ne (px_call (okt_mountain fs) (hr.mono (by omega)) (by rfl) fs.m_mountain fs.F_mountain.kp fs.b_mountain tk (pxa_cons (px_call (okt_tree_of fs) (hr.mono (by omega)) (by rfl) fs.m_tree_of fs.F_tree_of.kp fs.b_tree_of tk (pxa_cons (px_var 2) (pxa_nil))) (pxa_nil))) (px_bin op_addS s2_addS (px_bin op_addS s2_addS (px_bin op_addS s2_addS (px_str) (px_call (okt_mountain fs) (hr.mono (by omega)) (by rfl) fs.m_mountain fs.F_mountain.kp fs.b_mountain tk (pxa_cons (px_call (okt_tree_of fs) (hr.mono (by omega)) (by rfl) fs.m_tree_of fs.F_tree_of.kp fs.b_tree_of tk (pxa_cons (px_var 0) (pxa_nil))) (pxa_nil)))) (px_str)) (px_call (okt_mountain fs) (hr.mono (by omega)) (by rfl) fs.m_mountain fs.F_mountain.kp fs.b_mountain tk (pxa_cons (px_call (okt_tree_of fs) (hr.mono (by omega)) (by rfl) fs.m_tree_of fs.F_tree_of.kp fs.b_tree_of tk (pxa_cons (px_var 1) (pxa_nil))) (pxa_nil)))) (nomark _)) (pzs_one (pz_ret (px_bl))) (pzs_nil)) (pzs_cons (pz_if (pxt_cmp (op_neD (hu64 hr)) sB_ne (px_call (okt_reaches fs) (hr.mono (by omega)) (by rfl) fs.m_reaches fs.F_reaches.kp fs.b_reaches tk (pxa_cons (px_call (okt_tree_of fs) (hr.mono (by omega)) (by rfl) fs.m_tree_of fs.F_tree_of.kp fs.b_tree_of tk (pxa_cons (px_var 2) (pxa_nil))) (pxa_nil))) (px_bin op_addS s2_addS (px_bin op_addS s2_addS (px_call (okt_reaches fs) (hr.mono (by omega)) (by rfl) fs.m_reaches fs.F_reaches.kp fs.b_reaches tk (pxa_cons (px_call (okt_tree_of fs) (hr.mono (by omega)) (by rfl) fs.m_tree_of fs.F_tree_of.kp fs.b_tree_of tk (pxa_cons (px_var 0) (pxa_nil))) (pxa_nil))) (px_tup (hz := (by decide : (1 : Nat) ≤ sizeLine)) (pxa_cons (px_bin op_subA (s2_ii yes2 (· - ·)) (px_ixA (hu65 hr) (px_var 1) (px_int)) (px_int)) (pxa_nil)))) (px_call (okt_reaches fs) (hr.mono (by omega)) (by rfl) fs.m_reaches fs.F_reaches.kp fs.b_reaches tk (pxa_cons (px_call (okt_tree_of fs) (hr.mono (by omega)) (by rfl) fs.m_tree_of fs.F_tree_of.kp fs.b_tree_of tk (pxa_cons (px_var 1) (pxa_nil))) (pxa_nil)))) (nomark _)) (pzs_one (pz_ret (px_bl))) (pzs_nil)) (pzs_cons (pz_par2 4 5 (px_t1 call_list_of s1_list (by rfl) fs.z_list bb_list (px_call (okt_counts_at fs) (hr.mono (by omega)) (by rfl) fs.m_counts_at fs.F_counts_at.kp fs.b_counts_at tk (pxa_cons (px_var 0) (pxa_nil)))) (px_t1 call_list_of s1_list (by rfl) fs.z_list bb_list (px_call (okt_counts_at fs) (hr.mono (by omega)) (by rfl) fs.m_counts_at fs.F_counts_at.kp fs.b_counts_at tk (pxa_cons (px_var 1) (pxa_nil)))) rfl sc.nd rfl rfl (by decide) rfl rfl (by rfl)) (pzs_cons (pz_set 6 (px_bin op_addS s2_addS (px_bin op_addS s2_addS (px_bin op_addS s2_addS (px_bin op_addS s2_addS (px_lst (hz := (by decide : (1 : Nat) ≤ sizeLine)) (pxa_cons (px_bin op_addS s2_addS (px_ixA (hu65 hr) (px_var 4) (px_int)) (px_int)) (pxa_nil))) (px_sl (px_var 4) (.some (px_int)) (.some (px_un un_neg s1_neg (px_int))))) (px_lst (hz := (by decide : (1 : Nat) ≤ sizeLine)) (pxa_cons (px_bin op_addS s2_addS (px_bin op_addS s2_addS (px_ixA (hu65 hr) (px_var 4) (px_un un_neg s1_neg (px_int))) (px_int)) (px_ixA (hu65 hr) (px_var 5) (px_int))) (pxa_nil)))) (px_sl (px_var 5) (.some (px_int)) (.some (px_un un_neg s1_neg (px_int))))) (px_lst (hz := (by decide : (1 : Nat) ≤ sizeLine)) (pxa_cons (px_bin op_addS s2_addS (px_ixA (hu65 hr) (px_var 5) (px_un un_neg s1_neg (px_int))) (px_int)) (pxa_nil)))) sc.nd) (pzs_cons (pz_if (PW.pt (pxw_or (pxt_cmp (op_neD (hu64 hr)) sB_ne (px_t1 call_list_of s1_list (by rfl) fs.z_list bb_list (px_call (okt_counts_at fs) (hr.mono (by omega)) (by rfl) fs.m_counts_at fs.F_counts_at.kp fs.b_counts_at tk (pxa_cons (px_var 2) (pxa_nil)))) (px_var 6) (nomark _)) (pxw_or1 (pxt_cmp (op_neD (hu64 hr)) sB_ne (px_call (okt_parting_of fs) (hr.mono (by omega)) (by rfl) fs.m_parting_of fs.F_parting_of.kp fs.b_parting_of tk (pxa_cons (px_var 2) (pxa_nil))) (px_call (ok__law_blocks fs) (hr.mono (by omega)) (by rfl) fs.m__law_blocks fs.F__law_blocks.kp fs.b__law_blocks tk (pxa_cons (px_var 0) (pxa_cons (px_var 1) (pxa_cons (px_call (okt_parting_of fs) (hr.mono (by omega)) (by rfl) fs.m_parting_of fs.F_parting_of.kp fs.b_parting_of tk (pxa_cons (px_var 0) (pxa_nil))) (pxa_cons (px_call (okt_parting_of fs) (hr.mono (by omega)) (by rfl) fs.m_parting_of fs.F_parting_of.kp fs.b_parting_of tk (pxa_cons (px_var 1) (pxa_nil))) (pxa_nil)))))) (nomark _))))) (pzs_one (pz_ret (px_bl))) (pzs_nil)) (pzs_cons (pz_par3 7 8 9 (px_call (okt_frieze fs) (hr.mono (by omega)) (by rfl) fs.m_frieze fs.F_frieze.kp fs.b_frieze tk (pxa_cons (px_var 0) (pxa_nil))) (px_call (okt_frieze fs) (hr.mono (by omega)) (by rfl) fs.m_frieze fs.F_frieze.kp fs.b_frieze tk (pxa_cons (px_var 1) (pxa_nil))) (px_call (okt_frieze fs) (hr.mono (by omega)) (by rfl) fs.m_frieze fs.F_frieze.kp fs.b_frieze tk (pxa_cons (px_var 2) (pxa_nil))) rfl sc.nd rfl rfl rfl (by decide) (by decide) (by decide) rfl rfl rfl (by rfl)) (pzs_cons (pz_if (pxt_cmp (op_neD (hu64 hr)) sB_ne (px_lc (own := [("_law_line", 12)]) rfl sc.nd (pix_any (px_sl (px_var 9) .none (.some (px_ixA (hu65 hr) (px_var 0) (px_int))))) (blkOk_by (by kernel_rfl)) (fun _ _ _ _ _ => pgx_nm 12 sc.nd) (fun _ _ _ _ _ => ptx_nil) (fun _ _ _ _ _ => px_t1 call_list_of s1_list (by rfl) fs.z_list bb_list (px_sl (px_var 12) .none (.some (px_ixA (hu65 hr) (px_var 0) (px_int)))))) (px_lc (own := [("_law_line", 12)]) rfl sc.nd (pix_any (px_var 7)) (blkOk_by (by kernel_rfl)) (fun _ _ _ _ _ => pgx_nm 12 sc.nd) (fun _ _ _ _ _ => ptx_nil) (fun _ _ _ _ _ => px_t1 call_list_of s1_list (by rfl) fs.z_list bb_list (px_var 12))) (nomark _)) (pzs_one (pz_ret (px_bl))) (pzs_nil)) (pzs_cons (pz_if (pxt_cmp (op_neD (hu64 hr)) sB_ne (px_lc (own := [("_law_line", 12)]) rfl sc.nd (pix_any (px_sl (px_var 9) (.some (px_var 3)) .none)) (blkOk_by (by kernel_rfl)) (fun _ _ _ _ _ => pgx_nm 12 sc.nd) (fun _ _ _ _ _ => ptx_nil) (fun _ _ _ _ _ => px_t1 call_list_of s1_list (by rfl) fs.z_list bb_list (px_sl (px_var 12) (.some (px_var 3)) .none))) (px_lc (own := [("_law_line", 12)]) rfl sc.nd (pix_any (px_var 8)) (blkOk_by (by kernel_rfl)) (fun _ _ _ _ _ => pgx_nm 12 sc.nd) (fun _ _ _ _ _ => ptx_nil) (fun _ _ _ _ _ => px_t1 call_list_of s1_list (by rfl) fs.z_list bb_list (px_var 12))) (nomark _)) (pzs_one (pz_ret (px_bl))) (pzs_nil)) (pzs_cons (pz_for (passes_of rfl) rfl (pix_rng1 (by rfl) fs.z_range (px_ixA (hu65 hr) (px_var 0) (px_int))) (pgx_nm 10 sc.nd) (pzs_one (pz_for (passes_of rfl) rfl (pix_rng2 (by rfl) fs.z_range (px_int) (px_ixA (hu65 hr) (px_var 1) (px_int))) (pgx_nm 11 sc.nd) (pzs_cons (pz_set 6 (px_call (ok__law_number_across fs) (hr.mono (by omega)) (by rfl) fs.m__law_number_across fs.F__law_number_across.kp fs.b__law_number_across tk (pxa_cons (px_var 7) (pxa_cons (px_var 8) (pxa_cons (px_var 10) (pxa_cons (px_var 11) (pxa_nil)))))) sc.nd) (pzs_one (pz_if (pxt_cmp (op_neD (hu64 hr)) sB_ne (px_ixA (hu65 hr) (px_ixA (hu65 hr) (px_var 9) (px_var 10)) (px_bin op_addS s2_addS (px_var 11) (px_var 3))) (px_var 6) (nomark _)) (pzs_one (pz_ret (px_bl))) (pzs_nil))))))) (pzs_cons (pz_par2 10 11 (px_bin op_fdivA (s2_ii divOk Int.fdiv) (px_ixA (hu65 hr) (px_var 0) (px_int)) (px_int)) (px_bin op_fdivA (s2_ii divOk Int.fdiv) (px_ixA (hu65 hr) (px_var 1) (px_int)) (px_int)) rfl sc.nd rfl rfl (by decide) rfl rfl (by rfl)) (pzs_one (pz_ret (px_cmp (op_eqD (hu64 hr)) sB_eq (px_call (okt_count_pairings fs) (hr.mono (by omega)) (by rfl) fs.m_count_pairings fs.F_count_pairings.kp fs.b_count_pairings tk (pxa_cons (px_var 2) (pxa_cons (px_tup (hz := (by decide : (2 : Nat) ≤ sizeLine)) (pxa_cons (px_var 10) (pxa_cons (px_bin op_addS s2_addS (px_var 11) (px_var 3)) (pxa_nil)))) (pxa_nil)))) (px_call (ok__law_number_across fs) (hr.mono (by omega)) (by rfl) fs.m__law_number_across fs.F__law_number_across.kp fs.b__law_number_across tk (pxa_cons (px_var 7) (pxa_cons (px_var 8) (pxa_cons (px_var 10) (pxa_cons (px_var 11) (pxa_nil)))))) (nomark _)))))))))))))))) (fun _ _ _ => rfl)
def tab__law_right : List (List PyData × TV) := [
  ([.tuple [.int 3, .tuple []], .tuple [.int 3, .tuple []]], .d (.bool true)),
  ([.tuple [.int 3, .tuple []], .tuple [.int 4, .tuple [.tuple [.int 1, .int 3]]]], .d (.bool true)),
  ([.tuple [.int 3, .tuple []], .tuple [.int 4, .tuple [.tuple [.int 0, .int 2]]]], .d (.bool true)),
  ([.tuple [.int 3, .tuple []], .tuple [.int 5, .tuple [.tuple [.int 1, .int 4], .tuple [.int 2, .int 4]]]], .d (.bool true)),
  ([.tuple [.int 3, .tuple []], .tuple [.int 5, .tuple [.tuple [.int 1, .int 3], .tuple [.int 1, .int 4]]]], .d (.bool true)),
  ([.tuple [.int 3, .tuple []], .tuple [.int 5, .tuple [.tuple [.int 0, .int 2], .tuple [.int 2, .int 4]]]], .d (.bool true)),
  ([.tuple [.int 3, .tuple []], .tuple [.int 5, .tuple [.tuple [.int 0, .int 3], .tuple [.int 1, .int 3]]]], .d (.bool true)),
  ([.tuple [.int 3, .tuple []], .tuple [.int 5, .tuple [.tuple [.int 0, .int 2], .tuple [.int 0, .int 3]]]], .d (.bool true)),
  ([.tuple [.int 4, .tuple [.tuple [.int 1, .int 3]]], .tuple [.int 3, .tuple []]], .d (.bool true)),
  ([.tuple [.int 4, .tuple [.tuple [.int 1, .int 3]]], .tuple [.int 4, .tuple [.tuple [.int 1, .int 3]]]], .d (.bool true)),
  ([.tuple [.int 4, .tuple [.tuple [.int 1, .int 3]]], .tuple [.int 4, .tuple [.tuple [.int 0, .int 2]]]], .d (.bool true)),
  ([.tuple [.int 4, .tuple [.tuple [.int 1, .int 3]]], .tuple [.int 5, .tuple [.tuple [.int 1, .int 4], .tuple [.int 2, .int 4]]]], .d (.bool true)),
  ([.tuple [.int 4, .tuple [.tuple [.int 1, .int 3]]], .tuple [.int 5, .tuple [.tuple [.int 1, .int 3], .tuple [.int 1, .int 4]]]], .d (.bool true)),
  ([.tuple [.int 4, .tuple [.tuple [.int 1, .int 3]]], .tuple [.int 5, .tuple [.tuple [.int 0, .int 2], .tuple [.int 2, .int 4]]]], .d (.bool true)),
  ([.tuple [.int 4, .tuple [.tuple [.int 1, .int 3]]], .tuple [.int 5, .tuple [.tuple [.int 0, .int 3], .tuple [.int 1, .int 3]]]], .d (.bool true)),
  ([.tuple [.int 4, .tuple [.tuple [.int 1, .int 3]]], .tuple [.int 5, .tuple [.tuple [.int 0, .int 2], .tuple [.int 0, .int 3]]]], .d (.bool true)),
  ([.tuple [.int 4, .tuple [.tuple [.int 0, .int 2]]], .tuple [.int 3, .tuple []]], .d (.bool true)),
  ([.tuple [.int 4, .tuple [.tuple [.int 0, .int 2]]], .tuple [.int 4, .tuple [.tuple [.int 1, .int 3]]]], .d (.bool true)),
  ([.tuple [.int 4, .tuple [.tuple [.int 0, .int 2]]], .tuple [.int 4, .tuple [.tuple [.int 0, .int 2]]]], .d (.bool true)),
  ([.tuple [.int 4, .tuple [.tuple [.int 0, .int 2]]], .tuple [.int 5, .tuple [.tuple [.int 1, .int 4], .tuple [.int 2, .int 4]]]], .d (.bool true)),
  ([.tuple [.int 4, .tuple [.tuple [.int 0, .int 2]]], .tuple [.int 5, .tuple [.tuple [.int 1, .int 3], .tuple [.int 1, .int 4]]]], .d (.bool true)),
  ([.tuple [.int 4, .tuple [.tuple [.int 0, .int 2]]], .tuple [.int 5, .tuple [.tuple [.int 0, .int 2], .tuple [.int 2, .int 4]]]], .d (.bool true)),
  ([.tuple [.int 4, .tuple [.tuple [.int 0, .int 2]]], .tuple [.int 5, .tuple [.tuple [.int 0, .int 3], .tuple [.int 1, .int 3]]]], .d (.bool true)),
  ([.tuple [.int 4, .tuple [.tuple [.int 0, .int 2]]], .tuple [.int 5, .tuple [.tuple [.int 0, .int 2], .tuple [.int 0, .int 3]]]], .d (.bool true)),
  ([.tuple [.int 5, .tuple [.tuple [.int 1, .int 4], .tuple [.int 2, .int 4]]], .tuple [.int 3, .tuple []]], .d (.bool true)),
  ([.tuple [.int 5, .tuple [.tuple [.int 1, .int 4], .tuple [.int 2, .int 4]]], .tuple [.int 4, .tuple [.tuple [.int 1, .int 3]]]], .d (.bool true)),
  ([.tuple [.int 5, .tuple [.tuple [.int 1, .int 4], .tuple [.int 2, .int 4]]], .tuple [.int 4, .tuple [.tuple [.int 0, .int 2]]]], .d (.bool true)),
  ([.tuple [.int 5, .tuple [.tuple [.int 1, .int 4], .tuple [.int 2, .int 4]]], .tuple [.int 5, .tuple [.tuple [.int 1, .int 4], .tuple [.int 2, .int 4]]]], .d (.bool true)),
  ([.tuple [.int 5, .tuple [.tuple [.int 1, .int 4], .tuple [.int 2, .int 4]]], .tuple [.int 5, .tuple [.tuple [.int 1, .int 3], .tuple [.int 1, .int 4]]]], .d (.bool true)),
  ([.tuple [.int 5, .tuple [.tuple [.int 1, .int 4], .tuple [.int 2, .int 4]]], .tuple [.int 5, .tuple [.tuple [.int 0, .int 2], .tuple [.int 2, .int 4]]]], .d (.bool true)),
  ([.tuple [.int 5, .tuple [.tuple [.int 1, .int 4], .tuple [.int 2, .int 4]]], .tuple [.int 5, .tuple [.tuple [.int 0, .int 3], .tuple [.int 1, .int 3]]]], .d (.bool true)),
  ([.tuple [.int 5, .tuple [.tuple [.int 1, .int 4], .tuple [.int 2, .int 4]]], .tuple [.int 5, .tuple [.tuple [.int 0, .int 2], .tuple [.int 0, .int 3]]]], .d (.bool true)),
  ([.tuple [.int 5, .tuple [.tuple [.int 1, .int 3], .tuple [.int 1, .int 4]]], .tuple [.int 3, .tuple []]], .d (.bool true)),
  ([.tuple [.int 5, .tuple [.tuple [.int 1, .int 3], .tuple [.int 1, .int 4]]], .tuple [.int 4, .tuple [.tuple [.int 1, .int 3]]]], .d (.bool true)),
  ([.tuple [.int 5, .tuple [.tuple [.int 1, .int 3], .tuple [.int 1, .int 4]]], .tuple [.int 4, .tuple [.tuple [.int 0, .int 2]]]], .d (.bool true)),
  ([.tuple [.int 5, .tuple [.tuple [.int 1, .int 3], .tuple [.int 1, .int 4]]], .tuple [.int 5, .tuple [.tuple [.int 1, .int 4], .tuple [.int 2, .int 4]]]], .d (.bool true)),
  ([.tuple [.int 5, .tuple [.tuple [.int 1, .int 3], .tuple [.int 1, .int 4]]], .tuple [.int 5, .tuple [.tuple [.int 1, .int 3], .tuple [.int 1, .int 4]]]], .d (.bool true)),
  ([.tuple [.int 5, .tuple [.tuple [.int 1, .int 3], .tuple [.int 1, .int 4]]], .tuple [.int 5, .tuple [.tuple [.int 0, .int 2], .tuple [.int 2, .int 4]]]], .d (.bool true)),
  ([.tuple [.int 5, .tuple [.tuple [.int 1, .int 3], .tuple [.int 1, .int 4]]], .tuple [.int 5, .tuple [.tuple [.int 0, .int 3], .tuple [.int 1, .int 3]]]], .d (.bool true)),
  ([.tuple [.int 5, .tuple [.tuple [.int 1, .int 3], .tuple [.int 1, .int 4]]], .tuple [.int 5, .tuple [.tuple [.int 0, .int 2], .tuple [.int 0, .int 3]]]], .d (.bool true)),
  ([.tuple [.int 5, .tuple [.tuple [.int 0, .int 2], .tuple [.int 2, .int 4]]], .tuple [.int 3, .tuple []]], .d (.bool true)),
  ([.tuple [.int 5, .tuple [.tuple [.int 0, .int 2], .tuple [.int 2, .int 4]]], .tuple [.int 4, .tuple [.tuple [.int 1, .int 3]]]], .d (.bool true)),
  ([.tuple [.int 5, .tuple [.tuple [.int 0, .int 2], .tuple [.int 2, .int 4]]], .tuple [.int 4, .tuple [.tuple [.int 0, .int 2]]]], .d (.bool true)),
  ([.tuple [.int 5, .tuple [.tuple [.int 0, .int 2], .tuple [.int 2, .int 4]]], .tuple [.int 5, .tuple [.tuple [.int 1, .int 4], .tuple [.int 2, .int 4]]]], .d (.bool true)),
  ([.tuple [.int 5, .tuple [.tuple [.int 0, .int 2], .tuple [.int 2, .int 4]]], .tuple [.int 5, .tuple [.tuple [.int 1, .int 3], .tuple [.int 1, .int 4]]]], .d (.bool true)),
  ([.tuple [.int 5, .tuple [.tuple [.int 0, .int 2], .tuple [.int 2, .int 4]]], .tuple [.int 5, .tuple [.tuple [.int 0, .int 2], .tuple [.int 2, .int 4]]]], .d (.bool true)),
  ([.tuple [.int 5, .tuple [.tuple [.int 0, .int 2], .tuple [.int 2, .int 4]]], .tuple [.int 5, .tuple [.tuple [.int 0, .int 3], .tuple [.int 1, .int 3]]]], .d (.bool true)),
  ([.tuple [.int 5, .tuple [.tuple [.int 0, .int 2], .tuple [.int 2, .int 4]]], .tuple [.int 5, .tuple [.tuple [.int 0, .int 2], .tuple [.int 0, .int 3]]]], .d (.bool true)),
  ([.tuple [.int 5, .tuple [.tuple [.int 0, .int 3], .tuple [.int 1, .int 3]]], .tuple [.int 3, .tuple []]], .d (.bool true)),
  ([.tuple [.int 5, .tuple [.tuple [.int 0, .int 3], .tuple [.int 1, .int 3]]], .tuple [.int 4, .tuple [.tuple [.int 1, .int 3]]]], .d (.bool true)),
  ([.tuple [.int 5, .tuple [.tuple [.int 0, .int 3], .tuple [.int 1, .int 3]]], .tuple [.int 4, .tuple [.tuple [.int 0, .int 2]]]], .d (.bool true)),
  ([.tuple [.int 5, .tuple [.tuple [.int 0, .int 3], .tuple [.int 1, .int 3]]], .tuple [.int 5, .tuple [.tuple [.int 1, .int 4], .tuple [.int 2, .int 4]]]], .d (.bool true)),
  ([.tuple [.int 5, .tuple [.tuple [.int 0, .int 3], .tuple [.int 1, .int 3]]], .tuple [.int 5, .tuple [.tuple [.int 1, .int 3], .tuple [.int 1, .int 4]]]], .d (.bool true)),
  ([.tuple [.int 5, .tuple [.tuple [.int 0, .int 3], .tuple [.int 1, .int 3]]], .tuple [.int 5, .tuple [.tuple [.int 0, .int 2], .tuple [.int 2, .int 4]]]], .d (.bool true)),
  ([.tuple [.int 5, .tuple [.tuple [.int 0, .int 3], .tuple [.int 1, .int 3]]], .tuple [.int 5, .tuple [.tuple [.int 0, .int 3], .tuple [.int 1, .int 3]]]], .d (.bool true)),
  ([.tuple [.int 5, .tuple [.tuple [.int 0, .int 3], .tuple [.int 1, .int 3]]], .tuple [.int 5, .tuple [.tuple [.int 0, .int 2], .tuple [.int 0, .int 3]]]], .d (.bool true)),
  ([.tuple [.int 5, .tuple [.tuple [.int 0, .int 2], .tuple [.int 0, .int 3]]], .tuple [.int 3, .tuple []]], .d (.bool true)),
  ([.tuple [.int 5, .tuple [.tuple [.int 0, .int 2], .tuple [.int 0, .int 3]]], .tuple [.int 4, .tuple [.tuple [.int 1, .int 3]]]], .d (.bool true)),
  ([.tuple [.int 5, .tuple [.tuple [.int 0, .int 2], .tuple [.int 0, .int 3]]], .tuple [.int 4, .tuple [.tuple [.int 0, .int 2]]]], .d (.bool true)),
  ([.tuple [.int 5, .tuple [.tuple [.int 0, .int 2], .tuple [.int 0, .int 3]]], .tuple [.int 5, .tuple [.tuple [.int 1, .int 4], .tuple [.int 2, .int 4]]]], .d (.bool true)),
  ([.tuple [.int 5, .tuple [.tuple [.int 0, .int 2], .tuple [.int 0, .int 3]]], .tuple [.int 5, .tuple [.tuple [.int 1, .int 3], .tuple [.int 1, .int 4]]]], .d (.bool true)),
  ([.tuple [.int 5, .tuple [.tuple [.int 0, .int 2], .tuple [.int 0, .int 3]]], .tuple [.int 5, .tuple [.tuple [.int 0, .int 2], .tuple [.int 2, .int 4]]]], .d (.bool true)),
  ([.tuple [.int 5, .tuple [.tuple [.int 0, .int 2], .tuple [.int 0, .int 3]]], .tuple [.int 5, .tuple [.tuple [.int 0, .int 3], .tuple [.int 1, .int 3]]]], .d (.bool true)),
  ([.tuple [.int 5, .tuple [.tuple [.int 0, .int 2], .tuple [.int 0, .int 3]]], .tuple [.int 5, .tuple [.tuple [.int 0, .int 2], .tuple [.int 0, .int 3]]]], .d (.bool true))]
def T__law_right : List PyData → FR := lookT tab__law_right
theorem okt__law_right (fs : FS K mg) : FnOk P w K mg base (L2.CX P w) 124 fs.f__law_right fs.fd__law_right ["_law_one", "_law_two"] (spF K [] mg 2 T__law_right) := fn_tab tab__law_right (ok__law_right fs) (by decide +kernel)
theorem sc_law : FnScope ["_law_script", "_law_cup_here"] ["_law_script"] (defScope (topS 73)) := ⟨rfl, rfl, rfl, by decide +kernel, rfl, by decide +kernel, by decide +kernel⟩
def m_law  : SM := seqM (setM 1 (callM F__law_cup [rdV 0])) (seqM (iteM (notM (truM (callM T__law_right [callIO F__law_cutting 1 [ret (.d (.int 3)), ret (.d (.int 5))], callIO F__law_cutting 1 [ret (.d (.int 3)), ret (.d (.int 5))]]))) (retM (ret (.d (.bool false)))) (skipM)) (retM (andV (callM T__law_right [tupM [ret (.d (.int 4)), tupM [tupM [ret (.d (.int 0)), ret (.d (.int 2))]]], tupM [ret (.d (.int 4)), tupM [tupM [ret (.d (.int 1)), ret (.d (.int 3))]]]]) (callM T__law_right [tupM [ret (.d (.int 3)), tupM []], tupM [ret (.d (.int 5)), tupM [tupM [ret (.d (.int 0)), ret (.d (.int 2))], tupM [ret (.d (.int 0)), ret (.d (.int 3))]]]]))))
def t_law_1 : SM := seqM (iteM (notM (truM (callM T__law_right [callIO F__law_cutting 1 [ret (.d (.int 3)), ret (.d (.int 5))], callIO F__law_cutting 1 [ret (.d (.int 3)), ret (.d (.int 5))]]))) (retM (ret (.d (.bool false)))) (skipM)) (retM (andV (callM T__law_right [tupM [ret (.d (.int 4)), tupM [tupM [ret (.d (.int 0)), ret (.d (.int 2))]]], tupM [ret (.d (.int 4)), tupM [tupM [ret (.d (.int 1)), ret (.d (.int 3))]]]]) (callM T__law_right [tupM [ret (.d (.int 3)), tupM []], tupM [ret (.d (.int 5)), tupM [tupM [ret (.d (.int 0)), ret (.d (.int 2))], tupM [ret (.d (.int 0)), ret (.d (.int 3))]]]])))
def s_law_0 : SM := setM 1 (callM F__law_cup [rdV 0])
def t_law_2 : SM := retM (andV (callM T__law_right [tupM [ret (.d (.int 4)), tupM [tupM [ret (.d (.int 0)), ret (.d (.int 2))]]], tupM [ret (.d (.int 4)), tupM [tupM [ret (.d (.int 1)), ret (.d (.int 3))]]]]) (callM T__law_right [tupM [ret (.d (.int 3)), tupM []], tupM [ret (.d (.int 5)), tupM [tupM [ret (.d (.int 0)), ret (.d (.int 2))], tupM [ret (.d (.int 0)), ret (.d (.int 3))]]]]))
def s_law_1 : SM := iteM (notM (truM (callM T__law_right [callIO F__law_cutting 1 [ret (.d (.int 3)), ret (.d (.int 5))], callIO F__law_cutting 1 [ret (.d (.int 3)), ret (.d (.int 5))]]))) (retM (ret (.d (.bool false)))) (skipM)
def F_law : List PyData → FR := runF m_law 2
theorem ok_law (fs : FS K mg) : FnOk P w K mg base (L2.CX P w) 125 fs.f_law fs.fd_law ["_law_script"] (spF K [] mg 1 F_law) :=
  have sc := sc_law
  fn_pure fs.F_law sc (z := m_law) (fun cdv A outer s H E hr tk => pzs_cons (pz_set 1 (px_call (ok__law_cup fs) (hr.mono (by omega)) (by rfl) fs.m__law_cup fs.F__law_cup.kp fs.b__law_cup tk (pxa_cons (px_var 0) (pxa_nil))) sc.nd) (pzs_cons (pz_if (pxt_not (pxt_tru (px_call (okt__law_right fs) (hr.mono (by omega)) (by rfl) fs.m__law_right fs.F__law_right.kp fs.b__law_right tk (pxa_cons (px_callIO 1 (ok__law_cutting fs) (hr.mono (by omega)) (by rfl) fs.m__law_cutting fs.F__law_cutting.kp fs.b__law_cutting tk (pxa_cons (px_int) (pxa_cons (px_int) (pxa_nil)))) (pxa_cons (px_callIO 1 (ok__law_cutting fs) (hr.mono (by omega)) (by rfl) fs.m__law_cutting fs.F__law_cutting.kp fs.b__law_cutting tk (pxa_cons (px_int) (pxa_cons (px_int) (pxa_nil)))) (pxa_nil)))))) (pzs_one (pz_ret (px_bl))) (pzs_nil)) (pzs_one (pz_ret (px_and (px_call (okt__law_right fs) (hr.mono (by omega)) (by rfl) fs.m__law_right fs.F__law_right.kp fs.b__law_right tk (pxa_cons (px_tup (hz := (by decide : (2 : Nat) ≤ sizeLine)) (pxa_cons (px_int) (pxa_cons (px_tup (hz := (by decide : (1 : Nat) ≤ sizeLine)) (pxa_cons (px_tup (hz := (by decide : (2 : Nat) ≤ sizeLine)) (pxa_cons (px_int) (pxa_cons (px_int) (pxa_nil)))) (pxa_nil))) (pxa_nil)))) (pxa_cons (px_tup (hz := (by decide : (2 : Nat) ≤ sizeLine)) (pxa_cons (px_int) (pxa_cons (px_tup (hz := (by decide : (1 : Nat) ≤ sizeLine)) (pxa_cons (px_tup (hz := (by decide : (2 : Nat) ≤ sizeLine)) (pxa_cons (px_int) (pxa_cons (px_int) (pxa_nil)))) (pxa_nil))) (pxa_nil)))) (pxa_nil)))) (px_one (px_call (okt__law_right fs) (hr.mono (by omega)) (by rfl) fs.m__law_right fs.F__law_right.kp fs.b__law_right tk (pxa_cons (px_tup (hz := (by decide : (2 : Nat) ≤ sizeLine)) (pxa_cons (px_int) (pxa_cons (px_tup (hz := (by decide : (0 : Nat) ≤ sizeLine)) (pxa_nil)) (pxa_nil)))) (pxa_cons (px_tup (hz := (by decide : (2 : Nat) ≤ sizeLine)) (pxa_cons (px_int) (pxa_cons (px_tup (hz := (by decide : (2 : Nat) ≤ sizeLine)) (pxa_cons (px_tup (hz := (by decide : (2 : Nat) ≤ sizeLine)) (pxa_cons (px_int) (pxa_cons (px_int) (pxa_nil)))) (pxa_cons (px_tup (hz := (by decide : (2 : Nat) ≤ sizeLine)) (pxa_cons (px_int) (pxa_cons (px_int) (pxa_nil)))) (pxa_nil)))) (pxa_nil)))) (pxa_nil)))))))))) (fun _ _ _ => rfl)
end
end GL

namespace GL
open PySem PySem.Spec PyProof.Rows L2 PL
set_option maxRecDepth 100000
set_option maxHeartbeats 2000000
theorem roll_pos (g c m : Int) (hm : 1 ≤ m) (hm2 : m < 1000) (hg : g > 0) : F__law_roll [.int g, .int c] [.int m] = some (.d (.int (g.fmod m)), [.int (g.fdiv m), .int c]) := by
  have h1 : modOk g m = true := by unfold modOk; simp; omega
  have h2 : divOk g m = true := by unfold divOk; simp; left; omega
  simp [F__law_roll, PL.runI, m__law_roll, startI, startE, seqM, iteM, cmp2, cmpA, bnd, op1, op2, app1, app2, rdV, PL.ret, pk, pkS, ixA, ixF, orF, atI, ixN, gtA, cmpDF, hg, setM, setW, esc, escS, noIo, setIxM, setIxA, ownAt, wrS, retM, intF, iiF, h1, h2, finW, ioOf]
theorem roll_neg (g c m : Int) (hm : 1 ≤ m) (hm2 : m < 1000) (hg : ¬ g > 0) : ∃ r c' : Int, F__law_roll [.int g, .int c] [.int m] = some (.d (.int (r.fmod m)), [.int g, .int c']) := by
  have h1 : ∀ g, modOk g m = true := fun g => by unfold modOk; simp; omega
  have h2 : ∀ i j : Int, -18446744073709551616 < j → j < 18446744073709551616 → mulOk i j = true := fun i j a b => by unfold mulOk; simp; right; exact ⟨a, b⟩
  have h5 : mulOk c 30671 = true := h2 _ _ (by decide) (by decide)
  have h6 : ∀ i : Int, modOk i 2147483549 = true := fun i => by rfl
  have h7 : ∀ i : Int, modOk i 2147483587 = true := fun i => by rfl
  have h8 : ∀ i : Int, divOk i 709 = true := fun i => by rfl
  have b1 := Int.fmod_nonneg_of_pos (c * 30671 + 7919) (by decide : (0:Int) < 2147483549)
  have b2 := Int.fmod_lt_of_pos (c * 30671 + 7919) (by decide : (0:Int) < 2147483549)
  have h9 : mulOk ((c * 30671 + 7919).fmod 2147483549) ((c * 30671 + 7919).fmod 2147483549 + 131) = true := h2 _ _ (by omega) (by omega)
  refine ⟨(((c * 30671 + 7919).fmod 2147483549 * ((c * 30671 + 7919).fmod 2147483549 + 131)).fmod 2147483587).fdiv 709, (c * 30671 + 7919).fmod 2147483549, ?_⟩
  simp [F__law_roll, PL.runI, m__law_roll, startI, startE, seqM, iteM, cmp2, cmpA, bnd, op1, op2, app1, app2, rdV, PL.ret, pk, pkS, ixA, ixF, orF, atI, ixN, gtA, cmpDF, hg, setM, setW, esc, escS, noIo, setIxM, setIxA, ownAt, wrS, retM, intF, iiF, h1, h5, h6, h7, h8, h9, mulF, addS, addF, yes2, skipM, finW, ioOf]
theorem roll_eq (g c m : Int) (hm : 1 ≤ m) (hm2 : m < 1000) : ∃ r g' c' : Int, F__law_roll [.int g, .int c] [.int m] = some (.d (.int r), [.int g', .int c']) ∧ 0 ≤ r ∧ r < m := by
  by_cases hg : g > 0
  · exact ⟨_, _, _, roll_pos g c m hm hm2 hg, Int.fmod_nonneg_of_pos _ (by omega), Int.fmod_lt_of_pos _ (by omega)⟩
  · obtain ⟨r, c', e⟩ := roll_neg g c m hm hm2 hg
    exact ⟨_, _, _, e, Int.fmod_nonneg_of_pos _ (by omega), Int.fmod_lt_of_pos _ (by omega)⟩
end GL

namespace GL
open PySem PySem.Spec PyProof.Rows L2 PL
set_option maxRecDepth 100000
set_option maxHeartbeats 2000000
def prD (a b : Nat) : PyData := .tuple [.int a, .int b]
def foundL (a t b : Nat) : List PyData := (if 1 < t - a then [prD a t] else []) ++ (if 1 < b - t then [prD t b] else [])
def cutsAll : Nat → Nat → Nat → List (List PyData)
  | 0, _, _ => [[]]
  | f + 1, a, b => if b - a < 2 then [[]] else (List.range (b - a - 1)).flatMap fun r => (cutsAll f a (a + 1 + r)).flatMap fun x => (cutsAll f (a + 1 + r) b).map fun y => foundL a (a + 1 + r) b ++ x ++ y
theorem addS_list (xs ys : List PyData) (h : xs.length + ys.length ≤ sizeLine) : addS (.list xs) (.list ys) = some (.f (xs ++ ys)) := by
  simp [addS, orF, addF, iiF, catF, h]
theorem foundL_len (a t b : Nat) : (foundL a t b).length ≤ 2 := by
  unfold foundL
  split <;> split <;> simp
theorem found_eq (s0 : Sl) (a t b : Nat) (h1 : a < t) (h2 : t < b) :
    lcM (anyI (tupM [tupM [rdV 1, rdV 3], tupM [rdV 3, rdV 2]])) (.tp [5, 6]) (cmp2 gtA (op2 subF (rdV 6) (rdV 5)) (PL.ret (.d (.int 1)))) (tupM [rdV 5, rdV 6]) [5, 6] [s0, .im (.int a), .im (.int b), .im (.int t), .e, .e, .e] = .ok (.f (foundL a t b)) [s0, .im (.int a), .im (.int b), .im (.int t), .e, .e, .e] := by
  have e1 : decide ((1 : Int) < (t : Int) - a) = decide (1 < t - a) := decide_eq_decide.mpr (by omega)
  have e2 : decide ((1 : Int) < (b : Int) - t) = decide (1 < b - t) := decide_eq_decide.mpr (by omega)
  have g1 : gtA (.int ((t : Int) - a)) (.int 1) = some (decide (1 < t - a)) := congrArg some e1
  have g2 : gtA (.int ((b : Int) - t)) (.int 1) = some (decide (1 < b - t)) := congrArg some e2
  have hz : (2 : Nat) ≤ sizeLine := by rw [sizeLine_eq]; omega
  unfold foundL prD
  rcases Nat.lt_or_ge 1 (t - a) with c1 | c1 <;> rcases Nat.lt_or_ge 1 (b - t) with c2 | c2
  · rw [decide_eq_true c1] at g1
    rw [decide_eq_true c2] at g2
    simp [lcM, anyI, anyK, bnd, tupM, evs, rdV, PL.ret, esc, escS, okV, okS, Tg.sl, loopC, asgT, asgN, noIo, wipeE, backE, cmp2, cmpA, op2, app2, pk, pkS, iiF, yes2, g1, g2, hz, if_pos c1, if_pos c2]
  · rw [decide_eq_true c1] at g1
    rw [decide_eq_false (Nat.not_lt.mpr c2)] at g2
    simp [lcM, anyI, anyK, bnd, tupM, evs, rdV, PL.ret, esc, escS, okV, okS, Tg.sl, loopC, asgT, asgN, noIo, wipeE, backE, cmp2, cmpA, op2, app2, pk, pkS, iiF, yes2, g1, g2, hz, if_pos c1, if_neg (Nat.not_lt.mpr c2)]
  · rw [decide_eq_false (Nat.not_lt.mpr c1)] at g1
    rw [decide_eq_true c2] at g2
    simp [lcM, anyI, anyK, bnd, tupM, evs, rdV, PL.ret, esc, escS, okV, okS, Tg.sl, loopC, asgT, asgN, noIo, wipeE, backE, cmp2, cmpA, op2, app2, pk, pkS, iiF, yes2, g1, g2, hz, if_neg (Nat.not_lt.mpr c1), if_pos c2]
  · rw [decide_eq_false (Nat.not_lt.mpr c1)] at g1
    rw [decide_eq_false (Nat.not_lt.mpr c2)] at g2
    simp [lcM, anyI, anyK, bnd, tupM, evs, rdV, PL.ret, esc, escS, okV, okS, Tg.sl, loopC, asgT, asgN, noIo, wipeE, backE, cmp2, cmpA, op2, app2, pk, pkS, iiF, yes2, g1, g2, hz, if_neg (Nat.not_lt.mpr c1), if_neg (Nat.not_lt.mpr c2)]
end GL

namespace GL
open PySem PySem.Spec PyProof.Rows L2 PL
set_option maxRecDepth 100000
set_option maxHeartbeats 2000000
theorem runI_rtf {zz : SM} {n : Nat} {ks ds xs ks' : List PyData} {e : PL.Env} (h : zz (startI n ks ds) = .rt (.f xs) (.io ks' :: e)) : PL.runI zz n ks ds = some (.f xs, ks') := by
  unfold PL.runI
  rw [h]
  rfl
theorem iteM_t {c : EM Bool} {x y : SM} {env env1 : PL.Env} (h : c env = .ok true env1) : iteM c x y env = x env1 := by
  unfold iteM
  rw [h]
theorem iteM_f {c : EM Bool} {x y : SM} {env env1 : PL.Env} (h : c env = .ok false env1) : iteM c x y env = y env1 := by
  unfold iteM
  rw [h]
theorem seq_rt {za zb : SM} {env env1 : PL.Env} {w : W} (h : za env = .rt w env1) : seqM za zb env = .rt w env1 := by
  unfold seqM
  rw [h]
theorem cutsAll_len : ∀ (f a b : Nat) (x : List PyData), a < b → x ∈ cutsAll f a b → x.length ≤ 2 * (b - a - 1)
  | 0, a, b, x, _, h => by
    have : x = [] := List.mem_singleton.mp h
    rw [this]
    exact Nat.zero_le _
  | f + 1, a, b, x, hab, h => by
    unfold cutsAll at h
    split at h
    · have : x = [] := List.mem_singleton.mp h
      rw [this]
      exact Nat.zero_le _
    · obtain ⟨r, hr, h⟩ := List.mem_flatMap.mp h
      obtain ⟨y, hy, h⟩ := List.mem_flatMap.mp h
      obtain ⟨z, hz, e⟩ := List.mem_map.mp h
      have hr := List.mem_range.mp hr
      have h1 := cutsAll_len f a (a + 1 + r) y (by omega) hy
      have h2 := cutsAll_len f (a + 1 + r) b z (by omega) hz
      have h3 := foundL_len a (a + 1 + r) b
      rw [← e, List.length_append, List.length_append]
      omega
theorem cuts_at : ∀ (f n a b : Nat) (g c : Int), a < b → b - a ≤ f → b < 900 → ∃ (ds : List PyData) (g' c' : Int), ds ∈ cutsAll f a b ∧ Fn__law_cuts (n + f) [.int g, .int c] [.int a, .int b] = some (.f ds, [.int g', .int c'])
  | 0, n, a, b, g, c, h1, h2, _ => by omega
  | f + 1, n, a, b, g, c, h1, h2, h9 => by
    show ∃ (ds : List PyData) (g' c' : Int), ds ∈ cutsAll (f + 1) a b ∧ PL.runI (m__law_cuts (Fn__law_cuts (n + f))) 7 [.int g, .int c] [.int a, .int b] = some (.f ds, [.int g', .int c'])
    have t0 : cmp2 ltA (op2 subF (rdV 2) (rdV 1)) (PL.ret (.d (.int 2))) (startI 7 [.int g, .int c] [.int a, .int b]) = .ok (decide ((b : Int) - a < 2)) (startI 7 [.int g, .int c] [.int a, .int b]) := rfl
    by_cases hw : b - a < 2
    · rw [decide_eq_true (by omega)] at t0
      refine ⟨[], g, c, ?_, runI_rtf (e := startE 6 [.int a, .int b]) (seq_rt ((iteM_t t0).trans rfl))⟩
      unfold cutsAll
      rw [if_pos hw]
      exact List.mem_singleton.mpr rfl
    · rw [decide_eq_false (by omega)] at t0
      obtain ⟨r, g1, c1, q1, r0, r1⟩ := roll_eq g c ((b : Int) - a - 1) (by omega) (by omega)
      obtain ⟨k, rfl⟩ : ∃ k : Nat, r = k := ⟨r.toNat, by omega⟩
      have hk : k < b - a - 1 := by omega
      obtain ⟨x, g2, c2, hx, q2⟩ := cuts_at f n a (a + 1 + k) g1 c1 (by omega) (by omega) (by omega)
      obtain ⟨y, g3, c3, hy, q3⟩ := cuts_at f n (a + 1 + k) b g2 c2 (by omega) (by omega) (by omega)
      have l1 := cutsAll_len f a (a + 1 + k) x (by omega) hx
      have l2 := cutsAll_len f (a + 1 + k) b y (by omega) hy
      have l3 := foundL_len a (a + 1 + k) b
      have z1 : (foundL a (a + 1 + k) b).length + x.length ≤ sizeLine := by rw [sizeLine_eq]; omega
      have z2 : (foundL a (a + 1 + k) b ++ x).length + y.length ≤ sizeLine := by rw [sizeLine_eq, List.length_append]; omega
      have ek : (a : Int) + 1 + (k : Int) = ((a + 1 + k : Nat) : Int) := by omega
      have hA : addS (.int ((a : Int) + 1)) (.int k) = some (.d (.int (a + 1 + k : Nat))) := by rw [← ek]; rfl
      refine ⟨foundL a (a + 1 + k) b ++ x ++ y, g3, c3, ?_, ?_⟩
      · unfold cutsAll
        rw [if_neg hw]
        exact List.mem_flatMap.mpr ⟨k, List.mem_range.mpr hk, List.mem_flatMap.mpr ⟨x, hx, List.mem_map.mpr ⟨y, hy, rfl⟩⟩⟩
      refine runI_rtf (e := [.im (.int a), .im (.int b), .im (.int (a + 1 + k : Nat)), .ow (foundL a (a + 1 + k) b), .e, .e]) ?_
      refine (seq_nx ((iteM_f t0).trans rfl)).trans ?_
      refine (seq_nx (env1 := [.io [.int g1, .int c1], .im (.int a), .im (.int b), .im (.int (a + 1 + k : Nat)), .e, .e, .e]) (by exact set_ok (op2_ok (x := .int ((a : Int) + 1)) (y := .int k) (w := .d (.int (a + 1 + k : Nat))) rfl (callIO_ok (ks := [.int g, .int c]) (ks1 := [.int g, .int c]) rfl (evs_cons (x := .int ((b : Int) - a - 1)) rfl evs_nil) rfl q1) rfl rfl hA) rfl)).trans ?_
      refine (seq_nx (env1 := [.io [.int g1, .int c1], .im (.int a), .im (.int b), .im (.int (a + 1 + k : Nat)), .ow (foundL a (a + 1 + k) b), .e, .e]) (by exact set_ok (found_eq _ a (a + 1 + k) b (by omega) (by omega)) rfl)).trans ?_
      let E : List PyData → PL.Env := fun ks => [.io ks, .im (.int a), .im (.int b), .im (.int (a + 1 + k : Nat)), .ow (foundL a (a + 1 + k) b), .e, .e]
      have v1 : ∀ ks, evs [rdV 1, rdV 3] (E ks) = .ok [.int a, .int (a + 1 + k : Nat)] (E ks) := fun _ => rfl
      have v2 : ∀ ks, evs [rdV 3, rdV 2] (E ks) = .ok [.int (a + 1 + k : Nat), .int b] (E ks) := fun _ => rfl
      have k1 : callIO (Fn__law_cuts (n + f)) 0 [rdV 1, rdV 3] (E [.int g1, .int c1]) = .ok (.f x) (E [.int g2, .int c2]) := callIO_ok (ks := [.int g1, .int c1]) (ks1 := [.int g1, .int c1]) rfl (v1 _) rfl q2
      have k2 : callIO (Fn__law_cuts (n + f)) 0 [rdV 3, rdV 2] (E [.int g2, .int c2]) = .ok (.f y) (E [.int g3, .int c3]) := callIO_ok (ks := [.int g2, .int c2]) (ks1 := [.int g2, .int c2]) rfl (v2 _) rfl q3
      have k3 : op2 addS (rdV 4) (callIO (Fn__law_cuts (n + f)) 0 [rdV 1, rdV 3]) (E [.int g1, .int c1]) = .ok (.f (foundL a (a + 1 + k) b ++ x)) (E [.int g2, .int c2]) := op2_ok (a := .o 4) (b := .f x) rfl k1 rfl rfl (addS_list _ _ z1)
      exact ret_rt (op2_ok k3 k2 rfl rfl (addS_list _ _ z2))
end GL

namespace GL
open PySem PySem.Spec PyProof.Rows L2 PL
set_option maxRecDepth 100000
set_option maxHeartbeats 2000000
def cutD (n : Nat) (ds : List PyData) : PyData := .tuple [.int n, .tuple (sortD ds)]
def cutsD (lo hi : Nat) : List PyData := (List.range (hi + 1 - lo)).flatMap fun i => (cutsAll 7 0 (lo + i - 1)).map (cutD (lo + i))
theorem cutting_at (lo hi : Nat) (h3 : 3 ≤ lo) (h8 : hi ≤ 8) (hlh : lo ≤ hi) (ok : ((List.range (hi + 1 - lo)).all fun i => (cutsAll 7 0 (lo + i - 1)).all sortOk) = true) (g c : Int) :
    ∃ (x : PyData) (g' c' : Int), x ∈ cutsD lo hi ∧ F__law_cutting [.int g, .int c] [.int lo, .int hi] = some (.d x, [.int g', .int c']) := by
  obtain ⟨r, g1, c1, q1, r0, r1⟩ := roll_eq g c ((hi : Int) - lo + 1) (by omega) (by omega)
  obtain ⟨k, rfl⟩ : ∃ k : Nat, r = k := ⟨r.toNat, by omega⟩
  have hk : k < hi + 1 - lo := by omega
  obtain ⟨ds, g2, c2, hd, q2⟩ := cuts_at 7 53 0 (lo + k - 1) g1 c1 (by omega) (by omega) (by omega)
  have so : sortOk ds = true := List.all_eq_true.mp (List.all_eq_true.mp ok k (List.mem_range.mpr hk)) ds hd
  have q2 : F__law_cuts [.int g1, .int c1] [.int 0, .int (lo + k - 1 : Nat)] = some (.f ds, [.int g2, .int c2]) := q2
  have e1 : ((lo + k - 1 : Nat) : Int) = ((lo + k : Nat) : Int) - 1 := by omega
  have e2 : (lo : Int) + (k : Int) = ((lo + k : Nat) : Int) := by omega
  let E : List PyData → PL.Env := fun ks => [.io ks, .im (.int lo), .im (.int hi), .im (.int (lo + k : Nat))]
  have hA : addS (.int lo) (.int k) = some (.d (.int (lo + k : Nat))) := by rw [← e2]; rfl
  have v1 : evs [op2 addS (op2 subF (rdV 2) (rdV 1)) (PL.ret (.d (.int 1)))] (startI 4 [.int g, .int c] [.int lo, .int hi]) = .ok [.int ((hi : Int) - lo + 1)] (startI 4 [.int g, .int c] [.int lo, .int hi]) := rfl
  have k1 : callIO F__law_roll 0 [op2 addS (op2 subF (rdV 2) (rdV 1)) (PL.ret (.d (.int 1)))] (startI 4 [.int g, .int c] [.int lo, .int hi]) = .ok (.d (.int k)) (startI 4 [.int g1, .int c1] [.int lo, .int hi]) := callIO_ok (ks := [.int g, .int c]) (ks1 := [.int g, .int c]) rfl v1 rfl q1
  have v2 : evs [PL.ret (.d (.int 0)), op2 subF (rdV 3) (PL.ret (.d (.int 1)))] (E [.int g1, .int c1]) = .ok [.int 0, .int (lo + k - 1 : Nat)] (E [.int g1, .int c1]) := by rw [e1]; rfl
  have k2 : callIO F__law_cuts 0 [PL.ret (.d (.int 0)), op2 subF (rdV 3) (PL.ret (.d (.int 1)))] (E [.int g1, .int c1]) = .ok (.f ds) (E [.int g2, .int c2]) := callIO_ok (ks := [.int g1, .int c1]) (ks1 := [.int g1, .int c1]) rfl v2 rfl q2
  have hS : sortF (.list ds) = some (.f (sortD ds)) := if_pos so
  have k3 : op1 tupF (op1 sortF (callIO F__law_cuts 0 [PL.ret (.d (.int 0)), op2 subF (rdV 3) (PL.ret (.d (.int 1)))])) (E [.int g1, .int c1]) = .ok (.d (.tuple (sortD ds))) (E [.int g2, .int c2]) := op1_ok (op1_ok k2 rfl hS) rfl rfl
  have k4 : tupM [rdV 3, op1 tupF (op1 sortF (callIO F__law_cuts 0 [PL.ret (.d (.int 0)), op2 subF (rdV 3) (PL.ret (.d (.int 1)))]))] (E [.int g1, .int c1]) = .ok (.d (cutD (lo + k) ds)) (E [.int g2, .int c2]) := tup_ok (evs_cons rfl (evs_cons k3 evs_nil))
  refine ⟨cutD (lo + k) ds, g2, c2, List.mem_flatMap.mpr ⟨k, List.mem_range.mpr hk, List.mem_map.mpr ⟨ds, hd, rfl⟩⟩, ?_⟩
  refine runI_rt (zz := m__law_cutting) (e := [.im (.int lo), .im (.int hi), .im (.int (lo + k : Nat))]) ?_
  exact (seq_nx (za := s__law_cutting_0) (zb := t__law_cutting_1) (env1 := E [.int g1, .int c1]) (set_ok (op2_ok (a := .d (.int lo)) rfl k1 rfl rfl hA) rfl)).trans (ret_rt k4)
theorem cutsD_ok : ((List.range (5 + 1 - 3)).all fun i => (cutsAll 7 0 (3 + i - 1)).all sortOk) = true := by decide +kernel
end GL

namespace GL
open PySem PySem.Spec PyProof.Rows L2 PL
set_option maxRecDepth 100000
set_option maxHeartbeats 2000000
theorem cup_eq (ns : List Int) (hl : ns.length ≤ 63) : ∃ g c : Int, F__law_cup [.list (ns.map .int)] = .ok (.f [.int g, .int c]) := by
  obtain ⟨x, hx⟩ : ∃ x : Int, ixA (.list (ns.map .int ++ [.int 0])) (.int 0) = some (.d (.int x)) := by
    cases ns with
    | nil => exact ⟨0, rfl⟩
    | cons n t =>
      refine ⟨n, ?_⟩
      have : ixN (List.map PyData.int (n :: t) ++ [PyData.int 0]).length 0 = some 0 := by
        rw [List.length_append, List.length_map, List.length_cons]
        unfold ixN
        simp
        try omega
      show orF ixF dgetF _ _ = _
      unfold orF ixF atI
      dsimp only
      rw [this]
      rfl
  have hz : (ns.map PyData.int).length + [PyData.int 0].length ≤ sizeLine := by
    rw [List.length_map, sizeLine_eq]
    show ns.length + 1 ≤ _
    omega
  have hc : addS (.list (ns.map .int)) (.list [.int 0]) = some (.f (ns.map .int ++ [.int 0])) := by
    have hz' : ns.length + 1 ≤ sizeLine := by rw [List.length_map] at hz; exact hz
    simp [addS, orF, addF, iiF, catF, hz']
  have h1 : ∀ x : Int, mulOk x 193 = true := fun x => by unfold mulOk; simp
  have h6 : ∀ i : Int, modOk i 2077504273 = true := fun i => by rfl
  have h8 : ∀ i : Int, divOk i 11 = true := fun i => by rfl
  have hp : powOk 10 18 = true := by decide
  have e1 : op1 absF (op2 ixA (op2 addS (op1 listF (rdV 0)) (lstM [PL.ret (.d (.int 0))])) (PL.ret (.d (.int 0)))) [.im (.list (ns.map .int)), .e, .e] = .ok (.d (.int (if x < 0 then -x else x))) [.im (.list (ns.map .int)), .e, .e] := by
    simp [op1, op2, app1, app2, bnd, rdV, PL.ret, pk, pkS, listF, lstM, evs, esc, hc, hx, absF]
  generalize (if x < 0 then -x else x) = y at e1
  refine ⟨if y ≥ 10 ^ 18 then y.fdiv 11 else 0, (y * 193 + 1201).fmod 2077504273 + 89, ?_⟩
  show runF m__law_cup 3 _ = _
  have s0 : m__law_cup [.im (.list (ns.map .int)), .e, .e] = .rt (.f [.int (if y ≥ 10 ^ 18 then y.fdiv 11 else 0), .int ((y * 193 + 1201).fmod 2077504273 + 89)]) [.im (.list (ns.map .int)), .im (.int y), .im (.int (if y ≥ 10 ^ 18 then y.fdiv 11 else 0))] := by
    show seqM (setM 1 _) (seqM (setM 2 _) (retM _)) _ = _
    unfold seqM setM
    rw [e1]
    by_cases hy : y ≥ 10 ^ 18
    · have hy' : (1000000000000000000 : Int) ≤ y := hy
      simp [setW, esc, noIo, PL.ret, ifM, bnd, cmp2, cmpA, op1, op2, app1, app2, rdV, pk, pkS, geA, cmpDF, powF, iiF, hp, hy, hy', fdivF, h8, retM, lstM, evs, addS, addF, orF, yes2, modF, mulF, h1, h6, intF, escS]
    · have hy' : ¬ (1000000000000000000 : Int) ≤ y := hy
      simp [setW, esc, noIo, PL.ret, ifM, bnd, cmp2, cmpA, op1, op2, app1, app2, rdV, pk, pkS, geA, cmpDF, powF, iiF, hp, hy, hy', fdivF, h8, retM, lstM, evs, addS, addF, orF, yes2, modF, mulF, h1, h6, intF, escS]
  show runB m__law_cup [.im (.list (ns.map .int)), .e, .e] = _
  unfold runB
  rw [s0]
  rfl
theorem truM_t {m : PL.EM W} {env env1 : PL.Env} (h : m env = .ok (.d (.bool true)) env1) : truM m env = .ok true env1 := by
  unfold truM
  rw [bnd_ok h]
  rfl
theorem notM_t {m : EM Bool} {env env1 : PL.Env} {b : Bool} (h : m env = .ok b env1) : PL.notM m env = .ok (!b) env1 := by
  unfold PL.notM
  rw [bnd_ok h]
  rfl
def isTR : FR → Bool
  | .ok (.d (.bool true)) => true
  | _ => false
theorem isTR_ok {r : FR} (h : isTR r = true) : r = .ok (.d (.bool true)) := by
  unfold isTR at h
  split at h
  · rfl
  · cases h
end GL

namespace GL
open PySem PySem.Spec PyProof.Rows L2 PL
set_option maxRecDepth 100000
set_option maxHeartbeats 2000000
theorem right_all : ((cutsD 3 5).all fun x => (cutsD 3 5).all fun y => isTR (T__law_right [x, y])) = true := by decide +kernel
theorem law_true : ∀ ns : List Int, ns.length ≤ 63 → F_law [.list (ns.map .int)] = .ok (.d (.bool true)) := by
  intro ns hl
  obtain ⟨g, c, hcup⟩ := cup_eq ns hl
  obtain ⟨x, g1, c1, hx, q1⟩ := cutting_at 3 5 (by omega) (by omega) (by omega) cutsD_ok g c
  obtain ⟨y, g2, c2, hy, q2⟩ := cutting_at 3 5 (by omega) (by omega) (by omega) cutsD_ok g1 c1
  have hr : T__law_right [x, y] = .ok (.d (.bool true)) := isTR_ok (List.all_eq_true.mp (List.all_eq_true.mp right_all x hx) y hy)
  let E : List PyData → PL.Env := fun ks => [.im (.list (ns.map .int)), .ow ks]
  have v : ∀ ks, evs [PL.ret (.d (.int 3)), PL.ret (.d (.int 5))] (E ks) = .ok [.int 3, .int 5] (E ks) := fun _ => rfl
  have k1 : callIO F__law_cutting 1 [PL.ret (.d (.int 3)), PL.ret (.d (.int 5))] (E [.int g, .int c]) = .ok (.d x) (E [.int g1, .int c1]) := callIO_ok (ks := [.int g, .int c]) (ks1 := [.int g, .int c]) rfl (v _) rfl q1
  have k2 : callIO F__law_cutting 1 [PL.ret (.d (.int 3)), PL.ret (.d (.int 5))] (E [.int g1, .int c1]) = .ok (.d y) (E [.int g2, .int c2]) := callIO_ok (ks := [.int g1, .int c1]) (ks1 := [.int g1, .int c1]) rfl (v _) rfl q2
  have t1 := notM_t (truM_t (callM_ok (evs_cons k1 (evs_cons k2 evs_nil)) hr))
  have t2 : t_law_2 (E [.int g2, .int c2]) = .rt (.d (.bool true)) (E [.int g2, .int c2]) := by kernel_rfl
  refine runF_rt (zz := m_law) (e := E [.int g2, .int c2]) ?_
  refine (seq_nx (za := s_law_0) (zb := t_law_1) (env1 := E [.int g, .int c]) (set_ok (callM_ok (evs_cons (x := .list (ns.map .int)) rfl evs_nil) hcup) rfl)).trans ?_
  exact (seq_nx (za := s_law_1) (zb := t_law_2) (env1 := E [.int g2, .int c2]) ((iteM_f t1).trans rfl)).trans t2
end GL

set_option Elab.async false
set_option linter.all false
set_option maxRecDepth 100000
set_option maxHeartbeats 0
namespace GL
open PySem PySem.Spec PyProof.Rows L2 PL
theorem all_mk {l : PySem.W.OpenLaw} {w : World} {K : PySem.W.Frag} {h : Heap} {mg : Str → Option Value} {fa : Addr} (X : K.In h) (G : h.Ns mainGlobals mg) (hfa : mg "law" = some (.ref fa))
    {f__law_blocks : Addr} {od__law_blocks an__law_blocks : Option Addr} {sl__law_blocks : Array (Option Value)} {oc__law_blocks kV__law_blocks dc__law_blocks pm__law_blocks cd__law_blocks ct__law_blocks : Value}
    {f__law_both : Addr} {od__law_both an__law_both : Option Addr} {sl__law_both : Array (Option Value)} {oc__law_both kV__law_both dc__law_both pm__law_both cd__law_both ct__law_both : Value}
    {f__law_cup : Addr} {od__law_cup an__law_cup : Option Addr} {sl__law_cup : Array (Option Value)} {oc__law_cup kV__law_cup dc__law_cup pm__law_cup cd__law_cup ct__law_cup : Value}
    {f__law_cuts : Addr} {od__law_cuts an__law_cuts : Option Addr} {sl__law_cuts : Array (Option Value)} {oc__law_cuts kV__law_cuts dc__law_cuts pm__law_cuts cd__law_cuts ct__law_cuts : Value}
    {f__law_cutting : Addr} {od__law_cutting an__law_cutting : Option Addr} {sl__law_cutting : Array (Option Value)} {oc__law_cutting kV__law_cutting dc__law_cutting pm__law_cutting cd__law_cutting ct__law_cutting : Value}
    {f__law_is_last : Addr} {od__law_is_last an__law_is_last : Option Addr} {sl__law_is_last : Array (Option Value)} {oc__law_is_last kV__law_is_last dc__law_is_last pm__law_is_last cd__law_is_last ct__law_is_last : Value}
    {f__law_number_across : Addr} {od__law_number_across an__law_number_across : Option Addr} {sl__law_number_across : Array (Option Value)} {oc__law_number_across kV__law_number_across dc__law_number_across pm__law_number_across cd__law_number_across ct__law_number_across : Value}
    {f__law_right : Addr} {od__law_right an__law_right : Option Addr} {sl__law_right : Array (Option Value)} {oc__law_right kV__law_right dc__law_right pm__law_right cd__law_right ct__law_right : Value}
    {f__law_roll : Addr} {od__law_roll an__law_roll : Option Addr} {sl__law_roll : Array (Option Value)} {oc__law_roll kV__law_roll dc__law_roll pm__law_roll cd__law_roll ct__law_roll : Value}
    {f__law_ties : Addr} {od__law_ties an__law_ties : Option Addr} {sl__law_ties : Array (Option Value)} {oc__law_ties kV__law_ties dc__law_ties pm__law_ties cd__law_ties ct__law_ties : Value}
    {f_are_free_cuts : Addr} {od_are_free_cuts an_are_free_cuts : Option Addr} {sl_are_free_cuts : Array (Option Value)} {oc_are_free_cuts kV_are_free_cuts dc_are_free_cuts pm_are_free_cuts cd_are_free_cuts ct_are_free_cuts : Value}
    {f_are_ints : Addr} {od_are_ints an_are_ints : Option Addr} {sl_are_ints : Array (Option Value)} {oc_are_ints kV_are_ints dc_are_ints pm_are_ints cd_are_ints ct_are_ints : Value}
    {f_count_pairings : Addr} {od_count_pairings an_count_pairings : Option Addr} {sl_count_pairings : Array (Option Value)} {oc_count_pairings kV_count_pairings dc_count_pairings pm_count_pairings cd_count_pairings ct_count_pairings : Value}
    {f_counts_at : Addr} {od_counts_at an_counts_at : Option Addr} {sl_counts_at : Array (Option Value)} {oc_counts_at kV_counts_at dc_counts_at pm_counts_at cd_counts_at ct_counts_at : Value}
    {f_counts_by_cuts : Addr} {od_counts_by_cuts an_counts_by_cuts : Option Addr} {sl_counts_by_cuts : Array (Option Value)} {oc_counts_by_cuts kV_counts_by_cuts dc_counts_by_cuts pm_counts_by_cuts cd_counts_by_cuts ct_counts_by_cuts : Value}
    {f_crosses : Addr} {od_crosses an_crosses : Option Addr} {sl_crosses : Array (Option Value)} {oc_crosses kV_crosses dc_crosses pm_crosses cd_crosses ct_crosses : Value}
    {f_cuts_along : Addr} {od_cuts_along an_cuts_along : Option Addr} {sl_cuts_along : Array (Option Value)} {oc_cuts_along kV_cuts_along dc_cuts_along pm_cuts_along cd_cuts_along ct_cuts_along : Value}
    {f_ends_ahead : Addr} {od_ends_ahead an_ends_ahead : Option Addr} {sl_ends_ahead : Array (Option Value)} {oc_ends_ahead kV_ends_ahead dc_ends_ahead pm_ends_ahead cd_ends_ahead ct_ends_ahead : Value}
    {f_first_tile : Addr} {od_first_tile an_first_tile : Option Addr} {sl_first_tile : Array (Option Value)} {oc_first_tile kV_first_tile dc_first_tile pm_first_tile cd_first_tile ct_first_tile : Value}
    {f_forks_within : Addr} {od_forks_within an_forks_within : Option Addr} {sl_forks_within : Array (Option Value)} {oc_forks_within kV_forks_within dc_forks_within pm_forks_within cd_forks_within ct_forks_within : Value}
    {f_frieze : Addr} {od_frieze an_frieze : Option Addr} {sl_frieze : Array (Option Value)} {oc_frieze kV_frieze dc_frieze pm_frieze cd_frieze ct_frieze : Value}
    {f_frieze_of_counts : Addr} {od_frieze_of_counts an_frieze_of_counts : Option Addr} {sl_frieze_of_counts : Array (Option Value)} {oc_frieze_of_counts kV_frieze_of_counts dc_frieze_of_counts pm_frieze_of_counts cd_frieze_of_counts ct_frieze_of_counts : Value}
    {f_is_ascending : Addr} {od_is_ascending an_is_ascending : Option Addr} {sl_is_ascending : Array (Option Value)} {oc_is_ascending kV_is_ascending dc_is_ascending pm_is_ascending cd_is_ascending ct_is_ascending : Value}
    {f_is_between : Addr} {od_is_between an_is_between : Option Addr} {sl_is_between : Array (Option Value)} {oc_is_between kV_is_between dc_is_between pm_is_between cd_is_between ct_is_between : Value}
    {f_is_cut_within : Addr} {od_is_cut_within an_is_cut_within : Option Addr} {sl_is_cut_within : Array (Option Value)} {oc_is_cut_within kV_is_cut_within dc_is_cut_within pm_is_cut_within cd_is_cut_within ct_is_cut_within : Value}
    {f_is_cutting : Addr} {od_is_cutting an_is_cutting : Option Addr} {sl_is_cutting : Array (Option Value)} {oc_is_cutting kV_is_cutting dc_is_cutting pm_is_cutting cd_is_cutting ct_is_cutting : Value}
    {f_is_int : Addr} {od_is_int an_is_int : Option Addr} {sl_is_int : Array (Option Value)} {oc_is_int kV_is_int dc_is_int pm_is_int cd_is_int ct_is_int : Value}
    {f_is_line : Addr} {od_is_line an_is_line : Option Addr} {sl_is_line : Array (Option Value)} {oc_is_line kV_is_line dc_is_line pm_is_line cd_is_line ct_is_line : Value}
    {f_is_shape : Addr} {od_is_shape an_is_shape : Option Addr} {sl_is_shape : Array (Option Value)} {oc_is_shape kV_is_shape dc_is_shape pm_is_shape cd_is_shape ct_is_shape : Value}
    {f_is_tree : Addr} {od_is_tree an_is_tree : Option Addr} {sl_is_tree : Array (Option Value)} {oc_is_tree kV_is_tree dc_is_tree pm_is_tree cd_is_tree ct_is_tree : Value}
    {f_law : Addr} {od_law an_law : Option Addr} {sl_law : Array (Option Value)} {oc_law kV_law dc_law pm_law cd_law ct_law : Value}
    {f_mountain : Addr} {od_mountain an_mountain : Option Addr} {sl_mountain : Array (Option Value)} {oc_mountain kV_mountain dc_mountain pm_mountain cd_mountain ct_mountain : Value}
    {f_mountain_over : Addr} {od_mountain_over an_mountain_over : Option Addr} {sl_mountain_over : Array (Option Value)} {oc_mountain_over kV_mountain_over dc_mountain_over pm_mountain_over cd_mountain_over ct_mountain_over : Value}
    {f_need_cutting : Addr} {od_need_cutting an_need_cutting : Option Addr} {sl_need_cutting : Array (Option Value)} {oc_need_cutting kV_need_cutting dc_need_cutting pm_need_cutting cd_need_cutting ct_need_cutting : Value}
    {f_need_few : Addr} {od_need_few an_need_few : Option Addr} {sl_need_few : Array (Option Value)} {oc_need_few kV_need_few dc_need_few pm_need_few cd_need_few ct_need_few : Value}
    {f_need_line : Addr} {od_need_line an_need_line : Option Addr} {sl_need_line : Array (Option Value)} {oc_need_line kV_need_line dc_need_line pm_need_line cd_need_line ct_need_line : Value}
    {f_need_shape : Addr} {od_need_shape an_need_shape : Option Addr} {sl_need_shape : Array (Option Value)} {oc_need_shape kV_need_shape dc_need_shape pm_need_shape cd_need_shape ct_need_shape : Value}
    {f_need_tree : Addr} {od_need_tree an_need_tree : Option Addr} {sl_need_tree : Array (Option Value)} {oc_need_tree kV_need_tree dc_need_tree pm_need_tree cd_need_tree ct_need_tree : Value}
    {f_numbers_from : Addr} {od_numbers_from an_numbers_from : Option Addr} {sl_numbers_from : Array (Option Value)} {oc_numbers_from kV_numbers_from dc_numbers_from pm_numbers_from cd_numbers_from ct_numbers_from : Value}
    {f_part_over : Addr} {od_part_over an_part_over : Option Addr} {sl_part_over : Array (Option Value)} {oc_part_over kV_part_over dc_part_over pm_part_over cd_part_over ct_part_over : Value}
    {f_parting_by : Addr} {od_parting_by an_parting_by : Option Addr} {sl_parting_by : Array (Option Value)} {oc_parting_by kV_parting_by dc_parting_by pm_parting_by cd_parting_by ct_parting_by : Value}
    {f_parting_by_corners : Addr} {od_parting_by_corners an_parting_by_corners : Option Addr} {sl_parting_by_corners : Array (Option Value)} {oc_parting_by_corners kV_parting_by_corners dc_parting_by_corners pm_parting_by_corners cd_parting_by_corners ct_parting_by_corners : Value}
    {f_parting_of : Addr} {od_parting_of an_parting_of : Option Addr} {sl_parting_of : Array (Option Value)} {oc_parting_of kV_parting_of dc_parting_of pm_parting_of cd_parting_of ct_parting_of : Value}
    {f_parts : Addr} {od_parts an_parts : Option Addr} {sl_parts : Array (Option Value)} {oc_parts kV_parts dc_parts pm_parts cd_parts ct_parts : Value}
    {f_reaches : Addr} {od_reaches an_reaches : Option Addr} {sl_reaches : Array (Option Value)} {oc_reaches kV_reaches dc_reaches pm_reaches cd_reaches ct_reaches : Value}
    {f_reaches_within : Addr} {od_reaches_within an_reaches_within : Option Addr} {sl_reaches_within : Array (Option Value)} {oc_reaches_within kV_reaches_within dc_reaches_within pm_reaches_within cd_reaches_within ct_reaches_within : Value}
    {f_shape_of : Addr} {od_shape_of an_shape_of : Option Addr} {sl_shape_of : Array (Option Value)} {oc_shape_of kV_shape_of dc_shape_of pm_shape_of cd_shape_of ct_shape_of : Value}
    {f_snake_along : Addr} {od_snake_along an_snake_along : Option Addr} {sl_snake_along : Array (Option Value)} {oc_snake_along kV_snake_along dc_snake_along pm_snake_along cd_snake_along ct_snake_along : Value}
    {f_tally : Addr} {od_tally an_tally : Option Addr} {sl_tally : Array (Option Value)} {oc_tally kV_tally dc_tally pm_tally cd_tally ct_tally : Value}
    {f_tiles_along : Addr} {od_tiles_along an_tiles_along : Option Addr} {sl_tiles_along : Array (Option Value)} {oc_tiles_along kV_tiles_along dc_tiles_along pm_tiles_along cd_tiles_along ct_tiles_along : Value}
    {f_tree_by_cutting : Addr} {od_tree_by_cutting an_tree_by_cutting : Option Addr} {sl_tree_by_cutting : Array (Option Value)} {oc_tree_by_cutting kV_tree_by_cutting dc_tree_by_cutting pm_tree_by_cutting cd_tree_by_cutting ct_tree_by_cutting : Value}
    {f_tree_of : Addr} {od_tree_of an_tree_of : Option Addr} {sl_tree_of : Array (Option Value)} {oc_tree_of kV_tree_of dc_tree_of pm_tree_of cd_tree_of ct_tree_of : Value}
    {f_tree_over : Addr} {od_tree_over an_tree_over : Option Addr} {sl_tree_over : Array (Option Value)} {oc_tree_over kV_tree_over dc_tree_over pm_tree_over cd_tree_over ct_tree_over : Value}
    (a__law_blocks : PySem.W.nsIn K mainGlobals "_law_blocks" = some (some (.ref f__law_blocks))) (l__law_blocks : K.lookup f__law_blocks = some ⟨oc__law_blocks, od__law_blocks, .func (PySem.W.fnOf "_law_blocks" "_law_blocks" (defArgs (topS 69)) (defBody (topS 69)) (defScope (topS 69)) .none kV__law_blocks dc__law_blocks pm__law_blocks an__law_blocks cd__law_blocks ct__law_blocks), sl__law_blocks⟩) (q__law_blocks : PySem.W.codeIn K cd__law_blocks "_law_blocks" = true) (k__law_blocks : PySem.W.keepIn K (.ref f__law_blocks) = true)
    (a__law_both : PySem.W.nsIn K mainGlobals "_law_both" = some (some (.ref f__law_both))) (l__law_both : K.lookup f__law_both = some ⟨oc__law_both, od__law_both, .func (PySem.W.fnOf "_law_both" "_law_both" (defArgs (topS 68)) (defBody (topS 68)) (defScope (topS 68)) .none kV__law_both dc__law_both pm__law_both an__law_both cd__law_both ct__law_both), sl__law_both⟩) (q__law_both : PySem.W.codeIn K cd__law_both "_law_both" = true) (k__law_both : PySem.W.keepIn K (.ref f__law_both) = true)
    (a__law_cup : PySem.W.nsIn K mainGlobals "_law_cup" = some (some (.ref f__law_cup))) (l__law_cup : K.lookup f__law_cup = some ⟨oc__law_cup, od__law_cup, .func (PySem.W.fnOf "_law_cup" "_law_cup" (defArgs (topS 63)) (defBody (topS 63)) (defScope (topS 63)) .none kV__law_cup dc__law_cup pm__law_cup an__law_cup cd__law_cup ct__law_cup), sl__law_cup⟩) (q__law_cup : PySem.W.codeIn K cd__law_cup "_law_cup" = true) (k__law_cup : PySem.W.keepIn K (.ref f__law_cup) = true)
    (a__law_cuts : PySem.W.nsIn K mainGlobals "_law_cuts" = some (some (.ref f__law_cuts))) (l__law_cuts : K.lookup f__law_cuts = some ⟨oc__law_cuts, od__law_cuts, .func (PySem.W.fnOf "_law_cuts" "_law_cuts" (defArgs (topS 65)) (defBody (topS 65)) (defScope (topS 65)) .none kV__law_cuts dc__law_cuts pm__law_cuts an__law_cuts cd__law_cuts ct__law_cuts), sl__law_cuts⟩) (q__law_cuts : PySem.W.codeIn K cd__law_cuts "_law_cuts" = true) (k__law_cuts : PySem.W.keepIn K (.ref f__law_cuts) = true)
    (a__law_cutting : PySem.W.nsIn K mainGlobals "_law_cutting" = some (some (.ref f__law_cutting))) (l__law_cutting : K.lookup f__law_cutting = some ⟨oc__law_cutting, od__law_cutting, .func (PySem.W.fnOf "_law_cutting" "_law_cutting" (defArgs (topS 66)) (defBody (topS 66)) (defScope (topS 66)) .none kV__law_cutting dc__law_cutting pm__law_cutting an__law_cutting cd__law_cutting ct__law_cutting), sl__law_cutting⟩) (q__law_cutting : PySem.W.codeIn K cd__law_cutting "_law_cutting" = true) (k__law_cutting : PySem.W.keepIn K (.ref f__law_cutting) = true)
    (a__law_is_last : PySem.W.nsIn K mainGlobals "_law_is_last" = some (some (.ref f__law_is_last))) (l__law_is_last : K.lookup f__law_is_last = some ⟨oc__law_is_last, od__law_is_last, .func (PySem.W.fnOf "_law_is_last" "_law_is_last" (defArgs (topS 70)) (defBody (topS 70)) (defScope (topS 70)) .none kV__law_is_last dc__law_is_last pm__law_is_last an__law_is_last cd__law_is_last ct__law_is_last), sl__law_is_last⟩) (q__law_is_last : PySem.W.codeIn K cd__law_is_last "_law_is_last" = true) (k__law_is_last : PySem.W.keepIn K (.ref f__law_is_last) = true)
    (a__law_number_across : PySem.W.nsIn K mainGlobals "_law_number_across" = some (some (.ref f__law_number_across))) (l__law_number_across : K.lookup f__law_number_across = some ⟨oc__law_number_across, od__law_number_across, .func (PySem.W.fnOf "_law_number_across" "_law_number_across" (defArgs (topS 71)) (defBody (topS 71)) (defScope (topS 71)) .none kV__law_number_across dc__law_number_across pm__law_number_across an__law_number_across cd__law_number_across ct__law_number_across), sl__law_number_across⟩) (q__law_number_across : PySem.W.codeIn K cd__law_number_across "_law_number_across" = true) (k__law_number_across : PySem.W.keepIn K (.ref f__law_number_across) = true)
    (a__law_right : PySem.W.nsIn K mainGlobals "_law_right" = some (some (.ref f__law_right))) (l__law_right : K.lookup f__law_right = some ⟨oc__law_right, od__law_right, .func (PySem.W.fnOf "_law_right" "_law_right" (defArgs (topS 72)) (defBody (topS 72)) (defScope (topS 72)) .none kV__law_right dc__law_right pm__law_right an__law_right cd__law_right ct__law_right), sl__law_right⟩) (q__law_right : PySem.W.codeIn K cd__law_right "_law_right" = true) (k__law_right : PySem.W.keepIn K (.ref f__law_right) = true)
    (a__law_roll : PySem.W.nsIn K mainGlobals "_law_roll" = some (some (.ref f__law_roll))) (l__law_roll : K.lookup f__law_roll = some ⟨oc__law_roll, od__law_roll, .func (PySem.W.fnOf "_law_roll" "_law_roll" (defArgs (topS 64)) (defBody (topS 64)) (defScope (topS 64)) .none kV__law_roll dc__law_roll pm__law_roll an__law_roll cd__law_roll ct__law_roll), sl__law_roll⟩) (q__law_roll : PySem.W.codeIn K cd__law_roll "_law_roll" = true) (k__law_roll : PySem.W.keepIn K (.ref f__law_roll) = true)
    (a__law_ties : PySem.W.nsIn K mainGlobals "_law_ties" = some (some (.ref f__law_ties))) (l__law_ties : K.lookup f__law_ties = some ⟨oc__law_ties, od__law_ties, .func (PySem.W.fnOf "_law_ties" "_law_ties" (defArgs (topS 67)) (defBody (topS 67)) (defScope (topS 67)) .none kV__law_ties dc__law_ties pm__law_ties an__law_ties cd__law_ties ct__law_ties), sl__law_ties⟩) (q__law_ties : PySem.W.codeIn K cd__law_ties "_law_ties" = true) (k__law_ties : PySem.W.keepIn K (.ref f__law_ties) = true)
    (a_are_free_cuts : PySem.W.nsIn K mainGlobals "are_free_cuts" = some (some (.ref f_are_free_cuts))) (l_are_free_cuts : K.lookup f_are_free_cuts = some ⟨oc_are_free_cuts, od_are_free_cuts, .func (PySem.W.fnOf "are_free_cuts" "are_free_cuts" (defArgs (topS 17)) (defBody (topS 17)) (defScope (topS 17)) .none kV_are_free_cuts dc_are_free_cuts pm_are_free_cuts an_are_free_cuts cd_are_free_cuts ct_are_free_cuts), sl_are_free_cuts⟩) (q_are_free_cuts : PySem.W.codeIn K cd_are_free_cuts "are_free_cuts" = true) (k_are_free_cuts : PySem.W.keepIn K (.ref f_are_free_cuts) = true)
    (a_are_ints : PySem.W.nsIn K mainGlobals "are_ints" = some (some (.ref f_are_ints))) (l_are_ints : K.lookup f_are_ints = some ⟨oc_are_ints, od_are_ints, .func (PySem.W.fnOf "are_ints" "are_ints" (defArgs (topS 10)) (defBody (topS 10)) (defScope (topS 10)) .none kV_are_ints dc_are_ints pm_are_ints an_are_ints cd_are_ints ct_are_ints), sl_are_ints⟩) (q_are_ints : PySem.W.codeIn K cd_are_ints "are_ints" = true) (k_are_ints : PySem.W.keepIn K (.ref f_are_ints) = true)
    (a_count_pairings : PySem.W.nsIn K mainGlobals "count_pairings" = some (some (.ref f_count_pairings))) (l_count_pairings : K.lookup f_count_pairings = some ⟨oc_count_pairings, od_count_pairings, .func (PySem.W.fnOf "count_pairings" "count_pairings" (defArgs (topS 53)) (defBody (topS 53)) (defScope (topS 53)) .none kV_count_pairings dc_count_pairings pm_count_pairings an_count_pairings cd_count_pairings ct_count_pairings), sl_count_pairings⟩) (q_count_pairings : PySem.W.codeIn K cd_count_pairings "count_pairings" = true) (k_count_pairings : PySem.W.keepIn K (.ref f_count_pairings) = true)
    (a_counts_at : PySem.W.nsIn K mainGlobals "counts_at" = some (some (.ref f_counts_at))) (l_counts_at : K.lookup f_counts_at = some ⟨oc_counts_at, od_counts_at, .func (PySem.W.fnOf "counts_at" "counts_at" (defArgs (topS 23)) (defBody (topS 23)) (defScope (topS 23)) .none kV_counts_at dc_counts_at pm_counts_at an_counts_at cd_counts_at ct_counts_at), sl_counts_at⟩) (q_counts_at : PySem.W.codeIn K cd_counts_at "counts_at" = true) (k_counts_at : PySem.W.keepIn K (.ref f_counts_at) = true)
    (a_counts_by_cuts : PySem.W.nsIn K mainGlobals "counts_by_cuts" = some (some (.ref f_counts_by_cuts))) (l_counts_by_cuts : K.lookup f_counts_by_cuts = some ⟨oc_counts_by_cuts, od_counts_by_cuts, .func (PySem.W.fnOf "counts_by_cuts" "counts_by_cuts" (defArgs (topS 22)) (defBody (topS 22)) (defScope (topS 22)) .none kV_counts_by_cuts dc_counts_by_cuts pm_counts_by_cuts an_counts_by_cuts cd_counts_by_cuts ct_counts_by_cuts), sl_counts_by_cuts⟩) (q_counts_by_cuts : PySem.W.codeIn K cd_counts_by_cuts "counts_by_cuts" = true) (k_counts_by_cuts : PySem.W.keepIn K (.ref f_counts_by_cuts) = true)
    (a_crosses : PySem.W.nsIn K mainGlobals "crosses" = some (some (.ref f_crosses))) (l_crosses : K.lookup f_crosses = some ⟨oc_crosses, od_crosses, .func (PySem.W.fnOf "crosses" "crosses" (defArgs (topS 16)) (defBody (topS 16)) (defScope (topS 16)) .none kV_crosses dc_crosses pm_crosses an_crosses cd_crosses ct_crosses), sl_crosses⟩) (q_crosses : PySem.W.codeIn K cd_crosses "crosses" = true) (k_crosses : PySem.W.keepIn K (.ref f_crosses) = true)
    (a_cuts_along : PySem.W.nsIn K mainGlobals "cuts_along" = some (some (.ref f_cuts_along))) (l_cuts_along : K.lookup f_cuts_along = some ⟨oc_cuts_along, od_cuts_along, .func (PySem.W.fnOf "cuts_along" "cuts_along" (defArgs (topS 46)) (defBody (topS 46)) (defScope (topS 46)) .none kV_cuts_along dc_cuts_along pm_cuts_along an_cuts_along cd_cuts_along ct_cuts_along), sl_cuts_along⟩) (q_cuts_along : PySem.W.codeIn K cd_cuts_along "cuts_along" = true) (k_cuts_along : PySem.W.keepIn K (.ref f_cuts_along) = true)
    (a_ends_ahead : PySem.W.nsIn K mainGlobals "ends_ahead" = some (some (.ref f_ends_ahead))) (l_ends_ahead : K.lookup f_ends_ahead = some ⟨oc_ends_ahead, od_ends_ahead, .func (PySem.W.fnOf "ends_ahead" "ends_ahead" (defArgs (topS 48)) (defBody (topS 48)) (defScope (topS 48)) .none kV_ends_ahead dc_ends_ahead pm_ends_ahead an_ends_ahead cd_ends_ahead ct_ends_ahead), sl_ends_ahead⟩) (q_ends_ahead : PySem.W.codeIn K cd_ends_ahead "ends_ahead" = true) (k_ends_ahead : PySem.W.keepIn K (.ref f_ends_ahead) = true)
    (a_first_tile : PySem.W.nsIn K mainGlobals "first_tile" = some (some (.ref f_first_tile))) (l_first_tile : K.lookup f_first_tile = some ⟨oc_first_tile, od_first_tile, .func (PySem.W.fnOf "first_tile" "first_tile" (defArgs (topS 47)) (defBody (topS 47)) (defScope (topS 47)) .none kV_first_tile dc_first_tile pm_first_tile an_first_tile cd_first_tile ct_first_tile), sl_first_tile⟩) (q_first_tile : PySem.W.codeIn K cd_first_tile "first_tile" = true) (k_first_tile : PySem.W.keepIn K (.ref f_first_tile) = true)
    (a_forks_within : PySem.W.nsIn K mainGlobals "forks_within" = some (some (.ref f_forks_within))) (l_forks_within : K.lookup f_forks_within = some ⟨oc_forks_within, od_forks_within, .func (PySem.W.fnOf "forks_within" "forks_within" (defArgs (topS 28)) (defBody (topS 28)) (defScope (topS 28)) .none kV_forks_within dc_forks_within pm_forks_within an_forks_within cd_forks_within ct_forks_within), sl_forks_within⟩) (q_forks_within : PySem.W.codeIn K cd_forks_within "forks_within" = true) (k_forks_within : PySem.W.keepIn K (.ref f_forks_within) = true)
    (a_frieze : PySem.W.nsIn K mainGlobals "frieze" = some (some (.ref f_frieze))) (l_frieze : K.lookup f_frieze = some ⟨oc_frieze, od_frieze, .func (PySem.W.fnOf "frieze" "frieze" (defArgs (topS 37)) (defBody (topS 37)) (defScope (topS 37)) .none kV_frieze dc_frieze pm_frieze an_frieze cd_frieze ct_frieze), sl_frieze⟩) (q_frieze : PySem.W.codeIn K cd_frieze "frieze" = true) (k_frieze : PySem.W.keepIn K (.ref f_frieze) = true)
    (a_frieze_of_counts : PySem.W.nsIn K mainGlobals "frieze_of_counts" = some (some (.ref f_frieze_of_counts))) (l_frieze_of_counts : K.lookup f_frieze_of_counts = some ⟨oc_frieze_of_counts, od_frieze_of_counts, .func (PySem.W.fnOf "frieze_of_counts" "frieze_of_counts" (defArgs (topS 36)) (defBody (topS 36)) (defScope (topS 36)) .none kV_frieze_of_counts dc_frieze_of_counts pm_frieze_of_counts an_frieze_of_counts cd_frieze_of_counts ct_frieze_of_counts), sl_frieze_of_counts⟩) (q_frieze_of_counts : PySem.W.codeIn K cd_frieze_of_counts "frieze_of_counts" = true) (k_frieze_of_counts : PySem.W.keepIn K (.ref f_frieze_of_counts) = true)
    (a_is_ascending : PySem.W.nsIn K mainGlobals "is_ascending" = some (some (.ref f_is_ascending))) (l_is_ascending : K.lookup f_is_ascending = some ⟨oc_is_ascending, od_is_ascending, .func (PySem.W.fnOf "is_ascending" "is_ascending" (defArgs (topS 11)) (defBody (topS 11)) (defScope (topS 11)) .none kV_is_ascending dc_is_ascending pm_is_ascending an_is_ascending cd_is_ascending ct_is_ascending), sl_is_ascending⟩) (q_is_ascending : PySem.W.codeIn K cd_is_ascending "is_ascending" = true) (k_is_ascending : PySem.W.keepIn K (.ref f_is_ascending) = true)
    (a_is_between : PySem.W.nsIn K mainGlobals "is_between" = some (some (.ref f_is_between))) (l_is_between : K.lookup f_is_between = some ⟨oc_is_between, od_is_between, .func (PySem.W.fnOf "is_between" "is_between" (defArgs (topS 9)) (defBody (topS 9)) (defScope (topS 9)) .none kV_is_between dc_is_between pm_is_between an_is_between cd_is_between ct_is_between), sl_is_between⟩) (q_is_between : PySem.W.codeIn K cd_is_between "is_between" = true) (k_is_between : PySem.W.keepIn K (.ref f_is_between) = true)
    (a_is_cut_within : PySem.W.nsIn K mainGlobals "is_cut_within" = some (some (.ref f_is_cut_within))) (l_is_cut_within : K.lookup f_is_cut_within = some ⟨oc_is_cut_within, od_is_cut_within, .func (PySem.W.fnOf "is_cut_within" "is_cut_within" (defArgs (topS 15)) (defBody (topS 15)) (defScope (topS 15)) .none kV_is_cut_within dc_is_cut_within pm_is_cut_within an_is_cut_within cd_is_cut_within ct_is_cut_within), sl_is_cut_within⟩) (q_is_cut_within : PySem.W.codeIn K cd_is_cut_within "is_cut_within" = true) (k_is_cut_within : PySem.W.keepIn K (.ref f_is_cut_within) = true)
    (a_is_cutting : PySem.W.nsIn K mainGlobals "is_cutting" = some (some (.ref f_is_cutting))) (l_is_cutting : K.lookup f_is_cutting = some ⟨oc_is_cutting, od_is_cutting, .func (PySem.W.fnOf "is_cutting" "is_cutting" (defArgs (topS 18)) (defBody (topS 18)) (defScope (topS 18)) .none kV_is_cutting dc_is_cutting pm_is_cutting an_is_cutting cd_is_cutting ct_is_cutting), sl_is_cutting⟩) (q_is_cutting : PySem.W.codeIn K cd_is_cutting "is_cutting" = true) (k_is_cutting : PySem.W.keepIn K (.ref f_is_cutting) = true)
    (a_is_int : PySem.W.nsIn K mainGlobals "is_int" = some (some (.ref f_is_int))) (l_is_int : K.lookup f_is_int = some ⟨oc_is_int, od_is_int, .func (PySem.W.fnOf "is_int" "is_int" (defArgs (topS 8)) (defBody (topS 8)) (defScope (topS 8)) .none kV_is_int dc_is_int pm_is_int an_is_int cd_is_int ct_is_int), sl_is_int⟩) (q_is_int : PySem.W.codeIn K cd_is_int "is_int" = true) (k_is_int : PySem.W.keepIn K (.ref f_is_int) = true)
    (a_is_line : PySem.W.nsIn K mainGlobals "is_line" = some (some (.ref f_is_line))) (l_is_line : K.lookup f_is_line = some ⟨oc_is_line, od_is_line, .func (PySem.W.fnOf "is_line" "is_line" (defArgs (topS 44)) (defBody (topS 44)) (defScope (topS 44)) .none kV_is_line dc_is_line pm_is_line an_is_line cd_is_line ct_is_line), sl_is_line⟩) (q_is_line : PySem.W.codeIn K cd_is_line "is_line" = true) (k_is_line : PySem.W.keepIn K (.ref f_is_line) = true)
    (a_is_shape : PySem.W.nsIn K mainGlobals "is_shape" = some (some (.ref f_is_shape))) (l_is_shape : K.lookup f_is_shape = some ⟨oc_is_shape, od_is_shape, .func (PySem.W.fnOf "is_shape" "is_shape" (defArgs (topS 40)) (defBody (topS 40)) (defScope (topS 40)) .none kV_is_shape dc_is_shape pm_is_shape an_is_shape cd_is_shape ct_is_shape), sl_is_shape⟩) (q_is_shape : PySem.W.codeIn K cd_is_shape "is_shape" = true) (k_is_shape : PySem.W.keepIn K (.ref f_is_shape) = true)
    (a_is_tree : PySem.W.nsIn K mainGlobals "is_tree" = some (some (.ref f_is_tree))) (l_is_tree : K.lookup f_is_tree = some ⟨oc_is_tree, od_is_tree, .func (PySem.W.fnOf "is_tree" "is_tree" (defArgs (topS 26)) (defBody (topS 26)) (defScope (topS 26)) .none kV_is_tree dc_is_tree pm_is_tree an_is_tree cd_is_tree ct_is_tree), sl_is_tree⟩) (q_is_tree : PySem.W.codeIn K cd_is_tree "is_tree" = true) (k_is_tree : PySem.W.keepIn K (.ref f_is_tree) = true)
    (a_law : PySem.W.nsIn K mainGlobals "law" = some (some (.ref f_law))) (l_law : K.lookup f_law = some ⟨oc_law, od_law, .func (PySem.W.fnOf "law" "law" (defArgs (topS 73)) (defBody (topS 73)) (defScope (topS 73)) .none kV_law dc_law pm_law an_law cd_law ct_law), sl_law⟩) (q_law : PySem.W.codeIn K cd_law "law" = true) (k_law : PySem.W.keepIn K (.ref f_law) = true)
    (a_mountain : PySem.W.nsIn K mainGlobals "mountain" = some (some (.ref f_mountain))) (l_mountain : K.lookup f_mountain = some ⟨oc_mountain, od_mountain, .func (PySem.W.fnOf "mountain" "mountain" (defArgs (topS 56)) (defBody (topS 56)) (defScope (topS 56)) .none kV_mountain dc_mountain pm_mountain an_mountain cd_mountain ct_mountain), sl_mountain⟩) (q_mountain : PySem.W.codeIn K cd_mountain "mountain" = true) (k_mountain : PySem.W.keepIn K (.ref f_mountain) = true)
    (a_mountain_over : PySem.W.nsIn K mainGlobals "mountain_over" = some (some (.ref f_mountain_over))) (l_mountain_over : K.lookup f_mountain_over = some ⟨oc_mountain_over, od_mountain_over, .func (PySem.W.fnOf "mountain_over" "mountain_over" (defArgs (topS 55)) (defBody (topS 55)) (defScope (topS 55)) .none kV_mountain_over dc_mountain_over pm_mountain_over an_mountain_over cd_mountain_over ct_mountain_over), sl_mountain_over⟩) (q_mountain_over : PySem.W.codeIn K cd_mountain_over "mountain_over" = true) (k_mountain_over : PySem.W.keepIn K (.ref f_mountain_over) = true)
    (a_need_cutting : PySem.W.nsIn K mainGlobals "need_cutting" = some (some (.ref f_need_cutting))) (l_need_cutting : K.lookup f_need_cutting = some ⟨oc_need_cutting, od_need_cutting, .func (PySem.W.fnOf "need_cutting" "need_cutting" (defArgs (topS 19)) (defBody (topS 19)) (defScope (topS 19)) .none kV_need_cutting dc_need_cutting pm_need_cutting an_need_cutting cd_need_cutting ct_need_cutting), sl_need_cutting⟩) (q_need_cutting : PySem.W.codeIn K cd_need_cutting "need_cutting" = true) (k_need_cutting : PySem.W.keepIn K (.ref f_need_cutting) = true)
    (a_need_few : PySem.W.nsIn K mainGlobals "need_few" = some (some (.ref f_need_few))) (l_need_few : K.lookup f_need_few = some ⟨oc_need_few, od_need_few, .func (PySem.W.fnOf "need_few" "need_few" (defArgs (topS 12)) (defBody (topS 12)) (defScope (topS 12)) .none kV_need_few dc_need_few pm_need_few an_need_few cd_need_few ct_need_few), sl_need_few⟩) (q_need_few : PySem.W.codeIn K cd_need_few "need_few" = true) (k_need_few : PySem.W.keepIn K (.ref f_need_few) = true)
    (a_need_line : PySem.W.nsIn K mainGlobals "need_line" = some (some (.ref f_need_line))) (l_need_line : K.lookup f_need_line = some ⟨oc_need_line, od_need_line, .func (PySem.W.fnOf "need_line" "need_line" (defArgs (topS 45)) (defBody (topS 45)) (defScope (topS 45)) .none kV_need_line dc_need_line pm_need_line an_need_line cd_need_line ct_need_line), sl_need_line⟩) (q_need_line : PySem.W.codeIn K cd_need_line "need_line" = true) (k_need_line : PySem.W.keepIn K (.ref f_need_line) = true)
    (a_need_shape : PySem.W.nsIn K mainGlobals "need_shape" = some (some (.ref f_need_shape))) (l_need_shape : K.lookup f_need_shape = some ⟨oc_need_shape, od_need_shape, .func (PySem.W.fnOf "need_shape" "need_shape" (defArgs (topS 41)) (defBody (topS 41)) (defScope (topS 41)) .none kV_need_shape dc_need_shape pm_need_shape an_need_shape cd_need_shape ct_need_shape), sl_need_shape⟩) (q_need_shape : PySem.W.codeIn K cd_need_shape "need_shape" = true) (k_need_shape : PySem.W.keepIn K (.ref f_need_shape) = true)
    (a_need_tree : PySem.W.nsIn K mainGlobals "need_tree" = some (some (.ref f_need_tree))) (l_need_tree : K.lookup f_need_tree = some ⟨oc_need_tree, od_need_tree, .func (PySem.W.fnOf "need_tree" "need_tree" (defArgs (topS 27)) (defBody (topS 27)) (defScope (topS 27)) .none kV_need_tree dc_need_tree pm_need_tree an_need_tree cd_need_tree ct_need_tree), sl_need_tree⟩) (q_need_tree : PySem.W.codeIn K cd_need_tree "need_tree" = true) (k_need_tree : PySem.W.keepIn K (.ref f_need_tree) = true)
    (a_numbers_from : PySem.W.nsIn K mainGlobals "numbers_from" = some (some (.ref f_numbers_from))) (l_numbers_from : K.lookup f_numbers_from = some ⟨oc_numbers_from, od_numbers_from, .func (PySem.W.fnOf "numbers_from" "numbers_from" (defArgs (topS 35)) (defBody (topS 35)) (defScope (topS 35)) .none kV_numbers_from dc_numbers_from pm_numbers_from an_numbers_from cd_numbers_from ct_numbers_from), sl_numbers_from⟩) (q_numbers_from : PySem.W.codeIn K cd_numbers_from "numbers_from" = true) (k_numbers_from : PySem.W.keepIn K (.ref f_numbers_from) = true)
    (a_part_over : PySem.W.nsIn K mainGlobals "part_over" = some (some (.ref f_part_over))) (l_part_over : K.lookup f_part_over = some ⟨oc_part_over, od_part_over, .func (PySem.W.fnOf "part_over" "part_over" (defArgs (topS 20)) (defBody (topS 20)) (defScope (topS 20)) .none kV_part_over dc_part_over pm_part_over an_part_over cd_part_over ct_part_over), sl_part_over⟩) (q_part_over : PySem.W.codeIn K cd_part_over "part_over" = true) (k_part_over : PySem.W.keepIn K (.ref f_part_over) = true)
    (a_parting_by : PySem.W.nsIn K mainGlobals "parting_by" = some (some (.ref f_parting_by))) (l_parting_by : K.lookup f_parting_by = some ⟨oc_parting_by, od_parting_by, .func (PySem.W.fnOf "parting_by" "parting_by" (defArgs (topS 58)) (defBody (topS 58)) (defScope (topS 58)) .none kV_parting_by dc_parting_by pm_parting_by an_parting_by cd_parting_by ct_parting_by), sl_parting_by⟩) (q_parting_by : PySem.W.codeIn K cd_parting_by "parting_by" = true) (k_parting_by : PySem.W.keepIn K (.ref f_parting_by) = true)
    (a_parting_by_corners : PySem.W.nsIn K mainGlobals "parting_by_corners" = some (some (.ref f_parting_by_corners))) (l_parting_by_corners : K.lookup f_parting_by_corners = some ⟨oc_parting_by_corners, od_parting_by_corners, .func (PySem.W.fnOf "parting_by_corners" "parting_by_corners" (defArgs (topS 59)) (defBody (topS 59)) (defScope (topS 59)) .none kV_parting_by_corners dc_parting_by_corners pm_parting_by_corners an_parting_by_corners cd_parting_by_corners ct_parting_by_corners), sl_parting_by_corners⟩) (q_parting_by_corners : PySem.W.codeIn K cd_parting_by_corners "parting_by_corners" = true) (k_parting_by_corners : PySem.W.keepIn K (.ref f_parting_by_corners) = true)
    (a_parting_of : PySem.W.nsIn K mainGlobals "parting_of" = some (some (.ref f_parting_of))) (l_parting_of : K.lookup f_parting_of = some ⟨oc_parting_of, od_parting_of, .func (PySem.W.fnOf "parting_of" "parting_of" (defArgs (topS 61)) (defBody (topS 61)) (defScope (topS 61)) .none kV_parting_of dc_parting_of pm_parting_of an_parting_of cd_parting_of ct_parting_of), sl_parting_of⟩) (q_parting_of : PySem.W.codeIn K cd_parting_of "parting_of" = true) (k_parting_of : PySem.W.keepIn K (.ref f_parting_of) = true)
    (a_parts : PySem.W.nsIn K mainGlobals "parts" = some (some (.ref f_parts))) (l_parts : K.lookup f_parts = some ⟨oc_parts, od_parts, .func (PySem.W.fnOf "parts" "parts" (defArgs (topS 21)) (defBody (topS 21)) (defScope (topS 21)) .none kV_parts dc_parts pm_parts an_parts cd_parts ct_parts), sl_parts⟩) (q_parts : PySem.W.codeIn K cd_parts "parts" = true) (k_parts : PySem.W.keepIn K (.ref f_parts) = true)
    (a_reaches : PySem.W.nsIn K mainGlobals "reaches" = some (some (.ref f_reaches))) (l_reaches : K.lookup f_reaches = some ⟨oc_reaches, od_reaches, .func (PySem.W.fnOf "reaches" "reaches" (defArgs (topS 33)) (defBody (topS 33)) (defScope (topS 33)) .none kV_reaches dc_reaches pm_reaches an_reaches cd_reaches ct_reaches), sl_reaches⟩) (q_reaches : PySem.W.codeIn K cd_reaches "reaches" = true) (k_reaches : PySem.W.keepIn K (.ref f_reaches) = true)
    (a_reaches_within : PySem.W.nsIn K mainGlobals "reaches_within" = some (some (.ref f_reaches_within))) (l_reaches_within : K.lookup f_reaches_within = some ⟨oc_reaches_within, od_reaches_within, .func (PySem.W.fnOf "reaches_within" "reaches_within" (defArgs (topS 32)) (defBody (topS 32)) (defScope (topS 32)) .none kV_reaches_within dc_reaches_within pm_reaches_within an_reaches_within cd_reaches_within ct_reaches_within), sl_reaches_within⟩) (q_reaches_within : PySem.W.codeIn K cd_reaches_within "reaches_within" = true) (k_reaches_within : PySem.W.keepIn K (.ref f_reaches_within) = true)
    (a_shape_of : PySem.W.nsIn K mainGlobals "shape_of" = some (some (.ref f_shape_of))) (l_shape_of : K.lookup f_shape_of = some ⟨oc_shape_of, od_shape_of, .func (PySem.W.fnOf "shape_of" "shape_of" (defArgs (topS 51)) (defBody (topS 51)) (defScope (topS 51)) .none kV_shape_of dc_shape_of pm_shape_of an_shape_of cd_shape_of ct_shape_of), sl_shape_of⟩) (q_shape_of : PySem.W.codeIn K cd_shape_of "shape_of" = true) (k_shape_of : PySem.W.keepIn K (.ref f_shape_of) = true)
    (a_snake_along : PySem.W.nsIn K mainGlobals "snake_along" = some (some (.ref f_snake_along))) (l_snake_along : K.lookup f_snake_along = some ⟨oc_snake_along, od_snake_along, .func (PySem.W.fnOf "snake_along" "snake_along" (defArgs (topS 50)) (defBody (topS 50)) (defScope (topS 50)) .none kV_snake_along dc_snake_along pm_snake_along an_snake_along cd_snake_along ct_snake_along), sl_snake_along⟩) (q_snake_along : PySem.W.codeIn K cd_snake_along "snake_along" = true) (k_snake_along : PySem.W.keepIn K (.ref f_snake_along) = true)
    (a_tally : PySem.W.nsIn K mainGlobals "tally" = some (some (.ref f_tally))) (l_tally : K.lookup f_tally = some ⟨oc_tally, od_tally, .func (PySem.W.fnOf "tally" "tally" (defArgs (topS 42)) (defBody (topS 42)) (defScope (topS 42)) .none kV_tally dc_tally pm_tally an_tally cd_tally ct_tally), sl_tally⟩) (q_tally : PySem.W.codeIn K cd_tally "tally" = true) (k_tally : PySem.W.keepIn K (.ref f_tally) = true)
    (a_tiles_along : PySem.W.nsIn K mainGlobals "tiles_along" = some (some (.ref f_tiles_along))) (l_tiles_along : K.lookup f_tiles_along = some ⟨oc_tiles_along, od_tiles_along, .func (PySem.W.fnOf "tiles_along" "tiles_along" (defArgs (topS 49)) (defBody (topS 49)) (defScope (topS 49)) .none kV_tiles_along dc_tiles_along pm_tiles_along an_tiles_along cd_tiles_along ct_tiles_along), sl_tiles_along⟩) (q_tiles_along : PySem.W.codeIn K cd_tiles_along "tiles_along" = true) (k_tiles_along : PySem.W.keepIn K (.ref f_tiles_along) = true)
    (a_tree_by_cutting : PySem.W.nsIn K mainGlobals "tree_by_cutting" = some (some (.ref f_tree_by_cutting))) (l_tree_by_cutting : K.lookup f_tree_by_cutting = some ⟨oc_tree_by_cutting, od_tree_by_cutting, .func (PySem.W.fnOf "tree_by_cutting" "tree_by_cutting" (defArgs (topS 30)) (defBody (topS 30)) (defScope (topS 30)) .none kV_tree_by_cutting dc_tree_by_cutting pm_tree_by_cutting an_tree_by_cutting cd_tree_by_cutting ct_tree_by_cutting), sl_tree_by_cutting⟩) (q_tree_by_cutting : PySem.W.codeIn K cd_tree_by_cutting "tree_by_cutting" = true) (k_tree_by_cutting : PySem.W.keepIn K (.ref f_tree_by_cutting) = true)
    (a_tree_of : PySem.W.nsIn K mainGlobals "tree_of" = some (some (.ref f_tree_of))) (l_tree_of : K.lookup f_tree_of = some ⟨oc_tree_of, od_tree_of, .func (PySem.W.fnOf "tree_of" "tree_of" (defArgs (topS 31)) (defBody (topS 31)) (defScope (topS 31)) .none kV_tree_of dc_tree_of pm_tree_of an_tree_of cd_tree_of ct_tree_of), sl_tree_of⟩) (q_tree_of : PySem.W.codeIn K cd_tree_of "tree_of" = true) (k_tree_of : PySem.W.keepIn K (.ref f_tree_of) = true)
    (a_tree_over : PySem.W.nsIn K mainGlobals "tree_over" = some (some (.ref f_tree_over))) (l_tree_over : K.lookup f_tree_over = some ⟨oc_tree_over, od_tree_over, .func (PySem.W.fnOf "tree_over" "tree_over" (defArgs (topS 29)) (defBody (topS 29)) (defScope (topS 29)) .none kV_tree_over dc_tree_over pm_tree_over an_tree_over cd_tree_over ct_tree_over), sl_tree_over⟩) (q_tree_over : PySem.W.codeIn K cd_tree_over "tree_over" = true) (k_tree_over : PySem.W.keepIn K (.ref f_tree_over) = true)
    (z_abs : PySem.W.nsIn K mainGlobals "abs" = some none)
    (z_all : PySem.W.nsIn K mainGlobals "all" = some none)
    (z_any : PySem.W.nsIn K mainGlobals "any" = some none)
    (z_bool : PySem.W.nsIn K mainGlobals "bool" = some none)
    (z_enumerate : PySem.W.nsIn K mainGlobals "enumerate" = some none)
    (z_int : PySem.W.nsIn K mainGlobals "int" = some none)
    (z_isinstance : PySem.W.nsIn K mainGlobals "isinstance" = some none)
    (z_len : PySem.W.nsIn K mainGlobals "len" = some none)
    (z_list : PySem.W.nsIn K mainGlobals "list" = some none)
    (z_max : PySem.W.nsIn K mainGlobals "max" = some none)
    (z_min : PySem.W.nsIn K mainGlobals "min" = some none)
    (z_range : PySem.W.nsIn K mainGlobals "range" = some none)
    (z_set : PySem.W.nsIn K mainGlobals "set" = some none)
    (z_sorted : PySem.W.nsIn K mainGlobals "sorted" = some none)
    (z_tuple : PySem.W.nsIn K mainGlobals "tuple" = some none)
    (z_zip : PySem.W.nsIn K mainGlobals "zip" = some none)
    {t_MOST_FORKS : Tok} (c_MOST_FORKS : PySem.W.nsIn K mainGlobals "MOST_FORKS" = some (some (.int 24 t_MOST_FORKS)))
    {t_MOST_SIDES : Tok} (c_MOST_SIDES : PySem.W.nsIn K mainGlobals "MOST_SIDES" = some (some (.int 40 t_MOST_SIDES)))
    {t_MOST_WORDS : Tok} (c_MOST_WORDS : PySem.W.nsIn K mainGlobals "MOST_WORDS" = some (some (.int 60 t_MOST_WORDS)))
    : ∃ fd : FuncData, (∀ (s : Shared) (v : Value), BindsTo s fd ⟨[v], []⟩ [("_law_script", v)]) ∧ ∀ base : Heap, K.In base → base.Ns mainGlobals mg → FnOk l.prog w K mg base (L2.CX l.prog w) 125 fa fd ["_law_script"] (spL K) := by
  have e := hfa.symm.trans (PySem.W.mg_of X G a_law)
  cases e
  have F__law_blocks := fun_mk (st := topS 69) l__law_blocks q__law_blocks k__law_blocks
  have b__law_blocks := F__law_blocks.binds (ps := ["_law_one", "_law_two", "_law_mine", "_law_yours"]) fun _ _ _ _ _ _ us hl => match us, hl with | [_, _, _, _], _ => rfl
  have F__law_both := fun_mk (st := topS 68) l__law_both q__law_both k__law_both
  have b__law_both := F__law_both.binds (ps := ["_law_one", "_law_two"]) fun _ _ _ _ _ _ us hl => match us, hl with | [_, _], _ => rfl
  have F__law_cup := fun_mk (st := topS 63) l__law_cup q__law_cup k__law_cup
  have b__law_cup := F__law_cup.binds (ps := ["_law_script"]) fun _ _ _ _ _ _ us hl => match us, hl with | [_], _ => rfl
  have F__law_cuts := fun_mk (st := topS 65) l__law_cuts q__law_cuts k__law_cuts
  have b__law_cuts := F__law_cuts.binds (ps := ["_law_cup_here", "_law_first", "_law_last"]) fun _ _ _ _ _ _ us hl => match us, hl with | [_, _, _], _ => rfl
  have F__law_cutting := fun_mk (st := topS 66) l__law_cutting q__law_cutting k__law_cutting
  have b__law_cutting := F__law_cutting.binds (ps := ["_law_cup_here", "_law_least", "_law_most"]) fun _ _ _ _ _ _ us hl => match us, hl with | [_, _, _], _ => rfl
  have F__law_is_last := fun_mk (st := topS 70) l__law_is_last q__law_is_last k__law_is_last
  have b__law_is_last := F__law_is_last.binds (ps := ["_law_cutting_here", "_law_block"]) fun _ _ _ _ _ _ us hl => match us, hl with | [_, _], _ => rfl
  have F__law_number_across := fun_mk (st := topS 71) l__law_number_across q__law_number_across k__law_number_across
  have b__law_number_across := F__law_number_across.binds (ps := ["_law_mine", "_law_yours", "_law_i", "_law_j"]) fun _ _ _ _ _ _ us hl => match us, hl with | [_, _, _, _], _ => rfl
  have F__law_right := fun_mk (st := topS 72) l__law_right q__law_right k__law_right
  have b__law_right := F__law_right.binds (ps := ["_law_one", "_law_two"]) fun _ _ _ _ _ _ us hl => match us, hl with | [_, _], _ => rfl
  have F__law_roll := fun_mk (st := topS 64) l__law_roll q__law_roll k__law_roll
  have b__law_roll := F__law_roll.binds (ps := ["_law_cup_here", "_law_many"]) fun _ _ _ _ _ _ us hl => match us, hl with | [_, _], _ => rfl
  have F__law_ties := fun_mk (st := topS 67) l__law_ties q__law_ties k__law_ties
  have b__law_ties := F__law_ties.binds (ps := ["_law_cutting_here"]) fun _ _ _ _ _ _ us hl => match us, hl with | [_], _ => rfl
  have F_are_free_cuts := fun_mk (st := topS 17) l_are_free_cuts q_are_free_cuts k_are_free_cuts
  have b_are_free_cuts := F_are_free_cuts.binds (ps := ["sides", "value"]) fun _ _ _ _ _ _ us hl => match us, hl with | [_, _], _ => rfl
  have F_are_ints := fun_mk (st := topS 10) l_are_ints q_are_ints k_are_ints
  have b_are_ints := F_are_ints.binds (ps := ["value", "many"]) fun _ _ _ _ _ _ us hl => match us, hl with | [_, _], _ => rfl
  have F_count_pairings := fun_mk (st := topS 53) l_count_pairings q_count_pairings k_count_pairings
  have b_count_pairings := F_count_pairings.binds (ps := ["cutting", "line"]) fun _ _ _ _ _ _ us hl => match us, hl with | [_, _], _ => rfl
  have F_counts_at := fun_mk (st := topS 23) l_counts_at q_counts_at k_counts_at
  have b_counts_at := F_counts_at.binds (ps := ["cutting"]) fun _ _ _ _ _ _ us hl => match us, hl with | [_], _ => rfl
  have F_counts_by_cuts := fun_mk (st := topS 22) l_counts_by_cuts q_counts_by_cuts k_counts_by_cuts
  have b_counts_by_cuts := F_counts_by_cuts.binds (ps := ["sides", "cuts"]) fun _ _ _ _ _ _ us hl => match us, hl with | [_, _], _ => rfl
  have F_crosses := fun_mk (st := topS 16) l_crosses q_crosses k_crosses
  have b_crosses := F_crosses.binds (ps := ["one", "other"]) fun _ _ _ _ _ _ us hl => match us, hl with | [_, _], _ => rfl
  have F_cuts_along := fun_mk (st := topS 46) l_cuts_along q_cuts_along k_cuts_along
  have b_cuts_along := F_cuts_along.binds (ps := ["cutting", "line"]) fun _ _ _ _ _ _ us hl => match us, hl with | [_, _], _ => rfl
  have F_ends_ahead := fun_mk (st := topS 48) l_ends_ahead q_ends_ahead k_ends_ahead
  have b_ends_ahead := F_ends_ahead.binds (ps := ["line", "cuts"]) fun _ _ _ _ _ _ us hl => match us, hl with | [_, _], _ => rfl
  have F_first_tile := fun_mk (st := topS 47) l_first_tile q_first_tile k_first_tile
  have b_first_tile := F_first_tile.binds (ps := ["line", "cut"]) fun _ _ _ _ _ _ us hl => match us, hl with | [_, _], _ => rfl
  have F_forks_within := fun_mk (st := topS 28) l_forks_within q_forks_within k_forks_within
  have b_forks_within := F_forks_within.binds (ps := ["tree"]) fun _ _ _ _ _ _ us hl => match us, hl with | [_], _ => rfl
  have F_frieze := fun_mk (st := topS 37) l_frieze q_frieze k_frieze
  have b_frieze := F_frieze.binds (ps := ["cutting"]) fun _ _ _ _ _ _ us hl => match us, hl with | [_], _ => rfl
  have F_frieze_of_counts := fun_mk (st := topS 36) l_frieze_of_counts q_frieze_of_counts k_frieze_of_counts
  have b_frieze_of_counts := F_frieze_of_counts.binds (ps := ["row"]) fun _ _ _ _ _ _ us hl => match us, hl with | [_], _ => rfl
  have F_is_ascending := fun_mk (st := topS 11) l_is_ascending q_is_ascending k_is_ascending
  have b_is_ascending := F_is_ascending.binds (ps := ["items"]) fun _ _ _ _ _ _ us hl => match us, hl with | [_], _ => rfl
  have F_is_between := fun_mk (st := topS 9) l_is_between q_is_between k_is_between
  have b_is_between := F_is_between.binds (ps := ["value", "low", "high"]) fun _ _ _ _ _ _ us hl => match us, hl with | [_, _, _], _ => rfl
  have F_is_cut_within := fun_mk (st := topS 15) l_is_cut_within q_is_cut_within k_is_cut_within
  have b_is_cut_within := F_is_cut_within.binds (ps := ["sides", "value"]) fun _ _ _ _ _ _ us hl => match us, hl with | [_, _], _ => rfl
  have F_is_cutting := fun_mk (st := topS 18) l_is_cutting q_is_cutting k_is_cutting
  have b_is_cutting := F_is_cutting.binds (ps := ["value"]) fun _ _ _ _ _ _ us hl => match us, hl with | [_], _ => rfl
  have F_is_int := fun_mk (st := topS 8) l_is_int q_is_int k_is_int
  have b_is_int := F_is_int.binds (ps := ["value"]) fun _ _ _ _ _ _ us hl => match us, hl with | [_], _ => rfl
  have F_is_line := fun_mk (st := topS 44) l_is_line q_is_line k_is_line
  have b_is_line := F_is_line.binds (ps := ["cutting", "value"]) fun _ _ _ _ _ _ us hl => match us, hl with | [_, _], _ => rfl
  have F_is_shape := fun_mk (st := topS 40) l_is_shape q_is_shape k_is_shape
  have b_is_shape := F_is_shape.binds (ps := ["value"]) fun _ _ _ _ _ _ us hl => match us, hl with | [_], _ => rfl
  have F_is_tree := fun_mk (st := topS 26) l_is_tree q_is_tree k_is_tree
  have b_is_tree := F_is_tree.binds (ps := ["value"]) fun _ _ _ _ _ _ us hl => match us, hl with | [_], _ => rfl
  have F_law := fun_mk (st := topS 73) l_law q_law k_law
  have b_law := F_law.binds (ps := ["_law_script"]) fun _ _ _ _ _ _ us hl => match us, hl with | [_], _ => rfl
  have F_mountain := fun_mk (st := topS 56) l_mountain q_mountain k_mountain
  have b_mountain := F_mountain.binds (ps := ["tree"]) fun _ _ _ _ _ _ us hl => match us, hl with | [_], _ => rfl
  have F_mountain_over := fun_mk (st := topS 55) l_mountain_over q_mountain_over k_mountain_over
  have b_mountain_over := F_mountain_over.binds (ps := ["tree"]) fun _ _ _ _ _ _ us hl => match us, hl with | [_], _ => rfl
  have F_need_cutting := fun_mk (st := topS 19) l_need_cutting q_need_cutting k_need_cutting
  have b_need_cutting := F_need_cutting.binds (ps := ["value"]) fun _ _ _ _ _ _ us hl => match us, hl with | [_], _ => rfl
  have F_need_few := fun_mk (st := topS 12) l_need_few q_need_few k_need_few
  have b_need_few := F_need_few.binds (ps := ["many", "limit"]) fun _ _ _ _ _ _ us hl => match us, hl with | [_, _], _ => rfl
  have F_need_line := fun_mk (st := topS 45) l_need_line q_need_line k_need_line
  have b_need_line := F_need_line.binds (ps := ["cutting", "value"]) fun _ _ _ _ _ _ us hl => match us, hl with | [_, _], _ => rfl
  have F_need_shape := fun_mk (st := topS 41) l_need_shape q_need_shape k_need_shape
  have b_need_shape := F_need_shape.binds (ps := ["value"]) fun _ _ _ _ _ _ us hl => match us, hl with | [_], _ => rfl
  have F_need_tree := fun_mk (st := topS 27) l_need_tree q_need_tree k_need_tree
  have b_need_tree := F_need_tree.binds (ps := ["value"]) fun _ _ _ _ _ _ us hl => match us, hl with | [_], _ => rfl
  have F_numbers_from := fun_mk (st := topS 35) l_numbers_from q_numbers_from k_numbers_from
  have b_numbers_from := F_numbers_from.binds (ps := ["row", "place", "steps"]) fun _ _ _ _ _ _ us hl => match us, hl with | [_, _, _], _ => rfl
  have F_part_over := fun_mk (st := topS 20) l_part_over q_part_over k_part_over
  have b_part_over := F_part_over.binds (ps := ["base", "ends"]) fun _ _ _ _ _ _ us hl => match us, hl with | [_, _], _ => rfl
  have F_parting_by := fun_mk (st := topS 58) l_parting_by q_parting_by k_parting_by
  have b_parting_by := F_parting_by.binds (ps := ["keys"]) fun _ _ _ _ _ _ us hl => match us, hl with | [_], _ => rfl
  have F_parting_by_corners := fun_mk (st := topS 59) l_parting_by_corners q_parting_by_corners k_parting_by_corners
  have b_parting_by_corners := F_parting_by_corners.binds (ps := ["cutting", "place"]) fun _ _ _ _ _ _ us hl => match us, hl with | [_, _], _ => rfl
  have F_parting_of := fun_mk (st := topS 61) l_parting_of q_parting_of k_parting_of
  have b_parting_of := F_parting_of.binds (ps := ["cutting"]) fun _ _ _ _ _ _ us hl => match us, hl with | [_], _ => rfl
  have F_parts := fun_mk (st := topS 21) l_parts q_parts k_parts
  have b_parts := F_parts.binds (ps := ["sides", "cuts"]) fun _ _ _ _ _ _ us hl => match us, hl with | [_, _], _ => rfl
  have F_reaches := fun_mk (st := topS 33) l_reaches q_reaches k_reaches
  have b_reaches := F_reaches.binds (ps := ["tree"]) fun _ _ _ _ _ _ us hl => match us, hl with | [_], _ => rfl
  have F_reaches_within := fun_mk (st := topS 32) l_reaches_within q_reaches_within k_reaches_within
  have b_reaches_within := F_reaches_within.binds (ps := ["tree"]) fun _ _ _ _ _ _ us hl => match us, hl with | [_], _ => rfl
  have F_shape_of := fun_mk (st := topS 51) l_shape_of q_shape_of k_shape_of
  have b_shape_of := F_shape_of.binds (ps := ["cutting", "line"]) fun _ _ _ _ _ _ us hl => match us, hl with | [_, _], _ => rfl
  have F_snake_along := fun_mk (st := topS 50) l_snake_along q_snake_along k_snake_along
  have b_snake_along := F_snake_along.binds (ps := ["cutting", "line"]) fun _ _ _ _ _ _ us hl => match us, hl with | [_, _], _ => rfl
  have F_tally := fun_mk (st := topS 42) l_tally q_tally k_tally
  have b_tally := F_tally.binds (ps := ["shape"]) fun _ _ _ _ _ _ us hl => match us, hl with | [_], _ => rfl
  have F_tiles_along := fun_mk (st := topS 49) l_tiles_along q_tiles_along k_tiles_along
  have b_tiles_along := F_tiles_along.binds (ps := ["line", "cuts"]) fun _ _ _ _ _ _ us hl => match us, hl with | [_, _], _ => rfl
  have F_tree_by_cutting := fun_mk (st := topS 30) l_tree_by_cutting q_tree_by_cutting k_tree_by_cutting
  have b_tree_by_cutting := F_tree_by_cutting.binds (ps := ["cutting"]) fun _ _ _ _ _ _ us hl => match us, hl with | [_], _ => rfl
  have F_tree_of := fun_mk (st := topS 31) l_tree_of q_tree_of k_tree_of
  have b_tree_of := F_tree_of.binds (ps := ["cutting"]) fun _ _ _ _ _ _ us hl => match us, hl with | [_], _ => rfl
  have F_tree_over := fun_mk (st := topS 29) l_tree_over q_tree_over k_tree_over
  have b_tree_over := F_tree_over.binds (ps := ["low", "high", "thirds"]) fun _ _ _ _ _ _ us hl => match us, hl with | [_, _, _], _ => rfl
  have fs : FS K mg := ⟨⟨_, PySem.W.mg_of X G c_MOST_FORKS⟩, ⟨_, PySem.W.mg_of X G c_MOST_SIDES⟩, ⟨_, PySem.W.mg_of X G c_MOST_WORDS⟩, f__law_blocks, _, F__law_blocks, PySem.W.mg_of X G a__law_blocks, b__law_blocks, f__law_both, _, F__law_both, PySem.W.mg_of X G a__law_both, b__law_both, f__law_cup, _, F__law_cup, PySem.W.mg_of X G a__law_cup, b__law_cup, f__law_cuts, _, F__law_cuts, PySem.W.mg_of X G a__law_cuts, b__law_cuts, f__law_cutting, _, F__law_cutting, PySem.W.mg_of X G a__law_cutting, b__law_cutting, f__law_is_last, _, F__law_is_last, PySem.W.mg_of X G a__law_is_last, b__law_is_last, f__law_number_across, _, F__law_number_across, PySem.W.mg_of X G a__law_number_across, b__law_number_across, f__law_right, _, F__law_right, PySem.W.mg_of X G a__law_right, b__law_right, f__law_roll, _, F__law_roll, PySem.W.mg_of X G a__law_roll, b__law_roll, f__law_ties, _, F__law_ties, PySem.W.mg_of X G a__law_ties, b__law_ties, f_are_free_cuts, _, F_are_free_cuts, PySem.W.mg_of X G a_are_free_cuts, b_are_free_cuts, f_are_ints, _, F_are_ints, PySem.W.mg_of X G a_are_ints, b_are_ints, f_count_pairings, _, F_count_pairings, PySem.W.mg_of X G a_count_pairings, b_count_pairings, f_counts_at, _, F_counts_at, PySem.W.mg_of X G a_counts_at, b_counts_at, f_counts_by_cuts, _, F_counts_by_cuts, PySem.W.mg_of X G a_counts_by_cuts, b_counts_by_cuts, f_crosses, _, F_crosses, PySem.W.mg_of X G a_crosses, b_crosses, f_cuts_along, _, F_cuts_along, PySem.W.mg_of X G a_cuts_along, b_cuts_along, f_ends_ahead, _, F_ends_ahead, PySem.W.mg_of X G a_ends_ahead, b_ends_ahead, f_first_tile, _, F_first_tile, PySem.W.mg_of X G a_first_tile, b_first_tile, f_forks_within, _, F_forks_within, PySem.W.mg_of X G a_forks_within, b_forks_within, f_frieze, _, F_frieze, PySem.W.mg_of X G a_frieze, b_frieze, f_frieze_of_counts, _, F_frieze_of_counts, PySem.W.mg_of X G a_frieze_of_counts, b_frieze_of_counts, f_is_ascending, _, F_is_ascending, PySem.W.mg_of X G a_is_ascending, b_is_ascending, f_is_between, _, F_is_between, PySem.W.mg_of X G a_is_between, b_is_between, f_is_cut_within, _, F_is_cut_within, PySem.W.mg_of X G a_is_cut_within, b_is_cut_within, f_is_cutting, _, F_is_cutting, PySem.W.mg_of X G a_is_cutting, b_is_cutting, f_is_int, _, F_is_int, PySem.W.mg_of X G a_is_int, b_is_int, f_is_line, _, F_is_line, PySem.W.mg_of X G a_is_line, b_is_line, f_is_shape, _, F_is_shape, PySem.W.mg_of X G a_is_shape, b_is_shape, f_is_tree, _, F_is_tree, PySem.W.mg_of X G a_is_tree, b_is_tree, fa, _, F_law, PySem.W.mg_of X G a_law, b_law, f_mountain, _, F_mountain, PySem.W.mg_of X G a_mountain, b_mountain, f_mountain_over, _, F_mountain_over, PySem.W.mg_of X G a_mountain_over, b_mountain_over, f_need_cutting, _, F_need_cutting, PySem.W.mg_of X G a_need_cutting, b_need_cutting, f_need_few, _, F_need_few, PySem.W.mg_of X G a_need_few, b_need_few, f_need_line, _, F_need_line, PySem.W.mg_of X G a_need_line, b_need_line, f_need_shape, _, F_need_shape, PySem.W.mg_of X G a_need_shape, b_need_shape, f_need_tree, _, F_need_tree, PySem.W.mg_of X G a_need_tree, b_need_tree, f_numbers_from, _, F_numbers_from, PySem.W.mg_of X G a_numbers_from, b_numbers_from, f_part_over, _, F_part_over, PySem.W.mg_of X G a_part_over, b_part_over, f_parting_by, _, F_parting_by, PySem.W.mg_of X G a_parting_by, b_parting_by, f_parting_by_corners, _, F_parting_by_corners, PySem.W.mg_of X G a_parting_by_corners, b_parting_by_corners, f_parting_of, _, F_parting_of, PySem.W.mg_of X G a_parting_of, b_parting_of, f_parts, _, F_parts, PySem.W.mg_of X G a_parts, b_parts, f_reaches, _, F_reaches, PySem.W.mg_of X G a_reaches, b_reaches, f_reaches_within, _, F_reaches_within, PySem.W.mg_of X G a_reaches_within, b_reaches_within, f_shape_of, _, F_shape_of, PySem.W.mg_of X G a_shape_of, b_shape_of, f_snake_along, _, F_snake_along, PySem.W.mg_of X G a_snake_along, b_snake_along, f_tally, _, F_tally, PySem.W.mg_of X G a_tally, b_tally, f_tiles_along, _, F_tiles_along, PySem.W.mg_of X G a_tiles_along, b_tiles_along, f_tree_by_cutting, _, F_tree_by_cutting, PySem.W.mg_of X G a_tree_by_cutting, b_tree_by_cutting, f_tree_of, _, F_tree_of, PySem.W.mg_of X G a_tree_of, b_tree_of, f_tree_over, _, F_tree_over, PySem.W.mg_of X G a_tree_over, b_tree_over, PySem.W.mg_none_of X G z_abs, PySem.W.mg_none_of X G z_all, PySem.W.mg_none_of X G z_any, PySem.W.mg_none_of X G z_bool, PySem.W.mg_none_of X G z_enumerate, PySem.W.mg_none_of X G z_int, PySem.W.mg_none_of X G z_isinstance, PySem.W.mg_none_of X G z_len, PySem.W.mg_none_of X G z_list, PySem.W.mg_none_of X G z_max, PySem.W.mg_none_of X G z_min, PySem.W.mg_none_of X G z_range, PySem.W.mg_none_of X G z_set, PySem.W.mg_none_of X G z_sorted, PySem.W.mg_none_of X G z_tuple, PySem.W.mg_none_of X G z_zip⟩
  exact ⟨_, fun s v => .of_eq rfl, fun base _ _ => (ok_law ⟨⟨_, PySem.W.mg_of X G c_MOST_FORKS⟩, ⟨_, PySem.W.mg_of X G c_MOST_SIDES⟩, ⟨_, PySem.W.mg_of X G c_MOST_WORDS⟩, f__law_blocks, _, F__law_blocks, PySem.W.mg_of X G a__law_blocks, b__law_blocks, f__law_both, _, F__law_both, PySem.W.mg_of X G a__law_both, b__law_both, f__law_cup, _, F__law_cup, PySem.W.mg_of X G a__law_cup, b__law_cup, f__law_cuts, _, F__law_cuts, PySem.W.mg_of X G a__law_cuts, b__law_cuts, f__law_cutting, _, F__law_cutting, PySem.W.mg_of X G a__law_cutting, b__law_cutting, f__law_is_last, _, F__law_is_last, PySem.W.mg_of X G a__law_is_last, b__law_is_last, f__law_number_across, _, F__law_number_across, PySem.W.mg_of X G a__law_number_across, b__law_number_across, f__law_right, _, F__law_right, PySem.W.mg_of X G a__law_right, b__law_right, f__law_roll, _, F__law_roll, PySem.W.mg_of X G a__law_roll, b__law_roll, f__law_ties, _, F__law_ties, PySem.W.mg_of X G a__law_ties, b__law_ties, f_are_free_cuts, _, F_are_free_cuts, PySem.W.mg_of X G a_are_free_cuts, b_are_free_cuts, f_are_ints, _, F_are_ints, PySem.W.mg_of X G a_are_ints, b_are_ints, f_count_pairings, _, F_count_pairings, PySem.W.mg_of X G a_count_pairings, b_count_pairings, f_counts_at, _, F_counts_at, PySem.W.mg_of X G a_counts_at, b_counts_at, f_counts_by_cuts, _, F_counts_by_cuts, PySem.W.mg_of X G a_counts_by_cuts, b_counts_by_cuts, f_crosses, _, F_crosses, PySem.W.mg_of X G a_crosses, b_crosses, f_cuts_along, _, F_cuts_along, PySem.W.mg_of X G a_cuts_along, b_cuts_along, f_ends_ahead, _, F_ends_ahead, PySem.W.mg_of X G a_ends_ahead, b_ends_ahead, f_first_tile, _, F_first_tile, PySem.W.mg_of X G a_first_tile, b_first_tile, f_forks_within, _, F_forks_within, PySem.W.mg_of X G a_forks_within, b_forks_within, f_frieze, _, F_frieze, PySem.W.mg_of X G a_frieze, b_frieze, f_frieze_of_counts, _, F_frieze_of_counts, PySem.W.mg_of X G a_frieze_of_counts, b_frieze_of_counts, f_is_ascending, _, F_is_ascending, PySem.W.mg_of X G a_is_ascending, b_is_ascending, f_is_between, _, F_is_between, PySem.W.mg_of X G a_is_between, b_is_between, f_is_cut_within, _, F_is_cut_within, PySem.W.mg_of X G a_is_cut_within, b_is_cut_within, f_is_cutting, _, F_is_cutting, PySem.W.mg_of X G a_is_cutting, b_is_cutting, f_is_int, _, F_is_int, PySem.W.mg_of X G a_is_int, b_is_int, f_is_line, _, F_is_line, PySem.W.mg_of X G a_is_line, b_is_line, f_is_shape, _, F_is_shape, PySem.W.mg_of X G a_is_shape, b_is_shape, f_is_tree, _, F_is_tree, PySem.W.mg_of X G a_is_tree, b_is_tree, fa, _, F_law, PySem.W.mg_of X G a_law, b_law, f_mountain, _, F_mountain, PySem.W.mg_of X G a_mountain, b_mountain, f_mountain_over, _, F_mountain_over, PySem.W.mg_of X G a_mountain_over, b_mountain_over, f_need_cutting, _, F_need_cutting, PySem.W.mg_of X G a_need_cutting, b_need_cutting, f_need_few, _, F_need_few, PySem.W.mg_of X G a_need_few, b_need_few, f_need_line, _, F_need_line, PySem.W.mg_of X G a_need_line, b_need_line, f_need_shape, _, F_need_shape, PySem.W.mg_of X G a_need_shape, b_need_shape, f_need_tree, _, F_need_tree, PySem.W.mg_of X G a_need_tree, b_need_tree, f_numbers_from, _, F_numbers_from, PySem.W.mg_of X G a_numbers_from, b_numbers_from, f_part_over, _, F_part_over, PySem.W.mg_of X G a_part_over, b_part_over, f_parting_by, _, F_parting_by, PySem.W.mg_of X G a_parting_by, b_parting_by, f_parting_by_corners, _, F_parting_by_corners, PySem.W.mg_of X G a_parting_by_corners, b_parting_by_corners, f_parting_of, _, F_parting_of, PySem.W.mg_of X G a_parting_of, b_parting_of, f_parts, _, F_parts, PySem.W.mg_of X G a_parts, b_parts, f_reaches, _, F_reaches, PySem.W.mg_of X G a_reaches, b_reaches, f_reaches_within, _, F_reaches_within, PySem.W.mg_of X G a_reaches_within, b_reaches_within, f_shape_of, _, F_shape_of, PySem.W.mg_of X G a_shape_of, b_shape_of, f_snake_along, _, F_snake_along, PySem.W.mg_of X G a_snake_along, b_snake_along, f_tally, _, F_tally, PySem.W.mg_of X G a_tally, b_tally, f_tiles_along, _, F_tiles_along, PySem.W.mg_of X G a_tiles_along, b_tiles_along, f_tree_by_cutting, _, F_tree_by_cutting, PySem.W.mg_of X G a_tree_by_cutting, b_tree_by_cutting, f_tree_of, _, F_tree_of, PySem.W.mg_of X G a_tree_of, b_tree_of, f_tree_over, _, F_tree_over, PySem.W.mg_of X G a_tree_over, b_tree_over, PySem.W.mg_none_of X G z_abs, PySem.W.mg_none_of X G z_all, PySem.W.mg_none_of X G z_any, PySem.W.mg_none_of X G z_bool, PySem.W.mg_none_of X G z_enumerate, PySem.W.mg_none_of X G z_int, PySem.W.mg_none_of X G z_isinstance, PySem.W.mg_none_of X G z_len, PySem.W.mg_none_of X G z_list, PySem.W.mg_none_of X G z_max, PySem.W.mg_none_of X G z_min, PySem.W.mg_none_of X G z_range, PySem.W.mg_none_of X G z_set, PySem.W.mg_none_of X G z_sorted, PySem.W.mg_none_of X G z_tuple, PySem.W.mg_none_of X G z_zip⟩).imp fun vs H Q E h => law_sp law_true vs H Q E h⟩
end GL
open PySem PySem.W PyProof.Rows
set_option maxHeartbeats 0 in
theorem PySem.Challenge.cw_eightworlds_k81_whole_two_above_one_piec_holds : PySem.Challenge.rw_eightworlds_k81_whole_two_above_one_piec.Holds := by
  w_on; o_law; k_head; (case hw => w_witness2)
  k_fill
  refine L2.walk_of (l := PySem.Challenge.rw_eightworlds_k81_whole_two_above_one_piec) (n := 63) (k := 125) (x := "_law_script") (CX := fun w => L2.CX PySem.Challenge.rw_eightworlds_k81_whole_two_above_one_piec.prog w) (sp := fun w => PL.spL _) rfl (by decide) rfl ⟨rfl, by decide, by decide⟩ (fun w h Y => PySem.W.kIn_of Y) ?F (fun _ _ a ns hl _ hS => ⟨a, ns, rfl, hS, hl, fun _ => rfl⟩) (fun _ _ _ _ _ h => PL.cx_none h)
  case F =>
    intro w mg fa h KX G hmg
    refine' GL.all_mk KX G hmg ?a__law_blocks ?l__law_blocks ?q__law_blocks ?k__law_blocks ?a__law_both ?l__law_both ?q__law_both ?k__law_both ?a__law_cup ?l__law_cup ?q__law_cup ?k__law_cup ?a__law_cuts ?l__law_cuts ?q__law_cuts ?k__law_cuts ?a__law_cutting ?l__law_cutting ?q__law_cutting ?k__law_cutting ?a__law_is_last ?l__law_is_last ?q__law_is_last ?k__law_is_last ?a__law_number_across ?l__law_number_across ?q__law_number_across ?k__law_number_across ?a__law_right ?l__law_right ?q__law_right ?k__law_right ?a__law_roll ?l__law_roll ?q__law_roll ?k__law_roll ?a__law_ties ?l__law_ties ?q__law_ties ?k__law_ties ?a_are_free_cuts ?l_are_free_cuts ?q_are_free_cuts ?k_are_free_cuts ?a_are_ints ?l_are_ints ?q_are_ints ?k_are_ints ?a_count_pairings ?l_count_pairings ?q_count_pairings ?k_count_pairings ?a_counts_at ?l_counts_at ?q_counts_at ?k_counts_at ?a_counts_by_cuts ?l_counts_by_cuts ?q_counts_by_cuts ?k_counts_by_cuts ?a_crosses ?l_crosses ?q_crosses ?k_crosses ?a_cuts_along ?l_cuts_along ?q_cuts_along ?k_cuts_along ?a_ends_ahead ?l_ends_ahead ?q_ends_ahead ?k_ends_ahead ?a_first_tile ?l_first_tile ?q_first_tile ?k_first_tile ?a_forks_within ?l_forks_within ?q_forks_within ?k_forks_within ?a_frieze ?l_frieze ?q_frieze ?k_frieze ?a_frieze_of_counts ?l_frieze_of_counts ?q_frieze_of_counts ?k_frieze_of_counts ?a_is_ascending ?l_is_ascending ?q_is_ascending ?k_is_ascending ?a_is_between ?l_is_between ?q_is_between ?k_is_between ?a_is_cut_within ?l_is_cut_within ?q_is_cut_within ?k_is_cut_within ?a_is_cutting ?l_is_cutting ?q_is_cutting ?k_is_cutting ?a_is_int ?l_is_int ?q_is_int ?k_is_int ?a_is_line ?l_is_line ?q_is_line ?k_is_line ?a_is_shape ?l_is_shape ?q_is_shape ?k_is_shape ?a_is_tree ?l_is_tree ?q_is_tree ?k_is_tree ?a_law ?l_law ?q_law ?k_law ?a_mountain ?l_mountain ?q_mountain ?k_mountain ?a_mountain_over ?l_mountain_over ?q_mountain_over ?k_mountain_over ?a_need_cutting ?l_need_cutting ?q_need_cutting ?k_need_cutting ?a_need_few ?l_need_few ?q_need_few ?k_need_few ?a_need_line ?l_need_line ?q_need_line ?k_need_line ?a_need_shape ?l_need_shape ?q_need_shape ?k_need_shape ?a_need_tree ?l_need_tree ?q_need_tree ?k_need_tree ?a_numbers_from ?l_numbers_from ?q_numbers_from ?k_numbers_from ?a_part_over ?l_part_over ?q_part_over ?k_part_over ?a_parting_by ?l_parting_by ?q_parting_by ?k_parting_by ?a_parting_by_corners ?l_parting_by_corners ?q_parting_by_corners ?k_parting_by_corners ?a_parting_of ?l_parting_of ?q_parting_of ?k_parting_of ?a_parts ?l_parts ?q_parts ?k_parts ?a_reaches ?l_reaches ?q_reaches ?k_reaches ?a_reaches_within ?l_reaches_within ?q_reaches_within ?k_reaches_within ?a_shape_of ?l_shape_of ?q_shape_of ?k_shape_of ?a_snake_along ?l_snake_along ?q_snake_along ?k_snake_along ?a_tally ?l_tally ?q_tally ?k_tally ?a_tiles_along ?l_tiles_along ?q_tiles_along ?k_tiles_along ?a_tree_by_cutting ?l_tree_by_cutting ?q_tree_by_cutting ?k_tree_by_cutting ?a_tree_of ?l_tree_of ?q_tree_of ?k_tree_of ?a_tree_over ?l_tree_over ?q_tree_over ?k_tree_over ?z_abs ?z_all ?z_any ?z_bool ?z_enumerate ?z_int ?z_isinstance ?z_len ?z_list ?z_max ?z_min ?z_range ?z_set ?z_sorted ?z_tuple ?z_zip ?c_MOST_FORKS ?c_MOST_SIDES ?c_MOST_WORDS
    (case a__law_blocks => k_is)
    (case l__law_blocks => k_is)
    (case q__law_blocks => k_is)
    (case k__law_blocks => k_is)
    (case a__law_both => k_is)
    (case l__law_both => k_is)
    (case q__law_both => k_is)
    (case k__law_both => k_is)
    (case a__law_cup => k_is)
    (case l__law_cup => k_is)
    (case q__law_cup => k_is)
    (case k__law_cup => k_is)
    (case a__law_cuts => k_is)
    (case l__law_cuts => k_is)
    (case q__law_cuts => k_is)
    (case k__law_cuts => k_is)
    (case a__law_cutting => k_is)
    (case l__law_cutting => k_is)
    (case q__law_cutting => k_is)
    (case k__law_cutting => k_is)
    (case a__law_is_last => k_is)
    (case l__law_is_last => k_is)
    (case q__law_is_last => k_is)
    (case k__law_is_last => k_is)
    (case a__law_number_across => k_is)
    (case l__law_number_across => k_is)
    (case q__law_number_across => k_is)
    (case k__law_number_across => k_is)
    (case a__law_right => k_is)
    (case l__law_right => k_is)
    (case q__law_right => k_is)
    (case k__law_right => k_is)
    (case a__law_roll => k_is)
    (case l__law_roll => k_is)
    (case q__law_roll => k_is)
    (case k__law_roll => k_is)
    (case a__law_ties => k_is)
    (case l__law_ties => k_is)
    (case q__law_ties => k_is)
    (case k__law_ties => k_is)
    (case a_are_free_cuts => k_is)
    (case l_are_free_cuts => k_is)
    (case q_are_free_cuts => k_is)
    (case k_are_free_cuts => k_is)
    (case a_are_ints => k_is)
    (case l_are_ints => k_is)
    (case q_are_ints => k_is)
    (case k_are_ints => k_is)
    (case a_count_pairings => k_is)
    (case l_count_pairings => k_is)
    (case q_count_pairings => k_is)
    (case k_count_pairings => k_is)
    (case a_counts_at => k_is)
    (case l_counts_at => k_is)
    (case q_counts_at => k_is)
    (case k_counts_at => k_is)
    (case a_counts_by_cuts => k_is)
    (case l_counts_by_cuts => k_is)
    (case q_counts_by_cuts => k_is)
    (case k_counts_by_cuts => k_is)
    (case a_crosses => k_is)
    (case l_crosses => k_is)
    (case q_crosses => k_is)
    (case k_crosses => k_is)
    (case a_cuts_along => k_is)
    (case l_cuts_along => k_is)
    (case q_cuts_along => k_is)
    (case k_cuts_along => k_is)
    (case a_ends_ahead => k_is)
    (case l_ends_ahead => k_is)
    (case q_ends_ahead => k_is)
    (case k_ends_ahead => k_is)
    (case a_first_tile => k_is)
    (case l_first_tile => k_is)
    (case q_first_tile => k_is)
    (case k_first_tile => k_is)
    (case a_forks_within => k_is)
    (case l_forks_within => k_is)
    (case q_forks_within => k_is)
    (case k_forks_within => k_is)
    (case a_frieze => k_is)
    (case l_frieze => k_is)
    (case q_frieze => k_is)
    (case k_frieze => k_is)
    (case a_frieze_of_counts => k_is)
    (case l_frieze_of_counts => k_is)
    (case q_frieze_of_counts => k_is)
    (case k_frieze_of_counts => k_is)
    (case a_is_ascending => k_is)
    (case l_is_ascending => k_is)
    (case q_is_ascending => k_is)
    (case k_is_ascending => k_is)
    (case a_is_between => k_is)
    (case l_is_between => k_is)
    (case q_is_between => k_is)
    (case k_is_between => k_is)
    (case a_is_cut_within => k_is)
    (case l_is_cut_within => k_is)
    (case q_is_cut_within => k_is)
    (case k_is_cut_within => k_is)
    (case a_is_cutting => k_is)
    (case l_is_cutting => k_is)
    (case q_is_cutting => k_is)
    (case k_is_cutting => k_is)
    (case a_is_int => k_is)
    (case l_is_int => k_is)
    (case q_is_int => k_is)
    (case k_is_int => k_is)
    (case a_is_line => k_is)
    (case l_is_line => k_is)
    (case q_is_line => k_is)
    (case k_is_line => k_is)
    (case a_is_shape => k_is)
    (case l_is_shape => k_is)
    (case q_is_shape => k_is)
    (case k_is_shape => k_is)
    (case a_is_tree => k_is)
    (case l_is_tree => k_is)
    (case q_is_tree => k_is)
    (case k_is_tree => k_is)
    (case a_law => k_is)
    (case l_law => k_is)
    (case q_law => k_is)
    (case k_law => k_is)
    (case a_mountain => k_is)
    (case l_mountain => k_is)
    (case q_mountain => k_is)
    (case k_mountain => k_is)
    (case a_mountain_over => k_is)
    (case l_mountain_over => k_is)
    (case q_mountain_over => k_is)
    (case k_mountain_over => k_is)
    (case a_need_cutting => k_is)
    (case l_need_cutting => k_is)
    (case q_need_cutting => k_is)
    (case k_need_cutting => k_is)
    (case a_need_few => k_is)
    (case l_need_few => k_is)
    (case q_need_few => k_is)
    (case k_need_few => k_is)
    (case a_need_line => k_is)
    (case l_need_line => k_is)
    (case q_need_line => k_is)
    (case k_need_line => k_is)
    (case a_need_shape => k_is)
    (case l_need_shape => k_is)
    (case q_need_shape => k_is)
    (case k_need_shape => k_is)
    (case a_need_tree => k_is)
    (case l_need_tree => k_is)
    (case q_need_tree => k_is)
    (case k_need_tree => k_is)
    (case a_numbers_from => k_is)
    (case l_numbers_from => k_is)
    (case q_numbers_from => k_is)
    (case k_numbers_from => k_is)
    (case a_part_over => k_is)
    (case l_part_over => k_is)
    (case q_part_over => k_is)
    (case k_part_over => k_is)
    (case a_parting_by => k_is)
    (case l_parting_by => k_is)
    (case q_parting_by => k_is)
    (case k_parting_by => k_is)
    (case a_parting_by_corners => k_is)
    (case l_parting_by_corners => k_is)
    (case q_parting_by_corners => k_is)
    (case k_parting_by_corners => k_is)
    (case a_parting_of => k_is)
    (case l_parting_of => k_is)
    (case q_parting_of => k_is)
    (case k_parting_of => k_is)
    (case a_parts => k_is)
    (case l_parts => k_is)
    (case q_parts => k_is)
    (case k_parts => k_is)
    (case a_reaches => k_is)
    (case l_reaches => k_is)
    (case q_reaches => k_is)
    (case k_reaches => k_is)
    (case a_reaches_within => k_is)
    (case l_reaches_within => k_is)
    (case q_reaches_within => k_is)
    (case k_reaches_within => k_is)
    (case a_shape_of => k_is)
    (case l_shape_of => k_is)
    (case q_shape_of => k_is)
    (case k_shape_of => k_is)
    (case a_snake_along => k_is)
    (case l_snake_along => k_is)
    (case q_snake_along => k_is)
    (case k_snake_along => k_is)
    (case a_tally => k_is)
    (case l_tally => k_is)
    (case q_tally => k_is)
    (case k_tally => k_is)
    (case a_tiles_along => k_is)
    (case l_tiles_along => k_is)
    (case q_tiles_along => k_is)
    (case k_tiles_along => k_is)
    (case a_tree_by_cutting => k_is)
    (case l_tree_by_cutting => k_is)
    (case q_tree_by_cutting => k_is)
    (case k_tree_by_cutting => k_is)
    (case a_tree_of => k_is)
    (case l_tree_of => k_is)
    (case q_tree_of => k_is)
    (case k_tree_of => k_is)
    (case a_tree_over => k_is)
    (case l_tree_over => k_is)
    (case q_tree_over => k_is)
    (case k_tree_over => k_is)
    (case z_abs => k_is)
    (case z_all => k_is)
    (case z_any => k_is)
    (case z_bool => k_is)
    (case z_enumerate => k_is)
    (case z_int => k_is)
    (case z_isinstance => k_is)
    (case z_len => k_is)
    (case z_list => k_is)
    (case z_max => k_is)
    (case z_min => k_is)
    (case z_range => k_is)
    (case z_set => k_is)
    (case z_sorted => k_is)
    (case z_tuple => k_is)
    (case z_zip => k_is)
    (case c_MOST_FORKS => k_is)
    (case c_MOST_SIDES => k_is)
    (case c_MOST_WORDS => k_is)
