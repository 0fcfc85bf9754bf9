import PyProof.Rows.All
import Wide.All
import OpenK.AllK
import Wide.FinOn
import PyProof.EqAt
import PyProof.EqKinds
import PyProof.TupleCall
import KE.BitLaws
import Open.SpecLaws
import KE.OsHead
import KE.OsGo
import KE.KSortTupG
import PySem.Challenge.RW_linkwatches_s01_answers
set_option Elab.async false
set_option linter.all false
set_option maxRecDepth 100000
/-! THE HAND LAYER, for ints, bools, texts, own classes, lists, tuples, dicts, comprehensions, walks over dicts, enumerate, zip, reversed, texts, calls, loops. Paste it whole ahead of your own text; what your proof does not reach may be deleted. -/
namespace L2
open PySem PySem.Spec PyProof.Rows
/-- a key: an int or a str -/
abbrev Key := Sum Int Str
def keyIs : Key → Value → Bool
  | .inl k, v => Value.isInt k v
  | .inr x, v => Value.isStrOf x v
def keyH (w : World) : Key → Int
  | .inl k => hashInt k
  | .inr x => hashStr w x
theorem keyIs_shape : ∀ {k : Key} {v : Value}, keyIs k v = true → (∃ i t, k = Sum.inl i ∧ v = Value.int i t) ∨ (∃ x t, k = Sum.inr x ∧ v = Value.str x t)
  | .inl i, v, h => by
    obtain ⟨t, e⟩ := Value.isInt_shape (k := i) (v := v) h
    exact .inl ⟨i, t, rfl, e⟩
  | .inr x, v, h => by
    obtain ⟨t, e⟩ := Value.isStrOf_shape (x := x) (v := v) h
    exact .inr ⟨x, t, rfl, e⟩
theorem keyIs_int (i : Int) (t : Tok) : keyIs (.inl i) (.int i t) = true := by simp [keyIs, Value.isInt]
theorem keyIs_str (x : Str) (t : Tok) : keyIs (.inr x) (.str x t) = true := by simp [keyIs, Value.isStrOf]
theorem key_ll (a b : Int) : decide ((Sum.inl a : Key) = Sum.inl b) = (a == b) := by
  by_cases e : a = b
  · subst e; simp
  · have h : ¬ (Sum.inl a : Key) = Sum.inl b := fun q => e (Sum.inl.inj q)
    rw [decide_eq_false h]
    exact (beq_eq_false_iff_ne.mpr e).symm
theorem key_rr (a b : Str) : decide ((Sum.inr a : Key) = Sum.inr b) = decide (a = b) := by
  by_cases e : a = b
  · subst e; simp
  · have h : ¬ (Sum.inr a : Key) = Sum.inr b := fun q => e (Sum.inr.inj q)
    rw [decide_eq_false h, decide_eq_false e]
theorem key_lr (a : Int) (b : Str) : decide ((Sum.inl a : Key) = Sum.inr b) = false := decide_eq_false (fun q => nomatch q)
theorem key_rl (a : Str) (b : Int) : decide ((Sum.inr a : Key) = Sum.inl b) = false := decide_eq_false (fun q => nomatch q)
def mixKind (prog : Program) (w : World) : PySem.KeyKind prog w Key where
  is := keyIs
  hash := keyH w
  inj := fun v a b ha hb => by
    rcases keyIs_shape ha with ⟨i, t, rfl, rfl⟩ | ⟨x, t, rfl, rfl⟩
    · rcases keyIs_shape hb with ⟨j, u, rfl, e⟩ | ⟨y, u, rfl, e⟩
      · injection e with e1 _; rw [e1]
      · exact nomatch e
    · rcases keyIs_shape hb with ⟨j, u, rfl, e⟩ | ⟨y, u, rfl, e⟩
      · exact nomatch e
      · injection e with e1 _; rw [e1]
  byValue := fun k v h => by
    rcases keyIs_shape h with ⟨i, t, rfl, rfl⟩ | ⟨x, t, rfl, rfl⟩ <;> rfl
  pyHash := fun hv h => by
    rcases keyIs_shape hv with ⟨i, t, rfl, rfl⟩ | ⟨x, t, rfl, rfl⟩
    · exact wpAny_pyHash_int h
    · exact wpAny_pyHash_str h
  eqBool := fun hu hv h => by
    rcases keyIs_shape hu with ⟨i, t, rfl, rfl⟩ | ⟨x, t, rfl, rfl⟩
    · rcases keyIs_shape hv with ⟨j, u, rfl, rfl⟩ | ⟨y, u, rfl, rfl⟩
      · rw [key_ll] at h; exact wpAny_eqBool_int h
      · rw [key_lr] at h; exact SeqAt.EqAt.int_str i t y u _ _ _ _ h
    · rcases keyIs_shape hv with ⟨j, u, rfl, rfl⟩ | ⟨y, u, rfl, rfl⟩
      · rw [key_rl] at h; exact SeqAt.EqAt.str_int x t j u _ _ _ _ h
      · rw [key_rr] at h; exact wpAny_eqBool_str h
  «strs» := fun k x t v h => by
    rcases keyIs_shape h with ⟨i, u, rfl, e⟩ | ⟨y, u, rfl, e⟩
    · exact nomatch e
    · injection e with e1 _
      subst e1
      cases v <;> rfl
theorem mixKind_int (prog : Program) (w : World) (i : Int) (t : Tok) : (mixKind prog w).is (.inl i) (.int i t) = true := keyIs_int i t
theorem mixKind_str (prog : Program) (w : World) (x : Str) (t : Tok) : (mixKind prog w).is (.inr x) (.str x t) = true := keyIs_str x t
end L2
namespace L2
open PySem PySem.Spec PyProof.Rows
/-- a value, without the heap -/
inductive V where
  | non | bl (b : Bool) | int (i : Int) | str (x : Str) | byt (b : Array UInt8) | flt (b : UInt64) | ref (a : Addr) | ty (n : String)
  deriving DecidableEq
def RelV : V → Value → Prop
  | .non, u => u = Value.none
  | .bl b, u => u = Value.bool b
  | .int i, u => ∃ t, u = Value.int i t
  | .str x, u => ∃ t, u = Value.str x t
  | .byt b, u => ∃ t, u = Value.bytes b t
  | .flt b, u => ∃ t, u = Value.float b t
  | .ref a, u => u = Value.ref a
  | .ty n, u => u = Value.type n
abbrev Vals : List V → List Value → Prop := Paired RelV
theorem Vals.length {xs : List V} {us : List Value} (r : Vals xs us) : xs.length = us.length := Paired.length r
theorem Vals.get : ∀ {xs : List V} {us : List Value} {i : Nat} {x : V}, Vals xs us → xs[i]? = some x → ∃ u, us[i]? = some u ∧ RelV x u
  | _, _, _, _, .nil, e => by simp at e
  | _, _, 0, _, .cons r _, e => by simp at e; subst e; exact ⟨_, rfl, r⟩
  | _, _, i + 1, x, .cons _ t, e => by
    obtain ⟨u, h1, h2⟩ := Vals.get (i := i) (x := x) t (by simpa using e)
    exact ⟨u, by simpa using h1, h2⟩
theorem Vals.append : ∀ {xs ys : List V} {us ws : List Value}, Vals xs us → Vals ys ws → Vals (xs ++ ys) (us ++ ws)
  | _, _, _, _, .nil, s => s
  | _, _, _, _, .cons r t, s => .cons r (Vals.append t s)
theorem Vals.take : ∀ {xs : List V} {us : List Value} (n : Nat), Vals xs us → Vals (xs.take n) (us.take n)
  | _, _, 0, _ => .nil
  | _, _, _ + 1, .nil => .nil
  | _, _, n + 1, .cons r t => .cons r (Vals.take n t)
theorem Vals.drop : ∀ {xs : List V} {us : List Value} (n : Nat), Vals xs us → Vals (xs.drop n) (us.drop n)
  | _, _, 0, r => r
  | _, _, _ + 1, .nil => .nil
  | _, _, n + 1, .cons _ t => Vals.drop n t
def RelO : Option V → Option Value → Prop
  | some v, some u => RelV v u
  | none, none => True
  | _, _ => False
def KV {κ : Type} : List (κ × V) → List (κ × Value) → Prop := Paired fun (p : κ × V) (q : κ × Value) => p.1 = q.1 ∧ RelV p.2 q.2
/-- a key of a dict (00_mix): an int or a text -/
def kV : Key → V
  | .inl i => .int i
  | .inr x => .str x
/-- what stands at a tracked address -/
inductive HO where
  /-- a list -/
  | lst (xs : List V)
  /-- a tuple (never changes) -/
  | tup (xs : List V)
  /-- a dict whose keys are ints and texts; one whose keys are tuples of ints and texts (the empty one is both) -/
  | dK (kvs : List (Key × V)) | dT (kvs : List (List Key × V))
  /-- a set of ints: its members, its size -/
  | set (S : Int → Bool) (n : Nat)
  /-- an instance of the class at C, its dict at dx, its attributes -/
  | ins (C dx : Addr) (fs : List (Str × V))
  /-- the dict of the instance at x -/
  | own (x : Addr)
  /-- the dict of an exception -/
  | xd (fs : List (Str × V))
  /-- a bound method, f of x -/
  | met (f x : Addr)
  /-- a range object lo, lo + 1, .. below hi -/
  | rng (lo hi : Int)
  /-- a thing that is known to the object (the script; a dict while a loop walks it): read, never written while it is so -/
  | frz (o : Obj) (u : HO)
  /-- a code object's table -/
  | tbl (ps : Array Value)
  /-- any other thing, by what is true of its one object (a def of one's own: SetO a S n := HO.ext fun h => ..) -/
  | ext (φ : Heap → Prop)
abbrev Hp := Addr → Option HO
def upd (H : Hp) (a : Addr) (o : HO) : Hp := fun b => if b = a then some o else H b
theorem upd_same {H : Hp} {a : Addr} {o : HO} : upd H a o a = some o := by unfold upd; rw [if_pos rfl]
theorem upd_ne {H : Hp} {a b : Addr} {o : HO} (h : b ≠ a) : upd H a o b = H b := by unfold upd; rw [if_neg h]
/-- two objects of different content stand apart -/
theorem ne_of {H : Hp} {a b : Addr} {o u : HO} (h : H a = some o) (h' : H b = some u) (d : o ≠ u) : a ≠ b := by
  intro e; subst e; rw [h] at h'; exact d (Option.some.inj h')
theorem ne_of_none {H : Hp} {a b : Addr} {o : HO} (h : H a = some o) (h' : H b = none) : a ≠ b := by
  intro e; subst e; rw [h] at h'; cases h'
section
variable (P : Program) (w : World)
def ObjOk (H : Hp) (h : Heap) (a : Addr) : HO → Prop
  | .lst xs => xs.length ≤ sizeLine ∧ ∃ (its : List Value) (n : Nat), Vals xs its ∧ h.get? a = some { cls := .type "list", data := .seq its.toArray n }
  | .tup xs => xs.length ≤ sizeLine ∧ ∃ its : List Value, Vals xs its ∧ IsTup h a its.toArray
  | .dK kvs => kvs.length ≤ sizeLine ∧ (a == sysModules) = false ∧ ∃ vs, KV kvs vs ∧ h.DictOf (mixKind P w) a vs
  | .dT kvs => kvs.length ≤ sizeLine ∧ (a == sysModules) = false ∧ ∃ xs : List (List Key × Addr × Value),
      Paired (fun (p : List Key × V) (q : List Key × Addr × Value) => p.1 = q.1 ∧ H q.2.1 = some (.tup (p.1.map kV)) ∧ RelV p.2 q.2.2) kvs xs ∧
      ∃ o es ep, h.get? a = some o ∧ o.ExactDict ∧ o.data = .dict es ep ∧ es.toList = xs.map (entryOfKey (tupleKind (mixKind P w))) ∧ (xs.map (·.1)).Nodup
  | .set S n => h.SetOf (intKind P w) a S n
  | .ins C dx fs => H dx = some (.own a) ∧ fs.length ≤ 1000 ∧ dx ≠ a ∧ h.get? a = some (PySem.W.instObj C dx) ∧
      ∃ mA, h.Ns1 dx mA ∧ (∀ f, RelO (fs.lookup f) (mA f)) ∧ PySem.Within mA (fs.map (·.1))
  | .own _ => ∃ o, h.get? a = some o
  | .xd fs => ∃ mA, h.Ns1 a mA ∧ ∀ f, RelO (fs.lookup f) (mA f)
  | .rng lo hi => ∃ t u v, h.get? a = some { cls := .type "range", data := .fields #[.int lo t, .int hi u, .int 1 v] }
  | .frz o u => h.get? a = some o ∧ ObjOk H h a u
  | .tbl ps => h.get? a = some { cls := .none, data := .fields ps }
  | .met f x => h.get? a = some (PySem.W.methodObj (.ref f) (.ref x))
  | .ext φ => φ h ∧ (∃ o, h.get? a = some o) ∧ ∀ h1 h2 : Heap, φ h1 → (∀ o, h1.get? a = some o → h2.get? a = some o) → φ h2
/-- the abstract heap is held -/
def HOk (H : Hp) (h : Heap) : Prop := ∀ a o, H a = some o → ObjOk P w H h a o
end
section
variable {P : Program} {w : World} {H H' : Hp} {h h' : Heap} {a : Addr} {o : HO}
theorem ObjOk.lt (x : ObjOk P w H h a o) : a < h.objs.size := by
  cases o with
  | lst xs => obtain ⟨_, _, _, _, e⟩ := x; exact Heap.lt_size e
  | tup xs => obtain ⟨_, _, _, p⟩ := x; exact p.lt
  | dK kvs => obtain ⟨_, _, _, _, o, _, _, e, _⟩ := x; exact Heap.lt_size e
  | dT kvs => obtain ⟨_, _, _, _, o, _, _, e, _⟩ := x; exact Heap.lt_size e
  | set S n => obtain ⟨o, _, _, _, e, _⟩ := x; exact Heap.lt_size e
  | ins C dx fs => obtain ⟨_, _, _, e, _⟩ := x; exact Heap.lt_size e
  | own y => obtain ⟨_, e⟩ := x; exact Heap.lt_size e
  | xd fs => obtain ⟨_, ⟨_, _, _, e, _⟩, _⟩ := x; exact Heap.lt_size e
  | rng lo hi => obtain ⟨_, _, _, e⟩ := x; exact Heap.lt_size e
  | frz ob u => obtain ⟨e, _⟩ := x; exact Heap.lt_size e
  | tbl ps => exact Heap.lt_size (show h.get? a = some _ from x)
  | met f y => exact Heap.lt_size (show h.get? a = some _ from x)
  | ext φ => obtain ⟨_, ⟨_, e⟩, _⟩ := x; exact Heap.lt_size e
theorem Paired.mapP {α β : Type} {F G : α → β → Prop} : ∀ {l₁ : List α} {l₂ : List β}, Paired F l₁ l₂ → (∀ a b, F a b → G a b) → Paired G l₁ l₂
  | _, _, .nil, _ => .nil
  | _, _, .cons r t, f => .cons (f _ _ r) (Paired.mapP t f)
/-- what an object's description leans on: its own object, its own dict, the tuples -/
theorem ObjOk.stay (x : ObjOk P w H h a o) (k : ∀ b u, (b = a ∨ H b = some (.own a)) → h.get? b = some u → h'.get? b = some u)
    (ho : ∀ b, H b = some (.own a) → H' b = some (.own a)) (ht : ∀ b xs, H b = some (.tup xs) → H' b = some (.tup xs)) : ObjOk P w H' h' a o := by
  induction o with
  | lst xs => obtain ⟨z, its, n, r, e⟩ := x; exact ⟨z, its, n, r, k _ _ (.inl rfl) e⟩
  | tup xs => obtain ⟨z, its, r, ob, e, c⟩ := x; exact ⟨z, its, r, ob, k _ _ (.inl rfl) e, c⟩
  | dK kvs => obtain ⟨z, y, vs, r, ob, es, ep, e, c⟩ := x; exact ⟨z, y, vs, r, ob, es, ep, k _ _ (.inl rfl) e, c⟩
  | dT kvs =>
    obtain ⟨z, y, xs, r, ob, es, ep, e, c⟩ := x
    exact ⟨z, y, xs, Paired.mapP r fun p q z => ⟨z.1, ht _ _ z.2.1, z.2.2⟩, ob, es, ep, k _ _ (.inl rfl) e, c⟩
  | set S n => obtain ⟨ob, es, ep, t, e, c⟩ := x; exact ⟨ob, es, ep, t, k _ _ (.inl rfl) e, c⟩
  | ins C dx fs =>
    obtain ⟨d, z, ne, e, mA, ⟨od, es, ep, e2, c⟩, r⟩ := x
    exact ⟨ho _ d, z, ne, k _ _ (.inl rfl) e, mA, ⟨od, es, ep, k _ _ (.inr d) e2, c⟩, r⟩
  | own y => obtain ⟨ob, e⟩ := x; exact ⟨ob, k _ _ (.inl rfl) e⟩
  | xd fs => obtain ⟨mA, ⟨od, es, ep, e, c⟩, r⟩ := x; exact ⟨mA, ⟨od, es, ep, k _ _ (.inl rfl) e, c⟩, r⟩
  | rng lo hi => obtain ⟨t, u, v, e⟩ := x; exact ⟨t, u, v, k _ _ (.inl rfl) e⟩
  | frz ob u ih => obtain ⟨e, q⟩ := x; exact ⟨k _ _ (.inl rfl) e, ih q⟩
  | tbl ps =>
    have e : h.get? a = some { cls := .none, data := .fields ps } := x
    show h'.get? a = some { cls := .none, data := .fields ps }
    exact k a _ (.inl rfl) e
  | met f y =>
    have e : h.get? a = some (PySem.W.methodObj (.ref f) (.ref y)) := x
    show h'.get? a = some (PySem.W.methodObj (.ref f) (.ref y))
    exact k a _ (.inl rfl) e
  | ext φ => obtain ⟨p, ⟨o, e⟩, st⟩ := x; exact ⟨st _ _ p fun o q => k _ _ (.inl rfl) q, ⟨o, k _ _ (.inl rfl) e⟩, st⟩
theorem HOk.lt (x : HOk P w H h) (e : H a = some o) : a < h.objs.size := (x a o e).lt
theorem HOk.fresh (x : HOk P w H h) (e : h.objs.size ≤ a) : H a = none := by
  cases q : H a with
  | none => rfl
  | some u => exact absurd (Nat.lt_of_lt_of_le (x.lt q) e) (Nat.lt_irrefl _)
/-- every object of the heap is kept -/
theorem HOk.kept (x : HOk P w H h) (k : ∀ b u, h.get? b = some u → h'.get? b = some u) : HOk P w H h' := fun a o e =>
  (x a o e).stay (fun b u _ q => k b u q) (fun _ q => q) fun _ _ q => q
/-- a new object is laid and tracked -/
theorem HOk.laid (x : HOk P w H h) (k : ∀ b u, h.get? b = some u → h'.get? b = some u) (hp : h.objs.size ≤ a) (new : ObjOk P w (upd H a o) h' a o) : HOk P w (upd H a o) h' := fun b u e => by
  have hn := x.fresh hp
  by_cases hb : b = a
  · subst hb; rw [upd_same] at e; cases e; exact new
  · rw [upd_ne hb] at e
    exact (x b u e).stay (fun c v _ q => k c v q) (fun c q => by rw [upd_ne (ne_of_none q hn)]; exact q) fun c xs q => by rw [upd_ne (ne_of_none q hn)]; exact q
end
/-- what may be read as u: it is u, or a known u -/
def Rd (H : Hp) (a : Addr) (u : HO) : Prop := H a = some u ∨ ∃ o, H a = some (.frz o u)
theorem Rd.ok {P : Program} {w : World} {H : Hp} {h : Heap} {a : Addr} {u : HO} (r : Rd H a u) (x : HOk P w H h) : ObjOk P w H h a u := by
  rcases r with r | ⟨o, r⟩
  · exact x a u r
  · obtain ⟨_, q⟩ := x a _ r
    exact q
/-- what may be written -/
def Mut : Option HO → Prop
  | some (.lst _) => True
  | some (.dK _) => True
  | some (.dT _) => True
  | some (.set _ _) => True
  | some (.ins _ _ _) => True
  | some (.ext _) => True
  | _ => False
section
variable {P : Program} {w : World} {H : Hp} {h h' : Heap} {x e : Addr} {o' : HO}
/-- the object at e is changed: x itself, or the dict of the instance x -/
theorem HOk.write (ok : HOk P w H h) (mu : Mut (H x)) (he : e = x ∨ H e = some (.own x)) (k : ∀ b u, b ≠ e → h.get? b = some u → h'.get? b = some u) (heo : ∃ u, h'.get? e = some u)
    (new : ObjOk P w (upd H x o') h' x o') : HOk P w (upd H x o') h' := fun b u q => by
  have nown : ∀ c y, H c = some (.own y) → c ≠ x := fun c y r z => by subst z; rw [r] at mu; exact mu
  have ntup : ∀ c xs, H c = some (.tup xs) → c ≠ x := fun c xs r z => by subst z; rw [r] at mu; exact mu
  by_cases hb : b = x
  · subst hb; rw [upd_same] at q; cases q; exact new
  · rw [upd_ne hb] at q
    by_cases hbe : b = e
    · have q' : H b = some (.own x) := by
        rcases he with z | z
        · exact absurd (hbe.trans z) hb
        · rw [hbe]; exact z
      rw [q] at q'; cases q'
      obtain ⟨v, hv⟩ := heo
      exact ⟨v, by rw [hbe]; exact hv⟩
    · refine (ok b u q).stay (fun c v hc r => k c v ?_ r) (fun c r => by rw [upd_ne (nown c b r)]; exact r) fun c xs r => by rw [upd_ne (ntup c xs r)]; exact r
      rcases hc with rfl | hc
      · exact hbe
      · rintro rfl
        rcases he with z | z
        · exact nown c b hc z
        · rw [hc] at z; cases z; exact hb rfl
end
/-! ### kept unless tracked; of the frames at fs (the callers') the slots may change (an exception that passes writes there); of the records at ex (iterators) nothing is said -/
structure Un (fs ex : List Addr) (H H' : Hp) (h h' : Heap) : Prop where
  keep : ∀ b o, h.get? b = some o → H b = none → b ∉ fs → b ∉ ex → h'.get? b = some o
  slot : ∀ b o, h.get? b = some o → H b = none → b ∈ fs → b ∉ ex → ∃ sl, h'.get? b = some { o with slots := sl }
  free : ∀ b o, h.get? b = some o → H b = none → b ∉ ex → H' b = none
  there : ∀ b o, h.get? b = some o → b ∉ ex → ∃ o', h'.get? b = some o'
  tups : ∀ b xs, H b = some (.tup xs) → H' b = some (.tup xs)
  frzs : ∀ b o u, H b = some (.frz o u) → H' b = some (.frz o u)
  tbls : ∀ b ps, H b = some (.tbl ps) → ∃ more, H' b = some (.tbl (ps ++ more))
section
variable {fs fs' ex ex' : List Addr} {H H1 H2 : Hp} {h h1 h2 h' : Heap} {a x e : Addr} {o : HO}
theorem Un.any (u : Un fs ex H H1 h h1) {b : Addr} {ob : Obj} (q : h.get? b = some ob) (n : H b = none) (hx : b ∉ ex) : ∃ sl, h1.get? b = some { ob with slots := sl } := by
  by_cases hb : b ∈ fs
  · exact u.slot b ob q n hb hx
  · exact ⟨ob.slots, u.keep b ob q n hb hx⟩
theorem Un.kept (k : ∀ b u, h.get? b = some u → h'.get? b = some u) : Un fs ex H H h h' :=
  ⟨fun b ob q _ _ _ => k b ob q, fun b ob q _ _ _ => ⟨ob.slots, k b ob q⟩, fun _ _ _ n _ => n, fun b ob q _ => ⟨ob, k b ob q⟩, fun _ _ q => q, fun _ _ _ q => q, fun _ ps q => ⟨#[], by rw [q]; simp⟩⟩
theorem Un.refl : Un fs ex H H h h := Un.kept fun _ _ q => q
theorem Un.laid (k : ∀ b u, h.get? b = some u → h'.get? b = some u) (hp : h.objs.size ≤ a) (hn : H a = none) : Un fs ex H (upd H a o) h h' where
  keep := fun b u q _ _ _ => k b u q
  slot := fun b u q _ _ _ => ⟨u.slots, k b u q⟩
  free := fun b u q n _ => by rw [upd_ne (Nat.ne_of_lt (Nat.lt_of_lt_of_le (Heap.lt_size q) hp))]; exact n
  there := fun b u q _ => ⟨u, k b u q⟩
  tups := fun b xs q => by rw [upd_ne (ne_of_none q hn)]; exact q
  frzs := fun b u xs q => by rw [upd_ne (ne_of_none q hn)]; exact q
  tbls := fun b ps q => ⟨#[], by rw [upd_ne (ne_of_none q hn), q]; simp⟩
theorem Un.write (mu : Mut (H x)) (he : e = x ∨ H e = some (.own x)) (k : ∀ b u, b ≠ e → h.get? b = some u → h'.get? b = some u) (heo : ∃ u, h'.get? e = some u) : Un fs ex H (upd H x o) h h' := by
  have hx : ∀ b, H b = none → b ≠ x := fun b n z => by subst z; rw [n] at mu; exact mu
  have hb : ∀ b, H b = none → b ≠ e := fun b n z => by
    subst z
    rcases he with r | r
    · exact hx b n r
    · rw [n] at r; cases r
  have hm : ∀ b u, H b = some u → ¬ Mut (some u) → b ≠ x := fun b u q nm z => by subst z; rw [q] at mu; exact nm mu
  refine ⟨fun b u q n _ _ => k b u (hb b n) q, fun b u q n _ _ => ⟨u.slots, k b u (hb b n) q⟩, fun b u q n _ => by rw [upd_ne (hx b n)]; exact n, fun b u q _ => ?_,
    fun b xs q => by rw [upd_ne (hm b _ q fun z => z)]; exact q, fun b u xs q => by rw [upd_ne (hm b _ q fun z => z)]; exact q, fun b ps q => ⟨#[], by rw [upd_ne (hm b _ q fun z => z), q]; simp⟩⟩
  by_cases hbe : b = e
  · subst hbe; exact heo
  · exact ⟨u, k b u hbe q⟩
end
/-! ### the heap without what is tracked -/
def trk (h : Heap) (H : Hp) : List Addr := (List.range h.objs.size).filter fun a => (H a).isSome
def hidT (h : Heap) (H : Hp) : Heap := PySem.W.hideAll h (trk h H)
theorem hidT_size (h : Heap) (H : Hp) : (hidT h H).objs.size = h.objs.size := PySem.W.hideAll_size _ _
theorem hidT_get {h : Heap} {H : Hp} {b : Addr} {o : Obj} (e : h.get? b = some o) (n : H b = none) : (hidT h H).get? b = some o :=
  PySem.W.hideAll_get _ e fun hm => by
    have q : (H b).isSome = true := (List.mem_filter.mp hm).2
    rw [n] at q; simp at q
theorem of_hidT {h : Heap} {H : Hp} {b : Addr} {o : Obj} (e : (hidT h H).get? b = some o) : h.get? b = some o ∧ H b = none := by
  have e' : h.get? b = some o := PySem.W.of_hideAll (trk h H) e
  refine ⟨e', ?_⟩
  cases q : H b with
  | none => rfl
  | some x =>
    have hm : b ∈ trk h H := List.mem_filter.mpr ⟨List.mem_range.mpr (Heap.lt_size e'), by simp [q]⟩
    have z : (hidT h H).get? b = none := PySem.W.hideAll_none (trk h H) hm
    rw [z] at e; cases e
/-! ### OpenK's ledger, filled with every new object but one -/
end L2
namespace L2
open PySem PySem.Spec PyProof.Rows
/-- the module's facts, over the base: the heap at the law's entry without what is tracked there -/
structure Mod (K : PySem.W.Frag) (mg : Str → Option Value) (base : Heap) : Prop where
  kin : K.In base
  glob : base.Ns mainGlobals mg
  blt : ∃ mb, base.Ns builtinsNs mb ∧ ∀ x : Str, x ≠ "__name__" → mb x = bootBuiltins x
  nolimit : base.NoLimit
/-- the context: a def's body (or a comprehension's block) running. base: fixed through the whole law; s₀, H₀: the entry; outer: the frames whose slots others may change (a def's callers); stack: all frames that run;
   ex: iterators that were made ahead of the entry and are walked here (a comprehension's); fn: the names whose cells were made at the entry (a def: all; a comprehension's block: its own); calm: not within an except suite; pn: pins that every state bears; xe: what is wanted of an exception that leaves the code -/
structure Cx where
  prog : Program
  w : World
  K : PySem.W.Frag
  mg : Str → Option Value
  base : Heap
  A : Around
  N : List Str
  s_0 : Shared
  H_0 : Hp
  env : Env
  outer : List Env
  stack : List Env
  ex : List Addr
  fn : Str → Bool
  calm : Bool
  pn : List (Addr × Obj)
  xe : Value → Shared → Prop
/-- the callers' frames -/
def frs (l : List Env) : List Addr := l.filterMap (·.frame)
abbrev Cx.fs (X : Cx) : List Addr := frs X.outer
def Vis (sc : Scope) (x : Str) : Prop := sc.names.lookup x = some .local ∨ sc.names.lookup x = some .cell ∨ sc.names.lookup x = some .free
def Loc (sc : Scope) (x : Str) : Prop := sc.names.lookup x = some .local ∨ sc.names.lookup x = some .cell
def Look (env : Env) (h : Heap) (m : Str → Option Value) (x : Str) (u : Value) : Prop :=
  (env.kindOf x = some .local ∧ m x = some u) ∨ ((env.kindOf x = some .cell ∨ env.kindOf x = some .free) ∧ ∃ c, env.cells.lookup x = some c ∧ h.IsCell c (some u))
structure Cx.Ok (X : Cx) : Prop where
  mod : Mod X.K X.mg X.base
  kind : X.env.scope.kind = .function
  glob : X.env.globals = mainGlobals
  blt : X.env.builtins = builtinsNs
  above : X.s_0.heap.objs.size ≤ X.env.locals
  inj : ∀ x y c, X.env.cells.lookup x = some c → X.env.cells.lookup y = some c → x = y
  has : ∀ x, (X.env.kindOf x = some .cell ∨ X.env.kindOf x = some .free) → ∃ c, X.env.cells.lookup x = some c
  cab : ∀ x c, X.fn x = true → X.env.cells.lookup x = some c → X.s_0.heap.objs.size ≤ c
  hd : X.calm = true → X.A.handled = none
  frames : X.A.frames = some X.stack
  stk : X.stack = X.outer ∨ (X.stack = X.env :: X.outer ∧ X.env.frame = some X.env.locals)
  exf : ∀ b ∈ X.ex, b ≠ X.env.locals ∧ ∀ x c, X.env.cells.lookup x = some c → c ≠ b
  bs : ∀ b o, X.base.get? b = some o → X.s_0.heap.get? b = some o ∧ X.H_0 b = none
  bsz : X.base.objs.size ≤ X.s_0.heap.objs.size
  noex : ∀ b o, X.base.get? b = some o → b ∉ X.ex
  exfs : ∀ b ∈ X.ex, b ∉ X.fs
  funs : X.s_0.heap.FunFrames X.base X.outer
  frf : ∀ b ∈ X.fs, X.H_0 b = none
structure Inv (X : Cx) (pins : List (Addr × Obj)) (σ : List (Option V)) (H : Hp) (s : Shared) : Prop where
  ok : X.Ok
  os : s.os = X.s_0.os
  bare : AllBare s.gens
  base : Un X.fs X.ex X.H_0 H X.s_0.heap s.heap
  loc : ∃ m, s.heap.Ns X.env.locals m ∧ ∀ (i : Nat) (x : Str) (v : V), X.N[i]? = some x → σ[i]? = some (some v) → Vis X.env.scope x → ∃ u, RelV v u ∧ Look X.env s.heap m x u
  cell : ∀ x c, X.env.cells.lookup x = some c → ∃ v, s.heap.IsCell c v
  free : H X.env.locals = none
  freeC : ∀ x c, X.env.cells.lookup x = some c → H c = none
  pin : ∀ p ∈ X.pn ++ pins, s.heap.get? p.1 = some p.2 ∧ H p.1 = none ∧ p.1 ≠ X.env.locals ∧ p.1 ∉ X.fs ∧ ∀ v, p.2.data ≠ .cell v
  hok : HOk X.prog X.w H s.heap
  len : σ.length = X.N.length
section
variable {X : Cx} {pins : List (Addr × Obj)} {σ : List (Option V)} {H H' : Hp} {s : Shared} {h' : Heap}
theorem Cx.Ok.nofr (ok : X.Ok) {b : Addr} {o : Obj} (e : X.base.get? b = some o) : b ∉ X.fs := fun hb => by
  have := (ok.funs.mem hb).1
  rw [e] at this; cases this
theorem Inv.bs (I : Inv X pins σ H s) : ∀ b o, X.base.get? b = some o → s.heap.get? b = some o ∧ H b = none := fun b o e =>
  ⟨I.base.keep b o (I.ok.bs b o e).1 (I.ok.bs b o e).2 (I.ok.nofr e) (I.ok.noex b o e), I.base.free b o (I.ok.bs b o e).1 (I.ok.bs b o e).2 (I.ok.noex b o e)⟩
theorem Inv.bk (I : Inv X pins σ H s) : ∀ b o, X.base.get? b = some o → s.heap.get? b = some o := fun b o e => (I.bs b o e).1
theorem Inv.mod (I : Inv X pins σ H s) : Mod X.K X.mg X.base := I.ok.mod
theorem Inv.kIn (I : Inv X pins σ H s) : X.K.In s.heap := I.ok.mod.kin.keeps I.bk
theorem Inv.lt (I : Inv X pins σ H s) : X.env.locals < s.heap.objs.size := let ⟨_, hn, _⟩ := I.loc; hn.lt
theorem Inv.sz (I : Inv X pins σ H s) : X.s_0.heap.objs.size ≤ s.heap.objs.size := Nat.le_trans I.ok.above (Nat.le_of_lt I.lt)
theorem Inv.nofs (I : Inv X pins σ H s) {a : Addr} (h : s.heap.objs.size ≤ a) : a ∉ X.fs := fun hb => by
  obtain ⟨_, o, ho, _⟩ := I.ok.funs.mem hb
  exact absurd (Nat.lt_of_lt_of_le (Heap.lt_size ho) (Nat.le_trans I.sz h)) (Nat.lt_irrefl _)
theorem Inv.cne (I : Inv X pins σ H s) : ∀ x c, X.env.cells.lookup x = some c → c ≠ X.env.locals := fun x c e z => by
  obtain ⟨v, o, ho, hd⟩ := I.cell x c e
  obtain ⟨m, ⟨o', es, ep, ho', hd', _⟩, _⟩ := I.loc
  rw [z, ho'] at ho; cases ho; rw [hd'] at hd; cases hd
theorem Inv.funs (I : Inv X pins σ H s) : s.heap.FunFrames X.base X.outer := by
  have all : ∀ (l : List Env), (∀ b ∈ frs l, b ∈ X.fs) → X.s_0.heap.FunFrames X.base l → s.heap.FunFrames X.base l := by
    intro l
    induction l with
    | nil => intro _ _; trivial
    | cons env r ih =>
      intro hs hl
      obtain ⟨hk, ⟨L, o, hf, hn, ho, hd⟩, hr⟩ := hl
      have hL : L ∈ X.fs := hs L (by unfold frs; rw [List.filterMap_cons, hf]; exact List.mem_cons_self)
      obtain ⟨sl, e⟩ := I.base.slot L o ho (I.ok.frf L hL) hL fun z => I.ok.exfs L z hL
      exact ⟨hk, ⟨L, _, hf, hn, e, hd⟩, ih (fun b hb => hs b (by unfold frs; rw [List.filterMap_cons, hf]; exact List.mem_cons_of_mem _ hb)) hr⟩
  exact all X.outer (fun _ hb => hb) I.ok.funs
/-- the frames that run, for a call -/
theorem Inv.stack (I : Inv X pins σ H s) : s.heap.FunFrames X.base X.stack := by
  rcases I.ok.stk with e | ⟨e, hf⟩
  · rw [e]; exact I.funs
  · rw [e]
    obtain ⟨m, hn, _⟩ := I.loc
    refine .cons (by rw [I.ok.kind]; decide) hf hn ?_ I.funs
    exact Heap.get?_none_of_le (Nat.le_trans I.ok.bsz I.ok.above)
theorem Inv.stkSub (I : Inv X pins σ H s) : ∀ b ∈ frs X.stack, b ∈ X.env.locals :: X.fs := fun b hb => by
  rcases I.ok.stk with e | ⟨e, hf⟩
  · rw [e] at hb; exact List.mem_cons_of_mem _ hb
  · rw [e] at hb
    unfold frs at hb
    rw [List.filterMap_cons, hf] at hb
    exact hb
theorem Inv.stkFree (I : Inv X pins σ H s) : ∀ b ∈ frs X.stack, H b = none := fun b hb => by
  rcases List.mem_cons.mp (I.stkSub b hb) with e | hb
  · rw [e]; exact I.free
  · obtain ⟨_, o, ho, _⟩ := I.ok.funs.mem hb
    exact I.base.free b o ho (I.ok.frf b hb) fun z => I.ok.exfs b z hb
/-- THE STEP: the untracked objects but the frame and the records at ch are kept (the callers' frames up to slots), the frame's map is kept, the new abstract heap is held -/
theorem Inv.step {g' : Array GenState} {t' : Nat} {d' : Drawn} {ch : List Addr} (I : Inv X pins σ H s)
    (hch : ∀ b ∈ ch, (b ∈ X.ex ∨ X.s_0.heap.objs.size ≤ b) ∧ b ≠ X.env.locals ∧ (∀ x c, X.env.cells.lookup x = some c → c ≠ b) ∧ ∀ p ∈ X.pn ++ pins, p.1 ≠ b)
    (keep : ∀ b o, b ≠ X.env.locals → b ∉ X.fs → b ∉ ch → s.heap.get? b = some o → H b = none → h'.get? b = some o)
    (slot : ∀ b o, b ≠ X.env.locals → b ∈ X.fs → b ∉ ch → s.heap.get? b = some o → H b = none → ∃ sl, h'.get? b = some { o with slots := sl }) (free : ∀ b o, b ∉ ch → s.heap.get? b = some o → H b = none → H' b = none)
    (there : ∀ b o, b ∉ ch → s.heap.get? b = some o → ∃ o', h'.get? b = some o')
    (tups : ∀ b xs, H b = some (.tup xs) → H' b = some (.tup xs)) (frzs : ∀ b o u, H b = some (.frz o u) → H' b = some (.frz o u)) (tbls : ∀ b ps, H b = some (.tbl ps) → ∃ more, H' b = some (.tbl (ps ++ more)))
    (ns : ∀ m, s.heap.Ns X.env.locals m → h'.Ns X.env.locals m) (hok : HOk X.prog X.w H' h') (hg : AllBare g') :
    Inv X pins σ H' { s with heap := h', gens := g', drawn := d', toks := t' } := by
  have neL : ∀ b o, X.s_0.heap.get? b = some o → b ≠ X.env.locals := fun b o e => Nat.ne_of_lt (Nat.lt_of_lt_of_le (Heap.lt_size e) I.ok.above)
  have neC : ∀ b o, X.s_0.heap.get? b = some o → b ∉ X.ex → b ∉ ch := fun b o e hx hb => by
    rcases (hch b hb).1 with z | z
    · exact hx z
    · exact absurd (Nat.lt_of_lt_of_le (Heap.lt_size e) z) (Nat.lt_irrefl _)
  have cellK : ∀ x c, X.env.cells.lookup x = some c → ∀ v, s.heap.IsCell c v → h'.IsCell c v := fun x c e v ⟨o, ho, hd⟩ => by
    have nch : c ∉ ch := fun z => (hch c z).2.2.1 x c e rfl
    by_cases hc : c ∈ X.fs
    · obtain ⟨sl, q⟩ := slot c o (I.cne x c e) hc nch ho (I.freeC x c e)
      exact ⟨_, q, hd⟩
    · exact ⟨o, keep c o (I.cne x c e) hc nch ho (I.freeC x c e), hd⟩
  refine ⟨I.ok, I.os, hg, ⟨fun b o e n hb hx => ?_, fun b o e n hb hx => ?_, fun b o e n hx => ?_, fun b o e hx => ?_, fun b xs e => tups b xs (I.base.tups b xs e), fun b o xs e => frzs b o xs (I.base.frzs b o xs e), fun b ps e => ?_⟩, ?_, fun x c e => ?_, ?_, fun x c e => ?_, fun p hp => ?_, hok, I.len⟩
  · exact keep b o (neL b o e) hb (neC b o e hx) (I.base.keep b o e n hb hx) (I.base.free b o e n hx)
  · obtain ⟨sl, e1⟩ := I.base.slot b o e n hb hx
    obtain ⟨sl', e2⟩ := slot b _ (neL b o e) hb (neC b o e hx) e1 (I.base.free b o e n hx)
    exact ⟨sl', e2⟩
  · obtain ⟨o', e1⟩ := I.base.there b o e hx
    exact free b o' (neC b o e hx) e1 (I.base.free b o e n hx)
  · obtain ⟨o', e1⟩ := I.base.there b o e hx
    exact there b o' (neC b o e hx) e1
  · obtain ⟨m1, e1⟩ := I.base.tbls b ps e
    obtain ⟨m2, e2⟩ := tbls b _ e1
    exact ⟨m1 ++ m2, by rw [e2, Array.append_assoc]⟩
  · obtain ⟨m, hn, hl⟩ := I.loc
    refine ⟨m, ns m hn, fun i x v e1 e2 e3 => ?_⟩
    obtain ⟨u, r, l⟩ := hl i x v e1 e2 e3
    refine ⟨u, r, ?_⟩
    rcases l with l | ⟨k, c, e, z⟩
    · exact .inl l
    · exact .inr ⟨k, c, e, cellK x c e _ z⟩
  · obtain ⟨v, z⟩ := I.cell x c e
    exact ⟨v, cellK x c e v z⟩
  · obtain ⟨m, ⟨o, _, _, ho, _⟩, _⟩ := I.loc
    exact free _ o (fun z => (hch _ z).2.1 rfl) ho I.free
  · obtain ⟨v, o, ho, hd⟩ := I.cell x c e
    exact free c o (fun z => (hch c z).2.2.1 x c e rfl) ho (I.freeC x c e)
  · obtain ⟨e, n, ne, nf, d⟩ := I.pin p hp
    have nch : p.1 ∉ ch := fun z => (hch p.1 z).2.2.2 p hp rfl
    exact ⟨keep p.1 p.2 ne nf nch e n, free p.1 p.2 nch e n, ne, nf, d⟩
/-- .. where the frame's own object is kept too -/
theorem Inv.un {t' : Nat} (I : Inv X pins σ H s) (u : Un X.fs [] H H' s.heap h') (hok : HOk X.prog X.w H' h') : Inv X pins σ H' { s with heap := h', toks := t' } := by
  obtain ⟨m, ⟨o, es, ep, ho, r⟩, _⟩ := id I.loc
  obtain ⟨sl, hL⟩ := u.any ho I.free (by simp)
  exact I.step (g' := s.gens) (d' := s.drawn) (ch := []) (fun _ z => nomatch z) (fun b o _ hb _ e n => u.keep b o e n hb (by simp)) (fun b o _ hb _ e n => u.slot b o e n hb (by simp)) (fun b o _ e n => u.free b o e n (by simp)) (fun b o _ e => u.there b o e (by simp)) u.tups u.frzs u.tbls (fun m' hm => by
    obtain ⟨o', es', ep', ho', r'⟩ := hm
    rw [ho] at ho'; cases ho'
    exact ⟨_, es', ep', hL, r'⟩) hok I.bare
/-- behind a call (or a comprehension's block): the slots of this frame may have changed too, the records at ch may have turned -/
theorem Inv.call {g' : Array GenState} {t' : Nat} {d' : Drawn} {ch : List Addr} (I : Inv X pins σ H s) (u : Un (frs X.stack) ch H H' s.heap h') (hok : HOk X.prog X.w H' h') (hg : AllBare g')
    (hch : ∀ b ∈ ch, (b ∈ X.ex ∨ X.s_0.heap.objs.size ≤ b) ∧ b ≠ X.env.locals ∧ (∀ x c, X.env.cells.lookup x = some c → c ≠ b) ∧ ∀ p ∈ X.pn ++ pins, p.1 ≠ b) :
    Inv X pins σ H' { s with heap := h', gens := g', drawn := d', toks := t' } := by
  obtain ⟨m, ⟨o, es, ep, ho, r⟩, _⟩ := id I.loc
  obtain ⟨sl, hL⟩ := u.any ho I.free fun z => (hch _ z).2.1 rfl
  exact I.step (ch := ch) hch (fun b o hL hb hc e n => u.keep b o e n (fun z => (List.mem_cons.mp (I.stkSub b z)).elim hL hb) hc) (fun b o _ _ hc e n => u.any e n hc) (fun b o hc e n => u.free b o e n hc) (fun b o hc e => u.there b o e hc) u.tups u.frzs u.tbls (fun m' hm => by
    obtain ⟨o', es', ep', ho', r'⟩ := hm
    rw [ho] at ho'; cases ho'
    exact ⟨_, es', ep', hL, r'⟩) hok hg
/-- an untracked record of ours (an iterator) has turned -/
theorem Inv.turned {t' : Nat} {it : Addr} (I : Inv X pins σ H s) (k : ∀ b o, b ≠ it → s.heap.get? b = some o → h'.get? b = some o) (hn : H it = none) (hL : it ≠ X.env.locals)
    (h1 : it ∈ X.ex ∨ X.s_0.heap.objs.size ≤ it) (h2 : ∀ x c, X.env.cells.lookup x = some c → c ≠ it) (h3 : ∀ p ∈ X.pn ++ pins, p.1 ≠ it) : Inv X pins σ H { s with heap := h', toks := t' } := by
  have nit : ∀ b u, H b = some u → b ≠ it := fun b u e z => by rw [z, hn] at e; cases e
  refine I.step (g' := s.gens) (d' := s.drawn) (ch := [it]) (fun b hb => ?_) (fun b o _ _ hc e _ => k b o (fun z => hc (by simp [z])) e) (fun b o _ _ hc e _ => ⟨o.slots, k b o (fun z => hc (by simp [z])) e⟩) (fun _ _ _ _ n => n)
    (fun b o hc e => ⟨o, k b o (fun z => hc (by simp [z])) e⟩) (fun _ _ e => e) (fun _ _ _ e => e) (fun b ps e => ⟨#[], by rw [e]; simp⟩) (fun m hm => ?_) (fun b u e => ?_) I.bare
  · have e : b = it := by simpa using hb
    subst e
    exact ⟨h1, hL, h2, h3⟩
  · obtain ⟨o, es, ep, ho, r⟩ := hm
    exact ⟨o, es, ep, k _ o (Ne.symm hL) ho, r⟩
  · refine (I.hok b u e).stay (fun c v hc q => k c v ?_ q) (fun _ q => q) fun _ _ q => q
    rcases hc with z | z
    · rw [z]; exact nit b u e
    · exact nit c _ z
theorem Inv.tok (I : Inv X pins σ H s) (t : Nat) : Inv X pins σ H { s with toks := t } := I.un (h' := s.heap) (t' := t) Un.refl I.hok
/-- all objects kept -/
theorem Inv.kept {t' : Nat} (I : Inv X pins σ H s) (k : ∀ b u, s.heap.get? b = some u → h'.get? b = some u) : Inv X pins σ H { s with heap := h', toks := t' } := I.un (Un.kept k) (I.hok.kept k)
/-- a new object laid and tracked -/
theorem Inv.laid {a : Addr} {o : HO} {t' : Nat} (I : Inv X pins σ H s) (k : ∀ b u, s.heap.get? b = some u → h'.get? b = some u) (hp : s.heap.objs.size ≤ a) (new : ObjOk X.prog X.w (upd H a o) h' a o) :
    Inv X pins σ (upd H a o) { s with heap := h', toks := t' } := I.un (Un.laid k hp (I.hok.fresh hp)) (I.hok.laid k hp new)
/-- an object written -/
theorem Inv.write {x e : Addr} {o : HO} {t' : Nat} (I : Inv X pins σ H s) (mu : Mut (H x)) (he : e = x ∨ H e = some (.own x)) (k : ∀ b u, b ≠ e → s.heap.get? b = some u → h'.get? b = some u) (heo : ∃ u, h'.get? e = some u)
    (new : ObjOk X.prog X.w (upd H x o) h' x o) : Inv X pins σ (upd H x o) { s with heap := h', toks := t' } := I.un (Un.write mu he k heo) (I.hok.write mu he k heo new)
/-- forgetting slots, pins -/
theorem Inv.weak {σ' : List (Option V)} (I : Inv X pins σ H s) (hl : σ'.length = σ.length) (w : ∀ (i : Nat) v, σ'[i]? = some (some v) → σ[i]? = some (some v)) : Inv X pins σ' H s :=
  ⟨I.ok, I.os, I.bare, I.base, let ⟨m, hn, hl'⟩ := I.loc; ⟨m, hn, fun i x v e1 e2 e3 => hl' i x v e1 (w i v e2) e3⟩, I.cell, I.free, I.freeC, I.pin, I.hok, hl.trans I.len⟩
theorem Inv.pins_of {pins' : List (Addr × Obj)} (I : Inv X pins σ H s) (h : ∀ p ∈ pins', s.heap.get? p.1 = some p.2 ∧ H p.1 = none ∧ p.1 ≠ X.env.locals ∧ p.1 ∉ X.fs ∧ ∀ v, p.2.data ≠ .cell v) : Inv X pins' σ H s :=
  ⟨I.ok, I.os, I.bare, I.base, I.loc, I.cell, I.free, I.freeC, fun p hp => (List.mem_append.mp hp).elim (fun z => I.pin p (List.mem_append_left _ z)) (h p), I.hok, I.len⟩
theorem nodup_ix {N : List Str} (hN : N.Nodup) {i j : Nat} {x : Str} (a : N[i]? = some x) (b : N[j]? = some x) : i = j := by
  obtain ⟨h1, e1⟩ := List.getElem?_eq_some_iff.mp a
  obtain ⟨h2, e2⟩ := List.getElem?_eq_some_iff.mp b
  exact (List.getElem_inj hN).mp (e1.trans e2.symm)
/-- a name is stored; what changed -/
theorem store_ok2 {M : Model} {A : Around} {E : Value → Shared → Prop} {i : Nat} {x : Str} {v : V} {u : Value} {Q : Unit → Shared → Prop} (I : Inv X pins σ H s) (hN : X.N.Nodup) (hi : X.N[i]? = some x) (hx : Loc X.env.scope x) (r : RelV v u)
    (h : ∀ s', Inv X pins (σ.set i (some v)) H s' → (∃ a, Heap.SameBut a s.heap s'.heap ∧ (a = X.env.locals ∨ X.env.cells.lookup x = some a)) → Q () s') (hf : X.fn x = true ∨ X.env.scope.names.lookup x = some .local := by first | exact .inl rfl | exact .inr rfl | assumption) : wpAny M A (storeName X.env x u) Q E s := by
  obtain ⟨m, hn, hl⟩ := id I.loc
  have hcls : (X.env.scope.kind == .class || (X.env.scope.kind == .module && X.env.locals != X.env.globals)) = false := by rw [I.ok.kind]; rfl
  have hiσ : i < σ.length := by rw [I.len]; exact (List.getElem?_eq_some_iff.mp hi).1
  have cne := I.cne
  have tracked : ∀ {a : Addr} {h' : Heap}, (∃ o, s.heap.get? a = some o ∧ H a = none) → Heap.SameBut a s.heap h' → HOk X.prog X.w H h' := fun {a h'} ha hs b ob e => by
    obtain ⟨_, _, hfree⟩ := ha
    refine (I.hok b ob e).stay (fun c w' hc q => (hs.2 c ?_).trans q) (fun _ q => q) fun _ _ q => q
    rintro rfl
    rcases hc with rfl | hc
    · rw [hfree] at e; cases e
    · rw [hfree] at hc; cases hc
  rcases hx with hk | hk
  · refine wpAny_storeName_local hk hn (fun h' hn' hs => ?_) hcls
    obtain ⟨oL, _, _, hoL, _⟩ := id hn
    refine h _ ⟨I.ok, I.os, I.bare, ⟨fun b o e n hb hx => ?_, fun b o e n hb hx => ?_, I.base.free, fun b o e hx => ?_, I.base.tups, I.base.frzs, I.base.tbls⟩, ⟨_, hn', fun j y v' e1 e2 e3 => ?_⟩, fun y c e => ?_, I.free, I.freeC, fun p hp => ?_, tracked ⟨oL, hoL, I.free⟩ hs, by simpa using I.len⟩ ⟨_, hs, .inl rfl⟩
    · exact (hs.2 b (Nat.ne_of_lt (Nat.lt_of_lt_of_le (Heap.lt_size e) I.ok.above))).trans (I.base.keep b o e n hb hx)
    · obtain ⟨sl, e1⟩ := I.base.slot b o e n hb hx
      exact ⟨sl, (hs.2 b (Nat.ne_of_lt (Nat.lt_of_lt_of_le (Heap.lt_size e) I.ok.above))).trans e1⟩
    · obtain ⟨o', e1⟩ := I.base.there b o e hx
      exact ⟨o', (hs.2 b (Nat.ne_of_lt (Nat.lt_of_lt_of_le (Heap.lt_size e) I.ok.above))).trans e1⟩
    · by_cases hj : j = i
      · subst hj
        rw [hi] at e1; cases e1
        rw [List.getElem?_set_self hiσ] at e2
        cases e2
        exact ⟨u, r, .inl ⟨hk, by simp⟩⟩
      · rw [List.getElem?_set_ne (Ne.symm hj)] at e2
        obtain ⟨u', r', q⟩ := hl j y v' e1 e2 e3
        refine ⟨u', r', ?_⟩
        rcases q with ⟨k, e⟩ | ⟨k, c, e, z⟩
        · refine .inl ⟨k, ?_⟩
          have : y ≠ x := fun e => hj (nodup_ix hN e1 (e ▸ hi))
          simp [this, e]
        · exact .inr ⟨k, c, e, z.sameBut hs (cne y c e)⟩
    · obtain ⟨w', z⟩ := I.cell y c e
      exact ⟨w', z.sameBut hs (cne y c e)⟩
    · obtain ⟨e, n, ne, nf, d⟩ := I.pin p hp
      exact ⟨(hs.2 p.1 ne).trans e, n, ne, nf, d⟩
  · have hfn : X.fn x = true := by
      rcases hf with z | z
      · exact z
      · rw [z] at hk; cases hk
    obtain ⟨c, hc⟩ := I.ok.has x (.inl hk)
    obtain ⟨w', z⟩ := I.cell x c hc
    refine wpAny_storeName_cell I.ok.kind hk hc z (fun h' hc' hs => ?_)
    obtain ⟨oc, hoc, hocd⟩ := id z
    refine h { s with heap := h' } ⟨I.ok, I.os, I.bare, ⟨fun b o e n hb hx => ?_, fun b o e n hb hx => ?_, I.base.free, fun b o e hx => ?_, I.base.tups, I.base.frzs, I.base.tbls⟩, ⟨m, hn.sameBut hs (Ne.symm (cne x c hc)), fun j y v' e1 e2 e3 => ?_⟩, fun y c' e => ?_, I.free, I.freeC, fun p hp => ?_, tracked ⟨oc, hoc, I.freeC x c hc⟩ hs, by simpa using I.len⟩ ⟨c, hs, .inr hc⟩
    · exact (hs.2 b (Nat.ne_of_lt (Nat.lt_of_lt_of_le (Heap.lt_size e) (I.ok.cab x c hfn hc)))).trans (I.base.keep b o e n hb hx)
    · obtain ⟨sl, e1⟩ := I.base.slot b o e n hb hx
      exact ⟨sl, (hs.2 b (Nat.ne_of_lt (Nat.lt_of_lt_of_le (Heap.lt_size e) (I.ok.cab x c hfn hc)))).trans e1⟩
    · obtain ⟨o', e1⟩ := I.base.there b o e hx
      exact ⟨o', (hs.2 b (Nat.ne_of_lt (Nat.lt_of_lt_of_le (Heap.lt_size e) (I.ok.cab x c hfn hc)))).trans e1⟩
    · by_cases hj : j = i
      · subst hj
        rw [hi] at e1; cases e1
        rw [List.getElem?_set_self hiσ] at e2
        cases e2
        exact ⟨u, r, .inr ⟨.inl hk, c, hc, hc'⟩⟩
      · rw [List.getElem?_set_ne (Ne.symm hj)] at e2
        obtain ⟨u', r', q⟩ := hl j y v' e1 e2 e3
        refine ⟨u', r', ?_⟩
        rcases q with q | ⟨k, c', e, z'⟩
        · exact .inl q
        · refine .inr ⟨k, c', e, z'.sameBut hs ?_⟩
          rintro rfl
          exact hj (nodup_ix hN e1 (I.ok.inj _ _ _ e hc ▸ hi))
    · by_cases hcc : c' = c
      · subst hcc; exact ⟨_, hc'⟩
      · obtain ⟨w2, z2⟩ := I.cell y c' e
        exact ⟨w2, z2.sameBut hs hcc⟩
    · obtain ⟨e, n, ne, nf, d⟩ := I.pin p hp
      refine ⟨(hs.2 p.1 ?_).trans e, n, ne, nf, d⟩
      intro q
      rw [q, hoc] at e
      have q' : oc = p.2 := Option.some.inj e
      exact d w' (by rw [← q']; exact hocd)
theorem store_ok {M : Model} {A : Around} {E : Value → Shared → Prop} {i : Nat} {x : Str} {v : V} {u : Value} {Q : Unit → Shared → Prop} (I : Inv X pins σ H s) (hN : X.N.Nodup) (hi : X.N[i]? = some x) (hx : Loc X.env.scope x) (r : RelV v u)
    (h : ∀ s', Inv X pins (σ.set i (some v)) H s' → Q () s') (hf : X.fn x = true ∨ X.env.scope.names.lookup x = some .local := by first | exact .inl rfl | exact .inr rfl | assumption) : wpAny M A (storeName X.env x u) Q E s :=
  store_ok2 I hN hi hx r (fun s' I' _ => h s' I') hf
/-- behind a call or a block, the state as it is -/
theorem Inv.call' {s' : Shared} {ch : List Addr} (I : Inv X pins σ H s) (ho : s'.os = s.os) (u : Un (frs X.stack) ch H H' s.heap s'.heap) (hok : HOk X.prog X.w H' s'.heap) (hg : AllBare s'.gens)
    (hch : ∀ b ∈ ch, (b ∈ X.ex ∨ X.s_0.heap.objs.size ≤ b) ∧ b ≠ X.env.locals ∧ (∀ x c, X.env.cells.lookup x = some c → c ≠ b) ∧ ∀ p ∈ X.pn ++ pins, p.1 ≠ b) : Inv X pins σ H' s' := by
  obtain ⟨h', g', d', t', o'⟩ := s'
  have e : o' = s.os := ho
  subst e
  exact I.call (g' := g') (t' := t') (d' := d') u hok hg hch
end
/-! ### the judgements -/
/-- an exception: its class, its own dict's address (where it has one), the abstract heap behind it -/
abbrev XK := Value → Option Addr → Hp → Prop
abbrev St := List (Option V)
abbrev VK := V → Hp → Prop
/-- an expression's reading; a test's; an argument list's -/
abbrev TE := St → Hp → VK → Prop
abbrev TT := St → Hp → (Bool → Hp → Prop) → Prop
abbrev TA := St → Hp → (List V → Hp → Prop) → Prop
/-- what is wanted behind a statement -/
structure Ends where
  nx : St → Hp → Prop
  rt : VK
  bk : St → Hp → Prop := fun _ _ => False
  ct : St → Hp → Prop := fun _ _ => False
abbrev TS := Ends → St → Hp → Prop
def EP (X : Cx) (pins : List (Addr × Obj)) (σ : St) (Q : VK) (u : Value) (s' : Shared) : Prop := ∃ v H', Inv X pins σ H' s' ∧ RelV v u ∧ Q v H'
def TP (X : Cx) (pins : List (Addr × Obj)) (σ : St) (Q : Bool → Hp → Prop) (b : Bool) (s' : Shared) : Prop := ∃ H', Inv X pins σ H' s' ∧ Q b H'
def AP (X : Cx) (pins : List (Addr × Obj)) (σ : St) (Q : List V → Hp → Prop) (us : List Value) (s' : Shared) : Prop := ∃ vs H', Inv X pins σ H' s' ∧ Vals vs us ∧ Q vs H'
def SP (X : Cx) (pins : List (Addr × Obj)) (D : Ends) (f : Flow) (s' : Shared) : Prop :=
  match f with
  | .next => ∃ σ' H', Inv X pins σ' H' s' ∧ D.nx σ' H'
  | .brk => ∃ σ' H', Inv X pins σ' H' s' ∧ D.bk σ' H'
  | .cont => ∃ σ' H', Inv X pins σ' H' s' ∧ D.ct σ' H'
  | .ret u => ∃ v σ' H', Inv X pins σ' H' s' ∧ RelV v u ∧ D.rt v H'
def PE (X : Cx) (e : Expr) (t : TE) : Prop :=
  ∀ (pins : List (Addr × Obj)) (s : Shared) (σ : St) (H : Hp) (Q : VK), Inv X pins σ H s → t σ H Q → wpAny (model X.prog X.w) X.A (eval e X.env) (EP X pins σ Q) X.xe s
def PT (X : Cx) (e : Expr) (t : TT) : Prop :=
  ∀ (pins : List (Addr × Obj)) (s : Shared) (σ : St) (H : Hp) (Q : Bool → Hp → Prop), Inv X pins σ H s → t σ H Q → wpAny (model X.prog X.w) X.A (isTrue e X.env (eval e X.env)) (TP X pins σ Q) X.xe s
/-- a test whatever its 'whole' is (and, or) -/
def PW (X : Cx) (e : Expr) (t : TT) : Prop :=
  ∀ (whole : Sem Value) (pins : List (Addr × Obj)) (s : Shared) (σ : St) (H : Hp) (Q : Bool → Hp → Prop), Inv X pins σ H s → t σ H Q → wpAny (model X.prog X.w) X.A (isTrue e X.env whole) (TP X pins σ Q) X.xe s
theorem PW.pt {X : Cx} {e : Expr} {t : TT} (h : PW X e t) : PT X e t := h _
/-- an argument list (no star), from the left -/
def PA (X : Cx) (es : List Expr) (t : TA) : Prop :=
  ∀ (pos : Pos) (pins : List (Addr × Obj)) (s : Shared) (σ : St) (H : Hp) (Q : List V → Hp → Prop), Inv X pins σ H s → t σ H Q → wpAny (model X.prog X.w) X.A (spliced (backTo pos (starEach es X.env))) (AP X pins σ Q) X.xe s
def PS (X : Cx) (st : Stmt) (t : TS) : Prop :=
  ∀ (pins : List (Addr × Obj)) (s : Shared) (σ : St) (H : Hp) (D : Ends), Inv X pins σ H s → t D σ H → wpAny (model X.prog X.w) X.A (exec st X.env) (SP X pins D) X.xe s
def PSs (X : Cx) (st : List Stmt) (t : TS) : Prop :=
  ∀ (pins : List (Addr × Obj)) (s : Shared) (σ : St) (H : Hp) (D : Ends), Inv X pins σ H s → t D σ H → wpAny (model X.prog X.w) X.A (execs st X.env) (SP X pins D) X.xe s
/-- weaken the end -/
theorem thn {α : Type} {t : Sem α} {Q Q' : α → Shared → Prop} {M : Model} {A : Around} {E : Value → Shared → Prop} {s : Shared} (h : wpAny M A t Q E s) (hQ : ∀ a s, Q a s → Q' a s) : wpAny M A t Q' E s := wpAny_mono h hQ fun _ _ x => x
end L2
namespace L2
open PySem PySem.Spec PyProof.Rows
section
variable {X : Cx}
/-! ### names and constants -/
def tVar (i : Nat) : TE := fun σ H Q => ∃ v, σ[i]? = some (some v) ∧ Q v H
def tC (v : V) : TE := fun _ H Q => Q v H
theorem pe_var {i : Nat} {x : Str} {pos : Pos} (hN : X.N[i]? = some x) (hv : Vis X.env.scope x) (hd : (x == ("__debug__" : Str)) = false := by decide) (hcd : (x == ("__classdict__" : Str)) = false := by decide) : PE X (.Name x pos) (tVar i) := by
  intro pins s σ H Q I h
  obtain ⟨v, e, h⟩ := h
  obtain ⟨m, hn, hl⟩ := I.loc
  obtain ⟨u, r, l⟩ := hl i x v hN e hv
  have fin : EP X pins σ Q u s := ⟨v, H, I, r, h⟩
  rcases l with ⟨hk, hm⟩ | ⟨hk, c, hc, hcell⟩
  · exact wpAny_Name (wpAny_loadName_local I.ok.kind hk hn hm fin) hd
  · rcases hk with hk | hk
    · exact wpAny_Name (wpAny_loadName_cell I.ok.kind hk hc hcell fin) hd
    · exact wpAny_Name (wpAny_loadName_free I.ok.kind hk hc hcell fin hcd) hd
theorem pe_int {i j pos} : PE X (.Constant (.int i) j pos) (tC (.int i)) := fun _ _ _ H _ I h => wpAny_Constant_int ⟨.int i, H, I.tok _, ⟨_, rfl⟩, h⟩
theorem pe_bl {b j pos} : PE X (.Constant (.bool b) j pos) (tC (.bl b)) := fun _ _ _ H _ I h => Constant_bool ⟨.bl b, H, I, rfl, h⟩
theorem pe_non {j pos} : PE X (.Constant .none j pos) (tC .non) := fun _ _ _ H _ I h => Constant_none ⟨.non, H, I, rfl, h⟩
/-- a global name of the def -/
def Gl (X : Cx) (x : Str) : Prop := X.env.kindOf x = some .globalImplicit
theorem ld_glob {E : Value → Shared → Prop} {pins : List (Addr × Obj)} {s : Shared} {σ : St} {H : Hp} {x : Str} {u : Value} {pos : Pos} {Q : Value → Shared → Prop} (I : Inv X pins σ H s) (hg : Gl X x) (hm : X.mg x = some u) (h : Q u s)
    (hd : (x == ("__debug__" : Str)) = false := by decide) : wpAny (model X.prog X.w) X.A (eval (.Name x pos) X.env) Q E s :=
  Calls.Name_function_global I.ok.kind hg (Calls.loadGlobal_global (by rw [I.ok.glob]; exact I.mod.glob.keeps I.bk) hm h) hd
theorem ld_blt {E : Value → Shared → Prop} {pins : List (Addr × Obj)} {s : Shared} {σ : St} {H : Hp} {x : Str} {u : Value} {pos : Pos} {Q : Value → Shared → Prop} (I : Inv X pins σ H s) (hg : Gl X x) (hm : X.mg x = none) (hv : bootBuiltins x = some u) (h : Q u s)
    (hn : x ≠ "__name__" := by decide) (hd : (x == ("__debug__" : Str)) = false := by decide) : wpAny (model X.prog X.w) X.A (eval (.Name x pos) X.env) Q E s := by
  obtain ⟨mb, h1, h2⟩ := I.mod.blt
  exact Calls.Name_function_global I.ok.kind hg (Calls.loadGlobal_builtin (by rw [I.ok.glob]; exact I.mod.glob.keeps I.bk) hm (by rw [I.ok.blt]; exact h1.keeps I.bk) ((h2 x hn).trans hv) h) hd
/-- a module's constant, a class, a function, as a value -/
theorem pe_glob {x : Str} {v : V} {u : Value} {pos : Pos} (hg : Gl X x) (hm : X.mg x = some u) (r : RelV v u) (hd : (x == ("__debug__" : Str)) = false := by decide) : PE X (.Name x pos) (tC v) :=
  fun _ _ _ H _ I h => ld_glob I hg hm ⟨v, H, I, r, h⟩ hd
/-! ### arithmetic -/
variable {a b : Expr} {ta tb : TE} {pos : Pos}
/-! ### comparisons -/
def PC (X : Cx) (op : CmpOp) (a b : Expr) (t : TE) : Prop :=
  ∀ (pins : List (Addr × Obj)) (s : Shared) (σ : St) (H : Hp) (Q : VK), Inv X pins σ H s → t σ H Q →
    wpAny (model X.prog X.w) X.A (eval a X.env) (fun v s₁ => wpAny (model X.prog X.w) X.A (eval b X.env) (fun u s₂ => wpAny (model X.prog X.w) X.A (compareOp op v u) (EP X pins σ Q) X.xe s₂) X.xe s₁) X.xe s
/-- a comparison as a value, as a test -/
def tB (t : TE) : TT := fun σ H Q => t σ H fun x H1 => ∃ c, x = .bl c ∧ Q c H1
theorem pe_cmp {op : CmpOp} {t : TE} (h : PC X op a b t) (h1 : behindInMarks op b = false := by first | exact nobehind _ (by decide) (by decide) | rfl) : PE X (.Compare a [op] [b] pos) t := fun pins s σ H Q I hw => wpAny_Compare1 (h pins s σ H Q I hw) h1
theorem pt_cmp {op : CmpOp} {t : TE} (h : PC X op a b t) (h1 : behindInMarks op b = false := by first | exact nobehind _ (by decide) (by decide) | rfl) : PT X (.Compare a [op] [b] pos) (tB t) := by
  intro pins s σ H Q I hw
  refine wpAny_isTrue_Compare1 (thn (h pins s σ H _ I hw) fun v s1 h1 => thn h1 fun u s2 h2 => thn h2 fun c s3 ⟨x, H1, I1, r1, q1⟩ => ?_) h1
  obtain ⟨d, rfl, q⟩ := q1
  cases r1
  exact wpAny_truthy_bool ⟨H1, I1, q⟩
/-- an expression whose value is a bool, as a test -/
theorem pt_val {e : Expr} {t : TE} (h : PE X e t) (he : ∀ whole, isTrue e X.env whole = (do let v ← whole; standAt e.pos; holding [v] (truthy v)) := by intro _; rfl) : PT X e (tB t) := by
  intro pins s σ H Q I hw
  refine isTrue_plain (thn (h pins s σ H _ I hw) fun v s1 ⟨x, H1, I1, r1, q1⟩ => ?_) (he _)
  obtain ⟨d, rfl, q⟩ := q1
  cases r1
  exact wpAny_truthy_bool ⟨H1, I1, q⟩
/-! ### and, or, not -/
variable {tA tB' : TT} {rest : List Expr}
def tAnd (t u : TT) : TT := fun σ H Q => t σ H fun c H1 => if c = true then u σ H1 Q else Q false H1
def tOr (t u : TT) : TT := fun σ H Q => t σ H fun c H1 => if c = true then Q true H1 else u σ H1 Q
def tNot (t : TT) : TT := fun σ H Q => t σ H fun c H1 => Q (!c) H1
theorem pw_and1 (ha : PT X a tA) : PW X (.BoolOp .And [a] pos) tA := by
  intro wh pins s σ H Q I h
  refine isTrue_and (thn (ha pins s σ H Q I h) fun c s1 e => ?_)
  cases c with
  | true => exact isTrue_and_nil e
  | false => exact e
theorem pw_or1 (ha : PT X a tA) : PW X (.BoolOp .Or [a] pos) tA := by
  intro wh pins s σ H Q I h
  refine isTrue_or (thn (ha pins s σ H Q I h) fun c s1 e => ?_)
  cases c with
  | false => exact isTrue_or_nil e
  | true => exact e
theorem pw_and (ha : PT X a tA) (hb : PW X (.BoolOp .And (b :: rest) pos) tB') : PW X (.BoolOp .And (a :: b :: rest) pos) (tAnd tA tB') := by
  intro wh pins s σ H Q I h
  refine isTrue_and (thn (ha pins s σ H _ I h) fun c s1 ⟨H1, I1, q1⟩ => ?_)
  cases c with
  | true => exact hb wh pins s1 σ H1 Q I1 q1
  | false => exact ⟨H1, I1, q1⟩
theorem pw_or (ha : PT X a tA) (hb : PW X (.BoolOp .Or (b :: rest) pos) tB') : PW X (.BoolOp .Or (a :: b :: rest) pos) (tOr tA tB') := by
  intro wh pins s σ H Q I h
  refine isTrue_or (thn (ha pins s σ H _ I h) fun c s1 ⟨H1, I1, q1⟩ => ?_)
  cases c with
  | true => exact ⟨H1, I1, q1⟩
  | false => exact hb wh pins s1 σ H1 Q I1 q1
theorem pt_not (ha : PT X a tA) : PT X (.UnaryOp .Not a pos) (tNot tA) := by
  intro pins s σ H Q I h
  exact isTrue_not (ha pins s σ H (fun c H1 => Q (!c) H1) I h)
/-- .. as values (bools) -/
def tAndV (ta tb : TE) : TE := fun σ H Q => ta σ H fun x H1 => ∃ c, x = .bl c ∧ if c = true then tb σ H1 Q else Q (.bl false) H1
def tNotV (ta : TE) : TE := fun σ H Q => ta σ H fun x H1 => ∃ c, x = .bl c ∧ Q (.bl (!c)) H1
theorem pe_one {op} {t : TE} (h : PE X a t) : PE X (.BoolOp op [a] pos) t := fun pins s σ H Q I hw => BoolOp_one (h pins s σ H Q I hw)
theorem pe_and (ha : PE X a ta) (hb : PE X (.BoolOp .And (b :: rest) pos) tb) : PE X (.BoolOp .And (a :: b :: rest) pos) (tAndV ta tb) := by
  intro pins s σ H Q I h
  refine BoolOp_and (thn (ha pins s σ H _ I h) fun v s1 ⟨x, H1, I1, r1, q1⟩ => ?_)
  obtain ⟨c, rfl, q1⟩ := q1
  cases r1
  refine wpAny_truthy_bool ?_
  cases c with
  | true => exact hb pins s1 σ H1 Q I1 q1
  | false => exact ⟨.bl false, H1, I1, rfl, q1⟩
theorem pe_not (ha : PE X a ta) : PE X (.UnaryOp .Not a pos) (tNotV ta) := by
  intro pins s σ H Q I h
  refine UnaryOp_ (thn (ha pins s σ H _ I h) fun v s1 ⟨x, H1, I1, r1, q1⟩ => ?_)
  obtain ⟨c, rfl, q1⟩ := q1
  cases r1
  exact not_of (wpAny_truthy_bool ⟨.bl (!c), H1, I1, rfl, q1⟩)
end
end L2
namespace L2
open PySem PySem.Spec PyProof.Rows
/-! ### a list, a tuple that is read: tracked, frozen, or an object of the module -/
def SqL (K : PySem.W.Frag) (H : Hp) (a : Addr) (xs : List V) : Prop :=
  Rd H a (.lst xs) ∨
    ∃ (o : Obj) (its : Array Value) (n : Nat), K.lookup a = some o ∧ o.cls = .type "list" ∧ o.dict = none ∧ o.data = .seq its n ∧ its.size ≤ sizeLine ∧ Vals xs its.toList
def SqT (K : PySem.W.Frag) (H : Hp) (a : Addr) (xs : List V) : Prop :=
  Rd H a (.tup xs) ∨
    ∃ (o : Obj) (its : Array Value) (n : Nat), K.lookup a = some o ∧ o.cls = .type "tuple" ∧ o.data = .seq its n ∧ its.size ≤ sizeLine ∧ Vals xs its.toList
def absV : Value → Option V
  | .none => some .non
  | .bool b => some (.bl b)
  | .int i _ => some (.int i)
  | .str x _ => some (.str x)
  | .bytes b _ => some (.byt b)
  | .float b _ => some (.flt b)
  | .ref a => some (.ref a)
  | .type n => some (.ty n)
  | _ => none
theorem RelV.abs {x : V} {u : Value} (r : RelV x u) : absV u = some x := by
  cases x with
  | non => cases r; rfl
  | bl _ => cases r; rfl
  | int _ => obtain ⟨t, rfl⟩ := r; rfl
  | str _ => obtain ⟨t, rfl⟩ := r; rfl
  | byt _ => obtain ⟨t, rfl⟩ := r; rfl
  | flt _ => obtain ⟨t, rfl⟩ := r; rfl
  | ref _ => cases r; rfl
  | ty _ => cases r; rfl
theorem RelV.inj {x y : V} {u : Value} (r : RelV x u) (q : RelV y u) : x = y := Option.some.inj (r.abs.symm.trans q.abs)
theorem Vals.inj : ∀ {xs ys : List V} {us : List Value}, Vals xs us → Vals ys us → xs = ys
  | _, _, _, .nil, .nil => rfl
  | _, _, _, .cons r t, .cons r' t' => by rw [r.inj r', Vals.inj t t']
section
variable {X : Cx} {pins : List (Addr × Obj)} {σ : St} {H : Hp} {s : Shared} {a : Addr} {xs ys : List V}
theorem SqL.of {K : PySem.W.Frag} (h : H a = some (.lst xs)) : SqL K H a xs := .inl (.inl h)
theorem SqT.of {K : PySem.W.Frag} (h : H a = some (.tup xs)) : SqT K H a xs := .inl (.inl h)
theorem Inv.list (I : Inv X pins σ H s) (h : SqL X.K H a xs) : ∃ its : List Value, Vals xs its ∧ PlainL s.heap a its.toArray ∧ xs.length ≤ sizeLine := by
  rcases h with h | ⟨o, its, n, hk, hc, hd, hs, hz, r⟩
  · obtain ⟨z, its, n, r, e⟩ := h.ok I.hok
    exact ⟨its, r, ⟨_, n, e, rfl, rfl, rfl⟩, z⟩
  · refine ⟨its.toList, r, ⟨o, n, I.kIn a o hk, hc, hd, by simpa using hs⟩, ?_⟩
    have e := r.length
    simp only [Array.length_toList] at e
    omega
theorem Inv.tuple (I : Inv X pins σ H s) (h : SqT X.K H a xs) : ∃ its : List Value, Vals xs its ∧ IsTup s.heap a its.toArray ∧ xs.length ≤ sizeLine := by
  rcases h with h | ⟨o, its, n, hk, hc, hs, hz, r⟩
  · obtain ⟨z, its, r, p⟩ := h.ok I.hok
    exact ⟨its, r, p, z⟩
  · refine ⟨its.toList, r, ⟨o, I.kIn a o hk, hc, n, by simpa using hs⟩, ?_⟩
    have e := r.length
    simp only [Array.length_toList] at e
    omega
theorem Inv.list_inj (I : Inv X pins σ H s) (h : SqL X.K H a xs) (h' : SqL X.K H a ys) : xs = ys := by
  obtain ⟨its, r, ⟨o, n, e, _, _, d⟩, _⟩ := I.list h
  obtain ⟨its', r', ⟨o', n', e', _, _, d'⟩, _⟩ := I.list h'
  rw [e] at e'; cases e'
  rw [d] at d'
  injection d' with d1 _
  have : its = its' := by simpa using congrArg Array.toList d1
  subst this
  exact r.inj r'
end
/-! ### another wish about exceptions -/
abbrev Cx.wish (X : Cx) (E : Value → Shared → Prop) : Cx := { X with xe := E }
/-- no exception leaves -/
abbrev Cx.nox (X : Cx) : Cx := X.wish fun _ _ => False
theorem Cx.Ok.wish {X : Cx} (ok : X.Ok) (E : Value → Shared → Prop) : (X.wish E).Ok :=
  ⟨ok.mod, ok.kind, ok.glob, ok.blt, ok.above, ok.inj, ok.has, ok.cab, ok.hd, ok.frames, ok.stk, ok.exf, ok.bs, ok.bsz, ok.noex, ok.exfs, ok.funs, ok.frf⟩
theorem Cx.Ok.unwish {X : Cx} {E : Value → Shared → Prop} (ok : (X.wish E).Ok) : X.Ok :=
  ⟨ok.mod, ok.kind, ok.glob, ok.blt, ok.above, ok.inj, ok.has, ok.cab, ok.hd, ok.frames, ok.stk, ok.exf, ok.bs, ok.bsz, ok.noex, ok.exfs, ok.funs, ok.frf⟩
section
variable {X : Cx} {pins : List (Addr × Obj)} {σ : St} {H : Hp} {s : Shared} {E : Value → Shared → Prop}
theorem Inv.wish (I : Inv X pins σ H s) (E : Value → Shared → Prop) : Inv (X.wish E) pins σ H s := ⟨I.ok.wish E, I.os, I.bare, I.base, I.loc, I.cell, I.free, I.freeC, I.pin, I.hok, I.len⟩
theorem Inv.unwish (I : Inv (X.wish E) pins σ H s) : Inv X pins σ H s := ⟨I.ok.unwish, I.os, I.bare, I.base, I.loc, I.cell, I.free, I.freeC, I.pin, I.hok, I.len⟩
theorem SP.unwish {D : Ends} {f : Flow} {s' : Shared} (h : SP (X.wish E) pins D f s') : SP X pins D f s' := by
  cases f with
  | next => obtain ⟨σ', H', I, q⟩ := h; exact ⟨σ', H', I.unwish, q⟩
  | brk => obtain ⟨σ', H', I, q⟩ := h; exact ⟨σ', H', I.unwish, q⟩
  | cont => obtain ⟨σ', H', I, q⟩ := h; exact ⟨σ', H', I.unwish, q⟩
  | ret u => obtain ⟨v, σ', H', I, r, q⟩ := h; exact ⟨v, σ', H', I.unwish, r, q⟩
theorem PSs.nox {st : List Stmt} {t : TS} (h : PSs X.nox st t) : PSs X st t := fun pins s σ H D I hw =>
  wpAny_mono (h pins s σ H D (I.wish _) hw) (fun _ _ q => q.unwish) fun _ _ z => False.elim z
end
/-! ### blocks and small statements -/
section
variable {X : Cx} {st : Stmt} {rest : List Stmt} {t u : TS} {e : Expr} {te : TE} {pos : Pos}
def tNext : TS := fun D σ H => D.nx σ H
def tSeq (t u : TS) : TS := fun D σ H => t { D with nx := u D } σ H
theorem pss_nil : PSs X [] tNext := fun _ _ σ H _ I h => wpAny_execs_nil ⟨σ, H, I, h⟩
theorem pss_cons (h1 : PS X st t) (h2 : PSs X rest u) : PSs X (st :: rest) (tSeq t u) := by
  intro pins s σ H D I h
  refine wpAny_execs_cons (thn (h1 pins s σ H { D with nx := u D } I h) fun f s1 q => ?_)
  cases f with
  | next =>
    obtain ⟨σ', H', I', q⟩ := q
    exact h2 pins s1 σ' H' D I' q
  | ret v => exact q
  | brk => exact q
  | cont => exact q
theorem pss_one (h1 : PS X st t) : PSs X [st] t := by
  intro pins s σ H D I h
  refine wpAny_execs_cons (thn (h1 pins s σ H D I h) fun f s1 q => ?_)
  cases f with
  | next => exact wpAny_execs_nil q
  | ret v => exact q
  | brk => exact q
  | cont => exact q
/-- in a def's body nothing is shown -/
theorem Inv.quiet {pins : List (Addr × Obj)} {σ : St} {H : Hp} {s : Shared} (I : Inv X pins σ H s) : interactive X.env = false := by simp [interactive, I.ok.kind]
/-- an expression whose value is dropped -/
def tDrop (te : TE) : TS := fun D σ H => te σ H fun _ H1 => D.nx σ H1
theorem ps_expr (he : PE X e te) (hs : swapsWith e none pos.line X.env = pure false := by rfl) : PS X (.Expr e pos) (tDrop te) := by
  intro pins s σ H D I h
  exact wpAny_Expr_any (thn (he pins s σ H _ I h) fun v s1 ⟨x, H1, I1, r1, q1⟩ => ⟨σ, H1, I1, q1⟩) I.quiet hs
def tRet (te : TE) : TS := fun D σ H => te σ H D.rt
theorem ps_ret (he : PE X e te) : PS X (.Return (some e) pos) (tRet te) := by
  intro pins s σ H D I h
  exact wpAny_Return_some (thn (he pins s σ H _ I h) fun v s1 ⟨x, H1, I1, r1, q1⟩ => ⟨x, σ, H1, I1, r1, q1⟩)
def tIfS (c : TT) (t u : TS) : TS := fun D σ H => c σ H fun b H1 => if b = true then t D σ H1 else u D σ H1
theorem ps_if {c : Expr} {a b : List Stmt} {tc : TT} (hc : PT X c tc) (ha : PSs X a t) (hb : PSs X b u) : PS X (.If c a b pos) (tIfS tc t u) := by
  intro pins s σ H D I h
  refine wpAny_If (thn (hc pins s σ H _ I h) fun d s1 ⟨H1, I1, q1⟩ => ?_)
  cases d with
  | true => exact ha pins s1 σ H1 D I1 q1
  | false => exact hb pins s1 σ H1 D I1 q1
end
/-! ### targets -/
abbrev TG := V → St → Hp → (St → Hp → Prop) → Prop
abbrev TGs := List V → St → Hp → (St → Hp → Prop) → Prop
def PG (X : Cx) (target : Expr) (t : TG) : Prop :=
  ∀ (pins : List (Addr × Obj)) (s : Shared) (σ : St) (H : Hp) (v : V) (u : Value) (Q : St → Hp → Prop), Inv X pins σ H s → RelV v u → t v σ H Q →
    wpAny (model X.prog X.w) X.A (assign target X.env u) (fun _ s' => ∃ σ' H', Inv X pins σ' H' s' ∧ Q σ' H') X.xe s
/-- several targets, one after another -/
def PGs (X : Cx) (ts : List Expr) (t : TGs) : Prop :=
  ∀ (pins : List (Addr × Obj)) (s : Shared) (σ : St) (H : Hp) (vs : List V) (us : List Value) (Q : St → Hp → Prop), Inv X pins σ H s → Vals vs us → t vs σ H Q →
    wpAny (model X.prog X.w) X.A (assignInOrder ((assignEach ts X.env).map (·.2)) us) (fun _ s' => ∃ σ' H', Inv X pins σ' H' s' ∧ Q σ' H') X.xe s
/-- a op= b, by values -/
abbrev TIp := V → V → Hp → VK → Prop
def PIp (X : Cx) (op : Operator) (t : TIp) : Prop :=
  ∀ (pins : List (Addr × Obj)) (s : Shared) (σ : St) (H : Hp) (x y : V) (v u : Value) (Q : VK), Inv X pins σ H s → RelV x v → RelV y u → t x y H Q →
    wpAny (model X.prog X.w) X.A (inplaceOp op v u) (EP X pins σ Q) X.xe s
section
variable {X : Cx} {pos : Pos}
def gName (i : Nat) : TG := fun v σ H Q => Q (σ.set i (some v)) H
theorem pg_name {i : Nat} {x : Str} (hN : X.N.Nodup) (hi : X.N[i]? = some x) (hx : Loc X.env.scope x) (hf : X.fn x = true ∨ X.env.scope.names.lookup x = some .local := by first | exact .inl rfl | exact .inr rfl | assumption) : PG X (.Name x pos) (gName i) := by
  intro pins s σ H v u Q I r h
  exact wpAny_assign_Name (store_ok I hN hi hx r (fun s' I' => ⟨_, H, I', h⟩) hf)
def gNil : TGs := fun vs σ H Q => vs = [] ∧ Q σ H
def gCons (t : TG) (u : TGs) : TGs := fun vs σ H Q => ∃ v r, vs = v :: r ∧ t v σ H fun σ' H' => u r σ' H' Q
theorem pgs_nil : PGs X [] gNil := by
  intro pins s σ H vs us Q I r h
  obtain ⟨e, h⟩ := h
  subst e
  cases r
  exact assignInOrder_nil ⟨σ, H, I, h⟩
theorem pgs_cons {e : Expr} {es : List Expr} {t : TG} {u : TGs} (h1 : PG X e t) (h2 : PGs X es u)
    (hs : (assignEach (e :: es) X.env).map (·.2) = assign e X.env :: (assignEach es X.env).map (·.2) := by rfl) : PGs X (e :: es) (gCons t u) := by
  intro pins s σ H vs us Q I r h
  obtain ⟨v, vr, e1, h⟩ := h
  subst e1
  cases r with
  | cons r rr =>
    rw [hs]
    refine assignInOrder_cons (thn (h1 pins s σ H _ _ _ I r h) fun _ s1 ⟨σ1, H1, I1, q1⟩ => ?_)
    exact h2 pins s1 σ1 H1 _ _ Q I1 rr q1
/-- (a, b, ..) = a tuple of that length -/
def gTup (K : PySem.W.Frag) (n : Nat) (t : TGs) : TG := fun v σ H Q => ∃ a xs, v = .ref a ∧ SqT K H a xs ∧ xs.length = n ∧ t xs σ H Q
theorem pg_tup {es : List Expr} {k : Nat} {t : TGs} {n : Nat} (hc : X.calm = true) (h : PGs X es t)
    (hn : (assignEach es X.env).length = n := by rfl) (hst : (assignEach es X.env).findIdx? (·.1) = none := by rfl) : PG X (.Tuple es k pos) (gTup X.K n t) := by
  intro pins s σ H v u Q I r hw
  obtain ⟨a, xs, e1, hq, hl, hw⟩ := hw
  subst e1
  cases r
  obtain ⟨its, rv, ht, hz⟩ := I.tuple hq
  refine assign_Tuple_tuple (I.ok.hd hc) ht (by simp [hn, ← hl, rv.length]) hst fun h' hx => ?_
  have I1 : Inv X pins σ H { s with heap := h' } := I.kept (t' := s.toks) fun b o e => hx b o (Nat.ne_of_lt (Heap.lt_size e)) e
  exact h pins _ σ H xs _ Q I1 (by simpa using rv) hw
/-- target = value -/
def tAsg (te : TE) (g : TG) : TS := fun D σ H => te σ H fun x H1 => g x σ H1 D.nx
/-- name = value -/
theorem ps_set {i : Nat} {x : Str} {e : Expr} {te : TE} {pos' : Pos} (hN : X.N.Nodup) (hi : X.N[i]? = some x) (hx : Loc X.env.scope x) (he : PE X e te) (hs : swapsWith e (some (.Name x pos')) pos.line X.env = pure false := by rfl) (hf : X.fn x = true ∨ X.env.scope.names.lookup x = some .local := by first | exact .inl rfl | exact .inr rfl | assumption) :
    PS X (.Assign [.Name x pos'] e pos) (tAsg te (gName i)) := by
  intro pins s σ H D I h
  refine wpAny_Assign_Name (thn (he pins s σ H _ I h) fun v s1 ⟨y, H1, I1, r1, q1⟩ => ?_) hs
  exact store_ok I1 hN hi hx r1 (fun s2 I2 => ⟨_, H1, I2, q1⟩) hf
/-- name op= e -/
def tAug (i : Nat) (te : TE) (ti : TIp) : TS := fun D σ H => ∃ x, σ[i]? = some (some x) ∧ te σ H fun y H1 => ti x y H1 fun z H2 => D.nx (σ.set i (some z)) H2
theorem ps_aug {i : Nat} {x : Str} {e : Expr} {te : TE} {op : Operator} {ti : TIp} {pos' : Pos} (hN : X.N.Nodup) (hi : X.N[i]? = some x) (hx : Loc X.env.scope x) (he : PE X e te) (ho : PIp X op ti) (hf : X.fn x = true ∨ X.env.scope.names.lookup x = some .local := by first | exact .inl rfl | exact .inr rfl | assumption) :
    PS X (.AugAssign (.Name x pos') op e pos) (tAug i te ti) := by
  intro pins s σ H D I h
  obtain ⟨v, e1, h⟩ := h
  obtain ⟨m, hn, hl⟩ := I.loc
  have vis : Vis X.env.scope x := by rcases hx with k | k; exact .inl k; exact .inr (.inl k)
  obtain ⟨u, r, l⟩ := hl i x v hi e1 vis
  refine wpAny_AugAssign_Name ?_
  have go : wpAny (model X.prog X.w) X.A (eval e X.env) (fun w s₂ => wpAny (model X.prog X.w) X.A (inplaceOp op u w) (fun r s₃ => wpAny (model X.prog X.w) X.A (storeName X.env x r) (fun _ => SP X pins D .next) X.xe s₃) X.xe s₂) X.xe s := by
    refine thn (he pins s σ H _ I h) fun w s1 ⟨y, H1, I1, r1, q1⟩ => ?_
    refine thn (ho pins s1 σ H1 v y u w _ I1 r r1 q1) fun z s2 ⟨zv, H2, I2, r2, q2⟩ => ?_
    exact store_ok I2 hN hi hx r2 (fun s3 I3 => ⟨_, H2, I3, q2⟩) hf
  rcases l with ⟨hk, hm⟩ | ⟨hk, c, hc, hcell⟩
  · exact wpAny_loadName_local I.ok.kind hk hn hm go
  · rcases hk with hk | hk
    · exact wpAny_loadName_cell I.ok.kind hk hc hcell go
    · rcases hx with k | k
      · have : X.env.scope.names.lookup x = some .free := hk
        rw [k] at this; cases this
      · have : X.env.scope.names.lookup x = some .free := hk
        rw [k] at this; cases this
/-- ints -/
def ipI (f : Int → Int → Int) : TIp := fun x y H Q => ∃ i j, x = .int i ∧ y = .int j ∧ Q (.int (f i j)) H
theorem ip_add : PIp X .Add (ipI fun i j => i + j) := by
  intro pins s σ H x y v u Q I r1 r2 h
  obtain ⟨i, j, e1, e2, q⟩ := h
  subst e1; subst e2
  obtain ⟨t, rfl⟩ := r1
  obtain ⟨t', rfl⟩ := r2
  exact iadd_int ⟨.int _, H, I.tok _, ⟨_, rfl⟩, q⟩
end
/-! ### while -/
section
variable {X : Cx} {pos : Pos}
/-- the invariant W with its measure -/
def tWhile (c : TT) (tb : TS) : TS := fun D σ H => ∃ W : Nat → St → Hp → Prop, (∃ m, W m σ H) ∧ ∀ m σ H, W m σ H →
  c σ H fun b H1 => if b = true then ∃ N : St → Hp → Prop, (∀ σ' H', N σ' H' → ∃ m', m' < m ∧ W m' σ' H') ∧ tb { D with nx := N, ct := N, bk := D.nx } σ H1 else D.nx σ H1
theorem ps_while {c : Expr} {body : List Stmt} {tc : TT} {tb : TS} (hp : PassesOwn (model X.prog X.w) X.A X.env X.xe) (hc : PT X c tc) (hb : PSs X body tb) : PS X (.While c body [] pos) (tWhile tc tb) := by
  intro pins s σ H D I h
  obtain ⟨W, ⟨m0, w0⟩, turn⟩ := h
  refine wpAny_While (codeAny_whileLoop (fun n s' => ∃ σ' H', Inv X pins σ' H' s' ∧ W n σ' H') ?_ m0 ⟨σ, H, I, w0⟩)
  rintro n s1 ⟨σ1, H1, I1, w1⟩
  refine wpAny_passesOwn hp (thn (hc pins s1 σ1 H1 _ I1 (turn n σ1 H1 w1)) fun b s2 ⟨H2, I2, q2⟩ => ?_)
  cases b with
  | true =>
    obtain ⟨N, hN, q2⟩ := q2
    rw [if_pos rfl]
    refine wpAny_passesOwn hp (thn (hb pins s2 σ1 H2 _ I2 q2) fun f s3 q3 => ?_)
    cases f with
    | next =>
      obtain ⟨σ3, H3, I3, n3⟩ := q3
      obtain ⟨m', hm, w3⟩ := hN σ3 H3 n3
      exact ⟨m', hm, σ3, H3, I3, w3⟩
    | cont =>
      obtain ⟨σ3, H3, I3, n3⟩ := q3
      obtain ⟨m', hm, w3⟩ := hN σ3 H3 n3
      exact ⟨m', hm, σ3, H3, I3, w3⟩
    | brk => exact q3
    | ret v => exact q3
  | false =>
    rw [if_neg Bool.false_ne_true]
    exact wpAny_execs_nil ⟨σ1, H2, I2, q2⟩
end
/-! ### what a loop or a comprehension walks -/
/-- at turn i: it yields x (the heap may grow), or it stops -/
structure It where
  go : Nat → Hp → Prop
  yld : Nat → Hp → V → Hp → Prop
  stop : Nat → Hp → Prop
/-- the iterator's own objects may turn: they are not the frame's, not pinned, younger than the entry (or a comprehension's own) -/
def FpOk (X : Cx) (pins : List (Addr × Obj)) (H : Hp) (b : Addr) : Prop :=
  H b = none ∧ b ≠ X.env.locals ∧ b ∉ X.fs ∧ (b ∈ X.ex ∨ X.s_0.heap.objs.size ≤ b) ∧ (∀ x c, X.env.cells.lookup x = some c → c ≠ b) ∧ ∀ p ∈ X.pn ++ pins, p.1 ≠ b
theorem Inv.fpOk {X : Cx} {pins : List (Addr × Obj)} {σ : St} {H H' : Hp} {s : Shared} {b : Addr} (I : Inv X pins σ H s) (hb : s.heap.objs.size ≤ b) (hn : H' b = none) : FpOk X pins H' b := by
  refine ⟨hn, Nat.ne_of_gt (Nat.lt_of_lt_of_le I.lt hb), I.nofs hb, .inr (Nat.le_trans I.sz hb), fun x c e z => ?_, fun p hp z => ?_⟩
  · obtain ⟨v, q⟩ := I.cell x c e
    exact absurd (Nat.lt_of_lt_of_le q.lt (by rw [z]; exact hb)) (Nat.lt_irrefl _)
  · exact absurd (Nat.lt_of_lt_of_le (Heap.lt_size (I.pin p hp).1) (by rw [z]; exact hb)) (Nat.lt_irrefl _)
structure Turn (P : Program) (w : World) (K : PySem.W.Frag) (tg : Expr) (J : It) (fp : List Addr) (it : Addr) (tn : Nat → Heap → Prop) : Prop where
  mem : it ∈ fp
  obj : ∀ i h, tn i h → ∀ b ∈ fp, ∃ o, h.get? b = some o ∧ ∀ v, o.data ≠ .cell v
  keep : ∀ i h h', tn i h → (∀ b ∈ fp, ∀ o, h.get? b = some o → h'.get? b = some o) → tn i h'
  item : ∀ (X : Cx), X.prog = P → X.w = w → X.K = K → X.calm = true → ∀ (i : Nat) (pins : List (Addr × Obj)) (s : Shared) (σ : St) (H : Hp) (E : Value → Shared → Prop), Inv X pins σ H s → (∀ b ∈ fp, FpOk X pins H b) → tn i s.heap → J.go i H →
    wpAny (model P w) X.A (pyNext (.ref it)) (fun r s1 => ∃ u, r = some u ∧
      wpAny (model P w) X.A (letOwnedTupleGo tg (.ref it) u) (fun _ s2 => ∃ x H', Inv X pins σ H' s2 ∧ RelV x u ∧ J.yld i H x H' ∧ tn (i + 1) s2.heap ∧ ∀ b ∈ fp, H' b = none) E s1) E s
  done : ∀ (X : Cx), X.prog = P → X.w = w → X.K = K → X.calm = true → ∀ (i : Nat) (pins : List (Addr × Obj)) (s : Shared) (σ : St) (H : Hp) (E : Value → Shared → Prop), Inv X pins σ H s → (∀ b ∈ fp, FpOk X pins H b) → tn i s.heap → J.stop i H →
    wpAny (model P w) X.A (pyNext (.ref it)) (fun r s1 => r = none ∧ Inv X pins σ H s1) E s
  self : ∀ (A : Around) (i : Nat) (s : Shared) (Q : Value → Shared → Prop) (E : Value → Shared → Prop), tn i s.heap → Q (.ref it) s → wpAny (model P w) A (pyIter (.ref it)) Q E s
abbrev TI := St → Hp → (It → Hp → Prop) → Prop
/-- an iterator has come -/
def PIE (X : Cx) (pins : List (Addr × Obj)) (σ : St) (tg : Expr) (R : It → Hp → Prop) (itv : Value) (s2 : Shared) : Prop :=
  ∃ (it : Addr) (fp : List Addr) (tn : Nat → Heap → Prop) (J : It) (H' : Hp), itv = .ref it ∧ Inv X pins σ H' s2 ∧ Turn X.prog X.w X.K tg J fp it tn ∧ tn 0 s2.heap ∧ (∀ b ∈ fp, FpOk X pins H' b) ∧ R J H'
def PI (X : Cx) (tg iter : Expr) (wi : TI) : Prop :=
  ∀ (pins : List (Addr × Obj)) (s : Shared) (σ : St) (H : Hp) (R : It → Hp → Prop), Inv X pins σ H s → wi σ H R →
    wpAny (model X.prog X.w) X.A (eval iter X.env) (fun v s1 => wpAny (model X.prog X.w) X.A (pyIter v) (PIE X pins σ tg R) X.xe s1) X.xe s
/-- the step ahead of the store is nothing for an iterator that keeps no tuple -/
theorem go_of {M : Model} {A : Around} {E : Value → Shared → Prop} {s : Shared} {tg : Expr} {it : Addr} {u : Value} {o : Obj} {n : String} {vs : Array Value} {Q : Unit → Shared → Prop} (ho : s.heap.get? it = some o) (hc : o.cls = .type n) (hd : o.data = .fields vs)
    (hn : ["enumerate", "zip", "dict_itemiterator", "dict_reverseitemiterator", "odict_iterator", "itertools.zip_longest", "itertools.pairwise"].contains n = false) (hQ : Q () s) : wpAny M A (letOwnedTupleGo tg (.ref it) u) Q E s := by
  unfold letOwnedTupleGo
  cases tg <;> first
    | exact wpAny_pure hQ
    | (cases u <;> first
        | exact wpAny_pure hQ
        | (refine wpAny_bind (wpAny_load ho ?_)
           rw [hc, hd]
           show wpAny M A (if (["enumerate", "zip", "dict_itemiterator", "dict_reverseitemiterator", "odict_iterator", "itertools.zip_longest", "itertools.pairwise"].contains n && vs[0]? == some (rawInt _)) = true then _ else _) Q E s
           rw [if_neg (by intro h; rw [hn, Bool.false_and] at h; cases h)]
           exact wpAny_pure hQ))
/-- the list at a, as it stands at each turn (a loop may append to it) -/
def Itl (K : PySem.W.Frag) (a : Addr) : It :=
  ⟨fun i H => ∃ xs x, SqL K H a xs ∧ xs[i]? = some x, fun i H x H' => H' = H ∧ ∀ xs, SqL K H a xs → xs[i]? = some x, fun i H => ∃ xs, SqL K H a xs ∧ xs.length ≤ i⟩
theorem turn_list {P : Program} {w : World} {K : PySem.W.Frag} {tg : Expr} (a it : Addr) : Turn P w K tg (Itl K a) [it] it (fun i h => h.IsListIter it a i) where
  mem := by simp
  obj := fun i h st b hb => by
    have e : b = it := by simpa using hb
    subst e
    obtain ⟨o, e, c, d⟩ := st
    exact ⟨o, e, fun v z => by rw [d] at z; cases z⟩
  keep := fun i h h' st k => st.at fun o e => k it (by simp) o e
  item := by
    intro X hP hw hK hc i pins s σ H E I hf st hg
    subst hP hw hK
    obtain ⟨xs, x, hq, hx⟩ := hg
    obtain ⟨its, rv, p, hz⟩ := I.list hq
    obtain ⟨u, hu, ru⟩ := rv.get hx
    obtain ⟨f0, f1, f2, f3, f4, f5⟩ := hf it (by simp)
    refine wpAny_pyNext_list_item st p.isList (x := u) (by simpa using hu) fun h' st' sb => ?_
    have I1 : Inv X pins σ H { s with heap := h' } := I.turned (t' := s.toks) (fun b o hb e => (sb.2 b hb).trans e) f0 f1 f3 f4 f5
    obtain ⟨o, e, c, d⟩ := id st'
    exact ⟨u, rfl, go_of (s := { s with heap := h' }) e c d (by decide) ⟨x, H, I1, ru, ⟨rfl, fun ys hy => by rw [I.list_inj hy hq]; exact hx⟩, st', fun b hb => (hf b hb).1⟩⟩
  done := by
    intro X hP hw hK hc i pins s σ H E I hf st hg
    subst hP hw hK
    obtain ⟨xs, hq, hx⟩ := hg
    obtain ⟨its, rv, p, hz⟩ := I.list hq
    obtain ⟨f0, f1, f2, f3, f4, f5⟩ := hf it (by simp)
    have hl := rv.length
    exact wpAny_pyNext_list_end (I.ok.hd hc) st p.isList (by simp; omega) fun h' eb => ⟨rfl, I.turned (t' := s.toks) (fun b o hb e => eb b o hb e) f0 f1 f3 f4 f5⟩
  self := fun _ _ _ _ _ st h => wpAny_pyIter_listiter st h
end L2
namespace L2
open PySem PySem.Spec PyProof.Rows
section
variable {X : Cx} {tg : Expr}
def iList (K : PySem.W.Frag) (tl : TE) : TI := fun σ H R => tl σ H fun x H1 => ∃ a, x = .ref a ∧ (∃ xs, SqL K H1 a xs) ∧ R (Itl K a) H1
theorem pi_list {l : Expr} {tl : TE} (hl : PE X l tl) : PI X tg l (iList X.K tl) := by
  intro pins s σ H R I h
  refine thn (hl pins s σ H _ I h) fun v s1 ⟨x, H1, I1, r1, q1⟩ => ?_
  obtain ⟨a, e, ⟨xs, hq⟩, q⟩ := q1
  subst e
  cases r1
  obtain ⟨its, rv, p, hz⟩ := I1.list hq
  refine wpAny_pyIter_list p.isList ?_
  refine ⟨s1.heap.objs.size, [s1.heap.objs.size], _, _, H1, rfl, I1.kept (t' := s1.toks) fun b o e => Heap.get?_push_of_some _ e, turn_list a _, ⟨_, Heap.get?_push_size _ rfl, rfl, rfl⟩, fun b hb => ?_, q⟩
  have e : b = s1.heap.objs.size := by simpa using hb
  subst e
  exact I1.fpOk (Nat.le_refl _) (I1.hok.fresh (Nat.le_refl _))
/-! ### for -/
/-- W: the invariant by the turn and a measure; N: what the body is to reach -/
def tFor (wi : TI) (g : TG) (tb : TS) : TS := fun D σ H => wi σ H fun J H1 => ∃ W : Nat → Nat → St → Hp → Prop, (∃ m, W 0 m σ H1) ∧ ∀ i m σ H, W i m σ H →
  (J.stop i H ∧ D.nx σ H) ∨ (J.go i H ∧ ∃ N : St → Hp → Prop, (∀ σ' H', N σ' H' → ∃ m', m' < m ∧ W (i + 1) m' σ' H') ∧ ∀ x H', J.yld i H x H' → g x σ H' fun σ2 H2 => tb { D with nx := N, ct := N, bk := D.nx } σ2 H2)
/-- the records at fp as they stand -/
def pinsAt (fp : List Addr) (h : Heap) : List (Addr × Obj) := fp.filterMap fun b => (h.get? b).map fun o => (b, o)
theorem mem_pinsAt {fp : List Addr} {h : Heap} {b : Addr} {o : Obj} (hb : b ∈ fp) (e : h.get? b = some o) : (b, o) ∈ pinsAt fp h := List.mem_filterMap.mpr ⟨b, hb, by rw [e]; rfl⟩
theorem of_pinsAt {fp : List Addr} {h : Heap} {p : Addr × Obj} (hp : p ∈ pinsAt fp h) : p.1 ∈ fp ∧ h.get? p.1 = some p.2 := by
  obtain ⟨b, hb, e⟩ := List.mem_filterMap.mp hp
  cases q : h.get? b with
  | none => rw [q] at e; cases e
  | some o =>
    rw [q] at e
    have e' : (b, o) = p := Option.some.inj e
    subst e'
    exact ⟨hb, q⟩
theorem Inv.pinned {pins : List (Addr × Obj)} {σ : St} {H : Hp} {s : Shared} {fp : List Addr} (I : Inv X pins σ H s) (hf : ∀ b ∈ fp, FpOk X pins H b) (ho : ∀ b ∈ fp, ∃ o, s.heap.get? b = some o ∧ ∀ v, o.data ≠ .cell v) : Inv X (pins ++ pinsAt fp s.heap) σ H s :=
  I.pins_of fun p hp => (List.mem_append.mp hp).elim (fun z => I.pin p (List.mem_append_right _ z)) fun z => by
    obtain ⟨hb, e⟩ := of_pinsAt z
    obtain ⟨f0, f1, f2, _⟩ := hf p.1 hb
    obtain ⟨o, e', d⟩ := ho p.1 hb
    rw [e] at e'; cases e'
    exact ⟨e, f0, f1, f2, d⟩
theorem Inv.unpinned {pins pl : List (Addr × Obj)} {σ : St} {H : Hp} {s : Shared} (I : Inv X (pins ++ pl) σ H s) : Inv X pins σ H s := I.pins_of fun p hp => I.pin p (List.mem_append_right _ (List.mem_append_left _ hp))
theorem ps_for {iter : Expr} {body : List Stmt} {wi : TI} {g : TG} {tb : TS} {pos : Pos} (hp : PassesOwn (model X.prog X.w) X.A X.env X.xe) (hc : X.calm = true) (hi : PI X tg iter wi) (hg : PG X tg g) (hb : PSs X body tb)
    (hs : ∀ x, foldedSetIterable iter X.env x = pure x := by intro _; rfl) : PS X (.For tg iter body [] pos) (tFor wi g tb) := by
  intro pins s σ H D I h
  refine wpAny_For (thn (hi pins s σ H _ I h) fun v s1 h1 => thn h1 fun itv s2 h2 => ?_) hs
  obtain ⟨it, fp, tn, J, H2, e, I2, T, st2, f2, W, ⟨m0, w0⟩, turn⟩ := h2
  subst e
  -- what stays true of the iterator's objects through the loop
  have stat : ∀ {H' : Hp}, (∀ b ∈ fp, H' b = none) → ∀ b ∈ fp, FpOk X pins H' b := fun hn b hb => ⟨hn b hb, (f2 b hb).2⟩
  refine codeAny_forLoop_any (fun n s' => ∃ i σ' H', Inv X pins σ' H' s' ∧ tn i s'.heap ∧ (∀ b ∈ fp, H' b = none) ∧ W i n σ' H') ?_ m0 ⟨0, σ, H2, I2, st2, fun b hb => (f2 b hb).1, w0⟩
  rintro n s3 ⟨i, σ3, H3, I3, st3, fr3, w3⟩
  rcases turn i n σ3 H3 w3 with ⟨stop, qn⟩ | ⟨go, N, hN, step⟩
  · refine wpAny_passesOwn hp (thn (T.done X rfl rfl rfl hc i pins s3 σ3 H3 X.xe I3 (stat fr3) st3 stop) fun r s4 ⟨hr, I4⟩ => ?_)
    subst hr
    exact wpAny_execs_nil ⟨σ3, H3, I4, qn⟩
  · refine wpAny_passesOwn hp (thn (T.item X rfl rfl rfl hc i pins s3 σ3 H3 X.xe I3 (stat fr3) st3 go) fun r s4 ⟨u, hr, h4⟩ => ?_)
    subst hr
    refine wpAny_passesOwn hp (thn h4 fun _ s5 ⟨x, H5, I5, r5, y5, st5, fr5⟩ => ?_)
    have I5' := I5.pinned (stat fr5) (T.obj _ _ st5)
    refine wpAny_passesOwn hp (thn (hg _ s5 σ3 H5 x u _ I5' r5 (step x H5 y5)) fun _ s6 ⟨σ6, H6, I6, q6⟩ => ?_)
    refine wpAny_passesOwn hp (thn (hb _ s6 σ6 H6 _ I6 q6) fun f s7 q7 => ?_)
    have again : ∀ {σ7 : St} {H7 : Hp}, Inv X (pins ++ pinsAt fp s5.heap) σ7 H7 s7 → N σ7 H7 → ∃ m, m < n ∧ ∃ i σ' H', Inv X pins σ' H' s7 ∧ tn i s7.heap ∧ (∀ b ∈ fp, H' b = none) ∧ W i m σ' H' := fun {σ7 H7} I7 n7 => by
      obtain ⟨m', hm, w7⟩ := hN σ7 H7 n7
      refine ⟨m', hm, i + 1, σ7, H7, I7.unpinned, T.keep _ _ _ st5 fun b hb o e => (I7.pin (b, o) (List.mem_append_right _ (List.mem_append_right _ (mem_pinsAt hb e)))).1, fun b hb => ?_, w7⟩
      obtain ⟨o, e, d⟩ := T.obj _ _ st5 b hb
      exact (I7.pin (b, o) (List.mem_append_right _ (List.mem_append_right _ (mem_pinsAt hb e)))).2.1
    cases f with
    | next => obtain ⟨σ7, H7, I7, n7⟩ := q7; exact again I7 n7
    | cont => obtain ⟨σ7, H7, I7, n7⟩ := q7; exact again I7 n7
    | brk => obtain ⟨σ7, H7, I7, q7⟩ := q7; exact ⟨σ7, H7, I7.unpinned, q7⟩
    | ret v => obtain ⟨x7, σ7, H7, I7, r7, q7⟩ := q7; exact ⟨x7, σ7, H7, I7.unpinned, r7, q7⟩
end
/-! ### the forms one uses -/
/-- over a list that the body leaves as it is -/
theorem for_list {K : PySem.W.Frag} {a : Addr} {xs : List V} {g : TG} {tb : TS} {D : Ends} {σ : St} {H : Hp} (Pv : Nat → St → Hp → Prop) (h0 : Pv 0 σ H) (hl : ∀ i σ H, i ≤ xs.length → Pv i σ H → SqL K H a xs)
    (hs : ∀ i x σ H, xs[i]? = some x → Pv i σ H → g x σ H fun σ2 H2 => tb { D with nx := Pv (i + 1), ct := Pv (i + 1), bk := D.nx } σ2 H2) (hd : ∀ σ H, Pv xs.length σ H → D.nx σ H) :
    ∃ W : Nat → Nat → St → Hp → Prop, (∃ m, W 0 m σ H) ∧ ∀ i m σ H, W i m σ H →
      ((Itl K a).stop i H ∧ D.nx σ H) ∨ ((Itl K a).go i H ∧ ∃ N : St → Hp → Prop, (∀ σ' H', N σ' H' → ∃ m', m' < m ∧ W (i + 1) m' σ' H') ∧ ∀ x H', (Itl K a).yld i H x H' → g x σ H' fun σ2 H2 => tb { D with nx := N, ct := N, bk := D.nx } σ2 H2) := by
  refine ⟨fun i m σ H => m = xs.length - i ∧ i ≤ xs.length ∧ Pv i σ H, ⟨xs.length, by simp, Nat.zero_le _, h0⟩, ?_⟩
  rintro i m σ H ⟨rfl, hi, p⟩
  have q := hl i σ H hi p
  by_cases hlt : i < xs.length
  · refine .inr ⟨⟨xs, xs[i], q, by simp [hlt]⟩, Pv (i + 1), fun σ' H' p' => ⟨xs.length - (i + 1), by omega, rfl, hlt, p'⟩, fun x H' y => ?_⟩
    obtain ⟨e, y⟩ := y
    subst e
    exact hs i x σ _ (y xs q) p
  · have e : i = xs.length := by omega
    subst e
    exact .inl ⟨⟨xs, q, Nat.le_refl _⟩, hd σ H p⟩
end L2
namespace L2
open PySem PySem.Spec PyProof.Rows
abbrev R2 := V → V → Hp → VK → Prop
/-- a two-place operation on values: f is binaryOp op, inplaceOp op or compareOp op -/
def OpR (X : Cx) (f : Value → Value → Sem Value) (r : R2) : Prop :=
  ∀ (pins : List (Addr × Obj)) (s : Shared) (σ : St) (H : Hp) (x y : V) (v u : Value) (Q : VK), Inv X pins σ H s → RelV x v → RelV y u → r x y H Q →
    wpAny (model X.prog X.w) X.A (f v u) (EP X pins σ Q) X.xe s
/-- a call of a value that is known (a builtin, a type) with values -/
def CallR (X : Cx) (f : Value) (r : List V → Hp → VK → Prop) : Prop :=
  ∀ (pins : List (Addr × Obj)) (s : Shared) (σ : St) (H : Hp) (xs : List V) (us : List Value) (Q : VK), Inv X pins σ H s → Vals xs us → r xs H Q →
    wpAny (model X.prog X.w) X.A (call f us) (EP X pins σ Q) X.xe s
def tOp (r : R2) (ta tb : TE) : TE := fun σ H Q => ta σ H fun x H1 => tb σ H1 fun y H2 => r x y H2 Q
def rI0 (g : Int → Int → V) : R2 := fun x y H Q => ∃ i j, x = .int i ∧ y = .int j ∧ Q (g i j) H
section
variable {X : Cx} {a b c : Expr} {ta tb tc : TE} {pos : Pos}
theorem binT (ha : PE X a ta) (hb : PE X b tb) {pins : List (Addr × Obj)} {s : Shared} {σ : St} {H : Hp} {R : V → V → Hp → Prop} (I : Inv X pins σ H s)
    (h : ta σ H fun x H1 => tb σ H1 fun y H2 => R x y H2) {Q : Value → Shared → Prop} {f : Value → Value → Sem Value}
    (hf : ∀ v u s2 x y H2, Inv X pins σ H2 s2 → RelV x v → RelV y u → R x y H2 → wpAny (model X.prog X.w) X.A (f v u) Q X.xe s2) :
    wpAny (model X.prog X.w) X.A (eval a X.env) (fun v s₁ => wpAny (model X.prog X.w) X.A (eval b X.env) (fun u s₂ => wpAny (model X.prog X.w) X.A (f v u) Q X.xe s₂) X.xe s₁) X.xe s := by
  refine thn (ha pins s σ H _ I h) fun v s1 ⟨x, H1, I1, r1, q1⟩ => ?_
  refine thn (hb pins s1 σ H1 _ I1 q1) fun u s2 ⟨y, H2, I2, r2, q2⟩ => ?_
  exact hf v u s2 x y H2 I2 r1 r2 q2
theorem pe_op {op : Operator} {r : R2} (ho : OpR X (binaryOp op) r) (ha : PE X a ta) (hb : PE X b tb) : PE X (.BinOp a op b pos) (tOp r ta tb) := by
  intro pins s σ H Q I h
  exact wpAny_BinOp (binT ha hb I h fun v u s2 x y H2 I2 rx ry q => ho pins s2 σ H2 x y v u Q I2 rx ry q)
/-! ### ints -/
theorem opI0 {f : Value → Value → Sem Value} {g : Int → Int → Int}
    (rule : ∀ (i j : Int) (t u : Tok) (s : Shared) (Q : Value → Shared → Prop) (E : Value → Shared → Prop), Q (.int (g i j) s.toks) { s with toks := s.toks + 1 } → wpAny (model X.prog X.w) X.A (f (.int i t) (.int j u)) Q E s) :
    OpR X f (rI0 fun i j => .int (g i j)) := by
  intro pins s σ H x y v u Q I rx ry h
  obtain ⟨i, j, rfl, rfl, q⟩ := h
  obtain ⟨t, rfl⟩ := rx
  obtain ⟨t', rfl⟩ := ry
  exact rule i j t t' s _ _ ⟨.int (g i j), H, I.tok _, ⟨_, rfl⟩, q⟩
theorem opB0 {f : Value → Value → Sem Value} {g : Int → Int → Bool}
    (rule : ∀ (i j : Int) (t u : Tok) (s : Shared) (Q : Value → Shared → Prop) (E : Value → Shared → Prop), Q (.bool (g i j)) s → wpAny (model X.prog X.w) X.A (f (.int i t) (.int j u)) Q E s) :
    OpR X f (rI0 fun i j => .bl (g i j)) := by
  intro pins s σ H x y v u Q I rx ry h
  obtain ⟨i, j, rfl, rfl, q⟩ := h
  obtain ⟨t, rfl⟩ := rx
  obtain ⟨t', rfl⟩ := ry
  exact rule i j t t' s _ _ ⟨.bl (g i j), H, I, rfl, q⟩
theorem op_add : OpR X (binaryOp .Add) (rI0 fun i j => .int (i + j)) := opI0 fun _ _ _ _ _ _ _ q => add_int q
theorem op_sub : OpR X (binaryOp .Sub) (rI0 fun i j => .int (i - j)) := opI0 fun _ _ _ _ _ _ _ q => sub_int q
/-! ### bools among ints: n += (a < b) -/
end
/-! ### comparisons -/
/-- the scalars that == tells apart as data does -/
def scal : V → V → Bool
  | .non, .non => true | .non, .int _ => true | .int _, .non => true | .non, .bl _ => true | .bl _, .non => true | .non, .str _ => true | .str _, .non => true
  | .int _, .int _ => true | .bl _, .bl _ => true | .str _, .str _ => true | .byt _, .byt _ => true
  | .int _, .str _ => true | .str _, .int _ => true | .bl _, .str _ => true | .str _, .bl _ => true
  | _, _ => false
def rEq : R2 := fun x y H Q => scal x y = true ∧ Q (.bl (decide (x = y))) H
def rNe : R2 := fun x y H Q => scal x y = true ∧ Q (.bl (!decide (x = y))) H
theorem dec_int {i j : Int} : decide (V.int i = V.int j) = (i == j) := by
  rw [Bool.eq_iff_iff]
  simp
theorem dec_bl {i j : Bool} : decide (V.bl i = V.bl j) = (i == j) := by
  rw [Bool.eq_iff_iff]
  simp
theorem dec_str {i j : Str} : decide (V.str i = V.str j) = (i == j) := by
  rw [Bool.eq_iff_iff]
  simp
theorem dec_byt {i j : Array UInt8} : decide (V.byt i = V.byt j) = (i.toList == j.toList) := by
  rw [Bool.eq_iff_iff]
  cases i
  cases j
  simp
section
variable {X : Cx} {a b c : Expr} {ta tb tc : TE} {pos : Pos}
theorem fin_bl {pins : List (Addr × Obj)} {σ : St} {H : Hp} {s : Shared} {Q : VK} {k k' : Bool} (I : Inv X pins σ H s) (q : Q (.bl k) H) (e : k = k') : EP X pins σ Q (.bool k') s := by
  subst e
  exact ⟨.bl k, H, I, rfl, q⟩
theorem op_eq : OpR X (compareOp .Eq) rEq := by
  intro pins s σ H x y v u Q I rx ry h
  obtain ⟨hs, q⟩ := h
  cases x with
  | non =>
    cases rx
    cases y with
    | non => cases ry; exact PySem.EqNone.eq_none_none (fin_bl I q (by simp))
    | bl j => cases ry; exact PySem.EqNone.eq_none_bool (fin_bl I q (by simp))
    | int j => obtain ⟨t', rfl⟩ := ry; exact PySem.EqNone.eq_none_int (fin_bl I q (by simp))
    | str j => obtain ⟨t', rfl⟩ := ry; exact PySem.EqNone.eq_none_str (fin_bl I q (by simp))
    | _ => exact absurd (show false = true from hs) Bool.false_ne_true
  | bl i =>
    cases rx
    cases y with
    | non => cases ry; exact PySem.EqNone.eq_bool_none (fin_bl I q (by simp))
    | bl j => cases ry; exact eq_bool (fin_bl I q dec_bl)
    | str j => obtain ⟨t', rfl⟩ := ry; exact PySem.EqMixed.eq_bool_str (fin_bl I q (by simp))
    | _ => exact absurd (show false = true from hs) Bool.false_ne_true
  | int i =>
    obtain ⟨t, rfl⟩ := rx
    cases y with
    | non => cases ry; exact PySem.EqNone.eq_int_none (fin_bl I q (by simp))
    | int j => obtain ⟨t', rfl⟩ := ry; exact eq_int (fin_bl I q dec_int)
    | str j => obtain ⟨t', rfl⟩ := ry; exact PySem.EqMixed.eq_int_str (fin_bl I q (by simp))
    | _ => exact absurd (show false = true from hs) Bool.false_ne_true
  | str i =>
    obtain ⟨t, rfl⟩ := rx
    cases y with
    | non => cases ry; exact PySem.EqNone.eq_str_none (fin_bl I q (by simp))
    | bl j => cases ry; exact PySem.EqMixed.eq_str_bool (fin_bl I q (by simp))
    | int j => obtain ⟨t', rfl⟩ := ry; exact PySem.EqMixed.eq_str_int (fin_bl I q (by simp))
    | str j => obtain ⟨t', rfl⟩ := ry; exact eq_str (fin_bl I q dec_str)
    | _ => exact absurd (show false = true from hs) Bool.false_ne_true
  | byt i =>
    obtain ⟨t, rfl⟩ := rx
    cases y with
    | byt j => obtain ⟨t', rfl⟩ := ry; exact PySem.W.eq_bytes (fin_bl I q dec_byt)
    | _ => exact absurd (show false = true from hs) Bool.false_ne_true
  | _ => cases y <;> exact absurd (show false = true from hs) Bool.false_ne_true
theorem op_ne : OpR X (compareOp .NotEq) rNe := by
  intro pins s σ H x y v u Q I rx ry h
  obtain ⟨hs, q⟩ := h
  cases x with
  | non =>
    cases rx
    cases y with
    | non => cases ry; exact PySem.EqNone.ne_none_none (fin_bl I q (by simp))
    | bl j => cases ry; exact PySem.EqNone.ne_none_bool (fin_bl I q (by simp))
    | int j => obtain ⟨t', rfl⟩ := ry; exact PySem.EqNone.ne_none_int (fin_bl I q (by simp))
    | str j => obtain ⟨t', rfl⟩ := ry; exact PySem.EqNone.ne_none_str (fin_bl I q (by simp))
    | _ => exact absurd (show false = true from hs) Bool.false_ne_true
  | bl i =>
    cases rx
    cases y with
    | non => cases ry; exact PySem.EqNone.ne_bool_none (fin_bl I q (by simp))
    | bl j => cases ry; exact ne_bool (fin_bl I q (congrArg not dec_bl))
    | str j => obtain ⟨t', rfl⟩ := ry; exact PySem.EqMixed.ne_bool_str (fin_bl I q (by simp))
    | _ => exact absurd (show false = true from hs) Bool.false_ne_true
  | int i =>
    obtain ⟨t, rfl⟩ := rx
    cases y with
    | non => cases ry; exact PySem.EqNone.ne_int_none (fin_bl I q (by simp))
    | int j => obtain ⟨t', rfl⟩ := ry; exact ne_int (fin_bl I q (congrArg not dec_int))
    | str j => obtain ⟨t', rfl⟩ := ry; exact PySem.EqMixed.ne_int_str (fin_bl I q (by simp))
    | _ => exact absurd (show false = true from hs) Bool.false_ne_true
  | str i =>
    obtain ⟨t, rfl⟩ := rx
    cases y with
    | non => cases ry; exact PySem.EqNone.ne_str_none (fin_bl I q (by simp))
    | bl j => cases ry; exact PySem.EqMixed.ne_str_bool (fin_bl I q (by simp))
    | int j => obtain ⟨t', rfl⟩ := ry; exact PySem.EqMixed.ne_str_int (fin_bl I q (by simp))
    | str j => obtain ⟨t', rfl⟩ := ry; exact ne_str (fin_bl I q (congrArg not dec_str))
    | _ => exact absurd (show false = true from hs) Bool.false_ne_true
  | byt i =>
    obtain ⟨t, rfl⟩ := rx
    cases y with
    | byt j => obtain ⟨t', rfl⟩ := ry; exact PySem.W.ne_bytes (fin_bl I q (congrArg not dec_byt))
    | _ => exact absurd (show false = true from hs) Bool.false_ne_true
  | _ => cases y <;> exact absurd (show false = true from hs) Bool.false_ne_true
theorem op_lt : OpR X (compareOp .Lt) (rI0 fun i j => .bl (decide (i < j))) := opB0 fun _ _ _ _ _ _ _ q => lt_int q
theorem op_gt : OpR X (compareOp .Gt) (rI0 fun i j => .bl (decide (j < i))) := opB0 fun _ _ _ _ _ _ _ q => gt_int q
theorem op_ge : OpR X (compareOp .GtE) (rI0 fun i j => .bl (decide (j ≤ i))) := opB0 fun _ _ _ _ _ _ _ q => ge_int q
/-- is None, is not None: the right side a value none -/
theorem op_isN : OpR X (compareOp .Is) (fun x y H Q => y = .non ∧ Q (.bl (decide (x = .non))) H) := by
  intro pins s σ H x y v u Q I rx ry h
  obtain ⟨rfl, q⟩ := h
  cases ry
  refine is_none_gen (fin_bl I q ?_)
  cases x <;> first
    | (cases rx; rfl)
    | (obtain ⟨t, rfl⟩ := rx; rfl)
theorem nomark (b : Expr) {op : CmpOp} (h : op ≠ .In := by decide) (h2 : op ≠ .NotIn := by decide) : behindInMarks op b = false := by
  have e1 : (op == CmpOp.In) = false := by cases op <;> first | rfl | exact absurd rfl h
  have e2 : (op == CmpOp.NotIn) = false := by cases op <;> first | rfl | exact absurd rfl h2
  cases b <;> simp [behindInMarks, e1, e2]
/-- a comparison as a value; hm: nomark b, or (for in, not in) by with_unfolding_all rfl -/
theorem pe_cmpR {op : CmpOp} {r : R2} (ho : OpR X (compareOp op) r) (ha : PE X a ta) (hb : PE X b tb) (hm : behindInMarks op b = false) : PE X (.Compare a [op] [b] pos) (tOp r ta tb) := by
  intro pins s σ H Q I h
  exact wpAny_Compare1 (binT ha hb I h fun v u s2 x y H2 I2 rx ry q => ho pins s2 σ H2 x y v u Q I2 rx ry q) hm
/-- a reading of a value as a test -/
def tTest (t : TE) : TT := fun σ H Q => t σ H fun x H' => ∃ k, x = .bl k ∧ Q k H'
theorem pt_cmpR {op : CmpOp} {r : R2} (ho : OpR X (compareOp op) r) (ha : PE X a ta) (hb : PE X b tb) (hm : behindInMarks op b = false) : PT X (.Compare a [op] [b] pos) (tTest (tOp r ta tb)) := by
  intro pins s σ H Q I h
  refine wpAny_isTrue_Compare1 (thn (ha pins s σ H _ I h) fun v s1 ⟨x, H1, I1, r1, q1⟩ => thn (hb pins s1 σ H1 _ I1 q1) fun u s2 ⟨y, H2, I2, r2, q2⟩ =>
    thn (ho pins s2 σ H2 x y v u _ I2 r1 r2 q2) fun c s3 ⟨z, H3, I3, r3, k, e, q3⟩ => ?_) hm
  subst e
  cases r3
  exact wpAny_truthy_bool ⟨H3, I3, q3⟩
/-! ### truth -/
theorem line63 : (sizeLine : Nat) < 2 ^ 63 := by rw [sizeLine_eq]; decide
/-! ### strs and bytes -/
/-! ### scalar builtins, by CallR -/
theorem vals1 {x : V} {us : List Value} (r : Vals [x] us) : ∃ u, us = [u] ∧ RelV x u := by
  cases r with
  | cons r1 r2 => cases r2; exact ⟨_, rfl, r1⟩
theorem call_int1 : CallR X (.type "int") (fun xs H Q => (∃ i, xs = [.int i] ∧ Q (.int i) H) ∨ ∃ k, xs = [.bl k] ∧ Q (.int (if k then 1 else 0)) H) := by
  intro pins s σ H xs us Q I r h
  rcases h with ⟨i, rfl, q⟩ | ⟨k, rfl, q⟩
  · obtain ⟨u, rfl, t, rfl⟩ := vals1 r
    exact call_int_int ⟨.int i, H, I, ⟨_, rfl⟩, q⟩
  · obtain ⟨u, rfl, r1⟩ := vals1 r
    cases r1
    exact call_int_bool ⟨.int (if k then 1 else 0), H, I.tok _, ⟨_, rfl⟩, q⟩
end
end L2
namespace L2
open PySem PySem.Spec PyProof.Rows
/-! ### an instance, its attributes a map -/
structure ObjM (h : Heap) (x dx C : Addr) (mA : Str → Option Value) : Prop where
  obj : h.get? x = some (PySem.W.instObj C dx)
  ns : h.Ns1 dx mA
  ne : dx ≠ x
theorem lookIn_ns {h : Heap} {dx : Addr} {mA : Str → Option Value} (n : h.Ns1 dx mA) : ∃ od, h.get? dx = some od ∧ ∀ name, PySem.W.lookIn name od = some (mA name) := by
  obtain ⟨o, es, ep, ho, hd, hk, _, hm⟩ := n
  refine ⟨o, ho, fun name => ?_⟩
  have e := hm name
  unfold nsFind findBy at e
  rw [← Array.find?_toList] at e
  unfold PySem.W.lookIn
  rw [hd]
  dsimp only
  split
  · rename_i y q
    rw [q] at e
    exact congrArg some e
  · rename_i q
    rw [q] at e
    have a : es.toList.any (·.refKey) = false := by
      rw [List.any_eq_false]
      intro y hy
      obtain ⟨z, t, hkey⟩ := hk y (Array.mem_toList_iff.mp hy)
      simp [DictEntry.refKey, hkey]
    have a' : ¬ es.toList.any (·.refKey) = true := by rw [a]; exact Bool.false_ne_true
    rw [if_neg a']
    exact congrArg some e
theorem ObjM.look {h : Heap} {x dx C : Addr} {mA : Str → Option Value} (I : ObjM h x dx C mA) : ∃ od, PySem.W.InstAt h x (PySem.W.instObj C dx) C (some od) ∧ ∀ name, PySem.W.lookIn name od = some (mA name) :=
  let ⟨od, ho, hl⟩ := lookIn_ns I.ns
  ⟨od, ⟨I.obj, rfl, rfl, ho⟩, hl⟩
section
variable {prog : Program} {w : World} {A : Around} {E : Value → Shared → Prop} {s : Shared} {K : PySem.W.Frag} {x dx C f : Addr} {mA : Str → Option Value} {name : Str} {v : Value}
theorem get_map {expr : Bool} {Q : Value → Shared → Prop} (X : K.In s.heap) (I : ObjM s.heap x dx C mA) (hg : PySem.W.plainGet K C name = true) (hh : PySem.W.hasDictIn K C = true)
    (ha : PySem.W.findIn K (.ref C) name = some none) (hv : mA name = some v) (hv' : PySem.W.handedIn v = true) (h : Q v { s with toks := s.toks + 1 }) :
    wpAny (model prog w) A (getAttr (.ref x) name expr) Q E s := by
  obtain ⟨od, J, hl⟩ := I.look
  exact PySem.W.get_value X J (PySem.W.plainGet_of hg).1 (PySem.W.findObj_own hh ha rfl (by rw [hl, hv])) hv' h
theorem get_meth {pl : Sem Bool} {Q : Value × List Value → Shared → Prop} (X : K.In s.heap) (I : ObjM s.heap x dx C mA) (hg : PySem.W.plainGet K C name = true)
    (hf : PySem.W.findIn K (.ref C) name = some (some (.ref f))) (ht : PySem.W.isFn K (.ref f) = true) (hv : mA name = none) (h : Q (.ref f, [.ref x]) s) :
    wpAny (model prog w) A (getMethod (.ref x) name pl) Q E s := by
  obtain ⟨od, J, hl⟩ := I.look
  exact PySem.W.method_fn X J (PySem.W.plainGet_of hg).1 (PySem.W.plainGet_of hg).2 hf (beq_iff_eq.mp ht) (by show (PySem.W.lookIn name od).map (·.isSome) = some false; rw [hl, hv]; rfl) h
theorem set_map {ns : List Str} {Q : Unit → Shared → Prop} (X : K.In s.heap) (I : ObjM s.heap x dx C mA)
    (hs : PySem.W.findIn K (.ref C) "__setattr__" = some (some (.builtin "object.__setattr__"))) (hp : PySem.W.plainOver K C = true) (ht : PySem.W.takerIn K C name = some none) (hh : PySem.W.hasDictIn K C = true)
    (hw : PySem.Within mA ns) (hsz : ns.length ≤ sizeLine)
    (h : ∀ h', ObjM h' x dx C (fun y => if y = name then some v else mA y) → Heap.SameBut dx s.heap h' → Q () { s with heap := h', toks := s.toks + 2 }) :
    wpAny (model prog w) A (setAttr (.ref x) name v) Q E s := by
  obtain ⟨od, J, hl⟩ := I.look
  refine PySem.W.set_plain X J hs (PySem.W.osa_open (s := { s with toks := s.toks + 1 }) (r := none) X J hp ht fun b => ?_)
  obtain ⟨cd, hc, hd'⟩ := PySem.W.any_some hh
  have hx : s.heap.get? x = some ⟨.ref C, some dx, .plain, #[]⟩ := I.obj
  refine wpAny_bind (wpAny_pure (wpAny_bind (wpAny_bind (wpAny_loadPart hx (wpAny_bind (PySem.W.Looks.here (s := { s with toks := s.toks + 1 }) (PySem.W.looks_clsIn X hc) ?_))))))
  rw [hd']
  refine wpAny_pure (a := some dx) (wpAny_bind (wpAny_pure (wpAny_bind ?_)))
  refine wpAny_nsSet1 (s := { s with toks := s.toks + 1 }) I.ns fun h' hn2 hs2 => ?_
  obtain ⟨oD, esD, epD, hoD, hdD, hcD⟩ := hn2.count (PySem.Within.cons name v hw)
  refine wpAny_bind (wpAny_lookBehind hoD (by rw [hdD]; exact pastItsLine_dict (Nat.le_trans hcD (by rw [List.length_cons]; omega))) ?_)
  exact wpAny_pure (h _ ⟨(hs2.2 _ (Ne.symm I.ne)).trans I.obj, hn2, I.ne⟩ hs2)
/-- C(..): the dict at the heap's end, the instance behind it; then its __init__ -/
theorem make_map {R : Result → Shared → Prop} {vs : List Value} {kw : List (Str × Value)} (X : K.In s.heap) (hm : PySem.W.makesIn K C = true)
    (hi : PySem.W.findIn K (.ref C) "__init__" = some (some (.ref f))) (hf : PySem.W.typeIn K (.ref f) = some (.type "function"))
    (h : codeAny (model prog w) (A.under (.builtin "type.__call__" ⟨.ref C :: vs, kw⟩)) (.call (.ref f) ⟨.ref (s.heap.objs.size + 1) :: vs, kw⟩) (PySem.W.InitBack (s.heap.objs.size + 1) R)
      { s with heap := (s.heap.push PySem.W.emptyDict).push (PySem.W.instObj C s.heap.objs.size) }) :
    codeAny (model prog w) A (.call (.ref C) ⟨vs, kw⟩) R s := by
  obtain ⟨hh, g, d, t, os⟩ := s
  exact PySem.W.make_core (PySem.W.makes_of X hm) (PySem.W.looks_findIn X hi) (fun self => PySem.W.bind_fn X self hf) (.inl rfl) h
end
/-! ### the attributes as a list of pairs -/
def putF (f : Str) (v : V) : List (Str × V) → List (Str × V)
  | [] => [(f, v)]
  | (g, x) :: r => if g = f then (g, v) :: r else (g, x) :: putF f v r
theorem lookup_putF (f g : Str) (v : V) : ∀ fs : List (Str × V), (putF f v fs).lookup g = if g = f then some v else fs.lookup g
  | [] => by
    show List.lookup g [(f, v)] = _
    by_cases h : g = f
    · have hb : (g == f) = true := beq_iff_eq.mpr h
      simp only [List.lookup, hb, if_pos h]
    · have hb : (g == f) = false := beq_eq_false_iff_ne.mpr h
      simp only [List.lookup, hb, if_neg h]
  | (k, x) :: r => by
    have ih := lookup_putF f g v r
    rw [show putF f v ((k, x) :: r) = (if k = f then (k, v) :: r else (k, x) :: putF f v r) from rfl]
    by_cases hk : k = f
    · rw [if_pos hk]
      by_cases h : g = k
      · have hb : (g == k) = true := beq_iff_eq.mpr h
        simp only [List.lookup, hb, if_pos (h.trans hk)]
      · have hb : (g == k) = false := beq_eq_false_iff_ne.mpr h
        simp only [List.lookup, hb, if_neg (fun e : g = f => h (e.trans hk.symm))]
    · rw [if_neg hk]
      by_cases h : g = k
      · have hb : (g == k) = true := beq_iff_eq.mpr h
        simp only [List.lookup, hb, if_neg (fun e : g = f => hk (h.symm.trans e))]
      · have hb : (g == k) = false := beq_eq_false_iff_ne.mpr h
        simp only [List.lookup, hb]
        exact ih
theorem keys_putF (f : Str) (v : V) : ∀ fs : List (Str × V), f ∈ (putF f v fs).map (·.1) ∧ ∀ g, g ∈ fs.map (·.1) → g ∈ (putF f v fs).map (·.1)
  | [] => ⟨by simp [putF], fun g h => by simp at h⟩
  | (k, x) :: r => by
    obtain ⟨i1, i2⟩ := keys_putF f v r
    rw [show putF f v ((k, x) :: r) = (if k = f then (k, v) :: r else (k, x) :: putF f v r) from rfl]
    by_cases hk : k = f
    · rw [if_pos hk]
      subst hk
      exact ⟨by simp, fun g h => by simpa using h⟩
    · rw [if_neg hk]
      refine ⟨?_, fun g h => ?_⟩
      · rw [List.map_cons]
        exact List.mem_cons_of_mem _ i1
      · rw [List.map_cons] at h ⊢
        rcases List.mem_cons.mp h with e | e
        · exact List.mem_cons.mpr (.inl e)
        · exact List.mem_cons_of_mem _ (i2 g e)
theorem length_putF (f : Str) (v : V) : ∀ fs : List (Str × V), (putF f v fs).length ≤ fs.length + 1
  | [] => by simp [putF]
  | (k, x) :: r => by
    have ih := length_putF f v r
    rw [show putF f v ((k, x) :: r) = (if k = f then (k, v) :: r else (k, x) :: putF f v r) from rfl]
    by_cases hk : k = f
    · rw [if_pos hk, List.length_cons, List.length_cons]; omega
    · rw [if_neg hk, List.length_cons, List.length_cons]; omega
theorem RelO.some_of {v : V} {o : Option Value} (r : RelO (some v) o) : ∃ u, o = some u ∧ RelV v u := by
  cases o with
  | none => exact (show False from r).elim
  | some u => exact ⟨u, rfl, r⟩
theorem RelO.none_of {o : Option Value} (r : RelO none o) : o = none := by
  cases o with
  | none => rfl
  | some u => exact (show False from r).elim
theorem handed_of {v : V} {u : Value} (r : RelV v u) : PySem.W.handedIn u = true := by
  cases v with
  | non => cases (show u = Value.none from r); rfl
  | bl b => cases (show u = Value.bool b from r); rfl
  | int i => obtain ⟨t, e⟩ := (show ∃ t, u = Value.int i t from r); cases e; rfl
  | str x => obtain ⟨t, e⟩ := (show ∃ t, u = Value.str x t from r); cases e; rfl
  | byt b => obtain ⟨t, e⟩ := (show ∃ t, u = Value.bytes b t from r); cases e; rfl
  | flt b => obtain ⟨t, e⟩ := (show ∃ t, u = Value.float b t from r); cases e; rfl
  | ref a => cases (show u = Value.ref a from r); rfl
  | ty n => cases (show u = Value.type n from r); rfl
section
variable {P : Program} {w : World} {H H' : Hp} {h h' : Heap} {a C dx : Addr} {fs fs' : List (Str × V)}
theorem ins_get (hok : HOk P w H h) (e : H a = some (.ins C dx fs)) : ∃ mA, ObjM h a dx C mA ∧ (∀ f, RelO (fs.lookup f) (mA f)) ∧ PySem.Within mA (fs.map (·.1)) ∧ fs.length ≤ 1000 ∧ H dx = some (.own a) := by
  obtain ⟨d, z, ne, ob, mA, n, r, q⟩ := (show ObjOk P w H h a (.ins C dx fs) from hok a _ e)
  exact ⟨mA, ⟨ob, n, ne⟩, r, q, z, d⟩
end
/-! ### what of the text a class must have -/
structure Cls (K : PySem.W.Frag) (C : Addr) : Prop where
  pg : PySem.W.plainGet K C Str.empty = true
  hd : PySem.W.hasDictIn K C = true
  po : PySem.W.plainOver K C = true
  sa : PySem.W.findIn K (.ref C) "__setattr__" = some (some (.builtin "object.__setattr__"))
theorem Cls.get {K : PySem.W.Frag} {C : Addr} (c : Cls K C) (f : Str) : PySem.W.plainGet K C f = true := c.pg
/-- no class of it has the name -/
def NoAttr (K : PySem.W.Frag) (C : Addr) (f : Str) : Prop := PySem.W.findIn K (.ref C) f = some none
theorem NoAttr.taker {K : PySem.W.Frag} {C : Addr} {f : Str} (n : NoAttr K C f) : PySem.W.takerIn K C f = some none := by
  unfold PySem.W.takerIn
  rw [show PySem.W.findIn K (.ref C) f = some none from n]
  rfl
/-- a constant of the class -/
structure Con (K : PySem.W.Frag) (C : Addr) (f : Str) (v : V) (u : Value) : Prop where
  at_ : PySem.W.findIn K (.ref C) f = some (some u)
  rel : RelV v u
  get : PySem.W.specialIn K u "__get__" = some none
  cp : PySem.W.copiedNames.contains f = false
/-- a method: a plain def of the class or of one above it -/
structure Meth (K : PySem.W.Frag) (C : Addr) (m : Str) (f : Addr) : Prop where
  at_ : PySem.W.findIn K (.ref C) m = some (some (.ref f))
  fn : PySem.W.isFn K (.ref f) = true
  kp : PySem.W.keepIn K (.ref f) = true
section
variable {X : Cx} {pins : List (Addr × Obj)} {σ : St} {H : Hp} {s : Shared} {a C dx : Addr} {fs : List (Str × V)} {f : Str} {v : V} {A : Around} {E : Value → Shared → Prop}
theorem getattr_ok {b : Bool} {Q : Value → Shared → Prop} (I : Inv X pins σ H s) (e : H a = some (.ins C dx fs)) (c : Cls X.K C) (n : NoAttr X.K C f) (l : fs.lookup f = some v)
    (h : ∀ u s', Inv X pins σ H s' → RelV v u → Q u s') : wpAny (model X.prog X.w) A (getAttr (.ref a) f b) Q E s := by
  obtain ⟨mA, O, r, _, _, _⟩ := ins_get I.hok e
  obtain ⟨u, hu, ru⟩ := RelO.some_of (v := v) (o := mA f) (by rw [← l]; exact r f)
  exact get_map I.kIn O (c.get f) c.hd n hu (handed_of ru) (h u _ (I.tok _) ru)
theorem getmeth_ok {m : Str} {g : Addr} {pl : Sem Bool} {Q : Value × List Value → Shared → Prop} (I : Inv X pins σ H s) (e : H a = some (.ins C dx fs)) (c : Cls X.K C) (k : Meth X.K C m g) (l : fs.lookup m = none)
    (h : Q (.ref g, [.ref a]) s) : wpAny (model X.prog X.w) A (getMethod (.ref a) m pl) Q E s := by
  obtain ⟨mA, O, r, _, _, _⟩ := ins_get I.hok e
  have hn : mA m = none := RelO.none_of (by rw [← l]; exact r m)
  exact get_meth I.kIn O (c.get m) k.at_ k.fn hn h
theorem setattr_ok {y : V} {u : Value} {Q : Unit → Shared → Prop} (I : Inv X pins σ H s) (e : H a = some (.ins C dx fs)) (c : Cls X.K C) (n : NoAttr X.K C f) (hl : fs.length < 1000) (ry : RelV y u)
    (h : ∀ s', Inv X pins σ (upd H a (.ins C dx (putF f y fs))) s' → Q () s') : wpAny (model X.prog X.w) A (setAttr (.ref a) f u) Q E s := by
  obtain ⟨mA, O, r, wi, _, ho⟩ := ins_get I.hok e
  have hz : (fs.map (·.1)).length ≤ sizeLine := by rw [List.length_map, sizeLine_eq]; omega
  refine set_map I.kIn O c.sa c.po n.taker c.hd wi hz fun h' O' sb => h _ ?_
  have hd : ∃ o, h'.get? dx = some o := let ⟨o, _, _, e', _⟩ := O'.ns; ⟨o, e'⟩
  refine I.write (x := a) (e := dx) (by rw [e]; exact True.intro) (.inr ho) (fun b q hb z => (sb.2 b hb).trans z) hd ?_
  refine ⟨by rw [upd_ne O.ne]; exact ho, ?_, O.ne, O'.obj, _, O'.ns, fun g => ?_, fun g hg => ?_⟩
  · have := length_putF f y fs; omega
  · show RelO ((putF f y fs).lookup g) (if g = f then some u else mA g)
    rw [lookup_putF]
    by_cases q : g = f
    · rw [if_pos q, if_pos q]; exact ry
    · rw [if_neg q, if_neg q]; exact r g
  · by_cases q : g = f
    · rw [q]; exact (keys_putF f y fs).1
    · refine (keys_putF f y fs).2 g (wi g fun z => hg ?_)
      show (if g = f then some u else mA g) = none
      rw [if_neg q]; exact z
/-- a new instance, tracked, without attributes -/
theorem Inv.made (I : Inv X pins σ H s) : Inv X pins σ (upd (upd H s.heap.objs.size (.own (s.heap.objs.size + 1))) (s.heap.objs.size + 1) (.ins C s.heap.objs.size []))
    { s with heap := (s.heap.push PySem.W.emptyDict).push (PySem.W.instObj C s.heap.objs.size) } := by
  have e1 : (s.heap.push PySem.W.emptyDict).get? s.heap.objs.size = some PySem.W.emptyDict := Heap.get?_push_size s.heap rfl
  have e2 : ((s.heap.push PySem.W.emptyDict).push (PySem.W.instObj C s.heap.objs.size)).get? (s.heap.objs.size + 1) = some (PySem.W.instObj C s.heap.objs.size) := by
    have := Heap.get?_push_size (s.heap.push PySem.W.emptyDict) (o := PySem.W.instObj C s.heap.objs.size) rfl
    rwa [Heap.size_push] at this
  have e3 : (s.heap.push PySem.W.emptyDict).Ns s.heap.objs.size (fun _ => none) := ⟨PySem.W.emptyDict, #[], _, e1, rfl, (fun e he => absurd he (by simp)), fun _ => rfl⟩
  have I1 := I.laid (a := s.heap.objs.size) (o := .own (s.heap.objs.size + 1)) (h' := s.heap.push PySem.W.emptyDict) (t' := s.toks) (fun b u q => Heap.get?_push_of_some _ q) (Nat.le_refl _) ⟨_, e1⟩
  refine I1.laid (a := s.heap.objs.size + 1) (o := .ins C s.heap.objs.size []) (t' := s.toks) (fun b u q => Heap.get?_push_of_some _ q) (Nat.le_of_eq (Heap.size_push _ _)) ?_
  have ne : s.heap.objs.size ≠ s.heap.objs.size + 1 := Nat.ne_of_lt (Nat.lt_succ_self _)
  refine ⟨by rw [upd_ne ne, upd_same], Nat.zero_le _, ne, e2, fun _ => none, (Heap.Ns1.of_empty e3).at fun o q => Heap.get?_push_of_some _ q, fun _ => True.intro, fun y hy => absurd rfl hy⟩
/-- e.f where nothing but the object is asked: through attributeBase (super) and the last hold -/
theorem attr_of {prog : Program} {w : World} {env : Env} {e : Expr} {f : Str} {pos : Pos} {s : Shared} {Q : Value → Shared → Prop} (hb : attributeBase e f env (eval e env) = eval e env)
    (h : wpAny (model prog w) A (eval e env) (fun o s₁ => wpAny (model prog w) A (getAttr o f true) Q E s₁) E s) : wpAny (model prog w) A (eval (.Attribute e f pos) env) Q E s :=
  Attribute_any_ h (by rw [arm_eval_Attribute, hb])
end
/-! ### readings and rules -/
/-- e.f, an attribute of the instance -/
def tFld (K : PySem.W.Frag) (ta : TE) (f : Str) : TE := fun σ H Q => ta σ H fun x H1 => ∃ a C dx fs v, x = .ref a ∧ H1 a = some (.ins C dx fs) ∧ Cls K C ∧ NoAttr K C f ∧ fs.lookup f = some v ∧ Q v H1
/-- e.f = value -/
def sFld (K : PySem.W.Frag) (ta tv : TE) (f : Str) : TS := fun D σ H => tv σ H fun y H1 => ta σ H1 fun x H2 => ∃ a C dx fs, x = .ref a ∧ H2 a = some (.ins C dx fs) ∧ Cls K C ∧ NoAttr K C f ∧ fs.length < 1000 ∧
  D.nx σ (upd H2 a (.ins C dx (putF f y fs)))
/-- an augmented operator on two values -/
def InOp (X : Cx) (op : Operator) (rd : V → V → Hp → VK → Prop) : Prop :=
  ∀ (pins : List (Addr × Obj)) (s : Shared) (σ : St) (H : Hp) (x y : V) (u v : Value) (Q : VK), Inv X pins σ H s → RelV x u → RelV y v → rd x y H Q → wpAny (model X.prog X.w) X.A (inplaceOp op u v) (EP X pins σ Q) X.xe s
/-- e.f op= value -/
def sFldAug (K : PySem.W.Frag) (ta tv : TE) (rd : V → V → Hp → VK → Prop) (f : Str) : TS := fun D σ H => ta σ H fun x H1 => ∃ a C dx fs v, x = .ref a ∧ H1 a = some (.ins C dx fs) ∧ Cls K C ∧ NoAttr K C f ∧ fs.lookup f = some v ∧
  tv σ H1 fun y H2 => rd v y H2 fun z H3 => ∃ dx' fs', H3 a = some (.ins C dx' fs') ∧ fs'.length < 1000 ∧ D.nx σ (upd H3 a (.ins C dx' (putF f z fs')))
section
variable {X : Cx} {o e value : Expr} {f : Str} {pos pos' tpos : Pos} {ta tv : TE}
theorem pe_fld (he : PE X e ta) (hb : attributeBase e f X.env (eval e X.env) = eval e X.env) : PE X (.Attribute e f pos) (tFld X.K ta f) := by
  intro pins s σ H Q I h
  refine attr_of hb (thn (he pins s σ H _ I h) fun u s1 ⟨x, H1, I1, rx, a, C, dx, fs, v, ex, ea, c, n, l, q⟩ => ?_)
  subst ex
  obtain rfl : u = Value.ref a := rx
  exact getattr_ok I1 ea c n l fun u' s2 I2 ru => ⟨v, H1, I2, ru, q⟩
theorem ps_fld (ha : PE X o ta) (hv : PE X value tv) (hs : swapsWith value (some (.Attribute o f pos')) pos.line X.env = pure false) : PS X (.Assign [.Attribute o f pos'] value pos) (sFld X.K ta tv f) := by
  intro pins s σ H D I h
  refine plainObj_wpAny_Assign_Attribute (thn (hv pins s σ H _ I h) fun u s1 ⟨y, H1, I1, ry, q⟩ => thn (ha pins s1 σ H1 _ I1 q) fun ov s2 ⟨x, H2, I2, rx, a, C, dx, fs, ex, ea, c, n, l, q2⟩ => ?_) hs
  subst ex
  obtain rfl : ov = Value.ref a := rx
  exact setattr_ok I2 ea c n l ry fun s3 I3 => ⟨σ, _, I3, q2⟩
theorem ps_fldaug {op : Operator} {rd : V → V → Hp → VK → Prop} (ha : PE X o ta) (hv : PE X value tv) (hop : InOp X op rd) : PS X (.AugAssign (.Attribute o f tpos) op value pos) (sFldAug X.K ta tv rd f) := by
  intro pins s σ H D I h
  refine wpAny_AugAssign_AttributeAny (thn (ha pins s σ H _ I h) fun ov s1 ⟨x, H1, I1, rx, a, C, dx, fs, v, ex, ea, c, n, l, q⟩ => ?_)
  subst ex
  obtain rfl : ov = Value.ref a := rx
  refine getattr_ok I1 ea c n l fun u s2 I2 ru => thn (hv pins s2 σ H1 _ I2 q) fun w3 s3 ⟨y, H2, I3, ry, q3⟩ => thn (hop pins s3 σ H2 v y u w3 _ I3 ru ry q3) fun w4 s4 ⟨z, H3, I4, rz, dx', fs', ea', l', q4⟩ => ?_
  exact setattr_ok I4 ea' c n l' rz fun s5 I5 => ⟨σ, _, I5, q4⟩
def rAdd : V → V → Hp → VK → Prop := fun x y H Q => ∃ i j, x = .int i ∧ y = .int j ∧ Q (.int (i + j)) H
theorem in_add : InOp X .Add rAdd := by
  rintro pins s σ H x y u v Q I rx ry ⟨i, j, rfl, rfl, q⟩
  obtain ⟨t, rfl⟩ := (show ∃ t, u = Value.int i t from rx)
  obtain ⟨t', rfl⟩ := (show ∃ t', v = Value.int j t' from ry)
  exact PyProof.Rows.iadd_int ⟨.int (i + j), H, I.tok _, ⟨_, rfl⟩, q⟩
end
/-! ### isinstance -/
section
variable {X : Cx} {pins : List (Addr × Obj)} {σ : St} {H : Hp} {s : Shared} {A : Around} {E : Value → Shared → Prop} {Q : Value → Shared → Prop} {c : Value} {b : Bool}
/-- the type of a value, as the fragment's deciders take it; for an instance its class -/
inductive TyOf (K : PySem.W.Frag) (H : Hp) : V → Value → Prop where
  | non : TyOf K H .non (.type "NoneType")
  | bl (x : Bool) : TyOf K H (.bl x) (.type "bool")
  | int (i : Int) : TyOf K H (.int i) (.type "int")
  | str (x : Str) : TyOf K H (.str x) (.type "str")
  | flt (x : UInt64) : TyOf K H (.flt x) (.type "float")
  | lst {a : Addr} {xs : List V} (e : H a = some (.lst xs)) : TyOf K H (.ref a) (.type "list")
  | frz {a : Addr} {o : Obj} {xs : List V} (e : H a = some (.frz o (.lst xs))) : TyOf K H (.ref a) (.type "list")
  | tup {a : Addr} {xs : List V} (e : H a = some (.tup xs)) : TyOf K H (.ref a) (.type "tuple")
  | dK {a : Addr} {kvs : List (Key × V)} (e : H a = some (.dK kvs)) : TyOf K H (.ref a) (.type "dict")
  | dT {a : Addr} {kvs : List (List Key × V)} (e : H a = some (.dT kvs)) : TyOf K H (.ref a) (.type "dict")
  | ins {a C dx : Addr} {fs : List (Str × V)} (e : H a = some (.ins C dx fs)) (cl : Cls K C) (ha : PySem.W.findIn K (.ref C) "__class__" = some (some (.builtin "object.__class__")))
      (hn : PySem.W.specialIn K (.builtin "object.__class__") "__get__" = some (some (.builtin "getset_descriptor.__get__"))) (htk : PySem.W.takesIn K (.builtin "object.__class__") = some true)
      (hm : PySem.W.mroIn K C (.type "object") = some true) : TyOf K H (.ref a) (.ref C)
end
end L2
namespace L2
open PySem PySem.Spec PyProof.Rows
/-! ### room -/
structure Room (k : Nat) (A : Around) : Prop where
  hd : A.handled = none
  dp : A.depth + 3 * k + 5 < recursionLimit
  un : A.units + 16 * k + 200 < cLine
theorem Room.mono {j k : Nat} {A : Around} (r : Room k A) (h : j ≤ k) : Room j A := ⟨r.hd, by have := r.dp; omega, by have := r.un; omega⟩
theorem Room.deeper {k : Nat} {A : Around} (r : Room (k + 1) A) (env : Env) : Room k (A.deeper env) :=
  ⟨r.hd, by have := r.dp; show A.depth + 1 + 3 * k + 5 < _; omega, by have := r.un; show A.units + 3 + 16 * k + 200 < _; omega⟩
theorem make_depth {A : Around} {C : Addr} {us : List Value} {kw : List (Str × Value)} : (A.under (.builtin "type.__call__" ⟨.ref C :: us, kw⟩)).depth = A.depth + 1 := by
  first | rfl | simp [Around.under, Code.weight, Code.isCreation, Code.isGuard, Code.isCaller, Code.frames, Code.isFrame, guardIds]
theorem make_units {A : Around} {C : Addr} {us : List Value} {kw : List (Str × Value)} : (A.under (.builtin "type.__call__" ⟨.ref C :: us, kw⟩)).units = A.units + 1 := by
  first | rfl | simp [Around.under, Code.cUnits, Code.frames, Code.isFrame]
theorem Room.make {k : Nat} {A : Around} (r : Room (k + 1) A) (C : Addr) (us : List Value) (kw : List (Str × Value)) : Room k (A.under (.builtin "type.__call__" ⟨.ref C :: us, kw⟩)) :=
  ⟨r.hd, by have := r.dp; rw [make_depth]; omega, by have := r.un; rw [make_units]; omega⟩
theorem Room.depth {k : Nat} {A : Around} (r : Room k A) : A.depth < recursionLimit := by have := r.dp; omega
theorem Room.units {k : Nat} {A : Around} (r : Room k A) : A.units + 64 < cLine := by have := r.un; omega
/-! ### argument lists and displays -/
def tNil : TA := fun _ H Q => Q [] H
def tCons (ta : TE) (tr : TA) : TA := fun σ H Q => ta σ H fun x H1 => tr σ H1 fun xs H2 => Q (x :: xs) H2
section
variable {X : Cx} {e : Expr} {es : List Expr} {te : TE} {t : TA} {pos : Pos}
theorem pa_nil : PA X [] tNil := fun _ _ _ _ H Q I h => Calls.spliced_nil ⟨[], H, I, .nil, h⟩
theorem pa_cons (ha : PE X e te) (hr : PA X es t) (hs : starEach (e :: es) X.env = (false, eval e X.env) :: starEach es X.env := by rfl) : PA X (e :: es) (tCons te t) := by
  intro pos pins s σ H Q I h
  rw [hs]
  show wpAny _ _ (spliced ((false, eval e X.env) :: backTo pos (starEach es X.env))) _ _ s
  refine Calls.spliced_cons (thn (ha pins s σ H _ I h) fun u s1 ⟨x, H1, I1, r1, q1⟩ => ?_)
  exact thn (hr pos pins s1 σ H1 _ I1 q1) fun us s2 ⟨xs, H2, I2, r2, q2⟩ => ⟨x :: xs, H2, I2, .cons r1 r2, q2⟩
/-- a tuple, a list of written items -/
def tTup (t : TA) : TE := fun σ H Q => t σ H fun xs H1 => xs.length ≤ sizeLine ∧ ∀ p, H1 p = none → Q (.ref p) (upd H1 p (.tup xs))
def tLst (t : TA) : TE := fun σ H Q => t σ H fun xs H1 => xs.length ≤ sizeLine ∧ ∀ p, H1 p = none → Q (.ref p) (upd H1 p (.lst xs))
theorem pe_tup {x1} (h : PA X es t) : PE X (.Tuple es x1 pos) (tTup t) := by
  intro pins s σ H Q I hq
  refine wpAny_Tuple_spliced (thn (h pos pins s σ H _ I hq) fun us s1 ⟨xs, H1, I1, r, z, q⟩ => ⟨by rw [← r.length]; exact z, ?_⟩)
  have hf : H1 s1.heap.objs.size = none := I1.hok.fresh (Nat.le_refl _)
  refine ⟨.ref s1.heap.objs.size, upd H1 s1.heap.objs.size (.tup xs), I1.laid (t' := s1.toks) (fun b u e => Heap.get?_push_of_some _ e) (Nat.le_refl _) ?_, rfl, q _ hf⟩
  exact ⟨z, us, r, ⟨_, Heap.get?_push_size _ rfl, rfl, _, rfl⟩⟩
theorem pe_lst (h : PA X es t) : PE X (.List es pos) (tLst t) := by
  intro pins s σ H Q I hq
  refine wpAny_List_spliced (thn (h pos pins s σ H _ I hq) fun us s1 ⟨xs, H1, I1, r, z, q⟩ => ⟨by rw [← r.length]; exact z, ?_⟩)
  have hf : H1 s1.heap.objs.size = none := I1.hok.fresh (Nat.le_refl _)
  refine ⟨.ref s1.heap.objs.size, upd H1 s1.heap.objs.size (.lst xs), I1.laid (t' := s1.toks) (fun b u e => Heap.get?_push_of_some _ e) (Nat.le_refl _) ?_, rfl, q _ hf⟩
  exact ⟨z, us, 0, r, Heap.get?_push_size _ rfl⟩
end
/-! ### what a def promises -/
/-- a def's promise: the bound arguments in the parameters' order, the heap, the wanted end, the wanted exception -/
abbrev Sp := List V → Hp → VK → XK → Prop
/-- how an exception lies behind a call (file 08 gives it): the callers' frames, abstract heap and state ahead of the call, the wish, the exception, the state -/
abbrev CXT := List Env → Hp → Shared → XK → Value → Shared → Prop
/-- the state at a call -/
structure Env0 (P : Program) (w : World) (K : PySem.W.Frag) (mg : Str → Option Value) (base : Heap) (A : Around) (outer : List Env) (s : Shared) (H : Hp) : Prop where
  frames : A.frames = some outer
  mod : Mod K mg base
  bs : ∀ b o, base.get? b = some o → s.heap.get? b = some o ∧ H b = none
  bsz : base.objs.size ≤ s.heap.objs.size
  funs : s.heap.FunFrames base outer
  frf : ∀ b ∈ frs outer, H b = none
  hok : HOk P w H s.heap
  bare : AllBare s.gens
/-- a call's end -/
def CE (outer : List Env) (P : Program) (w : World) (H : Hp) (s : Shared) (Q : VK) (u : Value) (s' : Shared) : Prop :=
  ∃ v H', s'.os = s.os ∧ AllBare s'.gens ∧ Un (frs outer) [] H H' s.heap s'.heap ∧ HOk P w H' s'.heap ∧ RelV v u ∧ Q v H'
def CR (CX : CXT) (outer : List Env) (P : Program) (w : World) (H : Hp) (s : Shared) (Q : VK) (E : XK) (r : Result) (s' : Shared) : Prop :=
  match r with
  | .ok (.ret u) => CE outer P w H s Q u s'
  | .ok _ => False
  | .error e => CX outer H s E e s'
structure FnOk (P : Program) (w : World) (K : PySem.W.Frag) (mg : Str → Option Value) (base : Heap) (CX : CXT) (k : Nat) (f : Addr) (fd : FuncData) (ps : List Str) (sp : Sp) : Prop where
  len : ∀ vs H Q E, sp vs H Q E → vs.length = ps.length
  run : ∀ (A : Around) (outer : List Env) (s : Shared) (H : Hp) (args : Args) (us : List Value) (vs : List V) (Q : VK) (E : XK), Room k A → Env0 P w K mg base A outer s H → BindsTo s fd args (ps.zip us) → Vals vs us → sp vs H Q E →
    codeAny (model P w) A (.call (.ref f) args) (CR CX outer P w H s Q E) s
theorem Env0.make {P : Program} {w : World} {K : PySem.W.Frag} {mg : Str → Option Value} {base : Heap} {A : Around} {outer : List Env} {s : Shared} {H : Hp} (e : Env0 P w K mg base A outer s H) (C : Addr) (us : List Value) (kw : List (Str × Value)) :
    Env0 P w K mg base (A.under (.builtin "type.__call__" ⟨.ref C :: us, kw⟩)) outer s H := ⟨by first | exact e.frames | (simpa [Around.under, Code.envs, Code.isFrame, pushEnvs] using e.frames), e.mod, e.bs, e.bsz, e.funs, e.frf, e.hok, e.bare⟩
section
variable {X : Cx} {pins : List (Addr × Obj)} {σ : St} {H : Hp} {s s' : Shared}
/-- from a body: what a callee wants -/
theorem Inv.env0 (I : Inv X pins σ H s) : Env0 X.prog X.w X.K X.mg X.base X.A X.stack s H :=
  ⟨I.ok.frames, I.ok.mod, I.bs, Nat.le_trans I.ok.bsz I.sz, I.stack, I.stkFree, I.hok, I.bare⟩
/-- behind a call -/
theorem Inv.after {Q : VK} {u : Value} (I : Inv X pins σ H s) (h : CE X.stack X.prog X.w H s Q u s') : EP X pins σ Q u s' := by
  obtain ⟨v, H', os, bare, un, hok, r, q⟩ := h
  obtain ⟨hh, g, d, t, os'⟩ := s'
  obtain rfl : os' = s.os := os
  exact ⟨v, H', I.call (h' := hh) (g' := g) (d' := d) (t' := t) (ch := []) un hok bare (fun b z => absurd z (by simp)), r, q⟩
end
/-! ### calls -/
/-- f(..): the written arguments, then the defaults dvs; E: what is wanted of an exception -/
def tCall (sp : Sp) (dvs : List V) (E : XK) (t : TA) : TE := fun σ H Q => t σ H fun vs H1 => sp (vs ++ dvs) H1 Q E
/-- o.m(..) of an instance of the class at C -/
def tMeth (C : Addr) (m : Str) (sp : Sp) (dvs : List V) (E : XK) (ta : TE) (t : TA) : TE := fun σ H Q => ta σ H fun x H1 => ∃ a dx fs, x = .ref a ∧ H1 a = some (.ins C dx fs) ∧ fs.lookup m = none ∧
  t σ H1 fun vs H2 => sp (x :: (vs ++ dvs)) H2 Q E
/-- C(..): a new instance and its dict, then __init__ -/
def tMake (C : Addr) (sp : Sp) (dvs : List V) (E : XK) (t : TA) : TE := fun σ H Q => t σ H fun vs H1 => ∀ x dx, H1 x = none → H1 dx = none → dx ≠ x →
  sp (.ref x :: (vs ++ dvs)) (upd (upd H1 dx (.own x)) x (.ins C dx [])) (fun v H2 => v = .non ∧ Q (.ref x) H2) E
/-- how the parameters are bound: us the positional arguments, kw the keywords' values by name, ds the defaults that fill up -/
def Binds (K : PySem.W.Frag) (fd : FuncData) (ps : List Str) (ds : List Value) : Prop :=
  ∀ (s : Shared) (us : List Value), K.In s.heap → (us ++ ds).length = ps.length → BindsTo s fd ⟨us, []⟩ (ps.zip (us ++ ds))
/-- every parameter is given -/
theorem Binds.all {K : PySem.W.Frag} {fd : FuncData} {ps : List Str} (h : ∀ us : List Value, us.length = ps.length → bindArgs fd ⟨us, []⟩ = pure (ps.zip us)) : Binds K fd ps [] := fun s us _ hl => by
  rw [List.append_nil] at hl ⊢
  exact .of_eq (h us hl)
/-- an exception of a callee reaches what this body wants of exceptions -/
def Passes (CX : CXT) (X : Cx) (E : XK) : Prop := ∀ (pins : List (Addr × Obj)) (σ : St) (H : Hp) (s : Shared) (e : Value) (s' : Shared), Inv X pins σ H s → CX X.stack H s E e s' → X.xe e s'
section
variable {X : Cx} {CX : CXT} {k : Nat} {f C : Addr} {fd : FuncData} {ps : List Str} {sp : Sp} {dvs : List V} {ds : List Value} {E : XK} {x m : Str} {p pos apos : Pos} {e o : Expr} {es : List Expr} {ta : TE} {t : TA}
/-- the callee runs -/
theorem run_fn {pins : List (Addr × Obj)} {σ : St} {H : Hp} {s : Shared} {Q : VK} {us : List Value} {vs : List V} (F : FnOk X.prog X.w X.K X.mg X.base CX k f fd ps sp) (hr : Room k X.A) (hb : Binds X.K fd ps ds) (hd : Vals dvs ds) (hx : Passes CX X E)
    (I : Inv X pins σ H s) (r : Vals vs us) (h : sp (vs ++ dvs) H Q E) : wpAny (model X.prog X.w) X.A (call (.ref f) us) (EP X pins σ Q) X.xe s := by
  have r2 : Vals (vs ++ dvs) (us ++ ds) := r.append hd
  have hl : (us ++ ds).length = ps.length := by rw [← r2.length]; exact F.len _ _ _ _ h
  refine wpAny_call (codeAny_mono (F.run X.A X.stack s H ⟨us, []⟩ (us ++ ds) (vs ++ dvs) Q E hr I.env0 (hb s us I.kIn hl) r2 h) fun r s' hq => ?_)
  cases r with
  | error e => exact hx pins σ H s e s' I hq
  | ok fl =>
    cases fl with
    | ret u => exact I.after hq
    | next => exact False.elim hq
    | brk => exact False.elim hq
    | cont => exact False.elim hq
theorem pe_call (F : FnOk X.prog X.w X.K X.mg X.base CX k f fd ps sp) (hr : Room k X.A) (hg : Gl X x) (hm : X.mg x = some (.ref f)) (hk : PySem.W.keepIn X.K (.ref f) = true) (hb : Binds X.K fd ps ds) (hd : Vals dvs ds) (hx : Passes CX X E)
    (ha : PA X (e :: es) t) (hdb : (x == ("__debug__" : Str)) = false := by decide) (he : starEach (e :: es) X.env = (false, eval e X.env) :: starEach es X.env := by rfl) (hpl : (backTo pos (starEach es X.env)).any (·.1) = false := by rfl) :
    PE X (.Call (.Name x p) (e :: es) [] pos) (tCall sp dvs E t) := by
  intro pins s σ H Q I h
  refine wpAny_Call_Name_kw (ld_glob I hg hm ?_ hdb)
  refine PySem.W.callWith_K (h₀ := X.base) I.ok.mod.kin hk (thn (ha pos pins s σ H _ I h) fun us s1 ⟨vs, H1, I1, r, q⟩ => ⟨I1.kIn, ?_⟩) he hpl
  exact run_fn F hr hb hd hx I1 r q
/-- o.m(e, ..) -/
theorem pe_meth {pl : Sem Bool} (he : PE X o ta) (c : Cls X.K C) (hm : Meth X.K C m f) (F : FnOk X.prog X.w X.K X.mg X.base CX k f fd ps sp) (hr : Room k X.A) (hb : Binds X.K fd ps ds) (hd : Vals dvs ds) (hx : Passes CX X E) (ha : PA X (e :: es) t)
    (hst : starEach (e :: es) X.env = (false, eval e X.env) :: starEach es X.env := by rfl) (hpl : (backTo pos (starEach es X.env)).any (·.1) = false := by rfl)
    (ht : eval (.Call (.Attribute o m apos) (e :: es) [] pos) X.env = (do
      let ov ← eval o X.env
      standAt apos.atName
      let (f, first) ← holding [ov] (getMethod ov m pl)
      callWith pos f first (backTo pos (starEach (e :: es) X.env)) (backToKw pos (keywordEach [] X.env))) := by rfl) :
    PE X (.Call (.Attribute o m apos) (e :: es) [] pos) (tMeth C m sp dvs E ta t) := by
  intro pins s σ H Q I h
  refine PySem.W.methodCall_KW (pl := pl) (thn (he pins s σ H _ I h) fun u s1 ⟨x, H1, I1, rx, a, dx, fs, ex, ea, l, q⟩ => ?_) ht
  subst ex
  obtain rfl : u = Value.ref a := rx
  refine getmeth_ok I1 ea c hm l ?_
  refine PySem.W.callWith_K (first := [.ref a]) (h₀ := X.base) I.ok.mod.kin hm.kp (thn (ha pos pins s1 σ H1 _ I1 q) fun us s2 ⟨vs, H2, I2, r, q2⟩ => ⟨I2.kIn, ?_⟩) hst hpl
  exact run_fn (us := .ref a :: us) (vs := .ref a :: vs) F hr hb hd hx I2 (.cons rfl r) q2
/-- o.m() -/
theorem pe_meth0 {pl : Sem Bool} (he : PE X o ta) (c : Cls X.K C) (hm : Meth X.K C m f) (F : FnOk X.prog X.w X.K X.mg X.base CX k f fd ps sp) (hr : Room k X.A) (hb : Binds X.K fd ps ds) (hd : Vals dvs ds) (hx : Passes CX X E)
    (ht : eval (.Call (.Attribute o m apos) [] [] pos) X.env = (do
      let ov ← eval o X.env
      standAt apos.atName
      let (f, first) ← holding [ov] (getMethod ov m pl)
      callWith pos f first (backTo pos (starEach [] X.env)) (backToKw pos (keywordEach [] X.env))) := by rfl) :
    PE X (.Call (.Attribute o m apos) [] [] pos) (tMeth C m sp dvs E ta tNil) := by
  intro pins s σ H Q I h
  refine PySem.W.methodCall_KW (pl := pl) (thn (he pins s σ H _ I h) fun u s1 ⟨x, H1, I1, rx, a, dx, fs, ex, ea, l, q⟩ => ?_) ht
  subst ex
  obtain rfl : u = Value.ref a := rx
  refine getmeth_ok I1 ea c hm l ?_
  exact PySem.W.callWith_K0 (first := [.ref a]) I1.kIn hm.kp (run_fn (us := [.ref a]) (vs := [.ref a]) F hr hb hd hx I1 (.cons rfl .nil) q)
/-- what a class must have to be made -/
structure Mk (K : PySem.W.Frag) (C f : Addr) : Prop where
  makes : PySem.W.makesIn K C = true
  init : PySem.W.findIn K (.ref C) "__init__" = some (some (.ref f))
  fn : PySem.W.isFn K (.ref f) = true
  kp : PySem.W.keepIn K (.ref C) = true
theorem run_make {pins : List (Addr × Obj)} {σ : St} {H : Hp} {s : Shared} {Q : VK} {us : List Value} {vs : List V} (M : Mk X.K C f) (F : FnOk X.prog X.w X.K X.mg X.base CX k f fd ps sp) (hr : Room (k + 1) X.A) (hb : Binds X.K fd ps ds) (hd : Vals dvs ds)
    (hx : Passes CX X E) (I : Inv X pins σ H s) (r : Vals vs us)
    (h : ∀ x dx, H x = none → H dx = none → dx ≠ x → sp (.ref x :: (vs ++ dvs)) (upd (upd H dx (.own x)) x (.ins C dx [])) (fun v H2 => v = .non ∧ Q (.ref x) H2) E) :
    wpAny (model X.prog X.w) X.A (call (.ref C) us) (EP X pins σ Q) X.xe s := by
  have hq := h (s.heap.objs.size + 1) s.heap.objs.size (I.hok.fresh (Nat.le_succ _)) (I.hok.fresh (Nat.le_refl _)) (Nat.ne_of_lt (Nat.lt_succ_self _))
  have I2 := Inv.made (C := C) I
  have r2 : Vals (V.ref (s.heap.objs.size + 1) :: (vs ++ dvs)) (Value.ref (s.heap.objs.size + 1) :: (us ++ ds)) := .cons rfl (r.append hd)
  have hl : (Value.ref (s.heap.objs.size + 1) :: us ++ ds).length = ps.length := by
    have e := r2.length
    rw [F.len _ _ _ _ hq] at e
    exact e.symm
  refine wpAny_call (make_map (f := f) I.kIn M.makes M.init (beq_iff_eq.mp M.fn) (codeAny_mono (F.run _ X.stack _ _ ⟨Value.ref (s.heap.objs.size + 1) :: us, []⟩ (Value.ref (s.heap.objs.size + 1) :: (us ++ ds)) _ _ E (hr.make C us [])
    (I2.env0.make C us []) (hb _ (Value.ref (s.heap.objs.size + 1) :: us) I2.kIn hl) r2 hq) fun r s' hq' => ?_))
  cases r with
  | error e => exact hx pins σ _ _ e s' I2 hq'
  | ok fl =>
    cases fl with
    | ret u =>
      obtain ⟨v, H', I3, rv, ev, q3⟩ := I2.after hq'
      subst ev
      exact ⟨rv, ⟨V.ref (s.heap.objs.size + 1), H', I3, rfl, q3⟩⟩
    | next => exact False.elim hq'
    | brk => exact False.elim hq'
    | cont => exact False.elim hq'
theorem pe_make0 (M : Mk X.K C f) (F : FnOk X.prog X.w X.K X.mg X.base CX k f fd ps sp) (hr : Room (k + 1) X.A) (hg : Gl X x) (hm : X.mg x = some (.ref C)) (hb : Binds X.K fd ps ds) (hd : Vals dvs ds) (hx : Passes CX X E)
    (hdb : (x == ("__debug__" : Str)) = false := by decide) : PE X (.Call (.Name x p) [] [] pos) (tMake C sp dvs E tNil) := by
  intro pins s σ H Q I h
  refine wpAny_Call_Name_kw (ld_glob I hg hm ?_ hdb)
  exact PySem.W.callWith_K0 I.kIn M.kp (run_make (us := []) M F hr hb hd hx I .nil h)
end
/-! ### keywords -/
section
variable {X : Cx} {CX : CXT} {k : Nat} {f C : Addr} {fd : FuncData} {ps ks : List Str} {sp : Sp} {E : XK} {x m : Str} {p pos apos kpos : Pos} {e o : Expr} {es : List Expr} {kws : List Keyword} {te ta : TE} {t tk : TA} {nm : Option Str}
/-- how a call with keywords binds: g puts the positional values us and the keywords' values ws (names ks) in the parameters' order, defaults among them -/
structure KBinds (K : PySem.W.Frag) (fd : FuncData) (ps ks : List Str) (g : List Value → List Value → List Value) (gV : List V → List V → List V) : Prop where
  to : ∀ (s : Shared) (us ws : List Value), K.In s.heap → (g us ws).length = ps.length → BindsTo s fd ⟨us, ks.zip ws⟩ (ps.zip (g us ws))
  rel : ∀ {vs : List V} {us : List Value} {zs : List V} {ws : List Value}, Vals vs us → Vals zs ws → Vals (gV vs zs) (g us ws)
variable {g : List Value → List Value → List Value} {gV : List V → List V → List V}
end
/-! ### a def's body keeps its promise -/
/-- names: the parameters first -/
structure FnScope (N P : List Str) (sc : Scope) : Prop where
  kind : sc.kind = .function
  co : sc.isCoroutine = false
  gen : sc.isGenerator = false
  nd : N.Nodup
  pre : N.take P.length = P
  par : ∀ x ∈ P, sc.names.lookup x = some .local ∨ sc.names.lookup x = some .cell
  nofree : ∀ y ∈ sc.names, y.2 ≠ .free
theorem bindL_out {kindOf : Str → Option NameKind} {x : Str} : ∀ {binds : List (Str × Value)} {m : Str → Option Value}, (∀ v, (x, v) ∉ binds) → bindL kindOf binds m x = m x
  | [], _, _ => rfl
  | (n, v) :: r, m, h => by
    unfold bindL
    rw [bindL_out fun w hw => h w (List.mem_cons_of_mem _ hw)]
    split
    · have : x ≠ n := by rintro rfl; exact h v List.mem_cons_self
      simp [this]
    · rfl
theorem bindC_out {kindOf : Str → Option NameKind} {x : Str} : ∀ {binds : List (Str × Value)} {m : Str → Option Value}, (∀ v, (x, v) ∉ binds) → bindC kindOf binds m x = m x
  | [], _, _ => rfl
  | (n, v) :: r, m, h => by
    unfold bindC
    rw [bindC_out fun w hw => h w (List.mem_cons_of_mem _ hw)]
    split
    · rfl
    · have : x ≠ n := by rintro rfl; exact h v List.mem_cons_self
      simp [this]
theorem bindL_get {kindOf : Str → Option NameKind} {x : Str} {v : Value} : ∀ {P : List Str} {vs : List Value} {i : Nat} {m : Str → Option Value}, P.Nodup → P[i]? = some x → vs[i]? = some v → kindOf x = some .local →
    bindL kindOf (P.zip vs) m x = some v
  | [], _, _, _, _, h, _, _ => by simp at h
  | _ :: _, [], _, _, _, _, h, _ => by simp at h
  | p :: P, w :: vs, 0, m, nd, h1, h2, hk => by
    simp at h1 h2; subst h1; subst h2
    show bindL kindOf ((p, w) :: P.zip vs) m p = _
    unfold bindL
    rw [bindL_out fun v hv => (List.nodup_cons.mp nd).1 (List.of_mem_zip hv).1, if_pos hk]
    simp
  | p :: P, w :: vs, i + 1, m, nd, h1, h2, hk => by
    show bindL kindOf ((p, w) :: P.zip vs) m x = _
    unfold bindL
    exact bindL_get (i := i) (List.nodup_cons.mp nd).2 (by simpa using h1) (by simpa using h2) hk
theorem bindC_get {kindOf : Str → Option NameKind} {x : Str} {v : Value} : ∀ {P : List Str} {vs : List Value} {i : Nat} {m : Str → Option Value}, P.Nodup → P[i]? = some x → vs[i]? = some v → kindOf x ≠ some .local →
    bindC kindOf (P.zip vs) m x = some v
  | [], _, _, _, _, h, _, _ => by simp at h
  | _ :: _, [], _, _, _, _, h, _ => by simp at h
  | p :: P, w :: vs, 0, m, nd, h1, h2, hk => by
    simp at h1 h2; subst h1; subst h2
    show bindC kindOf ((p, w) :: P.zip vs) m p = _
    unfold bindC
    rw [bindC_out fun v hv => (List.nodup_cons.mp nd).1 (List.of_mem_zip hv).1, if_neg hk]
    simp
  | p :: P, w :: vs, i + 1, m, nd, h1, h2, hk => by
    show bindC kindOf ((p, w) :: P.zip vs) m x = _
    unfold bindC
    exact bindC_get (i := i) (List.nodup_cons.mp nd).2 (by simpa using h1) (by simpa using h2) hk
/-- the names' values at the entry -/
def start (N : List Str) (vs : List V) : St := vs.map some ++ List.replicate (N.length - vs.length) none
/-- the context of a def's body, at its entry; an exception leaves the frame, then lies as CX says -/
def cxOf (CX : CXT) (P : Program) (w : World) (K : PySem.W.Frag) (mg : Str → Option Value) (base : Heap) (N : List Str) (qual : Str) (scope : Scope) (f : Addr) (cd : Value) (A : Around) (outer : List Env) (s : Shared) (H : Hp) (E : XK) : Cx where
  prog := P
  w := w
  K := K
  mg := mg
  base := base
  A := A.deeper (envOfC qual scope s.heap.objs.size f cd)
  N := N
  s_0 := s
  H_0 := H
  env := envOfC qual scope s.heap.objs.size f cd
  outer := outer
  stack := envOfC qual scope s.heap.objs.size f cd :: outer
  ex := []
  calm := true
  fn := fun _ => true
  pn := []
  xe := fun e s' => wpAny (model P w) (A.deeper (envOfC qual scope s.heap.objs.size f cd)) (leaving (envOfC qual scope s.heap.objs.size f cd) e) (fun _ s'' => CX outer H s E e s'') (fun e' s'' => CX outer H s E e' s'') s'
theorem cell_has {sc : Scope} {n : Nat} {x : Str} (h : sc.names.lookup x = some .cell) : ∃ c, (cellsFrom n sc.names []).lookup x = some c := by
  have q := PySem.W.cellsFrom_some sc.names n [] (.inl h)
  exact Option.isSome_iff_exists.mp q
theorem inv_start {CX : CXT} {P : Program} {w : World} {K : PySem.W.Frag} {mg : Str → Option Value} {base : Heap} {N ps : List Str} {qual : Str} {scope : Scope} {f : Addr} {cd : Value} {A : Around} {outer : List Env} {s s1 : Shared} {H : Hp} {E : XK} {us : List Value} {vs : List V}
    (S : FnScope N ps scope) (hd : A.handled = none) (e0 : Env0 P w K mg base A outer s H) (hl : vs.length = ps.length) (r : Vals vs us)
    (x : InCallC s s.heap.objs.size (bindL (envOfC qual scope s.heap.objs.size f cd).kindOf (ps.zip us) fun _ => none) (cellsFrom (s.heap.objs.size + 1) scope.names []) (bindC (envOfC qual scope s.heap.objs.size f cd).kindOf (ps.zip us) fun _ => none) s1) :
    Inv (cxOf CX P w K mg base N qual scope f cd A outer s H E) [] (start N vs) H s1 := by
  have hpl : ps.length ≤ N.length := by have := congrArg List.length S.pre; rw [List.length_take] at this; omega
  obtain ⟨h1, tk, rfl, hk⟩ := x.done
  have noA : ∀ b : Addr, b ∉ (cxOf CX P w K mg base N qual scope f cd A outer s H E).ex := fun b z => absurd (show b ∈ ([] : List Addr) from z) (by simp)
  refine ⟨⟨e0.mod, S.kind, rfl, rfl, Nat.le_refl _, fun y z c h1 h2 => ?_, fun y hy => ?_, fun y c _ h => ?_, fun _ => hd, Around.frames_deeper e0.frames, .inr ⟨rfl, rfl⟩, fun b z => absurd z (noA b), e0.bs, e0.bsz, fun b _ _ => noA b, fun b z => absurd z (noA b), e0.funs, e0.frf⟩,
    rfl, e0.bare, Un.kept hk, ⟨_, x.toInCall.ns, fun i y v h1 h2 h3 => ?_⟩, fun y c h => ⟨_, x.cell y c h⟩, e0.hok.fresh (Nat.le_refl _), fun y c h => ?_, fun p hp => absurd (show p ∈ ([] : List (Addr × Obj)) from hp) (by simp), e0.hok.kept hk, ?_⟩
  · exact name_of_addr x.apart (PySem.mem_of_lookup h1) (PySem.mem_of_lookup h2)
  · have hy : scope.names.lookup y = some .cell ∨ scope.names.lookup y = some .free := hy
    rcases hy with hy | hy
    · exact cell_has hy
    · exact absurd rfl (S.nofree _ (PySem.mem_of_lookup hy))
  · exact Nat.le_of_lt (x.above y c (PySem.mem_of_lookup h))
  · have hi : i < vs.length := by
      unfold start at h2
      by_cases hi : i < vs.length
      · exact hi
      · rw [List.getElem?_append_right (by simpa using hi)] at h2
        rw [List.getElem?_replicate] at h2
        split at h2 <;> cases h2
    have ha : vs[i]? = some v := by
      unfold start at h2
      rw [List.getElem?_append_left (by simpa using hi), List.getElem?_map] at h2
      cases e : vs[i]? with
      | none => rw [e] at h2; cases h2
      | some a => rw [e] at h2; cases h2; rfl
    obtain ⟨u, hu, rv⟩ := r.get ha
    have hp : ps[i]? = some y := by
      rw [← S.pre, List.getElem?_take_of_lt (by omega)]; exact h1
    have ndP : ps.Nodup := by rw [← S.pre]; exact S.nd.sublist (List.take_sublist _ _)
    refine ⟨u, rv, ?_⟩
    rcases S.par y (List.mem_of_getElem? hp) with k | k
    · exact .inl ⟨k, bindL_get ndP hp hu k⟩
    · obtain ⟨c, e⟩ := cell_has (n := s.heap.objs.size + 1) k
      refine .inr ⟨.inl k, c, e, ?_⟩
      have q := x.cell y c e
      rw [bindC_get ndP hp hu (by show scope.names.lookup y ≠ _; rw [k]; decide)] at q
      exact q
  · exact e0.hok.fresh (Nat.le_of_lt (x.above y c (PySem.mem_of_lookup h)))
  · unfold start
    show _ = N.length
    rw [List.length_append, List.length_map, List.length_replicate]
    omega
/-- THE RULE: a def (or a method) of the text, by its body. The body's reading t is chosen for each entry; it is run at the parameters' values -/
theorem fn_of {CX : CXT} {P : Program} {w : World} {K : PySem.W.Frag} {mg : Str → Option Value} {base : Heap} {k : Nat} {f : Addr} {name qual : Str} {params : Arguments} {body : List Stmt} {scope : Scope} {dV kV doc pm cdv ct oc : Value} {an od : Option Addr}
    {osl : Array (Option Value)} {N ps : List Str} {sp : Sp} (lk : K.lookup f = some ⟨oc, od, .func (PySem.W.fnOf name qual params body scope dV kV doc pm an cdv ct), osl⟩) (hcd : PySem.W.codeIn K cdv qual = true) (S : FnScope N ps scope)
    (len : ∀ vs H Q E, sp vs H Q E → vs.length = ps.length)
    (hbody : ∀ (A : Around) (outer : List Env) (s : Shared) (H : Hp) (vs : List V) (Q : VK) (E : XK), Room k (A.deeper (envOfC qual scope s.heap.objs.size f cdv)) → sp vs H Q E →
      ∃ t, PSs (cxOf CX P w K mg base N qual scope f cdv A outer s H E) body t ∧ t { nx := fun _ H' => Q .non H', rt := Q } (start N vs) H) :
    FnOk P w K mg base CX (k + 1) f (PySem.W.fnOf name qual params body scope dV kV doc pm an cdv ct) ps sp := by
  refine ⟨len, fun A outer s H args us vs Q E hr e0 hb r hsp => ?_⟩
  have hl := len _ _ _ _ hsp
  have KX : K.In s.heap := e0.mod.kin.keeps fun b o e => (e0.bs b o e).1
  have lim : s.heap.NoLimit := e0.mod.nolimit.keeps fun b o e => (e0.bs b o e).1
  have hkind : ∀ y ∈ ps.zip us, scope.names.lookup y.1 = some .local ∨ (scope.names.lookup y.1 = some .cell ∧ ((cellsFrom (s.heap.objs.size + 1) scope.names []).lookup y.1).isSome = true) := fun ⟨n, v⟩ hy => by
    rcases S.par n (List.of_mem_zip hy).1 with q | q
    · exact .inl q
    · exact .inr ⟨q, PySem.W.cellsFrom_some _ _ _ (.inl q)⟩
  refine codeAny_call_function hr.depth (KX _ _ lk) rfl S.co S.gen rfl (PySem.W.codeRec_of KX hcd) (hb _ _ _ _ ?_)
  refine wpAny_newFunctionEnv_cells S.kind hkind fun env he s1 x => ?_
  subst he
  refine ⟨lim.keeps x.toInCall.keep, codeAny_func ?_⟩
  obtain ⟨t, ht, hq⟩ := hbody A outer s H vs Q E (hr.deeper _) hsp
  have I : Inv (cxOf CX P w K mg base N qual scope f cdv A outer s H E) [] (start N vs) H s1 := inv_start S hr.hd e0 hl r x
  refine wpAny_mono (ht [] s1 (start N vs) H _ I hq) (fun fl s' hs => ?_) fun e s' hs => hs
  have fin : ∀ {σ' : St} {H' : Hp} {v : V} {u : Value}, Inv (cxOf CX P w K mg base N qual scope f cdv A outer s H E) [] σ' H' s' → RelV v u → Q v H' → CE outer P w H s Q u s' :=
    fun {σ' H' v u} J rv q => ⟨v, H', J.os, J.bare, J.base, J.hok, rv, q⟩
  cases fl with
  | ret u =>
    obtain ⟨v, σ', H', J, rv, q⟩ := hs
    exact fin J rv q
  | next =>
    obtain ⟨σ', H', J, q⟩ := hs
    exact fin (v := V.non) (u := Value.none) J rfl q
  | brk =>
    obtain ⟨_, _, _, q⟩ := hs
    exact False.elim q
  | cont =>
    obtain ⟨_, _, _, q⟩ := hs
    exact False.elim q
end L2
namespace L2
open PySem PySem.Spec PyProof.Rows
section
variable {X : Cx} {x : Str} {p pos : Pos} {e : Expr} {es : List Expr} {t : TA} {id T : String} {r : List V → Hp → VK → Prop}
def tCB (r : List V → Hp → VK → Prop) (t : TA) : TE := fun σ H Q => t σ H fun vs H1 => r vs H1 Q
/-- f(e, ..), f a built-in function -/
theorem pe_callB (hc : CallR X (.builtin id) r) (hg : Gl X x) (hm : X.mg x = none) (hv : bootBuiltins x = some (.builtin id)) (ha : PA X (e :: es) t) (hn : x ≠ "__name__" := by decide) (hdb : (x == ("__debug__" : Str)) = false := by decide)
    (he : starEach (e :: es) X.env = (false, eval e X.env) :: starEach es X.env := by rfl) (hpl : (backTo pos (starEach es X.env)).any (·.1) = false := by rfl) : PE X (.Call (.Name x p) (e :: es) [] pos) (tCB r t) := by
  intro pins s σ H Q I h
  refine wpAny_Call_Name_kw (ld_blt I hg hm hv ?_ hn hdb)
  exact PyProof.Rows.callWith_builtin1 (thn (ha pos pins s σ H _ I h) fun us s1 ⟨vs, H1, I1, r1, q1⟩ => hc pins s1 σ H1 vs us Q I1 r1 q1) he hpl
/-- T(e, ..), T a built-in type -/
theorem pe_callTy (hc : CallR X (.type T) r) (hg : Gl X x) (hm : X.mg x = none) (hv : bootBuiltins x = some (.type T)) (ha : PA X (e :: es) t) (hn : x ≠ "__name__" := by decide) (hdb : (x == ("__debug__" : Str)) = false := by decide)
    (he : starEach (e :: es) X.env = (false, eval e X.env) :: starEach es X.env := by rfl) (hpl : (backTo pos (starEach es X.env)).any (·.1) = false := by rfl) : PE X (.Call (.Name x p) (e :: es) [] pos) (tCB r t) := by
  intro pins s σ H Q I h
  refine wpAny_Call_Name_kw (ld_blt I hg hm hv ?_ hn hdb)
  exact PyProof.Rows.callWith_type1 (thn (ha pos pins s σ H _ I h) fun us s1 ⟨vs, H1, I1, r1, q1⟩ => hc pins s1 σ H1 vs us Q I1 r1 q1) he hpl
end
end L2
namespace HT
open PySem PyProof.Rows
section
open PySem.SeqAt
open PySem.AutoSeq1 (wpAny_loadPart')
open PySem.MeetsSeq PySem.MeetsSeq2 PySem.MeetsSeq3
end
section
variable {prog : Program} {w : World} {A : Around} {E : Value → Shared → Prop} {s : Shared}
/-- t + u, t not empty -/
theorem cat_tup {t b : Addr} {vs ws : List Value} {Q : Value → Shared → Prop} (ht : IsTup s.heap t vs.toArray) (hb : IsTup s.heap b ws.toArray) (hv : vs ≠ [])
    (h1 : ws = [] → Q (.ref t) s) (h2 : ws ≠ [] → Q (.ref s.heap.objs.size) { s with heap := s.heap.push { cls := .type "tuple", data := .seq (vs ++ ws).toArray } })
    (hsz : vs.length + ws.length ≤ sizeLine) : wpAny (model prog w) A (binaryOp .Add (.ref t) (.ref b)) Q E s := by
  obtain ⟨⟨cls, dd, data, sl⟩, ho, hc, n, hd⟩ := id ht
  obtain ⟨⟨cls2, dd2, data2, sl2⟩, ho2, hc2, n2, hd2⟩ := id hb
  simp only at hc hd hc2 hd2
  subst hc hd hc2 hd2
  have e : vs.toArray ++ ws.toArray = (vs ++ ws).toArray := by simp
  by_cases hw : ws = []
  · exact concat_meets ⟨_, ho, rfl⟩ ⟨_, ho2, rfl⟩ noFill_tuple_add seq_tuple_add PySem.F.slot_tuple_add PySem.F.entry_tuple_add (PySem.F.args_tuple_add_2 _ _)
      (tuple_addW1 t b vs.toArray ws.toArray n n2 dd dd2 sl sl2 (by simpa using hv) (by simp [hw])) ⟨ho, ho2, h1 hw⟩
  · refine concat_meets ⟨_, ho, rfl⟩ ⟨_, ho2, rfl⟩ noFill_tuple_add seq_tuple_add PySem.F.slot_tuple_add PySem.F.entry_tuple_add (PySem.F.args_tuple_add_2 _ _)
      (tuple_addW2 t b vs.toArray ws.toArray n n2 dd dd2 sl sl2 (by simpa using hv) (by simpa using hw) (by rw [List.size_toArray, List.size_toArray]; exact hsz)) ⟨ho, ho2, ?_⟩
    rw [e]
    exact h2 hw
/-! ### t[a:b], not the whole -/
/-- a slice's bound as a place among n (d where it is left out) -/
def sIx (n d : Nat) : Option Int → Nat
  | none => d
  | some v => if v < 0 then (v + (n : Int)).toNat else min v.toNat n
theorem sIx_nat (n d k : Nat) : sIx n d (some (k : Int)) = min k n := by
  show (if (k : Int) < 0 then ((k : Int) + (n : Int)).toNat else min (k : Int).toNat n) = min k n
  rw [if_neg (by omega), Int.toNat_natCast]
end
end HT
namespace L2
open PySem PySem.Spec PyProof.Rows
/-! ### the parts of a slice -/
abbrev TO := St → Hp → (Option Int → Hp → Prop) → Prop
/-- a slice's part (left out, or an int) -/
def PO (X : Cx) (e : Option Expr) (t : TO) : Prop :=
  ∀ (pins : List (Addr × Obj)) (s : Shared) (σ : St) (H : Hp) (Q : Option Int → Hp → Prop), Inv X pins σ H s → t σ H Q →
    wpAny (model X.prog X.w) X.A (evalPart e X.env) (fun u s' => ∃ o H', Inv X pins σ H' s' ∧ IsPart u o ∧ Q o H') X.xe s
def tPart (t : TE) : TO := fun σ H Q => t σ H fun x H1 => ∃ i, x = .int i ∧ Q (some i) H1
section
variable {X : Cx} {e : Expr} {te : TE} {lo hi : Option Expr} {tl th : TO} {pos p2 : Pos}
theorem po_some (h : PE X e te) : PO X (some e) (tPart te) := by
  intro pins s σ H Q I hw
  rw [evalPart_some]
  refine thn (h pins s σ H _ I hw) fun u s1 ⟨x, H1, I1, r1, q1⟩ => ?_
  obtain ⟨i, rfl, q⟩ := q1
  obtain ⟨t, rfl⟩ := r1
  exact ⟨some i, H1, I1, .int i t, q⟩
/-- what a slice of a value is, by values: the slice object stands at sl -/
def SlR (X : Cx) (r : V → Option Int → Option Int → Hp → VK → Prop) : Prop :=
  ∀ (pins : List (Addr × Obj)) (s : Shared) (σ : St) (H : Hp) (x : V) (v vl vu : Value) (lo hi : Option Int) (sl : Addr) (Q : VK), Inv X pins σ H s → RelV x v → s.heap.IsSliceOf sl vl vu .none → IsPart vl lo → IsPart vu hi → r x lo hi H Q →
    ∃ T id, typeLookup (.type T) "__getitem__" = pure (some (.builtin id)) ∧ s.TypeIs v T ∧ wpAny (model X.prog X.w) X.A (getItem v (.ref sl)) (EP X pins σ Q) X.xe s
def tSl (r : V → Option Int → Option Int → Hp → VK → Prop) (te : TE) (tl th : TO) : TE := fun σ H Q => te σ H fun x H1 => tl σ H1 fun l H2 => th σ H2 fun u H3 => r x l u H3 Q
/-- a[lo:hi], any a -/
theorem pe_slice {r : V → Option Int → Option Int → Hp → VK → Prop} (hr : SlR X r) (he : PE X e te) (hl : PO X lo tl) (hu : PO X hi th) : PE X (.Subscript e (.Slice lo hi none p2) pos) (tSl r te tl th) := by
  intro pins s σ H Q I h
  refine Subscript_ (thn (he pins s σ H _ I h) fun v s1 ⟨x, H1, I1, r1, q1⟩ => ?_)
  refine wpAny_Slice (thn (hl pins s1 σ H1 _ I1 q1) fun vl s2 ⟨l, H2, I2, pl, q2⟩ => thn (hu pins s2 σ H2 _ I2 q2) fun vu s3 ⟨u, H3, I3, pu, q3⟩ => ?_)
  rw [evalPart_none]
  refine wpAny_pure ?_
  have I4 : Inv X pins σ H3 { s3 with heap := s3.heap.push { cls := .type "slice", data := .fields #[vl, vu, .none] } } := I3.kept (t' := s3.toks) fun b ob q => Heap.get?_push_of_some _ q
  obtain ⟨T, id, hT, ht, hg⟩ := hr pins { s3 with heap := s3.heap.push { cls := .type "slice", data := .fields #[vl, vu, .none] } } σ H3 x v vl vu l u s3.heap.objs.size Q I4 r1 (Heap.IsSliceOf.new ..) pl pu q3
  show wpAny (model X.prog X.w) X.A (subscriptTail e (.Slice lo hi none p2) v (.ref s3.heap.objs.size)) (EP X pins σ Q) X.xe { s3 with heap := s3.heap.push { cls := .type "slice", data := .fields #[vl, vu, .none] } }
  exact tail_any (ops := [.ref s3.heap.objs.size, v]) ht hT hg (by with_unfolding_all rfl)
/-- the items of xs[lo:hi] -/
def cutV (xs : List V) (lo hi : Option Int) : List V := (xs.drop (HT.sIx xs.length 0 lo)).take (HT.sIx xs.length xs.length hi - HT.sIx xs.length 0 lo)
theorem cutV_length (xs : List V) (lo hi : Option Int) : (cutV xs lo hi).length ≤ xs.length := by
  unfold cutV
  rw [List.length_take, List.length_drop]
  omega
/-! ### t < u, t + u -/
/-- t + u, t not empty: u empty gives t itself -/
def rCatT (K : PySem.W.Frag) : R2 := fun x y H Q => ∃ a b xs ys, x = .ref a ∧ y = .ref b ∧ SqT K H a xs ∧ SqT K H b ys ∧ xs ≠ [] ∧ xs.length + ys.length ≤ sizeLine ∧
  (ys = [] → Q (.ref a) H) ∧ (ys ≠ [] → ∀ p, H p = none → Q (.ref p) (upd H p (.tup (xs ++ ys))))
theorem Vals.nil_iff {xs : List V} {us : List Value} (r : Vals xs us) : us = [] ↔ xs = [] := by
  cases r with
  | nil => simp
  | cons _ _ => simp
theorem op_catT : OpR X (binaryOp .Add) (rCatT X.K) := by
  intro pins s σ H x y v u Q I rx ry h
  obtain ⟨a, b, xs, ys, rfl, rfl, ha, hb, hx, hz, q1, q2⟩ := h
  cases rx
  cases ry
  obtain ⟨its, r1, p1, _⟩ := I.tuple ha
  obtain ⟨its2, r2, p2, _⟩ := I.tuple hb
  refine HT.cat_tup p1 p2 (fun z => hx (r1.nil_iff.mp z)) (fun z => ⟨.ref a, H, I, rfl, q1 (r2.nil_iff.mp z)⟩) (fun z => ?_) (by rw [← r1.length, ← r2.length]; exact hz)
  refine ⟨.ref s.heap.objs.size, _, I.laid (t' := s.toks) (o := .tup (xs ++ ys)) (fun b ob q => Heap.get?_push_of_some _ q) (Nat.le_refl _) ?_, rfl, q2 (fun w => z (r2.nil_iff.mpr w)) _ (I.hok.fresh (Nat.le_refl _))⟩
  exact ⟨by rw [List.length_append]; exact hz, _, r1.append r2, IsTup.new _ _⟩
end
end L2
namespace L2
open PySem PySem.Spec PyProof.Rows
/-! ### places -/
/-- the place that an index of any sign means -/
def ixN (n : Nat) (i : Int) : Option Nat := if 0 ≤ i then (if i < n then some i.toNat else none) else if -(n : Int) ≤ i then some (i + n).toNat else none
def atI {α : Type} (xs : List α) (i : Int) : Option α := (ixN xs.length i).bind fun j => xs[j]?
theorem ixN_seq {n : Nat} {i : Int} {j : Nat} (h : ixN n i = some j) : seqIndex? i n = some j ∧ j < n ∧ -(n : Int) ≤ i ∧ i < n := by
  unfold ixN at h
  by_cases h0 : 0 ≤ i
  · rw [if_pos h0] at h
    by_cases h1 : i < n
    · rw [if_pos h1] at h
      have e : i.toNat = j := Option.some.inj h
      exact ⟨by rw [seqIndex_of h0 h1, e], by omega, by omega, h1⟩
    · rw [if_neg h1] at h; cases h
  · rw [if_neg h0] at h
    by_cases h1 : -(n : Int) ≤ i
    · rw [if_pos h1] at h
      have e : (i + n).toNat = j := Option.some.inj h
      exact ⟨by rw [seqIndex_neg (by omega) h1, e], by omega, h1, by omega⟩
    · rw [if_neg h1] at h; cases h
theorem atI_get {α : Type} {xs : List α} {i : Int} {v : α} (h : atI xs i = some v) : ∃ j, seqIndex? i xs.length = some j ∧ xs[j]? = some v ∧ j < xs.length ∧ -(xs.length : Int) ≤ i ∧ i < xs.length := by
  unfold atI at h
  cases e : ixN xs.length i with
  | none => rw [e] at h; cases h
  | some j =>
    rw [e] at h
    obtain ⟨h1, h2, h3, h4⟩ := ixN_seq e
    exact ⟨j, h1, h, h2, h3, h4⟩
theorem atI_nat {α : Type} {xs : List α} {j : Nat} {v : α} (h : xs[j]? = some v) : atI xs (j : Int) = some v := by
  have hj : j < xs.length := (List.getElem?_eq_some_iff.mp h).1
  have e : ixN xs.length (j : Int) = some j := by
    unfold ixN
    rw [if_pos (by omega), if_pos (by omega)]; simp
  unfold atI; rw [e]; exact h
/-! ### what may be subscripted -/
/-- what stands as an index of a plain subscript -/
def PlainIx (b : Expr) : Prop := ∀ o i, subscripted b false o i = operate [o, i] (getItem o i)
/-- a subscript by values -/
def IxR (X : Cx) (r : R2) : Prop :=
  ∀ (value slice : Expr) (pins : List (Addr × Obj)) (s : Shared) (σ : St) (H : Hp) (x y : V) (v u : Value) (Q : VK), Inv X pins σ H s → RelV x v → RelV y u → r x y H Q →
    subscripted slice false v u = operate [v, u] (getItem v u) → wpAny (model X.prog X.w) X.A (subscriptTail value slice v u) (EP X pins σ Q) X.xe s
/-- a call of a builtin's method by values: the receiver, the arguments -/
def MtR (X : Cx) (id : String) (r : V → List V → Hp → VK → Prop) : Prop :=
  ∀ (pins : List (Addr × Obj)) (s : Shared) (σ : St) (H : Hp) (x : V) (xs : List V) (v : Value) (us : List Value) (Q : VK), Inv X pins σ H s → RelV x v → Vals xs us → r x xs H Q →
    wpAny (model X.prog X.w) X.A (call (.builtin id) (v :: us)) (EP X pins σ Q) X.xe s
section
variable {X : Cx} {a b : Expr} {ta tb : TE} {pos : Pos}
/-- a[b] -/
theorem pe_ix {r : R2} (hr : IxR X r) (ha : PE X a ta) (hb : PE X b tb) (hs : PlainIx b) : PE X (.Subscript a b pos) (tOp r ta tb) := by
  intro pins s σ H Q I h
  exact Subscript_ (binT ha hb I h fun v u s2 x y H2 I2 rx ry q => hr a b pins s2 σ H2 x y v u Q I2 rx ry q (hs _ _))
def rIxL (K : PySem.W.Frag) : R2 := fun x y H Q => ∃ p xs i v, x = .ref p ∧ y = .int i ∧ SqL K H p xs ∧ atI xs i = some v ∧ Q v H
def rIxT (K : PySem.W.Frag) : R2 := fun x y H Q => ∃ p xs i v, x = .ref p ∧ y = .int i ∧ SqT K H p xs ∧ atI xs i = some v ∧ Q v H
theorem ix_list : IxR X (rIxL X.K) := by
  intro value slice pins s σ H x y v u Q I rx ry h hs
  obtain ⟨p, xs, i, z, rfl, rfl, hq, he, q⟩ := h
  cases rx
  obtain ⟨t, rfl⟩ := ry
  obtain ⟨its, r, pl, hz⟩ := I.list hq
  obtain ⟨j, h1, h2, h3, h4, h5⟩ := atI_get he
  obtain ⟨w, ew, rw'⟩ := r.get h2
  have hl := r.length
  have hn := line63
  have fin : EP X pins σ Q w s := ⟨z, H, I, rw', q⟩
  by_cases h0 : 0 ≤ i
  · have hj : i.toNat = j := by
      rw [seqIndex_of h0 h5] at h1
      exact Option.some.inj h1
    exact item_listR pl.isList h0 (by omega) (by rw [hj]; simpa using ew) fin hs
  · have hj : (i + (its.toArray.size : Int)).toNat = j := by
      rw [seqIndex_neg (by omega) h4] at h1
      rw [List.size_toArray, ← hl]
      exact Option.some.inj h1
    exact subscriptTail_builtinR (x := w) pl.isList.typeIs slot_list_getitem.lookup
      (wpAny_getItem_list_neg (Q := fun r s' => r = w ∧ EP X pins σ Q r s') pl.isList (by omega) (by rw [List.size_toArray] <;> omega) (by omega) (by rw [hj]; simpa using ew) ⟨rfl, fin⟩) hs
theorem ix_tup : IxR X (rIxT X.K) := by
  intro value slice pins s σ H x y v u Q I rx ry h hs
  obtain ⟨p, xs, i, z, rfl, rfl, hq, he, q⟩ := h
  cases rx
  obtain ⟨t, rfl⟩ := ry
  obtain ⟨its, r, pl, hz⟩ := I.tuple hq
  obtain ⟨j, h1, h2, h3, h4, h5⟩ := atI_get he
  obtain ⟨w, ew, rw'⟩ := r.get h2
  have hl := r.length
  have hn := line63
  have fin : EP X pins σ Q w s := ⟨z, H, I, rw', q⟩
  exact subscriptTail_builtinR (x := w) pl.typeIs slot_tuple_getitem.lookup
    (getItem_tuple (j := j) (Q := fun r s' => r = w ∧ EP X pins σ Q r s') pl (by omega) (by omega) (by rw [List.size_toArray, ← hl]; exact h1) (by simpa using ew) ⟨rfl, fin⟩) hs
/-! ### xs[i] = v, any sign -/
/-! ### slices -/
theorem slice_bounds (lo hi : Option Int) (n : Nat) : (sliceBounds lo hi none n).1 = ((HT.sIx n 0 lo : Nat) : Int) ∧ (sliceBounds lo hi none n).2.1 = ((HT.sIx n n hi : Nat) : Int) ∧ (sliceBounds lo hi none n).2.2 = 1 := by
  refine ⟨?_, ?_, rfl⟩
  · cases lo with
    | none => simp [sliceBounds, HT.sIx]
    | some i =>
      simp only [sliceBounds, HT.sIx, Option.getD_none, show (1 : Int) > 0 by decide, if_true]
      by_cases h : i < 0
      · simp only [h, if_true] <;> omega
      · simp only [h, if_false] <;> omega
  · cases hi with
    | none => simp [sliceBounds, HT.sIx]
    | some i =>
      simp only [sliceBounds, HT.sIx, Option.getD_none, show (1 : Int) > 0 by decide, if_true]
      by_cases h : i < 0
      · simp only [h, if_true] <;> omega
      · simp only [h, if_false] <;> omega
theorem slicePick_cut (its : List Value) (lo hi : Option Int) : slicePick its.toArray lo hi none = ((its.drop (HT.sIx its.length 0 lo)).take (HT.sIx its.length its.length hi - HT.sIx its.length 0 lo)).toArray := by
  obtain ⟨h1, h2, h3⟩ := slice_bounds lo hi its.toArray.size
  unfold slicePick
  rw [h1, h2, h3]
  simp only [sliceRange_one, pick_run, List.size_toArray] <;> rfl
/-- xs[lo:hi] of a list: a new list -/
def rSlL (K : PySem.W.Frag) : V → Option Int → Option Int → Hp → VK → Prop := fun x lo hi H Q => ∃ a xs, x = .ref a ∧ SqL K H a xs ∧ ∀ p, H p = none → Q (.ref p) (upd H p (.lst (cutV xs lo hi)))
theorem sl_list : SlR X (rSlL X.K) := by
  intro pins s σ H x v vl vu lo hi sl Q I rx hs pl pu h
  obtain ⟨a, xs, rfl, hx, q⟩ := h
  cases rx
  obtain ⟨its, r, ht, hz⟩ := I.list hx
  have hlen := r.length
  refine ⟨"list", _, slot_list_getitem.lookup, ht.isList.typeIs, ?_⟩
  refine wpAny_getItem_list_slice ht.isList hs pl pu .none (by simp) ?_ (by rw [List.size_toArray] <;> omega)
  rw [slicePick_cut, ← hlen]
  refine ⟨.ref s.heap.objs.size, _, I.laid (t' := s.toks) (o := .lst (cutV xs lo hi)) (fun b ob q => Heap.get?_push_of_some _ q) (Nat.le_refl _) ?_, rfl, q _ (I.hok.fresh (Nat.le_refl _))⟩
  exact ⟨Nat.le_trans (cutV_length xs lo hi) hz, _, 0, (r.drop (HT.sIx xs.length 0 lo)).take (HT.sIx xs.length xs.length hi - HT.sIx xs.length 0 lo), Heap.get?_push_size _ rfl⟩
/-! ### in, not in: flat items -/
def flatV : V → Bool
  | .non => true
  | .bl _ => true
  | .int _ => true
  | .str _ => true
  | _ => false
/-- == of flat values -/
def eqV : V → V → Bool
  | .non, .non => true
  | .bl a, .bl b => a == b
  | .bl a, .int b => (if a then 1 else 0) == b
  | .int a, .bl b => a == (if b then 1 else 0)
  | .int a, .int b => a == b
  | .str a, .str b => a == b
  | _, _ => false
theorem eqAt_V {A : Around} {s : Shared} {y x : V} {u v : Value} (ry : RelV y u) (rx : RelV x v) (fy : flatV y = true) (fx : flatV x = true) : SeqAt.EqAt A s u v (eqV y x) := by
  cases y with
  | non =>
    cases ry
    cases x with
    | non => cases rx; exact SeqAt.EqAt.same _
    | bl b => cases rx; exact SeqAt.EqAt.none_bool b
    | int b => obtain ⟨t, rfl⟩ := rx; exact SeqAt.EqAt.none_int b t
    | str b => obtain ⟨t, rfl⟩ := rx; exact SeqAt.EqAt.none_str b t
    | _ => exact absurd (show false = true from fx) Bool.false_ne_true
  | bl a =>
    cases ry
    cases x with
    | non => cases rx; exact SeqAt.EqAt.bool_none a
    | bl b => cases rx; exact SeqAt.EqAt.bool_bool a b
    | int b => obtain ⟨t, rfl⟩ := rx; exact SeqAt.EqAt.bool_int a b t
    | str b => obtain ⟨t, rfl⟩ := rx; exact SeqAt.EqAt.bool_str a b t
    | _ => exact absurd (show false = true from fx) Bool.false_ne_true
  | int a =>
    obtain ⟨t', rfl⟩ := ry
    cases x with
    | non => cases rx; exact SeqAt.EqAt.int_none a t'
    | bl b => cases rx; exact SeqAt.EqAt.int_bool a t' b
    | int b => obtain ⟨t, rfl⟩ := rx; exact SeqAt.EqAt.int_int a t' b t
    | str b => obtain ⟨t, rfl⟩ := rx; exact SeqAt.EqAt.int_str a t' b t
    | _ => exact absurd (show false = true from fx) Bool.false_ne_true
  | str a =>
    obtain ⟨t', rfl⟩ := ry
    cases x with
    | non => cases rx; exact SeqAt.EqAt.str_none a t'
    | bl b => cases rx; exact SeqAt.EqAt.str_bool a t' b
    | int b => obtain ⟨t, rfl⟩ := rx; exact SeqAt.EqAt.str_int a t' b t
    | str b => obtain ⟨t, rfl⟩ := rx; exact SeqAt.EqAt.str_str a t' b t
    | _ => exact absurd (show false = true from fx) Bool.false_ne_true
  | _ => exact absurd (show false = true from fy) Bool.false_ne_true
/-- the items' answers, read off the values (a value's own answer does not lean on its token) -/
def eqU (x : V) (u : Value) : Bool := match u with
  | .none => eqV .non x
  | .bool b => eqV (.bl b) x
  | .int i _ => eqV (.int i) x
  | .str z _ => eqV (.str z) x
  | _ => false
theorem eqU_of {x y : V} {u : Value} (r : RelV y u) (f : flatV y = true) : eqU x u = eqV y x := by
  cases y with
  | non => cases r; rfl
  | bl b => cases r; rfl
  | int i => obtain ⟨t, rfl⟩ := r; rfl
  | str z => obtain ⟨t, rfl⟩ := r; rfl
  | _ => exact absurd (show false = true from f) Bool.false_ne_true
theorem any_eqU {x : V} : ∀ {xs : List V} {us : List Value}, Vals xs us → xs.all flatV = true → us.any (eqU x) = xs.any fun y => eqV y x
  | _, _, .nil, _ => rfl
  | y :: xs, u :: us, .cons r t, f => by
    rw [List.all_cons, Bool.and_eq_true] at f
    rw [List.any_cons, List.any_cons, eqU_of r f.1, any_eqU t f.2]
theorem mem_eqAt {A : Around} {s : Shared} {x : V} {v : Value} (rx : RelV x v) (fx : flatV x = true) : ∀ {xs : List V} {us : List Value}, Vals xs us → xs.all flatV = true → ∀ u ∈ us, SeqAt.EqAt A s u v (eqU x u)
  | _, _, .nil, _ => fun u hu => by cases hu
  | y :: xs, u :: us, .cons r t, f => fun u' hu => by
    rw [List.all_cons, Bool.and_eq_true] at f
    rcases List.mem_cons.mp hu with rfl | hu
    · rw [eqU_of r f.1]; exact eqAt_V r rx f.1 fx
    · exact mem_eqAt rx fx t f.2 u' hu
def inV (x : V) (xs : List V) : Bool := xs.any fun y => eqV y x
/-- x in a list or tuple of flat items -/
def rIn (K : PySem.W.Frag) (neg : Bool) : R2 := fun x y H Q => ∃ p xs, y = .ref p ∧ (SqL K H p xs ∨ SqT K H p xs) ∧ flatV x = true ∧ xs.all flatV = true ∧ Q (.bl (if neg then !inV x xs else inV x xs)) H
theorem op_in_seq : OpR X (compareOp .In) (rIn X.K false) := by
  intro pins s σ H x y v u Q I rx ry h
  obtain ⟨p, xs, rfl, hq, fx, fs, q⟩ := h
  cases ry
  rcases hq with hq | hq
  · obtain ⟨its, r, pl, hz⟩ := I.list hq
    refine SeqAt.in_listAt (eqU x) pl.isList (fun w hw => mem_eqAt rx fx r fs w (by simpa using hw)) ⟨.bl _, H, I, rfl, ?_⟩
    rw [show its.toArray.any (eqU x) = its.any (eqU x) by simp, any_eqU r fs]
    exact q
  · obtain ⟨its, r, pl, hz⟩ := I.tuple hq
    refine SeqAt.in_tupleAt (eqU x) pl (fun w hw => mem_eqAt rx fx r fs w (by simpa using hw)) ⟨.bl _, H, I, rfl, ?_⟩
    rw [show its.toArray.any (eqU x) = its.any (eqU x) by simp, any_eqU r fs]
    exact q
/-! ### len, list(x), tuple(x) of any list or tuple that is read -/
theorem call_len_seq : CallR X (.builtin "len") (fun xs H Q => ∃ p ys, xs = [.ref p] ∧ (SqL X.K H p ys ∨ SqT X.K H p ys) ∧ Q (.int ys.length) H) := by
  intro pins s σ H xs us Q I r h
  obtain ⟨p, ys, rfl, hq, q⟩ := h
  obtain ⟨u, rfl, rx⟩ := vals1 r
  cases rx
  have hn := line63
  rcases hq with hq | hq
  · obtain ⟨its, r', pl, hz⟩ := I.list hq
    have hlen := r'.length
    exact Calls.call_len_list pl.isList (by simp only [List.size_toArray] <;> omega) ⟨.int ys.length, H, I.tok _, ⟨s.toks + 1, by rw [List.size_toArray, hlen]⟩, q⟩
  · obtain ⟨its, r', pl, hz⟩ := I.tuple hq
    have hlen := r'.length
    exact len_tuple pl (by simp only [List.size_toArray] <;> omega) ⟨.int ys.length, H, I.tok _, ⟨s.toks + 1, by rw [List.size_toArray, hlen]⟩, q⟩
theorem call_list_of : CallR X (.type "list") (fun xs H Q => ∃ p ys, xs = [.ref p] ∧ (SqL X.K H p ys ∨ SqT X.K H p ys) ∧ ∀ l, H l = none → Q (.ref l) (upd H l (.lst ys))) := by
  intro pins s σ H xs us Q I r h
  obtain ⟨p, ys, rfl, hq, q⟩ := h
  obtain ⟨u, rfl, rx⟩ := vals1 r
  cases rx
  have fin : ∀ (its : List Value), Vals ys its → ys.length ≤ sizeLine → ∀ (h' : Heap) (c' : Nat), (∀ b o', s.heap.get? b = some o' → h'.get? b = some o') →
      h'.get? s.heap.objs.size = some { cls := .type "list", dict := none, data := .seq its.toArray c', slots := #[] } → EP X pins σ Q (.ref s.heap.objs.size) { s with heap := h' } := fun its r' hz h' c' kp e =>
    ⟨.ref s.heap.objs.size, _, I.laid (t' := s.toks) kp (Nat.le_refl _) (show ObjOk X.prog X.w _ h' _ (.lst ys) from ⟨hz, its, c', r', e⟩), rfl, q _ (I.hok.fresh (Nat.le_refl _))⟩
  rcases hq with hq | hq
  · obtain ⟨its, r', pl, hz⟩ := I.list hq
    have hlen := r'.length
    obtain ⟨o, ho, hc, n, hd⟩ := pl.isList
    exact call_list_seq p (.inl rfl) ho hc hd (fun h' c' kp e => fin its r' hz h' c' kp e) (by simp only [List.size_toArray] <;> omega)
  · obtain ⟨its, r', pl, hz⟩ := I.tuple hq
    have hlen := r'.length
    obtain ⟨o, ho, hc, n, hd⟩ := pl
    exact call_list_seq p (.inr rfl) ho hc hd (fun h' c' kp e => fin its r' hz h' c' kp e) (by simp only [List.size_toArray] <;> omega)
/-! ### the call of a builtin's method: o.m(..) -/
/-- the value is of that builtin type -/
def tyV (K : PySem.W.Frag) (T : String) (x : V) (H : Hp) : Prop := match x with
  | .str _ => T = "str"
  | .int _ => T = "int"
  | .ref p => (T = "list" ∧ ∃ xs, SqL K H p xs) ∨ (T = "tuple" ∧ ∃ o, K.lookup p = some o ∧ o.cls = .type "tuple" ∧ o.dict = none) ∨
      (T = "dict" ∧ ((∃ kvs, H p = some (.dK kvs)) ∨ ∃ kvs, H p = some (.dT kvs))) ∨ (T = "set" ∧ ∃ S n, H p = some (.set S n))
  | _ => False
theorem tyV_is {pins : List (Addr × Obj)} {σ : St} {H : Hp} {s : Shared} {T : String} {x : V} {v : Value} (I : Inv X pins σ H s) (r : RelV x v) (ty : tyV X.K T x H) :
    s.TypeIs v T ∧ ∀ a, v = .ref a → ∃ ob, s.heap.get? a = some ob ∧ ob.dict = none := by
  cases x with
  | str z =>
    obtain ⟨t, rfl⟩ := r
    cases (show T = "str" from ty)
    exact ⟨typeIs_str s z t, fun _ e => nomatch e⟩
  | int i =>
    obtain ⟨t, rfl⟩ := r
    cases (show T = "int" from ty)
    exact ⟨typeIs_int s i t, fun _ e => nomatch e⟩
  | ref p =>
    cases r
    rcases ty with ⟨rfl, xs, hq⟩ | ⟨rfl, o, hk, hc, hd⟩ | ⟨rfl, hk⟩ | ⟨rfl, S, n, hk⟩
    · obtain ⟨its, _, pl, _⟩ := I.list hq
      refine ⟨pl.isList.typeIs, fun a e => ?_⟩
      cases e
      obtain ⟨o, n, e, c, hd, _⟩ := pl
      exact ⟨o, e, hd⟩
    · refine ⟨⟨o, I.kIn p o hk, hc⟩, fun a e => ?_⟩
      cases e
      exact ⟨o, I.kIn _ o hk, hd⟩
    · have z : ∃ o, s.heap.get? p = some o ∧ o.ExactDict := by
        rcases hk with ⟨kvs, hk⟩ | ⟨kvs, hk⟩
        · obtain ⟨_, _, _, _, o, _, _, e, ex, _⟩ := I.hok p _ hk
          exact ⟨o, e, ex⟩
        · obtain ⟨_, _, _, _, o, _, _, e, ex, _⟩ := I.hok p _ hk
          exact ⟨o, e, ex⟩
      obtain ⟨o, e, ex⟩ := z
      refine ⟨⟨o, e, ex.1⟩, fun a e2 => ?_⟩
      cases e2
      exact ⟨o, e, ex.2.1⟩
    · obtain ⟨o, _, _, _, e, ex, _⟩ := I.hok p _ hk
      refine ⟨⟨o, e, ex.1⟩, fun a e2 => ?_⟩
      cases e2
      exact ⟨o, e, ex.2.1⟩
  | _ => exact False.elim ty
def tBM (K : PySem.W.Frag) (T : String) (r : V → List V → Hp → VK → Prop) (to : TE) (t : TA) : TE := fun σ H Q => to σ H fun x H1 => tyV K T x H1 ∧ t σ H1 fun xs H2 => r x xs H2 Q
variable {o e : Expr} {es : List Expr} {to : TE} {t : TA} {name : Str} {apos cpos : Pos} {T id : String} {r : V → List V → Hp → VK → Prop}
theorem pe_bm (pa : PlainAttrs T) (slot : Slot T name id) (hty : typeOf (.builtin id) = pure (.type "method_descriptor")) (hm : MtR X id r) (ho : PE X o to) (ha : PA X (e :: es) t)
    (hbase : attributeBase o name X.env (eval o X.env) = eval o X.env := by rfl)
    (hfew : ((backTo cpos (starEach (e :: es) X.env)).all (fun x => !x.1) && (backToKw cpos (keywordEach [] X.env)).all (fun x => x.1.isSome)
      && decide ((e :: es).length + ([] : List Keyword).length + (if ([] : List Keyword).isEmpty then 0 else 1) < 30)) = true := by rfl)
    (hline : (apos.endLine == cpos.line) = true := by rfl) (hs : starEach (e :: es) X.env = (false, eval e X.env) :: starEach es X.env := by rfl) (hplain : (backTo cpos (starEach es X.env)).any (·.1) = false := by rfl) :
    PE X (.Call (.Attribute o name apos) (e :: es) [] cpos) (tBM X.K T r to t) := by
  intro pins s σ H Q I h
  refine wpAny_Call_method_late hbase hfew hline rfl (thn (ho pins s σ H _ I h) fun v s1 ⟨x, H1, I1, r1, ty, q1⟩ => ?_)
  obtain ⟨h1, h2⟩ := tyV_is I1 r1 ty
  refine ⟨T, id, pa, slot, hty, h1, h2, ?_⟩
  have hA := ha cpos pins s1 σ H1 _ I1 q1
  rw [hs] at hA ⊢
  refine Calls.callWith_builtin (by show (false || (backTo cpos (starEach es X.env)).any (·.1)) = false; rw [hplain] <;> rfl) (Calls.evalArgs_plain ?_)
  exact thn hA fun us s2 ⟨vs, H2, I2, r2, q2⟩ => hm pins s2 σ H2 x vs v us Q I2 r1 r2 q2
/- xs.append(e), list.index on a module's tuple .. are MtR facts of 06m -/
end
end L2
namespace L2
open PySem PySem.Spec PyProof.Rows
def MtM (X : Cx) (id : String) (r : V → List V → Hp → VK → Prop) : Prop :=
  ∀ (pins : List (Addr × Obj)) (s : Shared) (σ : St) (H : Hp) (x : V) (xs : List V) (v : Value) (us : List Value) (Q : VK), Inv X pins σ H s → RelV x v → Vals xs us → r x xs H Q →
    wpAny (model X.prog X.w) X.A (call (.builtin id) (v :: us)) (EP X pins σ Q) X.xe s
/-! ### lists of values -/
theorem Vals.one : ∀ {x : V} {us : List Value}, Vals [x] us → ∃ u, us = [u] ∧ RelV x u
  | _, _, .cons r .nil => ⟨_, rfl, r⟩
theorem Vals.eraseIdx : ∀ {xs : List V} {us : List Value} (i : Nat), Vals xs us → Vals (xs.eraseIdx i) (us.eraseIdx i)
  | _, _, _, .nil => .nil
  | _, _, 0, .cons _ t => t
  | _, _, i + 1, .cons r t => .cons r (Vals.eraseIdx i t)
theorem len_erase {α : Type} : ∀ (l : List α) (i : Nat), (l.eraseIdx i).length ≤ l.length
  | [], _ => Nat.le_refl _
  | _ :: _, 0 => Nat.le_succ _
  | _ :: r, i + 1 => Nat.succ_le_succ (len_erase r i)
section
variable {X : Cx} {pins : List (Addr × Obj)} {σ : St} {H : Hp} {s : Shared} {l b : Addr} {xs ys zs : List V}
/-! ### the two steps: a tracked list is rewritten, a new list is laid -/
theorem Inv.lset {its its' : List Value} {n : Nat} {f : Array Value → Array Value} {t' : Nat} (I : Inv X pins σ H s) (hH : H l = some (.lst xs))
    (e : s.heap.get? l = some { cls := .type "list", data := .seq its.toArray n }) (hf : f its.toArray = its'.toArray) (hv : Vals ys its') (hz : ys.length ≤ sizeLine) :
    Inv X pins σ (upd H l (.lst ys)) { s with heap := s.heap.update l (Obj.mapSeq f), toks := t' } := by
  have q := PySem.IsL.update e f
  rw [hf] at q
  refine I.write (x := l) (e := l) (by rw [hH]; exact trivial) (.inl rfl) (fun b' u hb hu => (Heap.get?_update_other s.heap (Obj.mapSeq f) (Ne.symm hb)).trans hu) ⟨_, q⟩ ?_
  exact ⟨hz, its', _, hv, q⟩
theorem Inv.lstM (I : Inv X pins σ H s) (hH : H l = some (.lst xs)) : xs.length ≤ sizeLine ∧ ∃ (its : List Value) (n : Nat), Vals xs its ∧ xs.length = its.length ∧ s.heap.get? l = some { cls := .type "list", data := .seq its.toArray n } := by
  obtain ⟨z, its, n, r, e⟩ := I.hok l _ hH
  exact ⟨z, its, n, r, r.length, e⟩
theorem notLongL {n : Nat} (h : n ≤ sizeLine) : Builtin.List.listTooLong n = false := by
  unfold Builtin.List.listTooLong
  exact decide_eq_false (by omega)
end
section
variable {X : Cx}
/-! ### methods -/
def rAppend : V → List V → Hp → VK → Prop := fun x vs H Q => ∃ l xs y, x = .ref l ∧ vs = [y] ∧ H l = some (.lst xs) ∧ xs.length < sizeLine ∧ Q .non (upd H l (.lst (xs ++ [y])))
theorem mt_append : MtM X "list.append" rAppend := by
  intro pins s σ H x vs v us Q I rx rv h
  obtain ⟨l, xs, y, rfl, rfl, hH, hz, q⟩ := h
  cases rx
  obtain ⟨u, rfl, ru⟩ := rv.one
  obtain ⟨z, its, n, r, hl, e⟩ := I.lstM hH
  refine call_meets F.slot_list_append ⟨_, e, rfl⟩ F.entry_list_append (F.args_list_append_2 _ _) (PySem.list_append l its.toArray n u (by rw [List.size_toArray]; omega)) ⟨e, ?_⟩
  refine ⟨.non, _, I.lset (its' := its ++ [u]) hH e (by simp) (r.append (.cons ru .nil)) ?_, rfl, q⟩
  rw [List.length_append, List.length_singleton]
  omega
def rExtend : V → List V → Hp → VK → Prop := fun x vs H Q => ∃ l b xs zs, x = .ref l ∧ vs = [.ref b] ∧ H l = some (.lst xs) ∧ H b = some (.lst zs) ∧ xs.length + zs.length ≤ sizeLine ∧ Q .non (upd H l (.lst (xs ++ zs)))
theorem mt_extend : MtM X "list.extend" rExtend := by
  intro pins s σ H x vs v us Q I rx rv h
  obtain ⟨l, b, xs, zs, rfl, rfl, hH, hB, hz, q⟩ := h
  cases rx
  obtain ⟨u, rfl, ru⟩ := rv.one
  cases ru
  obtain ⟨z, its, n, r, hl, e⟩ := I.lstM hH
  obtain ⟨z2, its2, n2, r2, hl2, e2⟩ := I.lstM hB
  have hsz : its.toArray.size + its2.toArray.size ≤ sizeLine := by rw [List.size_toArray, List.size_toArray]; omega
  have hlong : ¬ (!its.toArray.isEmpty && Builtin.List.listTooLong (its.toArray.size + its2.toArray.size)) = true := by
    rw [notLongL hsz, Bool.and_false]
    exact Bool.false_ne_true
  refine call_meets F.slot_list_extend ⟨_, e, rfl⟩ F.entry_list_extend (F.args_list_extend_2 _ _)
    (AutoSeq1.list_extend_list_list_0 l its.toArray n b its2.toArray n2 hlong (by rw [List.size_toArray]; omega) (by omega)) ⟨e, e2, ?_⟩
  refine ⟨.non, _, I.lset (its' := its ++ its2) hH e (by simp) (r.append r2) ?_, rfl, q⟩
  rw [List.length_append]
  omega
def rPopAt : V → List V → Hp → VK → Prop := fun x vs H Q => ∃ l xs i k y, x = .ref l ∧ vs = [.int i] ∧ H l = some (.lst xs) ∧ -(2 ^ 63) ≤ i ∧ i < 2 ^ 63 ∧ seqIndex? i xs.length = some k ∧ xs[k]? = some y ∧ Q y (upd H l (.lst (xs.eraseIdx k)))
theorem mt_popAt : MtM X "list.pop" rPopAt := by
  intro pins s σ H x vs v us Q I rx rv h
  obtain ⟨l, xs, i, k, y, rfl, rfl, hH, h1, h2, hk, hy, q⟩ := h
  cases rx
  obtain ⟨u, rfl, ru⟩ := rv.one
  obtain ⟨t, rfl⟩ := ru
  obtain ⟨z, its, n, r, hl, e⟩ := I.lstM hH
  obtain ⟨w, hw, rw'⟩ := r.get hy
  refine call_meets F.slot_list_pop ⟨_, e, rfl⟩ F.entry_list_pop (F.args_list_pop_2 _ _)
    (MeetsSeq.list_pop_at l its.toArray n i t k w (fitsIndex_both h1 h2) (by rw [List.size_toArray, ← hl]; exact hk) (by rw [← Array.getElem?_toList]; exact hw) (by rw [List.size_toArray]; omega)) ⟨e, ?_⟩
  refine ⟨y, _, I.lset (its' := its.eraseIdx k) hH e ?_ (r.eraseIdx k) ?_, rw', q⟩
  · show its.toArray.eraseIdxIfInBounds k = (its.eraseIdx k).toArray
    rw [List.eraseIdxIfInBounds_toArray]
  · have := len_erase xs k
    omega
/-! ### list + list, list += list, list * int -/
/-! ### del xs[i] -/
end
/-! ### xs[a:b] = ys -/
section
variable {prog : Program} {w : World} {A : Around} {E : Value → Shared → Prop} {s : Shared}
end
section
variable {X : Cx}
end
end L2
namespace L2
open PySem PySem.Spec PyProof.Rows
theorem vals_of_ints : ∀ {us : List Value} {ns : List Int}, IntsAre us ns → Vals (ns.map V.int) us
  | _, _, .nil => by rw [List.map_nil]; exact Paired.nil
  | _, _, .cons n t h => by rw [List.map_cons]; exact Paired.cons (show RelV (V.int n) (Value.int n t) from ⟨t, rfl⟩) (vals_of_ints h)
theorem Vals.ref1 {a : Addr} {us : List Value} (r : Vals [V.ref a] us) : us = [Value.ref a] := by
  cases r with
  | cons r t =>
    cases t
    cases r
    rfl
/-! ### the library's walks over a list of ints, kept objects alone -/
section
variable {prog : Program} {w : World} {A : Around} {E : Value → Shared → Prop} {s : Shared} {l : Addr} {its : List Value} {ns : List Int} {Q : Value → Shared → Prop}
end
/-! ### the calls, by values (CallR of 03t; MtR of 06l) -/
section
variable {X : Cx}
/-! sorted, sort (fewer than 64 items: the library's own bound) -/
theorem small64 {n : Nat} (h : n < 64) : n ≤ sizeLine := by rw [sizeLine_eq]; omega
end
/-! ### list.index, flat items -/
section
variable {X : Cx}
end
/-! ### type(x) of an own instance; is, is not of a module's class -/
section
variable {X : Cx}
end
/-! ### any(xs), all(xs) of a list of bools -/
section
variable {X : Cx}
end
/-! ### == and != of data at any depth: none, bools, ints, texts, lists, tuples -/
mutual
inductive Dp (K : PySem.W.Frag) (H : Hp) : V → PyData → Prop
  | non : Dp K H .non .none
  | bl (b : Bool) : Dp K H (.bl b) (.bool b)
  | int (i : Int) : Dp K H (.int i) (.int i)
  | str (x : Str) : Dp K H (.str x) (.str x)
  | lst {a : Addr} {xs : List V} {ds : List PyData} : SqL K H a xs → DpAll K H xs ds → Dp K H (.ref a) (.list ds)
  | tup {a : Addr} {xs : List V} {ds : List PyData} : SqT K H a xs → DpAll K H xs ds → Dp K H (.ref a) (.tuple ds)
inductive DpAll (K : PySem.W.Frag) (H : Hp) : List V → List PyData → Prop
  | nil : DpAll K H [] []
  | cons {v : V} {vs : List V} {d : PyData} {ds : List PyData} : Dp K H v d → DpAll K H vs ds → DpAll K H (v :: vs) (d :: ds)
end
section
variable {X : Cx} {pins : List (Addr × Obj)} {σ : St} {H : Hp} {s : Shared}
end
section
variable {X : Cx}
end
end L2
namespace L2
open PySem PySem.Spec PyProof.Rows
abbrev CellAt (h : Heap) (c : Addr) (v : Option Value) : Prop := h.IsCell c v
def relS (scope sc : Scope) : Scope :=
  { scope with names := scope.names.map fun (n, k) => if (k == .free && sc.kind == .function && sc.names.lookup n == some .cell) then (n, .cell) else (n, k) }
def cloFrom (cells : List (Str × Addr)) : List (Str × NameKind) → List (Str × Addr) → List (Str × Addr)
  | [], acc => acc
  | (n, k) :: r, acc => if k == .free then cloFrom cells r ((n, (cells.lookup n).getD 0) :: acc) else cloFrom cells r acc
theorem closure_loop (env : Env) (f : Str × NameKind → List (Str × Addr) → Sem (ForInStep (List (Str × Addr))))
    (hf : ∀ n k c, f (n, k) c = if k == .free then (do let a ← cellOf env n; pure (.yield ((n, a) :: c))) else pure (.yield c)) :
    ∀ (names : List (Str × NameKind)) (acc : List (Str × Addr)), (∀ y ∈ names, y.2 = .free → ∃ c, env.cells.lookup y.1 = some c) → forIn names acc f = pure (cloFrom env.cells names acc)
  | [], acc, _ => by rw [List.forIn_nil]; rfl
  | (n, k) :: r, acc, h => by
    rw [List.forIn_cons, hf]
    have ih := fun acc => closure_loop env f hf r acc fun y hy => h y (List.mem_cons_of_mem _ hy)
    unfold cloFrom
    by_cases hk : (k == NameKind.free) = true
    · rw [if_pos hk, if_pos hk]
      obtain ⟨c, hc⟩ := h (n, k) List.mem_cons_self (by simpa using hk)
      have e : cellOf env n = pure c := by unfold cellOf; rw [hc]
      rw [e]
      have e2 : (env.cells.lookup n).getD 0 = c := by rw [hc]; rfl
      rw [e2]
      exact ih _
    · rw [if_neg hk, if_neg hk]
      exact ih _
theorem closure_ok {scope : Scope} {env : Env} (h : ∀ y ∈ scope.names, y.2 = .free → ∃ c, env.cells.lookup y.1 = some c) : closureFor scope env = pure (cloFrom env.cells scope.names []) := by
  simp only [closureFor]
  rw [closure_loop env _ (fun n k c => rfl) scope.names [] h]
  rfl
theorem mem_lookup {α : Type} : ∀ {l : List (Str × α)} {n : Str} {c : α}, (n, c) ∈ l → ∃ c', l.lookup n = some c'
  | (k, v) :: r, n, c, h => by
    rw [List.lookup_cons]
    cases hb : n == k with
    | true => exact ⟨_, rfl⟩
    | false =>
      rcases List.mem_cons.mp h with e | h
      · cases e; simp at hb
      · exact mem_lookup h
theorem cloFrom_mem {cells : List (Str × Addr)} : ∀ {names : List (Str × NameKind)} {acc : List (Str × Addr)} {n : Str} {c : Addr}, (n, c) ∈ cloFrom cells names acc → (n, c) ∈ acc ∨ ((n, .free) ∈ names ∧ c = (cells.lookup n).getD 0)
  | [], _, _, _, h => .inl h
  | (m, k) :: r, acc, n, c, h => by
    unfold cloFrom at h
    split at h
    · rename_i hk
      have hk : k = .free := by simpa using hk
      rcases cloFrom_mem h with h | ⟨h1, h2⟩
      · rcases List.mem_cons.mp h with e | h
        · cases e; exact .inr ⟨hk ▸ List.mem_cons_self, rfl⟩
        · exact .inl h
      · exact .inr ⟨List.mem_cons_of_mem _ h1, h2⟩
    · rcases cloFrom_mem h with h | ⟨h1, h2⟩
      · exact .inl h
      · exact .inr ⟨List.mem_cons_of_mem _ h1, h2⟩
theorem cloFrom_acc {cells : List (Str × Addr)} : ∀ {names : List (Str × NameKind)} {acc : List (Str × Addr)} {p : Str × Addr}, p ∈ acc → p ∈ cloFrom cells names acc
  | [], _, _, h => h
  | (m, k) :: r, acc, p, h => by
    unfold cloFrom
    split
    · exact cloFrom_acc (List.mem_cons_of_mem _ h)
    · exact cloFrom_acc h
theorem cloFrom_has {cells : List (Str × Addr)} : ∀ {names : List (Str × NameKind)} {acc : List (Str × Addr)} {n : Str}, (n, .free) ∈ names → (n, (cells.lookup n).getD 0) ∈ cloFrom cells names acc
  | (m, k) :: r, acc, n, h => by
    unfold cloFrom
    rcases List.mem_cons.mp h with e | h
    · cases e
      exact cloFrom_acc List.mem_cons_self
    · split
      · exact cloFrom_has h
      · exact cloFrom_has h
theorem cells_mem : ∀ {names : List (Str × NameKind)} {h : Heap} {acc : List (Str × Addr)} {x : Str} {c : Addr}, (x, c) ∈ cellsFrom h.objs.size names acc →
    (x, c) ∈ acc ∨ ((x, .cell) ∈ names ∧ h.objs.size ≤ c ∧ CellAt (pushCells h names) c none)
  | [], _, _, _, _, h => .inl h
  | (n, k) :: r, h, acc, x, c, hm => by
    unfold cellsFrom at hm
    unfold pushCells
    split at hm
    · rename_i hk
      rw [if_pos hk]
      have hk : k = .cell := by simpa using hk
      rw [← Heap.size_push h { cls := .type "cell", data := .cell none }] at hm
      rcases cells_mem hm with hm | ⟨h1, h2, h3⟩
      · rcases List.mem_cons.mp hm with e | hm
        · cases e
          exact .inr ⟨hk ▸ List.mem_cons_self, Nat.le_refl _, _, pushCells_keeps r _ _ _ (Heap.get?_push_size _ rfl), rfl⟩
        · exact .inl hm
      · rw [Heap.size_push] at h2
        exact .inr ⟨List.mem_cons_of_mem _ h1, Nat.le_of_succ_le h2, h3⟩
    · rename_i hk
      rw [if_neg hk]
      rcases cells_mem hm with hm | ⟨h1, h2, h3⟩
      · exact .inl hm
      · exact .inr ⟨List.mem_cons_of_mem _ h1, h2, h3⟩
theorem cells_acc : ∀ {names : List (Str × NameKind)} {n : Nat} {acc : List (Str × Addr)} {p : Str × Addr}, p ∈ acc → p ∈ cellsFrom n names acc
  | [], _, _, _, h => h
  | (m, k) :: r, n, acc, p, h => by
    unfold cellsFrom
    split
    · exact cells_acc (List.mem_cons_of_mem _ h)
    · exact cells_acc h
theorem cells_has : ∀ {names : List (Str × NameKind)} {n : Nat} {acc : List (Str × Addr)} {x : Str}, (x, .cell) ∈ names → ∃ c, (x, c) ∈ cellsFrom n names acc
  | (m, k) :: r, n, acc, x, h => by
    unfold cellsFrom
    rcases List.mem_cons.mp h with e | h
    · cases e
      exact ⟨n, cells_acc List.mem_cons_self⟩
    · split
      · exact cells_has h
      · exact cells_has h
theorem cells_inj : ∀ {names : List (Str × NameKind)} {h : Heap} {acc : List (Str × Addr)} {x y : Str} {c : Addr}, (∀ p ∈ acc, p.2 < h.objs.size) → (∀ x y c, (x, c) ∈ acc → (y, c) ∈ acc → x = y) →
    (x, c) ∈ cellsFrom h.objs.size names acc → (y, c) ∈ cellsFrom h.objs.size names acc → x = y
  | [], _, _, _, _, _, _, hi, h1, h2 => hi _ _ _ h1 h2
  | (n, k) :: r, h, acc, x, y, c, hl, hi, h1, h2 => by
    unfold cellsFrom at h1 h2
    split at h1
    · rename_i hk
      rw [if_pos hk] at h2
      rw [← Heap.size_push h { cls := .type "cell", data := .cell none }] at h1 h2
      refine cells_inj (h := h.push _) (fun p hp => ?_) (fun x y c a b => ?_) h1 h2
      · rw [Heap.size_push]
        rcases List.mem_cons.mp hp with rfl | hp
        · exact Nat.lt_succ_self _
        · exact Nat.lt_succ_of_lt (hl p hp)
      · rcases List.mem_cons.mp a with e | a <;> rcases List.mem_cons.mp b with e' | b
        · cases e; cases e'; rfl
        · cases e; exact absurd (hl _ b) (Nat.lt_irrefl _)
        · cases e'; exact absurd (hl _ a) (Nat.lt_irrefl _)
        · exact hi _ _ _ a b
    · rename_i hk
      rw [if_neg hk] at h2
      exact cells_inj hl hi h1 h2
theorem newEnv_comp {M : Model} {A : Around} {E : Value → Shared → Prop} {s : Shared} {scope : Scope} {globals : Addr} {closure : List (Str × Addr)} {qual : Str} {func : Option Addr} {code : Value} {around : Env} {builtins : Addr} {Q : Env → Shared → Prop}
    (h : Q (newEnv scope s.heap.objs.size globals (cellsFrom (s.heap.objs.size + 1) scope.names closure) qual func code (some around) builtins)
      { s with heap := pushCells (s.heap.push { cls := .type "dict", data := .dict #[] }) scope.names }) :
    wpAny M A (newFunctionEnv scope globals closure [] qual func code (some around) builtins) Q E s := by
  simp only [newFunctionEnv, Option.isSome_some, if_true]
  refine wpAny_bind (wpAny_alloc ?_)
  refine wpAny_bind (wpAny_layCells _ (fun n k c => rfl) scope.names closure _ _ ?_)
  rw [show ({ s with heap := s.heap.push { cls := .type "dict", data := .dict #[] } } : Shared).heap.objs.size = s.heap.objs.size + 1 from Heap.size_push ..]
  rw [List.forIn_nil]
  exact wpAny_bind (wpAny_pure (wpAny_pure h))
/-- every name of the written scope, in the scope that runs -/
theorem lookup_relS {sc : Scope} : ∀ {names : List (Str × NameKind)} {x : Str} {k : NameKind},
    (names.map fun (n, k) => if (k == NameKind.free && sc.kind == .function && sc.names.lookup n == some .cell) then (n, NameKind.cell) else (n, k)).lookup x = some k →
    ∃ k', names.lookup x = some k' ∧ (k = k' ∨ (k' = .free ∧ k = .cell))
  | [], _, _, h => by simp at h
  | (n, k₀) :: r, x, k, h => by
    have ih := @lookup_relS sc r x k
    have h' : List.lookup x ((if (k₀ == NameKind.free && sc.kind == .function && sc.names.lookup n == some .cell) = true then (n, NameKind.cell) else (n, k₀)) :: (r.map _)) = some k := h
    cases hx : x == n with
    | true =>
      simp only [List.lookup_cons, hx]
      by_cases hc : (k₀ == NameKind.free && sc.kind == .function && sc.names.lookup n == some .cell) = true
      · rw [if_pos hc] at h'
        simp only [List.lookup_cons, hx] at h'
        cases h'
        simp only [Bool.and_eq_true, beq_iff_eq] at hc
        exact ⟨k₀, rfl, .inr ⟨hc.1.1, rfl⟩⟩
      · rw [if_neg hc] at h'
        simp only [List.lookup_cons, hx] at h'
        cases h'
        exact ⟨_, rfl, .inl rfl⟩
    | false =>
      simp only [List.lookup_cons, hx]
      by_cases hc : (k₀ == NameKind.free && sc.kind == .function && sc.names.lookup n == some .cell) = true
      · rw [if_pos hc] at h'
        simp only [List.lookup_cons, hx] at h'
        exact ih h'
      · rw [if_neg hc] at h'
        simp only [List.lookup_cons, hx] at h'
        exact ih h'
/-- the names of a comprehension's block: its own (with their places in N), or captured -/
structure BlkOk (N : List Str) (sc scope : Scope) (own : List (Str × Nat)) : Prop where
  kind : scope.kind = .function
  uniq : ∀ y ∈ scope.names, scope.names.lookup y.1 = some y.2
  ix : ∀ p ∈ own, N[p.2]? = some p.1
  free : ∀ y ∈ scope.names, y.2 = .free → sc.names.lookup y.1 = some .cell ∨ sc.names.lookup y.1 = some .free
  own : ∀ y ∈ scope.names, y.2 = .local ∨ y.2 = .cell → y.1 ∈ own.map (·.1) ∨ y.1 ∉ N
/-- the slots of the block's own names forgotten -/
def wipe (σ : St) : List Nat → St
  | [] => σ
  | v :: vs => (wipe σ vs).set v none
theorem wipe_length (σ : St) : ∀ vs : List Nat, (wipe σ vs).length = σ.length
  | [] => rfl
  | v :: vs => by unfold wipe; rw [List.length_set, wipe_length σ vs]
theorem wipe_some {σ : St} {i : Nat} {x : V} : ∀ {vs : List Nat}, (wipe σ vs)[i]? = some (some x) → σ[i]? = some (some x) ∧ i ∉ vs
  | [], h => ⟨h, by simp⟩
  | v :: vs, h => by
    unfold wipe at h
    by_cases hi : v = i
    · subst hi
      by_cases hv : v < (wipe σ vs).length
      · rw [List.getElem?_set_self hv] at h; cases h
      · rw [List.getElem?_eq_none (by simpa using hv)] at h; cases h
    · rw [List.getElem?_set_ne hi] at h
      obtain ⟨h1, h2⟩ := wipe_some h
      exact ⟨h1, by simp only [List.mem_cons, not_or]; exact ⟨fun e => hi e.symm, h2⟩⟩
/-- the context of a block that starts at s, its iterator's objects at fp -/
abbrev Cx.blk (X : Cx) (s : Shared) (H : Hp) (scope : Scope) (cenv : Env) (fp : List Addr) : Cx := { X with s_0 := s, H_0 := H, env := cenv, outer := X.stack, ex := fp, fn := fun x => scope.names.lookup x == some .cell, pn := [], xe := fun _ _ => False }
section
variable {X : Cx} {pins : List (Addr × Obj)} {σ : St} {H : Hp} {s : Shared}
theorem block_start {scope : Scope} {own : List (Str × Nat)} {fp : List Addr} (I : Inv X pins σ H s) (ok : BlkOk X.N X.env.scope scope own) (hN : X.N.Nodup) (hfp : ∀ b ∈ fp, FpOk X pins H b ∧ b < s.heap.objs.size) :
    Inv (X.blk s H scope (compEnvC scope (cellsFrom (s.heap.objs.size + 1) scope.names (cloFrom X.env.cells scope.names [])) s.heap.objs.size X.env) fp) [] (wipe σ (own.map (·.2))) H { s with heap := pushCells (s.heap.push { cls := .type "dict", data := .dict #[] }) scope.names } := by
  have hfree : ∀ y ∈ scope.names, y.2 = .free → ∃ c, X.env.cells.lookup y.1 = some c := fun y hy e => by
    rcases ok.free y hy e with k | k
    · exact I.ok.has _ (.inl k)
    · exact I.ok.has _ (.inr k)
  generalize hcenv : compEnvC scope (cellsFrom (s.heap.objs.size + 1) scope.names (cloFrom X.env.cells scope.names [])) s.heap.objs.size X.env = cenv
  have kp : ∀ b o, s.heap.get? b = some o → (pushCells (s.heap.push { cls := .type "dict", data := .dict #[] }) scope.names).get? b = some o := fun b o e => pushCells_keeps _ _ _ _ (Heap.get?_push_of_some _ e)
  have hL : cenv.locals = s.heap.objs.size := by rw [← hcenv]; rfl
  have hcl : cenv.cells = cellsFrom (s.heap.objs.size + 1) scope.names (cloFrom X.env.cells scope.names []) := by rw [← hcenv]; rfl
  have hsc : cenv.scope = relS scope X.env.scope := by rw [← hcenv]; rfl
  rw [← Heap.size_push s.heap { cls := .type "dict", data := .dict #[] }] at hcl
  have cm : ∀ {y c}, (y, c) ∈ cloFrom X.env.cells scope.names [] → X.env.cells.lookup y = some c ∧ c < s.heap.objs.size := fun {y c} hm => by
    rcases cloFrom_mem hm with hm | ⟨h1, rfl⟩
    · cases hm
    · obtain ⟨c, hc⟩ := hfree _ h1 rfl
      rw [hc]
      obtain ⟨w, z⟩ := I.cell _ _ hc
      exact ⟨rfl, z.lt⟩
  have mem : ∀ {y c}, cenv.cells.lookup y = some c → (X.env.cells.lookup y = some c ∧ c < s.heap.objs.size) ∨ (s.heap.objs.size + 1 ≤ c ∧ CellAt (pushCells (s.heap.push { cls := .type "dict", data := .dict #[] }) scope.names) c none) := fun {y c} e => by
    rw [hcl] at e
    rcases cells_mem (PySem.mem_of_lookup e) with hm | ⟨_, h2, h3⟩
    · exact .inl (cm hm)
    · rw [Heap.size_push] at h2; exact .inr ⟨h2, h3⟩
  have look : ∀ {y}, scope.names.lookup y = some .free → ∃ c, cenv.cells.lookup y = some c ∧ X.env.cells.lookup y = some c := fun {y} hl => by
    have hy : (y, NameKind.free) ∈ scope.names := PySem.mem_of_lookup hl
    obtain ⟨c', e'⟩ := mem_lookup (cells_acc (names := scope.names) (n := (s.heap.push { cls := .type "dict", data := .dict #[] }).objs.size) (cloFrom_has (cells := X.env.cells) (acc := []) hy))
    rw [← hcl] at e'
    refine ⟨c', e', ?_⟩
    rw [hcl] at e'
    rcases cells_mem (PySem.mem_of_lookup e') with hm | ⟨h1, _, _⟩
    · exact (cm hm).1
    · have := ok.uniq _ h1
      rw [hl] at this; cases this
  have okB : (X.blk s H scope cenv fp).Ok := by
    refine ⟨I.ok.mod, by show cenv.scope.kind = _; rw [hsc]; exact ok.kind, by show cenv.globals = _; rw [← hcenv]; exact I.ok.glob, by show cenv.builtins = _; rw [← hcenv]; exact I.ok.blt, by show s.heap.objs.size ≤ cenv.locals; rw [hL]; exact Nat.le_refl _,
      fun y z c e1 e2 => ?_, fun y hy => ?_, fun y c z e => ?_, I.ok.hd, I.ok.frames, .inl rfl, fun b hb => ⟨?_, fun y c e z => ?_⟩, I.bs, Nat.le_trans I.ok.bsz I.sz, fun b o e hb => ?_, fun b hb z => ?_, I.stack, I.stkFree⟩
    · have e1 : cenv.cells.lookup y = some c := e1
      have e2 : cenv.cells.lookup z = some c := e2
      rw [hcl] at e1 e2
      refine cells_inj (fun p hp => ?_) (fun y z c a b => I.ok.inj y z c (cm a).1 (cm b).1) (PySem.mem_of_lookup e1) (PySem.mem_of_lookup e2)
      rw [Heap.size_push]
      exact Nat.lt_succ_of_lt (cm (y := p.1) (c := p.2) hp).2
    · show ∃ c, cenv.cells.lookup y = some c
      have key : ∀ k, cenv.kindOf y = some k → (k = .cell ∨ k = .free) → ∃ c, cenv.cells.lookup y = some c := fun k hk hk' => by
        unfold Env.kindOf at hk
        rw [hsc] at hk
        obtain ⟨k', e, r⟩ := lookup_relS hk
        have : k' = .cell ∨ k' = .free := by
          rcases r with rfl | ⟨rfl, _⟩
          · exact hk'
          · exact .inr rfl
        rcases this with rfl | rfl
        · obtain ⟨c, hm⟩ := cells_has (n := (s.heap.push { cls := .type "dict", data := .dict #[] }).objs.size) (acc := cloFrom X.env.cells scope.names []) (PySem.mem_of_lookup e)
          obtain ⟨c', e'⟩ := mem_lookup hm
          exact ⟨c', by rw [hcl]; exact e'⟩
        · obtain ⟨c, h1, _⟩ := look e
          exact ⟨c, h1⟩
      rcases hy with hy | hy
      · exact key _ hy (.inl rfl)
      · exact key _ hy (.inr rfl)
    · have z : (scope.names.lookup y == some NameKind.cell) = true := z
      have z : scope.names.lookup y = some .cell := by simpa using z
      have e : cenv.cells.lookup y = some c := e
      rw [hcl] at e
      rcases cells_mem (PySem.mem_of_lookup e) with hm | ⟨_, h2, _⟩
      · rcases cloFrom_mem hm with hm | ⟨h1, _⟩
        · cases hm
        · have q := ok.uniq _ h1
          rw [z] at q; cases q
      · rw [Heap.size_push] at h2
        exact Nat.le_of_succ_le h2
    · show b ≠ cenv.locals
      rw [hL]; exact Nat.ne_of_lt (hfp b hb).2
    · have e : cenv.cells.lookup y = some c := e
      rcases mem e with ⟨h1, _⟩ | ⟨h1, _⟩
      · exact (hfp b hb).1.2.2.2.2.1 y c h1 z
      · have h2 : s.heap.objs.size + 1 ≤ b := by rw [← z]; exact h1
        exact absurd (Nat.lt_of_lt_of_le (hfp b hb).2 (Nat.le_of_succ_le h2)) (Nat.lt_irrefl _)
    · rcases (hfp b hb).1.2.2.2.1 with z | z
      · exact I.ok.noex b o e z
      · exact absurd (Nat.lt_of_lt_of_le (Heap.lt_size e) (Nat.le_trans I.ok.bsz z)) (Nat.lt_irrefl _)
    · rcases List.mem_cons.mp (I.stkSub b z) with z | z
      · exact (hfp b hb).1.2.1 z
      · exact (hfp b hb).1.2.2.1 z
  refine ⟨okB, rfl, I.bare, Un.kept kp, ⟨fun _ => none, ?_, fun i y av e1 e2 e3 => ?_⟩, fun y c e => ?_, ?_, fun y c e => ?_, fun p hp => ?_, I.hok.kept kp, by rw [wipe_length]; exact I.len⟩
  · show Heap.Ns _ cenv.locals _
    rw [hL]
    exact Heap.Ns.keeps (Heap.Ns.new ..) fun b o e => pushCells_keeps _ _ _ _ e
  · obtain ⟨e2, hne⟩ := wipe_some e2
    have hfr : scope.names.lookup y = some .free ∧ (cenv.kindOf y = some .cell ∨ cenv.kindOf y = some .free) := by
      have key : ∀ k, cenv.scope.names.lookup y = some k → k = .local ∨ k = .cell ∨ k = .free → scope.names.lookup y = some .free ∧ (cenv.kindOf y = some .cell ∨ cenv.kindOf y = some .free) := fun k hk hk' => by
        have hk0 := hk
        rw [hsc] at hk
        obtain ⟨k', e, r⟩ := lookup_relS hk
        have no : ¬ (k' = .local ∨ k' = .cell) := fun hh => by
          rcases ok.own _ (PySem.mem_of_lookup e) hh with e' | e'
          · obtain ⟨p, hp, hpy⟩ := List.mem_map.mp e'
            have e3 := ok.ix p hp
            have : p.1 = y := hpy
            rw [this] at e3
            exact hne (List.mem_map.mpr ⟨p, hp, nodup_ix hN e3 e1⟩)
          · exact e' (List.mem_of_getElem? e1)
        rcases r with rfl | ⟨rfl, rfl⟩
        · rcases hk' with rfl | rfl | rfl
          · exact absurd (.inl rfl) no
          · exact absurd (.inr rfl) no
          · exact ⟨e, .inr hk0⟩
        · exact ⟨e, .inl hk0⟩
      have e3 : Vis cenv.scope y := e3
      rcases e3 with e3 | e3 | e3
      · exact key _ e3 (.inl rfl)
      · exact key _ e3 (.inr (.inl rfl))
      · exact key _ e3 (.inr (.inr rfl))
    obtain ⟨m, hn, hl⟩ := I.loc
    have hvis : Vis X.env.scope y := (ok.free _ (PySem.mem_of_lookup hfr.1) rfl).elim (fun k => .inr (.inl k)) (fun k => .inr (.inr k))
    obtain ⟨w, r, q⟩ := hl i y av e1 e2 hvis
    refine ⟨w, r, .inr ⟨hfr.2, ?_⟩⟩
    obtain ⟨c, h1, h2⟩ := look hfr.1
    rcases q with ⟨k, _⟩ | ⟨_, c', e', z⟩
    · have k : X.env.scope.names.lookup y = some .local := k
      rcases ok.free _ (PySem.mem_of_lookup hfr.1) rfl with k' | k' <;> rw [show X.env.scope.names.lookup y = _ from k'] at k <;> cases k
    · rw [h2] at e'; cases e'
      exact ⟨c, h1, z.keeps kp⟩
  · have e : cenv.cells.lookup y = some c := e
    rcases mem e with ⟨h1, _⟩ | ⟨_, z⟩
    · obtain ⟨w, z⟩ := I.cell y c h1
      exact ⟨w, z.keeps kp⟩
    · exact ⟨_, z⟩
  · show H cenv.locals = none
    rw [hL]; exact I.hok.fresh (Nat.le_refl _)
  · have e : cenv.cells.lookup y = some c := e
    rcases mem e with ⟨h1, _⟩ | ⟨h1, _⟩
    · exact I.freeC y c h1
    · exact I.hok.fresh (Nat.le_of_succ_le h1)
  · exact absurd (show p ∈ ([] : List (Addr × Obj)) ++ [] from hp) (by simp)
/-- an item appended to a tracked list -/
theorem app_ok {E : Value → Shared → Prop} {D : Addr} {xs : List V} {y : V} {v : Value} {Q : Value → Shared → Prop} (I : Inv X pins σ H s) (hD : H D = some (.lst xs)) (hz : xs.length < sizeLine) (r : RelV y v)
    (h : ∀ s', Inv X pins σ (upd H D (.lst (xs ++ [y]))) s' → Q .none s') : wpAny (model X.prog X.w) X.A (call (.builtin "list.append") [.ref D, v]) Q E s := by
  obtain ⟨hz', its, n, ri, e⟩ := I.hok D _ hD
  have hl := ri.length
  refine append_at (hsz := by rw [List.size_toArray]; omega) e fun h' sb ho' => ?_
  refine h { s with heap := h' } (I.write (t' := s.toks) (by rw [hD]; trivial) (.inl rfl) (fun b u hb q => (sb.2 b hb).trans q) ⟨_, ho'⟩ ⟨by rw [List.length_append]; exact hz, its ++ [v], n + 1, ri.append (.cons r .nil), ?_⟩)
  rw [ho']
  simp
/-- a clause's tests -/
def PTs (X : Cx) (ifs : List Expr) (t : TT) : Prop :=
  ∀ (pins : List (Addr × Obj)) (s : Shared) (σ : St) (H : Hp) (Q : Bool → Hp → Prop), Inv X pins σ H s → t σ H Q →
    wpAny (model X.prog X.w) X.A (forIn ifs true fun c r => if r = true then do let ok ← isTrue c X.env (eval c X.env); pure (ForInStep.yield ok) else pure (ForInStep.yield r)) (TP X pins σ Q) X.xe s
def tYes : TT := fun _ H Q => Q true H
theorem pts_nil : PTs X [] tYes := fun _ _ _ H _ I h => wpAny_tests_nil ⟨H, I, h⟩
end
theorem thnF {α : Type} {t : Sem α} {Q Q' : α → Shared → Prop} {M : Model} {A : Around} {E : Value → Shared → Prop} {s : Shared} (h : wpAny M A t Q (fun _ _ => False) s) (hQ : ∀ a s, Q a s → Q' a s) : wpAny M A t Q' E s := wpAny_mono h hQ fun _ _ z => False.elim z
/-- the loop of a list comprehension's block, the target of any form (codeAny_compLoop_tests asks a target that no tuple goes to; statement and proof follow it, PyProof/CompMap.lean:41-61, with the step letOwnedTupleGo kept) -/
theorem compLoop_any {prog : Program} {w : World} {A : Around} {R : Result → Shared → Prop} {s : Shared} {elt target iter : Expr} {ifs : List Expr} {scope : Scope} {pos : Pos} {it acc : Value} {env : Env} (I : Nat → Shared → Prop)
    (turn : ∀ n s, I n s → wpAny (model prog w) A (pyNext it) (fun r s₁ => match r with
      | none => R (.ok .next) s₁
      | some v => wpAny (model prog w) A (letOwnedTupleGo target it v) (fun _ s₁' => wpAny (model prog w) A (assign target env v) (fun _ s₂ =>
          wpAny (model prog w) A (forIn ifs true fun c r => if r = true then do let ok ← isTrue c env (eval c env); pure (ForInStep.yield ok) else pure (ForInStep.yield r)) (fun ok s₃ =>
            if ok = true then wpAny (model prog w) A (eval elt env) (fun x s₄ =>
              wpAny (model prog w) A (call (.builtin "list.append") [acc, x]) (fun _ s₅ => ∃ m, m < n ∧ I m s₅) (notedBy (model prog w) A env fun e s' => R (.error e) s') s₄) (notedBy (model prog w) A env fun e s' => R (.error e) s') s₃
            else ∃ m, m < n ∧ I m s₃) (notedBy (model prog w) A env fun e s' => R (.error e) s') s₂) (notedBy (model prog w) A env fun e s' => R (.error e) s') s₁') (notedBy (model prog w) A env fun e s' => R (.error e) s') s₁) (notedBy (model prog w) A env fun e s' => R (.error e) s') s)
    (n : Nat) (h : I n s) :
    codeAny (model prog w) A (.compLoop (.ListComp elt [⟨target, iter, ifs, 0⟩] scope pos) 0 it acc env) R s := by
  refine codeAny_loop rfl I (fun n s hI => ?_) n h
  show wpAny _ A ((compTurn (.ListComp elt [⟨target, iter, ifs, 0⟩] scope pos) 0 it acc env).onRaise (fun x => do noteFrame x env; theTreesLotGoes x)) _ _ s
  refine wpAny_noted ?_
  rw [compTurn_list]
  refine wpAny_bind (wpAny_standAt (wpAny_bind (wpAny_mono (turn n s hI) (fun r s₁ h₁ => ?_) fun _ _ h' => h')))
  cases r with
  | none => exact wpAny_pure h₁
  | some v =>
    refine wpAny_bind (wpAny_mono h₁ (fun _ s₁' h₁' => ?_) fun _ _ h' => h')
    refine wpAny_bind (wpAny_mono h₁' (fun _ s₂ h₂ => wpAny_bind (wpAny_mono h₂ (fun ok s₃ h₃ => ?_) fun _ _ h' => h')) fun _ _ h' => h')
    cases ok with
    | false => exact wpAny_pure ⟨rfl, h₃⟩
    | true =>
      exact wpAny_bind (wpAny_bind (wpAny_mono h₃ (fun x s₄ h₄ => wpAny_bind (wpAny_mono h₄ (fun _ s₅ h₅ => wpAny_pure (wpAny_pure ⟨rfl, h₅⟩)) fun _ _ h' => h')) fun _ _ h' => h'))
section
variable {X : Cx}
/-- [elt for target in iter if ..]: D the new list; W by the turn and a measure, Nx what a turn is to reach -/
def tLc (wi : TI) (g : TG) (tt : TT) (te : TE) (vs : List Nat) : TE := fun σ H Q => wi σ H fun J H1 => ∀ D, H1 D = none → ∃ W : Nat → Nat → Hp → Prop, (∃ m, W 0 m (upd H1 D (.lst []))) ∧ ∀ i m H, W i m H →
  (J.stop i H ∧ Q (.ref D) H) ∨ (J.go i H ∧ ∃ Nx : Hp → Prop, (∀ H', Nx H' → ∃ m', m' < m ∧ W (i + 1) m' H') ∧ ∀ x H', J.yld i H x H' → g x (wipe σ vs) H' fun σ2 H2 => wipe σ2 vs = wipe σ vs ∧ tt σ2 H2 fun b H3 =>
    if b = true then te σ2 H3 fun y H4 => ∃ acc, H4 D = some (.lst acc) ∧ acc.length < sizeLine ∧ Nx (upd H4 D (.lst (acc ++ [y]))) else Nx H3)
theorem lc_core {pins : List (Addr × Obj)} {s : Shared} {σ : St} {H : Hp} {Q : VK} {elt tg iter : Expr} {ifs : List Expr} {scope : Scope} {own : List (Str × Nat)} {pos pos' : Pos} {wi : TI} {g : TG} {tt : TT} {te : TE} {use : Option (Value → Sem Unit)} {Qf : Value → Shared → Prop}
    (hc : X.calm = true) (hN : X.N.Nodup) (I : Inv X pins σ H s) (hi : PI X tg iter wi) (ok : BlkOk X.N X.env.scope scope own)
    (hg : ∀ (s : Shared) (H : Hp) (C : Addr) (cl : List (Str × Addr)) (fp : List Addr), PG (X.blk s H scope (compEnvC scope cl C X.env) fp) tg g) (ht : ∀ (s : Shared) (H : Hp) (C : Addr) (cl : List (Str × Addr)) (fp : List Addr), PTs (X.blk s H scope (compEnvC scope cl C X.env) fp) ifs tt)
    (he : ∀ (s : Shared) (H : Hp) (C : Addr) (cl : List (Str × Addr)) (fp : List Addr), PE (X.blk s H scope (compEnvC scope cl C X.env) fp) elt te) (hs : ∀ x, foldedSetIterable iter X.env x = pure x)
    (h : tLc wi g tt te (own.map (·.2)) σ H Q)
    (hRR : ∀ D C s' m H', Inv X pins σ H' s' → Q (.ref D) H' → s'.heap.Ns C m → FpOk X pins H' C → compPost (model X.prog X.w) X.A X.xe use Qf (.ref D) C (.ok .next) s') :
    wpAny (model X.prog X.w) X.A (comprehension (.ListComp elt [⟨tg, iter, ifs, 0⟩] scope pos) scope X.env pos' (newList []) false (eval iter X.env) use) Qf X.xe s := by
  have hfree : ∀ y ∈ scope.names, y.2 = .free → ∃ c, X.env.cells.lookup y.1 = some c := fun y hy e => by
    rcases ok.free y hy e with k | k
    · exact I.ok.has _ (.inl k)
    · exact I.ok.has _ (.inr k)
  refine wpAny_comprehension_free (use := use) rfl hs (closure_ok hfree) ok.kind (fun y hy e => by rw [ok.uniq y hy, e])
    (thn (hi pins s σ H _ I h) fun xv s1 hx => thn hx fun itv s2 h2 => ?_)
  obtain ⟨it, fp, tn, J, H2, e, I2, T, st2, f2, q⟩ := h2
  subst e
  refine wpAny_newObj_type (newEnv_comp ?_) (by show 0 ≤ sizeLine; decide)
  generalize hD : s2.heap.objs.size = D
  have hDn : H2 D = none := I2.hok.fresh (Nat.le_of_eq hD)
  obtain ⟨W, ⟨m0, w0⟩, turn⟩ := q D hDn
  -- the new list
  generalize hs3 : ({ s2 with heap := s2.heap.push { cls := .type "list", data := .seq ([] : List Value).toArray } } : Shared) = s3
  have I3 : Inv X pins σ (upd H2 D (.lst [])) s3 := by
    rw [← hs3]
    refine I2.laid (t' := s2.toks) (fun b o e => Heap.get?_push_of_some _ e) (Nat.le_of_eq hD) ⟨Nat.zero_le _, [], 0, .nil, ?_⟩
    rw [← hD]
    exact Heap.get?_push_size _ rfl
  have h3 : s3.heap = s2.heap.push { cls := .type "list", data := .seq ([] : List Value).toArray } := by rw [← hs3]
  have sz : ∀ b ∈ fp, b < s2.heap.objs.size := fun b hb => by
    obtain ⟨o, e, _⟩ := T.obj _ _ st2 b hb
    exact Heap.lt_size e
  have f3 : ∀ b ∈ fp, FpOk X pins (upd H2 D (.lst [])) b ∧ b < s3.heap.objs.size := fun b hb => by
    have hlt := sz b hb
    refine ⟨⟨?_, (f2 b hb).2⟩, by rw [h3, Heap.size_push]; exact Nat.lt_succ_of_lt hlt⟩
    rw [upd_ne (by rw [← hD]; exact Nat.ne_of_lt hlt)]
    exact (f2 b hb).1
  have st3 : tn 0 s3.heap := T.keep _ _ _ st2 fun b _ o e => by rw [h3]; exact Heap.get?_push_of_some _ e
  have I4 := block_start I3 ok hN f3
  have pg := hg s3 (upd H2 D (.lst [])) s3.heap.objs.size (cellsFrom (s3.heap.objs.size + 1) scope.names (cloFrom X.env.cells scope.names [])) fp
  have pt := ht s3 (upd H2 D (.lst [])) s3.heap.objs.size (cellsFrom (s3.heap.objs.size + 1) scope.names (cloFrom X.env.cells scope.names [])) fp
  have pe := he s3 (upd H2 D (.lst [])) s3.heap.objs.size (cellsFrom (s3.heap.objs.size + 1) scope.names (cloFrom X.env.cells scope.names [])) fp
  show codeAny _ _ (.compStart (.ListComp elt [⟨tg, iter, ifs, 0⟩] scope pos) 0 (.ref it) (.ref D) (compEnvC scope (cellsFrom (s3.heap.objs.size + 1) scope.names (cloFrom X.env.cells scope.names [])) s3.heap.objs.size X.env)) (compPost (model X.prog X.w) X.A X.xe use Qf (.ref D) s3.heap.objs.size) { s3 with heap := pushCells (s3.heap.push { cls := .type "dict", data := .dict #[] }) scope.names }
  have nfp : ∀ b ∈ fp, (upd H2 D (.lst [])) b = none := fun b hb => (f3 b hb).1.1
  generalize hce : compEnvC scope (cellsFrom (s3.heap.objs.size + 1) scope.names (cloFrom X.env.cells scope.names [])) s3.heap.objs.size X.env = ce at I4 pg pt pe ⊢
  have cL : ce.locals = s3.heap.objs.size := by subst hce; rfl
  generalize hH3 : upd H2 D (.lst []) = H3 at I3 I4 pg pt pe w0 nfp f3
  generalize hs4 : ({ s3 with heap := pushCells (s3.heap.push { cls := .type "dict", data := .dict #[] }) scope.names } : Shared) = s4 at I4 ⊢
  have st4 : tn 0 s4.heap := T.keep _ _ _ st3 fun b _ o e => by rw [← hs4]; exact pushCells_keeps _ _ _ _ (Heap.get?_push_of_some _ e)
  have stat : ∀ {σ' : St} {H' : Hp} {s' : Shared}, Inv (X.blk s3 H3 scope ce fp) [] σ' H' s' → (∀ b ∈ fp, H' b = none) → ∀ b ∈ fp, FpOk (X.blk s3 H3 scope ce fp) [] H' b := fun {σ' H' s'} I' hn b hb =>
    ⟨hn b hb, (I'.ok.exf b hb).1, I'.ok.exfs b hb, .inl hb, fun x c e => (I'.ok.exf b hb).2 x c e, fun p hp => absurd (show p ∈ ([] : List (Addr × Obj)) ++ [] from hp) (by simp)⟩
  have loop : codeAny (model X.prog X.w) X.A (.compLoop (.ListComp elt [⟨tg, iter, ifs, 0⟩] scope pos) 0 (.ref it) (.ref D) ce) (compPost (model X.prog X.w) X.A X.xe use Qf (.ref D) s3.heap.objs.size) s4 := by
    refine compLoop_any (fun n s' => ∃ i H', Inv (X.blk s3 H3 scope ce fp) [] (wipe σ (own.map (·.2))) H' s' ∧ tn i s'.heap ∧ (∀ b ∈ fp, H' b = none) ∧ W i n H') ?_ m0 ⟨0, H3, I4, st4, nfp, w0⟩
    rintro n s5 ⟨i, H5, I5, st5, n5, w5⟩
    rcases turn i n H5 w5 with ⟨stop, qq⟩ | ⟨go, Nx, hNx, step⟩
    · have td := T.done (X.blk s3 H3 scope ce fp) rfl rfl rfl hc i [] s5 _ H5 (fun _ _ => False) I5 (stat I5 n5) st5 stop
      refine thnF td fun r s6 ⟨hr, I6⟩ => ?_
      subst hr
      -- back in the def's context
      have I7 : Inv X pins σ H5 s6 := I3.call' (ch := fp) I6.os I6.base I6.hok I6.bare fun b hb => ⟨(f3 b hb).1.2.2.2.1, (f3 b hb).1.2.1, (f3 b hb).1.2.2.2.2.1, (f3 b hb).1.2.2.2.2.2⟩
      have nC : H5 s3.heap.objs.size = none := by
        have z : H5 ce.locals = none := I6.free
        rw [cL] at z
        exact z
      obtain ⟨m, hn, _⟩ := I6.loc
      have hn : s6.heap.Ns ce.locals m := hn
      rw [cL] at hn
      exact hRR D s3.heap.objs.size s6 m H5 I7 qq hn (I3.fpOk (Nat.le_refl _) nC)
    · have ti := T.item (X.blk s3 H3 scope ce fp) rfl rfl rfl hc i [] s5 _ H5 (fun _ _ => False) I5 (stat I5 n5) st5 go
      refine thnF ti fun r s6 ⟨u, hr, h6⟩ => ?_
      subst hr
      refine thnF h6 fun _ s7 ⟨x, H7, I7, r7, y7, st7, n7⟩ => ?_
      have I7' := I7.pinned (stat I7 n7) (T.obj _ _ st7)
      refine thnF (pg _ s7 _ H7 x u _ I7' r7 (step x H7 y7)) fun _ s8 ⟨σ8, H8, I8, hw8, q8⟩ => ?_
      refine thnF (pt _ s8 σ8 H8 _ I8 q8) fun b s9 ⟨H9, I9, q9⟩ => ?_
      -- the turn's end
      have fin : ∀ {s' : Shared} {H' : Hp}, Inv (X.blk s3 H3 scope ce fp) ([] ++ pinsAt fp s7.heap) σ8 H' s' → Nx H' → ∃ m, m < n ∧ ∃ i H', Inv (X.blk s3 H3 scope ce fp) [] (wipe σ (own.map (·.2))) H' s' ∧ tn i s'.heap ∧ (∀ b ∈ fp, H' b = none) ∧ W i m H' := fun {s' H'} I' nx => by
        obtain ⟨m', hm, w'⟩ := hNx H' nx
        have pin' : ∀ b ∈ fp, ∀ o, s7.heap.get? b = some o → s'.heap.get? b = some o ∧ H' b = none := fun b hb o e =>
          let z := I'.pin (b, o) (List.mem_append_right _ (List.mem_append_right _ (mem_pinsAt hb e)))
          ⟨z.1, z.2.1⟩
        have hl : (wipe σ (own.map (·.2))).length = σ8.length := by rw [← hw8, wipe_length]
        refine ⟨m', hm, i + 1, H', (I'.unpinned (pins := [])).weak hl (fun j v e => ?_), T.keep _ _ _ st7 fun b hb o e => (pin' b hb o e).1, fun b hb => ?_, w'⟩
        · rw [← hw8] at e
          exact (wipe_some e).1
        · obtain ⟨o, e, _⟩ := T.obj _ _ st7 b hb
          exact (pin' b hb o e).2
      cases b with
      | false =>
        simp only [Bool.false_eq_true, if_false] at q9 ⊢
        exact fin I9 q9
      | true =>
        simp only [if_true] at q9 ⊢
        refine thnF (pe _ s9 σ8 H9 _ I9 q9) fun z s10 ⟨yv, H10, I10, r10, acc, hD10, hz10, nx⟩ => ?_
        exact app_ok (X := X.blk s3 H3 scope ce fp) I10 hD10 hz10 r10 fun s11 I11 => fin I11 nx
  exact codeAny_compStart_list loop (T.self X.A 0 _ _ _ st4 loop)
/-- as a value -/
theorem pe_lc {elt tg iter : Expr} {ifs : List Expr} {scope : Scope} {own : List (Str × Nat)} {pos : Pos} {wi : TI} {g : TG} {tt : TT} {te : TE} (hc : X.calm = true) (hN : X.N.Nodup) (hi : PI X tg iter wi) (ok : BlkOk X.N X.env.scope scope own)
    (hg : ∀ (s : Shared) (H : Hp) (C : Addr) (cl : List (Str × Addr)) (fp : List Addr), PG (X.blk s H scope (compEnvC scope cl C X.env) fp) tg g) (ht : ∀ (s : Shared) (H : Hp) (C : Addr) (cl : List (Str × Addr)) (fp : List Addr), PTs (X.blk s H scope (compEnvC scope cl C X.env) fp) ifs tt)
    (he : ∀ (s : Shared) (H : Hp) (C : Addr) (cl : List (Str × Addr)) (fp : List Addr), PE (X.blk s H scope (compEnvC scope cl C X.env) fp) elt te) (hs : ∀ x, foldedSetIterable iter X.env x = pure x := by intro _; rfl) :
    PE X (.ListComp elt [⟨tg, iter, ifs, 0⟩] scope pos) (tLc wi g tt te (own.map (·.2))) := by
  intro pins s σ H Q I h
  rw [eval_ListComp]
  refine lc_core hc hN I hi ok hg ht he hs h fun D C s' m H' I' q hn f => ⟨m, hn, fun h'' sb => ?_⟩
  obtain ⟨f0, f1, f2, f3, f4, f5⟩ := f
  exact ⟨.ref D, H', I'.turned (t' := s'.toks) (fun b o hb e => (sb.2 b hb).trans e) f0 f1 f3 f4 f5, rfl, q⟩
end
/-! ### the forms one uses -/
/-- over a list that the block leaves as it is -/
theorem lc_list {K : PySem.W.Frag} {a : Addr} {xs : List V} {g : TG} {tt : TT} {te : TE} {vs : List Nat} {σ : St} {H1 : Hp} {D : Addr} {Qd : Hp → Prop} (Pv : Nat → Hp → Prop) (h0 : Pv 0 (upd H1 D (.lst []))) (hl : ∀ i H, i ≤ xs.length → Pv i H → SqL K H a xs)
    (hs : ∀ i x H, xs[i]? = some x → Pv i H → g x (wipe σ vs) H fun σ2 H2 => wipe σ2 vs = wipe σ vs ∧ tt σ2 H2 fun b H3 =>
      if b = true then te σ2 H3 fun y H4 => ∃ acc, H4 D = some (.lst acc) ∧ acc.length < sizeLine ∧ Pv (i + 1) (upd H4 D (.lst (acc ++ [y]))) else Pv (i + 1) H3) (hd : ∀ H, Pv xs.length H → Qd H) :
    ∃ W : Nat → Nat → Hp → Prop, (∃ m, W 0 m (upd H1 D (.lst []))) ∧ ∀ i m H, W i m H →
      ((Itl K a).stop i H ∧ Qd H) ∨ ((Itl K a).go i H ∧ ∃ Nx : Hp → Prop, (∀ H', Nx H' → ∃ m', m' < m ∧ W (i + 1) m' H') ∧ ∀ x H', (Itl K a).yld i H x H' → g x (wipe σ vs) H' fun σ2 H2 => wipe σ2 vs = wipe σ vs ∧ tt σ2 H2 fun b H3 =>
        if b = true then te σ2 H3 fun y H4 => ∃ acc, H4 D = some (.lst acc) ∧ acc.length < sizeLine ∧ Nx (upd H4 D (.lst (acc ++ [y]))) else Nx H3) := by
  refine ⟨fun i m H => m = xs.length - i ∧ i ≤ xs.length ∧ Pv i H, ⟨xs.length, by simp, Nat.zero_le _, h0⟩, ?_⟩
  rintro i m H ⟨rfl, hi, p⟩
  have q := hl i H hi p
  by_cases hlt : i < xs.length
  · refine .inr ⟨⟨xs, xs[i], q, by simp [hlt]⟩, Pv (i + 1), fun H' p' => ⟨xs.length - (i + 1), by omega, rfl, hlt, p'⟩, fun x H' y => ?_⟩
    obtain ⟨e, y⟩ := y
    subst e
    exact hs i x _ (y xs q) p
  · have e : i = xs.length := by omega
    subst e
    exact .inl ⟨⟨xs, q, Nat.le_refl _⟩, hd H p⟩
def blkC (N : List Str) (sc scope : Scope) (own : List (Str × Nat)) : Bool :=
  (match scope.kind with | .function => true | _ => false) && (scope.names.all fun y => decide (scope.names.lookup y.1 = some y.2)) && (own.all fun p => decide (N[p.2]? = some p.1)) &&
    (scope.names.all fun y => match y.2 with
      | .free => (match sc.names.lookup y.1 with | some .cell => true | some .free => true | _ => false)
      | .local => decide (y.1 ∈ own.map (·.1)) || decide (y.1 ∉ N)
      | .cell => decide (y.1 ∈ own.map (·.1)) || decide (y.1 ∉ N)
      | _ => true)
theorem blkOk_by {N : List Str} {sc scope : Scope} {own : List (Str × Nat)} (h : blkC N sc scope own = true) : BlkOk N sc scope own := by
  unfold blkC at h
  simp only [Bool.and_eq_true, List.all_eq_true, decide_eq_true_eq] at h
  obtain ⟨⟨⟨h1, h2⟩, h3⟩, h4⟩ := h
  refine ⟨?_, h2, h3, fun y hy e => ?_, fun y hy e => ?_⟩
  · split at h1
    · assumption
    · cases h1
  · have q := h4 y hy
    simp only [e] at q
    split at q <;> first | exact .inl (by assumption) | exact .inr (by assumption) | cases q
  · have q := h4 y hy
    rcases e with e | e <;> (simp only [e, Bool.or_eq_true, decide_eq_true_eq] at q; exact q)
end L2
namespace L2
open PySem PySem.Spec PyProof.Rows
section
variable {prog : Program} {w : World} {A : Around} {R : Result → Shared → Prop} {s : Shared} {elt t0 i0 t1 i1 : Expr} {ifs0 ifs1 : List Expr} {scope : Scope} {pos : Pos} {it acc : Value} {env : Env}
end
section
variable {X : Cx}
end
end L2
namespace L2
open PySem PySem.Spec PyProof.Rows
/-! ### lists of pairs as tables -/
section
variable {κ : Type} [DecidableEq κ]
def valV (kvs : List (κ × V)) (k : κ) : Option V := (kvs.find? fun kv => decide (kv.1 = k)).map (·.2)
/-- in its place, or at the end -/
def putK (kvs : List (κ × V)) (k : κ) (v : V) : List (κ × V) :=
  if (kvs.any fun kv => decide (kv.1 = k)) = true then kvs.map (fun kv => if kv.1 = k then (kv.1, v) else kv) else kvs ++ [(k, v)]
def dropK (kvs : List (κ × V)) (k : κ) : List (κ × V) := kvs.filter fun kv => decide (kv.1 ≠ k)
theorem valV_pos {p : κ × V} {r : List (κ × V)} {k : κ} (e : p.1 = k) : valV (p :: r) k = some p.2 := by simp [valV, List.find?_cons, e]
theorem valV_neg {p : κ × V} {r : List (κ × V)} {k : κ} (e : ¬ p.1 = k) : valV (p :: r) k = valV r k := by simp [valV, List.find?_cons, e]
theorem valV_any (k : κ) : ∀ kvs : List (κ × V), (kvs.any fun kv => decide (kv.1 = k)) = (valV kvs k).isSome
  | [] => rfl
  | p :: r => by
    rw [List.any_cons]
    by_cases e : p.1 = k
    · simp only [valV_pos e, decide_eq_true e, Bool.true_or, Option.isSome_some]
    · rw [valV_neg e, decide_eq_false e, Bool.false_or]; exact valV_any k r
theorem length_putK (kvs : List (κ × V)) (k : κ) (v : V) : (putK kvs k v).length ≤ kvs.length + 1 := by
  unfold putK
  split
  · rw [List.length_map]; omega
  · rw [List.length_append, List.length_cons, List.length_nil]; omega
theorem putK_new {kvs : List (κ × V)} {k : κ} (v : V) (h : valV kvs k = none) : putK kvs k v = kvs ++ [(k, v)] := by
  unfold putK
  rw [valV_any, h]
  exact if_neg (by decide)
theorem RelO.isSome_eq {o : Option V} {u : Option Value} (r : RelO o u) : o.isSome = u.isSome := by
  cases o with
  | none => cases u with
    | none => rfl
    | some _ => exact (show False from r).elim
  | some _ => cases u with
    | none => exact (show False from r).elim
    | some _ => rfl
/-- raw tables of the same keys -/
theorem KV.val {kvs : List (κ × V)} {vs : List (κ × Value)} (r : KV kvs vs) (k : κ) : RelO (valV kvs k) (valueAt vs k) := by
  unfold KV at r
  induction r with
  | nil => exact True.intro
  | @cons p q ps qs h t ih =>
    obtain ⟨h1, h2⟩ := h
    by_cases e : p.1 = k
    · have e' : q.1 = k := h1.symm.trans e
      have b : valueAt (q :: qs) k = some q.2 := by simp [valueAt, List.find?_cons, e']
      rw [valV_pos e, b]; exact h2
    · have e' : ¬ q.1 = k := fun z => e (h1.trans z)
      have b : valueAt (q :: qs) k = valueAt qs k := by simp [valueAt, List.find?_cons, e']
      rw [valV_neg e, b]; exact ih
theorem KV.any {kvs : List (κ × V)} {vs : List (κ × Value)} (r : KV kvs vs) (k : κ) : (kvs.any fun kv => decide (kv.1 = k)) = vs.any fun kv => decide (kv.1 = k) := by
  unfold KV at r
  induction r with
  | nil => rfl
  | cons h t ih => rw [List.any_cons, List.any_cons, ih, h.1]
theorem KV.repl {kvs : List (κ × V)} {vs : List (κ × Value)} (r : KV kvs vs) (k : κ) {y : V} {u : Value} (ry : RelV y u) :
    KV (kvs.map fun kv => if kv.1 = k then (kv.1, y) else kv) (vs.map fun kv => if kv.1 = k then (kv.1, u) else kv) := by
  unfold KV at r ⊢
  induction r with
  | nil => exact .nil
  | @cons p q ps qs h t ih =>
    rw [List.map_cons, List.map_cons]
    refine .cons ?_ ih
    obtain ⟨h1, h2⟩ := h
    by_cases e : p.1 = k
    · rw [if_pos e, if_pos (h1.symm.trans e)]; exact ⟨h1, ry⟩
    · rw [if_neg e, if_neg (fun z => e (h1.trans z))]; exact ⟨h1, h2⟩
theorem KV.put {kvs : List (κ × V)} {vs : List (κ × Value)} (r : KV kvs vs) (k : κ) {y : V} {u : Value} (ry : RelV y u) : KV (putK kvs k y) (stored vs k u) := by
  unfold putK stored
  rw [r.any k]
  by_cases e : (vs.any fun kv => decide (kv.1 = k)) = true
  · rw [if_pos e, if_pos e]; exact r.repl k ry
  · rw [if_neg e, if_neg e]; exact Paired.snoc r ⟨rfl, ry⟩
theorem KV.drop {kvs : List (κ × V)} {vs : List (κ × Value)} (r : KV kvs vs) (k : κ) : KV (dropK kvs k) (without vs k) := by
  unfold KV at r ⊢
  unfold dropK without
  induction r with
  | nil => exact .nil
  | @cons p q ps qs h t ih =>
    obtain ⟨h1, h2⟩ := h
    rw [List.filter_cons, List.filter_cons]
    by_cases e : p.1 = k
    · have a : ¬ decide (p.1 ≠ k) = true := by simp [e]
      have b : ¬ decide (q.1 ≠ k) = true := by simp [h1.symm.trans e]
      rw [if_neg a, if_neg b]; exact ih
    · have e' : ¬ q.1 = k := fun z => e (h1.trans z)
      have a : decide (p.1 ≠ k) = true := by simp [e]
      have b : decide (q.1 ≠ k) = true := by simp [e']
      rw [if_pos a, if_pos b]; exact .cons ⟨h1, h2⟩ ih
theorem KV.length {kvs : List (κ × V)} {vs : List (κ × Value)} (r : KV kvs vs) : kvs.length = vs.length := Paired.length r
theorem dropK_le (kvs : List (κ × V)) (k : κ) : (dropK kvs k).length ≤ kvs.length := List.length_filter_le _ _
end
/-! ### a tracked dict, its keys ints and texts or tuples of these -/
theorem kV_is {P : Program} {w : World} {k : Key} {u : Value} (r : RelV (kV k) u) : (mixKind P w).is k u = true := by
  cases k with
  | inl i => obtain ⟨t, e⟩ := (show ∃ t, u = Value.int i t from r); subst e; exact mixKind_int P w i t
  | inr x => obtain ⟨t, e⟩ := (show ∃ t, u = Value.str x t from r); subst e; exact mixKind_str P w x t
theorem items_are {P : Program} {w : World} : ∀ {ks : List Key} {us : List Value}, Vals (ks.map kV) us → ItemsAre (mixKind P w) ks us
  | [], _, r => by rw [List.map_nil] at r; cases r; exact .nil
  | k :: ks, _, r => by
    rw [List.map_cons] at r
    cases r with
    | cons h t => exact .cons (kV_is h) (items_are t)
/-- raw entries of a dict with tuple keys -/
abbrev KT (H : Hp) : List (List Key × V) → List (List Key × Addr × Value) → Prop := Paired fun p q => p.1 = q.1 ∧ H q.2.1 = some (.tup (p.1.map kV)) ∧ RelV p.2 q.2.2
theorem KT.val {H : Hp} {kvs : List (List Key × V)} {xs : List (List Key × Addr × Value)} (r : KT H kvs xs) (k : List Key) : RelO (valV kvs k) ((atKey xs k).map (·.2)) := by
  induction r with
  | nil => exact True.intro
  | @cons p q ps qs h t ih =>
    obtain ⟨h1, _, h2⟩ := h
    by_cases e : p.1 = k
    · have e' : q.1 = k := h1.symm.trans e
      have b : atKey (q :: qs) k = some q.2 := by simp [atKey, List.find?_cons, e']
      rw [valV_pos e, b]; exact h2
    · have e' : ¬ q.1 = k := fun z => e (h1.trans z)
      have b : atKey (q :: qs) k = atKey qs k := by simp [atKey, List.find?_cons, e']
      rw [valV_neg e, b]; exact ih
theorem KT.repl {H : Hp} {kvs : List (List Key × V)} {xs : List (List Key × Addr × Value)} (r : KT H kvs xs) (k : List Key) {y : V} {u : Value} (ry : RelV y u) :
    KT H (kvs.map fun kv => if kv.1 = k then (kv.1, y) else kv) (xs.map (putAt k u)) := by
  induction r with
  | nil => exact .nil
  | @cons p q ps qs h t ih =>
    rw [List.map_cons, List.map_cons]
    refine .cons ?_ ih
    obtain ⟨h1, h2, h3⟩ := h
    unfold putAt
    by_cases e : p.1 = k
    · rw [if_pos e, if_pos (h1.symm.trans e)]; exact ⟨h1, h2, ry⟩
    · rw [if_neg e, if_neg (fun z => e (h1.trans z))]; exact ⟨h1, h2, h3⟩
theorem KT.put {H : Hp} {kvs : List (List Key × V)} {xs : List (List Key × Addr × Value)} (r : KT H kvs xs) (k : List Key) {b : Addr} {y : V} {u : Value} (hb : H b = some (.tup (k.map kV))) (ry : RelV y u) :
    KT H (putK kvs k y) (storedH xs k b u) := by
  have e : (kvs.any fun kv => decide (kv.1 = k)) = (atKey xs k).isSome := by
    rw [valV_any, (r.val k).isSome_eq, Option.isSome_map]
  unfold putK storedH
  rw [e]
  by_cases q : (atKey xs k).isSome = true
  · rw [if_pos q, if_pos q]; exact r.repl k ry
  · rw [if_neg q, if_neg q]; exact Paired.snoc r ⟨rfl, hb, ry⟩
theorem KT.keeps {H H' : Hp} {kvs : List (List Key × V)} {xs : List (List Key × Addr × Value)} (r : KT H kvs xs) (ht : ∀ b ys, H b = some (.tup ys) → H' b = some (.tup ys)) : KT H' kvs xs :=
  Paired.mapP r fun _ _ z => ⟨z.1, ht _ _ z.2.1, z.2.2⟩
section
variable {P : Program} {w : World} {H : Hp} {h : Heap} {a : Addr}
theorem rd_of {u : HO} (ok : HOk P w H h) (e : Rd H a u) : ObjOk P w H h a u := e.ok ok
theorem dk_rd {kvs : List (Key × V)} (ok : HOk P w H h) (e : Rd H a (.dK kvs)) : kvs.length ≤ sizeLine ∧ (a == sysModules) = false ∧ ∃ vs, KV kvs vs ∧ h.DictOf (mixKind P w) a vs :=
  show ObjOk P w H h a (.dK kvs) from rd_of ok e
theorem dk_of {kvs : List (Key × V)} (ok : HOk P w H h) (e : H a = some (.dK kvs)) : kvs.length ≤ sizeLine ∧ (a == sysModules) = false ∧ ∃ vs, KV kvs vs ∧ h.DictOf (mixKind P w) a vs := dk_rd ok (.inl e)
/-- a tracked tuple of ints and texts is a key -/
theorem key_of {ks : List Key} (ok : HOk P w H h) (e : H a = some (.tup (ks.map kV))) : (tupleKind (mixKind P w)).is h ks a := by
  obtain ⟨_, its, r, o, h1, h2, n, h3⟩ := (show ObjOk P w H h a (.tup (ks.map kV)) from ok a _ e)
  exact ⟨o, its.toArray, n, h1, h2, h3, by simpa using items_are r⟩
theorem dt_rd {kvs : List (List Key × V)} (ok : HOk P w H h) (e : Rd H a (.dT kvs)) : kvs.length ≤ sizeLine ∧ (a == sysModules) = false ∧
    ∃ xs, KT H kvs xs ∧ h.DictOfH (tupleKind (mixKind P w)) a xs := by
  obtain ⟨z, y, xs, r, o, es, ep, h1, h2, h3, h4, h5⟩ := (show ObjOk P w H h a (.dT kvs) from rd_of ok e)
  refine ⟨z, y, xs, r, o, es, ep, h1, h2, h3, h4, fun x hx => ?_, h5⟩
  have all : ∀ {l : List (List Key × V)} {m : List (List Key × Addr × Value)}, KT H l m → ∀ x ∈ m, (tupleKind (mixKind P w)).is h x.1 x.2.1 := by
    intro l m q
    induction q with
    | nil => intro x hx; exact nomatch hx
    | @cons p q ps qs hq t ih =>
      intro x hx
      rcases List.mem_cons.mp hx with e | hx
      · subst e
        exact key_of ok (by rw [← hq.1]; exact hq.2.1)
      · exact ih x hx
  exact all r x hx
theorem dt_of {kvs : List (List Key × V)} (ok : HOk P w H h) (e : H a = some (.dT kvs)) : kvs.length ≤ sizeLine ∧ (a == sysModules) = false ∧
    ∃ xs, KT H kvs xs ∧ h.DictOfH (tupleKind (mixKind P w)) a xs := dt_rd ok (.inl e)
end
/-- what the dict at a holds at the key y -/
def DGet (H : Hp) (a : Addr) (y : V) (r : Option V) : Prop :=
  (∃ kvs k, Rd H a (.dK kvs) ∧ y = kV k ∧ r = valV kvs k) ∨ ∃ kvs k b, Rd H a (.dT kvs) ∧ y = .ref b ∧ H b = some (.tup (k.map kV)) ∧ r = valV kvs k
/-- the heap behind a[y] = v -/
def DPut (H : Hp) (a : Addr) (y v : V) (H' : Hp) : Prop :=
  (∃ kvs k, H a = some (.dK kvs) ∧ y = kV k ∧ kvs.length < sizeLine ∧ H' = upd H a (.dK (putK kvs k v))) ∨
  ∃ kvs k b, H a = some (.dT kvs) ∧ y = .ref b ∧ H b = some (.tup (k.map kV)) ∧ kvs.length < sizeLine ∧ H' = upd H a (.dT (putK kvs k v))
theorem DGet.k {H : Hp} {a : Addr} {kvs : List (Key × V)} {k : Key} (e : H a = some (.dK kvs)) : DGet H a (kV k) (valV kvs k) := .inl ⟨kvs, k, .inl e, rfl, rfl⟩
theorem DPut.k {H : Hp} {a : Addr} {kvs : List (Key × V)} {k : Key} {v : V} (e : H a = some (.dK kvs)) (hl : kvs.length < sizeLine) : DPut H a (kV k) v (upd H a (.dK (putK kvs k v))) := .inl ⟨kvs, k, e, rfl, hl, rfl⟩
section
variable {X : Cx} {pins : List (Addr × Obj)} {σ : St} {H : Hp} {s : Shared} {a : Addr} {y v : V} {u r : Value} {o : Option V} {A : Around} {E : Value → Shared → Prop}
theorem Inv.big (I : Inv X pins σ H s) : sysModules < s.heap.objs.size := by
  have h : mainGlobals < s.heap.objs.size := (I.mod.glob.keeps I.bk).lt
  exact Nat.lt_trans (by decide) h
/-- d[y], there -/
theorem d_getItem {Q : Value → Shared → Prop} (hu : A.units + 1 < cLine) (I : Inv X pins σ H s) (g : DGet H a y (some v)) (ry : RelV y u) (h : ∀ w' s', Inv X pins σ H s' → RelV v w' → Q w' s') :
    wpAny (model X.prog X.w) A (getItem (.ref a) u) Q E s := by
  rcases g with ⟨kvs, k, e, ey, l⟩ | ⟨kvs, k, b, e, ey, eb, l⟩
  · subst ey
    obtain ⟨z, hd, vs, rel, dd⟩ := dk_rd I.hok e
    obtain ⟨w', hw, rw'⟩ := RelO.some_of (v := v) (o := valueAt vs k) (by rw [l]; exact rel.val k)
    exact wpAny_getItem_of (kV_is ry) dd.mapOf hw (h w' _ (I.tok _) rw')
  · subst ey
    cases (show u = Value.ref b from ry)
    obtain ⟨z, hd, xs, rel, dd⟩ := dt_rd I.hok e
    obtain ⟨w', hw, rw'⟩ := RelO.some_of (v := v) (o := (atKey xs k).map (·.2)) (by rw [l]; exact rel.val k)
    obtain ⟨p, hp, hp2⟩ := Option.map_eq_some_iff.mp hw
    refine wpAny_getItem_heap (tupleKind_room_in1 hu) (key_of I.hok eb) dd hp ?_
    rw [hp2]
    exact h w' _ (I.tok _) rw'
/-- y in d -/
theorem d_in {Q : Value → Shared → Prop} (hu : A.units + 1 < cLine) (I : Inv X pins σ H s) (g : DGet H a y o) (ry : RelV y u) (h : ∀ s', Inv X pins σ H s' → Q (.bool o.isSome) s') :
    wpAny (model X.prog X.w) A (compareOp .In u (.ref a)) Q E s := by
  rcases g with ⟨kvs, k, e, ey, l⟩ | ⟨kvs, k, b, e, ey, eb, l⟩
  · subst ey
    obtain ⟨z, hd, vs, rel, dd⟩ := dk_rd I.hok e
    refine wpAny_in_of (kV_is ry) hd dd.mapOf ?_
    rw [← (rel.val k).isSome_eq, ← l]
    exact h _ (I.tok _)
  · subst ey
    cases (show u = Value.ref b from ry)
    obtain ⟨z, hd, xs, rel, dd⟩ := dt_rd I.hok e
    refine wpAny_in_heap (tupleKind_room_in1 hu) (key_of I.hok eb) hd dd ?_
    have q := (rel.val k).isSome_eq
    rw [Option.isSome_map] at q
    rw [← q, ← l]
    exact h _ (I.tok _)
theorem d_notIn {Q : Value → Shared → Prop} (hu : A.units + 1 < cLine) (I : Inv X pins σ H s) (g : DGet H a y o) (ry : RelV y u) (h : ∀ s', Inv X pins σ H s' → Q (.bool (!o.isSome)) s') :
    wpAny (model X.prog X.w) A (compareOp .NotIn u (.ref a)) Q E s := by
  rcases g with ⟨kvs, k, e, ey, l⟩ | ⟨kvs, k, b, e, ey, eb, l⟩
  · subst ey
    obtain ⟨z, hd, vs, rel, dd⟩ := dk_rd I.hok e
    refine wpAny_notIn_of (kV_is ry) hd dd.mapOf ?_
    rw [← (rel.val k).isSome_eq, ← l]
    exact h _ (I.tok _)
  · subst ey
    cases (show u = Value.ref b from ry)
    obtain ⟨z, hd, xs, rel, dd⟩ := dt_rd I.hok e
    refine wpAny_notIn_heap (tupleKind_room_in1 hu) (key_of I.hok eb) hd dd ?_
    have q := (rel.val k).isSome_eq
    rw [Option.isSome_map] at q
    rw [← q, ← l]
    exact h _ (I.tok _)
/-- a dict's object is replaced -/
theorem d_write {h' : Heap} {t' : Nat} {ob : HO} (I : Inv X pins σ H s) (mu : Mut (H a)) (hs : Heap.SameBut a s.heap h') (he : ∃ q, h'.get? a = some q) (new : ObjOk X.prog X.w (upd H a ob) h' a ob) :
    Inv X pins σ (upd H a ob) { s with heap := h', toks := t' } :=
  I.write (x := a) (e := a) mu (.inl rfl) (fun b q hb z => (hs.2 b hb).trans z) he new
theorem dk_new {P : Program} {w : World} {H' : Hp} {h' : Heap} {kvs : List (Key × V)} {vs : List (Key × Value)} (z : kvs.length ≤ sizeLine) (hd : (a == sysModules) = false) (rel : KV kvs vs) (dd : h'.DictOf (mixKind P w) a vs) :
    ObjOk P w H' h' a (.dK kvs) := ⟨z, hd, vs, rel, dd⟩
/-- d[y] = v -/
theorem d_setItem {H' : Hp} {Q : Unit → Shared → Prop} (hu : A.units + 1 < cLine) (I : Inv X pins σ H s) (g : DPut H a y v H') (ry : RelV y u) (rv : RelV v r) (h : ∀ s', Inv X pins σ H' s' → Q () s') :
    wpAny (model X.prog X.w) A (setItem (.ref a) u r) Q E s := by
  rcases g with ⟨kvs, k, e, ey, l, eH⟩ | ⟨kvs, k, b, e, ey, eb, l, eH⟩
  · subst ey eH
    obtain ⟨z, hd, vs, rel, dd⟩ := dk_of I.hok e
    have hz : vs.length ≤ sizeLine := by rw [← rel.length]; exact z
    have hl : (putK kvs k v).length ≤ sizeLine := by have := length_putK kvs k v; omega
    refine wpAny_setItem_pairs (hsz := hz) (kV_is ry) dd fun h' dd' hs => h _ ?_
    have he : ∃ q, h'.get? a = some q := let ⟨q, _, _, hq, _⟩ := dd'; ⟨q, hq⟩
    exact d_write I (by rw [e]; exact True.intro) hs he (dk_new hl hd (rel.put k rv) dd')
  · subst ey eH
    cases (show u = Value.ref b from ry)
    obtain ⟨z, hd, xs, rel, dd⟩ := dt_of I.hok e
    have hz : xs.length ≤ sizeLine := by rw [← Paired.length rel]; exact z
    have hl : (putK kvs k v).length ≤ sizeLine := by have := length_putK kvs k v; omega
    refine wpAny_setItem_heap (hsz := hz) (tupleKind_room_in1 hu) (key_of I.hok eb) dd fun h' dd' hs => h _ ?_
    obtain ⟨q, es, ep, hq, h2, h3, h4, _, h5⟩ := dd'
    refine d_write I (by rw [e]; exact True.intro) hs ⟨q, hq⟩ ⟨hl, hd, _, (rel.put k eb rv).keeps fun c ys ec => ?_, q, es, ep, hq, h2, h3, h4, h5⟩
    rw [upd_ne (ne_of ec e (fun z => nomatch z))]
    exact ec
end
section
variable {X : Cx} {pins : List (Addr × Obj)} {σ : St} {H : Hp} {s : Shared} {a : Addr} {kvs : List (Key × V)} {k : Key} {u : Value} {A : Around} {E : Value → Shared → Prop}
/-- d.pop(k[, x]), there -/
theorem d_pop {v : V} {more : List Value} {Q : Value → Shared → Prop} (I : Inv X pins σ H s) (e : H a = some (.dK kvs)) (ry : RelV (kV k) u) (l : valV kvs k = some v) (hm : more = [] ∨ ∃ x, more = [x])
    (h : ∀ w' s', Inv X pins σ (upd H a (.dK (dropK kvs k))) s' → RelV v w' → Q w' s') : wpAny (model X.prog X.w) A (call (.builtin "dict.pop") (.ref a :: u :: more)) Q E s := by
  obtain ⟨z, hd, vs, rel, dd⟩ := dk_of I.hok e
  obtain ⟨w', hw, rw'⟩ := RelO.some_of (v := v) (o := valueAt vs k) (by rw [← l]; exact rel.val k)
  have hp : (keyPart u).isSome = true := by
    cases k with
    | inl i => obtain ⟨t, q⟩ := (show ∃ t, u = Value.int i t from ry); subst q; rfl
    | inr x => obtain ⟨t, q⟩ := (show ∃ t, u = Value.str x t from ry); subst q; rfl
  have ha : argsOk "dict.pop" ⟨.ref a :: u :: more, []⟩ := by
    rcases hm with q | ⟨x, q⟩
    · subst q; exact PySem.F.args_dict_pop_2 _ _
    · subst q; exact PySem.F.args_dict_pop_3 _ _ _
  refine call_meetsIn PySem.F.slot_dict_pop dd.typeIs PySem.F.entry_dict_pop ha (meets_dict_pop_there (mixKind X.prog X.w) a (kV_is ry) more hm hp)
    ⟨vs, w', dd, by rw [← rel.length]; exact z, hw, fun h' dd' hs => h w' _ ?_ rw'⟩
  have he : ∃ q, h'.get? a = some q := let ⟨q, _, _, hq, _⟩ := dd'; ⟨q, hq⟩
  exact d_write I (by rw [e]; exact True.intro) hs he (dk_new (Nat.le_trans (dropK_le kvs k) z) hd (rel.drop k) dd')
/-- d.pop(k, x), not there -/
theorem d_popD {r : Value} {Q : Value → Shared → Prop} (I : Inv X pins σ H s) (e : H a = some (.dK kvs)) (ry : RelV (kV k) u) (l : valV kvs k = none) (h : ∀ s', Inv X pins σ H s' → Q r s') :
    wpAny (model X.prog X.w) A (call (.builtin "dict.pop") [.ref a, u, r]) Q E s := by
  obtain ⟨z, hd, vs, rel, dd⟩ := dk_of I.hok e
  have hn : valueAt vs k = none := RelO.none_of (by rw [← l]; exact rel.val k)
  have hp : (keyPart u).isSome = true := by
    cases k with
    | inl i => obtain ⟨t, q⟩ := (show ∃ t, u = Value.int i t from ry); subst q; rfl
    | inr x => obtain ⟨t, q⟩ := (show ∃ t, u = Value.str x t from ry); subst q; rfl
  exact call_meetsIn PySem.F.slot_dict_pop dd.typeIs PySem.F.entry_dict_pop (PySem.F.args_dict_pop_3 _ _ _) (meets_dict_pop_default (mixKind X.prog X.w) a (kV_is ry) hd hp r) ⟨vs, dd, hn, h _ (I.tok _)⟩
/-- len(d) -/
theorem d_len {Q : Value → Shared → Prop} (I : Inv X pins σ H s) (e : Rd H a (.dK kvs)) (h : ∀ t s', Inv X pins σ H s' → Q (.int kvs.length t) s') : wpAny (model X.prog X.w) A (call (.builtin "len") [.ref a]) Q E s := by
  obtain ⟨z, hd, vs, rel, dd⟩ := dk_rd I.hok e
  refine call_len_dict hd dd (by rw [← rel.length]; rw [sizeLine_eq] at z; omega) ?_
  rw [← rel.length]
  exact h _ _ (I.tok _)
end
/-! ### readings and rules -/
/-- the element of a subscription, not a slice -/
def NoSl (i : Expr) : Prop := ∀ ov iv, subscripted i false ov iv = operate [ov, iv] (getItem ov iv)
theorem subD_of {prog : Program} {w : World} {A : Around} {E : Value → Shared → Prop} {s : Shared} {env : Env} {value slice : Expr} {pos : Pos} {T id : String} {Q : Value → Shared → Prop}
    (hl : typeLookup (.type T) "__getitem__" = pure (some (.builtin id))) (hs : NoSl slice)
    (h : wpAny (model prog w) A (eval value env) (fun o s₁ => wpAny (model prog w) A (eval slice env) (fun i s₂ => s₂.TypeIs o T ∧ wpAny (model prog w) A (getItem o i) Q E s₂) E s₁) E s) :
    wpAny (model prog w) A (eval (.Subscript value slice pos) env) Q E s := by
  refine Subscript_ (wpAny_mono h (fun o s₁ h₁ => wpAny_mono h₁ (fun i s₂ h₂ => ?_) fun _ _ x => x) fun _ _ x => x)
  obtain ⟨hT, h₂⟩ := h₂
  unfold subscriptTail
  refine wpAny_bind ?_
  rw [getitemInPython_of_ne hT.not_modules]
  refine wpAny_bind (wpAny_specialOf hT hl ?_)
  have fin : wpAny (model prog w) A (subscripted slice false o i) (fun r s₃ => wpAny (model prog w) A (letTemporaryGo value o r >>= fun _ => pure r) Q E s₃) E s₂ := by
    rw [hs o i]
    exact wpAny_operating (wpAny_mono h₂ (fun r s₃ h₃ => wpAny_bind (wpAny_letTemporaryGo (wpAny_pure h₃))) fun _ _ x => x)
  first
    | exact wpAny_pure (wpAny_bind fin)
    | exact wpAny_bind (wpAny_pure (wpAny_bind fin))
    | exact wpAny_bind fin
theorem dict_typeIs {X : Cx} {pins : List (Addr × Obj)} {σ : St} {H : Hp} {s : Shared} {a : Addr} {y : V} {o : Option V} (I : Inv X pins σ H s) (g : DGet H a y o) : s.TypeIs (.ref a) "dict" := by
  rcases g with ⟨kvs, k, e, _, _⟩ | ⟨kvs, k, b, e, _, _, _⟩
  · obtain ⟨_, _, vs, _, dd⟩ := dk_rd I.hok e
    exact dd.typeIs
  · obtain ⟨_, _, xs, _, dd⟩ := dt_rd I.hok e
    exact dd.typeIs
/-- d[y] -/
def tDGet (td ty : TE) : TE := fun σ H Q => td σ H fun x H1 => ty σ H1 fun y H2 => ∃ a v, x = .ref a ∧ DGet H2 a y (some v) ∧ Q v H2
/-- y in d, y not in d -/
def tDIn (ty td : TE) : TE := fun σ H Q => ty σ H fun y H1 => td σ H1 fun x H2 => ∃ a o, x = .ref a ∧ DGet H2 a y o ∧ Q (.bl o.isSome) H2
def tDNotIn (ty td : TE) : TE := fun σ H Q => ty σ H fun y H1 => td σ H1 fun x H2 => ∃ a o, x = .ref a ∧ DGet H2 a y o ∧ Q (.bl (!o.isSome)) H2
/-- d[y] = v -/
def sDPut (td ty tv : TE) : TS := fun D σ H => tv σ H fun v H1 => td σ H1 fun x H2 => ty σ H2 fun y H3 => ∃ a H4, x = .ref a ∧ DPut H3 a y v H4 ∧ D.nx σ H4
section
variable {X : Cx} {o i e value : Expr} {pos pos' tpos : Pos} {td ty tv : TE}
theorem pe_dget (hu : X.A.units + 1 < cLine) (ho : PE X o td) (hi : PE X i ty) (hs : NoSl i) : PE X (.Subscript o i pos) (tDGet td ty) := by
  intro pins s σ H Q I h
  refine subD_of PySem.F.slot_dict_getitem.lookup hs (thn (ho pins s σ H _ I h) fun u s1 ⟨x, H1, I1, rx, q1⟩ => thn (hi pins s1 σ H1 _ I1 q1) fun iv s2 ⟨y, H2, I2, ry, a, v, ex, g, q2⟩ => ?_)
  subst ex
  obtain rfl : u = Value.ref a := rx
  exact ⟨dict_typeIs I2 g, d_getItem hu I2 g ry fun w' s3 I3 rw' => ⟨v, H2, I3, rw', q2⟩⟩
theorem pc_din (hu : X.A.units + 1 < cLine) (hi : PE X i ty) (ho : PE X o td) : PC X .In i o (tDIn ty td) := by
  intro pins s σ H Q I h
  refine thn (hi pins s σ H _ I h) fun iv s1 ⟨y, H1, I1, ry, q1⟩ => thn (ho pins s1 σ H1 _ I1 q1) fun u s2 ⟨x, H2, I2, rx, a, ov, ex, g, q2⟩ => ?_
  subst ex
  obtain rfl : u = Value.ref a := rx
  exact d_in hu I2 g ry fun s3 I3 => ⟨.bl ov.isSome, H2, I3, rfl, q2⟩
theorem pc_dnotin (hu : X.A.units + 1 < cLine) (hi : PE X i ty) (ho : PE X o td) : PC X .NotIn i o (tDNotIn ty td) := by
  intro pins s σ H Q I h
  refine thn (hi pins s σ H _ I h) fun iv s1 ⟨y, H1, I1, ry, q1⟩ => thn (ho pins s1 σ H1 _ I1 q1) fun u s2 ⟨x, H2, I2, rx, a, ov, ex, g, q2⟩ => ?_
  subst ex
  obtain rfl : u = Value.ref a := rx
  exact d_notIn hu I2 g ry fun s3 I3 => ⟨.bl (!ov.isSome), H2, I3, rfl, q2⟩
theorem ps_dput (hu : X.A.units + 1 < cLine) (ho : PE X o td) (hi : PE X i ty) (hv : PE X value tv) (hs : swapsWith value (some (.Subscript o i pos')) pos.line X.env = pure false) :
    PS X (.Assign [.Subscript o i pos'] value pos) (sDPut td ty tv) := by
  intro pins s σ H D I h
  refine wpAny_Assign_Subscript (thn (hv pins s σ H _ I h) fun r s1 ⟨v, H1, I1, rv, q1⟩ => thn (ho pins s1 σ H1 _ I1 q1) fun u s2 ⟨x, H2, I2, rx, q2⟩ => thn (hi pins s2 σ H2 _ I2 q2) fun iv s3 ⟨y, H3, I3, ry, a, H4, ex, g, q3⟩ => ?_) hs
  subst ex
  obtain rfl : u = Value.ref a := rx
  exact d_setItem hu I3 g ry rv fun s4 I4 => ⟨σ, H4, I4, q3⟩
end
/-! ### displays -/
theorem dk_empty {P : Program} {w : World} {H : Hp} (h : Heap) (hb : sysModules < h.objs.size) : ObjOk P w H (h.push { cls := .type "dict", data := .dict #[] }) h.objs.size (.dK []) :=
  ⟨Nat.zero_le _, beq_eq_false_iff_ne.mpr (Ne.symm (Nat.ne_of_lt hb)), [], .nil, Heap.DictOf.new h⟩
/-- {}, to be a dict of the kind that is wanted -/
def tDNewK : TE := fun _ H Q => ∀ p, H p = none → Q (.ref p) (upd H p (.dK []))
section
variable {X : Cx} {pos : Pos}
theorem pe_dnewK : PE X (.Dict [] [] pos) tDNewK := fun pins s σ H Q I h =>
  wpAny_Dict_empty ⟨.ref s.heap.objs.size, _, I.laid (a := s.heap.objs.size) (o := .dK []) (t' := s.toks) (fun _ _ q => Heap.get?_push_of_some _ q) (Nat.le_refl _) (dk_empty s.heap I.big), rfl, h _ (I.hok.fresh (Nat.le_refl _))⟩
end
/-! ### methods -/
/-- a method call o.m(e) of a built-in, with one argument: what must be seen of the text -/
structure M1 (X : Cx) (o : Expr) (m : Str) (apos : Pos) (e : Expr) (cpos : Pos) : Prop where
  base : attributeBase o m X.env (eval o X.env) = eval o X.env
  few : ((backTo cpos (starEach [e] X.env)).all (fun x => !x.1) && (backToKw cpos (keywordEach [] X.env)).all (fun x => x.1.isSome)
    && decide (([e] : List Expr).length + ([] : List Keyword).length + (if ([] : List Keyword).isEmpty then 0 else 1) < 30)) = true
  line : (apos.endLine == cpos.line) = true
  trees : backTo cpos (starEach [e] X.env) = [(false, eval e X.env)]
structure M2 (X : Cx) (o : Expr) (m : Str) (apos : Pos) (e f : Expr) (cpos : Pos) : Prop where
  base : attributeBase o m X.env (eval o X.env) = eval o X.env
  few : ((backTo cpos (starEach [e, f] X.env)).all (fun x => !x.1) && (backToKw cpos (keywordEach [] X.env)).all (fun x => x.1.isSome)
    && decide (([e, f] : List Expr).length + ([] : List Keyword).length + (if ([] : List Keyword).isEmpty then 0 else 1) < 30)) = true
  line : (apos.endLine == cpos.line) = true
  trees : backTo cpos (starEach [e, f] X.env) = [(false, eval e X.env), (false, eval f X.env)]
/-- a is a dict, whatever its keys -/
def IsD (H : Hp) (a : Addr) : Prop := (∃ kvs, Rd H a (.dK kvs)) ∨ ∃ kvs, Rd H a (.dT kvs)
theorem isD_at {X : Cx} {pins : List (Addr × Obj)} {σ : St} {H : Hp} {s : Shared} {a : Addr} (I : Inv X pins σ H s) (d : IsD H a) :
    s.TypeIs (.ref a) "dict" ∧ (∀ b, Value.ref a = .ref b → ∃ ob, s.heap.get? b = some ob ∧ ob.dict = none) ∧ (a == sysModules) = false := by
  rcases d with ⟨kvs, e⟩ | ⟨kvs, e⟩
  · obtain ⟨_, hd, vs, _, dd⟩ := dk_rd I.hok e
    refine ⟨dd.typeIs, fun b q => ?_, hd⟩
    cases q
    obtain ⟨ob, _, _, h1, h2, _⟩ := dd
    exact ⟨ob, h1, h2.2.1⟩
  · obtain ⟨_, hd, xs, _, dd⟩ := dt_rd I.hok e
    refine ⟨dd.typeIs, fun b q => ?_, hd⟩
    cases q
    obtain ⟨ob, _, _, h1, h2, _⟩ := dd
    exact ⟨ob, h1, h2.2.1⟩
section
variable {X : Cx} {pins : List (Addr × Obj)} {σ : St} {H : Hp} {s : Shared} {a : Addr} {y d : V} {u r : Value} {o : Option V} {A : Around} {E : Value → Shared → Prop}
end
/-- d.pop(k): there; d.pop(k, x): there or not -/
def tDPop1 (td ty : TE) : TE := fun σ H Q => td σ H fun x H1 => ∃ a, x = .ref a ∧ IsD H1 a ∧ ty σ H1 fun y H2 => ∃ kvs k v, H2 a = some (.dK kvs) ∧ y = kV k ∧ valV kvs k = some v ∧ Q v (upd H2 a (.dK (dropK kvs k)))
def tDPop2 (td ty tx : TE) : TE := fun σ H Q => td σ H fun x H1 => ∃ a, x = .ref a ∧ IsD H1 a ∧ ty σ H1 fun y H2 => tx σ H2 fun z H3 => ∃ kvs k, H3 a = some (.dK kvs) ∧ y = kV k ∧
  (∀ v, valV kvs k = some v → Q v (upd H3 a (.dK (dropK kvs k)))) ∧ (valV kvs k = none → Q z H3)
section
variable {X : Cx} {o e f : Expr} {apos cpos : Pos} {td ty tx : TE}
theorem pe_dpop1 (ho : PE X o td) (he : PE X e ty) (m : M1 X o "pop" apos e cpos) : PE X (.Call (.Attribute o "pop" apos) [e] [] cpos) (tDPop1 td ty) := by
  intro pins s σ H Q I h
  refine wpAny_Call_method m.base m.few m.line PySem.F.plainAttrs_dict PySem.F.slot_dict_pop PySem.F.type_dict_pop (thn (ho pins s σ H _ I h) fun u s1 ⟨x, H1, I1, rx, a, ex, d, q1⟩ => ?_)
  subst ex
  obtain rfl : u = Value.ref a := rx
  obtain ⟨t1, t2, _⟩ := isD_at I1 d
  refine ⟨t1, t2, ?_⟩
  rw [m.trees]
  refine Calls.callWith_builtin rfl (Calls.evalArgs_plain (Calls.spliced_cons (thn (he pins s1 σ H1 _ I1 q1) fun iv s2 ⟨y, H2, I2, ry, kvs, k, v, ea, ey, l, q2⟩ => Calls.spliced_nil ?_)))
  subst ey
  exact d_pop I2 ea ry l (.inl rfl) fun w' s3 I3 rw' => ⟨v, _, I3, rw', q2⟩
theorem pe_dpop2 (ho : PE X o td) (he : PE X e ty) (hf : PE X f tx) (m : M2 X o "pop" apos e f cpos) : PE X (.Call (.Attribute o "pop" apos) [e, f] [] cpos) (tDPop2 td ty tx) := by
  intro pins s σ H Q I h
  refine wpAny_Call_method m.base m.few m.line PySem.F.plainAttrs_dict PySem.F.slot_dict_pop PySem.F.type_dict_pop (thn (ho pins s σ H _ I h) fun u s1 ⟨x, H1, I1, rx, a, ex, d, q1⟩ => ?_)
  subst ex
  obtain rfl : u = Value.ref a := rx
  obtain ⟨t1, t2, _⟩ := isD_at I1 d
  refine ⟨t1, t2, ?_⟩
  rw [m.trees]
  refine Calls.callWith_builtin rfl (Calls.evalArgs_plain (Calls.spliced_cons (thn (he pins s1 σ H1 _ I1 q1) fun iv s2 ⟨y, H2, I2, ry, q2⟩ =>
    Calls.spliced_cons (thn (hf pins s2 σ H2 _ I2 q2) fun fv s3 ⟨z, H3, I3, rz, kvs, k, ea, ey, q3, q4⟩ => Calls.spliced_nil ?_))))
  subst ey
  cases l : valV kvs k with
  | some v => exact d_pop I3 ea ry l (.inr ⟨fv, rfl⟩) fun w' s4 I4 rw' => ⟨v, _, I4, rw', q3 v l⟩
  | none => exact d_popD I3 ea ry l fun s4 I4 => ⟨z, H3, I4, rz, q4 l⟩
end
/-! ### dict(d): a copy -/
section
variable {X : Cx} {pins : List (Addr × Obj)} {σ : St} {H : Hp} {s : Shared} {a : Addr} {kvs : List (Key × V)} {A : Around} {E : Value → Shared → Prop}
end
section
variable {X : Cx} {pins : List (Addr × Obj)} {σ : St} {H : Hp} {s : Shared} {a : Addr} {y : V} {u : Value} {A : Around} {E : Value → Shared → Prop}
end
end L2
namespace L2
open PySem PySem.Spec PyProof.Rows
section
variable {prog : Program} {w : World} {A : Around} {E : Value → Shared → Prop}
end
section
variable {X : Cx}
end
end L2
namespace L2
open PySem PySem.Spec PyProof.Rows
section
variable {X : Cx} {pins : List (Addr × Obj)} {σ : St} {H : Hp} {s : Shared} {h' : Heap}
/-- .. and one new object is laid -/
theorem Inv.turnedNew {t' : Nat} {ch : List Addr} {T : Addr} {ob : HO} (I : Inv X pins σ H s) (k : ∀ b o, b ∉ ch → s.heap.get? b = some o → h'.get? b = some o) (hf : ∀ b ∈ ch, FpOk X pins H b) (hT : s.heap.objs.size ≤ T)
    (new : ObjOk X.prog X.w (upd H T ob) h' T ob) : Inv X pins σ (upd H T ob) { s with heap := h', toks := t' } := by
  have hn : H T = none := I.hok.fresh hT
  have nit : ∀ b u, H b = some u → b ∉ ch := fun b u e z => by
    have q := (hf b z).1
    rw [q] at e; cases e
  refine I.step (g' := s.gens) (d' := s.drawn) (ch := ch) (fun b hb => ⟨(hf b hb).2.2.2.1, (hf b hb).2.1, (hf b hb).2.2.2.2.1, (hf b hb).2.2.2.2.2⟩) (fun b o _ _ hc e _ => k b o hc e) (fun b o _ _ hc e _ => ⟨o.slots, k b o hc e⟩)
    (fun b o _ e n => ?_) (fun b o hc e => ⟨o, k b o hc e⟩) (fun b xs e => ?_) (fun b o u e => ?_) (fun b ps e => ⟨#[], ?_⟩) (fun m hm => ?_) (fun b u e => ?_) I.bare
  · rw [upd_ne (Nat.ne_of_lt (Nat.lt_of_lt_of_le (Heap.lt_size e) hT))]; exact n
  · rw [upd_ne (ne_of_none e hn)]; exact e
  · rw [upd_ne (ne_of_none e hn)]; exact e
  · rw [upd_ne (ne_of_none e hn), e]; simp
  · obtain ⟨o, es, ep, ho, r⟩ := hm
    exact ⟨o, es, ep, k _ o (fun z => (hf _ z).2.1 rfl) ho, r⟩
  · by_cases hb : b = T
    · subst hb
      rw [upd_same] at e
      cases e
      exact new
    · rw [upd_ne hb] at e
      refine (I.hok b u e).stay (fun c v hc q => k c v ?_ q) (fun c q => by rw [upd_ne (ne_of_none q hn)]; exact q) fun c xs q => by rw [upd_ne (ne_of_none q hn)]; exact q
      rcases hc with z | z
      · rw [z]; exact nit b u e
      · exact nit c _ z
/-! ### locking a thing while a statement runs -/
theorem Inv.lock {d : Addr} {u : HO} (I : Inv X pins σ H s) (h : H d = some u) (mu : Mut (some u)) : ∃ od, Inv X pins σ (upd H d (.frz od u)) s := by
  have x := I.hok d u h
  have ex : ∃ od, s.heap.get? d = some od := by
    cases u with
    | lst xs => obtain ⟨_, _, _, _, e⟩ := x; exact ⟨_, e⟩
    | dK kvs => obtain ⟨_, _, _, _, o, _, _, e, _⟩ := x; exact ⟨o, e⟩
    | dT kvs => obtain ⟨_, _, _, _, o, _, _, e, _⟩ := x; exact ⟨o, e⟩
    | set S n => obtain ⟨o, _, _, _, e, _⟩ := x; exact ⟨o, e⟩
    | ins C dx fs => obtain ⟨_, _, _, e, _⟩ := x; exact ⟨_, e⟩
    | ext φ => obtain ⟨_, ⟨_, e⟩, _⟩ := x; exact ⟨_, e⟩
    | _ => exact False.elim mu
  obtain ⟨od, e⟩ := ex
  have new : ObjOk X.prog X.w (upd H d (.frz od u)) s.heap d (.frz od u) := by
    refine ⟨e, x.stay (fun b v _ q => q) (fun b q => ?_) fun b xs q => ?_⟩
    · rw [upd_ne (fun z => by rw [z, h] at q; cases q; exact mu)]; exact q
    · rw [upd_ne (fun z => by rw [z, h] at q; cases q; exact mu)]; exact q
  exact ⟨od, I.write (x := d) (e := d) (t' := s.toks) (h' := s.heap) (by rw [h]; exact mu) (.inl rfl) (fun b v _ q => q) ⟨od, e⟩ new⟩
theorem Inv.nofrz {d : Addr} {u : HO} (I : Inv X pins σ H s) (h : H d = some u) (mu : Mut (some u)) : ∀ o' u', X.H_0 d ≠ some (.frz o' u') := fun o' u' e => by
  have q := I.base.frzs d o' u' e
  rw [h] at q
  cases q
  exact mu
theorem Inv.unlock {d : Addr} {od : Obj} {u : HO} (I : Inv X pins σ H s) (h : H d = some (.frz od u)) (hn : ∀ o' u', X.H_0 d ≠ some (.frz o' u')) : Inv X pins σ (upd H d u) s := by
  have neH : ∀ b o, H b = some o → (∀ o' u', o ≠ .frz o' u') → b ≠ d := fun b o e hne z => by
    rw [z, h] at e
    cases e
    exact hne _ _ rfl
  have neN : ∀ b, H b = none → b ≠ d := fun b e z => by rw [z, h] at e; cases e
  refine ⟨I.ok, I.os, I.bare, ⟨I.base.keep, I.base.slot, fun b o e n hx => ?_, I.base.there, fun b xs e => ?_, fun b o x e => ?_, fun b ps e => ?_⟩, I.loc, I.cell, ?_, fun x c e => ?_, fun p hp => ?_, fun b o e => ?_, I.len⟩
  · rw [upd_ne (neN b (I.base.free b o e n hx))]; exact I.base.free b o e n hx
  · have q := I.base.tups b xs e
    rw [upd_ne (neH b _ q (fun _ _ z => nomatch z))]; exact q
  · have q := I.base.frzs b o x e
    rw [upd_ne (fun z => by rw [z] at e; exact hn _ _ e)]; exact q
  · obtain ⟨m, q⟩ := I.base.tbls b ps e
    exact ⟨m, by rw [upd_ne (neH b _ q (fun _ _ z => nomatch z))]; exact q⟩
  · rw [upd_ne (neN _ I.free)]; exact I.free
  · rw [upd_ne (neN c (I.freeC x c e))]; exact I.freeC x c e
  · obtain ⟨e, n, r⟩ := I.pin p hp
    exact ⟨e, by rw [upd_ne (neN _ n)]; exact n, r⟩
  · by_cases hb : b = d
    · rw [hb, upd_same] at e
      cases e
      rw [hb]
      obtain ⟨_, x⟩ := I.hok d _ h
      exact x.stay (fun c v _ q => q) (fun c q => by rw [upd_ne (neH c _ q (fun _ _ z => nomatch z))]; exact q) fun c xs q => by rw [upd_ne (neH c _ q (fun _ _ z => nomatch z))]; exact q
    · rw [upd_ne hb] at e
      exact (I.hok b o e).stay (fun c v _ q => q) (fun c q => by rw [upd_ne (neH c _ q (fun _ _ z => nomatch z))]; exact q) fun c xs q => by rw [upd_ne (neH c _ q (fun _ _ z => nomatch z))]; exact q
end
/-- the statement runs while the thing at d is locked (read, not written); d and what stands there are the reading's choice -/
def tLock (t : TS) : TS := fun D σ H => ∃ d u, H d = some u ∧ Mut (some u) ∧ ∀ od, t ⟨fun σ' H' => H' d = some (.frz od u) ∧ D.nx σ' (upd H' d u), fun v H' => H' d = some (.frz od u) ∧ D.rt v (upd H' d u), fun σ' H' => H' d = some (.frz od u) ∧ D.bk σ' (upd H' d u), fun σ' H' => H' d = some (.frz od u) ∧ D.ct σ' (upd H' d u)⟩ σ (upd H d (.frz od u))
section
variable {X : Cx}
theorem ps_lock {st : Stmt} {t : TS} (h : PS X st t) : PS X st (tLock t) := by
  intro pins s σ H D I hw
  obtain ⟨d, u, hd, mu, hw⟩ := hw
  obtain ⟨od, I1⟩ := I.lock hd mu
  refine thn (h pins s σ _ _ I1 (hw od)) fun f s1 q => ?_
  cases f with
  | next => obtain ⟨σ', H', I2, e, q⟩ := q; exact ⟨σ', _, I2.unlock e (I.nofrz hd mu), q⟩
  | brk => obtain ⟨σ', H', I2, e, q⟩ := q; exact ⟨σ', _, I2.unlock e (I.nofrz hd mu), q⟩
  | cont => obtain ⟨σ', H', I2, e, q⟩ := q; exact ⟨σ', _, I2.unlock e (I.nofrz hd mu), q⟩
  | ret v => obtain ⟨x, σ', H', I2, r, e, q⟩ := q; exact ⟨x, σ', _, I2.unlock e (I.nofrz hd mu), r, q⟩
/-! ### one iterator just laid -/
theorem pi_one {tg : Expr} {pins : List (Addr × Obj)} {σ : St} {H : Hp} {s : Shared} {R : It → Hp → Prop} {J : It} {tn : Nat → Heap → Prop} {tk : Nat} (I : Inv X pins σ H s) (o : Obj)
    (T : Turn X.prog X.w X.K tg J [s.heap.objs.size] s.heap.objs.size tn) (st : tn 0 (s.heap.push o)) (q : R J H) : PIE X pins σ tg R (.ref s.heap.objs.size) { s with heap := s.heap.push o, toks := tk } := by
  refine ⟨s.heap.objs.size, [s.heap.objs.size], tn, J, H, rfl, I.kept fun b ob e => Heap.get?_push_of_some _ e, T, st, fun b hb => ?_, q⟩
  have e : b = s.heap.objs.size := by simpa using hb
  subst e
  exact I.fpOk (Nat.le_refl _) (I.hok.fresh (Nat.le_refl _))
end
/-! ### range with a step -/
section
variable {X : Cx} {tg : Expr}
end
/-! ### reversed(list) -/
section
variable {X : Cx} {tg : Expr}
end
/-! ### a str -/
/-! ### a dict's keys: any dict's entries -/
section
variable {prog : Program} {w : World} {A : Around} {E : Value → Shared → Prop} {s : Shared}
end
/-! ### a locked dict -/
theorem kv_get {κ : Type} {kvs : List (κ × V)} {vs : List (κ × Value)} (h : KV kvs vs) : ∀ {i : Nat} {k : κ} {v : V}, kvs[i]? = some (k, v) → ∃ u, vs[i]? = some (k, u) ∧ RelV v u := by
  unfold KV at h
  induction h with
  | nil => intro i k v e; simp at e
  | @cons a b l₁ l₂ r t ih =>
    intro i k v e
    cases i with
    | zero =>
      simp only [List.getElem?_cons_zero, Option.some.injEq] at e
      subst e
      refine ⟨b.2, ?_, r.2⟩
      simp only [List.getElem?_cons_zero]
      exact congrArg some (Prod.ext r.1.symm rfl)
    | succ j =>
      simp only [List.getElem?_cons_succ] at e ⊢
      exact ih e
theorem paired_get {α β : Type} {G : α → β → Prop} {l₁ : List α} {l₂ : List β} (h : Paired G l₁ l₂) : ∀ {i : Nat} {a : α}, l₁[i]? = some a → ∃ b, l₂[i]? = some b ∧ G a b := by
  induction h with
  | nil => intro i a e; simp at e
  | @cons a b l₁ l₂ r t ih =>
    intro i a' e
    cases i with
    | zero =>
      simp only [List.getElem?_cons_zero, Option.some.injEq] at e
      subst e
      exact ⟨b, rfl, r⟩
    | succ j =>
      simp only [List.getElem?_cons_succ] at e ⊢
      exact ih e
theorem relV_key {k : Key} {u : Value} (h : keyIs k u = true) : RelV (kV k) u := by
  rcases keyIs_shape h with ⟨i, t, rfl, rfl⟩ | ⟨x, t, rfl, rfl⟩
  · exact ⟨t, rfl⟩
  · exact ⟨t, rfl⟩
section
variable {X : Cx} {pins : List (Addr × Obj)} {σ : St} {H : Hp} {s : Shared} {d : Addr} {o : Obj}
theorem Inv.frzK {kvs : List (Key × V)} (I : Inv X pins σ H s) (h : H d = some (.frz o (.dK kvs))) :
    (d == sysModules) = false ∧ s.heap.get? d = some o ∧ o.ExactDict ∧ ∃ (es : Array DictEntry) (ep : Nat) (vs : List (Key × Value)), o.data = .dict es ep ∧ es.size = kvs.length ∧ KV kvs vs ∧ s.heap.DictAt (mixKind X.prog X.w) d vs ep := by
  obtain ⟨hd, z, hs, vs, kv, o', es, ep, ho, hx, hdt, r⟩ := I.hok d _ h
  rw [hd] at ho
  cases ho
  refine ⟨hs, hd, hx, es, ep, vs, hdt, ?_, kv, o, es, hd, hx, hdt, r⟩
  have l1 := r.2.1.length
  have l2 : kvs.length = vs.length := Paired.length kv
  rw [Array.length_toList] at l1
  omega
end
/-- the pairs, each a new tuple -/
def Iti (d : Addr) (o : Obj) (kvs : List (Key × V)) : It :=
  ⟨fun i H => H d = some (.frz o (.dK kvs)) ∧ i < kvs.length, fun i H x H' => ∃ T k v, kvs[i]? = some (k, v) ∧ x = .ref T ∧ H T = none ∧ H' = upd H T (.tup [kV k, v]), fun i H => H d = some (.frz o (.dK kvs)) ∧ kvs.length ≤ i⟩
theorem dict_ep {o : Obj} {es es' : Array DictEntry} {ep ep' : Nat} (h : o.data = .dict es ep) (h' : o.data = .dict es' ep') : es' = es ∧ ep' = ep := by
  rw [h] at h'
  cases h'
  exact ⟨rfl, rfl⟩
section
variable {P : Program} {w : World} {K : PySem.W.Frag} {tg : Expr} {d : Addr} {o : Obj} {es : Array DictEntry} {ep : Nat}
theorem turn_items {kvs : List (Key × V)} {elts : List Expr} {kk : Nat} {tpos : Pos} (it : Addr) (hod : o.data = .dict es ep) :
    Turn P w K (.Tuple elts kk tpos) (Iti d o kvs) [it] it (fun i h => ∃ ok ov, IsItemIter h it d i kvs.length ep ok ov) where
  mem := by simp
  obj := fun i h st b hb => by
    have e : b = it := by simpa using hb
    subst e
    obtain ⟨ok, ov, e⟩ := st
    exact ⟨_, e, fun v z => nomatch z⟩
  keep := fun i h h' st k => let ⟨ok, ov, e⟩ := st; ⟨ok, ov, k it (by simp) _ e⟩
  item := by
    intro X hP hw hK hc i pins s σ H E I hf st hg
    subst hP hw hK
    obtain ⟨hd, hi⟩ := hg
    obtain ⟨hs, hgd, hx, es', ep', vs, hdt, hsz, kv, hm⟩ := I.frzK hd
    obtain ⟨rfl, rfl⟩ := dict_ep hod hdt
    obtain ⟨⟨k, v⟩, hkv⟩ : ∃ p, kvs[i]? = some p := ⟨kvs[i], List.getElem?_eq_getElem hi⟩
    obtain ⟨u, hu, ru⟩ := kv_get kv hkv
    have hl : kvs.length = vs.length := Paired.length kv
    obtain ⟨ok, ov, he⟩ := st
    rw [hl] at he
    have hlt : it < s.heap.objs.size := Heap.lt_size he
    refine wpAny_pyNext_items_item he hm hu fun key h' hkey ho hT hz hk => ?_
    refine ⟨_, rfl, wpAny_letOwnedTupleGo_items (s := { s with heap := h' }) ho fun h'' he' sb => ?_⟩
    have hT2 : h''.get? s.heap.objs.size = some { cls := .type "tuple", data := .seq #[key, u] } := (sb.2 _ (Nat.ne_of_gt hlt)).trans hT
    have new : ObjOk X.prog X.w (upd H s.heap.objs.size (.tup [kV k, v])) h'' s.heap.objs.size (.tup [kV k, v]) :=
      ⟨by show 2 ≤ sizeLine; decide, [key, u], .cons (relV_key (show keyIs k key = true from hkey)) (.cons ru .nil), ⟨_, hT2, rfl, _, rfl⟩⟩
    have I1 : Inv X pins σ (upd H s.heap.objs.size (.tup [kV k, v])) { s with heap := h'' } :=
      I.turnedNew (t' := s.toks) (ch := [it]) (fun b ob hb e => (sb.2 b (by simpa using hb)).trans (hk b ob (by simpa using hb) e)) hf (Nat.le_refl _) new
    refine ⟨.ref s.heap.objs.size, _, I1, rfl, ⟨_, k, v, hkv, rfl, I.hok.fresh (Nat.le_refl _), rfl⟩, ⟨key, u, ?_⟩, fun b hb => ?_⟩
    · rw [hl]; exact he'
    · have e : b = it := by simpa using hb
      rw [e, upd_ne (Nat.ne_of_lt hlt)]
      exact (hf it (by simp)).1
  done := by
    intro X hP hw hK hc i pins s σ H E I hf st hg
    subst hP hw hK
    obtain ⟨hd, hi⟩ := hg
    obtain ⟨f0, f1, f2, f3, f4, f5⟩ := hf it (by simp)
    obtain ⟨hs, hgd, hx, es', ep', vs, hdt, hsz, kv, hm⟩ := I.frzK hd
    obtain ⟨rfl, rfl⟩ := dict_ep hod hdt
    have hl : kvs.length = vs.length := Paired.length kv
    obtain ⟨ok, ov, he⟩ := st
    rw [hl] at he
    exact wpAny_pyNext_items_end (I.ok.hd hc) he hm (List.getElem?_eq_none (by omega)) fun h' eb => ⟨rfl, I.turned (t' := s.toks) (fun b ob hb e => eb b ob hb e) f0 f1 f3 f4 f5⟩
  self := fun A i s Q E st h => let ⟨_, _, e⟩ := st; PySem.W.kcp_self e h
end
/-! ### for k in d, d.keys(), d.values(), d.items() -/
def iItems (td : TE) : TI := fun σ H R => td σ H fun x H1 => ∃ d o kvs, x = .ref d ∧ H1 d = some (.frz o (.dK kvs)) ∧ R (Iti d o kvs) H1
section
variable {X : Cx} {tg e : Expr} {td : TE} {apos cpos : Pos}
theorem pi_items {elts : List Expr} {kk : Nat} {tpos : Pos} (he : PE X e td) (hbase : attributeBase e "items" X.env (eval e X.env) = eval e X.env := by rfl) (hline : (apos.endLine == cpos.line) = true := by rfl) :
    PI X (.Tuple elts kk tpos) (.Call (.Attribute e "items" apos) [] [] cpos) (iItems td) := by
  intro pins s σ H R I h
  refine wpAny_Call_method (T := "dict") (id := "dict.items") hbase rfl hline F.plainAttrs_dict F.slot_dict_items F.type_dict_items (thn (he pins s σ H _ I h) fun u s1 ⟨x, H1, I1, rx, d, o, kvs, ex, hd, q⟩ => ?_)
  subst ex
  obtain rfl : u = Value.ref d := rx
  obtain ⟨hs, hgd, hx, es, ep, vs, hdt, hsz, kv, hm⟩ := I1.frzK hd
  have hl : kvs.length = vs.length := Paired.length kv
  refine ⟨hm.dictOf.typeIs, hm.dictOf.mapOf.noDict, ?_⟩
  have I2 : Inv X pins σ H1 { s1 with heap := s1.heap.push { cls := .type "dict_items", data := .fields #[.ref d] } } := I1.kept (t' := s1.toks) fun b ob q => Heap.get?_push_of_some _ q
  have fin : wpAny (model X.prog X.w) X.A (pyIter (.ref s1.heap.objs.size)) (PIE X pins σ (.Tuple elts kk tpos) R) X.xe { s1 with heap := s1.heap.push { cls := .type "dict_items", data := .fields #[.ref d] } } := by
    refine wpAny_pyIter_items (d := d) (knd := mixKind X.prog X.w) ⟨_, Heap.get?_push_size _ rfl, rfl, rfl⟩ (hm.push _) (pi_one (tk := s1.toks) I2 _ (turn_items _ hdt) ⟨.none, .none, ?_⟩ q)
    rw [hl]
    exact Heap.get?_push_size _ rfl
  show wpAny _ _ (callWith cpos (.builtin "dict.items") [.ref d] [] []) _ X.xe s1
  exact method_meetsIn F.slot_dict_items F.entry_dict_items rfl (PySem.evalArgs_none ⟨rfl, hm.dictOf.typeIs, F.args_dict_items_1 _, _, meets_dict_items (mixKind X.prog X.w) d hs, ⟨vs, hm.dictOf⟩, fin⟩)
end
/-! ### enumerate(list) -/
/-- the list at a as it stands at each turn, each item in a new pair -/
def Ite (K : PySem.W.Frag) (a : Addr) : It :=
  ⟨fun i H => ∃ (xs : List V) (x : V), SqL K H a xs ∧ xs[i]? = some x, fun i H v H' => ∃ T x, v = .ref T ∧ H T = none ∧ H' = upd H T (.tup [.int (i : Nat), x]) ∧ ∀ xs, SqL K H a xs → xs[i]? = some x, fun i H => ∃ xs : List V, SqL K H a xs ∧ xs.length ≤ i⟩
theorem turn_enum {P : Program} {w : World} {K : PySem.W.Frag} {elts : List Expr} {kk : Nat} {tpos : Pos} (a e it : Addr) :
    Turn P w K (.Tuple elts kk tpos) (Ite K a) [e, it] e (fun i h => (∃ old, IsEnum h e it ((i : Nat) : Int) old) ∧ h.IsListIter it a i ∧ e ≠ it) where
  mem := by simp
  obj := fun i h st b hb => by
    obtain ⟨⟨old, he⟩, ⟨o, ho, hc, hd⟩, _⟩ := st
    have e' : b = e ∨ b = it := by simpa using hb
    rcases e' with z | z
    · rw [z]; exact ⟨_, he, fun v q => nomatch q⟩
    · rw [z]; exact ⟨o, ho, fun v q => by rw [hd] at q; cases q⟩
  keep := fun i h h' st k => let ⟨⟨old, he⟩, hi, hne⟩ := st; ⟨⟨old, k e (by simp) _ he⟩, hi.at fun o q => k it (by simp) o q, hne⟩
  item := by
    intro X hP hw hK hc i pins s σ H E I hf st hg
    subst hP hw hK
    obtain ⟨⟨old, he⟩, hit, hne⟩ := st
    obtain ⟨xs, x, hq, hx⟩ := hg
    obtain ⟨its, rv, p, hz⟩ := I.list hq
    obtain ⟨u, hu, ru⟩ := rv.get hx
    have hel : e < s.heap.objs.size := Heap.lt_size he
    have hil : it < s.heap.objs.size := by obtain ⟨_, q, _⟩ := hit; exact Heap.lt_size q
    refine wpAny_pyNext_enum_item he hit p.isList (x := u) (by simpa using hu) hne fun h' ho hit' hT hsz hk => ?_
    refine ⟨_, rfl, wpAny_letOwnedTupleGo_enum (s := { s with heap := h', toks := s.toks + 1 }) ho fun h'' he' sb => ?_⟩
    have hT2 : h''.get? s.heap.objs.size = some { cls := .type "tuple", data := .seq #[.int i s.toks, u] } := (sb.2 _ (Nat.ne_of_gt hel)).trans hT
    have new : ObjOk X.prog X.w (upd H s.heap.objs.size (.tup [.int (i : Nat), x])) h'' s.heap.objs.size (.tup [.int (i : Nat), x]) :=
      ⟨by show 2 ≤ sizeLine; decide, [.int i s.toks, u], .cons ⟨_, rfl⟩ (.cons ru .nil), ⟨_, hT2, rfl, _, rfl⟩⟩
    have I1 : Inv X pins σ (upd H s.heap.objs.size (.tup [.int (i : Nat), x])) { s with heap := h'', toks := s.toks + 1 } :=
      I.turnedNew (ch := [e, it]) (fun b ob hb q => (sb.2 b (fun z => hb (by simp [z]))).trans (hk b ob (fun z => hb (by simp [z])) (fun z => hb (by simp [z])) q)) hf (Nat.le_refl _) new
    refine ⟨.ref s.heap.objs.size, _, I1, rfl, ⟨_, x, rfl, I.hok.fresh (Nat.le_refl _), rfl, fun ys hy => by rw [I.list_inj hy hq]; exact hx⟩, ⟨⟨u, ?_⟩, hit'.at fun o q => (sb.2 it (Ne.symm hne)).trans q, hne⟩, fun b hb => ?_⟩
    · have e1 : ((i + 1 : Nat) : Int) = (i : Int) + 1 := by omega
      rw [e1]; exact he'
    · have hb' : b < s.heap.objs.size := by
        have e' : b = e ∨ b = it := by simpa using hb
        rcases e' with z | z
        · rw [z]; exact hel
        · rw [z]; exact hil
      rw [upd_ne (Nat.ne_of_lt hb')]
      exact (hf b hb).1
  done := by
    intro X hP hw hK hc i pins s σ H E I hf st hg
    subst hP hw hK
    obtain ⟨⟨old, he⟩, hit, hne⟩ := st
    obtain ⟨xs, hq, hx⟩ := hg
    obtain ⟨its, rv, p, hz⟩ := I.list hq
    obtain ⟨f0, f1, f2, f3, f4, f5⟩ := hf it (by simp)
    have hl := rv.length
    exact wpAny_pyNext_enum_end (I.ok.hd hc) he hit p.isList (by simp; omega) fun h' eb => ⟨rfl, I.turned (t' := s.toks) (fun b o hb q => eb b o hb q) f0 f1 f3 f4 f5⟩
  self := fun A i s Q E st h => let ⟨⟨_, he⟩, _⟩ := st; wpAny_pyIter_enum he h
def iEnum (K : PySem.W.Frag) (ta : TA) : TI := fun σ H R => ta σ H fun vs H1 => ∃ a xs, vs = [.ref a] ∧ SqL K H1 a xs ∧ R (Ite K a) H1
theorem pi_enum {X : Cx} {e : Expr} {ta : TA} {p pos tpos : Pos} {elts : List Expr} {kk : Nat} (hg : Gl X "enumerate") (hm : X.mg "enumerate" = none) (ha : PA X [e] ta) (hs : starEach [e] X.env = [(false, eval e X.env)] := by rfl) :
    PI X (.Tuple elts kk tpos) (.Call (.Name "enumerate" p) [e] [] pos) (iEnum X.K ta) := by
  intro pins s σ H R I h
  refine Call_ (ld_blt I hg hm boot_enumerate (PyProof.Rows.callWith_type1 (thn (ha pos pins s σ H _ I h) fun us s1 ⟨vs, H1, I1, r1, q1⟩ => ?_) hs rfl))
  obtain ⟨a, xs, ex, hq, q⟩ := q1
  subst ex
  cases r1 with
  | cons r rr =>
    cases rr
    cases r
    obtain ⟨its, rv, p', hz⟩ := I1.list hq
    refine call_enumerate_list p'.isList fun h' he hit hsz hk => wpAny_pyIter_enum he ?_
    have I2 : Inv X pins σ H1 { s1 with heap := h' } := I1.kept (t' := s1.toks) hk
    refine ⟨s1.heap.objs.size + 1, [s1.heap.objs.size + 1, s1.heap.objs.size], _, _, H1, rfl, I2, turn_enum a (s1.heap.objs.size + 1) s1.heap.objs.size, ⟨⟨.none, he⟩, hit, Nat.succ_ne_self _⟩, fun b hb => ?_, q⟩
    have e' : b = s1.heap.objs.size + 1 ∨ b = s1.heap.objs.size := by simpa using hb
    have hle : s1.heap.objs.size ≤ b := by
      rcases e' with z | z
      · rw [z]; exact Nat.le_add_right _ _
      · rw [z]; exact Nat.le_refl _
    exact I1.fpOk hle (I1.hok.fresh hle)
/-! ### zip(list, list) -/
end L2
section
namespace Bits
open PySem PyProof.Rows
end Bits
end
section
namespace TL
open PySem PySem.Builtin PySem.Builtin.Str PySem.StrLaws
/-! ### the list functions -/
/-! ### the model's split and partition are these -/
/-! ### computing spl and par -/
/-! ### digits -/
/-! ### words: x.split() -/
end TL
end
namespace L2
open PySem PySem.Spec PyProof.Rows
section
variable {X : Cx} {pins : List (Addr × Obj)} {σ : St} {H : Hp} {s : Shared} {Q : VK}
end
section
variable {X : Cx}
/-! ### of a text alone -/
/-! ### of a text and a text -/
end
section
variable {X : Cx} {o e : Expr} {to te : TE}
end
end L2
namespace L2
open PySem PySem.Spec PyProof.Rows
section
variable {X : Cx}
end
/-! ### slices of a text -/
end L2
namespace Att
open PySem PySem.W PySem.Calls PyProof.Rows
/-! ### the script -/
/-! ### the attachment: holds_open's last premise (the goal 'hc' behind k_head) from a wpAny of the law's body -/
/-! ### rules over ANY heap (no ledger) from facts about the written part K: the library's own take a ledger (News) for what they write -/
section
variable {prog : Program} {w : World} {A : Around} {E : Value → Shared → Prop} {s : Shared} {K : Frag}
/-! the whole heap as the ledger: makes every rule that writes through a ledger a rule over any heap -/
end
end Att
namespace L2
open PySem PySem.Spec PyProof.Rows
end L2
namespace L2
open PySem PySem.Spec PyProof.Rows
abbrev KOf {K : PySem.W.Frag} {h : Heap} (_ : K.In h) : PySem.W.Frag := K
end L2
/- THE LAST THEOREM (shape; LID, My.* are yours):
   My.Adr: a structure of the addresses that your layer names (classes, functions); My.Txt K t: a structure (Prop) of the equations over K;
   My.txt_mk : {K} {implicit addresses ..} (e1 : nsIn K mainGlobals "law" = some (some (.ref f))) (e2 : K.lookup f = some ⟨oc, od, .func (fnOf "law" "law" params body scope dV kV doc pm an cdv ct), sl⟩) (e3 : codeIn K cdv "law" = true) .. : ∃ t, My.Txt K t
set_option maxRecDepth 100000 in
set_option maxHeartbeats 0 in
theorem PySem.Challenge.cw_LID_holds : PySem.Challenge.rw_LID.Holds := by
  w_on; o_law; k_head; (case hw => w_witness2)
  k_fill
  refine L2.walk_of (l := PySem.Challenge.rw_LID) (n := 63) (k := 40) (x := "script") (CX := fun w => ..) (sp := fun _ => My.sp_law) rfl (by decide) rfl ⟨rfl, by decide, by decide⟩ (fun w h Y => PySem.W.kIn_of Y) ?F ?S ?C
  case F =>
    intro w mg fa h KX G hmg
    have T : ∃ t, My.Txt (L2.KOf KX) t := by
      dsimp only [L2.KOf]                          -- K must stand as «<heap const> w.params» for k_is
      refine' My.txt_mk ?e1 ?e2 ?e3 ..
      (case e1 => PySem.W.k_is)                    -- in the order: a name -> its address -> its object -> its parts
      (case e2 => PySem.W.k_is)
      ..
    obtain ⟨t, T⟩ := T
    have e0 := hmg.symm.trans (PySem.W.mg_of KX G T.law)
    cases e0                                       -- fa is the law's own address
    exact ⟨_, fun s u => .of_eq rfl, fun base kb nb => My.law_fn T kb nb⟩     -- if «.of_eq rfl» comes too early: refine' ⟨_, ?b, fun base kb nb => My.law_fn T kb nb⟩; exact fun s u => .of_eq rfl
  case S => exact fun w H a ns hl hO hS => ..
  case C => exact ..
(the tactic k_is has no namespace: write k_is) -/
/-! SHORT WORDS over the layer: a def of the text, its body, what a loop and a test want. -/
namespace L2
open PySem PySem.Spec PyProof.Rows
/-! ### the text by places -/
/-- the j-th statement of a class's body -/
def inClass (s : Stmt) (j : Nat) : Stmt := match s with
  | .ClassDef _ _ _ body _ _ _ _ _ _ _ => body.getD j (.Pass ⟨0, 0, 0, 0⟩)
  | _ => .Pass ⟨0, 0, 0, 0⟩
def defArgs (s : Stmt) : Arguments := match s with
  | .FunctionDef _ a _ _ _ _ _ _ _ _ => a
  | _ => { posonlyargs := [], args := [], vararg := none, kwonlyargs := [], kw_defaults := [], kwarg := none, defaults := [] }
def defBody (s : Stmt) : List Stmt := match s with
  | .FunctionDef _ _ b _ _ _ _ _ _ _ => b
  | _ => []
def defScope (s : Stmt) : Scope := match s with
  | .FunctionDef _ _ _ _ _ _ sc _ _ _ => sc
  | _ => { kind := .function, names := [], isGenerator := false, isCoroutine := false }
/-! ### no exception leaves a def -/
abbrev CX0 : CXT := fun _ _ _ _ _ _ => False
abbrev E0 : XK := fun _ _ _ => False
theorem pass0 {X : Cx} : Passes CX0 X E0 := fun _ _ _ _ _ _ _ h => h.elim
/-! ### a def (or method) of the text as it stands behind the top -/
structure Fun (K : PySem.W.Frag) (x qual : Str) (st : Stmt) (f : Addr) (fd : FuncData) : Prop where
  ex : ∃ (oc : Value) (od : Option Addr) (kV doc pm : Value) (an : Option Addr) (cdv ct : Value) (osl : Array (Option Value)),
    fd = PySem.W.fnOf x qual (defArgs st) (defBody st) (defScope st) .none kV doc pm an cdv ct ∧ K.lookup f = some ⟨oc, od, .func fd, osl⟩ ∧ PySem.W.codeIn K cdv qual = true
  kp : PySem.W.keepIn K (.ref f) = true
section
variable {P : Program} {w : World} {K : PySem.W.Frag} {mg : Str → Option Value} {base : Heap}
/-- THE RULE for a def: its body as a term of rules, and the reading of that term -/
theorem Fun.ok {x qual : Str} {st : Stmt} {f : Addr} {fd : FuncData} {N ps : List Str} {k : Nat} {sp : Sp} (F : Fun K x qual st f fd) (S : FnScope N ps (defScope st)) (len : ∀ vs H Q E, sp vs H Q E → vs.length = ps.length)
    (hbody : ∀ (cdv : Value) (A : Around) (outer : List Env) (s : Shared) (H : Hp) (vs : List V) (Q : VK) (E : XK), Room k (A.deeper (envOfC qual (defScope st) s.heap.objs.size f cdv)) → sp vs H Q E →
      ∃ t, PSs (cxOf CX0 P w K mg base N qual (defScope st) f cdv A outer s H E).nox (defBody st) t ∧ t { nx := fun _ H' => Q .non H', rt := Q } (start N vs) H) : FnOk P w K mg base CX0 (k + 1) f fd ps sp := by
  obtain ⟨oc, od, kV, doc, pm, an, cdv, ct, osl, rfl, lk, hcd⟩ := F.ex
  refine fn_of lk hcd S len fun A outer s H vs Q E hr hsp => ?_
  obtain ⟨t, h, q⟩ := hbody cdv A outer s H vs Q E hr hsp
  exact ⟨t, h.nox, q⟩
/-- how its arguments bind (no defaults): h is «fun _ _ _ _ _ _ us hl => match us, hl with | [_, _], _ => rfl», one _ a parameter -/
theorem Fun.binds {x qual : Str} {st : Stmt} {f : Addr} {fd : FuncData} {ps : List Str} (F : Fun K x qual st f fd)
    (h : ∀ (kV doc pm : Value) (an : Option Addr) (cdv ct : Value) (us : List Value), us.length = ps.length → bindArgs (PySem.W.fnOf x qual (defArgs st) (defBody st) (defScope st) .none kV doc pm an cdv ct) ⟨us, []⟩ = pure (ps.zip us)) : Binds K fd ps [] := by
  obtain ⟨oc, od, kV, doc, pm, an, cdv, ct, osl, rfl, lk, hcd⟩ := F.ex
  exact .all (h kV doc pm an cdv ct)
theorem fun_mk {x qual : Str} {st : Stmt} {f : Addr} {oc : Value} {od an : Option Addr} {osl : Array (Option Value)} {kV doc pm cdv ct : Value} (l : K.lookup f = some ⟨oc, od, .func (PySem.W.fnOf x qual (defArgs st) (defBody st) (defScope st) .none kV doc pm an cdv ct), osl⟩)
    (c : PySem.W.codeIn K cdv qual = true) (k : PySem.W.keepIn K (.ref f) = true) : Fun K x qual st f (PySem.W.fnOf x qual (defArgs st) (defBody st) (defScope st) .none kV doc pm an cdv ct) := ⟨⟨oc, od, kV, doc, pm, an, cdv, ct, osl, rfl, l, c⟩, k⟩
end
theorem hu_of {A : Around} {k : Nat} (hr : Room k A) : A.units + 1 < cLine := Nat.lt_of_le_of_lt (Nat.add_le_add_left (by decide : 1 ≤ 64) _) hr.units
theorem small1000 {n : Nat} (h : n ≤ 1000) : n < sizeLine := Nat.lt_of_le_of_lt h (by decide)
/-! ### expressions in short: the name that stands in the i-th slot -/
section
variable {X : Cx}
theorem pv (i : Nat) {x : Str} {pos : Pos} (hN : X.N[i]? = some x := by rfl) (hv : Vis X.env.scope x := by first | exact Or.inl rfl | exact Or.inr (Or.inl rfl) | exact Or.inr (Or.inr rfl)) (hd : (x == ("__debug__" : Str)) = false := by decide)
    (hcd : (x == ("__classdict__" : Str)) = false := by decide) : PE X (.Name x pos) (tVar i) := pe_var hN hv hd hcd
/-- len of a dict -/
theorem call_lenD : CallR X (.builtin "len") (fun xs H Q => ∃ a kvs, xs = [V.ref a] ∧ H a = some (.dK kvs) ∧ Q (.int kvs.length) H) := by
  intro pins s σ H xs us Q I r h
  obtain ⟨a, kvs, rfl, ha, q⟩ := h
  obtain ⟨u, rfl, ru⟩ := vals1 r
  cases ru
  exact d_len I (.inl ha) fun t s' I' => ⟨.int kvs.length, H, I', ⟨t, rfl⟩, q⟩
end
/-! ### tests -/
theorem iteF {A B : Prop} (h : B) : if false = true then A else B := by
  rw [if_neg Bool.false_ne_true]
  exact h
theorem iteT {A B : Prop} (h : A) : if true = true then A else B := by
  rw [if_pos rfl]
  exact h
theorem ite2 {c A B : Prop} [Decidable c] (h1 : c → A) (h2 : ¬ c → B) : if c then A else B := by
  by_cases h : c
  · rw [if_pos h]
    exact h1 h
  · rw [if_neg h]
    exact h2 h
/-! ### heaps -/
/-- all that was tracked is as it was -/
def Same (H H' : Hp) : Prop := ∀ b o, H b = some o → H' b = some o
theorem Same.seq {K : PySem.W.Frag} {H H' : Hp} {a : Addr} {xs : List V} (e : Same H H') (h : SqL K H a xs) : SqL K H' a xs := by
  rcases h with (h | ⟨o, h⟩) | h
  · exact .inl (.inl (e _ _ h))
  · exact .inl (.inr ⟨o, e _ _ h⟩)
  · exact .inr h
/-! ### a dict's pairs: keys that differ -/
section
variable {κ : Type} [DecidableEq κ]
end
/-! ### lists -/
end L2
section
set_option maxRecDepth 100000
set_option maxHeartbeats 2000000
namespace L2
open PySem PySem.Spec PyProof.Rows
open PySem.W (WData Codec OpenSpec Well WellAll ReadsW ReadsAllW)
/-! ### an answer as data -/
mutual
/-- x stands for the datum d, lists and tuples all the way -/
inductive Dw (K : PySem.W.Frag) (H : Hp) : V → WData → Prop
  | non : Dw K H .non .none
  | bl (b : Bool) : Dw K H (.bl b) (.bool b)
  | int (i : Int) : Dw K H (.int i) (.int i)
  | str (x : Str) : Dw K H (.str x) (.str x)
  | byt (b : Array UInt8) : Dw K H (.byt b) (.bytes b.toList)
  | lst {a : Addr} {xs : List V} {ds : List WData} : SqL K H a xs → DwAll K H xs ds → Dw K H (.ref a) (.list ds)
  | tup {a : Addr} {xs : List V} {ds : List WData} : SqT K H a xs → DwAll K H xs ds → Dw K H (.ref a) (.tuple ds)
inductive DwAll (K : PySem.W.Frag) (H : Hp) : List V → List WData → Prop
  | nil : DwAll K H [] []
  | cons {v : V} {vs : List V} {d : WData} {ds : List WData} : Dw K H v d → DwAll K H vs ds → DwAll K H (v :: vs) (d :: ds)
end
theorem dw_ints {K : PySem.W.Frag} {H : Hp} : ∀ ns : List Int, DwAll K H (ns.map V.int) (ns.map WData.int)
  | [] => .nil
  | n :: r => .cons (.int n) (dw_ints r)
theorem ints_dw {K : PySem.W.Frag} {H : Hp} : ∀ (ns : List Int) (xs : List V), DwAll K H xs (ns.map WData.int) → xs = ns.map V.int
  | [], xs, h => by
    cases h
    rfl
  | n :: r, xs, h => by
    cases h with
    | cons h1 h2 =>
      cases h1
      rw [ints_dw r _ h2] <;> rfl
section
variable {P : Program} {w : World} {K : PySem.W.Frag} {H : Hp} {h : Heap} {R : PySem.W.WRecords} {cl : Str → Option Addr}
theorem sqL_at {a : Addr} {xs : List V} (hok : HOk P w H h) (KX : K.In h) (q : SqL K H a xs) : ∃ (its : List Value) (o : Obj) (n : Nat), Vals xs its ∧ h.get? a = some o ∧ o.cls = .type "list" ∧ o.data = .seq its.toArray n := by
  rcases q with q | ⟨o, its, n, e, hc, _, hd, _, hv⟩
  · obtain ⟨_, its, n, hv, e⟩ := (show ObjOk P w H h a (.lst xs) from q.ok hok)
    exact ⟨its, _, n, hv, e, rfl, rfl⟩
  · exact ⟨its.toList, o, n, hv, KX _ _ e, hc, by simp [hd]⟩
theorem sqT_at {a : Addr} {xs : List V} (hok : HOk P w H h) (KX : K.In h) (q : SqT K H a xs) : ∃ (its : List Value) (o : Obj) (n : Nat), Vals xs its ∧ h.get? a = some o ∧ o.cls = .type "tuple" ∧ o.data = .seq its.toArray n := by
  rcases q with q | ⟨o, its, n, e, hc, hd, _, hv⟩
  · obtain ⟨_, its, hv, o, e, hc, n, hd⟩ := (show ObjOk P w H h a (.tup xs) from q.ok hok)
    exact ⟨its, o, n, hv, e, hc, hd⟩
  · exact ⟨its.toList, o, n, hv, KX _ _ e, hc, by simp [hd]⟩
mutual
theorem Dw.reads (hok : HOk P w H h) (KX : K.In h) : ∀ (d : WData) (v : V) (u : Value), Dw K H v d → RelV v u → ∃ as, ReadsW R cl h u d as
  | .none, _, _, x, r => by
    cases x
    cases r
    exact ⟨_, ReadsW.none⟩
  | .bool b, _, _, x, r => by
    cases x
    cases r
    exact ⟨_, ReadsW.bool b⟩
  | .int i, _, _, x, r => by
    cases x
    obtain ⟨t, rfl⟩ := r
    exact ⟨_, ReadsW.int i t⟩
  | .str s, _, _, x, r => by
    cases x
    obtain ⟨t, rfl⟩ := r
    exact ⟨_, ReadsW.str s t⟩
  | .bytes b, _, _, x, r => by
    cases x
    obtain ⟨t, rfl⟩ := r
    exact ⟨_, ReadsW.bytes _ t⟩
  | .list ds, _, _, x, r => by
    cases x with
    | lst hs ha =>
      cases r
      obtain ⟨its, o, n, rv, ho, hc, hd⟩ := sqL_at hok KX hs
      obtain ⟨as, hr⟩ := Dw.readsAll hok KX ds _ its ha rv
      exact ⟨_, ReadsW.list ho hc hd hr⟩
  | .tuple ds, _, _, x, r => by
    cases x with
    | tup hs ha =>
      cases r
      obtain ⟨its, o, n, rv, ho, hc, hd⟩ := sqT_at hok KX hs
      obtain ⟨as, hr⟩ := Dw.readsAll hok KX ds _ its ha rv
      exact ⟨_, ReadsW.tuple ho hc hd hr⟩
  | .float _, _, _, x, _ => by cases x
  | .dict _, _, _, x, _ => by cases x
  | .bytearray _, _, _, x, _ => by cases x
  | .set _, _, _, x, _ => by cases x
  | .frozenset _, _, _, x, _ => by cases x
  | .obj _ _, _, _, x, _ => by cases x
theorem Dw.readsAll (hok : HOk P w H h) (KX : K.In h) : ∀ (ds : List WData) (vs : List V) (us : List Value), DwAll K H vs ds → Vals vs us → ∃ as, ReadsAllW R cl h us ds as
  | [], _, _, x, r => by
    cases x
    cases r
    exact ⟨_, ReadsAllW.nil⟩
  | d :: ds, _, _, x, r => by
    cases x with
    | cons h1 h2 =>
      cases r with
      | cons r1 r2 =>
        obtain ⟨as, q1⟩ := Dw.reads hok KX d _ _ h1 r1
        obtain ⟨bs, q2⟩ := Dw.readsAll hok KX ds _ _ h2 r2
        exact ⟨_, ReadsAllW.cons q1 q2⟩
end
end
/-! ### the arguments -/
mutual
/-- data that a codec tells -/
def plW : WData → Bool
  | .none => true
  | .bool _ => true
  | .int _ => true
  | .str _ => true
  | .bytes _ => true
  | .list xs => plWs xs
  | .tuple xs => plWs xs
  | _ => false
def plWs : List WData → Bool
  | [] => true
  | x :: r => plW x && plWs r
end
theorem plWs_map {α : Type} {f : α → WData} (h : ∀ a, plW (f a) = true) : ∀ l : List α, plWs (l.map f) = true
  | [] => rfl
  | x :: r => by
    show (plW (f x) && plWs (r.map f)) = true
    rw [h x, plWs_map h r] <;> rfl
theorem pl_enc : ∀ (c : Codec) (a : c.denote), plW (c.enc a) = true
  | .unit, _ => rfl
  | .bool, _ => rfl
  | .int _ _, _ => rfl
  | .nat _ _, _ => rfl
  | .u8, _ => rfl
  | .bytes _ _, _ => rfl
  | .text _ _ _ _, _ => rfl
  | .list _ _ c, a => plWs_map (fun x => pl_enc c x) a
  | .pair c d, a => by
    show (plW (c.enc a.1) && (plW (d.enc a.2) && true)) = true
    rw [pl_enc c a.1, pl_enc d a.2] <;> rfl
  | .triple c d e, a => by
    show (plW (c.enc a.1) && (plW (d.enc a.2.1) && (plW (e.enc a.2.2) && true))) = true
    rw [pl_enc c a.1, pl_enc d a.2.1, pl_enc e a.2.2] <;> rfl
  | .option c, none => rfl
  | .option c, some x => pl_enc c x
theorem pl_encAll : ∀ (cs : List Codec) (a : Codec.denoteAll cs), plWs (Codec.encAll cs a) = true
  | [], _ => rfl
  | c :: cs, a => by
    show (plW (c.enc a.1) && plWs (Codec.encAll cs a.2)) = true
    rw [pl_enc c a.1, pl_encAll cs a.2] <;> rfl
theorem weight_mem : ∀ {xs : List WData} {d : WData}, d ∈ xs → d.weight ≤ WData.weightAll xs
  | [], d, h => absurd h (by simp)
  | x :: r, d, h => by
    show d.weight ≤ x.weight + 1 + WData.weightAll r
    rcases List.mem_cons.mp h with e | m
    · rw [e]
      omega
    · have z := weight_mem m
      omega
def toV : Value → V
  | .none => .non
  | .bool b => .bl b
  | .int i _ => .int i
  | .str x _ => .str x
  | .bytes b _ => .byt b
  | .ref a => .ref a
  | _ => .non
/-- a value of the arguments, its objects among A -/
def OkU (A : List Addr) : Value → Prop
  | .none => True
  | .bool _ => True
  | .int _ _ => True
  | .str _ _ => True
  | .bytes _ _ => True
  | .ref a => a ∈ A
  | _ => False
theorem OkU.mono {A B : List Addr} (h : ∀ a ∈ A, a ∈ B) : ∀ {u : Value}, OkU A u → OkU B u := fun {u} x => by
  cases u with
  | ref a => exact h a x
  | none => trivial
  | bool b => trivial
  | int i t => trivial
  | str s t => trivial
  | bytes b t => trivial
  | _ => exact False.elim x
theorem relV_toV {A : List Addr} {u : Value} (x : OkU A u) : RelV (toV u) u := by
  cases u with
  | ref a => rfl
  | none => rfl
  | bool b => rfl
  | int i t => exact ⟨t, rfl⟩
  | str s t => exact ⟨t, rfl⟩
  | bytes b t => exact ⟨t, rfl⟩
  | _ => exact False.elim x
theorem vals_toV {A : List Addr} : ∀ {vs : List Value}, (∀ u ∈ vs, OkU A u) → Vals (vs.map toV) vs
  | [], _ => .nil
  | u :: r, h => .cons (relV_toV (h u (List.mem_cons_self ..))) (vals_toV fun x hx => h x (List.mem_cons_of_mem _ hx))
/-- an object of the arguments -/
def ArgOb (h : Heap) (A : List Addr) (a : Addr) : Prop := ∃ vs : List Value, vs.length ≤ sizeLine ∧ (∀ u ∈ vs, OkU A u) ∧
  (h.get? a = some { cls := .type "list", data := .seq vs.toArray } ∨ h.get? a = some { cls := .type "tuple", data := .seq vs.toArray })
theorem ArgOb.mono {h : Heap} {A B : List Addr} {a : Addr} (k : ∀ a ∈ A, a ∈ B) (x : ArgOb h A a) : ArgOb h B a := by
  obtain ⟨vs, h1, h2, h3⟩ := x
  exact ⟨vs, h1, fun u hu => (h2 u hu).mono k, h3⟩
theorem wellAll_len {P : Params} {h : Heap} : ∀ {vs : List Value} {ds : List WData}, WellAll P h vs ds → vs.length = ds.length
  | _, _, .nil => rfl
  | _, _, .cons _ b => by
    show _ + 1 = _ + 1
    rw [wellAll_len b]
theorem well_list {P : Params} {h : Heap} {v : Value} {ds : List WData} (x : Well P h v (.list ds)) : ∃ (a : Addr) (vs : List Value), v = .ref a ∧ h.get? a = some { cls := .type "list", data := .seq vs.toArray } ∧ WellAll P h vs ds := by
  cases x with
  | list ho hall => exact ⟨_, _, rfl, ho, hall⟩
theorem well_tuple {P : Params} {h : Heap} {v : Value} {ds : List WData} (x : Well P h v (.tuple ds)) : ∃ (a : Addr) (vs : List Value), v = .ref a ∧ h.get? a = some { cls := .type "tuple", data := .seq vs.toArray } ∧ WellAll P h vs ds := by
  cases x with
  | tuple ho hall => exact ⟨_, _, rfl, ho, hall⟩
theorem well_cons {P : Params} {h : Heap} {us : List Value} {d : WData} {ds : List WData} (x : WellAll P h us (d :: ds)) : ∃ (v : Value) (vs : List Value), us = v :: vs ∧ Well P h v d ∧ WellAll P h vs ds := by
  cases x with
  | cons a b => exact ⟨_, _, rfl, a, b⟩
theorem line_of {n : Nat} (h : n ≤ 1048576) : n ≤ sizeLine := Nat.le_trans h (by decide)
section
variable {P : Params} {h : Heap}
mutual
theorem area_one : ∀ (d : WData) (v : Value), Well P h v d → plW d = true → d.weight ≤ 1048576 → ∃ A : List Addr, OkU A v ∧ ∀ a ∈ A, ArgOb h A a
  | .none, _, x, _, _ => by
    cases x
    exact ⟨[], trivial, fun a m => absurd m (by simp)⟩
  | .bool b, _, x, _, _ => by
    cases x
    exact ⟨[], trivial, fun a m => absurd m (by simp)⟩
  | .int i, _, x, _, _ => by
    cases x
    exact ⟨[], trivial, fun a m => absurd m (by simp)⟩
  | .str s, _, x, _, _ => by
    cases x
    exact ⟨[], trivial, fun a m => absurd m (by simp)⟩
  | .bytes b, _, x, _, _ => by
    cases x
    exact ⟨[], trivial, fun a m => absurd m (by simp)⟩
  | .list ds, _, x, p, z => by
    obtain ⟨a, vs, rfl, ho, hall⟩ := well_list x
    have z2 : WData.weightAll ds ≤ 1048576 := z
    obtain ⟨A, h1, h2⟩ := area_all ds _ hall p fun d hd => Nat.le_trans (weight_mem hd) z2
    have k : ∀ b ∈ A, b ∈ a :: A := fun b hb => List.mem_cons_of_mem _ hb
    refine ⟨a :: A, List.mem_cons_self .., fun b hb => ?_⟩
    rcases List.mem_cons.mp hb with e | m
    · rw [e]
      exact ⟨vs, line_of (by rw [wellAll_len hall]; exact Nat.le_trans (PySem.W.length_le_weightAllW ds) z2), fun u hu => (h1 u hu).mono k, .inl ho⟩
    · exact (h2 b m).mono k
  | .tuple ds, _, x, p, z => by
    obtain ⟨a, vs, rfl, ho, hall⟩ := well_tuple x
    have z2 : WData.weightAll ds ≤ 1048576 := z
    obtain ⟨A, h1, h2⟩ := area_all ds _ hall p fun d hd => Nat.le_trans (weight_mem hd) z2
    have k : ∀ b ∈ A, b ∈ a :: A := fun b hb => List.mem_cons_of_mem _ hb
    refine ⟨a :: A, List.mem_cons_self .., fun b hb => ?_⟩
    rcases List.mem_cons.mp hb with e | m
    · rw [e]
      exact ⟨vs, line_of (by rw [wellAll_len hall]; exact Nat.le_trans (PySem.W.length_le_weightAllW ds) z2), fun u hu => (h1 u hu).mono k, .inr ho⟩
    · exact (h2 b m).mono k
  | .float _, _, _, p, _ => Bool.noConfusion (show false = true from p)
  | .dict _, _, _, p, _ => Bool.noConfusion (show false = true from p)
  | .bytearray _, _, _, p, _ => Bool.noConfusion (show false = true from p)
  | .set _, _, _, p, _ => Bool.noConfusion (show false = true from p)
  | .frozenset _, _, _, p, _ => Bool.noConfusion (show false = true from p)
  | .obj _ _, _, _, p, _ => Bool.noConfusion (show false = true from p)
theorem area_all : ∀ (ds : List WData) (vs : List Value), WellAll P h vs ds → plWs ds = true → (∀ d ∈ ds, d.weight ≤ 1048576) → ∃ A : List Addr, (∀ u ∈ vs, OkU A u) ∧ ∀ a ∈ A, ArgOb h A a
  | [], _, x, _, _ => by
    cases x
    exact ⟨[], fun u m => absurd m (by simp), fun a m => absurd m (by simp)⟩
  | d :: ds, _, x, p, z => by
    obtain ⟨v, vs, rfl, x1, x2⟩ := well_cons x
    have q : plW d = true ∧ plWs ds = true := Bool.and_eq_true_iff.mp p
    obtain ⟨A, a1, a2⟩ := area_one d v x1 q.1 (z d (List.mem_cons_self ..))
    obtain ⟨B, b1, b2⟩ := area_all ds vs x2 q.2 fun e he => z e (List.mem_cons_of_mem _ he)
    have kA : ∀ b ∈ A, b ∈ A ++ B := fun b hb => List.mem_append.mpr (.inl hb)
    have kB : ∀ b ∈ B, b ∈ A ++ B := fun b hb => List.mem_append.mpr (.inr hb)
    refine ⟨A ++ B, fun u hu => ?_, fun b hb => ?_⟩
    · rcases List.mem_cons.mp hu with e | m
      · rw [e]
        exact a1.mono kA
      · exact (b1 u m).mono kB
    · rcases List.mem_append.mp hb with m | m
      · exact (a2 b m).mono kA
      · exact (b2 b m).mono kB
end
end
/-- what is tracked of an argument's object -/
def hoOf (o : Obj) : Option HO := match o.data with
  | .seq vs _ => if (o.cls == Value.type "list") = true then some (.frz o (.lst (vs.toList.map toV))) else some (.frz o (.tup (vs.toList.map toV)))
  | _ => none
def argH (K : PySem.W.Frag) (h : Heap) (A : List Addr) : Hp := fun b => if b ∈ A then (if (K.lookup b).isNone = true then (h.get? b).bind hoOf else none) else none
/-- nothing is tracked but what is known to the object -/
def OnlyF (H : Hp) : Prop := ∀ b, H b = none ∨ ∃ o u, H b = some (.frz o u)
theorem hoOf_lst (vs : List Value) : hoOf { cls := .type "list", data := .seq vs.toArray } = some (.frz { cls := .type "list", data := .seq vs.toArray } (.lst (vs.map toV))) := by
  show (if (Value.type "list" == Value.type "list") = true then some (HO.frz { cls := .type "list", data := .seq vs.toArray } (.lst (vs.toArray.toList.map toV))) else some (HO.frz { cls := .type "list", data := .seq vs.toArray } (.tup (vs.toArray.toList.map toV)))) = _
  rw [if_pos (beq_self_eq_true _)]
theorem hoOf_tup (vs : List Value) : hoOf { cls := .type "tuple", data := .seq vs.toArray } = some (.frz { cls := .type "tuple", data := .seq vs.toArray } (.tup (vs.map toV))) := by
  show (if (Value.type "tuple" == Value.type "list") = true then some (HO.frz { cls := .type "tuple", data := .seq vs.toArray } (.lst (vs.toArray.toList.map toV))) else some (HO.frz { cls := .type "tuple", data := .seq vs.toArray } (.tup (vs.toArray.toList.map toV)))) = _
  rw [if_neg (by decide)]
section
variable {P : Program} {w : World} {K : PySem.W.Frag} {h : Heap} {A : List Addr}
theorem argH_at {b : Addr} {o : Obj} (hb : b ∈ A) (hk : K.lookup b = none) (e : h.get? b = some o) : argH K h A b = hoOf o := by
  unfold argH
  rw [if_pos hb, hk, if_pos (show (none : Option Obj).isNone = true from rfl), e] <;> rfl
theorem of_argH {b : Addr} {u : HO} (q : argH K h A b = some u) : b ∈ A ∧ K.lookup b = none := by
  unfold argH at q
  by_cases hb : b ∈ A
  · rw [if_pos hb] at q
    cases hk : K.lookup b with
    | none => exact ⟨hb, rfl⟩
    | some o =>
      rw [hk, if_neg (by simp)] at q
      cases q
  · rw [if_neg hb] at q
    cases q
/-- what stands tracked -/
theorem argH_is (ar : ∀ a ∈ A, ArgOb h A a) {b : Addr} {u : HO} (q : argH K h A b = some u) : K.lookup b = none ∧ ∃ vs : List Value, vs.length ≤ sizeLine ∧ (∀ u ∈ vs, OkU A u) ∧
    ((h.get? b = some { cls := .type "list", data := .seq vs.toArray } ∧ u = .frz { cls := .type "list", data := .seq vs.toArray } (.lst (vs.map toV))) ∨
     (h.get? b = some { cls := .type "tuple", data := .seq vs.toArray } ∧ u = .frz { cls := .type "tuple", data := .seq vs.toArray } (.tup (vs.map toV)))) := by
  obtain ⟨hb, hk⟩ := of_argH q
  obtain ⟨vs, h1, h2, h3⟩ := ar b hb
  refine ⟨hk, vs, h1, h2, ?_⟩
  rcases h3 with e | e
  · rw [argH_at hb hk e, hoOf_lst] at q
    exact .inl ⟨e, (Option.some.inj q).symm⟩
  · rw [argH_at hb hk e, hoOf_tup] at q
    exact .inr ⟨e, (Option.some.inj q).symm⟩
theorem argH_only (ar : ∀ a ∈ A, ArgOb h A a) : OnlyF (argH K h A) := fun b => by
  cases q : argH K h A b with
  | none => exact .inl rfl
  | some u =>
    obtain ⟨_, vs, _, _, ⟨_, e⟩ | ⟨_, e⟩⟩ := argH_is ar q
    · exact .inr ⟨_, _, by rw [e]⟩
    · exact .inr ⟨_, _, by rw [e]⟩
theorem argH_ok (ar : ∀ a ∈ A, ArgOb h A a) : HOk P w (argH K h A) h := fun b u q => by
  obtain ⟨_, vs, h1, h2, ⟨e, rfl⟩ | ⟨e, rfl⟩⟩ := argH_is ar q
  · exact ⟨e, by rw [List.length_map]; exact h1, vs, _, vals_toV h2, e⟩
  · exact ⟨e, by rw [List.length_map]; exact h1, vs, vals_toV h2, _, e, rfl, _, rfl⟩
theorem seq_inj {c c' : Value} {vs us : List Value} (e : (some { cls := c, data := .seq vs.toArray } : Option Obj) = some { cls := c', data := .seq us.toArray }) : c = c' ∧ vs = us := by
  have e1 := Option.some.inj e
  have e2 : c = c' := congrArg Obj.cls e1
  have e3 : Data.seq vs.toArray = Data.seq us.toArray := congrArg Obj.data e1
  injection e3 with e4
  refine ⟨e2, ?_⟩
  have e5 := congrArg Array.toList e4
  simpa using e5
/-- a list argument -/
theorem argL (KX : K.In h) (ar : ∀ a ∈ A, ArgOb h A a) {a : Addr} {vs : List Value} (ha : a ∈ A) (e : h.get? a = some { cls := .type "list", data := .seq vs.toArray }) : (∀ u ∈ vs, OkU A u) ∧ SqL K (argH K h A) a (vs.map toV) := by
  obtain ⟨us, h1, h2, h3⟩ := ar a ha
  have hu : us = vs := by
    rcases h3 with q | q
    · rw [e] at q
      exact (seq_inj q).2.symm
    · rw [e] at q
      exact absurd (Value.type.inj (seq_inj q).1) (by decide)
  subst hu
  refine ⟨h2, ?_⟩
  cases hk : K.lookup a with
  | none => exact .inl (.inr ⟨_, by rw [argH_at ha hk e, hoOf_lst]⟩)
  | some o =>
    have e2 := KX a o hk
    rw [e] at e2
    obtain rfl := Option.some.inj e2
    exact .inr ⟨_, us.toArray, _, hk, rfl, rfl, rfl, by rw [List.size_toArray]; exact h1, by simpa using vals_toV h2⟩
theorem argT (KX : K.In h) (ar : ∀ a ∈ A, ArgOb h A a) {a : Addr} {vs : List Value} (ha : a ∈ A) (e : h.get? a = some { cls := .type "tuple", data := .seq vs.toArray }) : (∀ u ∈ vs, OkU A u) ∧ SqT K (argH K h A) a (vs.map toV) := by
  obtain ⟨us, h1, h2, h3⟩ := ar a ha
  have hu : us = vs := by
    rcases h3 with q | q
    · rw [e] at q
      exact absurd (Value.type.inj (seq_inj q).1) (by decide)
    · rw [e] at q
      exact (seq_inj q).2.symm
  subst hu
  refine ⟨h2, ?_⟩
  cases hk : K.lookup a with
  | none => exact .inl (.inr ⟨_, by rw [argH_at ha hk e, hoOf_tup]⟩)
  | some o =>
    have e2 := KX a o hk
    rw [e] at e2
    obtain rfl := Option.some.inj e2
    exact .inr ⟨_, us.toArray, _, hk, rfl, rfl, by rw [List.size_toArray]; exact h1, by simpa using vals_toV h2⟩
mutual
theorem dw_one {Pm : Params} (KX : K.In h) (ar : ∀ a ∈ A, ArgOb h A a) : ∀ (d : WData) (v : Value), Well Pm h v d → plW d = true → OkU A v → Dw K (argH K h A) (toV v) d
  | .none, _, x, _, _ => by
    cases x
    exact .non
  | .bool b, _, x, _, _ => by
    cases x
    exact .bl b
  | .int i, _, x, _, _ => by
    cases x
    exact .int i
  | .str s, _, x, _, _ => by
    cases x
    exact .str s
  | .bytes b, _, x, _, _ => by
    cases x
    have z := Dw.byt (K := K) (H := argH K h A) b.toArray
    exact z
  | .list ds, _, x, p, hu => by
    obtain ⟨a, vs, rfl, ho, hall⟩ := well_list x
    obtain ⟨h2, hs⟩ := argL KX ar hu ho
    exact .lst hs (dw_all KX ar ds _ hall p h2)
  | .tuple ds, _, x, p, hu => by
    obtain ⟨a, vs, rfl, ho, hall⟩ := well_tuple x
    obtain ⟨h2, hs⟩ := argT KX ar hu ho
    exact .tup hs (dw_all KX ar ds _ hall p h2)
  | .float _, _, _, p, _ => Bool.noConfusion (show false = true from p)
  | .dict _, _, _, p, _ => Bool.noConfusion (show false = true from p)
  | .bytearray _, _, _, p, _ => Bool.noConfusion (show false = true from p)
  | .set _, _, _, p, _ => Bool.noConfusion (show false = true from p)
  | .frozenset _, _, _, p, _ => Bool.noConfusion (show false = true from p)
  | .obj _ _, _, _, p, _ => Bool.noConfusion (show false = true from p)
theorem dw_all {Pm : Params} (KX : K.In h) (ar : ∀ a ∈ A, ArgOb h A a) : ∀ (ds : List WData) (vs : List Value), WellAll Pm h vs ds → plWs ds = true → (∀ u ∈ vs, OkU A u) → DwAll K (argH K h A) (vs.map toV) ds
  | [], _, x, _, _ => by
    cases x
    exact .nil
  | d :: ds, _, x, p, hu => by
    obtain ⟨v, vs, rfl, x1, x2⟩ := well_cons x
    have q : plW d = true ∧ plWs ds = true := Bool.and_eq_true_iff.mp p
    exact .cons (dw_one KX ar d v x1 q.1 (hu _ (List.mem_cons_self ..))) (dw_all KX ar ds vs x2 q.2 fun u m => hu u (List.mem_cons_of_mem _ m))
end
end
/-! ### the call -/
theorem spec_call {P : Program} {w : World} {K : PySem.W.Frag} {mg mb : Str → Option Value} {CX : CXT} {k : Nat} {fa : Addr} {fd : FuncData} {ps : List Str} {sp : Sp} {s₁ : Shared} {vals : List Value} {ds : List WData} {R : PySem.W.WRecords} {cl : Str → Option Addr} {d0 : WData}
    (KX : K.In s₁.heap) (hns : s₁.heap.Ns mainGlobals mg) (hb : s₁.heap.Ns builtinsNs mb) (hbb : ∀ x : Str, x ≠ "__name__" → mb x = bootBuiltins x) (hlim : s₁.heap.NoLimit) (hg : s₁.gens = #[])
    (hwl : WellAll w.params s₁.heap vals ds) (hpl : plWs ds = true) (hwt : ∀ d ∈ ds, d.weight ≤ 1048576) (hr : Room k callerA)
    (F : ∀ base : Heap, K.In base → base.Ns mainGlobals mg → FnOk P w K mg base CX k fa fd ps sp) (hbind : ∀ (s : Shared) (us : List Value), us.length = ps.length → BindsTo s fd ⟨us, []⟩ (ps.zip us)) (hlen : ds.length = ps.length)
    (hsp : ∀ (H : Hp) (xs : List V), OnlyF H → DwAll K H xs ds → sp xs H (fun v H' => Dw K H' v d0) fun _ _ _ => False)
    (hCX : ∀ H e s', CX [] H s₁ (fun _ _ _ => False) e s' → False) :
    codeAny (model P w) callerA (.call (.ref fa) ⟨vals, []⟩) (fun r s' => ∃ u as, r = .ok (.ret u) ∧ ReadsW R cl s'.heap u d0 as ∧ OldK s₁.heap s'.heap ∧ s'.os = s₁.os ∧ AllBare s'.gens) s₁ := by
  obtain ⟨A, ho, ar⟩ := area_all ds vals hwl hpl hwt
  have hO : OnlyF (argH K s₁.heap A) := argH_only ar
  have hok : HOk P w (argH K s₁.heap A) s₁.heap := argH_ok ar
  have hS := dw_all KX ar ds vals hwl hpl ho
  have hV := vals_toV ho
  have hK : ∀ b u, argH K s₁.heap A b = some u → K.lookup b = none := fun b u q => (argH_is ar q).1
  have noA : ∀ {b : Addr} {o : Obj} {es : Array DictEntry} {ep : Nat}, s₁.heap.get? b = some o → o.data = .dict es ep → argH K s₁.heap A b = none := fun {b o es ep} e d => by
    cases q : argH K s₁.heap A b with
    | none => rfl
    | some u =>
      obtain ⟨_, vs, _, _, ⟨e2, _⟩ | ⟨e2, _⟩⟩ := argH_is ar q
      · rw [e2] at e
        cases e
        have d' : Data.seq vs.toArray _ = Data.dict es ep := d
        cases d'
      · rw [e2] at e
        cases e
        have d' : Data.seq vs.toArray _ = Data.dict es ep := d
        cases d'
  generalize argH K s₁.heap A = H at hO hok hS hK noA
  have base_of : ∀ {b : Addr} {o : Obj}, s₁.heap.get? b = some o → H b = none → (hidT s₁.heap H).get? b = some o := fun e n => hidT_get e n
  have nsK : ∀ {b : Addr} {m : Str → Option Value}, s₁.heap.Ns b m → (hidT s₁.heap H).Ns b m := fun {b m} ⟨o, es, ep, e, d, r⟩ => ⟨o, es, ep, base_of e (noA e d), d, r⟩
  have nK : ∀ b o, K.lookup b = some o → H b = none := fun b o e => by
    cases q : H b with
    | none => rfl
    | some u =>
      rw [hK b u q] at e
      cases e
  have hKb : K.In (hidT s₁.heap H) := fun b o e => base_of (KX b o e) (nK b o e)
  have hM : Mod K mg (hidT s₁.heap H) := ⟨hKb, nsK hns, ⟨mb, nsK hb, hbb⟩, let ⟨mc, h1, h2⟩ := hlim; ⟨mc, nsK h1, h2⟩⟩
  have e0 : Env0 P w K mg (hidT s₁.heap H) callerA [] s₁ H := ⟨rfl, hM, fun b o e => of_hidT e, Nat.le_of_eq (hidT_size _ _), trivial, fun b hb => absurd (show b ∈ ([] : List Addr) from hb) (by simp), hok, .of_eq hg⟩
  have hl : vals.length = ps.length := by rw [wellAll_len hwl]; exact hlen
  refine codeAny_mono ((F _ hKb (nsK hns)).run callerA [] s₁ H ⟨vals, []⟩ vals (vals.map toV) _ _ hr e0 (hbind s₁ vals hl) hV (hsp H _ hO hS)) fun r s' x => ?_
  cases r with
  | error e => exact (hCX H e s' x).elim
  | ok fl =>
    cases fl with
    | next => exact False.elim x
    | brk => exact False.elim x
    | cont => exact False.elim x
    | ret u =>
      obtain ⟨v, H', os, bare, un, hok', r', q⟩ := x
      have kept : ∀ b o, s₁.heap.get? b = some o → s'.heap.get? b = some o := fun b o e => by
        cases q2 : H b with
        | none => exact un.keep b o e q2 (by intro z; exact absurd (show b ∈ ([] : List Addr) from z) (by simp)) (by simp)
        | some u2 =>
          rcases hO b with z | ⟨ob, u3, z⟩
          · rw [q2] at z
            cases z
          · have z2 := un.frzs b ob _ z
            obtain ⟨e1, _⟩ := hok b _ z
            obtain ⟨e2, _⟩ := hok' b _ z2
            rw [e] at e1
            cases e1
            exact e2
      have KX' : K.In s'.heap := fun b o e => kept b o (KX b o e)
      obtain ⟨as, hrd⟩ := Dw.reads (R := R) (cl := cl) hok' KX' d0 v u q r'
      exact ⟨u, as, rfl, hrd, OldK.of_keep kept, os, bare⟩
/-! ### the row -/
theorem layable_weight {ds : List WData} (h : WData.layableAll ds = true) : ∀ d ∈ ds, d.weight ≤ 1048576 := fun d hd =>
  (PySem.W.layableW_iff.mp (List.all_eq_true.mp h d hd)).2.2
theorem encAll_len : ∀ (cs : List Codec) (a : Codec.denoteAll cs), (Codec.encAll cs a).length = cs.length
  | [], _ => rfl
  | c :: cs, a => by
    show (Codec.encAll cs a.2).length + 1 = cs.length + 1
    rw [encAll_len cs a.2]
/-- the goal that k_headS leaves (case hc), from the promise of the row's def: whatever the arguments that the codecs let and the row asks for, the def gives what stands for enc (f ..) -/
theorem walk_spec {r : OpenSpec} {k : Nat} {q : Program} {loose : List Str} {XP : (Str → Option Value) → Heap → Prop} {YP : World → Heap → Prop} {d : DefRec} {K : Params → PySem.W.Frag} {CX : World → CXT} {ps : List Str} {sp : World → Sp}
    (hwell : r.wellSaid = true) (hdf : d.params.defaults = []) (hlen : r.args.length = ps.length) (hr : Room k callerA)
    (hY : ∀ (w : World) (h : Heap), YP w h → (K w.params).In h)
    (F : ∀ (w : World) (mg : Str → Option Value) (fa : Addr) (h : Heap), YP w h → (K w.params).In h → h.Ns mainGlobals mg → mg d.name = some (.ref fa) →
      ∃ fd : FuncData, (∀ (s : Shared) (us : List Value), us.length = ps.length → BindsTo s fd ⟨us, []⟩ (ps.zip us)) ∧
        ∀ base : Heap, (K w.params).In base → base.Ns mainGlobals mg → FnOk r.prog w (K w.params) mg base (CX w) k fa fd ps (sp w))
    (hsp : ∀ (w : World) (H : Hp) (xs : List V) (a : Codec.denoteAll r.args), OnlyF H → Codec.withinAll r.args a = true → Codec.app r.args r.asked a = true → DwAll (K w.params) H xs (Codec.encAll r.args a) →
      sp w xs H (fun v H' => Dw (K w.params) H' v (r.ret.enc (Codec.app r.args r.f a))) fun _ _ _ => False)
    (hCX : ∀ (w : World) (H : Hp) (s : Shared) (e : Value) (s' : Shared), CX w [] H s (fun _ _ _ => False) e s' → False) :
    PySem.W.WalkOS q loose XP YP r d [] (fun f vs => PySem.call f vs) := by
  intro w s_0 s₁ mg mb G Y fa o pm cd doc dV kV ho hd hcd hD hmg hg args vals as hpre hlay hrd hwl hlo
  obtain ⟨a, e1, e2⟩ := PySem.W.os_pre_some hpre
  obtain ⟨e3, hwi⟩ := Codec.encAll_of_decAll r.args args a e1
  subst e3
  have KX := hY w _ Y
  obtain ⟨fd, hb, hF⟩ := F w mg fa _ Y KX G.T.g hmg
  refine PySem.W.enter_call (codeAny_mono (spec_call (R := []) (cl := classAt s_0.heap) (d0 := r.ret.enc (Codec.app r.args r.f a)) KX G.T.g G.T.b G.T.builtins G.T.nolimit hg hwl (pl_encAll _ _) (layable_weight hlay) hr hF hb (by rw [encAll_len]; exact hlen)
    (fun H xs hO hS => hsp w H xs a hO hwi e2 hS) fun H e s' => hCX w H s₁ e s') fun r' s' hq => ?_)
  obtain ⟨u, as', rfl, h1, h2, h3, h4⟩ := hq
  exact ⟨.inl ⟨u, _, as', rfl, fun _ => rfl, h1, (OpenSpec.post_iff hwell hwi _ _).mpr rfl, fun z => Bool.noConfusion (show false = true from z)⟩, h2, h3, h4⟩
/-- the same where the promise hangs on the written part alone -/
theorem walk_specK {r : OpenSpec} {k : Nat} {q : Program} {loose : List Str} {XP : (Str → Option Value) → Heap → Prop} {YP : World → Heap → Prop} {d : DefRec} {K : Params → PySem.W.Frag} {CX : CXT} {ps : List Str} {sp : PySem.W.Frag → Sp}
    (hwell : r.wellSaid = true) (hdf : d.params.defaults = []) (hlen : r.args.length = ps.length) (hr : Room k callerA)
    (hY : ∀ (w : World) (h : Heap), YP w h → (K w.params).In h)
    (F : ∀ (w : World) (mg : Str → Option Value) (fa : Addr) (h : Heap), YP w h → (K w.params).In h → h.Ns mainGlobals mg → mg d.name = some (.ref fa) →
      ∃ fd : FuncData, (∀ (s : Shared) (us : List Value), us.length = ps.length → BindsTo s fd ⟨us, []⟩ (ps.zip us)) ∧
        ∀ base : Heap, (K w.params).In base → base.Ns mainGlobals mg → FnOk r.prog w (K w.params) mg base CX k fa fd ps (sp (K w.params)))
    (hsp : ∀ (K : PySem.W.Frag) (H : Hp) (xs : List V) (a : Codec.denoteAll r.args), OnlyF H → Codec.withinAll r.args a = true → Codec.app r.args r.asked a = true → DwAll K H xs (Codec.encAll r.args a) →
      sp K xs H (fun v H' => Dw K H' v (r.ret.enc (Codec.app r.args r.f a))) fun _ _ _ => False)
    (hCX : ∀ (H : Hp) (s : Shared) (e : Value) (s' : Shared), CX [] H s (fun _ _ _ => False) e s' → False) :
    PySem.W.WalkOS q loose XP YP r d [] (fun f vs => PySem.call f vs) :=
  walk_spec (K := K) (CX := fun _ => CX) (sp := fun w => sp (K w.params)) hwell hdf hlen hr hY F (fun w H xs a h1 h2 h3 h4 => hsp (K w.params) H xs a h1 h2 h3 h4) fun _ H s e s' => hCX H s e s'
end L2
-- rests on (row put in by the clerk, for the bench that shows a file only what it spells): KE.SpHead KE.OsShapes
end
set_option maxRecDepth 100000
set_option maxHeartbeats 2000000
/-! sorted(d), d a dict whose keys are ints (fewer than 64) -/
namespace L2
open PySem PySem.Spec PyProof.Rows
section
variable {prog : Program} {w : World} {A : Around} {E : Value → Shared → Prop} {s : Shared}
theorem collect_dict {d : Addr} {vs : List (Key × Value)} {ep : Nat} {Q : List Value → Shared → Prop} (hh : A.handled = none) (lo : (d == sysModules) = false) (hm : s.heap.DictAt (mixKind prog w) d vs ep) (hn : vs.length ≤ sizeLine)
    (h : ∀ (h' : Heap) (tk : Nat) (acc : List Value), s.heap.objs.size ≤ h'.objs.size → (∀ b o, s.heap.get? b = some o → h'.get? b = some o) → acc.length = vs.length → (∀ (j : Nat) (v : Value), acc[j]? = some v → ∃ k x, vs[j]? = some (k, x) ∧ keyIs k v = true) → Q acc { s with heap := h', toks := tk }) :
    wpAny (model prog w) A (collect (.ref d)) Q E s := by
  unfold collect; refine wpAny_bind (wpAny_runValue (codeAny_builtin entry_proto_collect' ?_)); show wpAny _ _ (do again (.builtin "list.__iadd__" ⟨[← newList [], .ref d], []⟩)) _ _ s
  refine wpAny_bind (wpAny_newList (wpAny_pure ⟨Code.quiet_builtin _ (by decide +kernel), codeAny_builtin entry_list_iadd' ?_⟩)); rw [Around.under_plainId PySem.F.plain_list_iadd _]
  show wpAny _ A.in1 (Builtin.List.listExtendWith (.ref s.heap.objs.size) (.ref d) (.ref s.heap.objs.size)) _ _ { s with heap := s.heap.push (seqObj "list" #[] 0) }
  have hlt := hm.lt_size
  have hne : s.heap.objs.size ≠ d := Nat.ne_of_gt hlt
  have fin : ∀ (r : Result) (s' : Shared), (r = .ok (.ret (.ref s.heap.objs.size)) ∧ ∃ h' tk acc' c', s' = { s with heap := h', toks := tk } ∧ (∀ b o, s.heap.get? b = some o → h'.get? b = some o) ∧
      h'.get? s.heap.objs.size = some { cls := .type "list", dict := none, data := .seq acc' c', slots := #[] } ∧ ItemsOf (fun i v => ∃ k x, vs[i]? = some (k, x) ∧ (mixKind prog w).is k v = true) acc' vs.length) →
      (match r with
        | .ok (.ret v) => wpAny (model prog w) A (match v with
          | .ref a => do
            let o ← load a
            match o.data with
            | .seq xs _ => pure xs.toList
            | _ => unsupported "internal:collect"
          | _ => unsupported "internal:collect") Q E s'
        | .ok _ => False
        | .error e => E e s') := by
    rintro r s' ⟨rfl, h', tk, acc', c', rfl, hk, hS', hacc⟩
    show wpAny (model prog w) A (do
        let o ← load s.heap.objs.size
        match o.data with
        | .seq xs _ => pure xs.toList
        | _ => unsupported "internal:collect") Q E _
    refine wpAny_bind (wpAny_load hS' ?_)
    show wpAny _ _ (pure acc'.toList) Q E _
    refine wpAny_pure (h h' tk acc'.toList (Nat.le_of_lt (Heap.lt_size hS')) hk ?_ fun j v e => ?_)
    · rw [Array.length_toList]; exact hacc.1
    · exact hacc.2 j v (by rw [← Array.getElem?_toList]; exact e)
  refine wpAny_mono (PySem.W.kdl_extend (s := { s with heap := s.heap.push (seqObj "list" #[] 0) }) (R := fun r s' => r = .ok (.ret (.ref s.heap.objs.size)) ∧ ∃ h' tk acc' c', s' = { s with heap := h', toks := tk } ∧ (∀ b o, s.heap.get? b = some o → h'.get? b = some o) ∧
      h'.get? s.heap.objs.size = some { cls := .type "list", dict := none, data := .seq acc' c', slots := #[] } ∧ ItemsOf (fun i v => ∃ k x, vs[i]? = some (k, x) ∧ (mixKind prog w).is k v = true) acc' vs.length)
    (PySem.W.kdl_dict (knd := mixKind prog w) (kvs := vs) (ep := ep) lo) hh (hm.push _) s.heap.objs.size hne hne (.ref s.heap.objs.size) 0 (Heap.get?_push_size _ rfl) (fun h' tk acc' c' hk hS' hacc => ?_) hn) (fun f s' hq => ?_) (fun e s' hq => ?_)
  · exact ⟨rfl, h', tk, acc', c', rfl, fun b o e => hk b o (Nat.ne_of_lt (Heap.lt_size e)) (Heap.get?_push_of_some _ e), hS', hacc⟩
  · cases f with
    | done f => exact fin (.ok f) s' hq
    | again c' => exact ⟨hq.1, codeAny_mono hq.2 fin⟩
  · exact fin (.error e) s' hq
end
theorem intsAre_at : ∀ {vs : List Value} {ns : List Int}, vs.length = ns.length → (∀ (j : Nat) (v : Value), vs[j]? = some v → ∃ n, ns[j]? = some n ∧ ∃ t, v = .int n t) → IntsAre vs ns
  | [], [], _, _ => .nil
  | [], _ :: _, h, _ => by simp at h
  | _ :: _, [], h, _ => by simp at h
  | v :: vs, n :: ns, h, hv => by
    obtain ⟨m, e, t, rfl⟩ := hv 0 v rfl
    have e' : n = m := Option.some.inj e
    subst e'
    exact .cons n t (intsAre_at (by simpa using h) fun j v e => hv (j + 1) v e)
/-- sorted(d) -/
def rSortedD : List V → Hp → VK → Prop := fun vs H Q => ∃ (a : Addr) (kvs : List (Key × V)) (ns : List Int), vs = [V.ref a] ∧ Rd H a (.dK kvs) ∧ kvs.map (·.1) = ns.map Sum.inl ∧ ns.length < 64 ∧
  ∀ (ns' : List Int) (p : Addr), ns'.Perm ns → ns'.Pairwise (· ≤ ·) → H p = none → Q (.ref p) (upd H p (.lst (ns'.map V.int)))
theorem cr_sortedD {X : Cx} (hc : X.calm = true) : CallR X (.builtin "sorted") rSortedD := by
  intro pins s σ H vs us Q I r h
  obtain ⟨a, kvs, ns, rfl, hs, hk, h64, q⟩ := h
  rw [Vals.ref1 r]
  obtain ⟨hlen, lo, vs, kv, dd⟩ := dk_rd I.hok hs
  obtain ⟨ep, dd⟩ := dd.dictAt
  have hl : kvs.length = vs.length := Paired.length kv
  have hl2 : kvs.length = ns.length := by
    have := congrArg List.length hk
    simpa using this
  refine Calls.call_function_entry kind_sorted plain_sorted entry_sorted (args_sorted1 _) ?_; unfold Builtin.«sorted»; refine wpAny_bind (m := checkCount "sorted" 1 1 _) (wpAny_pure ?_)
  refine wpAny_bind (collect_dict (I.ok.hd hc) lo dd (by rw [← hl]; exact hlen) fun h' tk acc hsz hk' ha hacc => ?_)
  have hI : IntsAre acc ns := by
    refine intsAre_at (by rw [ha, ← hl, hl2]) fun j v e => ?_
    obtain ⟨k, x, e1, e2⟩ := hacc j v e
    have hj : j < vs.length := (List.getElem?_eq_some_iff.mp e1).1
    have hj2 : j < kvs.length := by rw [hl]; exact hj
    obtain ⟨b, e3, e4, _⟩ := paired_get kv (List.getElem?_eq_getElem hj2)
    rw [e1] at e3
    have e5 : (k, x) = b := Option.some.inj e3
    subst e5
    have e6 : (kvs.map (·.1))[j]? = some k := by rw [List.getElem?_map, List.getElem?_eq_getElem hj2]; simpa using e4
    rw [hk, List.getElem?_map] at e6
    obtain ⟨n, e7, e8⟩ := Option.map_eq_some_iff.mp e6
    subst e8
    obtain ⟨t, e9⟩ := Value.isInt_shape (k := n) (v := v) e2
    exact ⟨n, e7, t, e9⟩
  have hlenA : acc.length < 64 := by rw [ha, ← hl, hl2]; exact h64
  refine wpAny_bind (wpAny_newList ?_)
  have hoL : (h'.push (seqObj "list" acc.toArray 0)).get? h'.objs.size = some (seqObj "list" acc.toArray 0) := Heap.get?_push_size _ rfl
  show wpAny _ _ _ _ _ { s with heap := h'.push (seqObj "list" acc.toArray 0), toks := tk }
  refine wpAny_bind (wpAny_holding (wpAny_call_entry slot_list_sort ⟨_, hoL, rfl⟩ entry_list_sort (list_sort_tree hoL hI hlenA fun out ns' a1 a2 a3 => ⟨_, rfl, ?_⟩) (args_list_sort _)))
  obtain ⟨ep', he'⟩ := PyProof.Rows.sortedHeap_at (vs := acc) (out := out) hoL
  have hlen' : (ns'.map V.int).length ≤ sizeLine := by rw [List.length_map, a2.length_eq]; exact small64 h64
  refine wpAny_pure ⟨_, rfl, ⟨.ref _, upd H h'.objs.size (.lst (ns'.map V.int)), I.laid (t' := tk) (fun b u hu => ?_) hsz ⟨hlen', out.toList, ep', vals_of_ints a1, he'⟩, rfl, q ns' _ a2 a3 (I.hok.fresh hsz)⟩⟩
  have hu2 := hk' b u hu
  rw [PyProof.Rows.sortedHeap_old (Nat.ne_of_lt (Heap.lt_size hu2)) (by rw [size_push']; exact Nat.lt_succ_of_lt (Heap.lt_size hu2)), Heap.get?_push_of_some _ hu2]
end L2
set_option maxRecDepth 100000
set_option maxHeartbeats 2000000
/-! Rules that the layer lacks: xs.extend(t), t a tuple; d.setdefault(k, x); d.items() as a value; list(d.items()); sorted(d.items()) of ints. -/
namespace L2
open PySem PySem.Spec PyProof.Rows
section
variable {X : Cx}
/-- more than one new object -/
theorem Inv.many {pins : List (Addr × Obj)} {σ : St} {H H' : Hp} {s : Shared} {h' : Heap} {t' : Nat} (I : Inv X pins σ H s) (k : ∀ b u, s.heap.get? b = some u → h'.get? b = some u) (old : ∀ b u, H b = some u → H' b = some u)
    (new : ∀ b u, H' b = some u → H b = some u ∨ (s.heap.get? b = none ∧ ObjOk X.prog X.w H' h' b u)) : Inv X pins σ H' { s with heap := h', toks := t' } := by
  refine I.un ⟨fun b u q _ _ _ => k b u q, fun b u q _ _ _ => ⟨u.slots, k b u q⟩, fun b u q n _ => ?_, fun b u q _ => ⟨u, k b u q⟩, fun b xs q => old b _ q, fun b u xs q => old b _ q, fun b ps q => ⟨#[], by rw [old b _ q]; simp⟩⟩ fun a o e => ?_
  · cases e : H' b with
    | none => rfl
    | some v =>
      rcases new b v e with z | ⟨z, _⟩
      · rw [n] at z; cases z
      · rw [q] at z; cases z
  · rcases new a o e with z | ⟨_, z⟩
    · exact (I.hok a o z).stay (fun c v _ q => k c v q) (fun c q => old c _ q) fun c xs q => old c _ q
    · exact z
theorem get_out {h : Heap} {b : Addr} (n : h.objs.size ≤ b) : h.get? b = none := by
  cases e : h.get? b with
  | none => rfl
  | some o => exact absurd (Nat.lt_of_lt_of_le (Heap.lt_size e) n) (Nat.lt_irrefl _)
/-- tuples laid at as -/
def layT (H : Hp) : List Addr → List (List V) → Hp
  | a :: as, x :: xs => upd (layT H as xs) a (.tup x)
  | _, _ => H
theorem layT_old {H : Hp} {b : Addr} {u : HO} : ∀ {as : List Addr} {xs : List (List V)}, H b = some u → b ∉ as → layT H as xs b = some u
  | [], _, h, _ => by simpa [layT] using h
  | _ :: _, [], h, _ => by simpa [layT] using h
  | a :: as, x :: xs, h, hn => by
    show upd (layT H as xs) a (.tup x) b = _
    rw [upd_ne (fun z => hn (by rw [z]; exact List.mem_cons_self ..))]
    exact layT_old h fun z => hn (List.mem_cons_of_mem _ z)
theorem layT_new {H : Hp} {b : Addr} {u : HO} : ∀ {as : List Addr} {xs : List (List V)}, layT H as xs b = some u → H b = some u ∨ ∃ (j : Nat) (x : List V), as[j]? = some b ∧ xs[j]? = some x ∧ u = .tup x
  | [], _, h => .inl (by simpa [layT] using h)
  | _ :: _, [], h => .inl (by simpa [layT] using h)
  | a :: as, x :: xs, h => by
    have h : upd (layT H as xs) a (.tup x) b = some u := h
    by_cases e : b = a
    · subst e
      rw [upd_same] at h
      cases h
      exact .inr ⟨0, x, rfl, rfl, rfl⟩
    · rw [upd_ne e] at h
      rcases layT_new h with z | ⟨j, y, e1, e2, e3⟩
      · exact .inl z
      · exact .inr ⟨j + 1, y, e1, e2, e3⟩
theorem layT_at {H : Hp} : ∀ {as : List Addr} {xs : List (List V)}, as.Nodup → as.length = xs.length → Paired (fun a x => layT H as xs a = some (.tup x)) as xs
  | [], [], _, _ => .nil
  | [], _ :: _, _, h => by simp at h
  | _ :: _, [], _, h => by simp at h
  | a :: as, x :: xs, hn, hl => by
    obtain ⟨n1, n2⟩ := List.nodup_cons.mp hn
    refine .cons upd_same ?_
    have ih := layT_at (H := H) n2 (show as.length = xs.length by simpa using hl)
    have aux : ∀ (bs : List Addr) (ys : List (List V)), (∀ b ∈ bs, b ≠ a) → Paired (fun a x => layT H as xs a = some (.tup x)) bs ys → Paired (fun b y => layT H (a :: as) (x :: xs) b = some (.tup y)) bs ys := by
      intro bs ys hb hp
      induction hp with
      | nil => exact .nil
      | cons r _ ih2 =>
        refine .cons ?_ (ih2 fun b hb' => hb b (List.mem_cons_of_mem _ hb'))
        show upd (layT H as xs) a (.tup x) _ = _
        rw [upd_ne (hb _ (List.mem_cons_self ..))]
        exact r
    exact aux as xs (fun b hb z => n1 (by rw [← z]; exact hb)) ih
/-- xs.extend(t), t a tuple -/
def rExtendT : V → List V → Hp → VK → Prop := fun x vs H Q => ∃ l b xs zs, x = .ref l ∧ vs = [.ref b] ∧ H l = some (.lst xs) ∧ H b = some (.tup zs) ∧ xs.length + zs.length ≤ sizeLine ∧ Q .non (upd H l (.lst (xs ++ zs)))
theorem mt_extendT : MtM X "list.extend" rExtendT := by
  intro pins s σ H x vs v us Q I rx rv h
  obtain ⟨l, b, xs, zs, rfl, rfl, hH, hB, hz, q⟩ := h
  cases rx
  obtain ⟨u, rfl, ru⟩ := rv.one
  cases ru
  obtain ⟨z, its, n, r, hl, e⟩ := I.lstM hH
  obtain ⟨z2, its2, r2, o2, e2, hc2, n2, hd2⟩ := I.hok b _ hB
  have hl2 := r2.length
  have hsz : its.toArray.size + its2.toArray.size ≤ sizeLine := by rw [List.size_toArray, List.size_toArray]; omega
  refine wpAny_call_entry F.slot_list_extend ⟨_, e, rfl⟩ F.entry_list_extend ?_ (F.args_list_extend_2 _ _)
  show wpAny _ _ (Builtin.List.listExtendWith (.ref l) (.ref b) .none) _ _ s
  unfold Builtin.List.listExtendWith; refine wpAny_bind (wpAny_typeOf ⟨o2, e2, hc2⟩ ?_)
  have h1 : (Builtin.List.listSameRef (.ref l) (.ref b) || Value.type "tuple" == Value.type "list" || Value.type "tuple" == Value.type "tuple") = true := by simp
  simp only [h1, if_true]
  refine wpAny_bind ?_
  unfold Builtin.List.listItems
  refine wpAny_bind (wpAny_seqItems e2 hd2 (wpAny_pure ?_))
  refine wpAny_bind ?_
  refine wpAny_bind (wpAny_seqItems e rfl (wpAny_pure ?_))
  have hlong : ¬ (!its.toArray.isEmpty && Builtin.List.listTooLong (its.toArray.size + its2.toArray.size)) = true := by
    rw [notLongL hsz, Bool.and_false]
    exact Bool.false_ne_true
  rw [if_neg hlong]
  show wpAny _ _ (updateSeq l (· ++ its2.toArray) >>= fun _ => ret .none) _ _ s
  refine wpAny_bind (wpAny_updateSeq e rfl ?_ (by rw [List.size_toArray]; omega) (by rw [Array.size_append]; omega))
  refine wpAny_pure ⟨_, rfl, .non, _, I.lset (t' := s.toks) (its' := its ++ its2) hH e (by simp) (r.append r2) ?_, rfl, q⟩
  rw [List.length_append]
  omega
end
/-! ### d.setdefault(k, x) -/
def tDSet (td ty tx : TE) : TE := fun σ H Q => td σ H fun x H1 => ∃ a, x = .ref a ∧ IsD H1 a ∧ ty σ H1 fun y H2 => tx σ H2 fun z H3 => ∃ kvs k, H3 a = some (.dK kvs) ∧ y = kV k ∧ kvs.length < sizeLine ∧
  (∀ v, valV kvs k = some v → Q v H3) ∧ (valV kvs k = none → Q z (upd H3 a (.dK (putK kvs k z))))
section
variable {X : Cx} {pins : List (Addr × Obj)} {σ : St} {H : Hp} {s : Shared} {a : Addr} {kvs : List (Key × V)} {k : Key} {u : Value} {A : Around} {E : Value → Shared → Prop}
theorem d_setDef {x : V} {r : Value} {Q : Value → Shared → Prop} (I : Inv X pins σ H s) (e : H a = some (.dK kvs)) (ry : RelV (kV k) u) (rx : RelV x r) (lz : kvs.length < sizeLine)
    (h1 : ∀ v w' s', valV kvs k = some v → Inv X pins σ H s' → RelV v w' → Q w' s') (h2 : ∀ s', valV kvs k = none → Inv X pins σ (upd H a (.dK (putK kvs k x))) s' → Q r s') :
    wpAny (model X.prog X.w) A (call (.builtin "dict.setdefault") [.ref a, u, r]) Q E s := by
  obtain ⟨z, hd, vs, rel, dd⟩ := dk_of I.hok e
  have hz : vs.length ≤ sizeLine := by rw [← rel.length]; exact z
  refine call_meetsIn PySem.F.slot_dict_setdefault dd.typeIs PySem.F.entry_dict_setdefault (PySem.F.args_dict_setdefault_3 _ _ _) (kt_meets_setdefault (mixKind X.prog X.w) a (kV_is ry) hd r) ⟨vs, dd, hz, fun v hv => ?_, fun hn h' dd' hs => ?_⟩
  · cases l : valV kvs k with
    | none =>
      have hn : valueAt vs k = none := RelO.none_of (by rw [← l]; exact rel.val k)
      rw [hn] at hv; cases hv
    | some w =>
      obtain ⟨w', hw, rw'⟩ := RelO.some_of (v := w) (o := valueAt vs k) (by rw [← l]; exact rel.val k)
      rw [hw] at hv
      cases hv
      exact h1 w _ _ l (I.tok _) rw'
  · cases l : valV kvs k with
    | some w =>
      obtain ⟨w', hw, rw'⟩ := RelO.some_of (v := w) (o := valueAt vs k) (by rw [← l]; exact rel.val k)
      rw [hw] at hn; cases hn
    | none =>
      have hl : (putK kvs k x).length ≤ sizeLine := by have := length_putK kvs k x; omega
      have he : ∃ q, h'.get? a = some q := let ⟨q, _, _, hq, _⟩ := dd'; ⟨q, hq⟩
      exact h2 _ l (d_write I (by rw [e]; exact True.intro) hs he (dk_new hl hd (rel.put k rx) dd'))
end
section
variable {X : Cx} {o e f : Expr} {apos cpos : Pos} {td ty tx : TE}
theorem pe_dsetd (ho : PE X o td) (he : PE X e ty) (hf : PE X f tx) (m : M2 X o "setdefault" apos e f cpos) : PE X (.Call (.Attribute o "setdefault" apos) [e, f] [] cpos) (tDSet td ty tx) := by
  intro pins s σ H Q I h
  refine wpAny_Call_method m.base m.few m.line PySem.F.plainAttrs_dict PySem.F.slot_dict_setdefault PySem.F.type_dict_setdefault (thn (ho pins s σ H _ I h) fun u s1 ⟨x, H1, I1, rx, a, ex, d, q1⟩ => ?_)
  subst ex
  obtain rfl : u = Value.ref a := rx
  obtain ⟨t1, t2, _⟩ := isD_at I1 d
  refine ⟨t1, t2, ?_⟩
  rw [m.trees]
  refine Calls.callWith_builtin rfl (Calls.evalArgs_plain (Calls.spliced_cons (thn (he pins s1 σ H1 _ I1 q1) fun iv s2 ⟨y, H2, I2, ry, q2⟩ =>
    Calls.spliced_cons (thn (hf pins s2 σ H2 _ I2 q2) fun fv s3 ⟨z, H3, I3, rz, kvs, k, ea, ey, lz, q3, q4⟩ => Calls.spliced_nil ?_))))
  subst ey
  exact d_setDef I3 ea ry rz lz (fun v w' s' l I' rv => ⟨v, H3, I', rv, q3 v l⟩) fun s' l I' => ⟨z, _, I', rz, q4 l⟩
/-! ### d.items() as a value -/
def isView (v d : Addr) : HO := .ext fun h => h.IsItemsView v d
def tItemsV (td : TE) : TE := fun σ H Q => td σ H fun x H1 => ∃ d kvs, x = .ref d ∧ H1 d = some (.dK kvs) ∧ ∀ v, H1 v = none → Q (.ref v) (upd H1 v (isView v d))
theorem pe_itemsV (he : PE X e td) (hbase : attributeBase e "items" X.env (eval e X.env) = eval e X.env := by rfl) (hline : (apos.endLine == cpos.line) = true := by rfl) :
    PE X (.Call (.Attribute e "items" apos) [] [] cpos) (tItemsV td) := by
  intro pins s σ H Q I h
  refine wpAny_Call_method (T := "dict") (id := "dict.items") hbase rfl hline F.plainAttrs_dict F.slot_dict_items F.type_dict_items (thn (he pins s σ H _ I h) fun u s1 ⟨x, H1, I1, rx, d, kvs, ex, hd, q⟩ => ?_)
  subst ex
  obtain rfl : u = Value.ref d := rx
  obtain ⟨z, hs, vs, rel, dd⟩ := dk_of I1.hok hd
  refine ⟨dd.typeIs, dd.mapOf.noDict, ?_⟩
  have hn : H1 s1.heap.objs.size = none := I1.hok.fresh (Nat.le_refl _)
  have fin : EP X pins σ Q (.ref s1.heap.objs.size) { s1 with heap := s1.heap.push { cls := .type "dict_items", data := .fields #[.ref d] } } := by
    refine ⟨.ref s1.heap.objs.size, _, I1.laid (t' := s1.toks) (o := isView s1.heap.objs.size d) (fun b ob q => Heap.get?_push_of_some _ q) (Nat.le_refl _) ?_, rfl, q _ hn⟩
    exact ⟨⟨_, Heap.get?_push_size _ rfl, rfl, rfl⟩, ⟨_, Heap.get?_push_size _ rfl⟩, fun h1 h2 ⟨o, p1, p2, p3⟩ k => ⟨o, k o p1, p2, p3⟩⟩
  show wpAny _ _ (callWith cpos (.builtin "dict.items") [.ref d] [] []) _ X.xe s1
  exact method_meetsIn F.slot_dict_items F.entry_dict_items rfl (PySem.evalArgs_none ⟨rfl, dd.typeIs, F.args_dict_items_1 _, _, meets_dict_items (mixKind X.prog X.w) d hs, ⟨vs, dd⟩, fin⟩)
end
/-- new tuples of two at as, a new list of them at l -/
def rListItems : List V → Hp → VK → Prop := fun xs H Q => ∃ (v d : Addr) (kvs : List (Key × V)), xs = [.ref v] ∧ H v = some (isView v d) ∧ H d = some (.dK kvs) ∧
  ∀ (H' : Hp) (as : List Addr) (l : Addr), (∀ b u, H b = some u → H' b = some u) → Paired (fun a x => H' a = some (.tup x)) as (kvs.map fun p => [kV p.1, p.2]) → H l = none → H' l = some (.lst (as.map V.ref)) → Q (.ref l) H'
theorem vals_refs : ∀ as : List Addr, Vals (as.map V.ref) (as.map Value.ref)
  | [] => .nil
  | _ :: as => .cons rfl (vals_refs as)
theorem pairs_ok {P : Program} {w : World} {K : Type} {H' : Hp} {h' : Heap} {b : Addr} {key : Value} {k : Key} {x : V} {y : Value} (e : h'.get? b = some { cls := .type "tuple", data := .seq #[key, y] }) (hk : keyIs k key = true) (hx : RelV x y) :
    ObjOk P w H' h' b (.tup [kV k, x]) := by
  refine ⟨(by show 2 ≤ sizeLine; decide), [key, y], .cons ?_ (.cons hx .nil), _, e, rfl, 0, rfl⟩
  rcases keyIs_shape hk with ⟨i, t, rfl, rfl⟩ | ⟨z, t, rfl, rfl⟩
  · exact ⟨t, rfl⟩
  · exact ⟨t, rfl⟩
theorem call_listItems {X : Cx} (hc : X.calm = true) : CallR X (.type "list") rListItems := by
  intro pins s σ H xs us Q I r h
  obtain ⟨v, d, kvs, rfl, hv, hd, q⟩ := h
  obtain ⟨u, rfl, rx⟩ := vals1 r
  cases rx
  obtain ⟨z, hs, vs, rel, dd⟩ := dk_of I.hok hd
  obtain ⟨ep, dd⟩ := dd.dictAt
  have view : s.heap.IsItemsView v d := (I.hok v _ hv).1
  have hl : kvs.length = vs.length := Paired.length rel
  refine PySem.W.kdx_call (knd := mixKind X.prog X.w) (kvs := vs) (ep := ep) (I.ok.hd hc) view dd (by rw [← hl]; exact z) fun h' tk acc c as hk hS has G hacc => ?_
  have nd : as.Nodup := G.rise.imp fun {a b} h => Nat.ne_of_lt h
  have fr : ∀ b u, H b = some u → b ∉ as := fun b u e m => absurd (I.hok.lt e) (Nat.not_lt.mpr (Nat.le_of_lt (G.above b m)))
  have fl : H s.heap.objs.size = none := I.hok.fresh (Nat.le_refl _)
  have nl : s.heap.objs.size ∉ as := fun m => Nat.lt_irrefl _ (G.above _ m)
  have lenA : as.length = (kvs.map fun p => [kV p.1, p.2]).length := by rw [List.length_map, has, hl]
  refine ⟨.ref s.heap.objs.size, upd (layT H as (kvs.map fun p => [kV p.1, p.2])) s.heap.objs.size (.lst (as.map V.ref)), I.many (t' := tk) hk (fun b u e => ?_) (fun b u e => ?_), rfl, ?_⟩
  · rw [upd_ne (ne_of_none e fl)]; exact layT_old e (fr b u e)
  · by_cases eb : b = s.heap.objs.size
    · subst eb
      rw [upd_same] at e
      cases e
      refine .inr ⟨get_out (Nat.le_refl _), ?_, acc.toList, c, ?_, ?_⟩
      · rw [List.length_map, has, ← hl]; exact z
      · rw [hacc]; exact vals_refs as
      · simpa using hS
    · rw [upd_ne eb] at e
      rcases layT_new e with z' | ⟨j, x, e1, e2, rfl⟩
      · exact .inl z'
      · refine .inr ⟨get_out (Nat.le_of_lt (G.above b (List.mem_of_getElem? e1))), ?_⟩
        obtain ⟨key, k, y, e3, e4, e5⟩ := G.pairs j b e1
        rw [List.getElem?_map] at e2
        obtain ⟨p, e6, rfl⟩ := Option.map_eq_some_iff.mp e2
        obtain ⟨p', e7, e8, e9⟩ := paired_get rel e6
        rw [e3] at e7
        cases e7
        have e8 : p.1 = k := e8
        rw [e8]
        exact pairs_ok (K := Key) e5 e4 e9
  · refine q _ as _ (fun b u e => ?_) ?_ fl upd_same
    · rw [upd_ne (ne_of_none e fl)]; exact layT_old e (fr b u e)
    · have hp := layT_at (H := H) nd lenA
      have aux : ∀ (bs : List Addr) (ys : List (List V)), (∀ b ∈ bs, b ∈ as) → Paired (fun a x => layT H as (kvs.map fun p => [kV p.1, p.2]) a = some (.tup x)) bs ys →
          Paired (fun a x => upd (layT H as (kvs.map fun p => [kV p.1, p.2])) s.heap.objs.size (.lst (as.map V.ref)) a = some (.tup x)) bs ys := by
        intro bs ys hb hp
        induction hp with
        | nil => exact .nil
        | cons r _ ih2 =>
          refine .cons ?_ (ih2 fun b hb' => hb b (List.mem_cons_of_mem _ hb'))
          rw [upd_ne (fun z => nl (by rw [← z]; exact hb _ (List.mem_cons_self ..)))]
          exact r
      exact aux as _ (fun b hb => hb) hp
/-! ### sorted(d.items()): pairs of ints, by the first -/
def rSortedItems : List V → Hp → VK → Prop := fun xs H Q => ∃ (v d : Addr) (ns : List (Int × Int)), xs = [.ref v] ∧ H v = some (isView v d) ∧ H d = some (.dK (ns.map fun p => (Sum.inl p.1, V.int p.2))) ∧
  ∀ (H' : Hp) (as : List Addr) (l : Addr) (ns' : List (Int × Int)), ns'.Perm ns → ns'.Pairwise (fun a b => a.1 ≤ b.1) → (∀ b u, H b = some u → H' b = some u) → Paired (fun a x => H' a = some (.tup x)) as (ns'.map fun p => [V.int p.1, V.int p.2]) →
    H l = none → H' l = some (.lst (as.map V.ref)) → Q (.ref l) H'
open PyProof.Rows.G in
theorem keyC_of {h : Heap} {a : Addr} {i j : Int} {t u : Tok} (ho : h.get? a = some { cls := .type "tuple", data := .seq #[.int i t, .int j u] }) : tupKeyC h (fun _ => false) (.ref a) = some [Sum.inl i, Sum.inl j] := by
  unfold tupKeyC
  have e1 : isTupObj h (.ref a) = true := by simp [isTupObj, ho]
  rw [if_pos e1]
  simp only [tupKey, ho]
  rfl
/-- the pair of a tuple of two ints -/
def pk (h : Heap) (v : Value) : Int × Int := match PyProof.Rows.G.tupKeyC h (fun _ => false) v with
  | some [Sum.inl i, Sum.inl j] => (i, j)
  | _ => (0, 0)
theorem mem_zip_same {α : Type} {l : List α} {p : α × α} (h : p ∈ l.zip l) : p.1 = p.2 ∧ p.1 ∈ l := by
  induction l with
  | nil => simp at h
  | cons a l ih =>
    rw [List.zip_cons_cons] at h
    rcases List.mem_cons.mp h with e | m
    · subst e; exact ⟨rfl, List.mem_cons_self ..⟩
    · exact ⟨(ih m).1, List.mem_cons_of_mem _ (ih m).2⟩
theorem zip_same_fst {α : Type} (l : List α) : (l.zip l).map (·.1) = l := by
  induction l with
  | nil => rfl
  | cons a l ih => rw [List.zip_cons_cons, List.map_cons, ih]
theorem refs_back : ∀ {vs : List Value} {as : List Addr}, vs.Perm (as.map Value.ref) → ∃ as' : List Addr, vs = as'.map Value.ref ∧ as'.Perm as := by
  intro vs as h
  refine ⟨vs.map fun v => match v with | .ref a => a | _ => 0, ?_, ?_⟩
  · rw [List.map_map]
    conv => lhs; rw [← List.map_id vs]
    refine List.map_congr_left fun v hv => ?_
    obtain ⟨a, _, rfl⟩ := List.mem_map.mp (h.mem_iff.mp hv)
    rfl
  · have := h.map fun v => match v with | .ref a => a | _ => 0
    rw [List.map_map] at this
    have e : (as.map ((fun v => match v with | .ref a => a | _ => 0) ∘ Value.ref)) = as := by
      conv => rhs; rw [← List.map_id as]
      rfl
    rw [e] at this
    exact this
open PyProof.Rows.G in
theorem cr_sortedItems {X : Cx} (hc : X.calm = true) : CallR X (.builtin "sorted") rSortedItems := by
  intro pins s σ H xs us Q I r h
  obtain ⟨v, d, ns, rfl, hv, hd, q⟩ := h
  rw [Vals.ref1 r]
  obtain ⟨z, hs, vs, rel, dd⟩ := dk_of I.hok hd
  obtain ⟨ep, dd⟩ := dd.dictAt
  have view : s.heap.IsItemsView v d := (I.hok v _ hv).1
  have hl : (ns.map fun p => ((Sum.inl p.1 : Key), V.int p.2)).length = vs.length := Paired.length rel
  rw [List.length_map] at hl z
  refine Calls.call_function_entry kind_sorted plain_sorted entry_sorted (args_sorted1 _) ?_; unfold Builtin.«sorted»; refine wpAny_bind (m := checkCount "sorted" 1 1 _) (wpAny_pure ?_)
  refine wpAny_bind (PySem.W.kdx_collect (knd := mixKind X.prog X.w) (kvs := vs) (ep := ep) (I.ok.hd hc) view dd (by rw [← hl]; exact z) fun h' tk as hk has G => ?_)
  have tup : ∀ (j : Nat) (a : Addr), as[j]? = some a → ∃ (p : Int × Int) (t u : Tok), ns[j]? = some p ∧ h'.get? a = some { cls := .type "tuple", data := .seq #[.int p.1 t, .int p.2 u] } := by
    intro j a e
    obtain ⟨key, k, y, e3, e4, e5⟩ := G.pairs j a e
    have hj : j < ns.length := by rw [hl, ← has]; exact (List.getElem?_eq_some_iff.mp e).1
    obtain ⟨p', e7, e8, e9⟩ := paired_get rel (show (ns.map fun p => ((Sum.inl p.1 : Key), V.int p.2))[j]? = some (Sum.inl ns[j].1, V.int ns[j].2) by rw [List.getElem?_map, List.getElem?_eq_getElem hj]; rfl)
    rw [e3] at e7
    cases e7
    obtain ⟨u, hu⟩ := e9
    have e8 : Sum.inl ns[j].1 = k := e8
    subst e8
    obtain ⟨t, ht⟩ := Value.isInt_shape (k := ns[j].1) (v := key) e4
    subst ht
    have hu : y = .int ns[j].2 u := hu
    subst hu
    exact ⟨ns[j], t, u, List.getElem?_eq_getElem hj, e5⟩
  refine wpAny_bind (wpAny_newList ?_); have hoL : (h'.push (seqObj "list" (as.map Value.ref).toArray 0)).get? h'.objs.size = some (seqObj "list" (as.map Value.ref).toArray 0) := Heap.get?_push_size _ rfl
  show wpAny _ _ _ _ _ { s with heap := h'.push (seqObj "list" (as.map Value.ref).toArray 0), toks := tk }
  have tup2 : ∀ (j : Nat) (a : Addr), as[j]? = some a → ∃ (p : Int × Int) (t u : Tok), ns[j]? = some p ∧ (h'.push (seqObj "list" (as.map Value.ref).toArray 0)).get? a = some { cls := .type "tuple", data := .seq #[.int p.1 t, .int p.2 u] } := fun j a e => by
    obtain ⟨p, t, u, e1, e2⟩ := tup j a e
    exact ⟨p, t, u, e1, Heap.get?_push_of_some _ e2⟩
  have fsts : ∀ l : List Addr, (∀ a ∈ l, ∃ (p : Int × Int) (t u : Tok), (h'.push (seqObj "list" (as.map Value.ref).toArray 0)).get? a = some { cls := .type "tuple", data := .seq #[.int p.1 t, .int p.2 u] }) →
      ∃ fs, TupsOf (h'.push (seqObj "list" (as.map Value.ref).toArray 0)) (fun _ => false) (l.map Value.ref) fs := by
    intro l
    induction l with
    | nil => exact fun _ => ⟨[], .nil⟩
    | cons a l ih =>
      intro hl
      obtain ⟨fs, hf⟩ := ih fun b hb => hl b (List.mem_cons_of_mem _ hb)
      obtain ⟨p, t, u, e⟩ := hl a (List.mem_cons_self ..)
      exact ⟨_, .cons ⟨a, _, _, _, rfl, e, rfl, rfl, rfl, fun _ => ⟨_, _, rfl⟩, fun z => absurd z (by simp)⟩ hf⟩
  have inA : ∀ a ∈ as, ∃ (p : Int × Int) (t u : Tok), (h'.push (seqObj "list" (as.map Value.ref).toArray 0)).get? a = some { cls := .type "tuple", data := .seq #[.int p.1 t, .int p.2 u] } := fun a ha => by
    obtain ⟨j, e⟩ := List.mem_iff_getElem?.mp ha
    obtain ⟨p, t, u, _, e2⟩ := tup2 j a e
    exact ⟨p, t, u, e2⟩
  obtain ⟨fs, hf⟩ := fsts as inA
  refine wpAny_bind (wpAny_holding (wpAny_call_entry slot_list_sort ⟨_, hoL, rfl⟩ entry_list_sort (list_sort_tups (shape := fun _ => false) hoL hf (fun v hv => ?_) (by rw [List.length_map, has, ← hl]; exact z) fun st' a1 a2 _ => ⟨_, rfl, ?_⟩) (args_list_sort _)))
  · obtain ⟨a, ha, rfl⟩ := List.mem_map.mp hv
    obtain ⟨p, t, u, e⟩ := inA a ha
    exact ⟨_, keyC_of e⟩
  generalize hh2 : h'.push (seqObj "list" (as.map Value.ref).toArray 0) = h2 at *
  have hk2 : ∀ b o, s.heap.get? b = some o → h2.get? b = some o := fun b o e => by rw [← hh2]; exact Heap.get?_push_of_some _ (hk b o e)
  obtain ⟨ep', he'⟩ := PyProof.Rows.sortedHeap_at (vs := as.map Value.ref) (out := (arrOf st').map (·.2)) hoL
  have lp : (arrOf st').toList.Perm ((as.map Value.ref).zip (as.map Value.ref)) := by rw [← pairsOf_toList]; exact Array.perm_iff_toList_perm.mp a1
  have same : ∀ p ∈ (arrOf st').toList, p.1 = p.2 := fun p hp => (mem_zip_same (lp.mem_iff.mp hp)).1
  have e2 : ((arrOf st').map (·.2)).toList = (arrOf st').toList.map (·.1) := by
    rw [Array.toList_map]
    exact List.map_congr_left fun p hp => (same p hp).symm
  have perm : (((arrOf st').map (·.2)).toList).Perm (as.map Value.ref) := by
    rw [e2]
    have := lp.map (·.1)
    rw [zip_same_fst] at this
    exact this
  obtain ⟨as', ea, pa⟩ := refs_back perm
  have pkA : ∀ (j : Nat) (a : Addr), as[j]? = some a → ns[j]? = some (pk h2 (.ref a)) := fun j a e => by
    obtain ⟨p, t, u, e1, e2⟩ := tup2 j a e
    rw [e1]
    unfold pk
    rw [keyC_of e2]
  have nsEq : ns = as.map fun a => pk h2 (.ref a) := by
    refine List.ext_getElem? fun j => ?_
    rw [List.getElem?_map]
    cases e : as[j]? with
    | none =>
      have : ns.length ≤ j := by rw [hl, ← has]; exact List.getElem?_eq_none_iff.mp e
      rw [List.getElem?_eq_none this]
      rfl
    | some a => rw [pkA j a e]; rfl
  have lt' : ∀ a ∈ as, a < h2.objs.size ∧ s.heap.objs.size < a := fun a ha => by
    obtain ⟨p, t, u, e⟩ := inA a ha
    exact ⟨Heap.lt_size e, G.above a ha⟩
  have nd : as'.Nodup := pa.nodup_iff.mpr (G.rise.imp fun {a b} h => Nat.ne_of_lt h)
  have h2s : h2.objs.size = h'.objs.size + 1 := by rw [← hh2]; exact Heap.size_push _ _
  have memA : ∀ a, a ∈ as' → a ∈ as := fun a h => pa.mem_iff.mp h
  have finT : ∀ a ∈ as', (sortedHeap h2 h'.objs.size (as.map Value.ref) ((arrOf st').map (·.2))).get? a = h2.get? a := fun a ha => by
    have h1 := lt' a (memA a ha)
    obtain ⟨p, t, u, e⟩ := inA a (memA a ha)
    refine sortedHeap_old (fun z => ?_) h1.1
    rw [z, hoL] at e
    simp [seqObj] at e
  have fl : H h'.objs.size = none := (I.hok.kept hk).fresh (Nat.le_refl _)
  have fr : ∀ b u, H b = some u → b ∉ as' := fun b u e m => absurd (I.hok.lt e) (Nat.not_lt.mpr (Nat.le_of_lt (lt' b (memA b m)).2))
  have nl : h'.objs.size ∉ as' := fun m => by
    obtain ⟨p, t, u, e⟩ := inA _ (memA _ m)
    rw [hoL] at e
    simp [seqObj] at e
  have lenA : as'.length = ((as'.map fun a => pk h2 (.ref a)).map fun p => [V.int p.1, V.int p.2]).length := by rw [List.length_map, List.length_map]
  have kp3 : ∀ b o, s.heap.get? b = some o → (sortedHeap h2 h'.objs.size (as.map Value.ref) ((arrOf st').map (·.2))).get? b = some o := fun b o e => by
    have e2 := hk2 b o e
    rw [sortedHeap_old (Nat.ne_of_lt (Heap.lt_size (hk b o e))) (Heap.lt_size e2)]
    exact e2
  refine wpAny_pure ⟨_, rfl, .ref h'.objs.size, upd (layT H as' ((as'.map fun a => pk h2 (.ref a)).map fun p => [V.int p.1, V.int p.2])) h'.objs.size (.lst (as'.map V.ref)), I.many (t' := tk) kp3 (fun b u e => ?_) (fun b u e => ?_), rfl, ?_⟩
  · rw [upd_ne (ne_of_none e fl)]; exact layT_old e (fr b u e)
  · by_cases eb : b = h'.objs.size
    · subst eb
      rw [upd_same] at e
      cases e
      refine .inr ⟨?_, ?_, ((arrOf st').map (·.2)).toList, ep', ?_, ?_⟩
      · cases e : s.heap.get? h'.objs.size with
        | none => rfl
        | some o => exact absurd (Heap.lt_size (hk _ o e)) (Nat.lt_irrefl _)
      · rw [List.length_map, pa.length_eq, has, ← hl]; exact z
      · rw [ea]; exact vals_refs as'
      · rw [he']
    · rw [upd_ne eb] at e
      rcases layT_new e with z' | ⟨j, x, e1, e2, rfl⟩
      · exact .inl z'
      · have hb := List.mem_of_getElem? e1
        refine .inr ⟨get_out (Nat.le_of_lt (lt' b (memA b hb)).2), ?_⟩
        rw [List.getElem?_map, List.getElem?_map, e1] at e2
        have e2 : [V.int (pk h2 (.ref b)).1, V.int (pk h2 (.ref b)).2] = x := Option.some.inj e2
        subst e2
        obtain ⟨p, t, u, e5⟩ := inA b (memA b hb)
        have ep : pk h2 (.ref b) = p := by unfold pk; rw [keyC_of e5]
        rw [ep]
        exact ⟨(by show 2 ≤ sizeLine; decide), [.int p.1 t, .int p.2 u], .cons ⟨t, rfl⟩ (.cons ⟨u, rfl⟩ .nil), _, (finT b hb).trans e5, rfl, 0, rfl⟩
  · refine q _ as' _ (as'.map fun a => pk h2 (.ref a)) (by rw [nsEq]; exact pa.map _) ?_ (fun b u e => ?_) ?_ fl upd_same
    · rw [List.pairwise_iff_getElem]
      intro i j hi hj hij
      have hi' : i < as'.length := by simpa using hi
      have hj' : j < as'.length := by simpa using hj
      have lenO : (arrOf st').size = as'.length := by
        have := congrArg List.length ea
        simpa using this
      have srt := a2 i j (Nat.le_of_lt hij) (by rw [pairsOf_size, List.length_map, ← pa.length_eq]; exact hj')
      have kk : ∀ (m : Nat) (hm : m < as'.length), KK (tupKindC h2 fun _ => false) (arrOf st') m = [Sum.inl (pk h2 (.ref as'[m])).1, Sum.inl (pk h2 (.ref as'[m])).2] := fun m hm => by
        have hm2 : m < (arrOf st').size := by rw [lenO]; exact hm
        have ev : (arrOf st')[m].1 = Value.ref as'[m] := by
          have h1 : (((arrOf st').map (·.2)).toList)[m]? = some (arrOf st')[m].2 := by simp [hm2]
          rw [ea, List.getElem?_map, List.getElem?_eq_getElem hm] at h1
          have h2 : Value.ref as'[m] = (arrOf st')[m].2 := Option.some.inj h1
          rw [h2]
          exact same _ (by simp)
        unfold KK
        rw [Array.getElem?_eq_getElem hm2]
        show (tupKeyC h2 (fun _ => false) (arrOf st')[m].1).getD [] = _
        rw [ev]
        obtain ⟨p, t, u, e5⟩ := inA as'[m] (memA _ (List.getElem_mem hm))
        unfold pk
        rw [keyC_of e5]
        rfl
      rw [kk i hi', kk j hj'] at srt
      have srt : lexLt itemOrd [Sum.inl (pk h2 (.ref as'[j])).1, Sum.inl (pk h2 (.ref as'[j])).2] [Sum.inl (pk h2 (.ref as'[i])).1, Sum.inl (pk h2 (.ref as'[i])).2] = false := srt
      have h1 := (lex_false.mp srt).1
      have h1 : decide ((pk h2 (.ref as'[j])).1 < (pk h2 (.ref as'[i])).1) = false := h1
      rw [List.getElem_map, List.getElem_map]
      have := of_decide_eq_false h1
      omega
    · rw [upd_ne (ne_of_none e fl)]; exact layT_old e (fr b u e)
    · have hp := layT_at (H := H) nd lenA
      have aux : ∀ (bs : List Addr) (ys : List (List V)), (∀ b ∈ bs, b ∈ as') → Paired (fun a x => layT H as' ((as'.map fun a => pk h2 (.ref a)).map fun p => [V.int p.1, V.int p.2]) a = some (.tup x)) bs ys →
          Paired (fun a x => upd (layT H as' ((as'.map fun a => pk h2 (.ref a)).map fun p => [V.int p.1, V.int p.2])) h'.objs.size (.lst (as'.map V.ref)) a = some (.tup x)) bs ys := by
        intro bs ys hb hp
        induction hp with
        | nil => exact .nil
        | cons r _ ih2 =>
          refine .cons ?_ (ih2 fun b hb' => hb b (List.mem_cons_of_mem _ hb'))
          rw [upd_ne (fun z => nl (by rw [← z]; exact hb _ (List.mem_cons_self ..)))]
          exact r
      exact aux as' _ (fun b hb => hb) hp
/-! ### in a comprehension's block: the rules that name the text's own part, told by that -/
theorem op_catTK {X : Cx} {K : PySem.W.Frag} (hK : X.K = K) : OpR X (binaryOp .Add) (rCatT K) := by
  subst hK; exact op_catT
theorem pg_tupK {X : Cx} {K : PySem.W.Frag} {pos : Pos} {es : List Expr} {k : Nat} {t : TGs} {n : Nat} (hK : X.K = K) (hc : X.calm = true) (h : PGs X es t)
    (hn : (assignEach es X.env).length = n := by rfl) (hst : (assignEach es X.env).findIdx? (·.1) = none := by rfl) : PG X (.Tuple es k pos) (gTup K n t) := by
  subst hK; exact pg_tup hc h hn hst
end L2
set_option maxHeartbeats 1000000
/-! What is true of every state that the document's calls reach. -/
namespace M
open Ha02
/-! ### lists -/
theorem mem_set {α : Type} {l : List α} {i : Nat} {x y : α} (h : y ∈ l.set i x) : y ∈ l ∨ y = x := List.mem_or_eq_of_mem_set h
theorem flat_set_sub {α β : Type} (f : α → List β) : ∀ {l : List α} {i : Nat} {x y : α}, l[i]? = some x → (f y).Sublist (f x) → ((l.set i y).flatMap f).Sublist (l.flatMap f)
  | [], _, _, _, h, _ => by simp at h
  | a :: l, 0, x, y, h, hs => by
    have e : a = x := Option.some.inj h
    subst e
    simp only [List.set_cons_zero, List.flatMap_cons]
    exact List.Sublist.append hs (List.Sublist.refl _)
  | a :: l, i + 1, x, y, h, hs => by
    simp only [List.set_cons_succ, List.flatMap_cons]
    exact List.Sublist.append (List.Sublist.refl _) (flat_set_sub f (l := l) (i := i) h hs)
theorem flat_set_cons {α β : Type} (f : α → List β) {b : β} : ∀ {l : List α} {i : Nat} {x y : α}, l[i]? = some x → (f y).Perm (b :: f x) → ((l.set i y).flatMap f).Perm (b :: l.flatMap f)
  | [], _, _, _, h, _ => by simp at h
  | a :: l, 0, x, y, h, hs => by
    have e : a = x := Option.some.inj h
    subst e
    simp only [List.set_cons_zero, List.flatMap_cons]
    exact (List.Perm.append_right _ hs)
  | a :: l, i + 1, x, y, h, hs => by
    simp only [List.set_cons_succ, List.flatMap_cons]
    exact (List.Perm.append_left _ (flat_set_cons f (l := l) (i := i) h hs)).trans List.perm_middle
theorem flat_set_eq {α β : Type} (f : α → List β) : ∀ {l : List α} {i : Nat} {x y : α}, l[i]? = some x → f y = f x → (l.set i y).flatMap f = l.flatMap f
  | [], _, _, _, h, _ => by simp at h
  | a :: l, 0, x, y, h, hs => by
    have e : a = x := Option.some.inj h
    subst e
    simp only [List.set_cons_zero, List.flatMap_cons, hs]
  | a :: l, i + 1, x, y, h, hs => by
    simp only [List.set_cons_succ, List.flatMap_cons]
    rw [flat_set_eq f (l := l) (i := i) h hs]
theorem countP_set {α : Type} (p : α → Bool) : ∀ {l : List α} {i : Nat} {x y : α}, l[i]? = some x → (l.set i y).countP p + (if p x then 1 else 0) = l.countP p + (if p y then 1 else 0)
  | [], _, _, _, h => by simp at h
  | a :: l, 0, x, y, h => by
    have e : a = x := Option.some.inj h
    subst e
    simp only [List.set_cons_zero, List.countP_cons]
    omega
  | a :: l, i + 1, x, y, h => by
    simp only [List.set_cons_succ, List.countP_cons]
    have := countP_set p (l := l) (i := i) (y := y) h
    omega
/-- a list without doubles of numbers from 1 to n has at most n -/
theorem nodup_le : ∀ (n : Nat) {l : List Nat}, l.Nodup → (∀ x ∈ l, 1 ≤ x ∧ x ≤ n) → l.length ≤ n
  | 0, l, _, h => by
    cases l with
    | nil => simp
    | cons a r => have := h a (by simp); omega
  | n + 1, l, hn, h => by
    have h1 : (l.erase (n + 1)).Nodup := hn.erase _
    have h2 := nodup_le n h1 fun x hx => by
      have hx' := (List.Nodup.mem_erase_iff hn).mp hx
      have := h x hx'.2
      omega
    have h3 := List.length_erase_le (a := n + 1) (l := l)
    by_cases hm : n + 1 ∈ l
    · have := List.length_erase_of_mem hm
      have : 0 < l.length := List.length_pos_of_mem hm
      omega
    · rw [List.erase_of_not_mem hm] at h2
      omega
theorem sorted_nodup {l : List Link} (h : l.Pairwise fun x y => x.to < y.to) : (l.map (·.to)).Nodup := by
  rw [List.nodup_iff_pairwise_ne, List.pairwise_map]
  exact h.imp fun {a b} h => Nat.ne_of_lt h
/-! ### links -/
theorem insert_mem : ∀ {l : List Link} {y z : Link}, z ∈ insertLink y l → z = y ∨ (z ∈ l ∧ (l.Pairwise (fun a b => a.to < b.to) → z.to ≠ y.to))
  | [], y, z, h => by simp [insertLink] at h; exact .inl h
  | a :: r, y, z, h => by
    unfold insertLink at h
    split at h
    · rename_i hlt
      rcases List.mem_cons.mp h with e | m
      · exact .inl e
      · refine .inr ⟨m, fun hp => ?_⟩
        rcases List.mem_cons.mp m with e | m'
        · subst e; omega
        · have := (List.pairwise_cons.mp hp).1 z m'; omega
    · split at h
      · rename_i h1 h2
        rcases List.mem_cons.mp h with e | m
        · exact .inl e
        · refine .inr ⟨List.mem_cons_of_mem _ m, fun hp => ?_⟩
          have := (List.pairwise_cons.mp hp).1 z m; omega
      · rename_i h1 h2
        rcases List.mem_cons.mp h with e | m
        · subst e
          exact .inr ⟨by simp, fun _ => by omega⟩
        · rcases insert_mem m with e | ⟨m1, m2⟩
          · exact .inl e
          · exact .inr ⟨List.mem_cons_of_mem _ m1, fun hp => m2 (List.pairwise_cons.mp hp).2⟩
theorem insert_srt : ∀ {l : List Link} {y : Link}, l.Pairwise (fun a b => a.to < b.to) → (insertLink y l).Pairwise (fun a b => a.to < b.to)
  | [], y, _ => by simp [insertLink]
  | a :: r, y, h => by
    obtain ⟨h1, h2⟩ := List.pairwise_cons.mp h
    unfold insertLink
    split
    · rename_i hlt
      refine List.pairwise_cons.mpr ⟨fun z hz => ?_, h⟩
      rcases List.mem_cons.mp hz with e | m
      · subst e; exact hlt
      · have := h1 z m; omega
    · split
      · rename_i _ he
        refine List.pairwise_cons.mpr ⟨fun z hz => ?_, h2⟩
        have := h1 z hz; omega
      · rename_i hn he
        refine List.pairwise_cons.mpr ⟨fun z hz => ?_, insert_srt h2⟩
        rcases insert_mem hz with e | ⟨m, _⟩
        · subst e; omega
        · exact h1 z m
/-! ### states -/
/-- a signal's watch -/
def wn (y : Nat × Nat × Sig) : Option Nat := match y.2.2 with
  | .watch k => some k
  | _ => none
/-- the watches that are on their way to be told, or have been -/
def heard (p : Proc) : List Nat := p.watched.map (·.1)
def nums (s : St) : List Nat := s.air.filterMap wn ++ s.procs.flatMap heard
/-- numbers told with a signal -/
def sigOk (last : Nat) : Sig → Prop
  | .cut k => 1 ≤ k
  | .heard k => 1 ≤ k
  | .watch k => 1 ≤ k ∧ k ≤ last
  | _ => True
structure PGood (n last t : Nat) (p : Proc) : Prop where
  srt : p.links.Pairwise fun x y => x.to < y.to
  lin : ∀ y ∈ p.links, 1 ≤ y.to ∧ y.to ≤ n
  wnd : (p.watches.map (·.1)).Nodup
  win : ∀ y ∈ p.watches, (1 ≤ y.1 ∧ y.1 ≤ last) ∧ 1 ≤ y.2 ∧ y.2 ≤ n
  vin : ∀ y ∈ p.watched, (1 ≤ y.1 ∧ y.1 ≤ last) ∧ 1 ≤ y.2 ∧ y.2 ≤ n
  box : p.box.length ≤ t
def living (s : St) : Nat := s.procs.countP (·.lives)
/-- c: how many calls; t: how many signals may have arrived -/
structure Good (c t : Nat) (s : St) : Prop where
  few : s.procs.length ≤ 12
  pg : ∀ p ∈ s.procs, PGood s.procs.length s.last t p
  ag : ∀ y ∈ s.air, (1 ≤ y.1 ∧ y.1 ≤ s.procs.length) ∧ (1 ≤ y.2.1 ∧ y.2.1 ≤ s.procs.length) ∧ sigOk s.last y.2.2
  nd : (nums s).Nodup
  last : s.last ≤ c
  room : s.air.length + 212 * living s ≤ c + 212 * s.procs.length
theorem PGood.mono {n n' last last' t t' : Nat} {p : Proc} (h : PGood n last t p) (hn : n ≤ n') (hl : last ≤ last') (ht : t ≤ t') : PGood n' last' t' p :=
  ⟨h.srt, fun y hy => ⟨(h.lin y hy).1, Nat.le_trans (h.lin y hy).2 hn⟩, h.wnd, fun y hy => ⟨⟨(h.win y hy).1.1, Nat.le_trans (h.win y hy).1.2 hl⟩, (h.win y hy).2.1, Nat.le_trans (h.win y hy).2.2 hn⟩,
    fun y hy => ⟨⟨(h.vin y hy).1.1, Nat.le_trans (h.vin y hy).1.2 hl⟩, (h.vin y hy).2.1, Nat.le_trans (h.vin y hy).2.2 hn⟩, Nat.le_trans h.box ht⟩
theorem Good.mono {c c' t t' : Nat} {s : St} (h : Good c t s) (hc : c ≤ c') (ht : t ≤ t') : Good c' t' s :=
  ⟨h.few, fun p hp => (h.pg p hp).mono (Nat.le_refl _) (Nat.le_refl _) ht, h.ag, h.nd, Nat.le_trans h.last hc, by have := h.room; omega⟩
theorem good_init : Good 0 0 init := ⟨by decide, fun p hp => by simp [init] at hp, fun y hy => by simp [init] at hy, by simp [nums, init], by decide, by decide⟩
/-! ### one process is changed -/
theorem there_iff {s : St} {p : Nat} : isThere s p = true ↔ 1 ≤ p ∧ p ≤ s.procs.length := by simp [isThere]
theorem proc_at {s : St} {p : Nat} (h : 1 ≤ p ∧ p ≤ s.procs.length) : s.procs[p - 1]? = some (proc s p) := by
  have : p - 1 < s.procs.length := by omega
  simp [proc, this, List.getD_eq_getElem?_getD]
theorem proc_mem {s : St} {p : Nat} (h : 1 ≤ p ∧ p ≤ s.procs.length) : proc s p ∈ s.procs := List.mem_of_getElem? (proc_at h)
theorem living_le {s : St} : living s ≤ s.procs.length := List.countP_le_length
/-- what is written in place of process p -/
theorem Good.set {c t : Nat} {s : St} {p : Nat} {x : Proc} (g : Good c t s) (hp : 1 ≤ p ∧ p ≤ s.procs.length) (hx : PGood s.procs.length s.last t x) (hl : x.lives = true → (proc s p).lives = true) (hw : (heard x).Sublist (heard (proc s p))) : Good c t (setProc s p x) := by
  have e := proc_at hp
  have hlen : (setProc s p x).procs.length = s.procs.length := by simp [setProc]
  refine ⟨by rw [hlen]; exact g.few, fun y hy => ?_, fun y hy => ?_, ?_, g.last, ?_⟩
  · rw [hlen]
    rcases mem_set hy with h | h
    · exact g.pg y h
    · subst h; exact hx
  · rw [hlen]; exact g.ag y hy
  · refine g.nd.sublist ?_
    exact List.Sublist.append (List.Sublist.refl _) (flat_set_sub heard e hw)
  · rw [hlen]
    have h1 := countP_set (·.lives) (y := x) e
    have h2 : living (setProc s p x) = (s.procs.set (p - 1) x).countP (·.lives) := rfl
    have h3 : living s = s.procs.countP (·.lives) := rfl
    have h4 := g.room
    have h5 : (if x.lives = true then 1 else 0) ≤ (if (proc s p).lives = true then 1 else 0) := by
      by_cases hx : x.lives = true
      · simp [hx, hl hx]
      · simp [hx]
    show s.air.length + _ ≤ _
    rw [h2]; rw [h3] at h4
    have : (s.procs.set (p - 1) x).countP (·.lives) ≤ s.procs.countP (·.lives) := by
      have h1' : (s.procs.set (p - 1) x).countP (·.lives) + (if (proc s p).lives = true then 1 else 0) = s.procs.countP (·.lives) + (if x.lives = true then 1 else 0) := h1
      omega
    omega
/-- a signal is sent (no watch) -/
theorem Good.send {c t : Nat} {s : St} {p q : Nat} {x : Sig} (g : Good c t s) (hp : 1 ≤ p ∧ p ≤ s.procs.length) (hq : 1 ≤ q ∧ q ≤ s.procs.length) (hx : sigOk s.last x) (hw : wn (p, q, x) = none) (hr : s.air.length + 1 + 212 * living s ≤ c + 212 * s.procs.length) :
    Good c t (send s p q x) := by
  refine ⟨g.few, g.pg, fun y hy => ?_, ?_, g.last, ?_⟩
  · rcases List.mem_append.mp hy with h | h
    · exact g.ag y h
    · rw [List.mem_singleton.mp h]; exact ⟨hp, hq, hx⟩
  · have : nums (Ha02.send s p q x) = nums s := by
      show (s.air ++ [(p, q, x)]).filterMap wn ++ _ = s.air.filterMap wn ++ _
      rw [List.filterMap_append]
      simp [hw, Ha02.send]
    rw [this]; exact g.nd
  · show (s.air ++ [(p, q, x)]).length + 212 * living s ≤ _
    rw [List.length_append]
    exact hr
end M
set_option maxHeartbeats 1000000
namespace M
open Ha02
theorem linkTo_mem {x : Proc} {q : Nat} {y : Link} (h : linkTo x q = some y) : y ∈ x.links ∧ y.to = q := by
  unfold linkTo at h
  exact ⟨List.mem_of_find?_eq_some h, by have := List.find?_some h; simpa using this⟩
theorem links_len {n last t : Nat} {p : Proc} (h : PGood n last t p) : p.links.length ≤ n := by
  have := nodup_le n (sorted_nodup h.srt) (fun x hx => by
    obtain ⟨y, hy, rfl⟩ := List.mem_map.mp hx
    exact h.lin y hy)
  simpa using this
theorem watches_len {n last t : Nat} {p : Proc} (h : PGood n last t p) : p.watches.length ≤ last := by
  have := nodup_le last h.wnd (fun x hx => by
    obtain ⟨y, hy, rfl⟩ := List.mem_map.mp hx
    exact (h.win y hy).1)
  simpa using this
theorem Good.vnd {c t : Nat} {s : St} (g : Good c t s) {p : Proc} (hp : p ∈ s.procs) : (heard p).Nodup := by
  have h1 := (List.nodup_append.mp g.nd).2.1
  exact h1.sublist (by
    obtain ⟨a, b, e⟩ := List.append_of_mem hp
    rw [e, List.flatMap_append, List.flatMap_cons]
    exact List.Sublist.trans (List.sublist_append_left _ _) (List.sublist_append_right _ _))
theorem watched_len {c t : Nat} {s : St} (g : Good c t s) {p : Proc} (hp : p ∈ s.procs) : p.watched.length ≤ s.last := by
  have := nodup_le s.last (g.vnd hp) (fun x hx => by
    obtain ⟨y, hy, rfl⟩ := List.mem_map.mp hx
    exact ((g.pg p hp).vin y hy).1)
  simpa [heard] using this
/-- the signals that an end sends -/
def lastWords (x : Proc) (p why : Nat) : List (Nat × Nat × Sig) :=
  ((x.links.filter fun y => y.cutting == 0).map fun y => (p, y.to, Sig.ended why)) ++ (x.watched.map fun y => (p, y.2, Sig.gone y.1 why)) ++ x.watches.map fun y => (p, y.2, Sig.unwatch y.1)
def ended (x : Proc) (why : Nat) : Proc := { x with lives := false, why := why, links := [], watches := [], watched := [] }
theorem dies_eq (s : St) (p why : Nat) : dies s p why = { setProc s p (ended (proc s p) why) with air := s.air ++ lastWords (proc s p) p why } := by
  simp [dies, lastWords, ended, List.append_assoc]
theorem ended_good {n last t why : Nat} {x : Proc} (h : PGood n last t x) : PGood n last t (ended x why) :=
  ⟨by simp [ended], fun y hy => by simp [ended] at hy, by simp [ended], fun y hy => by simp [ended] at hy, fun y hy => by simp [ended] at hy, h.box⟩
theorem last_len {c t : Nat} {s : St} (g : Good c t s) (hc : c ≤ 100) {p why : Nat} (hp : 1 ≤ p ∧ p ≤ s.procs.length) : (lastWords (proc s p) p why).length ≤ 212 := by
  have m := proc_mem hp
  have a := links_len (g.pg _ m)
  have b := watched_len g m
  have d := watches_len (g.pg _ m)
  have e := List.length_filter_le (fun y : Link => y.cutting == 0) (proc s p).links
  have := g.few
  have := g.last
  simp only [lastWords, List.length_append, List.length_map]
  omega
theorem Good.dies {c t : Nat} {s : St} {p why : Nat} (g : Good c t s) (hc : c ≤ 100) (hp : 1 ≤ p ∧ p ≤ s.procs.length) (hl : (proc s p).lives = true) : Good c t (dies s p why) := by
  have m := proc_mem hp
  have pg := g.pg _ m
  have g1 := g.set (x := ended (proc s p) why) hp (ended_good pg) (fun h => by simp [ended] at h) (by simp [ended, heard])
  rw [dies_eq]
  have hlen : (setProc s p (ended (proc s p) why)).procs.length = s.procs.length := by simp [setProc]
  refine ⟨g1.few, g1.pg, fun y hy => ?_, ?_, g1.last, ?_⟩
  · show _ ∧ _ ∧ sigOk s.last y.2.2
    rw [show ({ setProc s p (ended (proc s p) why) with air := s.air ++ lastWords (proc s p) p why } : St).procs.length = s.procs.length from hlen]
    rcases List.mem_append.mp hy with h | h
    · exact g.ag y h
    · rcases List.mem_append.mp h with h | h
      · rcases List.mem_append.mp h with h | h
        · obtain ⟨z, hz, rfl⟩ := List.mem_map.mp h
          exact ⟨hp, pg.lin z (List.mem_filter.mp hz).1, trivial⟩
        · obtain ⟨z, hz, rfl⟩ := List.mem_map.mp h
          exact ⟨hp, (pg.vin z hz).2, trivial⟩
      · obtain ⟨z, hz, rfl⟩ := List.mem_map.mp h
        exact ⟨hp, (pg.win z hz).2, trivial⟩
  · have e : (lastWords (proc s p) p why).filterMap wn = [] := by
      rw [List.filterMap_eq_nil_iff]
      intro y hy
      rcases List.mem_append.mp hy with h | h
      · rcases List.mem_append.mp h with h | h
        · obtain ⟨z, hz, rfl⟩ := List.mem_map.mp h; rfl
        · obtain ⟨z, hz, rfl⟩ := List.mem_map.mp h; rfl
      · obtain ⟨z, hz, rfl⟩ := List.mem_map.mp h; rfl
    show ((s.air ++ lastWords (proc s p) p why).filterMap wn ++ _).Nodup
    rw [List.filterMap_append, e, List.append_nil]
    exact g1.nd
  · show (s.air ++ lastWords (proc s p) p why).length + 212 * living (setProc s p (ended (proc s p) why)) ≤ c + 212 * (setProc s p (ended (proc s p) why)).procs.length
    rw [hlen, List.length_append]
    have h1 : (s.procs.set (p - 1) (ended (proc s p) why)).countP (·.lives) + (if (proc s p).lives = true then 1 else 0) = s.procs.countP (·.lives) + (if (ended (proc s p) why).lives = true then 1 else 0) := countP_set (·.lives) (proc_at hp)
    rw [if_pos hl, if_neg (by simp [ended])] at h1
    have h2 : living (setProc s p (ended (proc s p) why)) = (s.procs.set (p - 1) (ended (proc s p) why)).countP (·.lives) := rfl
    have h3 : living s = s.procs.countP (·.lives) := rfl
    have := last_len g hc (why := why) hp
    have := g.room
    omega
theorem setProc_len {s : St} {p : Nat} {x : Proc} : (setProc s p x).procs.length = s.procs.length := by simp [setProc]
theorem setProc_proc {s : St} {p : Nat} {x : Proc} (hp : 1 ≤ p ∧ p ≤ s.procs.length) : proc (setProc s p x) p = x := by
  have : p - 1 < s.procs.length := by omega
  simp [proc, setProc, List.getD_eq_getElem?_getD, this]
theorem notes_good {n last t : Nat} {x : Proc} {m : Note} (h : PGood n last t x) : PGood n last (t + 1) (notes x m) :=
  ⟨h.srt, h.lin, h.wnd, h.win, h.vin, by show (x.box ++ [m]).length ≤ _; rw [List.length_append]; have := h.box; simp; omega⟩
theorem without_good {n last t q : Nat} {x : Proc} (h : PGood n last t x) : PGood n last t (without x q) :=
  ⟨h.srt.sublist List.filter_sublist, fun y hy => h.lin y (List.mem_filter.mp hy).1, h.wnd, h.win, h.vin, h.box⟩
theorem withLink_good {n last t q k : Nat} {x : Proc} (h : PGood n last t x) (hq : 1 ≤ q ∧ q ≤ n) : PGood n last t (withLink x q k) :=
  ⟨insert_srt h.srt, fun y hy => by
    rcases insert_mem hy with e | ⟨m, _⟩
    · subst e; exact hq
    · exact h.lin y m, h.wnd, h.win, h.vin, h.box⟩
theorem Good.note {c t : Nat} {s : St} {q : Nat} {m : Note} (g : Good c t s) (hq : 1 ≤ q ∧ q ≤ s.procs.length) : Good c (t + 1) (setProc s q (notes (proc s q) m)) :=
  (g.mono (Nat.le_refl _) (Nat.le_succ t)).set hq (notes_good (g.pg _ (proc_mem hq))) (fun h => h) (List.Sublist.refl _)
theorem Good.hit {c t : Nat} {s : St} {q : Nat} {m : Note} (g : Good c t s) (hc : c ≤ 100) (hq : 1 ≤ q ∧ q ≤ s.procs.length) (hl : (proc s q).lives = true) : Good c (t + 1) (hit s q m) := by
  unfold Ha02.hit
  split
  · exact g.note hq
  · split
    · exact g.mono (Nat.le_refl _) (Nat.le_succ t)
    · exact (g.dies hc hq hl).mono (Nat.le_refl _) (Nat.le_succ t)
/-- room for one more on its way -/
def Room1 (c : Nat) (s : St) : Prop := s.air.length + 1 + 212 * living s ≤ c + 212 * s.procs.length
theorem Room1.set {c : Nat} {s : St} {p : Nat} {x : Proc} (h : Room1 c s) (hp : 1 ≤ p ∧ p ≤ s.procs.length) (hl : x.lives = (proc s p).lives) : Room1 c (setProc s p x) := by
  have h1 := countP_set (·.lives) (y := x) (proc_at hp)
  rw [hl] at h1
  have h2 : living (setProc s p x) = (s.procs.set (p - 1) x).countP (·.lives) := rfl
  have h3 : living s = s.procs.countP (·.lives) := rfl
  unfold Room1 at *
  rw [setProc_len]
  show s.air.length + 1 + _ ≤ _
  omega
theorem Good.deadGets {c t : Nat} {s : St} {p q : Nat} {x : Sig} (g : Good c t s) (hp : 1 ≤ p ∧ p ≤ s.procs.length) (hq : 1 ≤ q ∧ q ≤ s.procs.length) (hx : sigOk s.last x) (hr : Room1 c s) : Good c t (deadGets s p q x) := by
  cases x with
  | link => exact g.send hq hp trivial rfl hr
  | cut k => exact g.send hq hp hx rfl hr
  | watch k => exact g.send hq hp trivial rfl hr
  | _ => exact g
theorem Good.gets {c t : Nat} {s : St} {p q : Nat} {x : Sig} (g : Good c t s) (hc : c ≤ 100) (hp : 1 ≤ p ∧ p ≤ s.procs.length) (hq : 1 ≤ q ∧ q ≤ s.procs.length) (hl : (proc s q).lives = true) (hx : sigOk s.last x) (hn : ∀ k, x = .watch k → k ∉ nums s) (hr : Room1 c s) : Good c (t + 1) (gets s p q x) := by
  have m := proc_mem hq
  have pg := g.pg _ m
  have g1 := g.mono (Nat.le_refl c) (Nat.le_succ t)
  have pg1 := g1.pg _ m
  cases x with
  | word n => exact g.note hq
  | link =>
    show Good c (t + 1) (if _ then s else _)
    split
    · exact g1
    · exact g1.set hq (withLink_good pg1 hp) (fun h => h) (List.Sublist.refl _)
  | cut k =>
    show Good c (t + 1) (Ha02.send (match linkTo (proc s q) p with | some y => if y.cutting = 0 then setProc s q (without (proc s q) p) else s | none => s) q p (.heard k))
    have g2 := g1.set (x := without (proc s q) p) hq (without_good pg1) (fun h => h) (List.Sublist.refl _)
    split
    · split
      · refine g2.send (by rw [setProc_len]; exact hq) (by rw [setProc_len]; exact hp) hx rfl ?_
        exact Room1.set hr hq rfl
      · exact g1.send hq hp hx rfl hr
    · exact g1.send hq hp hx rfl hr
  | heard k =>
    show Good c (t + 1) (match linkTo (proc s q) p with | some y => if y.cutting = k then setProc s q (without (proc s q) p) else s | none => s)
    split
    · split
      · exact g1.set hq (without_good pg1) (fun h => h) (List.Sublist.refl _)
      · exact g1
    · exact g1
  | ended why =>
    show Good c (t + 1) (match linkTo (proc s q) p with | none => s | some y => if y.cutting = 0 then Ha02.hit (setProc s q (without (proc s q) p)) q ⟨1, p, why⟩ else setProc s q (without (proc s q) p))
    have g2 := g.set (x := without (proc s q) p) hq (without_good pg) (fun h => h) (List.Sublist.refl _)
    split
    · exact g1
    · split
      · exact g2.hit hc (by rw [setProc_len]; exact hq) (by rw [setProc_proc hq]; exact hl)
      · exact g2.mono (Nat.le_refl _) (Nat.le_succ t)
  | halt_ why =>
    show Good c (t + 1) (if why = KILL then Ha02.dies s q KILLED else Ha02.hit s q ⟨3, p, why⟩)
    split
    · exact g1.dies hc hq hl
    · exact g.hit hc hq hl
  | watch k =>
    have e := proc_at hq
    have hk : k ∉ nums s := hn k rfl
    have hlen : (setProc s q { proc s q with watched := (proc s q).watched ++ [(k, p)] }).procs.length = s.procs.length := setProc_len
    refine ⟨by show (setProc s q _).procs.length ≤ 12; rw [hlen]; exact g.few, fun y hy => ?_, fun y hy => by show (_ ∧ _ ≤ (setProc s q _).procs.length) ∧ (_ ∧ _ ≤ (setProc s q _).procs.length) ∧ _; rw [hlen]; exact g.ag y hy, ?_, g.last, ?_⟩
    · show PGood (setProc s q _).procs.length s.last (t + 1) y
      rw [hlen]
      rcases mem_set hy with h | h
      · exact g1.pg y h
      · subst h
        refine ⟨pg1.srt, pg1.lin, pg1.wnd, pg1.win, fun z hz => ?_, pg1.box⟩
        rcases List.mem_append.mp hz with h | h
        · exact pg1.vin z h
        · rw [List.mem_singleton.mp h]; exact ⟨hx, hp⟩
    · have pm := flat_set_cons heard (b := k) (y := { proc s q with watched := (proc s q).watched ++ [(k, p)] }) e (by
        show ((((proc s q).watched ++ [(k, p)]).map (·.1))).Perm (k :: heard (proc s q))
        rw [List.map_append]
        exact List.perm_append_singleton _ _)
      have pm2 : (nums (setProc s q { proc s q with watched := (proc s q).watched ++ [(k, p)] })).Perm (k :: nums s) := (List.Perm.append_left _ pm).trans List.perm_middle
      exact (List.Perm.nodup_iff pm2).mpr (List.nodup_cons.mpr ⟨hk, g.nd⟩)
    · have hr' := Room1.set (x := { proc s q with watched := (proc s q).watched ++ [(k, p)] }) hr hq rfl
      exact Nat.le_trans (Nat.add_le_add_right (Nat.le_succ _) _) hr'
  | unwatch k =>
    refine g1.set hq ⟨pg1.srt, pg1.lin, pg1.wnd, pg1.win, fun z hz => pg1.vin z (List.mem_filter.mp hz).1, pg1.box⟩ (fun h => h) ?_
    exact List.Sublist.map _ List.filter_sublist
  | gone k why =>
    show Good c (t + 1) (if _ then _ else s)
    split
    · refine g1.set hq ?_ (fun h => h) (List.Sublist.refl _)
      refine notes_good ⟨pg.srt, pg.lin, pg.wnd.sublist (List.Sublist.map _ List.filter_sublist), fun z hz => pg.win z (List.mem_filter.mp hz).1, pg.vin, pg.box⟩
    · exact g1
theorem lives_iff {s : St} {p : Nat} (hp : 1 ≤ p ∧ p ≤ s.procs.length) : lives s p = (proc s p).lives := by
  unfold Ha02.lives
  rw [there_iff.mpr hp, Bool.true_and]
theorem Good.arrives {c t : Nat} {s : St} {p q : Nat} {x : Sig} (g : Good c t s) (hc : c ≤ 100) (hp : 1 ≤ p ∧ p ≤ s.procs.length) (hq : 1 ≤ q ∧ q ≤ s.procs.length) (hx : sigOk s.last x) (hn : ∀ k, x = .watch k → k ∉ nums s) (hr : Room1 c s) : Good c (t + 1) (arrives s p q x) := by
  unfold Ha02.arrives
  rw [lives_iff hq]
  split
  · rename_i hl; exact g.gets hc hp hq hl hx hn hr
  · exact (g.deadGets hp hq hx hr).mono (Nat.le_refl _) (Nat.le_succ t)
/-- what is true once one signal is taken off its way -/
theorem Good.taken {c t : Nat} {s : St} {l1 l2 : List (Nat × Nat × Sig)} {y : Nat × Nat × Sig} (g : Good c t s) (e : s.air = l1 ++ y :: l2) : Good c t { s with air := l1 ++ l2 } ∧ (∀ k, y.2.2 = .watch k → k ∉ nums { s with air := l1 ++ l2 }) ∧ Room1 c { s with air := l1 ++ l2 } := by
  have sub : (l1 ++ l2).Sublist s.air := by rw [e]; exact List.Sublist.append (List.Sublist.refl _) (List.sublist_cons_self _ _)
  have hlen : s.air.length = (l1 ++ l2).length + 1 := by rw [e]; simp; omega
  refine ⟨⟨g.few, g.pg, fun z hz => g.ag z (sub.subset hz), g.nd.sublist (List.Sublist.append (sub.filterMap wn) (List.Sublist.refl _)), g.last, ?_⟩, fun k hk => ?_, ?_⟩
  · have := g.room
    show (l1 ++ l2).length + 212 * living s ≤ c + 212 * s.procs.length
    omega
  · have pm : (nums s).Perm (k :: nums { s with air := l1 ++ l2 }) := by
      show (s.air.filterMap wn ++ _).Perm (k :: ((l1 ++ l2).filterMap wn ++ _))
      rw [e, List.filterMap_append, List.filterMap_append, List.filterMap_cons]
      have : wn y = some k := by unfold wn; rw [hk]
      rw [this]
      exact (List.Perm.append_right _ List.perm_middle)
    exact (List.nodup_cons.mp ((List.Perm.nodup_iff pm).mp g.nd)).1
  · have := g.room
    show (l1 ++ l2).length + 1 + 212 * living s ≤ c + 212 * s.procs.length
    omega
theorem split_at {α : Type} : ∀ {l : List α} {i : Nat} {y : α}, l[i]? = some y → l = l.take i ++ y :: l.drop (i + 1) ∧ l.eraseIdx i = l.take i ++ l.drop (i + 1)
  | [], _, _, h => by simp at h
  | a :: l, 0, y, h => by
    have e : a = y := Option.some.inj h
    subst e; simp
  | a :: l, i + 1, y, h => by
    obtain ⟨h1, h2⟩ := split_at (l := l) (i := i) h
    constructor
    · simp only [List.take_succ_cons, List.drop_succ_cons, List.cons_append]
      rw [← h1]
    · simp only [List.eraseIdx_cons_succ, List.take_succ_cons, List.drop_succ_cons, List.cons_append, h2]
theorem Good.comes {c t : Nat} {s : St} {i : Nat} {y : Nat × Nat × Sig} (g : Good c t s) (hc : c ≤ 100) (e : s.air[i]? = some y) : Good c (t + 1) (Ha02.arrives { s with air := s.air.eraseIdx i } y.1 y.2.1 y.2.2) := by
  obtain ⟨h1, h2⟩ := split_at e
  obtain ⟨a, b, d⟩ := g.taken h1
  rw [h2]
  have m := g.ag y (List.mem_of_getElem? e)
  exact a.arrives hc m.1 m.2.1 m.2.2 b d
theorem Good.rounds {c : Nat} (hc : c ≤ 100) : ∀ {n t : Nat} {s : St}, Good c t s → Good c (t + n) (rounds n s).1
  | 0, t, s, g => g
  | n + 1, t, s, g => by
    unfold Ha02.rounds
    split
    · exact g.mono (Nat.le_refl _) (Nat.le_add_right _ _)
    · rename_i y r e
      have h1 := g.comes hc (i := 0) (y := y) (by rw [e]; rfl)
      have h2 : s.air.eraseIdx 0 = r := by rw [e]; rfl
      rw [h2] at h1
      have := Good.rounds hc (n := n) h1
      show Good c (t + (n + 1)) (Ha02.rounds n _).1
      exact this.mono (Nat.le_refl _) (by omega)
end M
set_option maxHeartbeats 1000000
namespace M
open Ha02
theorem Good.grow {c t : Nat} {s : St} (g : Good c t s) (h : ¬ PROCS ≤ s.procs.length) : Good c t { s with procs := s.procs ++ [fresh] } := by
  have h12 : s.procs.length < 12 := by unfold PROCS at h; omega
  have hl : ({ s with procs := s.procs ++ [fresh] } : St).procs.length = s.procs.length + 1 := by simp
  refine ⟨by rw [hl]; omega, fun p hp => ?_, fun y hy => ?_, ?_, g.last, ?_⟩
  · rw [hl]
    rcases List.mem_append.mp hp with m | m
    · exact (g.pg p m).mono (Nat.le_succ _) (Nat.le_refl _) (Nat.le_refl _)
    · rw [List.mem_singleton.mp m]
      exact ⟨by simp [fresh], fun y hy => by simp [fresh] at hy, by simp [fresh], fun y hy => by simp [fresh] at hy, fun y hy => by simp [fresh] at hy, by simp [fresh]⟩
  · rw [hl]
    obtain ⟨a, b, d⟩ := g.ag y hy
    exact ⟨⟨a.1, by omega⟩, ⟨b.1, by omega⟩, d⟩
  · have : nums { s with procs := s.procs ++ [fresh] } = nums s := by
      show s.air.filterMap wn ++ (s.procs ++ [fresh]).flatMap heard = _
      rw [List.flatMap_append]
      simp [heard, fresh, nums]
    rw [this]; exact g.nd
  · rw [hl]
    have e : living { s with procs := s.procs ++ [fresh] } = living s + 1 := by
      show (s.procs ++ [fresh]).countP (·.lives) = _
      rw [List.countP_append]
      rfl
    rw [e]
    have := g.room
    show s.air.length + _ ≤ _
    omega
/-- a new number is begun -/
theorem Good.begin {c t : Nat} {s : St} (g : Good c t s) : Good (c + 1) t { s with last := s.last + 1 } :=
  ⟨g.few, fun p hp => (g.pg p hp).mono (Nat.le_refl _) (Nat.le_succ _) (Nat.le_refl _), fun y hy => by
    obtain ⟨a, b, d⟩ := g.ag y hy
    refine ⟨a, b, ?_⟩
    show sigOk (s.last + 1) y.2.2
    revert d
    cases y.2.2 with
    | watch k => intro d; exact ⟨d.1, Nat.le_succ_of_le d.2⟩
    | cut k => intro d; exact d
    | heard k => intro d; exact d
    | _ => intro _; trivial, g.nd, Nat.succ_le_succ g.last, by have := g.room; show s.air.length + 212 * living s ≤ c + 1 + 212 * s.procs.length; omega⟩
theorem Good.room1 {c t : Nat} {s : St} (g : Good c t s) : Room1 (c + 1) s := by have := g.room; unfold Room1; omega
theorem nums_le {c t : Nat} {s : St} (g : Good c t s) {k : Nat} (h : k ∈ nums s) : k ≤ s.last := by
  rcases List.mem_append.mp h with m | m
  · obtain ⟨y, hy, e⟩ := List.mem_filterMap.mp m
    have d := (g.ag y hy).2.2
    unfold wn at e
    split at e
    · rename_i k' e'
      rw [e'] at d
      have e2 : k' = k := Option.some.inj e
      subst e2
      exact d.2
    · cases e
  · obtain ⟨p, hp, m⟩ := List.mem_flatMap.mp m
    obtain ⟨z, hz, rfl⟩ := List.mem_map.mp m
    exact ((g.pg p hp).vin z hz).1.2
theorem snoc_nodup {l : List Nat} {k : Nat} (h : l.Nodup) (hk : k ∉ l) : (l ++ [k]).Nodup :=
  (List.Perm.nodup_iff (List.perm_append_singleton _ _)).mpr (List.nodup_cons.mpr ⟨hk, h⟩)
theorem addWatch_good {n last t q : Nat} {x : Proc} (h : PGood n last t x) (hq : 1 ≤ q ∧ q ≤ n) : PGood n (last + 1) t { x with watches := x.watches ++ [(last + 1, q)] } := by
  have h' := h.mono (Nat.le_refl n) (Nat.le_succ last) (Nat.le_refl t)
  refine ⟨h'.srt, h'.lin, ?_, fun z hz => ?_, h'.vin, h'.box⟩
  · show (((x.watches ++ [(last + 1, q)]).map (·.1))).Nodup
    rw [List.map_append]
    refine snoc_nodup h.wnd fun m => ?_
    obtain ⟨z, hz, e⟩ := List.mem_map.mp m
    have e' : z.1 = last + 1 := e
    have := (h.win z hz).1.2
    omega
  · rcases List.mem_append.mp hz with m | m
    · exact h'.win z m
    · rw [List.mem_singleton.mp m]; exact ⟨⟨by show 1 ≤ last + 1; omega, Nat.le_refl _⟩, hq⟩
theorem Good.sendW {c t : Nat} {s : St} {p q k : Nat} (g : Good c t s) (hp : 1 ≤ p ∧ p ≤ s.procs.length) (hq : 1 ≤ q ∧ q ≤ s.procs.length) (hx : 1 ≤ k ∧ k ≤ s.last) (hw : k ∉ nums s) (hr : Room1 c s) : Good c t (Ha02.send s p q (.watch k)) := by
  refine ⟨g.few, g.pg, fun y hy => ?_, ?_, g.last, ?_⟩
  · rcases List.mem_append.mp hy with h | h
    · exact g.ag y h
    · rw [List.mem_singleton.mp h]; exact ⟨hp, hq, hx⟩
  · have pm : (nums (Ha02.send s p q (.watch k))).Perm (k :: nums s) := by
      show ((s.air ++ [(p, q, Sig.watch k)]).filterMap wn ++ s.procs.flatMap heard).Perm _
      rw [List.filterMap_append]
      show ((s.air.filterMap wn ++ [k]) ++ s.procs.flatMap heard).Perm _
      exact List.Perm.append_right _ (List.perm_append_singleton _ _)
    exact (List.Perm.nodup_iff pm).mpr (List.nodup_cons.mpr ⟨hw, g.nd⟩)
  · show (s.air ++ [_]).length + 212 * living s ≤ _
    rw [List.length_append]
    exact hr
theorem Good.links {c t : Nat} {s : St} {p q : Nat} (g : Good c t s) (hp : 1 ≤ p ∧ p ≤ s.procs.length) (hq : 1 ≤ q ∧ q ≤ s.procs.length) : Good (c + 1) t (links s p q) := by
  have g1 := g.mono (Nat.le_succ c) (Nat.le_refl t)
  have pg := g1.pg _ (proc_mem hp)
  have h := (g1.set (x := withLink (proc s p) q 0) hp (withLink_good pg hq) (fun h => h) (List.Sublist.refl _)).send (p := p) (q := q) (x := .link) (by rw [setProc_len]; exact hp) (by rw [setProc_len]; exact hq) trivial rfl (Room1.set g.room1 hp rfl)
  unfold Ha02.links
  split
  · split
    · exact g1
    · exact h
  · exact h
theorem Good.cuts {c t : Nat} {s : St} {p q : Nat} (g : Good c t s) (hp : 1 ≤ p ∧ p ≤ s.procs.length) (hq : 1 ≤ q ∧ q ≤ s.procs.length) : Good (c + 1) t (cuts s p q) := by
  have g1 := g.mono (Nat.le_succ c) (Nat.le_refl t)
  have g2 := g.begin
  have pg := g2.pg _ (proc_mem hp)
  unfold Ha02.cuts
  split
  · split
    · refine (g2.set (p := p) (x := withLink (proc s p) q (s.last + 1)) hp (withLink_good pg hq) (fun h => h) (List.Sublist.refl _)).send (p := p) (q := q) (by rw [setProc_len]; exact hp) (by rw [setProc_len]; exact hq) (by show 1 ≤ s.last + 1; omega) rfl ?_
      exact Room1.set (s := { s with last := s.last + 1 }) g.room1 hp rfl
    · exact g1
  · exact g1
theorem Good.watches {c t : Nat} {s : St} {p q : Nat} (g : Good c t s) (hp : 1 ≤ p ∧ p ≤ s.procs.length) (hq : 1 ≤ q ∧ q ≤ s.procs.length) : Good (c + 1) t (watches s p q) := by
  have g2 := g.begin
  have pg := g.pg _ (proc_mem hp)
  have hs := g2.set (p := p) (x := { proc s p with watches := (proc s p).watches ++ [(s.last + 1, q)] }) hp (addWatch_good pg hq) (fun h => h) (List.Sublist.refl _)
  unfold Ha02.watches
  refine hs.sendW (by rw [setProc_len]; exact hp) (by rw [setProc_len]; exact hq) ⟨by omega, Nat.le_refl _⟩ (fun m => ?_) ?_
  · have : nums (setProc { s with last := s.last + 1 } p { proc s p with watches := (proc s p).watches ++ [(s.last + 1, q)] }) = nums s := by
      show s.air.filterMap wn ++ (s.procs.set (p - 1) _).flatMap heard = _
      exact congrArg (s.air.filterMap wn ++ ·) (flat_set_eq heard (proc_at hp) rfl)
    rw [this] at m
    have := nums_le g m
    omega
  · exact Room1.set (s := { s with last := s.last + 1 }) g.room1 hp rfl
theorem grow_proc {s : St} {p : Nat} {x : Proc} (hp : 1 ≤ p ∧ p ≤ s.procs.length) : proc { s with procs := s.procs ++ [x] } p = proc s p := by
  have : p - 1 < s.procs.length := by omega
  simp [proc, List.getD_eq_getElem?_getD, List.getElem?_append_left this]
theorem grow_new {s : St} {x : Proc} : proc { s with procs := s.procs ++ [x] } (s.procs.length + 1) = x := by
  simp [proc, List.getD_eq_getElem?_getD]
theorem setProc_other {s : St} {p q : Nat} {x : Proc} (hp : 1 ≤ p) (hq : 1 ≤ q) (h : p ≠ q) : proc (setProc s p x) q = proc s q := by
  have : p - 1 ≠ q - 1 := by omega
  simp [proc, setProc, List.getD_eq_getElem?_getD, List.getElem?_set_ne this]
theorem Good.child {c t : Nat} {s : St} {p how : Nat} (g : Good c t s) (hp : 1 ≤ p ∧ p ≤ s.procs.length) (h : ¬ PROCS ≤ s.procs.length) : Good (c + 1) t (Ha02.child s p how) := by
  have gg := g.grow h
  have g1 := gg.mono (Nat.le_succ c) (Nat.le_refl t)
  have hl : ({ s with procs := s.procs ++ [fresh] } : St).procs.length = s.procs.length + 1 := by simp
  have hp' : 1 ≤ p ∧ p ≤ ({ s with procs := s.procs ++ [fresh] } : St).procs.length := by rw [hl]; omega
  have hc' : 1 ≤ s.procs.length + 1 ∧ s.procs.length + 1 ≤ ({ s with procs := s.procs ++ [fresh] } : St).procs.length := by rw [hl]; omega
  have pf : PGood (s.procs.length + 1) (s.last + 1) t fresh := ⟨by simp [fresh], fun y hy => by simp [fresh] at hy, by simp [fresh], fun y hy => by simp [fresh] at hy, fun y hy => by simp [fresh] at hy, by simp [fresh]⟩
  have pf0 : PGood (s.procs.length + 1) s.last t fresh := ⟨by simp [fresh], fun y hy => by simp [fresh] at hy, by simp [fresh], fun y hy => by simp [fresh] at hy, fun y hy => by simp [fresh] at hy, by simp [fresh]⟩
  have ne : p ≠ s.procs.length + 1 := by omega
  unfold Ha02.child
  dsimp only
  split
  · have a := g1.set (p := p) (x := withLink (proc { s with procs := s.procs ++ [fresh] } p) (s.procs.length + 1) 0) hp' (withLink_good (g1.pg _ (proc_mem hp')) hc') (fun h => h) (List.Sublist.refl _)
    refine a.set (by rw [setProc_len]; exact hc') (by rw [setProc_len, hl]; exact withLink_good pf0 (by omega)) (fun _ => ?_) (by simp [heard, withLink, fresh])
    rw [setProc_other hp.1 (by omega) ne, grow_new]
    rfl
  · split
    · have g2 := gg.begin
      have a := g2.set (p := p) (x := { proc { s with procs := s.procs ++ [fresh] } p with watches := (proc { s with procs := s.procs ++ [fresh] } p).watches ++ [(s.last + 1, s.procs.length + 1)] }) hp' (addWatch_good (gg.pg _ (proc_mem hp')) hc') (fun h => h) (List.Sublist.refl _)
      -- the new one is watched
      have hlen2 : (setProc { s with procs := s.procs ++ [fresh], last := s.last + 1 } p { proc { s with procs := s.procs ++ [fresh] } p with watches := (proc { s with procs := s.procs ++ [fresh] } p).watches ++ [(s.last + 1, s.procs.length + 1)] }).procs.length = s.procs.length + 1 := by rw [setProc_len]; exact hl
      have e : proc (setProc { s with procs := s.procs ++ [fresh], last := s.last + 1 } p { proc { s with procs := s.procs ++ [fresh] } p with watches := (proc { s with procs := s.procs ++ [fresh] } p).watches ++ [(s.last + 1, s.procs.length + 1)] }) (s.procs.length + 1) = fresh := by
        rw [setProc_other hp.1 (by omega) ne]
        exact grow_new (s := { s with last := s.last + 1 })
      have hat := proc_at (s := setProc { s with procs := s.procs ++ [fresh], last := s.last + 1 } p { proc { s with procs := s.procs ++ [fresh] } p with watches := (proc { s with procs := s.procs ++ [fresh] } p).watches ++ [(s.last + 1, s.procs.length + 1)] }) (p := s.procs.length + 1) ⟨by omega, by rw [hlen2]; exact Nat.le_refl _⟩
      rw [e] at hat
      refine ⟨by rw [setProc_len]; exact a.few, fun y hy => ?_, fun y hy => by rw [setProc_len]; exact a.ag y hy, ?_, a.last, ?_⟩
      · rw [setProc_len]
        rcases mem_set hy with m | m
        · exact a.pg y m
        · subst m
          rw [hlen2]
          refine ⟨pf.srt, pf.lin, pf.wnd, pf.win, fun z hz => ?_, pf.box⟩
          have hz' : z ∈ [(s.last + 1, p)] := hz
          rw [List.mem_singleton.mp hz']
          exact ⟨⟨by show 1 ≤ s.last + 1; omega, Nat.le_refl _⟩, hp.1, by show p ≤ _; omega⟩
      · have pm := flat_set_cons heard (b := s.last + 1) (y := { fresh with watched := [(s.last + 1, p)] }) hat (by simp [heard, fresh])
        have pm2 := List.Perm.append_left (s.air.filterMap wn) pm
        have nn : nums (setProc { s with procs := s.procs ++ [fresh], last := s.last + 1 } p { proc { s with procs := s.procs ++ [fresh] } p with watches := (proc { s with procs := s.procs ++ [fresh] } p).watches ++ [(s.last + 1, s.procs.length + 1)] }) = nums { s with procs := s.procs ++ [fresh] } := by
          show s.air.filterMap wn ++ ((s.procs ++ [fresh]).set (p - 1) _).flatMap heard = s.air.filterMap wn ++ (s.procs ++ [fresh]).flatMap heard
          exact congrArg (s.air.filterMap wn ++ ·) (flat_set_eq heard (proc_at hp') rfl)
        refine (List.Perm.nodup_iff (pm2.trans List.perm_middle)).mpr (List.nodup_cons.mpr ⟨fun m => ?_, a.nd⟩)
        have m' : s.last + 1 ∈ nums { s with procs := s.procs ++ [fresh] } := by rw [← nn]; exact m
        have h3 : s.last + 1 ≤ s.last := nums_le gg m'
        omega
      · have hr := Room1.set (c := c + 1) (x := { fresh with watched := [(s.last + 1, p)] }) (Room1.set (s := { s with procs := s.procs ++ [fresh], last := s.last + 1 }) (p := p) (x := { proc { s with procs := s.procs ++ [fresh] } p with watches := (proc { s with procs := s.procs ++ [fresh] } p).watches ++ [(s.last + 1, s.procs.length + 1)] }) gg.room1 hp' rfl) (p := s.procs.length + 1) ⟨by omega, by rw [hlen2]; exact Nat.le_refl _⟩ (by rw [e])
        exact Nat.le_trans (Nat.add_le_add_right (Nat.le_succ _) _) hr
    · exact g1
theorem not_there {s : St} {p : Nat} (h : ¬ isThere s p = false) : 1 ≤ p ∧ p ≤ s.procs.length := there_iff.mp (by simpa using h)
theorem Good.step {c t : Nat} {s : St} (g : Good c t s) (hc : c + 1 ≤ 100) (x : Call) : Good (c + 1) (t + 1000) (Ha02.step s x).1 := by
  have g0 := g.mono (Nat.le_succ c) (Nat.le_add_right t 1000)
  have hc' : c ≤ 100 := by omega
  cases x with
  | start =>
    simp only [Ha02.step]
    split
    · exact g0
    · rename_i h; exact g0.grow h
  | child p how =>
    simp only [Ha02.step]
    split
    · exact g0
    · rename_i h1
      split
      · exact g0
      · split
        · exact g0
        · rename_i h2 h3
          exact (g.child (not_there fun z => h1 (.inl z)) h3).mono (Nat.le_refl _) (Nat.le_add_right _ _)
  | link p q =>
    simp only [Ha02.step]
    split
    · exact g0
    · rename_i h1
      split
      · exact g0
      · split
        · exact g0
        · exact (g.links (not_there fun z => h1 (.inl z)) (not_there fun z => h1 (.inr (.inl z)))).mono (Nat.le_refl _) (Nat.le_add_right _ _)
  | cut p q =>
    simp only [Ha02.step]
    split
    · exact g0
    · rename_i h1
      split
      · exact g0
      · split
        · exact g0
        · exact (g.cuts (not_there fun z => h1 (.inl z)) (not_there fun z => h1 (.inr (.inl z)))).mono (Nat.le_refl _) (Nat.le_add_right _ _)
  | watch p q =>
    simp only [Ha02.step]
    split
    · exact g0
    · rename_i h1
      split
      · exact g0
      · split
        · exact g0
        · exact (g.watches (not_there fun z => h1 (.inl z)) (not_there fun z => h1 (.inr (.inl z)))).mono (Nat.le_refl _) (Nat.le_add_right _ _)
  | unwatch p k =>
    simp only [Ha02.step]
    split
    · exact g0
    · rename_i h1
      split
      · exact g0
      · split
        · exact g0
        · rename_i y e
          split
          · exact g0
          · have hp := not_there h1
            have pg := g0.pg _ (proc_mem hp)
            have m := List.mem_of_find?_eq_some e
            have a := g0.set (x := { proc s p with watches := (proc s p).watches.filter fun z => z.1 != k }) hp ⟨pg.srt, pg.lin, pg.wnd.sublist (List.Sublist.map _ List.filter_sublist), fun z hz => pg.win z (List.mem_filter.mp hz).1, pg.vin, pg.box⟩ (fun h => h) (List.Sublist.refl _)
            exact a.send (by rw [setProc_len]; exact hp) (by rw [setProc_len]; exact (pg.win y m).2) trivial rfl (Room1.set g.room1 hp rfl)
  | ends p why =>
    simp only [Ha02.step]
    split
    · exact g0
    · rename_i h1
      split
      · exact g0
      · rename_i h2
        have hp := not_there fun z => h1 (.inl z)
        rw [lives_iff hp] at h2
        exact g0.dies hc hp (by simpa using h2)
  | halt_ p q why =>
    simp only [Ha02.step]
    split
    · exact g0
    · rename_i h1
      split
      · exact g0
      · split
        · exact g0
        · exact g0.send (not_there fun z => h1 (.inl z)) (not_there fun z => h1 (.inr (.inl z))) trivial rfl g.room1
  | trap p y =>
    simp only [Ha02.step]
    split
    · exact g0
    · rename_i h1
      split
      · exact g0
      · have hp := not_there fun z => h1 (.inl z)
        have pg := g0.pg _ (proc_mem hp)
        exact g0.set hp ⟨pg.srt, pg.lin, pg.wnd, pg.win, pg.vin, pg.box⟩ (fun h => h) (List.Sublist.refl _)
  | say p q n =>
    simp only [Ha02.step]
    split
    · exact g0
    · rename_i h1
      split
      · exact g0
      · split
        · exact g0
        · exact g0.send (not_there fun z => h1 (.inl z)) (not_there fun z => h1 (.inr z)) trivial rfl g.room1
  | deliver p q =>
    simp only [Ha02.step]
    split
    · exact g0
    · split
      · exact g0
      · rename_i i e
        show Good (c + 1) (t + 1000) (delivers s p q)
        unfold delivers
        rw [e]
        dsimp only
        split
        · exact g0
        · rename_i y ey
          have hy : y.1 = p ∧ y.2.1 = q := by
            have := List.findIdx?_eq_some_iff_getElem.mp e
            obtain ⟨hi, h1, _⟩ := this
            have e2 : s.air[i] = y := by
              have := List.getElem?_eq_getElem hi
              rw [ey] at this
              exact (Option.some.inj this).symm
            rw [e2] at h1
            simpa using h1
          have h := g.comes hc' ey
          rw [hy.1, hy.2] at h
          exact h.mono (Nat.le_succ c) (by omega)
  | turns n =>
    simp only [Ha02.step]
    split
    · exact g0
    · exact (g.rounds hc' (n := n)).mono (Nat.le_succ c) (by omega)
  | box p => exact g0
  | process p => exact g0
  | air => exact g0
end M
set_option maxHeartbeats 1000000
/-! The list of calls, call by call. -/
namespace M
open Ha02
/-- a call as it is written -/
def flatN : Call → List Nat
  | .start => [0]
  | .child p h => [1, p, h]
  | .link p q => [2, p, q]
  | .cut p q => [3, p, q]
  | .watch p q => [4, p, q]
  | .unwatch p k => [5, p, k]
  | .ends p w => [6, p, w]
  | .halt_ p q w => [7, p, q, w]
  | .trap p y => [8, p, y]
  | .say p q n => [9, p, q, n]
  | .deliver p q => [10, p, q]
  | .turns n => [11, n]
  | .box p => [12, p]
  | .process p => [13, p]
  | .air => [14]
def flat (x : Call) : List Int := (flatN x).map fun (n : Nat) => (n : Int)
def Flat0 (o : Option (Nat × Nat)) : Prop := ∀ n k, o = some (n, k) → k = 0
theorem Flat0.ite {c : Prop} [Decidable c] {a : Nat} {o : Option (Nat × Nat)} (ho : Flat0 o) : Flat0 (if c then some (a, 0) else o) := by
  intro n k h
  by_cases hc : c
  · rw [if_pos hc] at h; cases h; rfl
  · rw [if_neg hc] at h; exact ho n k h
theorem Flat0.none : Flat0 none := fun _ _ h => nomatch h
theorem shape_flat (p : Int) : Flat0 (PyHa02.shape p) := by
  unfold PyHa02.shape
  repeat' apply Flat0.ite
  exact Flat0.none
theorem shape_rows {p : Int} {n k : Nat} (h : PyHa02.shape p = some (n, k)) : k = 0 := shape_flat p n k h
theorem call_take {p : Int} {r : List Int} {c : List (List Int)} {t : List Int} (h : PyFlat.call PyHa02.shape (p :: r) = some (c, t)) : ∃ n : Nat, PyHa02.shape p = some (n, 0) ∧ n ≤ r.length ∧ c = [p :: r.take n] ∧ t = r.drop n := by
  have h0 : (match PyHa02.shape p with
    | none => none
    | some (n, k) => if r.length < n then none else match PyFlat.rows k (r.drop n) with
      | none => none
      | some (xs, t) => some ((p :: r.take n) :: xs, t)) = some (c, t) := h
  cases e : PyHa02.shape p with
  | none => rw [e] at h0; cases h0
  | some nk =>
    obtain ⟨n, k⟩ := nk
    have hk := shape_rows e
    subst hk
    rw [e] at h0
    by_cases hn : r.length < n
    · have h0 : (if r.length < n then none else _) = some (c, t) := h0
      rw [if_pos hn] at h0; cases h0
    · have h0 : (if r.length < n then none else some ([p :: r.take n], r.drop n)) = some (c, t) := h0
      rw [if_neg hn] at h0
      have h' := Option.some.inj h0
      have h1 := congrArg Prod.fst h'
      have h2 := congrArg Prod.snd h'
      exact ⟨n, rfl, by omega, h1.symm, h2.symm⟩
theorem by_shape {P : Int → Nat → Prop} (h0 : P 0 0) (h1 : P 1 2) (h2 : P 2 2) (h3 : P 3 2) (h4 : P 4 2) (h5 : P 5 2) (h6 : P 6 2) (h7 : P 7 3) (h8 : P 8 2) (h9 : P 9 3) (h10 : P 10 2) (h11 : P 11 1) (h12 : P 12 1) (h13 : P 13 1) (h14 : P 14 0) {p : Int} {n : Nat} (h : PyHa02.shape p = some (n, 0)) : P p n := by
  unfold PyHa02.shape at h
  by_cases e0 : p = 0
  · rw [if_pos e0] at h; cases h; rw [e0]; exact h0
  rw [if_neg e0] at h
  by_cases e1 : p = 1
  · rw [if_pos e1] at h; cases h; rw [e1]; exact h1
  rw [if_neg e1] at h
  by_cases e2 : p = 2
  · rw [if_pos e2] at h; cases h; rw [e2]; exact h2
  rw [if_neg e2] at h
  by_cases e3 : p = 3
  · rw [if_pos e3] at h; cases h; rw [e3]; exact h3
  rw [if_neg e3] at h
  by_cases e4 : p = 4
  · rw [if_pos e4] at h; cases h; rw [e4]; exact h4
  rw [if_neg e4] at h
  by_cases e5 : p = 5
  · rw [if_pos e5] at h; cases h; rw [e5]; exact h5
  rw [if_neg e5] at h
  by_cases e6 : p = 6
  · rw [if_pos e6] at h; cases h; rw [e6]; exact h6
  rw [if_neg e6] at h
  by_cases e7 : p = 7
  · rw [if_pos e7] at h; cases h; rw [e7]; exact h7
  rw [if_neg e7] at h
  by_cases e8 : p = 8
  · rw [if_pos e8] at h; cases h; rw [e8]; exact h8
  rw [if_neg e8] at h
  by_cases e9 : p = 9
  · rw [if_pos e9] at h; cases h; rw [e9]; exact h9
  rw [if_neg e9] at h
  by_cases e10 : p = 10
  · rw [if_pos e10] at h; cases h; rw [e10]; exact h10
  rw [if_neg e10] at h
  by_cases e11 : p = 11
  · rw [if_pos e11] at h; cases h; rw [e11]; exact h11
  rw [if_neg e11] at h
  by_cases e12 : p = 12
  · rw [if_pos e12] at h; cases h; rw [e12]; exact h12
  rw [if_neg e12] at h
  by_cases e13 : p = 13
  · rw [if_pos e13] at h; cases h; rw [e13]; exact h13
  rw [if_neg e13] at h
  by_cases e14 : p = 14
  · rw [if_pos e14] at h; cases h; rw [e14]; exact h14
  rw [if_neg e14] at h
  cases h
theorem one_of {xs : List Int} (h : xs.length = 1) : ∃ a, xs = [a] := by
  match xs, h with
  | [a], _ => exact ⟨a, rfl⟩
theorem two_of {xs : List Int} (h : xs.length = 2) : ∃ a b, xs = [a, b] := by
  match xs, h with
  | [a, b], _ => exact ⟨a, b, rfl⟩
theorem three_of {xs : List Int} (h : xs.length = 3) : ∃ a b c, xs = [a, b, c] := by
  match xs, h with
  | [a, b, c], _ => exact ⟨a, b, c, rfl⟩
def CallOk (p : Int) (n : Nat) : Prop := ∀ xs : List Int, xs.length = n → PyHa02.whole [p :: xs] = [p :: xs] ∧ ∀ x, Ha02Neutral.callIn [(p :: xs).map Int.toNat] = some x → (p :: xs).map Int.toNat = flatN x
theorem call_ok {p : Int} {n : Nat} (h : PyHa02.shape p = some (n, 0)) : CallOk p n := by
  refine by_shape (P := CallOk) ?_ ?_ ?_ ?_ ?_ ?_ ?_ ?_ ?_ ?_ ?_ ?_ ?_ ?_ ?_ h
  · intro xs hl
    cases List.length_eq_zero_iff.mp hl
    refine ⟨rfl, fun x h => ?_⟩
    have h' : some (Call.start) = some x := h
    cases h'
    rfl
  · intro xs hl
    obtain ⟨a, b, rfl⟩ := two_of hl
    refine ⟨rfl, fun x h => ?_⟩
    have h' : some (Call.child a.toNat b.toNat) = some x := h
    cases h'
    rfl
  · intro xs hl
    obtain ⟨a, b, rfl⟩ := two_of hl
    refine ⟨rfl, fun x h => ?_⟩
    have h' : some (Call.link a.toNat b.toNat) = some x := h
    cases h'
    rfl
  · intro xs hl
    obtain ⟨a, b, rfl⟩ := two_of hl
    refine ⟨rfl, fun x h => ?_⟩
    have h' : some (Call.cut a.toNat b.toNat) = some x := h
    cases h'
    rfl
  · intro xs hl
    obtain ⟨a, b, rfl⟩ := two_of hl
    refine ⟨rfl, fun x h => ?_⟩
    have h' : some (Call.watch a.toNat b.toNat) = some x := h
    cases h'
    rfl
  · intro xs hl
    obtain ⟨a, b, rfl⟩ := two_of hl
    refine ⟨rfl, fun x h => ?_⟩
    have h' : some (Call.unwatch a.toNat b.toNat) = some x := h
    cases h'
    rfl
  · intro xs hl
    obtain ⟨a, b, rfl⟩ := two_of hl
    refine ⟨rfl, fun x h => ?_⟩
    have h' : some (Call.ends a.toNat b.toNat) = some x := h
    cases h'
    rfl
  · intro xs hl
    obtain ⟨a, b, c, rfl⟩ := three_of hl
    refine ⟨rfl, fun x h => ?_⟩
    have h' : some (Call.halt_ a.toNat b.toNat c.toNat) = some x := h
    cases h'
    rfl
  · intro xs hl
    obtain ⟨a, b, rfl⟩ := two_of hl
    refine ⟨rfl, fun x h => ?_⟩
    have h' : some (Call.trap a.toNat b.toNat) = some x := h
    cases h'
    rfl
  · intro xs hl
    obtain ⟨a, b, c, rfl⟩ := three_of hl
    refine ⟨rfl, fun x h => ?_⟩
    have h' : some (Call.say a.toNat b.toNat c.toNat) = some x := h
    cases h'
    rfl
  · intro xs hl
    obtain ⟨a, b, rfl⟩ := two_of hl
    refine ⟨rfl, fun x h => ?_⟩
    have h' : some (Call.deliver a.toNat b.toNat) = some x := h
    cases h'
    rfl
  · intro xs hl
    obtain ⟨a, rfl⟩ := one_of hl
    refine ⟨rfl, fun x h => ?_⟩
    have h' : some (Call.turns a.toNat) = some x := h
    cases h'
    rfl
  · intro xs hl
    obtain ⟨a, rfl⟩ := one_of hl
    refine ⟨rfl, fun x h => ?_⟩
    have h' : some (Call.box a.toNat) = some x := h
    cases h'
    rfl
  · intro xs hl
    obtain ⟨a, rfl⟩ := one_of hl
    refine ⟨rfl, fun x h => ?_⟩
    have h' : some (Call.process a.toNat) = some x := h
    cases h'
    rfl
  · intro xs hl
    cases List.length_eq_zero_iff.mp hl
    refine ⟨rfl, fun x h => ?_⟩
    have h' : some (Call.air) = some x := h
    cases h'
    rfl
theorem callOf_flat {p : Int} {xs : List Int} {n : Nat} {x : Call} (hs : PyHa02.shape p = some (n, 0)) (hl : xs.length = n) (h : Ha02Neutral.callOf [p :: xs] = some x) : p :: xs = flat x ∧ ∀ z ∈ p :: xs, 0 ≤ z ∧ z < 2 ^ 32 := by
  unfold Ha02Neutral.callOf at h
  by_cases hn : ([p :: xs].all fun r => r.all Ha02Neutral.nat) = false
  · rw [if_pos hn] at h; cases h
  · rw [if_neg hn] at h
    have e := (call_ok hs xs hl).2 x h
    have hall : ∀ z ∈ p :: xs, 0 ≤ z ∧ z < 2 ^ 32 := by
      intro z hz
      have h1 : ([p :: xs].all fun r => r.all Ha02Neutral.nat) = true := by simpa using hn
      simp only [List.all_cons, List.all_nil, Bool.and_true] at h1
      have h2 : ((p :: xs).all Ha02Neutral.nat) = true := by rw [List.all_cons]; exact h1
      have := List.all_eq_true.mp h2 z hz
      unfold Ha02Neutral.nat at this
      simpa using this
    refine ⟨?_, hall⟩
    unfold flat
    rw [← e, List.map_map]
    conv => lhs; rw [← List.map_id (p :: xs)]
    refine List.map_congr_left fun z hz => ?_
    have := (hall z hz).1
    show z = ((z.toNat : Nat) : Int)
    omega
theorem map_whole : ∀ {f : Nat} {l : List Int} {cs : List (List (List Int))}, PyFlat.calls PyHa02.shape f l = some cs → cs.map PyHa02.whole = cs
  | f, [], cs, h => by
    have : PyFlat.calls PyHa02.shape f [] = some [] := by cases f <;> rfl
    rw [this] at h
    cases h
    rfl
  | 0, _ :: _, cs, h => by cases h
  | f + 1, p :: r, cs, h => by
    have h : (match PyFlat.call PyHa02.shape (p :: r) with
      | none => none
      | some (c, t) => match PyFlat.calls PyHa02.shape f t with
        | none => none
        | some cs => some (c :: cs)) = some cs := h
    cases e : PyFlat.call PyHa02.shape (p :: r) with
    | none => rw [e] at h; cases h
    | some ct =>
      obtain ⟨c, t⟩ := ct
      rw [e] at h
      obtain ⟨k, hs, hk, rfl, rfl⟩ := call_take e
      have h : (match PyFlat.calls PyHa02.shape f (r.drop k) with
        | none => none
        | some cs => some ([p :: r.take k] :: cs)) = some cs := h
      cases e2 : PyFlat.calls PyHa02.shape f (r.drop k) with
      | none => rw [e2] at h; cases h
      | some cs' =>
        rw [e2] at h
        have h : some ([p :: r.take k] :: cs') = some cs := h
        cases h
        rw [List.map_cons, map_whole e2, (call_ok hs (r.take k) (by rw [List.length_take]; omega)).1]
/-- what is left of the list, told from a state -/
def Left (f : Nat) (l : List Int) (s : St) (n : Nat) (out : List Int) : Prop :=
  ∃ cs, PyFlat.calls PyHa02.shape f l = some cs ∧ cs.length ≤ n ∧ (∀ c ∈ cs, Ha02Neutral.asked1 c = true) ∧ out = PyFlat.told (PyFlat.played Ha02Neutral.step s cs)
theorem left_nil {f : Nat} {s : St} {n : Nat} {out : List Int} (h : Left f [] s n out) : out = [] := by
  obtain ⟨cs, e, _, _, rfl⟩ := h
  have : PyFlat.calls PyHa02.shape f [] = some [] := by cases f <;> rfl
  rw [this] at e
  cases Option.some.inj e
  rfl
theorem left_cons {f : Nat} {p : Int} {r : List Int} {s : St} {n : Nat} {out : List Int} (h : Left f (p :: r) s n out) :
    ∃ (x : Call) (k f' : Nat) (out' : List Int), flat x = p :: r.take k ∧ k ≤ r.length ∧ (∀ z ∈ flat x, 0 ≤ z ∧ z < 2 ^ 32) ∧ 1 ≤ n ∧ Left f' (r.drop k) (step s x).1 (n - 1) out' ∧ out = ((step s x).2.length : Int) :: ((step s x).2 ++ out') := by
  obtain ⟨cs, e, hl, ha, rfl⟩ := h
  cases f with
  | zero => simp [PyFlat.calls] at e
  | succ f =>
    unfold PyFlat.calls at e
    split at e
    · cases e
    · rename_i c t ec
      obtain ⟨k, hsk, hk, rfl, rfl⟩ := call_take ec
      split at e
      · cases e
      · rename_i cs' e'
        have h' := Option.some.inj e
        subst h'
        have a1 := ha _ (List.mem_cons_self ..)
        unfold Ha02Neutral.asked1 at a1
        obtain ⟨x, hx⟩ := Option.isSome_iff_exists.mp a1
        obtain ⟨hf, hb⟩ := callOf_flat hsk (by rw [List.length_take]; omega) hx
        have hs : Ha02Neutral.step s [p :: r.take k] = step s x := by unfold Ha02Neutral.step; rw [hx]
        rw [List.length_cons] at hl
        refine ⟨x, k, f, _, hf.symm, hk, by rw [← hf]; exact hb, by omega, ⟨cs', e', by omega, fun c hc => ha c (List.mem_cons_of_mem _ hc), rfl⟩, ?_⟩
        rw [← hs]
        rfl
theorem left_start {ns : List Int} (h : PyHa02.answers_asked ns = true) : Left ns.length ns init 100 (PyHa02.answers ns) ∧ (PyHa02.answers ns).length ≤ 10000000 := by
  unfold PyHa02.answers_asked at h
  split at h
  · cases h
  · rename_i raw e
    simp only [Bool.and_eq_true, map_whole e] at h
    obtain ⟨⟨⟨⟨h1, h2⟩, h3⟩, h4⟩, h5⟩ := h
    unfold Ha02Neutral.asked at h4
    simp only [Bool.and_eq_true, List.all_eq_true, decide_eq_true_eq] at h4
    refine ⟨⟨raw, e, h4.2.2.1, h4.1, ?_⟩, by unfold PyFlat.short at h5; exact of_decide_eq_true h5⟩
    unfold PyHa02.answers PyHa02.calls
    rw [e]
    show PyFlat.told (PyFlat.played Ha02Neutral.step Ha02Neutral.start (raw.map PyHa02.whole)) = _
    rw [map_whole e]
    rfl
end M
set_option maxHeartbeats 1000000
/-! Which calls are refused. -/
namespace M
open Ha02
def refusal (s : St) : Call → Int
  | .start => if PROCS ≤ s.procs.length then -6 else 0
  | .child p how => if isThere s p = false ∨ 2 < how then -1 else if lives s p = false then -8 else if PROCS ≤ s.procs.length then -6 else 0
  | .link p q => if isThere s p = false ∨ isThere s q = false ∨ p = q then -1 else if lives s p = false then -8 else if AIR ≤ s.air.length then -6 else 0
  | .cut p q => if isThere s p = false ∨ isThere s q = false ∨ p = q then -1 else if lives s p = false then -8 else if AIR ≤ s.air.length then -6 else 0
  | .watch p q => if isThere s p = false ∨ isThere s q = false ∨ p = q then -1 else if lives s p = false then -8 else if AIR ≤ s.air.length then -6 else 0
  | .unwatch p k => if isThere s p = false then -1 else if lives s p = false then -8 else if ((proc s p).watches.find? fun y => y.1 == k).isSome = true ∧ AIR ≤ s.air.length then -6 else 0
  | .ends p why => if isThere s p = false ∨ 99 < why then -1 else if lives s p = false then -8 else 0
  | .halt_ p q why => if isThere s p = false ∨ isThere s q = false ∨ 99 < why then -1 else if lives s p = false then -8 else if AIR ≤ s.air.length then -6 else 0
  | .trap p y => if isThere s p = false ∨ 1 < y then -1 else if lives s p = false then -8 else 0
  | .say p q n => if isThere s p = false ∨ isThere s q = false then -1 else if lives s p = false then -8 else if AIR ≤ s.air.length then -6 else 0
  | .deliver p q => if isThere s p = false ∨ isThere s q = false then -1 else if firstOf s p q = none then -5 else 0
  | .turns n => if 1000 < n then -1 else 0
  | .box p => if isThere s p = false then -1 else 0
  | .process p => if isThere s p = false then -1 else 0
  | .air => 0
theorem ref_ite {c : Prop} [Decidable c] {s : St} {a b : Int} {o : St × List Int} (h : b ≠ 0 → o = (s, [b])) (hn : (if c then a else b) ≠ 0) : (if c then (s, [a]) else o) = (s, [if c then a else b]) := by
  by_cases hc : c
  · rw [if_pos hc, if_pos hc]
  · rw [if_neg hc, if_neg hc]
    rw [if_neg hc] at hn
    exact h hn
theorem ref_zero {s : St} {o : St × List Int} (h : (0 : Int) ≠ 0) : o = (s, [0]) := absurd rfl h
theorem step_refused {s : St} {x : Call} (h : refusal s x ≠ 0) : step s x = (s, [refusal s x]) := by
  cases x with
  | start => exact ref_ite ref_zero h
  | child p how => exact ref_ite (ref_ite (ref_ite ref_zero)) h
  | link p q => exact ref_ite (ref_ite (ref_ite ref_zero)) h
  | cut p q => exact ref_ite (ref_ite (ref_ite ref_zero)) h
  | watch p q => exact ref_ite (ref_ite (ref_ite ref_zero)) h
  | unwatch p k =>
    refine ref_ite (ref_ite fun h => ?_) h
    cases e : (proc s p).watches.find? fun y => y.1 == k with
    | none => rw [e] at h; exact absurd (if_neg (by simp)) h
    | some y =>
      rw [e] at h
      by_cases ha : AIR ≤ s.air.length
      · show (if AIR ≤ s.air.length then (s, [-6]) else _) = _
        rw [if_pos ha, if_pos ⟨rfl, ha⟩]
      · exact absurd (if_neg (fun z => ha z.2)) h
  | ends p why => exact ref_ite (ref_ite ref_zero) h
  | halt_ p q why => exact ref_ite (ref_ite (ref_ite ref_zero)) h
  | trap p y => exact ref_ite (ref_ite ref_zero) h
  | say p q n => exact ref_ite (ref_ite (ref_ite ref_zero)) h
  | deliver p q =>
    refine ref_ite (fun h => ?_) h
    cases e : firstOf s p q with
    | none => rfl
    | some i => rw [e] at h; exact absurd (if_neg (by simp)) h
  | turns n => exact ref_ite ref_zero h
  | box p =>
    show (s, if isThere s p = false then [-1] else _) = _
    by_cases hc : isThere s p = false
    · simp only [refusal]; rw [if_pos hc, if_pos hc]
    · exact absurd (show refusal s (.box p) = 0 from if_neg hc) h
  | process p =>
    show (s, if isThere s p = false then [-1] else _) = _
    by_cases hc : isThere s p = false
    · simp only [refusal]; rw [if_pos hc, if_pos hc]
    · exact absurd (show refusal s (.process p) = 0 from if_neg hc) h
  | air => exact absurd rfl h
/-- of an if that is 0 though its yes is not -/
theorem ite_zero {c : Prop} [Decidable c] {a b : Int} (ha : a ≠ 0) (h : (if c then a else b) = 0) : ¬ c ∧ b = 0 := by
  by_cases hc : c
  · rw [if_pos hc] at h; exact absurd h ha
  · rw [if_neg hc] at h; exact ⟨hc, h⟩
theorem not_lives {s : St} {p : Nat} (hp : 1 ≤ p ∧ p ≤ s.procs.length) (h : ¬ lives s p = false) : (proc s p).lives = true := by
  rw [lives_iff hp] at h; simpa using h
theorem free_there {s : St} {p : Nat} (h : ¬ isThere s p = false) : 1 ≤ p ∧ p ≤ s.procs.length := not_there h
end M
set_option maxRecDepth 100000
set_option maxHeartbeats 2000000
/-! The world's objects, and the state that they stand for. -/
namespace Lw
open PySem PySem.Spec PyProof.Rows L2
def kn (n : Nat) : Key := Sum.inl (n : Int)
def iN (n : Nat) : V := .int (n : Int)
theorem kn_inj {m n : Nat} : kn m = kn n ↔ m = n := by
  unfold kn
  constructor
  · intro h; have := Sum.inl.inj h; omega
  · intro h; rw [h]
theorem iN_inj {m n : Nat} : iN m = iN n ↔ m = n := by
  unfold iN
  constructor
  · intro h; have := V.int.inj h; omega
  · intro h; rw [h]
def encP (l : List (Nat × Nat)) : List (Key × V) := l.map fun y => (kn y.1, iN y.2)
def encL (l : List Ha02.Link) : List (Key × V) := l.map fun y => (kn y.to, iN y.cutting)
/-! ### dicts of numbers -/
theorem valV_perm {a b : List (Key × V)} (h : a.Perm b) (hn : (a.map (·.1)).Nodup) (k : Key) : valV a k = valV b k := by
  induction h with
  | nil => rfl
  | cons p h ih =>
    rw [List.map_cons] at hn
    by_cases e : p.1 = k
    · rw [valV_pos e, valV_pos e]
    · rw [valV_neg e, valV_neg e]; exact ih (List.nodup_cons.mp hn).2
  | swap p q l =>
    rw [List.map_cons, List.map_cons] at hn
    have hne : q.1 ≠ p.1 := fun e => (List.nodup_cons.mp hn).1 (by rw [e]; exact List.mem_cons_self ..)
    by_cases e : p.1 = k
    · have e2 : ¬ q.1 = k := fun z => hne (z.trans e.symm)
      rw [valV_neg e2, valV_pos e, valV_pos e]
    · by_cases e2 : q.1 = k
      · rw [valV_pos e2, valV_neg e, valV_pos e2]
      · rw [valV_neg e, valV_neg e2, valV_neg e2, valV_neg e]
  | trans h1 h2 ih1 ih2 => exact (ih1 hn).trans (ih2 ((h1.map _).nodup_iff.mp hn))
theorem valV_encL (x : Ha02.Proc) (q : Nat) : valV (encL x.links) (kn q) = (Ha02.linkTo x q).map fun y => iN y.cutting := by
  unfold Ha02.linkTo encL
  generalize x.links = l
  induction l with
  | nil => rfl
  | cons y r ih =>
    rw [List.map_cons, List.find?_cons]
    by_cases e : y.to = q
    · rw [valV_pos (show ((kn y.to, iN y.cutting) : Key × V).1 = kn q from kn_inj.mpr e)]
      have : (y.to == q) = true := by simp [e]
      rw [this]
      rfl
    · rw [valV_neg (show ¬ ((kn y.to, iN y.cutting) : Key × V).1 = kn q from fun z => e (kn_inj.mp z)), ih]
      have : (y.to == q) = false := by simp [e]
      rw [this]
theorem valV_encP (l : List (Nat × Nat)) (k : Nat) : valV (encP l) (kn k) = (l.find? fun y => y.1 == k).map fun y => iN y.2 := by
  unfold encP
  induction l with
  | nil => rfl
  | cons y r ih =>
    rw [List.map_cons, List.find?_cons]
    by_cases e : y.1 = k
    · rw [valV_pos (show ((kn y.1, iN y.2) : Key × V).1 = kn k from kn_inj.mpr e)]
      have : (y.1 == k) = true := by simp [e]
      rw [this]
      rfl
    · rw [valV_neg (show ¬ ((kn y.1, iN y.2) : Key × V).1 = kn k from fun z => e (kn_inj.mp z)), ih]
      have : (y.1 == k) = false := by simp [e]
      rw [this]
theorem encP_put {l : List (Nat × Nat)} {k q : Nat} (h : k ∉ l.map (·.1)) : putK (encP l) (kn k) (iN q) = encP (l ++ [(k, q)]) := by
  have e : valV (encP l) (kn k) = none := by
    rw [valV_encP, Option.map_eq_none_iff, List.find?_eq_none]
    intro y hy z
    exact h (List.mem_map.mpr ⟨y, hy, by simpa using z⟩)
  rw [putK_new _ e]
  simp [encP]
theorem encP_drop (l : List (Nat × Nat)) (k : Nat) : dropK (encP l) (kn k) = encP (l.filter fun y => y.1 != k) := by
  unfold dropK encP
  rw [List.filter_map]
  congr 1
  refine List.filter_congr fun y hy => ?_
  show decide (kn y.1 ≠ kn k) = (y.1 != k)
  by_cases e : y.1 = k
  · simp [e]
  · have : kn y.1 ≠ kn k := fun z => e (kn_inj.mp z)
    simp [e, this]
theorem encL_drop (l : List Ha02.Link) (q : Nat) : dropK (encL l) (kn q) = encL (l.filter fun y => y.to != q) := by
  unfold dropK encL
  rw [List.filter_map]
  congr 1
  refine List.filter_congr fun y hy => ?_
  show decide (kn y.to ≠ kn q) = (y.to != q)
  by_cases e : y.to = q
  · simp [e]
  · have : kn y.to ≠ kn q := fun z => e (kn_inj.mp z)
    simp [e, this]
theorem dropK_perm {a b : List (Key × V)} (h : a.Perm b) (k : Key) : (dropK a k).Perm (dropK b k) := h.filter _
theorem putK_perm {a b : List (Key × V)} (h : a.Perm b) (hn : (a.map (·.1)).Nodup) (k : Key) (v : V) : (putK a k v).Perm (putK b k v) := by
  unfold putK
  have e : (a.any fun kv => decide (kv.1 = k)) = (b.any fun kv => decide (kv.1 = k)) := by rw [valV_any, valV_any, valV_perm h hn]
  rw [e]
  split
  · exact h.map _
  · exact h.append_right _
theorem insert_perm {l : List Ha02.Link} {q k : Nat} (hs : l.Pairwise fun a b => a.to < b.to) : (putK (encL l) (kn q) (iN k)).Perm (encL (Ha02.insertLink ⟨q, k⟩ l)) := by
  induction l with
  | nil => exact List.Perm.refl _
  | cons y r ih =>
    obtain ⟨h1, h2⟩ := List.pairwise_cons.mp hs
    have rel : (putK (encL r) (kn q) (iN k)).Perm (encL (Ha02.insertLink ⟨q, k⟩ r)) := ih h2
    unfold Ha02.insertLink
    by_cases hlt : q < y.to
    · rw [if_pos hlt]
      have nv : valV (encL (y :: r)) (kn q) = none := by
        have e := valV_encL { Ha02.fresh with links := y :: r } q
        show valV (encL (y :: r)) (kn q) = none
        rw [show encL (y :: r) = encL ({ Ha02.fresh with links := y :: r } : Ha02.Proc).links from rfl, e, Option.map_eq_none_iff]
        unfold Ha02.linkTo
        rw [List.find?_eq_none]
        intro z hz
        have hz' : z ∈ y :: r := hz
        rcases List.mem_cons.mp hz' with e | m
        · subst e; simp; omega
        · have := h1 z m; simp; omega
      rw [putK_new _ nv]
      exact List.perm_append_singleton _ _
    · rw [if_neg hlt]
      by_cases he : q = y.to
      · rw [if_pos he]
        have hany : ((encL (y :: r)).any fun kv => decide (kv.1 = kn q)) = true := List.any_eq_true.mpr ⟨(kn y.to, iN y.cutting), by simp [encL], by simp [he]⟩
        unfold putK
        rw [if_pos hany]
        have : (encL (y :: r)).map (fun kv => if kv.1 = kn q then (kv.1, iN k) else kv) = encL (⟨q, k⟩ :: r) := by
          show (if kn y.to = kn q then (kn y.to, iN k) else (kn y.to, iN y.cutting)) :: (encL r).map _ = (kn q, iN k) :: encL r
          rw [if_pos (kn_inj.mpr he.symm), ← he]
          congr 1
          conv => rhs; rw [← List.map_id (encL r)]
          refine List.map_congr_left fun kv hkv => ?_
          obtain ⟨z, hz, rfl⟩ := List.mem_map.mp hkv
          have := h1 z hz
          rw [if_neg (fun e => by have := kn_inj.mp e; omega)]
          rfl
        rw [this]
      · rw [if_neg he]
        have hne : ¬ kn y.to = kn q := fun e => he (kn_inj.mp e).symm
        have : putK (encL (y :: r)) (kn q) (iN k) = (kn y.to, iN y.cutting) :: putK (encL r) (kn q) (iN k) := by
          unfold putK
          have e1 : ((encL (y :: r)).any fun kv => decide (kv.1 = kn q)) = ((encL r).any fun kv => decide (kv.1 = kn q)) := by
            show (decide (kn y.to = kn q) || _) = _
            rw [decide_eq_false hne, Bool.false_or]
            rfl
          rw [e1]
          split
          · show (if kn y.to = kn q then _ else _) :: _ = _
            rw [if_neg hne]
            rfl
          · rfl
        rw [this]
        exact List.Perm.cons _ rel
theorem encL_keys (l : List Ha02.Link) : (encL l).map (·.1) = (l.map fun y => (y.to : Int)).map Sum.inl := by
  unfold encL
  rw [List.map_map, List.map_map]
  rfl
theorem encL_nodup {l : List Ha02.Link} (hs : l.Pairwise fun a b => a.to < b.to) : ((encL l).map (·.1)).Nodup := by
  unfold encL
  rw [List.map_map]
  show (l.map fun y => kn y.to).Nodup
  rw [List.nodup_iff_pairwise_ne, List.pairwise_map]
  exact hs.imp fun {a b} h e => by have := kn_inj.mp e; omega
/-- two lists of ints, both in order, with the same items -/
theorem sorted_same {l : List Ha02.Link} {ns : List Int} (hs : l.Pairwise fun a b => a.to < b.to) (hp : ns.Perm (l.map fun y => (y.to : Int))) (hn : ns.Pairwise (· ≤ ·)) : ns = l.map fun y => (y.to : Int) := by
  refine List.Perm.eq_of_pairwise (le := fun a b : Int => a ≤ b) (fun a b _ _ h1 h2 => by omega) hn ?_ hp
  rw [List.pairwise_map]
  exact hs.imp fun {a b} h => by omega
end Lw
set_option maxRecDepth 100000
set_option maxHeartbeats 2000000
namespace Lw
open PySem PySem.Spec PyProof.Rows L2
/-! ### lists of lists without doubles -/
theorem flat_mem_set {α β : Type} {f : α → List β} {l : List α} {i : Nat} {y : α} {b : β} (h : b ∈ (l.set i y).flatMap f) : b ∈ f y ∨ b ∈ l.flatMap f := by
  obtain ⟨z, hz, hb⟩ := List.mem_flatMap.mp h
  rcases M.mem_set hz with m | m
  · exact .inr (List.mem_flatMap.mpr ⟨z, m, hb⟩)
  · subst m; exact .inl hb
theorem nodup_set {α β : Type} {f : α → List β} : ∀ {l : List α} {i : Nat} {x y : α}, l[i]? = some x → (l.flatMap f).Nodup → (f y).Nodup → (∀ b ∈ f y, b ∈ f x ∨ b ∉ l.flatMap f) → ((l.set i y).flatMap f).Nodup
  | [], _, _, _, h, _, _, _ => by simp at h
  | a :: l, 0, x, y, h, hn, hy, hd => by
    have e : a = x := Option.some.inj h
    subst e
    simp only [List.set_cons_zero, List.flatMap_cons] at *
    obtain ⟨h1, h2, h3⟩ := List.nodup_append.mp hn
    refine List.nodup_append.mpr ⟨hy, h2, fun b hb c hc e => ?_⟩
    subst e
    rcases hd b hb with m | m
    · exact h3 b m b hc rfl
    · exact m (List.mem_append.mpr (.inr hc))
  | a :: l, i + 1, x, y, h, hn, hy, hd => by
    simp only [List.set_cons_succ, List.flatMap_cons] at *
    obtain ⟨h1, h2, h3⟩ := List.nodup_append.mp hn
    have hx : x ∈ l := List.mem_of_getElem? h
    have ih := nodup_set (f := f) (l := l) (i := i) (x := x) (y := y) h h2 hy fun b hb => (hd b hb).imp_right fun m z => m (List.mem_append.mpr (.inr z))
    refine List.nodup_append.mpr ⟨h1, ih, fun b hb c hc e => ?_⟩
    subst e
    rcases flat_mem_set hc with m | m
    · rcases hd b m with m' | m'
      · exact h3 b hb b (List.mem_flatMap.mpr ⟨x, hx, m'⟩) rfl
      · exact m' (List.mem_append.mpr (.inl hb))
    · exact h3 b hb b m rfl
/-- apart: what two different places hold -/
theorem flat_apart {α β : Type} {f : α → List β} : ∀ {l : List α} {i j : Nat} {x y : α} {b : β}, l[i]? = some x → l[j]? = some y → (l.flatMap f).Nodup → b ∈ f x → b ∈ f y → i = j
  | [], _, _, _, _, _, h, _, _, _, _ => by simp at h
  | a :: l, 0, 0, _, _, _, _, _, _, _, _ => rfl
  | a :: l, 0, j + 1, x, y, b, h1, h2, hn, hx, hy => by
    have e : a = x := Option.some.inj h1
    subst e
    rw [List.flatMap_cons] at hn
    exact absurd rfl ((List.nodup_append.mp hn).2.2 b hx b (List.mem_flatMap.mpr ⟨y, List.mem_of_getElem? (show l[j]? = some y from h2), hy⟩))
  | a :: l, i + 1, 0, x, y, b, h1, h2, hn, hx, hy => by
    have e : a = y := Option.some.inj h2
    subst e
    rw [List.flatMap_cons] at hn
    exact absurd rfl ((List.nodup_append.mp hn).2.2 b hy b (List.mem_flatMap.mpr ⟨x, List.mem_of_getElem? (show l[i]? = some x from h1), hx⟩))
  | a :: l, i + 1, j + 1, x, y, b, h1, h2, hn, hx, hy => by
    rw [List.flatMap_cons] at hn
    have := flat_apart (l := l) (i := i) (j := j) h1 h2 (List.nodup_append.mp hn).2.1 hx hy
    omega
/-! ### the objects -/
/-- a process's object, its dicts -/
structure PO where
  a : Addr
  l : Addr
  w : Addr
  v : Addr
  n : Addr
def PO.adr (o : PO) : List Addr := [o.a, o.l, o.w, o.v, o.n]
def pf (p : Ha02.Proc) (o : PO) : List (Str × V) := [("living", .bl p.lives), ("why", iN (if p.lives = true then 0 else p.why)), ("traps", .bl p.traps), ("links", .ref o.l), ("watches", .ref o.w), ("watchers", .ref o.v), ("notes", .ref o.n)]
def NoteAt (H : Hp) (t : Addr) (y : Ha02.Note) : Prop := H t = some (.tup [iN y.what, iN y.who, iN y.n])
structure PAt (CP : Addr) (H : Hp) (o : PO) (p : Ha02.Proc) : Prop where
  ins : ∃ dx, H o.a = some (.ins CP dx (pf p o))
  lnk : ∃ kvs, H o.l = some (.dK kvs) ∧ kvs.Perm (encL p.links)
  wat : H o.w = some (.dK (encP p.watches))
  vat : H o.v = some (.dK (encP p.watched))
  box : ∃ ts : List Addr, H o.n = some (.lst (ts.map V.ref)) ∧ Paired (NoteAt H) ts p.box
def SigAt (H : Hp) (t : Addr) (y : Nat × Nat × Ha02.Sig) : Prop := ∃ g, H t = some (.tup [iN y.1, iN y.2.1, .ref g]) ∧ H g = some (.tup ((Ha02.sigTold y.2.2).map iN))
/-- the world's: its object and that one's dict, the dict of processes, the list of signals, the processes, the signals -/
structure Ad where
  W : Addr
  dW : Addr
  dp : Addr
  ls : Addr
  pos : List PO
  ts : List Addr
def Ad.adr (d : Ad) : List Addr := d.W :: d.dp :: d.ls :: d.pos.flatMap PO.adr
def wf (d : Ad) (last : Nat) : List (Str × V) := [("processes", .ref d.dp), ("signals", .ref d.ls), ("last_begun", iN last)]
def procsD : Nat → List PO → List (Key × V)
  | _, [] => []
  | i, o :: r => (kn i, .ref o.a) :: procsD (i + 1) r
structure WAt (CW CP : Addr) (H : Hp) (d : Ad) (s : Ha02.St) : Prop where
  nd : d.adr.Nodup
  ins : H d.W = some (.ins CW d.dW (wf d s.last))
  prs : H d.dp = some (.dK (procsD 1 d.pos))
  lst : H d.ls = some (.lst (d.ts.map V.ref))
  air : Paired (SigAt H) d.ts s.air
  len : d.pos.length = s.procs.length
  at_ : ∀ (i : Nat) (o : PO) (p : Ha02.Proc), d.pos[i]? = some o → s.procs[i]? = some p → PAt CP H o p
/-- what isn't the world's stays -/
structure Keeps (H : Hp) (d : Ad) (H' : Hp) (d' : Ad) : Prop where
  kp : ∀ b o, H b = some o → b ∉ d.adr → H' b = some o ∧ b ∉ d'.adr
  W : d'.W = d.W
theorem Keeps.refl (H : Hp) (d : Ad) : Keeps H d H d := ⟨fun _ _ h n => ⟨h, n⟩, rfl⟩
theorem Keeps.trans {H H1 H2 : Hp} {d d1 d2 : Ad} (a : Keeps H d H1 d1) (b : Keeps H1 d1 H2 d2) : Keeps H d H2 d2 :=
  ⟨fun c o h n => let ⟨h1, n1⟩ := a.kp c o h n; b.kp c o h1 n1, b.W.trans a.W⟩
/-! ### the dict of processes -/
theorem procsD_len : ∀ (i : Nat) (l : List PO), (procsD i l).length = l.length
  | _, [] => rfl
  | i, o :: r => by show (procsD (i + 1) r).length + 1 = r.length + 1; rw [procsD_len]
theorem procsD_val : ∀ (i : Nat) (l : List PO) (p : Nat), valV (procsD i l) (kn p) = if i ≤ p then (l[p - i]?).map fun o => V.ref o.a else none
  | i, [], p => by
    have : valV (procsD i []) (kn p) = none := rfl
    rw [this]
    split <;> simp
  | i, o :: r, p => by
    show valV ((kn i, V.ref o.a) :: procsD (i + 1) r) (kn p) = _
    by_cases e : i = p
    · subst e
      rw [valV_pos rfl, if_pos (Nat.le_refl _), Nat.sub_self]
      rfl
    · rw [valV_neg (fun z => e (kn_inj.mp z)), procsD_val (i + 1) r p]
      by_cases h : i ≤ p
      · rw [if_pos h, if_pos (by omega), show p - i = (p - (i + 1)) + 1 by omega]
        rfl
      · rw [if_neg h, if_neg (by omega)]
theorem procsD_snoc : ∀ (i : Nat) (l : List PO) (o : PO), procsD i (l ++ [o]) = procsD i l ++ [(kn (i + l.length), V.ref o.a)]
  | i, [], o => rfl
  | i, p :: r, o => by
    show (kn i, V.ref p.a) :: procsD (i + 1) (r ++ [o]) = (kn i, V.ref p.a) :: (procsD (i + 1) r ++ _)
    rw [procsD_snoc, List.length_cons, show i + 1 + r.length = i + (r.length + 1) by omega]
theorem procsD_set : ∀ (i : Nat) (l : List PO) (j : Nat) (o o' : PO), l[j]? = some o → o'.a = o.a → procsD i (l.set j o') = procsD i l
  | _, [], _, _, _, h, _ => by simp at h
  | i, p :: r, 0, o, o', h, e => by
    have e2 : p = o := Option.some.inj h
    subst e2
    show (kn i, V.ref o'.a) :: procsD (i + 1) r = (kn i, V.ref p.a) :: procsD (i + 1) r
    rw [e]
  | i, p :: r, j + 1, o, o', h, e => by
    show (kn i, V.ref p.a) :: procsD (i + 1) (r.set j o') = (kn i, V.ref p.a) :: procsD (i + 1) r
    rw [procsD_set (i + 1) r j o o' h e]
section
variable {CW CP : Addr} {H H' : Hp} {d : Ad} {s : Ha02.St}
theorem WAt.get (h : WAt CW CP H d s) {p : Nat} (hp : 1 ≤ p ∧ p ≤ s.procs.length) : ∃ o, d.pos[p - 1]? = some o ∧ PAt CP H o (Ha02.proc s p) ∧ valV (procsD 1 d.pos) (kn p) = some (.ref o.a) := by
  have hl : p - 1 < d.pos.length := by rw [h.len]; omega
  refine ⟨d.pos[p - 1], List.getElem?_eq_getElem hl, h.at_ _ _ _ (List.getElem?_eq_getElem hl) (M.proc_at hp), ?_⟩
  rw [procsD_val, if_pos hp.1, List.getElem?_eq_getElem hl]
  rfl
theorem WAt.out (h : WAt CW CP H d s) {p : Nat} : valV (procsD 1 d.pos) (kn p) = none ↔ Ha02.isThere s p = false := by
  rw [procsD_val]
  by_cases h1 : 1 ≤ p
  · rw [if_pos h1]
    by_cases h2 : p ≤ s.procs.length
    · have hl : p - 1 < d.pos.length := by rw [h.len]; omega
      rw [List.getElem?_eq_getElem hl, M.there_iff.mpr ⟨h1, h2⟩]
      simp
    · have hl : d.pos.length ≤ p - 1 := by rw [h.len]; omega
      rw [List.getElem?_eq_none hl]
      simp [Ha02.isThere, h2]
  · rw [if_neg h1]
    simp [Ha02.isThere, h1]
theorem PAt.tracked {o : PO} {p : Ha02.Proc} (h : PAt CP H o p) {b : Addr} (hb : b ∈ o.adr) : H b ≠ none := by
  simp only [PO.adr, List.mem_cons, List.not_mem_nil, or_false] at hb
  rcases hb with rfl | rfl | rfl | rfl | rfl
  · obtain ⟨dx, e⟩ := h.ins; rw [e]; simp
  · obtain ⟨k, e, _⟩ := h.lnk; rw [e]; simp
  · rw [h.wat]; simp
  · rw [h.vat]; simp
  · obtain ⟨ts, e, _⟩ := h.box; rw [e]; simp
theorem WAt.atp (h : WAt CW CP H d s) {i : Nat} {o : PO} (e : d.pos[i]? = some o) : ∃ p, s.procs[i]? = some p ∧ PAt CP H o p := by
  have hi : i < s.procs.length := by rw [← h.len]; exact (List.getElem?_eq_some_iff.mp e).1
  exact ⟨_, List.getElem?_eq_getElem hi, h.at_ _ _ _ e (List.getElem?_eq_getElem hi)⟩
theorem WAt.tracked (h : WAt CW CP H d s) {b : Addr} (hb : b ∈ d.adr) : H b ≠ none := by
  simp only [Ad.adr, List.mem_cons] at hb
  rcases hb with rfl | rfl | rfl | hb
  · rw [h.ins]; simp
  · rw [h.prs]; simp
  · rw [h.lst]; simp
  · obtain ⟨o, ho, hb⟩ := List.mem_flatMap.mp hb
    obtain ⟨i, hi, e⟩ := List.getElem_of_mem ho
    obtain ⟨p, _, hp⟩ := h.atp (i := i) (o := o) (by rw [List.getElem?_eq_getElem hi, e])
    exact hp.tracked hb
/-- a tuple is none of the world's places -/
theorem WAt.notup (h : WAt CW CP H d s) {b : Addr} {xs : List V} (hb : H b = some (.tup xs)) : b ∉ d.adr := by
  intro m
  simp only [Ad.adr, List.mem_cons] at m
  rcases m with rfl | rfl | rfl | m
  · rw [h.ins] at hb; cases hb
  · rw [h.prs] at hb; cases hb
  · rw [h.lst] at hb; cases hb
  · obtain ⟨o, ho, m⟩ := List.mem_flatMap.mp m
    obtain ⟨i, hi, e⟩ := List.getElem_of_mem ho
    obtain ⟨p, _, hp⟩ := h.atp (i := i) (o := o) (by rw [List.getElem?_eq_getElem hi, e])
    simp only [PO.adr, List.mem_cons, List.not_mem_nil, or_false] at m
    rcases m with rfl | rfl | rfl | rfl | rfl
    · obtain ⟨dx, e⟩ := hp.ins; rw [e] at hb; cases hb
    · obtain ⟨k, e, _⟩ := hp.lnk; rw [e] at hb; cases hb
    · rw [hp.wat] at hb; cases hb
    · rw [hp.vat] at hb; cases hb
    · obtain ⟨ts, e, _⟩ := hp.box; rw [e] at hb; cases hb
theorem notes_kept (k : ∀ b xs, H b = some (.tup xs) → H' b = some (.tup xs)) : ∀ {ts : List Addr} {bx : List Ha02.Note}, Paired (NoteAt H) ts bx → Paired (NoteAt H') ts bx
  | _, _, .nil => .nil
  | _, _, .cons a r => .cons (k _ _ a) (notes_kept k r)
theorem PAt.kept {o : PO} {p : Ha02.Proc} (h : PAt CP H o p) (kt : ∀ b xs, H b = some (.tup xs) → H' b = some (.tup xs)) (k : ∀ b ∈ o.adr, ∀ u, H b = some u → H' b = some u) : PAt CP H' o p := by
  obtain ⟨dx, e1⟩ := h.ins
  obtain ⟨kvs, e2, pm⟩ := h.lnk
  obtain ⟨ts, e3, pn⟩ := h.box
  exact ⟨⟨dx, k _ (by simp [PO.adr]) _ e1⟩, ⟨kvs, k _ (by simp [PO.adr]) _ e2, pm⟩, k _ (by simp [PO.adr]) _ h.wat, k _ (by simp [PO.adr]) _ h.vat, ⟨ts, k _ (by simp [PO.adr]) _ e3, notes_kept kt pn⟩⟩
theorem SigAt.kept {t : Addr} {y : Nat × Nat × Ha02.Sig} (h : SigAt H t y) (k : ∀ b xs, H b = some (.tup xs) → H' b = some (.tup xs)) : SigAt H' t y := by
  obtain ⟨g, e1, e2⟩ := h
  exact ⟨g, k _ _ e1, k _ _ e2⟩
theorem sigs_kept (k : ∀ b xs, H b = some (.tup xs) → H' b = some (.tup xs)) : ∀ {ts : List Addr} {air : List (Nat × Nat × Ha02.Sig)}, Paired (SigAt H) ts air → Paired (SigAt H') ts air
  | _, _, .nil => .nil
  | _, _, .cons a r => .cons (a.kept k) (sigs_kept k r)
/-- ONE PROCESS is changed: its own places, and new ones -/
theorem WAt.proc (h : WAt CW CP H d s) {p : Nat} {o o' : PO} {x : Ha02.Proc} (hp : 1 ≤ p ∧ p ≤ s.procs.length) (ho : d.pos[p - 1]? = some o) (ea : o'.a = o.a) (hn : o'.adr.Nodup) (hf : ∀ b ∈ o'.adr, b ∈ o.adr ∨ H b = none)
    (kp : ∀ b u, H b = some u → b ∉ o.adr → H' b = some u) (hx : PAt CP H' o' x) : WAt CW CP H' { d with pos := d.pos.set (p - 1) o' } (Ha02.setProc s p x) ∧ Keeps H d H' { d with pos := d.pos.set (p - 1) o' } := by
  have hnd := h.nd
  simp only [Ad.adr, List.nodup_cons, List.mem_cons, not_or] at hnd
  obtain ⟨⟨n1, n2, n3⟩, ⟨n4, n5⟩, n6, n7⟩ := hnd
  have inF : ∀ b ∈ o.adr, b ∈ d.pos.flatMap PO.adr := fun b hb => List.mem_flatMap.mpr ⟨o, List.mem_of_getElem? ho, hb⟩
  have inA : ∀ b ∈ o.adr, b ∈ d.adr := fun b hb => by simp only [Ad.adr, List.mem_cons]; exact .inr (.inr (.inr (inF b hb)))
  have fr : ∀ b ∈ d.adr, H b = none → False := fun b hb e => h.tracked hb e
  have out' : ∀ b, b ∈ (d.pos.set (p - 1) o').flatMap PO.adr → b ∈ d.pos.flatMap PO.adr ∨ H b = none := fun b hb => by
    rcases flat_mem_set hb with m | m
    · exact (hf b m).imp_left (inF b)
    · exact .inl m
  refine ⟨⟨?_, ?_, ?_, ?_, sigs_kept (fun b xs e => kp b _ e fun m => h.notup e (inA b m)) h.air, ?_, ?_⟩, fun b u e nb => ⟨kp b u e fun m => nb (inA b m), fun m => ?_⟩, rfl⟩
  · simp only [Ad.adr, List.nodup_cons, List.mem_cons, not_or]
    refine ⟨⟨n1, n2, fun m => ?_⟩, ⟨n4, fun m => ?_⟩, fun m => ?_, ?_⟩
    · rcases out' _ m with z | z
      · exact n3 z
      · exact fr _ (by simp [Ad.adr]) z
    · rcases out' _ m with z | z
      · exact n5 z
      · exact fr _ (by simp [Ad.adr]) z
    · rcases out' _ m with z | z
      · exact n6 z
      · exact fr _ (by simp [Ad.adr]) z
    · refine nodup_set ho n7 hn fun b hb => (hf b hb).imp_right fun e m => fr b (by simp only [Ad.adr, List.mem_cons]; exact .inr (.inr (.inr m))) e
  · exact kp _ _ h.ins fun m => n3 (inF _ m)
  · show H' d.dp = some (.dK (procsD 1 (d.pos.set (p - 1) o')))
    rw [procsD_set 1 d.pos (p - 1) o o' ho ea]
    exact kp _ _ h.prs fun m => n5 (inF _ m)
  · exact kp _ _ h.lst fun m => n6 (inF _ m)
  · show (d.pos.set (p - 1) o').length = (s.procs.set (p - 1) x).length
    rw [List.length_set, List.length_set]; exact h.len
  · intro i o2 p2 e1 e2
    have e1 : (d.pos.set (p - 1) o')[i]? = some o2 := e1
    have e2 : (s.procs.set (p - 1) x)[i]? = some p2 := e2
    by_cases hi : p - 1 = i
    · subst hi
      have hl : p - 1 < d.pos.length := (List.getElem?_eq_some_iff.mp ho).1
      rw [List.getElem?_set_self hl] at e1
      rw [List.getElem?_set_self (by rw [← h.len]; exact hl)] at e2
      cases e1; cases e2
      exact hx
    · rw [List.getElem?_set_ne hi] at e1 e2
      refine (h.at_ i o2 p2 e1 e2).kept (fun b xs e => kp b _ e fun m => h.notup e (inA b m)) fun b hb u e => kp b u e fun m => hi (flat_apart ho e1 n7 m hb)
  · have m' : b ∈ d.W :: d.dp :: d.ls :: (d.pos.set (p - 1) o').flatMap PO.adr := m
    simp only [List.mem_cons] at m'
    rcases m' with z | z | z | z
    · exact nb (by simp [Ad.adr, z])
    · exact nb (by simp [Ad.adr, z])
    · exact nb (by simp [Ad.adr, z])
    · rcases out' _ z with q | q
      · exact nb (by simp only [Ad.adr, List.mem_cons]; exact .inr (.inr (.inr q)))
      · rw [q] at e; cases e
/-- THE SIGNALS are others -/
theorem WAt.sigs (h : WAt CW CP H d s) {ts : List Addr} {air : List (Nat × Nat × Ha02.Sig)} (kp : ∀ b u, H b = some u → b ≠ d.ls → H' b = some u) (hl : H' d.ls = some (.lst (ts.map V.ref))) (ha : Paired (SigAt H') ts air) :
    WAt CW CP H' { d with ts := ts } { s with air := air } ∧ Keeps H d H' { d with ts := ts } := by
  have hnd := h.nd
  simp only [Ad.adr, List.nodup_cons, List.mem_cons, not_or] at hnd
  obtain ⟨⟨n1, n2, n3⟩, ⟨n4, n5⟩, n6, n7⟩ := hnd
  refine ⟨⟨h.nd, kp _ _ h.ins n2, kp _ _ h.prs n4, hl, ha, h.len, fun i o p e1 e2 => (h.at_ i o p e1 e2).kept (fun b xs e => kp b _ e fun z => h.notup e (by rw [z]; simp [Ad.adr])) fun b hb u e => kp b u e fun z => ?_⟩, fun b u e nb => ⟨kp b u e fun z => nb (by rw [z]; simp [Ad.adr]), nb⟩, rfl⟩
  subst z
  exact n6 (List.mem_flatMap.mpr ⟨o, List.mem_of_getElem? e1, hb⟩)
/-- THE LAST NUMBER is another -/
theorem WAt.num (h : WAt CW CP H d s) {k : Nat} (kp : ∀ b u, H b = some u → b ≠ d.W → H' b = some u) (hw : H' d.W = some (.ins CW d.dW (wf d k))) : WAt CW CP H' d { s with last := k } ∧ Keeps H d H' d := by
  have hnd := h.nd
  simp only [Ad.adr, List.nodup_cons, List.mem_cons, not_or] at hnd
  obtain ⟨⟨n1, n2, n3⟩, ⟨n4, n5⟩, n6, n7⟩ := hnd
  refine ⟨⟨h.nd, hw, kp _ _ h.prs (Ne.symm n1), kp _ _ h.lst (Ne.symm n2), sigs_kept (fun b xs e => kp b _ e fun z => ?_) h.air, h.len, fun i o p e1 e2 => (h.at_ i o p e1 e2).kept (fun b xs e => kp b _ e fun z => h.notup e (by rw [z]; simp [Ad.adr])) fun b hb u e => kp b u e fun z => ?_⟩, fun b u e nb => ⟨kp b u e fun z => nb (by rw [z]; simp [Ad.adr]), nb⟩, rfl⟩
  · exact h.notup e (by rw [z]; simp [Ad.adr])
  · subst z
    exact n3 (List.mem_flatMap.mpr ⟨o, List.mem_of_getElem? e1, hb⟩)
/-- ONE PROCESS MORE -/
theorem WAt.more (h : WAt CW CP H d s) {o : PO} {x : Ha02.Proc} (hn : o.adr.Nodup) (hf : ∀ b ∈ o.adr, H b = none) (kp : ∀ b u, H b = some u → b ≠ d.dp → H' b = some u) (hd : H' d.dp = some (.dK (procsD 1 (d.pos ++ [o])))) (hx : PAt CP H' o x) :
    WAt CW CP H' { d with pos := d.pos ++ [o] } { s with procs := s.procs ++ [x] } ∧ Keeps H d H' { d with pos := d.pos ++ [o] } := by
  have hnd := h.nd
  simp only [Ad.adr, List.nodup_cons, List.mem_cons, not_or] at hnd
  obtain ⟨⟨n1, n2, n3⟩, ⟨n4, n5⟩, n6, n7⟩ := hnd
  have fr : ∀ b ∈ d.adr, b ∉ o.adr := fun b hb m => h.tracked hb (hf b m)
  refine ⟨⟨?_, kp _ _ h.ins n1, hd, kp _ _ h.lst (Ne.symm n4), sigs_kept (fun b xs e => kp b _ e fun z => h.notup e (by rw [z]; simp [Ad.adr])) h.air, ?_, ?_⟩, fun b u e nb => ⟨kp b u e fun z => nb (by rw [z]; simp [Ad.adr]), fun m => ?_⟩, rfl⟩
  · simp only [Ad.adr, List.nodup_cons, List.mem_cons, not_or, List.flatMap_append, List.mem_append, List.flatMap_cons, List.flatMap_nil, List.append_nil]
    refine ⟨⟨n1, n2, n3, fr _ (by simp [Ad.adr])⟩, ⟨n4, n5, fr _ (by simp [Ad.adr])⟩, ⟨n6, fr _ (by simp [Ad.adr])⟩, List.nodup_append.mpr ⟨n7, hn, fun b hb c hc e => ?_⟩⟩
    subst e
    exact fr b (by simp only [Ad.adr, List.mem_cons]; exact .inr (.inr (.inr hb))) hc
  · show (d.pos ++ [o]).length = (s.procs ++ [x]).length
    rw [List.length_append, List.length_append, h.len]
    rfl
  · intro i o2 p2 e1 e2
    have e1 : (d.pos ++ [o])[i]? = some o2 := e1
    have e2 : (s.procs ++ [x])[i]? = some p2 := e2
    by_cases hi : i < d.pos.length
    · rw [List.getElem?_append_left hi] at e1
      rw [List.getElem?_append_left (by rw [← h.len]; exact hi)] at e2
      refine (h.at_ i o2 p2 e1 e2).kept (fun b xs e => kp b _ e fun z => h.notup e (by rw [z]; simp [Ad.adr])) fun b hb u e => kp b u e fun z => ?_
      subst z
      exact n5 (List.mem_flatMap.mpr ⟨o2, List.mem_of_getElem? e1, hb⟩)
    · have hlt : i < (d.pos ++ [o]).length := (List.getElem?_eq_some_iff.mp e1).1
      rw [List.length_append] at hlt
      have : i = d.pos.length := by simp at hlt; omega
      subst this
      rw [List.getElem?_concat_length] at e1
      rw [h.len, List.getElem?_concat_length] at e2
      cases e1; cases e2
      exact hx
  · have m' : b ∈ d.W :: d.dp :: d.ls :: (d.pos ++ [o]).flatMap PO.adr := m
    simp only [List.mem_cons, List.flatMap_append, List.mem_append, List.flatMap_cons, List.flatMap_nil, List.append_nil] at m'
    rcases m' with z | z | z | z | z
    · exact nb (by simp [Ad.adr, z])
    · exact nb (by simp [Ad.adr, z])
    · exact nb (by simp [Ad.adr, z])
    · exact nb (by simp only [Ad.adr, List.mem_cons]; exact .inr (.inr (.inr z)))
    · have := hf b z; rw [this] at e; cases e
end
end Lw
set_option maxRecDepth 100000
set_option maxHeartbeats 2000000
/-! The program's text by places, and what is known of it behind the top. (Printed by a generator of mine.) -/
set_option genInjectivity false
set_option genSizeOfSpec false
set_option genSizeOf false
namespace Lw
open PySem PySem.Spec PyProof.Rows L2
def top (i : Nat) : Stmt := PySem.Challenge.pw_linkwatches_s01_answers.main.body.getD i (.Pass ⟨0, 0, 0, 0⟩)
abbrev s_let_end_come : Stmt := top 39
abbrev s_end_process : Stmt := top 40
abbrev s_tell_linked : Stmt := top 41
abbrev s_tell_watchers : Stmt := top 42
abbrev s_tell_watched : Stmt := top 43
abbrev s_Process_init : Stmt := inClass (top 46) 0
abbrev s_Process_holds_link : Stmt := inClass (top 46) 1
abbrev s_World_init : Stmt := inClass (top 47) 0
abbrev s_World_add_process : Stmt := inClass (top 47) 1
abbrev s_World_begin_number : Stmt := inClass (top 47) 2
abbrev s_World_send : Stmt := inClass (top 47) 3
abbrev s_World_place_of_first : Stmt := inClass (top 47) 4
abbrev s_arrive : Stmt := top 49
abbrev s_arrive_at_living : Stmt := top 50
abbrev s_arrive_at_ended : Stmt := top 51
abbrev s_take_cut : Stmt := top 52
abbrev s_take_heard : Stmt := top 53
abbrev s_take_ended : Stmt := top 54
abbrev s_take_stop : Stmt := top 55
abbrev s_take_gone : Stmt := top 56
abbrev s_box : Stmt := top 58
abbrev s_process : Stmt := top 59
abbrev s_air : Stmt := top 60
abbrev s_counted : Stmt := top 61
abbrev s_carry_out : Stmt := top 65
abbrev s_start : Stmt := top 66
abbrev s_child : Stmt := top 67
abbrev s_link : Stmt := top 68
abbrev s_cut : Stmt := top 69
abbrev s_watch : Stmt := top 70
abbrev s_unwatch : Stmt := top 71
abbrev s_ends : Stmt := top 72
abbrev s_stop : Stmt := top 73
abbrev s_trap : Stmt := top 74
abbrev s_say : Stmt := top 75
abbrev s_deliver : Stmt := top 76
abbrev s_turns : Stmt := top 77
abbrev s_refusal_of : Stmt := top 85
abbrev s_lacks_process : Stmt := top 86
abbrev s_is_misfit : Stmt := top 87
abbrev s_is_by_ended : Stmt := top 88
abbrev s_lacks_room : Stmt := top 89
abbrev s_lacks_signal : Stmt := top 90
abbrev s_answers : Stmt := top 92
abbrev s_answer_of : Stmt := top 93
theorem sc_let_end_come : FnScope ["world", "q", "why", "note", "reached"] ["world", "q", "why", "note"] (defScope s_let_end_come) := ⟨rfl, rfl, rfl, by decide +kernel, rfl, by decide +kernel, by decide +kernel⟩
theorem sc_end_process : FnScope ["world", "p", "why", "ending"] ["world", "p", "why"] (defScope s_end_process) := ⟨rfl, rfl, rfl, by decide +kernel, rfl, by decide +kernel, by decide +kernel⟩
theorem sc_tell_linked : FnScope ["world", "p", "why", "ending", "q"] ["world", "p", "why"] (defScope s_tell_linked) := ⟨rfl, rfl, rfl, by decide +kernel, rfl, by decide +kernel, by decide +kernel⟩
theorem sc_tell_watchers : FnScope ["world", "p", "why", "number", "q"] ["world", "p", "why"] (defScope s_tell_watchers) := ⟨rfl, rfl, rfl, by decide +kernel, rfl, by decide +kernel, by decide +kernel⟩
theorem sc_tell_watched : FnScope ["world", "p", "number", "q"] ["world", "p"] (defScope s_tell_watched) := ⟨rfl, rfl, rfl, by decide +kernel, rfl, by decide +kernel, by decide +kernel⟩
theorem sc_Process_init : FnScope ["self"] ["self"] (defScope s_Process_init) := ⟨rfl, rfl, rfl, by decide +kernel, rfl, by decide +kernel, by decide +kernel⟩
theorem sc_Process_holds_link : FnScope ["self", "q"] ["self", "q"] (defScope s_Process_holds_link) := ⟨rfl, rfl, rfl, by decide +kernel, rfl, by decide +kernel, by decide +kernel⟩
theorem sc_World_init : FnScope ["self"] ["self"] (defScope s_World_init) := ⟨rfl, rfl, rfl, by decide +kernel, rfl, by decide +kernel, by decide +kernel⟩
theorem sc_World_add_process : FnScope ["self", "number"] ["self"] (defScope s_World_add_process) := ⟨rfl, rfl, rfl, by decide +kernel, rfl, by decide +kernel, by decide +kernel⟩
theorem sc_World_begin_number : FnScope ["self"] ["self"] (defScope s_World_begin_number) := ⟨rfl, rfl, rfl, by decide +kernel, rfl, by decide +kernel, by decide +kernel⟩
theorem sc_World_send : FnScope ["self", "p", "q", "signal"] ["self", "p", "q", "signal"] (defScope s_World_send) := ⟨rfl, rfl, rfl, by decide +kernel, rfl, by decide +kernel, by decide +kernel⟩
theorem sc_World_place_of_first : FnScope ["self", "p", "q", "place", "sent"] ["self", "p", "q"] (defScope s_World_place_of_first) := ⟨rfl, rfl, rfl, by decide +kernel, rfl, by decide +kernel, by decide +kernel⟩
theorem sc_arrive : FnScope ["world", "place", "sent", "signal"] ["world", "place"] (defScope s_arrive) := ⟨rfl, rfl, rfl, by decide +kernel, rfl, by decide +kernel, by decide +kernel⟩
theorem sc_arrive_at_living : FnScope ["world", "p", "q", "signal", "kind", "reached"] ["world", "p", "q", "signal"] (defScope s_arrive_at_living) := ⟨rfl, rfl, rfl, by decide +kernel, rfl, by decide +kernel, by decide +kernel⟩
theorem sc_arrive_at_ended : FnScope ["world", "p", "q", "signal", "kind"] ["world", "p", "q", "signal"] (defScope s_arrive_at_ended) := ⟨rfl, rfl, rfl, by decide +kernel, rfl, by decide +kernel, by decide +kernel⟩
theorem sc_take_cut : FnScope ["world", "p", "q", "number", "reached"] ["world", "p", "q", "number"] (defScope s_take_cut) := ⟨rfl, rfl, rfl, by decide +kernel, rfl, by decide +kernel, by decide +kernel⟩
theorem sc_take_heard : FnScope ["reached", "p", "number"] ["reached", "p", "number"] (defScope s_take_heard) := ⟨rfl, rfl, rfl, by decide +kernel, rfl, by decide +kernel, by decide +kernel⟩
theorem sc_take_ended : FnScope ["world", "p", "q", "why", "reached", "held"] ["world", "p", "q", "why"] (defScope s_take_ended) := ⟨rfl, rfl, rfl, by decide +kernel, rfl, by decide +kernel, by decide +kernel⟩
theorem sc_take_stop : FnScope ["world", "p", "q", "why"] ["world", "p", "q", "why"] (defScope s_take_stop) := ⟨rfl, rfl, rfl, by decide +kernel, rfl, by decide +kernel, by decide +kernel⟩
theorem sc_take_gone : FnScope ["reached", "number", "why"] ["reached", "number", "why"] (defScope s_take_gone) := ⟨rfl, rfl, rfl, by decide +kernel, rfl, by decide +kernel, by decide +kernel⟩
theorem sc_box : FnScope ["world", "p"] ["world", "p"] (defScope s_box) := ⟨rfl, rfl, rfl, by decide +kernel, rfl, by decide +kernel, by decide +kernel⟩
theorem sc_process : FnScope ["world", "p", "looked_at", "told"] ["world", "p"] (defScope s_process) := ⟨rfl, rfl, rfl, by decide +kernel, rfl, by decide +kernel, by decide +kernel⟩
theorem sc_air : FnScope ["world", "p", "q", "signal"] ["world"] (defScope s_air) := ⟨rfl, rfl, rfl, by decide +kernel, rfl, by decide +kernel, by decide +kernel⟩
theorem sc_counted : FnScope ["rows", "told", "row"] ["rows"] (defScope s_counted) := ⟨rfl, rfl, rfl, by decide +kernel, rfl, by decide +kernel, by decide +kernel⟩
theorem sc_carry_out : FnScope ["world", "call", "kind"] ["world", "call"] (defScope s_carry_out) := ⟨rfl, rfl, rfl, by decide +kernel, rfl, by decide +kernel, by decide +kernel⟩
theorem sc_start : FnScope ["world"] ["world"] (defScope s_start) := ⟨rfl, rfl, rfl, by decide +kernel, rfl, by decide +kernel, by decide +kernel⟩
theorem sc_child : FnScope ["world", "p", "how", "new", "parent", "born", "number"] ["world", "p", "how"] (defScope s_child) := ⟨rfl, rfl, rfl, by decide +kernel, rfl, by decide +kernel, by decide +kernel⟩
theorem sc_link : FnScope ["world", "p", "q", "linking"] ["world", "p", "q"] (defScope s_link) := ⟨rfl, rfl, rfl, by decide +kernel, rfl, by decide +kernel, by decide +kernel⟩
theorem sc_cut : FnScope ["world", "p", "q", "cutting", "number"] ["world", "p", "q"] (defScope s_cut) := ⟨rfl, rfl, rfl, by decide +kernel, rfl, by decide +kernel, by decide +kernel⟩
theorem sc_watch : FnScope ["world", "p", "q", "watching", "number"] ["world", "p", "q"] (defScope s_watch) := ⟨rfl, rfl, rfl, by decide +kernel, rfl, by decide +kernel, by decide +kernel⟩
theorem sc_unwatch : FnScope ["world", "p", "k", "watching", "q"] ["world", "p", "k"] (defScope s_unwatch) := ⟨rfl, rfl, rfl, by decide +kernel, rfl, by decide +kernel, by decide +kernel⟩
theorem sc_ends : FnScope ["world", "p", "why", "sent_before"] ["world", "p", "why"] (defScope s_ends) := ⟨rfl, rfl, rfl, by decide +kernel, rfl, by decide +kernel, by decide +kernel⟩
theorem sc_stop : FnScope ["world", "p", "q", "why"] ["world", "p", "q", "why"] (defScope s_stop) := ⟨rfl, rfl, rfl, by decide +kernel, rfl, by decide +kernel, by decide +kernel⟩
theorem sc_trap : FnScope ["world", "p", "yes", "trapping", "trapped"] ["world", "p", "yes"] (defScope s_trap) := ⟨rfl, rfl, rfl, by decide +kernel, rfl, by decide +kernel, by decide +kernel⟩
theorem sc_say : FnScope ["world", "p", "q", "n"] ["world", "p", "q", "n"] (defScope s_say) := ⟨rfl, rfl, rfl, by decide +kernel, rfl, by decide +kernel, by decide +kernel⟩
theorem sc_deliver : FnScope ["world", "p", "q"] ["world", "p", "q"] (defScope s_deliver) := ⟨rfl, rfl, rfl, by decide +kernel, rfl, by decide +kernel, by decide +kernel⟩
theorem sc_turns : FnScope ["world", "n", "arrived"] ["world", "n"] (defScope s_turns) := ⟨rfl, rfl, rfl, by decide +kernel, rfl, by decide +kernel, by decide +kernel⟩
theorem sc_refusal_of : FnScope ["world", "call"] ["world", "call"] (defScope s_refusal_of) := ⟨rfl, rfl, rfl, by decide +kernel, rfl, by decide +kernel, by decide +kernel⟩
theorem sc_lacks_process : FnScope ["world", "call", "kind"] ["world", "call"] (defScope s_lacks_process) := ⟨rfl, rfl, rfl, by decide +kernel, rfl, by decide +kernel, by decide +kernel⟩
theorem sc_is_misfit : FnScope ["call", "kind"] ["call"] (defScope s_is_misfit) := ⟨rfl, rfl, rfl, by decide +kernel, rfl, by decide +kernel, by decide +kernel⟩
theorem sc_is_by_ended : FnScope ["world", "call", "kind"] ["world", "call"] (defScope s_is_by_ended) := ⟨rfl, rfl, rfl, by decide +kernel, rfl, by decide +kernel, by decide +kernel⟩
theorem sc_lacks_room : FnScope ["world", "call", "kind"] ["world", "call"] (defScope s_lacks_room) := ⟨rfl, rfl, rfl, by decide +kernel, rfl, by decide +kernel, by decide +kernel⟩
theorem sc_lacks_signal : FnScope ["world", "call"] ["world", "call"] (defScope s_lacks_signal) := ⟨rfl, rfl, rfl, by decide +kernel, rfl, by decide +kernel, by decide +kernel⟩
theorem sc_answers : FnScope ["calls", "world", "told", "at", "behind", "answer"] ["calls"] (defScope s_answers) := ⟨rfl, rfl, rfl, by decide +kernel, rfl, by decide +kernel, by decide +kernel⟩
theorem sc_answer_of : FnScope ["world", "call", "refusal"] ["world", "call"] (defScope s_answer_of) := ⟨rfl, rfl, rfl, by decide +kernel, rfl, by decide +kernel, by decide +kernel⟩
structure Adr where
  C_Process : Addr
  C_World : Addr
  f_let_end_come : Addr
  d_let_end_come : FuncData
  f_end_process : Addr
  d_end_process : FuncData
  f_tell_linked : Addr
  d_tell_linked : FuncData
  f_tell_watchers : Addr
  d_tell_watchers : FuncData
  f_tell_watched : Addr
  d_tell_watched : FuncData
  f_Process_init : Addr
  d_Process_init : FuncData
  f_Process_holds_link : Addr
  d_Process_holds_link : FuncData
  f_World_init : Addr
  d_World_init : FuncData
  f_World_add_process : Addr
  d_World_add_process : FuncData
  f_World_begin_number : Addr
  d_World_begin_number : FuncData
  f_World_send : Addr
  d_World_send : FuncData
  f_World_place_of_first : Addr
  d_World_place_of_first : FuncData
  f_arrive : Addr
  d_arrive : FuncData
  f_arrive_at_living : Addr
  d_arrive_at_living : FuncData
  f_arrive_at_ended : Addr
  d_arrive_at_ended : FuncData
  f_take_cut : Addr
  d_take_cut : FuncData
  f_take_heard : Addr
  d_take_heard : FuncData
  f_take_ended : Addr
  d_take_ended : FuncData
  f_take_stop : Addr
  d_take_stop : FuncData
  f_take_gone : Addr
  d_take_gone : FuncData
  f_box : Addr
  d_box : FuncData
  f_process : Addr
  d_process : FuncData
  f_air : Addr
  d_air : FuncData
  f_counted : Addr
  d_counted : FuncData
  f_carry_out : Addr
  d_carry_out : FuncData
  f_start : Addr
  d_start : FuncData
  f_child : Addr
  d_child : FuncData
  f_link : Addr
  d_link : FuncData
  f_cut : Addr
  d_cut : FuncData
  f_watch : Addr
  d_watch : FuncData
  f_unwatch : Addr
  d_unwatch : FuncData
  f_ends : Addr
  d_ends : FuncData
  f_stop : Addr
  d_stop : FuncData
  f_trap : Addr
  d_trap : FuncData
  f_say : Addr
  d_say : FuncData
  f_deliver : Addr
  d_deliver : FuncData
  f_turns : Addr
  d_turns : FuncData
  f_refusal_of : Addr
  d_refusal_of : FuncData
  f_lacks_process : Addr
  d_lacks_process : FuncData
  f_is_misfit : Addr
  d_is_misfit : FuncData
  f_is_by_ended : Addr
  d_is_by_ended : FuncData
  f_lacks_room : Addr
  d_lacks_room : FuncData
  f_lacks_signal : Addr
  d_lacks_signal : FuncData
  f_answers : Addr
  d_answers : FuncData
  f_answer_of : Addr
  d_answer_of : FuncData
  a_NUMBERS_BEHIND : Addr
structure Txt (K : PySem.W.Frag) (mg : Str → Option Value) (A : Adr) : Prop where
  cl_Process : Cls K A.C_Process
  m_Process : mg "Process" = some (.ref A.C_Process)
  mk_Process : Mk K A.C_Process A.f_Process_init
  n_Process_links : NoAttr K A.C_Process "links"
  n_Process_living : NoAttr K A.C_Process "living"
  n_Process_notes : NoAttr K A.C_Process "notes"
  n_Process_traps : NoAttr K A.C_Process "traps"
  n_Process_watchers : NoAttr K A.C_Process "watchers"
  n_Process_watches : NoAttr K A.C_Process "watches"
  n_Process_why : NoAttr K A.C_Process "why"
  cl_World : Cls K A.C_World
  m_World : mg "World" = some (.ref A.C_World)
  mk_World : Mk K A.C_World A.f_World_init
  n_World_last_begun : NoAttr K A.C_World "last_begun"
  n_World_processes : NoAttr K A.C_World "processes"
  n_World_signals : NoAttr K A.C_World "signals"
  F_let_end_come : Fun K "let_end_come" "let_end_come" s_let_end_come A.f_let_end_come A.d_let_end_come
  b_let_end_come : Binds K A.d_let_end_come ["world", "q", "why", "note"] []
  m_let_end_come : mg "let_end_come" = some (.ref A.f_let_end_come)
  F_end_process : Fun K "end_process" "end_process" s_end_process A.f_end_process A.d_end_process
  b_end_process : Binds K A.d_end_process ["world", "p", "why"] []
  m_end_process : mg "end_process" = some (.ref A.f_end_process)
  F_tell_linked : Fun K "tell_linked" "tell_linked" s_tell_linked A.f_tell_linked A.d_tell_linked
  b_tell_linked : Binds K A.d_tell_linked ["world", "p", "why"] []
  m_tell_linked : mg "tell_linked" = some (.ref A.f_tell_linked)
  F_tell_watchers : Fun K "tell_watchers" "tell_watchers" s_tell_watchers A.f_tell_watchers A.d_tell_watchers
  b_tell_watchers : Binds K A.d_tell_watchers ["world", "p", "why"] []
  m_tell_watchers : mg "tell_watchers" = some (.ref A.f_tell_watchers)
  F_tell_watched : Fun K "tell_watched" "tell_watched" s_tell_watched A.f_tell_watched A.d_tell_watched
  b_tell_watched : Binds K A.d_tell_watched ["world", "p"] []
  m_tell_watched : mg "tell_watched" = some (.ref A.f_tell_watched)
  F_Process_init : Fun K "__init__" "Process.__init__" s_Process_init A.f_Process_init A.d_Process_init
  b_Process_init : Binds K A.d_Process_init ["self"] []
  F_Process_holds_link : Fun K "holds_link" "Process.holds_link" s_Process_holds_link A.f_Process_holds_link A.d_Process_holds_link
  b_Process_holds_link : Binds K A.d_Process_holds_link ["self", "q"] []
  me_Process_holds_link : Meth K A.C_Process "holds_link" A.f_Process_holds_link
  F_World_init : Fun K "__init__" "World.__init__" s_World_init A.f_World_init A.d_World_init
  b_World_init : Binds K A.d_World_init ["self"] []
  F_World_add_process : Fun K "add_process" "World.add_process" s_World_add_process A.f_World_add_process A.d_World_add_process
  b_World_add_process : Binds K A.d_World_add_process ["self"] []
  me_World_add_process : Meth K A.C_World "add_process" A.f_World_add_process
  F_World_begin_number : Fun K "begin_number" "World.begin_number" s_World_begin_number A.f_World_begin_number A.d_World_begin_number
  b_World_begin_number : Binds K A.d_World_begin_number ["self"] []
  me_World_begin_number : Meth K A.C_World "begin_number" A.f_World_begin_number
  F_World_send : Fun K "send" "World.send" s_World_send A.f_World_send A.d_World_send
  b_World_send : Binds K A.d_World_send ["self", "p", "q", "signal"] []
  me_World_send : Meth K A.C_World "send" A.f_World_send
  F_World_place_of_first : Fun K "place_of_first" "World.place_of_first" s_World_place_of_first A.f_World_place_of_first A.d_World_place_of_first
  b_World_place_of_first : Binds K A.d_World_place_of_first ["self", "p", "q"] []
  me_World_place_of_first : Meth K A.C_World "place_of_first" A.f_World_place_of_first
  F_arrive : Fun K "arrive" "arrive" s_arrive A.f_arrive A.d_arrive
  b_arrive : Binds K A.d_arrive ["world", "place"] []
  m_arrive : mg "arrive" = some (.ref A.f_arrive)
  F_arrive_at_living : Fun K "arrive_at_living" "arrive_at_living" s_arrive_at_living A.f_arrive_at_living A.d_arrive_at_living
  b_arrive_at_living : Binds K A.d_arrive_at_living ["world", "p", "q", "signal"] []
  m_arrive_at_living : mg "arrive_at_living" = some (.ref A.f_arrive_at_living)
  F_arrive_at_ended : Fun K "arrive_at_ended" "arrive_at_ended" s_arrive_at_ended A.f_arrive_at_ended A.d_arrive_at_ended
  b_arrive_at_ended : Binds K A.d_arrive_at_ended ["world", "p", "q", "signal"] []
  m_arrive_at_ended : mg "arrive_at_ended" = some (.ref A.f_arrive_at_ended)
  F_take_cut : Fun K "take_cut" "take_cut" s_take_cut A.f_take_cut A.d_take_cut
  b_take_cut : Binds K A.d_take_cut ["world", "p", "q", "number"] []
  m_take_cut : mg "take_cut" = some (.ref A.f_take_cut)
  F_take_heard : Fun K "take_heard" "take_heard" s_take_heard A.f_take_heard A.d_take_heard
  b_take_heard : Binds K A.d_take_heard ["reached", "p", "number"] []
  m_take_heard : mg "take_heard" = some (.ref A.f_take_heard)
  F_take_ended : Fun K "take_ended" "take_ended" s_take_ended A.f_take_ended A.d_take_ended
  b_take_ended : Binds K A.d_take_ended ["world", "p", "q", "why"] []
  m_take_ended : mg "take_ended" = some (.ref A.f_take_ended)
  F_take_stop : Fun K "take_stop" "take_stop" s_take_stop A.f_take_stop A.d_take_stop
  b_take_stop : Binds K A.d_take_stop ["world", "p", "q", "why"] []
  m_take_stop : mg "take_stop" = some (.ref A.f_take_stop)
  F_take_gone : Fun K "take_gone" "take_gone" s_take_gone A.f_take_gone A.d_take_gone
  b_take_gone : Binds K A.d_take_gone ["reached", "number", "why"] []
  m_take_gone : mg "take_gone" = some (.ref A.f_take_gone)
  F_box : Fun K "box" "box" s_box A.f_box A.d_box
  b_box : Binds K A.d_box ["world", "p"] []
  m_box : mg "box" = some (.ref A.f_box)
  F_process : Fun K "process" "process" s_process A.f_process A.d_process
  b_process : Binds K A.d_process ["world", "p"] []
  m_process : mg "process" = some (.ref A.f_process)
  F_air : Fun K "air" "air" s_air A.f_air A.d_air
  b_air : Binds K A.d_air ["world"] []
  m_air : mg "air" = some (.ref A.f_air)
  F_counted : Fun K "counted" "counted" s_counted A.f_counted A.d_counted
  b_counted : Binds K A.d_counted ["rows"] []
  m_counted : mg "counted" = some (.ref A.f_counted)
  F_carry_out : Fun K "carry_out" "carry_out" s_carry_out A.f_carry_out A.d_carry_out
  b_carry_out : Binds K A.d_carry_out ["world", "call"] []
  m_carry_out : mg "carry_out" = some (.ref A.f_carry_out)
  F_start : Fun K "start" "start" s_start A.f_start A.d_start
  b_start : Binds K A.d_start ["world"] []
  m_start : mg "start" = some (.ref A.f_start)
  F_child : Fun K "child" "child" s_child A.f_child A.d_child
  b_child : Binds K A.d_child ["world", "p", "how"] []
  m_child : mg "child" = some (.ref A.f_child)
  F_link : Fun K "link" "link" s_link A.f_link A.d_link
  b_link : Binds K A.d_link ["world", "p", "q"] []
  m_link : mg "link" = some (.ref A.f_link)
  F_cut : Fun K "cut" "cut" s_cut A.f_cut A.d_cut
  b_cut : Binds K A.d_cut ["world", "p", "q"] []
  m_cut : mg "cut" = some (.ref A.f_cut)
  F_watch : Fun K "watch" "watch" s_watch A.f_watch A.d_watch
  b_watch : Binds K A.d_watch ["world", "p", "q"] []
  m_watch : mg "watch" = some (.ref A.f_watch)
  F_unwatch : Fun K "unwatch" "unwatch" s_unwatch A.f_unwatch A.d_unwatch
  b_unwatch : Binds K A.d_unwatch ["world", "p", "k"] []
  m_unwatch : mg "unwatch" = some (.ref A.f_unwatch)
  F_ends : Fun K "ends" "ends" s_ends A.f_ends A.d_ends
  b_ends : Binds K A.d_ends ["world", "p", "why"] []
  m_ends : mg "ends" = some (.ref A.f_ends)
  F_stop : Fun K "stop" "stop" s_stop A.f_stop A.d_stop
  b_stop : Binds K A.d_stop ["world", "p", "q", "why"] []
  m_stop : mg "stop" = some (.ref A.f_stop)
  F_trap : Fun K "trap" "trap" s_trap A.f_trap A.d_trap
  b_trap : Binds K A.d_trap ["world", "p", "yes"] []
  m_trap : mg "trap" = some (.ref A.f_trap)
  F_say : Fun K "say" "say" s_say A.f_say A.d_say
  b_say : Binds K A.d_say ["world", "p", "q", "n"] []
  m_say : mg "say" = some (.ref A.f_say)
  F_deliver : Fun K "deliver" "deliver" s_deliver A.f_deliver A.d_deliver
  b_deliver : Binds K A.d_deliver ["world", "p", "q"] []
  m_deliver : mg "deliver" = some (.ref A.f_deliver)
  F_turns : Fun K "turns" "turns" s_turns A.f_turns A.d_turns
  b_turns : Binds K A.d_turns ["world", "n"] []
  m_turns : mg "turns" = some (.ref A.f_turns)
  F_refusal_of : Fun K "refusal_of" "refusal_of" s_refusal_of A.f_refusal_of A.d_refusal_of
  b_refusal_of : Binds K A.d_refusal_of ["world", "call"] []
  m_refusal_of : mg "refusal_of" = some (.ref A.f_refusal_of)
  F_lacks_process : Fun K "lacks_process" "lacks_process" s_lacks_process A.f_lacks_process A.d_lacks_process
  b_lacks_process : Binds K A.d_lacks_process ["world", "call"] []
  m_lacks_process : mg "lacks_process" = some (.ref A.f_lacks_process)
  F_is_misfit : Fun K "is_misfit" "is_misfit" s_is_misfit A.f_is_misfit A.d_is_misfit
  b_is_misfit : Binds K A.d_is_misfit ["call"] []
  m_is_misfit : mg "is_misfit" = some (.ref A.f_is_misfit)
  F_is_by_ended : Fun K "is_by_ended" "is_by_ended" s_is_by_ended A.f_is_by_ended A.d_is_by_ended
  b_is_by_ended : Binds K A.d_is_by_ended ["world", "call"] []
  m_is_by_ended : mg "is_by_ended" = some (.ref A.f_is_by_ended)
  F_lacks_room : Fun K "lacks_room" "lacks_room" s_lacks_room A.f_lacks_room A.d_lacks_room
  b_lacks_room : Binds K A.d_lacks_room ["world", "call"] []
  m_lacks_room : mg "lacks_room" = some (.ref A.f_lacks_room)
  F_lacks_signal : Fun K "lacks_signal" "lacks_signal" s_lacks_signal A.f_lacks_signal A.d_lacks_signal
  b_lacks_signal : Binds K A.d_lacks_signal ["world", "call"] []
  m_lacks_signal : mg "lacks_signal" = some (.ref A.f_lacks_signal)
  F_answers : Fun K "answers" "answers" s_answers A.f_answers A.d_answers
  b_answers : Binds K A.d_answers ["calls"] []
  m_answers : mg "answers" = some (.ref A.f_answers)
  F_answer_of : Fun K "answer_of" "answer_of" s_answer_of A.f_answer_of A.d_answer_of
  b_answer_of : Binds K A.d_answer_of ["world", "call"] []
  m_answer_of : mg "answer_of" = some (.ref A.f_answer_of)
  c_CALL_START : ∃ t, mg "CALL_START" = some (.int (0) t)
  c_CALL_CHILD : ∃ t, mg "CALL_CHILD" = some (.int (1) t)
  c_CALL_LINK : ∃ t, mg "CALL_LINK" = some (.int (2) t)
  c_CALL_CUT : ∃ t, mg "CALL_CUT" = some (.int (3) t)
  c_CALL_WATCH : ∃ t, mg "CALL_WATCH" = some (.int (4) t)
  c_CALL_UNWATCH : ∃ t, mg "CALL_UNWATCH" = some (.int (5) t)
  c_CALL_ENDS : ∃ t, mg "CALL_ENDS" = some (.int (6) t)
  c_CALL_STOP : ∃ t, mg "CALL_STOP" = some (.int (7) t)
  c_CALL_TRAP : ∃ t, mg "CALL_TRAP" = some (.int (8) t)
  c_CALL_SAY : ∃ t, mg "CALL_SAY" = some (.int (9) t)
  c_CALL_DELIVER : ∃ t, mg "CALL_DELIVER" = some (.int (10) t)
  c_CALL_TURNS : ∃ t, mg "CALL_TURNS" = some (.int (11) t)
  c_CALL_BOX : ∃ t, mg "CALL_BOX" = some (.int (12) t)
  c_CALL_PROCESS : ∃ t, mg "CALL_PROCESS" = some (.int (13) t)
  c_CALL_AIR : ∃ t, mg "CALL_AIR" = some (.int (14) t)
  c_NUMBERS_BEHIND : mg "NUMBERS_BEHIND" = some (.ref A.a_NUMBERS_BEHIND)
  t_NUMBERS_BEHIND : ∀ H, SqT K H A.a_NUMBERS_BEHIND ([V.int (0), V.int (2), V.int (2), V.int (2), V.int (2), V.int (2), V.int (2), V.int (3), V.int (2), V.int (3), V.int (2), V.int (1), V.int (1), V.int (1), V.int (0)])
  c_SIGNAL_WORD : ∃ t, mg "SIGNAL_WORD" = some (.int (0) t)
  c_SIGNAL_LINK : ∃ t, mg "SIGNAL_LINK" = some (.int (1) t)
  c_SIGNAL_CUT : ∃ t, mg "SIGNAL_CUT" = some (.int (2) t)
  c_SIGNAL_HEARD : ∃ t, mg "SIGNAL_HEARD" = some (.int (3) t)
  c_SIGNAL_ENDED : ∃ t, mg "SIGNAL_ENDED" = some (.int (4) t)
  c_SIGNAL_STOP : ∃ t, mg "SIGNAL_STOP" = some (.int (5) t)
  c_SIGNAL_WATCH : ∃ t, mg "SIGNAL_WATCH" = some (.int (6) t)
  c_SIGNAL_UNWATCH : ∃ t, mg "SIGNAL_UNWATCH" = some (.int (7) t)
  c_SIGNAL_GONE : ∃ t, mg "SIGNAL_GONE" = some (.int (8) t)
  c_NOTE_WORD : ∃ t, mg "NOTE_WORD" = some (.int (0) t)
  c_NOTE_ENDED : ∃ t, mg "NOTE_ENDED" = some (.int (1) t)
  c_NOTE_GONE : ∃ t, mg "NOTE_GONE" = some (.int (2) t)
  c_NOTE_STOP : ∃ t, mg "NOTE_STOP" = some (.int (3) t)
  c_WHY_AS_IT_SHOULD : ∃ t, mg "WHY_AS_IT_SHOULD" = some (.int (0) t)
  c_WHY_TO_BE_KILLED : ∃ t, mg "WHY_TO_BE_KILLED" = some (.int (1) t)
  c_WHY_KILLED : ∃ t, mg "WHY_KILLED" = some (.int (2) t)
  c_WHY_NOBODY : ∃ t, mg "WHY_NOBODY" = some (.int (3) t)
  c_NOT_REFUSED : ∃ t, mg "NOT_REFUSED" = some (.int (0) t)
  c_REFUSED_MISFIT : ∃ t, mg "REFUSED_MISFIT" = some (.int (-1) t)
  c_REFUSED_NONE : ∃ t, mg "REFUSED_NONE" = some (.int (-5) t)
  c_REFUSED_FULL : ∃ t, mg "REFUSED_FULL" = some (.int (-6) t)
  c_REFUSED_ENDED : ∃ t, mg "REFUSED_ENDED" = some (.int (-8) t)
  c_HOLDS : ∃ t, mg "HOLDS" = some (.int (0) t)
  c_HOW_LINKED : ∃ t, mg "HOW_LINKED" = some (.int (1) t)
  c_HOW_WATCHED : ∃ t, mg "HOW_WATCHED" = some (.int (2) t)
  c_MOST_PROCESSES : ∃ t, mg "MOST_PROCESSES" = some (.int (12) t)
  c_ENOUGH_SIGNALS : ∃ t, mg "ENOUGH_SIGNALS" = some (.int (200) t)
  c_MOST_HOW : ∃ t, mg "MOST_HOW" = some (.int (2) t)
  c_MOST_WHY : ∃ t, mg "MOST_WHY" = some (.int (99) t)
  c_MOST_YES : ∃ t, mg "MOST_YES" = some (.int (1) t)
  c_MOST_TURNS : ∃ t, mg "MOST_TURNS" = some (.int (1000) t)
  len : mg "len" = none
  sorted : mg "sorted" = none
  enumerate : mg "enumerate" = none
  list : mg "list" = none
  «int» : mg "int" = none
theorem fn_top {K : PySem.W.Frag} {h : Heap} {mg : Str → Option Value} {x : Str} {st : Stmt} {f : Addr} {oc : Value} {od an : Option Addr} {osl : Array (Option Value)} {kV doc pm cdv ct : Value} (X : K.In h) (G : h.Ns mainGlobals mg)
    (a : PySem.W.nsIn K mainGlobals x = some (some (.ref f))) (l : K.lookup f = some ⟨oc, od, .func (PySem.W.fnOf x x (defArgs st) (defBody st) (defScope st) .none kV doc pm an cdv ct), osl⟩) (c : PySem.W.codeIn K cdv x = true) (k : PySem.W.keepIn K (.ref f) = true) :
    ∃ f fd, Fun K x x st f fd ∧ mg x = some (.ref f) := ⟨f, _, fun_mk l c k, PySem.W.mg_of X G a⟩
theorem fn_meth {K : PySem.W.Frag} {x q : Str} {st : Stmt} {C f : Addr} {oc : Value} {od an : Option Addr} {osl : Array (Option Value)} {kV doc pm cdv ct : Value}
    (a : PySem.W.findIn K (.ref C) x = some (some (.ref f))) (i : PySem.W.isFn K (.ref f) = true) (l : K.lookup f = some ⟨oc, od, .func (PySem.W.fnOf x q (defArgs st) (defBody st) (defScope st) .none kV doc pm an cdv ct), osl⟩) (c : PySem.W.codeIn K cdv q = true) (k : PySem.W.keepIn K (.ref f) = true) :
    ∃ f fd, Fun K x q st f fd ∧ Meth K C x f := ⟨f, _, fun_mk l c k, a, i, k⟩
theorem len1 {us : List Value} (h : us.length = 1) : ∃ a, us = [a] := by
  match us, h with
  | [a], _ => exact ⟨a, rfl⟩
theorem len2 {us : List Value} (h : us.length = 2) : ∃ a b, us = [a, b] := by
  match us, h with
  | [a, b], _ => exact ⟨a, b, rfl⟩
theorem len3 {us : List Value} (h : us.length = 3) : ∃ a b c, us = [a, b, c] := by
  match us, h with
  | [a, b, c], _ => exact ⟨a, b, c, rfl⟩
theorem len4 {us : List Value} (h : us.length = 4) : ∃ a b c d, us = [a, b, c, d] := by
  match us, h with
  | [a, b, c, d], _ => exact ⟨a, b, c, d, rfl⟩
theorem cls_mk {K : PySem.W.Frag} {C : Addr} (pg : PySem.W.plainGet K C Str.empty = true) (hd : PySem.W.hasDictIn K C = true) (po : PySem.W.plainOver K C = true) (sa : PySem.W.findIn K (.ref C) "__setattr__" = some (some (.builtin "object.__setattr__"))) : Cls K C := ⟨pg, hd, po, sa⟩
theorem int_mk {K : PySem.W.Frag} {h : Heap} {mg : Str → Option Value} {x : Str} {n : Int} {t : Tok} (X : K.In h) (G : h.Ns mainGlobals mg) (a : PySem.W.nsIn K mainGlobals x = some (some (.int n t))) : ∃ t, mg x = some (.int n t) := ⟨t, PySem.W.mg_of X G a⟩
section
variable {X : Cx}
theorem pe_gint {x : Str} {n : Int} {pos : Pos} (hg : Gl X x) (h : ∃ t, X.mg x = some (.int n t)) (hd : (x == ("__debug__" : Str)) = false := by decide) : PE X (.Name x pos) (tC (.int n)) := by
  obtain ⟨t, h⟩ := h
  exact pe_glob hg h ⟨t, rfl⟩ hd
theorem pe_gref {x : Str} {a : Addr} {pos : Pos} (hg : Gl X x) (h : X.mg x = some (.ref a)) (hd : (x == ("__debug__" : Str)) = false := by decide) : PE X (.Name x pos) (tC (.ref a)) := pe_glob hg h rfl hd
end
theorem bn_let_end_come {K : PySem.W.Frag} {f : Addr} {fd : FuncData} (F : Fun K "let_end_come" "let_end_come" s_let_end_come f fd) : Binds K fd ["world", "q", "why", "note"] [] := F.binds fun _ _ _ _ _ _ us hl => by obtain ⟨a0, a1, a2, a3, rfl⟩ := len4 hl; rfl
theorem bn_end_process {K : PySem.W.Frag} {f : Addr} {fd : FuncData} (F : Fun K "end_process" "end_process" s_end_process f fd) : Binds K fd ["world", "p", "why"] [] := F.binds fun _ _ _ _ _ _ us hl => by obtain ⟨a0, a1, a2, rfl⟩ := len3 hl; rfl
theorem bn_tell_linked {K : PySem.W.Frag} {f : Addr} {fd : FuncData} (F : Fun K "tell_linked" "tell_linked" s_tell_linked f fd) : Binds K fd ["world", "p", "why"] [] := F.binds fun _ _ _ _ _ _ us hl => by obtain ⟨a0, a1, a2, rfl⟩ := len3 hl; rfl
theorem bn_tell_watchers {K : PySem.W.Frag} {f : Addr} {fd : FuncData} (F : Fun K "tell_watchers" "tell_watchers" s_tell_watchers f fd) : Binds K fd ["world", "p", "why"] [] := F.binds fun _ _ _ _ _ _ us hl => by obtain ⟨a0, a1, a2, rfl⟩ := len3 hl; rfl
theorem bn_tell_watched {K : PySem.W.Frag} {f : Addr} {fd : FuncData} (F : Fun K "tell_watched" "tell_watched" s_tell_watched f fd) : Binds K fd ["world", "p"] [] := F.binds fun _ _ _ _ _ _ us hl => by obtain ⟨a0, a1, rfl⟩ := len2 hl; rfl
theorem bn_Process_init {K : PySem.W.Frag} {f : Addr} {fd : FuncData} (F : Fun K "__init__" "Process.__init__" s_Process_init f fd) : Binds K fd ["self"] [] := F.binds fun _ _ _ _ _ _ us hl => by obtain ⟨a0, rfl⟩ := len1 hl; rfl
theorem bn_Process_holds_link {K : PySem.W.Frag} {f : Addr} {fd : FuncData} (F : Fun K "holds_link" "Process.holds_link" s_Process_holds_link f fd) : Binds K fd ["self", "q"] [] := F.binds fun _ _ _ _ _ _ us hl => by obtain ⟨a0, a1, rfl⟩ := len2 hl; rfl
theorem bn_World_init {K : PySem.W.Frag} {f : Addr} {fd : FuncData} (F : Fun K "__init__" "World.__init__" s_World_init f fd) : Binds K fd ["self"] [] := F.binds fun _ _ _ _ _ _ us hl => by obtain ⟨a0, rfl⟩ := len1 hl; rfl
theorem bn_World_add_process {K : PySem.W.Frag} {f : Addr} {fd : FuncData} (F : Fun K "add_process" "World.add_process" s_World_add_process f fd) : Binds K fd ["self"] [] := F.binds fun _ _ _ _ _ _ us hl => by obtain ⟨a0, rfl⟩ := len1 hl; rfl
theorem bn_World_begin_number {K : PySem.W.Frag} {f : Addr} {fd : FuncData} (F : Fun K "begin_number" "World.begin_number" s_World_begin_number f fd) : Binds K fd ["self"] [] := F.binds fun _ _ _ _ _ _ us hl => by obtain ⟨a0, rfl⟩ := len1 hl; rfl
theorem bn_World_send {K : PySem.W.Frag} {f : Addr} {fd : FuncData} (F : Fun K "send" "World.send" s_World_send f fd) : Binds K fd ["self", "p", "q", "signal"] [] := F.binds fun _ _ _ _ _ _ us hl => by obtain ⟨a0, a1, a2, a3, rfl⟩ := len4 hl; rfl
theorem bn_World_place_of_first {K : PySem.W.Frag} {f : Addr} {fd : FuncData} (F : Fun K "place_of_first" "World.place_of_first" s_World_place_of_first f fd) : Binds K fd ["self", "p", "q"] [] := F.binds fun _ _ _ _ _ _ us hl => by obtain ⟨a0, a1, a2, rfl⟩ := len3 hl; rfl
theorem bn_arrive {K : PySem.W.Frag} {f : Addr} {fd : FuncData} (F : Fun K "arrive" "arrive" s_arrive f fd) : Binds K fd ["world", "place"] [] := F.binds fun _ _ _ _ _ _ us hl => by obtain ⟨a0, a1, rfl⟩ := len2 hl; rfl
theorem bn_arrive_at_living {K : PySem.W.Frag} {f : Addr} {fd : FuncData} (F : Fun K "arrive_at_living" "arrive_at_living" s_arrive_at_living f fd) : Binds K fd ["world", "p", "q", "signal"] [] := F.binds fun _ _ _ _ _ _ us hl => by obtain ⟨a0, a1, a2, a3, rfl⟩ := len4 hl; rfl
theorem bn_arrive_at_ended {K : PySem.W.Frag} {f : Addr} {fd : FuncData} (F : Fun K "arrive_at_ended" "arrive_at_ended" s_arrive_at_ended f fd) : Binds K fd ["world", "p", "q", "signal"] [] := F.binds fun _ _ _ _ _ _ us hl => by obtain ⟨a0, a1, a2, a3, rfl⟩ := len4 hl; rfl
theorem bn_take_cut {K : PySem.W.Frag} {f : Addr} {fd : FuncData} (F : Fun K "take_cut" "take_cut" s_take_cut f fd) : Binds K fd ["world", "p", "q", "number"] [] := F.binds fun _ _ _ _ _ _ us hl => by obtain ⟨a0, a1, a2, a3, rfl⟩ := len4 hl; rfl
theorem bn_take_heard {K : PySem.W.Frag} {f : Addr} {fd : FuncData} (F : Fun K "take_heard" "take_heard" s_take_heard f fd) : Binds K fd ["reached", "p", "number"] [] := F.binds fun _ _ _ _ _ _ us hl => by obtain ⟨a0, a1, a2, rfl⟩ := len3 hl; rfl
theorem bn_take_ended {K : PySem.W.Frag} {f : Addr} {fd : FuncData} (F : Fun K "take_ended" "take_ended" s_take_ended f fd) : Binds K fd ["world", "p", "q", "why"] [] := F.binds fun _ _ _ _ _ _ us hl => by obtain ⟨a0, a1, a2, a3, rfl⟩ := len4 hl; rfl
theorem bn_take_stop {K : PySem.W.Frag} {f : Addr} {fd : FuncData} (F : Fun K "take_stop" "take_stop" s_take_stop f fd) : Binds K fd ["world", "p", "q", "why"] [] := F.binds fun _ _ _ _ _ _ us hl => by obtain ⟨a0, a1, a2, a3, rfl⟩ := len4 hl; rfl
theorem bn_take_gone {K : PySem.W.Frag} {f : Addr} {fd : FuncData} (F : Fun K "take_gone" "take_gone" s_take_gone f fd) : Binds K fd ["reached", "number", "why"] [] := F.binds fun _ _ _ _ _ _ us hl => by obtain ⟨a0, a1, a2, rfl⟩ := len3 hl; rfl
theorem bn_box {K : PySem.W.Frag} {f : Addr} {fd : FuncData} (F : Fun K "box" "box" s_box f fd) : Binds K fd ["world", "p"] [] := F.binds fun _ _ _ _ _ _ us hl => by obtain ⟨a0, a1, rfl⟩ := len2 hl; rfl
theorem bn_process {K : PySem.W.Frag} {f : Addr} {fd : FuncData} (F : Fun K "process" "process" s_process f fd) : Binds K fd ["world", "p"] [] := F.binds fun _ _ _ _ _ _ us hl => by obtain ⟨a0, a1, rfl⟩ := len2 hl; rfl
theorem bn_air {K : PySem.W.Frag} {f : Addr} {fd : FuncData} (F : Fun K "air" "air" s_air f fd) : Binds K fd ["world"] [] := F.binds fun _ _ _ _ _ _ us hl => by obtain ⟨a0, rfl⟩ := len1 hl; rfl
theorem bn_counted {K : PySem.W.Frag} {f : Addr} {fd : FuncData} (F : Fun K "counted" "counted" s_counted f fd) : Binds K fd ["rows"] [] := F.binds fun _ _ _ _ _ _ us hl => by obtain ⟨a0, rfl⟩ := len1 hl; rfl
theorem bn_carry_out {K : PySem.W.Frag} {f : Addr} {fd : FuncData} (F : Fun K "carry_out" "carry_out" s_carry_out f fd) : Binds K fd ["world", "call"] [] := F.binds fun _ _ _ _ _ _ us hl => by obtain ⟨a0, a1, rfl⟩ := len2 hl; rfl
theorem bn_start {K : PySem.W.Frag} {f : Addr} {fd : FuncData} (F : Fun K "start" "start" s_start f fd) : Binds K fd ["world"] [] := F.binds fun _ _ _ _ _ _ us hl => by obtain ⟨a0, rfl⟩ := len1 hl; rfl
theorem bn_child {K : PySem.W.Frag} {f : Addr} {fd : FuncData} (F : Fun K "child" "child" s_child f fd) : Binds K fd ["world", "p", "how"] [] := F.binds fun _ _ _ _ _ _ us hl => by obtain ⟨a0, a1, a2, rfl⟩ := len3 hl; rfl
theorem bn_link {K : PySem.W.Frag} {f : Addr} {fd : FuncData} (F : Fun K "link" "link" s_link f fd) : Binds K fd ["world", "p", "q"] [] := F.binds fun _ _ _ _ _ _ us hl => by obtain ⟨a0, a1, a2, rfl⟩ := len3 hl; rfl
theorem bn_cut {K : PySem.W.Frag} {f : Addr} {fd : FuncData} (F : Fun K "cut" "cut" s_cut f fd) : Binds K fd ["world", "p", "q"] [] := F.binds fun _ _ _ _ _ _ us hl => by obtain ⟨a0, a1, a2, rfl⟩ := len3 hl; rfl
theorem bn_watch {K : PySem.W.Frag} {f : Addr} {fd : FuncData} (F : Fun K "watch" "watch" s_watch f fd) : Binds K fd ["world", "p", "q"] [] := F.binds fun _ _ _ _ _ _ us hl => by obtain ⟨a0, a1, a2, rfl⟩ := len3 hl; rfl
theorem bn_unwatch {K : PySem.W.Frag} {f : Addr} {fd : FuncData} (F : Fun K "unwatch" "unwatch" s_unwatch f fd) : Binds K fd ["world", "p", "k"] [] := F.binds fun _ _ _ _ _ _ us hl => by obtain ⟨a0, a1, a2, rfl⟩ := len3 hl; rfl
theorem bn_ends {K : PySem.W.Frag} {f : Addr} {fd : FuncData} (F : Fun K "ends" "ends" s_ends f fd) : Binds K fd ["world", "p", "why"] [] := F.binds fun _ _ _ _ _ _ us hl => by obtain ⟨a0, a1, a2, rfl⟩ := len3 hl; rfl
theorem bn_stop {K : PySem.W.Frag} {f : Addr} {fd : FuncData} (F : Fun K "stop" "stop" s_stop f fd) : Binds K fd ["world", "p", "q", "why"] [] := F.binds fun _ _ _ _ _ _ us hl => by obtain ⟨a0, a1, a2, a3, rfl⟩ := len4 hl; rfl
theorem bn_trap {K : PySem.W.Frag} {f : Addr} {fd : FuncData} (F : Fun K "trap" "trap" s_trap f fd) : Binds K fd ["world", "p", "yes"] [] := F.binds fun _ _ _ _ _ _ us hl => by obtain ⟨a0, a1, a2, rfl⟩ := len3 hl; rfl
theorem bn_say {K : PySem.W.Frag} {f : Addr} {fd : FuncData} (F : Fun K "say" "say" s_say f fd) : Binds K fd ["world", "p", "q", "n"] [] := F.binds fun _ _ _ _ _ _ us hl => by obtain ⟨a0, a1, a2, a3, rfl⟩ := len4 hl; rfl
theorem bn_deliver {K : PySem.W.Frag} {f : Addr} {fd : FuncData} (F : Fun K "deliver" "deliver" s_deliver f fd) : Binds K fd ["world", "p", "q"] [] := F.binds fun _ _ _ _ _ _ us hl => by obtain ⟨a0, a1, a2, rfl⟩ := len3 hl; rfl
theorem bn_turns {K : PySem.W.Frag} {f : Addr} {fd : FuncData} (F : Fun K "turns" "turns" s_turns f fd) : Binds K fd ["world", "n"] [] := F.binds fun _ _ _ _ _ _ us hl => by obtain ⟨a0, a1, rfl⟩ := len2 hl; rfl
theorem bn_refusal_of {K : PySem.W.Frag} {f : Addr} {fd : FuncData} (F : Fun K "refusal_of" "refusal_of" s_refusal_of f fd) : Binds K fd ["world", "call"] [] := F.binds fun _ _ _ _ _ _ us hl => by obtain ⟨a0, a1, rfl⟩ := len2 hl; rfl
theorem bn_lacks_process {K : PySem.W.Frag} {f : Addr} {fd : FuncData} (F : Fun K "lacks_process" "lacks_process" s_lacks_process f fd) : Binds K fd ["world", "call"] [] := F.binds fun _ _ _ _ _ _ us hl => by obtain ⟨a0, a1, rfl⟩ := len2 hl; rfl
theorem bn_is_misfit {K : PySem.W.Frag} {f : Addr} {fd : FuncData} (F : Fun K "is_misfit" "is_misfit" s_is_misfit f fd) : Binds K fd ["call"] [] := F.binds fun _ _ _ _ _ _ us hl => by obtain ⟨a0, rfl⟩ := len1 hl; rfl
theorem bn_is_by_ended {K : PySem.W.Frag} {f : Addr} {fd : FuncData} (F : Fun K "is_by_ended" "is_by_ended" s_is_by_ended f fd) : Binds K fd ["world", "call"] [] := F.binds fun _ _ _ _ _ _ us hl => by obtain ⟨a0, a1, rfl⟩ := len2 hl; rfl
theorem bn_lacks_room {K : PySem.W.Frag} {f : Addr} {fd : FuncData} (F : Fun K "lacks_room" "lacks_room" s_lacks_room f fd) : Binds K fd ["world", "call"] [] := F.binds fun _ _ _ _ _ _ us hl => by obtain ⟨a0, a1, rfl⟩ := len2 hl; rfl
theorem bn_lacks_signal {K : PySem.W.Frag} {f : Addr} {fd : FuncData} (F : Fun K "lacks_signal" "lacks_signal" s_lacks_signal f fd) : Binds K fd ["world", "call"] [] := F.binds fun _ _ _ _ _ _ us hl => by obtain ⟨a0, a1, rfl⟩ := len2 hl; rfl
theorem bn_answers {K : PySem.W.Frag} {f : Addr} {fd : FuncData} (F : Fun K "answers" "answers" s_answers f fd) : Binds K fd ["calls"] [] := F.binds fun _ _ _ _ _ _ us hl => by obtain ⟨a0, rfl⟩ := len1 hl; rfl
theorem bn_answer_of {K : PySem.W.Frag} {f : Addr} {fd : FuncData} (F : Fun K "answer_of" "answer_of" s_answer_of f fd) : Binds K fd ["world", "call"] [] := F.binds fun _ _ _ _ _ _ us hl => by obtain ⟨a0, a1, rfl⟩ := len2 hl; rfl
theorem tup_mk {K : PySem.W.Frag} {h : Heap} {mg : Str → Option Value} {x : Str} {p : Addr} {od : Option Addr} {its : Array Value} {n : Nat} {sl : Array (Option Value)} {xs : List V} (X : K.In h) (G : h.Ns mainGlobals mg) (a : PySem.W.nsIn K mainGlobals x = some (some (.ref p)))
    (l : K.lookup p = some ⟨.type "tuple", od, .seq its n, sl⟩) (hs : its.size ≤ sizeLine) (v : Vals xs its.toList) : ∃ p, mg x = some (.ref p) ∧ ∀ H, SqT K H p xs := ⟨p, PySem.W.mg_of X G a, fun _ => .inr ⟨_, its, n, l, rfl, rfl, hs, v⟩⟩
theorem cls_Process {K : PySem.W.Frag} {h : Heap} {mg : Str → Option Value} {C : Addr} {f0 : Addr} {od0 an0 : Option Addr} {sl0 : Array (Option Value)} {oc0 kV0 dc0 pm0 cd0 ct0 : Value} {f1 : Addr} {od1 an1 : Option Addr} {sl1 : Array (Option Value)} {oc1 kV1 dc1 pm1 cd1 ct1 : Value} (X : K.In h) (G : h.Ns mainGlobals mg)
    (aC : PySem.W.nsIn K mainGlobals "Process" = some (some (.ref C)))
    (pg : PySem.W.plainGet K C Str.empty = true) (hd : PySem.W.hasDictIn K C = true) (po : PySem.W.plainOver K C = true) (sa : PySem.W.findIn K (.ref C) "__setattr__" = some (some (.builtin "object.__setattr__"))) (mk : PySem.W.makesIn K C = true) (kc : PySem.W.keepIn K (.ref C) = true)
    (n_links : PySem.W.findIn K (.ref C) "links" = some none)
    (n_living : PySem.W.findIn K (.ref C) "living" = some none)
    (n_notes : PySem.W.findIn K (.ref C) "notes" = some none)
    (n_traps : PySem.W.findIn K (.ref C) "traps" = some none)
    (n_watchers : PySem.W.findIn K (.ref C) "watchers" = some none)
    (n_watches : PySem.W.findIn K (.ref C) "watches" = some none)
    (n_why : PySem.W.findIn K (.ref C) "why" = some none)
    (a0 : PySem.W.findIn K (.ref C) "__init__" = some (some (.ref f0))) (i0 : PySem.W.isFn K (.ref f0) = true) (l0 : K.lookup f0 = some ⟨oc0, od0, .func (PySem.W.fnOf "__init__" "Process.__init__" (defArgs s_Process_init) (defBody s_Process_init) (defScope s_Process_init) .none kV0 dc0 pm0 an0 cd0 ct0), sl0⟩) (c0 : PySem.W.codeIn K cd0 "Process.__init__" = true) (k0 : PySem.W.keepIn K (.ref f0) = true)
    (a1 : PySem.W.findIn K (.ref C) "holds_link" = some (some (.ref f1))) (i1 : PySem.W.isFn K (.ref f1) = true) (l1 : K.lookup f1 = some ⟨oc1, od1, .func (PySem.W.fnOf "holds_link" "Process.holds_link" (defArgs s_Process_holds_link) (defBody s_Process_holds_link) (defScope s_Process_holds_link) .none kV1 dc1 pm1 an1 cd1 ct1), sl1⟩) (c1 : PySem.W.codeIn K cd1 "Process.holds_link" = true) (k1 : PySem.W.keepIn K (.ref f1) = true) :
    ∃ (C : Addr) (f_Process_init : Addr) (d_Process_init : FuncData) (f_Process_holds_link : Addr) (d_Process_holds_link : FuncData), mg "Process" = some (.ref C) ∧ Cls K C ∧ NoAttr K C "links" ∧ NoAttr K C "living" ∧ NoAttr K C "notes" ∧ NoAttr K C "traps" ∧ NoAttr K C "watchers" ∧ NoAttr K C "watches" ∧ NoAttr K C "why" ∧ Fun K "__init__" "Process.__init__" s_Process_init f_Process_init d_Process_init ∧ Mk K C f_Process_init ∧ Fun K "holds_link" "Process.holds_link" s_Process_holds_link f_Process_holds_link d_Process_holds_link ∧ Meth K C "holds_link" f_Process_holds_link :=
  ⟨C, f0, _, f1, _, PySem.W.mg_of X G aC, ⟨pg, hd, po, sa⟩, n_links, n_living, n_notes, n_traps, n_watchers, n_watches, n_why, fun_mk l0 c0 k0, ⟨mk, a0, i0, kc⟩, fun_mk l1 c1 k1, ⟨a1, i1, k1⟩⟩
theorem cls_World {K : PySem.W.Frag} {h : Heap} {mg : Str → Option Value} {C : Addr} {f0 : Addr} {od0 an0 : Option Addr} {sl0 : Array (Option Value)} {oc0 kV0 dc0 pm0 cd0 ct0 : Value} {f1 : Addr} {od1 an1 : Option Addr} {sl1 : Array (Option Value)} {oc1 kV1 dc1 pm1 cd1 ct1 : Value} {f2 : Addr} {od2 an2 : Option Addr} {sl2 : Array (Option Value)} {oc2 kV2 dc2 pm2 cd2 ct2 : Value} {f3 : Addr} {od3 an3 : Option Addr} {sl3 : Array (Option Value)} {oc3 kV3 dc3 pm3 cd3 ct3 : Value} {f4 : Addr} {od4 an4 : Option Addr} {sl4 : Array (Option Value)} {oc4 kV4 dc4 pm4 cd4 ct4 : Value} (X : K.In h) (G : h.Ns mainGlobals mg)
    (aC : PySem.W.nsIn K mainGlobals "World" = some (some (.ref C)))
    (pg : PySem.W.plainGet K C Str.empty = true) (hd : PySem.W.hasDictIn K C = true) (po : PySem.W.plainOver K C = true) (sa : PySem.W.findIn K (.ref C) "__setattr__" = some (some (.builtin "object.__setattr__"))) (mk : PySem.W.makesIn K C = true) (kc : PySem.W.keepIn K (.ref C) = true)
    (n_last_begun : PySem.W.findIn K (.ref C) "last_begun" = some none)
    (n_processes : PySem.W.findIn K (.ref C) "processes" = some none)
    (n_signals : PySem.W.findIn K (.ref C) "signals" = some none)
    (a0 : PySem.W.findIn K (.ref C) "__init__" = some (some (.ref f0))) (i0 : PySem.W.isFn K (.ref f0) = true) (l0 : K.lookup f0 = some ⟨oc0, od0, .func (PySem.W.fnOf "__init__" "World.__init__" (defArgs s_World_init) (defBody s_World_init) (defScope s_World_init) .none kV0 dc0 pm0 an0 cd0 ct0), sl0⟩) (c0 : PySem.W.codeIn K cd0 "World.__init__" = true) (k0 : PySem.W.keepIn K (.ref f0) = true)
    (a1 : PySem.W.findIn K (.ref C) "add_process" = some (some (.ref f1))) (i1 : PySem.W.isFn K (.ref f1) = true) (l1 : K.lookup f1 = some ⟨oc1, od1, .func (PySem.W.fnOf "add_process" "World.add_process" (defArgs s_World_add_process) (defBody s_World_add_process) (defScope s_World_add_process) .none kV1 dc1 pm1 an1 cd1 ct1), sl1⟩) (c1 : PySem.W.codeIn K cd1 "World.add_process" = true) (k1 : PySem.W.keepIn K (.ref f1) = true)
    (a2 : PySem.W.findIn K (.ref C) "begin_number" = some (some (.ref f2))) (i2 : PySem.W.isFn K (.ref f2) = true) (l2 : K.lookup f2 = some ⟨oc2, od2, .func (PySem.W.fnOf "begin_number" "World.begin_number" (defArgs s_World_begin_number) (defBody s_World_begin_number) (defScope s_World_begin_number) .none kV2 dc2 pm2 an2 cd2 ct2), sl2⟩) (c2 : PySem.W.codeIn K cd2 "World.begin_number" = true) (k2 : PySem.W.keepIn K (.ref f2) = true)
    (a3 : PySem.W.findIn K (.ref C) "send" = some (some (.ref f3))) (i3 : PySem.W.isFn K (.ref f3) = true) (l3 : K.lookup f3 = some ⟨oc3, od3, .func (PySem.W.fnOf "send" "World.send" (defArgs s_World_send) (defBody s_World_send) (defScope s_World_send) .none kV3 dc3 pm3 an3 cd3 ct3), sl3⟩) (c3 : PySem.W.codeIn K cd3 "World.send" = true) (k3 : PySem.W.keepIn K (.ref f3) = true)
    (a4 : PySem.W.findIn K (.ref C) "place_of_first" = some (some (.ref f4))) (i4 : PySem.W.isFn K (.ref f4) = true) (l4 : K.lookup f4 = some ⟨oc4, od4, .func (PySem.W.fnOf "place_of_first" "World.place_of_first" (defArgs s_World_place_of_first) (defBody s_World_place_of_first) (defScope s_World_place_of_first) .none kV4 dc4 pm4 an4 cd4 ct4), sl4⟩) (c4 : PySem.W.codeIn K cd4 "World.place_of_first" = true) (k4 : PySem.W.keepIn K (.ref f4) = true) :
    ∃ (C : Addr) (f_World_init : Addr) (d_World_init : FuncData) (f_World_add_process : Addr) (d_World_add_process : FuncData) (f_World_begin_number : Addr) (d_World_begin_number : FuncData) (f_World_send : Addr) (d_World_send : FuncData) (f_World_place_of_first : Addr) (d_World_place_of_first : FuncData), mg "World" = some (.ref C) ∧ Cls K C ∧ NoAttr K C "last_begun" ∧ NoAttr K C "processes" ∧ NoAttr K C "signals" ∧ Fun K "__init__" "World.__init__" s_World_init f_World_init d_World_init ∧ Mk K C f_World_init ∧ Fun K "add_process" "World.add_process" s_World_add_process f_World_add_process d_World_add_process ∧ Meth K C "add_process" f_World_add_process ∧ Fun K "begin_number" "World.begin_number" s_World_begin_number f_World_begin_number d_World_begin_number ∧ Meth K C "begin_number" f_World_begin_number ∧ Fun K "send" "World.send" s_World_send f_World_send d_World_send ∧ Meth K C "send" f_World_send ∧ Fun K "place_of_first" "World.place_of_first" s_World_place_of_first f_World_place_of_first d_World_place_of_first ∧ Meth K C "place_of_first" f_World_place_of_first :=
  ⟨C, f0, _, f1, _, f2, _, f3, _, f4, _, PySem.W.mg_of X G aC, ⟨pg, hd, po, sa⟩, n_last_begun, n_processes, n_signals, fun_mk l0 c0 k0, ⟨mk, a0, i0, kc⟩, fun_mk l1 c1 k1, ⟨a1, i1, k1⟩, fun_mk l2 c2 k2, ⟨a2, i2, k2⟩, fun_mk l3 c3 k3, ⟨a3, i3, k3⟩, fun_mk l4 c4 k4, ⟨a4, i4, k4⟩⟩
theorem bt_answers {K : PySem.W.Frag} {f : Addr} {fd : FuncData} (F : Fun K "answers" "answers" s_answers f fd) : ∀ (s : Shared) (us : List Value), us.length = (["calls"] : List Str).length → BindsTo s fd ⟨us, []⟩ ((["calls"] : List Str).zip us) := by
  obtain ⟨oc, od, kV, doc, pm, an, cdv, ct, osl, rfl, lk, hcd⟩ := F.ex
  exact fun s us hu => match us, hu with | [_], _ => .of_eq rfl
end Lw
set_option maxRecDepth 100000
set_option maxHeartbeats 2000000
/-! The classes' methods. -/
namespace Lw
open PySem PySem.Spec PyProof.Rows L2
theorem upd_comm {H : Hp} {a b : Addr} {x y : HO} (h : a ≠ b) : upd (upd H a x) b y = upd (upd H b y) a x := by
  funext c
  unfold upd
  by_cases e1 : c = a
  · subst e1; rw [if_neg h, if_pos rfl, if_pos rfl]
  · by_cases e2 : c = b
    · subst e2; rw [if_pos rfl, if_neg e1, if_pos rfl]
    · rw [if_neg e2, if_neg e1, if_neg e1, if_neg e2]
theorem upd_upd {H : Hp} {a : Addr} {x y : HO} : upd (upd H a x) a y = upd H a y := by
  funext c
  unfold upd
  by_cases e1 : c = a
  · rw [if_pos e1, if_pos e1]
  · rw [if_neg e1, if_neg e1, if_neg e1]
theorem upd_self {H : Hp} {a : Addr} {x : HO} (h : H a = some x) : upd H a x = H := by
  funext c
  unfold upd
  by_cases e1 : c = a
  · subst e1; rw [if_pos rfl, h]
  · rw [if_neg e1]
theorem upd_over {H : Hp} {a b : Addr} {x y z : HO} (h : a ≠ b) : upd (upd (upd H a x) b y) a z = upd (upd H b y) a z := by
  rw [upd_comm h, upd_upd]
theorem dget_at {H : Hp} {a : Addr} {kvs : List (Key × V)} {q : Int} {v : V} (hl : H a = some (.dK kvs)) (e : valV kvs (Sum.inl q) = some v) : DGet H a (.int q) (some v) := by
  rw [← e]; exact DGet.k (k := Sum.inl q) hl
theorem keep_new {H : Hp} {a : Addr} {x : HO} (h : H a = none) {b : Addr} {u : HO} (e : H b = some u) : upd H a x b = some u := by
  rw [upd_ne (ne_of_none e h)]; exact e
section
variable {CW CP : Addr} {H H' : Hp} {d : Ad} {s : Ha02.St}
theorem WAt.out_of (h : WAt CW CP H d s) {p : Addr} (hp : H p = none) : p ∉ d.adr := fun m => h.tracked m hp
theorem WAt.kept (h : WAt CW CP H d s) (k : ∀ b u, H b = some u → H' b = some u) : WAt CW CP H' d s :=
  ⟨h.nd, k _ _ h.ins, k _ _ h.prs, k _ _ h.lst, sigs_kept (fun b xs e => k b _ e) h.air, h.len, fun i o p e1 e2 => (h.at_ i o p e1 e2).kept (fun b xs e => k b _ e) fun b _ u e => k b u e⟩
theorem WAt.keptx (h : WAt CW CP H d s) {x : Addr} (hx : x ∉ d.adr) (ht : ∀ xs, H x ≠ some (.tup xs)) (k : ∀ b u, H b = some u → b ≠ x → H' b = some u) : WAt CW CP H' d s := by
  have k' : ∀ b ∈ d.adr, ∀ u, H b = some u → H' b = some u := fun b hb u e => k b u e (fun z => hx (by rw [← z]; exact hb))
  refine ⟨h.nd, k' _ (by simp [Ad.adr]) _ h.ins, k' _ (by simp [Ad.adr]) _ h.prs, k' _ (by simp [Ad.adr]) _ h.lst, sigs_kept (fun b xs e => k b _ e (fun z => ht xs (by rw [← z]; exact e))) h.air, h.len, fun i o q e1 e2 => (h.at_ i o q e1 e2).kept (fun b xs e => k b _ e (fun z => ht xs (by rw [← z]; exact e))) fun b hb u e => k' b ?_ u e⟩
  simp only [Ad.adr, List.mem_cons]
  exact .inr (.inr (.inr (List.mem_flatMap.mpr ⟨o, List.mem_of_getElem? e1, hb⟩)))
/-- a new thing beside the world -/
theorem WAt.alloc (h : WAt CW CP H d s) {p : Addr} {x : HO} (hp : H p = none) : WAt CW CP (upd H p x) d s ∧ Keeps H d (upd H p x) d :=
  ⟨h.kept fun b u e => keep_new hp e, fun b u e n => ⟨keep_new hp e, n⟩, rfl⟩
/-- a thing that isn't the world's changes -/
theorem WAt.else_ (h : WAt CW CP H d s) {p : Addr} {x : HO} (hp : p ∉ d.adr) (ht : ∀ xs, H p ≠ some (.tup xs)) : WAt CW CP (upd H p x) d s := by
  have k : ∀ b ∈ d.adr, ∀ u, H b = some u → upd H p x b = some u := fun b hb u e => by rw [upd_ne (fun z : b = p => hp (by rw [← z]; exact hb))]; exact e
  refine ⟨h.nd, k _ (by simp [Ad.adr]) _ h.ins, k _ (by simp [Ad.adr]) _ h.prs, k _ (by simp [Ad.adr]) _ h.lst, sigs_kept (fun b xs e => ?_) h.air, h.len, fun i o q e1 e2 => (h.at_ i o q e1 e2).kept (fun b xs e => ?_) fun b hb u e => k b ?_ u e⟩
  · rw [upd_ne (fun z : b = p => ht xs (by rw [← z]; exact e))]; exact e
  · rw [upd_ne (fun z : b = p => ht xs (by rw [← z]; exact e))]; exact e
  · simp only [Ad.adr, List.mem_cons]
    exact .inr (.inr (.inr (List.mem_flatMap.mpr ⟨o, List.mem_of_getElem? e1, hb⟩)))
/-- a signal is laid on its way -/
theorem WAt.sent (h : WAt CW CP H d s) {t g : Addr} {p q : Nat} {x : Ha02.Sig} (hg : H g = some (.tup ((Ha02.sigTold x).map iN))) (ht : H t = none) :
    WAt CW CP (upd (upd H t (.tup [iN p, iN q, .ref g])) d.ls (.lst ((d.ts ++ [t]).map V.ref))) { d with ts := d.ts ++ [t] } (Ha02.send s p q x) ∧ Keeps H d (upd (upd H t (.tup [iN p, iN q, .ref g])) d.ls (.lst ((d.ts ++ [t]).map V.ref))) { d with ts := d.ts ++ [t] } := by
  have tl : t ≠ d.ls := fun z => by rw [z, h.lst] at ht; cases ht
  have kt : ∀ b xs, H b = some (.tup xs) → upd (upd H t (.tup [iN p, iN q, .ref g])) d.ls (.lst ((d.ts ++ [t]).map V.ref)) b = some (.tup xs) := fun b xs e => by
    rw [upd_ne (ne_of e h.lst (by intro z; cases z)), upd_ne (ne_of_none e ht)]; exact e
  refine h.sigs (H' := upd (upd H t (.tup [iN p, iN q, .ref g])) d.ls (.lst ((d.ts ++ [t]).map V.ref))) (ts := d.ts ++ [t]) (air := s.air ++ [(p, q, x)]) (fun b u e n => ?_) upd_same ((sigs_kept kt h.air).snoc ⟨g, ?_, kt _ _ hg⟩)
  · rw [upd_ne n, upd_ne (ne_of_none e ht)]; exact e
  · rw [upd_ne tl, upd_same]
end
/-! ### promises -/
def spPInit (CP : Addr) : Sp := fun vs H Q _ => ∃ (x dx : Addr), vs = [.ref x] ∧ H x = some (.ins CP dx []) ∧ ∀ (H' : Hp) (o : PO), o.a = x → o.adr.Nodup → (∀ b ∈ o.adr, b = x ∨ H b = none) → PAt CP H' o Ha02.fresh → (∀ b u, H b = some u → b ≠ x → H' b = some u) → Q .non H'
def spHolds (CP : Addr) : Sp := fun vs H Q _ => ∃ (a dx l : Addr) (fs : List (Str × V)) (kvs : List (Key × V)) (q : Int), vs = [.ref a, .int q] ∧ H a = some (.ins CP dx fs) ∧ fs.lookup ("links" : Str) = some (.ref l) ∧ H l = some (.dK kvs) ∧
  (∀ v, valV kvs (Sum.inl q) = some v → ∃ z, v = .int z) ∧ Q (.bl (decide (valV kvs (Sum.inl q) = some (.int 0)))) H
def spWInit (CW CP : Addr) : Sp := fun vs H Q _ => ∃ (x dx : Addr), vs = [.ref x] ∧ H x = some (.ins CW dx []) ∧ ∀ (H' : Hp) (d : Ad), d.W = x → (∀ b ∈ d.adr, b = x ∨ H b = none) → WAt CW CP H' d Ha02.init → (∀ b u, H b = some u → b ≠ x → H' b = some u) → Q .non H'
def spAddP (CW CP : Addr) : Sp := fun vs H Q _ => ∃ (d : Ad) (s : Ha02.St), vs = [.ref d.W] ∧ WAt CW CP H d s ∧ s.procs.length ≤ 1000 ∧
  ∀ (H' : Hp) (o : PO), WAt CW CP H' { d with pos := d.pos ++ [o] } { s with procs := s.procs ++ [Ha02.fresh] } → Keeps H d H' { d with pos := d.pos ++ [o] } → Q (iN (s.procs.length + 1)) H'
def spBegin (CW CP : Addr) : Sp := fun vs H Q _ => ∃ (d : Ad) (s : Ha02.St), vs = [.ref d.W] ∧ WAt CW CP H d s ∧ ∀ (H' : Hp), WAt CW CP H' d { s with last := s.last + 1 } → Keeps H d H' d → Q (iN (s.last + 1)) H'
def spSend (CW : Addr) : Sp := fun vs H Q _ => ∃ (W dW ls : Addr) (fs : List (Str × V)) (xs : List V) (p q g : V), vs = [.ref W, p, q, g] ∧ H W = some (.ins CW dW fs) ∧ fs.lookup ("signals" : Str) = some (.ref ls) ∧ H ls = some (.lst xs) ∧ xs.length < sizeLine ∧
  ∀ t, H t = none → Q .non (upd (upd H t (.tup [p, q, g])) ls (.lst (xs ++ [.ref t])))
section
variable {P : Program} {w : World} {K : PySem.W.Frag} {mg : Str → Option Value} {base : Heap} {A : Adr}
theorem ok_Process_init (T : Txt K mg A) : FnOk P w K mg base CX0 1 A.f_Process_init A.d_Process_init ["self"] (spPInit A.C_Process) := by
  refine T.F_Process_init.ok sc_Process_init (fun vs H Q E h => ?_) (fun cdv A' outer s H vs Q E hr h => ?_)
  · obtain ⟨x, dx, rfl, _⟩ := h; rfl
  · obtain ⟨x, dx, rfl, hx, k⟩ := h
    refine ⟨_, (pss_cons (ps_fld (pv 0) pe_bl rfl)
      (pss_cons (ps_fld (pv 0) pe_int rfl)
      (pss_cons (ps_fld (pv 0) pe_bl rfl)
      (pss_cons (ps_fld (pv 0) pe_dnewK rfl)
      (pss_cons (ps_fld (pv 0) pe_dnewK rfl)
      (pss_cons (ps_fld (pv 0) pe_dnewK rfl)
      (pss_one (ps_fld (pv 0) (pe_lst pa_nil) rfl)))))))), ?_⟩
    refine ⟨_, rfl, x, _, dx, _, rfl, hx, T.cl_Process, T.n_Process_living, (by show 0 < 1000; decide), ?_⟩
    refine ⟨_, rfl, x, _, dx, _, rfl, upd_same, T.cl_Process, T.n_Process_why, (by show 1 < 1000; decide), ?_⟩
    rw [upd_upd]
    refine ⟨_, rfl, x, _, dx, _, rfl, upd_same, T.cl_Process, T.n_Process_traps, (by show 2 < 1000; decide), ?_⟩
    rw [upd_upd]
    intro l hl
    have nl : x ≠ l := fun z => by rw [z, upd_same] at hl; cases hl
    rw [upd_ne (Ne.symm nl)] at hl
    refine ⟨_, rfl, x, _, dx, _, rfl, (by rw [upd_ne nl]; exact upd_same), T.cl_Process, T.n_Process_links, (by show 3 < 1000; decide), ?_⟩
    rw [upd_over nl]
    intro m hm
    have nm : x ≠ m := fun z => by rw [z, upd_same] at hm; cases hm
    rw [upd_ne (Ne.symm nm)] at hm
    refine ⟨_, rfl, x, _, dx, _, rfl, (by rw [upd_ne nm]; exact upd_same), T.cl_Process, T.n_Process_watches, (by show 4 < 1000; decide), ?_⟩
    rw [upd_over nm]
    intro n hn
    have nn : x ≠ n := fun z => by rw [z, upd_same] at hn; cases hn
    rw [upd_ne (Ne.symm nn)] at hn
    refine ⟨_, rfl, x, _, dx, _, rfl, (by rw [upd_ne nn]; exact upd_same), T.cl_Process, T.n_Process_watchers, (by show 5 < 1000; decide), ?_⟩
    rw [upd_over nn]
    refine ⟨Nat.zero_le _, fun b0 hb0 => ?_⟩
    have nb : x ≠ b0 := fun z => by rw [z, upd_same] at hb0; cases hb0
    rw [upd_ne (Ne.symm nb)] at hb0
    refine ⟨_, rfl, x, _, dx, _, rfl, (by rw [upd_ne nb]; exact upd_same), T.cl_Process, T.n_Process_notes, (by show 6 < 1000; decide), ?_⟩
    rw [upd_over nb]
    have ml : m ≠ l := fun z => by rw [z, upd_same] at hm; cases hm
    have nml : n ≠ m := fun z => by rw [z, upd_same] at hn; cases hn
    have nbn : b0 ≠ n := fun z => by rw [z, upd_same] at hb0; cases hb0
    rw [upd_ne nml] at hn
    rw [upd_ne nbn] at hb0
    rw [upd_ne ml] at hm
    have nll : n ≠ l := fun z => by rw [z, upd_same] at hn; cases hn
    rw [upd_ne nll] at hn
    have nbm : b0 ≠ m := fun z => by rw [z, upd_same] at hb0; cases hb0
    rw [upd_ne nbm] at hb0
    have nbl : b0 ≠ l := fun z => by rw [z, upd_same] at hb0; cases hb0
    rw [upd_ne nbl] at hb0
    refine k _ ⟨x, l, m, n, b0⟩ rfl ?_ ?_ ?_ ?_
    · simp [PO.adr, nl, nm, nn, nb, Ne.symm ml, Ne.symm nml, Ne.symm nll, Ne.symm nbn, Ne.symm nbm, Ne.symm nbl]
    · intro b hb
      simp only [PO.adr, List.mem_cons, List.not_mem_nil, or_false] at hb
      rcases hb with rfl | rfl | rfl | rfl | rfl
      · exact .inl rfl
      · exact .inr hl
      · exact .inr hm
      · exact .inr hn
      · exact .inr hb0
    · refine ⟨⟨dx, ?_⟩, ⟨[], ?_, List.Perm.refl _⟩, ?_, ?_, ⟨[], ?_, .nil⟩⟩
      · exact upd_same
      · show upd _ x _ l = _
        rw [upd_ne (Ne.symm nl), upd_ne (Ne.symm nbl), upd_ne (Ne.symm nll), upd_ne (Ne.symm ml), upd_same]
      · show upd _ x _ m = _
        rw [upd_ne (Ne.symm nm), upd_ne (Ne.symm nbm), upd_ne (Ne.symm nml), upd_same]
        rfl
      · show upd _ x _ n = _
        rw [upd_ne (Ne.symm nn), upd_ne (Ne.symm nbn), upd_same]
        rfl
      · show upd _ x _ b0 = _
        rw [upd_ne (Ne.symm nb), upd_same]
        rfl
    · intro b u e hb
      rw [upd_ne hb, upd_ne (ne_of_none e hb0), upd_ne (ne_of_none e hn), upd_ne (ne_of_none e hm), upd_ne (ne_of_none e hl)]
      exact e
theorem ok_Process_holds_link (T : Txt K mg A) : FnOk P w K mg base CX0 1 A.f_Process_holds_link A.d_Process_holds_link ["self", "q"] (spHolds A.C_Process) := by
  refine T.F_Process_holds_link.ok sc_Process_holds_link (fun vs H Q E h => ?_) (fun cdv A' outer s H vs Q E hr h => ?_)
  · obtain ⟨a, dx, l, fs, kvs, q, rfl, _⟩ := h; rfl
  · obtain ⟨a, dx, l, fs, kvs, q, rfl, ha, hf, hl, hi, k⟩ := h
    have hu := hu_of hr
    refine ⟨_, (pss_one (ps_ret (pe_and (pe_cmp (pc_din hu (pv 1) (pe_fld (pv 0) rfl))) (pe_one (pe_cmpR op_eq (pe_dget hu (pe_fld (pv 0) rfl) (pv 1) (fun _ _ => rfl)) (pe_gint rfl T.c_HOLDS) (nomark _)))))), ?_⟩
    refine ⟨_, rfl, _, rfl, a, _, dx, fs, _, rfl, ha, T.cl_Process, T.n_Process_links, hf, l, _, rfl, DGet.k (k := Sum.inl q) hl, _, rfl, ?_⟩
    cases e : valV kvs (Sum.inl q) with
    | none =>
      rw [e] at k
      exact k
    | some v =>
      obtain ⟨z, rfl⟩ := hi v e
      refine ⟨_, rfl, a, _, dx, fs, _, rfl, ha, T.cl_Process, T.n_Process_links, hf, _, rfl, l, .int z, rfl, dget_at hl e, rfl, ?_⟩
      rw [e] at k
      have e2 : decide (some (V.int z) = some (V.int 0)) = decide (V.int z = V.int 0) := by
        by_cases h : z = 0
        · simp [h]
        · simp [h]
      rw [e2] at k
      exact k
theorem ok_World_init (T : Txt K mg A) : FnOk P w K mg base CX0 1 A.f_World_init A.d_World_init ["self"] (spWInit A.C_World A.C_Process) := by
  refine T.F_World_init.ok sc_World_init (fun vs H Q E h => ?_) (fun cdv A' outer s H vs Q E hr h => ?_)
  · obtain ⟨x, dx, rfl, _⟩ := h; rfl
  · obtain ⟨x, dx, rfl, hx, k⟩ := h
    refine ⟨_, (pss_cons (ps_fld (pv 0) pe_dnewK rfl)
      (pss_cons (ps_fld (pv 0) (pe_lst pa_nil) rfl)
      (pss_one (ps_fld (pv 0) pe_int rfl)))), ?_⟩
    intro l hl
    have nl : x ≠ l := fun z => by rw [z] at hx; rw [hx] at hl; cases hl
    refine ⟨_, rfl, x, _, dx, _, rfl, (by rw [upd_ne nl]; exact hx), T.cl_World, T.n_World_processes, (by show 0 < 1000; decide), ?_⟩
    refine ⟨Nat.zero_le _, fun m hm => ?_⟩
    have nm : x ≠ m := fun z => by rw [z, upd_same] at hm; cases hm
    rw [upd_ne (Ne.symm nm)] at hm
    refine ⟨_, rfl, x, _, dx, _, rfl, (by rw [upd_ne nm]; exact upd_same), T.cl_World, T.n_World_signals, (by show 1 < 1000; decide), ?_⟩
    rw [upd_over nm]
    refine ⟨_, rfl, x, _, dx, _, rfl, upd_same, T.cl_World, T.n_World_last_begun, (by show 2 < 1000; decide), ?_⟩
    rw [upd_upd]
    have ml : m ≠ l := fun z => by rw [z, upd_same] at hm; cases hm
    rw [upd_ne ml] at hm
    refine k _ ⟨x, dx, l, m, [], []⟩ rfl ?_ ⟨?_, ?_, ?_, ?_, .nil, rfl, ?_⟩ ?_
    · intro b hb
      simp only [Ad.adr, List.flatMap_nil, List.mem_cons, List.not_mem_nil, or_false] at hb
      rcases hb with rfl | rfl | rfl
      · exact .inl rfl
      · exact .inr hl
      · exact .inr hm
    · simp [Ad.adr, nl, nm, Ne.symm ml]
    · exact upd_same
    · show upd _ x _ l = _
      rw [upd_ne (Ne.symm nl), upd_ne (Ne.symm ml), upd_same]
      rfl
    · show upd _ x _ m = _
      rw [upd_ne (Ne.symm nm), upd_same]
      rfl
    · intro i o p e
      simp at e
    · intro b u e hb
      rw [upd_ne hb, upd_ne (ne_of_none e hm), upd_ne (ne_of_none e hl)]
      exact e
theorem ok_World_send (T : Txt K mg A) : FnOk P w K mg base CX0 1 A.f_World_send A.d_World_send ["self", "p", "q", "signal"] (spSend A.C_World) := by
  refine T.F_World_send.ok sc_World_send (fun vs H Q E h => ?_) (fun cdv A' outer s H vs Q E hr h => ?_)
  · obtain ⟨W, dW, ls, fs, xs, p, q, g, rfl, _⟩ := h; rfl
  · obtain ⟨W, dW, ls, fs, xs, p, q, g, rfl, hW, hf, hl, hz, k⟩ := h
    refine ⟨_, (pss_one (ps_expr (pe_bm PySem.F.plainAttrs_list PySem.F.slot_list_append PySem.F.type_list_append mt_append (pe_fld (pv 0) rfl) (pa_cons (pe_tup (pa_cons (pv 1) (pa_cons (pv 2) (pa_cons (pv 3) pa_nil)))) pa_nil)))), ?_⟩
    refine ⟨_, rfl, W, _, dW, fs, _, rfl, hW, T.cl_World, T.n_World_signals, hf, .inl ⟨rfl, _, SqL.of hl⟩, _, rfl, _, rfl, _, rfl, (by show 3 ≤ sizeLine; decide), fun t ht => ?_⟩
    refine ⟨ls, xs, _, rfl, rfl, keep_new ht hl, hz, ?_⟩
    exact k t ht
theorem ok_World_begin_number (T : Txt K mg A) : FnOk P w K mg base CX0 1 A.f_World_begin_number A.d_World_begin_number ["self"] (spBegin A.C_World A.C_Process) := by
  refine T.F_World_begin_number.ok sc_World_begin_number (fun vs H Q E h => ?_) (fun cdv A' outer s H vs Q E hr h => ?_)
  · obtain ⟨d, s, rfl, _⟩ := h; rfl
  · obtain ⟨d, s, rfl, hw, k⟩ := h
    refine ⟨_, (pss_cons (ps_fldaug (pv 0) pe_int in_add)
      (pss_one (ps_ret (pe_fld (pv 0) rfl)))), ?_⟩
    refine ⟨_, rfl, d.W, _, d.dW, _, _, rfl, hw.ins, T.cl_World, T.n_World_last_begun, rfl, _, _, rfl, rfl, d.dW, _, hw.ins, (by show 3 < 1000; decide), ?_⟩
    refine ⟨_, rfl, d.W, _, d.dW, _, _, rfl, upd_same, T.cl_World, T.n_World_last_begun, rfl, ?_⟩
    obtain ⟨h1, h2⟩ := hw.num (k := s.last + 1) (H' := upd H d.W (.ins A.C_World d.dW (wf d (s.last + 1)))) (fun b u e n => by rw [upd_ne n]; exact e) upd_same
    exact k _ h1 h2
theorem ok_World_add_process (T : Txt K mg A) : FnOk P w K mg base CX0 3 A.f_World_add_process A.d_World_add_process ["self"] (spAddP A.C_World A.C_Process) := by
  refine T.F_World_add_process.ok sc_World_add_process (fun vs H Q E h => ?_) (fun cdv A' outer s H vs Q E hr h => ?_)
  · obtain ⟨d, s, rfl, _⟩ := h; rfl
  · obtain ⟨d, s, rfl, hw, hs, k⟩ := h
    have hu := hu_of hr
    refine ⟨_, (pss_cons (ps_set (i := 1) sc_World_add_process.nd rfl (Or.inl rfl) (pe_op op_add (pe_callB call_lenD (by rfl) T.len PySem.boot_len (pa_cons (pe_fld (pv 0) rfl) pa_nil)) pe_int))
      (pss_cons (ps_dput hu (pe_fld (pv 0) rfl) (pv 1) (pe_make0 T.mk_Process (ok_Process_init T) (hr.mono (by decide)) rfl T.m_Process T.b_Process_init .nil pass0) rfl)
      (pss_one (ps_ret (pv 1))))), ?_⟩
    refine ⟨_, rfl, d.W, _, d.dW, _, _, rfl, hw.ins, T.cl_World, T.n_World_processes, rfl, d.dp, _, rfl, hw.prs, _, _, rfl, rfl, ?_⟩
    intro x dx nx ndx nex
    have k0 : ∀ b u, H b = some u → upd (upd H dx (.own x)) x (.ins A.C_Process dx []) b = some u := fun b u e => by
      rw [upd_ne (ne_of_none e nx), upd_ne (ne_of_none e ndx)]; exact e
    have f0 : ∀ b, upd (upd H dx (.own x)) x (.ins A.C_Process dx []) b = none → H b = none := fun b e => by
      cases q : H b with
      | none => rfl
      | some u => rw [k0 b u q] at e; cases e
    refine ⟨x, dx, rfl, upd_same, fun H1 o ea on of_ ho kp => ⟨rfl, ?_⟩⟩
    have k1 : ∀ b u, H b = some u → H1 b = some u := fun b u e => kp b u (k0 b u e) (ne_of_none e nx)
    have w1 := hw.kept k1
    have fo : ∀ b ∈ o.adr, H b = none := fun b hb => by
      rcases of_ b hb with z | z
      · rw [z]; exact nx
      · exact f0 b z
    have nv : valV (procsD 1 d.pos) (kn (s.procs.length + 1)) = none := by
      rw [hw.out]; simp [Ha02.isThere]
    have ek : (Sum.inl (((procsD 1 d.pos).length : Int) + 1) : Key) = kn (s.procs.length + 1) := by rw [procsD_len, hw.len]; rfl
    refine ⟨_, rfl, d.W, _, d.dW, _, _, rfl, w1.ins, T.cl_World, T.n_World_processes, rfl, _, rfl, d.dp, _, rfl, DPut.k (k := Sum.inl (((procsD 1 d.pos).length : Int) + 1)) w1.prs (by rw [procsD_len, hw.len]; exact small1000 hs), ?_⟩
    refine ⟨_, rfl, ?_⟩
    have hd : putK (procsD 1 d.pos) (Sum.inl (((procsD 1 d.pos).length : Int) + 1)) (V.ref x) = procsD 1 (d.pos ++ [o]) := by
      rw [ek, putK_new _ nv, procsD_snoc, ea, hw.len, Nat.add_comm 1]
    rw [hd]
    obtain ⟨h1, h2⟩ := hw.more (o := o) (x := Ha02.fresh) (H' := upd H1 d.dp (.dK (procsD 1 (d.pos ++ [o])))) on fo (fun b u e n => by rw [upd_ne n]; exact k1 b u e) upd_same
      (ho.kept (fun b xs e => by rw [upd_ne (fun z : b = d.dp => by rw [z, w1.prs] at e; cases e)]; exact e) fun b hb u e => by rw [upd_ne (fun z : b = d.dp => by have := fo b hb; rw [z, hw.prs] at this; cases this)]; exact e)
    have := k _ o h1 h2
    have e3 : V.int (((procsD 1 d.pos).length : Int) + 1) = iN (s.procs.length + 1) := by rw [procsD_len, hw.len]; rfl
    show Q (V.int (((procsD 1 d.pos).length : Int) + 1)) _
    rw [e3]
    exact this
end
end Lw
set_option maxRecDepth 100000
set_option maxHeartbeats 2000000
/-! How a process ends. -/
namespace Lw
open PySem PySem.Spec PyProof.Rows L2
/-- over the pairs of a locked dict -/
theorem for_items {d : Addr} {o : Obj} {kvs : List (Key × V)} {g : TG} {tb : TS} {D : Ends} {σ : L2.St} {H : Hp} (Pv : Nat → L2.St → Hp → Prop) (h0 : Pv 0 σ H) (hl : ∀ i σ H, Pv i σ H → H d = some (.frz o (.dK kvs)))
    (hs : ∀ i k v σ H T, kvs[i]? = some (k, v) → Pv i σ H → H T = none → g (.ref T) σ (upd H T (.tup [kV k, v])) fun σ2 H2 => tb { D with nx := Pv (i + 1), ct := Pv (i + 1), bk := D.nx } σ2 H2) (hd : ∀ σ H, Pv kvs.length σ H → D.nx σ H) :
    ∃ W : Nat → Nat → L2.St → Hp → Prop, (∃ m, W 0 m σ H) ∧ ∀ i m σ H, W i m σ H →
      ((Iti d o kvs).stop i H ∧ D.nx σ H) ∨ ((Iti d o kvs).go i H ∧ ∃ N : L2.St → Hp → Prop, (∀ σ' H', N σ' H' → ∃ m', m' < m ∧ W (i + 1) m' σ' H') ∧ ∀ x H', (Iti d o kvs).yld i H x H' → g x σ H' fun σ2 H2 => tb { D with nx := N, ct := N, bk := D.nx } σ2 H2) := by
  refine ⟨fun i m σ H => m = kvs.length - i ∧ i ≤ kvs.length ∧ Pv i σ H, ⟨kvs.length, by simp, Nat.zero_le _, h0⟩, ?_⟩
  rintro i m σ H ⟨rfl, hi, p⟩
  have q := hl i σ H p
  by_cases hlt : i < kvs.length
  · refine .inr ⟨⟨q, hlt⟩, Pv (i + 1), fun σ' H' p' => ⟨kvs.length - (i + 1), by omega, rfl, hlt, p'⟩, fun x H' y => ?_⟩
    obtain ⟨T, k, v, e1, rfl, e3, rfl⟩ := y
    exact hs i k v σ H T e1 p e3
  · have e : i = kvs.length := by omega
    subst e
    exact .inl ⟨⟨q, Nat.le_refl _⟩, hd σ H p⟩
section
variable {CW CP : Addr} {H H' : Hp} {d : Ad} {s : Ha02.St}
/-- a thing of the world is locked: what else is the world's is read as ever -/
theorem un_lock {v b : Addr} {x u : HO} (h : upd H v u b = some x) (n : b ≠ v) : H b = some x := by rw [upd_ne n] at h; exact h
theorem WAt.ls_ne (h : WAt CW CP H d s) {o : PO} (ho : o ∈ d.pos) {b : Addr} (hb : b ∈ o.adr) : b ≠ d.W ∧ b ≠ d.dp ∧ b ≠ d.ls := by
  have hnd := h.nd
  simp only [Ad.adr, List.nodup_cons, List.mem_cons, not_or] at hnd
  obtain ⟨⟨n1, n2, n3⟩, ⟨n4, n5⟩, n6, n7⟩ := hnd
  have m : b ∈ d.pos.flatMap PO.adr := List.mem_flatMap.mpr ⟨o, ho, hb⟩
  exact ⟨fun z => n3 (z ▸ m), fun z => n5 (z ▸ m), fun z => n6 (z ▸ m)⟩
theorem air_len (h : WAt CW CP H d s) : d.ts.length = s.air.length := Paired.length h.air
/-- a signal is sent while v is locked -/
theorem sent_locked {v : Addr} {u : HO} {od : Obj} (hv : H v = some (.frz od u)) (h : WAt CW CP (upd H v u) d s) (nl : v ≠ d.ls) {t g : Addr} {p q : Nat} {x : Ha02.Sig} (hg : H g = some (.tup ((Ha02.sigTold x).map iN))) (ht : H t = none) :
    (upd (upd H t (.tup [iN p, iN q, .ref g])) d.ls (.lst (d.ts.map V.ref ++ [V.ref t]))) v = some (.frz od u) ∧
    WAt CW CP (upd (upd (upd H t (.tup [iN p, iN q, .ref g])) d.ls (.lst (d.ts.map V.ref ++ [V.ref t]))) v u) { d with ts := d.ts ++ [t] } (Ha02.send s p q x) ∧
    Keeps (upd H v u) d (upd (upd (upd H t (.tup [iN p, iN q, .ref g])) d.ls (.lst (d.ts.map V.ref ++ [V.ref t]))) v u) { d with ts := d.ts ++ [t] } := by
  have tv : t ≠ v := Ne.symm (ne_of_none hv ht)
  have gv : g ≠ v := ne_of hg hv (by intro z; cases z)
  refine ⟨by rw [upd_ne nl, upd_ne (Ne.symm tv)]; exact hv, ?_⟩
  rw [upd_comm (Ne.symm nl), upd_comm tv]
  have e := h.sent (t := t) (g := g) (p := p) (q := q) (x := x) (by rw [upd_ne gv]; exact hg) (by rw [upd_ne tv]; exact ht)
  simp only [List.map_append, List.map_cons, List.map_nil] at e
  exact e
/-- a new thing while v is locked -/
theorem alloc_locked {v : Addr} {u : HO} {od : Obj} (hv : H v = some (.frz od u)) (h : WAt CW CP (upd H v u) d s) {t : Addr} {x : HO} (ht : H t = none) :
    upd H t x v = some (.frz od u) ∧ WAt CW CP (upd (upd H t x) v u) d s ∧ Keeps (upd H v u) d (upd (upd H t x) v u) d := by
  have tv : t ≠ v := Ne.symm (ne_of_none hv ht)
  refine ⟨by rw [upd_ne (Ne.symm tv)]; exact hv, ?_⟩
  rw [upd_comm tv]
  exact h.alloc (by rw [upd_ne tv]; exact ht)
end
/-- what bounds the signals of an end -/
structure Fit (x : Ha02.Proc) : Prop where
  srt : x.links.Pairwise fun a b => a.to < b.to
  nl : x.links.length ≤ 60
  nv : x.watched.length ≤ 100
  nw : x.watches.length ≤ 100
theorem fit_of {c t : Nat} {s : Ha02.St} (g : M.Good c t s) (hc : c ≤ 100) {p : Nat} (hp : 1 ≤ p ∧ p ≤ s.procs.length) : Fit (Ha02.proc s p) := by
  have m := M.proc_mem hp
  have pg := g.pg _ m
  have a := M.links_len pg
  have b := M.watched_len g m
  have e := M.watches_len pg
  have := g.few
  have := g.last
  exact ⟨pg.srt, by omega, by omega, by omega⟩
/-- sends signals only -/
def spTell (CW CP : Addr) (f : Nat → Nat → Ha02.Proc → List (Nat × Nat × Ha02.Sig)) : Sp := fun vs H Q _ => ∃ (d : Ad) (s : Ha02.St) (p why : Nat), vs = [.ref d.W, iN p, iN why] ∧ WAt CW CP H d s ∧ Fit (Ha02.proc s p) ∧ (1 ≤ p ∧ p ≤ s.procs.length) ∧ s.air.length ≤ 100000 ∧
  ∀ (H' : Hp) (ts : List Addr), WAt CW CP H' { d with ts := ts } { s with air := s.air ++ f p why (Ha02.proc s p) } → Keeps H d H' { d with ts := ts } → Q .non H'
def spTell2 (CW CP : Addr) (f : Nat → Ha02.Proc → List (Nat × Nat × Ha02.Sig)) : Sp := fun vs H Q _ => ∃ (d : Ad) (s : Ha02.St) (p : Nat), vs = [.ref d.W, iN p] ∧ WAt CW CP H d s ∧ Fit (Ha02.proc s p) ∧ (1 ≤ p ∧ p ≤ s.procs.length) ∧ s.air.length ≤ 100000 ∧
  ∀ (H' : Hp) (ts : List Addr), WAt CW CP H' { d with ts := ts } { s with air := s.air ++ f p (Ha02.proc s p) } → Keeps H d H' { d with ts := ts } → Q .non H'
def fLinked (p why : Nat) (x : Ha02.Proc) : List (Nat × Nat × Ha02.Sig) := (x.links.filter fun y => y.cutting == 0).map fun y => (p, y.to, Ha02.Sig.ended why)
def fWatchers (p why : Nat) (x : Ha02.Proc) : List (Nat × Nat × Ha02.Sig) := x.watched.map fun y => (p, y.2, Ha02.Sig.gone y.1 why)
def fWatched (p : Nat) (x : Ha02.Proc) : List (Nat × Nat × Ha02.Sig) := x.watches.map fun y => (p, y.2, Ha02.Sig.unwatch y.1)
theorem encP_get {l : List (Nat × Nat)} {i : Nat} {k : Key} {v : V} (h : (encP l)[i]? = some (k, v)) : ∃ y, l[i]? = some y ∧ k = kn y.1 ∧ v = iN y.2 := by
  unfold encP at h
  rw [List.getElem?_map] at h
  obtain ⟨y, e1, e2⟩ := Option.map_eq_some_iff.mp h
  cases e2
  exact ⟨y, e1, rfl, rfl⟩
theorem take_snoc {α : Type} {l : List α} {i : Nat} {x : α} (h : l[i]? = some x) : l.take (i + 1) = l.take i ++ [x] := by
  rw [List.take_succ, h]; rfl
section
variable {P : Program} {w : World} {K : PySem.W.Frag} {mg : Str → Option Value} {base : Heap} {A : Adr}
theorem ok_tell_watchers (T : Txt K mg A) : FnOk P w K mg base CX0 2 A.f_tell_watchers A.d_tell_watchers ["world", "p", "why"] (spTell A.C_World A.C_Process fWatchers) := by
  refine T.F_tell_watchers.ok sc_tell_watchers (fun vs H Q E h => ?_) (fun cdv A' outer s H vs Q E hr h => ?_)
  · obtain ⟨d, s, p, why, rfl, _⟩ := h; rfl
  · obtain ⟨d, s, p, why, rfl, hw, hg, hp, hz, k⟩ := h
    have hu := hu_of hr
    obtain ⟨o, ho, po, pv_⟩ := hw.get hp
    have hom := List.mem_of_getElem? ho
    obtain ⟨nW, nD, nL⟩ := hw.ls_ne hom (b := o.v) (by simp [PO.adr])
    obtain ⟨dx, hoa⟩ := po.ins
    have nA : o.v ≠ o.a := ne_of po.vat hoa (by intro z; cases z)
    refine ⟨_, (pss_one (ps_lock (ps_for PassesOwn.never rfl (pi_items (pe_fld (pe_dget hu (pe_fld (pv 0) rfl) (pv 1) (fun _ _ => rfl)) rfl)) (pg_tup (n := 2) rfl (pgs_cons (pg_name (i := 3) sc_tell_watchers.nd rfl (Or.inl rfl)) (pgs_cons (pg_name (i := 4) sc_tell_watchers.nd rfl (Or.inl rfl)) pgs_nil))) (pss_one (ps_expr (pe_meth (pv 0) T.cl_World T.me_World_send (ok_World_send T) (hr.mono (by decide)) T.b_World_send .nil pass0 (pa_cons (pv 1) (pa_cons (pv 4) (pa_cons (pe_tup (pa_cons (pe_gint rfl T.c_SIGNAL_GONE) (pa_cons (pv 3) (pa_cons (pv 2) pa_nil)))) pa_nil))))))))), ?_⟩
    refine ⟨o.v, _, po.vat, trivial, fun od => ?_⟩
    have rW : ∀ b x, b ≠ o.v → H b = some x → upd H o.v (.frz od (.dK (encP (Ha02.proc s p).watched))) b = some x := fun b x n e => by rw [upd_ne n]; exact e
    refine ⟨_, rfl, d.W, _, d.dW, _, _, rfl, rW _ _ (Ne.symm nW) hw.ins, T.cl_World, T.n_World_processes, rfl, _, rfl, d.dp, .ref o.a, rfl, dget_at (rW _ _ (Ne.symm nD) hw.prs) pv_, o.a, _, dx, _, _, rfl, rW _ _ (Ne.symm nA) hoa, T.cl_Process, T.n_Process_watchers, rfl, o.v, od, _, rfl, upd_same, ?_⟩
    refine for_items (fun i σ Hi => ∃ (n q : Option V) (ts : List Addr), σ = [some (.ref d.W), some (iN p), some (iN why), n, q] ∧ Hi o.v = some (.frz od (.dK (encP (Ha02.proc s p).watched))) ∧
      WAt A.C_World A.C_Process (upd Hi o.v (.dK (encP (Ha02.proc s p).watched))) { d with ts := ts } { s with air := s.air ++ fWatchers p why { Ha02.proc s p with watched := (Ha02.proc s p).watched.take i } } ∧ Keeps H d (upd Hi o.v (.dK (encP (Ha02.proc s p).watched))) { d with ts := ts })
      ⟨none, none, d.ts, rfl, upd_same, ?_⟩ (fun i σ Hi h => by obtain ⟨_, _, _, _, h, _⟩ := h; exact h) ?_ ?_
    · rw [upd_upd, upd_self po.vat]
      have e : ({ s with air := s.air ++ fWatchers p why { Ha02.proc s p with watched := (Ha02.proc s p).watched.take 0 } } : Ha02.St) = s := by simp [fWatchers]
      rw [e]
      exact ⟨hw, Keeps.refl _ _⟩
    · rintro i kk vv σ Hi T0 he ⟨n, q, ts, rfl, hv, hwi, hk⟩ hT
      obtain ⟨y, hy, rfl, rfl⟩ := encP_get he
      obtain ⟨v1, w1, k1⟩ := alloc_locked hv hwi (x := .tup [kV (kn y.1), iN y.2]) hT
      refine ⟨T0, _, rfl, SqT.of upd_same, rfl, _, _, rfl, _, _, rfl, rfl, ?_⟩
      refine ⟨_, rfl, d.W, d.dW, _, rfl, un_lock w1.ins (Ne.symm nW), rfl, _, rfl, _, rfl, ?_⟩
      refine ⟨_, rfl, _, rfl, (by show 3 ≤ sizeLine; decide), fun g hg0 => ?_⟩
      obtain ⟨v2, w2, k2⟩ := alloc_locked v1 w1 (x := .tup [V.int 8, iN y.1, iN why]) hg0
      have hlen := air_len w2
      have hb := hg.nv
      refine ⟨d.W, d.dW, d.ls, _, _, _, _, _, rfl, un_lock w2.ins (Ne.symm nW), rfl, un_lock w2.lst (Ne.symm nL), ?_, fun t ht => ?_⟩
      · rw [List.length_map, hlen]
        show (s.air ++ fWatchers p why { Ha02.proc s p with watched := (Ha02.proc s p).watched.take i }).length < sizeLine
        rw [List.length_append]
        have : (fWatchers p why { Ha02.proc s p with watched := (Ha02.proc s p).watched.take i }).length ≤ 100 := by
          simp only [fWatchers, List.length_map, List.length_take]
          omega
        exact Nat.lt_of_le_of_lt (Nat.add_le_add hz this) (by decide)
      obtain ⟨v3, w3, k3⟩ := sent_locked (p := p) (q := y.2) (x := .gone y.1 why) v2 w2 nL upd_same ht
      refine ⟨_, _, ts ++ [t], rfl, v3, ?_, ?_⟩
      · have e : (Ha02.send { s with air := s.air ++ fWatchers p why { Ha02.proc s p with watched := (Ha02.proc s p).watched.take i } } p y.2 (.gone y.1 why)) = { s with air := s.air ++ fWatchers p why { Ha02.proc s p with watched := (Ha02.proc s p).watched.take (i + 1) } } := by
          simp [Ha02.send, fWatchers, take_snoc hy]
        rw [← e]
        exact w3
      · exact ((hk.trans k1).trans k2).trans k3
    · rintro σ Hi ⟨n, q, ts, rfl, hv, hwi, hk⟩
      refine ⟨hv, ?_⟩
      have hl : (encP (Ha02.proc s p).watched).length = (Ha02.proc s p).watched.length := by simp [encP]
      rw [hl, List.take_length] at hwi
      exact k _ ts hwi hk
theorem ok_tell_watched (T : Txt K mg A) : FnOk P w K mg base CX0 2 A.f_tell_watched A.d_tell_watched ["world", "p"] (spTell2 A.C_World A.C_Process fWatched) := by
  refine T.F_tell_watched.ok sc_tell_watched (fun vs H Q E h => ?_) (fun cdv A' outer s H vs Q E hr h => ?_)
  · obtain ⟨d, s, p, rfl, _⟩ := h; rfl
  · obtain ⟨d, s, p, rfl, hw, hg, hp, hz, k⟩ := h
    have hu := hu_of hr
    obtain ⟨o, ho, po, pv_⟩ := hw.get hp
    have hom := List.mem_of_getElem? ho
    obtain ⟨nW, nD, nL⟩ := hw.ls_ne hom (b := o.w) (by simp [PO.adr])
    obtain ⟨dx, hoa⟩ := po.ins
    have nA : o.w ≠ o.a := ne_of po.wat hoa (by intro z; cases z)
    refine ⟨_, (pss_one (ps_lock (ps_for PassesOwn.never rfl (pi_items (pe_fld (pe_dget hu (pe_fld (pv 0) rfl) (pv 1) (fun _ _ => rfl)) rfl)) (pg_tup (n := 2) rfl (pgs_cons (pg_name (i := 2) sc_tell_watched.nd rfl (Or.inl rfl)) (pgs_cons (pg_name (i := 3) sc_tell_watched.nd rfl (Or.inl rfl)) pgs_nil))) (pss_one (ps_expr (pe_meth (pv 0) T.cl_World T.me_World_send (ok_World_send T) (hr.mono (by decide)) T.b_World_send .nil pass0 (pa_cons (pv 1) (pa_cons (pv 3) (pa_cons (pe_tup (pa_cons (pe_gint rfl T.c_SIGNAL_UNWATCH) (pa_cons (pv 2) pa_nil))) pa_nil))))))))), ?_⟩
    refine ⟨o.w, _, po.wat, trivial, fun od => ?_⟩
    have rW : ∀ b x, b ≠ o.w → H b = some x → upd H o.w (.frz od (.dK (encP (Ha02.proc s p).watches))) b = some x := fun b x n e => by rw [upd_ne n]; exact e
    refine ⟨_, rfl, d.W, _, d.dW, _, _, rfl, rW _ _ (Ne.symm nW) hw.ins, T.cl_World, T.n_World_processes, rfl, _, rfl, d.dp, .ref o.a, rfl, dget_at (rW _ _ (Ne.symm nD) hw.prs) pv_, o.a, _, dx, _, _, rfl, rW _ _ (Ne.symm nA) hoa, T.cl_Process, T.n_Process_watches, rfl, o.w, od, _, rfl, upd_same, ?_⟩
    refine for_items (fun i σ Hi => ∃ (n q : Option V) (ts : List Addr), σ = [some (.ref d.W), some (iN p), n, q] ∧ Hi o.w = some (.frz od (.dK (encP (Ha02.proc s p).watches))) ∧
      WAt A.C_World A.C_Process (upd Hi o.w (.dK (encP (Ha02.proc s p).watches))) { d with ts := ts } { s with air := s.air ++ fWatched p { Ha02.proc s p with watches := (Ha02.proc s p).watches.take i } } ∧ Keeps H d (upd Hi o.w (.dK (encP (Ha02.proc s p).watches))) { d with ts := ts })
      ⟨none, none, d.ts, rfl, upd_same, ?_⟩ (fun i σ Hi h => by obtain ⟨_, _, _, _, h, _⟩ := h; exact h) ?_ ?_
    · rw [upd_upd, upd_self po.wat]
      have e : ({ s with air := s.air ++ fWatched p { Ha02.proc s p with watches := (Ha02.proc s p).watches.take 0 } } : Ha02.St) = s := by simp [fWatched]
      rw [e]
      exact ⟨hw, Keeps.refl _ _⟩
    · rintro i kk vv σ Hi T0 he ⟨n, q, ts, rfl, hv, hwi, hk⟩ hT
      obtain ⟨y, hy, rfl, rfl⟩ := encP_get he
      obtain ⟨v1, w1, k1⟩ := alloc_locked hv hwi (x := .tup [kV (kn y.1), iN y.2]) hT
      refine ⟨T0, _, rfl, SqT.of upd_same, rfl, _, _, rfl, _, _, rfl, rfl, ?_⟩
      refine ⟨_, rfl, d.W, d.dW, _, rfl, un_lock w1.ins (Ne.symm nW), rfl, _, rfl, _, rfl, ?_⟩
      refine ⟨_, rfl, (by show 2 ≤ sizeLine; decide), fun g hg0 => ?_⟩
      obtain ⟨v2, w2, k2⟩ := alloc_locked v1 w1 (x := .tup [V.int 7, iN y.1]) hg0
      have hlen := air_len w2
      have hb := hg.nw
      refine ⟨d.W, d.dW, d.ls, _, _, _, _, _, rfl, un_lock w2.ins (Ne.symm nW), rfl, un_lock w2.lst (Ne.symm nL), ?_, fun t ht => ?_⟩
      · rw [List.length_map, hlen]
        show (s.air ++ fWatched p { Ha02.proc s p with watches := (Ha02.proc s p).watches.take i }).length < sizeLine
        rw [List.length_append]
        have : (fWatched p { Ha02.proc s p with watches := (Ha02.proc s p).watches.take i }).length ≤ 100 := by
          simp only [fWatched, List.length_map, List.length_take]
          omega
        exact Nat.lt_of_le_of_lt (Nat.add_le_add hz this) (by decide)
      obtain ⟨v3, w3, k3⟩ := sent_locked (p := p) (q := y.2) (x := .unwatch y.1) v2 w2 nL upd_same ht
      refine ⟨_, _, ts ++ [t], rfl, v3, ?_, ?_⟩
      · have e : (Ha02.send { s with air := s.air ++ fWatched p { Ha02.proc s p with watches := (Ha02.proc s p).watches.take i } } p y.2 (.unwatch y.1)) = { s with air := s.air ++ fWatched p { Ha02.proc s p with watches := (Ha02.proc s p).watches.take (i + 1) } } := by
          simp [Ha02.send, fWatched, take_snoc hy]
        rw [← e]
        exact w3
      · exact ((hk.trans k1).trans k2).trans k3
    · rintro σ Hi ⟨n, q, ts, rfl, hv, hwi, hk⟩
      refine ⟨hv, ?_⟩
      have hl : (encP (Ha02.proc s p).watches).length = (Ha02.proc s p).watches.length := by simp [encP]
      rw [hl, List.take_length] at hwi
      exact k _ ts hwi hk
end
theorem perm_inl {xs : List Key} {L : List Int} (h : xs.Perm (L.map Sum.inl)) : ∃ ns : List Int, xs = ns.map Sum.inl ∧ ns.Perm L := by
  let f : Key → Int := fun k => match k with
    | .inl i => i
    | .inr _ => 0
  refine ⟨xs.map f, ?_, ?_⟩
  · rw [List.map_map]
    conv => lhs; rw [← List.map_id xs]
    refine List.map_congr_left fun k hk => ?_
    obtain ⟨i, _, rfl⟩ := List.mem_map.mp (h.mem_iff.mp hk)
    rfl
  · have := h.map f
    rw [List.map_map] at this
    exact this.trans (by
      have e : (f ∘ Sum.inl : Int → Int) = id := rfl
      rw [e, List.map_id])
theorem linkTo_self {x : Ha02.Proc} {y : Ha02.Link} (hs : x.links.Pairwise fun a b => a.to < b.to) (hy : y ∈ x.links) : Ha02.linkTo x y.to = some y := by
  unfold Ha02.linkTo
  revert hs hy
  generalize x.links = l
  intro hs hy
  induction l with
  | nil => simp at hy
  | cons z r ih =>
    obtain ⟨h1, h2⟩ := List.pairwise_cons.mp hs
    rw [List.find?_cons]
    rcases List.mem_cons.mp hy with e | m
    · subst e; simp
    · have := h1 y m
      have e : (z.to == y.to) = false := by simp; omega
      rw [e]
      exact ih h2 m
theorem PAt.holds {CP : Addr} {H : Hp} {o : PO} {x : Ha02.Proc} (h : PAt CP H o x) (hs : x.links.Pairwise fun a b => a.to < b.to) (q : Nat) : ∃ kvs, H o.l = some (.dK kvs) ∧ kvs.Perm (encL x.links) ∧ valV kvs (kn q) = (Ha02.linkTo x q).map fun y => iN y.cutting := by
  obtain ⟨kvs, e, pm⟩ := h.lnk
  refine ⟨kvs, e, pm, ?_⟩
  rw [valV_perm pm ((pm.map (·.1)).nodup_iff.mpr (encL_nodup hs)), valV_encL]
section
variable {P : Program} {w : World} {K : PySem.W.Frag} {mg : Str → Option Value} {base : Heap} {A : Adr}
theorem ok_tell_linked (T : Txt K mg A) : FnOk P w K mg base CX0 2 A.f_tell_linked A.d_tell_linked ["world", "p", "why"] (spTell A.C_World A.C_Process fLinked) := by
  refine T.F_tell_linked.ok sc_tell_linked (fun vs H Q E h => ?_) (fun cdv A' outer s H vs Q E hr h => ?_)
  · obtain ⟨d, s, p, why, rfl, _⟩ := h; rfl
  · obtain ⟨d, s, p, why, rfl, hw, hg, hp, hz, k⟩ := h
    have hu := hu_of hr
    obtain ⟨o, ho, po, pv_⟩ := hw.get hp
    have pg := hg
    have hlen := hg.nl
    obtain ⟨dx, hoa⟩ := po.ins
    obtain ⟨kvs, hkv, pm⟩ := po.lnk
    obtain ⟨ns, e1, e2⟩ := perm_inl (xs := kvs.map (·.1)) (L := (Ha02.proc s p).links.map fun y => (y.to : Int)) (by rw [← encL_keys]; exact pm.map _)
    refine ⟨_, (pss_cons (ps_set (i := 3) sc_tell_linked.nd rfl (Or.inl rfl) (pe_dget hu (pe_fld (pv 0) rfl) (pv 1) (fun _ _ => rfl)))
      (pss_one (ps_for PassesOwn.never rfl (pi_list (pe_callB (cr_sortedD rfl) (by rfl) T.sorted boot_sorted (pa_cons (pe_fld (pv 3) rfl) pa_nil))) (pg_name (i := 4) sc_tell_linked.nd rfl (Or.inl rfl)) (pss_one (ps_if (pt_val (pe_meth (pv 3) T.cl_Process T.me_Process_holds_link (ok_Process_holds_link T) (hr.mono (by decide)) T.b_Process_holds_link .nil pass0 (pa_cons (pv 4) pa_nil))) (pss_one (ps_expr (pe_meth (pv 0) T.cl_World T.me_World_send (ok_World_send T) (hr.mono (by decide)) T.b_World_send .nil pass0 (pa_cons (pv 1) (pa_cons (pv 4) (pa_cons (pe_tup (pa_cons (pe_gint rfl T.c_SIGNAL_ENDED) (pa_cons (pv 2) pa_nil))) pa_nil)))))) pss_nil))))), ?_⟩
    refine ⟨_, rfl, d.W, _, d.dW, _, _, rfl, hw.ins, T.cl_World, T.n_World_processes, rfl, _, rfl, d.dp, .ref o.a, rfl, dget_at hw.prs pv_, ?_⟩
    refine ⟨_, rfl, o.a, _, dx, _, _, rfl, hoa, T.cl_Process, T.n_Process_links, rfl, o.l, kvs, ns, rfl, .inl hkv, e1, ?_, fun ns' la pm' so hla => ?_⟩
    · rw [e2.length_eq, List.length_map]; omega
    have en : ns' = (Ha02.proc s p).links.map fun y => (y.to : Int) := sorted_same pg.srt (pm'.trans e2) so
    subst en
    obtain ⟨w1, k1⟩ := hw.alloc (x := .lst (((Ha02.proc s p).links.map fun y => (y.to : Int)).map V.int)) hla
    have hla2 : la ∉ d.adr := hw.out_of hla
    refine ⟨la, rfl, ⟨_, SqL.of upd_same⟩, for_list (K := K) (a := la) (xs := ((Ha02.proc s p).links.map fun y => (y.to : Int)).map V.int) (fun i σ Hi => ∃ (q : Option V) (ts : List Addr), σ = [some (.ref d.W), some (iN p), some (iN why), some (.ref o.a), q] ∧
      WAt A.C_World A.C_Process Hi { d with ts := ts } { s with air := s.air ++ fLinked p why { Ha02.proc s p with links := (Ha02.proc s p).links.take i } } ∧ Keeps (upd H la (.lst (((Ha02.proc s p).links.map fun y => (y.to : Int)).map V.int))) d Hi { d with ts := ts }) ⟨none, d.ts, rfl, ?_, Keeps.refl _ _⟩ (fun i σ Hi _ h => ?_) ?_ ?_⟩
    · have e : ({ s with air := s.air ++ fLinked p why { Ha02.proc s p with links := (Ha02.proc s p).links.take 0 } } : Ha02.St) = s := by simp [fLinked]
      rw [e]; exact w1
    · obtain ⟨_, _, _, _, kk⟩ := h
      exact SqL.of (kk.kp la _ upd_same hla2).1
    · rintro i x σ Hi hx ⟨q, ts, rfl, wi, ki⟩
      rw [List.getElem?_map, List.getElem?_map] at hx
      obtain ⟨z, hz1, rfl⟩ := Option.map_eq_some_iff.mp hx
      obtain ⟨y, hy, rfl⟩ := Option.map_eq_some_iff.mp hz1
      have hym := List.mem_of_getElem? hy
      have poi : PAt A.C_Process Hi o (Ha02.proc s p) := wi.at_ (p - 1) o _ ho (M.proc_at hp)
      obtain ⟨dxi, hoi⟩ := poi.ins
      obtain ⟨kvi, hki, pmi, vi⟩ := poi.holds pg.srt y.to
      rw [linkTo_self pg.srt hym] at vi
      have vi : valV kvi (Sum.inl (y.to : Int)) = some (iN y.cutting) := vi
      refine ⟨_, rfl, o.a, dxi, _, rfl, hoi, rfl, _, rfl, ?_⟩
      refine ⟨o.a, dxi, o.l, _, kvi, (y.to : Int), rfl, hoi, rfl, hki, fun v hv => ⟨_, (Option.some.inj (hv.symm.trans vi))⟩, _, rfl, ?_⟩
      rw [vi]
      refine ite2 (fun hc => ?_) (fun hc => ?_)
      · have hc0 : y.cutting = 0 := by
          have := of_decide_eq_true hc
          exact iN_inj.mp (Option.some.inj this)
        refine ⟨_, rfl, d.W, d.dW, _, rfl, wi.ins, rfl, _, rfl, _, rfl, _, rfl, (by show 2 ≤ sizeLine; decide), fun g hg0 => ?_⟩
        obtain ⟨w2, k2⟩ := wi.alloc (x := .tup [V.int 4, iN why]) hg0
        refine ⟨d.W, d.dW, d.ls, _, _, _, _, _, rfl, w2.ins, rfl, w2.lst, ?_, fun t ht => ?_⟩
        · rw [List.length_map, air_len w2]
          show (s.air ++ fLinked p why { Ha02.proc s p with links := (Ha02.proc s p).links.take i }).length < sizeLine
          rw [List.length_append]
          have : (fLinked p why { Ha02.proc s p with links := (Ha02.proc s p).links.take i }).length ≤ 100 := by
            simp only [fLinked, List.length_map]
            have a1 := List.length_filter_le (fun y : Ha02.Link => y.cutting == 0) ((Ha02.proc s p).links.take i)
            have a2 := List.length_take_le i (Ha02.proc s p).links
            have a3 : (List.take i (Ha02.proc s p).links).length ≤ (Ha02.proc s p).links.length := by rw [List.length_take]; omega
            omega
          exact Nat.lt_of_le_of_lt (Nat.add_le_add hz this) (by decide)
        · obtain ⟨w3, k3⟩ := w2.sent (p := p) (q := y.to) (x := .ended why) upd_same ht
          simp only [List.map_append, List.map_cons, List.map_nil] at w3 k3
          refine ⟨_, ts ++ [t], rfl, ?_, (ki.trans k2).trans k3⟩
          have e : (Ha02.send { s with air := s.air ++ fLinked p why { Ha02.proc s p with links := (Ha02.proc s p).links.take i } } p y.to (.ended why)) = { s with air := s.air ++ fLinked p why { Ha02.proc s p with links := (Ha02.proc s p).links.take (i + 1) } } := by
            simp [Ha02.send, fLinked, take_snoc hy, List.filter_append, hc0]
          rw [← e]
          exact w3
      · have hc0 : ¬ y.cutting = 0 := fun z => hc (by rw [z]; rfl)
        refine ⟨_, ts, rfl, ?_, ki⟩
        have e : ({ s with air := s.air ++ fLinked p why { Ha02.proc s p with links := (Ha02.proc s p).links.take i } } : Ha02.St) = { s with air := s.air ++ fLinked p why { Ha02.proc s p with links := (Ha02.proc s p).links.take (i + 1) } } := by
          simp [fLinked, take_snoc hy, List.filter_append, hc0]
        rw [← e]
        exact wi
    · rintro σ Hi ⟨q, ts, rfl, wi, ki⟩
      rw [List.length_map, List.length_map, List.take_length] at wi
      exact k _ ts wi (k1.trans ki)
end
end Lw
set_option maxRecDepth 100000
set_option maxHeartbeats 2000000
/-! An end; the calls of the first stage. -/
namespace Lw
open PySem PySem.Spec PyProof.Rows L2
theorem set_same {α : Type} : ∀ {l : List α} {i : Nat} {x : α}, l[i]? = some x → l.set i x = l
  | [], _, _, h => by simp at h
  | a :: l, 0, x, h => by
    have e : a = x := Option.some.inj h
    subst e; rfl
  | a :: l, i + 1, x, h => by
    show a :: l.set i x = a :: l
    rw [set_same (l := l) h]
theorem WAt.own {CW CP : Addr} {H : Hp} {d : Ad} {s : Ha02.St} {i : Nat} {o : PO} (h : WAt CW CP H d s) (ho : d.pos[i]? = some o) : o.adr.Nodup := by
  have hnd := h.nd
  simp only [Ad.adr, List.nodup_cons] at hnd
  have n7 := hnd.2.2.2
  obtain ⟨a, b, e⟩ := List.append_of_mem (List.mem_of_getElem? ho)
  rw [e, List.flatMap_append, List.flatMap_cons] at n7
  exact (List.nodup_append.mp (List.nodup_append.mp n7).2.1).1
structure OwnNe (o : PO) : Prop where
  al : o.a ≠ o.l
  aw : o.a ≠ o.w
  av : o.a ≠ o.v
  an : o.a ≠ o.n
  lw : o.l ≠ o.w
  lv : o.l ≠ o.v
  ln : o.l ≠ o.n
  wv : o.w ≠ o.v
  wn : o.w ≠ o.n
  vn : o.v ≠ o.n
theorem own_ne {o : PO} (h : o.adr.Nodup) : OwnNe o := by
  simp only [PO.adr, List.nodup_cons, List.mem_cons, List.not_mem_nil, or_false, not_or, List.nodup_nil, and_true, not_false_eq_true] at h
  exact ⟨h.1.1, h.1.2.1, h.1.2.2.1, h.1.2.2.2, h.2.1.1, h.2.1.2.1, h.2.1.2.2, h.2.2.1.1, h.2.2.1.2, h.2.2.2⟩
def spEnd (CW CP : Addr) : Sp := fun vs H Q _ => ∃ (d : Ad) (s : Ha02.St) (p why : Nat), vs = [.ref d.W, iN p, iN why] ∧ WAt CW CP H d s ∧ Fit (Ha02.proc s p) ∧ (1 ≤ p ∧ p ≤ s.procs.length) ∧ s.air.length ≤ 90000 ∧
  ∀ (H' : Hp) (d' : Ad), WAt CW CP H' d' (Ha02.dies s p why) → Keeps H d H' d' → Q .non H'
/-- the heap behind a call that answers -/
def Post (CW CP : Addr) (H : Hp) (d : Ad) (s : Ha02.St) (x : Ha02.Call) (Q : VK) : Prop :=
  ∀ (H' : Hp) (d' : Ad) (l : Addr), WAt CW CP H' d' (Ha02.step s x).1 → Keeps H d H' d' → (∀ b u, H b = some u → b ∉ d.adr → b ≠ l) → l ∉ d'.adr → H' l = some (.lst ((Ha02.step s x).2.map V.int)) → Q (.ref l) H'
def Pre (CW CP : Addr) (H : Hp) (d : Ad) (s : Ha02.St) (x : Ha02.Call) : Prop := WAt CW CP H d s ∧ (∃ c t, M.Good c t s ∧ (c + 1 ≤ 100 ∧ t ≤ 1000 * c)) ∧ M.refusal s x = 0
def spC0 (CW CP : Addr) (f : Ha02.Call) : Sp := fun vs H Q _ => ∃ (d : Ad) (s : Ha02.St), vs = [.ref d.W] ∧ Pre CW CP H d s f ∧ Post CW CP H d s f Q
def spC1 (CW CP : Addr) (f : Nat → Ha02.Call) : Sp := fun vs H Q _ => ∃ (d : Ad) (s : Ha02.St) (x : Nat), vs = [.ref d.W, iN x] ∧ Pre CW CP H d s (f x) ∧ Post CW CP H d s (f x) Q
def spC2 (CW CP : Addr) (f : Nat → Nat → Ha02.Call) : Sp := fun vs H Q _ => ∃ (d : Ad) (s : Ha02.St) (x y : Nat), vs = [.ref d.W, iN x, iN y] ∧ Pre CW CP H d s (f x y) ∧ Post CW CP H d s (f x y) Q
def spC3 (CW CP : Addr) (f : Nat → Nat → Nat → Ha02.Call) : Sp := fun vs H Q _ => ∃ (d : Ad) (s : Ha02.St) (x y z : Nat), vs = [.ref d.W, iN x, iN y, iN z] ∧ Pre CW CP H d s (f x y z) ∧ Post CW CP H d s (f x y z) Q
section
variable {CW CP : Addr} {H H1 : Hp} {d d1 : Ad} {s : Ha02.St} {x : Ha02.Call} {Q : VK}
theorem Post.ret (k : Post CW CP H d s x Q) (w1 : WAt CW CP H1 d1 (Ha02.step s x).1) (k1 : Keeps H d H1 d1) {l : Addr} (hl : H1 l = none) {vs : List V} (hv : vs = (Ha02.step s x).2.map V.int) : Q (.ref l) (upd H1 l (.lst vs)) := by
  obtain ⟨w2, k2⟩ := w1.alloc (x := .lst vs) hl
  refine k _ d1 l w2 (k1.trans k2) (fun b u e n z => ?_) (w1.out_of hl) (by rw [upd_same, hv])
  have := (k1.kp b u e n).1
  rw [z, hl] at this
  cases this
theorem air_small {c t : Nat} (g : M.Good c t s) (hc : c ≤ 100) : s.air.length ≤ 3000 := by
  have := g.room
  have := g.few
  omega
theorem line_small {n : Nat} (h : n ≤ 100000) : n < sizeLine := Nat.lt_of_le_of_lt h (by decide)
end
section
variable {P : Program} {w : World} {K : PySem.W.Frag} {mg : Str → Option Value} {base : Heap} {A : Adr}
theorem ok_end_process (T : Txt K mg A) : FnOk P w K mg base CX0 3 A.f_end_process A.d_end_process ["world", "p", "why"] (spEnd A.C_World A.C_Process) := by
  refine T.F_end_process.ok sc_end_process (fun vs H Q E h => ?_) (fun cdv A' outer s H vs Q E hr h => ?_)
  · obtain ⟨d, s, p, why, rfl, _⟩ := h; rfl
  · obtain ⟨d, s, p, why, rfl, hw, hf, hp, hz, k⟩ := h
    have hu := hu_of hr
    obtain ⟨o, ho, po, pv_⟩ := hw.get hp
    refine ⟨_, (pss_cons (ps_set (i := 3) sc_end_process.nd rfl (Or.inl rfl) (pe_dget hu (pe_fld (pv 0) rfl) (pv 1) (fun _ _ => rfl)))
      (pss_cons (ps_expr (pe_call (ok_tell_linked T) (hr.mono (by decide)) rfl T.m_tell_linked T.F_tell_linked.kp T.b_tell_linked .nil pass0 (pa_cons (pv 0) (pa_cons (pv 1) (pa_cons (pv 2) pa_nil)))))
      (pss_cons (ps_expr (pe_call (ok_tell_watchers T) (hr.mono (by decide)) rfl T.m_tell_watchers T.F_tell_watchers.kp T.b_tell_watchers .nil pass0 (pa_cons (pv 0) (pa_cons (pv 1) (pa_cons (pv 2) pa_nil)))))
      (pss_cons (ps_expr (pe_call (ok_tell_watched T) (hr.mono (by decide)) rfl T.m_tell_watched T.F_tell_watched.kp T.b_tell_watched .nil pass0 (pa_cons (pv 0) (pa_cons (pv 1) pa_nil))))
      (pss_cons (ps_fld (pv 3) pe_bl rfl)
      (pss_cons (ps_fld (pv 3) (pv 2) rfl)
      (pss_cons (ps_fld (pv 3) pe_dnewK rfl)
      (pss_cons (ps_fld (pv 3) pe_dnewK rfl)
      (pss_one (ps_fld (pv 3) pe_dnewK rfl)))))))))), ?_⟩
    refine ⟨_, rfl, d.W, _, d.dW, _, _, rfl, hw.ins, T.cl_World, T.n_World_processes, rfl, _, rfl, d.dp, .ref o.a, rfl, dget_at hw.prs pv_, ?_⟩
    have b1 : (fLinked p why (Ha02.proc s p)).length ≤ 60 := by
      simp only [fLinked, List.length_map]
      exact Nat.le_trans (List.length_filter_le _ _) hf.nl
    have b2 : (fWatchers p why (Ha02.proc s p)).length ≤ 100 := by simp only [fWatchers, List.length_map]; exact hf.nv
    refine ⟨_, rfl, _, rfl, _, rfl, d, s, p, why, rfl, hw, hf, hp, by omega, fun H1 ts1 w1 k1 => ?_⟩
    refine ⟨_, rfl, _, rfl, _, rfl, { d with ts := ts1 }, { s with air := s.air ++ fLinked p why (Ha02.proc s p) }, p, why, rfl, w1, hf, hp, by show (s.air ++ _).length ≤ _; rw [List.length_append]; omega, fun H2 ts2 w2 k2 => ?_⟩
    refine ⟨_, rfl, _, rfl, { d with ts := ts2 }, { s with air := (s.air ++ fLinked p why (Ha02.proc s p)) ++ fWatchers p why (Ha02.proc s p) }, p, rfl, w2, hf, hp, by show ((s.air ++ _) ++ _).length ≤ _; rw [List.length_append, List.length_append]; omega, fun H3 ts3 w3 k3 => ?_⟩
    have po3 : PAt A.C_Process H3 o (Ha02.proc s p) := w3.at_ (p - 1) o _ ho (M.proc_at hp)
    obtain ⟨dx, ha⟩ := po3.ins
    refine ⟨_, rfl, o.a, _, dx, _, rfl, ha, T.cl_Process, T.n_Process_living, (by show 7 < 1000; decide), ?_⟩
    refine ⟨_, rfl, _, rfl, o.a, _, dx, _, rfl, upd_same, T.cl_Process, T.n_Process_why, (by show 7 < 1000; decide), ?_⟩
    rw [upd_upd]
    intro l hl
    have nl : o.a ≠ l := fun z => by rw [z, upd_same] at hl; cases hl
    rw [upd_ne (Ne.symm nl)] at hl
    refine ⟨_, rfl, o.a, _, dx, _, rfl, (by rw [upd_ne nl]; exact upd_same), T.cl_Process, T.n_Process_links, (by show 7 < 1000; decide), ?_⟩
    rw [upd_over nl]
    intro m hm
    have nm : o.a ≠ m := fun z => by rw [z, upd_same] at hm; cases hm
    rw [upd_ne (Ne.symm nm)] at hm
    refine ⟨_, rfl, o.a, _, dx, _, rfl, (by rw [upd_ne nm]; exact upd_same), T.cl_Process, T.n_Process_watches, (by show 7 < 1000; decide), ?_⟩
    rw [upd_over nm]
    intro n hn
    have nn : o.a ≠ n := fun z => by rw [z, upd_same] at hn; cases hn
    rw [upd_ne (Ne.symm nn)] at hn
    refine ⟨_, rfl, o.a, _, dx, _, rfl, (by rw [upd_ne nn]; exact upd_same), T.cl_Process, T.n_Process_watchers, (by show 7 < 1000; decide), ?_⟩
    rw [upd_over nn]
    have ml : m ≠ l := fun z => by rw [z, upd_same] at hm; cases hm
    have nml : n ≠ m := fun z => by rw [z, upd_same] at hn; cases hn
    rw [upd_ne nml] at hn
    rw [upd_ne ml] at hm
    have nll : n ≠ l := fun z => by rw [z, upd_same] at hn; cases hn
    rw [upd_ne nll] at hn
    have on := (own_ne (w3.own ho)).an
    obtain ⟨bts, hbx, pbx⟩ := po3.box
    have ln : l ≠ o.n := fun z => by rw [z, hbx] at hl; cases hl
    have mn : m ≠ o.n := fun z => by rw [z, hbx] at hm; cases hm
    have nn' : n ≠ o.n := fun z => by rw [z, hbx] at hn; cases hn
    have kt : ∀ b xs, H3 b = some (.tup xs) → upd (upd (upd (upd H3 l (.dK [])) m (.dK [])) n (.dK [])) o.a (.ins A.C_Process dx (pf (M.ended (Ha02.proc s p) why) ⟨o.a, l, m, n, o.n⟩)) b = some (.tup xs) := fun b xs e => by
      rw [upd_ne (ne_of e ha (by intro z; cases z)), upd_ne (ne_of_none e hn), upd_ne (ne_of_none e hm), upd_ne (ne_of_none e hl)]
      exact e
    have fin := w3.proc (o' := ⟨o.a, l, m, n, o.n⟩) (x := M.ended (Ha02.proc s p) why) (H' := upd (upd (upd (upd H3 l (.dK [])) m (.dK [])) n (.dK [])) o.a (.ins A.C_Process dx (pf (M.ended (Ha02.proc s p) why) ⟨o.a, l, m, n, o.n⟩))) hp ho rfl
      (by simp [PO.adr, nl, nm, nn, Ne.symm ml, Ne.symm nml, Ne.symm nll, on, ln, mn, nn'])
      (fun b hb => by
        simp only [PO.adr, List.mem_cons, List.not_mem_nil, or_false] at hb
        rcases hb with e | e | e | e | e
        · exact .inl (by rw [e]; simp [PO.adr])
        · exact .inr (by rw [e]; exact hl)
        · exact .inr (by rw [e]; exact hm)
        · exact .inr (by rw [e]; exact hn)
        · exact .inl (by rw [e]; simp [PO.adr]))
      (fun b u e hb => by
        rw [upd_ne (fun z => hb (by rw [z]; simp [PO.adr])), upd_ne (ne_of_none e hn), upd_ne (ne_of_none e hm), upd_ne (ne_of_none e hl)]
        exact e)
      ⟨⟨dx, upd_same⟩, ⟨[], by show upd _ o.a _ l = _; rw [upd_ne (Ne.symm nl), upd_ne (Ne.symm nll), upd_ne (Ne.symm ml), upd_same], List.Perm.refl _⟩,
        (by show upd _ o.a _ m = _; rw [upd_ne (Ne.symm nm), upd_ne (Ne.symm nml), upd_same]; rfl), (by show upd _ o.a _ n = _; rw [upd_ne (Ne.symm nn), upd_same]; rfl),
        ⟨bts, (by show upd _ o.a _ o.n = _; rw [upd_ne (Ne.symm on), upd_ne (Ne.symm nn'), upd_ne (Ne.symm mn), upd_ne (Ne.symm ln)]; exact hbx), notes_kept kt pbx⟩⟩
    have e : Ha02.setProc { s with air := ((s.air ++ fLinked p why (Ha02.proc s p)) ++ fWatchers p why (Ha02.proc s p)) ++ fWatched p (Ha02.proc s p) } p (M.ended (Ha02.proc s p) why) = Ha02.dies s p why := by
      rw [M.dies_eq]
      simp [Ha02.setProc, M.lastWords, fLinked, fWatchers, fWatched, List.append_assoc]
    refine k _ _ ?_ (((k1.trans k2).trans k3).trans fin.2)
    rw [← e]
    exact fin.1
theorem ok_start (T : Txt K mg A) : FnOk P w K mg base CX0 4 A.f_start A.d_start ["world"] (spC0 A.C_World A.C_Process .start) := by
  refine T.F_start.ok sc_start (fun vs H Q E h => ?_) (fun cdv A' outer s H vs Q E hr h => ?_)
  · obtain ⟨d, s, rfl, _⟩ := h; rfl
  · obtain ⟨d, s, rfl, ⟨hw, ⟨c, t, hg, hc⟩, hz⟩, k⟩ := h
    refine ⟨_, (pss_one (ps_ret (pe_lst (pa_cons (pe_meth0 (pv 0) T.cl_World T.me_World_add_process (ok_World_add_process T) (hr.mono (by decide)) T.b_World_add_process .nil pass0) pa_nil)))), ?_⟩
    have hf : ¬ Ha02.PROCS ≤ s.procs.length := (M.ite_zero (by decide) hz).1
    refine ⟨_, rfl, d.W, d.dW, _, rfl, hw.ins, rfl, ?_⟩
    refine ⟨d, s, rfl, hw, (by have := hg.few; omega), fun H1 o w1 k1 => ⟨(by show 1 ≤ sizeLine; decide), fun l hl => ?_⟩⟩
    have e : Ha02.step s .start = ({ s with procs := s.procs ++ [Ha02.fresh] }, Ha02.ints [s.procs.length + 1]) := by simp only [Ha02.step]; rw [if_neg hf]
    refine k.ret (by rw [e]; exact w1) k1 hl (by rw [e]; rfl)
theorem ok_stop (T : Txt K mg A) : FnOk P w K mg base CX0 2 A.f_stop A.d_stop ["world", "p", "q", "why"] (spC3 A.C_World A.C_Process .halt_) := by
  refine T.F_stop.ok sc_stop (fun vs H Q E h => ?_) (fun cdv A' outer s H vs Q E hr h => ?_)
  · obtain ⟨d, s, p, q, why, rfl, _⟩ := h; rfl
  · obtain ⟨d, s, p, q, why, rfl, ⟨hw, ⟨c, t, hg, hc⟩, hz⟩, k⟩ := h
    obtain ⟨n1, hz⟩ := M.ite_zero (by decide) hz
    obtain ⟨n2, hz⟩ := M.ite_zero (by decide) hz
    obtain ⟨n3, hz⟩ := M.ite_zero (by decide) hz
    have e : Ha02.step s (.halt_ p q why) = (Ha02.send s p q (.halt_ why), [0]) := by simp only [Ha02.step]; rw [if_neg n1, if_neg n2, if_neg n3]
    refine ⟨_, (pss_cons (ps_expr (pe_meth (pv 0) T.cl_World T.me_World_send (ok_World_send T) (hr.mono (by decide)) T.b_World_send .nil pass0 (pa_cons (pv 1) (pa_cons (pv 2) (pa_cons (pe_tup (pa_cons (pe_gint rfl T.c_SIGNAL_STOP) (pa_cons (pv 3) pa_nil))) pa_nil)))))
      (pss_one (ps_ret (pe_lst (pa_cons pe_int pa_nil))))), ?_⟩
    refine ⟨_, rfl, d.W, d.dW, _, rfl, hw.ins, rfl, _, rfl, _, rfl, _, rfl, (by show 2 ≤ sizeLine; decide), fun g hg0 => ?_⟩
    obtain ⟨w1, k1⟩ := hw.alloc (x := .tup [V.int 5, iN why]) hg0
    refine ⟨d.W, d.dW, d.ls, _, _, _, _, _, rfl, w1.ins, rfl, w1.lst, (by rw [List.length_map, air_len w1]; exact line_small (by have := air_small hg (by omega); omega)), fun t ht => ?_⟩
    obtain ⟨w2, k2⟩ := w1.sent (p := p) (q := q) (x := .halt_ why) upd_same ht
    simp only [List.map_append, List.map_cons, List.map_nil] at w2 k2
    refine ⟨(by show 1 ≤ sizeLine; decide), fun l hl => ?_⟩
    exact k.ret (by rw [e]; exact w2) (k1.trans k2) hl (by rw [e]; rfl)
theorem ok_ends (T : Txt K mg A) : FnOk P w K mg base CX0 4 A.f_ends A.d_ends ["world", "p", "why"] (spC2 A.C_World A.C_Process .ends) := by
  refine T.F_ends.ok sc_ends (fun vs H Q E h => ?_) (fun cdv A' outer s H vs Q E hr h => ?_)
  · obtain ⟨d, s, p, why, rfl, _⟩ := h; rfl
  · obtain ⟨d, s, p, why, rfl, ⟨hw, ⟨c, t, hg, hc⟩, hz⟩, k⟩ := h
    obtain ⟨n1, hz⟩ := M.ite_zero (by decide) hz
    obtain ⟨n2, hz⟩ := M.ite_zero (by decide) hz
    have hp := M.not_there fun z => n1 (.inl z)
    have e : Ha02.step s (.ends p why) = (Ha02.dies s p why, Ha02.ints [(Ha02.dies s p why).air.length - s.air.length]) := by simp only [Ha02.step]; rw [if_neg n1, if_neg n2]
    refine ⟨_, (pss_cons (ps_set (i := 3) sc_ends.nd rfl (Or.inl rfl) (pe_callB call_len_seq (by rfl) T.len PySem.boot_len (pa_cons (pe_fld (pv 0) rfl) pa_nil)))
      (pss_cons (ps_expr (pe_call (ok_end_process T) (hr.mono (by decide)) rfl T.m_end_process T.F_end_process.kp T.b_end_process .nil pass0 (pa_cons (pv 0) (pa_cons (pv 1) (pa_cons (pv 2) pa_nil)))))
      (pss_one (ps_ret (pe_lst (pa_cons (pe_op op_sub (pe_callB call_len_seq (by rfl) T.len PySem.boot_len (pa_cons (pe_fld (pv 0) rfl) pa_nil)) (pv 3)) pa_nil)))))), ?_⟩
    refine ⟨_, rfl, d.W, _, d.dW, _, _, rfl, hw.ins, T.cl_World, T.n_World_signals, rfl, d.ls, _, rfl, .inl (SqL.of hw.lst), ?_⟩
    refine ⟨_, rfl, _, rfl, _, rfl, d, s, p, why, rfl, hw, fit_of hg (by omega) hp, hp, (by have := air_small hg (by omega); omega), fun H1 d1 w1 k1 => ?_⟩
    refine ⟨_, rfl, d1.W, _, d1.dW, _, _, (by rw [k1.W]), w1.ins, T.cl_World, T.n_World_signals, rfl, d1.ls, _, rfl, .inl (SqL.of w1.lst), _, rfl, _, _, rfl, rfl, (by show 1 ≤ sizeLine; decide), fun l hl => ?_⟩
    refine k.ret (by rw [e]; exact w1) k1 hl ?_
    rw [e]
    have h1 := air_len hw
    have h2 := air_len w1
    have h3 : s.air.length ≤ (Ha02.dies s p why).air.length := by rw [M.dies_eq]; show _ ≤ (s.air ++ _).length; rw [List.length_append]; omega
    show [V.int (((d1.ts.map V.ref).length : Int) - ((d.ts.map V.ref).length : Int))] = [V.int (((Ha02.dies s p why).air.length - s.air.length : Nat) : Int)]
    rw [List.length_map, List.length_map, h1, h2]
    congr 2
    omega
end
end Lw
set_option maxRecDepth 100000
set_option maxHeartbeats 2000000
/-! Link, cut, watch, unwatch, child. -/
namespace Lw
open PySem PySem.Spec PyProof.Rows L2
section
variable {CW CP : Addr} {H : Hp} {d : Ad} {s : Ha02.St} {p : Nat} {o : PO}
theorem WAt.chg (h : WAt CW CP H d s) {x : Ha02.Proc} {b : Addr} {u : HO} (hp : 1 ≤ p ∧ p ≤ s.procs.length) (ho : d.pos[p - 1]? = some o) (hb : b ∈ o.adr) (hx : PAt CP (upd H b u) o x) : WAt CW CP (upd H b u) d (Ha02.setProc s p x) ∧ Keeps H d (upd H b u) d := by
  have e := h.proc (o' := o) (x := x) (H' := upd H b u) hp ho rfl (h.own ho) (fun c hc => .inl hc) (fun c v e n => by rw [upd_ne (fun z : c = b => n (by rw [z]; exact hb))]; exact e) hx
  rw [set_same ho] at e
  exact e
theorem WAt.setL (h : WAt CW CP H d s) {kvs : List (Key × V)} {ls : List Ha02.Link} (hp : 1 ≤ p ∧ p ≤ s.procs.length) (ho : d.pos[p - 1]? = some o) (pm : kvs.Perm (encL ls)) :
    WAt CW CP (upd H o.l (.dK kvs)) d (Ha02.setProc s p { Ha02.proc s p with links := ls }) ∧ Keeps H d (upd H o.l (.dK kvs)) d := by
  have n := own_ne (h.own ho)
  have po := h.at_ (p - 1) o _ ho (M.proc_at hp)
  obtain ⟨dx, ha⟩ := po.ins
  obtain ⟨kv0, hl, _⟩ := po.lnk
  obtain ⟨ts, hb, pb⟩ := po.box
  refine h.chg hp ho (by simp [PO.adr]) ⟨⟨dx, ?_⟩, ⟨kvs, upd_same, pm⟩, ?_, ?_, ⟨ts, ?_, notes_kept (fun b xs e => ?_) pb⟩⟩
  · rw [upd_ne n.al]; exact ha
  · rw [upd_ne (Ne.symm n.lw)]; exact po.wat
  · rw [upd_ne (Ne.symm n.lv)]; exact po.vat
  · rw [upd_ne (Ne.symm n.ln)]; exact hb
  · rw [upd_ne (ne_of e hl (by intro z; cases z))]; exact e
theorem WAt.setW (h : WAt CW CP H d s) {ws : List (Nat × Nat)} (hp : 1 ≤ p ∧ p ≤ s.procs.length) (ho : d.pos[p - 1]? = some o) :
    WAt CW CP (upd H o.w (.dK (encP ws))) d (Ha02.setProc s p { Ha02.proc s p with watches := ws }) ∧ Keeps H d (upd H o.w (.dK (encP ws))) d := by
  have n := own_ne (h.own ho)
  have po := h.at_ (p - 1) o _ ho (M.proc_at hp)
  obtain ⟨dx, ha⟩ := po.ins
  obtain ⟨kvs, hl, pm⟩ := po.lnk
  obtain ⟨ts, hb, pb⟩ := po.box
  refine h.chg hp ho (by simp [PO.adr]) ⟨⟨dx, ?_⟩, ⟨kvs, ?_, pm⟩, upd_same, ?_, ⟨ts, ?_, notes_kept (fun b xs e => ?_) pb⟩⟩
  · rw [upd_ne n.aw]; exact ha
  · rw [upd_ne n.lw]; exact hl
  · rw [upd_ne (Ne.symm n.wv)]; exact po.vat
  · rw [upd_ne (Ne.symm n.wn)]; exact hb
  · rw [upd_ne (ne_of e po.wat (by intro z; cases z))]; exact e
theorem WAt.setV (h : WAt CW CP H d s) {ws : List (Nat × Nat)} (hp : 1 ≤ p ∧ p ≤ s.procs.length) (ho : d.pos[p - 1]? = some o) :
    WAt CW CP (upd H o.v (.dK (encP ws))) d (Ha02.setProc s p { Ha02.proc s p with watched := ws }) ∧ Keeps H d (upd H o.v (.dK (encP ws))) d := by
  have n := own_ne (h.own ho)
  have po := h.at_ (p - 1) o _ ho (M.proc_at hp)
  obtain ⟨dx, ha⟩ := po.ins
  obtain ⟨kvs, hl, pm⟩ := po.lnk
  obtain ⟨ts, hb, pb⟩ := po.box
  refine h.chg hp ho (by simp [PO.adr]) ⟨⟨dx, ?_⟩, ⟨kvs, ?_, pm⟩, ?_, upd_same, ⟨ts, ?_, notes_kept (fun b xs e => ?_) pb⟩⟩
  · rw [upd_ne n.av]; exact ha
  · rw [upd_ne n.lv]; exact hl
  · rw [upd_ne n.wv]; exact po.wat
  · rw [upd_ne (Ne.symm n.vn)]; exact hb
  · rw [upd_ne (ne_of e po.vat (by intro z; cases z))]; exact e
/-- a note is put in a box -/
theorem WAt.setN (h : WAt CW CP H d s) {t : Addr} {ts : List Addr} {m : Ha02.Note} (hp : 1 ≤ p ∧ p ≤ s.procs.length) (ho : d.pos[p - 1]? = some o) (hb : H o.n = some (.lst (ts.map V.ref))) (pb : Paired (NoteAt H) ts (Ha02.proc s p).box) (ht : NoteAt H t m) :
    WAt CW CP (upd H o.n (.lst (ts.map V.ref ++ [V.ref t]))) d (Ha02.setProc s p (Ha02.notes (Ha02.proc s p) m)) ∧ Keeps H d (upd H o.n (.lst (ts.map V.ref ++ [V.ref t]))) d := by
  have n := own_ne (h.own ho)
  have po := h.at_ (p - 1) o _ ho (M.proc_at hp)
  obtain ⟨dx, ha⟩ := po.ins
  obtain ⟨kvs, hl, pm⟩ := po.lnk
  have kt : ∀ b xs, H b = some (.tup xs) → upd H o.n (.lst (ts.map V.ref ++ [V.ref t])) b = some (.tup xs) := fun b xs e => by rw [upd_ne (ne_of e hb (by intro z; cases z))]; exact e
  refine h.chg hp ho (by simp [PO.adr]) ⟨⟨dx, ?_⟩, ⟨kvs, ?_, pm⟩, ?_, ?_, ⟨ts ++ [t], ?_, (notes_kept kt pb).snoc (kt _ _ ht)⟩⟩
  · rw [upd_ne n.an]; exact ha
  · rw [upd_ne n.ln]; exact hl
  · rw [upd_ne n.wn]; exact po.wat
  · rw [upd_ne n.vn]; exact po.vat
  · rw [upd_same, List.map_append]; rfl
/-- whether it traps -/
theorem WAt.setT (h : WAt CW CP H d s) {y : Bool} {dx : Addr} (hp : 1 ≤ p ∧ p ≤ s.procs.length) (ho : d.pos[p - 1]? = some o) (ha : H o.a = some (.ins CP dx (pf (Ha02.proc s p) o))) :
    WAt CW CP (upd H o.a (.ins CP dx (pf { Ha02.proc s p with traps := y } o))) d (Ha02.setProc s p { Ha02.proc s p with traps := y }) ∧ Keeps H d (upd H o.a (.ins CP dx (pf { Ha02.proc s p with traps := y } o))) d := by
  have n := own_ne (h.own ho)
  have po := h.at_ (p - 1) o _ ho (M.proc_at hp)
  obtain ⟨kvs, hl, pm⟩ := po.lnk
  obtain ⟨ts, hb, pb⟩ := po.box
  refine h.chg hp ho (by simp [PO.adr]) ⟨⟨dx, upd_same⟩, ⟨kvs, ?_, pm⟩, ?_, ?_, ⟨ts, ?_, notes_kept (fun b xs e => ?_) pb⟩⟩
  · rw [upd_ne (Ne.symm n.al)]; exact hl
  · rw [upd_ne (Ne.symm n.aw)]; exact po.wat
  · rw [upd_ne (Ne.symm n.av)]; exact po.vat
  · rw [upd_ne (Ne.symm n.an)]; exact hb
  · rw [upd_ne (ne_of e ha (by intro z; cases z))]; exact e
theorem put_link {x : Ha02.Proc} {kvs : List (Key × V)} (hs : x.links.Pairwise fun a b => a.to < b.to) (pm : kvs.Perm (encL x.links)) (q k : Nat) : (putK kvs (kn q) (iN k)).Perm (encL (Ha02.insertLink ⟨q, k⟩ x.links)) :=
  (putK_perm pm ((pm.map (·.1)).nodup_iff.mpr (encL_nodup hs)) _ _).trans (insert_perm hs)
/-- whether p's link to q holds, as the text asks it -/
theorem holds_iff {x : Ha02.Proc} {q : Nat} {kvs : List (Key × V)} (h : valV kvs (kn q) = (Ha02.linkTo x q).map fun y => iN y.cutting) : (valV kvs (Sum.inl (q : Int)) = some (.int 0)) ↔ ∃ y, Ha02.linkTo x q = some y ∧ y.cutting = 0 := by
  have h' : valV kvs (Sum.inl (q : Int)) = (Ha02.linkTo x q).map fun y => iN y.cutting := h
  rw [h']
  cases e : Ha02.linkTo x q with
  | none => simp
  | some y =>
    constructor
    · intro z
      have z' : iN y.cutting = iN 0 := Option.some.inj z
      exact ⟨y, rfl, iN_inj.mp z'⟩
    · rintro ⟨y', e1, e2⟩
      have e3 : y = y' := Option.some.inj e1
      rw [e3]
      show some (iN y'.cutting) = some (iN 0)
      rw [e2]
theorem holds_int {x : Ha02.Proc} {q : Nat} {kvs : List (Key × V)} (h : valV kvs (kn q) = (Ha02.linkTo x q).map fun y => iN y.cutting) : ∀ v, valV kvs (Sum.inl (q : Int)) = some v → ∃ z, v = .int z := by
  intro v hv
  have h' : valV kvs (Sum.inl (q : Int)) = (Ha02.linkTo x q).map fun y => iN y.cutting := h
  rw [h'] at hv
  obtain ⟨y, _, e⟩ := Option.map_eq_some_iff.mp hv
  exact ⟨_, e.symm⟩
theorem kvs_len {x : Ha02.Proc} {kvs : List (Key × V)} (pm : kvs.Perm (encL x.links)) (hf : Fit x) : kvs.length < sizeLine := by
  rw [pm.length_eq]; exact line_small (by have := hf.nl; simp [encL]; omega)
end
section
variable {P : Program} {w : World} {K : PySem.W.Frag} {mg : Str → Option Value} {base : Heap} {A : Adr}
theorem ok_link (T : Txt K mg A) : FnOk P w K mg base CX0 2 A.f_link A.d_link ["world", "p", "q"] (spC2 A.C_World A.C_Process .link) := by
  refine T.F_link.ok sc_link (fun vs H Q E h => ?_) (fun cdv A' outer s H vs Q E hr h => ?_)
  · obtain ⟨d, s, p, q, rfl, _⟩ := h; rfl
  · obtain ⟨d, s, p, q, rfl, ⟨hw, ⟨c, t, hg, hc⟩, hz⟩, k⟩ := h
    have hu := hu_of hr
    obtain ⟨n1, hz⟩ := M.ite_zero (by decide) hz
    obtain ⟨n2, hz⟩ := M.ite_zero (by decide) hz
    obtain ⟨n3, hz⟩ := M.ite_zero (by decide) hz
    have hp := M.not_there fun z => n1 (.inl z)
    have hf := fit_of hg (by omega) hp
    have e : Ha02.step s (.link p q) = (Ha02.links s p q, Ha02.ints [(Ha02.links s p q).air.length - s.air.length]) := by simp only [Ha02.step]; rw [if_neg n1, if_neg n2, if_neg n3]
    obtain ⟨o, ho, po, pv_⟩ := hw.get hp
    obtain ⟨dx, ha⟩ := po.ins
    obtain ⟨kvs, hl, pm, hv⟩ := po.holds hf.srt q
    refine ⟨_, (pss_cons (ps_set (i := 3) sc_link.nd rfl (Or.inl rfl) (pe_dget hu (pe_fld (pv 0) rfl) (pv 1) (fun _ _ => rfl)))
      (pss_cons (ps_if (pt_val (pe_meth (pv 3) T.cl_Process T.me_Process_holds_link (ok_Process_holds_link T) (hr.mono (by decide)) T.b_Process_holds_link .nil pass0 (pa_cons (pv 2) pa_nil))) (pss_one (ps_ret (pe_lst (pa_cons pe_int pa_nil)))) pss_nil)
      (pss_cons (ps_dput hu (pe_fld (pv 3) rfl) (pv 2) (pe_gint rfl T.c_HOLDS) rfl)
      (pss_cons (ps_expr (pe_meth (pv 0) T.cl_World T.me_World_send (ok_World_send T) (hr.mono (by decide)) T.b_World_send .nil pass0 (pa_cons (pv 1) (pa_cons (pv 2) (pa_cons (pe_tup (pa_cons (pe_gint rfl T.c_SIGNAL_LINK) pa_nil)) pa_nil)))))
      (pss_one (ps_ret (pe_lst (pa_cons pe_int pa_nil)))))))), ?_⟩
    refine ⟨_, rfl, d.W, _, d.dW, _, _, rfl, hw.ins, T.cl_World, T.n_World_processes, rfl, _, rfl, d.dp, .ref o.a, rfl, dget_at hw.prs pv_, ?_⟩
    refine ⟨_, rfl, o.a, dx, _, rfl, ha, rfl, _, rfl, ?_⟩
    refine ⟨o.a, dx, o.l, _, kvs, (q : Int), rfl, ha, rfl, hl, holds_int hv, _, rfl, ?_⟩
    refine ite2 (fun hc1 => ?_) (fun hc1 => ?_)
    · obtain ⟨y, hy, hy0⟩ := (holds_iff hv).mp (of_decide_eq_true hc1)
      have e2 : Ha02.links s p q = s := by unfold Ha02.links; rw [hy]; exact if_pos hy0
      rw [e2] at e
      refine ⟨(by show 1 ≤ sizeLine; decide), fun l hl0 => ?_⟩
      exact k.ret (by rw [e]; exact hw) (Keeps.refl _ _) hl0 (by rw [e]; simp [Ha02.ints])
    · have e2 : Ha02.links s p q = Ha02.send (Ha02.setProc s p (Ha02.withLink (Ha02.proc s p) q 0)) p q .link := by
        unfold Ha02.links
        cases hy : Ha02.linkTo (Ha02.proc s p) q with
        | none => rfl
        | some y =>
          show (if y.cutting = 0 then s else _) = _
          rw [if_neg fun z => hc1 (decide_eq_true ((holds_iff hv).mpr ⟨y, hy, z⟩))]
      obtain ⟨w1, k1⟩ := hw.setL hp ho (put_link hf.srt pm q 0)
      refine ⟨_, rfl, o.a, _, dx, _, _, rfl, ha, T.cl_Process, T.n_Process_links, rfl, _, rfl, o.l, _, rfl, DPut.k (k := kn q) hl (kvs_len pm hf), ?_⟩
      refine ⟨_, rfl, d.W, d.dW, _, rfl, w1.ins, rfl, _, rfl, _, rfl, (by show 1 ≤ sizeLine; decide), fun g hg0 => ?_⟩
      obtain ⟨w2, k2⟩ := w1.alloc (x := .tup [V.int 1]) hg0
      refine ⟨d.W, d.dW, d.ls, _, _, _, _, _, rfl, w2.ins, rfl, w2.lst, (by rw [List.length_map, air_len w2]; exact line_small (by have := air_small hg (by omega); show s.air.length ≤ _; omega)), fun t ht => ?_⟩
      obtain ⟨w3, k3⟩ := w2.sent (p := p) (q := q) (x := .link) upd_same ht
      simp only [List.map_append, List.map_cons, List.map_nil] at w3 k3
      refine ⟨(by show 1 ≤ sizeLine; decide), fun l hl0 => ?_⟩
      refine k.ret (by rw [e, e2]; exact w3) ((k1.trans k2).trans k3) hl0 ?_
      rw [e, e2]
      simp [Ha02.ints, Ha02.send, Ha02.setProc]
theorem ok_cut (T : Txt K mg A) : FnOk P w K mg base CX0 2 A.f_cut A.d_cut ["world", "p", "q"] (spC2 A.C_World A.C_Process .cut) := by
  refine T.F_cut.ok sc_cut (fun vs H Q E h => ?_) (fun cdv A' outer s H vs Q E hr h => ?_)
  · obtain ⟨d, s, p, q, rfl, _⟩ := h; rfl
  · obtain ⟨d, s, p, q, rfl, ⟨hw, ⟨c, t, hg, hc⟩, hz⟩, k⟩ := h
    have hu := hu_of hr
    obtain ⟨n1, hz⟩ := M.ite_zero (by decide) hz
    obtain ⟨n2, hz⟩ := M.ite_zero (by decide) hz
    obtain ⟨n3, hz⟩ := M.ite_zero (by decide) hz
    have hp := M.not_there fun z => n1 (.inl z)
    have hf := fit_of hg (by omega) hp
    have e : Ha02.step s (.cut p q) = (Ha02.cuts s p q, Ha02.ints [(Ha02.cuts s p q).air.length - s.air.length]) := by simp only [Ha02.step]; rw [if_neg n1, if_neg n2, if_neg n3]
    obtain ⟨o, ho, po, pv_⟩ := hw.get hp
    obtain ⟨dx, ha⟩ := po.ins
    obtain ⟨kvs, hl, pm, hv⟩ := po.holds hf.srt q
    refine ⟨_, (pss_cons (ps_set (i := 3) sc_cut.nd rfl (Or.inl rfl) (pe_dget hu (pe_fld (pv 0) rfl) (pv 1) (fun _ _ => rfl)))
      (pss_cons (ps_if (pt_not (pt_val (pe_meth (pv 3) T.cl_Process T.me_Process_holds_link (ok_Process_holds_link T) (hr.mono (by decide)) T.b_Process_holds_link .nil pass0 (pa_cons (pv 2) pa_nil)))) (pss_one (ps_ret (pe_lst (pa_cons pe_int pa_nil)))) pss_nil)
      (pss_cons (ps_set (i := 4) sc_cut.nd rfl (Or.inl rfl) (pe_meth0 (pv 0) T.cl_World T.me_World_begin_number (ok_World_begin_number T) (hr.mono (by decide)) T.b_World_begin_number .nil pass0))
      (pss_cons (ps_dput hu (pe_fld (pv 3) rfl) (pv 2) (pv 4) rfl)
      (pss_cons (ps_expr (pe_meth (pv 0) T.cl_World T.me_World_send (ok_World_send T) (hr.mono (by decide)) T.b_World_send .nil pass0 (pa_cons (pv 1) (pa_cons (pv 2) (pa_cons (pe_tup (pa_cons (pe_gint rfl T.c_SIGNAL_CUT) (pa_cons (pv 4) pa_nil))) pa_nil)))))
      (pss_one (ps_ret (pe_lst (pa_cons pe_int pa_nil))))))))), ?_⟩
    refine ⟨_, rfl, d.W, _, d.dW, _, _, rfl, hw.ins, T.cl_World, T.n_World_processes, rfl, _, rfl, d.dp, .ref o.a, rfl, dget_at hw.prs pv_, ?_⟩
    refine ⟨_, rfl, o.a, dx, _, rfl, ha, rfl, _, rfl, ?_⟩
    refine ⟨o.a, dx, o.l, _, kvs, (q : Int), rfl, ha, rfl, hl, holds_int hv, _, rfl, ?_⟩
    by_cases hc1 : valV kvs (Sum.inl (q : Int)) = some (.int 0)
    · rw [decide_eq_true hc1]
      obtain ⟨y, hy, hy0⟩ := (holds_iff hv).mp hc1
      have e2 : Ha02.cuts s p q = Ha02.send (Ha02.setProc { s with last := s.last + 1 } p (Ha02.withLink (Ha02.proc s p) q (s.last + 1))) p q (.cut (s.last + 1)) := by unfold Ha02.cuts; rw [hy]; exact if_pos hy0
      refine iteF ?_
      refine ⟨_, rfl, d.W, d.dW, _, rfl, hw.ins, rfl, d, s, rfl, hw, fun H0 w0 k0 => ?_⟩
      have po0 := w0.at_ (p - 1) o _ ho (M.proc_at hp)
      obtain ⟨dx0, ha0⟩ := po0.ins
      obtain ⟨kv0, hl0, pm0⟩ := po0.lnk
      obtain ⟨w1, k1⟩ := w0.setL hp ho (put_link (x := Ha02.proc s p) hf.srt pm0 q (s.last + 1))
      refine ⟨_, rfl, _, rfl, o.a, _, dx0, _, _, rfl, ha0, T.cl_Process, T.n_Process_links, rfl, _, rfl, o.l, _, rfl, DPut.k (k := kn q) hl0 (kvs_len (x := Ha02.proc s p) pm0 hf), ?_⟩
      refine ⟨_, rfl, d.W, d.dW, _, rfl, w1.ins, rfl, _, rfl, _, rfl, _, rfl, (by show 2 ≤ sizeLine; decide), fun g hg0 => ?_⟩
      obtain ⟨w2, k2⟩ := w1.alloc (x := .tup [V.int 2, iN (s.last + 1)]) hg0
      refine ⟨d.W, d.dW, d.ls, _, _, _, _, _, rfl, w2.ins, rfl, w2.lst, (by rw [List.length_map, air_len w2]; exact line_small (by have := air_small hg (by omega); show s.air.length ≤ _; omega)), fun t ht => ?_⟩
      obtain ⟨w3, k3⟩ := w2.sent (p := p) (q := q) (x := .cut (s.last + 1)) upd_same ht
      simp only [List.map_append, List.map_cons, List.map_nil] at w3 k3
      refine ⟨(by show 1 ≤ sizeLine; decide), fun l hl0 => ?_⟩
      refine k.ret (by rw [e, e2]; exact w3) (((k0.trans k1).trans k2).trans k3) hl0 ?_
      rw [e, e2]
      simp [Ha02.ints, Ha02.send, Ha02.setProc]
    · rw [decide_eq_false hc1]
      have e2 : Ha02.cuts s p q = s := by
        unfold Ha02.cuts
        cases hy : Ha02.linkTo (Ha02.proc s p) q with
        | none => rfl
        | some y =>
          show (if y.cutting = 0 then _ else s) = _
          rw [if_neg fun z => hc1 ((holds_iff hv).mpr ⟨y, hy, z⟩)]
      rw [e2] at e
      refine iteT ?_
      refine ⟨(by show 1 ≤ sizeLine; decide), fun l hl0 => ?_⟩
      exact k.ret (by rw [e]; exact hw) (Keeps.refl _ _) hl0 (by rw [e]; simp [Ha02.ints])
theorem ok_watch (T : Txt K mg A) : FnOk P w K mg base CX0 2 A.f_watch A.d_watch ["world", "p", "q"] (spC2 A.C_World A.C_Process .watch) := by
  refine T.F_watch.ok sc_watch (fun vs H Q E h => ?_) (fun cdv A' outer s H vs Q E hr h => ?_)
  · obtain ⟨d, s, p, q, rfl, _⟩ := h; rfl
  · obtain ⟨d, s, p, q, rfl, ⟨hw, ⟨c, t, hg, hc⟩, hz⟩, k⟩ := h
    have hu := hu_of hr
    obtain ⟨n1, hz⟩ := M.ite_zero (by decide) hz
    obtain ⟨n2, hz⟩ := M.ite_zero (by decide) hz
    obtain ⟨n3, hz⟩ := M.ite_zero (by decide) hz
    have hp := M.not_there fun z => n1 (.inl z)
    have hf := fit_of hg (by omega) hp
    have pg := hg.pg _ (M.proc_mem hp)
    have e : Ha02.step s (.watch p q) = (Ha02.watches s p q, Ha02.ints [s.last + 1]) := by simp only [Ha02.step]; rw [if_neg n1, if_neg n2, if_neg n3]
    obtain ⟨o, ho, po, pv_⟩ := hw.get hp
    refine ⟨_, (pss_cons (ps_set (i := 3) sc_watch.nd rfl (Or.inl rfl) (pe_dget hu (pe_fld (pv 0) rfl) (pv 1) (fun _ _ => rfl)))
      (pss_cons (ps_set (i := 4) sc_watch.nd rfl (Or.inl rfl) (pe_meth0 (pv 0) T.cl_World T.me_World_begin_number (ok_World_begin_number T) (hr.mono (by decide)) T.b_World_begin_number .nil pass0))
      (pss_cons (ps_dput hu (pe_fld (pv 3) rfl) (pv 4) (pv 2) rfl)
      (pss_cons (ps_expr (pe_meth (pv 0) T.cl_World T.me_World_send (ok_World_send T) (hr.mono (by decide)) T.b_World_send .nil pass0 (pa_cons (pv 1) (pa_cons (pv 2) (pa_cons (pe_tup (pa_cons (pe_gint rfl T.c_SIGNAL_WATCH) (pa_cons (pv 4) pa_nil))) pa_nil)))))
      (pss_one (ps_ret (pe_lst (pa_cons (pv 4) pa_nil)))))))), ?_⟩
    refine ⟨_, rfl, d.W, _, d.dW, _, _, rfl, hw.ins, T.cl_World, T.n_World_processes, rfl, _, rfl, d.dp, .ref o.a, rfl, dget_at hw.prs pv_, ?_⟩
    refine ⟨_, rfl, d.W, d.dW, _, rfl, hw.ins, rfl, d, s, rfl, hw, fun H0 w0 k0 => ?_⟩
    have po0 := w0.at_ (p - 1) o _ ho (M.proc_at hp)
    obtain ⟨dx0, ha0⟩ := po0.ins
    have nk : s.last + 1 ∉ (Ha02.proc s p).watches.map (·.1) := fun m => by
      obtain ⟨z, hz, ez⟩ := List.mem_map.mp m
      have h1 := (pg.win z hz).1.2
      have ez : z.1 = s.last + 1 := ez
      omega
    obtain ⟨w1, k1⟩ := w0.setW (ws := (Ha02.proc s p).watches ++ [(s.last + 1, q)]) hp ho
    refine ⟨_, rfl, _, rfl, o.a, _, dx0, _, _, rfl, ha0, T.cl_Process, T.n_Process_watches, rfl, _, rfl, o.w, _, rfl, DPut.k (k := kn (s.last + 1)) po0.wat (line_small (by have := hf.nw; simp [encP]; show (Ha02.proc s p).watches.length ≤ _; omega)), ?_⟩
    have ep : putK (encP (Ha02.proc { s with last := s.last + 1 } p).watches) (kn (s.last + 1)) (iN q) = encP ((Ha02.proc s p).watches ++ [(s.last + 1, q)]) := encP_put nk
    rw [show putK (encP (Ha02.proc { s with last := s.last + 1 } p).watches) (kn (s.last + 1)) _ = encP ((Ha02.proc s p).watches ++ [(s.last + 1, q)]) from ep]
    refine ⟨_, rfl, d.W, d.dW, _, rfl, w1.ins, rfl, _, rfl, _, rfl, _, rfl, (by show 2 ≤ sizeLine; decide), fun g hg0 => ?_⟩
    obtain ⟨w2, k2⟩ := w1.alloc (x := .tup [V.int 6, iN (s.last + 1)]) hg0
    refine ⟨d.W, d.dW, d.ls, _, _, _, _, _, rfl, w2.ins, rfl, w2.lst, (by rw [List.length_map, air_len w2]; exact line_small (by have := air_small hg (by omega); show s.air.length ≤ _; omega)), fun t ht => ?_⟩
    obtain ⟨w3, k3⟩ := w2.sent (p := p) (q := q) (x := .watch (s.last + 1)) upd_same ht
    simp only [List.map_append, List.map_cons, List.map_nil] at w3 k3
    refine ⟨_, rfl, (by show 1 ≤ sizeLine; decide), fun l hl0 => ?_⟩
    exact k.ret (by rw [e]; exact w3) (((k0.trans k1).trans k2).trans k3) hl0 (by rw [e]; rfl)
end
end Lw
set_option maxRecDepth 100000
set_option maxHeartbeats 2000000
/-! Unwatch, child. -/
namespace Lw
open PySem PySem.Spec PyProof.Rows L2
section
variable {P : Program} {w : World} {K : PySem.W.Frag} {mg : Str → Option Value} {base : Heap} {A : Adr}
theorem ok_unwatch (T : Txt K mg A) : FnOk P w K mg base CX0 2 A.f_unwatch A.d_unwatch ["world", "p", "k"] (spC2 A.C_World A.C_Process .unwatch) := by
  refine T.F_unwatch.ok sc_unwatch (fun vs H Q E h => ?_) (fun cdv A' outer s H vs Q E hr h => ?_)
  · obtain ⟨d, s, p, q, rfl, _⟩ := h; rfl
  · obtain ⟨d, s, p, n, rfl, ⟨hw, ⟨c, t, hg, hc⟩, hz⟩, k⟩ := h
    have hu := hu_of hr
    obtain ⟨n1, hz⟩ := M.ite_zero (by decide) hz
    obtain ⟨n2, hz⟩ := M.ite_zero (by decide) hz
    obtain ⟨n3, hz⟩ := M.ite_zero (by decide) hz
    have hp := M.not_there n1
    obtain ⟨o, ho, po, pv_⟩ := hw.get hp
    obtain ⟨dx, ha⟩ := po.ins
    have hv : valV (encP (Ha02.proc s p).watches) (Sum.inl (n : Int)) = ((Ha02.proc s p).watches.find? fun y => y.1 == n).map fun y => iN y.2 := valV_encP _ n
    refine ⟨_, (pss_cons (ps_set (i := 3) sc_unwatch.nd rfl (Or.inl rfl) (pe_dget hu (pe_fld (pv 0) rfl) (pv 1) (fun _ _ => rfl)))
      (pss_cons (ps_if (pt_cmp (pc_dnotin hu (pv 2) (pe_fld (pv 3) rfl))) (pss_one (ps_ret (pe_lst (pa_cons pe_int pa_nil)))) pss_nil)
      (pss_cons (ps_set (i := 4) sc_unwatch.nd rfl (Or.inl rfl) (pe_dpop1 (pe_fld (pv 3) rfl) (pv 2) ⟨rfl, rfl, rfl, rfl⟩))
      (pss_cons (ps_expr (pe_meth (pv 0) T.cl_World T.me_World_send (ok_World_send T) (hr.mono (by decide)) T.b_World_send .nil pass0 (pa_cons (pv 1) (pa_cons (pv 4) (pa_cons (pe_tup (pa_cons (pe_gint rfl T.c_SIGNAL_UNWATCH) (pa_cons (pv 2) pa_nil))) pa_nil)))))
      (pss_one (ps_ret (pe_lst (pa_cons pe_int pa_nil)))))))), ?_⟩
    refine ⟨_, rfl, d.W, _, d.dW, _, _, rfl, hw.ins, T.cl_World, T.n_World_processes, rfl, _, rfl, d.dp, .ref o.a, rfl, dget_at hw.prs pv_, ?_⟩
    refine ⟨_, rfl, _, rfl, o.a, _, dx, _, _, rfl, ha, T.cl_Process, T.n_Process_watches, rfl, o.w, _, rfl, DGet.k (k := Sum.inl (n : Int)) po.wat, _, rfl, ?_⟩
    cases e : (Ha02.proc s p).watches.find? fun y => y.1 == n with
    | none =>
      rw [e] at hv
      rw [hv]
      have es : Ha02.step s (.unwatch p n) = (s, [0]) := by
        simp only [Ha02.step]; rw [if_neg n1, if_neg n2, e]
      refine iteT ⟨(by show 1 ≤ sizeLine; decide), fun l hl0 => ?_⟩
      exact k.ret (by rw [es]; exact hw) (Keeps.refl _ _) hl0 (by rw [es]; rfl)
    | some y =>
      rw [e] at hv
      rw [hv]
      have na : ¬ Ha02.AIR ≤ s.air.length := fun z => n3 ⟨by rw [e]; rfl, z⟩
      have es : Ha02.step s (.unwatch p n) = (Ha02.send (Ha02.setProc s p { Ha02.proc s p with watches := (Ha02.proc s p).watches.filter fun z => z.1 != n }) p y.2 (.unwatch n), [1]) := by
        simp only [Ha02.step]; rw [if_neg n1, if_neg n2, e]; exact if_neg na
      refine iteF ?_
      refine ⟨_, rfl, o.a, _, dx, _, _, rfl, ha, T.cl_Process, T.n_Process_watches, rfl, o.w, rfl, .inl ⟨_, .inl po.wat⟩, _, rfl, _, Sum.inl (n : Int), iN y.2, po.wat, rfl, hv, ?_⟩
      have ed : dropK (encP (Ha02.proc s p).watches) (Sum.inl (n : Int)) = encP ((Ha02.proc s p).watches.filter fun z => z.1 != n) := encP_drop _ n
      rw [ed]
      obtain ⟨w1, k1⟩ := hw.setW (ws := (Ha02.proc s p).watches.filter fun z => z.1 != n) hp ho
      refine ⟨_, rfl, d.W, d.dW, _, rfl, w1.ins, rfl, _, rfl, _, rfl, _, rfl, (by show 2 ≤ sizeLine; decide), fun g hg0 => ?_⟩
      obtain ⟨w2, k2⟩ := w1.alloc (x := .tup [V.int 7, iN n]) hg0
      refine ⟨d.W, d.dW, d.ls, _, _, _, _, _, rfl, w2.ins, rfl, w2.lst, (by rw [List.length_map, air_len w2]; exact line_small (by have := air_small hg (by omega); show s.air.length ≤ _; omega)), fun t ht => ?_⟩
      obtain ⟨w3, k3⟩ := w2.sent (p := p) (q := y.2) (x := .unwatch n) upd_same ht
      simp only [List.map_append, List.map_cons, List.map_nil] at w3 k3
      refine ⟨(by show 1 ≤ sizeLine; decide), fun l hl0 => ?_⟩
      exact k.ret (by rw [es]; exact w3) ((k1.trans k2).trans k3) hl0 (by rw [es]; rfl)
theorem ok_child (T : Txt K mg A) : FnOk P w K mg base CX0 4 A.f_child A.d_child ["world", "p", "how"] (spC2 A.C_World A.C_Process .child) := by
  refine T.F_child.ok sc_child (fun vs H Q E h => ?_) (fun cdv A' outer s H vs Q E hr h => ?_)
  · obtain ⟨d, s, p, q, rfl, _⟩ := h; rfl
  · obtain ⟨d, s, p, how, rfl, ⟨hw, ⟨c, t, hg, hc⟩, hz⟩, k⟩ := h
    have hu := hu_of hr
    obtain ⟨n1, hz⟩ := M.ite_zero (by decide) hz
    obtain ⟨n2, hz⟩ := M.ite_zero (by decide) hz
    obtain ⟨n3, hz⟩ := M.ite_zero (by decide) hz
    have hp := M.not_there fun z => n1 (.inl z)
    have h2 : how ≤ 2 := Nat.le_of_not_lt fun z => n1 (.inr z)
    have hf := fit_of hg (by omega) hp
    have pg := hg.pg _ (M.proc_mem hp)
    have es : Ha02.step s (.child p how) = (Ha02.child s p how, Ha02.ints [s.procs.length + 1, if how = 2 then s.last + 1 else 0]) := by simp only [Ha02.step]; rw [if_neg n1, if_neg n2, if_neg n3]
    refine ⟨_, (pss_cons (ps_set (i := 3) sc_child.nd rfl (Or.inl rfl) (pe_meth0 (pv 0) T.cl_World T.me_World_add_process (ok_World_add_process T) (hr.mono (by decide)) T.b_World_add_process .nil pass0))
      (pss_cons (ps_set (i := 4) sc_child.nd rfl (Or.inl rfl) (pe_dget hu (pe_fld (pv 0) rfl) (pv 1) (fun _ _ => rfl)))
      (pss_cons (ps_set (i := 5) sc_child.nd rfl (Or.inl rfl) (pe_dget hu (pe_fld (pv 0) rfl) (pv 3) (fun _ _ => rfl)))
      (pss_cons (ps_set (i := 6) sc_child.nd rfl (Or.inl rfl) pe_int)
      (pss_cons (ps_if (pt_cmpR op_eq (pv 2) (pe_gint rfl T.c_HOW_LINKED) (nomark _)) (pss_cons (ps_dput hu (pe_fld (pv 4) rfl) (pv 3) (pe_gint rfl T.c_HOLDS) rfl)
      (pss_one (ps_dput hu (pe_fld (pv 5) rfl) (pv 1) (pe_gint rfl T.c_HOLDS) rfl))) pss_nil)
      (pss_cons (ps_if (pt_cmpR op_eq (pv 2) (pe_gint rfl T.c_HOW_WATCHED) (nomark _)) (pss_cons (ps_set (i := 6) sc_child.nd rfl (Or.inl rfl) (pe_meth0 (pv 0) T.cl_World T.me_World_begin_number (ok_World_begin_number T) (hr.mono (by decide)) T.b_World_begin_number .nil pass0))
      (pss_cons (ps_dput hu (pe_fld (pv 4) rfl) (pv 6) (pv 3) rfl)
      (pss_one (ps_dput hu (pe_fld (pv 5) rfl) (pv 6) (pv 1) rfl)))) pss_nil)
      (pss_one (ps_ret (pe_lst (pa_cons (pv 3) (pa_cons (pv 6) pa_nil))))))))))), ?_⟩
    refine ⟨_, rfl, d.W, d.dW, _, rfl, hw.ins, rfl, d, s, rfl, hw, (by have := hg.few; omega), fun H1 o2 w1 k1 => ?_⟩
    have hl1 : ({ s with procs := s.procs ++ [Ha02.fresh] } : Ha02.St).procs.length = s.procs.length + 1 := by simp
    have hp1 : 1 ≤ p ∧ p ≤ ({ s with procs := s.procs ++ [Ha02.fresh] } : Ha02.St).procs.length := by rw [hl1]; omega
    have hc1 : 1 ≤ s.procs.length + 1 ∧ s.procs.length + 1 ≤ ({ s with procs := s.procs ++ [Ha02.fresh] } : Ha02.St).procs.length := by rw [hl1]; omega
    have ne : p ≠ s.procs.length + 1 := by omega
    have ep : Ha02.proc { s with procs := s.procs ++ [Ha02.fresh] } p = Ha02.proc s p := M.grow_proc hp
    obtain ⟨o, ho, po, pv1⟩ := w1.get hp1
    obtain ⟨o3, ho3, po3, pv3⟩ := w1.get hc1
    obtain ⟨dx, ha⟩ := po.ins
    obtain ⟨dx3, ha3⟩ := po3.ins
    refine ⟨_, rfl, d.W, _, d.dW, _, _, rfl, w1.ins, T.cl_World, T.n_World_processes, rfl, _, rfl, d.dp, .ref o.a, rfl, dget_at w1.prs pv1, ?_⟩
    refine ⟨_, rfl, d.W, _, d.dW, _, _, rfl, w1.ins, T.cl_World, T.n_World_processes, rfl, _, rfl, d.dp, .ref o3.a, rfl, dget_at w1.prs pv3, ?_⟩
    by_cases e1 : how = 1
    · subst e1
      obtain ⟨kv1, hkv1, pm1⟩ := po.lnk
      have hf1 : Fit (Ha02.proc { s with procs := s.procs ++ [Ha02.fresh] } p) := by rw [ep]; exact hf
      obtain ⟨w2, k2⟩ := w1.setL hp1 ho (put_link hf1.srt pm1 (s.procs.length + 1) 0)
      have po3' := w2.at_ (s.procs.length + 1 - 1) o3 _ ho3 (M.proc_at (by rw [M.setProc_len]; exact hc1))
      have e3 : Ha02.proc (Ha02.setProc { s with procs := s.procs ++ [Ha02.fresh] } p { Ha02.proc { s with procs := s.procs ++ [Ha02.fresh] } p with links := Ha02.insertLink ⟨s.procs.length + 1, 0⟩ (Ha02.proc { s with procs := s.procs ++ [Ha02.fresh] } p).links }) (s.procs.length + 1) = Ha02.fresh := by
        rw [M.setProc_other hp.1 (by omega) ne]; exact M.grow_new
      rw [e3] at po3'
      obtain ⟨dx4, ha4⟩ := po3'.ins
      obtain ⟨kv3, hkv3, pm3⟩ := po3'.lnk
      obtain ⟨w3, k3⟩ := w2.setL (p := s.procs.length + 1) (ls := Ha02.insertLink ⟨p, 0⟩ Ha02.fresh.links) (by rw [M.setProc_len]; exact hc1) ho3 (put_link (x := Ha02.fresh) (by simp [Ha02.fresh]) pm3 p 0)
      refine ⟨_, rfl, rfl, _, rfl, iteT ?_⟩
      refine ⟨_, rfl, o.a, _, dx, _, _, rfl, ha, T.cl_Process, T.n_Process_links, rfl, _, rfl, o.l, _, rfl, DPut.k (k := kn (s.procs.length + 1)) hkv1 (kvs_len pm1 hf1), ?_⟩
      refine ⟨_, rfl, o3.a, _, dx4, _, _, rfl, ha4, T.cl_Process, T.n_Process_links, rfl, _, rfl, o3.l, _, rfl, DPut.k (k := kn p) hkv3 (by rw [pm3.length_eq]; decide), ?_⟩
      refine ⟨_, rfl, rfl, _, rfl, iteF ?_⟩
      refine ⟨_, rfl, _, rfl, (by show 2 ≤ sizeLine; decide), fun l hl0 => ?_⟩
      have ec : Ha02.child s p 1 = Ha02.setProc (Ha02.setProc { s with procs := s.procs ++ [Ha02.fresh] } p { Ha02.proc { s with procs := s.procs ++ [Ha02.fresh] } p with links := Ha02.insertLink ⟨s.procs.length + 1, 0⟩ (Ha02.proc { s with procs := s.procs ++ [Ha02.fresh] } p).links }) (s.procs.length + 1) { Ha02.fresh with links := Ha02.insertLink ⟨p, 0⟩ Ha02.fresh.links } := by
        unfold Ha02.child
        exact if_pos rfl
      refine k.ret (by rw [es, ec]; rw [e3] at w3; exact w3) ((k1.trans k2).trans k3) hl0 (by rw [es]; rfl)
    · by_cases e2 : how = 2
      · subst e2
        refine ⟨_, rfl, rfl, _, rfl, iteF ?_⟩
        refine ⟨_, rfl, rfl, _, rfl, iteT ?_⟩
        refine ⟨_, rfl, d.W, d.dW, _, rfl, w1.ins, rfl, { d with pos := d.pos ++ [o2] }, { s with procs := s.procs ++ [Ha02.fresh] }, rfl, w1, fun H2 w2 k2 => ?_⟩
        have po2 := w2.at_ (p - 1) o _ ho (M.proc_at hp1)
        obtain ⟨dx2, ha2⟩ := po2.ins
        have ep2 : Ha02.proc { s with procs := s.procs ++ [Ha02.fresh], last := s.last + 1 } p = Ha02.proc s p := M.grow_proc (s := { s with last := s.last + 1 }) hp
        have nk : s.last + 1 ∉ (Ha02.proc { s with procs := s.procs ++ [Ha02.fresh], last := s.last + 1 } p).watches.map (·.1) := fun m => by
          rw [ep2] at m
          obtain ⟨z, hz, ez⟩ := List.mem_map.mp m
          have h1 := (pg.win z hz).1.2
          have ez : z.1 = s.last + 1 := ez
          omega
        obtain ⟨w3, k3⟩ := w2.setW (p := p) (ws := (Ha02.proc { s with procs := s.procs ++ [Ha02.fresh], last := s.last + 1 } p).watches ++ [(s.last + 1, s.procs.length + 1)]) hp1 ho
        refine ⟨_, rfl, _, rfl, o.a, _, dx2, _, _, rfl, ha2, T.cl_Process, T.n_Process_watches, rfl, _, rfl, o.w, _, rfl, DPut.k (k := kn (s.last + 1)) po2.wat (line_small (by have := hf.nw; simp only [encP, List.length_map]; show (Ha02.proc { s with procs := s.procs ++ [Ha02.fresh], last := s.last + 1 } p).watches.length ≤ _; rw [ep2]; omega)), ?_⟩
        rw [show putK (encP (Ha02.proc { s with procs := s.procs ++ [Ha02.fresh], last := s.last + 1 } p).watches) (kn (s.last + 1)) (iN (s.procs.length + 1)) = encP ((Ha02.proc { s with procs := s.procs ++ [Ha02.fresh], last := s.last + 1 } p).watches ++ [(s.last + 1, s.procs.length + 1)]) from encP_put nk]
        have e3 : Ha02.proc (Ha02.setProc { s with procs := s.procs ++ [Ha02.fresh], last := s.last + 1 } p { Ha02.proc { s with procs := s.procs ++ [Ha02.fresh], last := s.last + 1 } p with watches := (Ha02.proc { s with procs := s.procs ++ [Ha02.fresh], last := s.last + 1 } p).watches ++ [(s.last + 1, s.procs.length + 1)] }) (s.procs.length + 1) = Ha02.fresh := by
          rw [M.setProc_other hp.1 (by omega) ne]; exact M.grow_new (s := { s with last := s.last + 1 })
        have po3' := w3.at_ (s.procs.length + 1 - 1) o3 _ ho3 (M.proc_at (by rw [M.setProc_len]; exact hc1))
        rw [e3] at po3'
        obtain ⟨dx4, ha4⟩ := po3'.ins
        obtain ⟨w4, k4⟩ := w3.setV (p := s.procs.length + 1) (ws := [(s.last + 1, p)]) (by rw [M.setProc_len]; exact hc1) ho3
        refine ⟨_, rfl, _, rfl, o3.a, _, dx4, _, _, rfl, ha4, T.cl_Process, T.n_Process_watchers, rfl, _, rfl, o3.v, _, rfl, DPut.k (k := kn (s.last + 1)) po3'.vat (by decide), ?_⟩
        refine ⟨_, rfl, _, rfl, (by show 2 ≤ sizeLine; decide), fun l hl0 => ?_⟩
        have ec : Ha02.child s p 2 = Ha02.setProc (Ha02.setProc { s with procs := s.procs ++ [Ha02.fresh], last := s.last + 1 } p { Ha02.proc { s with procs := s.procs ++ [Ha02.fresh], last := s.last + 1 } p with watches := (Ha02.proc { s with procs := s.procs ++ [Ha02.fresh], last := s.last + 1 } p).watches ++ [(s.last + 1, s.procs.length + 1)] }) (s.procs.length + 1) { Ha02.fresh with watched := [(s.last + 1, p)] } := by
          unfold Ha02.child
          rfl
        refine k.ret (by rw [es, ec]; rw [e3] at w4; exact w4) (((k1.trans k2).trans k3).trans k4) hl0 (by rw [es]; rfl)
      · have e0 : how = 0 := by omega
        subst e0
        refine ⟨_, rfl, rfl, _, rfl, iteF ?_⟩
        refine ⟨_, rfl, rfl, _, rfl, iteF ?_⟩
        refine ⟨_, rfl, _, rfl, (by show 2 ≤ sizeLine; decide), fun l hl0 => ?_⟩
        have ec : Ha02.child s p 0 = { s with procs := s.procs ++ [Ha02.fresh] } := rfl
        exact k.ret (by rw [es, ec]; exact w1) k1 hl0 (by rw [es]; rfl)
end
end Lw
set_option maxRecDepth 100000
set_option maxHeartbeats 2000000
/-! The first signal between two; how an end comes. -/
namespace Lw
open PySem PySem.Spec PyProof.Rows L2
/-- over enumerate(list) -/
theorem for_enum {K : PySem.W.Frag} {a : Addr} {xs : List V} {g : TG} {tb : TS} {D : Ends} {σ : L2.St} {H : Hp} (Pv : Nat → L2.St → Hp → Prop) (h0 : Pv 0 σ H) (hl : ∀ i σ H, i ≤ xs.length → Pv i σ H → SqL K H a xs)
    (hs : ∀ i x σ H T, xs[i]? = some x → Pv i σ H → H T = none → g (.ref T) σ (upd H T (.tup [iN i, x])) fun σ2 H2 => tb { D with nx := Pv (i + 1), ct := Pv (i + 1), bk := D.nx } σ2 H2) (hd : ∀ σ H, Pv xs.length σ H → D.nx σ H) :
    ∃ W : Nat → Nat → L2.St → Hp → Prop, (∃ m, W 0 m σ H) ∧ ∀ i m σ H, W i m σ H →
      ((Ite K a).stop i H ∧ D.nx σ H) ∨ ((Ite K a).go i H ∧ ∃ N : L2.St → Hp → Prop, (∀ σ' H', N σ' H' → ∃ m', m' < m ∧ W (i + 1) m' σ' H') ∧ ∀ x H', (Ite K a).yld i H x H' → g x σ H' fun σ2 H2 => tb { D with nx := N, ct := N, bk := D.nx } σ2 H2) := by
  refine ⟨fun i m σ H => m = xs.length - i ∧ i ≤ xs.length ∧ Pv i σ H, ⟨xs.length, by simp, Nat.zero_le _, h0⟩, ?_⟩
  rintro i m σ H ⟨rfl, hi, p⟩
  have q := hl i σ H hi p
  by_cases hlt : i < xs.length
  · refine .inr ⟨⟨xs, xs[i], q, by simp [hlt]⟩, Pv (i + 1), fun σ' H' p' => ⟨xs.length - (i + 1), by omega, rfl, hlt, p'⟩, fun x H' y => ?_⟩
    obtain ⟨T, z, rfl, hT, rfl, hz⟩ := y
    exact hs i z σ H T (hz xs q) p hT
  · have e : i = xs.length := by omega
    subst e
    exact .inl ⟨⟨xs, q, Nat.le_refl _⟩, hd σ H p⟩
def placeV (o : Option Nat) : V := match o with
  | none => .non
  | some i => iN i
def spPlace (CW CP : Addr) : Sp := fun vs H Q _ => ∃ (d : Ad) (s : Ha02.St) (p q : Nat), vs = [.ref d.W, iN p, iN q] ∧ WAt CW CP H d s ∧ ∀ H' : Hp, (∀ b u, H b = some u → H' b = some u) → Q (placeV (Ha02.firstOf s p q)) H'
/-- an end comes to q -/
def spCome (CW CP : Addr) : Sp := fun vs H Q _ => ∃ (d : Ad) (s : Ha02.St) (q k p why : Nat) (t : Addr), vs = [.ref d.W, iN q, iN why, .ref t] ∧ H t = some (.tup [iN k, iN p, iN why]) ∧ WAt CW CP H d s ∧ Fit (Ha02.proc s q) ∧ (1 ≤ q ∧ q ≤ s.procs.length) ∧ s.air.length ≤ 90000 ∧ (Ha02.proc s q).box.length ≤ 200000 ∧
  ∀ (H' : Hp) (d' : Ad), WAt CW CP H' d' (Ha02.hit s q ⟨k, p, why⟩) → Keeps H d H' d' → Q .non H'
theorem findIdx_step {α : Type} {f : α → Bool} {l : List α} {i : Nat} {x : α} (h : l[i]? = some x) (hb : ∀ j y, j < i → l[j]? = some y → f y = false) (hx : f x = true) : l.findIdx? f = some i := by
  obtain ⟨hi, e⟩ := List.getElem?_eq_some_iff.mp h
  rw [List.findIdx?_eq_some_iff_getElem]
  refine ⟨hi, by rw [e]; exact hx, fun j hj => ?_⟩
  have := hb j l[j] hj (List.getElem?_eq_getElem (by omega))
  simp [this]
theorem findIdx_none {α : Type} {f : α → Bool} {l : List α} (hb : ∀ j y, j < l.length → l[j]? = some y → f y = false) : l.findIdx? f = none := by
  rw [List.findIdx?_eq_none_iff]
  intro x hx
  obtain ⟨j, e⟩ := List.mem_iff_getElem?.mp hx
  exact hb j x (List.getElem?_eq_some_iff.mp e).1 e
section
variable {P : Program} {w : World} {K : PySem.W.Frag} {mg : Str → Option Value} {base : Heap} {A : Adr}
theorem ok_World_place_of_first (T : Txt K mg A) : FnOk P w K mg base CX0 1 A.f_World_place_of_first A.d_World_place_of_first ["self", "p", "q"] (spPlace A.C_World A.C_Process) := by
  refine T.F_World_place_of_first.ok sc_World_place_of_first (fun vs H Q E h => ?_) (fun cdv A' outer s H vs Q E hr h => ?_)
  · obtain ⟨d, s, p, q, rfl, _⟩ := h; rfl
  · obtain ⟨d, s, p, q, rfl, hw, k⟩ := h
    refine ⟨_, (pss_cons (ps_for PassesOwn.never rfl (pi_enum rfl T.enumerate (pa_cons (pe_fld (pv 0) rfl) pa_nil)) (pg_tup (n := 2) rfl (pgs_cons (pg_name (i := 3) sc_World_place_of_first.nd rfl (Or.inl rfl)) (pgs_cons (pg_name (i := 4) sc_World_place_of_first.nd rfl (Or.inl rfl)) pgs_nil))) (pss_one (ps_if ((pw_and (pt_cmpR op_eq (pe_ix ix_tup (pv 4) pe_int (fun _ _ => rfl)) (pv 1) (nomark _)) (pw_and1 (pt_cmpR op_eq (pe_ix ix_tup (pv 4) pe_int (fun _ _ => rfl)) (pv 2) (nomark _))))).pt (pss_one (ps_ret (pv 3))) pss_nil)))
      (pss_one (ps_ret pe_non))), ?_⟩
    refine ⟨_, rfl, d.W, _, d.dW, _, _, rfl, hw.ins, T.cl_World, T.n_World_signals, rfl, d.ls, _, rfl, SqL.of hw.lst, ?_⟩
    refine for_enum (xs := d.ts.map V.ref) (fun i σ Hi => ∃ (a b : Option V), σ = [some (.ref d.W), some (iN p), some (iN q), a, b] ∧ (∀ b u, H b = some u → Hi b = some u) ∧ ∀ j y, j < i → s.air[j]? = some y → (y.1 == p && y.2.1 == q) = false)
      ⟨none, none, rfl, fun b u e => e, fun j y hj => absurd hj (Nat.not_lt_zero _)⟩ (fun i σ Hi _ h => ?_) ?_ ?_
    · obtain ⟨_, _, _, h, _⟩ := h
      exact SqL.of (h _ _ hw.lst)
    · rintro i x σ Hi T0 hx ⟨a, b, rfl, hH, hb⟩ hT
      rw [List.getElem?_map] at hx
      obtain ⟨t, ht, rfl⟩ := Option.map_eq_some_iff.mp hx
      obtain ⟨y, hy, g, e1, e2⟩ := paired_get hw.air ht
      have hH2 : ∀ b u, H b = some u → upd Hi T0 (.tup [iN i, .ref t]) b = some u := fun b u e => keep_new hT (hH b u e)
      refine ⟨T0, _, rfl, SqT.of upd_same, rfl, _, _, rfl, _, _, rfl, rfl, ?_⟩
      have rd : SqT K (upd Hi T0 (.tup [iN i, .ref t])) t [iN y.1, iN y.2.1, .ref g] := SqT.of (hH2 _ _ e1)
      refine ⟨_, rfl, t, _, _, _, rfl, rfl, rd, atI_nat (j := 0) rfl, _, rfl, rfl, _, rfl, ?_⟩
      refine ite2 (fun h1 => ?_) (fun h1 => ?_)
      · refine ⟨_, rfl, t, _, _, _, rfl, rfl, rd, atI_nat (j := 1) rfl, _, rfl, rfl, _, rfl, ?_⟩
        refine ite2 (fun h2 => ?_) (fun h2 => ?_)
        · refine ⟨_, rfl, ?_⟩
          have e3 : y.1 = p := iN_inj.mp (of_decide_eq_true h1)
          have e4 : y.2.1 = q := iN_inj.mp (of_decide_eq_true h2)
          have ef : Ha02.firstOf s p q = some i := findIdx_step hy hb (by simp [e3, e4])
          have := k _ hH2
          rw [ef] at this
          exact this
        · refine ⟨_, _, rfl, hH2, fun j z hj hz => ?_⟩
          rcases Nat.lt_succ_iff_lt_or_eq.mp hj with hlt | rfl
          · exact hb j z hlt hz
          · rw [hy] at hz
            cases hz
            have : ¬ y.2.1 = q := fun z => h2 (decide_eq_true (by rw [z]))
            simp [this]
      · refine ite2 (fun h2 => absurd h2 Bool.false_ne_true) (fun _ => ?_)
        refine ⟨_, _, rfl, hH2, fun j z hj hz => ?_⟩
        rcases Nat.lt_succ_iff_lt_or_eq.mp hj with hlt | rfl
        · exact hb j z hlt hz
        · rw [hy] at hz
          cases hz
          have : ¬ y.1 = p := fun z => h1 (decide_eq_true (by rw [z]))
          simp [this]
    · rintro σ Hi ⟨a, b, rfl, hH, hb⟩
      rw [List.length_map, air_len hw] at hb
      have ef : Ha02.firstOf s p q = none := findIdx_none hb
      have := k _ hH
      rw [ef] at this
      exact this
theorem ok_let_end_come (T : Txt K mg A) : FnOk P w K mg base CX0 4 A.f_let_end_come A.d_let_end_come ["world", "q", "why", "note"] (spCome A.C_World A.C_Process) := by
  refine T.F_let_end_come.ok sc_let_end_come (fun vs H Q E h => ?_) (fun cdv A' outer s H vs Q E hr h => ?_)
  · obtain ⟨d, s, q, k, p, why, t, rfl, _⟩ := h; rfl
  · obtain ⟨d, s, q, kk, p, why, t, rfl, ht, hw, hf, hq, hz, hbx, k⟩ := h
    have hu := hu_of hr
    obtain ⟨o, ho, po, pv_⟩ := hw.get hq
    obtain ⟨dx, ha⟩ := po.ins
    obtain ⟨ts, hb, pb⟩ := po.box
    refine ⟨_, (pss_cons (ps_set (i := 4) sc_let_end_come.nd rfl (Or.inl rfl) (pe_dget hu (pe_fld (pv 0) rfl) (pv 1) (fun _ _ => rfl)))
      (pss_one (ps_if (pt_val (pe_fld (pv 4) rfl)) (pss_one (ps_expr (pe_bm PySem.F.plainAttrs_list PySem.F.slot_list_append PySem.F.type_list_append mt_append (pe_fld (pv 4) rfl) (pa_cons (pv 3) pa_nil)))) (pss_one (ps_if (pt_cmpR op_ne (pv 2) (pe_gint rfl T.c_WHY_AS_IT_SHOULD) (nomark _)) (pss_one (ps_expr (pe_call (ok_end_process T) (hr.mono (by decide)) rfl T.m_end_process T.F_end_process.kp T.b_end_process .nil pass0 (pa_cons (pv 0) (pa_cons (pv 1) (pa_cons (pv 2) pa_nil)))))) pss_nil))))), ?_⟩
    refine ⟨_, rfl, d.W, _, d.dW, _, _, rfl, hw.ins, T.cl_World, T.n_World_processes, rfl, _, rfl, d.dp, .ref o.a, rfl, dget_at hw.prs pv_, ?_⟩
    refine ⟨_, rfl, o.a, _, dx, _, _, rfl, ha, T.cl_Process, T.n_Process_traps, rfl, _, rfl, ?_⟩
    refine ite2 (fun h1 => ?_) (fun h1 => ?_)
    · obtain ⟨w1, k1⟩ := hw.setN (m := ⟨kk, p, why⟩) hq ho hb pb ht
      have lb := Paired.length pb
      refine ⟨_, rfl, o.a, _, dx, _, _, rfl, ha, T.cl_Process, T.n_Process_notes, rfl, .inl ⟨rfl, _, SqL.of hb⟩, _, rfl, o.n, _, _, rfl, rfl, hb, ?_, ?_⟩
      · rw [List.length_map, lb]; exact Nat.lt_of_le_of_lt hbx (by decide)
      · refine k _ _ ?_ k1
        have e : Ha02.hit s q ⟨kk, p, why⟩ = Ha02.setProc s q (Ha02.notes (Ha02.proc s q) ⟨kk, p, why⟩) := by unfold Ha02.hit; rw [if_pos h1]
        rw [e]; exact w1
    · refine ⟨_, rfl, rfl, _, rfl, ?_⟩
      refine ite2 (fun h2 => ?_) (fun h2 => ?_)
      · have hy : ¬ why = 0 := fun z => by rw [z] at h2; exact absurd h2 (by decide)
        refine ⟨_, rfl, _, rfl, _, rfl, d, s, q, why, rfl, hw, hf, hq, hz, fun H1 d1 w1 k1 => ?_⟩
        refine k _ _ ?_ k1
        have e : Ha02.hit s q ⟨kk, p, why⟩ = Ha02.dies s q why := by unfold Ha02.hit; rw [if_neg h1]; exact if_neg hy
        rw [e]; exact w1
      · have hy : why = 0 := by
          by_cases z : why = 0
          · exact z
          · exact absurd (by rw [Bool.not_eq_true', decide_eq_false_iff_not]; exact fun e => z (iN_inj.mp e)) h2
        refine k _ _ ?_ (Keeps.refl _ _)
        have e : Ha02.hit s q ⟨kk, p, why⟩ = s := by unfold Ha02.hit; rw [if_neg h1]; exact if_pos hy
        rw [e]; exact hw
end
end Lw
set_option maxRecDepth 100000
set_option maxHeartbeats 2000000
/-! What a signal does when it arrives. -/
namespace Lw
open PySem PySem.Spec PyProof.Rows L2
structure APre (CW CP : Addr) (H : Hp) (d : Ad) (s : Ha02.St) (q : Nat) : Prop where
  w : WAt CW CP H d s
  f : Fit (Ha02.proc s q)
  there : 1 ≤ q ∧ q ≤ s.procs.length
  z : s.air.length ≤ 90000
  b : (Ha02.proc s q).box.length ≤ 200000
def spTake (CW CP : Addr) (f : Ha02.St → Nat → Nat → Nat → Ha02.St) : Sp := fun vs H Q _ => ∃ (d : Ad) (s : Ha02.St) (p q n : Nat), vs = [.ref d.W, iN p, iN q, iN n] ∧ APre CW CP H d s q ∧
  ∀ (H' : Hp) (d' : Ad), WAt CW CP H' d' (f s p q n) → Keeps H d H' d' → Q .non H'
/-- of a process's object alone -/
def spTakeP (CW CP : Addr) (f : Ha02.St → Nat → Nat → Nat → Ha02.St) : Sp := fun vs H Q _ => ∃ (d : Ad) (s : Ha02.St) (q x y : Nat) (o : PO), vs = [.ref o.a, iN x, iN y] ∧ d.pos[q - 1]? = some o ∧ APre CW CP H d s q ∧
  ∀ (H' : Hp) (d' : Ad), WAt CW CP H' d' (f s q x y) → Keeps H d H' d' → Q .non H'
def spSig (CW CP : Addr) (f : Ha02.St → Nat → Nat → Ha02.Sig → Ha02.St) : Sp := fun vs H Q _ => ∃ (d : Ad) (s : Ha02.St) (p q : Nat) (x : Ha02.Sig) (g : Addr), vs = [.ref d.W, iN p, iN q, .ref g] ∧ H g = some (.tup ((Ha02.sigTold x).map iN)) ∧ APre CW CP H d s q ∧
  (∀ k, x = .watch k → k ∉ M.heard (Ha02.proc s q)) ∧ ∀ (H' : Hp) (d' : Ad), WAt CW CP H' d' (f s p q x) → Keeps H d H' d' → Q .non H'
section
variable {CW CP : Addr} {H : Hp} {d : Ad} {s : Ha02.St} {p q : Nat} {o : PO}
theorem drop_link {x : Ha02.Proc} {kvs : List (Key × V)} (pm : kvs.Perm (encL x.links)) (q : Nat) : (dropK kvs (kn q)).Perm (encL (x.links.filter fun y => y.to != q)) := by
  rw [← encL_drop]; exact dropK_perm pm _
theorem Fit.less {x : Ha02.Proc} (h : Fit x) (f : Ha02.Link → Bool) : Fit { x with links := x.links.filter f } :=
  ⟨h.srt.filter _, Nat.le_trans (List.length_filter_le _ _) h.nl, h.nv, h.nw⟩
theorem no_link {x : Ha02.Proc} {q : Nat} (h : Ha02.linkTo x q = none) : x.links.filter (fun y => y.to != q) = x.links := by
  unfold Ha02.linkTo at h
  rw [List.find?_eq_none] at h
  rw [List.filter_eq_self]
  intro y hy
  have := h y hy
  simpa using this
theorem no_key {l : List (Nat × Nat)} {k : Nat} (h : valV (encP l) (kn k) = none) : l.filter (fun y => y.1 != k) = l := by
  rw [valV_encP, Option.map_eq_none_iff, List.find?_eq_none] at h
  rw [List.filter_eq_self]
  intro y hy
  have := h y hy
  simpa using this
theorem key_any {l : List (Nat × Nat)} {k : Nat} {v : V} (h : valV (encP l) (kn k) = some v) : (l.any fun y => y.1 == k) = true := by
  rw [valV_encP] at h
  obtain ⟨y, hy, _⟩ := Option.map_eq_some_iff.mp h
  exact List.any_eq_true.mpr ⟨y, List.mem_of_find?_eq_some hy, by simpa using List.find?_some hy⟩
theorem key_none {l : List (Nat × Nat)} {k : Nat} (h : valV (encP l) (kn k) = none) : (l.any fun y => y.1 == k) = false := by
  rw [valV_encP, Option.map_eq_none_iff, List.find?_eq_none] at h
  rw [List.any_eq_false]
  exact fun y hy => h y hy
end
section
variable {P : Program} {w : World} {K : PySem.W.Frag} {mg : Str → Option Value} {base : Heap} {A : Adr}
theorem ok_take_cut (T : Txt K mg A) : FnOk P w K mg base CX0 2 A.f_take_cut A.d_take_cut ["world", "p", "q", "number"] (spTake A.C_World A.C_Process fun s p q n => Ha02.gets s p q (.cut n)) := by
  refine T.F_take_cut.ok sc_take_cut (fun vs H Q E h => ?_) (fun cdv A' outer s H vs Q E hr h => ?_)
  · obtain ⟨d, s, p, q, n, rfl, _⟩ := h; rfl
  · obtain ⟨d, s, p, q, n, rfl, ⟨hw, hf, hq, hz, hbx⟩, k⟩ := h
    have hu := hu_of hr
    obtain ⟨o, ho, po, pv_⟩ := hw.get hq
    obtain ⟨dx, ha⟩ := po.ins
    obtain ⟨kvs, hl, pm, hv⟩ := po.holds hf.srt p
    have hlen : s.air.length < sizeLine := line_small (by omega)
    refine ⟨_, (pss_cons (ps_set (i := 4) sc_take_cut.nd rfl (Or.inl rfl) (pe_dget hu (pe_fld (pv 0) rfl) (pv 2) (fun _ _ => rfl)))
      (pss_cons (ps_if (pt_val (pe_meth (pv 4) T.cl_Process T.me_Process_holds_link (ok_Process_holds_link T) (hr.mono (by decide)) T.b_Process_holds_link .nil pass0 (pa_cons (pv 1) pa_nil))) (pss_one (ps_expr (pe_dpop1 (pe_fld (pv 4) rfl) (pv 1) ⟨rfl, rfl, rfl, rfl⟩))) pss_nil)
      (pss_one (ps_expr (pe_meth (pv 0) T.cl_World T.me_World_send (ok_World_send T) (hr.mono (by decide)) T.b_World_send .nil pass0 (pa_cons (pv 2) (pa_cons (pv 1) (pa_cons (pe_tup (pa_cons (pe_gint rfl T.c_SIGNAL_HEARD) (pa_cons (pv 3) pa_nil))) pa_nil)))))))), ?_⟩
    refine ⟨_, rfl, d.W, _, d.dW, _, _, rfl, hw.ins, T.cl_World, T.n_World_processes, rfl, _, rfl, d.dp, .ref o.a, rfl, dget_at hw.prs pv_, ?_⟩
    refine ⟨_, rfl, o.a, dx, _, rfl, ha, rfl, _, rfl, ?_⟩
    refine ⟨o.a, dx, o.l, _, kvs, (p : Int), rfl, ha, rfl, hl, holds_int hv, _, rfl, ?_⟩
    refine ite2 (fun hc1 => ?_) (fun hc1 => ?_)
    · have hc0 := of_decide_eq_true hc1
      obtain ⟨y, hy, hy0⟩ := (holds_iff hv).mp hc0
      obtain ⟨w1, k1⟩ := hw.setL hq ho (drop_link pm p)
      refine ⟨_, rfl, o.a, _, dx, _, _, rfl, ha, T.cl_Process, T.n_Process_links, rfl, o.l, rfl, .inl ⟨kvs, .inl hl⟩, _, rfl, kvs, kn p, _, hl, rfl, hc0, ?_⟩
      refine ⟨_, rfl, d.W, d.dW, _, rfl, w1.ins, rfl, _, rfl, _, rfl, _, rfl, (by show 2 ≤ sizeLine; decide), fun g hg0 => ?_⟩
      obtain ⟨w2, k2⟩ := w1.alloc (x := .tup [V.int 3, iN n]) hg0
      refine ⟨d.W, d.dW, d.ls, _, _, _, _, _, rfl, w2.ins, rfl, w2.lst, (by rw [List.length_map, air_len w2]; exact hlen), fun t ht => ?_⟩
      obtain ⟨w3, k3⟩ := w2.sent (p := q) (q := p) (x := .heard n) upd_same ht
      simp only [List.map_append, List.map_cons, List.map_nil] at w3 k3
      refine k _ _ ?_ ((k1.trans k2).trans k3)
      have e : Ha02.gets s p q (.cut n) = Ha02.send (Ha02.setProc s q (Ha02.without (Ha02.proc s q) p)) q p (.heard n) := by
        show Ha02.send (match Ha02.linkTo (Ha02.proc s q) p with | some y => if y.cutting = 0 then Ha02.setProc s q (Ha02.without (Ha02.proc s q) p) else s | none => s) q p (.heard n) = _
        rw [hy]
        show Ha02.send (if y.cutting = 0 then _ else _) q p (.heard n) = _
        rw [if_pos hy0]
      dsimp only; rw [e]; exact w3
    · refine ⟨_, rfl, d.W, d.dW, _, rfl, hw.ins, rfl, _, rfl, _, rfl, _, rfl, (by show 2 ≤ sizeLine; decide), fun g hg0 => ?_⟩
      obtain ⟨w2, k2⟩ := hw.alloc (x := .tup [V.int 3, iN n]) hg0
      refine ⟨d.W, d.dW, d.ls, _, _, _, _, _, rfl, w2.ins, rfl, w2.lst, (by rw [List.length_map, air_len w2]; exact hlen), fun t ht => ?_⟩
      obtain ⟨w3, k3⟩ := w2.sent (p := q) (q := p) (x := .heard n) upd_same ht
      simp only [List.map_append, List.map_cons, List.map_nil] at w3 k3
      refine k _ _ ?_ (k2.trans k3)
      have e : Ha02.gets s p q (.cut n) = Ha02.send s q p (.heard n) := by
        show Ha02.send (match Ha02.linkTo (Ha02.proc s q) p with | some y => if y.cutting = 0 then Ha02.setProc s q (Ha02.without (Ha02.proc s q) p) else s | none => s) q p (.heard n) = _
        cases hy : Ha02.linkTo (Ha02.proc s q) p with
        | none => rfl
        | some y =>
          show Ha02.send (if y.cutting = 0 then _ else _) q p (.heard n) = _
          rw [if_neg fun z => hc1 (decide_eq_true ((holds_iff hv).mpr ⟨y, hy, z⟩))]
      dsimp only; rw [e]; exact w3
theorem ok_take_heard (T : Txt K mg A) : FnOk P w K mg base CX0 1 A.f_take_heard A.d_take_heard ["reached", "p", "number"] (spTakeP A.C_World A.C_Process fun s q p n => Ha02.gets s p q (.heard n)) := by
  refine T.F_take_heard.ok sc_take_heard (fun vs H Q E h => ?_) (fun cdv A' outer s H vs Q E hr h => ?_)
  · obtain ⟨d, s, q, x, y, o, rfl, _⟩ := h; rfl
  · obtain ⟨d, s, q, p, n, o, rfl, ho, ⟨hw, hf, hq, hz, hbx⟩, k⟩ := h
    have hu := hu_of hr
    have po := hw.at_ (q - 1) o _ ho (M.proc_at hq)
    obtain ⟨dx, ha⟩ := po.ins
    obtain ⟨kvs, hl, pm, hv⟩ := po.holds hf.srt p
    have hv' : valV kvs (Sum.inl (p : Int)) = (Ha02.linkTo (Ha02.proc s q) p).map fun y => iN y.cutting := hv
    refine ⟨_, (pss_one (ps_if ((pw_and (pt_cmp (pc_din hu (pv 1) (pe_fld (pv 0) rfl))) (pw_and1 (pt_cmpR op_eq (pe_dget hu (pe_fld (pv 0) rfl) (pv 1) (fun _ _ => rfl)) (pv 2) (nomark _))))).pt (pss_one (ps_expr (pe_dpop1 (pe_fld (pv 0) rfl) (pv 1) ⟨rfl, rfl, rfl, rfl⟩))) pss_nil)), ?_⟩
    refine ⟨_, rfl, _, rfl, o.a, _, dx, _, _, rfl, ha, T.cl_Process, T.n_Process_links, rfl, o.l, _, rfl, DGet.k (k := Sum.inl (p : Int)) hl, _, rfl, ?_⟩
    cases hy : Ha02.linkTo (Ha02.proc s q) p with
    | none =>
      rw [hv', hy]
      refine iteF ?_
      refine ite2 (fun z => absurd z Bool.false_ne_true) (fun _ => ?_)
      refine k _ _ ?_ (Keeps.refl _ _)
      have e : Ha02.gets s p q (.heard n) = s := by
        show (match Ha02.linkTo (Ha02.proc s q) p with | some y => if y.cutting = n then Ha02.setProc s q (Ha02.without (Ha02.proc s q) p) else s | none => s) = _
        rw [hy]
      dsimp only; rw [e]; exact hw
    | some y =>
      have ev : valV kvs (Sum.inl (p : Int)) = some (iN y.cutting) := by rw [hv', hy]; rfl
      rw [ev]
      refine iteT ?_
      refine ⟨_, rfl, o.a, _, dx, _, _, rfl, ha, T.cl_Process, T.n_Process_links, rfl, _, rfl, o.l, iN y.cutting, rfl, dget_at hl ev, _, rfl, rfl, _, rfl, ?_⟩
      refine ite2 (fun hc1 => ?_) (fun hc1 => ?_)
      · have hc0 : y.cutting = n := iN_inj.mp (of_decide_eq_true hc1)
        obtain ⟨w1, k1⟩ := hw.setL hq ho (drop_link pm p)
        refine ⟨_, rfl, o.a, _, dx, _, _, rfl, ha, T.cl_Process, T.n_Process_links, rfl, o.l, rfl, .inl ⟨kvs, .inl hl⟩, _, rfl, kvs, kn p, _, hl, rfl, ev, ?_⟩
        refine k _ _ ?_ k1
        have e : Ha02.gets s p q (.heard n) = Ha02.setProc s q (Ha02.without (Ha02.proc s q) p) := by
          show (match Ha02.linkTo (Ha02.proc s q) p with | some y => if y.cutting = n then Ha02.setProc s q (Ha02.without (Ha02.proc s q) p) else s | none => s) = _
          rw [hy]
          exact if_pos hc0
        dsimp only; rw [e]; exact w1
      · refine k _ _ ?_ (Keeps.refl _ _)
        have e : Ha02.gets s p q (.heard n) = s := by
          show (match Ha02.linkTo (Ha02.proc s q) p with | some y => if y.cutting = n then Ha02.setProc s q (Ha02.without (Ha02.proc s q) p) else s | none => s) = _
          rw [hy]
          exact if_neg fun z => hc1 (decide_eq_true (by rw [z]))
        dsimp only; rw [e]; exact hw
theorem ok_take_ended (T : Txt K mg A) : FnOk P w K mg base CX0 5 A.f_take_ended A.d_take_ended ["world", "p", "q", "why"] (spTake A.C_World A.C_Process fun s p q n => Ha02.gets s p q (.ended n)) := by
  refine T.F_take_ended.ok sc_take_ended (fun vs H Q E h => ?_) (fun cdv A' outer s H vs Q E hr h => ?_)
  · obtain ⟨d, s, p, q, n, rfl, _⟩ := h; rfl
  · obtain ⟨d, s, p, q, n, rfl, ⟨hw, hf, hq, hz, hbx⟩, k⟩ := h
    have hu := hu_of hr
    obtain ⟨o, ho, po, pv_⟩ := hw.get hq
    obtain ⟨dx, ha⟩ := po.ins
    obtain ⟨kvs, hl, pm, hv⟩ := po.holds hf.srt p
    have hv' : valV kvs (kn p) = (Ha02.linkTo (Ha02.proc s q) p).map fun y => iN y.cutting := hv
    refine ⟨_, (pss_cons (ps_set (i := 4) sc_take_ended.nd rfl (Or.inl rfl) (pe_dget hu (pe_fld (pv 0) rfl) (pv 2) (fun _ _ => rfl)))
      (pss_cons (ps_set (i := 5) sc_take_ended.nd rfl (Or.inl rfl) (pe_meth (pv 4) T.cl_Process T.me_Process_holds_link (ok_Process_holds_link T) (hr.mono (by decide)) T.b_Process_holds_link .nil pass0 (pa_cons (pv 1) pa_nil)))
      (pss_cons (ps_expr (pe_dpop2 (pe_fld (pv 4) rfl) (pv 1) pe_non ⟨rfl, rfl, rfl, rfl⟩))
      (pss_one (ps_if (pt_val (pv 5)) (pss_one (ps_expr (pe_call (ok_let_end_come T) (hr.mono (by decide)) rfl T.m_let_end_come T.F_let_end_come.kp T.b_let_end_come .nil pass0 (pa_cons (pv 0) (pa_cons (pv 2) (pa_cons (pv 3) (pa_cons (pe_tup (pa_cons (pe_gint rfl T.c_NOTE_ENDED) (pa_cons (pv 1) (pa_cons (pv 3) pa_nil)))) pa_nil))))))) pss_nil))))), ?_⟩
    refine ⟨_, rfl, d.W, _, d.dW, _, _, rfl, hw.ins, T.cl_World, T.n_World_processes, rfl, _, rfl, d.dp, .ref o.a, rfl, dget_at hw.prs pv_, ?_⟩
    refine ⟨_, rfl, o.a, dx, _, rfl, ha, rfl, _, rfl, ?_⟩
    refine ⟨o.a, dx, o.l, _, kvs, (p : Int), rfl, ha, rfl, hl, holds_int hv, ?_⟩
    refine ⟨_, rfl, o.a, _, dx, _, _, rfl, ha, T.cl_Process, T.n_Process_links, rfl, o.l, rfl, .inl ⟨kvs, .inl hl⟩, _, rfl, kvs, kn p, hl, rfl, fun v hvv => ?_, fun hvn => ?_⟩
    · rw [hv'] at hvv
      obtain ⟨y, hy, rfl⟩ := Option.map_eq_some_iff.mp hvv
      obtain ⟨w1, k1⟩ := hw.setL hq ho (drop_link pm p)
      refine ⟨_, rfl, _, rfl, ?_⟩
      refine ite2 (fun hc1 => ?_) (fun hc1 => ?_)
      · obtain ⟨y', hy', hy0⟩ := (holds_iff hv).mp (of_decide_eq_true hc1)
        rw [hy] at hy'
        cases hy'
        refine ⟨_, rfl, _, rfl, _, rfl, _, rfl, _, rfl, (by show 3 ≤ sizeLine; decide), fun t ht => ?_⟩
        obtain ⟨w2, k2⟩ := w1.alloc (x := .tup [V.int 1, iN p, iN n]) ht
        have ep : Ha02.proc (Ha02.setProc s q { Ha02.proc s q with links := (Ha02.proc s q).links.filter fun y => y.to != p }) q = { Ha02.proc s q with links := (Ha02.proc s q).links.filter fun y => y.to != p } := M.setProc_proc hq
        refine ⟨d, _, q, 1, p, n, t, rfl, upd_same, w2, ?_, (by rw [M.setProc_len]; exact hq), hz, ?_, fun H3 d3 w3 k3 => ?_⟩
        · rw [ep]; exact hf.less _
        · rw [ep]; exact hbx
        · refine k _ _ ?_ ((k1.trans k2).trans k3)
          have e : Ha02.gets s p q (.ended n) = Ha02.hit (Ha02.setProc s q (Ha02.without (Ha02.proc s q) p)) q ⟨1, p, n⟩ := by
            show (match Ha02.linkTo (Ha02.proc s q) p with | none => s | some y => if y.cutting = 0 then Ha02.hit (Ha02.setProc s q (Ha02.without (Ha02.proc s q) p)) q ⟨1, p, n⟩ else Ha02.setProc s q (Ha02.without (Ha02.proc s q) p)) = _
            rw [hy]
            exact if_pos hy0
          dsimp only; rw [e]; exact w3
      · refine k _ _ ?_ k1
        have e : Ha02.gets s p q (.ended n) = Ha02.setProc s q (Ha02.without (Ha02.proc s q) p) := by
          show (match Ha02.linkTo (Ha02.proc s q) p with | none => s | some y => if y.cutting = 0 then Ha02.hit (Ha02.setProc s q (Ha02.without (Ha02.proc s q) p)) q ⟨1, p, n⟩ else Ha02.setProc s q (Ha02.without (Ha02.proc s q) p)) = _
          rw [hy]
          exact if_neg fun z => hc1 (decide_eq_true ((holds_iff hv).mpr ⟨y, hy, z⟩))
        dsimp only; rw [e]; exact w1
    · rw [hv'] at hvn
      have hy := Option.map_eq_none_iff.mp hvn
      refine ⟨_, rfl, _, rfl, ?_⟩
      refine ite2 (fun hc1 => ?_) (fun hc1 => ?_)
      · obtain ⟨y', hy', hy0⟩ := (holds_iff hv).mp (of_decide_eq_true hc1)
        rw [hy] at hy'
        cases hy'
      · refine k _ _ ?_ (Keeps.refl _ _)
        have e : Ha02.gets s p q (.ended n) = s := by
          show (match Ha02.linkTo (Ha02.proc s q) p with | none => s | some y => if y.cutting = 0 then Ha02.hit (Ha02.setProc s q (Ha02.without (Ha02.proc s q) p)) q ⟨1, p, n⟩ else Ha02.setProc s q (Ha02.without (Ha02.proc s q) p)) = _
          rw [hy]
        dsimp only; rw [e]; exact hw
theorem ok_take_stop (T : Txt K mg A) : FnOk P w K mg base CX0 5 A.f_take_stop A.d_take_stop ["world", "p", "q", "why"] (spTake A.C_World A.C_Process fun s p q n => Ha02.gets s p q (.halt_ n)) := by
  refine T.F_take_stop.ok sc_take_stop (fun vs H Q E h => ?_) (fun cdv A' outer s H vs Q E hr h => ?_)
  · obtain ⟨d, s, p, q, n, rfl, _⟩ := h; rfl
  · obtain ⟨d, s, p, q, n, rfl, ⟨hw, hf, hq, hz, hbx⟩, k⟩ := h
    refine ⟨_, (pss_one (ps_if (pt_cmpR op_eq (pv 3) (pe_gint rfl T.c_WHY_TO_BE_KILLED) (nomark _)) (pss_one (ps_expr (pe_call (ok_end_process T) (hr.mono (by decide)) rfl T.m_end_process T.F_end_process.kp T.b_end_process .nil pass0 (pa_cons (pv 0) (pa_cons (pv 2) (pa_cons (pe_gint rfl T.c_WHY_KILLED) pa_nil)))))) (pss_one (ps_expr (pe_call (ok_let_end_come T) (hr.mono (by decide)) rfl T.m_let_end_come T.F_let_end_come.kp T.b_let_end_come .nil pass0 (pa_cons (pv 0) (pa_cons (pv 2) (pa_cons (pv 3) (pa_cons (pe_tup (pa_cons (pe_gint rfl T.c_NOTE_STOP) (pa_cons (pv 1) (pa_cons (pv 3) pa_nil)))) pa_nil))))))))), ?_⟩
    refine ⟨_, rfl, rfl, _, rfl, ?_⟩
    refine ite2 (fun h1 => ?_) (fun h1 => ?_)
    · have hy : n = 1 := iN_inj.mp (show iN n = iN 1 from of_decide_eq_true h1)
      refine ⟨_, rfl, _, rfl, d, s, q, 2, rfl, hw, hf, hq, hz, fun H1 d1 w1 k1 => ?_⟩
      refine k _ _ ?_ k1
      have e : Ha02.gets s p q (.halt_ n) = Ha02.dies s q 2 := if_pos hy
      dsimp only; rw [e]; exact w1
    · have hy : ¬ n = 1 := fun z => h1 (decide_eq_true (by rw [z]; rfl))
      refine ⟨_, rfl, _, rfl, _, rfl, _, rfl, _, rfl, (by show 3 ≤ sizeLine; decide), fun t ht => ?_⟩
      obtain ⟨w2, k2⟩ := hw.alloc (x := .tup [V.int 3, iN p, iN n]) ht
      refine ⟨d, s, q, 3, p, n, t, rfl, upd_same, w2, hf, hq, hz, hbx, fun H3 d3 w3 k3 => ?_⟩
      refine k _ _ ?_ (k2.trans k3)
      have e : Ha02.gets s p q (.halt_ n) = Ha02.hit s q ⟨3, p, n⟩ := if_neg hy
      dsimp only; rw [e]; exact w3
theorem ok_take_gone (T : Txt K mg A) : FnOk P w K mg base CX0 1 A.f_take_gone A.d_take_gone ["reached", "number", "why"] (spTakeP A.C_World A.C_Process fun s q n why => Ha02.gets s 0 q (.gone n why)) := by
  refine T.F_take_gone.ok sc_take_gone (fun vs H Q E h => ?_) (fun cdv A' outer s H vs Q E hr h => ?_)
  · obtain ⟨d, s, q, x, y, o, rfl, _⟩ := h; rfl
  · obtain ⟨d, s, q, n, why, o, rfl, ho, ⟨hw, hf, hq, hz, hbx⟩, k⟩ := h
    have hu := hu_of hr
    have po := hw.at_ (q - 1) o _ ho (M.proc_at hq)
    obtain ⟨dx, ha⟩ := po.ins
    obtain ⟨ts, hb, pb⟩ := po.box
    refine ⟨_, (pss_one (ps_if (pt_cmp (pc_din hu (pv 1) (pe_fld (pv 0) rfl))) (pss_cons (ps_expr (pe_dpop1 (pe_fld (pv 0) rfl) (pv 1) ⟨rfl, rfl, rfl, rfl⟩))
      (pss_one (ps_expr (pe_bm PySem.F.plainAttrs_list PySem.F.slot_list_append PySem.F.type_list_append mt_append (pe_fld (pv 0) rfl) (pa_cons (pe_tup (pa_cons (pe_gint rfl T.c_NOTE_GONE) (pa_cons (pv 1) (pa_cons (pv 2) pa_nil)))) pa_nil))))) pss_nil)), ?_⟩
    refine ⟨_, rfl, _, rfl, o.a, _, dx, _, _, rfl, ha, T.cl_Process, T.n_Process_watches, rfl, o.w, _, rfl, DGet.k (k := kn n) po.wat, _, rfl, ?_⟩
    cases ev : valV (encP (Ha02.proc s q).watches) (kn n) with
    | none =>
      refine iteF ?_
      refine k _ _ ?_ (Keeps.refl _ _)
      have e : Ha02.gets s 0 q (.gone n why) = s := if_neg (by rw [key_none ev]; exact Bool.false_ne_true)
      dsimp only; rw [e]; exact hw
    | some v =>
      refine iteT ?_
      obtain ⟨w1, k1⟩ := hw.setW (ws := (Ha02.proc s q).watches.filter fun y => y.1 != n) hq ho
      refine ⟨_, rfl, o.a, _, dx, _, _, rfl, ha, T.cl_Process, T.n_Process_watches, rfl, o.w, rfl, .inl ⟨_, .inl po.wat⟩, _, rfl, _, kn n, _, po.wat, rfl, ev, ?_⟩
      rw [encP_drop]
      have po1 := w1.at_ (q - 1) o _ ho (M.proc_at (by rw [M.setProc_len]; exact hq))
      rw [M.setProc_proc hq] at po1
      obtain ⟨dx1, ha1⟩ := po1.ins
      obtain ⟨ts1, hb1, pb1⟩ := po1.box
      have lb := Paired.length pb1
      refine ⟨_, rfl, o.a, _, dx1, _, _, rfl, ha1, T.cl_Process, T.n_Process_notes, rfl, .inl ⟨rfl, _, SqL.of hb1⟩, _, rfl, _, rfl, (by show 3 ≤ sizeLine; decide), fun t ht => ?_⟩
      obtain ⟨w2, k2⟩ := w1.alloc (x := .tup [V.int 2, iN n, iN why]) ht
      refine ⟨o.n, _, _, rfl, rfl, keep_new ht hb1, (by rw [List.length_map, lb]; exact Nat.lt_of_le_of_lt hbx (by decide)), ?_⟩
      have ep : Ha02.proc (Ha02.setProc s q { Ha02.proc s q with watches := (Ha02.proc s q).watches.filter fun y => y.1 != n }) q = { Ha02.proc s q with watches := (Ha02.proc s q).watches.filter fun y => y.1 != n } := M.setProc_proc hq
      obtain ⟨w3, k3⟩ := w2.setN (p := q) (m := ⟨2, n, why⟩) (by rw [M.setProc_len]; exact hq) ho (keep_new ht hb1) (by rw [ep]; exact notes_kept (fun b xs e => keep_new ht e) pb1) upd_same
      refine k _ _ ?_ ((k1.trans k2).trans k3)
      have e : Ha02.gets s 0 q (.gone n why) = Ha02.setProc (Ha02.setProc s q { Ha02.proc s q with watches := (Ha02.proc s q).watches.filter fun y => y.1 != n }) q (Ha02.notes { Ha02.proc s q with watches := (Ha02.proc s q).watches.filter fun y => y.1 != n } ⟨2, n, why⟩) := by
        show (if ((Ha02.proc s q).watches.any fun y => y.1 == n) = true then Ha02.setProc s q (Ha02.notes { Ha02.proc s q with watches := (Ha02.proc s q).watches.filter fun y => y.1 != n } ⟨2, n, why⟩) else s) = _
        rw [if_pos (key_any ev)]
        simp [Ha02.setProc]
      dsimp only
      rw [e]
      rw [ep] at w3
      exact w3
end
end Lw
set_option maxRecDepth 100000
set_option maxHeartbeats 2000000
/-! A signal arrives. -/
namespace Lw
open PySem PySem.Spec PyProof.Rows L2
section
variable {P : Program} {w : World} {K : PySem.W.Frag} {mg : Str → Option Value} {base : Heap} {A : Adr}
theorem ok_arrive_at_living (T : Txt K mg A) : FnOk P w K mg base CX0 6 A.f_arrive_at_living A.d_arrive_at_living ["world", "p", "q", "signal"] (spSig A.C_World A.C_Process Ha02.gets) := by
  refine T.F_arrive_at_living.ok sc_arrive_at_living (fun vs H Q E h => ?_) (fun cdv A' outer s H vs Q E hr h => ?_)
  · obtain ⟨d, s, p, q, x, g, rfl, _⟩ := h; rfl
  · obtain ⟨d, s, p, q, x, g, rfl, hg, ap, hnw, k⟩ := h
    obtain ⟨hw, hf, hq, hz, hbx⟩ := id ap
    have hu := hu_of hr
    obtain ⟨o, ho, po, pv_⟩ := hw.get hq
    obtain ⟨dx, ha⟩ := po.ins
    obtain ⟨ts, hb, pb⟩ := po.box
    have lb := Paired.length pb
    have hbl : (ts.map V.ref).length < sizeLine := by rw [List.length_map, lb]; exact Nat.lt_of_le_of_lt hbx (by decide)
    refine ⟨_, (pss_cons (ps_set (i := 4) sc_arrive_at_living.nd rfl (Or.inl rfl) (pe_ix ix_tup (pv 3) pe_int (fun _ _ => rfl)))
      (pss_cons (ps_set (i := 5) sc_arrive_at_living.nd rfl (Or.inl rfl) (pe_dget hu (pe_fld (pv 0) rfl) (pv 2) (fun _ _ => rfl)))
      (pss_one (ps_if (pt_cmpR op_eq (pv 4) (pe_gint rfl T.c_SIGNAL_WORD) (nomark _)) (pss_one (ps_expr (pe_bm PySem.F.plainAttrs_list PySem.F.slot_list_append PySem.F.type_list_append mt_append (pe_fld (pv 5) rfl) (pa_cons (pe_tup (pa_cons (pe_gint rfl T.c_NOTE_WORD) (pa_cons (pv 1) (pa_cons (pe_ix ix_tup (pv 3) pe_int (fun _ _ => rfl)) pa_nil)))) pa_nil)))) (pss_one (ps_if (pt_cmpR op_eq (pv 4) (pe_gint rfl T.c_SIGNAL_LINK) (nomark _)) (pss_one (ps_expr (pe_dsetd (pe_fld (pv 5) rfl) (pv 1) (pe_gint rfl T.c_HOLDS) ⟨rfl, rfl, rfl, rfl⟩))) (pss_one (ps_if (pt_cmpR op_eq (pv 4) (pe_gint rfl T.c_SIGNAL_CUT) (nomark _)) (pss_one (ps_expr (pe_call (ok_take_cut T) (hr.mono (by decide)) rfl T.m_take_cut T.F_take_cut.kp T.b_take_cut .nil pass0 (pa_cons (pv 0) (pa_cons (pv 1) (pa_cons (pv 2) (pa_cons (pe_ix ix_tup (pv 3) pe_int (fun _ _ => rfl)) pa_nil))))))) (pss_one (ps_if (pt_cmpR op_eq (pv 4) (pe_gint rfl T.c_SIGNAL_HEARD) (nomark _)) (pss_one (ps_expr (pe_call (ok_take_heard T) (hr.mono (by decide)) rfl T.m_take_heard T.F_take_heard.kp T.b_take_heard .nil pass0 (pa_cons (pv 5) (pa_cons (pv 1) (pa_cons (pe_ix ix_tup (pv 3) pe_int (fun _ _ => rfl)) pa_nil)))))) (pss_one (ps_if (pt_cmpR op_eq (pv 4) (pe_gint rfl T.c_SIGNAL_ENDED) (nomark _)) (pss_one (ps_expr (pe_call (ok_take_ended T) (hr.mono (by decide)) rfl T.m_take_ended T.F_take_ended.kp T.b_take_ended .nil pass0 (pa_cons (pv 0) (pa_cons (pv 1) (pa_cons (pv 2) (pa_cons (pe_ix ix_tup (pv 3) pe_int (fun _ _ => rfl)) pa_nil))))))) (pss_one (ps_if (pt_cmpR op_eq (pv 4) (pe_gint rfl T.c_SIGNAL_STOP) (nomark _)) (pss_one (ps_expr (pe_call (ok_take_stop T) (hr.mono (by decide)) rfl T.m_take_stop T.F_take_stop.kp T.b_take_stop .nil pass0 (pa_cons (pv 0) (pa_cons (pv 1) (pa_cons (pv 2) (pa_cons (pe_ix ix_tup (pv 3) pe_int (fun _ _ => rfl)) pa_nil))))))) (pss_one (ps_if (pt_cmpR op_eq (pv 4) (pe_gint rfl T.c_SIGNAL_WATCH) (nomark _)) (pss_one (ps_dput hu (pe_fld (pv 5) rfl) (pe_ix ix_tup (pv 3) pe_int (fun _ _ => rfl)) (pv 1) rfl)) (pss_one (ps_if (pt_cmpR op_eq (pv 4) (pe_gint rfl T.c_SIGNAL_UNWATCH) (nomark _)) (pss_one (ps_expr (pe_dpop2 (pe_fld (pv 5) rfl) (pe_ix ix_tup (pv 3) pe_int (fun _ _ => rfl)) pe_non ⟨rfl, rfl, rfl, rfl⟩))) (pss_one (ps_expr (pe_call (ok_take_gone T) (hr.mono (by decide)) rfl T.m_take_gone T.F_take_gone.kp T.b_take_gone .nil pass0 (pa_cons (pv 5) (pa_cons (pe_ix ix_tup (pv 3) pe_int (fun _ _ => rfl)) (pa_cons (pe_ix ix_tup (pv 3) pe_int (fun _ _ => rfl)) pa_nil)))))))))))))))))))))))), ?_⟩
    cases x with
    | word n =>
      refine ⟨_, rfl, g, _, _, _, rfl, rfl, SqT.of hg, atI_nat (j := 0) rfl, ?_⟩
      refine ⟨_, rfl, d.W, _, d.dW, _, _, rfl, hw.ins, T.cl_World, T.n_World_processes, rfl, _, rfl, d.dp, .ref o.a, rfl, dget_at hw.prs pv_, ?_⟩
      refine ⟨_, rfl, rfl, _, rfl, iteT ?_⟩
      refine ⟨_, rfl, o.a, _, dx, _, _, rfl, ha, T.cl_Process, T.n_Process_notes, rfl, .inl ⟨rfl, _, SqL.of hb⟩, _, rfl, _, rfl, g, _, _, _, rfl, rfl, SqT.of hg, atI_nat (j := 1) rfl, (by show 3 ≤ sizeLine; decide), fun t ht => ?_⟩
      obtain ⟨w2, k2⟩ := hw.alloc (x := .tup [V.int 0, iN p, iN n]) ht
      obtain ⟨w3, k3⟩ := w2.setN (p := q) (m := ⟨0, p, n⟩) hq ho (keep_new ht hb) (notes_kept (fun b xs e => keep_new ht e) pb) upd_same
      refine ⟨o.n, _, _, rfl, rfl, keep_new ht hb, hbl, ?_⟩
      exact k _ _ w3 (k2.trans k3)
    | link =>
      refine ⟨_, rfl, g, _, _, _, rfl, rfl, SqT.of hg, atI_nat (j := 0) rfl, ?_⟩
      refine ⟨_, rfl, d.W, _, d.dW, _, _, rfl, hw.ins, T.cl_World, T.n_World_processes, rfl, _, rfl, d.dp, .ref o.a, rfl, dget_at hw.prs pv_, ?_⟩
      refine ⟨_, rfl, rfl, _, rfl, iteF ?_⟩
      refine ⟨_, rfl, rfl, _, rfl, iteT ?_⟩
      obtain ⟨kvs, hl, pm, hv⟩ := po.holds hf.srt p
      refine ⟨_, rfl, o.a, _, dx, _, _, rfl, ha, T.cl_Process, T.n_Process_links, rfl, o.l, rfl, .inl ⟨kvs, .inl hl⟩, _, rfl, kvs, kn p, hl, rfl, kvs_len pm hf, fun v hvv => ?_, fun hvn => ?_⟩
      · rw [hv] at hvv
        obtain ⟨y, hy, _⟩ := Option.map_eq_some_iff.mp hvv
        refine k _ _ ?_ (Keeps.refl _ _)
        have e : Ha02.gets s p q .link = s := if_pos (by rw [hy]; rfl)
        rw [e]; exact hw
      · rw [hv] at hvn
        have hy := Option.map_eq_none_iff.mp hvn
        obtain ⟨w1, k1⟩ := hw.setL hq ho (put_link hf.srt pm p 0)
        refine k _ _ ?_ k1
        have e : Ha02.gets s p q .link = Ha02.setProc s q (Ha02.withLink (Ha02.proc s q) p 0) := if_neg (by rw [hy]; exact Bool.false_ne_true)
        rw [e]; exact w1
    | cut n =>
      refine ⟨_, rfl, g, _, _, _, rfl, rfl, SqT.of hg, atI_nat (j := 0) rfl, ?_⟩
      refine ⟨_, rfl, d.W, _, d.dW, _, _, rfl, hw.ins, T.cl_World, T.n_World_processes, rfl, _, rfl, d.dp, .ref o.a, rfl, dget_at hw.prs pv_, ?_⟩
      refine ⟨_, rfl, rfl, _, rfl, iteF ?_⟩
      refine ⟨_, rfl, rfl, _, rfl, iteF ?_⟩
      refine ⟨_, rfl, rfl, _, rfl, iteT ?_⟩
      refine ⟨_, rfl, _, rfl, _, rfl, _, rfl, g, _, _, _, rfl, rfl, SqT.of hg, atI_nat (j := 1) rfl, ?_⟩
      exact ⟨d, s, p, q, n, rfl, ap, fun H1 d1 w1 k1 => k _ _ w1 k1⟩
    | heard n =>
      refine ⟨_, rfl, g, _, _, _, rfl, rfl, SqT.of hg, atI_nat (j := 0) rfl, ?_⟩
      refine ⟨_, rfl, d.W, _, d.dW, _, _, rfl, hw.ins, T.cl_World, T.n_World_processes, rfl, _, rfl, d.dp, .ref o.a, rfl, dget_at hw.prs pv_, ?_⟩
      refine ⟨_, rfl, rfl, _, rfl, iteF ?_⟩
      refine ⟨_, rfl, rfl, _, rfl, iteF ?_⟩
      refine ⟨_, rfl, rfl, _, rfl, iteF ?_⟩
      refine ⟨_, rfl, rfl, _, rfl, iteT ?_⟩
      refine ⟨_, rfl, _, rfl, _, rfl, g, _, _, _, rfl, rfl, SqT.of hg, atI_nat (j := 1) rfl, ?_⟩
      exact ⟨d, s, q, p, n, o, rfl, ho, ap, fun H1 d1 w1 k1 => k _ _ w1 k1⟩
    | ended n =>
      refine ⟨_, rfl, g, _, _, _, rfl, rfl, SqT.of hg, atI_nat (j := 0) rfl, ?_⟩
      refine ⟨_, rfl, d.W, _, d.dW, _, _, rfl, hw.ins, T.cl_World, T.n_World_processes, rfl, _, rfl, d.dp, .ref o.a, rfl, dget_at hw.prs pv_, ?_⟩
      refine ⟨_, rfl, rfl, _, rfl, iteF ?_⟩
      refine ⟨_, rfl, rfl, _, rfl, iteF ?_⟩
      refine ⟨_, rfl, rfl, _, rfl, iteF ?_⟩
      refine ⟨_, rfl, rfl, _, rfl, iteF ?_⟩
      refine ⟨_, rfl, rfl, _, rfl, iteT ?_⟩
      refine ⟨_, rfl, _, rfl, _, rfl, _, rfl, g, _, _, _, rfl, rfl, SqT.of hg, atI_nat (j := 1) rfl, ?_⟩
      exact ⟨d, s, p, q, n, rfl, ap, fun H1 d1 w1 k1 => k _ _ w1 k1⟩
    | halt_ n =>
      refine ⟨_, rfl, g, _, _, _, rfl, rfl, SqT.of hg, atI_nat (j := 0) rfl, ?_⟩
      refine ⟨_, rfl, d.W, _, d.dW, _, _, rfl, hw.ins, T.cl_World, T.n_World_processes, rfl, _, rfl, d.dp, .ref o.a, rfl, dget_at hw.prs pv_, ?_⟩
      refine ⟨_, rfl, rfl, _, rfl, iteF ?_⟩
      refine ⟨_, rfl, rfl, _, rfl, iteF ?_⟩
      refine ⟨_, rfl, rfl, _, rfl, iteF ?_⟩
      refine ⟨_, rfl, rfl, _, rfl, iteF ?_⟩
      refine ⟨_, rfl, rfl, _, rfl, iteF ?_⟩
      refine ⟨_, rfl, rfl, _, rfl, iteT ?_⟩
      refine ⟨_, rfl, _, rfl, _, rfl, _, rfl, g, _, _, _, rfl, rfl, SqT.of hg, atI_nat (j := 1) rfl, ?_⟩
      exact ⟨d, s, p, q, n, rfl, ap, fun H1 d1 w1 k1 => k _ _ w1 k1⟩
    | watch n =>
      refine ⟨_, rfl, g, _, _, _, rfl, rfl, SqT.of hg, atI_nat (j := 0) rfl, ?_⟩
      refine ⟨_, rfl, d.W, _, d.dW, _, _, rfl, hw.ins, T.cl_World, T.n_World_processes, rfl, _, rfl, d.dp, .ref o.a, rfl, dget_at hw.prs pv_, ?_⟩
      refine ⟨_, rfl, rfl, _, rfl, iteF ?_⟩
      refine ⟨_, rfl, rfl, _, rfl, iteF ?_⟩
      refine ⟨_, rfl, rfl, _, rfl, iteF ?_⟩
      refine ⟨_, rfl, rfl, _, rfl, iteF ?_⟩
      refine ⟨_, rfl, rfl, _, rfl, iteF ?_⟩
      refine ⟨_, rfl, rfl, _, rfl, iteF ?_⟩
      refine ⟨_, rfl, rfl, _, rfl, iteT ?_⟩
      obtain ⟨w1, k1⟩ := hw.setV (ws := (Ha02.proc s q).watched ++ [(n, p)]) hq ho
      refine ⟨_, rfl, _, rfl, o.a, _, dx, _, _, rfl, ha, T.cl_Process, T.n_Process_watchers, rfl, _, rfl, g, _, _, _, rfl, rfl, SqT.of hg, atI_nat (j := 1) rfl, o.v, _, rfl, DPut.k (k := kn n) po.vat (line_small (by have := hf.nv; simp only [encP, List.length_map]; omega)), ?_⟩
      have ep : putK (encP (Ha02.proc s q).watched) (kn n) (iN p) = encP ((Ha02.proc s q).watched ++ [(n, p)]) := encP_put (hnw n rfl)
      rw [ep]
      exact k _ _ w1 k1
    | unwatch n =>
      refine ⟨_, rfl, g, _, _, _, rfl, rfl, SqT.of hg, atI_nat (j := 0) rfl, ?_⟩
      refine ⟨_, rfl, d.W, _, d.dW, _, _, rfl, hw.ins, T.cl_World, T.n_World_processes, rfl, _, rfl, d.dp, .ref o.a, rfl, dget_at hw.prs pv_, ?_⟩
      refine ⟨_, rfl, rfl, _, rfl, iteF ?_⟩
      refine ⟨_, rfl, rfl, _, rfl, iteF ?_⟩
      refine ⟨_, rfl, rfl, _, rfl, iteF ?_⟩
      refine ⟨_, rfl, rfl, _, rfl, iteF ?_⟩
      refine ⟨_, rfl, rfl, _, rfl, iteF ?_⟩
      refine ⟨_, rfl, rfl, _, rfl, iteF ?_⟩
      refine ⟨_, rfl, rfl, _, rfl, iteF ?_⟩
      refine ⟨_, rfl, rfl, _, rfl, iteT ?_⟩
      refine ⟨_, rfl, o.a, _, dx, _, _, rfl, ha, T.cl_Process, T.n_Process_watchers, rfl, o.v, rfl, .inl ⟨_, .inl po.vat⟩, _, rfl, g, _, _, _, rfl, rfl, SqT.of hg, atI_nat (j := 1) rfl, _, kn n, po.vat, rfl, fun v hvv => ?_, fun hvn => ?_⟩
      · obtain ⟨w1, k1⟩ := hw.setV (ws := (Ha02.proc s q).watched.filter fun y => y.1 != n) hq ho
        rw [encP_drop]
        exact k _ _ w1 k1
      · refine k _ _ ?_ (Keeps.refl _ _)
        have e : Ha02.gets s p q (.unwatch n) = s := by
          show Ha02.setProc s q { Ha02.proc s q with watched := (Ha02.proc s q).watched.filter fun y => y.1 != n } = s
          rw [no_key hvn]
          show { s with procs := s.procs.set (q - 1) (Ha02.proc s q) } = s
          rw [set_same (M.proc_at hq)]
        rw [e]; exact hw
    | gone n why =>
      refine ⟨_, rfl, g, _, _, _, rfl, rfl, SqT.of hg, atI_nat (j := 0) rfl, ?_⟩
      refine ⟨_, rfl, d.W, _, d.dW, _, _, rfl, hw.ins, T.cl_World, T.n_World_processes, rfl, _, rfl, d.dp, .ref o.a, rfl, dget_at hw.prs pv_, ?_⟩
      refine ⟨_, rfl, rfl, _, rfl, iteF ?_⟩
      refine ⟨_, rfl, rfl, _, rfl, iteF ?_⟩
      refine ⟨_, rfl, rfl, _, rfl, iteF ?_⟩
      refine ⟨_, rfl, rfl, _, rfl, iteF ?_⟩
      refine ⟨_, rfl, rfl, _, rfl, iteF ?_⟩
      refine ⟨_, rfl, rfl, _, rfl, iteF ?_⟩
      refine ⟨_, rfl, rfl, _, rfl, iteF ?_⟩
      refine ⟨_, rfl, rfl, _, rfl, iteF ?_⟩
      refine ⟨_, rfl, _, rfl, g, _, _, _, rfl, rfl, SqT.of hg, atI_nat (j := 1) rfl, _, rfl, g, _, _, _, rfl, rfl, SqT.of hg, atI_nat (j := 2) rfl, ?_⟩
      exact ⟨d, s, q, n, why, o, rfl, ho, ap, fun H1 d1 w1 k1 => k _ _ w1 k1⟩
theorem ok_arrive_at_ended (T : Txt K mg A) : FnOk P w K mg base CX0 2 A.f_arrive_at_ended A.d_arrive_at_ended ["world", "p", "q", "signal"] (spSig A.C_World A.C_Process Ha02.deadGets) := by
  refine T.F_arrive_at_ended.ok sc_arrive_at_ended (fun vs H Q E h => ?_) (fun cdv A' outer s H vs Q E hr h => ?_)
  · obtain ⟨d, s, p, q, x, g, rfl, _⟩ := h; rfl
  · obtain ⟨d, s, p, q, x, g, rfl, hg, ⟨hw, hf, hq, hz, hbx⟩, hnw, k⟩ := h
    have hlen : s.air.length < sizeLine := line_small (by omega)
    refine ⟨_, (pss_cons (ps_set (i := 4) sc_arrive_at_ended.nd rfl (Or.inl rfl) (pe_ix ix_tup (pv 3) pe_int (fun _ _ => rfl)))
      (pss_one (ps_if (pt_cmpR op_eq (pv 4) (pe_gint rfl T.c_SIGNAL_LINK) (nomark _)) (pss_one (ps_expr (pe_meth (pv 0) T.cl_World T.me_World_send (ok_World_send T) (hr.mono (by decide)) T.b_World_send .nil pass0 (pa_cons (pv 2) (pa_cons (pv 1) (pa_cons (pe_tup (pa_cons (pe_gint rfl T.c_SIGNAL_ENDED) (pa_cons (pe_gint rfl T.c_WHY_NOBODY) pa_nil))) pa_nil)))))) (pss_one (ps_if (pt_cmpR op_eq (pv 4) (pe_gint rfl T.c_SIGNAL_CUT) (nomark _)) (pss_one (ps_expr (pe_meth (pv 0) T.cl_World T.me_World_send (ok_World_send T) (hr.mono (by decide)) T.b_World_send .nil pass0 (pa_cons (pv 2) (pa_cons (pv 1) (pa_cons (pe_tup (pa_cons (pe_gint rfl T.c_SIGNAL_HEARD) (pa_cons (pe_ix ix_tup (pv 3) pe_int (fun _ _ => rfl)) pa_nil))) pa_nil)))))) (pss_one (ps_if (pt_cmpR op_eq (pv 4) (pe_gint rfl T.c_SIGNAL_WATCH) (nomark _)) (pss_one (ps_expr (pe_meth (pv 0) T.cl_World T.me_World_send (ok_World_send T) (hr.mono (by decide)) T.b_World_send .nil pass0 (pa_cons (pv 2) (pa_cons (pv 1) (pa_cons (pe_tup (pa_cons (pe_gint rfl T.c_SIGNAL_GONE) (pa_cons (pe_ix ix_tup (pv 3) pe_int (fun _ _ => rfl)) (pa_cons (pe_gint rfl T.c_WHY_NOBODY) pa_nil)))) pa_nil)))))) pss_nil))))))), ?_⟩
    have none_ : Ha02.deadGets s p q x = s → Q .non H := fun e => k _ d (by rw [e]; exact hw) (Keeps.refl _ _)
    cases x with
    | link =>
      refine ⟨_, rfl, g, _, _, _, rfl, rfl, SqT.of hg, atI_nat (j := 0) rfl, ?_⟩
      refine ⟨_, rfl, rfl, _, rfl, iteT ?_⟩
      refine ⟨_, rfl, d.W, d.dW, _, rfl, hw.ins, rfl, _, rfl, _, rfl, (by show 2 ≤ sizeLine; decide), fun g2 hg0 => ?_⟩
      obtain ⟨w2, k2⟩ := hw.alloc (x := .tup [V.int 4, V.int 3]) hg0
      refine ⟨d.W, d.dW, d.ls, _, _, _, _, _, rfl, w2.ins, rfl, w2.lst, (by rw [List.length_map, air_len w2]; exact hlen), fun t ht => ?_⟩
      obtain ⟨w3, k3⟩ := w2.sent (p := q) (q := p) (x := .ended 3) upd_same ht
      simp only [List.map_append, List.map_cons, List.map_nil] at w3 k3
      exact k _ _ w3 (k2.trans k3)
    | cut n =>
      refine ⟨_, rfl, g, _, _, _, rfl, rfl, SqT.of hg, atI_nat (j := 0) rfl, ?_⟩
      refine ⟨_, rfl, rfl, _, rfl, iteF ?_⟩
      refine ⟨_, rfl, rfl, _, rfl, iteT ?_⟩
      refine ⟨_, rfl, d.W, d.dW, _, rfl, hw.ins, rfl, _, rfl, _, rfl, _, rfl, g, _, _, _, rfl, rfl, SqT.of hg, atI_nat (j := 1) rfl, (by show 2 ≤ sizeLine; decide), fun g2 hg0 => ?_⟩
      obtain ⟨w2, k2⟩ := hw.alloc (x := .tup [V.int 3, iN n]) hg0
      refine ⟨d.W, d.dW, d.ls, _, _, _, _, _, rfl, w2.ins, rfl, w2.lst, (by rw [List.length_map, air_len w2]; exact hlen), fun t ht => ?_⟩
      obtain ⟨w3, k3⟩ := w2.sent (p := q) (q := p) (x := .heard n) upd_same ht
      simp only [List.map_append, List.map_cons, List.map_nil] at w3 k3
      exact k _ _ w3 (k2.trans k3)
    | watch n =>
      refine ⟨_, rfl, g, _, _, _, rfl, rfl, SqT.of hg, atI_nat (j := 0) rfl, ?_⟩
      refine ⟨_, rfl, rfl, _, rfl, iteF ?_⟩
      refine ⟨_, rfl, rfl, _, rfl, iteF ?_⟩
      refine ⟨_, rfl, rfl, _, rfl, iteT ?_⟩
      refine ⟨_, rfl, d.W, d.dW, _, rfl, hw.ins, rfl, _, rfl, _, rfl, _, rfl, g, _, _, _, rfl, rfl, SqT.of hg, atI_nat (j := 1) rfl, (by show 3 ≤ sizeLine; decide), fun g2 hg0 => ?_⟩
      obtain ⟨w2, k2⟩ := hw.alloc (x := .tup [V.int 8, iN n, V.int 3]) hg0
      refine ⟨d.W, d.dW, d.ls, _, _, _, _, _, rfl, w2.ins, rfl, w2.lst, (by rw [List.length_map, air_len w2]; exact hlen), fun t ht => ?_⟩
      obtain ⟨w3, k3⟩ := w2.sent (p := q) (q := p) (x := .gone n 3) upd_same ht
      simp only [List.map_append, List.map_cons, List.map_nil] at w3 k3
      exact k _ _ w3 (k2.trans k3)
    | word n => exact ⟨_, rfl, g, _, _, _, rfl, rfl, SqT.of hg, atI_nat (j := 0) rfl, _, rfl, rfl, _, rfl, iteF ⟨_, rfl, rfl, _, rfl, iteF ⟨_, rfl, rfl, _, rfl, iteF (none_ rfl)⟩⟩⟩
    | heard n => exact ⟨_, rfl, g, _, _, _, rfl, rfl, SqT.of hg, atI_nat (j := 0) rfl, _, rfl, rfl, _, rfl, iteF ⟨_, rfl, rfl, _, rfl, iteF ⟨_, rfl, rfl, _, rfl, iteF (none_ rfl)⟩⟩⟩
    | ended n => exact ⟨_, rfl, g, _, _, _, rfl, rfl, SqT.of hg, atI_nat (j := 0) rfl, _, rfl, rfl, _, rfl, iteF ⟨_, rfl, rfl, _, rfl, iteF ⟨_, rfl, rfl, _, rfl, iteF (none_ rfl)⟩⟩⟩
    | halt_ n => exact ⟨_, rfl, g, _, _, _, rfl, rfl, SqT.of hg, atI_nat (j := 0) rfl, _, rfl, rfl, _, rfl, iteF ⟨_, rfl, rfl, _, rfl, iteF ⟨_, rfl, rfl, _, rfl, iteF (none_ rfl)⟩⟩⟩
    | unwatch n => exact ⟨_, rfl, g, _, _, _, rfl, rfl, SqT.of hg, atI_nat (j := 0) rfl, _, rfl, rfl, _, rfl, iteF ⟨_, rfl, rfl, _, rfl, iteF ⟨_, rfl, rfl, _, rfl, iteF (none_ rfl)⟩⟩⟩
    | gone n why => exact ⟨_, rfl, g, _, _, _, rfl, rfl, SqT.of hg, atI_nat (j := 0) rfl, _, rfl, rfl, _, rfl, iteF ⟨_, rfl, rfl, _, rfl, iteF ⟨_, rfl, rfl, _, rfl, iteF (none_ rfl)⟩⟩⟩
end
end Lw
set_option maxRecDepth 100000
set_option maxHeartbeats 2000000
/-! Arrivals: deliver, turns; trap, say. -/
namespace Lw
open PySem PySem.Spec PyProof.Rows L2
theorem paired_erase {α β : Type} {G : α → β → Prop} : ∀ {l₁ : List α} {l₂ : List β}, Paired G l₁ l₂ → ∀ i : Nat, Paired G (l₁.eraseIdx i) (l₂.eraseIdx i)
  | _, _, .nil, _ => .nil
  | _, _, .cons _ r, 0 => r
  | _, _, .cons a r, i + 1 => .cons a (paired_erase r i)
theorem map_erase {α β : Type} (f : α → β) : ∀ (l : List α) (i : Nat), (l.map f).eraseIdx i = (l.eraseIdx i).map f
  | [], _ => rfl
  | _ :: _, 0 => rfl
  | a :: l, i + 1 => by
    show f a :: (l.map f).eraseIdx i = f a :: (l.eraseIdx i).map f
    rw [map_erase f l i]
theorem seqIx_nat {i n : Nat} (h : i < n) : seqIndex? (i : Int) n = some i := by
  unfold seqIndex?
  have h1 : ¬ ((i : Int) < 0) := by omega
  simp only [h1, if_false]
  have h2 : (decide (0 ≤ (i : Int)) && decide ((i : Int) < (n : Int))) = true := by simp; omega
  rw [if_pos h2]
  simp
def spArrive (CW CP : Addr) : Sp := fun vs H Q _ => ∃ (d : Ad) (s : Ha02.St) (i c t : Nat) (y : Nat × Nat × Ha02.Sig), vs = [.ref d.W, iN i] ∧ WAt CW CP H d s ∧ s.air[i]? = some y ∧ M.Good c t s ∧ c ≤ 100 ∧ t ≤ 200000 ∧
  ∀ (H' : Hp) (d' : Ad) (g : Addr), WAt CW CP H' d' (Ha02.arrives { s with air := s.air.eraseIdx i } y.1 y.2.1 y.2.2) → Keeps H d H' d' → H' g = some (.tup ((Ha02.sigTold y.2.2).map iN)) → Q (.ref g) H'
section
variable {P : Program} {w : World} {K : PySem.W.Frag} {mg : Str → Option Value} {base : Heap} {A : Adr}
theorem ok_arrive (T : Txt K mg A) : FnOk P w K mg base CX0 7 A.f_arrive A.d_arrive ["world", "place"] (spArrive A.C_World A.C_Process) := by
  refine T.F_arrive.ok sc_arrive (fun vs H Q E h => ?_) (fun cdv A' outer s H vs Q E hr h => ?_)
  · obtain ⟨d, s, i, c, t, y, rfl, _⟩ := h; rfl
  · obtain ⟨d, s, i, c, t, y, rfl, hw, hy, hg, hc, ht, k⟩ := h
    have hu := hu_of hr
    obtain ⟨hi, _⟩ := List.getElem?_eq_some_iff.mp hy
    have ym := List.mem_of_getElem? hy
    obtain ⟨yp, yq, _⟩ := hg.ag y ym
    have la := air_len hw
    have hs0 := air_small hg hc
    obtain ⟨ta, hta⟩ : ∃ ta, d.ts[i]? = some ta := ⟨_, List.getElem?_eq_getElem (by omega)⟩
    obtain ⟨y', hy', sg⟩ := paired_get hw.air hta
    rw [hy] at hy'
    cases hy'
    obtain ⟨g, e1, e2⟩ := sg
    obtain ⟨sp1, sp2⟩ := M.split_at hy
    obtain ⟨gd, nw, rm⟩ := hg.taken sp1
    rw [← sp2] at gd nw rm
    obtain ⟨w1, k1⟩ := hw.sigs (H' := upd H d.ls (.lst ((d.ts.eraseIdx i).map V.ref))) (ts := d.ts.eraseIdx i) (air := s.air.eraseIdx i) (fun b u e n => by rw [upd_ne n]; exact e) upd_same
      (paired_erase (sigs_kept (fun b xs e => by rw [upd_ne (ne_of e hw.lst (by intro z; cases z))]; exact e) hw.air) i)
    have e1' : upd H d.ls (.lst ((d.ts.eraseIdx i).map V.ref)) ta = some (.tup [iN y.1, iN y.2.1, .ref g]) := by rw [upd_ne (ne_of e1 hw.lst (by intro z; cases z))]; exact e1
    have e2' : upd H d.ls (.lst ((d.ts.eraseIdx i).map V.ref)) g = some (.tup ((Ha02.sigTold y.2.2).map iN)) := by rw [upd_ne (ne_of e2 hw.lst (by intro z; cases z))]; exact e2
    obtain ⟨o, ho, po, pv_⟩ := w1.get (p := y.2.1) yq
    obtain ⟨dx, ha⟩ := po.ins
    have hf : Fit (Ha02.proc s y.2.1) := fit_of hg hc yq
    have bx : (Ha02.proc s y.2.1).box.length ≤ 200000 := Nat.le_trans (hg.pg _ (M.proc_mem yq)).box ht
    have z1 : (s.air.eraseIdx i).length ≤ 90000 := Nat.le_trans (List.length_eraseIdx_le _ _) (by omega)
    have ap : APre A.C_World A.C_Process (upd H d.ls (.lst ((d.ts.eraseIdx i).map V.ref))) { d with ts := d.ts.eraseIdx i } { s with air := s.air.eraseIdx i } y.2.1 := ⟨w1, hf, yq, z1, bx⟩
    have nw' : ∀ k, y.2.2 = .watch k → k ∉ M.heard (Ha02.proc { s with air := s.air.eraseIdx i } y.2.1) := fun k e m => nw k e (List.mem_append.mpr (.inr (List.mem_flatMap.mpr ⟨_, M.proc_mem (s := { s with air := s.air.eraseIdx i }) yq, m⟩)))
    have lv : Ha02.lives { s with air := s.air.eraseIdx i } y.2.1 = (Ha02.proc s y.2.1).lives := M.lives_iff (s := { s with air := s.air.eraseIdx i }) yq
    refine ⟨_, (pss_cons (ps_set (i := 2) sc_arrive.nd rfl (Or.inl rfl) (pe_bm PySem.F.plainAttrs_list PySem.F.slot_list_pop PySem.F.type_list_pop mt_popAt (pe_fld (pv 0) rfl) (pa_cons (pv 1) pa_nil)))
      (pss_cons (ps_set (i := 3) sc_arrive.nd rfl (Or.inl rfl) (pe_ix ix_tup (pv 2) pe_int (fun _ _ => rfl)))
      (pss_cons (ps_if (pt_val (pe_fld (pe_dget hu (pe_fld (pv 0) rfl) (pe_ix ix_tup (pv 2) pe_int (fun _ _ => rfl)) (fun _ _ => rfl)) rfl)) (pss_one (ps_expr (pe_call (ok_arrive_at_living T) (hr.mono (by decide)) rfl T.m_arrive_at_living T.F_arrive_at_living.kp T.b_arrive_at_living .nil pass0 (pa_cons (pv 0) (pa_cons (pe_ix ix_tup (pv 2) pe_int (fun _ _ => rfl)) (pa_cons (pe_ix ix_tup (pv 2) pe_int (fun _ _ => rfl)) (pa_cons (pv 3) pa_nil))))))) (pss_one (ps_expr (pe_call (ok_arrive_at_ended T) (hr.mono (by decide)) rfl T.m_arrive_at_ended T.F_arrive_at_ended.kp T.b_arrive_at_ended .nil pass0 (pa_cons (pv 0) (pa_cons (pe_ix ix_tup (pv 2) pe_int (fun _ _ => rfl)) (pa_cons (pe_ix ix_tup (pv 2) pe_int (fun _ _ => rfl)) (pa_cons (pv 3) pa_nil))))))))
      (pss_one (ps_ret (pv 3)))))), ?_⟩
    refine ⟨_, rfl, d.W, _, d.dW, _, _, rfl, hw.ins, T.cl_World, T.n_World_signals, rfl, .inl ⟨rfl, _, SqL.of hw.lst⟩, _, rfl, d.ls, _, (i : Int), i, _, rfl, rfl, hw.lst, (by omega), (by omega), seqIx_nat (by rw [List.length_map]; omega), (show (d.ts.map V.ref)[i]? = some (V.ref ta) by rw [List.getElem?_map, hta]; rfl), ?_⟩
    rw [map_erase]
    refine ⟨_, rfl, ta, _, _, _, rfl, rfl, SqT.of e1', atI_nat (j := 2) rfl, ?_⟩
    refine ⟨_, rfl, d.W, _, d.dW, _, _, rfl, w1.ins, T.cl_World, T.n_World_processes, rfl, _, rfl, ta, _, _, _, rfl, rfl, SqT.of e1', atI_nat (j := 1) rfl, d.dp, .ref o.a, rfl, dget_at w1.prs pv_, o.a, _, dx, _, _, rfl, ha, T.cl_Process, T.n_Process_living, rfl, _, rfl, ?_⟩
    refine ite2 (fun h1 => ?_) (fun h1 => ?_)
    · have h1 : (Ha02.proc s y.2.1).lives = true := h1
      refine ⟨_, rfl, _, rfl, ta, _, _, _, rfl, rfl, SqT.of e1', atI_nat (j := 0) rfl, _, rfl, ta, _, _, _, rfl, rfl, SqT.of e1', atI_nat (j := 1) rfl, _, rfl, ?_⟩
      refine ⟨{ d with ts := d.ts.eraseIdx i }, _, y.1, y.2.1, y.2.2, g, rfl, e2', ap, nw', fun H2 d2 w2 k2 => ?_⟩
      refine ⟨_, rfl, k _ d2 g ?_ (k1.trans k2) (k2.kp g _ e2' (w1.notup e2')).1⟩
      unfold Ha02.arrives
      rw [lv, if_pos h1]
      exact w2
    · have h1 : ¬ (Ha02.proc s y.2.1).lives = true := h1
      refine ⟨_, rfl, _, rfl, ta, _, _, _, rfl, rfl, SqT.of e1', atI_nat (j := 0) rfl, _, rfl, ta, _, _, _, rfl, rfl, SqT.of e1', atI_nat (j := 1) rfl, _, rfl, ?_⟩
      refine ⟨{ d with ts := d.ts.eraseIdx i }, _, y.1, y.2.1, y.2.2, g, rfl, e2', ap, nw', fun H2 d2 w2 k2 => ?_⟩
      refine ⟨_, rfl, k _ d2 g ?_ (k1.trans k2) (k2.kp g _ e2' (w1.notup e2')).1⟩
      unfold Ha02.arrives
      rw [lv, if_neg h1]
      exact w2
theorem ok_trap (T : Txt K mg A) : FnOk P w K mg base CX0 1 A.f_trap A.d_trap ["world", "p", "yes"] (spC2 A.C_World A.C_Process .trap) := by
  refine T.F_trap.ok sc_trap (fun vs H Q E h => ?_) (fun cdv A' outer s H vs Q E hr h => ?_)
  · obtain ⟨d, s, p, y, rfl, _⟩ := h; rfl
  · obtain ⟨d, s, p, y, rfl, ⟨hw, ⟨c, t, hg, hc⟩, hz⟩, k⟩ := h
    have hu := hu_of hr
    obtain ⟨n1, hz⟩ := M.ite_zero (by decide) hz
    obtain ⟨n2, hz⟩ := M.ite_zero (by decide) hz
    have hp := M.not_there fun z => n1 (.inl z)
    have e : Ha02.step s (.trap p y) = (Ha02.setProc s p { Ha02.proc s p with traps := y == 1 }, Ha02.ints [Ha02.flag (Ha02.proc s p).traps]) := by simp only [Ha02.step]; rw [if_neg n1, if_neg n2]
    obtain ⟨o, ho, po, pv_⟩ := hw.get hp
    obtain ⟨dx, ha⟩ := po.ins
    refine ⟨_, (pss_cons (ps_set (i := 3) sc_trap.nd rfl (Or.inl rfl) (pe_dget hu (pe_fld (pv 0) rfl) (pv 1) (fun _ _ => rfl)))
      (pss_cons (ps_set (i := 4) sc_trap.nd rfl (Or.inl rfl) (pe_fld (pv 3) rfl))
      (pss_cons (ps_fld (pv 3) (pe_cmpR op_eq (pv 2) pe_int (nomark _)) rfl)
      (pss_one (ps_ret (pe_lst (pa_cons (pe_callTy call_int1 (by rfl) T.«int» boot_int (pa_cons (pv 4) pa_nil)) pa_nil))))))), ?_⟩
    refine ⟨_, rfl, d.W, _, d.dW, _, _, rfl, hw.ins, T.cl_World, T.n_World_processes, rfl, _, rfl, d.dp, .ref o.a, rfl, dget_at hw.prs pv_, ?_⟩
    refine ⟨_, rfl, o.a, _, dx, _, _, rfl, ha, T.cl_Process, T.n_Process_traps, rfl, ?_⟩
    refine ⟨_, rfl, rfl, _, rfl, o.a, _, dx, _, rfl, ha, T.cl_Process, T.n_Process_traps, (by show 7 < 1000; decide), ?_⟩
    obtain ⟨w1, k1⟩ := hw.setT (y := y == 1) hp ho ha
    have eb : decide (iN y = V.int 1) = (y == 1) := by
      by_cases z : y = 1
      · subst z; rfl
      · have z1 : ¬ iN y = V.int 1 := fun h => z (iN_inj.mp (show iN y = iN 1 from h))
        rw [decide_eq_false z1]
        simp [z]
    have ew : putF (Str.ofString "traps") (V.bl (decide (iN y = V.int 1))) (pf (Ha02.proc s p) o) = pf { Ha02.proc s p with traps := y == 1 } o := by
      rw [eb]; rfl
    rw [ew]
    refine ⟨_, rfl, .inr ⟨_, rfl, (by show 1 ≤ sizeLine; decide), fun l hl => ?_⟩⟩
    refine k.ret (by rw [e]; exact w1) k1 hl ?_
    rw [e]
    cases (Ha02.proc s p).traps <;> rfl
theorem ok_say (T : Txt K mg A) : FnOk P w K mg base CX0 2 A.f_say A.d_say ["world", "p", "q", "n"] (spC3 A.C_World A.C_Process .say) := by
  refine T.F_say.ok sc_say (fun vs H Q E h => ?_) (fun cdv A' outer s H vs Q E hr h => ?_)
  · obtain ⟨d, s, p, q, why, rfl, _⟩ := h; rfl
  · obtain ⟨d, s, p, q, n, rfl, ⟨hw, ⟨c, t, hg, hc⟩, hz⟩, k⟩ := h
    obtain ⟨n1, hz⟩ := M.ite_zero (by decide) hz
    obtain ⟨n2, hz⟩ := M.ite_zero (by decide) hz
    obtain ⟨n3, hz⟩ := M.ite_zero (by decide) hz
    have e : Ha02.step s (.say p q n) = (Ha02.send s p q (.word n), [0]) := by simp only [Ha02.step]; rw [if_neg n1, if_neg n2, if_neg n3]
    refine ⟨_, (pss_cons (ps_expr (pe_meth (pv 0) T.cl_World T.me_World_send (ok_World_send T) (hr.mono (by decide)) T.b_World_send .nil pass0 (pa_cons (pv 1) (pa_cons (pv 2) (pa_cons (pe_tup (pa_cons (pe_gint rfl T.c_SIGNAL_WORD) (pa_cons (pv 3) pa_nil))) pa_nil)))))
      (pss_one (ps_ret (pe_lst (pa_cons pe_int pa_nil))))), ?_⟩
    refine ⟨_, rfl, d.W, d.dW, _, rfl, hw.ins, rfl, _, rfl, _, rfl, _, rfl, (by show 2 ≤ sizeLine; decide), fun g hg0 => ?_⟩
    obtain ⟨w1, k1⟩ := hw.alloc (x := .tup [V.int 0, iN n]) hg0
    refine ⟨d.W, d.dW, d.ls, _, _, _, _, _, rfl, w1.ins, rfl, w1.lst, (by rw [List.length_map, air_len w1]; exact line_small (by have := air_small hg (by omega); omega)), fun t ht => ?_⟩
    obtain ⟨w2, k2⟩ := w1.sent (p := p) (q := q) (x := .word n) upd_same ht
    simp only [List.map_append, List.map_cons, List.map_nil] at w2 k2
    refine ⟨(by show 1 ≤ sizeLine; decide), fun l hl => ?_⟩
    exact k.ret (by rw [e]; exact w2) (k1.trans k2) hl (by rw [e]; rfl)
theorem ok_deliver (T : Txt K mg A) : FnOk P w K mg base CX0 8 A.f_deliver A.d_deliver ["world", "p", "q"] (spC2 A.C_World A.C_Process .deliver) := by
  refine T.F_deliver.ok sc_deliver (fun vs H Q E h => ?_) (fun cdv A' outer s H vs Q E hr h => ?_)
  · obtain ⟨d, s, p, y, rfl, _⟩ := h; rfl
  · obtain ⟨d, s, p, q, rfl, ⟨hw, ⟨c, t, hg, hc⟩, hz⟩, k⟩ := h
    obtain ⟨n1, hz⟩ := M.ite_zero (by decide) hz
    obtain ⟨n2, hz⟩ := M.ite_zero (by decide) hz
    obtain ⟨i, hi⟩ := Option.ne_none_iff_exists'.mp n2
    have hix := hi
    unfold Ha02.firstOf at hix
    rw [List.findIdx?_eq_some_iff_getElem] at hix
    obtain ⟨hlt, hyy, _⟩ := hix
    have hy : s.air[i]? = some s.air[i] := List.getElem?_eq_getElem hlt
    have hpq : s.air[i].1 = p ∧ s.air[i].2.1 = q := by simpa using hyy
    generalize s.air[i] = y at hy hpq
    obtain ⟨hp1, hq1⟩ := hpq
    have e : Ha02.step s (.deliver p q) = (Ha02.arrives { s with air := s.air.eraseIdx i } y.1 y.2.1 y.2.2, Ha02.ints (Ha02.sigTold y.2.2)) := by
      simp only [Ha02.step]
      rw [if_neg n1, hi]
      simp only [Ha02.delivers, hi, hy, hp1, hq1]
    refine ⟨_, (pss_one (ps_ret (pe_callTy call_list_of (by rfl) T.list boot_list (pa_cons (pe_call (ok_arrive T) (hr.mono (by decide)) rfl T.m_arrive T.F_arrive.kp T.b_arrive .nil pass0 (pa_cons (pv 0) (pa_cons (pe_meth (pv 0) T.cl_World T.me_World_place_of_first (ok_World_place_of_first T) (hr.mono (by decide)) T.b_World_place_of_first .nil pass0 (pa_cons (pv 1) (pa_cons (pv 2) pa_nil))) pa_nil))) pa_nil)))), ?_⟩
    refine ⟨_, rfl, _, rfl, d.W, d.dW, _, rfl, hw.ins, rfl, _, rfl, _, rfl, d, s, p, q, rfl, hw, fun H1 hk1 => ?_⟩
    rw [hi]
    have w1 := hw.kept hk1
    refine ⟨d, s, i, c, t, y, rfl, w1, hy, hg, by omega, by omega, fun H2 d2 g w2 k2 hgt => ?_⟩
    refine ⟨g, _, rfl, .inr (SqT.of hgt), fun l hl => ?_⟩
    refine k.ret (by rw [e]; exact w2) (Keeps.trans (d1 := d) ⟨fun b u e n => ⟨hk1 b u e, n⟩, rfl⟩ k2) hl ?_
    rw [e]
    simp [Ha02.ints, iN]
theorem ok_turns (T : Txt K mg A) : FnOk P w K mg base CX0 8 A.f_turns A.d_turns ["world", "n"] (spC1 A.C_World A.C_Process .turns) := by
  refine T.F_turns.ok sc_turns (fun vs H Q E h => ?_) (fun cdv A' outer s H vs Q E hr h => ?_)
  · obtain ⟨d, s, n, rfl, _⟩ := h; rfl
  · obtain ⟨d, s, n, rfl, ⟨hw, ⟨c, t, hg, hc⟩, hz⟩, k⟩ := h
    obtain ⟨n1, hz⟩ := M.ite_zero (by decide) hz
    have e : Ha02.step s (.turns n) = ((Ha02.rounds n s).1, Ha02.ints [(Ha02.rounds n s).2]) := by simp only [Ha02.step]; rw [if_neg n1]
    refine ⟨_, (pss_cons (ps_set (i := 2) sc_turns.nd rfl (Or.inl rfl) pe_int)
      (pss_cons (ps_while PassesOwn.never ((pw_and (pt_cmpR op_lt (pv 2) (pv 1) (nomark _)) (pw_and1 (pt_cmpR op_gt (pe_callB call_len_seq (by rfl) T.len PySem.boot_len (pa_cons (pe_fld (pv 0) rfl) pa_nil)) pe_int (nomark _))))).pt (pss_cons (ps_expr (pe_call (ok_arrive T) (hr.mono (by decide)) rfl T.m_arrive T.F_arrive.kp T.b_arrive .nil pass0 (pa_cons (pv 0) (pa_cons pe_int pa_nil))))
      (pss_one (ps_aug (i := 2) sc_turns.nd rfl (Or.inl rfl) pe_int ip_add))))
      (pss_one (ps_ret (pe_lst (pa_cons (pv 2) pa_nil)))))), ?_⟩
    refine ⟨fun m σ Hi => ∃ (a : Nat) (d' : Ad) (s' : Ha02.St), σ = [some (.ref d.W), some (iN n), some (iN a)] ∧ a ≤ n ∧ m = n - a ∧ WAt A.C_World A.C_Process Hi d' s' ∧ Keeps H d Hi d' ∧ M.Good c (t + a) s' ∧ (Ha02.rounds n s).1 = (Ha02.rounds (n - a) s').1 ∧ (Ha02.rounds n s).2 = (Ha02.rounds (n - a) s').2 + a,
      ⟨n, 0, d, s, rfl, Nat.zero_le _, rfl, hw, Keeps.refl _ _, hg, rfl, rfl⟩, ?_⟩
    rintro m σ Hi ⟨a, d', s', rfl, han, rfl, hw', hk', hg', r1, r2⟩
    have fin : (Ha02.rounds (n - a) s') = (s', 0) → ∃ v, [some (V.ref d.W), some (iN n), some (iN a)][2]? = some (some v) ∧ (1 ≤ sizeLine ∧ ∀ l, Hi l = none → Q (.ref l) (upd Hi l (.lst [v]))) := fun e0 => by
      refine ⟨_, rfl, (by decide), fun l hl => ?_⟩
      rw [e0] at r1 r2
      refine k.ret (by rw [e, r1]; exact hw') hk' hl ?_
      rw [e, r2]
      simp [Ha02.ints, iN]
    refine ⟨_, rfl, _, rfl, _, _, rfl, rfl, _, rfl, ?_⟩
    refine ite2 (fun h1 => ?_) (fun h1 => ?_)
    · have h1 : a < n := by have := of_decide_eq_true h1; omega
      refine ⟨_, rfl, d'.W, _, d'.dW, _, _, (by rw [hk'.W]), hw'.ins, T.cl_World, T.n_World_signals, rfl, d'.ls, _, rfl, .inl (SqL.of hw'.lst), _, _, rfl, rfl, _, rfl, ?_⟩
      rw [List.length_map, air_len hw']
      refine ite2 (fun h2 => ?_) (fun h2 => ?_)
      · have h2 : 0 < s'.air.length := by have := of_decide_eq_true h2; omega
        refine ⟨fun σ' H' => ∃ m', m' < n - a ∧ ∃ (a : Nat) (d' : Ad) (s' : Ha02.St), σ' = [some (.ref d.W), some (iN n), some (iN a)] ∧ a ≤ n ∧ m' = n - a ∧ WAt A.C_World A.C_Process H' d' s' ∧ Keeps H d H' d' ∧ M.Good c (t + a) s' ∧ (Ha02.rounds n s).1 = (Ha02.rounds (n - a) s').1 ∧ (Ha02.rounds n s).2 = (Ha02.rounds (n - a) s').2 + a, fun σ' H' z => z, ?_⟩
        obtain ⟨y, r, hy⟩ : ∃ y r, s'.air = y :: r := by
          cases e0 : s'.air with
          | nil => rw [e0] at h2; simp at h2
          | cons y r => exact ⟨y, r, rfl⟩
        have hy0 : s'.air[0]? = some y := by rw [hy]; rfl
        refine ⟨_, rfl, ?_⟩
        refine ⟨d', s', 0, c, t + a, y, (by rw [hk'.W]; rfl), hw', hy0, hg', by omega, by omega, fun H2 d2 g w2 k2 _ => ?_⟩
        refine ⟨_, rfl, _, _, rfl, rfl, ?_⟩
        have g2 := hg'.comes (by omega) hy0
        refine ⟨n - (a + 1), by omega, a + 1, d2, _, rfl, by omega, rfl, w2, hk'.trans k2, g2, ?_, ?_⟩
        · rw [r1, show n - a = (n - (a + 1)) + 1 by omega]
          show (match s'.air with | [] => (s', 0) | y :: r => Ha02.oneMore (Ha02.rounds (n - (a + 1)) (Ha02.arrives { s' with air := r } y.1 y.2.1 y.2.2))).1 = _
          rw [hy]
          rfl
        · rw [r2, show n - a = (n - (a + 1)) + 1 by omega]
          show (match s'.air with | [] => (s', 0) | y :: r => Ha02.oneMore (Ha02.rounds (n - (a + 1)) (Ha02.arrives { s' with air := r } y.1 y.2.1 y.2.2))).2 + a = _
          rw [hy]
          show (Ha02.rounds (n - (a + 1)) (Ha02.arrives { s' with air := r } y.1 y.2.1 y.2.2)).2 + 1 + a = (Ha02.rounds (n - (a + 1)) (Ha02.arrives { s' with air := r } y.1 y.2.1 y.2.2)).2 + (a + 1)
          omega
      · have h2 : s'.air = [] := by
          cases e0 : s'.air with
          | nil => rfl
          | cons y r => exact absurd (decide_eq_true (by rw [e0, List.length_cons]; omega)) h2
        refine fin ?_
        rw [show n - a = (n - (a + 1)) + 1 by omega]
        show (match s'.air with | [] => (s', 0) | y :: r => Ha02.oneMore (Ha02.rounds (n - (a + 1)) (Ha02.arrives { s' with air := r } y.1 y.2.1 y.2.2))) = _
        rw [h2]
    · refine ite2 (fun h2 => absurd h2 Bool.false_ne_true) (fun _ => ?_)
      refine fin ?_
      have : n - a = 0 := by
        by_cases z : a < n
        · exact absurd (decide_eq_true (by omega)) h1
        · omega
      rw [this]
      rfl
end
end Lw
set_option maxRecDepth 100000
set_option maxHeartbeats 2000000
/-! The calls that only look: box, process, air. -/
namespace Lw
open PySem PySem.Spec PyProof.Rows L2
/-- tuples at ts -/
def TupsAt (H : Hp) (ts : List Addr) (xs : List (List V)) : Prop := Paired (fun t x => H t = some (.tup x)) ts xs
theorem TupsAt.kept {H H' : Hp} (k : ∀ b u, H b = some u → H' b = some u) : ∀ {ts : List Addr} {xs : List (List V)}, TupsAt H ts xs → TupsAt H' ts xs
  | _, _, .nil => .nil
  | _, _, .cons a r => .cons (k _ _ a) (TupsAt.kept k r)
def spCounted : Sp := fun vs H Q _ => ∃ (r : Addr) (ts : List Addr) (xs : List (List V)), vs = [.ref r] ∧ H r = some (.lst (ts.map V.ref)) ∧ TupsAt H ts xs ∧ xs.flatten.length + 1 ≤ 10000000 ∧
  ∀ (H' : Hp) (l : Addr), (∀ b u, H b = some u → H' b = some u) → H l = none → H' l = some (.lst (V.int (xs.length : Int) :: xs.flatten)) → Q (.ref l) H'
theorem flat_take_len {α : Type} : ∀ (xs : List (List α)) (i : Nat), (xs.take i).flatten.length ≤ xs.flatten.length
  | [], i => by simp
  | x :: xs, 0 => by simp
  | x :: xs, i + 1 => by
    have := flat_take_len xs i
    simp only [List.take_succ_cons, List.flatten_cons, List.length_append]
    omega
theorem flat_len {α : Type} {m : Nat} : ∀ {xs : List (List α)}, (∀ x ∈ xs, x.length ≤ m) → xs.flatten.length ≤ m * xs.length
  | [], _ => by simp
  | x :: xs, h => by
    have h1 := flat_len (m := m) (xs := xs) fun y hy => h y (List.mem_cons_of_mem _ hy)
    have h2 := h x (List.mem_cons_self ..)
    simp only [List.flatten_cons, List.length_append, List.length_cons, Nat.mul_add, Nat.mul_one]
    omega
theorem flat_told {α : Type} (f : α → List Nat) : ∀ l : List α, (l.map fun y => (f y).map iN).flatten = (Ha02.ints (l.flatMap f)).map V.int
  | [] => rfl
  | a :: l => by
    have ih := flat_told f l
    simp only [List.map_cons, List.flatten_cons, List.flatMap_cons, ih, Ha02.ints, List.map_append, List.map_map]
    rfl
theorem Post.told {CW CP : Addr} {H H' : Hp} {d : Ad} {s : Ha02.St} {x : Ha02.Call} {Q : VK} (k : Post CW CP H d s x Q) (e : (Ha02.step s x).1 = s) (hw : WAt CW CP H d s) (hk : ∀ b u, H b = some u → H' b = some u) {l : Addr} (hl : H l = none) {vs : List V}
    (hq : H' l = some (.lst vs)) (hv : vs = (Ha02.step s x).2.map V.int) : Q (.ref l) H' := by
  refine k H' d l (by rw [e]; exact hw.kept hk) ⟨fun b u e n => ⟨hk b u e, n⟩, rfl⟩ (fun b u e n z => ?_) (hw.out_of hl) (by rw [hq, hv])
  rw [z, hl] at e
  cases e
theorem tups_notes {H : Hp} : ∀ {ts : List Addr} {bx : List Ha02.Note}, Paired (NoteAt H) ts bx → TupsAt H ts (bx.map fun y => [y.what, y.who, y.n].map iN)
  | _, _, .nil => .nil
  | _, _, .cons a r => .cons a (tups_notes r)
/-- the pairs of a dict of links -/
theorem links_ns {kvs : List (Key × V)} {ls : List Ha02.Link} (pm : kvs.Perm (encL ls)) : ∃ ns : List (Int × Int), kvs = ns.map (fun p => (Sum.inl p.1, V.int p.2)) ∧ ns.Perm (ls.map fun y => ((y.to : Int), (y.cutting : Int))) := by
  refine ⟨kvs.map fun p => (match p.1 with | .inl i => i | _ => 0, match p.2 with | .int i => i | _ => 0), ?_, ?_⟩
  · rw [List.map_map]
    conv => lhs; rw [← List.map_id kvs]
    refine List.map_congr_left fun p hp => ?_
    obtain ⟨y, _, rfl⟩ := List.mem_map.mp (pm.mem_iff.mp hp)
    rfl
  · have h := pm.map fun p => ((match p.1 with | .inl i => i | _ => 0, match p.2 with | .int i => i | _ => 0) : Int × Int)
    unfold encL at h
    rw [List.map_map] at h
    exact h
theorem same_to : ∀ {ls : List Ha02.Link}, ls.Pairwise (fun a b => a.to < b.to) → ∀ x ∈ ls, ∀ y ∈ ls, x.to = y.to → x = y
  | [], _, x, hx, _, _, _ => by simp at hx
  | a :: l, h, x, hx, y, hy, e => by
    obtain ⟨h1, h2⟩ := List.pairwise_cons.mp h
    rcases List.mem_cons.mp hx with ex | hx'
    · rcases List.mem_cons.mp hy with ey | hy'
      · rw [ex, ey]
      · have := h1 y hy'; rw [ex] at e; omega
    · rcases List.mem_cons.mp hy with ey | hy'
      · have := h1 x hx'; rw [ey] at e; omega
      · exact same_to h2 x hx' y hy' e
theorem sorted_ns {ls : List Ha02.Link} {ns : List (Int × Int)} (hs : ls.Pairwise fun a b => a.to < b.to) (hp : ns.Perm (ls.map fun y => ((y.to : Int), (y.cutting : Int)))) (hn : ns.Pairwise fun a b => a.1 ≤ b.1) : ns = ls.map fun y => ((y.to : Int), (y.cutting : Int)) := by
  refine List.Perm.eq_of_pairwise (le := fun a b : Int × Int => a.1 ≤ b.1) (fun a b ha hb h1 h2 => ?_) hn ?_ hp
  · obtain ⟨x, hx, rfl⟩ := List.mem_map.mp (hp.mem_iff.mp ha)
    obtain ⟨y, hy, rfl⟩ := List.mem_map.mp hb
    have h1 : (x.to : Int) ≤ (y.to : Int) := h1
    have h2 : (y.to : Int) ≤ (x.to : Int) := h2
    rw [same_to hs x hx y hy (by omega)]
  · rw [List.pairwise_map]
    exact hs.imp fun {a b} h => by show (a.to : Int) ≤ (b.to : Int); omega
section
variable {P : Program} {w : World} {K : PySem.W.Frag} {mg : Str → Option Value} {base : Heap} {A : Adr}
theorem ok_counted (T : Txt K mg A) : FnOk P w K mg base CX0 1 A.f_counted A.d_counted ["rows"] spCounted := by
  refine T.F_counted.ok sc_counted (fun vs H Q E h => ?_) (fun cdv A' outer s H vs Q E hr h => ?_)
  · obtain ⟨r, ts, xs, rfl, _⟩ := h; rfl
  · obtain ⟨r, ts, xs, rfl, hr0, ht, hz, k⟩ := h
    have lt := Paired.length ht
    refine ⟨_, (pss_cons (ps_set (i := 1) sc_counted.nd rfl (Or.inl rfl) (pe_lst (pa_cons (pe_callB call_len_seq (by rfl) T.len PySem.boot_len (pa_cons (pv 0) pa_nil)) pa_nil)))
      (pss_cons (ps_for PassesOwn.never rfl (pi_list (pv 0)) (pg_name (i := 2) sc_counted.nd rfl (Or.inl rfl)) (pss_one (ps_expr (pe_bm PySem.F.plainAttrs_list PySem.F.slot_list_extend PySem.F.type_list_extend mt_extendT (pv 1) (pa_cons (pv 2) pa_nil)))))
      (pss_one (ps_ret (pv 1))))), ?_⟩
    refine ⟨_, rfl, r, _, rfl, .inl (SqL.of hr0), (by show 1 ≤ sizeLine; decide), fun l hl => ?_⟩
    have nl : r ≠ l := ne_of_none hr0 hl
    refine ⟨_, rfl, r, rfl, ⟨_, SqL.of (keep_new hl hr0)⟩, for_list (K := K) (a := r) (xs := ts.map V.ref) (fun i σ Hi => ∃ row : Option V, σ = [some (.ref r), some (.ref l), row] ∧ Hi l = some (.lst (V.int (xs.length : Int) :: (xs.take i).flatten)) ∧ ∀ b u, H b = some u → Hi b = some u)
      ⟨none, rfl, ?_, fun b u e => keep_new hl e⟩ (fun i σ Hi _ h => ?_) ?_ ?_⟩
    · rw [upd_same, List.length_map, lt]; rfl
    · obtain ⟨_, _, _, h⟩ := h
      exact SqL.of (h _ _ hr0)
    · rintro i x σ Hi hx ⟨row, rfl, hL, hk⟩
      rw [List.getElem?_map] at hx
      obtain ⟨t, e1, rfl⟩ := Option.map_eq_some_iff.mp hx
      obtain ⟨x, e2, e3⟩ := paired_get ht e1
      have tk : (xs.take (i + 1)).flatten = (xs.take i).flatten ++ x := by rw [take_snoc e2, List.flatten_append]; simp
      refine ⟨_, rfl, .inl ⟨rfl, _, SqL.of hL⟩, _, rfl, l, t, _, _, rfl, rfl, hL, hk _ _ e3, ?_, ?_⟩
      · have h1 := flat_take_len xs (i + 1)
        rw [tk, List.length_append] at h1
        rw [List.length_cons]
        exact Nat.le_trans (show (xs.take i).flatten.length + 1 + x.length ≤ 10000000 by omega) (by decide)
      · refine ⟨some (.ref t), rfl, ?_, fun b u e => ?_⟩
        · rw [upd_same, tk]; rfl
        · rw [upd_ne (ne_of_none e hl)]; exact hk b u e
    · rintro σ Hi ⟨row, rfl, hL, hk⟩
      rw [List.length_map, lt, List.take_length] at hL
      exact ⟨_, rfl, k Hi l hk hl hL⟩
theorem ok_box (T : Txt K mg A) : FnOk P w K mg base CX0 2 A.f_box A.d_box ["world", "p"] (spC1 A.C_World A.C_Process .box) := by
  refine T.F_box.ok sc_box (fun vs H Q E h => ?_) (fun cdv A' outer s H vs Q E hr h => ?_)
  · obtain ⟨d, s, p, rfl, _⟩ := h; rfl
  · obtain ⟨d, s, p, rfl, ⟨hw, ⟨c, t, hg, hc⟩, hz⟩, k⟩ := h
    have hu := hu_of hr
    obtain ⟨n1, hz⟩ := M.ite_zero (by decide) hz
    have hp := M.not_there n1
    have e : Ha02.step s (.box p) = (s, Ha02.ints ((Ha02.proc s p).box.length :: (Ha02.proc s p).box.flatMap fun n => [n.what, n.who, n.n])) := by simp only [Ha02.step]; rw [if_neg n1]
    obtain ⟨o, ho, po, pv_⟩ := hw.get hp
    obtain ⟨dx, ha⟩ := po.ins
    obtain ⟨ts, hb, pb⟩ := po.box
    have bx := (hg.pg _ (M.proc_mem hp)).box
    refine ⟨_, (pss_one (ps_ret (pe_call (ok_counted T) (hr.mono (by decide)) rfl T.m_counted T.F_counted.kp T.b_counted .nil pass0 (pa_cons (pe_fld (pe_dget hu (pe_fld (pv 0) rfl) (pv 1) (fun _ _ => rfl)) rfl) pa_nil)))), ?_⟩
    refine ⟨_, rfl, d.W, _, d.dW, _, _, rfl, hw.ins, T.cl_World, T.n_World_processes, rfl, _, rfl, d.dp, .ref o.a, rfl, dget_at hw.prs pv_, o.a, _, dx, _, _, rfl, ha, T.cl_Process, T.n_Process_notes, rfl, ?_⟩
    refine ⟨o.n, ts, _, rfl, hb, tups_notes pb, ?_, fun H1 l hk hl hq => ?_⟩
    · have := flat_len (m := 3) (xs := (Ha02.proc s p).box.map fun y => [y.what, y.who, y.n].map iN) (fun x hx => by obtain ⟨y, _, rfl⟩ := List.mem_map.mp hx; simp)
      rw [List.length_map] at this
      omega
    · refine k.told (by rw [e]) hw hk hl hq ?_
      rw [e, flat_told (fun n : Ha02.Note => [n.what, n.who, n.n])]
      simp [Ha02.ints]
theorem ok_air (T : Txt K mg A) : FnOk P w K mg base CX0 2 A.f_air A.d_air ["world"] (spC0 A.C_World A.C_Process .air) := by
  refine T.F_air.ok sc_air (fun vs H Q E h => ?_) (fun cdv A' outer s H vs Q E hr h => ?_)
  · obtain ⟨d, s, rfl, _⟩ := h; rfl
  · obtain ⟨d, s, rfl, ⟨hw, ⟨c, t, hg, hc⟩, hz⟩, k⟩ := h
    have e : Ha02.step s .air = (s, Ha02.ints (s.air.length :: s.air.flatMap fun y => [y.1, y.2.1] ++ Ha02.sigTold y.2.2)) := rfl
    have la := air_len hw
    have as_ := air_small hg (by omega)
    refine ⟨_, (pss_one (ps_ret (pe_call (ok_counted T) (hr.mono (by decide)) rfl T.m_counted T.F_counted.kp T.b_counted .nil pass0 (pa_cons (pe_lc (own := [("p", 1), ("q", 2), ("signal", 3)]) rfl sc_air.nd (pi_list (pe_fld (pv 0) rfl)) (blkOk_by (by rfl)) (fun _ _ _ _ _ => (pg_tupK (K := K) rfl (n := 3) rfl (pgs_cons (pg_name (i := 1) sc_air.nd rfl (Or.inl rfl)) (pgs_cons (pg_name (i := 2) sc_air.nd rfl (Or.inl rfl)) (pgs_cons (pg_name (i := 3) sc_air.nd rfl (Or.inl rfl)) pgs_nil))))) (fun _ _ _ _ _ => pts_nil) (fun _ _ _ _ _ => (pe_op (op_catTK (K := K) rfl) (pe_tup (pa_cons (pv 1) (pa_cons (pv 2) pa_nil))) (pv 3)))) pa_nil)))), ?_⟩
    refine ⟨_, rfl, d.W, _, d.dW, _, _, rfl, hw.ins, T.cl_World, T.n_World_signals, rfl, d.ls, rfl, ⟨_, SqL.of hw.lst⟩, fun D hD => ?_⟩
    refine lc_list (K := K) (a := d.ls) (xs := d.ts.map V.ref) (fun i Hi => ∃ as : List Addr, Hi D = some (.lst (as.map V.ref)) ∧ as.length = i ∧ TupsAt Hi as ((s.air.take i).map fun y => ([y.1, y.2.1] ++ Ha02.sigTold y.2.2).map iN) ∧ ∀ b u, H b = some u → Hi b = some u)
      ⟨[], upd_same, rfl, .nil, fun b u e => keep_new hD e⟩ (fun i Hi _ h => ?_) ?_ ?_
    · obtain ⟨_, _, _, _, h⟩ := h
      exact SqL.of (h _ _ hw.lst)
    · rintro i x Hi hx ⟨as, hDi, hl, ht, hk⟩
      rw [List.getElem?_map] at hx
      obtain ⟨ta, e1, rfl⟩ := Option.map_eq_some_iff.mp hx
      obtain ⟨y, hy, g, e2, e3⟩ := paired_get hw.air e1
      have hi : i < s.air.length := (List.getElem?_eq_some_iff.mp hy).1
      refine ⟨ta, _, rfl, SqT.of (hk _ _ e2), rfl, _, _, rfl, _, _, rfl, _, _, rfl, rfl, rfl, ?_⟩
      refine ⟨_, rfl, _, rfl, (by show 2 ≤ sizeLine; decide), fun t1 ht1 => ?_⟩
      have hg1 : upd Hi t1 (.tup [iN y.1, iN y.2.1]) g = some (.tup ((Ha02.sigTold y.2.2).map iN)) := keep_new ht1 (hk _ _ e3)
      have sl : ((Ha02.sigTold y.2.2).map iN).length ≤ 3 := by rw [List.length_map]; cases y.2.2 <;> simp [Ha02.sigTold]
      have sn : (Ha02.sigTold y.2.2).map iN ≠ [] := by cases y.2.2 <;> simp [Ha02.sigTold]
      refine ⟨_, rfl, t1, g, _, _, rfl, rfl, SqT.of upd_same, SqT.of hg1, by simp, Nat.le_trans (show _ ≤ 5 by show 2 + _ ≤ 5; omega) (by decide), fun z => absurd z sn, fun _ t2 ht2 => ?_⟩
      have hD2 : upd (upd Hi t1 (.tup [iN y.1, iN y.2.1])) t2 (.tup ([iN y.1, iN y.2.1] ++ (Ha02.sigTold y.2.2).map iN)) D = some (.lst (as.map V.ref)) := keep_new ht2 (keep_new ht1 hDi)
      refine ⟨_, hD2, ?_, as ++ [t2], ?_, ?_, ?_, fun b u e => ?_⟩
      · rw [List.length_map, hl]; exact line_small (by omega)
      · rw [upd_same, List.map_append]; rfl
      · rw [List.length_append, hl]; rfl
      · rw [take_snoc hy, List.map_append]
        have kp2 : ∀ b xs, upd (upd Hi t1 (.tup [iN y.1, iN y.2.1])) t2 (.tup ([iN y.1, iN y.2.1] ++ (Ha02.sigTold y.2.2).map iN)) b = some (.tup xs) → upd (upd (upd Hi t1 (.tup [iN y.1, iN y.2.1])) t2 (.tup ([iN y.1, iN y.2.1] ++ (Ha02.sigTold y.2.2).map iN))) D (.lst (as.map V.ref ++ [V.ref t2])) b = some (.tup xs) := fun b xs e => by
          rw [upd_ne (ne_of e hD2 (by intro z; cases z))]; exact e
        have t3 : TupsAt (upd (upd Hi t1 (.tup [iN y.1, iN y.2.1])) t2 (.tup ([iN y.1, iN y.2.1] ++ (Ha02.sigTold y.2.2).map iN))) as ((s.air.take i).map fun y => ([y.1, y.2.1] ++ Ha02.sigTold y.2.2).map iN) := ht.kept fun b u e => keep_new ht2 (keep_new ht1 e)
        have aux : ∀ {bs : List Addr} {xs : List (List V)}, TupsAt (upd (upd Hi t1 (.tup [iN y.1, iN y.2.1])) t2 (.tup ([iN y.1, iN y.2.1] ++ (Ha02.sigTold y.2.2).map iN))) bs xs → TupsAt (upd (upd (upd Hi t1 (.tup [iN y.1, iN y.2.1])) t2 (.tup ([iN y.1, iN y.2.1] ++ (Ha02.sigTold y.2.2).map iN))) D (.lst (as.map V.ref ++ [V.ref t2]))) bs xs := fun h => by
          unfold TupsAt at h ⊢
          induction h with
          | nil => exact .nil
          | cons a _ ih => exact .cons (kp2 _ _ a) ih
        exact (aux t3).snoc (kp2 _ _ upd_same)
      · have hb : b ≠ D := ne_of_none e hD
        rw [upd_ne hb]
        exact keep_new ht2 (keep_new ht1 (hk b u e))
    · rintro Hi ⟨as, hDi, hl, ht, hk⟩
      rw [List.length_map, la, List.take_length] at ht
      refine ⟨D, as, _, rfl, hDi, ht, ?_, fun H1 l hk1 hl1 hq => ?_⟩
      · have := flat_len (m := 5) (xs := s.air.map fun y => ([y.1, y.2.1] ++ Ha02.sigTold y.2.2).map iN) (fun x hx => by obtain ⟨y, _, rfl⟩ := List.mem_map.mp hx; rw [List.length_map]; cases y.2.2 <;> simp [Ha02.sigTold])
        rw [List.length_map] at this
        omega
      · have hl0 : H l = none := by
          cases q : H l with
          | none => rfl
          | some u => rw [hk l u q] at hl1; cases hl1
        refine k.told rfl hw (fun b u e => hk1 b u (hk b u e)) hl0 hq ?_
        rw [e, flat_told (fun y : Nat × Nat × Ha02.Sig => [y.1, y.2.1] ++ Ha02.sigTold y.2.2)]
        simp [Ha02.ints]
end
end Lw
set_option maxRecDepth 100000
set_option maxHeartbeats 2000000
/-! The call process. -/
namespace Lw
open PySem PySem.Spec PyProof.Rows L2
theorem pairs_encP (l : List (Nat × Nat)) : ((encP l).map fun p => [kV p.1, p.2]) = l.map fun y => [y.1, y.2].map iN := by
  unfold encP
  rw [List.map_map]
  rfl
theorem pairs_ints (l : List Ha02.Link) : ((l.map fun y => ((y.to : Int), (y.cutting : Int))).map fun p => [V.int p.1, V.int p.2]) = l.map fun y => [y.to, y.cutting].map iN := by
  rw [List.map_map]
  rfl
theorem two_len {α : Type} (l : List α) (f : α → List Nat) (hf : ∀ y, (f y).length = 2) : (l.map fun y => (f y).map iN).flatten.length ≤ 2 * l.length := by
  have := flat_len (m := 2) (xs := l.map fun y => (f y).map iN) (fun x hx => by obtain ⟨y, _, rfl⟩ := List.mem_map.mp hx; rw [List.length_map, hf]; exact Nat.le_refl _)
  rw [List.length_map] at this
  exact this
section
variable {P : Program} {w : World} {K : PySem.W.Frag} {mg : Str → Option Value} {base : Heap} {A : Adr}
theorem ok_process (T : Txt K mg A) : FnOk P w K mg base CX0 2 A.f_process A.d_process ["world", "p"] (spC1 A.C_World A.C_Process .process) := by
  refine T.F_process.ok sc_process (fun vs H Q E h => ?_) (fun cdv A' outer s H vs Q E hr h => ?_)
  · obtain ⟨d, s, p, rfl, _⟩ := h; rfl
  · obtain ⟨d, s, p, rfl, ⟨hw, ⟨c, t, hg, hc⟩, hz⟩, k⟩ := h
    have hu := hu_of hr
    obtain ⟨n1, hz⟩ := M.ite_zero (by decide) hz
    have hp := M.not_there n1
    have hf := fit_of hg (by omega) hp
    have e : Ha02.step s (.process p) = (s, Ha02.ints ([Ha02.flag (Ha02.proc s p).lives, if (Ha02.proc s p).lives = true then 0 else (Ha02.proc s p).why, Ha02.flag (Ha02.proc s p).traps, (Ha02.proc s p).links.length] ++ ((Ha02.proc s p).links.flatMap fun y => [y.to, y.cutting]) ++ [(Ha02.proc s p).watches.length] ++ ((Ha02.proc s p).watches.flatMap fun y => [y.1, y.2]) ++ [(Ha02.proc s p).watched.length] ++ (Ha02.proc s p).watched.flatMap fun y => [y.1, y.2])) := by
      simp only [Ha02.step]; rw [if_neg n1]
    obtain ⟨o, ho, po, pv_⟩ := hw.get hp
    obtain ⟨dx, ha⟩ := po.ins
    obtain ⟨kvs, hl, pm⟩ := po.lnk
    obtain ⟨ns, rfl, pns⟩ := links_ns pm
    have l1 := two_len (Ha02.proc s p).links (fun y => [y.to, y.cutting]) (fun _ => rfl)
    have l2 := two_len (Ha02.proc s p).watches (fun y => [y.1, y.2]) (fun _ => rfl)
    have l3 := two_len (Ha02.proc s p).watched (fun y => [y.1, y.2]) (fun _ => rfl)
    have b1 := hf.nl
    have b2 := hf.nw
    have b3 := hf.nv
    have sz : ∀ {n : Nat}, n ≤ 1000 → n ≤ sizeLine := fun h => Nat.le_trans h (by decide)
    refine ⟨_, (pss_cons (ps_set (i := 2) sc_process.nd rfl (Or.inl rfl) (pe_dget hu (pe_fld (pv 0) rfl) (pv 1) (fun _ _ => rfl)))
      (pss_cons (ps_set (i := 3) sc_process.nd rfl (Or.inl rfl) (pe_lst (pa_cons (pe_callTy call_int1 (by rfl) T.«int» boot_int (pa_cons (pe_fld (pv 2) rfl) pa_nil)) (pa_cons (pe_fld (pv 2) rfl) (pa_cons (pe_callTy call_int1 (by rfl) T.«int» boot_int (pa_cons (pe_fld (pv 2) rfl) pa_nil)) pa_nil)))))
      (pss_cons (ps_expr (pe_bm PySem.F.plainAttrs_list PySem.F.slot_list_extend PySem.F.type_list_extend mt_extend (pv 3) (pa_cons (pe_call (ok_counted T) (hr.mono (by decide)) rfl T.m_counted T.F_counted.kp T.b_counted .nil pass0 (pa_cons (pe_callB (cr_sortedItems rfl) (by rfl) T.sorted boot_sorted (pa_cons (pe_itemsV (pe_fld (pv 2) rfl)) pa_nil)) pa_nil)) pa_nil)))
      (pss_cons (ps_expr (pe_bm PySem.F.plainAttrs_list PySem.F.slot_list_extend PySem.F.type_list_extend mt_extend (pv 3) (pa_cons (pe_call (ok_counted T) (hr.mono (by decide)) rfl T.m_counted T.F_counted.kp T.b_counted .nil pass0 (pa_cons (pe_callTy (call_listItems rfl) (by rfl) T.list boot_list (pa_cons (pe_itemsV (pe_fld (pv 2) rfl)) pa_nil)) pa_nil)) pa_nil)))
      (pss_cons (ps_expr (pe_bm PySem.F.plainAttrs_list PySem.F.slot_list_extend PySem.F.type_list_extend mt_extend (pv 3) (pa_cons (pe_call (ok_counted T) (hr.mono (by decide)) rfl T.m_counted T.F_counted.kp T.b_counted .nil pass0 (pa_cons (pe_callTy (call_listItems rfl) (by rfl) T.list boot_list (pa_cons (pe_itemsV (pe_fld (pv 2) rfl)) pa_nil)) pa_nil)) pa_nil)))
      (pss_one (ps_ret (pv 3)))))))), ?_⟩
    refine ⟨_, rfl, d.W, _, d.dW, _, _, rfl, hw.ins, T.cl_World, T.n_World_processes, rfl, _, rfl, d.dp, .ref o.a, rfl, dget_at hw.prs pv_, ?_⟩
    refine ⟨_, rfl, o.a, _, dx, _, _, rfl, ha, T.cl_Process, T.n_Process_living, rfl, .inr ⟨_, rfl, ?_⟩⟩
    refine ⟨_, rfl, o.a, _, dx, _, _, rfl, ha, T.cl_Process, T.n_Process_why, rfl, ?_⟩
    refine ⟨_, rfl, o.a, _, dx, _, _, rfl, ha, T.cl_Process, T.n_Process_traps, rfl, .inr ⟨_, rfl, (by show 3 ≤ sizeLine; decide), fun tl htl => ?_⟩⟩
    have k1 : ∀ b u, H b = some u → upd H tl (.lst [V.int (if (Ha02.proc s p).lives = true then 1 else 0), iN (if (Ha02.proc s p).lives = true then 0 else (Ha02.proc s p).why), V.int (if (Ha02.proc s p).traps = true then 1 else 0)]) b = some u := fun b u e => keep_new htl e
    generalize hH1 : upd H tl (.lst [V.int (if (Ha02.proc s p).lives = true then 1 else 0), iN (if (Ha02.proc s p).lives = true then 0 else (Ha02.proc s p).why), V.int (if (Ha02.proc s p).traps = true then 1 else 0)]) = H1 at *
    have t1 : H1 tl = some (.lst [V.int (if (Ha02.proc s p).lives = true then 1 else 0), iN (if (Ha02.proc s p).lives = true then 0 else (Ha02.proc s p).why), V.int (if (Ha02.proc s p).traps = true then 1 else 0)]) := by rw [← hH1]; exact upd_same
    -- the links
    refine ⟨_, rfl, .inl ⟨rfl, _, SqL.of t1⟩, _, rfl, o.a, _, dx, _, _, rfl, k1 _ _ ha, T.cl_Process, T.n_Process_links, rfl, o.l, _, rfl, k1 _ _ hl, fun v hv => ?_⟩
    refine ⟨v, o.l, ns, rfl, upd_same, keep_new hv (k1 _ _ hl), fun H2 as la ns' pn sn k2 ta hla0 hla => ?_⟩
    have en := sorted_ns hf.srt (pn.trans pns) sn
    subst en
    rw [pairs_ints] at ta
    have k2' : ∀ b u, H1 b = some u → H2 b = some u := fun b u e => k2 b u (keep_new hv e)
    refine ⟨la, as, _, rfl, hla, ta, by omega, fun H3 lb k3 hlb0 hlb => ?_⟩
    have k3' : ∀ b u, H1 b = some u → H3 b = some u := fun b u e => k3 b u (k2' b u e)
    refine ⟨tl, lb, _, _, rfl, rfl, k3' _ _ t1, hlb, sz (by simp only [List.length_cons, List.length_nil]; omega), ?_⟩
    have k4 : ∀ b u, H b = some u → b ≠ tl := fun b u e => ne_of_none e htl
    generalize hX : [V.int (if (Ha02.proc s p).lives = true then 1 else 0), iN (if (Ha02.proc s p).lives = true then 0 else (Ha02.proc s p).why), V.int (if (Ha02.proc s p).traps = true then 1 else 0)] = X0 at *
    have lX : X0.length = 3 := by rw [← hX]; rfl
    have k5 : ∀ b u, H b = some u → upd H3 tl (.lst (X0 ++ V.int (((Ha02.proc s p).links.map fun y => [y.to, y.cutting].map iN).length : Int) :: ((Ha02.proc s p).links.map fun y => [y.to, y.cutting].map iN).flatten)) b = some u := fun b u e => by rw [upd_ne (k4 b u e)]; exact k3' b u (k1 b u e)
    generalize hX1 : X0 ++ V.int (((Ha02.proc s p).links.map fun y => [y.to, y.cutting].map iN).length : Int) :: ((Ha02.proc s p).links.map fun y => [y.to, y.cutting].map iN).flatten = X1 at *
    have lX1 : X1.length ≤ 130 := by rw [← hX1, List.length_append, List.length_cons]; omega
    have t5 : upd H3 tl (.lst X1) tl = some (.lst X1) := upd_same
    generalize upd H3 tl (.lst X1) = H5 at *
    -- the watches
    refine ⟨_, rfl, .inl ⟨rfl, _, SqL.of t5⟩, _, rfl, o.a, _, dx, _, _, rfl, k5 _ _ ha, T.cl_Process, T.n_Process_watches, rfl, o.w, _, rfl, k5 _ _ po.wat, fun v2 hv2 => ?_⟩
    refine ⟨v2, o.w, _, rfl, upd_same, keep_new hv2 (k5 _ _ po.wat), fun H6 as2 la2 k6 ta2 hla02 hla2 => ?_⟩
    rw [pairs_encP] at ta2
    have k6' : ∀ b u, H5 b = some u → H6 b = some u := fun b u e => k6 b u (keep_new hv2 e)
    refine ⟨la2, as2, _, rfl, hla2, ta2, by omega, fun H7 lb2 k7 hlb02 hlb2 => ?_⟩
    have k7' : ∀ b u, H5 b = some u → H7 b = some u := fun b u e => k7 b u (k6' b u e)
    refine ⟨tl, lb2, _, _, rfl, rfl, k7' _ _ t5, hlb2, sz (by simp only [List.length_cons]; omega), ?_⟩
    have k8 : ∀ b u, H b = some u → upd H7 tl (.lst (X1 ++ V.int (((Ha02.proc s p).watches.map fun y => [y.1, y.2].map iN).length : Int) :: ((Ha02.proc s p).watches.map fun y => [y.1, y.2].map iN).flatten)) b = some u := fun b u e => by rw [upd_ne (k4 b u e)]; exact k7' b u (k5 b u e)
    generalize hX2 : X1 ++ V.int (((Ha02.proc s p).watches.map fun y => [y.1, y.2].map iN).length : Int) :: ((Ha02.proc s p).watches.map fun y => [y.1, y.2].map iN).flatten = X2 at *
    have lX2 : X2.length ≤ 400 := by rw [← hX2, List.length_append, List.length_cons]; omega
    have t8 : upd H7 tl (.lst X2) tl = some (.lst X2) := upd_same
    generalize upd H7 tl (.lst X2) = H8 at *
    -- by whom it is watched
    refine ⟨_, rfl, .inl ⟨rfl, _, SqL.of t8⟩, _, rfl, o.a, _, dx, _, _, rfl, k8 _ _ ha, T.cl_Process, T.n_Process_watchers, rfl, o.v, _, rfl, k8 _ _ po.vat, fun v3 hv3 => ?_⟩
    refine ⟨v3, o.v, _, rfl, upd_same, keep_new hv3 (k8 _ _ po.vat), fun H9 as3 la3 k9 ta3 hla03 hla3 => ?_⟩
    rw [pairs_encP] at ta3
    have k9' : ∀ b u, H8 b = some u → H9 b = some u := fun b u e => k9 b u (keep_new hv3 e)
    refine ⟨la3, as3, _, rfl, hla3, ta3, by omega, fun H10 lb3 k10 hlb03 hlb3 => ?_⟩
    have k10' : ∀ b u, H8 b = some u → H10 b = some u := fun b u e => k10 b u (k9' b u e)
    refine ⟨tl, lb3, _, _, rfl, rfl, k10' _ _ t8, hlb3, sz (by simp only [List.length_cons]; omega), ?_⟩
    refine ⟨_, rfl, k.told (by rw [e]) hw (fun b u e => ?_) htl upd_same ?_⟩
    · rw [upd_ne (k4 b u e)]; exact k10' b u (k8 b u e)
    · rw [e, ← hX2, ← hX1, ← hX, flat_told (fun y : Ha02.Link => [y.to, y.cutting]), flat_told (fun y : Nat × Nat => [y.1, y.2]), flat_told (fun y : Nat × Nat => [y.1, y.2])]
      have f1 : ∀ b : Bool, V.int (if b = true then 1 else 0) = V.int ((Ha02.flag b : Nat) : Int) := fun b => by cases b <;> rfl
      rw [f1, f1]
      simp [Ha02.ints, iN]
end
end Lw
set_option maxRecDepth 100000
set_option maxHeartbeats 2000000
/-! Which calls are refused; what is carried out. (Printed case by case by tools/mkref.py.) -/
namespace Lw
open PySem PySem.Spec PyProof.Rows L2
def lp (s : Ha02.St) : Ha02.Call → Bool
  | .start => false
  | .child p _ => !Ha02.isThere s p
  | .link p q => !Ha02.isThere s p || !Ha02.isThere s q
  | .cut p q => !Ha02.isThere s p || !Ha02.isThere s q
  | .watch p q => !Ha02.isThere s p || !Ha02.isThere s q
  | .unwatch p _ => !Ha02.isThere s p
  | .ends p _ => !Ha02.isThere s p
  | .halt_ p q _ => !Ha02.isThere s p || !Ha02.isThere s q
  | .trap p _ => !Ha02.isThere s p
  | .say p q _ => !Ha02.isThere s p || !Ha02.isThere s q
  | .deliver p q => !Ha02.isThere s p || !Ha02.isThere s q
  | .turns _ => false
  | .box p => !Ha02.isThere s p
  | .process p => !Ha02.isThere s p
  | .air => false
def mf : Ha02.Call → Bool
  | .child _ how => decide (2 < how)
  | .link p q => decide (p = q)
  | .cut p q => decide (p = q)
  | .watch p q => decide (p = q)
  | .ends _ why => decide (99 < why)
  | .halt_ _ _ why => decide (99 < why)
  | .trap _ y => decide (1 < y)
  | .turns n => decide (1000 < n)
  | _ => false
def be (s : Ha02.St) : Ha02.Call → Bool
  | .child p _ => !(Ha02.proc s p).lives
  | .link p _ => !(Ha02.proc s p).lives
  | .cut p _ => !(Ha02.proc s p).lives
  | .watch p _ => !(Ha02.proc s p).lives
  | .unwatch p _ => !(Ha02.proc s p).lives
  | .ends p _ => !(Ha02.proc s p).lives
  | .halt_ p _ _ => !(Ha02.proc s p).lives
  | .trap p _ => !(Ha02.proc s p).lives
  | .say p _ _ => !(Ha02.proc s p).lives
  | _ => false
def lr (s : Ha02.St) : Ha02.Call → Bool
  | .start => decide (12 ≤ s.procs.length)
  | .child _ _ => decide (12 ≤ s.procs.length)
  | .link _ _ => decide (200 ≤ s.air.length)
  | .cut _ _ => decide (200 ≤ s.air.length)
  | .watch _ _ => decide (200 ≤ s.air.length)
  | .halt_ _ _ _ => decide (200 ≤ s.air.length)
  | .say _ _ _ => decide (200 ≤ s.air.length)
  | .unwatch p k => ((Ha02.proc s p).watches.find? fun y => y.1 == k).isSome && decide (200 ≤ s.air.length)
  | _ => false
def lsg (s : Ha02.St) : Ha02.Call → Bool
  | .deliver p q => (Ha02.firstOf s p q).isNone
  | _ => false
theorem refusal_is (s : Ha02.St) (x : Ha02.Call) : M.refusal s x = if lp s x = true ∨ mf x = true then -1 else if be s x = true then -8 else if lr s x = true then -6 else if lsg s x = true then -5 else 0 := by
  have hl : ∀ p, Ha02.isThere s p = true → (Ha02.lives s p = false ↔ (!(Ha02.proc s p).lives) = true) := fun p h => by rw [M.lives_iff (M.there_iff.mp h)]; simp
  cases x with
  | start => simp [M.refusal, lp, mf, be, lr, lsg, Ha02.PROCS, Ha02.AIR] <;> congr
  | child p how =>
    cases h1 : Ha02.isThere s p
    · simp [M.refusal, lp, mf, be, lr, lsg, Ha02.PROCS, Ha02.AIR, h1]
    · simp [M.refusal, lp, mf, be, lr, lsg, Ha02.PROCS, Ha02.AIR, h1, hl p h1] <;> congr
  | link p q =>
    cases h1 : Ha02.isThere s p
    · simp [M.refusal, lp, mf, be, lr, lsg, Ha02.PROCS, Ha02.AIR, h1]
    · simp [M.refusal, lp, mf, be, lr, lsg, Ha02.PROCS, Ha02.AIR, h1, hl p h1] <;> congr
  | cut p q =>
    cases h1 : Ha02.isThere s p
    · simp [M.refusal, lp, mf, be, lr, lsg, Ha02.PROCS, Ha02.AIR, h1]
    · simp [M.refusal, lp, mf, be, lr, lsg, Ha02.PROCS, Ha02.AIR, h1, hl p h1] <;> congr
  | watch p q =>
    cases h1 : Ha02.isThere s p
    · simp [M.refusal, lp, mf, be, lr, lsg, Ha02.PROCS, Ha02.AIR, h1]
    · simp [M.refusal, lp, mf, be, lr, lsg, Ha02.PROCS, Ha02.AIR, h1, hl p h1] <;> congr
  | unwatch p k_ =>
    cases h1 : Ha02.isThere s p
    · simp [M.refusal, lp, mf, be, lr, lsg, Ha02.PROCS, Ha02.AIR, h1]
    · refine Eq.trans (if_neg (by rw [h1]; exact fun z => nomatch z)) (Eq.trans ?_ (if_neg (by simp [lp, mf, h1])).symm)
      by_cases hC : Ha02.lives s p = false
      · exact (if_pos hC).trans (if_pos ((hl p h1).mp hC)).symm
      · refine (if_neg hC).trans (Eq.trans ?_ (if_neg fun z => hC ((hl p h1).mpr z)).symm)
        by_cases hA : ((Ha02.proc s p).watches.find? fun y => y.1 == k_).isSome = true ∧ 200 ≤ s.air.length
        · exact (if_pos hA).trans (if_pos (by show (_ && _) = true; rw [Bool.and_eq_true]; exact ⟨hA.1, decide_eq_true hA.2⟩)).symm
        · exact (if_neg hA).trans ((if_neg fun z => hA (by have z : (_ && _) = true := z; rw [Bool.and_eq_true] at z; exact ⟨z.1, of_decide_eq_true z.2⟩)).trans (if_neg Bool.false_ne_true)).symm
  | ends p why =>
    cases h1 : Ha02.isThere s p
    · simp [M.refusal, lp, mf, be, lr, lsg, Ha02.PROCS, Ha02.AIR, h1]
    · simp [M.refusal, lp, mf, be, lr, lsg, Ha02.PROCS, Ha02.AIR, h1, hl p h1] <;> congr
  | halt_ p q why =>
    cases h1 : Ha02.isThere s p
    · simp [M.refusal, lp, mf, be, lr, lsg, Ha02.PROCS, Ha02.AIR, h1]
    · simp [M.refusal, lp, mf, be, lr, lsg, Ha02.PROCS, Ha02.AIR, h1, hl p h1] <;> congr
  | trap p y =>
    cases h1 : Ha02.isThere s p
    · simp [M.refusal, lp, mf, be, lr, lsg, Ha02.PROCS, Ha02.AIR, h1]
    · simp [M.refusal, lp, mf, be, lr, lsg, Ha02.PROCS, Ha02.AIR, h1, hl p h1] <;> congr
  | say p q n =>
    cases h1 : Ha02.isThere s p
    · simp [M.refusal, lp, mf, be, lr, lsg, Ha02.PROCS, Ha02.AIR, h1]
    · simp [M.refusal, lp, mf, be, lr, lsg, Ha02.PROCS, Ha02.AIR, h1, hl p h1] <;> congr
  | deliver p q =>
    cases h1 : Ha02.isThere s p
    · simp [M.refusal, lp, mf, be, lr, lsg, Ha02.PROCS, Ha02.AIR, h1]
    · simp [M.refusal, lp, mf, be, lr, lsg, Ha02.PROCS, Ha02.AIR, h1, hl p h1] <;> congr
  | turns n => simp [M.refusal, lp, mf, be, lr, lsg, Ha02.PROCS, Ha02.AIR] <;> congr
  | box p =>
    cases h1 : Ha02.isThere s p
    · simp [M.refusal, lp, mf, be, lr, lsg, Ha02.PROCS, Ha02.AIR, h1]
    · simp [M.refusal, lp, mf, be, lr, lsg, Ha02.PROCS, Ha02.AIR, h1, hl p h1] <;> congr
  | process p =>
    cases h1 : Ha02.isThere s p
    · simp [M.refusal, lp, mf, be, lr, lsg, Ha02.PROCS, Ha02.AIR, h1]
    · simp [M.refusal, lp, mf, be, lr, lsg, Ha02.PROCS, Ha02.AIR, h1, hl p h1] <;> congr
  | air => simp [M.refusal, lp, mf, be, lr, lsg, Ha02.PROCS, Ha02.AIR] <;> congr
/-- a question about a call -/
def spAsk (CW CP : Addr) (pre : Ha02.St → Ha02.Call → Prop) (f : Ha02.St → Ha02.Call → Bool) : Sp := fun vs H Q _ => ∃ (d : Ad) (s : Ha02.St) (x : Ha02.Call) (cl : Addr), vs = [.ref d.W, .ref cl] ∧ H cl = some (.lst ((M.flat x).map V.int)) ∧ WAt CW CP H d s ∧ pre s x ∧
  ∀ H' : Hp, (∀ b u, H b = some u → H' b = some u) → Q (.bl (f s x)) H'
def spMis : Sp := fun vs H Q _ => ∃ (x : Ha02.Call) (cl : Addr), vs = [.ref cl] ∧ H cl = some (.lst ((M.flat x).map V.int)) ∧ ∀ H' : Hp, (∀ b u, H b = some u → H' b = some u) → Q (.bl (mf x)) H'
def spRef (CW CP : Addr) : Sp := fun vs H Q _ => ∃ (d : Ad) (s : Ha02.St) (x : Ha02.Call) (cl : Addr), vs = [.ref d.W, .ref cl] ∧ H cl = some (.lst ((M.flat x).map V.int)) ∧ WAt CW CP H d s ∧
  ∀ H' : Hp, (∀ b u, H b = some u → H' b = some u) → Q (.int (M.refusal s x)) H'
def spCarry (CW CP : Addr) : Sp := fun vs H Q _ => ∃ (d : Ad) (s : Ha02.St) (x : Ha02.Call) (cl : Addr), vs = [.ref d.W, .ref cl] ∧ H cl = some (.lst ((M.flat x).map V.int)) ∧ Pre CW CP H d s x ∧ Post CW CP H d s x Q
def spAnswerOf (CW CP : Addr) : Sp := fun vs H Q _ => ∃ (d : Ad) (s : Ha02.St) (x : Ha02.Call) (cl : Addr), vs = [.ref d.W, .ref cl] ∧ H cl = some (.lst ((M.flat x).map V.int)) ∧ cl ∉ d.adr ∧ (∀ z ∈ M.flat x, 0 ≤ z ∧ z < 2 ^ 32) ∧ WAt CW CP H d s ∧ (∃ c t, M.Good c t s ∧ (c + 1 ≤ 100 ∧ t ≤ 1000 * c)) ∧ Post CW CP H d s x Q
theorem Post.ext {CW CP : Addr} {H H1 : Hp} {d : Ad} {s : Ha02.St} {x : Ha02.Call} {Q : VK} (k : Post CW CP H d s x Q) (h : ∀ b u, H b = some u → H1 b = some u) : Post CW CP H1 d s x Q :=
  fun H' d' l w1 k1 n1 n2 e => k H' d' l w1 (Keeps.trans (d1 := d) ⟨fun b u e n => ⟨h b u e, n⟩, rfl⟩ k1) (fun b u e n => n1 b u (h b u e) n) n2 e
theorem kept_id {H : Hp} : ∀ b u, H b = some u → H b = some u := fun _ _ e => e
section
variable {P : Program} {w : World} {K : PySem.W.Frag} {mg : Str → Option Value} {base : Heap} {A : Adr}
theorem ok_lacks_process (T : Txt K mg A) : FnOk P w K mg base CX0 1 A.f_lacks_process A.d_lacks_process ["world", "call"] (spAsk A.C_World A.C_Process (fun _ _ => True) lp) := by
  refine T.F_lacks_process.ok sc_lacks_process (fun vs H Q E h => ?_) (fun cdv A' outer s H vs Q E hr h => ?_)
  · obtain ⟨d, s, x, cl, rfl, _⟩ := h; rfl
  · obtain ⟨d, s, x, cl, rfl, hcl, hw, hpre, k⟩ := h
    have hu := hu_of hr
    have h0 := kept_id (H := H)
    refine ⟨_, (pss_cons (ps_set (i := 2) sc_lacks_process.nd rfl (Or.inl rfl) (pe_ix ix_list (pv 1) pe_int (fun _ _ => rfl)))
      (pss_cons (ps_if (pt_cmpR op_in_seq (pv 2) (pe_tup (pa_cons (pe_gint rfl T.c_CALL_START) (pa_cons (pe_gint rfl T.c_CALL_TURNS) (pa_cons (pe_gint rfl T.c_CALL_AIR) pa_nil)))) (by with_unfolding_all rfl)) (pss_one (ps_ret pe_bl)) pss_nil)
      (pss_cons (ps_if (pt_cmp (pc_dnotin hu (pe_ix ix_list (pv 1) pe_int (fun _ _ => rfl)) (pe_fld (pv 0) rfl))) (pss_one (ps_ret pe_bl)) pss_nil)
      (pss_cons (ps_if (pt_cmpR op_in_seq (pv 2) (pe_tup (pa_cons (pe_gint rfl T.c_CALL_LINK) (pa_cons (pe_gint rfl T.c_CALL_CUT) (pa_cons (pe_gint rfl T.c_CALL_WATCH) (pa_cons (pe_gint rfl T.c_CALL_STOP) (pa_cons (pe_gint rfl T.c_CALL_SAY) (pa_cons (pe_gint rfl T.c_CALL_DELIVER) pa_nil))))))) (by with_unfolding_all rfl)) (pss_one (ps_ret (pe_cmp (pc_dnotin hu (pe_ix ix_list (pv 1) pe_int (fun _ _ => rfl)) (pe_fld (pv 0) rfl))))) pss_nil)
      (pss_one (ps_ret pe_bl)))))), ?_⟩
    cases x with
    | start =>
      refine ⟨_, rfl, cl, _, _, _, rfl, rfl, SqL.of (h0 _ _ hcl), atI_nat (j := 0) rfl, ?_⟩
      refine ⟨_, rfl, (by show 3 ≤ sizeLine; decide), fun t1 ht1 => ?_⟩
      have h1 := fun b u (e : H b = some u) => keep_new (x := HO.tup [V.int 0, V.int 11, V.int 14]) ht1 (h0 b u e)
      refine ⟨t1, _, rfl, .inr (SqT.of upd_same), rfl, rfl, _, rfl, ?_⟩
      refine iteT ?_
      exact k _ h1
    | child p how =>
      refine ⟨_, rfl, cl, _, _, _, rfl, rfl, SqL.of (h0 _ _ hcl), atI_nat (j := 0) rfl, ?_⟩
      refine ⟨_, rfl, (by show 3 ≤ sizeLine; decide), fun t1 ht1 => ?_⟩
      have h1 := fun b u (e : H b = some u) => keep_new (x := HO.tup [V.int 0, V.int 11, V.int 14]) ht1 (h0 b u e)
      refine ⟨t1, _, rfl, .inr (SqT.of upd_same), rfl, rfl, _, rfl, ?_⟩
      refine iteF ?_
      refine ⟨_, rfl, cl, _, _, _, rfl, rfl, SqL.of (h1 _ _ hcl), atI_nat (j := 1) rfl, _, rfl, d.W, _, d.dW, _, _, rfl, h1 _ _ hw.ins, T.cl_World, T.n_World_processes, rfl, d.dp, _, rfl, DGet.k (k := kn p) (h1 _ _ hw.prs), _, rfl, ?_⟩
      cases there : Ha02.isThere s p with
      | false =>
        rw [hw.out.mpr there]
        refine iteT ?_
        have e : lp s (.child p how) = true := by simp [lp, there]
        rw [← e]; exact k _ h1
      | true =>
        obtain ⟨o, ho, po, hv⟩ := hw.get (M.there_iff.mp there)
        rw [hv]
        refine iteF ?_
        refine ⟨_, rfl, (by show 6 ≤ sizeLine; decide), fun t2 ht2 => ?_⟩
        have h2 := fun b u (e : H b = some u) => keep_new (x := HO.tup [V.int 2, V.int 3, V.int 4, V.int 7, V.int 9, V.int 10]) ht2 (h1 b u e)
        refine ⟨t2, _, rfl, .inr (SqT.of upd_same), rfl, rfl, _, rfl, ?_⟩
        refine iteF ?_
        have e : lp s (.child p how) = false := by simp [lp, there]
        have := k _ h2
        rw [e] at this; exact this
    | link p q =>
      refine ⟨_, rfl, cl, _, _, _, rfl, rfl, SqL.of (h0 _ _ hcl), atI_nat (j := 0) rfl, ?_⟩
      refine ⟨_, rfl, (by show 3 ≤ sizeLine; decide), fun t1 ht1 => ?_⟩
      have h1 := fun b u (e : H b = some u) => keep_new (x := HO.tup [V.int 0, V.int 11, V.int 14]) ht1 (h0 b u e)
      refine ⟨t1, _, rfl, .inr (SqT.of upd_same), rfl, rfl, _, rfl, ?_⟩
      refine iteF ?_
      refine ⟨_, rfl, cl, _, _, _, rfl, rfl, SqL.of (h1 _ _ hcl), atI_nat (j := 1) rfl, _, rfl, d.W, _, d.dW, _, _, rfl, h1 _ _ hw.ins, T.cl_World, T.n_World_processes, rfl, d.dp, _, rfl, DGet.k (k := kn p) (h1 _ _ hw.prs), _, rfl, ?_⟩
      cases there : Ha02.isThere s p with
      | false =>
        rw [hw.out.mpr there]
        refine iteT ?_
        have e : lp s (.link p q) = true := by simp [lp, there]
        rw [← e]; exact k _ h1
      | true =>
        obtain ⟨o, ho, po, hv⟩ := hw.get (M.there_iff.mp there)
        rw [hv]
        refine iteF ?_
        refine ⟨_, rfl, (by show 6 ≤ sizeLine; decide), fun t2 ht2 => ?_⟩
        have h2 := fun b u (e : H b = some u) => keep_new (x := HO.tup [V.int 2, V.int 3, V.int 4, V.int 7, V.int 9, V.int 10]) ht2 (h1 b u e)
        refine ⟨t2, _, rfl, .inr (SqT.of upd_same), rfl, rfl, _, rfl, ?_⟩
        refine iteT ?_
        refine ⟨_, rfl, cl, _, _, _, rfl, rfl, SqL.of (h2 _ _ hcl), atI_nat (j := 2) rfl, _, rfl, d.W, _, d.dW, _, _, rfl, h2 _ _ hw.ins, T.cl_World, T.n_World_processes, rfl, d.dp, _, rfl, DGet.k (k := kn q) (h2 _ _ hw.prs), ?_⟩
        cases there2 : Ha02.isThere s q with
        | false =>
          rw [hw.out.mpr there2]
          have e : lp s (.link p q) = true := by simp [lp, there, there2]
          have := k _ h2
          rw [e] at this; exact this
        | true =>
          obtain ⟨o2, ho2, po2, hv2⟩ := hw.get (M.there_iff.mp there2)
          rw [hv2]
          have e : lp s (.link p q) = false := by simp [lp, there, there2]
          have := k _ h2
          rw [e] at this; exact this
    | cut p q =>
      refine ⟨_, rfl, cl, _, _, _, rfl, rfl, SqL.of (h0 _ _ hcl), atI_nat (j := 0) rfl, ?_⟩
      refine ⟨_, rfl, (by show 3 ≤ sizeLine; decide), fun t1 ht1 => ?_⟩
      have h1 := fun b u (e : H b = some u) => keep_new (x := HO.tup [V.int 0, V.int 11, V.int 14]) ht1 (h0 b u e)
      refine ⟨t1, _, rfl, .inr (SqT.of upd_same), rfl, rfl, _, rfl, ?_⟩
      refine iteF ?_
      refine ⟨_, rfl, cl, _, _, _, rfl, rfl, SqL.of (h1 _ _ hcl), atI_nat (j := 1) rfl, _, rfl, d.W, _, d.dW, _, _, rfl, h1 _ _ hw.ins, T.cl_World, T.n_World_processes, rfl, d.dp, _, rfl, DGet.k (k := kn p) (h1 _ _ hw.prs), _, rfl, ?_⟩
      cases there : Ha02.isThere s p with
      | false =>
        rw [hw.out.mpr there]
        refine iteT ?_
        have e : lp s (.cut p q) = true := by simp [lp, there]
        rw [← e]; exact k _ h1
      | true =>
        obtain ⟨o, ho, po, hv⟩ := hw.get (M.there_iff.mp there)
        rw [hv]
        refine iteF ?_
        refine ⟨_, rfl, (by show 6 ≤ sizeLine; decide), fun t2 ht2 => ?_⟩
        have h2 := fun b u (e : H b = some u) => keep_new (x := HO.tup [V.int 2, V.int 3, V.int 4, V.int 7, V.int 9, V.int 10]) ht2 (h1 b u e)
        refine ⟨t2, _, rfl, .inr (SqT.of upd_same), rfl, rfl, _, rfl, ?_⟩
        refine iteT ?_
        refine ⟨_, rfl, cl, _, _, _, rfl, rfl, SqL.of (h2 _ _ hcl), atI_nat (j := 2) rfl, _, rfl, d.W, _, d.dW, _, _, rfl, h2 _ _ hw.ins, T.cl_World, T.n_World_processes, rfl, d.dp, _, rfl, DGet.k (k := kn q) (h2 _ _ hw.prs), ?_⟩
        cases there2 : Ha02.isThere s q with
        | false =>
          rw [hw.out.mpr there2]
          have e : lp s (.cut p q) = true := by simp [lp, there, there2]
          have := k _ h2
          rw [e] at this; exact this
        | true =>
          obtain ⟨o2, ho2, po2, hv2⟩ := hw.get (M.there_iff.mp there2)
          rw [hv2]
          have e : lp s (.cut p q) = false := by simp [lp, there, there2]
          have := k _ h2
          rw [e] at this; exact this
    | watch p q =>
      refine ⟨_, rfl, cl, _, _, _, rfl, rfl, SqL.of (h0 _ _ hcl), atI_nat (j := 0) rfl, ?_⟩
      refine ⟨_, rfl, (by show 3 ≤ sizeLine; decide), fun t1 ht1 => ?_⟩
      have h1 := fun b u (e : H b = some u) => keep_new (x := HO.tup [V.int 0, V.int 11, V.int 14]) ht1 (h0 b u e)
      refine ⟨t1, _, rfl, .inr (SqT.of upd_same), rfl, rfl, _, rfl, ?_⟩
      refine iteF ?_
      refine ⟨_, rfl, cl, _, _, _, rfl, rfl, SqL.of (h1 _ _ hcl), atI_nat (j := 1) rfl, _, rfl, d.W, _, d.dW, _, _, rfl, h1 _ _ hw.ins, T.cl_World, T.n_World_processes, rfl, d.dp, _, rfl, DGet.k (k := kn p) (h1 _ _ hw.prs), _, rfl, ?_⟩
      cases there : Ha02.isThere s p with
      | false =>
        rw [hw.out.mpr there]
        refine iteT ?_
        have e : lp s (.watch p q) = true := by simp [lp, there]
        rw [← e]; exact k _ h1
      | true =>
        obtain ⟨o, ho, po, hv⟩ := hw.get (M.there_iff.mp there)
        rw [hv]
        refine iteF ?_
        refine ⟨_, rfl, (by show 6 ≤ sizeLine; decide), fun t2 ht2 => ?_⟩
        have h2 := fun b u (e : H b = some u) => keep_new (x := HO.tup [V.int 2, V.int 3, V.int 4, V.int 7, V.int 9, V.int 10]) ht2 (h1 b u e)
        refine ⟨t2, _, rfl, .inr (SqT.of upd_same), rfl, rfl, _, rfl, ?_⟩
        refine iteT ?_
        refine ⟨_, rfl, cl, _, _, _, rfl, rfl, SqL.of (h2 _ _ hcl), atI_nat (j := 2) rfl, _, rfl, d.W, _, d.dW, _, _, rfl, h2 _ _ hw.ins, T.cl_World, T.n_World_processes, rfl, d.dp, _, rfl, DGet.k (k := kn q) (h2 _ _ hw.prs), ?_⟩
        cases there2 : Ha02.isThere s q with
        | false =>
          rw [hw.out.mpr there2]
          have e : lp s (.watch p q) = true := by simp [lp, there, there2]
          have := k _ h2
          rw [e] at this; exact this
        | true =>
          obtain ⟨o2, ho2, po2, hv2⟩ := hw.get (M.there_iff.mp there2)
          rw [hv2]
          have e : lp s (.watch p q) = false := by simp [lp, there, there2]
          have := k _ h2
          rw [e] at this; exact this
    | unwatch p k_ =>
      refine ⟨_, rfl, cl, _, _, _, rfl, rfl, SqL.of (h0 _ _ hcl), atI_nat (j := 0) rfl, ?_⟩
      refine ⟨_, rfl, (by show 3 ≤ sizeLine; decide), fun t1 ht1 => ?_⟩
      have h1 := fun b u (e : H b = some u) => keep_new (x := HO.tup [V.int 0, V.int 11, V.int 14]) ht1 (h0 b u e)
      refine ⟨t1, _, rfl, .inr (SqT.of upd_same), rfl, rfl, _, rfl, ?_⟩
      refine iteF ?_
      refine ⟨_, rfl, cl, _, _, _, rfl, rfl, SqL.of (h1 _ _ hcl), atI_nat (j := 1) rfl, _, rfl, d.W, _, d.dW, _, _, rfl, h1 _ _ hw.ins, T.cl_World, T.n_World_processes, rfl, d.dp, _, rfl, DGet.k (k := kn p) (h1 _ _ hw.prs), _, rfl, ?_⟩
      cases there : Ha02.isThere s p with
      | false =>
        rw [hw.out.mpr there]
        refine iteT ?_
        have e : lp s (.unwatch p k_) = true := by simp [lp, there]
        rw [← e]; exact k _ h1
      | true =>
        obtain ⟨o, ho, po, hv⟩ := hw.get (M.there_iff.mp there)
        rw [hv]
        refine iteF ?_
        refine ⟨_, rfl, (by show 6 ≤ sizeLine; decide), fun t2 ht2 => ?_⟩
        have h2 := fun b u (e : H b = some u) => keep_new (x := HO.tup [V.int 2, V.int 3, V.int 4, V.int 7, V.int 9, V.int 10]) ht2 (h1 b u e)
        refine ⟨t2, _, rfl, .inr (SqT.of upd_same), rfl, rfl, _, rfl, ?_⟩
        refine iteF ?_
        have e : lp s (.unwatch p k_) = false := by simp [lp, there]
        have := k _ h2
        rw [e] at this; exact this
    | ends p why =>
      refine ⟨_, rfl, cl, _, _, _, rfl, rfl, SqL.of (h0 _ _ hcl), atI_nat (j := 0) rfl, ?_⟩
      refine ⟨_, rfl, (by show 3 ≤ sizeLine; decide), fun t1 ht1 => ?_⟩
      have h1 := fun b u (e : H b = some u) => keep_new (x := HO.tup [V.int 0, V.int 11, V.int 14]) ht1 (h0 b u e)
      refine ⟨t1, _, rfl, .inr (SqT.of upd_same), rfl, rfl, _, rfl, ?_⟩
      refine iteF ?_
      refine ⟨_, rfl, cl, _, _, _, rfl, rfl, SqL.of (h1 _ _ hcl), atI_nat (j := 1) rfl, _, rfl, d.W, _, d.dW, _, _, rfl, h1 _ _ hw.ins, T.cl_World, T.n_World_processes, rfl, d.dp, _, rfl, DGet.k (k := kn p) (h1 _ _ hw.prs), _, rfl, ?_⟩
      cases there : Ha02.isThere s p with
      | false =>
        rw [hw.out.mpr there]
        refine iteT ?_
        have e : lp s (.ends p why) = true := by simp [lp, there]
        rw [← e]; exact k _ h1
      | true =>
        obtain ⟨o, ho, po, hv⟩ := hw.get (M.there_iff.mp there)
        rw [hv]
        refine iteF ?_
        refine ⟨_, rfl, (by show 6 ≤ sizeLine; decide), fun t2 ht2 => ?_⟩
        have h2 := fun b u (e : H b = some u) => keep_new (x := HO.tup [V.int 2, V.int 3, V.int 4, V.int 7, V.int 9, V.int 10]) ht2 (h1 b u e)
        refine ⟨t2, _, rfl, .inr (SqT.of upd_same), rfl, rfl, _, rfl, ?_⟩
        refine iteF ?_
        have e : lp s (.ends p why) = false := by simp [lp, there]
        have := k _ h2
        rw [e] at this; exact this
    | halt_ p q why =>
      refine ⟨_, rfl, cl, _, _, _, rfl, rfl, SqL.of (h0 _ _ hcl), atI_nat (j := 0) rfl, ?_⟩
      refine ⟨_, rfl, (by show 3 ≤ sizeLine; decide), fun t1 ht1 => ?_⟩
      have h1 := fun b u (e : H b = some u) => keep_new (x := HO.tup [V.int 0, V.int 11, V.int 14]) ht1 (h0 b u e)
      refine ⟨t1, _, rfl, .inr (SqT.of upd_same), rfl, rfl, _, rfl, ?_⟩
      refine iteF ?_
      refine ⟨_, rfl, cl, _, _, _, rfl, rfl, SqL.of (h1 _ _ hcl), atI_nat (j := 1) rfl, _, rfl, d.W, _, d.dW, _, _, rfl, h1 _ _ hw.ins, T.cl_World, T.n_World_processes, rfl, d.dp, _, rfl, DGet.k (k := kn p) (h1 _ _ hw.prs), _, rfl, ?_⟩
      cases there : Ha02.isThere s p with
      | false =>
        rw [hw.out.mpr there]
        refine iteT ?_
        have e : lp s (.halt_ p q why) = true := by simp [lp, there]
        rw [← e]; exact k _ h1
      | true =>
        obtain ⟨o, ho, po, hv⟩ := hw.get (M.there_iff.mp there)
        rw [hv]
        refine iteF ?_
        refine ⟨_, rfl, (by show 6 ≤ sizeLine; decide), fun t2 ht2 => ?_⟩
        have h2 := fun b u (e : H b = some u) => keep_new (x := HO.tup [V.int 2, V.int 3, V.int 4, V.int 7, V.int 9, V.int 10]) ht2 (h1 b u e)
        refine ⟨t2, _, rfl, .inr (SqT.of upd_same), rfl, rfl, _, rfl, ?_⟩
        refine iteT ?_
        refine ⟨_, rfl, cl, _, _, _, rfl, rfl, SqL.of (h2 _ _ hcl), atI_nat (j := 2) rfl, _, rfl, d.W, _, d.dW, _, _, rfl, h2 _ _ hw.ins, T.cl_World, T.n_World_processes, rfl, d.dp, _, rfl, DGet.k (k := kn q) (h2 _ _ hw.prs), ?_⟩
        cases there2 : Ha02.isThere s q with
        | false =>
          rw [hw.out.mpr there2]
          have e : lp s (.halt_ p q why) = true := by simp [lp, there, there2]
          have := k _ h2
          rw [e] at this; exact this
        | true =>
          obtain ⟨o2, ho2, po2, hv2⟩ := hw.get (M.there_iff.mp there2)
          rw [hv2]
          have e : lp s (.halt_ p q why) = false := by simp [lp, there, there2]
          have := k _ h2
          rw [e] at this; exact this
    | trap p y =>
      refine ⟨_, rfl, cl, _, _, _, rfl, rfl, SqL.of (h0 _ _ hcl), atI_nat (j := 0) rfl, ?_⟩
      refine ⟨_, rfl, (by show 3 ≤ sizeLine; decide), fun t1 ht1 => ?_⟩
      have h1 := fun b u (e : H b = some u) => keep_new (x := HO.tup [V.int 0, V.int 11, V.int 14]) ht1 (h0 b u e)
      refine ⟨t1, _, rfl, .inr (SqT.of upd_same), rfl, rfl, _, rfl, ?_⟩
      refine iteF ?_
      refine ⟨_, rfl, cl, _, _, _, rfl, rfl, SqL.of (h1 _ _ hcl), atI_nat (j := 1) rfl, _, rfl, d.W, _, d.dW, _, _, rfl, h1 _ _ hw.ins, T.cl_World, T.n_World_processes, rfl, d.dp, _, rfl, DGet.k (k := kn p) (h1 _ _ hw.prs), _, rfl, ?_⟩
      cases there : Ha02.isThere s p with
      | false =>
        rw [hw.out.mpr there]
        refine iteT ?_
        have e : lp s (.trap p y) = true := by simp [lp, there]
        rw [← e]; exact k _ h1
      | true =>
        obtain ⟨o, ho, po, hv⟩ := hw.get (M.there_iff.mp there)
        rw [hv]
        refine iteF ?_
        refine ⟨_, rfl, (by show 6 ≤ sizeLine; decide), fun t2 ht2 => ?_⟩
        have h2 := fun b u (e : H b = some u) => keep_new (x := HO.tup [V.int 2, V.int 3, V.int 4, V.int 7, V.int 9, V.int 10]) ht2 (h1 b u e)
        refine ⟨t2, _, rfl, .inr (SqT.of upd_same), rfl, rfl, _, rfl, ?_⟩
        refine iteF ?_
        have e : lp s (.trap p y) = false := by simp [lp, there]
        have := k _ h2
        rw [e] at this; exact this
    | say p q n =>
      refine ⟨_, rfl, cl, _, _, _, rfl, rfl, SqL.of (h0 _ _ hcl), atI_nat (j := 0) rfl, ?_⟩
      refine ⟨_, rfl, (by show 3 ≤ sizeLine; decide), fun t1 ht1 => ?_⟩
      have h1 := fun b u (e : H b = some u) => keep_new (x := HO.tup [V.int 0, V.int 11, V.int 14]) ht1 (h0 b u e)
      refine ⟨t1, _, rfl, .inr (SqT.of upd_same), rfl, rfl, _, rfl, ?_⟩
      refine iteF ?_
      refine ⟨_, rfl, cl, _, _, _, rfl, rfl, SqL.of (h1 _ _ hcl), atI_nat (j := 1) rfl, _, rfl, d.W, _, d.dW, _, _, rfl, h1 _ _ hw.ins, T.cl_World, T.n_World_processes, rfl, d.dp, _, rfl, DGet.k (k := kn p) (h1 _ _ hw.prs), _, rfl, ?_⟩
      cases there : Ha02.isThere s p with
      | false =>
        rw [hw.out.mpr there]
        refine iteT ?_
        have e : lp s (.say p q n) = true := by simp [lp, there]
        rw [← e]; exact k _ h1
      | true =>
        obtain ⟨o, ho, po, hv⟩ := hw.get (M.there_iff.mp there)
        rw [hv]
        refine iteF ?_
        refine ⟨_, rfl, (by show 6 ≤ sizeLine; decide), fun t2 ht2 => ?_⟩
        have h2 := fun b u (e : H b = some u) => keep_new (x := HO.tup [V.int 2, V.int 3, V.int 4, V.int 7, V.int 9, V.int 10]) ht2 (h1 b u e)
        refine ⟨t2, _, rfl, .inr (SqT.of upd_same), rfl, rfl, _, rfl, ?_⟩
        refine iteT ?_
        refine ⟨_, rfl, cl, _, _, _, rfl, rfl, SqL.of (h2 _ _ hcl), atI_nat (j := 2) rfl, _, rfl, d.W, _, d.dW, _, _, rfl, h2 _ _ hw.ins, T.cl_World, T.n_World_processes, rfl, d.dp, _, rfl, DGet.k (k := kn q) (h2 _ _ hw.prs), ?_⟩
        cases there2 : Ha02.isThere s q with
        | false =>
          rw [hw.out.mpr there2]
          have e : lp s (.say p q n) = true := by simp [lp, there, there2]
          have := k _ h2
          rw [e] at this; exact this
        | true =>
          obtain ⟨o2, ho2, po2, hv2⟩ := hw.get (M.there_iff.mp there2)
          rw [hv2]
          have e : lp s (.say p q n) = false := by simp [lp, there, there2]
          have := k _ h2
          rw [e] at this; exact this
    | deliver p q =>
      refine ⟨_, rfl, cl, _, _, _, rfl, rfl, SqL.of (h0 _ _ hcl), atI_nat (j := 0) rfl, ?_⟩
      refine ⟨_, rfl, (by show 3 ≤ sizeLine; decide), fun t1 ht1 => ?_⟩
      have h1 := fun b u (e : H b = some u) => keep_new (x := HO.tup [V.int 0, V.int 11, V.int 14]) ht1 (h0 b u e)
      refine ⟨t1, _, rfl, .inr (SqT.of upd_same), rfl, rfl, _, rfl, ?_⟩
      refine iteF ?_
      refine ⟨_, rfl, cl, _, _, _, rfl, rfl, SqL.of (h1 _ _ hcl), atI_nat (j := 1) rfl, _, rfl, d.W, _, d.dW, _, _, rfl, h1 _ _ hw.ins, T.cl_World, T.n_World_processes, rfl, d.dp, _, rfl, DGet.k (k := kn p) (h1 _ _ hw.prs), _, rfl, ?_⟩
      cases there : Ha02.isThere s p with
      | false =>
        rw [hw.out.mpr there]
        refine iteT ?_
        have e : lp s (.deliver p q) = true := by simp [lp, there]
        rw [← e]; exact k _ h1
      | true =>
        obtain ⟨o, ho, po, hv⟩ := hw.get (M.there_iff.mp there)
        rw [hv]
        refine iteF ?_
        refine ⟨_, rfl, (by show 6 ≤ sizeLine; decide), fun t2 ht2 => ?_⟩
        have h2 := fun b u (e : H b = some u) => keep_new (x := HO.tup [V.int 2, V.int 3, V.int 4, V.int 7, V.int 9, V.int 10]) ht2 (h1 b u e)
        refine ⟨t2, _, rfl, .inr (SqT.of upd_same), rfl, rfl, _, rfl, ?_⟩
        refine iteT ?_
        refine ⟨_, rfl, cl, _, _, _, rfl, rfl, SqL.of (h2 _ _ hcl), atI_nat (j := 2) rfl, _, rfl, d.W, _, d.dW, _, _, rfl, h2 _ _ hw.ins, T.cl_World, T.n_World_processes, rfl, d.dp, _, rfl, DGet.k (k := kn q) (h2 _ _ hw.prs), ?_⟩
        cases there2 : Ha02.isThere s q with
        | false =>
          rw [hw.out.mpr there2]
          have e : lp s (.deliver p q) = true := by simp [lp, there, there2]
          have := k _ h2
          rw [e] at this; exact this
        | true =>
          obtain ⟨o2, ho2, po2, hv2⟩ := hw.get (M.there_iff.mp there2)
          rw [hv2]
          have e : lp s (.deliver p q) = false := by simp [lp, there, there2]
          have := k _ h2
          rw [e] at this; exact this
    | turns n =>
      refine ⟨_, rfl, cl, _, _, _, rfl, rfl, SqL.of (h0 _ _ hcl), atI_nat (j := 0) rfl, ?_⟩
      refine ⟨_, rfl, (by show 3 ≤ sizeLine; decide), fun t1 ht1 => ?_⟩
      have h1 := fun b u (e : H b = some u) => keep_new (x := HO.tup [V.int 0, V.int 11, V.int 14]) ht1 (h0 b u e)
      refine ⟨t1, _, rfl, .inr (SqT.of upd_same), rfl, rfl, _, rfl, ?_⟩
      refine iteT ?_
      exact k _ h1
    | box p =>
      refine ⟨_, rfl, cl, _, _, _, rfl, rfl, SqL.of (h0 _ _ hcl), atI_nat (j := 0) rfl, ?_⟩
      refine ⟨_, rfl, (by show 3 ≤ sizeLine; decide), fun t1 ht1 => ?_⟩
      have h1 := fun b u (e : H b = some u) => keep_new (x := HO.tup [V.int 0, V.int 11, V.int 14]) ht1 (h0 b u e)
      refine ⟨t1, _, rfl, .inr (SqT.of upd_same), rfl, rfl, _, rfl, ?_⟩
      refine iteF ?_
      refine ⟨_, rfl, cl, _, _, _, rfl, rfl, SqL.of (h1 _ _ hcl), atI_nat (j := 1) rfl, _, rfl, d.W, _, d.dW, _, _, rfl, h1 _ _ hw.ins, T.cl_World, T.n_World_processes, rfl, d.dp, _, rfl, DGet.k (k := kn p) (h1 _ _ hw.prs), _, rfl, ?_⟩
      cases there : Ha02.isThere s p with
      | false =>
        rw [hw.out.mpr there]
        refine iteT ?_
        have e : lp s (.box p) = true := by simp [lp, there]
        rw [← e]; exact k _ h1
      | true =>
        obtain ⟨o, ho, po, hv⟩ := hw.get (M.there_iff.mp there)
        rw [hv]
        refine iteF ?_
        refine ⟨_, rfl, (by show 6 ≤ sizeLine; decide), fun t2 ht2 => ?_⟩
        have h2 := fun b u (e : H b = some u) => keep_new (x := HO.tup [V.int 2, V.int 3, V.int 4, V.int 7, V.int 9, V.int 10]) ht2 (h1 b u e)
        refine ⟨t2, _, rfl, .inr (SqT.of upd_same), rfl, rfl, _, rfl, ?_⟩
        refine iteF ?_
        have e : lp s (.box p) = false := by simp [lp, there]
        have := k _ h2
        rw [e] at this; exact this
    | process p =>
      refine ⟨_, rfl, cl, _, _, _, rfl, rfl, SqL.of (h0 _ _ hcl), atI_nat (j := 0) rfl, ?_⟩
      refine ⟨_, rfl, (by show 3 ≤ sizeLine; decide), fun t1 ht1 => ?_⟩
      have h1 := fun b u (e : H b = some u) => keep_new (x := HO.tup [V.int 0, V.int 11, V.int 14]) ht1 (h0 b u e)
      refine ⟨t1, _, rfl, .inr (SqT.of upd_same), rfl, rfl, _, rfl, ?_⟩
      refine iteF ?_
      refine ⟨_, rfl, cl, _, _, _, rfl, rfl, SqL.of (h1 _ _ hcl), atI_nat (j := 1) rfl, _, rfl, d.W, _, d.dW, _, _, rfl, h1 _ _ hw.ins, T.cl_World, T.n_World_processes, rfl, d.dp, _, rfl, DGet.k (k := kn p) (h1 _ _ hw.prs), _, rfl, ?_⟩
      cases there : Ha02.isThere s p with
      | false =>
        rw [hw.out.mpr there]
        refine iteT ?_
        have e : lp s (.process p) = true := by simp [lp, there]
        rw [← e]; exact k _ h1
      | true =>
        obtain ⟨o, ho, po, hv⟩ := hw.get (M.there_iff.mp there)
        rw [hv]
        refine iteF ?_
        refine ⟨_, rfl, (by show 6 ≤ sizeLine; decide), fun t2 ht2 => ?_⟩
        have h2 := fun b u (e : H b = some u) => keep_new (x := HO.tup [V.int 2, V.int 3, V.int 4, V.int 7, V.int 9, V.int 10]) ht2 (h1 b u e)
        refine ⟨t2, _, rfl, .inr (SqT.of upd_same), rfl, rfl, _, rfl, ?_⟩
        refine iteF ?_
        have e : lp s (.process p) = false := by simp [lp, there]
        have := k _ h2
        rw [e] at this; exact this
    | air =>
      refine ⟨_, rfl, cl, _, _, _, rfl, rfl, SqL.of (h0 _ _ hcl), atI_nat (j := 0) rfl, ?_⟩
      refine ⟨_, rfl, (by show 3 ≤ sizeLine; decide), fun t1 ht1 => ?_⟩
      have h1 := fun b u (e : H b = some u) => keep_new (x := HO.tup [V.int 0, V.int 11, V.int 14]) ht1 (h0 b u e)
      refine ⟨t1, _, rfl, .inr (SqT.of upd_same), rfl, rfl, _, rfl, ?_⟩
      refine iteT ?_
      exact k _ h1
theorem ok_is_misfit (T : Txt K mg A) : FnOk P w K mg base CX0 1 A.f_is_misfit A.d_is_misfit ["call"] (spMis) := by
  refine T.F_is_misfit.ok sc_is_misfit (fun vs H Q E h => ?_) (fun cdv A' outer s H vs Q E hr h => ?_)
  · obtain ⟨x, cl, rfl, _⟩ := h; rfl
  · obtain ⟨x, cl, rfl, hcl, k⟩ := h
    have h0 := kept_id (H := H)
    refine ⟨_, (pss_cons (ps_set (i := 1) sc_is_misfit.nd rfl (Or.inl rfl) (pe_ix ix_list (pv 0) pe_int (fun _ _ => rfl)))
      (pss_cons (ps_if (pt_cmpR op_eq (pv 1) (pe_gint rfl T.c_CALL_CHILD) (nomark _)) (pss_one (ps_ret (pe_cmpR op_gt (pe_ix ix_list (pv 0) pe_int (fun _ _ => rfl)) (pe_gint rfl T.c_MOST_HOW) (nomark _)))) pss_nil)
      (pss_cons (ps_if (pt_cmpR op_in_seq (pv 1) (pe_tup (pa_cons (pe_gint rfl T.c_CALL_LINK) (pa_cons (pe_gint rfl T.c_CALL_CUT) (pa_cons (pe_gint rfl T.c_CALL_WATCH) pa_nil)))) (by with_unfolding_all rfl)) (pss_one (ps_ret (pe_cmpR op_eq (pe_ix ix_list (pv 0) pe_int (fun _ _ => rfl)) (pe_ix ix_list (pv 0) pe_int (fun _ _ => rfl)) (nomark _)))) pss_nil)
      (pss_cons (ps_if (pt_cmpR op_eq (pv 1) (pe_gint rfl T.c_CALL_ENDS) (nomark _)) (pss_one (ps_ret (pe_cmpR op_gt (pe_ix ix_list (pv 0) pe_int (fun _ _ => rfl)) (pe_gint rfl T.c_MOST_WHY) (nomark _)))) pss_nil)
      (pss_cons (ps_if (pt_cmpR op_eq (pv 1) (pe_gint rfl T.c_CALL_STOP) (nomark _)) (pss_one (ps_ret (pe_cmpR op_gt (pe_ix ix_list (pv 0) pe_int (fun _ _ => rfl)) (pe_gint rfl T.c_MOST_WHY) (nomark _)))) pss_nil)
      (pss_cons (ps_if (pt_cmpR op_eq (pv 1) (pe_gint rfl T.c_CALL_TRAP) (nomark _)) (pss_one (ps_ret (pe_cmpR op_gt (pe_ix ix_list (pv 0) pe_int (fun _ _ => rfl)) (pe_gint rfl T.c_MOST_YES) (nomark _)))) pss_nil)
      (pss_cons (ps_if (pt_cmpR op_eq (pv 1) (pe_gint rfl T.c_CALL_TURNS) (nomark _)) (pss_one (ps_ret (pe_cmpR op_gt (pe_ix ix_list (pv 0) pe_int (fun _ _ => rfl)) (pe_gint rfl T.c_MOST_TURNS) (nomark _)))) pss_nil)
      (pss_one (ps_ret pe_bl))))))))), ?_⟩
    cases x with
    | start =>
      refine ⟨_, rfl, cl, _, _, _, rfl, rfl, SqL.of (h0 _ _ hcl), atI_nat (j := 0) rfl, ?_⟩
      refine ⟨_, rfl, rfl, _, rfl, ?_⟩
      refine iteF ?_
      refine ⟨_, rfl, (by show 3 ≤ sizeLine; decide), fun t1 ht1 => ?_⟩
      have h1 := fun b u (e : H b = some u) => keep_new (x := HO.tup [V.int 2, V.int 3, V.int 4]) ht1 (h0 b u e)
      refine ⟨t1, _, rfl, .inr (SqT.of upd_same), rfl, rfl, _, rfl, ?_⟩
      refine iteF ?_
      refine ⟨_, rfl, rfl, _, rfl, ?_⟩
      refine iteF ?_
      refine ⟨_, rfl, rfl, _, rfl, ?_⟩
      refine iteF ?_
      refine ⟨_, rfl, rfl, _, rfl, ?_⟩
      refine iteF ?_
      refine ⟨_, rfl, rfl, _, rfl, ?_⟩
      refine iteF ?_
      exact k _ h1
    | child p how =>
      refine ⟨_, rfl, cl, _, _, _, rfl, rfl, SqL.of (h0 _ _ hcl), atI_nat (j := 0) rfl, ?_⟩
      refine ⟨_, rfl, rfl, _, rfl, ?_⟩
      refine iteT ?_
      refine ⟨_, rfl, cl, _, _, _, rfl, rfl, SqL.of (h0 _ _ hcl), atI_nat (j := 2) rfl, _, _, rfl, rfl, ?_⟩
      have e : decide ((how : Int) > 2) = mf (.child p how) := decide_eq_decide.mpr (by omega)
      have := k _ h0
      rw [← e] at this; exact this
    | link p q =>
      refine ⟨_, rfl, cl, _, _, _, rfl, rfl, SqL.of (h0 _ _ hcl), atI_nat (j := 0) rfl, ?_⟩
      refine ⟨_, rfl, rfl, _, rfl, ?_⟩
      refine iteF ?_
      refine ⟨_, rfl, (by show 3 ≤ sizeLine; decide), fun t1 ht1 => ?_⟩
      have h1 := fun b u (e : H b = some u) => keep_new (x := HO.tup [V.int 2, V.int 3, V.int 4]) ht1 (h0 b u e)
      refine ⟨t1, _, rfl, .inr (SqT.of upd_same), rfl, rfl, _, rfl, ?_⟩
      refine iteT ?_
      refine ⟨_, rfl, cl, _, _, _, rfl, rfl, SqL.of (h1 _ _ hcl), atI_nat (j := 1) rfl, _, rfl, cl, _, _, _, rfl, rfl, SqL.of (h1 _ _ hcl), atI_nat (j := 2) rfl, rfl, ?_⟩
      have e : decide (V.int (p : Int) = V.int (q : Int)) = mf (.link p q) := decide_eq_decide.mpr iN_inj
      have := k _ h1
      rw [← e] at this; exact this
    | cut p q =>
      refine ⟨_, rfl, cl, _, _, _, rfl, rfl, SqL.of (h0 _ _ hcl), atI_nat (j := 0) rfl, ?_⟩
      refine ⟨_, rfl, rfl, _, rfl, ?_⟩
      refine iteF ?_
      refine ⟨_, rfl, (by show 3 ≤ sizeLine; decide), fun t1 ht1 => ?_⟩
      have h1 := fun b u (e : H b = some u) => keep_new (x := HO.tup [V.int 2, V.int 3, V.int 4]) ht1 (h0 b u e)
      refine ⟨t1, _, rfl, .inr (SqT.of upd_same), rfl, rfl, _, rfl, ?_⟩
      refine iteT ?_
      refine ⟨_, rfl, cl, _, _, _, rfl, rfl, SqL.of (h1 _ _ hcl), atI_nat (j := 1) rfl, _, rfl, cl, _, _, _, rfl, rfl, SqL.of (h1 _ _ hcl), atI_nat (j := 2) rfl, rfl, ?_⟩
      have e : decide (V.int (p : Int) = V.int (q : Int)) = mf (.cut p q) := decide_eq_decide.mpr iN_inj
      have := k _ h1
      rw [← e] at this; exact this
    | watch p q =>
      refine ⟨_, rfl, cl, _, _, _, rfl, rfl, SqL.of (h0 _ _ hcl), atI_nat (j := 0) rfl, ?_⟩
      refine ⟨_, rfl, rfl, _, rfl, ?_⟩
      refine iteF ?_
      refine ⟨_, rfl, (by show 3 ≤ sizeLine; decide), fun t1 ht1 => ?_⟩
      have h1 := fun b u (e : H b = some u) => keep_new (x := HO.tup [V.int 2, V.int 3, V.int 4]) ht1 (h0 b u e)
      refine ⟨t1, _, rfl, .inr (SqT.of upd_same), rfl, rfl, _, rfl, ?_⟩
      refine iteT ?_
      refine ⟨_, rfl, cl, _, _, _, rfl, rfl, SqL.of (h1 _ _ hcl), atI_nat (j := 1) rfl, _, rfl, cl, _, _, _, rfl, rfl, SqL.of (h1 _ _ hcl), atI_nat (j := 2) rfl, rfl, ?_⟩
      have e : decide (V.int (p : Int) = V.int (q : Int)) = mf (.watch p q) := decide_eq_decide.mpr iN_inj
      have := k _ h1
      rw [← e] at this; exact this
    | unwatch p k_ =>
      refine ⟨_, rfl, cl, _, _, _, rfl, rfl, SqL.of (h0 _ _ hcl), atI_nat (j := 0) rfl, ?_⟩
      refine ⟨_, rfl, rfl, _, rfl, ?_⟩
      refine iteF ?_
      refine ⟨_, rfl, (by show 3 ≤ sizeLine; decide), fun t1 ht1 => ?_⟩
      have h1 := fun b u (e : H b = some u) => keep_new (x := HO.tup [V.int 2, V.int 3, V.int 4]) ht1 (h0 b u e)
      refine ⟨t1, _, rfl, .inr (SqT.of upd_same), rfl, rfl, _, rfl, ?_⟩
      refine iteF ?_
      refine ⟨_, rfl, rfl, _, rfl, ?_⟩
      refine iteF ?_
      refine ⟨_, rfl, rfl, _, rfl, ?_⟩
      refine iteF ?_
      refine ⟨_, rfl, rfl, _, rfl, ?_⟩
      refine iteF ?_
      refine ⟨_, rfl, rfl, _, rfl, ?_⟩
      refine iteF ?_
      exact k _ h1
    | ends p why =>
      refine ⟨_, rfl, cl, _, _, _, rfl, rfl, SqL.of (h0 _ _ hcl), atI_nat (j := 0) rfl, ?_⟩
      refine ⟨_, rfl, rfl, _, rfl, ?_⟩
      refine iteF ?_
      refine ⟨_, rfl, (by show 3 ≤ sizeLine; decide), fun t1 ht1 => ?_⟩
      have h1 := fun b u (e : H b = some u) => keep_new (x := HO.tup [V.int 2, V.int 3, V.int 4]) ht1 (h0 b u e)
      refine ⟨t1, _, rfl, .inr (SqT.of upd_same), rfl, rfl, _, rfl, ?_⟩
      refine iteF ?_
      refine ⟨_, rfl, rfl, _, rfl, ?_⟩
      refine iteT ?_
      refine ⟨_, rfl, cl, _, _, _, rfl, rfl, SqL.of (h1 _ _ hcl), atI_nat (j := 2) rfl, _, _, rfl, rfl, ?_⟩
      have e : decide ((why : Int) > 99) = mf (.ends p why) := decide_eq_decide.mpr (by omega)
      have := k _ h1
      rw [← e] at this; exact this
    | halt_ p q why =>
      refine ⟨_, rfl, cl, _, _, _, rfl, rfl, SqL.of (h0 _ _ hcl), atI_nat (j := 0) rfl, ?_⟩
      refine ⟨_, rfl, rfl, _, rfl, ?_⟩
      refine iteF ?_
      refine ⟨_, rfl, (by show 3 ≤ sizeLine; decide), fun t1 ht1 => ?_⟩
      have h1 := fun b u (e : H b = some u) => keep_new (x := HO.tup [V.int 2, V.int 3, V.int 4]) ht1 (h0 b u e)
      refine ⟨t1, _, rfl, .inr (SqT.of upd_same), rfl, rfl, _, rfl, ?_⟩
      refine iteF ?_
      refine ⟨_, rfl, rfl, _, rfl, ?_⟩
      refine iteF ?_
      refine ⟨_, rfl, rfl, _, rfl, ?_⟩
      refine iteT ?_
      refine ⟨_, rfl, cl, _, _, _, rfl, rfl, SqL.of (h1 _ _ hcl), atI_nat (j := 3) rfl, _, _, rfl, rfl, ?_⟩
      have e : decide ((why : Int) > 99) = mf (.halt_ p q why) := decide_eq_decide.mpr (by omega)
      have := k _ h1
      rw [← e] at this; exact this
    | trap p y =>
      refine ⟨_, rfl, cl, _, _, _, rfl, rfl, SqL.of (h0 _ _ hcl), atI_nat (j := 0) rfl, ?_⟩
      refine ⟨_, rfl, rfl, _, rfl, ?_⟩
      refine iteF ?_
      refine ⟨_, rfl, (by show 3 ≤ sizeLine; decide), fun t1 ht1 => ?_⟩
      have h1 := fun b u (e : H b = some u) => keep_new (x := HO.tup [V.int 2, V.int 3, V.int 4]) ht1 (h0 b u e)
      refine ⟨t1, _, rfl, .inr (SqT.of upd_same), rfl, rfl, _, rfl, ?_⟩
      refine iteF ?_
      refine ⟨_, rfl, rfl, _, rfl, ?_⟩
      refine iteF ?_
      refine ⟨_, rfl, rfl, _, rfl, ?_⟩
      refine iteF ?_
      refine ⟨_, rfl, rfl, _, rfl, ?_⟩
      refine iteT ?_
      refine ⟨_, rfl, cl, _, _, _, rfl, rfl, SqL.of (h1 _ _ hcl), atI_nat (j := 2) rfl, _, _, rfl, rfl, ?_⟩
      have e : decide ((y : Int) > 1) = mf (.trap p y) := decide_eq_decide.mpr (by omega)
      have := k _ h1
      rw [← e] at this; exact this
    | say p q n =>
      refine ⟨_, rfl, cl, _, _, _, rfl, rfl, SqL.of (h0 _ _ hcl), atI_nat (j := 0) rfl, ?_⟩
      refine ⟨_, rfl, rfl, _, rfl, ?_⟩
      refine iteF ?_
      refine ⟨_, rfl, (by show 3 ≤ sizeLine; decide), fun t1 ht1 => ?_⟩
      have h1 := fun b u (e : H b = some u) => keep_new (x := HO.tup [V.int 2, V.int 3, V.int 4]) ht1 (h0 b u e)
      refine ⟨t1, _, rfl, .inr (SqT.of upd_same), rfl, rfl, _, rfl, ?_⟩
      refine iteF ?_
      refine ⟨_, rfl, rfl, _, rfl, ?_⟩
      refine iteF ?_
      refine ⟨_, rfl, rfl, _, rfl, ?_⟩
      refine iteF ?_
      refine ⟨_, rfl, rfl, _, rfl, ?_⟩
      refine iteF ?_
      refine ⟨_, rfl, rfl, _, rfl, ?_⟩
      refine iteF ?_
      exact k _ h1
    | deliver p q =>
      refine ⟨_, rfl, cl, _, _, _, rfl, rfl, SqL.of (h0 _ _ hcl), atI_nat (j := 0) rfl, ?_⟩
      refine ⟨_, rfl, rfl, _, rfl, ?_⟩
      refine iteF ?_
      refine ⟨_, rfl, (by show 3 ≤ sizeLine; decide), fun t1 ht1 => ?_⟩
      have h1 := fun b u (e : H b = some u) => keep_new (x := HO.tup [V.int 2, V.int 3, V.int 4]) ht1 (h0 b u e)
      refine ⟨t1, _, rfl, .inr (SqT.of upd_same), rfl, rfl, _, rfl, ?_⟩
      refine iteF ?_
      refine ⟨_, rfl, rfl, _, rfl, ?_⟩
      refine iteF ?_
      refine ⟨_, rfl, rfl, _, rfl, ?_⟩
      refine iteF ?_
      refine ⟨_, rfl, rfl, _, rfl, ?_⟩
      refine iteF ?_
      refine ⟨_, rfl, rfl, _, rfl, ?_⟩
      refine iteF ?_
      exact k _ h1
    | turns n =>
      refine ⟨_, rfl, cl, _, _, _, rfl, rfl, SqL.of (h0 _ _ hcl), atI_nat (j := 0) rfl, ?_⟩
      refine ⟨_, rfl, rfl, _, rfl, ?_⟩
      refine iteF ?_
      refine ⟨_, rfl, (by show 3 ≤ sizeLine; decide), fun t1 ht1 => ?_⟩
      have h1 := fun b u (e : H b = some u) => keep_new (x := HO.tup [V.int 2, V.int 3, V.int 4]) ht1 (h0 b u e)
      refine ⟨t1, _, rfl, .inr (SqT.of upd_same), rfl, rfl, _, rfl, ?_⟩
      refine iteF ?_
      refine ⟨_, rfl, rfl, _, rfl, ?_⟩
      refine iteF ?_
      refine ⟨_, rfl, rfl, _, rfl, ?_⟩
      refine iteF ?_
      refine ⟨_, rfl, rfl, _, rfl, ?_⟩
      refine iteF ?_
      refine ⟨_, rfl, rfl, _, rfl, ?_⟩
      refine iteT ?_
      refine ⟨_, rfl, cl, _, _, _, rfl, rfl, SqL.of (h1 _ _ hcl), atI_nat (j := 1) rfl, _, _, rfl, rfl, ?_⟩
      have e : decide ((n : Int) > 1000) = mf (.turns n) := decide_eq_decide.mpr (by omega)
      have := k _ h1
      rw [← e] at this; exact this
    | box p =>
      refine ⟨_, rfl, cl, _, _, _, rfl, rfl, SqL.of (h0 _ _ hcl), atI_nat (j := 0) rfl, ?_⟩
      refine ⟨_, rfl, rfl, _, rfl, ?_⟩
      refine iteF ?_
      refine ⟨_, rfl, (by show 3 ≤ sizeLine; decide), fun t1 ht1 => ?_⟩
      have h1 := fun b u (e : H b = some u) => keep_new (x := HO.tup [V.int 2, V.int 3, V.int 4]) ht1 (h0 b u e)
      refine ⟨t1, _, rfl, .inr (SqT.of upd_same), rfl, rfl, _, rfl, ?_⟩
      refine iteF ?_
      refine ⟨_, rfl, rfl, _, rfl, ?_⟩
      refine iteF ?_
      refine ⟨_, rfl, rfl, _, rfl, ?_⟩
      refine iteF ?_
      refine ⟨_, rfl, rfl, _, rfl, ?_⟩
      refine iteF ?_
      refine ⟨_, rfl, rfl, _, rfl, ?_⟩
      refine iteF ?_
      exact k _ h1
    | process p =>
      refine ⟨_, rfl, cl, _, _, _, rfl, rfl, SqL.of (h0 _ _ hcl), atI_nat (j := 0) rfl, ?_⟩
      refine ⟨_, rfl, rfl, _, rfl, ?_⟩
      refine iteF ?_
      refine ⟨_, rfl, (by show 3 ≤ sizeLine; decide), fun t1 ht1 => ?_⟩
      have h1 := fun b u (e : H b = some u) => keep_new (x := HO.tup [V.int 2, V.int 3, V.int 4]) ht1 (h0 b u e)
      refine ⟨t1, _, rfl, .inr (SqT.of upd_same), rfl, rfl, _, rfl, ?_⟩
      refine iteF ?_
      refine ⟨_, rfl, rfl, _, rfl, ?_⟩
      refine iteF ?_
      refine ⟨_, rfl, rfl, _, rfl, ?_⟩
      refine iteF ?_
      refine ⟨_, rfl, rfl, _, rfl, ?_⟩
      refine iteF ?_
      refine ⟨_, rfl, rfl, _, rfl, ?_⟩
      refine iteF ?_
      exact k _ h1
    | air =>
      refine ⟨_, rfl, cl, _, _, _, rfl, rfl, SqL.of (h0 _ _ hcl), atI_nat (j := 0) rfl, ?_⟩
      refine ⟨_, rfl, rfl, _, rfl, ?_⟩
      refine iteF ?_
      refine ⟨_, rfl, (by show 3 ≤ sizeLine; decide), fun t1 ht1 => ?_⟩
      have h1 := fun b u (e : H b = some u) => keep_new (x := HO.tup [V.int 2, V.int 3, V.int 4]) ht1 (h0 b u e)
      refine ⟨t1, _, rfl, .inr (SqT.of upd_same), rfl, rfl, _, rfl, ?_⟩
      refine iteF ?_
      refine ⟨_, rfl, rfl, _, rfl, ?_⟩
      refine iteF ?_
      refine ⟨_, rfl, rfl, _, rfl, ?_⟩
      refine iteF ?_
      refine ⟨_, rfl, rfl, _, rfl, ?_⟩
      refine iteF ?_
      refine ⟨_, rfl, rfl, _, rfl, ?_⟩
      refine iteF ?_
      exact k _ h1
theorem ok_is_by_ended (T : Txt K mg A) : FnOk P w K mg base CX0 1 A.f_is_by_ended A.d_is_by_ended ["world", "call"] (spAsk A.C_World A.C_Process (fun s x => lp s x = false) be) := by
  refine T.F_is_by_ended.ok sc_is_by_ended (fun vs H Q E h => ?_) (fun cdv A' outer s H vs Q E hr h => ?_)
  · obtain ⟨d, s, x, cl, rfl, _⟩ := h; rfl
  · obtain ⟨d, s, x, cl, rfl, hcl, hw, hpre, k⟩ := h
    have hu := hu_of hr
    have h0 := kept_id (H := H)
    refine ⟨_, (pss_cons (ps_set (i := 2) sc_is_by_ended.nd rfl (Or.inl rfl) (pe_ix ix_list (pv 1) pe_int (fun _ _ => rfl)))
      (pss_cons (ps_if (pt_cmpR op_in_seq (pv 2) (pe_tup (pa_cons (pe_gint rfl T.c_CALL_CHILD) (pa_cons (pe_gint rfl T.c_CALL_LINK) (pa_cons (pe_gint rfl T.c_CALL_CUT) (pa_cons (pe_gint rfl T.c_CALL_WATCH) (pa_cons (pe_gint rfl T.c_CALL_UNWATCH) (pa_cons (pe_gint rfl T.c_CALL_ENDS) (pa_cons (pe_gint rfl T.c_CALL_STOP) (pa_cons (pe_gint rfl T.c_CALL_TRAP) (pa_cons (pe_gint rfl T.c_CALL_SAY) pa_nil)))))))))) (by with_unfolding_all rfl)) (pss_one (ps_ret (pe_not (pe_fld (pe_dget hu (pe_fld (pv 0) rfl) (pe_ix ix_list (pv 1) pe_int (fun _ _ => rfl)) (fun _ _ => rfl)) rfl)))) pss_nil)
      (pss_one (ps_ret pe_bl)))), ?_⟩
    cases x with
    | start =>
      refine ⟨_, rfl, cl, _, _, _, rfl, rfl, SqL.of (h0 _ _ hcl), atI_nat (j := 0) rfl, ?_⟩
      refine ⟨_, rfl, (by show 9 ≤ sizeLine; decide), fun t1 ht1 => ?_⟩
      have h1 := fun b u (e : H b = some u) => keep_new (x := HO.tup [V.int 1, V.int 2, V.int 3, V.int 4, V.int 5, V.int 6, V.int 7, V.int 8, V.int 9]) ht1 (h0 b u e)
      refine ⟨t1, _, rfl, .inr (SqT.of upd_same), rfl, rfl, _, rfl, ?_⟩
      refine iteF ?_
      exact k _ h1
    | child p how =>
      refine ⟨_, rfl, cl, _, _, _, rfl, rfl, SqL.of (h0 _ _ hcl), atI_nat (j := 0) rfl, ?_⟩
      refine ⟨_, rfl, (by show 9 ≤ sizeLine; decide), fun t1 ht1 => ?_⟩
      have h1 := fun b u (e : H b = some u) => keep_new (x := HO.tup [V.int 1, V.int 2, V.int 3, V.int 4, V.int 5, V.int 6, V.int 7, V.int 8, V.int 9]) ht1 (h0 b u e)
      refine ⟨t1, _, rfl, .inr (SqT.of upd_same), rfl, rfl, _, rfl, ?_⟩
      refine iteT ?_
      have there : Ha02.isThere s p = true := by simp [lp] at hpre; simp [hpre]
      obtain ⟨o, ho, po, hv⟩ := hw.get (M.there_iff.mp there)
      obtain ⟨dx, ha⟩ := po.ins
      refine ⟨_, rfl, d.W, _, d.dW, _, _, rfl, h1 _ _ hw.ins, T.cl_World, T.n_World_processes, rfl, _, rfl, cl, _, _, _, rfl, rfl, SqL.of (h1 _ _ hcl), atI_nat (j := 1) rfl, d.dp, .ref o.a, rfl, dget_at (h1 _ _ hw.prs) hv, o.a, _, dx, _, _, rfl, h1 _ _ ha, T.cl_Process, T.n_Process_living, rfl, _, rfl, ?_⟩
      exact k _ h1
    | link p q =>
      refine ⟨_, rfl, cl, _, _, _, rfl, rfl, SqL.of (h0 _ _ hcl), atI_nat (j := 0) rfl, ?_⟩
      refine ⟨_, rfl, (by show 9 ≤ sizeLine; decide), fun t1 ht1 => ?_⟩
      have h1 := fun b u (e : H b = some u) => keep_new (x := HO.tup [V.int 1, V.int 2, V.int 3, V.int 4, V.int 5, V.int 6, V.int 7, V.int 8, V.int 9]) ht1 (h0 b u e)
      refine ⟨t1, _, rfl, .inr (SqT.of upd_same), rfl, rfl, _, rfl, ?_⟩
      refine iteT ?_
      have there : Ha02.isThere s p = true := by simp [lp] at hpre; simp [hpre]
      obtain ⟨o, ho, po, hv⟩ := hw.get (M.there_iff.mp there)
      obtain ⟨dx, ha⟩ := po.ins
      refine ⟨_, rfl, d.W, _, d.dW, _, _, rfl, h1 _ _ hw.ins, T.cl_World, T.n_World_processes, rfl, _, rfl, cl, _, _, _, rfl, rfl, SqL.of (h1 _ _ hcl), atI_nat (j := 1) rfl, d.dp, .ref o.a, rfl, dget_at (h1 _ _ hw.prs) hv, o.a, _, dx, _, _, rfl, h1 _ _ ha, T.cl_Process, T.n_Process_living, rfl, _, rfl, ?_⟩
      exact k _ h1
    | cut p q =>
      refine ⟨_, rfl, cl, _, _, _, rfl, rfl, SqL.of (h0 _ _ hcl), atI_nat (j := 0) rfl, ?_⟩
      refine ⟨_, rfl, (by show 9 ≤ sizeLine; decide), fun t1 ht1 => ?_⟩
      have h1 := fun b u (e : H b = some u) => keep_new (x := HO.tup [V.int 1, V.int 2, V.int 3, V.int 4, V.int 5, V.int 6, V.int 7, V.int 8, V.int 9]) ht1 (h0 b u e)
      refine ⟨t1, _, rfl, .inr (SqT.of upd_same), rfl, rfl, _, rfl, ?_⟩
      refine iteT ?_
      have there : Ha02.isThere s p = true := by simp [lp] at hpre; simp [hpre]
      obtain ⟨o, ho, po, hv⟩ := hw.get (M.there_iff.mp there)
      obtain ⟨dx, ha⟩ := po.ins
      refine ⟨_, rfl, d.W, _, d.dW, _, _, rfl, h1 _ _ hw.ins, T.cl_World, T.n_World_processes, rfl, _, rfl, cl, _, _, _, rfl, rfl, SqL.of (h1 _ _ hcl), atI_nat (j := 1) rfl, d.dp, .ref o.a, rfl, dget_at (h1 _ _ hw.prs) hv, o.a, _, dx, _, _, rfl, h1 _ _ ha, T.cl_Process, T.n_Process_living, rfl, _, rfl, ?_⟩
      exact k _ h1
    | watch p q =>
      refine ⟨_, rfl, cl, _, _, _, rfl, rfl, SqL.of (h0 _ _ hcl), atI_nat (j := 0) rfl, ?_⟩
      refine ⟨_, rfl, (by show 9 ≤ sizeLine; decide), fun t1 ht1 => ?_⟩
      have h1 := fun b u (e : H b = some u) => keep_new (x := HO.tup [V.int 1, V.int 2, V.int 3, V.int 4, V.int 5, V.int 6, V.int 7, V.int 8, V.int 9]) ht1 (h0 b u e)
      refine ⟨t1, _, rfl, .inr (SqT.of upd_same), rfl, rfl, _, rfl, ?_⟩
      refine iteT ?_
      have there : Ha02.isThere s p = true := by simp [lp] at hpre; simp [hpre]
      obtain ⟨o, ho, po, hv⟩ := hw.get (M.there_iff.mp there)
      obtain ⟨dx, ha⟩ := po.ins
      refine ⟨_, rfl, d.W, _, d.dW, _, _, rfl, h1 _ _ hw.ins, T.cl_World, T.n_World_processes, rfl, _, rfl, cl, _, _, _, rfl, rfl, SqL.of (h1 _ _ hcl), atI_nat (j := 1) rfl, d.dp, .ref o.a, rfl, dget_at (h1 _ _ hw.prs) hv, o.a, _, dx, _, _, rfl, h1 _ _ ha, T.cl_Process, T.n_Process_living, rfl, _, rfl, ?_⟩
      exact k _ h1
    | unwatch p k_ =>
      refine ⟨_, rfl, cl, _, _, _, rfl, rfl, SqL.of (h0 _ _ hcl), atI_nat (j := 0) rfl, ?_⟩
      refine ⟨_, rfl, (by show 9 ≤ sizeLine; decide), fun t1 ht1 => ?_⟩
      have h1 := fun b u (e : H b = some u) => keep_new (x := HO.tup [V.int 1, V.int 2, V.int 3, V.int 4, V.int 5, V.int 6, V.int 7, V.int 8, V.int 9]) ht1 (h0 b u e)
      refine ⟨t1, _, rfl, .inr (SqT.of upd_same), rfl, rfl, _, rfl, ?_⟩
      refine iteT ?_
      have there : Ha02.isThere s p = true := by simp [lp] at hpre; simp [hpre]
      obtain ⟨o, ho, po, hv⟩ := hw.get (M.there_iff.mp there)
      obtain ⟨dx, ha⟩ := po.ins
      refine ⟨_, rfl, d.W, _, d.dW, _, _, rfl, h1 _ _ hw.ins, T.cl_World, T.n_World_processes, rfl, _, rfl, cl, _, _, _, rfl, rfl, SqL.of (h1 _ _ hcl), atI_nat (j := 1) rfl, d.dp, .ref o.a, rfl, dget_at (h1 _ _ hw.prs) hv, o.a, _, dx, _, _, rfl, h1 _ _ ha, T.cl_Process, T.n_Process_living, rfl, _, rfl, ?_⟩
      exact k _ h1
    | ends p why =>
      refine ⟨_, rfl, cl, _, _, _, rfl, rfl, SqL.of (h0 _ _ hcl), atI_nat (j := 0) rfl, ?_⟩
      refine ⟨_, rfl, (by show 9 ≤ sizeLine; decide), fun t1 ht1 => ?_⟩
      have h1 := fun b u (e : H b = some u) => keep_new (x := HO.tup [V.int 1, V.int 2, V.int 3, V.int 4, V.int 5, V.int 6, V.int 7, V.int 8, V.int 9]) ht1 (h0 b u e)
      refine ⟨t1, _, rfl, .inr (SqT.of upd_same), rfl, rfl, _, rfl, ?_⟩
      refine iteT ?_
      have there : Ha02.isThere s p = true := by simp [lp] at hpre; simp [hpre]
      obtain ⟨o, ho, po, hv⟩ := hw.get (M.there_iff.mp there)
      obtain ⟨dx, ha⟩ := po.ins
      refine ⟨_, rfl, d.W, _, d.dW, _, _, rfl, h1 _ _ hw.ins, T.cl_World, T.n_World_processes, rfl, _, rfl, cl, _, _, _, rfl, rfl, SqL.of (h1 _ _ hcl), atI_nat (j := 1) rfl, d.dp, .ref o.a, rfl, dget_at (h1 _ _ hw.prs) hv, o.a, _, dx, _, _, rfl, h1 _ _ ha, T.cl_Process, T.n_Process_living, rfl, _, rfl, ?_⟩
      exact k _ h1
    | halt_ p q why =>
      refine ⟨_, rfl, cl, _, _, _, rfl, rfl, SqL.of (h0 _ _ hcl), atI_nat (j := 0) rfl, ?_⟩
      refine ⟨_, rfl, (by show 9 ≤ sizeLine; decide), fun t1 ht1 => ?_⟩
      have h1 := fun b u (e : H b = some u) => keep_new (x := HO.tup [V.int 1, V.int 2, V.int 3, V.int 4, V.int 5, V.int 6, V.int 7, V.int 8, V.int 9]) ht1 (h0 b u e)
      refine ⟨t1, _, rfl, .inr (SqT.of upd_same), rfl, rfl, _, rfl, ?_⟩
      refine iteT ?_
      have there : Ha02.isThere s p = true := by simp [lp] at hpre; simp [hpre]
      obtain ⟨o, ho, po, hv⟩ := hw.get (M.there_iff.mp there)
      obtain ⟨dx, ha⟩ := po.ins
      refine ⟨_, rfl, d.W, _, d.dW, _, _, rfl, h1 _ _ hw.ins, T.cl_World, T.n_World_processes, rfl, _, rfl, cl, _, _, _, rfl, rfl, SqL.of (h1 _ _ hcl), atI_nat (j := 1) rfl, d.dp, .ref o.a, rfl, dget_at (h1 _ _ hw.prs) hv, o.a, _, dx, _, _, rfl, h1 _ _ ha, T.cl_Process, T.n_Process_living, rfl, _, rfl, ?_⟩
      exact k _ h1
    | trap p y =>
      refine ⟨_, rfl, cl, _, _, _, rfl, rfl, SqL.of (h0 _ _ hcl), atI_nat (j := 0) rfl, ?_⟩
      refine ⟨_, rfl, (by show 9 ≤ sizeLine; decide), fun t1 ht1 => ?_⟩
      have h1 := fun b u (e : H b = some u) => keep_new (x := HO.tup [V.int 1, V.int 2, V.int 3, V.int 4, V.int 5, V.int 6, V.int 7, V.int 8, V.int 9]) ht1 (h0 b u e)
      refine ⟨t1, _, rfl, .inr (SqT.of upd_same), rfl, rfl, _, rfl, ?_⟩
      refine iteT ?_
      have there : Ha02.isThere s p = true := by simp [lp] at hpre; simp [hpre]
      obtain ⟨o, ho, po, hv⟩ := hw.get (M.there_iff.mp there)
      obtain ⟨dx, ha⟩ := po.ins
      refine ⟨_, rfl, d.W, _, d.dW, _, _, rfl, h1 _ _ hw.ins, T.cl_World, T.n_World_processes, rfl, _, rfl, cl, _, _, _, rfl, rfl, SqL.of (h1 _ _ hcl), atI_nat (j := 1) rfl, d.dp, .ref o.a, rfl, dget_at (h1 _ _ hw.prs) hv, o.a, _, dx, _, _, rfl, h1 _ _ ha, T.cl_Process, T.n_Process_living, rfl, _, rfl, ?_⟩
      exact k _ h1
    | say p q n =>
      refine ⟨_, rfl, cl, _, _, _, rfl, rfl, SqL.of (h0 _ _ hcl), atI_nat (j := 0) rfl, ?_⟩
      refine ⟨_, rfl, (by show 9 ≤ sizeLine; decide), fun t1 ht1 => ?_⟩
      have h1 := fun b u (e : H b = some u) => keep_new (x := HO.tup [V.int 1, V.int 2, V.int 3, V.int 4, V.int 5, V.int 6, V.int 7, V.int 8, V.int 9]) ht1 (h0 b u e)
      refine ⟨t1, _, rfl, .inr (SqT.of upd_same), rfl, rfl, _, rfl, ?_⟩
      refine iteT ?_
      have there : Ha02.isThere s p = true := by simp [lp] at hpre; simp [hpre]
      obtain ⟨o, ho, po, hv⟩ := hw.get (M.there_iff.mp there)
      obtain ⟨dx, ha⟩ := po.ins
      refine ⟨_, rfl, d.W, _, d.dW, _, _, rfl, h1 _ _ hw.ins, T.cl_World, T.n_World_processes, rfl, _, rfl, cl, _, _, _, rfl, rfl, SqL.of (h1 _ _ hcl), atI_nat (j := 1) rfl, d.dp, .ref o.a, rfl, dget_at (h1 _ _ hw.prs) hv, o.a, _, dx, _, _, rfl, h1 _ _ ha, T.cl_Process, T.n_Process_living, rfl, _, rfl, ?_⟩
      exact k _ h1
    | deliver p q =>
      refine ⟨_, rfl, cl, _, _, _, rfl, rfl, SqL.of (h0 _ _ hcl), atI_nat (j := 0) rfl, ?_⟩
      refine ⟨_, rfl, (by show 9 ≤ sizeLine; decide), fun t1 ht1 => ?_⟩
      have h1 := fun b u (e : H b = some u) => keep_new (x := HO.tup [V.int 1, V.int 2, V.int 3, V.int 4, V.int 5, V.int 6, V.int 7, V.int 8, V.int 9]) ht1 (h0 b u e)
      refine ⟨t1, _, rfl, .inr (SqT.of upd_same), rfl, rfl, _, rfl, ?_⟩
      refine iteF ?_
      exact k _ h1
    | turns n =>
      refine ⟨_, rfl, cl, _, _, _, rfl, rfl, SqL.of (h0 _ _ hcl), atI_nat (j := 0) rfl, ?_⟩
      refine ⟨_, rfl, (by show 9 ≤ sizeLine; decide), fun t1 ht1 => ?_⟩
      have h1 := fun b u (e : H b = some u) => keep_new (x := HO.tup [V.int 1, V.int 2, V.int 3, V.int 4, V.int 5, V.int 6, V.int 7, V.int 8, V.int 9]) ht1 (h0 b u e)
      refine ⟨t1, _, rfl, .inr (SqT.of upd_same), rfl, rfl, _, rfl, ?_⟩
      refine iteF ?_
      exact k _ h1
    | box p =>
      refine ⟨_, rfl, cl, _, _, _, rfl, rfl, SqL.of (h0 _ _ hcl), atI_nat (j := 0) rfl, ?_⟩
      refine ⟨_, rfl, (by show 9 ≤ sizeLine; decide), fun t1 ht1 => ?_⟩
      have h1 := fun b u (e : H b = some u) => keep_new (x := HO.tup [V.int 1, V.int 2, V.int 3, V.int 4, V.int 5, V.int 6, V.int 7, V.int 8, V.int 9]) ht1 (h0 b u e)
      refine ⟨t1, _, rfl, .inr (SqT.of upd_same), rfl, rfl, _, rfl, ?_⟩
      refine iteF ?_
      exact k _ h1
    | process p =>
      refine ⟨_, rfl, cl, _, _, _, rfl, rfl, SqL.of (h0 _ _ hcl), atI_nat (j := 0) rfl, ?_⟩
      refine ⟨_, rfl, (by show 9 ≤ sizeLine; decide), fun t1 ht1 => ?_⟩
      have h1 := fun b u (e : H b = some u) => keep_new (x := HO.tup [V.int 1, V.int 2, V.int 3, V.int 4, V.int 5, V.int 6, V.int 7, V.int 8, V.int 9]) ht1 (h0 b u e)
      refine ⟨t1, _, rfl, .inr (SqT.of upd_same), rfl, rfl, _, rfl, ?_⟩
      refine iteF ?_
      exact k _ h1
    | air =>
      refine ⟨_, rfl, cl, _, _, _, rfl, rfl, SqL.of (h0 _ _ hcl), atI_nat (j := 0) rfl, ?_⟩
      refine ⟨_, rfl, (by show 9 ≤ sizeLine; decide), fun t1 ht1 => ?_⟩
      have h1 := fun b u (e : H b = some u) => keep_new (x := HO.tup [V.int 1, V.int 2, V.int 3, V.int 4, V.int 5, V.int 6, V.int 7, V.int 8, V.int 9]) ht1 (h0 b u e)
      refine ⟨t1, _, rfl, .inr (SqT.of upd_same), rfl, rfl, _, rfl, ?_⟩
      refine iteF ?_
      exact k _ h1
theorem ok_lacks_room (T : Txt K mg A) : FnOk P w K mg base CX0 1 A.f_lacks_room A.d_lacks_room ["world", "call"] (spAsk A.C_World A.C_Process (fun s x => lp s x = false) lr) := by
  refine T.F_lacks_room.ok sc_lacks_room (fun vs H Q E h => ?_) (fun cdv A' outer s H vs Q E hr h => ?_)
  · obtain ⟨d, s, x, cl, rfl, _⟩ := h; rfl
  · obtain ⟨d, s, x, cl, rfl, hcl, hw, hpre, k⟩ := h
    have hu := hu_of hr
    have h0 := kept_id (H := H)
    refine ⟨_, (pss_cons (ps_set (i := 2) sc_lacks_room.nd rfl (Or.inl rfl) (pe_ix ix_list (pv 1) pe_int (fun _ _ => rfl)))
      (pss_cons (ps_if (pt_cmpR op_in_seq (pv 2) (pe_tup (pa_cons (pe_gint rfl T.c_CALL_START) (pa_cons (pe_gint rfl T.c_CALL_CHILD) pa_nil))) (by with_unfolding_all rfl)) (pss_one (ps_ret (pe_cmpR op_ge (pe_callB call_lenD (by rfl) T.len PySem.boot_len (pa_cons (pe_fld (pv 0) rfl) pa_nil)) (pe_gint rfl T.c_MOST_PROCESSES) (nomark _)))) pss_nil)
      (pss_cons (ps_if (pt_cmpR op_in_seq (pv 2) (pe_tup (pa_cons (pe_gint rfl T.c_CALL_LINK) (pa_cons (pe_gint rfl T.c_CALL_CUT) (pa_cons (pe_gint rfl T.c_CALL_WATCH) (pa_cons (pe_gint rfl T.c_CALL_STOP) (pa_cons (pe_gint rfl T.c_CALL_SAY) pa_nil)))))) (by with_unfolding_all rfl)) (pss_one (ps_ret (pe_cmpR op_ge (pe_callB call_len_seq (by rfl) T.len PySem.boot_len (pa_cons (pe_fld (pv 0) rfl) pa_nil)) (pe_gint rfl T.c_ENOUGH_SIGNALS) (nomark _)))) pss_nil)
      (pss_cons (ps_if (PW.pt (pw_and (pt_cmpR op_eq (pv 2) (pe_gint rfl T.c_CALL_UNWATCH) (nomark _)) (pw_and1 (pt_cmp (pc_din hu (pe_ix ix_list (pv 1) pe_int (fun _ _ => rfl)) (pe_fld (pe_dget hu (pe_fld (pv 0) rfl) (pe_ix ix_list (pv 1) pe_int (fun _ _ => rfl)) (fun _ _ => rfl)) rfl)))))) (pss_one (ps_ret (pe_cmpR op_ge (pe_callB call_len_seq (by rfl) T.len PySem.boot_len (pa_cons (pe_fld (pv 0) rfl) pa_nil)) (pe_gint rfl T.c_ENOUGH_SIGNALS) (nomark _)))) pss_nil)
      (pss_one (ps_ret pe_bl)))))), ?_⟩
    cases x with
    | start =>
      refine ⟨_, rfl, cl, _, _, _, rfl, rfl, SqL.of (h0 _ _ hcl), atI_nat (j := 0) rfl, ?_⟩
      refine ⟨_, rfl, (by show 2 ≤ sizeLine; decide), fun t1 ht1 => ?_⟩
      have h1 := fun b u (e : H b = some u) => keep_new (x := HO.tup [V.int 0, V.int 1]) ht1 (h0 b u e)
      refine ⟨t1, _, rfl, .inr (SqT.of upd_same), rfl, rfl, _, rfl, ?_⟩
      refine iteT ?_
      refine ⟨_, rfl, d.W, _, d.dW, _, _, rfl, h1 _ _ hw.ins, T.cl_World, T.n_World_processes, rfl, d.dp, _, rfl, h1 _ _ hw.prs, _, _, rfl, rfl, ?_⟩
      rw [procsD_len, hw.len]
      have e : decide ((s.procs.length : Int) ≥ 12) = lr s (.start) := decide_eq_decide.mpr (by omega)
      have := k _ h1
      rw [← e] at this; exact this
    | child p how =>
      refine ⟨_, rfl, cl, _, _, _, rfl, rfl, SqL.of (h0 _ _ hcl), atI_nat (j := 0) rfl, ?_⟩
      refine ⟨_, rfl, (by show 2 ≤ sizeLine; decide), fun t1 ht1 => ?_⟩
      have h1 := fun b u (e : H b = some u) => keep_new (x := HO.tup [V.int 0, V.int 1]) ht1 (h0 b u e)
      refine ⟨t1, _, rfl, .inr (SqT.of upd_same), rfl, rfl, _, rfl, ?_⟩
      refine iteT ?_
      refine ⟨_, rfl, d.W, _, d.dW, _, _, rfl, h1 _ _ hw.ins, T.cl_World, T.n_World_processes, rfl, d.dp, _, rfl, h1 _ _ hw.prs, _, _, rfl, rfl, ?_⟩
      rw [procsD_len, hw.len]
      have e : decide ((s.procs.length : Int) ≥ 12) = lr s (.child p how) := decide_eq_decide.mpr (by omega)
      have := k _ h1
      rw [← e] at this; exact this
    | link p q =>
      refine ⟨_, rfl, cl, _, _, _, rfl, rfl, SqL.of (h0 _ _ hcl), atI_nat (j := 0) rfl, ?_⟩
      refine ⟨_, rfl, (by show 2 ≤ sizeLine; decide), fun t1 ht1 => ?_⟩
      have h1 := fun b u (e : H b = some u) => keep_new (x := HO.tup [V.int 0, V.int 1]) ht1 (h0 b u e)
      refine ⟨t1, _, rfl, .inr (SqT.of upd_same), rfl, rfl, _, rfl, ?_⟩
      refine iteF ?_
      refine ⟨_, rfl, (by show 5 ≤ sizeLine; decide), fun t2 ht2 => ?_⟩
      have h2 := fun b u (e : H b = some u) => keep_new (x := HO.tup [V.int 2, V.int 3, V.int 4, V.int 7, V.int 9]) ht2 (h1 b u e)
      refine ⟨t2, _, rfl, .inr (SqT.of upd_same), rfl, rfl, _, rfl, ?_⟩
      refine iteT ?_
      refine ⟨_, rfl, d.W, _, d.dW, _, _, rfl, h2 _ _ hw.ins, T.cl_World, T.n_World_signals, rfl, d.ls, _, rfl, .inl (SqL.of (h2 _ _ hw.lst)), _, _, rfl, rfl, ?_⟩
      rw [List.length_map, air_len hw]
      have e : decide ((s.air.length : Int) ≥ 200) = lr s (.link p q) := decide_eq_decide.mpr (by omega)
      have := k _ h2
      rw [← e] at this; exact this
    | cut p q =>
      refine ⟨_, rfl, cl, _, _, _, rfl, rfl, SqL.of (h0 _ _ hcl), atI_nat (j := 0) rfl, ?_⟩
      refine ⟨_, rfl, (by show 2 ≤ sizeLine; decide), fun t1 ht1 => ?_⟩
      have h1 := fun b u (e : H b = some u) => keep_new (x := HO.tup [V.int 0, V.int 1]) ht1 (h0 b u e)
      refine ⟨t1, _, rfl, .inr (SqT.of upd_same), rfl, rfl, _, rfl, ?_⟩
      refine iteF ?_
      refine ⟨_, rfl, (by show 5 ≤ sizeLine; decide), fun t2 ht2 => ?_⟩
      have h2 := fun b u (e : H b = some u) => keep_new (x := HO.tup [V.int 2, V.int 3, V.int 4, V.int 7, V.int 9]) ht2 (h1 b u e)
      refine ⟨t2, _, rfl, .inr (SqT.of upd_same), rfl, rfl, _, rfl, ?_⟩
      refine iteT ?_
      refine ⟨_, rfl, d.W, _, d.dW, _, _, rfl, h2 _ _ hw.ins, T.cl_World, T.n_World_signals, rfl, d.ls, _, rfl, .inl (SqL.of (h2 _ _ hw.lst)), _, _, rfl, rfl, ?_⟩
      rw [List.length_map, air_len hw]
      have e : decide ((s.air.length : Int) ≥ 200) = lr s (.cut p q) := decide_eq_decide.mpr (by omega)
      have := k _ h2
      rw [← e] at this; exact this
    | watch p q =>
      refine ⟨_, rfl, cl, _, _, _, rfl, rfl, SqL.of (h0 _ _ hcl), atI_nat (j := 0) rfl, ?_⟩
      refine ⟨_, rfl, (by show 2 ≤ sizeLine; decide), fun t1 ht1 => ?_⟩
      have h1 := fun b u (e : H b = some u) => keep_new (x := HO.tup [V.int 0, V.int 1]) ht1 (h0 b u e)
      refine ⟨t1, _, rfl, .inr (SqT.of upd_same), rfl, rfl, _, rfl, ?_⟩
      refine iteF ?_
      refine ⟨_, rfl, (by show 5 ≤ sizeLine; decide), fun t2 ht2 => ?_⟩
      have h2 := fun b u (e : H b = some u) => keep_new (x := HO.tup [V.int 2, V.int 3, V.int 4, V.int 7, V.int 9]) ht2 (h1 b u e)
      refine ⟨t2, _, rfl, .inr (SqT.of upd_same), rfl, rfl, _, rfl, ?_⟩
      refine iteT ?_
      refine ⟨_, rfl, d.W, _, d.dW, _, _, rfl, h2 _ _ hw.ins, T.cl_World, T.n_World_signals, rfl, d.ls, _, rfl, .inl (SqL.of (h2 _ _ hw.lst)), _, _, rfl, rfl, ?_⟩
      rw [List.length_map, air_len hw]
      have e : decide ((s.air.length : Int) ≥ 200) = lr s (.watch p q) := decide_eq_decide.mpr (by omega)
      have := k _ h2
      rw [← e] at this; exact this
    | unwatch p k_ =>
      refine ⟨_, rfl, cl, _, _, _, rfl, rfl, SqL.of (h0 _ _ hcl), atI_nat (j := 0) rfl, ?_⟩
      refine ⟨_, rfl, (by show 2 ≤ sizeLine; decide), fun t1 ht1 => ?_⟩
      have h1 := fun b u (e : H b = some u) => keep_new (x := HO.tup [V.int 0, V.int 1]) ht1 (h0 b u e)
      refine ⟨t1, _, rfl, .inr (SqT.of upd_same), rfl, rfl, _, rfl, ?_⟩
      refine iteF ?_
      refine ⟨_, rfl, (by show 5 ≤ sizeLine; decide), fun t2 ht2 => ?_⟩
      have h2 := fun b u (e : H b = some u) => keep_new (x := HO.tup [V.int 2, V.int 3, V.int 4, V.int 7, V.int 9]) ht2 (h1 b u e)
      refine ⟨t2, _, rfl, .inr (SqT.of upd_same), rfl, rfl, _, rfl, ?_⟩
      refine iteF ?_
      refine ⟨_, rfl, rfl, _, rfl, ?_⟩
      refine iteT ?_
      have there : Ha02.isThere s p = true := by simp [lp] at hpre; simp [hpre]
      obtain ⟨o, ho, po, hv⟩ := hw.get (M.there_iff.mp there)
      obtain ⟨dx, ha⟩ := po.ins
      refine ⟨_, rfl, cl, _, _, _, rfl, rfl, SqL.of (h2 _ _ hcl), atI_nat (j := 2) rfl, _, rfl, d.W, _, d.dW, _, _, rfl, h2 _ _ hw.ins, T.cl_World, T.n_World_processes, rfl, _, rfl, cl, _, _, _, rfl, rfl, SqL.of (h2 _ _ hcl), atI_nat (j := 1) rfl, d.dp, .ref o.a, rfl, dget_at (h2 _ _ hw.prs) hv, o.a, _, dx, _, _, rfl, h2 _ _ ha, T.cl_Process, T.n_Process_watches, rfl, o.w, _, rfl, DGet.k (k := kn k_) (h2 _ _ po.wat), _, rfl, ?_⟩
      have vf := valV_encP (Ha02.proc s p).watches k_
      cases ev : valV (encP (Ha02.proc s p).watches) (kn k_) with
      | none =>
        rw [ev] at vf
        have ef := Option.map_eq_none_iff.mp vf.symm
        refine ite2 (fun z => absurd z Bool.false_ne_true) (fun _ => ?_)
        have e : lr s (.unwatch p k_) = false := by simp only [lr]; rw [ef]; rfl
        have := k _ h2
        rw [e] at this; exact this
      | some v =>
        rw [ev] at vf
        obtain ⟨y, ef, _⟩ := Option.map_eq_some_iff.mp vf.symm
        refine ite2 (fun _ => ?_) (fun z => absurd rfl z)
        refine ⟨_, rfl, d.W, _, d.dW, _, _, rfl, h2 _ _ hw.ins, T.cl_World, T.n_World_signals, rfl, d.ls, _, rfl, .inl (SqL.of (h2 _ _ hw.lst)), _, _, rfl, rfl, ?_⟩
        rw [List.length_map, air_len hw]
        have e : decide ((s.air.length : Int) ≥ 200) = lr s (.unwatch p k_) := by simp only [lr]; rw [ef]; show _ = (true && _); rw [Bool.true_and]; exact decide_eq_decide.mpr (by omega)
        have := k _ h2
        rw [← e] at this; exact this
    | ends p why =>
      refine ⟨_, rfl, cl, _, _, _, rfl, rfl, SqL.of (h0 _ _ hcl), atI_nat (j := 0) rfl, ?_⟩
      refine ⟨_, rfl, (by show 2 ≤ sizeLine; decide), fun t1 ht1 => ?_⟩
      have h1 := fun b u (e : H b = some u) => keep_new (x := HO.tup [V.int 0, V.int 1]) ht1 (h0 b u e)
      refine ⟨t1, _, rfl, .inr (SqT.of upd_same), rfl, rfl, _, rfl, ?_⟩
      refine iteF ?_
      refine ⟨_, rfl, (by show 5 ≤ sizeLine; decide), fun t2 ht2 => ?_⟩
      have h2 := fun b u (e : H b = some u) => keep_new (x := HO.tup [V.int 2, V.int 3, V.int 4, V.int 7, V.int 9]) ht2 (h1 b u e)
      refine ⟨t2, _, rfl, .inr (SqT.of upd_same), rfl, rfl, _, rfl, ?_⟩
      refine iteF ?_
      refine ⟨_, rfl, rfl, _, rfl, ?_⟩
      refine iteF ?_
      refine ite2 (fun z => absurd z Bool.false_ne_true) (fun _ => ?_)
      exact k _ h2
    | halt_ p q why =>
      refine ⟨_, rfl, cl, _, _, _, rfl, rfl, SqL.of (h0 _ _ hcl), atI_nat (j := 0) rfl, ?_⟩
      refine ⟨_, rfl, (by show 2 ≤ sizeLine; decide), fun t1 ht1 => ?_⟩
      have h1 := fun b u (e : H b = some u) => keep_new (x := HO.tup [V.int 0, V.int 1]) ht1 (h0 b u e)
      refine ⟨t1, _, rfl, .inr (SqT.of upd_same), rfl, rfl, _, rfl, ?_⟩
      refine iteF ?_
      refine ⟨_, rfl, (by show 5 ≤ sizeLine; decide), fun t2 ht2 => ?_⟩
      have h2 := fun b u (e : H b = some u) => keep_new (x := HO.tup [V.int 2, V.int 3, V.int 4, V.int 7, V.int 9]) ht2 (h1 b u e)
      refine ⟨t2, _, rfl, .inr (SqT.of upd_same), rfl, rfl, _, rfl, ?_⟩
      refine iteT ?_
      refine ⟨_, rfl, d.W, _, d.dW, _, _, rfl, h2 _ _ hw.ins, T.cl_World, T.n_World_signals, rfl, d.ls, _, rfl, .inl (SqL.of (h2 _ _ hw.lst)), _, _, rfl, rfl, ?_⟩
      rw [List.length_map, air_len hw]
      have e : decide ((s.air.length : Int) ≥ 200) = lr s (.halt_ p q why) := decide_eq_decide.mpr (by omega)
      have := k _ h2
      rw [← e] at this; exact this
    | trap p y =>
      refine ⟨_, rfl, cl, _, _, _, rfl, rfl, SqL.of (h0 _ _ hcl), atI_nat (j := 0) rfl, ?_⟩
      refine ⟨_, rfl, (by show 2 ≤ sizeLine; decide), fun t1 ht1 => ?_⟩
      have h1 := fun b u (e : H b = some u) => keep_new (x := HO.tup [V.int 0, V.int 1]) ht1 (h0 b u e)
      refine ⟨t1, _, rfl, .inr (SqT.of upd_same), rfl, rfl, _, rfl, ?_⟩
      refine iteF ?_
      refine ⟨_, rfl, (by show 5 ≤ sizeLine; decide), fun t2 ht2 => ?_⟩
      have h2 := fun b u (e : H b = some u) => keep_new (x := HO.tup [V.int 2, V.int 3, V.int 4, V.int 7, V.int 9]) ht2 (h1 b u e)
      refine ⟨t2, _, rfl, .inr (SqT.of upd_same), rfl, rfl, _, rfl, ?_⟩
      refine iteF ?_
      refine ⟨_, rfl, rfl, _, rfl, ?_⟩
      refine iteF ?_
      refine ite2 (fun z => absurd z Bool.false_ne_true) (fun _ => ?_)
      exact k _ h2
    | say p q n =>
      refine ⟨_, rfl, cl, _, _, _, rfl, rfl, SqL.of (h0 _ _ hcl), atI_nat (j := 0) rfl, ?_⟩
      refine ⟨_, rfl, (by show 2 ≤ sizeLine; decide), fun t1 ht1 => ?_⟩
      have h1 := fun b u (e : H b = some u) => keep_new (x := HO.tup [V.int 0, V.int 1]) ht1 (h0 b u e)
      refine ⟨t1, _, rfl, .inr (SqT.of upd_same), rfl, rfl, _, rfl, ?_⟩
      refine iteF ?_
      refine ⟨_, rfl, (by show 5 ≤ sizeLine; decide), fun t2 ht2 => ?_⟩
      have h2 := fun b u (e : H b = some u) => keep_new (x := HO.tup [V.int 2, V.int 3, V.int 4, V.int 7, V.int 9]) ht2 (h1 b u e)
      refine ⟨t2, _, rfl, .inr (SqT.of upd_same), rfl, rfl, _, rfl, ?_⟩
      refine iteT ?_
      refine ⟨_, rfl, d.W, _, d.dW, _, _, rfl, h2 _ _ hw.ins, T.cl_World, T.n_World_signals, rfl, d.ls, _, rfl, .inl (SqL.of (h2 _ _ hw.lst)), _, _, rfl, rfl, ?_⟩
      rw [List.length_map, air_len hw]
      have e : decide ((s.air.length : Int) ≥ 200) = lr s (.say p q n) := decide_eq_decide.mpr (by omega)
      have := k _ h2
      rw [← e] at this; exact this
    | deliver p q =>
      refine ⟨_, rfl, cl, _, _, _, rfl, rfl, SqL.of (h0 _ _ hcl), atI_nat (j := 0) rfl, ?_⟩
      refine ⟨_, rfl, (by show 2 ≤ sizeLine; decide), fun t1 ht1 => ?_⟩
      have h1 := fun b u (e : H b = some u) => keep_new (x := HO.tup [V.int 0, V.int 1]) ht1 (h0 b u e)
      refine ⟨t1, _, rfl, .inr (SqT.of upd_same), rfl, rfl, _, rfl, ?_⟩
      refine iteF ?_
      refine ⟨_, rfl, (by show 5 ≤ sizeLine; decide), fun t2 ht2 => ?_⟩
      have h2 := fun b u (e : H b = some u) => keep_new (x := HO.tup [V.int 2, V.int 3, V.int 4, V.int 7, V.int 9]) ht2 (h1 b u e)
      refine ⟨t2, _, rfl, .inr (SqT.of upd_same), rfl, rfl, _, rfl, ?_⟩
      refine iteF ?_
      refine ⟨_, rfl, rfl, _, rfl, ?_⟩
      refine iteF ?_
      refine ite2 (fun z => absurd z Bool.false_ne_true) (fun _ => ?_)
      exact k _ h2
    | turns n =>
      refine ⟨_, rfl, cl, _, _, _, rfl, rfl, SqL.of (h0 _ _ hcl), atI_nat (j := 0) rfl, ?_⟩
      refine ⟨_, rfl, (by show 2 ≤ sizeLine; decide), fun t1 ht1 => ?_⟩
      have h1 := fun b u (e : H b = some u) => keep_new (x := HO.tup [V.int 0, V.int 1]) ht1 (h0 b u e)
      refine ⟨t1, _, rfl, .inr (SqT.of upd_same), rfl, rfl, _, rfl, ?_⟩
      refine iteF ?_
      refine ⟨_, rfl, (by show 5 ≤ sizeLine; decide), fun t2 ht2 => ?_⟩
      have h2 := fun b u (e : H b = some u) => keep_new (x := HO.tup [V.int 2, V.int 3, V.int 4, V.int 7, V.int 9]) ht2 (h1 b u e)
      refine ⟨t2, _, rfl, .inr (SqT.of upd_same), rfl, rfl, _, rfl, ?_⟩
      refine iteF ?_
      refine ⟨_, rfl, rfl, _, rfl, ?_⟩
      refine iteF ?_
      refine ite2 (fun z => absurd z Bool.false_ne_true) (fun _ => ?_)
      exact k _ h2
    | box p =>
      refine ⟨_, rfl, cl, _, _, _, rfl, rfl, SqL.of (h0 _ _ hcl), atI_nat (j := 0) rfl, ?_⟩
      refine ⟨_, rfl, (by show 2 ≤ sizeLine; decide), fun t1 ht1 => ?_⟩
      have h1 := fun b u (e : H b = some u) => keep_new (x := HO.tup [V.int 0, V.int 1]) ht1 (h0 b u e)
      refine ⟨t1, _, rfl, .inr (SqT.of upd_same), rfl, rfl, _, rfl, ?_⟩
      refine iteF ?_
      refine ⟨_, rfl, (by show 5 ≤ sizeLine; decide), fun t2 ht2 => ?_⟩
      have h2 := fun b u (e : H b = some u) => keep_new (x := HO.tup [V.int 2, V.int 3, V.int 4, V.int 7, V.int 9]) ht2 (h1 b u e)
      refine ⟨t2, _, rfl, .inr (SqT.of upd_same), rfl, rfl, _, rfl, ?_⟩
      refine iteF ?_
      refine ⟨_, rfl, rfl, _, rfl, ?_⟩
      refine iteF ?_
      refine ite2 (fun z => absurd z Bool.false_ne_true) (fun _ => ?_)
      exact k _ h2
    | process p =>
      refine ⟨_, rfl, cl, _, _, _, rfl, rfl, SqL.of (h0 _ _ hcl), atI_nat (j := 0) rfl, ?_⟩
      refine ⟨_, rfl, (by show 2 ≤ sizeLine; decide), fun t1 ht1 => ?_⟩
      have h1 := fun b u (e : H b = some u) => keep_new (x := HO.tup [V.int 0, V.int 1]) ht1 (h0 b u e)
      refine ⟨t1, _, rfl, .inr (SqT.of upd_same), rfl, rfl, _, rfl, ?_⟩
      refine iteF ?_
      refine ⟨_, rfl, (by show 5 ≤ sizeLine; decide), fun t2 ht2 => ?_⟩
      have h2 := fun b u (e : H b = some u) => keep_new (x := HO.tup [V.int 2, V.int 3, V.int 4, V.int 7, V.int 9]) ht2 (h1 b u e)
      refine ⟨t2, _, rfl, .inr (SqT.of upd_same), rfl, rfl, _, rfl, ?_⟩
      refine iteF ?_
      refine ⟨_, rfl, rfl, _, rfl, ?_⟩
      refine iteF ?_
      refine ite2 (fun z => absurd z Bool.false_ne_true) (fun _ => ?_)
      exact k _ h2
    | air =>
      refine ⟨_, rfl, cl, _, _, _, rfl, rfl, SqL.of (h0 _ _ hcl), atI_nat (j := 0) rfl, ?_⟩
      refine ⟨_, rfl, (by show 2 ≤ sizeLine; decide), fun t1 ht1 => ?_⟩
      have h1 := fun b u (e : H b = some u) => keep_new (x := HO.tup [V.int 0, V.int 1]) ht1 (h0 b u e)
      refine ⟨t1, _, rfl, .inr (SqT.of upd_same), rfl, rfl, _, rfl, ?_⟩
      refine iteF ?_
      refine ⟨_, rfl, (by show 5 ≤ sizeLine; decide), fun t2 ht2 => ?_⟩
      have h2 := fun b u (e : H b = some u) => keep_new (x := HO.tup [V.int 2, V.int 3, V.int 4, V.int 7, V.int 9]) ht2 (h1 b u e)
      refine ⟨t2, _, rfl, .inr (SqT.of upd_same), rfl, rfl, _, rfl, ?_⟩
      refine iteF ?_
      refine ⟨_, rfl, rfl, _, rfl, ?_⟩
      refine iteF ?_
      refine ite2 (fun z => absurd z Bool.false_ne_true) (fun _ => ?_)
      exact k _ h2
theorem ok_lacks_signal (T : Txt K mg A) : FnOk P w K mg base CX0 2 A.f_lacks_signal A.d_lacks_signal ["world", "call"] (spAsk A.C_World A.C_Process (fun _ _ => True) lsg) := by
  refine T.F_lacks_signal.ok sc_lacks_signal (fun vs H Q E h => ?_) (fun cdv A' outer s H vs Q E hr h => ?_)
  · obtain ⟨d, s, x, cl, rfl, _⟩ := h; rfl
  · obtain ⟨d, s, x, cl, rfl, hcl, hw, hpre, k⟩ := h
    have hu := hu_of hr
    have h0 := kept_id (H := H)
    refine ⟨_, (pss_one (ps_ret (pe_and (pe_cmpR op_eq (pe_ix ix_list (pv 1) pe_int (fun _ _ => rfl)) (pe_gint rfl T.c_CALL_DELIVER) (nomark _)) (pe_one (pe_cmpR op_isN (pe_meth (pv 0) T.cl_World T.me_World_place_of_first (ok_World_place_of_first T) (hr.mono (by decide)) T.b_World_place_of_first .nil pass0 (pa_cons (pe_ix ix_list (pv 1) pe_int (fun _ _ => rfl)) (pa_cons (pe_ix ix_list (pv 1) pe_int (fun _ _ => rfl)) pa_nil))) pe_non (nomark _)))))), ?_⟩
    cases x with
    | start =>
      refine ⟨_, rfl, cl, _, _, _, rfl, rfl, SqL.of (h0 _ _ hcl), atI_nat (j := 0) rfl, rfl, _, rfl, ?_⟩
      refine iteF ?_
      exact k _ h0
    | child p how =>
      refine ⟨_, rfl, cl, _, _, _, rfl, rfl, SqL.of (h0 _ _ hcl), atI_nat (j := 0) rfl, rfl, _, rfl, ?_⟩
      refine iteF ?_
      exact k _ h0
    | link p q =>
      refine ⟨_, rfl, cl, _, _, _, rfl, rfl, SqL.of (h0 _ _ hcl), atI_nat (j := 0) rfl, rfl, _, rfl, ?_⟩
      refine iteF ?_
      exact k _ h0
    | cut p q =>
      refine ⟨_, rfl, cl, _, _, _, rfl, rfl, SqL.of (h0 _ _ hcl), atI_nat (j := 0) rfl, rfl, _, rfl, ?_⟩
      refine iteF ?_
      exact k _ h0
    | watch p q =>
      refine ⟨_, rfl, cl, _, _, _, rfl, rfl, SqL.of (h0 _ _ hcl), atI_nat (j := 0) rfl, rfl, _, rfl, ?_⟩
      refine iteF ?_
      exact k _ h0
    | unwatch p k_ =>
      refine ⟨_, rfl, cl, _, _, _, rfl, rfl, SqL.of (h0 _ _ hcl), atI_nat (j := 0) rfl, rfl, _, rfl, ?_⟩
      refine iteF ?_
      exact k _ h0
    | ends p why =>
      refine ⟨_, rfl, cl, _, _, _, rfl, rfl, SqL.of (h0 _ _ hcl), atI_nat (j := 0) rfl, rfl, _, rfl, ?_⟩
      refine iteF ?_
      exact k _ h0
    | halt_ p q why =>
      refine ⟨_, rfl, cl, _, _, _, rfl, rfl, SqL.of (h0 _ _ hcl), atI_nat (j := 0) rfl, rfl, _, rfl, ?_⟩
      refine iteF ?_
      exact k _ h0
    | trap p y =>
      refine ⟨_, rfl, cl, _, _, _, rfl, rfl, SqL.of (h0 _ _ hcl), atI_nat (j := 0) rfl, rfl, _, rfl, ?_⟩
      refine iteF ?_
      exact k _ h0
    | say p q n =>
      refine ⟨_, rfl, cl, _, _, _, rfl, rfl, SqL.of (h0 _ _ hcl), atI_nat (j := 0) rfl, rfl, _, rfl, ?_⟩
      refine iteF ?_
      exact k _ h0
    | deliver p q =>
      refine ⟨_, rfl, cl, _, _, _, rfl, rfl, SqL.of (h0 _ _ hcl), atI_nat (j := 0) rfl, rfl, _, rfl, ?_⟩
      refine iteT ?_
      refine ⟨_, rfl, d.W, d.dW, _, rfl, hw.ins, rfl, _, rfl, cl, _, _, _, rfl, rfl, SqL.of (h0 _ _ hcl), atI_nat (j := 1) rfl, _, rfl, cl, _, _, _, rfl, rfl, SqL.of (h0 _ _ hcl), atI_nat (j := 2) rfl, d, s, p, q, rfl, hw, fun H1 hk => ?_⟩
      refine ⟨rfl, ?_⟩
      have e : decide (placeV (Ha02.firstOf s p q) = V.non) = lsg s (.deliver p q) := by
        show _ = (Ha02.firstOf s p q).isNone
        cases Ha02.firstOf s p q <;> rfl
      rw [e]; exact k _ hk
    | turns n =>
      refine ⟨_, rfl, cl, _, _, _, rfl, rfl, SqL.of (h0 _ _ hcl), atI_nat (j := 0) rfl, rfl, _, rfl, ?_⟩
      refine iteF ?_
      exact k _ h0
    | box p =>
      refine ⟨_, rfl, cl, _, _, _, rfl, rfl, SqL.of (h0 _ _ hcl), atI_nat (j := 0) rfl, rfl, _, rfl, ?_⟩
      refine iteF ?_
      exact k _ h0
    | process p =>
      refine ⟨_, rfl, cl, _, _, _, rfl, rfl, SqL.of (h0 _ _ hcl), atI_nat (j := 0) rfl, rfl, _, rfl, ?_⟩
      refine iteF ?_
      exact k _ h0
    | air =>
      refine ⟨_, rfl, cl, _, _, _, rfl, rfl, SqL.of (h0 _ _ hcl), atI_nat (j := 0) rfl, rfl, _, rfl, ?_⟩
      refine iteF ?_
      exact k _ h0
theorem ok_refusal_of (T : Txt K mg A) : FnOk P w K mg base CX0 3 A.f_refusal_of A.d_refusal_of ["world", "call"] (spRef A.C_World A.C_Process) := by
  refine T.F_refusal_of.ok sc_refusal_of (fun vs H Q E h => ?_) (fun cdv A' outer s H vs Q E hr h => ?_)
  · obtain ⟨d, s, x, cl, rfl, _⟩ := h; rfl
  · obtain ⟨d, s, x, cl, rfl, hcl, hw, k⟩ := h
    have er := refusal_is s x
    refine ⟨_, (pss_cons (ps_if (PW.pt (pw_or (pt_val (pe_call (ok_lacks_process T) (hr.mono (by decide)) rfl T.m_lacks_process T.F_lacks_process.kp T.b_lacks_process .nil pass0 (pa_cons (pv 0) (pa_cons (pv 1) pa_nil)))) (pw_or1 (pt_val (pe_call (ok_is_misfit T) (hr.mono (by decide)) rfl T.m_is_misfit T.F_is_misfit.kp T.b_is_misfit .nil pass0 (pa_cons (pv 1) pa_nil)))))) (pss_one (ps_ret (pe_gint rfl T.c_REFUSED_MISFIT))) pss_nil)
      (pss_cons (ps_if (pt_val (pe_call (ok_is_by_ended T) (hr.mono (by decide)) rfl T.m_is_by_ended T.F_is_by_ended.kp T.b_is_by_ended .nil pass0 (pa_cons (pv 0) (pa_cons (pv 1) pa_nil)))) (pss_one (ps_ret (pe_gint rfl T.c_REFUSED_ENDED))) pss_nil)
      (pss_cons (ps_if (pt_val (pe_call (ok_lacks_room T) (hr.mono (by decide)) rfl T.m_lacks_room T.F_lacks_room.kp T.b_lacks_room .nil pass0 (pa_cons (pv 0) (pa_cons (pv 1) pa_nil)))) (pss_one (ps_ret (pe_gint rfl T.c_REFUSED_FULL))) pss_nil)
      (pss_cons (ps_if (pt_val (pe_call (ok_lacks_signal T) (hr.mono (by decide)) rfl T.m_lacks_signal T.F_lacks_signal.kp T.b_lacks_signal .nil pass0 (pa_cons (pv 0) (pa_cons (pv 1) pa_nil)))) (pss_one (ps_ret (pe_gint rfl T.c_REFUSED_NONE))) pss_nil)
      (pss_one (ps_ret (pe_gint rfl T.c_NOT_REFUSED))))))), ?_⟩
    refine ⟨_, rfl, _, rfl, d, s, x, cl, rfl, hcl, hw, trivial, fun H1 h1 => ?_⟩
    refine ⟨_, rfl, ?_⟩
    cases e1 : lp s x with
    | true =>
      rw [e1] at er
      refine iteT ?_
      refine iteT ?_
      have := k _ h1
      rw [er, if_pos (.inl rfl)] at this
      exact this
    | false =>
      refine iteF ?_
      refine ⟨_, rfl, x, cl, rfl, h1 _ _ hcl, fun H2 h2 => ?_⟩
      have h12 : ∀ b u, H b = some u → H2 b = some u := fun b u e => h2 b u (h1 b u e)
      refine ⟨_, rfl, ?_⟩
      cases e2 : mf x with
      | true =>
        rw [e2] at er
        refine iteT ?_
        have := k _ h12
        rw [er, if_pos (.inr rfl)] at this
        exact this
      | false =>
        rw [e1, e2, if_neg (by simp)] at er
        refine iteF ?_
        refine ⟨_, rfl, _, rfl, d, s, x, cl, rfl, h12 _ _ hcl, hw.kept h12, e1, fun H3 h3 => ?_⟩
        have h13 : ∀ b u, H b = some u → H3 b = some u := fun b u e => h3 b u (h12 b u e)
        refine ⟨_, rfl, ?_⟩
        cases e3 : be s x with
        | true =>
          refine iteT ?_
          have := k _ h13
          rw [er, e3, if_pos rfl] at this
          exact this
        | false =>
          rw [e3, if_neg Bool.false_ne_true] at er
          refine iteF ?_
          refine ⟨_, rfl, _, rfl, d, s, x, cl, rfl, h13 _ _ hcl, hw.kept h13, e1, fun H4 h4 => ?_⟩
          have h14 : ∀ b u, H b = some u → H4 b = some u := fun b u e => h4 b u (h13 b u e)
          refine ⟨_, rfl, ?_⟩
          cases e4 : lr s x with
          | true =>
            refine iteT ?_
            have := k _ h14
            rw [er, e4, if_pos rfl] at this
            exact this
          | false =>
            rw [e4, if_neg Bool.false_ne_true] at er
            refine iteF ?_
            refine ⟨_, rfl, _, rfl, d, s, x, cl, rfl, h14 _ _ hcl, hw.kept h14, trivial, fun H5 h5 => ?_⟩
            have h15 : ∀ b u, H b = some u → H5 b = some u := fun b u e => h5 b u (h14 b u e)
            refine ⟨_, rfl, ?_⟩
            have := k _ h15
            cases e5 : lsg s x with
            | true =>
              refine iteT ?_
              rw [er, e5, if_pos rfl] at this
              exact this
            | false =>
              refine iteF ?_
              rw [er, e5, if_neg Bool.false_ne_true] at this
              exact this
theorem ok_carry_out (T : Txt K mg A) : FnOk P w K mg base CX0 9 A.f_carry_out A.d_carry_out ["world", "call"] (spCarry A.C_World A.C_Process) := by
  refine T.F_carry_out.ok sc_carry_out (fun vs H Q E h => ?_) (fun cdv A' outer s H vs Q E hr h => ?_)
  · obtain ⟨d, s, x, cl, rfl, _⟩ := h; rfl
  · obtain ⟨d, s, x, cl, rfl, hcl, hpre, k⟩ := h
    have h0 := kept_id (H := H)
    refine ⟨_, (pss_cons (ps_set (i := 2) sc_carry_out.nd rfl (Or.inl rfl) (pe_ix ix_list (pv 1) pe_int (fun _ _ => rfl)))
      (pss_cons (ps_if (pt_cmpR op_eq (pv 2) (pe_gint rfl T.c_CALL_START) (nomark _)) (pss_one (ps_ret (pe_call (ok_start T) (hr.mono (by decide)) rfl T.m_start T.F_start.kp T.b_start .nil pass0 (pa_cons (pv 0) pa_nil)))) pss_nil)
      (pss_cons (ps_if (pt_cmpR op_eq (pv 2) (pe_gint rfl T.c_CALL_CHILD) (nomark _)) (pss_one (ps_ret (pe_call (ok_child T) (hr.mono (by decide)) rfl T.m_child T.F_child.kp T.b_child .nil pass0 (pa_cons (pv 0) (pa_cons (pe_ix ix_list (pv 1) pe_int (fun _ _ => rfl)) (pa_cons (pe_ix ix_list (pv 1) pe_int (fun _ _ => rfl)) pa_nil)))))) pss_nil)
      (pss_cons (ps_if (pt_cmpR op_eq (pv 2) (pe_gint rfl T.c_CALL_LINK) (nomark _)) (pss_one (ps_ret (pe_call (ok_link T) (hr.mono (by decide)) rfl T.m_link T.F_link.kp T.b_link .nil pass0 (pa_cons (pv 0) (pa_cons (pe_ix ix_list (pv 1) pe_int (fun _ _ => rfl)) (pa_cons (pe_ix ix_list (pv 1) pe_int (fun _ _ => rfl)) pa_nil)))))) pss_nil)
      (pss_cons (ps_if (pt_cmpR op_eq (pv 2) (pe_gint rfl T.c_CALL_CUT) (nomark _)) (pss_one (ps_ret (pe_call (ok_cut T) (hr.mono (by decide)) rfl T.m_cut T.F_cut.kp T.b_cut .nil pass0 (pa_cons (pv 0) (pa_cons (pe_ix ix_list (pv 1) pe_int (fun _ _ => rfl)) (pa_cons (pe_ix ix_list (pv 1) pe_int (fun _ _ => rfl)) pa_nil)))))) pss_nil)
      (pss_cons (ps_if (pt_cmpR op_eq (pv 2) (pe_gint rfl T.c_CALL_WATCH) (nomark _)) (pss_one (ps_ret (pe_call (ok_watch T) (hr.mono (by decide)) rfl T.m_watch T.F_watch.kp T.b_watch .nil pass0 (pa_cons (pv 0) (pa_cons (pe_ix ix_list (pv 1) pe_int (fun _ _ => rfl)) (pa_cons (pe_ix ix_list (pv 1) pe_int (fun _ _ => rfl)) pa_nil)))))) pss_nil)
      (pss_cons (ps_if (pt_cmpR op_eq (pv 2) (pe_gint rfl T.c_CALL_UNWATCH) (nomark _)) (pss_one (ps_ret (pe_call (ok_unwatch T) (hr.mono (by decide)) rfl T.m_unwatch T.F_unwatch.kp T.b_unwatch .nil pass0 (pa_cons (pv 0) (pa_cons (pe_ix ix_list (pv 1) pe_int (fun _ _ => rfl)) (pa_cons (pe_ix ix_list (pv 1) pe_int (fun _ _ => rfl)) pa_nil)))))) pss_nil)
      (pss_cons (ps_if (pt_cmpR op_eq (pv 2) (pe_gint rfl T.c_CALL_ENDS) (nomark _)) (pss_one (ps_ret (pe_call (ok_ends T) (hr.mono (by decide)) rfl T.m_ends T.F_ends.kp T.b_ends .nil pass0 (pa_cons (pv 0) (pa_cons (pe_ix ix_list (pv 1) pe_int (fun _ _ => rfl)) (pa_cons (pe_ix ix_list (pv 1) pe_int (fun _ _ => rfl)) pa_nil)))))) pss_nil)
      (pss_cons (ps_if (pt_cmpR op_eq (pv 2) (pe_gint rfl T.c_CALL_STOP) (nomark _)) (pss_one (ps_ret (pe_call (ok_stop T) (hr.mono (by decide)) rfl T.m_stop T.F_stop.kp T.b_stop .nil pass0 (pa_cons (pv 0) (pa_cons (pe_ix ix_list (pv 1) pe_int (fun _ _ => rfl)) (pa_cons (pe_ix ix_list (pv 1) pe_int (fun _ _ => rfl)) (pa_cons (pe_ix ix_list (pv 1) pe_int (fun _ _ => rfl)) pa_nil))))))) pss_nil)
      (pss_cons (ps_if (pt_cmpR op_eq (pv 2) (pe_gint rfl T.c_CALL_TRAP) (nomark _)) (pss_one (ps_ret (pe_call (ok_trap T) (hr.mono (by decide)) rfl T.m_trap T.F_trap.kp T.b_trap .nil pass0 (pa_cons (pv 0) (pa_cons (pe_ix ix_list (pv 1) pe_int (fun _ _ => rfl)) (pa_cons (pe_ix ix_list (pv 1) pe_int (fun _ _ => rfl)) pa_nil)))))) pss_nil)
      (pss_cons (ps_if (pt_cmpR op_eq (pv 2) (pe_gint rfl T.c_CALL_SAY) (nomark _)) (pss_one (ps_ret (pe_call (ok_say T) (hr.mono (by decide)) rfl T.m_say T.F_say.kp T.b_say .nil pass0 (pa_cons (pv 0) (pa_cons (pe_ix ix_list (pv 1) pe_int (fun _ _ => rfl)) (pa_cons (pe_ix ix_list (pv 1) pe_int (fun _ _ => rfl)) (pa_cons (pe_ix ix_list (pv 1) pe_int (fun _ _ => rfl)) pa_nil))))))) pss_nil)
      (pss_cons (ps_if (pt_cmpR op_eq (pv 2) (pe_gint rfl T.c_CALL_DELIVER) (nomark _)) (pss_one (ps_ret (pe_call (ok_deliver T) (hr.mono (by decide)) rfl T.m_deliver T.F_deliver.kp T.b_deliver .nil pass0 (pa_cons (pv 0) (pa_cons (pe_ix ix_list (pv 1) pe_int (fun _ _ => rfl)) (pa_cons (pe_ix ix_list (pv 1) pe_int (fun _ _ => rfl)) pa_nil)))))) pss_nil)
      (pss_cons (ps_if (pt_cmpR op_eq (pv 2) (pe_gint rfl T.c_CALL_TURNS) (nomark _)) (pss_one (ps_ret (pe_call (ok_turns T) (hr.mono (by decide)) rfl T.m_turns T.F_turns.kp T.b_turns .nil pass0 (pa_cons (pv 0) (pa_cons (pe_ix ix_list (pv 1) pe_int (fun _ _ => rfl)) pa_nil))))) pss_nil)
      (pss_cons (ps_if (pt_cmpR op_eq (pv 2) (pe_gint rfl T.c_CALL_BOX) (nomark _)) (pss_one (ps_ret (pe_call (ok_box T) (hr.mono (by decide)) rfl T.m_box T.F_box.kp T.b_box .nil pass0 (pa_cons (pv 0) (pa_cons (pe_ix ix_list (pv 1) pe_int (fun _ _ => rfl)) pa_nil))))) pss_nil)
      (pss_cons (ps_if (pt_cmpR op_eq (pv 2) (pe_gint rfl T.c_CALL_PROCESS) (nomark _)) (pss_one (ps_ret (pe_call (ok_process T) (hr.mono (by decide)) rfl T.m_process T.F_process.kp T.b_process .nil pass0 (pa_cons (pv 0) (pa_cons (pe_ix ix_list (pv 1) pe_int (fun _ _ => rfl)) pa_nil))))) pss_nil)
      (pss_one (ps_ret (pe_call (ok_air T) (hr.mono (by decide)) rfl T.m_air T.F_air.kp T.b_air .nil pass0 (pa_cons (pv 0) pa_nil))))))))))))))))))), ?_⟩
    cases x with
    | start =>
      refine ⟨_, rfl, cl, _, _, _, rfl, rfl, SqL.of (h0 _ _ hcl), atI_nat (j := 0) rfl, ?_⟩
      refine ⟨_, rfl, rfl, _, rfl, ?_⟩
      refine iteT ?_
      exact ⟨_, rfl, d, s, rfl, hpre, k⟩
    | child p how =>
      refine ⟨_, rfl, cl, _, _, _, rfl, rfl, SqL.of (h0 _ _ hcl), atI_nat (j := 0) rfl, ?_⟩
      refine ⟨_, rfl, rfl, _, rfl, ?_⟩
      refine iteF ?_
      refine ⟨_, rfl, rfl, _, rfl, ?_⟩
      refine iteT ?_
      exact ⟨_, rfl, _, rfl, cl, _, _, _, rfl, rfl, SqL.of (h0 _ _ hcl), atI_nat (j := 1) rfl, _, rfl, cl, _, _, _, rfl, rfl, SqL.of (h0 _ _ hcl), atI_nat (j := 2) rfl, d, s, p, how, rfl, hpre, k⟩
    | link p q =>
      refine ⟨_, rfl, cl, _, _, _, rfl, rfl, SqL.of (h0 _ _ hcl), atI_nat (j := 0) rfl, ?_⟩
      refine ⟨_, rfl, rfl, _, rfl, ?_⟩
      refine iteF ?_
      refine ⟨_, rfl, rfl, _, rfl, ?_⟩
      refine iteF ?_
      refine ⟨_, rfl, rfl, _, rfl, ?_⟩
      refine iteT ?_
      exact ⟨_, rfl, _, rfl, cl, _, _, _, rfl, rfl, SqL.of (h0 _ _ hcl), atI_nat (j := 1) rfl, _, rfl, cl, _, _, _, rfl, rfl, SqL.of (h0 _ _ hcl), atI_nat (j := 2) rfl, d, s, p, q, rfl, hpre, k⟩
    | cut p q =>
      refine ⟨_, rfl, cl, _, _, _, rfl, rfl, SqL.of (h0 _ _ hcl), atI_nat (j := 0) rfl, ?_⟩
      refine ⟨_, rfl, rfl, _, rfl, ?_⟩
      refine iteF ?_
      refine ⟨_, rfl, rfl, _, rfl, ?_⟩
      refine iteF ?_
      refine ⟨_, rfl, rfl, _, rfl, ?_⟩
      refine iteF ?_
      refine ⟨_, rfl, rfl, _, rfl, ?_⟩
      refine iteT ?_
      exact ⟨_, rfl, _, rfl, cl, _, _, _, rfl, rfl, SqL.of (h0 _ _ hcl), atI_nat (j := 1) rfl, _, rfl, cl, _, _, _, rfl, rfl, SqL.of (h0 _ _ hcl), atI_nat (j := 2) rfl, d, s, p, q, rfl, hpre, k⟩
    | watch p q =>
      refine ⟨_, rfl, cl, _, _, _, rfl, rfl, SqL.of (h0 _ _ hcl), atI_nat (j := 0) rfl, ?_⟩
      refine ⟨_, rfl, rfl, _, rfl, ?_⟩
      refine iteF ?_
      refine ⟨_, rfl, rfl, _, rfl, ?_⟩
      refine iteF ?_
      refine ⟨_, rfl, rfl, _, rfl, ?_⟩
      refine iteF ?_
      refine ⟨_, rfl, rfl, _, rfl, ?_⟩
      refine iteF ?_
      refine ⟨_, rfl, rfl, _, rfl, ?_⟩
      refine iteT ?_
      exact ⟨_, rfl, _, rfl, cl, _, _, _, rfl, rfl, SqL.of (h0 _ _ hcl), atI_nat (j := 1) rfl, _, rfl, cl, _, _, _, rfl, rfl, SqL.of (h0 _ _ hcl), atI_nat (j := 2) rfl, d, s, p, q, rfl, hpre, k⟩
    | unwatch p k_ =>
      refine ⟨_, rfl, cl, _, _, _, rfl, rfl, SqL.of (h0 _ _ hcl), atI_nat (j := 0) rfl, ?_⟩
      refine ⟨_, rfl, rfl, _, rfl, ?_⟩
      refine iteF ?_
      refine ⟨_, rfl, rfl, _, rfl, ?_⟩
      refine iteF ?_
      refine ⟨_, rfl, rfl, _, rfl, ?_⟩
      refine iteF ?_
      refine ⟨_, rfl, rfl, _, rfl, ?_⟩
      refine iteF ?_
      refine ⟨_, rfl, rfl, _, rfl, ?_⟩
      refine iteF ?_
      refine ⟨_, rfl, rfl, _, rfl, ?_⟩
      refine iteT ?_
      exact ⟨_, rfl, _, rfl, cl, _, _, _, rfl, rfl, SqL.of (h0 _ _ hcl), atI_nat (j := 1) rfl, _, rfl, cl, _, _, _, rfl, rfl, SqL.of (h0 _ _ hcl), atI_nat (j := 2) rfl, d, s, p, k_, rfl, hpre, k⟩
    | ends p why =>
      refine ⟨_, rfl, cl, _, _, _, rfl, rfl, SqL.of (h0 _ _ hcl), atI_nat (j := 0) rfl, ?_⟩
      refine ⟨_, rfl, rfl, _, rfl, ?_⟩
      refine iteF ?_
      refine ⟨_, rfl, rfl, _, rfl, ?_⟩
      refine iteF ?_
      refine ⟨_, rfl, rfl, _, rfl, ?_⟩
      refine iteF ?_
      refine ⟨_, rfl, rfl, _, rfl, ?_⟩
      refine iteF ?_
      refine ⟨_, rfl, rfl, _, rfl, ?_⟩
      refine iteF ?_
      refine ⟨_, rfl, rfl, _, rfl, ?_⟩
      refine iteF ?_
      refine ⟨_, rfl, rfl, _, rfl, ?_⟩
      refine iteT ?_
      exact ⟨_, rfl, _, rfl, cl, _, _, _, rfl, rfl, SqL.of (h0 _ _ hcl), atI_nat (j := 1) rfl, _, rfl, cl, _, _, _, rfl, rfl, SqL.of (h0 _ _ hcl), atI_nat (j := 2) rfl, d, s, p, why, rfl, hpre, k⟩
    | halt_ p q why =>
      refine ⟨_, rfl, cl, _, _, _, rfl, rfl, SqL.of (h0 _ _ hcl), atI_nat (j := 0) rfl, ?_⟩
      refine ⟨_, rfl, rfl, _, rfl, ?_⟩
      refine iteF ?_
      refine ⟨_, rfl, rfl, _, rfl, ?_⟩
      refine iteF ?_
      refine ⟨_, rfl, rfl, _, rfl, ?_⟩
      refine iteF ?_
      refine ⟨_, rfl, rfl, _, rfl, ?_⟩
      refine iteF ?_
      refine ⟨_, rfl, rfl, _, rfl, ?_⟩
      refine iteF ?_
      refine ⟨_, rfl, rfl, _, rfl, ?_⟩
      refine iteF ?_
      refine ⟨_, rfl, rfl, _, rfl, ?_⟩
      refine iteF ?_
      refine ⟨_, rfl, rfl, _, rfl, ?_⟩
      refine iteT ?_
      exact ⟨_, rfl, _, rfl, cl, _, _, _, rfl, rfl, SqL.of (h0 _ _ hcl), atI_nat (j := 1) rfl, _, rfl, cl, _, _, _, rfl, rfl, SqL.of (h0 _ _ hcl), atI_nat (j := 2) rfl, _, rfl, cl, _, _, _, rfl, rfl, SqL.of (h0 _ _ hcl), atI_nat (j := 3) rfl, d, s, p, q, why, rfl, hpre, k⟩
    | trap p y =>
      refine ⟨_, rfl, cl, _, _, _, rfl, rfl, SqL.of (h0 _ _ hcl), atI_nat (j := 0) rfl, ?_⟩
      refine ⟨_, rfl, rfl, _, rfl, ?_⟩
      refine iteF ?_
      refine ⟨_, rfl, rfl, _, rfl, ?_⟩
      refine iteF ?_
      refine ⟨_, rfl, rfl, _, rfl, ?_⟩
      refine iteF ?_
      refine ⟨_, rfl, rfl, _, rfl, ?_⟩
      refine iteF ?_
      refine ⟨_, rfl, rfl, _, rfl, ?_⟩
      refine iteF ?_
      refine ⟨_, rfl, rfl, _, rfl, ?_⟩
      refine iteF ?_
      refine ⟨_, rfl, rfl, _, rfl, ?_⟩
      refine iteF ?_
      refine ⟨_, rfl, rfl, _, rfl, ?_⟩
      refine iteF ?_
      refine ⟨_, rfl, rfl, _, rfl, ?_⟩
      refine iteT ?_
      exact ⟨_, rfl, _, rfl, cl, _, _, _, rfl, rfl, SqL.of (h0 _ _ hcl), atI_nat (j := 1) rfl, _, rfl, cl, _, _, _, rfl, rfl, SqL.of (h0 _ _ hcl), atI_nat (j := 2) rfl, d, s, p, y, rfl, hpre, k⟩
    | say p q n =>
      refine ⟨_, rfl, cl, _, _, _, rfl, rfl, SqL.of (h0 _ _ hcl), atI_nat (j := 0) rfl, ?_⟩
      refine ⟨_, rfl, rfl, _, rfl, ?_⟩
      refine iteF ?_
      refine ⟨_, rfl, rfl, _, rfl, ?_⟩
      refine iteF ?_
      refine ⟨_, rfl, rfl, _, rfl, ?_⟩
      refine iteF ?_
      refine ⟨_, rfl, rfl, _, rfl, ?_⟩
      refine iteF ?_
      refine ⟨_, rfl, rfl, _, rfl, ?_⟩
      refine iteF ?_
      refine ⟨_, rfl, rfl, _, rfl, ?_⟩
      refine iteF ?_
      refine ⟨_, rfl, rfl, _, rfl, ?_⟩
      refine iteF ?_
      refine ⟨_, rfl, rfl, _, rfl, ?_⟩
      refine iteF ?_
      refine ⟨_, rfl, rfl, _, rfl, ?_⟩
      refine iteF ?_
      refine ⟨_, rfl, rfl, _, rfl, ?_⟩
      refine iteT ?_
      exact ⟨_, rfl, _, rfl, cl, _, _, _, rfl, rfl, SqL.of (h0 _ _ hcl), atI_nat (j := 1) rfl, _, rfl, cl, _, _, _, rfl, rfl, SqL.of (h0 _ _ hcl), atI_nat (j := 2) rfl, _, rfl, cl, _, _, _, rfl, rfl, SqL.of (h0 _ _ hcl), atI_nat (j := 3) rfl, d, s, p, q, n, rfl, hpre, k⟩
    | deliver p q =>
      refine ⟨_, rfl, cl, _, _, _, rfl, rfl, SqL.of (h0 _ _ hcl), atI_nat (j := 0) rfl, ?_⟩
      refine ⟨_, rfl, rfl, _, rfl, ?_⟩
      refine iteF ?_
      refine ⟨_, rfl, rfl, _, rfl, ?_⟩
      refine iteF ?_
      refine ⟨_, rfl, rfl, _, rfl, ?_⟩
      refine iteF ?_
      refine ⟨_, rfl, rfl, _, rfl, ?_⟩
      refine iteF ?_
      refine ⟨_, rfl, rfl, _, rfl, ?_⟩
      refine iteF ?_
      refine ⟨_, rfl, rfl, _, rfl, ?_⟩
      refine iteF ?_
      refine ⟨_, rfl, rfl, _, rfl, ?_⟩
      refine iteF ?_
      refine ⟨_, rfl, rfl, _, rfl, ?_⟩
      refine iteF ?_
      refine ⟨_, rfl, rfl, _, rfl, ?_⟩
      refine iteF ?_
      refine ⟨_, rfl, rfl, _, rfl, ?_⟩
      refine iteF ?_
      refine ⟨_, rfl, rfl, _, rfl, ?_⟩
      refine iteT ?_
      exact ⟨_, rfl, _, rfl, cl, _, _, _, rfl, rfl, SqL.of (h0 _ _ hcl), atI_nat (j := 1) rfl, _, rfl, cl, _, _, _, rfl, rfl, SqL.of (h0 _ _ hcl), atI_nat (j := 2) rfl, d, s, p, q, rfl, hpre, k⟩
    | turns n =>
      refine ⟨_, rfl, cl, _, _, _, rfl, rfl, SqL.of (h0 _ _ hcl), atI_nat (j := 0) rfl, ?_⟩
      refine ⟨_, rfl, rfl, _, rfl, ?_⟩
      refine iteF ?_
      refine ⟨_, rfl, rfl, _, rfl, ?_⟩
      refine iteF ?_
      refine ⟨_, rfl, rfl, _, rfl, ?_⟩
      refine iteF ?_
      refine ⟨_, rfl, rfl, _, rfl, ?_⟩
      refine iteF ?_
      refine ⟨_, rfl, rfl, _, rfl, ?_⟩
      refine iteF ?_
      refine ⟨_, rfl, rfl, _, rfl, ?_⟩
      refine iteF ?_
      refine ⟨_, rfl, rfl, _, rfl, ?_⟩
      refine iteF ?_
      refine ⟨_, rfl, rfl, _, rfl, ?_⟩
      refine iteF ?_
      refine ⟨_, rfl, rfl, _, rfl, ?_⟩
      refine iteF ?_
      refine ⟨_, rfl, rfl, _, rfl, ?_⟩
      refine iteF ?_
      refine ⟨_, rfl, rfl, _, rfl, ?_⟩
      refine iteF ?_
      refine ⟨_, rfl, rfl, _, rfl, ?_⟩
      refine iteT ?_
      exact ⟨_, rfl, _, rfl, cl, _, _, _, rfl, rfl, SqL.of (h0 _ _ hcl), atI_nat (j := 1) rfl, d, s, n, rfl, hpre, k⟩
    | box p =>
      refine ⟨_, rfl, cl, _, _, _, rfl, rfl, SqL.of (h0 _ _ hcl), atI_nat (j := 0) rfl, ?_⟩
      refine ⟨_, rfl, rfl, _, rfl, ?_⟩
      refine iteF ?_
      refine ⟨_, rfl, rfl, _, rfl, ?_⟩
      refine iteF ?_
      refine ⟨_, rfl, rfl, _, rfl, ?_⟩
      refine iteF ?_
      refine ⟨_, rfl, rfl, _, rfl, ?_⟩
      refine iteF ?_
      refine ⟨_, rfl, rfl, _, rfl, ?_⟩
      refine iteF ?_
      refine ⟨_, rfl, rfl, _, rfl, ?_⟩
      refine iteF ?_
      refine ⟨_, rfl, rfl, _, rfl, ?_⟩
      refine iteF ?_
      refine ⟨_, rfl, rfl, _, rfl, ?_⟩
      refine iteF ?_
      refine ⟨_, rfl, rfl, _, rfl, ?_⟩
      refine iteF ?_
      refine ⟨_, rfl, rfl, _, rfl, ?_⟩
      refine iteF ?_
      refine ⟨_, rfl, rfl, _, rfl, ?_⟩
      refine iteF ?_
      refine ⟨_, rfl, rfl, _, rfl, ?_⟩
      refine iteF ?_
      refine ⟨_, rfl, rfl, _, rfl, ?_⟩
      refine iteT ?_
      exact ⟨_, rfl, _, rfl, cl, _, _, _, rfl, rfl, SqL.of (h0 _ _ hcl), atI_nat (j := 1) rfl, d, s, p, rfl, hpre, k⟩
    | process p =>
      refine ⟨_, rfl, cl, _, _, _, rfl, rfl, SqL.of (h0 _ _ hcl), atI_nat (j := 0) rfl, ?_⟩
      refine ⟨_, rfl, rfl, _, rfl, ?_⟩
      refine iteF ?_
      refine ⟨_, rfl, rfl, _, rfl, ?_⟩
      refine iteF ?_
      refine ⟨_, rfl, rfl, _, rfl, ?_⟩
      refine iteF ?_
      refine ⟨_, rfl, rfl, _, rfl, ?_⟩
      refine iteF ?_
      refine ⟨_, rfl, rfl, _, rfl, ?_⟩
      refine iteF ?_
      refine ⟨_, rfl, rfl, _, rfl, ?_⟩
      refine iteF ?_
      refine ⟨_, rfl, rfl, _, rfl, ?_⟩
      refine iteF ?_
      refine ⟨_, rfl, rfl, _, rfl, ?_⟩
      refine iteF ?_
      refine ⟨_, rfl, rfl, _, rfl, ?_⟩
      refine iteF ?_
      refine ⟨_, rfl, rfl, _, rfl, ?_⟩
      refine iteF ?_
      refine ⟨_, rfl, rfl, _, rfl, ?_⟩
      refine iteF ?_
      refine ⟨_, rfl, rfl, _, rfl, ?_⟩
      refine iteF ?_
      refine ⟨_, rfl, rfl, _, rfl, ?_⟩
      refine iteF ?_
      refine ⟨_, rfl, rfl, _, rfl, ?_⟩
      refine iteT ?_
      exact ⟨_, rfl, _, rfl, cl, _, _, _, rfl, rfl, SqL.of (h0 _ _ hcl), atI_nat (j := 1) rfl, d, s, p, rfl, hpre, k⟩
    | air =>
      refine ⟨_, rfl, cl, _, _, _, rfl, rfl, SqL.of (h0 _ _ hcl), atI_nat (j := 0) rfl, ?_⟩
      refine ⟨_, rfl, rfl, _, rfl, ?_⟩
      refine iteF ?_
      refine ⟨_, rfl, rfl, _, rfl, ?_⟩
      refine iteF ?_
      refine ⟨_, rfl, rfl, _, rfl, ?_⟩
      refine iteF ?_
      refine ⟨_, rfl, rfl, _, rfl, ?_⟩
      refine iteF ?_
      refine ⟨_, rfl, rfl, _, rfl, ?_⟩
      refine iteF ?_
      refine ⟨_, rfl, rfl, _, rfl, ?_⟩
      refine iteF ?_
      refine ⟨_, rfl, rfl, _, rfl, ?_⟩
      refine iteF ?_
      refine ⟨_, rfl, rfl, _, rfl, ?_⟩
      refine iteF ?_
      refine ⟨_, rfl, rfl, _, rfl, ?_⟩
      refine iteF ?_
      refine ⟨_, rfl, rfl, _, rfl, ?_⟩
      refine iteF ?_
      refine ⟨_, rfl, rfl, _, rfl, ?_⟩
      refine iteF ?_
      refine ⟨_, rfl, rfl, _, rfl, ?_⟩
      refine iteF ?_
      refine ⟨_, rfl, rfl, _, rfl, ?_⟩
      refine iteF ?_
      refine ⟨_, rfl, rfl, _, rfl, ?_⟩
      refine iteF ?_
      exact ⟨_, rfl, d, s, rfl, hpre, k⟩
theorem ok_answer_of (T : Txt K mg A) : FnOk P w K mg base CX0 10 A.f_answer_of A.d_answer_of ["world", "call"] (spAnswerOf A.C_World A.C_Process) := by
  refine T.F_answer_of.ok sc_answer_of (fun vs H Q E h => ?_) (fun cdv A' outer s H vs Q E hr h => ?_)
  · obtain ⟨d, s, x, cl, rfl, _⟩ := h; rfl
  · obtain ⟨d, s, x, cl, rfl, hcl, ncl, hb, hw, hg, k⟩ := h
    refine ⟨_, (pss_cons (ps_set (i := 2) sc_answer_of.nd rfl (Or.inl rfl) (pe_call (ok_refusal_of T) (hr.mono (by decide)) rfl T.m_refusal_of T.F_refusal_of.kp T.b_refusal_of .nil pass0 (pa_cons (pv 0) (pa_cons (pv 1) pa_nil))))
      (pss_cons (ps_if (pt_cmpR op_ne (pv 2) (pe_gint rfl T.c_NOT_REFUSED) (nomark _)) (pss_one (ps_ret (pe_lst (pa_cons (pv 2) pa_nil)))) pss_nil)
      (pss_one (ps_ret (pe_call (ok_carry_out T) (hr.mono (by decide)) rfl T.m_carry_out T.F_carry_out.kp T.b_carry_out .nil pass0 (pa_cons (pv 0) (pa_cons (pv 1) pa_nil))))))), ?_⟩
    refine ⟨_, rfl, _, rfl, d, s, x, cl, rfl, hcl, hw, fun H1 h1 => ?_⟩
    refine ⟨_, rfl, rfl, _, rfl, ?_⟩
    refine ite2 (fun h2 => ?_) (fun h2 => ?_)
    · have hn : M.refusal s x ≠ 0 := fun z => by rw [z] at h2; exact absurd h2 (by decide)
      have e := M.step_refused hn
      refine ⟨_, rfl, (by show 1 ≤ sizeLine; decide), fun l hl => ?_⟩
      have hl0 : H l = none := by
        cases q : H l with
        | none => rfl
        | some u => rw [h1 l u q] at hl; cases hl
      refine k.told (by rw [e]) hw (fun b u e => keep_new hl (h1 b u e)) hl0 upd_same ?_
      rw [e]
      rfl
    · have hz : M.refusal s x = 0 := by
        by_cases z : M.refusal s x = 0
        · exact z
        · exact absurd (by rw [Bool.not_eq_true', decide_eq_false_iff_not]; exact fun e => z (V.int.inj e)) h2
      exact ⟨_, rfl, _, rfl, d, s, x, cl, rfl, h1 _ _ hcl, ⟨hw.kept h1, hg, hz⟩, k.ext h1⟩
end
end Lw
set_option maxRecDepth 100000
set_option maxHeartbeats 2000000
/-! The list of calls, and its answers. -/
namespace Lw
open PySem PySem.Spec PyProof.Rows L2
def spAns (K : PySem.W.Frag) : Sp := fun vs H Q _ => ∃ (a : Addr) (ns : List Int), vs = [.ref a] ∧ SqL K H a (ns.map V.int) ∧ PyHa02.answers_asked ns = true ∧ ∀ (H' : Hp) (p : Addr), H' p = some (.lst ((PyHa02.answers ns).map V.int)) → Q (.ref p) H'
theorem cut_call {ns : List Int} {i k : Nat} {p : Int} {r : List Int} (h : ns.drop i = p :: r) (hk : k ≤ r.length) : cutV (ns.map V.int) (some (i : Int)) (some ((i : Int) + 1 + (k : Int))) = (p :: r.take k).map V.int := by
  have hlen : ns.length = i + (r.length + 1) := by
    have := congrArg List.length h
    rw [List.length_drop, List.length_cons] at this
    omega
  have e : ((i : Int) + 1 + (k : Int)) = ((i + 1 + k : Nat) : Int) := by omega
  unfold cutV
  rw [e, HT.sIx_nat, HT.sIx_nat, List.length_map, Nat.min_eq_left (by omega), Nat.min_eq_left (by omega), ← List.map_drop, h, show i + 1 + k - i = k + 1 by omega, ← List.map_take, List.take_succ_cons]
theorem tab_at {x : Ha02.Call} {p : Int} {r : List Int} {j : Nat} (h : M.flat x = p :: r.take j) (hj : j ≤ r.length) : atI [V.int (0), V.int (2), V.int (2), V.int (2), V.int (2), V.int (2), V.int (2), V.int (3), V.int (2), V.int (3), V.int (2), V.int (1), V.int (1), V.int (1), V.int (0)] p = some (V.int (j : Int)) := by
  have hl : (M.flat x).length = j + 1 := by rw [h, List.length_cons, List.length_take, Nat.min_eq_left hj]
  cases x <;> (simp only [M.flat, M.flatN, List.map_cons, List.map_nil, List.length_cons, List.length_nil, List.cons.injEq] at h hl; obtain ⟨rfl, _⟩ := h; have e : j = _ := (Nat.succ.inj hl).symm; subst e; rfl)
section
variable {P : Program} {w : World} {K : PySem.W.Frag} {mg : Str → Option Value} {base : Heap} {A : Adr}
theorem ok_answers (T : Txt K mg A) : FnOk P w K mg base CX0 11 A.f_answers A.d_answers ["calls"] (spAns K) := by
  refine T.F_answers.ok sc_answers (fun vs H Q E h => ?_) (fun cdv A' outer s H vs Q E hr h => ?_)
  · obtain ⟨a, ns, rfl, _⟩ := h; rfl
  · obtain ⟨a, ns, rfl, hS, hA, k⟩ := h
    obtain ⟨hL, hlen⟩ := M.left_start hA
    refine ⟨_, (pss_cons (ps_set (i := 1) sc_answers.nd rfl (Or.inl rfl) (pe_make0 T.mk_World (ok_World_init T) (hr.mono (by decide)) rfl T.m_World T.b_World_init .nil pass0))
      (pss_cons (ps_set (i := 2) sc_answers.nd rfl (Or.inl rfl) (pe_lst pa_nil))
      (pss_cons (ps_set (i := 3) sc_answers.nd rfl (Or.inl rfl) pe_int)
      (pss_cons (ps_while PassesOwn.never (pt_cmpR op_lt (pv 3) (pe_callB call_len_seq (by rfl) T.len PySem.boot_len (pa_cons (pv 0) pa_nil)) (nomark _)) (pss_cons (ps_set (i := 4) sc_answers.nd rfl (Or.inl rfl) (pe_op op_add (pe_op op_add (pv 3) pe_int) (pe_ix ix_tup (pe_gref rfl T.c_NUMBERS_BEHIND) (pe_ix ix_list (pv 0) (pv 3) (fun _ _ => rfl)) (fun _ _ => rfl))))
      (pss_cons (ps_set (i := 5) sc_answers.nd rfl (Or.inl rfl) (pe_call (ok_answer_of T) (hr.mono (by decide)) rfl T.m_answer_of T.F_answer_of.kp T.b_answer_of .nil pass0 (pa_cons (pv 1) (pa_cons (pe_slice sl_list (pv 0) (po_some (pv 3)) (po_some (pv 4))) pa_nil))))
      (pss_cons (ps_expr (pe_bm PySem.F.plainAttrs_list PySem.F.slot_list_append PySem.F.type_list_append mt_append (pv 2) (pa_cons (pe_callB call_len_seq (by rfl) T.len PySem.boot_len (pa_cons (pv 5) pa_nil)) pa_nil)))
      (pss_cons (ps_expr (pe_bm PySem.F.plainAttrs_list PySem.F.slot_list_extend PySem.F.type_list_extend mt_extend (pv 2) (pa_cons (pv 5) pa_nil)))
      (pss_one (ps_set (i := 3) sc_answers.nd rfl (Or.inl rfl) (pv 4))))))))
      (pss_one (ps_ret (pv 2))))))), ?_⟩
    intro x dx nx ndx nex
    have k0 : ∀ b u, H b = some u → upd (upd H dx (.own x)) x (.ins A.C_World dx []) b = some u := fun b u e => by
      rw [upd_ne (ne_of_none e nx), upd_ne (ne_of_none e ndx)]; exact e
    refine ⟨x, dx, rfl, upd_same, fun H1 d hd fr w1 kp => ⟨rfl, ?_⟩⟩
    have s1 : ∀ b u, H b = some u → H1 b = some u ∧ b ∉ d.adr := fun b u e => ⟨kp b u (k0 b u e) (ne_of_none e nx), fun m => by
      rcases fr b m with z | z
      · exact ne_of_none e nx z
      · rw [k0 b u e] at z; cases z⟩
    refine ⟨Nat.zero_le _, fun tl htl => ?_⟩
    obtain ⟨w2, k2⟩ := w1.alloc (x := .lst []) htl
    refine ⟨fun m σ Hi => ∃ (i : Nat) (beh ans : Option V) (d : Ad) (s : Ha02.St) (n c t f : Nat) (out rest : List Int), σ = [some (.ref a), some (.ref x), some (.ref tl), some (iN i), beh, ans] ∧ i ≤ ns.length ∧ m = ns.length - i ∧ d.W = x ∧ WAt A.C_World A.C_Process Hi d s ∧ M.Good c t s ∧ (c + n ≤ 100 ∧ t ≤ 1000 * c) ∧
      M.Left f (ns.drop i) s n rest ∧ out ++ rest = PyHa02.answers ns ∧ Hi tl = some (.lst (out.map V.int)) ∧ tl ∉ d.adr ∧ ∀ b u, H b = some u → Hi b = some u ∧ b ∉ d.adr ∧ b ≠ tl,
      ⟨_, 0, none, none, d, Ha02.init, 100, 0, 0, ns.length, [], PyHa02.answers ns, rfl, Nat.zero_le _, rfl, hd, w2, M.good_init, ⟨by decide, by decide⟩, hL, rfl, upd_same, w1.out_of htl, fun b u e => ⟨keep_new htl (s1 b u e).1, (s1 b u e).2, ne_of_none (s1 b u e).1 htl⟩⟩, ?_⟩
    rintro m σ Hi ⟨i, beh, ans, d, s, n, c, t, f, out, rest, rfl, hi, rfl, rfl, hw, hg, hn, hL, ho, htl, ntl, hk⟩
    have sq : SqL K Hi a (ns.map V.int) := Same.seq (fun b u e => (hk b u e).1) hS
    refine ⟨_, rfl, _, rfl, a, _, rfl, .inl sq, _, _, rfl, rfl, _, rfl, ?_⟩
    rw [List.length_map]
    by_cases hlt : i < ns.length
    · have hd1 : decide ((i : Int) < (ns.length : Int)) = true := decide_eq_true (by omega)
      rw [hd1]
      refine iteT ?_
      obtain ⟨p, r, hpr⟩ : ∃ p r, ns.drop i = p :: r := by
        cases e : ns.drop i with
        | nil => have := congrArg List.length e; rw [List.length_drop] at this; simp at this; omega
        | cons p r => exact ⟨p, r, rfl⟩
      rw [hpr] at hL
      obtain ⟨x, j, f', out', hf, hj, hb, hn1, hL', rfl⟩ := M.left_cons hL
      have hip : ns[i]? = some p := by
        have := congrArg List.head? hpr
        rw [List.head?_drop] at this
        exact this
      refine ⟨fun σ' H' => ∃ m', m' < ns.length - i ∧ ∃ (i : Nat) (beh ans : Option V) (d' : Ad) (s : Ha02.St) (n c t f : Nat) (out rest : List Int), σ' = [some (.ref a), some (.ref d.W), some (.ref tl), some (iN i), beh, ans] ∧ i ≤ ns.length ∧ m' = ns.length - i ∧ d'.W = d.W ∧ WAt A.C_World A.C_Process H' d' s ∧ M.Good c t s ∧ (c + n ≤ 100 ∧ t ≤ 1000 * c) ∧
        M.Left f (ns.drop i) s n rest ∧ out ++ rest = PyHa02.answers ns ∧ H' tl = some (.lst (out.map V.int)) ∧ tl ∉ d'.adr ∧ ∀ b u, H b = some u → H' b = some u ∧ b ∉ d'.adr ∧ b ≠ tl, fun σ' H' z => z, ?_⟩
      -- behind
      refine ⟨_, rfl, _, _, rfl, rfl, ?_⟩
      refine ⟨_, rfl, _, rfl, a, _, _, _, rfl, rfl, sq, atI_nat (j := i) (v := V.int p) (by rw [List.getElem?_map, hip]; rfl), ?_⟩
      refine ⟨_, _, _, V.int (j : Int), rfl, rfl, T.t_NUMBERS_BEHIND _, ?_, _, _, rfl, rfl, ?_⟩
      · exact tab_at hf hj
      -- answer_of
      refine ⟨_, rfl, _, rfl, _, rfl, _, rfl, _, rfl, _, rfl, a, _, rfl, sq, fun cl hcl => ?_⟩
      rw [cut_call hpr hj, ← hf]
      obtain ⟨w3, k3⟩ := hw.alloc (x := .lst ((M.flat x).map V.int)) hcl
      refine ⟨d, s, x, cl, rfl, upd_same, hw.out_of hcl, hb, w3, ⟨c, t, hg, by omega⟩, fun H4 d4 l w4 k4 nl ld hl => ?_⟩
      have t4 := k4.kp tl _ (keep_new hcl htl) ntl
      have tll : tl ≠ l := nl tl _ (keep_new hcl htl) ntl
      have hsum : (out.length + (((Ha02.step s x).2.length + 1) + out'.length)) ≤ 10000000 := by
        have := congrArg List.length ho
        rw [List.length_append, List.length_cons, List.length_append] at this
        omega
      -- told.append
      refine ⟨_, rfl, .inl ⟨rfl, _, SqL.of t4.1⟩, _, rfl, l, _, rfl, .inl (SqL.of hl), tl, _, _, rfl, rfl, t4.1, (by rw [List.length_map]; exact Nat.lt_of_lt_of_le (show out.length < 16777216 by omega) (by decide)), ?_⟩
      -- told.extend
      refine ⟨_, rfl, .inl ⟨rfl, _, SqL.of upd_same⟩, _, rfl, tl, l, _, _, rfl, rfl, upd_same, (by rw [upd_ne (Ne.symm tll)]; exact hl), (by rw [List.length_append, List.length_map, List.length_map]; exact Nat.le_trans (show out.length + 1 + (Ha02.step s x).2.length ≤ 16777216 by omega) (by decide)), ?_⟩
      rw [upd_upd]
      have hlen2 : ns.length = i + (r.length + 1) := by
        have := congrArg List.length hpr
        rw [List.length_drop, List.length_cons] at this
        omega
      have e5 : V.int ((i : Int) + 1 + (j : Int)) = iN (i + 1 + j) := by unfold iN; congr 1
      refine ⟨_, rfl, ns.length - (i + 1 + j), (by omega), i + 1 + j, some (iN (i + 1 + j)), some (.ref l), d4, (Ha02.step s x).1, n - 1, c + 1, t + 1000, f', out ++ (((Ha02.step s x).2.length : Int) :: (Ha02.step s x).2), out', ?_, by omega, rfl, k4.W, w4.else_ t4.2 (fun xs z => by rw [t4.1] at z; cases z), hg.step (by omega) x, by omega, ?_, ?_, ?_, t4.2, fun b u e => ?_⟩
      · show [some (V.ref a), some (V.ref d.W), some (V.ref tl), some (V.int ((i : Int) + 1 + (j : Int))), some (V.int ((i : Int) + 1 + (j : Int))), some (V.ref l)] = _
        rw [e5]
      · have e6 : ns.drop (i + 1 + j) = r.drop j := by
          rw [show i + 1 + j = i + (j + 1) by omega, ← List.drop_drop, hpr, List.drop_succ_cons]
        rw [e6]; exact hL'
      · rw [← ho, List.append_assoc]; rfl
      · rw [upd_same, List.map_append, List.map_cons, List.length_map, List.append_assoc]; rfl
      · obtain ⟨h1, h2, h3⟩ := hk b u e
        obtain ⟨h4, h5⟩ := k4.kp b u (keep_new hcl h1) h2
        exact ⟨by rw [upd_ne h3]; exact h4, h5, h3⟩
    · have hd1 : decide ((i : Int) < (ns.length : Int)) = false := decide_eq_false (by omega)
      rw [hd1]
      refine iteF ?_
      have ei : i = ns.length := by omega
      rw [ei, List.drop_length] at hL
      have er := M.left_nil hL
      rw [er, List.append_nil] at ho
      rw [ho] at htl
      exact ⟨_, rfl, k Hi tl htl⟩
end
end Lw
def PySem.W.Fast.tw16807273010725704507 : Unit := ()
def PySem.W.Fast.tw726363813009722792 : Unit := ()
def PySem.W.Fast.tw5417131124681062858 : Unit := ()
def PySem.W.Fast.tw8097322379648632182 : Unit := ()
def PySem.W.Fast.tw10473642456029504381 : Unit := ()
def PySem.W.Fast.tw518878696829142453 : Unit := ()
open PySem PySem.W PyProof.Rows
open L2 (Cls NoAttr Fun Meth Mk SqT V)
open Lw
set_option maxRecDepth 100000 in
set_option maxHeartbeats 0 in
theorem PySem.Challenge.cw_linkwatches_s01_answers_holds : PySem.Challenge.rw_linkwatches_s01_answers.Holds := by
  w_on
  k_headS
  (case hw => exact ⟨[.list [.int 0]], by decide +kernel, by decide +kernel⟩)
  k_fillS
  refine L2.walk_specK (r := PySem.Challenge.rw_linkwatches_s01_answers) (k := 11) (CX := L2.CX0) (ps := ["calls"]) (sp := Lw.spAns) (by decide +kernel) rfl rfl ⟨rfl, by decide, by decide⟩ (fun w h Y => PySem.W.kIn_of Y) ?F ?S (fun _ _ _ _ z => z)
  case F =>
    intro w mg fa h Y KX G hmg
    have X_Process : ∃ (C : Addr) (f_Process_init : Addr) (d_Process_init : FuncData) (f_Process_holds_link : Addr) (d_Process_holds_link : FuncData), mg "Process" = some (.ref C) ∧ Cls (L2.KOf KX) C ∧ NoAttr (L2.KOf KX) C "links" ∧ NoAttr (L2.KOf KX) C "living" ∧ NoAttr (L2.KOf KX) C "notes" ∧ NoAttr (L2.KOf KX) C "traps" ∧ NoAttr (L2.KOf KX) C "watchers" ∧ NoAttr (L2.KOf KX) C "watches" ∧ NoAttr (L2.KOf KX) C "why" ∧ Fun (L2.KOf KX) "__init__" "Process.__init__" s_Process_init f_Process_init d_Process_init ∧ Mk (L2.KOf KX) C f_Process_init ∧ Fun (L2.KOf KX) "holds_link" "Process.holds_link" s_Process_holds_link f_Process_holds_link d_Process_holds_link ∧ Meth (L2.KOf KX) C "holds_link" f_Process_holds_link := by
      dsimp only [L2.KOf]
      refine' Lw.cls_Process KX G ?aC ?pg ?hd ?po ?sa ?mk ?kc ?n_links ?n_living ?n_notes ?n_traps ?n_watchers ?n_watches ?n_why ?a0 ?i0 ?l0 ?c0 ?k0 ?a1 ?i1 ?l1 ?c1 ?k1
      (case aC => k_is); (case pg => k_is); (case hd => k_is); (case po => k_is); (case sa => k_is); (case mk => k_is); (case kc => k_is); (case n_links => k_is); (case n_living => k_is); (case n_notes => k_is); (case n_traps => k_is); (case n_watchers => k_is); (case n_watches => k_is); (case n_why => k_is); (case a0 => k_is); (case i0 => k_is); (case l0 => k_is); (case c0 => k_is); (case k0 => k_is); (case a1 => k_is); (case i1 => k_is); (case l1 => k_is); (case c1 => k_is); (case k1 => k_is)
    obtain ⟨C_Process, f_Process_init, d_Process_init, f_Process_holds_link, d_Process_holds_link, m_Process, cl_Process, n_Process_links, n_Process_living, n_Process_notes, n_Process_traps, n_Process_watchers, n_Process_watches, n_Process_why, F_Process_init, mk_Process, F_Process_holds_link, me_Process_holds_link⟩ := X_Process
    have X_World : ∃ (C : Addr) (f_World_init : Addr) (d_World_init : FuncData) (f_World_add_process : Addr) (d_World_add_process : FuncData) (f_World_begin_number : Addr) (d_World_begin_number : FuncData) (f_World_send : Addr) (d_World_send : FuncData) (f_World_place_of_first : Addr) (d_World_place_of_first : FuncData), mg "World" = some (.ref C) ∧ Cls (L2.KOf KX) C ∧ NoAttr (L2.KOf KX) C "last_begun" ∧ NoAttr (L2.KOf KX) C "processes" ∧ NoAttr (L2.KOf KX) C "signals" ∧ Fun (L2.KOf KX) "__init__" "World.__init__" s_World_init f_World_init d_World_init ∧ Mk (L2.KOf KX) C f_World_init ∧ Fun (L2.KOf KX) "add_process" "World.add_process" s_World_add_process f_World_add_process d_World_add_process ∧ Meth (L2.KOf KX) C "add_process" f_World_add_process ∧ Fun (L2.KOf KX) "begin_number" "World.begin_number" s_World_begin_number f_World_begin_number d_World_begin_number ∧ Meth (L2.KOf KX) C "begin_number" f_World_begin_number ∧ Fun (L2.KOf KX) "send" "World.send" s_World_send f_World_send d_World_send ∧ Meth (L2.KOf KX) C "send" f_World_send ∧ Fun (L2.KOf KX) "place_of_first" "World.place_of_first" s_World_place_of_first f_World_place_of_first d_World_place_of_first ∧ Meth (L2.KOf KX) C "place_of_first" f_World_place_of_first := by
      dsimp only [L2.KOf]
      refine' Lw.cls_World KX G ?aC ?pg ?hd ?po ?sa ?mk ?kc ?n_last_begun ?n_processes ?n_signals ?a0 ?i0 ?l0 ?c0 ?k0 ?a1 ?i1 ?l1 ?c1 ?k1 ?a2 ?i2 ?l2 ?c2 ?k2 ?a3 ?i3 ?l3 ?c3 ?k3 ?a4 ?i4 ?l4 ?c4 ?k4
      (case aC => k_is); (case pg => k_is); (case hd => k_is); (case po => k_is); (case sa => k_is); (case mk => k_is); (case kc => k_is); (case n_last_begun => k_is); (case n_processes => k_is); (case n_signals => k_is); (case a0 => k_is); (case i0 => k_is); (case l0 => k_is); (case c0 => k_is); (case k0 => k_is); (case a1 => k_is); (case i1 => k_is); (case l1 => k_is); (case c1 => k_is); (case k1 => k_is); (case a2 => k_is); (case i2 => k_is); (case l2 => k_is); (case c2 => k_is); (case k2 => k_is); (case a3 => k_is); (case i3 => k_is); (case l3 => k_is); (case c3 => k_is); (case k3 => k_is); (case a4 => k_is); (case i4 => k_is); (case l4 => k_is); (case c4 => k_is); (case k4 => k_is)
    obtain ⟨C_World, f_World_init, d_World_init, f_World_add_process, d_World_add_process, f_World_begin_number, d_World_begin_number, f_World_send, d_World_send, f_World_place_of_first, d_World_place_of_first, m_World, cl_World, n_World_last_begun, n_World_processes, n_World_signals, F_World_init, mk_World, F_World_add_process, me_World_add_process, F_World_begin_number, me_World_begin_number, F_World_send, me_World_send, F_World_place_of_first, me_World_place_of_first⟩ := X_World
    have X_let_end_come : ∃ (f : Addr) (fd : FuncData), Fun (L2.KOf KX) "let_end_come" "let_end_come" Lw.s_let_end_come f fd ∧ mg "let_end_come" = some (.ref f) := by
      dsimp only [L2.KOf]
      refine' Lw.fn_top KX G ?a ?l ?c ?k
      (case a => k_is); (case l => k_is); (case c => k_is); (case k => k_is)
    obtain ⟨f_let_end_come, d_let_end_come, F_let_end_come, m_let_end_come⟩ := X_let_end_come
    have X_end_process : ∃ (f : Addr) (fd : FuncData), Fun (L2.KOf KX) "end_process" "end_process" Lw.s_end_process f fd ∧ mg "end_process" = some (.ref f) := by
      dsimp only [L2.KOf]
      refine' Lw.fn_top KX G ?a ?l ?c ?k
      (case a => k_is); (case l => k_is); (case c => k_is); (case k => k_is)
    obtain ⟨f_end_process, d_end_process, F_end_process, m_end_process⟩ := X_end_process
    have X_tell_linked : ∃ (f : Addr) (fd : FuncData), Fun (L2.KOf KX) "tell_linked" "tell_linked" Lw.s_tell_linked f fd ∧ mg "tell_linked" = some (.ref f) := by
      dsimp only [L2.KOf]
      refine' Lw.fn_top KX G ?a ?l ?c ?k
      (case a => k_is); (case l => k_is); (case c => k_is); (case k => k_is)
    obtain ⟨f_tell_linked, d_tell_linked, F_tell_linked, m_tell_linked⟩ := X_tell_linked
    have X_tell_watchers : ∃ (f : Addr) (fd : FuncData), Fun (L2.KOf KX) "tell_watchers" "tell_watchers" Lw.s_tell_watchers f fd ∧ mg "tell_watchers" = some (.ref f) := by
      dsimp only [L2.KOf]
      refine' Lw.fn_top KX G ?a ?l ?c ?k
      (case a => k_is); (case l => k_is); (case c => k_is); (case k => k_is)
    obtain ⟨f_tell_watchers, d_tell_watchers, F_tell_watchers, m_tell_watchers⟩ := X_tell_watchers
    have X_tell_watched : ∃ (f : Addr) (fd : FuncData), Fun (L2.KOf KX) "tell_watched" "tell_watched" Lw.s_tell_watched f fd ∧ mg "tell_watched" = some (.ref f) := by
      dsimp only [L2.KOf]
      refine' Lw.fn_top KX G ?a ?l ?c ?k
      (case a => k_is); (case l => k_is); (case c => k_is); (case k => k_is)
    obtain ⟨f_tell_watched, d_tell_watched, F_tell_watched, m_tell_watched⟩ := X_tell_watched
    have X_arrive : ∃ (f : Addr) (fd : FuncData), Fun (L2.KOf KX) "arrive" "arrive" Lw.s_arrive f fd ∧ mg "arrive" = some (.ref f) := by
      dsimp only [L2.KOf]
      refine' Lw.fn_top KX G ?a ?l ?c ?k
      (case a => k_is); (case l => k_is); (case c => k_is); (case k => k_is)
    obtain ⟨f_arrive, d_arrive, F_arrive, m_arrive⟩ := X_arrive
    have X_arrive_at_living : ∃ (f : Addr) (fd : FuncData), Fun (L2.KOf KX) "arrive_at_living" "arrive_at_living" Lw.s_arrive_at_living f fd ∧ mg "arrive_at_living" = some (.ref f) := by
      dsimp only [L2.KOf]
      refine' Lw.fn_top KX G ?a ?l ?c ?k
      (case a => k_is); (case l => k_is); (case c => k_is); (case k => k_is)
    obtain ⟨f_arrive_at_living, d_arrive_at_living, F_arrive_at_living, m_arrive_at_living⟩ := X_arrive_at_living
    have X_arrive_at_ended : ∃ (f : Addr) (fd : FuncData), Fun (L2.KOf KX) "arrive_at_ended" "arrive_at_ended" Lw.s_arrive_at_ended f fd ∧ mg "arrive_at_ended" = some (.ref f) := by
      dsimp only [L2.KOf]
      refine' Lw.fn_top KX G ?a ?l ?c ?k
      (case a => k_is); (case l => k_is); (case c => k_is); (case k => k_is)
    obtain ⟨f_arrive_at_ended, d_arrive_at_ended, F_arrive_at_ended, m_arrive_at_ended⟩ := X_arrive_at_ended
    have X_take_cut : ∃ (f : Addr) (fd : FuncData), Fun (L2.KOf KX) "take_cut" "take_cut" Lw.s_take_cut f fd ∧ mg "take_cut" = some (.ref f) := by
      dsimp only [L2.KOf]
      refine' Lw.fn_top KX G ?a ?l ?c ?k
      (case a => k_is); (case l => k_is); (case c => k_is); (case k => k_is)
    obtain ⟨f_take_cut, d_take_cut, F_take_cut, m_take_cut⟩ := X_take_cut
    have X_take_heard : ∃ (f : Addr) (fd : FuncData), Fun (L2.KOf KX) "take_heard" "take_heard" Lw.s_take_heard f fd ∧ mg "take_heard" = some (.ref f) := by
      dsimp only [L2.KOf]
      refine' Lw.fn_top KX G ?a ?l ?c ?k
      (case a => k_is); (case l => k_is); (case c => k_is); (case k => k_is)
    obtain ⟨f_take_heard, d_take_heard, F_take_heard, m_take_heard⟩ := X_take_heard
    have X_take_ended : ∃ (f : Addr) (fd : FuncData), Fun (L2.KOf KX) "take_ended" "take_ended" Lw.s_take_ended f fd ∧ mg "take_ended" = some (.ref f) := by
      dsimp only [L2.KOf]
      refine' Lw.fn_top KX G ?a ?l ?c ?k
      (case a => k_is); (case l => k_is); (case c => k_is); (case k => k_is)
    obtain ⟨f_take_ended, d_take_ended, F_take_ended, m_take_ended⟩ := X_take_ended
    have X_take_stop : ∃ (f : Addr) (fd : FuncData), Fun (L2.KOf KX) "take_stop" "take_stop" Lw.s_take_stop f fd ∧ mg "take_stop" = some (.ref f) := by
      dsimp only [L2.KOf]
      refine' Lw.fn_top KX G ?a ?l ?c ?k
      (case a => k_is); (case l => k_is); (case c => k_is); (case k => k_is)
    obtain ⟨f_take_stop, d_take_stop, F_take_stop, m_take_stop⟩ := X_take_stop
    have X_take_gone : ∃ (f : Addr) (fd : FuncData), Fun (L2.KOf KX) "take_gone" "take_gone" Lw.s_take_gone f fd ∧ mg "take_gone" = some (.ref f) := by
      dsimp only [L2.KOf]
      refine' Lw.fn_top KX G ?a ?l ?c ?k
      (case a => k_is); (case l => k_is); (case c => k_is); (case k => k_is)
    obtain ⟨f_take_gone, d_take_gone, F_take_gone, m_take_gone⟩ := X_take_gone
    have X_box : ∃ (f : Addr) (fd : FuncData), Fun (L2.KOf KX) "box" "box" Lw.s_box f fd ∧ mg "box" = some (.ref f) := by
      dsimp only [L2.KOf]
      refine' Lw.fn_top KX G ?a ?l ?c ?k
      (case a => k_is); (case l => k_is); (case c => k_is); (case k => k_is)
    obtain ⟨f_box, d_box, F_box, m_box⟩ := X_box
    have X_process : ∃ (f : Addr) (fd : FuncData), Fun (L2.KOf KX) "process" "process" Lw.s_process f fd ∧ mg "process" = some (.ref f) := by
      dsimp only [L2.KOf]
      refine' Lw.fn_top KX G ?a ?l ?c ?k
      (case a => k_is); (case l => k_is); (case c => k_is); (case k => k_is)
    obtain ⟨f_process, d_process, F_process, m_process⟩ := X_process
    have X_air : ∃ (f : Addr) (fd : FuncData), Fun (L2.KOf KX) "air" "air" Lw.s_air f fd ∧ mg "air" = some (.ref f) := by
      dsimp only [L2.KOf]
      refine' Lw.fn_top KX G ?a ?l ?c ?k
      (case a => k_is); (case l => k_is); (case c => k_is); (case k => k_is)
    obtain ⟨f_air, d_air, F_air, m_air⟩ := X_air
    have X_counted : ∃ (f : Addr) (fd : FuncData), Fun (L2.KOf KX) "counted" "counted" Lw.s_counted f fd ∧ mg "counted" = some (.ref f) := by
      dsimp only [L2.KOf]
      refine' Lw.fn_top KX G ?a ?l ?c ?k
      (case a => k_is); (case l => k_is); (case c => k_is); (case k => k_is)
    obtain ⟨f_counted, d_counted, F_counted, m_counted⟩ := X_counted
    have X_carry_out : ∃ (f : Addr) (fd : FuncData), Fun (L2.KOf KX) "carry_out" "carry_out" Lw.s_carry_out f fd ∧ mg "carry_out" = some (.ref f) := by
      dsimp only [L2.KOf]
      refine' Lw.fn_top KX G ?a ?l ?c ?k
      (case a => k_is); (case l => k_is); (case c => k_is); (case k => k_is)
    obtain ⟨f_carry_out, d_carry_out, F_carry_out, m_carry_out⟩ := X_carry_out
    have X_start : ∃ (f : Addr) (fd : FuncData), Fun (L2.KOf KX) "start" "start" Lw.s_start f fd ∧ mg "start" = some (.ref f) := by
      dsimp only [L2.KOf]
      refine' Lw.fn_top KX G ?a ?l ?c ?k
      (case a => k_is); (case l => k_is); (case c => k_is); (case k => k_is)
    obtain ⟨f_start, d_start, F_start, m_start⟩ := X_start
    have X_child : ∃ (f : Addr) (fd : FuncData), Fun (L2.KOf KX) "child" "child" Lw.s_child f fd ∧ mg "child" = some (.ref f) := by
      dsimp only [L2.KOf]
      refine' Lw.fn_top KX G ?a ?l ?c ?k
      (case a => k_is); (case l => k_is); (case c => k_is); (case k => k_is)
    obtain ⟨f_child, d_child, F_child, m_child⟩ := X_child
    have X_link : ∃ (f : Addr) (fd : FuncData), Fun (L2.KOf KX) "link" "link" Lw.s_link f fd ∧ mg "link" = some (.ref f) := by
      dsimp only [L2.KOf]
      refine' Lw.fn_top KX G ?a ?l ?c ?k
      (case a => k_is); (case l => k_is); (case c => k_is); (case k => k_is)
    obtain ⟨f_link, d_link, F_link, m_link⟩ := X_link
    have X_cut : ∃ (f : Addr) (fd : FuncData), Fun (L2.KOf KX) "cut" "cut" Lw.s_cut f fd ∧ mg "cut" = some (.ref f) := by
      dsimp only [L2.KOf]
      refine' Lw.fn_top KX G ?a ?l ?c ?k
      (case a => k_is); (case l => k_is); (case c => k_is); (case k => k_is)
    obtain ⟨f_cut, d_cut, F_cut, m_cut⟩ := X_cut
    have X_watch : ∃ (f : Addr) (fd : FuncData), Fun (L2.KOf KX) "watch" "watch" Lw.s_watch f fd ∧ mg "watch" = some (.ref f) := by
      dsimp only [L2.KOf]
      refine' Lw.fn_top KX G ?a ?l ?c ?k
      (case a => k_is); (case l => k_is); (case c => k_is); (case k => k_is)
    obtain ⟨f_watch, d_watch, F_watch, m_watch⟩ := X_watch
    have X_unwatch : ∃ (f : Addr) (fd : FuncData), Fun (L2.KOf KX) "unwatch" "unwatch" Lw.s_unwatch f fd ∧ mg "unwatch" = some (.ref f) := by
      dsimp only [L2.KOf]
      refine' Lw.fn_top KX G ?a ?l ?c ?k
      (case a => k_is); (case l => k_is); (case c => k_is); (case k => k_is)
    obtain ⟨f_unwatch, d_unwatch, F_unwatch, m_unwatch⟩ := X_unwatch
    have X_ends : ∃ (f : Addr) (fd : FuncData), Fun (L2.KOf KX) "ends" "ends" Lw.s_ends f fd ∧ mg "ends" = some (.ref f) := by
      dsimp only [L2.KOf]
      refine' Lw.fn_top KX G ?a ?l ?c ?k
      (case a => k_is); (case l => k_is); (case c => k_is); (case k => k_is)
    obtain ⟨f_ends, d_ends, F_ends, m_ends⟩ := X_ends
    have X_stop : ∃ (f : Addr) (fd : FuncData), Fun (L2.KOf KX) "stop" "stop" Lw.s_stop f fd ∧ mg "stop" = some (.ref f) := by
      dsimp only [L2.KOf]
      refine' Lw.fn_top KX G ?a ?l ?c ?k
      (case a => k_is); (case l => k_is); (case c => k_is); (case k => k_is)
    obtain ⟨f_stop, d_stop, F_stop, m_stop⟩ := X_stop
    have X_trap : ∃ (f : Addr) (fd : FuncData), Fun (L2.KOf KX) "trap" "trap" Lw.s_trap f fd ∧ mg "trap" = some (.ref f) := by
      dsimp only [L2.KOf]
      refine' Lw.fn_top KX G ?a ?l ?c ?k
      (case a => k_is); (case l => k_is); (case c => k_is); (case k => k_is)
    obtain ⟨f_trap, d_trap, F_trap, m_trap⟩ := X_trap
    have X_say : ∃ (f : Addr) (fd : FuncData), Fun (L2.KOf KX) "say" "say" Lw.s_say f fd ∧ mg "say" = some (.ref f) := by
      dsimp only [L2.KOf]
      refine' Lw.fn_top KX G ?a ?l ?c ?k
      (case a => k_is); (case l => k_is); (case c => k_is); (case k => k_is)
    obtain ⟨f_say, d_say, F_say, m_say⟩ := X_say
    have X_deliver : ∃ (f : Addr) (fd : FuncData), Fun (L2.KOf KX) "deliver" "deliver" Lw.s_deliver f fd ∧ mg "deliver" = some (.ref f) := by
      dsimp only [L2.KOf]
      refine' Lw.fn_top KX G ?a ?l ?c ?k
      (case a => k_is); (case l => k_is); (case c => k_is); (case k => k_is)
    obtain ⟨f_deliver, d_deliver, F_deliver, m_deliver⟩ := X_deliver
    have X_turns : ∃ (f : Addr) (fd : FuncData), Fun (L2.KOf KX) "turns" "turns" Lw.s_turns f fd ∧ mg "turns" = some (.ref f) := by
      dsimp only [L2.KOf]
      refine' Lw.fn_top KX G ?a ?l ?c ?k
      (case a => k_is); (case l => k_is); (case c => k_is); (case k => k_is)
    obtain ⟨f_turns, d_turns, F_turns, m_turns⟩ := X_turns
    have X_refusal_of : ∃ (f : Addr) (fd : FuncData), Fun (L2.KOf KX) "refusal_of" "refusal_of" Lw.s_refusal_of f fd ∧ mg "refusal_of" = some (.ref f) := by
      dsimp only [L2.KOf]
      refine' Lw.fn_top KX G ?a ?l ?c ?k
      (case a => k_is); (case l => k_is); (case c => k_is); (case k => k_is)
    obtain ⟨f_refusal_of, d_refusal_of, F_refusal_of, m_refusal_of⟩ := X_refusal_of
    have X_lacks_process : ∃ (f : Addr) (fd : FuncData), Fun (L2.KOf KX) "lacks_process" "lacks_process" Lw.s_lacks_process f fd ∧ mg "lacks_process" = some (.ref f) := by
      dsimp only [L2.KOf]
      refine' Lw.fn_top KX G ?a ?l ?c ?k
      (case a => k_is); (case l => k_is); (case c => k_is); (case k => k_is)
    obtain ⟨f_lacks_process, d_lacks_process, F_lacks_process, m_lacks_process⟩ := X_lacks_process
    have X_is_misfit : ∃ (f : Addr) (fd : FuncData), Fun (L2.KOf KX) "is_misfit" "is_misfit" Lw.s_is_misfit f fd ∧ mg "is_misfit" = some (.ref f) := by
      dsimp only [L2.KOf]
      refine' Lw.fn_top KX G ?a ?l ?c ?k
      (case a => k_is); (case l => k_is); (case c => k_is); (case k => k_is)
    obtain ⟨f_is_misfit, d_is_misfit, F_is_misfit, m_is_misfit⟩ := X_is_misfit
    have X_is_by_ended : ∃ (f : Addr) (fd : FuncData), Fun (L2.KOf KX) "is_by_ended" "is_by_ended" Lw.s_is_by_ended f fd ∧ mg "is_by_ended" = some (.ref f) := by
      dsimp only [L2.KOf]
      refine' Lw.fn_top KX G ?a ?l ?c ?k
      (case a => k_is); (case l => k_is); (case c => k_is); (case k => k_is)
    obtain ⟨f_is_by_ended, d_is_by_ended, F_is_by_ended, m_is_by_ended⟩ := X_is_by_ended
    have X_lacks_room : ∃ (f : Addr) (fd : FuncData), Fun (L2.KOf KX) "lacks_room" "lacks_room" Lw.s_lacks_room f fd ∧ mg "lacks_room" = some (.ref f) := by
      dsimp only [L2.KOf]
      refine' Lw.fn_top KX G ?a ?l ?c ?k
      (case a => k_is); (case l => k_is); (case c => k_is); (case k => k_is)
    obtain ⟨f_lacks_room, d_lacks_room, F_lacks_room, m_lacks_room⟩ := X_lacks_room
    have X_lacks_signal : ∃ (f : Addr) (fd : FuncData), Fun (L2.KOf KX) "lacks_signal" "lacks_signal" Lw.s_lacks_signal f fd ∧ mg "lacks_signal" = some (.ref f) := by
      dsimp only [L2.KOf]
      refine' Lw.fn_top KX G ?a ?l ?c ?k
      (case a => k_is); (case l => k_is); (case c => k_is); (case k => k_is)
    obtain ⟨f_lacks_signal, d_lacks_signal, F_lacks_signal, m_lacks_signal⟩ := X_lacks_signal
    have X_answers : ∃ (f : Addr) (fd : FuncData), Fun (L2.KOf KX) "answers" "answers" Lw.s_answers f fd ∧ mg "answers" = some (.ref f) := by
      dsimp only [L2.KOf]
      refine' Lw.fn_top KX G ?a ?l ?c ?k
      (case a => k_is); (case l => k_is); (case c => k_is); (case k => k_is)
    obtain ⟨f_answers, d_answers, F_answers, m_answers⟩ := X_answers
    have X_answer_of : ∃ (f : Addr) (fd : FuncData), Fun (L2.KOf KX) "answer_of" "answer_of" Lw.s_answer_of f fd ∧ mg "answer_of" = some (.ref f) := by
      dsimp only [L2.KOf]
      refine' Lw.fn_top KX G ?a ?l ?c ?k
      (case a => k_is); (case l => k_is); (case c => k_is); (case k => k_is)
    obtain ⟨f_answer_of, d_answer_of, F_answer_of, m_answer_of⟩ := X_answer_of
    have c_CALL_START : ∃ t, mg "CALL_START" = some (.int (0) t) := by refine' Lw.int_mk KX G ?a; (case a => k_is)
    have c_CALL_CHILD : ∃ t, mg "CALL_CHILD" = some (.int (1) t) := by refine' Lw.int_mk KX G ?a; (case a => k_is)
    have c_CALL_LINK : ∃ t, mg "CALL_LINK" = some (.int (2) t) := by refine' Lw.int_mk KX G ?a; (case a => k_is)
    have c_CALL_CUT : ∃ t, mg "CALL_CUT" = some (.int (3) t) := by refine' Lw.int_mk KX G ?a; (case a => k_is)
    have c_CALL_WATCH : ∃ t, mg "CALL_WATCH" = some (.int (4) t) := by refine' Lw.int_mk KX G ?a; (case a => k_is)
    have c_CALL_UNWATCH : ∃ t, mg "CALL_UNWATCH" = some (.int (5) t) := by refine' Lw.int_mk KX G ?a; (case a => k_is)
    have c_CALL_ENDS : ∃ t, mg "CALL_ENDS" = some (.int (6) t) := by refine' Lw.int_mk KX G ?a; (case a => k_is)
    have c_CALL_STOP : ∃ t, mg "CALL_STOP" = some (.int (7) t) := by refine' Lw.int_mk KX G ?a; (case a => k_is)
    have c_CALL_TRAP : ∃ t, mg "CALL_TRAP" = some (.int (8) t) := by refine' Lw.int_mk KX G ?a; (case a => k_is)
    have c_CALL_SAY : ∃ t, mg "CALL_SAY" = some (.int (9) t) := by refine' Lw.int_mk KX G ?a; (case a => k_is)
    have c_CALL_DELIVER : ∃ t, mg "CALL_DELIVER" = some (.int (10) t) := by refine' Lw.int_mk KX G ?a; (case a => k_is)
    have c_CALL_TURNS : ∃ t, mg "CALL_TURNS" = some (.int (11) t) := by refine' Lw.int_mk KX G ?a; (case a => k_is)
    have c_CALL_BOX : ∃ t, mg "CALL_BOX" = some (.int (12) t) := by refine' Lw.int_mk KX G ?a; (case a => k_is)
    have c_CALL_PROCESS : ∃ t, mg "CALL_PROCESS" = some (.int (13) t) := by refine' Lw.int_mk KX G ?a; (case a => k_is)
    have c_CALL_AIR : ∃ t, mg "CALL_AIR" = some (.int (14) t) := by refine' Lw.int_mk KX G ?a; (case a => k_is)
    have X_NUMBERS_BEHIND : ∃ p, mg "NUMBERS_BEHIND" = some (.ref p) ∧ ∀ H, SqT (L2.KOf KX) H p [V.int (0), V.int (2), V.int (2), V.int (2), V.int (2), V.int (2), V.int (2), V.int (3), V.int (2), V.int (3), V.int (2), V.int (1), V.int (1), V.int (1), V.int (0)] := by
      dsimp only [L2.KOf]
      refine' Lw.tup_mk KX G ?a ?l ?s ?v
      (case a => k_is); (case l => k_is); (case s => decide); (case v => repeat (first | exact .nil | refine .cons ⟨_, rfl⟩ ?_))
    obtain ⟨a_NUMBERS_BEHIND, c_NUMBERS_BEHIND, t_NUMBERS_BEHIND⟩ := X_NUMBERS_BEHIND
    have c_SIGNAL_WORD : ∃ t, mg "SIGNAL_WORD" = some (.int (0) t) := by refine' Lw.int_mk KX G ?a; (case a => k_is)
    have c_SIGNAL_LINK : ∃ t, mg "SIGNAL_LINK" = some (.int (1) t) := by refine' Lw.int_mk KX G ?a; (case a => k_is)
    have c_SIGNAL_CUT : ∃ t, mg "SIGNAL_CUT" = some (.int (2) t) := by refine' Lw.int_mk KX G ?a; (case a => k_is)
    have c_SIGNAL_HEARD : ∃ t, mg "SIGNAL_HEARD" = some (.int (3) t) := by refine' Lw.int_mk KX G ?a; (case a => k_is)
    have c_SIGNAL_ENDED : ∃ t, mg "SIGNAL_ENDED" = some (.int (4) t) := by refine' Lw.int_mk KX G ?a; (case a => k_is)
    have c_SIGNAL_STOP : ∃ t, mg "SIGNAL_STOP" = some (.int (5) t) := by refine' Lw.int_mk KX G ?a; (case a => k_is)
    have c_SIGNAL_WATCH : ∃ t, mg "SIGNAL_WATCH" = some (.int (6) t) := by refine' Lw.int_mk KX G ?a; (case a => k_is)
    have c_SIGNAL_UNWATCH : ∃ t, mg "SIGNAL_UNWATCH" = some (.int (7) t) := by refine' Lw.int_mk KX G ?a; (case a => k_is)
    have c_SIGNAL_GONE : ∃ t, mg "SIGNAL_GONE" = some (.int (8) t) := by refine' Lw.int_mk KX G ?a; (case a => k_is)
    have c_NOTE_WORD : ∃ t, mg "NOTE_WORD" = some (.int (0) t) := by refine' Lw.int_mk KX G ?a; (case a => k_is)
    have c_NOTE_ENDED : ∃ t, mg "NOTE_ENDED" = some (.int (1) t) := by refine' Lw.int_mk KX G ?a; (case a => k_is)
    have c_NOTE_GONE : ∃ t, mg "NOTE_GONE" = some (.int (2) t) := by refine' Lw.int_mk KX G ?a; (case a => k_is)
    have c_NOTE_STOP : ∃ t, mg "NOTE_STOP" = some (.int (3) t) := by refine' Lw.int_mk KX G ?a; (case a => k_is)
    have c_WHY_AS_IT_SHOULD : ∃ t, mg "WHY_AS_IT_SHOULD" = some (.int (0) t) := by refine' Lw.int_mk KX G ?a; (case a => k_is)
    have c_WHY_TO_BE_KILLED : ∃ t, mg "WHY_TO_BE_KILLED" = some (.int (1) t) := by refine' Lw.int_mk KX G ?a; (case a => k_is)
    have c_WHY_KILLED : ∃ t, mg "WHY_KILLED" = some (.int (2) t) := by refine' Lw.int_mk KX G ?a; (case a => k_is)
    have c_WHY_NOBODY : ∃ t, mg "WHY_NOBODY" = some (.int (3) t) := by refine' Lw.int_mk KX G ?a; (case a => k_is)
    have c_NOT_REFUSED : ∃ t, mg "NOT_REFUSED" = some (.int (0) t) := by refine' Lw.int_mk KX G ?a; (case a => k_is)
    have c_REFUSED_MISFIT : ∃ t, mg "REFUSED_MISFIT" = some (.int (-1) t) := by refine' Lw.int_mk KX G ?a; (case a => k_is)
    have c_REFUSED_NONE : ∃ t, mg "REFUSED_NONE" = some (.int (-5) t) := by refine' Lw.int_mk KX G ?a; (case a => k_is)
    have c_REFUSED_FULL : ∃ t, mg "REFUSED_FULL" = some (.int (-6) t) := by refine' Lw.int_mk KX G ?a; (case a => k_is)
    have c_REFUSED_ENDED : ∃ t, mg "REFUSED_ENDED" = some (.int (-8) t) := by refine' Lw.int_mk KX G ?a; (case a => k_is)
    have c_HOLDS : ∃ t, mg "HOLDS" = some (.int (0) t) := by refine' Lw.int_mk KX G ?a; (case a => k_is)
    have c_HOW_LINKED : ∃ t, mg "HOW_LINKED" = some (.int (1) t) := by refine' Lw.int_mk KX G ?a; (case a => k_is)
    have c_HOW_WATCHED : ∃ t, mg "HOW_WATCHED" = some (.int (2) t) := by refine' Lw.int_mk KX G ?a; (case a => k_is)
    have c_MOST_PROCESSES : ∃ t, mg "MOST_PROCESSES" = some (.int (12) t) := by refine' Lw.int_mk KX G ?a; (case a => k_is)
    have c_ENOUGH_SIGNALS : ∃ t, mg "ENOUGH_SIGNALS" = some (.int (200) t) := by refine' Lw.int_mk KX G ?a; (case a => k_is)
    have c_MOST_HOW : ∃ t, mg "MOST_HOW" = some (.int (2) t) := by refine' Lw.int_mk KX G ?a; (case a => k_is)
    have c_MOST_WHY : ∃ t, mg "MOST_WHY" = some (.int (99) t) := by refine' Lw.int_mk KX G ?a; (case a => k_is)
    have c_MOST_YES : ∃ t, mg "MOST_YES" = some (.int (1) t) := by refine' Lw.int_mk KX G ?a; (case a => k_is)
    have c_MOST_TURNS : ∃ t, mg "MOST_TURNS" = some (.int (1000) t) := by refine' Lw.int_mk KX G ?a; (case a => k_is)
    have z_len : mg "len" = none := by refine' PySem.W.mg_none_of KX G ?a; (case a => k_is)
    have z_sorted : mg "sorted" = none := by refine' PySem.W.mg_none_of KX G ?a; (case a => k_is)
    have z_enumerate : mg "enumerate" = none := by refine' PySem.W.mg_none_of KX G ?a; (case a => k_is)
    have z_list : mg "list" = none := by refine' PySem.W.mg_none_of KX G ?a; (case a => k_is)
    have z_int : mg "int" = none := by refine' PySem.W.mg_none_of KX G ?a; (case a => k_is)
    have T : Lw.Txt (L2.KOf KX) mg ⟨C_Process, C_World, f_let_end_come, d_let_end_come, f_end_process, d_end_process, f_tell_linked, d_tell_linked, f_tell_watchers, d_tell_watchers, f_tell_watched, d_tell_watched, f_Process_init, d_Process_init, f_Process_holds_link, d_Process_holds_link, f_World_init, d_World_init, f_World_add_process, d_World_add_process, f_World_begin_number, d_World_begin_number, f_World_send, d_World_send, f_World_place_of_first, d_World_place_of_first, f_arrive, d_arrive, f_arrive_at_living, d_arrive_at_living, f_arrive_at_ended, d_arrive_at_ended, f_take_cut, d_take_cut, f_take_heard, d_take_heard, f_take_ended, d_take_ended, f_take_stop, d_take_stop, f_take_gone, d_take_gone, f_box, d_box, f_process, d_process, f_air, d_air, f_counted, d_counted, f_carry_out, d_carry_out, f_start, d_start, f_child, d_child, f_link, d_link, f_cut, d_cut, f_watch, d_watch, f_unwatch, d_unwatch, f_ends, d_ends, f_stop, d_stop, f_trap, d_trap, f_say, d_say, f_deliver, d_deliver, f_turns, d_turns, f_refusal_of, d_refusal_of, f_lacks_process, d_lacks_process, f_is_misfit, d_is_misfit, f_is_by_ended, d_is_by_ended, f_lacks_room, d_lacks_room, f_lacks_signal, d_lacks_signal, f_answers, d_answers, f_answer_of, d_answer_of, a_NUMBERS_BEHIND⟩ := ⟨cl_Process, m_Process, mk_Process, n_Process_links, n_Process_living, n_Process_notes, n_Process_traps, n_Process_watchers, n_Process_watches, n_Process_why, cl_World, m_World, mk_World, n_World_last_begun, n_World_processes, n_World_signals, F_let_end_come, Lw.bn_let_end_come F_let_end_come, m_let_end_come, F_end_process, Lw.bn_end_process F_end_process, m_end_process, F_tell_linked, Lw.bn_tell_linked F_tell_linked, m_tell_linked, F_tell_watchers, Lw.bn_tell_watchers F_tell_watchers, m_tell_watchers, F_tell_watched, Lw.bn_tell_watched F_tell_watched, m_tell_watched, F_Process_init, Lw.bn_Process_init F_Process_init, F_Process_holds_link, Lw.bn_Process_holds_link F_Process_holds_link, me_Process_holds_link, F_World_init, Lw.bn_World_init F_World_init, F_World_add_process, Lw.bn_World_add_process F_World_add_process, me_World_add_process, F_World_begin_number, Lw.bn_World_begin_number F_World_begin_number, me_World_begin_number, F_World_send, Lw.bn_World_send F_World_send, me_World_send, F_World_place_of_first, Lw.bn_World_place_of_first F_World_place_of_first, me_World_place_of_first, F_arrive, Lw.bn_arrive F_arrive, m_arrive, F_arrive_at_living, Lw.bn_arrive_at_living F_arrive_at_living, m_arrive_at_living, F_arrive_at_ended, Lw.bn_arrive_at_ended F_arrive_at_ended, m_arrive_at_ended, F_take_cut, Lw.bn_take_cut F_take_cut, m_take_cut, F_take_heard, Lw.bn_take_heard F_take_heard, m_take_heard, F_take_ended, Lw.bn_take_ended F_take_ended, m_take_ended, F_take_stop, Lw.bn_take_stop F_take_stop, m_take_stop, F_take_gone, Lw.bn_take_gone F_take_gone, m_take_gone, F_box, Lw.bn_box F_box, m_box, F_process, Lw.bn_process F_process, m_process, F_air, Lw.bn_air F_air, m_air, F_counted, Lw.bn_counted F_counted, m_counted, F_carry_out, Lw.bn_carry_out F_carry_out, m_carry_out, F_start, Lw.bn_start F_start, m_start, F_child, Lw.bn_child F_child, m_child, F_link, Lw.bn_link F_link, m_link, F_cut, Lw.bn_cut F_cut, m_cut, F_watch, Lw.bn_watch F_watch, m_watch, F_unwatch, Lw.bn_unwatch F_unwatch, m_unwatch, F_ends, Lw.bn_ends F_ends, m_ends, F_stop, Lw.bn_stop F_stop, m_stop, F_trap, Lw.bn_trap F_trap, m_trap, F_say, Lw.bn_say F_say, m_say, F_deliver, Lw.bn_deliver F_deliver, m_deliver, F_turns, Lw.bn_turns F_turns, m_turns, F_refusal_of, Lw.bn_refusal_of F_refusal_of, m_refusal_of, F_lacks_process, Lw.bn_lacks_process F_lacks_process, m_lacks_process, F_is_misfit, Lw.bn_is_misfit F_is_misfit, m_is_misfit, F_is_by_ended, Lw.bn_is_by_ended F_is_by_ended, m_is_by_ended, F_lacks_room, Lw.bn_lacks_room F_lacks_room, m_lacks_room, F_lacks_signal, Lw.bn_lacks_signal F_lacks_signal, m_lacks_signal, F_answers, Lw.bn_answers F_answers, m_answers, F_answer_of, Lw.bn_answer_of F_answer_of, m_answer_of, c_CALL_START, c_CALL_CHILD, c_CALL_LINK, c_CALL_CUT, c_CALL_WATCH, c_CALL_UNWATCH, c_CALL_ENDS, c_CALL_STOP, c_CALL_TRAP, c_CALL_SAY, c_CALL_DELIVER, c_CALL_TURNS, c_CALL_BOX, c_CALL_PROCESS, c_CALL_AIR, c_NUMBERS_BEHIND, t_NUMBERS_BEHIND, c_SIGNAL_WORD, c_SIGNAL_LINK, c_SIGNAL_CUT, c_SIGNAL_HEARD, c_SIGNAL_ENDED, c_SIGNAL_STOP, c_SIGNAL_WATCH, c_SIGNAL_UNWATCH, c_SIGNAL_GONE, c_NOTE_WORD, c_NOTE_ENDED, c_NOTE_GONE, c_NOTE_STOP, c_WHY_AS_IT_SHOULD, c_WHY_TO_BE_KILLED, c_WHY_KILLED, c_WHY_NOBODY, c_NOT_REFUSED, c_REFUSED_MISFIT, c_REFUSED_NONE, c_REFUSED_FULL, c_REFUSED_ENDED, c_HOLDS, c_HOW_LINKED, c_HOW_WATCHED, c_MOST_PROCESSES, c_ENOUGH_SIGNALS, c_MOST_HOW, c_MOST_WHY, c_MOST_YES, c_MOST_TURNS, z_len, z_sorted, z_enumerate, z_list, z_int⟩
    have e0 := hmg.symm.trans m_answers
    cases e0
    exact ⟨d_answers, Lw.bt_answers F_answers, fun base _ _ => Lw.ok_answers T⟩
  case S =>
    intro K H xs a hO hwi hask hx
    cases hx with
    | cons h1 h2 =>
      cases h2
      cases h1 with
      | lst hs ha =>
        have e := L2.ints_dw a.1 _ ha
        subst e
        exact ⟨_, a.1, rfl, hs, hask, fun H' p hp => .lst (L2.SqL.of hp) (L2.dw_ints _)⟩
