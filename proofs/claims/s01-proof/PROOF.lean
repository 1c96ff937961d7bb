import PyProof.Rows.All
import Wide.All
import OpenK.AllK
import Wide.FinOn
import PyProof.EqAt
import PyProof.EqKinds
import PyProof.TupleCall
import KE.BitLaws
import Open.SpecLaws
import KE.OsHead
import KE.OsGo
import KE.KSortRegAny
import KE.KDictSum
import PySem.Challenge.RW_onestream_s01_answers
set_option Elab.async false
set_option Elab.async false
set_option linter.all false
set_option maxRecDepth 100000
/-! THE HAND LAYER, for ints, bools, texts, own classes, lists, tuples, dicts, comprehensions, walks over dicts, enumerate, zip, reversed, texts, calls, loops. Paste it whole ahead of your own text; what your proof does not reach may be deleted. -/
namespace L2
open PySem PySem.Spec PyProof.Rows
/-- a key: an int or a str -/
abbrev Key := Sum Int Str
def keyIs : Key → Value → Bool
  | .inl k, v => Value.isInt k v
  | .inr x, v => Value.isStrOf x v
def keyH (w : World) : Key → Int
  | .inl k => hashInt k
  | .inr x => hashStr w x
theorem keyIs_shape : ∀ {k : Key} {v : Value}, keyIs k v = true → (∃ i t, k = Sum.inl i ∧ v = Value.int i t) ∨ (∃ x t, k = Sum.inr x ∧ v = Value.str x t)
  | .inl i, v, h => by
    obtain ⟨t, e⟩ := Value.isInt_shape (k := i) (v := v) h
    exact .inl ⟨i, t, rfl, e⟩
  | .inr x, v, h => by
    obtain ⟨t, e⟩ := Value.isStrOf_shape (x := x) (v := v) h
    exact .inr ⟨x, t, rfl, e⟩
theorem keyIs_int (i : Int) (t : Tok) : keyIs (.inl i) (.int i t) = true := by simp [keyIs, Value.isInt]
theorem keyIs_str (x : Str) (t : Tok) : keyIs (.inr x) (.str x t) = true := by simp [keyIs, Value.isStrOf]
theorem key_ll (a b : Int) : decide ((Sum.inl a : Key) = Sum.inl b) = (a == b) := by
  by_cases e : a = b
  · subst e; simp
  · have h : ¬ (Sum.inl a : Key) = Sum.inl b := fun q => e (Sum.inl.inj q)
    rw [decide_eq_false h]
    exact (beq_eq_false_iff_ne.mpr e).symm
theorem key_rr (a b : Str) : decide ((Sum.inr a : Key) = Sum.inr b) = decide (a = b) := by
  by_cases e : a = b
  · subst e; simp
  · have h : ¬ (Sum.inr a : Key) = Sum.inr b := fun q => e (Sum.inr.inj q)
    rw [decide_eq_false h, decide_eq_false e]
theorem key_lr (a : Int) (b : Str) : decide ((Sum.inl a : Key) = Sum.inr b) = false := decide_eq_false (fun q => nomatch q)
theorem key_rl (a : Str) (b : Int) : decide ((Sum.inr a : Key) = Sum.inl b) = false := decide_eq_false (fun q => nomatch q)
def mixKind (prog : Program) (w : World) : PySem.KeyKind prog w Key where
  is := keyIs
  hash := keyH w
  inj := fun v a b ha hb => by
    rcases keyIs_shape ha with ⟨i, t, rfl, rfl⟩ | ⟨x, t, rfl, rfl⟩
    · rcases keyIs_shape hb with ⟨j, u, rfl, e⟩ | ⟨y, u, rfl, e⟩
      · injection e with e1 _; rw [e1]
      · exact nomatch e
    · rcases keyIs_shape hb with ⟨j, u, rfl, e⟩ | ⟨y, u, rfl, e⟩
      · exact nomatch e
      · injection e with e1 _; rw [e1]
  byValue := fun k v h => by
    rcases keyIs_shape h with ⟨i, t, rfl, rfl⟩ | ⟨x, t, rfl, rfl⟩ <;> rfl
  pyHash := fun hv h => by
    rcases keyIs_shape hv with ⟨i, t, rfl, rfl⟩ | ⟨x, t, rfl, rfl⟩
    · exact wpAny_pyHash_int h
    · exact wpAny_pyHash_str h
  eqBool := fun hu hv h => by
    rcases keyIs_shape hu with ⟨i, t, rfl, rfl⟩ | ⟨x, t, rfl, rfl⟩
    · rcases keyIs_shape hv with ⟨j, u, rfl, rfl⟩ | ⟨y, u, rfl, rfl⟩
      · rw [key_ll] at h; exact wpAny_eqBool_int h
      · rw [key_lr] at h; exact SeqAt.EqAt.int_str i t y u _ _ _ _ h
    · rcases keyIs_shape hv with ⟨j, u, rfl, rfl⟩ | ⟨y, u, rfl, rfl⟩
      · rw [key_rl] at h; exact SeqAt.EqAt.str_int x t j u _ _ _ _ h
      · rw [key_rr] at h; exact wpAny_eqBool_str h
  «strs» := fun k x t v h => by
    rcases keyIs_shape h with ⟨i, u, rfl, e⟩ | ⟨y, u, rfl, e⟩
    · exact nomatch e
    · injection e with e1 _
      subst e1
      cases v <;> rfl
theorem mixKind_int (prog : Program) (w : World) (i : Int) (t : Tok) : (mixKind prog w).is (.inl i) (.int i t) = true := keyIs_int i t
theorem mixKind_str (prog : Program) (w : World) (x : Str) (t : Tok) : (mixKind prog w).is (.inr x) (.str x t) = true := keyIs_str x t
end L2
namespace L2
open PySem PySem.Spec PyProof.Rows
/-- a value, without the heap -/
inductive V where
  | non | bl (b : Bool) | int (i : Int) | str (x : Str) | byt (b : Array UInt8) | flt (b : UInt64) | ref (a : Addr) | ty (n : String)
  deriving DecidableEq
def RelV : V → Value → Prop
  | .non, u => u = Value.none
  | .bl b, u => u = Value.bool b
  | .int i, u => ∃ t, u = Value.int i t
  | .str x, u => ∃ t, u = Value.str x t
  | .byt b, u => ∃ t, u = Value.bytes b t
  | .flt b, u => ∃ t, u = Value.float b t
  | .ref a, u => u = Value.ref a
  | .ty n, u => u = Value.type n
abbrev Vals : List V → List Value → Prop := Paired RelV
theorem Vals.length {xs : List V} {us : List Value} (r : Vals xs us) : xs.length = us.length := Paired.length r
theorem Vals.get : ∀ {xs : List V} {us : List Value} {i : Nat} {x : V}, Vals xs us → xs[i]? = some x → ∃ u, us[i]? = some u ∧ RelV x u
  | _, _, _, _, .nil, e => by simp at e
  | _, _, 0, _, .cons r _, e => by simp at e; subst e; exact ⟨_, rfl, r⟩
  | _, _, i + 1, x, .cons _ t, e => by
    obtain ⟨u, h1, h2⟩ := Vals.get (i := i) (x := x) t (by simpa using e)
    exact ⟨u, by simpa using h1, h2⟩
theorem Vals.append : ∀ {xs ys : List V} {us ws : List Value}, Vals xs us → Vals ys ws → Vals (xs ++ ys) (us ++ ws)
  | _, _, _, _, .nil, s => s
  | _, _, _, _, .cons r t, s => .cons r (Vals.append t s)
theorem Vals.take : ∀ {xs : List V} {us : List Value} (n : Nat), Vals xs us → Vals (xs.take n) (us.take n)
  | _, _, 0, _ => .nil
  | _, _, _ + 1, .nil => .nil
  | _, _, n + 1, .cons r t => .cons r (Vals.take n t)
theorem Vals.drop : ∀ {xs : List V} {us : List Value} (n : Nat), Vals xs us → Vals (xs.drop n) (us.drop n)
  | _, _, 0, r => r
  | _, _, _ + 1, .nil => .nil
  | _, _, n + 1, .cons _ t => Vals.drop n t
def RelO : Option V → Option Value → Prop
  | some v, some u => RelV v u
  | none, none => True
  | _, _ => False
def KV {κ : Type} : List (κ × V) → List (κ × Value) → Prop := Paired fun (p : κ × V) (q : κ × Value) => p.1 = q.1 ∧ RelV p.2 q.2
/-- a key of a dict (00_mix): an int or a text -/
def kV : Key → V
  | .inl i => .int i
  | .inr x => .str x
/-- what stands at a tracked address -/
inductive HO where
  /-- a list -/
  | lst (xs : List V)
  /-- a tuple (never changes) -/
  | tup (xs : List V)
  /-- a dict whose keys are ints and texts; one whose keys are tuples of ints and texts (the empty one is both) -/
  | dK (kvs : List (Key × V)) | dT (kvs : List (List Key × V))
  /-- a set of ints: its members, its size -/
  | set (S : Int → Bool) (n : Nat)
  /-- an instance of the class at C, its dict at dx, its attributes -/
  | ins (C dx : Addr) (fs : List (Str × V))
  /-- the dict of the instance at x -/
  | own (x : Addr)
  /-- the dict of an exception -/
  | xd (fs : List (Str × V))
  /-- a bound method, f of x -/
  | met (f x : Addr)
  /-- a range object lo, lo + 1, .. below hi -/
  | rng (lo hi : Int)
  /-- a thing that is known to the object (the script; a dict while a loop walks it): read, never written while it is so -/
  | frz (o : Obj) (u : HO)
  /-- a code object's table -/
  | tbl (ps : Array Value)
  /-- any other thing, by what is true of its one object (a def of one's own: SetO a S n := HO.ext fun h => ..) -/
  | ext (φ : Heap → Prop)
abbrev Hp := Addr → Option HO
def upd (H : Hp) (a : Addr) (o : HO) : Hp := fun b => if b = a then some o else H b
theorem upd_same {H : Hp} {a : Addr} {o : HO} : upd H a o a = some o := by unfold upd; rw [if_pos rfl]
theorem upd_ne {H : Hp} {a b : Addr} {o : HO} (h : b ≠ a) : upd H a o b = H b := by unfold upd; rw [if_neg h]
/-- two objects of different content stand apart -/
theorem ne_of {H : Hp} {a b : Addr} {o u : HO} (h : H a = some o) (h' : H b = some u) (d : o ≠ u) : a ≠ b := by
  intro e; subst e; rw [h] at h'; exact d (Option.some.inj h')
theorem ne_of_none {H : Hp} {a b : Addr} {o : HO} (h : H a = some o) (h' : H b = none) : a ≠ b := by
  intro e; subst e; rw [h] at h'; cases h'
section
variable (P : Program) (w : World)
def ObjOk (H : Hp) (h : Heap) (a : Addr) : HO → Prop
  | .lst xs => xs.length ≤ sizeLine ∧ ∃ (its : List Value) (n : Nat), Vals xs its ∧ h.get? a = some { cls := .type "list", data := .seq its.toArray n }
  | .tup xs => xs.length ≤ sizeLine ∧ ∃ its : List Value, Vals xs its ∧ IsTup h a its.toArray
  | .dK kvs => kvs.length ≤ sizeLine ∧ (a == sysModules) = false ∧ ∃ vs, KV kvs vs ∧ h.DictOf (mixKind P w) a vs
  | .dT kvs => kvs.length ≤ sizeLine ∧ (a == sysModules) = false ∧ ∃ xs : List (List Key × Addr × Value),
      Paired (fun (p : List Key × V) (q : List Key × Addr × Value) => p.1 = q.1 ∧ H q.2.1 = some (.tup (p.1.map kV)) ∧ RelV p.2 q.2.2) kvs xs ∧
      ∃ o es ep, h.get? a = some o ∧ o.ExactDict ∧ o.data = .dict es ep ∧ es.toList = xs.map (entryOfKey (tupleKind (mixKind P w))) ∧ (xs.map (·.1)).Nodup
  | .set S n => h.SetOf (intKind P w) a S n
  | .ins C dx fs => H dx = some (.own a) ∧ fs.length ≤ 1000 ∧ dx ≠ a ∧ h.get? a = some (PySem.W.instObj C dx) ∧
      ∃ mA, h.Ns1 dx mA ∧ (∀ f, RelO (fs.lookup f) (mA f)) ∧ PySem.Within mA (fs.map (·.1))
  | .own _ => ∃ o, h.get? a = some o
  | .xd fs => ∃ mA, h.Ns1 a mA ∧ ∀ f, RelO (fs.lookup f) (mA f)
  | .rng lo hi => ∃ t u v, h.get? a = some { cls := .type "range", data := .fields #[.int lo t, .int hi u, .int 1 v] }
  | .frz o u => h.get? a = some o ∧ ObjOk H h a u
  | .tbl ps => h.get? a = some { cls := .none, data := .fields ps }
  | .met f x => h.get? a = some (PySem.W.methodObj (.ref f) (.ref x))
  | .ext φ => φ h ∧ (∃ o, h.get? a = some o) ∧ ∀ h1 h2 : Heap, φ h1 → (∀ o, h1.get? a = some o → h2.get? a = some o) → φ h2
/-- the abstract heap is held -/
def HOk (H : Hp) (h : Heap) : Prop := ∀ a o, H a = some o → ObjOk P w H h a o
end
section
variable {P : Program} {w : World} {H H' : Hp} {h h' : Heap} {a : Addr} {o : HO}
theorem ObjOk.lt (x : ObjOk P w H h a o) : a < h.objs.size := by
  cases o with
  | lst xs => obtain ⟨_, _, _, _, e⟩ := x; exact Heap.lt_size e
  | tup xs => obtain ⟨_, _, _, p⟩ := x; exact p.lt
  | dK kvs => obtain ⟨_, _, _, _, o, _, _, e, _⟩ := x; exact Heap.lt_size e
  | dT kvs => obtain ⟨_, _, _, _, o, _, _, e, _⟩ := x; exact Heap.lt_size e
  | set S n => obtain ⟨o, _, _, _, e, _⟩ := x; exact Heap.lt_size e
  | ins C dx fs => obtain ⟨_, _, _, e, _⟩ := x; exact Heap.lt_size e
  | own y => obtain ⟨_, e⟩ := x; exact Heap.lt_size e
  | xd fs => obtain ⟨_, ⟨_, _, _, e, _⟩, _⟩ := x; exact Heap.lt_size e
  | rng lo hi => obtain ⟨_, _, _, e⟩ := x; exact Heap.lt_size e
  | frz ob u => obtain ⟨e, _⟩ := x; exact Heap.lt_size e
  | tbl ps => exact Heap.lt_size (show h.get? a = some _ from x)
  | met f y => exact Heap.lt_size (show h.get? a = some _ from x)
  | ext φ => obtain ⟨_, ⟨_, e⟩, _⟩ := x; exact Heap.lt_size e
theorem Paired.mapP {α β : Type} {F G : α → β → Prop} : ∀ {l₁ : List α} {l₂ : List β}, Paired F l₁ l₂ → (∀ a b, F a b → G a b) → Paired G l₁ l₂
  | _, _, .nil, _ => .nil
  | _, _, .cons r t, f => .cons (f _ _ r) (Paired.mapP t f)
/-- what an object's description leans on: its own object, its own dict, the tuples -/
theorem ObjOk.stay (x : ObjOk P w H h a o) (k : ∀ b u, (b = a ∨ H b = some (.own a)) → h.get? b = some u → h'.get? b = some u)
    (ho : ∀ b, H b = some (.own a) → H' b = some (.own a)) (ht : ∀ b xs, H b = some (.tup xs) → H' b = some (.tup xs)) : ObjOk P w H' h' a o := by
  induction o with
  | lst xs => obtain ⟨z, its, n, r, e⟩ := x; exact ⟨z, its, n, r, k _ _ (.inl rfl) e⟩
  | tup xs => obtain ⟨z, its, r, ob, e, c⟩ := x; exact ⟨z, its, r, ob, k _ _ (.inl rfl) e, c⟩
  | dK kvs => obtain ⟨z, y, vs, r, ob, es, ep, e, c⟩ := x; exact ⟨z, y, vs, r, ob, es, ep, k _ _ (.inl rfl) e, c⟩
  | dT kvs =>
    obtain ⟨z, y, xs, r, ob, es, ep, e, c⟩ := x
    exact ⟨z, y, xs, Paired.mapP r fun p q z => ⟨z.1, ht _ _ z.2.1, z.2.2⟩, ob, es, ep, k _ _ (.inl rfl) e, c⟩
  | set S n => obtain ⟨ob, es, ep, t, e, c⟩ := x; exact ⟨ob, es, ep, t, k _ _ (.inl rfl) e, c⟩
  | ins C dx fs =>
    obtain ⟨d, z, ne, e, mA, ⟨od, es, ep, e2, c⟩, r⟩ := x
    exact ⟨ho _ d, z, ne, k _ _ (.inl rfl) e, mA, ⟨od, es, ep, k _ _ (.inr d) e2, c⟩, r⟩
  | own y => obtain ⟨ob, e⟩ := x; exact ⟨ob, k _ _ (.inl rfl) e⟩
  | xd fs => obtain ⟨mA, ⟨od, es, ep, e, c⟩, r⟩ := x; exact ⟨mA, ⟨od, es, ep, k _ _ (.inl rfl) e, c⟩, r⟩
  | rng lo hi => obtain ⟨t, u, v, e⟩ := x; exact ⟨t, u, v, k _ _ (.inl rfl) e⟩
  | frz ob u ih => obtain ⟨e, q⟩ := x; exact ⟨k _ _ (.inl rfl) e, ih q⟩
  | tbl ps =>
    have e : h.get? a = some { cls := .none, data := .fields ps } := x
    show h'.get? a = some { cls := .none, data := .fields ps }
    exact k a _ (.inl rfl) e
  | met f y =>
    have e : h.get? a = some (PySem.W.methodObj (.ref f) (.ref y)) := x
    show h'.get? a = some (PySem.W.methodObj (.ref f) (.ref y))
    exact k a _ (.inl rfl) e
  | ext φ => obtain ⟨p, ⟨o, e⟩, st⟩ := x; exact ⟨st _ _ p fun o q => k _ _ (.inl rfl) q, ⟨o, k _ _ (.inl rfl) e⟩, st⟩
theorem HOk.lt (x : HOk P w H h) (e : H a = some o) : a < h.objs.size := (x a o e).lt
theorem HOk.fresh (x : HOk P w H h) (e : h.objs.size ≤ a) : H a = none := by
  cases q : H a with
  | none => rfl
  | some u => exact absurd (Nat.lt_of_lt_of_le (x.lt q) e) (Nat.lt_irrefl _)
/-- every object of the heap is kept -/
theorem HOk.kept (x : HOk P w H h) (k : ∀ b u, h.get? b = some u → h'.get? b = some u) : HOk P w H h' := fun a o e =>
  (x a o e).stay (fun b u _ q => k b u q) (fun _ q => q) fun _ _ q => q
/-- a new object is laid and tracked -/
theorem HOk.laid (x : HOk P w H h) (k : ∀ b u, h.get? b = some u → h'.get? b = some u) (hp : h.objs.size ≤ a) (new : ObjOk P w (upd H a o) h' a o) : HOk P w (upd H a o) h' := fun b u e => by
  have hn := x.fresh hp
  by_cases hb : b = a
  · subst hb; rw [upd_same] at e; cases e; exact new
  · rw [upd_ne hb] at e
    exact (x b u e).stay (fun c v _ q => k c v q) (fun c q => by rw [upd_ne (ne_of_none q hn)]; exact q) fun c xs q => by rw [upd_ne (ne_of_none q hn)]; exact q
end
/-- what may be read as u: it is u, or a known u -/
def Rd (H : Hp) (a : Addr) (u : HO) : Prop := H a = some u ∨ ∃ o, H a = some (.frz o u)
theorem Rd.ok {P : Program} {w : World} {H : Hp} {h : Heap} {a : Addr} {u : HO} (r : Rd H a u) (x : HOk P w H h) : ObjOk P w H h a u := by
  rcases r with r | ⟨o, r⟩
  · exact x a u r
  · obtain ⟨_, q⟩ := x a _ r
    exact q
/-- what may be written -/
def Mut : Option HO → Prop
  | some (.lst _) => True
  | some (.dK _) => True
  | some (.dT _) => True
  | some (.set _ _) => True
  | some (.ins _ _ _) => True
  | some (.ext _) => True
  | _ => False
section
variable {P : Program} {w : World} {H : Hp} {h h' : Heap} {x e : Addr} {o' : HO}
/-- the object at e is changed: x itself, or the dict of the instance x -/
theorem HOk.write (ok : HOk P w H h) (mu : Mut (H x)) (he : e = x ∨ H e = some (.own x)) (k : ∀ b u, b ≠ e → h.get? b = some u → h'.get? b = some u) (heo : ∃ u, h'.get? e = some u)
    (new : ObjOk P w (upd H x o') h' x o') : HOk P w (upd H x o') h' := fun b u q => by
  have nown : ∀ c y, H c = some (.own y) → c ≠ x := fun c y r z => by subst z; rw [r] at mu; exact mu
  have ntup : ∀ c xs, H c = some (.tup xs) → c ≠ x := fun c xs r z => by subst z; rw [r] at mu; exact mu
  by_cases hb : b = x
  · subst hb; rw [upd_same] at q; cases q; exact new
  · rw [upd_ne hb] at q
    by_cases hbe : b = e
    · have q' : H b = some (.own x) := by
        rcases he with z | z
        · exact absurd (hbe.trans z) hb
        · rw [hbe]; exact z
      rw [q] at q'; cases q'
      obtain ⟨v, hv⟩ := heo
      exact ⟨v, by rw [hbe]; exact hv⟩
    · refine (ok b u q).stay (fun c v hc r => k c v ?_ r) (fun c r => by rw [upd_ne (nown c b r)]; exact r) fun c xs r => by rw [upd_ne (ntup c xs r)]; exact r
      rcases hc with rfl | hc
      · exact hbe
      · rintro rfl
        rcases he with z | z
        · exact nown c b hc z
        · rw [hc] at z; cases z; exact hb rfl
end
/-! ### kept unless tracked; of the frames at fs (the callers') the slots may change (an exception that passes writes there); of the records at ex (iterators) nothing is said -/
structure Un (fs ex : List Addr) (H H' : Hp) (h h' : Heap) : Prop where
  keep : ∀ b o, h.get? b = some o → H b = none → b ∉ fs → b ∉ ex → h'.get? b = some o
  slot : ∀ b o, h.get? b = some o → H b = none → b ∈ fs → b ∉ ex → ∃ sl, h'.get? b = some { o with slots := sl }
  free : ∀ b o, h.get? b = some o → H b = none → b ∉ ex → H' b = none
  there : ∀ b o, h.get? b = some o → b ∉ ex → ∃ o', h'.get? b = some o'
  tups : ∀ b xs, H b = some (.tup xs) → H' b = some (.tup xs)
  frzs : ∀ b o u, H b = some (.frz o u) → H' b = some (.frz o u)
  tbls : ∀ b ps, H b = some (.tbl ps) → ∃ more, H' b = some (.tbl (ps ++ more))
section
variable {fs fs' ex ex' : List Addr} {H H1 H2 : Hp} {h h1 h2 h' : Heap} {a x e : Addr} {o : HO}
theorem Un.any (u : Un fs ex H H1 h h1) {b : Addr} {ob : Obj} (q : h.get? b = some ob) (n : H b = none) (hx : b ∉ ex) : ∃ sl, h1.get? b = some { ob with slots := sl } := by
  by_cases hb : b ∈ fs
  · exact u.slot b ob q n hb hx
  · exact ⟨ob.slots, u.keep b ob q n hb hx⟩
theorem Un.kept (k : ∀ b u, h.get? b = some u → h'.get? b = some u) : Un fs ex H H h h' :=
  ⟨fun b ob q _ _ _ => k b ob q, fun b ob q _ _ _ => ⟨ob.slots, k b ob q⟩, fun _ _ _ n _ => n, fun b ob q _ => ⟨ob, k b ob q⟩, fun _ _ q => q, fun _ _ _ q => q, fun _ ps q => ⟨#[], by rw [q]; simp⟩⟩
theorem Un.refl : Un fs ex H H h h := Un.kept fun _ _ q => q
theorem Un.laid (k : ∀ b u, h.get? b = some u → h'.get? b = some u) (hp : h.objs.size ≤ a) (hn : H a = none) : Un fs ex H (upd H a o) h h' where
  keep := fun b u q _ _ _ => k b u q
  slot := fun b u q _ _ _ => ⟨u.slots, k b u q⟩
  free := fun b u q n _ => by rw [upd_ne (Nat.ne_of_lt (Nat.lt_of_lt_of_le (Heap.lt_size q) hp))]; exact n
  there := fun b u q _ => ⟨u, k b u q⟩
  tups := fun b xs q => by rw [upd_ne (ne_of_none q hn)]; exact q
  frzs := fun b u xs q => by rw [upd_ne (ne_of_none q hn)]; exact q
  tbls := fun b ps q => ⟨#[], by rw [upd_ne (ne_of_none q hn), q]; simp⟩
theorem Un.write (mu : Mut (H x)) (he : e = x ∨ H e = some (.own x)) (k : ∀ b u, b ≠ e → h.get? b = some u → h'.get? b = some u) (heo : ∃ u, h'.get? e = some u) : Un fs ex H (upd H x o) h h' := by
  have hx : ∀ b, H b = none → b ≠ x := fun b n z => by subst z; rw [n] at mu; exact mu
  have hb : ∀ b, H b = none → b ≠ e := fun b n z => by
    subst z
    rcases he with r | r
    · exact hx b n r
    · rw [n] at r; cases r
  have hm : ∀ b u, H b = some u → ¬ Mut (some u) → b ≠ x := fun b u q nm z => by subst z; rw [q] at mu; exact nm mu
  refine ⟨fun b u q n _ _ => k b u (hb b n) q, fun b u q n _ _ => ⟨u.slots, k b u (hb b n) q⟩, fun b u q n _ => by rw [upd_ne (hx b n)]; exact n, fun b u q _ => ?_,
    fun b xs q => by rw [upd_ne (hm b _ q fun z => z)]; exact q, fun b u xs q => by rw [upd_ne (hm b _ q fun z => z)]; exact q, fun b ps q => ⟨#[], by rw [upd_ne (hm b _ q fun z => z), q]; simp⟩⟩
  by_cases hbe : b = e
  · subst hbe; exact heo
  · exact ⟨u, k b u hbe q⟩
end
/-! ### the heap without what is tracked -/
def trk (h : Heap) (H : Hp) : List Addr := (List.range h.objs.size).filter fun a => (H a).isSome
def hidT (h : Heap) (H : Hp) : Heap := PySem.W.hideAll h (trk h H)
theorem hidT_size (h : Heap) (H : Hp) : (hidT h H).objs.size = h.objs.size := PySem.W.hideAll_size _ _
theorem hidT_get {h : Heap} {H : Hp} {b : Addr} {o : Obj} (e : h.get? b = some o) (n : H b = none) : (hidT h H).get? b = some o :=
  PySem.W.hideAll_get _ e fun hm => by
    have q : (H b).isSome = true := (List.mem_filter.mp hm).2
    rw [n] at q; simp at q
theorem of_hidT {h : Heap} {H : Hp} {b : Addr} {o : Obj} (e : (hidT h H).get? b = some o) : h.get? b = some o ∧ H b = none := by
  have e' : h.get? b = some o := PySem.W.of_hideAll (trk h H) e
  refine ⟨e', ?_⟩
  cases q : H b with
  | none => rfl
  | some x =>
    have hm : b ∈ trk h H := List.mem_filter.mpr ⟨List.mem_range.mpr (Heap.lt_size e'), by simp [q]⟩
    have z : (hidT h H).get? b = none := PySem.W.hideAll_none (trk h H) hm
    rw [z] at e; cases e
/-! ### OpenK's ledger, filled with every new object but one -/
end L2
namespace L2
open PySem PySem.Spec PyProof.Rows
/-- the module's facts, over the base: the heap at the law's entry without what is tracked there -/
structure Mod (K : PySem.W.Frag) (mg : Str → Option Value) (base : Heap) : Prop where
  kin : K.In base
  glob : base.Ns mainGlobals mg
  blt : ∃ mb, base.Ns builtinsNs mb ∧ ∀ x : Str, x ≠ "__name__" → mb x = bootBuiltins x
  nolimit : base.NoLimit
/-- the context: a def's body (or a comprehension's block) running. base: fixed through the whole law; s₀, H₀: the entry; outer: the frames whose slots others may change (a def's callers); stack: all frames that run;
   ex: iterators that were made ahead of the entry and are walked here (a comprehension's); fn: the names whose cells were made at the entry (a def: all; a comprehension's block: its own); calm: not within an except suite; pn: pins that every state bears; xe: what is wanted of an exception that leaves the code -/
structure Cx where
  prog : Program
  w : World
  K : PySem.W.Frag
  mg : Str → Option Value
  base : Heap
  A : Around
  N : List Str
  s_0 : Shared
  H_0 : Hp
  env : Env
  outer : List Env
  stack : List Env
  ex : List Addr
  fn : Str → Bool
  calm : Bool
  pn : List (Addr × Obj)
  xe : Value → Shared → Prop
/-- the callers' frames -/
def frs (l : List Env) : List Addr := l.filterMap (·.frame)
abbrev Cx.fs (X : Cx) : List Addr := frs X.outer
def Vis (sc : Scope) (x : Str) : Prop := sc.names.lookup x = some .local ∨ sc.names.lookup x = some .cell ∨ sc.names.lookup x = some .free
def Loc (sc : Scope) (x : Str) : Prop := sc.names.lookup x = some .local ∨ sc.names.lookup x = some .cell
def Look (env : Env) (h : Heap) (m : Str → Option Value) (x : Str) (u : Value) : Prop :=
  (env.kindOf x = some .local ∧ m x = some u) ∨ ((env.kindOf x = some .cell ∨ env.kindOf x = some .free) ∧ ∃ c, env.cells.lookup x = some c ∧ h.IsCell c (some u))
structure Cx.Ok (X : Cx) : Prop where
  mod : Mod X.K X.mg X.base
  kind : X.env.scope.kind = .function
  glob : X.env.globals = mainGlobals
  blt : X.env.builtins = builtinsNs
  above : X.s_0.heap.objs.size ≤ X.env.locals
  inj : ∀ x y c, X.env.cells.lookup x = some c → X.env.cells.lookup y = some c → x = y
  has : ∀ x, (X.env.kindOf x = some .cell ∨ X.env.kindOf x = some .free) → ∃ c, X.env.cells.lookup x = some c
  cab : ∀ x c, X.fn x = true → X.env.cells.lookup x = some c → X.s_0.heap.objs.size ≤ c
  hd : X.calm = true → X.A.handled = none
  frames : X.A.frames = some X.stack
  stk : X.stack = X.outer ∨ (X.stack = X.env :: X.outer ∧ X.env.frame = some X.env.locals)
  exf : ∀ b ∈ X.ex, b ≠ X.env.locals ∧ ∀ x c, X.env.cells.lookup x = some c → c ≠ b
  bs : ∀ b o, X.base.get? b = some o → X.s_0.heap.get? b = some o ∧ X.H_0 b = none
  bsz : X.base.objs.size ≤ X.s_0.heap.objs.size
  noex : ∀ b o, X.base.get? b = some o → b ∉ X.ex
  exfs : ∀ b ∈ X.ex, b ∉ X.fs
  funs : X.s_0.heap.FunFrames X.base X.outer
  frf : ∀ b ∈ X.fs, X.H_0 b = none
structure Inv (X : Cx) (pins : List (Addr × Obj)) (σ : List (Option V)) (H : Hp) (s : Shared) : Prop where
  ok : X.Ok
  os : s.os = X.s_0.os
  bare : AllBare s.gens
  base : Un X.fs X.ex X.H_0 H X.s_0.heap s.heap
  loc : ∃ m, s.heap.Ns X.env.locals m ∧ ∀ (i : Nat) (x : Str) (v : V), X.N[i]? = some x → σ[i]? = some (some v) → Vis X.env.scope x → ∃ u, RelV v u ∧ Look X.env s.heap m x u
  cell : ∀ x c, X.env.cells.lookup x = some c → ∃ v, s.heap.IsCell c v
  free : H X.env.locals = none
  freeC : ∀ x c, X.env.cells.lookup x = some c → H c = none
  pin : ∀ p ∈ X.pn ++ pins, s.heap.get? p.1 = some p.2 ∧ H p.1 = none ∧ p.1 ≠ X.env.locals ∧ p.1 ∉ X.fs ∧ ∀ v, p.2.data ≠ .cell v
  hok : HOk X.prog X.w H s.heap
  len : σ.length = X.N.length
section
variable {X : Cx} {pins : List (Addr × Obj)} {σ : List (Option V)} {H H' : Hp} {s : Shared} {h' : Heap}
theorem Cx.Ok.nofr (ok : X.Ok) {b : Addr} {o : Obj} (e : X.base.get? b = some o) : b ∉ X.fs := fun hb => by
  have := (ok.funs.mem hb).1
  rw [e] at this; cases this
theorem Inv.bs (I : Inv X pins σ H s) : ∀ b o, X.base.get? b = some o → s.heap.get? b = some o ∧ H b = none := fun b o e =>
  ⟨I.base.keep b o (I.ok.bs b o e).1 (I.ok.bs b o e).2 (I.ok.nofr e) (I.ok.noex b o e), I.base.free b o (I.ok.bs b o e).1 (I.ok.bs b o e).2 (I.ok.noex b o e)⟩
theorem Inv.bk (I : Inv X pins σ H s) : ∀ b o, X.base.get? b = some o → s.heap.get? b = some o := fun b o e => (I.bs b o e).1
theorem Inv.mod (I : Inv X pins σ H s) : Mod X.K X.mg X.base := I.ok.mod
theorem Inv.kIn (I : Inv X pins σ H s) : X.K.In s.heap := I.ok.mod.kin.keeps I.bk
theorem Inv.lt (I : Inv X pins σ H s) : X.env.locals < s.heap.objs.size := let ⟨_, hn, _⟩ := I.loc; hn.lt
theorem Inv.sz (I : Inv X pins σ H s) : X.s_0.heap.objs.size ≤ s.heap.objs.size := Nat.le_trans I.ok.above (Nat.le_of_lt I.lt)
theorem Inv.nofs (I : Inv X pins σ H s) {a : Addr} (h : s.heap.objs.size ≤ a) : a ∉ X.fs := fun hb => by
  obtain ⟨_, o, ho, _⟩ := I.ok.funs.mem hb
  exact absurd (Nat.lt_of_lt_of_le (Heap.lt_size ho) (Nat.le_trans I.sz h)) (Nat.lt_irrefl _)
theorem Inv.cne (I : Inv X pins σ H s) : ∀ x c, X.env.cells.lookup x = some c → c ≠ X.env.locals := fun x c e z => by
  obtain ⟨v, o, ho, hd⟩ := I.cell x c e
  obtain ⟨m, ⟨o', es, ep, ho', hd', _⟩, _⟩ := I.loc
  rw [z, ho'] at ho; cases ho; rw [hd'] at hd; cases hd
theorem Inv.funs (I : Inv X pins σ H s) : s.heap.FunFrames X.base X.outer := by
  have all : ∀ (l : List Env), (∀ b ∈ frs l, b ∈ X.fs) → X.s_0.heap.FunFrames X.base l → s.heap.FunFrames X.base l := by
    intro l
    induction l with
    | nil => intro _ _; trivial
    | cons env r ih =>
      intro hs hl
      obtain ⟨hk, ⟨L, o, hf, hn, ho, hd⟩, hr⟩ := hl
      have hL : L ∈ X.fs := hs L (by unfold frs; rw [List.filterMap_cons, hf]; exact List.mem_cons_self)
      obtain ⟨sl, e⟩ := I.base.slot L o ho (I.ok.frf L hL) hL fun z => I.ok.exfs L z hL
      exact ⟨hk, ⟨L, _, hf, hn, e, hd⟩, ih (fun b hb => hs b (by unfold frs; rw [List.filterMap_cons, hf]; exact List.mem_cons_of_mem _ hb)) hr⟩
  exact all X.outer (fun _ hb => hb) I.ok.funs
/-- the frames that run, for a call -/
theorem Inv.stack (I : Inv X pins σ H s) : s.heap.FunFrames X.base X.stack := by
  rcases I.ok.stk with e | ⟨e, hf⟩
  · rw [e]; exact I.funs
  · rw [e]
    obtain ⟨m, hn, _⟩ := I.loc
    refine .cons (by rw [I.ok.kind]; decide) hf hn ?_ I.funs
    exact Heap.get?_none_of_le (Nat.le_trans I.ok.bsz I.ok.above)
theorem Inv.stkSub (I : Inv X pins σ H s) : ∀ b ∈ frs X.stack, b ∈ X.env.locals :: X.fs := fun b hb => by
  rcases I.ok.stk with e | ⟨e, hf⟩
  · rw [e] at hb; exact List.mem_cons_of_mem _ hb
  · rw [e] at hb
    unfold frs at hb
    rw [List.filterMap_cons, hf] at hb
    exact hb
theorem Inv.stkFree (I : Inv X pins σ H s) : ∀ b ∈ frs X.stack, H b = none := fun b hb => by
  rcases List.mem_cons.mp (I.stkSub b hb) with e | hb
  · rw [e]; exact I.free
  · obtain ⟨_, o, ho, _⟩ := I.ok.funs.mem hb
    exact I.base.free b o ho (I.ok.frf b hb) fun z => I.ok.exfs b z hb
/-- THE STEP: the untracked objects but the frame and the records at ch are kept (the callers' frames up to slots), the frame's map is kept, the new abstract heap is held -/
theorem Inv.step {g' : Array GenState} {t' : Nat} {d' : Drawn} {ch : List Addr} (I : Inv X pins σ H s)
    (hch : ∀ b ∈ ch, (b ∈ X.ex ∨ X.s_0.heap.objs.size ≤ b) ∧ b ≠ X.env.locals ∧ (∀ x c, X.env.cells.lookup x = some c → c ≠ b) ∧ ∀ p ∈ X.pn ++ pins, p.1 ≠ b)
    (keep : ∀ b o, b ≠ X.env.locals → b ∉ X.fs → b ∉ ch → s.heap.get? b = some o → H b = none → h'.get? b = some o)
    (slot : ∀ b o, b ≠ X.env.locals → b ∈ X.fs → b ∉ ch → s.heap.get? b = some o → H b = none → ∃ sl, h'.get? b = some { o with slots := sl }) (free : ∀ b o, b ∉ ch → s.heap.get? b = some o → H b = none → H' b = none)
    (there : ∀ b o, b ∉ ch → s.heap.get? b = some o → ∃ o', h'.get? b = some o')
    (tups : ∀ b xs, H b = some (.tup xs) → H' b = some (.tup xs)) (frzs : ∀ b o u, H b = some (.frz o u) → H' b = some (.frz o u)) (tbls : ∀ b ps, H b = some (.tbl ps) → ∃ more, H' b = some (.tbl (ps ++ more)))
    (ns : ∀ m, s.heap.Ns X.env.locals m → h'.Ns X.env.locals m) (hok : HOk X.prog X.w H' h') (hg : AllBare g') :
    Inv X pins σ H' { s with heap := h', gens := g', drawn := d', toks := t' } := by
  have neL : ∀ b o, X.s_0.heap.get? b = some o → b ≠ X.env.locals := fun b o e => Nat.ne_of_lt (Nat.lt_of_lt_of_le (Heap.lt_size e) I.ok.above)
  have neC : ∀ b o, X.s_0.heap.get? b = some o → b ∉ X.ex → b ∉ ch := fun b o e hx hb => by
    rcases (hch b hb).1 with z | z
    · exact hx z
    · exact absurd (Nat.lt_of_lt_of_le (Heap.lt_size e) z) (Nat.lt_irrefl _)
  have cellK : ∀ x c, X.env.cells.lookup x = some c → ∀ v, s.heap.IsCell c v → h'.IsCell c v := fun x c e v ⟨o, ho, hd⟩ => by
    have nch : c ∉ ch := fun z => (hch c z).2.2.1 x c e rfl
    by_cases hc : c ∈ X.fs
    · obtain ⟨sl, q⟩ := slot c o (I.cne x c e) hc nch ho (I.freeC x c e)
      exact ⟨_, q, hd⟩
    · exact ⟨o, keep c o (I.cne x c e) hc nch ho (I.freeC x c e), hd⟩
  refine ⟨I.ok, I.os, hg, ⟨fun b o e n hb hx => ?_, fun b o e n hb hx => ?_, fun b o e n hx => ?_, fun b o e hx => ?_, fun b xs e => tups b xs (I.base.tups b xs e), fun b o xs e => frzs b o xs (I.base.frzs b o xs e), fun b ps e => ?_⟩, ?_, fun x c e => ?_, ?_, fun x c e => ?_, fun p hp => ?_, hok, I.len⟩
  · exact keep b o (neL b o e) hb (neC b o e hx) (I.base.keep b o e n hb hx) (I.base.free b o e n hx)
  · obtain ⟨sl, e1⟩ := I.base.slot b o e n hb hx
    obtain ⟨sl', e2⟩ := slot b _ (neL b o e) hb (neC b o e hx) e1 (I.base.free b o e n hx)
    exact ⟨sl', e2⟩
  · obtain ⟨o', e1⟩ := I.base.there b o e hx
    exact free b o' (neC b o e hx) e1 (I.base.free b o e n hx)
  · obtain ⟨o', e1⟩ := I.base.there b o e hx
    exact there b o' (neC b o e hx) e1
  · obtain ⟨m1, e1⟩ := I.base.tbls b ps e
    obtain ⟨m2, e2⟩ := tbls b _ e1
    exact ⟨m1 ++ m2, by rw [e2, Array.append_assoc]⟩
  · obtain ⟨m, hn, hl⟩ := I.loc
    refine ⟨m, ns m hn, fun i x v e1 e2 e3 => ?_⟩
    obtain ⟨u, r, l⟩ := hl i x v e1 e2 e3
    refine ⟨u, r, ?_⟩
    rcases l with l | ⟨k, c, e, z⟩
    · exact .inl l
    · exact .inr ⟨k, c, e, cellK x c e _ z⟩
  · obtain ⟨v, z⟩ := I.cell x c e
    exact ⟨v, cellK x c e v z⟩
  · obtain ⟨m, ⟨o, _, _, ho, _⟩, _⟩ := I.loc
    exact free _ o (fun z => (hch _ z).2.1 rfl) ho I.free
  · obtain ⟨v, o, ho, hd⟩ := I.cell x c e
    exact free c o (fun z => (hch c z).2.2.1 x c e rfl) ho (I.freeC x c e)
  · obtain ⟨e, n, ne, nf, d⟩ := I.pin p hp
    have nch : p.1 ∉ ch := fun z => (hch p.1 z).2.2.2 p hp rfl
    exact ⟨keep p.1 p.2 ne nf nch e n, free p.1 p.2 nch e n, ne, nf, d⟩
/-- .. where the frame's own object is kept too -/
theorem Inv.un {t' : Nat} (I : Inv X pins σ H s) (u : Un X.fs [] H H' s.heap h') (hok : HOk X.prog X.w H' h') : Inv X pins σ H' { s with heap := h', toks := t' } := by
  obtain ⟨m, ⟨o, es, ep, ho, r⟩, _⟩ := id I.loc
  obtain ⟨sl, hL⟩ := u.any ho I.free (by simp)
  exact I.step (g' := s.gens) (d' := s.drawn) (ch := []) (fun _ z => nomatch z) (fun b o _ hb _ e n => u.keep b o e n hb (by simp)) (fun b o _ hb _ e n => u.slot b o e n hb (by simp)) (fun b o _ e n => u.free b o e n (by simp)) (fun b o _ e => u.there b o e (by simp)) u.tups u.frzs u.tbls (fun m' hm => by
    obtain ⟨o', es', ep', ho', r'⟩ := hm
    rw [ho] at ho'; cases ho'
    exact ⟨_, es', ep', hL, r'⟩) hok I.bare
/-- behind a call (or a comprehension's block): the slots of this frame may have changed too, the records at ch may have turned -/
theorem Inv.call {g' : Array GenState} {t' : Nat} {d' : Drawn} {ch : List Addr} (I : Inv X pins σ H s) (u : Un (frs X.stack) ch H H' s.heap h') (hok : HOk X.prog X.w H' h') (hg : AllBare g')
    (hch : ∀ b ∈ ch, (b ∈ X.ex ∨ X.s_0.heap.objs.size ≤ b) ∧ b ≠ X.env.locals ∧ (∀ x c, X.env.cells.lookup x = some c → c ≠ b) ∧ ∀ p ∈ X.pn ++ pins, p.1 ≠ b) :
    Inv X pins σ H' { s with heap := h', gens := g', drawn := d', toks := t' } := by
  obtain ⟨m, ⟨o, es, ep, ho, r⟩, _⟩ := id I.loc
  obtain ⟨sl, hL⟩ := u.any ho I.free fun z => (hch _ z).2.1 rfl
  exact I.step (ch := ch) hch (fun b o hL hb hc e n => u.keep b o e n (fun z => (List.mem_cons.mp (I.stkSub b z)).elim hL hb) hc) (fun b o _ _ hc e n => u.any e n hc) (fun b o hc e n => u.free b o e n hc) (fun b o hc e => u.there b o e hc) u.tups u.frzs u.tbls (fun m' hm => by
    obtain ⟨o', es', ep', ho', r'⟩ := hm
    rw [ho] at ho'; cases ho'
    exact ⟨_, es', ep', hL, r'⟩) hok hg
/-- an untracked record of ours (an iterator) has turned -/
theorem Inv.turned {t' : Nat} {it : Addr} (I : Inv X pins σ H s) (k : ∀ b o, b ≠ it → s.heap.get? b = some o → h'.get? b = some o) (hn : H it = none) (hL : it ≠ X.env.locals)
    (h1 : it ∈ X.ex ∨ X.s_0.heap.objs.size ≤ it) (h2 : ∀ x c, X.env.cells.lookup x = some c → c ≠ it) (h3 : ∀ p ∈ X.pn ++ pins, p.1 ≠ it) : Inv X pins σ H { s with heap := h', toks := t' } := by
  have nit : ∀ b u, H b = some u → b ≠ it := fun b u e z => by rw [z, hn] at e; cases e
  refine I.step (g' := s.gens) (d' := s.drawn) (ch := [it]) (fun b hb => ?_) (fun b o _ _ hc e _ => k b o (fun z => hc (by simp [z])) e) (fun b o _ _ hc e _ => ⟨o.slots, k b o (fun z => hc (by simp [z])) e⟩) (fun _ _ _ _ n => n)
    (fun b o hc e => ⟨o, k b o (fun z => hc (by simp [z])) e⟩) (fun _ _ e => e) (fun _ _ _ e => e) (fun b ps e => ⟨#[], by rw [e]; simp⟩) (fun m hm => ?_) (fun b u e => ?_) I.bare
  · have e : b = it := by simpa using hb
    subst e
    exact ⟨h1, hL, h2, h3⟩
  · obtain ⟨o, es, ep, ho, r⟩ := hm
    exact ⟨o, es, ep, k _ o (Ne.symm hL) ho, r⟩
  · refine (I.hok b u e).stay (fun c v hc q => k c v ?_ q) (fun _ q => q) fun _ _ q => q
    rcases hc with z | z
    · rw [z]; exact nit b u e
    · exact nit c _ z
theorem Inv.tok (I : Inv X pins σ H s) (t : Nat) : Inv X pins σ H { s with toks := t } := I.un (h' := s.heap) (t' := t) Un.refl I.hok
/-- all objects kept -/
theorem Inv.kept {t' : Nat} (I : Inv X pins σ H s) (k : ∀ b u, s.heap.get? b = some u → h'.get? b = some u) : Inv X pins σ H { s with heap := h', toks := t' } := I.un (Un.kept k) (I.hok.kept k)
/-- a new object laid and tracked -/
theorem Inv.laid {a : Addr} {o : HO} {t' : Nat} (I : Inv X pins σ H s) (k : ∀ b u, s.heap.get? b = some u → h'.get? b = some u) (hp : s.heap.objs.size ≤ a) (new : ObjOk X.prog X.w (upd H a o) h' a o) :
    Inv X pins σ (upd H a o) { s with heap := h', toks := t' } := I.un (Un.laid k hp (I.hok.fresh hp)) (I.hok.laid k hp new)
/-- an object written -/
theorem Inv.write {x e : Addr} {o : HO} {t' : Nat} (I : Inv X pins σ H s) (mu : Mut (H x)) (he : e = x ∨ H e = some (.own x)) (k : ∀ b u, b ≠ e → s.heap.get? b = some u → h'.get? b = some u) (heo : ∃ u, h'.get? e = some u)
    (new : ObjOk X.prog X.w (upd H x o) h' x o) : Inv X pins σ (upd H x o) { s with heap := h', toks := t' } := I.un (Un.write mu he k heo) (I.hok.write mu he k heo new)
/-- forgetting slots, pins -/
theorem Inv.weak {σ' : List (Option V)} (I : Inv X pins σ H s) (hl : σ'.length = σ.length) (w : ∀ (i : Nat) v, σ'[i]? = some (some v) → σ[i]? = some (some v)) : Inv X pins σ' H s :=
  ⟨I.ok, I.os, I.bare, I.base, let ⟨m, hn, hl'⟩ := I.loc; ⟨m, hn, fun i x v e1 e2 e3 => hl' i x v e1 (w i v e2) e3⟩, I.cell, I.free, I.freeC, I.pin, I.hok, hl.trans I.len⟩
theorem Inv.pins_of {pins' : List (Addr × Obj)} (I : Inv X pins σ H s) (h : ∀ p ∈ pins', s.heap.get? p.1 = some p.2 ∧ H p.1 = none ∧ p.1 ≠ X.env.locals ∧ p.1 ∉ X.fs ∧ ∀ v, p.2.data ≠ .cell v) : Inv X pins' σ H s :=
  ⟨I.ok, I.os, I.bare, I.base, I.loc, I.cell, I.free, I.freeC, fun p hp => (List.mem_append.mp hp).elim (fun z => I.pin p (List.mem_append_left _ z)) (h p), I.hok, I.len⟩
theorem nodup_ix {N : List Str} (hN : N.Nodup) {i j : Nat} {x : Str} (a : N[i]? = some x) (b : N[j]? = some x) : i = j := by
  obtain ⟨h1, e1⟩ := List.getElem?_eq_some_iff.mp a
  obtain ⟨h2, e2⟩ := List.getElem?_eq_some_iff.mp b
  exact (List.getElem_inj hN).mp (e1.trans e2.symm)
/-- a name is stored; what changed -/
theorem store_ok2 {M : Model} {A : Around} {E : Value → Shared → Prop} {i : Nat} {x : Str} {v : V} {u : Value} {Q : Unit → Shared → Prop} (I : Inv X pins σ H s) (hN : X.N.Nodup) (hi : X.N[i]? = some x) (hx : Loc X.env.scope x) (r : RelV v u)
    (h : ∀ s', Inv X pins (σ.set i (some v)) H s' → (∃ a, Heap.SameBut a s.heap s'.heap ∧ (a = X.env.locals ∨ X.env.cells.lookup x = some a)) → Q () s') (hf : X.fn x = true ∨ X.env.scope.names.lookup x = some .local := by first | exact .inl rfl | exact .inr rfl | assumption) : wpAny M A (storeName X.env x u) Q E s := by
  obtain ⟨m, hn, hl⟩ := id I.loc
  have hcls : (X.env.scope.kind == .class || (X.env.scope.kind == .module && X.env.locals != X.env.globals)) = false := by rw [I.ok.kind]; rfl
  have hiσ : i < σ.length := by rw [I.len]; exact (List.getElem?_eq_some_iff.mp hi).1
  have cne := I.cne
  have tracked : ∀ {a : Addr} {h' : Heap}, (∃ o, s.heap.get? a = some o ∧ H a = none) → Heap.SameBut a s.heap h' → HOk X.prog X.w H h' := fun {a h'} ha hs b ob e => by
    obtain ⟨_, _, hfree⟩ := ha
    refine (I.hok b ob e).stay (fun c w' hc q => (hs.2 c ?_).trans q) (fun _ q => q) fun _ _ q => q
    rintro rfl
    rcases hc with rfl | hc
    · rw [hfree] at e; cases e
    · rw [hfree] at hc; cases hc
  rcases hx with hk | hk
  · refine wpAny_storeName_local hk hn (fun h' hn' hs => ?_) hcls
    obtain ⟨oL, _, _, hoL, _⟩ := id hn
    refine h _ ⟨I.ok, I.os, I.bare, ⟨fun b o e n hb hx => ?_, fun b o e n hb hx => ?_, I.base.free, fun b o e hx => ?_, I.base.tups, I.base.frzs, I.base.tbls⟩, ⟨_, hn', fun j y v' e1 e2 e3 => ?_⟩, fun y c e => ?_, I.free, I.freeC, fun p hp => ?_, tracked ⟨oL, hoL, I.free⟩ hs, by simpa using I.len⟩ ⟨_, hs, .inl rfl⟩
    · exact (hs.2 b (Nat.ne_of_lt (Nat.lt_of_lt_of_le (Heap.lt_size e) I.ok.above))).trans (I.base.keep b o e n hb hx)
    · obtain ⟨sl, e1⟩ := I.base.slot b o e n hb hx
      exact ⟨sl, (hs.2 b (Nat.ne_of_lt (Nat.lt_of_lt_of_le (Heap.lt_size e) I.ok.above))).trans e1⟩
    · obtain ⟨o', e1⟩ := I.base.there b o e hx
      exact ⟨o', (hs.2 b (Nat.ne_of_lt (Nat.lt_of_lt_of_le (Heap.lt_size e) I.ok.above))).trans e1⟩
    · by_cases hj : j = i
      · subst hj
        rw [hi] at e1; cases e1
        rw [List.getElem?_set_self hiσ] at e2
        cases e2
        exact ⟨u, r, .inl ⟨hk, by simp⟩⟩
      · rw [List.getElem?_set_ne (Ne.symm hj)] at e2
        obtain ⟨u', r', q⟩ := hl j y v' e1 e2 e3
        refine ⟨u', r', ?_⟩
        rcases q with ⟨k, e⟩ | ⟨k, c, e, z⟩
        · refine .inl ⟨k, ?_⟩
          have : y ≠ x := fun e => hj (nodup_ix hN e1 (e ▸ hi))
          simp [this, e]
        · exact .inr ⟨k, c, e, z.sameBut hs (cne y c e)⟩
    · obtain ⟨w', z⟩ := I.cell y c e
      exact ⟨w', z.sameBut hs (cne y c e)⟩
    · obtain ⟨e, n, ne, nf, d⟩ := I.pin p hp
      exact ⟨(hs.2 p.1 ne).trans e, n, ne, nf, d⟩
  · have hfn : X.fn x = true := by
      rcases hf with z | z
      · exact z
      · rw [z] at hk; cases hk
    obtain ⟨c, hc⟩ := I.ok.has x (.inl hk)
    obtain ⟨w', z⟩ := I.cell x c hc
    refine wpAny_storeName_cell I.ok.kind hk hc z (fun h' hc' hs => ?_)
    obtain ⟨oc, hoc, hocd⟩ := id z
    refine h { s with heap := h' } ⟨I.ok, I.os, I.bare, ⟨fun b o e n hb hx => ?_, fun b o e n hb hx => ?_, I.base.free, fun b o e hx => ?_, I.base.tups, I.base.frzs, I.base.tbls⟩, ⟨m, hn.sameBut hs (Ne.symm (cne x c hc)), fun j y v' e1 e2 e3 => ?_⟩, fun y c' e => ?_, I.free, I.freeC, fun p hp => ?_, tracked ⟨oc, hoc, I.freeC x c hc⟩ hs, by simpa using I.len⟩ ⟨c, hs, .inr hc⟩
    · exact (hs.2 b (Nat.ne_of_lt (Nat.lt_of_lt_of_le (Heap.lt_size e) (I.ok.cab x c hfn hc)))).trans (I.base.keep b o e n hb hx)
    · obtain ⟨sl, e1⟩ := I.base.slot b o e n hb hx
      exact ⟨sl, (hs.2 b (Nat.ne_of_lt (Nat.lt_of_lt_of_le (Heap.lt_size e) (I.ok.cab x c hfn hc)))).trans e1⟩
    · obtain ⟨o', e1⟩ := I.base.there b o e hx
      exact ⟨o', (hs.2 b (Nat.ne_of_lt (Nat.lt_of_lt_of_le (Heap.lt_size e) (I.ok.cab x c hfn hc)))).trans e1⟩
    · by_cases hj : j = i
      · subst hj
        rw [hi] at e1; cases e1
        rw [List.getElem?_set_self hiσ] at e2
        cases e2
        exact ⟨u, r, .inr ⟨.inl hk, c, hc, hc'⟩⟩
      · rw [List.getElem?_set_ne (Ne.symm hj)] at e2
        obtain ⟨u', r', q⟩ := hl j y v' e1 e2 e3
        refine ⟨u', r', ?_⟩
        rcases q with q | ⟨k, c', e, z'⟩
        · exact .inl q
        · refine .inr ⟨k, c', e, z'.sameBut hs ?_⟩
          rintro rfl
          exact hj (nodup_ix hN e1 (I.ok.inj _ _ _ e hc ▸ hi))
    · by_cases hcc : c' = c
      · subst hcc; exact ⟨_, hc'⟩
      · obtain ⟨w2, z2⟩ := I.cell y c' e
        exact ⟨w2, z2.sameBut hs hcc⟩
    · obtain ⟨e, n, ne, nf, d⟩ := I.pin p hp
      refine ⟨(hs.2 p.1 ?_).trans e, n, ne, nf, d⟩
      intro q
      rw [q, hoc] at e
      have q' : oc = p.2 := Option.some.inj e
      exact d w' (by rw [← q']; exact hocd)
theorem store_ok {M : Model} {A : Around} {E : Value → Shared → Prop} {i : Nat} {x : Str} {v : V} {u : Value} {Q : Unit → Shared → Prop} (I : Inv X pins σ H s) (hN : X.N.Nodup) (hi : X.N[i]? = some x) (hx : Loc X.env.scope x) (r : RelV v u)
    (h : ∀ s', Inv X pins (σ.set i (some v)) H s' → Q () s') (hf : X.fn x = true ∨ X.env.scope.names.lookup x = some .local := by first | exact .inl rfl | exact .inr rfl | assumption) : wpAny M A (storeName X.env x u) Q E s :=
  store_ok2 I hN hi hx r (fun s' I' _ => h s' I') hf
/-- behind a call or a block, the state as it is -/
theorem Inv.call' {s' : Shared} {ch : List Addr} (I : Inv X pins σ H s) (ho : s'.os = s.os) (u : Un (frs X.stack) ch H H' s.heap s'.heap) (hok : HOk X.prog X.w H' s'.heap) (hg : AllBare s'.gens)
    (hch : ∀ b ∈ ch, (b ∈ X.ex ∨ X.s_0.heap.objs.size ≤ b) ∧ b ≠ X.env.locals ∧ (∀ x c, X.env.cells.lookup x = some c → c ≠ b) ∧ ∀ p ∈ X.pn ++ pins, p.1 ≠ b) : Inv X pins σ H' s' := by
  obtain ⟨h', g', d', t', o'⟩ := s'
  have e : o' = s.os := ho
  subst e
  exact I.call (g' := g') (t' := t') (d' := d') u hok hg hch
end
/-! ### the judgements -/
/-- an exception: its class, its own dict's address (where it has one), the abstract heap behind it -/
abbrev XK := Value → Option Addr → Hp → Prop
abbrev St := List (Option V)
abbrev VK := V → Hp → Prop
/-- an expression's reading; a test's; an argument list's -/
abbrev TE := St → Hp → VK → Prop
abbrev TT := St → Hp → (Bool → Hp → Prop) → Prop
abbrev TA := St → Hp → (List V → Hp → Prop) → Prop
/-- what is wanted behind a statement -/
structure Ends where
  nx : St → Hp → Prop
  rt : VK
  bk : St → Hp → Prop := fun _ _ => False
  ct : St → Hp → Prop := fun _ _ => False
abbrev TS := Ends → St → Hp → Prop
def EP (X : Cx) (pins : List (Addr × Obj)) (σ : St) (Q : VK) (u : Value) (s' : Shared) : Prop := ∃ v H', Inv X pins σ H' s' ∧ RelV v u ∧ Q v H'
def TP (X : Cx) (pins : List (Addr × Obj)) (σ : St) (Q : Bool → Hp → Prop) (b : Bool) (s' : Shared) : Prop := ∃ H', Inv X pins σ H' s' ∧ Q b H'
def AP (X : Cx) (pins : List (Addr × Obj)) (σ : St) (Q : List V → Hp → Prop) (us : List Value) (s' : Shared) : Prop := ∃ vs H', Inv X pins σ H' s' ∧ Vals vs us ∧ Q vs H'
def SP (X : Cx) (pins : List (Addr × Obj)) (D : Ends) (f : Flow) (s' : Shared) : Prop :=
  match f with
  | .next => ∃ σ' H', Inv X pins σ' H' s' ∧ D.nx σ' H'
  | .brk => ∃ σ' H', Inv X pins σ' H' s' ∧ D.bk σ' H'
  | .cont => ∃ σ' H', Inv X pins σ' H' s' ∧ D.ct σ' H'
  | .ret u => ∃ v σ' H', Inv X pins σ' H' s' ∧ RelV v u ∧ D.rt v H'
def PE (X : Cx) (e : Expr) (t : TE) : Prop :=
  ∀ (pins : List (Addr × Obj)) (s : Shared) (σ : St) (H : Hp) (Q : VK), Inv X pins σ H s → t σ H Q → wpAny (model X.prog X.w) X.A (eval e X.env) (EP X pins σ Q) X.xe s
def PT (X : Cx) (e : Expr) (t : TT) : Prop :=
  ∀ (pins : List (Addr × Obj)) (s : Shared) (σ : St) (H : Hp) (Q : Bool → Hp → Prop), Inv X pins σ H s → t σ H Q → wpAny (model X.prog X.w) X.A (isTrue e X.env (eval e X.env)) (TP X pins σ Q) X.xe s
/-- a test whatever its 'whole' is (and, or) -/
def PW (X : Cx) (e : Expr) (t : TT) : Prop :=
  ∀ (whole : Sem Value) (pins : List (Addr × Obj)) (s : Shared) (σ : St) (H : Hp) (Q : Bool → Hp → Prop), Inv X pins σ H s → t σ H Q → wpAny (model X.prog X.w) X.A (isTrue e X.env whole) (TP X pins σ Q) X.xe s
theorem PW.pt {X : Cx} {e : Expr} {t : TT} (h : PW X e t) : PT X e t := h _
/-- an argument list (no star), from the left -/
def PA (X : Cx) (es : List Expr) (t : TA) : Prop :=
  ∀ (pos : Pos) (pins : List (Addr × Obj)) (s : Shared) (σ : St) (H : Hp) (Q : List V → Hp → Prop), Inv X pins σ H s → t σ H Q → wpAny (model X.prog X.w) X.A (spliced (backTo pos (starEach es X.env))) (AP X pins σ Q) X.xe s
def PS (X : Cx) (st : Stmt) (t : TS) : Prop :=
  ∀ (pins : List (Addr × Obj)) (s : Shared) (σ : St) (H : Hp) (D : Ends), Inv X pins σ H s → t D σ H → wpAny (model X.prog X.w) X.A (exec st X.env) (SP X pins D) X.xe s
def PSs (X : Cx) (st : List Stmt) (t : TS) : Prop :=
  ∀ (pins : List (Addr × Obj)) (s : Shared) (σ : St) (H : Hp) (D : Ends), Inv X pins σ H s → t D σ H → wpAny (model X.prog X.w) X.A (execs st X.env) (SP X pins D) X.xe s
/-- weaken the end -/
theorem thn {α : Type} {t : Sem α} {Q Q' : α → Shared → Prop} {M : Model} {A : Around} {E : Value → Shared → Prop} {s : Shared} (h : wpAny M A t Q E s) (hQ : ∀ a s, Q a s → Q' a s) : wpAny M A t Q' E s := wpAny_mono h hQ fun _ _ x => x
end L2
namespace L2
open PySem PySem.Spec PyProof.Rows
section
variable {X : Cx}
/-! ### names and constants -/
def tVar (i : Nat) : TE := fun σ H Q => ∃ v, σ[i]? = some (some v) ∧ Q v H
def tC (v : V) : TE := fun _ H Q => Q v H
theorem pe_var {i : Nat} {x : Str} {pos : Pos} (hN : X.N[i]? = some x) (hv : Vis X.env.scope x) (hd : (x == ("__debug__" : Str)) = false := by decide) (hcd : (x == ("__classdict__" : Str)) = false := by decide) : PE X (.Name x pos) (tVar i) := by
  intro pins s σ H Q I h
  obtain ⟨v, e, h⟩ := h
  obtain ⟨m, hn, hl⟩ := I.loc
  obtain ⟨u, r, l⟩ := hl i x v hN e hv
  have fin : EP X pins σ Q u s := ⟨v, H, I, r, h⟩
  rcases l with ⟨hk, hm⟩ | ⟨hk, c, hc, hcell⟩
  · exact wpAny_Name (wpAny_loadName_local I.ok.kind hk hn hm fin) hd
  · rcases hk with hk | hk
    · exact wpAny_Name (wpAny_loadName_cell I.ok.kind hk hc hcell fin) hd
    · exact wpAny_Name (wpAny_loadName_free I.ok.kind hk hc hcell fin hcd) hd
theorem pe_int {i j pos} : PE X (.Constant (.int i) j pos) (tC (.int i)) := fun _ _ _ H _ I h => wpAny_Constant_int ⟨.int i, H, I.tok _, ⟨_, rfl⟩, h⟩
theorem pe_bl {b j pos} : PE X (.Constant (.bool b) j pos) (tC (.bl b)) := fun _ _ _ H _ I h => Constant_bool ⟨.bl b, H, I, rfl, h⟩
theorem pe_non {j pos} : PE X (.Constant .none j pos) (tC .non) := fun _ _ _ H _ I h => Constant_none ⟨.non, H, I, rfl, h⟩
/-- a global name of the def -/
def Gl (X : Cx) (x : Str) : Prop := X.env.kindOf x = some .globalImplicit
theorem ld_glob {E : Value → Shared → Prop} {pins : List (Addr × Obj)} {s : Shared} {σ : St} {H : Hp} {x : Str} {u : Value} {pos : Pos} {Q : Value → Shared → Prop} (I : Inv X pins σ H s) (hg : Gl X x) (hm : X.mg x = some u) (h : Q u s)
    (hd : (x == ("__debug__" : Str)) = false := by decide) : wpAny (model X.prog X.w) X.A (eval (.Name x pos) X.env) Q E s :=
  Calls.Name_function_global I.ok.kind hg (Calls.loadGlobal_global (by rw [I.ok.glob]; exact I.mod.glob.keeps I.bk) hm h) hd
theorem ld_blt {E : Value → Shared → Prop} {pins : List (Addr × Obj)} {s : Shared} {σ : St} {H : Hp} {x : Str} {u : Value} {pos : Pos} {Q : Value → Shared → Prop} (I : Inv X pins σ H s) (hg : Gl X x) (hm : X.mg x = none) (hv : bootBuiltins x = some u) (h : Q u s)
    (hn : x ≠ "__name__" := by decide) (hd : (x == ("__debug__" : Str)) = false := by decide) : wpAny (model X.prog X.w) X.A (eval (.Name x pos) X.env) Q E s := by
  obtain ⟨mb, h1, h2⟩ := I.mod.blt
  exact Calls.Name_function_global I.ok.kind hg (Calls.loadGlobal_builtin (by rw [I.ok.glob]; exact I.mod.glob.keeps I.bk) hm (by rw [I.ok.blt]; exact h1.keeps I.bk) ((h2 x hn).trans hv) h) hd
/-- a module's constant, a class, a function, as a value -/
theorem pe_glob {x : Str} {v : V} {u : Value} {pos : Pos} (hg : Gl X x) (hm : X.mg x = some u) (r : RelV v u) (hd : (x == ("__debug__" : Str)) = false := by decide) : PE X (.Name x pos) (tC v) :=
  fun _ _ _ H _ I h => ld_glob I hg hm ⟨v, H, I, r, h⟩ hd
/-! ### arithmetic -/
variable {a b : Expr} {ta tb : TE} {pos : Pos}
/-! ### comparisons -/
def PC (X : Cx) (op : CmpOp) (a b : Expr) (t : TE) : Prop :=
  ∀ (pins : List (Addr × Obj)) (s : Shared) (σ : St) (H : Hp) (Q : VK), Inv X pins σ H s → t σ H Q →
    wpAny (model X.prog X.w) X.A (eval a X.env) (fun v s₁ => wpAny (model X.prog X.w) X.A (eval b X.env) (fun u s₂ => wpAny (model X.prog X.w) X.A (compareOp op v u) (EP X pins σ Q) X.xe s₂) X.xe s₁) X.xe s
theorem nobehind (b : Expr) {op : CmpOp} (h : op ≠ .In) (h2 : op ≠ .NotIn) : behindInMarks op b = false := by
  have e1 : (op == CmpOp.In) = false := by cases op <;> first | rfl | exact absurd rfl h
  have e2 : (op == CmpOp.NotIn) = false := by cases op <;> first | rfl | exact absurd rfl h2
  cases b <;> simp [behindInMarks, e1, e2]
/-- is None -/
def tIsN (ta : TE) : TE := fun σ H Q => ta σ H fun x H1 => Q (.bl (decide (x = .non))) H1
def tNotN (ta : TE) : TE := fun σ H Q => ta σ H fun x H1 => Q (.bl (!decide (x = .non))) H1
theorem RelV.none_iff {x : V} {v : Value} (r : RelV x v) : (v == Value.none) = decide (x = .non) := by
  cases x with
  | non => cases r; rfl
  | bl _ => cases r; rfl
  | int _ => obtain ⟨t, rfl⟩ := r; rfl
  | str _ => obtain ⟨t, rfl⟩ := r; rfl
  | byt _ => obtain ⟨t, rfl⟩ := r; rfl
  | flt _ => obtain ⟨t, rfl⟩ := r; rfl
  | ref _ => cases r; rfl
  | ty _ => cases r; rfl
theorem pc_isN {j pos'} (ha : PE X a ta) : PC X .Is a (.Constant .none j pos') (tIsN ta) := by
  intro pins s σ H Q I h
  refine thn (ha pins s σ H _ I h) fun v s1 ⟨x, H1, I1, r1, q1⟩ => ?_
  exact Constant_none (is_none_gen ⟨.bl _, H1, I1, by rw [r1.none_iff]; rfl, q1⟩)
theorem pc_notN {j pos'} (ha : PE X a ta) : PC X .IsNot a (.Constant .none j pos') (tNotN ta) := by
  intro pins s σ H Q I h
  refine thn (ha pins s σ H _ I h) fun v s1 ⟨x, H1, I1, r1, q1⟩ => ?_
  exact Constant_none (isnot_none_gen ⟨.bl _, H1, I1, by rw [r1.none_iff]; rfl, q1⟩)
/-- a comparison as a value, as a test -/
def tB (t : TE) : TT := fun σ H Q => t σ H fun x H1 => ∃ c, x = .bl c ∧ Q c H1
theorem pt_cmp {op : CmpOp} {t : TE} (h : PC X op a b t) (h1 : behindInMarks op b = false := by first | exact nobehind _ (by decide) (by decide) | rfl) : PT X (.Compare a [op] [b] pos) (tB t) := by
  intro pins s σ H Q I hw
  refine wpAny_isTrue_Compare1 (thn (h pins s σ H _ I hw) fun v s1 h1 => thn h1 fun u s2 h2 => thn h2 fun c s3 ⟨x, H1, I1, r1, q1⟩ => ?_) h1
  obtain ⟨d, rfl, q⟩ := q1
  cases r1
  exact wpAny_truthy_bool ⟨H1, I1, q⟩
/-- an expression whose value is a bool, as a test -/
theorem pt_val {e : Expr} {t : TE} (h : PE X e t) (he : ∀ whole, isTrue e X.env whole = (do let v ← whole; standAt e.pos; holding [v] (truthy v)) := by intro _; rfl) : PT X e (tB t) := by
  intro pins s σ H Q I hw
  refine isTrue_plain (thn (h pins s σ H _ I hw) fun v s1 ⟨x, H1, I1, r1, q1⟩ => ?_) (he _)
  obtain ⟨d, rfl, q⟩ := q1
  cases r1
  exact wpAny_truthy_bool ⟨H1, I1, q⟩
/-! ### and, or, not -/
variable {tA tB' : TT} {rest : List Expr}
def tAnd (t u : TT) : TT := fun σ H Q => t σ H fun c H1 => if c = true then u σ H1 Q else Q false H1
def tOr (t u : TT) : TT := fun σ H Q => t σ H fun c H1 => if c = true then Q true H1 else u σ H1 Q
def tNot (t : TT) : TT := fun σ H Q => t σ H fun c H1 => Q (!c) H1
theorem pw_and1 (ha : PT X a tA) : PW X (.BoolOp .And [a] pos) tA := by
  intro wh pins s σ H Q I h
  refine isTrue_and (thn (ha pins s σ H Q I h) fun c s1 e => ?_)
  cases c with
  | true => exact isTrue_and_nil e
  | false => exact e
theorem pw_or1 (ha : PT X a tA) : PW X (.BoolOp .Or [a] pos) tA := by
  intro wh pins s σ H Q I h
  refine isTrue_or (thn (ha pins s σ H Q I h) fun c s1 e => ?_)
  cases c with
  | false => exact isTrue_or_nil e
  | true => exact e
theorem pw_and (ha : PT X a tA) (hb : PW X (.BoolOp .And (b :: rest) pos) tB') : PW X (.BoolOp .And (a :: b :: rest) pos) (tAnd tA tB') := by
  intro wh pins s σ H Q I h
  refine isTrue_and (thn (ha pins s σ H _ I h) fun c s1 ⟨H1, I1, q1⟩ => ?_)
  cases c with
  | true => exact hb wh pins s1 σ H1 Q I1 q1
  | false => exact ⟨H1, I1, q1⟩
theorem pw_or (ha : PT X a tA) (hb : PW X (.BoolOp .Or (b :: rest) pos) tB') : PW X (.BoolOp .Or (a :: b :: rest) pos) (tOr tA tB') := by
  intro wh pins s σ H Q I h
  refine isTrue_or (thn (ha pins s σ H _ I h) fun c s1 ⟨H1, I1, q1⟩ => ?_)
  cases c with
  | true => exact ⟨H1, I1, q1⟩
  | false => exact hb wh pins s1 σ H1 Q I1 q1
theorem pt_not (ha : PT X a tA) : PT X (.UnaryOp .Not a pos) (tNot tA) := by
  intro pins s σ H Q I h
  exact isTrue_not (ha pins s σ H (fun c H1 => Q (!c) H1) I h)
/-- .. as values (bools) -/
def tAndV (ta tb : TE) : TE := fun σ H Q => ta σ H fun x H1 => ∃ c, x = .bl c ∧ if c = true then tb σ H1 Q else Q (.bl false) H1
def tOrV (ta tb : TE) : TE := fun σ H Q => ta σ H fun x H1 => ∃ c, x = .bl c ∧ if c = true then Q (.bl true) H1 else tb σ H1 Q
def tNotV (ta : TE) : TE := fun σ H Q => ta σ H fun x H1 => ∃ c, x = .bl c ∧ Q (.bl (!c)) H1
theorem pe_one {op} {t : TE} (h : PE X a t) : PE X (.BoolOp op [a] pos) t := fun pins s σ H Q I hw => BoolOp_one (h pins s σ H Q I hw)
theorem pe_and (ha : PE X a ta) (hb : PE X (.BoolOp .And (b :: rest) pos) tb) : PE X (.BoolOp .And (a :: b :: rest) pos) (tAndV ta tb) := by
  intro pins s σ H Q I h
  refine BoolOp_and (thn (ha pins s σ H _ I h) fun v s1 ⟨x, H1, I1, r1, q1⟩ => ?_)
  obtain ⟨c, rfl, q1⟩ := q1
  cases r1
  refine wpAny_truthy_bool ?_
  cases c with
  | true => exact hb pins s1 σ H1 Q I1 q1
  | false => exact ⟨.bl false, H1, I1, rfl, q1⟩
theorem pe_or (ha : PE X a ta) (hb : PE X (.BoolOp .Or (b :: rest) pos) tb) : PE X (.BoolOp .Or (a :: b :: rest) pos) (tOrV ta tb) := by
  intro pins s σ H Q I h
  refine BoolOp_or (thn (ha pins s σ H _ I h) fun v s1 ⟨x, H1, I1, r1, q1⟩ => ?_)
  obtain ⟨c, rfl, q1⟩ := q1
  cases r1
  refine wpAny_truthy_bool ?_
  cases c with
  | false => exact hb pins s1 σ H1 Q I1 q1
  | true => exact ⟨.bl true, H1, I1, rfl, q1⟩
theorem pe_not (ha : PE X a ta) : PE X (.UnaryOp .Not a pos) (tNotV ta) := by
  intro pins s σ H Q I h
  refine UnaryOp_ (thn (ha pins s σ H _ I h) fun v s1 ⟨x, H1, I1, r1, q1⟩ => ?_)
  obtain ⟨c, rfl, q1⟩ := q1
  cases r1
  exact not_of (wpAny_truthy_bool ⟨.bl (!c), H1, I1, rfl, q1⟩)
/-- a if t else b -/
def tIf (t : TT) (ta tb : TE) : TE := fun σ H Q => t σ H fun c H1 => if c = true then ta σ H1 Q else tb σ H1 Q
theorem pe_ifExp {c : Expr} (hc : PT X c tA) (ha : PE X a ta) (hb : PE X b tb) : PE X (.IfExp c a b pos) (tIf tA ta tb) := by
  intro pins s σ H Q I h
  refine wpAny_IfExp (thn (hc pins s σ H _ I h) fun d s1 ⟨H1, I1, q1⟩ => ?_)
  cases d with
  | true => exact ha pins s1 σ H1 Q I1 q1
  | false => exact hb pins s1 σ H1 Q I1 q1
end
end L2
namespace L2
open PySem PySem.Spec PyProof.Rows
/-! ### a list, a tuple that is read: tracked, frozen, or an object of the module -/
def SqL (K : PySem.W.Frag) (H : Hp) (a : Addr) (xs : List V) : Prop :=
  Rd H a (.lst xs) ∨
    ∃ (o : Obj) (its : Array Value) (n : Nat), K.lookup a = some o ∧ o.cls = .type "list" ∧ o.dict = none ∧ o.data = .seq its n ∧ its.size ≤ sizeLine ∧ Vals xs its.toList
def SqT (K : PySem.W.Frag) (H : Hp) (a : Addr) (xs : List V) : Prop :=
  Rd H a (.tup xs) ∨
    ∃ (o : Obj) (its : Array Value) (n : Nat), K.lookup a = some o ∧ o.cls = .type "tuple" ∧ o.data = .seq its n ∧ its.size ≤ sizeLine ∧ Vals xs its.toList
def absV : Value → Option V
  | .none => some .non
  | .bool b => some (.bl b)
  | .int i _ => some (.int i)
  | .str x _ => some (.str x)
  | .bytes b _ => some (.byt b)
  | .float b _ => some (.flt b)
  | .ref a => some (.ref a)
  | .type n => some (.ty n)
  | _ => none
theorem RelV.abs {x : V} {u : Value} (r : RelV x u) : absV u = some x := by
  cases x with
  | non => cases r; rfl
  | bl _ => cases r; rfl
  | int _ => obtain ⟨t, rfl⟩ := r; rfl
  | str _ => obtain ⟨t, rfl⟩ := r; rfl
  | byt _ => obtain ⟨t, rfl⟩ := r; rfl
  | flt _ => obtain ⟨t, rfl⟩ := r; rfl
  | ref _ => cases r; rfl
  | ty _ => cases r; rfl
theorem RelV.inj {x y : V} {u : Value} (r : RelV x u) (q : RelV y u) : x = y := Option.some.inj (r.abs.symm.trans q.abs)
theorem Vals.inj : ∀ {xs ys : List V} {us : List Value}, Vals xs us → Vals ys us → xs = ys
  | _, _, _, .nil, .nil => rfl
  | _, _, _, .cons r t, .cons r' t' => by rw [r.inj r', Vals.inj t t']
section
variable {X : Cx} {pins : List (Addr × Obj)} {σ : St} {H : Hp} {s : Shared} {a : Addr} {xs ys : List V}
theorem SqL.of {K : PySem.W.Frag} (h : H a = some (.lst xs)) : SqL K H a xs := .inl (.inl h)
theorem SqT.of {K : PySem.W.Frag} (h : H a = some (.tup xs)) : SqT K H a xs := .inl (.inl h)
theorem Inv.list (I : Inv X pins σ H s) (h : SqL X.K H a xs) : ∃ its : List Value, Vals xs its ∧ PlainL s.heap a its.toArray ∧ xs.length ≤ sizeLine := by
  rcases h with h | ⟨o, its, n, hk, hc, hd, hs, hz, r⟩
  · obtain ⟨z, its, n, r, e⟩ := h.ok I.hok
    exact ⟨its, r, ⟨_, n, e, rfl, rfl, rfl⟩, z⟩
  · refine ⟨its.toList, r, ⟨o, n, I.kIn a o hk, hc, hd, by simpa using hs⟩, ?_⟩
    have e := r.length
    simp only [Array.length_toList] at e
    omega
theorem Inv.tuple (I : Inv X pins σ H s) (h : SqT X.K H a xs) : ∃ its : List Value, Vals xs its ∧ IsTup s.heap a its.toArray ∧ xs.length ≤ sizeLine := by
  rcases h with h | ⟨o, its, n, hk, hc, hs, hz, r⟩
  · obtain ⟨z, its, r, p⟩ := h.ok I.hok
    exact ⟨its, r, p, z⟩
  · refine ⟨its.toList, r, ⟨o, I.kIn a o hk, hc, n, by simpa using hs⟩, ?_⟩
    have e := r.length
    simp only [Array.length_toList] at e
    omega
theorem Inv.list_inj (I : Inv X pins σ H s) (h : SqL X.K H a xs) (h' : SqL X.K H a ys) : xs = ys := by
  obtain ⟨its, r, ⟨o, n, e, _, _, d⟩, _⟩ := I.list h
  obtain ⟨its', r', ⟨o', n', e', _, _, d'⟩, _⟩ := I.list h'
  rw [e] at e'; cases e'
  rw [d] at d'
  injection d' with d1 _
  have : its = its' := by simpa using congrArg Array.toList d1
  subst this
  exact r.inj r'
end
/-! ### another wish about exceptions -/
abbrev Cx.wish (X : Cx) (E : Value → Shared → Prop) : Cx := { X with xe := E }
/-- no exception leaves -/
abbrev Cx.nox (X : Cx) : Cx := X.wish fun _ _ => False
theorem Cx.Ok.wish {X : Cx} (ok : X.Ok) (E : Value → Shared → Prop) : (X.wish E).Ok :=
  ⟨ok.mod, ok.kind, ok.glob, ok.blt, ok.above, ok.inj, ok.has, ok.cab, ok.hd, ok.frames, ok.stk, ok.exf, ok.bs, ok.bsz, ok.noex, ok.exfs, ok.funs, ok.frf⟩
theorem Cx.Ok.unwish {X : Cx} {E : Value → Shared → Prop} (ok : (X.wish E).Ok) : X.Ok :=
  ⟨ok.mod, ok.kind, ok.glob, ok.blt, ok.above, ok.inj, ok.has, ok.cab, ok.hd, ok.frames, ok.stk, ok.exf, ok.bs, ok.bsz, ok.noex, ok.exfs, ok.funs, ok.frf⟩
section
variable {X : Cx} {pins : List (Addr × Obj)} {σ : St} {H : Hp} {s : Shared} {E : Value → Shared → Prop}
theorem Inv.wish (I : Inv X pins σ H s) (E : Value → Shared → Prop) : Inv (X.wish E) pins σ H s := ⟨I.ok.wish E, I.os, I.bare, I.base, I.loc, I.cell, I.free, I.freeC, I.pin, I.hok, I.len⟩
theorem Inv.unwish (I : Inv (X.wish E) pins σ H s) : Inv X pins σ H s := ⟨I.ok.unwish, I.os, I.bare, I.base, I.loc, I.cell, I.free, I.freeC, I.pin, I.hok, I.len⟩
theorem SP.unwish {D : Ends} {f : Flow} {s' : Shared} (h : SP (X.wish E) pins D f s') : SP X pins D f s' := by
  cases f with
  | next => obtain ⟨σ', H', I, q⟩ := h; exact ⟨σ', H', I.unwish, q⟩
  | brk => obtain ⟨σ', H', I, q⟩ := h; exact ⟨σ', H', I.unwish, q⟩
  | cont => obtain ⟨σ', H', I, q⟩ := h; exact ⟨σ', H', I.unwish, q⟩
  | ret u => obtain ⟨v, σ', H', I, r, q⟩ := h; exact ⟨v, σ', H', I.unwish, r, q⟩
theorem PSs.nox {st : List Stmt} {t : TS} (h : PSs X.nox st t) : PSs X st t := fun pins s σ H D I hw =>
  wpAny_mono (h pins s σ H D (I.wish _) hw) (fun _ _ q => q.unwish) fun _ _ z => False.elim z
end
/-! ### blocks and small statements -/
section
variable {X : Cx} {st : Stmt} {rest : List Stmt} {t u : TS} {e : Expr} {te : TE} {pos : Pos}
def tNext : TS := fun D σ H => D.nx σ H
def tSeq (t u : TS) : TS := fun D σ H => t { D with nx := u D } σ H
theorem pss_nil : PSs X [] tNext := fun _ _ σ H _ I h => wpAny_execs_nil ⟨σ, H, I, h⟩
theorem pss_cons (h1 : PS X st t) (h2 : PSs X rest u) : PSs X (st :: rest) (tSeq t u) := by
  intro pins s σ H D I h
  refine wpAny_execs_cons (thn (h1 pins s σ H { D with nx := u D } I h) fun f s1 q => ?_)
  cases f with
  | next =>
    obtain ⟨σ', H', I', q⟩ := q
    exact h2 pins s1 σ' H' D I' q
  | ret v => exact q
  | brk => exact q
  | cont => exact q
theorem pss_one (h1 : PS X st t) : PSs X [st] t := by
  intro pins s σ H D I h
  refine wpAny_execs_cons (thn (h1 pins s σ H D I h) fun f s1 q => ?_)
  cases f with
  | next => exact wpAny_execs_nil q
  | ret v => exact q
  | brk => exact q
  | cont => exact q
def tBreak : TS := fun D σ H => D.bk σ H
theorem ps_break : PS X (.Break pos) tBreak := fun _ _ σ H _ I h => wpAny_Break ⟨σ, H, I, h⟩
/-- in a def's body nothing is shown -/
theorem Inv.quiet {pins : List (Addr × Obj)} {σ : St} {H : Hp} {s : Shared} (I : Inv X pins σ H s) : interactive X.env = false := by simp [interactive, I.ok.kind]
/-- an expression whose value is dropped -/
def tDrop (te : TE) : TS := fun D σ H => te σ H fun _ H1 => D.nx σ H1
theorem ps_expr (he : PE X e te) (hs : swapsWith e none pos.line X.env = pure false := by rfl) : PS X (.Expr e pos) (tDrop te) := by
  intro pins s σ H D I h
  exact wpAny_Expr_any (thn (he pins s σ H _ I h) fun v s1 ⟨x, H1, I1, r1, q1⟩ => ⟨σ, H1, I1, q1⟩) I.quiet hs
def tRet (te : TE) : TS := fun D σ H => te σ H D.rt
theorem ps_ret (he : PE X e te) : PS X (.Return (some e) pos) (tRet te) := by
  intro pins s σ H D I h
  exact wpAny_Return_some (thn (he pins s σ H _ I h) fun v s1 ⟨x, H1, I1, r1, q1⟩ => ⟨x, σ, H1, I1, r1, q1⟩)
def tIfS (c : TT) (t u : TS) : TS := fun D σ H => c σ H fun b H1 => if b = true then t D σ H1 else u D σ H1
theorem ps_if {c : Expr} {a b : List Stmt} {tc : TT} (hc : PT X c tc) (ha : PSs X a t) (hb : PSs X b u) : PS X (.If c a b pos) (tIfS tc t u) := by
  intro pins s σ H D I h
  refine wpAny_If (thn (hc pins s σ H _ I h) fun d s1 ⟨H1, I1, q1⟩ => ?_)
  cases d with
  | true => exact ha pins s1 σ H1 D I1 q1
  | false => exact hb pins s1 σ H1 D I1 q1
end
/-! ### targets -/
abbrev TG := V → St → Hp → (St → Hp → Prop) → Prop
def PG (X : Cx) (target : Expr) (t : TG) : Prop :=
  ∀ (pins : List (Addr × Obj)) (s : Shared) (σ : St) (H : Hp) (v : V) (u : Value) (Q : St → Hp → Prop), Inv X pins σ H s → RelV v u → t v σ H Q →
    wpAny (model X.prog X.w) X.A (assign target X.env u) (fun _ s' => ∃ σ' H', Inv X pins σ' H' s' ∧ Q σ' H') X.xe s
/-- a op= b, by values -/
abbrev TIp := V → V → Hp → VK → Prop
def PIp (X : Cx) (op : Operator) (t : TIp) : Prop :=
  ∀ (pins : List (Addr × Obj)) (s : Shared) (σ : St) (H : Hp) (x y : V) (v u : Value) (Q : VK), Inv X pins σ H s → RelV x v → RelV y u → t x y H Q →
    wpAny (model X.prog X.w) X.A (inplaceOp op v u) (EP X pins σ Q) X.xe s
section
variable {X : Cx} {pos : Pos}
def gName (i : Nat) : TG := fun v σ H Q => Q (σ.set i (some v)) H
theorem pg_name {i : Nat} {x : Str} (hN : X.N.Nodup) (hi : X.N[i]? = some x) (hx : Loc X.env.scope x) (hf : X.fn x = true ∨ X.env.scope.names.lookup x = some .local := by first | exact .inl rfl | exact .inr rfl | assumption) : PG X (.Name x pos) (gName i) := by
  intro pins s σ H v u Q I r h
  exact wpAny_assign_Name (store_ok I hN hi hx r (fun s' I' => ⟨_, H, I', h⟩) hf)
/-- target = value -/
def tAsg (te : TE) (g : TG) : TS := fun D σ H => te σ H fun x H1 => g x σ H1 D.nx
/-- name = value -/
theorem ps_set {i : Nat} {x : Str} {e : Expr} {te : TE} {pos' : Pos} (hN : X.N.Nodup) (hi : X.N[i]? = some x) (hx : Loc X.env.scope x) (he : PE X e te) (hs : swapsWith e (some (.Name x pos')) pos.line X.env = pure false := by rfl) (hf : X.fn x = true ∨ X.env.scope.names.lookup x = some .local := by first | exact .inl rfl | exact .inr rfl | assumption) :
    PS X (.Assign [.Name x pos'] e pos) (tAsg te (gName i)) := by
  intro pins s σ H D I h
  refine wpAny_Assign_Name (thn (he pins s σ H _ I h) fun v s1 ⟨y, H1, I1, r1, q1⟩ => ?_) hs
  exact store_ok I1 hN hi hx r1 (fun s2 I2 => ⟨_, H1, I2, q1⟩) hf
/-- name op= e -/
def tAug (i : Nat) (te : TE) (ti : TIp) : TS := fun D σ H => ∃ x, σ[i]? = some (some x) ∧ te σ H fun y H1 => ti x y H1 fun z H2 => D.nx (σ.set i (some z)) H2
theorem ps_aug {i : Nat} {x : Str} {e : Expr} {te : TE} {op : Operator} {ti : TIp} {pos' : Pos} (hN : X.N.Nodup) (hi : X.N[i]? = some x) (hx : Loc X.env.scope x) (he : PE X e te) (ho : PIp X op ti) (hf : X.fn x = true ∨ X.env.scope.names.lookup x = some .local := by first | exact .inl rfl | exact .inr rfl | assumption) :
    PS X (.AugAssign (.Name x pos') op e pos) (tAug i te ti) := by
  intro pins s σ H D I h
  obtain ⟨v, e1, h⟩ := h
  obtain ⟨m, hn, hl⟩ := I.loc
  have vis : Vis X.env.scope x := by rcases hx with k | k; exact .inl k; exact .inr (.inl k)
  obtain ⟨u, r, l⟩ := hl i x v hi e1 vis
  refine wpAny_AugAssign_Name ?_
  have go : wpAny (model X.prog X.w) X.A (eval e X.env) (fun w s₂ => wpAny (model X.prog X.w) X.A (inplaceOp op u w) (fun r s₃ => wpAny (model X.prog X.w) X.A (storeName X.env x r) (fun _ => SP X pins D .next) X.xe s₃) X.xe s₂) X.xe s := by
    refine thn (he pins s σ H _ I h) fun w s1 ⟨y, H1, I1, r1, q1⟩ => ?_
    refine thn (ho pins s1 σ H1 v y u w _ I1 r r1 q1) fun z s2 ⟨zv, H2, I2, r2, q2⟩ => ?_
    exact store_ok I2 hN hi hx r2 (fun s3 I3 => ⟨_, H2, I3, q2⟩) hf
  rcases l with ⟨hk, hm⟩ | ⟨hk, c, hc, hcell⟩
  · exact wpAny_loadName_local I.ok.kind hk hn hm go
  · rcases hk with hk | hk
    · exact wpAny_loadName_cell I.ok.kind hk hc hcell go
    · rcases hx with k | k
      · have : X.env.scope.names.lookup x = some .free := hk
        rw [k] at this; cases this
      · have : X.env.scope.names.lookup x = some .free := hk
        rw [k] at this; cases this
/-- ints -/
def ipI (f : Int → Int → Int) : TIp := fun x y H Q => ∃ i j, x = .int i ∧ y = .int j ∧ Q (.int (f i j)) H
theorem ip_add : PIp X .Add (ipI fun i j => i + j) := by
  intro pins s σ H x y v u Q I r1 r2 h
  obtain ⟨i, j, e1, e2, q⟩ := h
  subst e1; subst e2
  obtain ⟨t, rfl⟩ := r1
  obtain ⟨t', rfl⟩ := r2
  exact iadd_int ⟨.int _, H, I.tok _, ⟨_, rfl⟩, q⟩
end
/-! ### while -/
section
variable {X : Cx} {pos : Pos}
/-- the invariant W with its measure -/
def tWhile (c : TT) (tb : TS) : TS := fun D σ H => ∃ W : Nat → St → Hp → Prop, (∃ m, W m σ H) ∧ ∀ m σ H, W m σ H →
  c σ H fun b H1 => if b = true then ∃ N : St → Hp → Prop, (∀ σ' H', N σ' H' → ∃ m', m' < m ∧ W m' σ' H') ∧ tb { D with nx := N, ct := N, bk := D.nx } σ H1 else D.nx σ H1
theorem ps_while {c : Expr} {body : List Stmt} {tc : TT} {tb : TS} (hp : PassesOwn (model X.prog X.w) X.A X.env X.xe) (hc : PT X c tc) (hb : PSs X body tb) : PS X (.While c body [] pos) (tWhile tc tb) := by
  intro pins s σ H D I h
  obtain ⟨W, ⟨m0, w0⟩, turn⟩ := h
  refine wpAny_While (codeAny_whileLoop (fun n s' => ∃ σ' H', Inv X pins σ' H' s' ∧ W n σ' H') ?_ m0 ⟨σ, H, I, w0⟩)
  rintro n s1 ⟨σ1, H1, I1, w1⟩
  refine wpAny_passesOwn hp (thn (hc pins s1 σ1 H1 _ I1 (turn n σ1 H1 w1)) fun b s2 ⟨H2, I2, q2⟩ => ?_)
  cases b with
  | true =>
    obtain ⟨N, hN, q2⟩ := q2
    rw [if_pos rfl]
    refine wpAny_passesOwn hp (thn (hb pins s2 σ1 H2 _ I2 q2) fun f s3 q3 => ?_)
    cases f with
    | next =>
      obtain ⟨σ3, H3, I3, n3⟩ := q3
      obtain ⟨m', hm, w3⟩ := hN σ3 H3 n3
      exact ⟨m', hm, σ3, H3, I3, w3⟩
    | cont =>
      obtain ⟨σ3, H3, I3, n3⟩ := q3
      obtain ⟨m', hm, w3⟩ := hN σ3 H3 n3
      exact ⟨m', hm, σ3, H3, I3, w3⟩
    | brk => exact q3
    | ret v => exact q3
  | false =>
    rw [if_neg Bool.false_ne_true]
    exact wpAny_execs_nil ⟨σ1, H2, I2, q2⟩
end
/-! ### what a loop or a comprehension walks -/
/-- at turn i: it yields x (the heap may grow), or it stops -/
structure It where
  go : Nat → Hp → Prop
  yld : Nat → Hp → V → Hp → Prop
  stop : Nat → Hp → Prop
/-- the iterator's own objects may turn: they are not the frame's, not pinned, younger than the entry (or a comprehension's own) -/
def FpOk (X : Cx) (pins : List (Addr × Obj)) (H : Hp) (b : Addr) : Prop :=
  H b = none ∧ b ≠ X.env.locals ∧ b ∉ X.fs ∧ (b ∈ X.ex ∨ X.s_0.heap.objs.size ≤ b) ∧ (∀ x c, X.env.cells.lookup x = some c → c ≠ b) ∧ ∀ p ∈ X.pn ++ pins, p.1 ≠ b
theorem Inv.fpOk {X : Cx} {pins : List (Addr × Obj)} {σ : St} {H H' : Hp} {s : Shared} {b : Addr} (I : Inv X pins σ H s) (hb : s.heap.objs.size ≤ b) (hn : H' b = none) : FpOk X pins H' b := by
  refine ⟨hn, Nat.ne_of_gt (Nat.lt_of_lt_of_le I.lt hb), I.nofs hb, .inr (Nat.le_trans I.sz hb), fun x c e z => ?_, fun p hp z => ?_⟩
  · obtain ⟨v, q⟩ := I.cell x c e
    exact absurd (Nat.lt_of_lt_of_le q.lt (by rw [z]; exact hb)) (Nat.lt_irrefl _)
  · exact absurd (Nat.lt_of_lt_of_le (Heap.lt_size (I.pin p hp).1) (by rw [z]; exact hb)) (Nat.lt_irrefl _)
structure Turn (P : Program) (w : World) (K : PySem.W.Frag) (tg : Expr) (J : It) (fp : List Addr) (it : Addr) (tn : Nat → Heap → Prop) : Prop where
  mem : it ∈ fp
  obj : ∀ i h, tn i h → ∀ b ∈ fp, ∃ o, h.get? b = some o ∧ ∀ v, o.data ≠ .cell v
  keep : ∀ i h h', tn i h → (∀ b ∈ fp, ∀ o, h.get? b = some o → h'.get? b = some o) → tn i h'
  item : ∀ (X : Cx), X.prog = P → X.w = w → X.K = K → X.calm = true → ∀ (i : Nat) (pins : List (Addr × Obj)) (s : Shared) (σ : St) (H : Hp) (E : Value → Shared → Prop), Inv X pins σ H s → (∀ b ∈ fp, FpOk X pins H b) → tn i s.heap → J.go i H →
    wpAny (model P w) X.A (pyNext (.ref it)) (fun r s1 => ∃ u, r = some u ∧
      wpAny (model P w) X.A (letOwnedTupleGo tg (.ref it) u) (fun _ s2 => ∃ x H', Inv X pins σ H' s2 ∧ RelV x u ∧ J.yld i H x H' ∧ tn (i + 1) s2.heap ∧ ∀ b ∈ fp, H' b = none) E s1) E s
  done : ∀ (X : Cx), X.prog = P → X.w = w → X.K = K → X.calm = true → ∀ (i : Nat) (pins : List (Addr × Obj)) (s : Shared) (σ : St) (H : Hp) (E : Value → Shared → Prop), Inv X pins σ H s → (∀ b ∈ fp, FpOk X pins H b) → tn i s.heap → J.stop i H →
    wpAny (model P w) X.A (pyNext (.ref it)) (fun r s1 => r = none ∧ Inv X pins σ H s1) E s
  self : ∀ (A : Around) (i : Nat) (s : Shared) (Q : Value → Shared → Prop) (E : Value → Shared → Prop), tn i s.heap → Q (.ref it) s → wpAny (model P w) A (pyIter (.ref it)) Q E s
abbrev TI := St → Hp → (It → Hp → Prop) → Prop
/-- an iterator has come -/
def PIE (X : Cx) (pins : List (Addr × Obj)) (σ : St) (tg : Expr) (R : It → Hp → Prop) (itv : Value) (s2 : Shared) : Prop :=
  ∃ (it : Addr) (fp : List Addr) (tn : Nat → Heap → Prop) (J : It) (H' : Hp), itv = .ref it ∧ Inv X pins σ H' s2 ∧ Turn X.prog X.w X.K tg J fp it tn ∧ tn 0 s2.heap ∧ (∀ b ∈ fp, FpOk X pins H' b) ∧ R J H'
def PI (X : Cx) (tg iter : Expr) (wi : TI) : Prop :=
  ∀ (pins : List (Addr × Obj)) (s : Shared) (σ : St) (H : Hp) (R : It → Hp → Prop), Inv X pins σ H s → wi σ H R →
    wpAny (model X.prog X.w) X.A (eval iter X.env) (fun v s1 => wpAny (model X.prog X.w) X.A (pyIter v) (PIE X pins σ tg R) X.xe s1) X.xe s
/-- the step ahead of the store is nothing for an iterator that keeps no tuple -/
theorem go_of {M : Model} {A : Around} {E : Value → Shared → Prop} {s : Shared} {tg : Expr} {it : Addr} {u : Value} {o : Obj} {n : String} {vs : Array Value} {Q : Unit → Shared → Prop} (ho : s.heap.get? it = some o) (hc : o.cls = .type n) (hd : o.data = .fields vs)
    (hn : ["enumerate", "zip", "dict_itemiterator", "dict_reverseitemiterator", "odict_iterator", "itertools.zip_longest", "itertools.pairwise"].contains n = false) (hQ : Q () s) : wpAny M A (letOwnedTupleGo tg (.ref it) u) Q E s := by
  unfold letOwnedTupleGo
  cases tg <;> first
    | exact wpAny_pure hQ
    | (cases u <;> first
        | exact wpAny_pure hQ
        | (refine wpAny_bind (wpAny_load ho ?_)
           rw [hc, hd]
           show wpAny M A (if (["enumerate", "zip", "dict_itemiterator", "dict_reverseitemiterator", "odict_iterator", "itertools.zip_longest", "itertools.pairwise"].contains n && vs[0]? == some (rawInt _)) = true then _ else _) Q E s
           rw [if_neg (by intro h; rw [hn, Bool.false_and] at h; cases h)]
           exact wpAny_pure hQ))
/-- the list at a, as it stands at each turn (a loop may append to it) -/
def Itl (K : PySem.W.Frag) (a : Addr) : It :=
  ⟨fun i H => ∃ xs x, SqL K H a xs ∧ xs[i]? = some x, fun i H x H' => H' = H ∧ ∀ xs, SqL K H a xs → xs[i]? = some x, fun i H => ∃ xs, SqL K H a xs ∧ xs.length ≤ i⟩
/-- lo, lo + 1, .. (n of them) -/
def Itr (lo : Int) (n : Nat) : It := ⟨fun i _ => i < n, fun i H x H' => H' = H ∧ x = .int (lo + i), fun i _ => n ≤ i⟩
theorem turn_list {P : Program} {w : World} {K : PySem.W.Frag} {tg : Expr} (a it : Addr) : Turn P w K tg (Itl K a) [it] it (fun i h => h.IsListIter it a i) where
  mem := by simp
  obj := fun i h st b hb => by
    have e : b = it := by simpa using hb
    subst e
    obtain ⟨o, e, c, d⟩ := st
    exact ⟨o, e, fun v z => by rw [d] at z; cases z⟩
  keep := fun i h h' st k => st.at fun o e => k it (by simp) o e
  item := by
    intro X hP hw hK hc i pins s σ H E I hf st hg
    subst hP hw hK
    obtain ⟨xs, x, hq, hx⟩ := hg
    obtain ⟨its, rv, p, hz⟩ := I.list hq
    obtain ⟨u, hu, ru⟩ := rv.get hx
    obtain ⟨f0, f1, f2, f3, f4, f5⟩ := hf it (by simp)
    refine wpAny_pyNext_list_item st p.isList (x := u) (by simpa using hu) fun h' st' sb => ?_
    have I1 : Inv X pins σ H { s with heap := h' } := I.turned (t' := s.toks) (fun b o hb e => (sb.2 b hb).trans e) f0 f1 f3 f4 f5
    obtain ⟨o, e, c, d⟩ := id st'
    exact ⟨u, rfl, go_of (s := { s with heap := h' }) e c d (by decide) ⟨x, H, I1, ru, ⟨rfl, fun ys hy => by rw [I.list_inj hy hq]; exact hx⟩, st', fun b hb => (hf b hb).1⟩⟩
  done := by
    intro X hP hw hK hc i pins s σ H E I hf st hg
    subst hP hw hK
    obtain ⟨xs, hq, hx⟩ := hg
    obtain ⟨its, rv, p, hz⟩ := I.list hq
    obtain ⟨f0, f1, f2, f3, f4, f5⟩ := hf it (by simp)
    have hl := rv.length
    exact wpAny_pyNext_list_end (I.ok.hd hc) st p.isList (by simp; omega) fun h' eb => ⟨rfl, I.turned (t' := s.toks) (fun b o hb e => eb b o hb e) f0 f1 f3 f4 f5⟩
  self := fun _ _ _ _ _ st h => wpAny_pyIter_listiter st h
theorem turn_range {P : Program} {w : World} {K : PySem.W.Frag} {tg : Expr} (it : Addr) (lo : Int) (n : Nat) : Turn P w K tg (Itr lo n) [it] it (fun i h => IsRangeIter h it (lo + (i : Nat) * 1) ((n : Int) - (i : Nat)) 1) where
  mem := by simp
  obj := fun i h st b hb => by
    have e : b = it := by simpa using hb
    subst e
    exact ⟨_, st, fun v z => by
      have z' : Data.fields _ = Data.cell v := z
      cases z'⟩
  keep := fun i h h' st k => k it (by simp) _ st
  item := by
    intro X hP hw hK hc i pins s σ H E I hf st hg
    subst hP hw hK
    obtain ⟨f0, f1, f2, f3, f4, f5⟩ := hf it (by simp)
    have W := Walks.range (prog := X.prog) (w := X.w) (I.ok.hd hc) it lo 1 n
    refine W.item i s _ _ hg st fun v h' tk hv st' kk => ?_
    obtain ⟨t, rfl⟩ := hv
    have I1 : Inv X pins σ H { s with heap := h', toks := tk } := I.turned (fun b o hb e => kk b o (by simpa using hb) e) f0 f1 f3 f4 f5
    refine ⟨_, rfl, go_of (s := { s with heap := h', toks := tk }) (n := "range_iterator") st' rfl rfl (by decide) ⟨.int (lo + i), H, I1, ⟨t, ?_⟩, ⟨rfl, rfl⟩, st', fun b hb => (hf b hb).1⟩⟩
    rw [Int.mul_one]
  done := by
    intro X hP hw hK hc i pins s σ H E I hf st hg
    subst hP hw hK
    obtain ⟨f0, f1, f2, f3, f4, f5⟩ := hf it (by simp)
    exact wpAny_pyNext_range_end (I.ok.hd hc) st (by have : n ≤ i := hg; omega) fun h' eb => ⟨rfl, I.turned (t' := s.toks) (fun b o hb e => eb b o hb e) f0 f1 f3 f4 f5⟩
  self := fun _ _ _ _ _ st h => wpAny_pyIter_rangeiter st h
end L2
namespace L2
open PySem PySem.Spec PyProof.Rows
section
variable {X : Cx} {tg : Expr}
def iList (K : PySem.W.Frag) (tl : TE) : TI := fun σ H R => tl σ H fun x H1 => ∃ a, x = .ref a ∧ (∃ xs, SqL K H1 a xs) ∧ R (Itl K a) H1
theorem pi_list {l : Expr} {tl : TE} (hl : PE X l tl) : PI X tg l (iList X.K tl) := by
  intro pins s σ H R I h
  refine thn (hl pins s σ H _ I h) fun v s1 ⟨x, H1, I1, r1, q1⟩ => ?_
  obtain ⟨a, e, ⟨xs, hq⟩, q⟩ := q1
  subst e
  cases r1
  obtain ⟨its, rv, p, hz⟩ := I1.list hq
  refine wpAny_pyIter_list p.isList ?_
  refine ⟨s1.heap.objs.size, [s1.heap.objs.size], _, _, H1, rfl, I1.kept (t' := s1.toks) fun b o e => Heap.get?_push_of_some _ e, turn_list a _, ⟨_, Heap.get?_push_size _ rfl, rfl, rfl⟩, fun b hb => ?_, q⟩
  have e : b = s1.heap.objs.size := by simpa using hb
  subst e
  exact I1.fpOk (Nat.le_refl _) (I1.hok.fresh (Nat.le_refl _))
/-- a range object just made, walked -/
theorem range_it {pins : List (Addr × Obj)} {σ : St} {H : Hp} {s : Shared} {R : It → Hp → Prop} {E : Value → Shared → Prop} {lo hi : Int} {t u v : Tok} {tk : Nat} (I : Inv X pins σ H s) (h1 : -(2 ^ 62) ≤ lo) (h2 : lo < 2 ^ 62) (h3 : -(2 ^ 62) ≤ hi) (h4 : hi < 2 ^ 62)
    (q : R (Itr lo (hi - lo).toNat) H) : wpAny (model X.prog X.w) X.A (pyIter (.ref s.heap.objs.size)) (PIE X pins σ tg R) E { s with heap := s.heap.push { cls := .type "range", data := .fields #[.int lo t, .int hi u, .int 1 v] }, toks := tk } := by
  refine wpAny_pyIter_range (IsRange.new ..) (small_one h1 h2 h3 h4) ?_
  have I1 : Inv X pins σ H { s with heap := s.heap.push { cls := .type "range", data := .fields #[.int lo t, .int hi u, .int 1 v] }, toks := tk } := I.kept fun b o e => Heap.get?_push_of_some _ e
  refine ⟨(s.heap.push { cls := .type "range", data := .fields #[.int lo t, .int hi u, .int 1 v] }).objs.size, [(s.heap.push { cls := .type "range", data := .fields #[.int lo t, .int hi u, .int 1 v] }).objs.size], _, _, H, rfl,
    I1.kept (t' := tk) fun b o e => Heap.get?_push_of_some _ e, turn_range _ lo (hi - lo).toNat, ?_, fun b hb => ?_, q⟩
  · have e1 : lo + ((0 : Nat) : Int) * 1 = lo := by simp
    have e2 : (((hi - lo).toNat : Nat) : Int) - ((0 : Nat) : Int) = Builtin.Range.rangeSize lo hi 1 := by rw [rangeSize_one]; split <;> omega
    show IsRangeIter _ _ (lo + ((0 : Nat) : Int) * 1) ((((hi - lo).toNat : Nat) : Int) - ((0 : Nat) : Int)) 1
    rw [e1, e2]
    exact Heap.get?_push_size _ rfl
  · have e : b = (s.heap.push { cls := .type "range", data := .fields #[.int lo t, .int hi u, .int 1 v] }).objs.size := by simpa using hb
    subst e
    exact I1.fpOk (Nat.le_refl _) (I1.hok.fresh (Nat.le_refl _))
def iRng1 (ta : TA) : TI := fun σ H R => ta σ H fun vs H1 => ∃ j : Int, vs = [.int j] ∧ -(2 ^ 62) ≤ j ∧ j < 2 ^ 62 ∧ R (Itr 0 j.toNat) H1
theorem pi_range1 {a : Expr} {ta : TA} {p pos : Pos} (hg : Gl X "range") (hm : X.mg "range" = none) (ha : PA X [a] ta) (hs : starEach [a] X.env = [(false, eval a X.env)] := by rfl) : PI X tg (.Call (.Name "range" p) [a] [] pos) (iRng1 ta) := by
  intro pins s σ H R I h
  refine Call_ (ld_blt I hg hm boot_range (PyProof.Rows.callWith_type1 (thn (ha pos pins s σ H _ I h) fun us s1 ⟨vs, H1, I1, r1, q1⟩ => ?_) hs rfl))
  obtain ⟨j, e, q1, q2, q⟩ := q1
  subst e
  cases r1 with
  | cons r rr =>
    cases rr
    obtain ⟨t, rfl⟩ := r
    exact call_range_1 (range_it I1 (by omega) (by omega) q1 q2 (by simpa using q))
/-! ### for -/
/-- W: the invariant by the turn and a measure; N: what the body is to reach -/
def tFor (wi : TI) (g : TG) (tb : TS) : TS := fun D σ H => wi σ H fun J H1 => ∃ W : Nat → Nat → St → Hp → Prop, (∃ m, W 0 m σ H1) ∧ ∀ i m σ H, W i m σ H →
  (J.stop i H ∧ D.nx σ H) ∨ (J.go i H ∧ ∃ N : St → Hp → Prop, (∀ σ' H', N σ' H' → ∃ m', m' < m ∧ W (i + 1) m' σ' H') ∧ ∀ x H', J.yld i H x H' → g x σ H' fun σ2 H2 => tb { D with nx := N, ct := N, bk := D.nx } σ2 H2)
/-- the records at fp as they stand -/
def pinsAt (fp : List Addr) (h : Heap) : List (Addr × Obj) := fp.filterMap fun b => (h.get? b).map fun o => (b, o)
theorem mem_pinsAt {fp : List Addr} {h : Heap} {b : Addr} {o : Obj} (hb : b ∈ fp) (e : h.get? b = some o) : (b, o) ∈ pinsAt fp h := List.mem_filterMap.mpr ⟨b, hb, by rw [e]; rfl⟩
theorem of_pinsAt {fp : List Addr} {h : Heap} {p : Addr × Obj} (hp : p ∈ pinsAt fp h) : p.1 ∈ fp ∧ h.get? p.1 = some p.2 := by
  obtain ⟨b, hb, e⟩ := List.mem_filterMap.mp hp
  cases q : h.get? b with
  | none => rw [q] at e; cases e
  | some o =>
    rw [q] at e
    have e' : (b, o) = p := Option.some.inj e
    subst e'
    exact ⟨hb, q⟩
theorem Inv.pinned {pins : List (Addr × Obj)} {σ : St} {H : Hp} {s : Shared} {fp : List Addr} (I : Inv X pins σ H s) (hf : ∀ b ∈ fp, FpOk X pins H b) (ho : ∀ b ∈ fp, ∃ o, s.heap.get? b = some o ∧ ∀ v, o.data ≠ .cell v) : Inv X (pins ++ pinsAt fp s.heap) σ H s :=
  I.pins_of fun p hp => (List.mem_append.mp hp).elim (fun z => I.pin p (List.mem_append_right _ z)) fun z => by
    obtain ⟨hb, e⟩ := of_pinsAt z
    obtain ⟨f0, f1, f2, _⟩ := hf p.1 hb
    obtain ⟨o, e', d⟩ := ho p.1 hb
    rw [e] at e'; cases e'
    exact ⟨e, f0, f1, f2, d⟩
theorem Inv.unpinned {pins pl : List (Addr × Obj)} {σ : St} {H : Hp} {s : Shared} (I : Inv X (pins ++ pl) σ H s) : Inv X pins σ H s := I.pins_of fun p hp => I.pin p (List.mem_append_right _ (List.mem_append_left _ hp))
theorem ps_for {iter : Expr} {body : List Stmt} {wi : TI} {g : TG} {tb : TS} {pos : Pos} (hp : PassesOwn (model X.prog X.w) X.A X.env X.xe) (hc : X.calm = true) (hi : PI X tg iter wi) (hg : PG X tg g) (hb : PSs X body tb)
    (hs : ∀ x, foldedSetIterable iter X.env x = pure x := by intro _; rfl) : PS X (.For tg iter body [] pos) (tFor wi g tb) := by
  intro pins s σ H D I h
  refine wpAny_For (thn (hi pins s σ H _ I h) fun v s1 h1 => thn h1 fun itv s2 h2 => ?_) hs
  obtain ⟨it, fp, tn, J, H2, e, I2, T, st2, f2, W, ⟨m0, w0⟩, turn⟩ := h2
  subst e
  -- what stays true of the iterator's objects through the loop
  have stat : ∀ {H' : Hp}, (∀ b ∈ fp, H' b = none) → ∀ b ∈ fp, FpOk X pins H' b := fun hn b hb => ⟨hn b hb, (f2 b hb).2⟩
  refine codeAny_forLoop_any (fun n s' => ∃ i σ' H', Inv X pins σ' H' s' ∧ tn i s'.heap ∧ (∀ b ∈ fp, H' b = none) ∧ W i n σ' H') ?_ m0 ⟨0, σ, H2, I2, st2, fun b hb => (f2 b hb).1, w0⟩
  rintro n s3 ⟨i, σ3, H3, I3, st3, fr3, w3⟩
  rcases turn i n σ3 H3 w3 with ⟨stop, qn⟩ | ⟨go, N, hN, step⟩
  · refine wpAny_passesOwn hp (thn (T.done X rfl rfl rfl hc i pins s3 σ3 H3 X.xe I3 (stat fr3) st3 stop) fun r s4 ⟨hr, I4⟩ => ?_)
    subst hr
    exact wpAny_execs_nil ⟨σ3, H3, I4, qn⟩
  · refine wpAny_passesOwn hp (thn (T.item X rfl rfl rfl hc i pins s3 σ3 H3 X.xe I3 (stat fr3) st3 go) fun r s4 ⟨u, hr, h4⟩ => ?_)
    subst hr
    refine wpAny_passesOwn hp (thn h4 fun _ s5 ⟨x, H5, I5, r5, y5, st5, fr5⟩ => ?_)
    have I5' := I5.pinned (stat fr5) (T.obj _ _ st5)
    refine wpAny_passesOwn hp (thn (hg _ s5 σ3 H5 x u _ I5' r5 (step x H5 y5)) fun _ s6 ⟨σ6, H6, I6, q6⟩ => ?_)
    refine wpAny_passesOwn hp (thn (hb _ s6 σ6 H6 _ I6 q6) fun f s7 q7 => ?_)
    have again : ∀ {σ7 : St} {H7 : Hp}, Inv X (pins ++ pinsAt fp s5.heap) σ7 H7 s7 → N σ7 H7 → ∃ m, m < n ∧ ∃ i σ' H', Inv X pins σ' H' s7 ∧ tn i s7.heap ∧ (∀ b ∈ fp, H' b = none) ∧ W i m σ' H' := fun {σ7 H7} I7 n7 => by
      obtain ⟨m', hm, w7⟩ := hN σ7 H7 n7
      refine ⟨m', hm, i + 1, σ7, H7, I7.unpinned, T.keep _ _ _ st5 fun b hb o e => (I7.pin (b, o) (List.mem_append_right _ (List.mem_append_right _ (mem_pinsAt hb e)))).1, fun b hb => ?_, w7⟩
      obtain ⟨o, e, d⟩ := T.obj _ _ st5 b hb
      exact (I7.pin (b, o) (List.mem_append_right _ (List.mem_append_right _ (mem_pinsAt hb e)))).2.1
    cases f with
    | next => obtain ⟨σ7, H7, I7, n7⟩ := q7; exact again I7 n7
    | cont => obtain ⟨σ7, H7, I7, n7⟩ := q7; exact again I7 n7
    | brk => obtain ⟨σ7, H7, I7, q7⟩ := q7; exact ⟨σ7, H7, I7.unpinned, q7⟩
    | ret v => obtain ⟨x7, σ7, H7, I7, r7, q7⟩ := q7; exact ⟨x7, σ7, H7, I7.unpinned, r7, q7⟩
end
/-! ### the forms one uses -/
/-- over a list that the body leaves as it is -/
theorem for_list {K : PySem.W.Frag} {a : Addr} {xs : List V} {g : TG} {tb : TS} {D : Ends} {σ : St} {H : Hp} (Pv : Nat → St → Hp → Prop) (h0 : Pv 0 σ H) (hl : ∀ i σ H, i ≤ xs.length → Pv i σ H → SqL K H a xs)
    (hs : ∀ i x σ H, xs[i]? = some x → Pv i σ H → g x σ H fun σ2 H2 => tb { D with nx := Pv (i + 1), ct := Pv (i + 1), bk := D.nx } σ2 H2) (hd : ∀ σ H, Pv xs.length σ H → D.nx σ H) :
    ∃ W : Nat → Nat → St → Hp → Prop, (∃ m, W 0 m σ H) ∧ ∀ i m σ H, W i m σ H →
      ((Itl K a).stop i H ∧ D.nx σ H) ∨ ((Itl K a).go i H ∧ ∃ N : St → Hp → Prop, (∀ σ' H', N σ' H' → ∃ m', m' < m ∧ W (i + 1) m' σ' H') ∧ ∀ x H', (Itl K a).yld i H x H' → g x σ H' fun σ2 H2 => tb { D with nx := N, ct := N, bk := D.nx } σ2 H2) := by
  refine ⟨fun i m σ H => m = xs.length - i ∧ i ≤ xs.length ∧ Pv i σ H, ⟨xs.length, by simp, Nat.zero_le _, h0⟩, ?_⟩
  rintro i m σ H ⟨rfl, hi, p⟩
  have q := hl i σ H hi p
  by_cases hlt : i < xs.length
  · refine .inr ⟨⟨xs, xs[i], q, by simp [hlt]⟩, Pv (i + 1), fun σ' H' p' => ⟨xs.length - (i + 1), by omega, rfl, hlt, p'⟩, fun x H' y => ?_⟩
    obtain ⟨e, y⟩ := y
    subst e
    exact hs i x σ _ (y xs q) p
  · have e : i = xs.length := by omega
    subst e
    exact .inl ⟨⟨xs, q, Nat.le_refl _⟩, hd σ H p⟩
theorem for_range {lo : Int} {n : Nat} {g : TG} {tb : TS} {D : Ends} {σ : St} {H : Hp} (Pv : Nat → St → Hp → Prop) (h0 : Pv 0 σ H)
    (hs : ∀ i σ H, i < n → Pv i σ H → g (.int (lo + i)) σ H fun σ2 H2 => tb { D with nx := Pv (i + 1), ct := Pv (i + 1), bk := D.nx } σ2 H2) (hd : ∀ σ H, Pv n σ H → D.nx σ H) :
    ∃ W : Nat → Nat → St → Hp → Prop, (∃ m, W 0 m σ H) ∧ ∀ i m σ H, W i m σ H →
      ((Itr lo n).stop i H ∧ D.nx σ H) ∨ ((Itr lo n).go i H ∧ ∃ N : St → Hp → Prop, (∀ σ' H', N σ' H' → ∃ m', m' < m ∧ W (i + 1) m' σ' H') ∧ ∀ x H', (Itr lo n).yld i H x H' → g x σ H' fun σ2 H2 => tb { D with nx := N, ct := N, bk := D.nx } σ2 H2) := by
  refine ⟨fun i m σ H => m = n - i ∧ i ≤ n ∧ Pv i σ H, ⟨n, by simp, Nat.zero_le _, h0⟩, ?_⟩
  rintro i m σ H ⟨rfl, hi, p⟩
  by_cases hlt : i < n
  · refine .inr ⟨hlt, Pv (i + 1), fun σ' H' p' => ⟨n - (i + 1), by omega, rfl, hlt, p'⟩, fun x H' y => ?_⟩
    obtain ⟨e, y⟩ := y
    subst e y
    exact hs i σ _ hlt p
  · have e : i = n := by omega
    subst e
    exact .inl ⟨Nat.le_refl _, hd σ H p⟩
end L2
namespace L2
open PySem PySem.Spec PyProof.Rows
abbrev R2 := V → V → Hp → VK → Prop
/-- a two-place operation on values: f is binaryOp op, inplaceOp op or compareOp op -/
def OpR (X : Cx) (f : Value → Value → Sem Value) (r : R2) : Prop :=
  ∀ (pins : List (Addr × Obj)) (s : Shared) (σ : St) (H : Hp) (x y : V) (v u : Value) (Q : VK), Inv X pins σ H s → RelV x v → RelV y u → r x y H Q →
    wpAny (model X.prog X.w) X.A (f v u) (EP X pins σ Q) X.xe s
/-- a one-place operation -/
def UnR (X : Cx) (f : Value → Sem Value) (r : V → Hp → VK → Prop) : Prop :=
  ∀ (pins : List (Addr × Obj)) (s : Shared) (σ : St) (H : Hp) (x : V) (v : Value) (Q : VK), Inv X pins σ H s → RelV x v → r x H Q →
    wpAny (model X.prog X.w) X.A (f v) (EP X pins σ Q) X.xe s
/-- a call of a value that is known (a builtin, a type) with values -/
def CallR (X : Cx) (f : Value) (r : List V → Hp → VK → Prop) : Prop :=
  ∀ (pins : List (Addr × Obj)) (s : Shared) (σ : St) (H : Hp) (xs : List V) (us : List Value) (Q : VK), Inv X pins σ H s → Vals xs us → r xs H Q →
    wpAny (model X.prog X.w) X.A (call f us) (EP X pins σ Q) X.xe s
def tOp (r : R2) (ta tb : TE) : TE := fun σ H Q => ta σ H fun x H1 => tb σ H1 fun y H2 => r x y H2 Q
def tUn (r : V → Hp → VK → Prop) (ta : TE) : TE := fun σ H Q => ta σ H fun x H1 => r x H1 Q
/-- ints in, under C, and a value out -/
def rI (C : Int → Int → Prop) (g : Int → Int → V) : R2 := fun x y H Q => ∃ i j, x = .int i ∧ y = .int j ∧ C i j ∧ Q (g i j) H
def rI0 (g : Int → Int → V) : R2 := fun x y H Q => ∃ i j, x = .int i ∧ y = .int j ∧ Q (g i j) H
def rU (g : Int → V) : V → Hp → VK → Prop := fun x H Q => ∃ i, x = .int i ∧ Q (g i) H
section
variable {X : Cx} {a b c : Expr} {ta tb tc : TE} {pos : Pos}
theorem binT (ha : PE X a ta) (hb : PE X b tb) {pins : List (Addr × Obj)} {s : Shared} {σ : St} {H : Hp} {R : V → V → Hp → Prop} (I : Inv X pins σ H s)
    (h : ta σ H fun x H1 => tb σ H1 fun y H2 => R x y H2) {Q : Value → Shared → Prop} {f : Value → Value → Sem Value}
    (hf : ∀ v u s2 x y H2, Inv X pins σ H2 s2 → RelV x v → RelV y u → R x y H2 → wpAny (model X.prog X.w) X.A (f v u) Q X.xe s2) :
    wpAny (model X.prog X.w) X.A (eval a X.env) (fun v s₁ => wpAny (model X.prog X.w) X.A (eval b X.env) (fun u s₂ => wpAny (model X.prog X.w) X.A (f v u) Q X.xe s₂) X.xe s₁) X.xe s := by
  refine thn (ha pins s σ H _ I h) fun v s1 ⟨x, H1, I1, r1, q1⟩ => ?_
  refine thn (hb pins s1 σ H1 _ I1 q1) fun u s2 ⟨y, H2, I2, r2, q2⟩ => ?_
  exact hf v u s2 x y H2 I2 r1 r2 q2
theorem pe_op {op : Operator} {r : R2} (ho : OpR X (binaryOp op) r) (ha : PE X a ta) (hb : PE X b tb) : PE X (.BinOp a op b pos) (tOp r ta tb) := by
  intro pins s σ H Q I h
  exact wpAny_BinOp (binT ha hb I h fun v u s2 x y H2 I2 rx ry q => ho pins s2 σ H2 x y v u Q I2 rx ry q)
theorem pe_un {op : UnaryOp} {r : V → Hp → VK → Prop} (ho : UnR X (unaryOp op) r) (ha : PE X a ta) : PE X (.UnaryOp op a pos) (tUn r ta) := by
  intro pins s σ H Q I h
  exact UnaryOp_ (thn (ha pins s σ H _ I h) fun v s1 ⟨x, H1, I1, r1, q1⟩ => ho pins s1 σ H1 x v Q I1 r1 q1)
/-! ### ints -/
theorem opI {f : Value → Value → Sem Value} {C : Int → Int → Prop} {g : Int → Int → Int}
    (rule : ∀ (i j : Int) (t u : Tok) (s : Shared) (Q : Value → Shared → Prop) (E : Value → Shared → Prop), C i j → Q (.int (g i j) s.toks) { s with toks := s.toks + 1 } → wpAny (model X.prog X.w) X.A (f (.int i t) (.int j u)) Q E s) :
    OpR X f (rI C fun i j => .int (g i j)) := by
  intro pins s σ H x y v u Q I rx ry h
  obtain ⟨i, j, rfl, rfl, hc, q⟩ := h
  obtain ⟨t, rfl⟩ := rx
  obtain ⟨t', rfl⟩ := ry
  exact rule i j t t' s _ _ hc ⟨.int (g i j), H, I.tok _, ⟨_, rfl⟩, q⟩
theorem opI0 {f : Value → Value → Sem Value} {g : Int → Int → Int}
    (rule : ∀ (i j : Int) (t u : Tok) (s : Shared) (Q : Value → Shared → Prop) (E : Value → Shared → Prop), Q (.int (g i j) s.toks) { s with toks := s.toks + 1 } → wpAny (model X.prog X.w) X.A (f (.int i t) (.int j u)) Q E s) :
    OpR X f (rI0 fun i j => .int (g i j)) := by
  intro pins s σ H x y v u Q I rx ry h
  obtain ⟨i, j, rfl, rfl, q⟩ := h
  obtain ⟨t, rfl⟩ := rx
  obtain ⟨t', rfl⟩ := ry
  exact rule i j t t' s _ _ ⟨.int (g i j), H, I.tok _, ⟨_, rfl⟩, q⟩
theorem opB0 {f : Value → Value → Sem Value} {g : Int → Int → Bool}
    (rule : ∀ (i j : Int) (t u : Tok) (s : Shared) (Q : Value → Shared → Prop) (E : Value → Shared → Prop), Q (.bool (g i j)) s → wpAny (model X.prog X.w) X.A (f (.int i t) (.int j u)) Q E s) :
    OpR X f (rI0 fun i j => .bl (g i j)) := by
  intro pins s σ H x y v u Q I rx ry h
  obtain ⟨i, j, rfl, rfl, q⟩ := h
  obtain ⟨t, rfl⟩ := rx
  obtain ⟨t', rfl⟩ := ry
  exact rule i j t t' s _ _ ⟨.bl (g i j), H, I, rfl, q⟩
def CDiv (i j : Int) : Prop := 0 < j ∧ j < 1073741824
def CMul (i j : Int) : Prop := (-(2 ^ 64) < i ∧ i < 2 ^ 64) ∨ (-(2 ^ 64) < j ∧ j < 2 ^ 64)
theorem CMul.ok {i j : Int} (h : CMul i j) : IntMulOk i j := by
  rcases h with ⟨h1, h2⟩ | ⟨h1, h2⟩
  · exact .of_left (intBits_le_64 h1 h2)
  · exact .of_right (intBits_le_64 h1 h2)
theorem two_pow_nn (k : Nat) : (0 : Int) ≤ 2 ^ k := by
  rw [two_pow_cast]
  exact Int.natCast_nonneg _
theorem op_add : OpR X (binaryOp .Add) (rI0 fun i j => .int (i + j)) := opI0 fun _ _ _ _ _ _ _ q => add_int q
theorem op_sub : OpR X (binaryOp .Sub) (rI0 fun i j => .int (i - j)) := opI0 fun _ _ _ _ _ _ _ q => sub_int q
theorem op_mul : OpR X (binaryOp .Mult) (rI CMul fun i j => .int (i * j)) := opI fun _ _ _ _ _ _ _ hc q => mul_int q hc.ok
/-- // by a positive divisor -/
theorem op_fdiv : OpR X (binaryOp .FloorDiv) (rI CDiv fun i j => .int (i / j)) := opI fun i j _ _ _ _ _ hc q => by
  have h1 : (0 : Int) < j := hc.1
  have h2 : j < 1073741824 := hc.2
  exact floordiv_int (by omega) (by rw [Int.fdiv_eq_ediv_of_nonneg i (by omega)]; exact q) (.inl (PyProof.noPylong_small (by omega)))
/-- % by a positive divisor of any size -/
theorem op_mod : OpR X (binaryOp .Mod) (rI (fun _ j => 0 < j) fun i j => .int (i % j)) := opI fun i j _ _ _ _ _ hc q => by
  have h1 : (0 : Int) < j := hc
  exact mod_int' (by omega) (by rw [Int.fmod_eq_emod_of_nonneg i (by omega)]; exact q)
theorem op_shr : OpR X (binaryOp .RShift) (rI (fun _ j => 0 ≤ j) fun i j => .int (i / 2 ^ j.toNat)) := opI fun i j _ _ _ _ _ hc q =>
  rshift_int hc (by rw [Int.fdiv_eq_ediv_of_nonneg i (two_pow_nn _)]; exact q)
theorem op_and : OpR X (binaryOp .BitAnd) (rI0 fun i j => .int (Builtin.bitAnd i j)) := opI0 fun _ _ _ _ _ _ _ q => and_int q
theorem unI {f : Value → Sem Value} {g : Int → Int}
    (rule : ∀ (i : Int) (t : Tok) (s : Shared) (Q : Value → Shared → Prop) (E : Value → Shared → Prop), Q (.int (g i) s.toks) { s with toks := s.toks + 1 } → wpAny (model X.prog X.w) X.A (f (.int i t)) Q E s) :
    UnR X f (rU fun i => .int (g i)) := by
  intro pins s σ H x v Q I rx h
  obtain ⟨i, rfl, q⟩ := h
  obtain ⟨t, rfl⟩ := rx
  exact rule i t s _ _ ⟨.int (g i), H, I.tok _, ⟨_, rfl⟩, q⟩
theorem un_neg : UnR X (unaryOp .USub) (rU fun i => .int (-i)) := unI fun _ _ _ _ _ q => neg_int q
/-! ### bools among ints: n += (a < b) -/
end
/-! ### comparisons -/
/-- the scalars that == tells apart as data does -/
def scal : V → V → Bool
  | .non, .non => true | .non, .int _ => true | .int _, .non => true | .non, .bl _ => true | .bl _, .non => true | .non, .str _ => true | .str _, .non => true
  | .int _, .int _ => true | .bl _, .bl _ => true | .str _, .str _ => true | .byt _, .byt _ => true
  | .int _, .str _ => true | .str _, .int _ => true | .bl _, .str _ => true | .str _, .bl _ => true
  | _, _ => false
def rEq : R2 := fun x y H Q => scal x y = true ∧ Q (.bl (decide (x = y))) H
def rNe : R2 := fun x y H Q => scal x y = true ∧ Q (.bl (!decide (x = y))) H
theorem dec_int {i j : Int} : decide (V.int i = V.int j) = (i == j) := by
  rw [Bool.eq_iff_iff]
  simp
theorem dec_bl {i j : Bool} : decide (V.bl i = V.bl j) = (i == j) := by
  rw [Bool.eq_iff_iff]
  simp
theorem dec_str {i j : Str} : decide (V.str i = V.str j) = (i == j) := by
  rw [Bool.eq_iff_iff]
  simp
theorem dec_byt {i j : Array UInt8} : decide (V.byt i = V.byt j) = (i.toList == j.toList) := by
  rw [Bool.eq_iff_iff]
  cases i
  cases j
  simp
section
variable {X : Cx} {a b c : Expr} {ta tb tc : TE} {pos : Pos}
theorem fin_bl {pins : List (Addr × Obj)} {σ : St} {H : Hp} {s : Shared} {Q : VK} {k k' : Bool} (I : Inv X pins σ H s) (q : Q (.bl k) H) (e : k = k') : EP X pins σ Q (.bool k') s := by
  subst e
  exact ⟨.bl k, H, I, rfl, q⟩
theorem op_eq : OpR X (compareOp .Eq) rEq := by
  intro pins s σ H x y v u Q I rx ry h
  obtain ⟨hs, q⟩ := h
  cases x with
  | non =>
    cases rx
    cases y with
    | non => cases ry; exact PySem.EqNone.eq_none_none (fin_bl I q (by simp))
    | bl j => cases ry; exact PySem.EqNone.eq_none_bool (fin_bl I q (by simp))
    | int j => obtain ⟨t', rfl⟩ := ry; exact PySem.EqNone.eq_none_int (fin_bl I q (by simp))
    | str j => obtain ⟨t', rfl⟩ := ry; exact PySem.EqNone.eq_none_str (fin_bl I q (by simp))
    | _ => exact absurd (show false = true from hs) Bool.false_ne_true
  | bl i =>
    cases rx
    cases y with
    | non => cases ry; exact PySem.EqNone.eq_bool_none (fin_bl I q (by simp))
    | bl j => cases ry; exact eq_bool (fin_bl I q dec_bl)
    | str j => obtain ⟨t', rfl⟩ := ry; exact PySem.EqMixed.eq_bool_str (fin_bl I q (by simp))
    | _ => exact absurd (show false = true from hs) Bool.false_ne_true
  | int i =>
    obtain ⟨t, rfl⟩ := rx
    cases y with
    | non => cases ry; exact PySem.EqNone.eq_int_none (fin_bl I q (by simp))
    | int j => obtain ⟨t', rfl⟩ := ry; exact eq_int (fin_bl I q dec_int)
    | str j => obtain ⟨t', rfl⟩ := ry; exact PySem.EqMixed.eq_int_str (fin_bl I q (by simp))
    | _ => exact absurd (show false = true from hs) Bool.false_ne_true
  | str i =>
    obtain ⟨t, rfl⟩ := rx
    cases y with
    | non => cases ry; exact PySem.EqNone.eq_str_none (fin_bl I q (by simp))
    | bl j => cases ry; exact PySem.EqMixed.eq_str_bool (fin_bl I q (by simp))
    | int j => obtain ⟨t', rfl⟩ := ry; exact PySem.EqMixed.eq_str_int (fin_bl I q (by simp))
    | str j => obtain ⟨t', rfl⟩ := ry; exact eq_str (fin_bl I q dec_str)
    | _ => exact absurd (show false = true from hs) Bool.false_ne_true
  | byt i =>
    obtain ⟨t, rfl⟩ := rx
    cases y with
    | byt j => obtain ⟨t', rfl⟩ := ry; exact PySem.W.eq_bytes (fin_bl I q dec_byt)
    | _ => exact absurd (show false = true from hs) Bool.false_ne_true
  | _ => cases y <;> exact absurd (show false = true from hs) Bool.false_ne_true
theorem op_ne : OpR X (compareOp .NotEq) rNe := by
  intro pins s σ H x y v u Q I rx ry h
  obtain ⟨hs, q⟩ := h
  cases x with
  | non =>
    cases rx
    cases y with
    | non => cases ry; exact PySem.EqNone.ne_none_none (fin_bl I q (by simp))
    | bl j => cases ry; exact PySem.EqNone.ne_none_bool (fin_bl I q (by simp))
    | int j => obtain ⟨t', rfl⟩ := ry; exact PySem.EqNone.ne_none_int (fin_bl I q (by simp))
    | str j => obtain ⟨t', rfl⟩ := ry; exact PySem.EqNone.ne_none_str (fin_bl I q (by simp))
    | _ => exact absurd (show false = true from hs) Bool.false_ne_true
  | bl i =>
    cases rx
    cases y with
    | non => cases ry; exact PySem.EqNone.ne_bool_none (fin_bl I q (by simp))
    | bl j => cases ry; exact ne_bool (fin_bl I q (congrArg not dec_bl))
    | str j => obtain ⟨t', rfl⟩ := ry; exact PySem.EqMixed.ne_bool_str (fin_bl I q (by simp))
    | _ => exact absurd (show false = true from hs) Bool.false_ne_true
  | int i =>
    obtain ⟨t, rfl⟩ := rx
    cases y with
    | non => cases ry; exact PySem.EqNone.ne_int_none (fin_bl I q (by simp))
    | int j => obtain ⟨t', rfl⟩ := ry; exact ne_int (fin_bl I q (congrArg not dec_int))
    | str j => obtain ⟨t', rfl⟩ := ry; exact PySem.EqMixed.ne_int_str (fin_bl I q (by simp))
    | _ => exact absurd (show false = true from hs) Bool.false_ne_true
  | str i =>
    obtain ⟨t, rfl⟩ := rx
    cases y with
    | non => cases ry; exact PySem.EqNone.ne_str_none (fin_bl I q (by simp))
    | bl j => cases ry; exact PySem.EqMixed.ne_str_bool (fin_bl I q (by simp))
    | int j => obtain ⟨t', rfl⟩ := ry; exact PySem.EqMixed.ne_str_int (fin_bl I q (by simp))
    | str j => obtain ⟨t', rfl⟩ := ry; exact ne_str (fin_bl I q (congrArg not dec_str))
    | _ => exact absurd (show false = true from hs) Bool.false_ne_true
  | byt i =>
    obtain ⟨t, rfl⟩ := rx
    cases y with
    | byt j => obtain ⟨t', rfl⟩ := ry; exact PySem.W.ne_bytes (fin_bl I q (congrArg not dec_byt))
    | _ => exact absurd (show false = true from hs) Bool.false_ne_true
  | _ => cases y <;> exact absurd (show false = true from hs) Bool.false_ne_true
theorem op_lt : OpR X (compareOp .Lt) (rI0 fun i j => .bl (decide (i < j))) := opB0 fun _ _ _ _ _ _ _ q => lt_int q
theorem op_le : OpR X (compareOp .LtE) (rI0 fun i j => .bl (decide (i ≤ j))) := opB0 fun _ _ _ _ _ _ _ q => le_int q
theorem op_gt : OpR X (compareOp .Gt) (rI0 fun i j => .bl (decide (j < i))) := opB0 fun _ _ _ _ _ _ _ q => gt_int q
theorem op_ge : OpR X (compareOp .GtE) (rI0 fun i j => .bl (decide (j ≤ i))) := opB0 fun _ _ _ _ _ _ _ q => ge_int q
theorem nomark (b : Expr) {op : CmpOp} (h : op ≠ .In := by decide) (h2 : op ≠ .NotIn := by decide) : behindInMarks op b = false := by
  have e1 : (op == CmpOp.In) = false := by cases op <;> first | rfl | exact absurd rfl h
  have e2 : (op == CmpOp.NotIn) = false := by cases op <;> first | rfl | exact absurd rfl h2
  cases b <;> simp [behindInMarks, e1, e2]
/-- a comparison as a value; hm: nomark b, or (for in, not in) by with_unfolding_all rfl -/
theorem pe_cmpR {op : CmpOp} {r : R2} (ho : OpR X (compareOp op) r) (ha : PE X a ta) (hb : PE X b tb) (hm : behindInMarks op b = false) : PE X (.Compare a [op] [b] pos) (tOp r ta tb) := by
  intro pins s σ H Q I h
  exact wpAny_Compare1 (binT ha hb I h fun v u s2 x y H2 I2 rx ry q => ho pins s2 σ H2 x y v u Q I2 rx ry q) hm
/-- a reading of a value as a test -/
def tTest (t : TE) : TT := fun σ H Q => t σ H fun x H' => ∃ k, x = .bl k ∧ Q k H'
theorem pt_cmpR {op : CmpOp} {r : R2} (ho : OpR X (compareOp op) r) (ha : PE X a ta) (hb : PE X b tb) (hm : behindInMarks op b = false) : PT X (.Compare a [op] [b] pos) (tTest (tOp r ta tb)) := by
  intro pins s σ H Q I h
  refine wpAny_isTrue_Compare1 (thn (ha pins s σ H _ I h) fun v s1 ⟨x, H1, I1, r1, q1⟩ => thn (hb pins s1 σ H1 _ I1 q1) fun u s2 ⟨y, H2, I2, r2, q2⟩ =>
    thn (ho pins s2 σ H2 x y v u _ I2 r1 r2 q2) fun c s3 ⟨z, H3, I3, r3, k, e, q3⟩ => ?_) hm
  subst e
  cases r3
  exact wpAny_truthy_bool ⟨H3, I3, q3⟩
/-! ### truth -/
theorem line63 : (sizeLine : Nat) < 2 ^ 63 := by rw [sizeLine_eq]; decide
/-! ### strs and bytes -/
/-! ### scalar builtins, by CallR -/
theorem vals1 {x : V} {us : List Value} (r : Vals [x] us) : ∃ u, us = [u] ∧ RelV x u := by
  cases r with
  | cons r1 r2 => cases r2; exact ⟨_, rfl, r1⟩
theorem vals2 {x y : V} {us : List Value} (r : Vals [x, y] us) : ∃ u w', us = [u, w'] ∧ RelV x u ∧ RelV y w' := by
  cases r with
  | cons r1 r2 =>
    cases r2 with
    | cons r3 r4 => cases r4; exact ⟨_, _, rfl, r1, r3⟩
theorem call_max2 (hc : X.calm = true) : CallR X (.builtin "max") (fun xs H Q => ∃ i j, xs = [.int i, .int j] ∧ Q (.int (if j > i then j else i)) H) := by
  intro pins s σ H xs us Q I r h
  obtain ⟨i, j, rfl, q⟩ := h
  obtain ⟨u, w', rfl, ⟨t, rfl⟩, ⟨t', rfl⟩⟩ := vals2 r
  refine max_two_ints (I.ok.hd hc) fun h' tk k => ⟨_, H, I.kept k, ?_, q⟩
  by_cases hj : j > i
  · rw [if_pos hj, if_pos hj]; exact ⟨_, rfl⟩
  · rw [if_neg hj, if_neg hj]; exact ⟨_, rfl⟩
theorem call_min2 (hc : X.calm = true) : CallR X (.builtin "min") (fun xs H Q => ∃ i j, xs = [.int i, .int j] ∧ Q (.int (if j < i then j else i)) H) := by
  intro pins s σ H xs us Q I r h
  obtain ⟨i, j, rfl, q⟩ := h
  obtain ⟨u, w', rfl, ⟨t, rfl⟩, ⟨t', rfl⟩⟩ := vals2 r
  refine min_two_ints (I.ok.hd hc) fun h' tk k => ⟨_, H, I.kept k, ?_, q⟩
  by_cases hj : j < i
  · rw [if_pos hj, if_pos hj]; exact ⟨_, rfl⟩
  · rw [if_neg hj, if_neg hj]; exact ⟨_, rfl⟩
end
end L2
namespace L2
open PySem PySem.Spec PyProof.Rows
/-! ### an instance, its attributes a map -/
structure ObjM (h : Heap) (x dx C : Addr) (mA : Str → Option Value) : Prop where
  obj : h.get? x = some (PySem.W.instObj C dx)
  ns : h.Ns1 dx mA
  ne : dx ≠ x
theorem lookIn_ns {h : Heap} {dx : Addr} {mA : Str → Option Value} (n : h.Ns1 dx mA) : ∃ od, h.get? dx = some od ∧ ∀ name, PySem.W.lookIn name od = some (mA name) := by
  obtain ⟨o, es, ep, ho, hd, hk, _, hm⟩ := n
  refine ⟨o, ho, fun name => ?_⟩
  have e := hm name
  unfold nsFind findBy at e
  rw [← Array.find?_toList] at e
  unfold PySem.W.lookIn
  rw [hd]
  dsimp only
  split
  · rename_i y q
    rw [q] at e
    exact congrArg some e
  · rename_i q
    rw [q] at e
    have a : es.toList.any (·.refKey) = false := by
      rw [List.any_eq_false]
      intro y hy
      obtain ⟨z, t, hkey⟩ := hk y (Array.mem_toList_iff.mp hy)
      simp [DictEntry.refKey, hkey]
    have a' : ¬ es.toList.any (·.refKey) = true := by rw [a]; exact Bool.false_ne_true
    rw [if_neg a']
    exact congrArg some e
theorem ObjM.look {h : Heap} {x dx C : Addr} {mA : Str → Option Value} (I : ObjM h x dx C mA) : ∃ od, PySem.W.InstAt h x (PySem.W.instObj C dx) C (some od) ∧ ∀ name, PySem.W.lookIn name od = some (mA name) :=
  let ⟨od, ho, hl⟩ := lookIn_ns I.ns
  ⟨od, ⟨I.obj, rfl, rfl, ho⟩, hl⟩
section
variable {prog : Program} {w : World} {A : Around} {E : Value → Shared → Prop} {s : Shared} {K : PySem.W.Frag} {x dx C f : Addr} {mA : Str → Option Value} {name : Str} {v : Value}
theorem get_map {expr : Bool} {Q : Value → Shared → Prop} (X : K.In s.heap) (I : ObjM s.heap x dx C mA) (hg : PySem.W.plainGet K C name = true) (hh : PySem.W.hasDictIn K C = true)
    (ha : PySem.W.findIn K (.ref C) name = some none) (hv : mA name = some v) (hv' : PySem.W.handedIn v = true) (h : Q v { s with toks := s.toks + 1 }) :
    wpAny (model prog w) A (getAttr (.ref x) name expr) Q E s := by
  obtain ⟨od, J, hl⟩ := I.look
  exact PySem.W.get_value X J (PySem.W.plainGet_of hg).1 (PySem.W.findObj_own hh ha rfl (by rw [hl, hv])) hv' h
theorem get_meth {pl : Sem Bool} {Q : Value × List Value → Shared → Prop} (X : K.In s.heap) (I : ObjM s.heap x dx C mA) (hg : PySem.W.plainGet K C name = true)
    (hf : PySem.W.findIn K (.ref C) name = some (some (.ref f))) (ht : PySem.W.isFn K (.ref f) = true) (hv : mA name = none) (h : Q (.ref f, [.ref x]) s) :
    wpAny (model prog w) A (getMethod (.ref x) name pl) Q E s := by
  obtain ⟨od, J, hl⟩ := I.look
  exact PySem.W.method_fn X J (PySem.W.plainGet_of hg).1 (PySem.W.plainGet_of hg).2 hf (beq_iff_eq.mp ht) (by show (PySem.W.lookIn name od).map (·.isSome) = some false; rw [hl, hv]; rfl) h
theorem set_map {ns : List Str} {Q : Unit → Shared → Prop} (X : K.In s.heap) (I : ObjM s.heap x dx C mA)
    (hs : PySem.W.findIn K (.ref C) "__setattr__" = some (some (.builtin "object.__setattr__"))) (hp : PySem.W.plainOver K C = true) (ht : PySem.W.takerIn K C name = some none) (hh : PySem.W.hasDictIn K C = true)
    (hw : PySem.Within mA ns) (hsz : ns.length ≤ sizeLine)
    (h : ∀ h', ObjM h' x dx C (fun y => if y = name then some v else mA y) → Heap.SameBut dx s.heap h' → Q () { s with heap := h', toks := s.toks + 2 }) :
    wpAny (model prog w) A (setAttr (.ref x) name v) Q E s := by
  obtain ⟨od, J, hl⟩ := I.look
  refine PySem.W.set_plain X J hs (PySem.W.osa_open (s := { s with toks := s.toks + 1 }) (r := none) X J hp ht fun b => ?_)
  obtain ⟨cd, hc, hd'⟩ := PySem.W.any_some hh
  have hx : s.heap.get? x = some ⟨.ref C, some dx, .plain, #[]⟩ := I.obj
  refine wpAny_bind (wpAny_pure (wpAny_bind (wpAny_bind (wpAny_loadPart hx (wpAny_bind (PySem.W.Looks.here (s := { s with toks := s.toks + 1 }) (PySem.W.looks_clsIn X hc) ?_))))))
  rw [hd']
  refine wpAny_pure (a := some dx) (wpAny_bind (wpAny_pure (wpAny_bind ?_)))
  refine wpAny_nsSet1 (s := { s with toks := s.toks + 1 }) I.ns fun h' hn2 hs2 => ?_
  obtain ⟨oD, esD, epD, hoD, hdD, hcD⟩ := hn2.count (PySem.Within.cons name v hw)
  refine wpAny_bind (wpAny_lookBehind hoD (by rw [hdD]; exact pastItsLine_dict (Nat.le_trans hcD (by rw [List.length_cons]; omega))) ?_)
  exact wpAny_pure (h _ ⟨(hs2.2 _ (Ne.symm I.ne)).trans I.obj, hn2, I.ne⟩ hs2)
/-- C(..): the dict at the heap's end, the instance behind it; then its __init__ -/
theorem make_map {R : Result → Shared → Prop} {vs : List Value} {kw : List (Str × Value)} (X : K.In s.heap) (hm : PySem.W.makesIn K C = true)
    (hi : PySem.W.findIn K (.ref C) "__init__" = some (some (.ref f))) (hf : PySem.W.typeIn K (.ref f) = some (.type "function"))
    (h : codeAny (model prog w) (A.under (.builtin "type.__call__" ⟨.ref C :: vs, kw⟩)) (.call (.ref f) ⟨.ref (s.heap.objs.size + 1) :: vs, kw⟩) (PySem.W.InitBack (s.heap.objs.size + 1) R)
      { s with heap := (s.heap.push PySem.W.emptyDict).push (PySem.W.instObj C s.heap.objs.size) }) :
    codeAny (model prog w) A (.call (.ref C) ⟨vs, kw⟩) R s := by
  obtain ⟨hh, g, d, t, os⟩ := s
  exact PySem.W.make_core (PySem.W.makes_of X hm) (PySem.W.looks_findIn X hi) (fun self => PySem.W.bind_fn X self hf) (.inl rfl) h
end
/-! ### the attributes as a list of pairs -/
def putF (f : Str) (v : V) : List (Str × V) → List (Str × V)
  | [] => [(f, v)]
  | (g, x) :: r => if g = f then (g, v) :: r else (g, x) :: putF f v r
theorem lookup_putF (f g : Str) (v : V) : ∀ fs : List (Str × V), (putF f v fs).lookup g = if g = f then some v else fs.lookup g
  | [] => by
    show List.lookup g [(f, v)] = _
    by_cases h : g = f
    · have hb : (g == f) = true := beq_iff_eq.mpr h
      simp only [List.lookup, hb, if_pos h]
    · have hb : (g == f) = false := beq_eq_false_iff_ne.mpr h
      simp only [List.lookup, hb, if_neg h]
  | (k, x) :: r => by
    have ih := lookup_putF f g v r
    rw [show putF f v ((k, x) :: r) = (if k = f then (k, v) :: r else (k, x) :: putF f v r) from rfl]
    by_cases hk : k = f
    · rw [if_pos hk]
      by_cases h : g = k
      · have hb : (g == k) = true := beq_iff_eq.mpr h
        simp only [List.lookup, hb, if_pos (h.trans hk)]
      · have hb : (g == k) = false := beq_eq_false_iff_ne.mpr h
        simp only [List.lookup, hb, if_neg (fun e : g = f => h (e.trans hk.symm))]
    · rw [if_neg hk]
      by_cases h : g = k
      · have hb : (g == k) = true := beq_iff_eq.mpr h
        simp only [List.lookup, hb, if_neg (fun e : g = f => hk (h.symm.trans e))]
      · have hb : (g == k) = false := beq_eq_false_iff_ne.mpr h
        simp only [List.lookup, hb]
        exact ih
theorem keys_putF (f : Str) (v : V) : ∀ fs : List (Str × V), f ∈ (putF f v fs).map (·.1) ∧ ∀ g, g ∈ fs.map (·.1) → g ∈ (putF f v fs).map (·.1)
  | [] => ⟨by simp [putF], fun g h => by simp at h⟩
  | (k, x) :: r => by
    obtain ⟨i1, i2⟩ := keys_putF f v r
    rw [show putF f v ((k, x) :: r) = (if k = f then (k, v) :: r else (k, x) :: putF f v r) from rfl]
    by_cases hk : k = f
    · rw [if_pos hk]
      subst hk
      exact ⟨by simp, fun g h => by simpa using h⟩
    · rw [if_neg hk]
      refine ⟨?_, fun g h => ?_⟩
      · rw [List.map_cons]
        exact List.mem_cons_of_mem _ i1
      · rw [List.map_cons] at h ⊢
        rcases List.mem_cons.mp h with e | e
        · exact List.mem_cons.mpr (.inl e)
        · exact List.mem_cons_of_mem _ (i2 g e)
theorem length_putF (f : Str) (v : V) : ∀ fs : List (Str × V), (putF f v fs).length ≤ fs.length + 1
  | [] => by simp [putF]
  | (k, x) :: r => by
    have ih := length_putF f v r
    rw [show putF f v ((k, x) :: r) = (if k = f then (k, v) :: r else (k, x) :: putF f v r) from rfl]
    by_cases hk : k = f
    · rw [if_pos hk, List.length_cons, List.length_cons]; omega
    · rw [if_neg hk, List.length_cons, List.length_cons]; omega
theorem RelO.some_of {v : V} {o : Option Value} (r : RelO (some v) o) : ∃ u, o = some u ∧ RelV v u := by
  cases o with
  | none => exact (show False from r).elim
  | some u => exact ⟨u, rfl, r⟩
theorem RelO.none_of {o : Option Value} (r : RelO none o) : o = none := by
  cases o with
  | none => rfl
  | some u => exact (show False from r).elim
theorem handed_of {v : V} {u : Value} (r : RelV v u) : PySem.W.handedIn u = true := by
  cases v with
  | non => cases (show u = Value.none from r); rfl
  | bl b => cases (show u = Value.bool b from r); rfl
  | int i => obtain ⟨t, e⟩ := (show ∃ t, u = Value.int i t from r); cases e; rfl
  | str x => obtain ⟨t, e⟩ := (show ∃ t, u = Value.str x t from r); cases e; rfl
  | byt b => obtain ⟨t, e⟩ := (show ∃ t, u = Value.bytes b t from r); cases e; rfl
  | flt b => obtain ⟨t, e⟩ := (show ∃ t, u = Value.float b t from r); cases e; rfl
  | ref a => cases (show u = Value.ref a from r); rfl
  | ty n => cases (show u = Value.type n from r); rfl
section
variable {P : Program} {w : World} {H H' : Hp} {h h' : Heap} {a C dx : Addr} {fs fs' : List (Str × V)}
theorem ins_get (hok : HOk P w H h) (e : H a = some (.ins C dx fs)) : ∃ mA, ObjM h a dx C mA ∧ (∀ f, RelO (fs.lookup f) (mA f)) ∧ PySem.Within mA (fs.map (·.1)) ∧ fs.length ≤ 1000 ∧ H dx = some (.own a) := by
  obtain ⟨d, z, ne, ob, mA, n, r, q⟩ := (show ObjOk P w H h a (.ins C dx fs) from hok a _ e)
  exact ⟨mA, ⟨ob, n, ne⟩, r, q, z, d⟩
end
/-! ### what of the text a class must have -/
structure Cls (K : PySem.W.Frag) (C : Addr) : Prop where
  pg : PySem.W.plainGet K C Str.empty = true
  hd : PySem.W.hasDictIn K C = true
  po : PySem.W.plainOver K C = true
  sa : PySem.W.findIn K (.ref C) "__setattr__" = some (some (.builtin "object.__setattr__"))
theorem Cls.get {K : PySem.W.Frag} {C : Addr} (c : Cls K C) (f : Str) : PySem.W.plainGet K C f = true := c.pg
/-- no class of it has the name -/
def NoAttr (K : PySem.W.Frag) (C : Addr) (f : Str) : Prop := PySem.W.findIn K (.ref C) f = some none
theorem NoAttr.taker {K : PySem.W.Frag} {C : Addr} {f : Str} (n : NoAttr K C f) : PySem.W.takerIn K C f = some none := by
  unfold PySem.W.takerIn
  rw [show PySem.W.findIn K (.ref C) f = some none from n]
  rfl
/-- a method: a plain def of the class or of one above it -/
structure Meth (K : PySem.W.Frag) (C : Addr) (m : Str) (f : Addr) : Prop where
  at_ : PySem.W.findIn K (.ref C) m = some (some (.ref f))
  fn : PySem.W.isFn K (.ref f) = true
  kp : PySem.W.keepIn K (.ref f) = true
section
variable {X : Cx} {pins : List (Addr × Obj)} {σ : St} {H : Hp} {s : Shared} {a C dx : Addr} {fs : List (Str × V)} {f : Str} {v : V} {A : Around} {E : Value → Shared → Prop}
theorem getattr_ok {b : Bool} {Q : Value → Shared → Prop} (I : Inv X pins σ H s) (e : H a = some (.ins C dx fs)) (c : Cls X.K C) (n : NoAttr X.K C f) (l : fs.lookup f = some v)
    (h : ∀ u s', Inv X pins σ H s' → RelV v u → Q u s') : wpAny (model X.prog X.w) A (getAttr (.ref a) f b) Q E s := by
  obtain ⟨mA, O, r, _, _, _⟩ := ins_get I.hok e
  obtain ⟨u, hu, ru⟩ := RelO.some_of (v := v) (o := mA f) (by rw [← l]; exact r f)
  exact get_map I.kIn O (c.get f) c.hd n hu (handed_of ru) (h u _ (I.tok _) ru)
theorem getmeth_ok {m : Str} {g : Addr} {pl : Sem Bool} {Q : Value × List Value → Shared → Prop} (I : Inv X pins σ H s) (e : H a = some (.ins C dx fs)) (c : Cls X.K C) (k : Meth X.K C m g) (l : fs.lookup m = none)
    (h : Q (.ref g, [.ref a]) s) : wpAny (model X.prog X.w) A (getMethod (.ref a) m pl) Q E s := by
  obtain ⟨mA, O, r, _, _, _⟩ := ins_get I.hok e
  have hn : mA m = none := RelO.none_of (by rw [← l]; exact r m)
  exact get_meth I.kIn O (c.get m) k.at_ k.fn hn h
theorem setattr_ok {y : V} {u : Value} {Q : Unit → Shared → Prop} (I : Inv X pins σ H s) (e : H a = some (.ins C dx fs)) (c : Cls X.K C) (n : NoAttr X.K C f) (hl : fs.length < 1000) (ry : RelV y u)
    (h : ∀ s', Inv X pins σ (upd H a (.ins C dx (putF f y fs))) s' → Q () s') : wpAny (model X.prog X.w) A (setAttr (.ref a) f u) Q E s := by
  obtain ⟨mA, O, r, wi, _, ho⟩ := ins_get I.hok e
  have hz : (fs.map (·.1)).length ≤ sizeLine := by rw [List.length_map, sizeLine_eq]; omega
  refine set_map I.kIn O c.sa c.po n.taker c.hd wi hz fun h' O' sb => h _ ?_
  have hd : ∃ o, h'.get? dx = some o := let ⟨o, _, _, e', _⟩ := O'.ns; ⟨o, e'⟩
  refine I.write (x := a) (e := dx) (by rw [e]; exact True.intro) (.inr ho) (fun b q hb z => (sb.2 b hb).trans z) hd ?_
  refine ⟨by rw [upd_ne O.ne]; exact ho, ?_, O.ne, O'.obj, _, O'.ns, fun g => ?_, fun g hg => ?_⟩
  · have := length_putF f y fs; omega
  · show RelO ((putF f y fs).lookup g) (if g = f then some u else mA g)
    rw [lookup_putF]
    by_cases q : g = f
    · rw [if_pos q, if_pos q]; exact ry
    · rw [if_neg q, if_neg q]; exact r g
  · by_cases q : g = f
    · rw [q]; exact (keys_putF f y fs).1
    · refine (keys_putF f y fs).2 g (wi g fun z => hg ?_)
      show (if g = f then some u else mA g) = none
      rw [if_neg q]; exact z
/-- a new instance, tracked, without attributes -/
theorem Inv.made (I : Inv X pins σ H s) : Inv X pins σ (upd (upd H s.heap.objs.size (.own (s.heap.objs.size + 1))) (s.heap.objs.size + 1) (.ins C s.heap.objs.size []))
    { s with heap := (s.heap.push PySem.W.emptyDict).push (PySem.W.instObj C s.heap.objs.size) } := by
  have e1 : (s.heap.push PySem.W.emptyDict).get? s.heap.objs.size = some PySem.W.emptyDict := Heap.get?_push_size s.heap rfl
  have e2 : ((s.heap.push PySem.W.emptyDict).push (PySem.W.instObj C s.heap.objs.size)).get? (s.heap.objs.size + 1) = some (PySem.W.instObj C s.heap.objs.size) := by
    have := Heap.get?_push_size (s.heap.push PySem.W.emptyDict) (o := PySem.W.instObj C s.heap.objs.size) rfl
    rwa [Heap.size_push] at this
  have e3 : (s.heap.push PySem.W.emptyDict).Ns s.heap.objs.size (fun _ => none) := ⟨PySem.W.emptyDict, #[], _, e1, rfl, (fun e he => absurd he (by simp)), fun _ => rfl⟩
  have I1 := I.laid (a := s.heap.objs.size) (o := .own (s.heap.objs.size + 1)) (h' := s.heap.push PySem.W.emptyDict) (t' := s.toks) (fun b u q => Heap.get?_push_of_some _ q) (Nat.le_refl _) ⟨_, e1⟩
  refine I1.laid (a := s.heap.objs.size + 1) (o := .ins C s.heap.objs.size []) (t' := s.toks) (fun b u q => Heap.get?_push_of_some _ q) (Nat.le_of_eq (Heap.size_push _ _)) ?_
  have ne : s.heap.objs.size ≠ s.heap.objs.size + 1 := Nat.ne_of_lt (Nat.lt_succ_self _)
  refine ⟨by rw [upd_ne ne, upd_same], Nat.zero_le _, ne, e2, fun _ => none, (Heap.Ns1.of_empty e3).at fun o q => Heap.get?_push_of_some _ q, fun _ => True.intro, fun y hy => absurd rfl hy⟩
/-- e.f where nothing but the object is asked: through attributeBase (super) and the last hold -/
theorem attr_of {prog : Program} {w : World} {env : Env} {e : Expr} {f : Str} {pos : Pos} {s : Shared} {Q : Value → Shared → Prop} (hb : attributeBase e f env (eval e env) = eval e env)
    (h : wpAny (model prog w) A (eval e env) (fun o s₁ => wpAny (model prog w) A (getAttr o f true) Q E s₁) E s) : wpAny (model prog w) A (eval (.Attribute e f pos) env) Q E s :=
  Attribute_any_ h (by rw [arm_eval_Attribute, hb])
end
/-! ### readings and rules -/
/-- e.f, an attribute of the instance -/
def tFld (K : PySem.W.Frag) (ta : TE) (f : Str) : TE := fun σ H Q => ta σ H fun x H1 => ∃ a C dx fs v, x = .ref a ∧ H1 a = some (.ins C dx fs) ∧ Cls K C ∧ NoAttr K C f ∧ fs.lookup f = some v ∧ Q v H1
/-- e.f = value -/
def sFld (K : PySem.W.Frag) (ta tv : TE) (f : Str) : TS := fun D σ H => tv σ H fun y H1 => ta σ H1 fun x H2 => ∃ a C dx fs, x = .ref a ∧ H2 a = some (.ins C dx fs) ∧ Cls K C ∧ NoAttr K C f ∧ fs.length < 1000 ∧
  D.nx σ (upd H2 a (.ins C dx (putF f y fs)))
/-- an augmented operator on two values -/
def InOp (X : Cx) (op : Operator) (rd : V → V → Hp → VK → Prop) : Prop :=
  ∀ (pins : List (Addr × Obj)) (s : Shared) (σ : St) (H : Hp) (x y : V) (u v : Value) (Q : VK), Inv X pins σ H s → RelV x u → RelV y v → rd x y H Q → wpAny (model X.prog X.w) X.A (inplaceOp op u v) (EP X pins σ Q) X.xe s
/-- e.f op= value -/
def sFldAug (K : PySem.W.Frag) (ta tv : TE) (rd : V → V → Hp → VK → Prop) (f : Str) : TS := fun D σ H => ta σ H fun x H1 => ∃ a C dx fs v, x = .ref a ∧ H1 a = some (.ins C dx fs) ∧ Cls K C ∧ NoAttr K C f ∧ fs.lookup f = some v ∧
  tv σ H1 fun y H2 => rd v y H2 fun z H3 => ∃ dx' fs', H3 a = some (.ins C dx' fs') ∧ fs'.length < 1000 ∧ D.nx σ (upd H3 a (.ins C dx' (putF f z fs')))
section
variable {X : Cx} {o e value : Expr} {f : Str} {pos pos' tpos : Pos} {ta tv : TE}
theorem pe_fld (he : PE X e ta) (hb : attributeBase e f X.env (eval e X.env) = eval e X.env) : PE X (.Attribute e f pos) (tFld X.K ta f) := by
  intro pins s σ H Q I h
  refine attr_of hb (thn (he pins s σ H _ I h) fun u s1 ⟨x, H1, I1, rx, a, C, dx, fs, v, ex, ea, c, n, l, q⟩ => ?_)
  subst ex
  obtain rfl : u = Value.ref a := rx
  exact getattr_ok I1 ea c n l fun u' s2 I2 ru => ⟨v, H1, I2, ru, q⟩
theorem ps_fld (ha : PE X o ta) (hv : PE X value tv) (hs : swapsWith value (some (.Attribute o f pos')) pos.line X.env = pure false) : PS X (.Assign [.Attribute o f pos'] value pos) (sFld X.K ta tv f) := by
  intro pins s σ H D I h
  refine plainObj_wpAny_Assign_Attribute (thn (hv pins s σ H _ I h) fun u s1 ⟨y, H1, I1, ry, q⟩ => thn (ha pins s1 σ H1 _ I1 q) fun ov s2 ⟨x, H2, I2, rx, a, C, dx, fs, ex, ea, c, n, l, q2⟩ => ?_) hs
  subst ex
  obtain rfl : ov = Value.ref a := rx
  exact setattr_ok I2 ea c n l ry fun s3 I3 => ⟨σ, _, I3, q2⟩
theorem ps_fldaug {op : Operator} {rd : V → V → Hp → VK → Prop} (ha : PE X o ta) (hv : PE X value tv) (hop : InOp X op rd) : PS X (.AugAssign (.Attribute o f tpos) op value pos) (sFldAug X.K ta tv rd f) := by
  intro pins s σ H D I h
  refine wpAny_AugAssign_AttributeAny (thn (ha pins s σ H _ I h) fun ov s1 ⟨x, H1, I1, rx, a, C, dx, fs, v, ex, ea, c, n, l, q⟩ => ?_)
  subst ex
  obtain rfl : ov = Value.ref a := rx
  refine getattr_ok I1 ea c n l fun u s2 I2 ru => thn (hv pins s2 σ H1 _ I2 q) fun w3 s3 ⟨y, H2, I3, ry, q3⟩ => thn (hop pins s3 σ H2 v y u w3 _ I3 ru ry q3) fun w4 s4 ⟨z, H3, I4, rz, dx', fs', ea', l', q4⟩ => ?_
  exact setattr_ok I4 ea' c n l' rz fun s5 I5 => ⟨σ, _, I5, q4⟩
def rAdd : V → V → Hp → VK → Prop := fun x y H Q => ∃ i j, x = .int i ∧ y = .int j ∧ Q (.int (i + j)) H
def rSub : V → V → Hp → VK → Prop := fun x y H Q => ∃ i j, x = .int i ∧ y = .int j ∧ Q (.int (i - j)) H
theorem in_add : InOp X .Add rAdd := by
  rintro pins s σ H x y u v Q I rx ry ⟨i, j, rfl, rfl, q⟩
  obtain ⟨t, rfl⟩ := (show ∃ t, u = Value.int i t from rx)
  obtain ⟨t', rfl⟩ := (show ∃ t', v = Value.int j t' from ry)
  exact PyProof.Rows.iadd_int ⟨.int (i + j), H, I.tok _, ⟨_, rfl⟩, q⟩
theorem in_sub : InOp X .Sub rSub := by
  rintro pins s σ H x y u v Q I rx ry ⟨i, j, rfl, rfl, q⟩
  obtain ⟨t, rfl⟩ := (show ∃ t, u = Value.int i t from rx)
  obtain ⟨t', rfl⟩ := (show ∃ t', v = Value.int j t' from ry)
  exact PyProof.Rows.isub_int ⟨.int (i - j), H, I.tok _, ⟨_, rfl⟩, q⟩
end
/-! ### isinstance -/
section
variable {X : Cx} {pins : List (Addr × Obj)} {σ : St} {H : Hp} {s : Shared} {A : Around} {E : Value → Shared → Prop} {Q : Value → Shared → Prop} {c : Value} {b : Bool}
end
end L2
namespace L2
open PySem PySem.Spec PyProof.Rows
/-! ### room -/
structure Room (k : Nat) (A : Around) : Prop where
  hd : A.handled = none
  dp : A.depth + 3 * k + 5 < recursionLimit
  un : A.units + 16 * k + 200 < cLine
theorem Room.mono {j k : Nat} {A : Around} (r : Room k A) (h : j ≤ k) : Room j A := ⟨r.hd, by have := r.dp; omega, by have := r.un; omega⟩
theorem Room.deeper {k : Nat} {A : Around} (r : Room (k + 1) A) (env : Env) : Room k (A.deeper env) :=
  ⟨r.hd, by have := r.dp; show A.depth + 1 + 3 * k + 5 < _; omega, by have := r.un; show A.units + 3 + 16 * k + 200 < _; omega⟩
theorem make_depth {A : Around} {C : Addr} {us : List Value} {kw : List (Str × Value)} : (A.under (.builtin "type.__call__" ⟨.ref C :: us, kw⟩)).depth = A.depth + 1 := by
  first | rfl | simp [Around.under, Code.weight, Code.isCreation, Code.isGuard, Code.isCaller, Code.frames, Code.isFrame, guardIds]
theorem make_units {A : Around} {C : Addr} {us : List Value} {kw : List (Str × Value)} : (A.under (.builtin "type.__call__" ⟨.ref C :: us, kw⟩)).units = A.units + 1 := by
  first | rfl | simp [Around.under, Code.cUnits, Code.frames, Code.isFrame]
theorem Room.make {k : Nat} {A : Around} (r : Room (k + 1) A) (C : Addr) (us : List Value) (kw : List (Str × Value)) : Room k (A.under (.builtin "type.__call__" ⟨.ref C :: us, kw⟩)) :=
  ⟨r.hd, by have := r.dp; rw [make_depth]; omega, by have := r.un; rw [make_units]; omega⟩
theorem Room.depth {k : Nat} {A : Around} (r : Room k A) : A.depth < recursionLimit := by have := r.dp; omega
theorem Room.units {k : Nat} {A : Around} (r : Room k A) : A.units + 64 < cLine := by have := r.un; omega
/-! ### argument lists and displays -/
def tNil : TA := fun _ H Q => Q [] H
def tCons (ta : TE) (tr : TA) : TA := fun σ H Q => ta σ H fun x H1 => tr σ H1 fun xs H2 => Q (x :: xs) H2
section
variable {X : Cx} {e : Expr} {es : List Expr} {te : TE} {t : TA} {pos : Pos}
theorem pa_nil : PA X [] tNil := fun _ _ _ _ H Q I h => Calls.spliced_nil ⟨[], H, I, .nil, h⟩
theorem pa_cons (ha : PE X e te) (hr : PA X es t) (hs : starEach (e :: es) X.env = (false, eval e X.env) :: starEach es X.env := by rfl) : PA X (e :: es) (tCons te t) := by
  intro pos pins s σ H Q I h
  rw [hs]
  show wpAny _ _ (spliced ((false, eval e X.env) :: backTo pos (starEach es X.env))) _ _ s
  refine Calls.spliced_cons (thn (ha pins s σ H _ I h) fun u s1 ⟨x, H1, I1, r1, q1⟩ => ?_)
  exact thn (hr pos pins s1 σ H1 _ I1 q1) fun us s2 ⟨xs, H2, I2, r2, q2⟩ => ⟨x :: xs, H2, I2, .cons r1 r2, q2⟩
/-- a tuple, a list of written items -/
def tTup (t : TA) : TE := fun σ H Q => t σ H fun xs H1 => xs.length ≤ sizeLine ∧ ∀ p, H1 p = none → Q (.ref p) (upd H1 p (.tup xs))
def tLst (t : TA) : TE := fun σ H Q => t σ H fun xs H1 => xs.length ≤ sizeLine ∧ ∀ p, H1 p = none → Q (.ref p) (upd H1 p (.lst xs))
theorem pe_tup {x1} (h : PA X es t) : PE X (.Tuple es x1 pos) (tTup t) := by
  intro pins s σ H Q I hq
  refine wpAny_Tuple_spliced (thn (h pos pins s σ H _ I hq) fun us s1 ⟨xs, H1, I1, r, z, q⟩ => ⟨by rw [← r.length]; exact z, ?_⟩)
  have hf : H1 s1.heap.objs.size = none := I1.hok.fresh (Nat.le_refl _)
  refine ⟨.ref s1.heap.objs.size, upd H1 s1.heap.objs.size (.tup xs), I1.laid (t' := s1.toks) (fun b u e => Heap.get?_push_of_some _ e) (Nat.le_refl _) ?_, rfl, q _ hf⟩
  exact ⟨z, us, r, ⟨_, Heap.get?_push_size _ rfl, rfl, _, rfl⟩⟩
theorem pe_lst (h : PA X es t) : PE X (.List es pos) (tLst t) := by
  intro pins s σ H Q I hq
  refine wpAny_List_spliced (thn (h pos pins s σ H _ I hq) fun us s1 ⟨xs, H1, I1, r, z, q⟩ => ⟨by rw [← r.length]; exact z, ?_⟩)
  have hf : H1 s1.heap.objs.size = none := I1.hok.fresh (Nat.le_refl _)
  refine ⟨.ref s1.heap.objs.size, upd H1 s1.heap.objs.size (.lst xs), I1.laid (t' := s1.toks) (fun b u e => Heap.get?_push_of_some _ e) (Nat.le_refl _) ?_, rfl, q _ hf⟩
  exact ⟨z, us, 0, r, Heap.get?_push_size _ rfl⟩
end
/-! ### what a def promises -/
/-- a def's promise: the bound arguments in the parameters' order, the heap, the wanted end, the wanted exception -/
abbrev Sp := List V → Hp → VK → XK → Prop
/-- how an exception lies behind a call (file 08 gives it): the callers' frames, abstract heap and state ahead of the call, the wish, the exception, the state -/
abbrev CXT := List Env → Hp → Shared → XK → Value → Shared → Prop
/-- the state at a call -/
structure Env0 (P : Program) (w : World) (K : PySem.W.Frag) (mg : Str → Option Value) (base : Heap) (A : Around) (outer : List Env) (s : Shared) (H : Hp) : Prop where
  frames : A.frames = some outer
  mod : Mod K mg base
  bs : ∀ b o, base.get? b = some o → s.heap.get? b = some o ∧ H b = none
  bsz : base.objs.size ≤ s.heap.objs.size
  funs : s.heap.FunFrames base outer
  frf : ∀ b ∈ frs outer, H b = none
  hok : HOk P w H s.heap
  bare : AllBare s.gens
/-- a call's end -/
def CE (outer : List Env) (P : Program) (w : World) (H : Hp) (s : Shared) (Q : VK) (u : Value) (s' : Shared) : Prop :=
  ∃ v H', s'.os = s.os ∧ AllBare s'.gens ∧ Un (frs outer) [] H H' s.heap s'.heap ∧ HOk P w H' s'.heap ∧ RelV v u ∧ Q v H'
def CR (CX : CXT) (outer : List Env) (P : Program) (w : World) (H : Hp) (s : Shared) (Q : VK) (E : XK) (r : Result) (s' : Shared) : Prop :=
  match r with
  | .ok (.ret u) => CE outer P w H s Q u s'
  | .ok _ => False
  | .error e => CX outer H s E e s'
structure FnOk (P : Program) (w : World) (K : PySem.W.Frag) (mg : Str → Option Value) (base : Heap) (CX : CXT) (k : Nat) (f : Addr) (fd : FuncData) (ps : List Str) (sp : Sp) : Prop where
  len : ∀ vs H Q E, sp vs H Q E → vs.length = ps.length
  run : ∀ (A : Around) (outer : List Env) (s : Shared) (H : Hp) (args : Args) (us : List Value) (vs : List V) (Q : VK) (E : XK), Room k A → Env0 P w K mg base A outer s H → BindsTo s fd args (ps.zip us) → Vals vs us → sp vs H Q E →
    codeAny (model P w) A (.call (.ref f) args) (CR CX outer P w H s Q E) s
theorem Env0.make {P : Program} {w : World} {K : PySem.W.Frag} {mg : Str → Option Value} {base : Heap} {A : Around} {outer : List Env} {s : Shared} {H : Hp} (e : Env0 P w K mg base A outer s H) (C : Addr) (us : List Value) (kw : List (Str × Value)) :
    Env0 P w K mg base (A.under (.builtin "type.__call__" ⟨.ref C :: us, kw⟩)) outer s H := ⟨by first | exact e.frames | (simpa [Around.under, Code.envs, Code.isFrame, pushEnvs] using e.frames), e.mod, e.bs, e.bsz, e.funs, e.frf, e.hok, e.bare⟩
section
variable {X : Cx} {pins : List (Addr × Obj)} {σ : St} {H : Hp} {s s' : Shared}
/-- from a body: what a callee wants -/
theorem Inv.env0 (I : Inv X pins σ H s) : Env0 X.prog X.w X.K X.mg X.base X.A X.stack s H :=
  ⟨I.ok.frames, I.ok.mod, I.bs, Nat.le_trans I.ok.bsz I.sz, I.stack, I.stkFree, I.hok, I.bare⟩
/-- behind a call -/
theorem Inv.after {Q : VK} {u : Value} (I : Inv X pins σ H s) (h : CE X.stack X.prog X.w H s Q u s') : EP X pins σ Q u s' := by
  obtain ⟨v, H', os, bare, un, hok, r, q⟩ := h
  obtain ⟨hh, g, d, t, os'⟩ := s'
  obtain rfl : os' = s.os := os
  exact ⟨v, H', I.call (h' := hh) (g' := g) (d' := d) (t' := t) (ch := []) un hok bare (fun b z => absurd z (by simp)), r, q⟩
end
/-! ### calls -/
/-- f(..): the written arguments, then the defaults dvs; E: what is wanted of an exception -/
def tCall (sp : Sp) (dvs : List V) (E : XK) (t : TA) : TE := fun σ H Q => t σ H fun vs H1 => sp (vs ++ dvs) H1 Q E
/-- o.m(..) of an instance of the class at C -/
def tMeth (C : Addr) (m : Str) (sp : Sp) (dvs : List V) (E : XK) (ta : TE) (t : TA) : TE := fun σ H Q => ta σ H fun x H1 => ∃ a dx fs, x = .ref a ∧ H1 a = some (.ins C dx fs) ∧ fs.lookup m = none ∧
  t σ H1 fun vs H2 => sp (x :: (vs ++ dvs)) H2 Q E
/-- C(..): a new instance and its dict, then __init__ -/
def tMake (C : Addr) (sp : Sp) (dvs : List V) (E : XK) (t : TA) : TE := fun σ H Q => t σ H fun vs H1 => ∀ x dx, H1 x = none → H1 dx = none → dx ≠ x →
  sp (.ref x :: (vs ++ dvs)) (upd (upd H1 dx (.own x)) x (.ins C dx [])) (fun v H2 => v = .non ∧ Q (.ref x) H2) E
/-- how the parameters are bound: us the positional arguments, kw the keywords' values by name, ds the defaults that fill up -/
def Binds (K : PySem.W.Frag) (fd : FuncData) (ps : List Str) (ds : List Value) : Prop :=
  ∀ (s : Shared) (us : List Value), K.In s.heap → (us ++ ds).length = ps.length → BindsTo s fd ⟨us, []⟩ (ps.zip (us ++ ds))
/-- every parameter is given -/
theorem Binds.all {K : PySem.W.Frag} {fd : FuncData} {ps : List Str} (h : ∀ us : List Value, us.length = ps.length → bindArgs fd ⟨us, []⟩ = pure (ps.zip us)) : Binds K fd ps [] := fun s us _ hl => by
  rw [List.append_nil] at hl ⊢
  exact .of_eq (h us hl)
/-- an exception of a callee reaches what this body wants of exceptions -/
def Passes (CX : CXT) (X : Cx) (E : XK) : Prop := ∀ (pins : List (Addr × Obj)) (σ : St) (H : Hp) (s : Shared) (e : Value) (s' : Shared), Inv X pins σ H s → CX X.stack H s E e s' → X.xe e s'
section
variable {X : Cx} {CX : CXT} {k : Nat} {f C : Addr} {fd : FuncData} {ps : List Str} {sp : Sp} {dvs : List V} {ds : List Value} {E : XK} {x m : Str} {p pos apos : Pos} {e o : Expr} {es : List Expr} {ta : TE} {t : TA}
/-- the callee runs -/
theorem run_fn {pins : List (Addr × Obj)} {σ : St} {H : Hp} {s : Shared} {Q : VK} {us : List Value} {vs : List V} (F : FnOk X.prog X.w X.K X.mg X.base CX k f fd ps sp) (hr : Room k X.A) (hb : Binds X.K fd ps ds) (hd : Vals dvs ds) (hx : Passes CX X E)
    (I : Inv X pins σ H s) (r : Vals vs us) (h : sp (vs ++ dvs) H Q E) : wpAny (model X.prog X.w) X.A (call (.ref f) us) (EP X pins σ Q) X.xe s := by
  have r2 : Vals (vs ++ dvs) (us ++ ds) := r.append hd
  have hl : (us ++ ds).length = ps.length := by rw [← r2.length]; exact F.len _ _ _ _ h
  refine wpAny_call (codeAny_mono (F.run X.A X.stack s H ⟨us, []⟩ (us ++ ds) (vs ++ dvs) Q E hr I.env0 (hb s us I.kIn hl) r2 h) fun r s' hq => ?_)
  cases r with
  | error e => exact hx pins σ H s e s' I hq
  | ok fl =>
    cases fl with
    | ret u => exact I.after hq
    | next => exact False.elim hq
    | brk => exact False.elim hq
    | cont => exact False.elim hq
theorem pe_call (F : FnOk X.prog X.w X.K X.mg X.base CX k f fd ps sp) (hr : Room k X.A) (hg : Gl X x) (hm : X.mg x = some (.ref f)) (hk : PySem.W.keepIn X.K (.ref f) = true) (hb : Binds X.K fd ps ds) (hd : Vals dvs ds) (hx : Passes CX X E)
    (ha : PA X (e :: es) t) (hdb : (x == ("__debug__" : Str)) = false := by decide) (he : starEach (e :: es) X.env = (false, eval e X.env) :: starEach es X.env := by rfl) (hpl : (backTo pos (starEach es X.env)).any (·.1) = false := by rfl) :
    PE X (.Call (.Name x p) (e :: es) [] pos) (tCall sp dvs E t) := by
  intro pins s σ H Q I h
  refine wpAny_Call_Name_kw (ld_glob I hg hm ?_ hdb)
  refine PySem.W.callWith_K (h₀ := X.base) I.ok.mod.kin hk (thn (ha pos pins s σ H _ I h) fun us s1 ⟨vs, H1, I1, r, q⟩ => ⟨I1.kIn, ?_⟩) he hpl
  exact run_fn F hr hb hd hx I1 r q
/-- o.m(e, ..) -/
theorem pe_meth {pl : Sem Bool} (he : PE X o ta) (c : Cls X.K C) (hm : Meth X.K C m f) (F : FnOk X.prog X.w X.K X.mg X.base CX k f fd ps sp) (hr : Room k X.A) (hb : Binds X.K fd ps ds) (hd : Vals dvs ds) (hx : Passes CX X E) (ha : PA X (e :: es) t)
    (hst : starEach (e :: es) X.env = (false, eval e X.env) :: starEach es X.env := by rfl) (hpl : (backTo pos (starEach es X.env)).any (·.1) = false := by rfl)
    (ht : eval (.Call (.Attribute o m apos) (e :: es) [] pos) X.env = (do
      let ov ← eval o X.env
      standAt apos.atName
      let (f, first) ← holding [ov] (getMethod ov m pl)
      callWith pos f first (backTo pos (starEach (e :: es) X.env)) (backToKw pos (keywordEach [] X.env))) := by rfl) :
    PE X (.Call (.Attribute o m apos) (e :: es) [] pos) (tMeth C m sp dvs E ta t) := by
  intro pins s σ H Q I h
  refine PySem.W.methodCall_KW (pl := pl) (thn (he pins s σ H _ I h) fun u s1 ⟨x, H1, I1, rx, a, dx, fs, ex, ea, l, q⟩ => ?_) ht
  subst ex
  obtain rfl : u = Value.ref a := rx
  refine getmeth_ok I1 ea c hm l ?_
  refine PySem.W.callWith_K (first := [.ref a]) (h₀ := X.base) I.ok.mod.kin hm.kp (thn (ha pos pins s1 σ H1 _ I1 q) fun us s2 ⟨vs, H2, I2, r, q2⟩ => ⟨I2.kIn, ?_⟩) hst hpl
  exact run_fn (us := .ref a :: us) (vs := .ref a :: vs) F hr hb hd hx I2 (.cons rfl r) q2
/-- o.m() -/
theorem pe_meth0 {pl : Sem Bool} (he : PE X o ta) (c : Cls X.K C) (hm : Meth X.K C m f) (F : FnOk X.prog X.w X.K X.mg X.base CX k f fd ps sp) (hr : Room k X.A) (hb : Binds X.K fd ps ds) (hd : Vals dvs ds) (hx : Passes CX X E)
    (ht : eval (.Call (.Attribute o m apos) [] [] pos) X.env = (do
      let ov ← eval o X.env
      standAt apos.atName
      let (f, first) ← holding [ov] (getMethod ov m pl)
      callWith pos f first (backTo pos (starEach [] X.env)) (backToKw pos (keywordEach [] X.env))) := by rfl) :
    PE X (.Call (.Attribute o m apos) [] [] pos) (tMeth C m sp dvs E ta tNil) := by
  intro pins s σ H Q I h
  refine PySem.W.methodCall_KW (pl := pl) (thn (he pins s σ H _ I h) fun u s1 ⟨x, H1, I1, rx, a, dx, fs, ex, ea, l, q⟩ => ?_) ht
  subst ex
  obtain rfl : u = Value.ref a := rx
  refine getmeth_ok I1 ea c hm l ?_
  exact PySem.W.callWith_K0 (first := [.ref a]) I1.kIn hm.kp (run_fn (us := [.ref a]) (vs := [.ref a]) F hr hb hd hx I1 (.cons rfl .nil) q)
/-- what a class must have to be made -/
structure Mk (K : PySem.W.Frag) (C f : Addr) : Prop where
  makes : PySem.W.makesIn K C = true
  init : PySem.W.findIn K (.ref C) "__init__" = some (some (.ref f))
  fn : PySem.W.isFn K (.ref f) = true
  kp : PySem.W.keepIn K (.ref C) = true
theorem run_make {pins : List (Addr × Obj)} {σ : St} {H : Hp} {s : Shared} {Q : VK} {us : List Value} {vs : List V} (M : Mk X.K C f) (F : FnOk X.prog X.w X.K X.mg X.base CX k f fd ps sp) (hr : Room (k + 1) X.A) (hb : Binds X.K fd ps ds) (hd : Vals dvs ds)
    (hx : Passes CX X E) (I : Inv X pins σ H s) (r : Vals vs us)
    (h : ∀ x dx, H x = none → H dx = none → dx ≠ x → sp (.ref x :: (vs ++ dvs)) (upd (upd H dx (.own x)) x (.ins C dx [])) (fun v H2 => v = .non ∧ Q (.ref x) H2) E) :
    wpAny (model X.prog X.w) X.A (call (.ref C) us) (EP X pins σ Q) X.xe s := by
  have hq := h (s.heap.objs.size + 1) s.heap.objs.size (I.hok.fresh (Nat.le_succ _)) (I.hok.fresh (Nat.le_refl _)) (Nat.ne_of_lt (Nat.lt_succ_self _))
  have I2 := Inv.made (C := C) I
  have r2 : Vals (V.ref (s.heap.objs.size + 1) :: (vs ++ dvs)) (Value.ref (s.heap.objs.size + 1) :: (us ++ ds)) := .cons rfl (r.append hd)
  have hl : (Value.ref (s.heap.objs.size + 1) :: us ++ ds).length = ps.length := by
    have e := r2.length
    rw [F.len _ _ _ _ hq] at e
    exact e.symm
  refine wpAny_call (make_map (f := f) I.kIn M.makes M.init (beq_iff_eq.mp M.fn) (codeAny_mono (F.run _ X.stack _ _ ⟨Value.ref (s.heap.objs.size + 1) :: us, []⟩ (Value.ref (s.heap.objs.size + 1) :: (us ++ ds)) _ _ E (hr.make C us [])
    (I2.env0.make C us []) (hb _ (Value.ref (s.heap.objs.size + 1) :: us) I2.kIn hl) r2 hq) fun r s' hq' => ?_))
  cases r with
  | error e => exact hx pins σ _ _ e s' I2 hq'
  | ok fl =>
    cases fl with
    | ret u =>
      obtain ⟨v, H', I3, rv, ev, q3⟩ := I2.after hq'
      subst ev
      exact ⟨rv, ⟨V.ref (s.heap.objs.size + 1), H', I3, rfl, q3⟩⟩
    | next => exact False.elim hq'
    | brk => exact False.elim hq'
    | cont => exact False.elim hq'
theorem pe_make (M : Mk X.K C f) (F : FnOk X.prog X.w X.K X.mg X.base CX k f fd ps sp) (hr : Room (k + 1) X.A) (hg : Gl X x) (hm : X.mg x = some (.ref C)) (hb : Binds X.K fd ps ds) (hd : Vals dvs ds) (hx : Passes CX X E)
    (ha : PA X (e :: es) t) (hdb : (x == ("__debug__" : Str)) = false := by decide) (he : starEach (e :: es) X.env = (false, eval e X.env) :: starEach es X.env := by rfl) (hpl : (backTo pos (starEach es X.env)).any (·.1) = false := by rfl) :
    PE X (.Call (.Name x p) (e :: es) [] pos) (tMake C sp dvs E t) := by
  intro pins s σ H Q I h
  refine wpAny_Call_Name_kw (ld_glob I hg hm ?_ hdb)
  refine PySem.W.callWith_K (h₀ := X.base) I.ok.mod.kin M.kp (thn (ha pos pins s σ H _ I h) fun us s1 ⟨vs, H1, I1, r, q⟩ => ⟨I1.kIn, ?_⟩) he hpl
  exact run_make M F hr hb hd hx I1 r q
theorem pe_make0 (M : Mk X.K C f) (F : FnOk X.prog X.w X.K X.mg X.base CX k f fd ps sp) (hr : Room (k + 1) X.A) (hg : Gl X x) (hm : X.mg x = some (.ref C)) (hb : Binds X.K fd ps ds) (hd : Vals dvs ds) (hx : Passes CX X E)
    (hdb : (x == ("__debug__" : Str)) = false := by decide) : PE X (.Call (.Name x p) [] [] pos) (tMake C sp dvs E tNil) := by
  intro pins s σ H Q I h
  refine wpAny_Call_Name_kw (ld_glob I hg hm ?_ hdb)
  exact PySem.W.callWith_K0 I.kIn M.kp (run_make (us := []) M F hr hb hd hx I .nil h)
end
/-! ### keywords -/
section
variable {X : Cx} {CX : CXT} {k : Nat} {f C : Addr} {fd : FuncData} {ps ks : List Str} {sp : Sp} {E : XK} {x m : Str} {p pos apos kpos : Pos} {e o : Expr} {es : List Expr} {kws : List Keyword} {te ta : TE} {t tk : TA} {nm : Option Str}
variable {g : List Value → List Value → List Value} {gV : List V → List V → List V}
end
/-! ### a def's body keeps its promise -/
/-- names: the parameters first -/
structure FnScope (N P : List Str) (sc : Scope) : Prop where
  kind : sc.kind = .function
  co : sc.isCoroutine = false
  gen : sc.isGenerator = false
  nd : N.Nodup
  pre : N.take P.length = P
  par : ∀ x ∈ P, sc.names.lookup x = some .local ∨ sc.names.lookup x = some .cell
  nofree : ∀ y ∈ sc.names, y.2 ≠ .free
theorem bindL_out {kindOf : Str → Option NameKind} {x : Str} : ∀ {binds : List (Str × Value)} {m : Str → Option Value}, (∀ v, (x, v) ∉ binds) → bindL kindOf binds m x = m x
  | [], _, _ => rfl
  | (n, v) :: r, m, h => by
    unfold bindL
    rw [bindL_out fun w hw => h w (List.mem_cons_of_mem _ hw)]
    split
    · have : x ≠ n := by rintro rfl; exact h v List.mem_cons_self
      simp [this]
    · rfl
theorem bindC_out {kindOf : Str → Option NameKind} {x : Str} : ∀ {binds : List (Str × Value)} {m : Str → Option Value}, (∀ v, (x, v) ∉ binds) → bindC kindOf binds m x = m x
  | [], _, _ => rfl
  | (n, v) :: r, m, h => by
    unfold bindC
    rw [bindC_out fun w hw => h w (List.mem_cons_of_mem _ hw)]
    split
    · rfl
    · have : x ≠ n := by rintro rfl; exact h v List.mem_cons_self
      simp [this]
theorem bindL_get {kindOf : Str → Option NameKind} {x : Str} {v : Value} : ∀ {P : List Str} {vs : List Value} {i : Nat} {m : Str → Option Value}, P.Nodup → P[i]? = some x → vs[i]? = some v → kindOf x = some .local →
    bindL kindOf (P.zip vs) m x = some v
  | [], _, _, _, _, h, _, _ => by simp at h
  | _ :: _, [], _, _, _, _, h, _ => by simp at h
  | p :: P, w :: vs, 0, m, nd, h1, h2, hk => by
    simp at h1 h2; subst h1; subst h2
    show bindL kindOf ((p, w) :: P.zip vs) m p = _
    unfold bindL
    rw [bindL_out fun v hv => (List.nodup_cons.mp nd).1 (List.of_mem_zip hv).1, if_pos hk]
    simp
  | p :: P, w :: vs, i + 1, m, nd, h1, h2, hk => by
    show bindL kindOf ((p, w) :: P.zip vs) m x = _
    unfold bindL
    exact bindL_get (i := i) (List.nodup_cons.mp nd).2 (by simpa using h1) (by simpa using h2) hk
theorem bindC_get {kindOf : Str → Option NameKind} {x : Str} {v : Value} : ∀ {P : List Str} {vs : List Value} {i : Nat} {m : Str → Option Value}, P.Nodup → P[i]? = some x → vs[i]? = some v → kindOf x ≠ some .local →
    bindC kindOf (P.zip vs) m x = some v
  | [], _, _, _, _, h, _, _ => by simp at h
  | _ :: _, [], _, _, _, _, h, _ => by simp at h
  | p :: P, w :: vs, 0, m, nd, h1, h2, hk => by
    simp at h1 h2; subst h1; subst h2
    show bindC kindOf ((p, w) :: P.zip vs) m p = _
    unfold bindC
    rw [bindC_out fun v hv => (List.nodup_cons.mp nd).1 (List.of_mem_zip hv).1, if_neg hk]
    simp
  | p :: P, w :: vs, i + 1, m, nd, h1, h2, hk => by
    show bindC kindOf ((p, w) :: P.zip vs) m x = _
    unfold bindC
    exact bindC_get (i := i) (List.nodup_cons.mp nd).2 (by simpa using h1) (by simpa using h2) hk
/-- the names' values at the entry -/
def start (N : List Str) (vs : List V) : St := vs.map some ++ List.replicate (N.length - vs.length) none
/-- the context of a def's body, at its entry; an exception leaves the frame, then lies as CX says -/
def cxOf (CX : CXT) (P : Program) (w : World) (K : PySem.W.Frag) (mg : Str → Option Value) (base : Heap) (N : List Str) (qual : Str) (scope : Scope) (f : Addr) (cd : Value) (A : Around) (outer : List Env) (s : Shared) (H : Hp) (E : XK) : Cx where
  prog := P
  w := w
  K := K
  mg := mg
  base := base
  A := A.deeper (envOfC qual scope s.heap.objs.size f cd)
  N := N
  s_0 := s
  H_0 := H
  env := envOfC qual scope s.heap.objs.size f cd
  outer := outer
  stack := envOfC qual scope s.heap.objs.size f cd :: outer
  ex := []
  calm := true
  fn := fun _ => true
  pn := []
  xe := fun e s' => wpAny (model P w) (A.deeper (envOfC qual scope s.heap.objs.size f cd)) (leaving (envOfC qual scope s.heap.objs.size f cd) e) (fun _ s'' => CX outer H s E e s'') (fun e' s'' => CX outer H s E e' s'') s'
theorem cell_has {sc : Scope} {n : Nat} {x : Str} (h : sc.names.lookup x = some .cell) : ∃ c, (cellsFrom n sc.names []).lookup x = some c := by
  have q := PySem.W.cellsFrom_some sc.names n [] (.inl h)
  exact Option.isSome_iff_exists.mp q
theorem inv_start {CX : CXT} {P : Program} {w : World} {K : PySem.W.Frag} {mg : Str → Option Value} {base : Heap} {N ps : List Str} {qual : Str} {scope : Scope} {f : Addr} {cd : Value} {A : Around} {outer : List Env} {s s1 : Shared} {H : Hp} {E : XK} {us : List Value} {vs : List V}
    (S : FnScope N ps scope) (hd : A.handled = none) (e0 : Env0 P w K mg base A outer s H) (hl : vs.length = ps.length) (r : Vals vs us)
    (x : InCallC s s.heap.objs.size (bindL (envOfC qual scope s.heap.objs.size f cd).kindOf (ps.zip us) fun _ => none) (cellsFrom (s.heap.objs.size + 1) scope.names []) (bindC (envOfC qual scope s.heap.objs.size f cd).kindOf (ps.zip us) fun _ => none) s1) :
    Inv (cxOf CX P w K mg base N qual scope f cd A outer s H E) [] (start N vs) H s1 := by
  have hpl : ps.length ≤ N.length := by have := congrArg List.length S.pre; rw [List.length_take] at this; omega
  obtain ⟨h1, tk, rfl, hk⟩ := x.done
  have noA : ∀ b : Addr, b ∉ (cxOf CX P w K mg base N qual scope f cd A outer s H E).ex := fun b z => absurd (show b ∈ ([] : List Addr) from z) (by simp)
  refine ⟨⟨e0.mod, S.kind, rfl, rfl, Nat.le_refl _, fun y z c h1 h2 => ?_, fun y hy => ?_, fun y c _ h => ?_, fun _ => hd, Around.frames_deeper e0.frames, .inr ⟨rfl, rfl⟩, fun b z => absurd z (noA b), e0.bs, e0.bsz, fun b _ _ => noA b, fun b z => absurd z (noA b), e0.funs, e0.frf⟩,
    rfl, e0.bare, Un.kept hk, ⟨_, x.toInCall.ns, fun i y v h1 h2 h3 => ?_⟩, fun y c h => ⟨_, x.cell y c h⟩, e0.hok.fresh (Nat.le_refl _), fun y c h => ?_, fun p hp => absurd (show p ∈ ([] : List (Addr × Obj)) from hp) (by simp), e0.hok.kept hk, ?_⟩
  · exact name_of_addr x.apart (PySem.mem_of_lookup h1) (PySem.mem_of_lookup h2)
  · have hy : scope.names.lookup y = some .cell ∨ scope.names.lookup y = some .free := hy
    rcases hy with hy | hy
    · exact cell_has hy
    · exact absurd rfl (S.nofree _ (PySem.mem_of_lookup hy))
  · exact Nat.le_of_lt (x.above y c (PySem.mem_of_lookup h))
  · have hi : i < vs.length := by
      unfold start at h2
      by_cases hi : i < vs.length
      · exact hi
      · rw [List.getElem?_append_right (by simpa using hi)] at h2
        rw [List.getElem?_replicate] at h2
        split at h2 <;> cases h2
    have ha : vs[i]? = some v := by
      unfold start at h2
      rw [List.getElem?_append_left (by simpa using hi), List.getElem?_map] at h2
      cases e : vs[i]? with
      | none => rw [e] at h2; cases h2
      | some a => rw [e] at h2; cases h2; rfl
    obtain ⟨u, hu, rv⟩ := r.get ha
    have hp : ps[i]? = some y := by
      rw [← S.pre, List.getElem?_take_of_lt (by omega)]; exact h1
    have ndP : ps.Nodup := by rw [← S.pre]; exact S.nd.sublist (List.take_sublist _ _)
    refine ⟨u, rv, ?_⟩
    rcases S.par y (List.mem_of_getElem? hp) with k | k
    · exact .inl ⟨k, bindL_get ndP hp hu k⟩
    · obtain ⟨c, e⟩ := cell_has (n := s.heap.objs.size + 1) k
      refine .inr ⟨.inl k, c, e, ?_⟩
      have q := x.cell y c e
      rw [bindC_get ndP hp hu (by show scope.names.lookup y ≠ _; rw [k]; decide)] at q
      exact q
  · exact e0.hok.fresh (Nat.le_of_lt (x.above y c (PySem.mem_of_lookup h)))
  · unfold start
    show _ = N.length
    rw [List.length_append, List.length_map, List.length_replicate]
    omega
/-- THE RULE: a def (or a method) of the text, by its body. The body's reading t is chosen for each entry; it is run at the parameters' values -/
theorem fn_of {CX : CXT} {P : Program} {w : World} {K : PySem.W.Frag} {mg : Str → Option Value} {base : Heap} {k : Nat} {f : Addr} {name qual : Str} {params : Arguments} {body : List Stmt} {scope : Scope} {dV kV doc pm cdv ct oc : Value} {an od : Option Addr}
    {osl : Array (Option Value)} {N ps : List Str} {sp : Sp} (lk : K.lookup f = some ⟨oc, od, .func (PySem.W.fnOf name qual params body scope dV kV doc pm an cdv ct), osl⟩) (hcd : PySem.W.codeIn K cdv qual = true) (S : FnScope N ps scope)
    (len : ∀ vs H Q E, sp vs H Q E → vs.length = ps.length)
    (hbody : ∀ (A : Around) (outer : List Env) (s : Shared) (H : Hp) (vs : List V) (Q : VK) (E : XK), Room k (A.deeper (envOfC qual scope s.heap.objs.size f cdv)) → sp vs H Q E →
      ∃ t, PSs (cxOf CX P w K mg base N qual scope f cdv A outer s H E) body t ∧ t { nx := fun _ H' => Q .non H', rt := Q } (start N vs) H) :
    FnOk P w K mg base CX (k + 1) f (PySem.W.fnOf name qual params body scope dV kV doc pm an cdv ct) ps sp := by
  refine ⟨len, fun A outer s H args us vs Q E hr e0 hb r hsp => ?_⟩
  have hl := len _ _ _ _ hsp
  have KX : K.In s.heap := e0.mod.kin.keeps fun b o e => (e0.bs b o e).1
  have lim : s.heap.NoLimit := e0.mod.nolimit.keeps fun b o e => (e0.bs b o e).1
  have hkind : ∀ y ∈ ps.zip us, scope.names.lookup y.1 = some .local ∨ (scope.names.lookup y.1 = some .cell ∧ ((cellsFrom (s.heap.objs.size + 1) scope.names []).lookup y.1).isSome = true) := fun ⟨n, v⟩ hy => by
    rcases S.par n (List.of_mem_zip hy).1 with q | q
    · exact .inl q
    · exact .inr ⟨q, PySem.W.cellsFrom_some _ _ _ (.inl q)⟩
  refine codeAny_call_function hr.depth (KX _ _ lk) rfl S.co S.gen rfl (PySem.W.codeRec_of KX hcd) (hb _ _ _ _ ?_)
  refine wpAny_newFunctionEnv_cells S.kind hkind fun env he s1 x => ?_
  subst he
  refine ⟨lim.keeps x.toInCall.keep, codeAny_func ?_⟩
  obtain ⟨t, ht, hq⟩ := hbody A outer s H vs Q E (hr.deeper _) hsp
  have I : Inv (cxOf CX P w K mg base N qual scope f cdv A outer s H E) [] (start N vs) H s1 := inv_start S hr.hd e0 hl r x
  refine wpAny_mono (ht [] s1 (start N vs) H _ I hq) (fun fl s' hs => ?_) fun e s' hs => hs
  have fin : ∀ {σ' : St} {H' : Hp} {v : V} {u : Value}, Inv (cxOf CX P w K mg base N qual scope f cdv A outer s H E) [] σ' H' s' → RelV v u → Q v H' → CE outer P w H s Q u s' :=
    fun {σ' H' v u} J rv q => ⟨v, H', J.os, J.bare, J.base, J.hok, rv, q⟩
  cases fl with
  | ret u =>
    obtain ⟨v, σ', H', J, rv, q⟩ := hs
    exact fin J rv q
  | next =>
    obtain ⟨σ', H', J, q⟩ := hs
    exact fin (v := V.non) (u := Value.none) J rfl q
  | brk =>
    obtain ⟨_, _, _, q⟩ := hs
    exact False.elim q
  | cont =>
    obtain ⟨_, _, _, q⟩ := hs
    exact False.elim q
end L2
namespace L2
open PySem PySem.Spec PyProof.Rows
section
variable {X : Cx} {x : Str} {p pos : Pos} {e : Expr} {es : List Expr} {t : TA} {id T : String} {r : List V → Hp → VK → Prop}
def tCB (r : List V → Hp → VK → Prop) (t : TA) : TE := fun σ H Q => t σ H fun vs H1 => r vs H1 Q
/-- f(e, ..), f a built-in function -/
theorem pe_callB (hc : CallR X (.builtin id) r) (hg : Gl X x) (hm : X.mg x = none) (hv : bootBuiltins x = some (.builtin id)) (ha : PA X (e :: es) t) (hn : x ≠ "__name__" := by decide) (hdb : (x == ("__debug__" : Str)) = false := by decide)
    (he : starEach (e :: es) X.env = (false, eval e X.env) :: starEach es X.env := by rfl) (hpl : (backTo pos (starEach es X.env)).any (·.1) = false := by rfl) : PE X (.Call (.Name x p) (e :: es) [] pos) (tCB r t) := by
  intro pins s σ H Q I h
  refine wpAny_Call_Name_kw (ld_blt I hg hm hv ?_ hn hdb)
  exact PyProof.Rows.callWith_builtin1 (thn (ha pos pins s σ H _ I h) fun us s1 ⟨vs, H1, I1, r1, q1⟩ => hc pins s1 σ H1 vs us Q I1 r1 q1) he hpl
/-- T(e, ..), T a built-in type -/
theorem pe_callTy (hc : CallR X (.type T) r) (hg : Gl X x) (hm : X.mg x = none) (hv : bootBuiltins x = some (.type T)) (ha : PA X (e :: es) t) (hn : x ≠ "__name__" := by decide) (hdb : (x == ("__debug__" : Str)) = false := by decide)
    (he : starEach (e :: es) X.env = (false, eval e X.env) :: starEach es X.env := by rfl) (hpl : (backTo pos (starEach es X.env)).any (·.1) = false := by rfl) : PE X (.Call (.Name x p) (e :: es) [] pos) (tCB r t) := by
  intro pins s σ H Q I h
  refine wpAny_Call_Name_kw (ld_blt I hg hm hv ?_ hn hdb)
  exact PyProof.Rows.callWith_type1 (thn (ha pos pins s σ H _ I h) fun us s1 ⟨vs, H1, I1, r1, q1⟩ => hc pins s1 σ H1 vs us Q I1 r1 q1) he hpl
end
end L2
namespace HT
open PySem PyProof.Rows
section
open PySem.SeqAt
open PySem.AutoSeq1 (wpAny_loadPart')
open PySem.MeetsSeq PySem.MeetsSeq2 PySem.MeetsSeq3
end
section
variable {prog : Program} {w : World} {A : Around} {E : Value → Shared → Prop} {s : Shared}
/-! ### t[a:b], not the whole -/
/-- a slice's bound as a place among n (d where it is left out) -/
def sIx (n d : Nat) : Option Int → Nat
  | none => d
  | some v => if v < 0 then (v + (n : Int)).toNat else min v.toNat n
theorem sIx_nat (n d k : Nat) : sIx n d (some (k : Int)) = min k n := by
  show (if (k : Int) < 0 then ((k : Int) + (n : Int)).toNat else min (k : Int).toNat n) = min k n
  rw [if_neg (by omega), Int.toNat_natCast]
end
end HT
namespace L2
open PySem PySem.Spec PyProof.Rows
/-! ### the parts of a slice -/
abbrev TO := St → Hp → (Option Int → Hp → Prop) → Prop
/-- a slice's part (left out, or an int) -/
def PO (X : Cx) (e : Option Expr) (t : TO) : Prop :=
  ∀ (pins : List (Addr × Obj)) (s : Shared) (σ : St) (H : Hp) (Q : Option Int → Hp → Prop), Inv X pins σ H s → t σ H Q →
    wpAny (model X.prog X.w) X.A (evalPart e X.env) (fun u s' => ∃ o H', Inv X pins σ H' s' ∧ IsPart u o ∧ Q o H') X.xe s
def tNoPart : TO := fun _ H Q => Q none H
def tPart (t : TE) : TO := fun σ H Q => t σ H fun x H1 => ∃ i, x = .int i ∧ Q (some i) H1
section
variable {X : Cx} {e : Expr} {te : TE} {lo hi : Option Expr} {tl th : TO} {pos p2 : Pos}
theorem po_none : PO X none tNoPart := by
  intro pins s σ H Q I h
  rw [evalPart_none]
  exact wpAny_pure ⟨none, H, I, .none, h⟩
theorem po_some (h : PE X e te) : PO X (some e) (tPart te) := by
  intro pins s σ H Q I hw
  rw [evalPart_some]
  refine thn (h pins s σ H _ I hw) fun u s1 ⟨x, H1, I1, r1, q1⟩ => ?_
  obtain ⟨i, rfl, q⟩ := q1
  obtain ⟨t, rfl⟩ := r1
  exact ⟨some i, H1, I1, .int i t, q⟩
/-- what a slice of a value is, by values: the slice object stands at sl -/
def SlR (X : Cx) (r : V → Option Int → Option Int → Hp → VK → Prop) : Prop :=
  ∀ (pins : List (Addr × Obj)) (s : Shared) (σ : St) (H : Hp) (x : V) (v vl vu : Value) (lo hi : Option Int) (sl : Addr) (Q : VK), Inv X pins σ H s → RelV x v → s.heap.IsSliceOf sl vl vu .none → IsPart vl lo → IsPart vu hi → r x lo hi H Q →
    ∃ T id, typeLookup (.type T) "__getitem__" = pure (some (.builtin id)) ∧ s.TypeIs v T ∧ wpAny (model X.prog X.w) X.A (getItem v (.ref sl)) (EP X pins σ Q) X.xe s
def tSl (r : V → Option Int → Option Int → Hp → VK → Prop) (te : TE) (tl th : TO) : TE := fun σ H Q => te σ H fun x H1 => tl σ H1 fun l H2 => th σ H2 fun u H3 => r x l u H3 Q
/-- a[lo:hi], any a -/
theorem pe_slice {r : V → Option Int → Option Int → Hp → VK → Prop} (hr : SlR X r) (he : PE X e te) (hl : PO X lo tl) (hu : PO X hi th) : PE X (.Subscript e (.Slice lo hi none p2) pos) (tSl r te tl th) := by
  intro pins s σ H Q I h
  refine Subscript_ (thn (he pins s σ H _ I h) fun v s1 ⟨x, H1, I1, r1, q1⟩ => ?_)
  refine wpAny_Slice (thn (hl pins s1 σ H1 _ I1 q1) fun vl s2 ⟨l, H2, I2, pl, q2⟩ => thn (hu pins s2 σ H2 _ I2 q2) fun vu s3 ⟨u, H3, I3, pu, q3⟩ => ?_)
  rw [evalPart_none]
  refine wpAny_pure ?_
  have I4 : Inv X pins σ H3 { s3 with heap := s3.heap.push { cls := .type "slice", data := .fields #[vl, vu, .none] } } := I3.kept (t' := s3.toks) fun b ob q => Heap.get?_push_of_some _ q
  obtain ⟨T, id, hT, ht, hg⟩ := hr pins { s3 with heap := s3.heap.push { cls := .type "slice", data := .fields #[vl, vu, .none] } } σ H3 x v vl vu l u s3.heap.objs.size Q I4 r1 (Heap.IsSliceOf.new ..) pl pu q3
  show wpAny (model X.prog X.w) X.A (subscriptTail e (.Slice lo hi none p2) v (.ref s3.heap.objs.size)) (EP X pins σ Q) X.xe { s3 with heap := s3.heap.push { cls := .type "slice", data := .fields #[vl, vu, .none] } }
  exact tail_any (ops := [.ref s3.heap.objs.size, v]) ht hT hg (by with_unfolding_all rfl)
/-- the items of xs[lo:hi] -/
def cutV (xs : List V) (lo hi : Option Int) : List V := (xs.drop (HT.sIx xs.length 0 lo)).take (HT.sIx xs.length xs.length hi - HT.sIx xs.length 0 lo)
theorem cutV_length (xs : List V) (lo hi : Option Int) : (cutV xs lo hi).length ≤ xs.length := by
  unfold cutV
  rw [List.length_take, List.length_drop]
  omega
/-! ### t < u, t + u -/
end
end L2
namespace L2
open PySem PySem.Spec PyProof.Rows
/-! ### places -/
/-- the place that an index of any sign means -/
def ixN (n : Nat) (i : Int) : Option Nat := if 0 ≤ i then (if i < n then some i.toNat else none) else if -(n : Int) ≤ i then some (i + n).toNat else none
def atI {α : Type} (xs : List α) (i : Int) : Option α := (ixN xs.length i).bind fun j => xs[j]?
theorem ixN_seq {n : Nat} {i : Int} {j : Nat} (h : ixN n i = some j) : seqIndex? i n = some j ∧ j < n ∧ -(n : Int) ≤ i ∧ i < n := by
  unfold ixN at h
  by_cases h0 : 0 ≤ i
  · rw [if_pos h0] at h
    by_cases h1 : i < n
    · rw [if_pos h1] at h
      have e : i.toNat = j := Option.some.inj h
      exact ⟨by rw [seqIndex_of h0 h1, e], by omega, by omega, h1⟩
    · rw [if_neg h1] at h; cases h
  · rw [if_neg h0] at h
    by_cases h1 : -(n : Int) ≤ i
    · rw [if_pos h1] at h
      have e : (i + n).toNat = j := Option.some.inj h
      exact ⟨by rw [seqIndex_neg (by omega) h1, e], by omega, h1, by omega⟩
    · rw [if_neg h1] at h; cases h
theorem atI_get {α : Type} {xs : List α} {i : Int} {v : α} (h : atI xs i = some v) : ∃ j, seqIndex? i xs.length = some j ∧ xs[j]? = some v ∧ j < xs.length ∧ -(xs.length : Int) ≤ i ∧ i < xs.length := by
  unfold atI at h
  cases e : ixN xs.length i with
  | none => rw [e] at h; cases h
  | some j =>
    rw [e] at h
    obtain ⟨h1, h2, h3, h4⟩ := ixN_seq e
    exact ⟨j, h1, h, h2, h3, h4⟩
theorem atI_nat {α : Type} {xs : List α} {j : Nat} {v : α} (h : xs[j]? = some v) : atI xs (j : Int) = some v := by
  have hj : j < xs.length := (List.getElem?_eq_some_iff.mp h).1
  have e : ixN xs.length (j : Int) = some j := by
    unfold ixN
    rw [if_pos (by omega), if_pos (by omega)]; simp
  unfold atI; rw [e]; exact h
/-! ### what may be subscripted -/
/-- what stands as an index of a plain subscript -/
def PlainIx (b : Expr) : Prop := ∀ o i, subscripted b false o i = operate [o, i] (getItem o i)
/-- a subscript by values -/
def IxR (X : Cx) (r : R2) : Prop :=
  ∀ (value slice : Expr) (pins : List (Addr × Obj)) (s : Shared) (σ : St) (H : Hp) (x y : V) (v u : Value) (Q : VK), Inv X pins σ H s → RelV x v → RelV y u → r x y H Q →
    subscripted slice false v u = operate [v, u] (getItem v u) → wpAny (model X.prog X.w) X.A (subscriptTail value slice v u) (EP X pins σ Q) X.xe s
/-- a call of a builtin's method by values: the receiver, the arguments -/
def MtR (X : Cx) (id : String) (r : V → List V → Hp → VK → Prop) : Prop :=
  ∀ (pins : List (Addr × Obj)) (s : Shared) (σ : St) (H : Hp) (x : V) (xs : List V) (v : Value) (us : List Value) (Q : VK), Inv X pins σ H s → RelV x v → Vals xs us → r x xs H Q →
    wpAny (model X.prog X.w) X.A (call (.builtin id) (v :: us)) (EP X pins σ Q) X.xe s
section
variable {X : Cx} {a b : Expr} {ta tb : TE} {pos : Pos}
/-- a[b] -/
theorem pe_ix {r : R2} (hr : IxR X r) (ha : PE X a ta) (hb : PE X b tb) (hs : PlainIx b) : PE X (.Subscript a b pos) (tOp r ta tb) := by
  intro pins s σ H Q I h
  exact Subscript_ (binT ha hb I h fun v u s2 x y H2 I2 rx ry q => hr a b pins s2 σ H2 x y v u Q I2 rx ry q (hs _ _))
def rIxL (K : PySem.W.Frag) : R2 := fun x y H Q => ∃ p xs i v, x = .ref p ∧ y = .int i ∧ SqL K H p xs ∧ atI xs i = some v ∧ Q v H
theorem ix_list : IxR X (rIxL X.K) := by
  intro value slice pins s σ H x y v u Q I rx ry h hs
  obtain ⟨p, xs, i, z, rfl, rfl, hq, he, q⟩ := h
  cases rx
  obtain ⟨t, rfl⟩ := ry
  obtain ⟨its, r, pl, hz⟩ := I.list hq
  obtain ⟨j, h1, h2, h3, h4, h5⟩ := atI_get he
  obtain ⟨w, ew, rw'⟩ := r.get h2
  have hl := r.length
  have hn := line63
  have fin : EP X pins σ Q w s := ⟨z, H, I, rw', q⟩
  by_cases h0 : 0 ≤ i
  · have hj : i.toNat = j := by
      rw [seqIndex_of h0 h5] at h1
      exact Option.some.inj h1
    exact item_listR pl.isList h0 (by omega) (by rw [hj]; simpa using ew) fin hs
  · have hj : (i + (its.toArray.size : Int)).toNat = j := by
      rw [seqIndex_neg (by omega) h4] at h1
      rw [List.size_toArray, ← hl]
      exact Option.some.inj h1
    exact subscriptTail_builtinR (x := w) pl.isList.typeIs slot_list_getitem.lookup
      (wpAny_getItem_list_neg (Q := fun r s' => r = w ∧ EP X pins σ Q r s') pl.isList (by omega) (by rw [List.size_toArray] <;> omega) (by omega) (by rw [hj]; simpa using ew) ⟨rfl, fin⟩) hs
/-! ### xs[i] = v, any sign -/
/-! ### slices -/
theorem slice_bounds (lo hi : Option Int) (n : Nat) : (sliceBounds lo hi none n).1 = ((HT.sIx n 0 lo : Nat) : Int) ∧ (sliceBounds lo hi none n).2.1 = ((HT.sIx n n hi : Nat) : Int) ∧ (sliceBounds lo hi none n).2.2 = 1 := by
  refine ⟨?_, ?_, rfl⟩
  · cases lo with
    | none => simp [sliceBounds, HT.sIx]
    | some i =>
      simp only [sliceBounds, HT.sIx, Option.getD_none, show (1 : Int) > 0 by decide, if_true]
      by_cases h : i < 0
      · simp only [h, if_true] <;> omega
      · simp only [h, if_false] <;> omega
  · cases hi with
    | none => simp [sliceBounds, HT.sIx]
    | some i =>
      simp only [sliceBounds, HT.sIx, Option.getD_none, show (1 : Int) > 0 by decide, if_true]
      by_cases h : i < 0
      · simp only [h, if_true] <;> omega
      · simp only [h, if_false] <;> omega
theorem slicePick_cut (its : List Value) (lo hi : Option Int) : slicePick its.toArray lo hi none = ((its.drop (HT.sIx its.length 0 lo)).take (HT.sIx its.length its.length hi - HT.sIx its.length 0 lo)).toArray := by
  obtain ⟨h1, h2, h3⟩ := slice_bounds lo hi its.toArray.size
  unfold slicePick
  rw [h1, h2, h3]
  simp only [sliceRange_one, pick_run, List.size_toArray] <;> rfl
/-- xs[lo:hi] of a list: a new list -/
def rSlL (K : PySem.W.Frag) : V → Option Int → Option Int → Hp → VK → Prop := fun x lo hi H Q => ∃ a xs, x = .ref a ∧ SqL K H a xs ∧ ∀ p, H p = none → Q (.ref p) (upd H p (.lst (cutV xs lo hi)))
theorem sl_list : SlR X (rSlL X.K) := by
  intro pins s σ H x v vl vu lo hi sl Q I rx hs pl pu h
  obtain ⟨a, xs, rfl, hx, q⟩ := h
  cases rx
  obtain ⟨its, r, ht, hz⟩ := I.list hx
  have hlen := r.length
  refine ⟨"list", _, slot_list_getitem.lookup, ht.isList.typeIs, ?_⟩
  refine wpAny_getItem_list_slice ht.isList hs pl pu .none (by simp) ?_ (by rw [List.size_toArray] <;> omega)
  rw [slicePick_cut, ← hlen]
  refine ⟨.ref s.heap.objs.size, _, I.laid (t' := s.toks) (o := .lst (cutV xs lo hi)) (fun b ob q => Heap.get?_push_of_some _ q) (Nat.le_refl _) ?_, rfl, q _ (I.hok.fresh (Nat.le_refl _))⟩
  exact ⟨Nat.le_trans (cutV_length xs lo hi) hz, _, 0, (r.drop (HT.sIx xs.length 0 lo)).take (HT.sIx xs.length xs.length hi - HT.sIx xs.length 0 lo), Heap.get?_push_size _ rfl⟩
/-! ### in, not in: flat items -/
def flatV : V → Bool
  | .non => true
  | .bl _ => true
  | .int _ => true
  | .str _ => true
  | _ => false
/-- == of flat values -/
def eqV : V → V → Bool
  | .non, .non => true
  | .bl a, .bl b => a == b
  | .bl a, .int b => (if a then 1 else 0) == b
  | .int a, .bl b => a == (if b then 1 else 0)
  | .int a, .int b => a == b
  | .str a, .str b => a == b
  | _, _ => false
theorem eqAt_V {A : Around} {s : Shared} {y x : V} {u v : Value} (ry : RelV y u) (rx : RelV x v) (fy : flatV y = true) (fx : flatV x = true) : SeqAt.EqAt A s u v (eqV y x) := by
  cases y with
  | non =>
    cases ry
    cases x with
    | non => cases rx; exact SeqAt.EqAt.same _
    | bl b => cases rx; exact SeqAt.EqAt.none_bool b
    | int b => obtain ⟨t, rfl⟩ := rx; exact SeqAt.EqAt.none_int b t
    | str b => obtain ⟨t, rfl⟩ := rx; exact SeqAt.EqAt.none_str b t
    | _ => exact absurd (show false = true from fx) Bool.false_ne_true
  | bl a =>
    cases ry
    cases x with
    | non => cases rx; exact SeqAt.EqAt.bool_none a
    | bl b => cases rx; exact SeqAt.EqAt.bool_bool a b
    | int b => obtain ⟨t, rfl⟩ := rx; exact SeqAt.EqAt.bool_int a b t
    | str b => obtain ⟨t, rfl⟩ := rx; exact SeqAt.EqAt.bool_str a b t
    | _ => exact absurd (show false = true from fx) Bool.false_ne_true
  | int a =>
    obtain ⟨t', rfl⟩ := ry
    cases x with
    | non => cases rx; exact SeqAt.EqAt.int_none a t'
    | bl b => cases rx; exact SeqAt.EqAt.int_bool a t' b
    | int b => obtain ⟨t, rfl⟩ := rx; exact SeqAt.EqAt.int_int a t' b t
    | str b => obtain ⟨t, rfl⟩ := rx; exact SeqAt.EqAt.int_str a t' b t
    | _ => exact absurd (show false = true from fx) Bool.false_ne_true
  | str a =>
    obtain ⟨t', rfl⟩ := ry
    cases x with
    | non => cases rx; exact SeqAt.EqAt.str_none a t'
    | bl b => cases rx; exact SeqAt.EqAt.str_bool a t' b
    | int b => obtain ⟨t, rfl⟩ := rx; exact SeqAt.EqAt.str_int a t' b t
    | str b => obtain ⟨t, rfl⟩ := rx; exact SeqAt.EqAt.str_str a t' b t
    | _ => exact absurd (show false = true from fx) Bool.false_ne_true
  | _ => exact absurd (show false = true from fy) Bool.false_ne_true
/-- the items' answers, read off the values (a value's own answer does not lean on its token) -/
def eqU (x : V) (u : Value) : Bool := match u with
  | .none => eqV .non x
  | .bool b => eqV (.bl b) x
  | .int i _ => eqV (.int i) x
  | .str z _ => eqV (.str z) x
  | _ => false
theorem eqU_of {x y : V} {u : Value} (r : RelV y u) (f : flatV y = true) : eqU x u = eqV y x := by
  cases y with
  | non => cases r; rfl
  | bl b => cases r; rfl
  | int i => obtain ⟨t, rfl⟩ := r; rfl
  | str z => obtain ⟨t, rfl⟩ := r; rfl
  | _ => exact absurd (show false = true from f) Bool.false_ne_true
theorem any_eqU {x : V} : ∀ {xs : List V} {us : List Value}, Vals xs us → xs.all flatV = true → us.any (eqU x) = xs.any fun y => eqV y x
  | _, _, .nil, _ => rfl
  | y :: xs, u :: us, .cons r t, f => by
    rw [List.all_cons, Bool.and_eq_true] at f
    rw [List.any_cons, List.any_cons, eqU_of r f.1, any_eqU t f.2]
theorem mem_eqAt {A : Around} {s : Shared} {x : V} {v : Value} (rx : RelV x v) (fx : flatV x = true) : ∀ {xs : List V} {us : List Value}, Vals xs us → xs.all flatV = true → ∀ u ∈ us, SeqAt.EqAt A s u v (eqU x u)
  | _, _, .nil, _ => fun u hu => by cases hu
  | y :: xs, u :: us, .cons r t, f => fun u' hu => by
    rw [List.all_cons, Bool.and_eq_true] at f
    rcases List.mem_cons.mp hu with rfl | hu
    · rw [eqU_of r f.1]; exact eqAt_V r rx f.1 fx
    · exact mem_eqAt rx fx t f.2 u' hu
def inV (x : V) (xs : List V) : Bool := xs.any fun y => eqV y x
/-- x in a list or tuple of flat items -/
def rIn (K : PySem.W.Frag) (neg : Bool) : R2 := fun x y H Q => ∃ p xs, y = .ref p ∧ (SqL K H p xs ∨ SqT K H p xs) ∧ flatV x = true ∧ xs.all flatV = true ∧ Q (.bl (if neg then !inV x xs else inV x xs)) H
theorem op_in_seq : OpR X (compareOp .In) (rIn X.K false) := by
  intro pins s σ H x y v u Q I rx ry h
  obtain ⟨p, xs, rfl, hq, fx, fs, q⟩ := h
  cases ry
  rcases hq with hq | hq
  · obtain ⟨its, r, pl, hz⟩ := I.list hq
    refine SeqAt.in_listAt (eqU x) pl.isList (fun w hw => mem_eqAt rx fx r fs w (by simpa using hw)) ⟨.bl _, H, I, rfl, ?_⟩
    rw [show its.toArray.any (eqU x) = its.any (eqU x) by simp, any_eqU r fs]
    exact q
  · obtain ⟨its, r, pl, hz⟩ := I.tuple hq
    refine SeqAt.in_tupleAt (eqU x) pl (fun w hw => mem_eqAt rx fx r fs w (by simpa using hw)) ⟨.bl _, H, I, rfl, ?_⟩
    rw [show its.toArray.any (eqU x) = its.any (eqU x) by simp, any_eqU r fs]
    exact q
/-! ### len, list(x), tuple(x) of any list or tuple that is read -/
theorem call_len_seq : CallR X (.builtin "len") (fun xs H Q => ∃ p ys, xs = [.ref p] ∧ (SqL X.K H p ys ∨ SqT X.K H p ys) ∧ Q (.int ys.length) H) := by
  intro pins s σ H xs us Q I r h
  obtain ⟨p, ys, rfl, hq, q⟩ := h
  obtain ⟨u, rfl, rx⟩ := vals1 r
  cases rx
  have hn := line63
  rcases hq with hq | hq
  · obtain ⟨its, r', pl, hz⟩ := I.list hq
    have hlen := r'.length
    exact Calls.call_len_list pl.isList (by simp only [List.size_toArray] <;> omega) ⟨.int ys.length, H, I.tok _, ⟨s.toks + 1, by rw [List.size_toArray, hlen]⟩, q⟩
  · obtain ⟨its, r', pl, hz⟩ := I.tuple hq
    have hlen := r'.length
    exact len_tuple pl (by simp only [List.size_toArray] <;> omega) ⟨.int ys.length, H, I.tok _, ⟨s.toks + 1, by rw [List.size_toArray, hlen]⟩, q⟩
/-! ### the call of a builtin's method: o.m(..) -/
/-- the value is of that builtin type -/
def tyV (K : PySem.W.Frag) (T : String) (x : V) (H : Hp) : Prop := match x with
  | .str _ => T = "str"
  | .int _ => T = "int"
  | .ref p => (T = "list" ∧ ∃ xs, SqL K H p xs) ∨ (T = "tuple" ∧ ∃ o, K.lookup p = some o ∧ o.cls = .type "tuple" ∧ o.dict = none) ∨
      (T = "dict" ∧ ((∃ kvs, H p = some (.dK kvs)) ∨ ∃ kvs, H p = some (.dT kvs))) ∨ (T = "set" ∧ ∃ S n, H p = some (.set S n))
  | _ => False
theorem tyV_is {pins : List (Addr × Obj)} {σ : St} {H : Hp} {s : Shared} {T : String} {x : V} {v : Value} (I : Inv X pins σ H s) (r : RelV x v) (ty : tyV X.K T x H) :
    s.TypeIs v T ∧ ∀ a, v = .ref a → ∃ ob, s.heap.get? a = some ob ∧ ob.dict = none := by
  cases x with
  | str z =>
    obtain ⟨t, rfl⟩ := r
    cases (show T = "str" from ty)
    exact ⟨typeIs_str s z t, fun _ e => nomatch e⟩
  | int i =>
    obtain ⟨t, rfl⟩ := r
    cases (show T = "int" from ty)
    exact ⟨typeIs_int s i t, fun _ e => nomatch e⟩
  | ref p =>
    cases r
    rcases ty with ⟨rfl, xs, hq⟩ | ⟨rfl, o, hk, hc, hd⟩ | ⟨rfl, hk⟩ | ⟨rfl, S, n, hk⟩
    · obtain ⟨its, _, pl, _⟩ := I.list hq
      refine ⟨pl.isList.typeIs, fun a e => ?_⟩
      cases e
      obtain ⟨o, n, e, c, hd, _⟩ := pl
      exact ⟨o, e, hd⟩
    · refine ⟨⟨o, I.kIn p o hk, hc⟩, fun a e => ?_⟩
      cases e
      exact ⟨o, I.kIn _ o hk, hd⟩
    · have z : ∃ o, s.heap.get? p = some o ∧ o.ExactDict := by
        rcases hk with ⟨kvs, hk⟩ | ⟨kvs, hk⟩
        · obtain ⟨_, _, _, _, o, _, _, e, ex, _⟩ := I.hok p _ hk
          exact ⟨o, e, ex⟩
        · obtain ⟨_, _, _, _, o, _, _, e, ex, _⟩ := I.hok p _ hk
          exact ⟨o, e, ex⟩
      obtain ⟨o, e, ex⟩ := z
      refine ⟨⟨o, e, ex.1⟩, fun a e2 => ?_⟩
      cases e2
      exact ⟨o, e, ex.2.1⟩
    · obtain ⟨o, _, _, _, e, ex, _⟩ := I.hok p _ hk
      refine ⟨⟨o, e, ex.1⟩, fun a e2 => ?_⟩
      cases e2
      exact ⟨o, e, ex.2.1⟩
  | _ => exact False.elim ty
def tBM (K : PySem.W.Frag) (T : String) (r : V → List V → Hp → VK → Prop) (to : TE) (t : TA) : TE := fun σ H Q => to σ H fun x H1 => tyV K T x H1 ∧ t σ H1 fun xs H2 => r x xs H2 Q
variable {o e : Expr} {es : List Expr} {to : TE} {t : TA} {name : Str} {apos cpos : Pos} {T id : String} {r : V → List V → Hp → VK → Prop}
theorem pe_bm (pa : PlainAttrs T) (slot : Slot T name id) (hty : typeOf (.builtin id) = pure (.type "method_descriptor")) (hm : MtR X id r) (ho : PE X o to) (ha : PA X (e :: es) t)
    (hbase : attributeBase o name X.env (eval o X.env) = eval o X.env := by rfl)
    (hfew : ((backTo cpos (starEach (e :: es) X.env)).all (fun x => !x.1) && (backToKw cpos (keywordEach [] X.env)).all (fun x => x.1.isSome)
      && decide ((e :: es).length + ([] : List Keyword).length + (if ([] : List Keyword).isEmpty then 0 else 1) < 30)) = true := by rfl)
    (hline : (apos.endLine == cpos.line) = true := by rfl) (hs : starEach (e :: es) X.env = (false, eval e X.env) :: starEach es X.env := by rfl) (hplain : (backTo cpos (starEach es X.env)).any (·.1) = false := by rfl) :
    PE X (.Call (.Attribute o name apos) (e :: es) [] cpos) (tBM X.K T r to t) := by
  intro pins s σ H Q I h
  refine wpAny_Call_method_late hbase hfew hline rfl (thn (ho pins s σ H _ I h) fun v s1 ⟨x, H1, I1, r1, ty, q1⟩ => ?_)
  obtain ⟨h1, h2⟩ := tyV_is I1 r1 ty
  refine ⟨T, id, pa, slot, hty, h1, h2, ?_⟩
  have hA := ha cpos pins s1 σ H1 _ I1 q1
  rw [hs] at hA ⊢
  refine Calls.callWith_builtin (by show (false || (backTo cpos (starEach es X.env)).any (·.1)) = false; rw [hplain] <;> rfl) (Calls.evalArgs_plain ?_)
  exact thn hA fun us s2 ⟨vs, H2, I2, r2, q2⟩ => hm pins s2 σ H2 x vs v us Q I2 r1 r2 q2
/- xs.append(e), list.index on a module's tuple .. are MtR facts of 06m -/
end
end L2
namespace L2
open PySem PySem.Spec PyProof.Rows
def MtM (X : Cx) (id : String) (r : V → List V → Hp → VK → Prop) : Prop :=
  ∀ (pins : List (Addr × Obj)) (s : Shared) (σ : St) (H : Hp) (x : V) (xs : List V) (v : Value) (us : List Value) (Q : VK), Inv X pins σ H s → RelV x v → Vals xs us → r x xs H Q →
    wpAny (model X.prog X.w) X.A (call (.builtin id) (v :: us)) (EP X pins σ Q) X.xe s
/-! ### lists of values -/
theorem Vals.one : ∀ {x : V} {us : List Value}, Vals [x] us → ∃ u, us = [u] ∧ RelV x u
  | _, _, .cons r .nil => ⟨_, rfl, r⟩
section
variable {X : Cx} {pins : List (Addr × Obj)} {σ : St} {H : Hp} {s : Shared} {l b : Addr} {xs ys zs : List V}
/-! ### the two steps: a tracked list is rewritten, a new list is laid -/
theorem Inv.lset {its its' : List Value} {n : Nat} {f : Array Value → Array Value} {t' : Nat} (I : Inv X pins σ H s) (hH : H l = some (.lst xs))
    (e : s.heap.get? l = some { cls := .type "list", data := .seq its.toArray n }) (hf : f its.toArray = its'.toArray) (hv : Vals ys its') (hz : ys.length ≤ sizeLine) :
    Inv X pins σ (upd H l (.lst ys)) { s with heap := s.heap.update l (Obj.mapSeq f), toks := t' } := by
  have q := PySem.IsL.update e f
  rw [hf] at q
  refine I.write (x := l) (e := l) (by rw [hH]; exact trivial) (.inl rfl) (fun b' u hb hu => (Heap.get?_update_other s.heap (Obj.mapSeq f) (Ne.symm hb)).trans hu) ⟨_, q⟩ ?_
  exact ⟨hz, its', _, hv, q⟩
theorem Inv.lnew {its : List Value} {t' : Nat} (I : Inv X pins σ H s) (hv : Vals ys its) (hz : ys.length ≤ sizeLine) :
    Inv X pins σ (upd H s.heap.objs.size (.lst ys)) { s with heap := s.heap.push { cls := .type "list", data := .seq its.toArray }, toks := t' } :=
  I.laid (fun _ _ q => Heap.get?_push_of_some _ q) (Nat.le_refl _) ⟨hz, its, 0, hv, Heap.get?_push_size _ rfl⟩
theorem Inv.fresh (I : Inv X pins σ H s) : H s.heap.objs.size = none := I.hok.fresh (Nat.le_refl _)
theorem Inv.lstM (I : Inv X pins σ H s) (hH : H l = some (.lst xs)) : xs.length ≤ sizeLine ∧ ∃ (its : List Value) (n : Nat), Vals xs its ∧ xs.length = its.length ∧ s.heap.get? l = some { cls := .type "list", data := .seq its.toArray n } := by
  obtain ⟨z, its, n, r, e⟩ := I.hok l _ hH
  exact ⟨z, its, n, r, r.length, e⟩
theorem notLongL {n : Nat} (h : n ≤ sizeLine) : Builtin.List.listTooLong n = false := by
  unfold Builtin.List.listTooLong
  exact decide_eq_false (by omega)
end
section
variable {X : Cx}
/-! ### methods -/
def rAppend : V → List V → Hp → VK → Prop := fun x vs H Q => ∃ l xs y, x = .ref l ∧ vs = [y] ∧ H l = some (.lst xs) ∧ xs.length < sizeLine ∧ Q .non (upd H l (.lst (xs ++ [y])))
theorem mt_append : MtM X "list.append" rAppend := by
  intro pins s σ H x vs v us Q I rx rv h
  obtain ⟨l, xs, y, rfl, rfl, hH, hz, q⟩ := h
  cases rx
  obtain ⟨u, rfl, ru⟩ := rv.one
  obtain ⟨z, its, n, r, hl, e⟩ := I.lstM hH
  refine call_meets F.slot_list_append ⟨_, e, rfl⟩ F.entry_list_append (F.args_list_append_2 _ _) (PySem.list_append l its.toArray n u (by rw [List.size_toArray]; omega)) ⟨e, ?_⟩
  refine ⟨.non, _, I.lset (its' := its ++ [u]) hH e (by simp) (r.append (.cons ru .nil)) ?_, rfl, q⟩
  rw [List.length_append, List.length_singleton]
  omega
def rExtend : V → List V → Hp → VK → Prop := fun x vs H Q => ∃ l b xs zs, x = .ref l ∧ vs = [.ref b] ∧ H l = some (.lst xs) ∧ H b = some (.lst zs) ∧ xs.length + zs.length ≤ sizeLine ∧ Q .non (upd H l (.lst (xs ++ zs)))
theorem mt_extend : MtM X "list.extend" rExtend := by
  intro pins s σ H x vs v us Q I rx rv h
  obtain ⟨l, b, xs, zs, rfl, rfl, hH, hB, hz, q⟩ := h
  cases rx
  obtain ⟨u, rfl, ru⟩ := rv.one
  cases ru
  obtain ⟨z, its, n, r, hl, e⟩ := I.lstM hH
  obtain ⟨z2, its2, n2, r2, hl2, e2⟩ := I.lstM hB
  have hsz : its.toArray.size + its2.toArray.size ≤ sizeLine := by rw [List.size_toArray, List.size_toArray]; omega
  have hlong : ¬ (!its.toArray.isEmpty && Builtin.List.listTooLong (its.toArray.size + its2.toArray.size)) = true := by
    rw [notLongL hsz, Bool.and_false]
    exact Bool.false_ne_true
  refine call_meets F.slot_list_extend ⟨_, e, rfl⟩ F.entry_list_extend (F.args_list_extend_2 _ _)
    (AutoSeq1.list_extend_list_list_0 l its.toArray n b its2.toArray n2 hlong (by rw [List.size_toArray]; omega) (by omega)) ⟨e, e2, ?_⟩
  refine ⟨.non, _, I.lset (its' := its ++ its2) hH e (by simp) (r.append r2) ?_, rfl, q⟩
  rw [List.length_append]
  omega
/-! ### list + list, list += list, list * int -/
def rCat : R2 := fun x y H Q => ∃ l b xs zs, x = .ref l ∧ y = .ref b ∧ H l = some (.lst xs) ∧ H b = some (.lst zs) ∧ xs.length + zs.length ≤ sizeLine ∧ ∀ p, H p = none → Q (.ref p) (upd H p (.lst (xs ++ zs)))
theorem op_cat : OpR X (binaryOp .Add) rCat := by
  intro pins s σ H x y v u Q I rx ry h
  obtain ⟨l, b, xs, zs, rfl, rfl, hH, hB, hz, q⟩ := h
  cases rx
  cases ry
  obtain ⟨z, its, n, r, hl, e⟩ := I.lstM hH
  obtain ⟨z2, its2, n2, r2, hl2, e2⟩ := I.lstM hB
  refine PySem.P.add_list e e2 ?_ (by rw [List.size_toArray, List.size_toArray]; omega)
  have ea : its.toArray ++ its2.toArray = (its ++ its2).toArray := by simp
  rw [ea]
  exact ⟨.ref _, _, I.lnew (t' := s.toks) (r.append r2) (by rw [List.length_append]; omega), rfl, q _ I.fresh⟩
/-! ### del xs[i] -/
end
/-! ### xs[a:b] = ys -/
section
variable {prog : Program} {w : World} {A : Around} {E : Value → Shared → Prop} {s : Shared}
end
section
variable {X : Cx}
end
end L2
namespace L2
open PySem PySem.Spec PyProof.Rows
theorem vals_of_ints : ∀ {us : List Value} {ns : List Int}, IntsAre us ns → Vals (ns.map V.int) us
  | _, _, .nil => by rw [List.map_nil]; exact Paired.nil
  | _, _, .cons n t h => by rw [List.map_cons]; exact Paired.cons (show RelV (V.int n) (Value.int n t) from ⟨t, rfl⟩) (vals_of_ints h)
theorem Vals.ref1 {a : Addr} {us : List Value} (r : Vals [V.ref a] us) : us = [Value.ref a] := by
  cases r with
  | cons r t =>
    cases t
    cases r
    rfl
/-! ### the library's walks over a list of ints, kept objects alone -/
section
variable {prog : Program} {w : World} {A : Around} {E : Value → Shared → Prop} {s : Shared} {l : Addr} {its : List Value} {ns : List Int} {Q : Value → Shared → Prop}
end
/-! ### the calls, by values (CallR of 03t; MtR of 06l) -/
section
variable {X : Cx}
/-! sorted, sort (fewer than 64 items: the library's own bound) -/
end
/-! ### list.index, flat items -/
section
variable {X : Cx}
end
/-! ### type(x) of an own instance; is, is not of a module's class -/
section
variable {X : Cx}
end
/-! ### any(xs), all(xs) of a list of bools -/
section
variable {X : Cx}
end
/-! ### == and != of data at any depth: none, bools, ints, texts, lists, tuples -/
section
variable {X : Cx} {pins : List (Addr × Obj)} {σ : St} {H : Hp} {s : Shared}
end
section
variable {X : Cx}
end
end L2
namespace L2
open PySem PySem.Spec PyProof.Rows
abbrev CellAt (h : Heap) (c : Addr) (v : Option Value) : Prop := h.IsCell c v
def relS (scope sc : Scope) : Scope :=
  { scope with names := scope.names.map fun (n, k) => if (k == .free && sc.kind == .function && sc.names.lookup n == some .cell) then (n, .cell) else (n, k) }
def cloFrom (cells : List (Str × Addr)) : List (Str × NameKind) → List (Str × Addr) → List (Str × Addr)
  | [], acc => acc
  | (n, k) :: r, acc => if k == .free then cloFrom cells r ((n, (cells.lookup n).getD 0) :: acc) else cloFrom cells r acc
theorem closure_loop (env : Env) (f : Str × NameKind → List (Str × Addr) → Sem (ForInStep (List (Str × Addr))))
    (hf : ∀ n k c, f (n, k) c = if k == .free then (do let a ← cellOf env n; pure (.yield ((n, a) :: c))) else pure (.yield c)) :
    ∀ (names : List (Str × NameKind)) (acc : List (Str × Addr)), (∀ y ∈ names, y.2 = .free → ∃ c, env.cells.lookup y.1 = some c) → forIn names acc f = pure (cloFrom env.cells names acc)
  | [], acc, _ => by rw [List.forIn_nil]; rfl
  | (n, k) :: r, acc, h => by
    rw [List.forIn_cons, hf]
    have ih := fun acc => closure_loop env f hf r acc fun y hy => h y (List.mem_cons_of_mem _ hy)
    unfold cloFrom
    by_cases hk : (k == NameKind.free) = true
    · rw [if_pos hk, if_pos hk]
      obtain ⟨c, hc⟩ := h (n, k) List.mem_cons_self (by simpa using hk)
      have e : cellOf env n = pure c := by unfold cellOf; rw [hc]
      rw [e]
      have e2 : (env.cells.lookup n).getD 0 = c := by rw [hc]; rfl
      rw [e2]
      exact ih _
    · rw [if_neg hk, if_neg hk]
      exact ih _
theorem closure_ok {scope : Scope} {env : Env} (h : ∀ y ∈ scope.names, y.2 = .free → ∃ c, env.cells.lookup y.1 = some c) : closureFor scope env = pure (cloFrom env.cells scope.names []) := by
  simp only [closureFor]
  rw [closure_loop env _ (fun n k c => rfl) scope.names [] h]
  rfl
theorem mem_lookup {α : Type} : ∀ {l : List (Str × α)} {n : Str} {c : α}, (n, c) ∈ l → ∃ c', l.lookup n = some c'
  | (k, v) :: r, n, c, h => by
    rw [List.lookup_cons]
    cases hb : n == k with
    | true => exact ⟨_, rfl⟩
    | false =>
      rcases List.mem_cons.mp h with e | h
      · cases e; simp at hb
      · exact mem_lookup h
theorem cloFrom_mem {cells : List (Str × Addr)} : ∀ {names : List (Str × NameKind)} {acc : List (Str × Addr)} {n : Str} {c : Addr}, (n, c) ∈ cloFrom cells names acc → (n, c) ∈ acc ∨ ((n, .free) ∈ names ∧ c = (cells.lookup n).getD 0)
  | [], _, _, _, h => .inl h
  | (m, k) :: r, acc, n, c, h => by
    unfold cloFrom at h
    split at h
    · rename_i hk
      have hk : k = .free := by simpa using hk
      rcases cloFrom_mem h with h | ⟨h1, h2⟩
      · rcases List.mem_cons.mp h with e | h
        · cases e; exact .inr ⟨hk ▸ List.mem_cons_self, rfl⟩
        · exact .inl h
      · exact .inr ⟨List.mem_cons_of_mem _ h1, h2⟩
    · rcases cloFrom_mem h with h | ⟨h1, h2⟩
      · exact .inl h
      · exact .inr ⟨List.mem_cons_of_mem _ h1, h2⟩
theorem cloFrom_acc {cells : List (Str × Addr)} : ∀ {names : List (Str × NameKind)} {acc : List (Str × Addr)} {p : Str × Addr}, p ∈ acc → p ∈ cloFrom cells names acc
  | [], _, _, h => h
  | (m, k) :: r, acc, p, h => by
    unfold cloFrom
    split
    · exact cloFrom_acc (List.mem_cons_of_mem _ h)
    · exact cloFrom_acc h
theorem cloFrom_has {cells : List (Str × Addr)} : ∀ {names : List (Str × NameKind)} {acc : List (Str × Addr)} {n : Str}, (n, .free) ∈ names → (n, (cells.lookup n).getD 0) ∈ cloFrom cells names acc
  | (m, k) :: r, acc, n, h => by
    unfold cloFrom
    rcases List.mem_cons.mp h with e | h
    · cases e
      exact cloFrom_acc List.mem_cons_self
    · split
      · exact cloFrom_has h
      · exact cloFrom_has h
theorem cells_mem : ∀ {names : List (Str × NameKind)} {h : Heap} {acc : List (Str × Addr)} {x : Str} {c : Addr}, (x, c) ∈ cellsFrom h.objs.size names acc →
    (x, c) ∈ acc ∨ ((x, .cell) ∈ names ∧ h.objs.size ≤ c ∧ CellAt (pushCells h names) c none)
  | [], _, _, _, _, h => .inl h
  | (n, k) :: r, h, acc, x, c, hm => by
    unfold cellsFrom at hm
    unfold pushCells
    split at hm
    · rename_i hk
      rw [if_pos hk]
      have hk : k = .cell := by simpa using hk
      rw [← Heap.size_push h { cls := .type "cell", data := .cell none }] at hm
      rcases cells_mem hm with hm | ⟨h1, h2, h3⟩
      · rcases List.mem_cons.mp hm with e | hm
        · cases e
          exact .inr ⟨hk ▸ List.mem_cons_self, Nat.le_refl _, _, pushCells_keeps r _ _ _ (Heap.get?_push_size _ rfl), rfl⟩
        · exact .inl hm
      · rw [Heap.size_push] at h2
        exact .inr ⟨List.mem_cons_of_mem _ h1, Nat.le_of_succ_le h2, h3⟩
    · rename_i hk
      rw [if_neg hk]
      rcases cells_mem hm with hm | ⟨h1, h2, h3⟩
      · exact .inl hm
      · exact .inr ⟨List.mem_cons_of_mem _ h1, h2, h3⟩
theorem cells_acc : ∀ {names : List (Str × NameKind)} {n : Nat} {acc : List (Str × Addr)} {p : Str × Addr}, p ∈ acc → p ∈ cellsFrom n names acc
  | [], _, _, _, h => h
  | (m, k) :: r, n, acc, p, h => by
    unfold cellsFrom
    split
    · exact cells_acc (List.mem_cons_of_mem _ h)
    · exact cells_acc h
theorem cells_has : ∀ {names : List (Str × NameKind)} {n : Nat} {acc : List (Str × Addr)} {x : Str}, (x, .cell) ∈ names → ∃ c, (x, c) ∈ cellsFrom n names acc
  | (m, k) :: r, n, acc, x, h => by
    unfold cellsFrom
    rcases List.mem_cons.mp h with e | h
    · cases e
      exact ⟨n, cells_acc List.mem_cons_self⟩
    · split
      · exact cells_has h
      · exact cells_has h
theorem cells_inj : ∀ {names : List (Str × NameKind)} {h : Heap} {acc : List (Str × Addr)} {x y : Str} {c : Addr}, (∀ p ∈ acc, p.2 < h.objs.size) → (∀ x y c, (x, c) ∈ acc → (y, c) ∈ acc → x = y) →
    (x, c) ∈ cellsFrom h.objs.size names acc → (y, c) ∈ cellsFrom h.objs.size names acc → x = y
  | [], _, _, _, _, _, _, hi, h1, h2 => hi _ _ _ h1 h2
  | (n, k) :: r, h, acc, x, y, c, hl, hi, h1, h2 => by
    unfold cellsFrom at h1 h2
    split at h1
    · rename_i hk
      rw [if_pos hk] at h2
      rw [← Heap.size_push h { cls := .type "cell", data := .cell none }] at h1 h2
      refine cells_inj (h := h.push _) (fun p hp => ?_) (fun x y c a b => ?_) h1 h2
      · rw [Heap.size_push]
        rcases List.mem_cons.mp hp with rfl | hp
        · exact Nat.lt_succ_self _
        · exact Nat.lt_succ_of_lt (hl p hp)
      · rcases List.mem_cons.mp a with e | a <;> rcases List.mem_cons.mp b with e' | b
        · cases e; cases e'; rfl
        · cases e; exact absurd (hl _ b) (Nat.lt_irrefl _)
        · cases e'; exact absurd (hl _ a) (Nat.lt_irrefl _)
        · exact hi _ _ _ a b
    · rename_i hk
      rw [if_neg hk] at h2
      exact cells_inj hl hi h1 h2
theorem newEnv_comp {M : Model} {A : Around} {E : Value → Shared → Prop} {s : Shared} {scope : Scope} {globals : Addr} {closure : List (Str × Addr)} {qual : Str} {func : Option Addr} {code : Value} {around : Env} {builtins : Addr} {Q : Env → Shared → Prop}
    (h : Q (newEnv scope s.heap.objs.size globals (cellsFrom (s.heap.objs.size + 1) scope.names closure) qual func code (some around) builtins)
      { s with heap := pushCells (s.heap.push { cls := .type "dict", data := .dict #[] }) scope.names }) :
    wpAny M A (newFunctionEnv scope globals closure [] qual func code (some around) builtins) Q E s := by
  simp only [newFunctionEnv, Option.isSome_some, if_true]
  refine wpAny_bind (wpAny_alloc ?_)
  refine wpAny_bind (wpAny_layCells _ (fun n k c => rfl) scope.names closure _ _ ?_)
  rw [show ({ s with heap := s.heap.push { cls := .type "dict", data := .dict #[] } } : Shared).heap.objs.size = s.heap.objs.size + 1 from Heap.size_push ..]
  rw [List.forIn_nil]
  exact wpAny_bind (wpAny_pure (wpAny_pure h))
/-- every name of the written scope, in the scope that runs -/
theorem lookup_relS {sc : Scope} : ∀ {names : List (Str × NameKind)} {x : Str} {k : NameKind},
    (names.map fun (n, k) => if (k == NameKind.free && sc.kind == .function && sc.names.lookup n == some .cell) then (n, NameKind.cell) else (n, k)).lookup x = some k →
    ∃ k', names.lookup x = some k' ∧ (k = k' ∨ (k' = .free ∧ k = .cell))
  | [], _, _, h => by simp at h
  | (n, k₀) :: r, x, k, h => by
    have ih := @lookup_relS sc r x k
    have h' : List.lookup x ((if (k₀ == NameKind.free && sc.kind == .function && sc.names.lookup n == some .cell) = true then (n, NameKind.cell) else (n, k₀)) :: (r.map _)) = some k := h
    cases hx : x == n with
    | true =>
      simp only [List.lookup_cons, hx]
      by_cases hc : (k₀ == NameKind.free && sc.kind == .function && sc.names.lookup n == some .cell) = true
      · rw [if_pos hc] at h'
        simp only [List.lookup_cons, hx] at h'
        cases h'
        simp only [Bool.and_eq_true, beq_iff_eq] at hc
        exact ⟨k₀, rfl, .inr ⟨hc.1.1, rfl⟩⟩
      · rw [if_neg hc] at h'
        simp only [List.lookup_cons, hx] at h'
        cases h'
        exact ⟨_, rfl, .inl rfl⟩
    | false =>
      simp only [List.lookup_cons, hx]
      by_cases hc : (k₀ == NameKind.free && sc.kind == .function && sc.names.lookup n == some .cell) = true
      · rw [if_pos hc] at h'
        simp only [List.lookup_cons, hx] at h'
        exact ih h'
      · rw [if_neg hc] at h'
        simp only [List.lookup_cons, hx] at h'
        exact ih h'
/-- the names of a comprehension's block: its own (with their places in N), or captured -/
structure BlkOk (N : List Str) (sc scope : Scope) (own : List (Str × Nat)) : Prop where
  kind : scope.kind = .function
  uniq : ∀ y ∈ scope.names, scope.names.lookup y.1 = some y.2
  ix : ∀ p ∈ own, N[p.2]? = some p.1
  free : ∀ y ∈ scope.names, y.2 = .free → sc.names.lookup y.1 = some .cell ∨ sc.names.lookup y.1 = some .free
  own : ∀ y ∈ scope.names, y.2 = .local ∨ y.2 = .cell → y.1 ∈ own.map (·.1) ∨ y.1 ∉ N
/-- the slots of the block's own names forgotten -/
def wipe (σ : St) : List Nat → St
  | [] => σ
  | v :: vs => (wipe σ vs).set v none
theorem wipe_length (σ : St) : ∀ vs : List Nat, (wipe σ vs).length = σ.length
  | [] => rfl
  | v :: vs => by unfold wipe; rw [List.length_set, wipe_length σ vs]
theorem wipe_some {σ : St} {i : Nat} {x : V} : ∀ {vs : List Nat}, (wipe σ vs)[i]? = some (some x) → σ[i]? = some (some x) ∧ i ∉ vs
  | [], h => ⟨h, by simp⟩
  | v :: vs, h => by
    unfold wipe at h
    by_cases hi : v = i
    · subst hi
      by_cases hv : v < (wipe σ vs).length
      · rw [List.getElem?_set_self hv] at h; cases h
      · rw [List.getElem?_eq_none (by simpa using hv)] at h; cases h
    · rw [List.getElem?_set_ne hi] at h
      obtain ⟨h1, h2⟩ := wipe_some h
      exact ⟨h1, by simp only [List.mem_cons, not_or]; exact ⟨fun e => hi e.symm, h2⟩⟩
/-- the context of a block that starts at s, its iterator's objects at fp -/
abbrev Cx.blk (X : Cx) (s : Shared) (H : Hp) (scope : Scope) (cenv : Env) (fp : List Addr) : Cx := { X with s_0 := s, H_0 := H, env := cenv, outer := X.stack, ex := fp, fn := fun x => scope.names.lookup x == some .cell, pn := [], xe := fun _ _ => False }
section
variable {X : Cx} {pins : List (Addr × Obj)} {σ : St} {H : Hp} {s : Shared}
theorem block_start {scope : Scope} {own : List (Str × Nat)} {fp : List Addr} (I : Inv X pins σ H s) (ok : BlkOk X.N X.env.scope scope own) (hN : X.N.Nodup) (hfp : ∀ b ∈ fp, FpOk X pins H b ∧ b < s.heap.objs.size) :
    Inv (X.blk s H scope (compEnvC scope (cellsFrom (s.heap.objs.size + 1) scope.names (cloFrom X.env.cells scope.names [])) s.heap.objs.size X.env) fp) [] (wipe σ (own.map (·.2))) H { s with heap := pushCells (s.heap.push { cls := .type "dict", data := .dict #[] }) scope.names } := by
  have hfree : ∀ y ∈ scope.names, y.2 = .free → ∃ c, X.env.cells.lookup y.1 = some c := fun y hy e => by
    rcases ok.free y hy e with k | k
    · exact I.ok.has _ (.inl k)
    · exact I.ok.has _ (.inr k)
  generalize hcenv : compEnvC scope (cellsFrom (s.heap.objs.size + 1) scope.names (cloFrom X.env.cells scope.names [])) s.heap.objs.size X.env = cenv
  have kp : ∀ b o, s.heap.get? b = some o → (pushCells (s.heap.push { cls := .type "dict", data := .dict #[] }) scope.names).get? b = some o := fun b o e => pushCells_keeps _ _ _ _ (Heap.get?_push_of_some _ e)
  have hL : cenv.locals = s.heap.objs.size := by rw [← hcenv]; rfl
  have hcl : cenv.cells = cellsFrom (s.heap.objs.size + 1) scope.names (cloFrom X.env.cells scope.names []) := by rw [← hcenv]; rfl
  have hsc : cenv.scope = relS scope X.env.scope := by rw [← hcenv]; rfl
  rw [← Heap.size_push s.heap { cls := .type "dict", data := .dict #[] }] at hcl
  have cm : ∀ {y c}, (y, c) ∈ cloFrom X.env.cells scope.names [] → X.env.cells.lookup y = some c ∧ c < s.heap.objs.size := fun {y c} hm => by
    rcases cloFrom_mem hm with hm | ⟨h1, rfl⟩
    · cases hm
    · obtain ⟨c, hc⟩ := hfree _ h1 rfl
      rw [hc]
      obtain ⟨w, z⟩ := I.cell _ _ hc
      exact ⟨rfl, z.lt⟩
  have mem : ∀ {y c}, cenv.cells.lookup y = some c → (X.env.cells.lookup y = some c ∧ c < s.heap.objs.size) ∨ (s.heap.objs.size + 1 ≤ c ∧ CellAt (pushCells (s.heap.push { cls := .type "dict", data := .dict #[] }) scope.names) c none) := fun {y c} e => by
    rw [hcl] at e
    rcases cells_mem (PySem.mem_of_lookup e) with hm | ⟨_, h2, h3⟩
    · exact .inl (cm hm)
    · rw [Heap.size_push] at h2; exact .inr ⟨h2, h3⟩
  have look : ∀ {y}, scope.names.lookup y = some .free → ∃ c, cenv.cells.lookup y = some c ∧ X.env.cells.lookup y = some c := fun {y} hl => by
    have hy : (y, NameKind.free) ∈ scope.names := PySem.mem_of_lookup hl
    obtain ⟨c', e'⟩ := mem_lookup (cells_acc (names := scope.names) (n := (s.heap.push { cls := .type "dict", data := .dict #[] }).objs.size) (cloFrom_has (cells := X.env.cells) (acc := []) hy))
    rw [← hcl] at e'
    refine ⟨c', e', ?_⟩
    rw [hcl] at e'
    rcases cells_mem (PySem.mem_of_lookup e') with hm | ⟨h1, _, _⟩
    · exact (cm hm).1
    · have := ok.uniq _ h1
      rw [hl] at this; cases this
  have okB : (X.blk s H scope cenv fp).Ok := by
    refine ⟨I.ok.mod, by show cenv.scope.kind = _; rw [hsc]; exact ok.kind, by show cenv.globals = _; rw [← hcenv]; exact I.ok.glob, by show cenv.builtins = _; rw [← hcenv]; exact I.ok.blt, by show s.heap.objs.size ≤ cenv.locals; rw [hL]; exact Nat.le_refl _,
      fun y z c e1 e2 => ?_, fun y hy => ?_, fun y c z e => ?_, I.ok.hd, I.ok.frames, .inl rfl, fun b hb => ⟨?_, fun y c e z => ?_⟩, I.bs, Nat.le_trans I.ok.bsz I.sz, fun b o e hb => ?_, fun b hb z => ?_, I.stack, I.stkFree⟩
    · have e1 : cenv.cells.lookup y = some c := e1
      have e2 : cenv.cells.lookup z = some c := e2
      rw [hcl] at e1 e2
      refine cells_inj (fun p hp => ?_) (fun y z c a b => I.ok.inj y z c (cm a).1 (cm b).1) (PySem.mem_of_lookup e1) (PySem.mem_of_lookup e2)
      rw [Heap.size_push]
      exact Nat.lt_succ_of_lt (cm (y := p.1) (c := p.2) hp).2
    · show ∃ c, cenv.cells.lookup y = some c
      have key : ∀ k, cenv.kindOf y = some k → (k = .cell ∨ k = .free) → ∃ c, cenv.cells.lookup y = some c := fun k hk hk' => by
        unfold Env.kindOf at hk
        rw [hsc] at hk
        obtain ⟨k', e, r⟩ := lookup_relS hk
        have : k' = .cell ∨ k' = .free := by
          rcases r with rfl | ⟨rfl, _⟩
          · exact hk'
          · exact .inr rfl
        rcases this with rfl | rfl
        · obtain ⟨c, hm⟩ := cells_has (n := (s.heap.push { cls := .type "dict", data := .dict #[] }).objs.size) (acc := cloFrom X.env.cells scope.names []) (PySem.mem_of_lookup e)
          obtain ⟨c', e'⟩ := mem_lookup hm
          exact ⟨c', by rw [hcl]; exact e'⟩
        · obtain ⟨c, h1, _⟩ := look e
          exact ⟨c, h1⟩
      rcases hy with hy | hy
      · exact key _ hy (.inl rfl)
      · exact key _ hy (.inr rfl)
    · have z : (scope.names.lookup y == some NameKind.cell) = true := z
      have z : scope.names.lookup y = some .cell := by simpa using z
      have e : cenv.cells.lookup y = some c := e
      rw [hcl] at e
      rcases cells_mem (PySem.mem_of_lookup e) with hm | ⟨_, h2, _⟩
      · rcases cloFrom_mem hm with hm | ⟨h1, _⟩
        · cases hm
        · have q := ok.uniq _ h1
          rw [z] at q; cases q
      · rw [Heap.size_push] at h2
        exact Nat.le_of_succ_le h2
    · show b ≠ cenv.locals
      rw [hL]; exact Nat.ne_of_lt (hfp b hb).2
    · have e : cenv.cells.lookup y = some c := e
      rcases mem e with ⟨h1, _⟩ | ⟨h1, _⟩
      · exact (hfp b hb).1.2.2.2.2.1 y c h1 z
      · have h2 : s.heap.objs.size + 1 ≤ b := by rw [← z]; exact h1
        exact absurd (Nat.lt_of_lt_of_le (hfp b hb).2 (Nat.le_of_succ_le h2)) (Nat.lt_irrefl _)
    · rcases (hfp b hb).1.2.2.2.1 with z | z
      · exact I.ok.noex b o e z
      · exact absurd (Nat.lt_of_lt_of_le (Heap.lt_size e) (Nat.le_trans I.ok.bsz z)) (Nat.lt_irrefl _)
    · rcases List.mem_cons.mp (I.stkSub b z) with z | z
      · exact (hfp b hb).1.2.1 z
      · exact (hfp b hb).1.2.2.1 z
  refine ⟨okB, rfl, I.bare, Un.kept kp, ⟨fun _ => none, ?_, fun i y av e1 e2 e3 => ?_⟩, fun y c e => ?_, ?_, fun y c e => ?_, fun p hp => ?_, I.hok.kept kp, by rw [wipe_length]; exact I.len⟩
  · show Heap.Ns _ cenv.locals _
    rw [hL]
    exact Heap.Ns.keeps (Heap.Ns.new ..) fun b o e => pushCells_keeps _ _ _ _ e
  · obtain ⟨e2, hne⟩ := wipe_some e2
    have hfr : scope.names.lookup y = some .free ∧ (cenv.kindOf y = some .cell ∨ cenv.kindOf y = some .free) := by
      have key : ∀ k, cenv.scope.names.lookup y = some k → k = .local ∨ k = .cell ∨ k = .free → scope.names.lookup y = some .free ∧ (cenv.kindOf y = some .cell ∨ cenv.kindOf y = some .free) := fun k hk hk' => by
        have hk0 := hk
        rw [hsc] at hk
        obtain ⟨k', e, r⟩ := lookup_relS hk
        have no : ¬ (k' = .local ∨ k' = .cell) := fun hh => by
          rcases ok.own _ (PySem.mem_of_lookup e) hh with e' | e'
          · obtain ⟨p, hp, hpy⟩ := List.mem_map.mp e'
            have e3 := ok.ix p hp
            have : p.1 = y := hpy
            rw [this] at e3
            exact hne (List.mem_map.mpr ⟨p, hp, nodup_ix hN e3 e1⟩)
          · exact e' (List.mem_of_getElem? e1)
        rcases r with rfl | ⟨rfl, rfl⟩
        · rcases hk' with rfl | rfl | rfl
          · exact absurd (.inl rfl) no
          · exact absurd (.inr rfl) no
          · exact ⟨e, .inr hk0⟩
        · exact ⟨e, .inl hk0⟩
      have e3 : Vis cenv.scope y := e3
      rcases e3 with e3 | e3 | e3
      · exact key _ e3 (.inl rfl)
      · exact key _ e3 (.inr (.inl rfl))
      · exact key _ e3 (.inr (.inr rfl))
    obtain ⟨m, hn, hl⟩ := I.loc
    have hvis : Vis X.env.scope y := (ok.free _ (PySem.mem_of_lookup hfr.1) rfl).elim (fun k => .inr (.inl k)) (fun k => .inr (.inr k))
    obtain ⟨w, r, q⟩ := hl i y av e1 e2 hvis
    refine ⟨w, r, .inr ⟨hfr.2, ?_⟩⟩
    obtain ⟨c, h1, h2⟩ := look hfr.1
    rcases q with ⟨k, _⟩ | ⟨_, c', e', z⟩
    · have k : X.env.scope.names.lookup y = some .local := k
      rcases ok.free _ (PySem.mem_of_lookup hfr.1) rfl with k' | k' <;> rw [show X.env.scope.names.lookup y = _ from k'] at k <;> cases k
    · rw [h2] at e'; cases e'
      exact ⟨c, h1, z.keeps kp⟩
  · have e : cenv.cells.lookup y = some c := e
    rcases mem e with ⟨h1, _⟩ | ⟨_, z⟩
    · obtain ⟨w, z⟩ := I.cell y c h1
      exact ⟨w, z.keeps kp⟩
    · exact ⟨_, z⟩
  · show H cenv.locals = none
    rw [hL]; exact I.hok.fresh (Nat.le_refl _)
  · have e : cenv.cells.lookup y = some c := e
    rcases mem e with ⟨h1, _⟩ | ⟨h1, _⟩
    · exact I.freeC y c h1
    · exact I.hok.fresh (Nat.le_of_succ_le h1)
  · exact absurd (show p ∈ ([] : List (Addr × Obj)) ++ [] from hp) (by simp)
/-- an item appended to a tracked list -/
theorem app_ok {E : Value → Shared → Prop} {D : Addr} {xs : List V} {y : V} {v : Value} {Q : Value → Shared → Prop} (I : Inv X pins σ H s) (hD : H D = some (.lst xs)) (hz : xs.length < sizeLine) (r : RelV y v)
    (h : ∀ s', Inv X pins σ (upd H D (.lst (xs ++ [y]))) s' → Q .none s') : wpAny (model X.prog X.w) X.A (call (.builtin "list.append") [.ref D, v]) Q E s := by
  obtain ⟨hz', its, n, ri, e⟩ := I.hok D _ hD
  have hl := ri.length
  refine append_at (hsz := by rw [List.size_toArray]; omega) e fun h' sb ho' => ?_
  refine h { s with heap := h' } (I.write (t' := s.toks) (by rw [hD]; trivial) (.inl rfl) (fun b u hb q => (sb.2 b hb).trans q) ⟨_, ho'⟩ ⟨by rw [List.length_append]; exact hz, its ++ [v], n + 1, ri.append (.cons r .nil), ?_⟩)
  rw [ho']
  simp
/-- a clause's tests -/
def PTs (X : Cx) (ifs : List Expr) (t : TT) : Prop :=
  ∀ (pins : List (Addr × Obj)) (s : Shared) (σ : St) (H : Hp) (Q : Bool → Hp → Prop), Inv X pins σ H s → t σ H Q →
    wpAny (model X.prog X.w) X.A (forIn ifs true fun c r => if r = true then do let ok ← isTrue c X.env (eval c X.env); pure (ForInStep.yield ok) else pure (ForInStep.yield r)) (TP X pins σ Q) X.xe s
def tYes : TT := fun _ H Q => Q true H
theorem pts_nil : PTs X [] tYes := fun _ _ _ H _ I h => wpAny_tests_nil ⟨H, I, h⟩
theorem pts_one {c : Expr} {t : TT} (h : PT X c t) : PTs X [c] t := fun pins s σ H Q I hw => wpAny_tests_one (h pins s σ H Q I hw)
end
theorem thnF {α : Type} {t : Sem α} {Q Q' : α → Shared → Prop} {M : Model} {A : Around} {E : Value → Shared → Prop} {s : Shared} (h : wpAny M A t Q (fun _ _ => False) s) (hQ : ∀ a s, Q a s → Q' a s) : wpAny M A t Q' E s := wpAny_mono h hQ fun _ _ z => False.elim z
/-- the loop of a list comprehension's block, the target of any form (codeAny_compLoop_tests asks a target that no tuple goes to; statement and proof follow it, PyProof/CompMap.lean:41-61, with the step letOwnedTupleGo kept) -/
theorem compLoop_any {prog : Program} {w : World} {A : Around} {R : Result → Shared → Prop} {s : Shared} {elt target iter : Expr} {ifs : List Expr} {scope : Scope} {pos : Pos} {it acc : Value} {env : Env} (I : Nat → Shared → Prop)
    (turn : ∀ n s, I n s → wpAny (model prog w) A (pyNext it) (fun r s₁ => match r with
      | none => R (.ok .next) s₁
      | some v => wpAny (model prog w) A (letOwnedTupleGo target it v) (fun _ s₁' => wpAny (model prog w) A (assign target env v) (fun _ s₂ =>
          wpAny (model prog w) A (forIn ifs true fun c r => if r = true then do let ok ← isTrue c env (eval c env); pure (ForInStep.yield ok) else pure (ForInStep.yield r)) (fun ok s₃ =>
            if ok = true then wpAny (model prog w) A (eval elt env) (fun x s₄ =>
              wpAny (model prog w) A (call (.builtin "list.append") [acc, x]) (fun _ s₅ => ∃ m, m < n ∧ I m s₅) (notedBy (model prog w) A env fun e s' => R (.error e) s') s₄) (notedBy (model prog w) A env fun e s' => R (.error e) s') s₃
            else ∃ m, m < n ∧ I m s₃) (notedBy (model prog w) A env fun e s' => R (.error e) s') s₂) (notedBy (model prog w) A env fun e s' => R (.error e) s') s₁') (notedBy (model prog w) A env fun e s' => R (.error e) s') s₁) (notedBy (model prog w) A env fun e s' => R (.error e) s') s)
    (n : Nat) (h : I n s) :
    codeAny (model prog w) A (.compLoop (.ListComp elt [⟨target, iter, ifs, 0⟩] scope pos) 0 it acc env) R s := by
  refine codeAny_loop rfl I (fun n s hI => ?_) n h
  show wpAny _ A ((compTurn (.ListComp elt [⟨target, iter, ifs, 0⟩] scope pos) 0 it acc env).onRaise (fun x => do noteFrame x env; theTreesLotGoes x)) _ _ s
  refine wpAny_noted ?_
  rw [compTurn_list]
  refine wpAny_bind (wpAny_standAt (wpAny_bind (wpAny_mono (turn n s hI) (fun r s₁ h₁ => ?_) fun _ _ h' => h')))
  cases r with
  | none => exact wpAny_pure h₁
  | some v =>
    refine wpAny_bind (wpAny_mono h₁ (fun _ s₁' h₁' => ?_) fun _ _ h' => h')
    refine wpAny_bind (wpAny_mono h₁' (fun _ s₂ h₂ => wpAny_bind (wpAny_mono h₂ (fun ok s₃ h₃ => ?_) fun _ _ h' => h')) fun _ _ h' => h')
    cases ok with
    | false => exact wpAny_pure ⟨rfl, h₃⟩
    | true =>
      exact wpAny_bind (wpAny_bind (wpAny_mono h₃ (fun x s₄ h₄ => wpAny_bind (wpAny_mono h₄ (fun _ s₅ h₅ => wpAny_pure (wpAny_pure ⟨rfl, h₅⟩)) fun _ _ h' => h')) fun _ _ h' => h'))
section
variable {X : Cx}
/-- [elt for target in iter if ..]: D the new list; W by the turn and a measure, Nx what a turn is to reach -/
def tLc (wi : TI) (g : TG) (tt : TT) (te : TE) (vs : List Nat) : TE := fun σ H Q => wi σ H fun J H1 => ∀ D, H1 D = none → ∃ W : Nat → Nat → Hp → Prop, (∃ m, W 0 m (upd H1 D (.lst []))) ∧ ∀ i m H, W i m H →
  (J.stop i H ∧ Q (.ref D) H) ∨ (J.go i H ∧ ∃ Nx : Hp → Prop, (∀ H', Nx H' → ∃ m', m' < m ∧ W (i + 1) m' H') ∧ ∀ x H', J.yld i H x H' → g x (wipe σ vs) H' fun σ2 H2 => wipe σ2 vs = wipe σ vs ∧ tt σ2 H2 fun b H3 =>
    if b = true then te σ2 H3 fun y H4 => ∃ acc, H4 D = some (.lst acc) ∧ acc.length < sizeLine ∧ Nx (upd H4 D (.lst (acc ++ [y]))) else Nx H3)
theorem lc_core {pins : List (Addr × Obj)} {s : Shared} {σ : St} {H : Hp} {Q : VK} {elt tg iter : Expr} {ifs : List Expr} {scope : Scope} {own : List (Str × Nat)} {pos pos' : Pos} {wi : TI} {g : TG} {tt : TT} {te : TE} {use : Option (Value → Sem Unit)} {Qf : Value → Shared → Prop}
    (hc : X.calm = true) (hN : X.N.Nodup) (I : Inv X pins σ H s) (hi : PI X tg iter wi) (ok : BlkOk X.N X.env.scope scope own)
    (hg : ∀ (s : Shared) (H : Hp) (C : Addr) (cl : List (Str × Addr)) (fp : List Addr), PG (X.blk s H scope (compEnvC scope cl C X.env) fp) tg g) (ht : ∀ (s : Shared) (H : Hp) (C : Addr) (cl : List (Str × Addr)) (fp : List Addr), PTs (X.blk s H scope (compEnvC scope cl C X.env) fp) ifs tt)
    (he : ∀ (s : Shared) (H : Hp) (C : Addr) (cl : List (Str × Addr)) (fp : List Addr), PE (X.blk s H scope (compEnvC scope cl C X.env) fp) elt te) (hs : ∀ x, foldedSetIterable iter X.env x = pure x)
    (h : tLc wi g tt te (own.map (·.2)) σ H Q)
    (hRR : ∀ D C s' m H', Inv X pins σ H' s' → Q (.ref D) H' → s'.heap.Ns C m → FpOk X pins H' C → compPost (model X.prog X.w) X.A X.xe use Qf (.ref D) C (.ok .next) s') :
    wpAny (model X.prog X.w) X.A (comprehension (.ListComp elt [⟨tg, iter, ifs, 0⟩] scope pos) scope X.env pos' (newList []) false (eval iter X.env) use) Qf X.xe s := by
  have hfree : ∀ y ∈ scope.names, y.2 = .free → ∃ c, X.env.cells.lookup y.1 = some c := fun y hy e => by
    rcases ok.free y hy e with k | k
    · exact I.ok.has _ (.inl k)
    · exact I.ok.has _ (.inr k)
  refine wpAny_comprehension_free (use := use) rfl hs (closure_ok hfree) ok.kind (fun y hy e => by rw [ok.uniq y hy, e])
    (thn (hi pins s σ H _ I h) fun xv s1 hx => thn hx fun itv s2 h2 => ?_)
  obtain ⟨it, fp, tn, J, H2, e, I2, T, st2, f2, q⟩ := h2
  subst e
  refine wpAny_newObj_type (newEnv_comp ?_) (by show 0 ≤ sizeLine; decide)
  generalize hD : s2.heap.objs.size = D
  have hDn : H2 D = none := I2.hok.fresh (Nat.le_of_eq hD)
  obtain ⟨W, ⟨m0, w0⟩, turn⟩ := q D hDn
  -- the new list
  generalize hs3 : ({ s2 with heap := s2.heap.push { cls := .type "list", data := .seq ([] : List Value).toArray } } : Shared) = s3
  have I3 : Inv X pins σ (upd H2 D (.lst [])) s3 := by
    rw [← hs3]
    refine I2.laid (t' := s2.toks) (fun b o e => Heap.get?_push_of_some _ e) (Nat.le_of_eq hD) ⟨Nat.zero_le _, [], 0, .nil, ?_⟩
    rw [← hD]
    exact Heap.get?_push_size _ rfl
  have h3 : s3.heap = s2.heap.push { cls := .type "list", data := .seq ([] : List Value).toArray } := by rw [← hs3]
  have sz : ∀ b ∈ fp, b < s2.heap.objs.size := fun b hb => by
    obtain ⟨o, e, _⟩ := T.obj _ _ st2 b hb
    exact Heap.lt_size e
  have f3 : ∀ b ∈ fp, FpOk X pins (upd H2 D (.lst [])) b ∧ b < s3.heap.objs.size := fun b hb => by
    have hlt := sz b hb
    refine ⟨⟨?_, (f2 b hb).2⟩, by rw [h3, Heap.size_push]; exact Nat.lt_succ_of_lt hlt⟩
    rw [upd_ne (by rw [← hD]; exact Nat.ne_of_lt hlt)]
    exact (f2 b hb).1
  have st3 : tn 0 s3.heap := T.keep _ _ _ st2 fun b _ o e => by rw [h3]; exact Heap.get?_push_of_some _ e
  have I4 := block_start I3 ok hN f3
  have pg := hg s3 (upd H2 D (.lst [])) s3.heap.objs.size (cellsFrom (s3.heap.objs.size + 1) scope.names (cloFrom X.env.cells scope.names [])) fp
  have pt := ht s3 (upd H2 D (.lst [])) s3.heap.objs.size (cellsFrom (s3.heap.objs.size + 1) scope.names (cloFrom X.env.cells scope.names [])) fp
  have pe := he s3 (upd H2 D (.lst [])) s3.heap.objs.size (cellsFrom (s3.heap.objs.size + 1) scope.names (cloFrom X.env.cells scope.names [])) fp
  show codeAny _ _ (.compStart (.ListComp elt [⟨tg, iter, ifs, 0⟩] scope pos) 0 (.ref it) (.ref D) (compEnvC scope (cellsFrom (s3.heap.objs.size + 1) scope.names (cloFrom X.env.cells scope.names [])) s3.heap.objs.size X.env)) (compPost (model X.prog X.w) X.A X.xe use Qf (.ref D) s3.heap.objs.size) { s3 with heap := pushCells (s3.heap.push { cls := .type "dict", data := .dict #[] }) scope.names }
  have nfp : ∀ b ∈ fp, (upd H2 D (.lst [])) b = none := fun b hb => (f3 b hb).1.1
  generalize hce : compEnvC scope (cellsFrom (s3.heap.objs.size + 1) scope.names (cloFrom X.env.cells scope.names [])) s3.heap.objs.size X.env = ce at I4 pg pt pe ⊢
  have cL : ce.locals = s3.heap.objs.size := by subst hce; rfl
  generalize hH3 : upd H2 D (.lst []) = H3 at I3 I4 pg pt pe w0 nfp f3
  generalize hs4 : ({ s3 with heap := pushCells (s3.heap.push { cls := .type "dict", data := .dict #[] }) scope.names } : Shared) = s4 at I4 ⊢
  have st4 : tn 0 s4.heap := T.keep _ _ _ st3 fun b _ o e => by rw [← hs4]; exact pushCells_keeps _ _ _ _ (Heap.get?_push_of_some _ e)
  have stat : ∀ {σ' : St} {H' : Hp} {s' : Shared}, Inv (X.blk s3 H3 scope ce fp) [] σ' H' s' → (∀ b ∈ fp, H' b = none) → ∀ b ∈ fp, FpOk (X.blk s3 H3 scope ce fp) [] H' b := fun {σ' H' s'} I' hn b hb =>
    ⟨hn b hb, (I'.ok.exf b hb).1, I'.ok.exfs b hb, .inl hb, fun x c e => (I'.ok.exf b hb).2 x c e, fun p hp => absurd (show p ∈ ([] : List (Addr × Obj)) ++ [] from hp) (by simp)⟩
  have loop : codeAny (model X.prog X.w) X.A (.compLoop (.ListComp elt [⟨tg, iter, ifs, 0⟩] scope pos) 0 (.ref it) (.ref D) ce) (compPost (model X.prog X.w) X.A X.xe use Qf (.ref D) s3.heap.objs.size) s4 := by
    refine compLoop_any (fun n s' => ∃ i H', Inv (X.blk s3 H3 scope ce fp) [] (wipe σ (own.map (·.2))) H' s' ∧ tn i s'.heap ∧ (∀ b ∈ fp, H' b = none) ∧ W i n H') ?_ m0 ⟨0, H3, I4, st4, nfp, w0⟩
    rintro n s5 ⟨i, H5, I5, st5, n5, w5⟩
    rcases turn i n H5 w5 with ⟨stop, qq⟩ | ⟨go, Nx, hNx, step⟩
    · have td := T.done (X.blk s3 H3 scope ce fp) rfl rfl rfl hc i [] s5 _ H5 (fun _ _ => False) I5 (stat I5 n5) st5 stop
      refine thnF td fun r s6 ⟨hr, I6⟩ => ?_
      subst hr
      -- back in the def's context
      have I7 : Inv X pins σ H5 s6 := I3.call' (ch := fp) I6.os I6.base I6.hok I6.bare fun b hb => ⟨(f3 b hb).1.2.2.2.1, (f3 b hb).1.2.1, (f3 b hb).1.2.2.2.2.1, (f3 b hb).1.2.2.2.2.2⟩
      have nC : H5 s3.heap.objs.size = none := by
        have z : H5 ce.locals = none := I6.free
        rw [cL] at z
        exact z
      obtain ⟨m, hn, _⟩ := I6.loc
      have hn : s6.heap.Ns ce.locals m := hn
      rw [cL] at hn
      exact hRR D s3.heap.objs.size s6 m H5 I7 qq hn (I3.fpOk (Nat.le_refl _) nC)
    · have ti := T.item (X.blk s3 H3 scope ce fp) rfl rfl rfl hc i [] s5 _ H5 (fun _ _ => False) I5 (stat I5 n5) st5 go
      refine thnF ti fun r s6 ⟨u, hr, h6⟩ => ?_
      subst hr
      refine thnF h6 fun _ s7 ⟨x, H7, I7, r7, y7, st7, n7⟩ => ?_
      have I7' := I7.pinned (stat I7 n7) (T.obj _ _ st7)
      refine thnF (pg _ s7 _ H7 x u _ I7' r7 (step x H7 y7)) fun _ s8 ⟨σ8, H8, I8, hw8, q8⟩ => ?_
      refine thnF (pt _ s8 σ8 H8 _ I8 q8) fun b s9 ⟨H9, I9, q9⟩ => ?_
      -- the turn's end
      have fin : ∀ {s' : Shared} {H' : Hp}, Inv (X.blk s3 H3 scope ce fp) ([] ++ pinsAt fp s7.heap) σ8 H' s' → Nx H' → ∃ m, m < n ∧ ∃ i H', Inv (X.blk s3 H3 scope ce fp) [] (wipe σ (own.map (·.2))) H' s' ∧ tn i s'.heap ∧ (∀ b ∈ fp, H' b = none) ∧ W i m H' := fun {s' H'} I' nx => by
        obtain ⟨m', hm, w'⟩ := hNx H' nx
        have pin' : ∀ b ∈ fp, ∀ o, s7.heap.get? b = some o → s'.heap.get? b = some o ∧ H' b = none := fun b hb o e =>
          let z := I'.pin (b, o) (List.mem_append_right _ (List.mem_append_right _ (mem_pinsAt hb e)))
          ⟨z.1, z.2.1⟩
        have hl : (wipe σ (own.map (·.2))).length = σ8.length := by rw [← hw8, wipe_length]
        refine ⟨m', hm, i + 1, H', (I'.unpinned (pins := [])).weak hl (fun j v e => ?_), T.keep _ _ _ st7 fun b hb o e => (pin' b hb o e).1, fun b hb => ?_, w'⟩
        · rw [← hw8] at e
          exact (wipe_some e).1
        · obtain ⟨o, e, _⟩ := T.obj _ _ st7 b hb
          exact (pin' b hb o e).2
      cases b with
      | false =>
        simp only [Bool.false_eq_true, if_false] at q9 ⊢
        exact fin I9 q9
      | true =>
        simp only [if_true] at q9 ⊢
        refine thnF (pe _ s9 σ8 H9 _ I9 q9) fun z s10 ⟨yv, H10, I10, r10, acc, hD10, hz10, nx⟩ => ?_
        exact app_ok (X := X.blk s3 H3 scope ce fp) I10 hD10 hz10 r10 fun s11 I11 => fin I11 nx
  exact codeAny_compStart_list loop (T.self X.A 0 _ _ _ st4 loop)
/-- as a value -/
theorem pe_lc {elt tg iter : Expr} {ifs : List Expr} {scope : Scope} {own : List (Str × Nat)} {pos : Pos} {wi : TI} {g : TG} {tt : TT} {te : TE} (hc : X.calm = true) (hN : X.N.Nodup) (hi : PI X tg iter wi) (ok : BlkOk X.N X.env.scope scope own)
    (hg : ∀ (s : Shared) (H : Hp) (C : Addr) (cl : List (Str × Addr)) (fp : List Addr), PG (X.blk s H scope (compEnvC scope cl C X.env) fp) tg g) (ht : ∀ (s : Shared) (H : Hp) (C : Addr) (cl : List (Str × Addr)) (fp : List Addr), PTs (X.blk s H scope (compEnvC scope cl C X.env) fp) ifs tt)
    (he : ∀ (s : Shared) (H : Hp) (C : Addr) (cl : List (Str × Addr)) (fp : List Addr), PE (X.blk s H scope (compEnvC scope cl C X.env) fp) elt te) (hs : ∀ x, foldedSetIterable iter X.env x = pure x := by intro _; rfl) :
    PE X (.ListComp elt [⟨tg, iter, ifs, 0⟩] scope pos) (tLc wi g tt te (own.map (·.2))) := by
  intro pins s σ H Q I h
  rw [eval_ListComp]
  refine lc_core hc hN I hi ok hg ht he hs h fun D C s' m H' I' q hn f => ⟨m, hn, fun h'' sb => ?_⟩
  obtain ⟨f0, f1, f2, f3, f4, f5⟩ := f
  exact ⟨.ref D, H', I'.turned (t' := s'.toks) (fun b o hb e => (sb.2 b hb).trans e) f0 f1 f3 f4 f5, rfl, q⟩
/-- name = [..] on one line, the name a local -/
theorem ps_setLc {i : Nat} {y : Str} {py : Pos} {elt tg iter : Expr} {ifs : List Expr} {scope : Scope} {own : List (Str × Nat)} {pos spos : Pos} {wi : TI} {g : TG} {tt : TT} {te : TE} (hc : X.calm = true) (hN : X.N.Nodup) (hy : X.N[i]? = some y) (hyl : X.env.scope.names.lookup y = some .local)
    (hsw : swapsWith (.ListComp elt [⟨tg, iter, ifs, 0⟩] scope pos) (some (.Name y py)) spos.line X.env = pure true) (hi : PI X tg iter wi) (ok : BlkOk X.N X.env.scope scope own)
    (hg : ∀ (s : Shared) (H : Hp) (C : Addr) (cl : List (Str × Addr)) (fp : List Addr), PG (X.blk s H scope (compEnvC scope cl C X.env) fp) tg g) (ht : ∀ (s : Shared) (H : Hp) (C : Addr) (cl : List (Str × Addr)) (fp : List Addr), PTs (X.blk s H scope (compEnvC scope cl C X.env) fp) ifs tt)
    (he : ∀ (s : Shared) (H : Hp) (C : Addr) (cl : List (Str × Addr)) (fp : List Addr), PE (X.blk s H scope (compEnvC scope cl C X.env) fp) elt te) (hs : ∀ x, foldedSetIterable iter X.env x = pure x := by intro _; rfl) :
    PS X (.Assign [.Name y py] (.ListComp elt [⟨tg, iter, ifs, 0⟩] scope pos) spos) (tAsg (tLc wi g tt te (own.map (·.2))) (gName i)) := by
  intro pins s σ H D I h
  rw [exec_Assign_Name_used _ _ _ _ hsw]
  refine wpAny_bind (wpAny_standAt (wpAny_bind ?_))
  show wpAny _ X.A (do let _ ← comprehension (.ListComp elt [⟨tg, iter, ifs, 0⟩] scope pos) scope X.env (firstIterPos [⟨tg, iter, ifs, 0⟩] pos) (newList []) false (eval iter X.env) (some (assign (.Name y py) X.env))) _ _ s
  have h : tLc wi g tt te (own.map (·.2)) σ H (fun x H1 => gName i x σ H1 D.nx) := h
  refine wpAny_bind (thn (lc_core (Qf := fun _ s' => SP X pins D .next s') hc hN I hi ok hg ht he hs h fun L C s' m H' I' q hn f => ?_) fun _ s' hq => wpAny_pure (wpAny_pure hq))
  show wpAny _ _ (assign (.Name y py) X.env (.ref L)) _ _ _
  refine wpAny_assign_Name (store_ok2 (v := V.ref L) I' hN hy (.inl hyl) rfl (fun s2 I2 ⟨a, sb, ha⟩ => ?_) (.inr hyl))
  obtain ⟨f0, f1, f2, f3, f4, f5⟩ := f
  have haC : C ≠ a := by
    rcases ha with z | z
    · rw [z]; exact f1
    · exact fun e => f4 y a z e.symm
  refine ⟨m, hn.sameBut sb haC, fun h3 sb3 => ?_⟩
  exact ⟨_, H', I2.turned (t' := s2.toks) (fun b o hb e => (sb3.2 b hb).trans e) f0 f1 f3 f4 f5, q⟩
end
/-! ### the forms one uses -/
end L2
namespace L2
open PySem PySem.Spec PyProof.Rows
section
variable {prog : Program} {w : World} {A : Around} {R : Result → Shared → Prop} {s : Shared} {elt t0 i0 t1 i1 : Expr} {ifs0 ifs1 : List Expr} {scope : Scope} {pos : Pos} {it acc : Value} {env : Env}
end
section
variable {X : Cx}
end
end L2
namespace L2
open PySem PySem.Spec PyProof.Rows
/-! ### lists of pairs as tables -/
section
variable {κ : Type} [DecidableEq κ]
def valV (kvs : List (κ × V)) (k : κ) : Option V := (kvs.find? fun kv => decide (kv.1 = k)).map (·.2)
/-- in its place, or at the end -/
def putK (kvs : List (κ × V)) (k : κ) (v : V) : List (κ × V) :=
  if (kvs.any fun kv => decide (kv.1 = k)) = true then kvs.map (fun kv => if kv.1 = k then (kv.1, v) else kv) else kvs ++ [(k, v)]
def dropK (kvs : List (κ × V)) (k : κ) : List (κ × V) := kvs.filter fun kv => decide (kv.1 ≠ k)
theorem valV_nil {k : κ} : valV ([] : List (κ × V)) k = none := rfl
theorem valV_pos {p : κ × V} {r : List (κ × V)} {k : κ} (e : p.1 = k) : valV (p :: r) k = some p.2 := by simp [valV, List.find?_cons, e]
theorem valV_neg {p : κ × V} {r : List (κ × V)} {k : κ} (e : ¬ p.1 = k) : valV (p :: r) k = valV r k := by simp [valV, List.find?_cons, e]
theorem valV_any (k : κ) : ∀ kvs : List (κ × V), (kvs.any fun kv => decide (kv.1 = k)) = (valV kvs k).isSome
  | [] => rfl
  | p :: r => by
    rw [List.any_cons]
    by_cases e : p.1 = k
    · simp only [valV_pos e, decide_eq_true e, Bool.true_or, Option.isSome_some]
    · rw [valV_neg e, decide_eq_false e, Bool.false_or]; exact valV_any k r
theorem length_putK (kvs : List (κ × V)) (k : κ) (v : V) : (putK kvs k v).length ≤ kvs.length + 1 := by
  unfold putK
  split
  · rw [List.length_map]; omega
  · rw [List.length_append, List.length_cons, List.length_nil]; omega
theorem putK_new {kvs : List (κ × V)} {k : κ} (v : V) (h : valV kvs k = none) : putK kvs k v = kvs ++ [(k, v)] := by
  unfold putK
  rw [valV_any, h]
  exact if_neg (by decide)
theorem RelO.isSome_eq {o : Option V} {u : Option Value} (r : RelO o u) : o.isSome = u.isSome := by
  cases o with
  | none => cases u with
    | none => rfl
    | some _ => exact (show False from r).elim
  | some _ => cases u with
    | none => exact (show False from r).elim
    | some _ => rfl
theorem RelO.getD {o : Option V} {u : Option Value} {d : V} {d' : Value} (r : RelO o u) (rd : RelV d d') : RelV (o.getD d) (u.getD d') := by
  cases o with
  | none => cases u with
    | none => exact rd
    | some _ => exact (show False from r).elim
  | some _ => cases u with
    | none => exact (show False from r).elim
    | some _ => exact r
/-- raw tables of the same keys -/
theorem KV.val {kvs : List (κ × V)} {vs : List (κ × Value)} (r : KV kvs vs) (k : κ) : RelO (valV kvs k) (valueAt vs k) := by
  unfold KV at r
  induction r with
  | nil => exact True.intro
  | @cons p q ps qs h t ih =>
    obtain ⟨h1, h2⟩ := h
    by_cases e : p.1 = k
    · have e' : q.1 = k := h1.symm.trans e
      have b : valueAt (q :: qs) k = some q.2 := by simp [valueAt, List.find?_cons, e']
      rw [valV_pos e, b]; exact h2
    · have e' : ¬ q.1 = k := fun z => e (h1.trans z)
      have b : valueAt (q :: qs) k = valueAt qs k := by simp [valueAt, List.find?_cons, e']
      rw [valV_neg e, b]; exact ih
theorem KV.any {kvs : List (κ × V)} {vs : List (κ × Value)} (r : KV kvs vs) (k : κ) : (kvs.any fun kv => decide (kv.1 = k)) = vs.any fun kv => decide (kv.1 = k) := by
  unfold KV at r
  induction r with
  | nil => rfl
  | cons h t ih => rw [List.any_cons, List.any_cons, ih, h.1]
theorem KV.repl {kvs : List (κ × V)} {vs : List (κ × Value)} (r : KV kvs vs) (k : κ) {y : V} {u : Value} (ry : RelV y u) :
    KV (kvs.map fun kv => if kv.1 = k then (kv.1, y) else kv) (vs.map fun kv => if kv.1 = k then (kv.1, u) else kv) := by
  unfold KV at r ⊢
  induction r with
  | nil => exact .nil
  | @cons p q ps qs h t ih =>
    rw [List.map_cons, List.map_cons]
    refine .cons ?_ ih
    obtain ⟨h1, h2⟩ := h
    by_cases e : p.1 = k
    · rw [if_pos e, if_pos (h1.symm.trans e)]; exact ⟨h1, ry⟩
    · rw [if_neg e, if_neg (fun z => e (h1.trans z))]; exact ⟨h1, h2⟩
theorem KV.put {kvs : List (κ × V)} {vs : List (κ × Value)} (r : KV kvs vs) (k : κ) {y : V} {u : Value} (ry : RelV y u) : KV (putK kvs k y) (stored vs k u) := by
  unfold putK stored
  rw [r.any k]
  by_cases e : (vs.any fun kv => decide (kv.1 = k)) = true
  · rw [if_pos e, if_pos e]; exact r.repl k ry
  · rw [if_neg e, if_neg e]; exact Paired.snoc r ⟨rfl, ry⟩
theorem KV.drop {kvs : List (κ × V)} {vs : List (κ × Value)} (r : KV kvs vs) (k : κ) : KV (dropK kvs k) (without vs k) := by
  unfold KV at r ⊢
  unfold dropK without
  induction r with
  | nil => exact .nil
  | @cons p q ps qs h t ih =>
    obtain ⟨h1, h2⟩ := h
    rw [List.filter_cons, List.filter_cons]
    by_cases e : p.1 = k
    · have a : ¬ decide (p.1 ≠ k) = true := by simp [e]
      have b : ¬ decide (q.1 ≠ k) = true := by simp [h1.symm.trans e]
      rw [if_neg a, if_neg b]; exact ih
    · have e' : ¬ q.1 = k := fun z => e (h1.trans z)
      have a : decide (p.1 ≠ k) = true := by simp [e]
      have b : decide (q.1 ≠ k) = true := by simp [e']
      rw [if_pos a, if_pos b]; exact .cons ⟨h1, h2⟩ ih
theorem KV.keys {kvs : List (κ × V)} {vs : List (κ × Value)} (r : KV kvs vs) : kvs.map (·.1) = vs.map (·.1) := by
  unfold KV at r
  induction r with
  | nil => rfl
  | cons h t ih => rw [List.map_cons, List.map_cons, ih, h.1]
theorem KV.length {kvs : List (κ × V)} {vs : List (κ × Value)} (r : KV kvs vs) : kvs.length = vs.length := Paired.length r
theorem dropK_le (kvs : List (κ × V)) (k : κ) : (dropK kvs k).length ≤ kvs.length := List.length_filter_le _ _
end
/-! ### a tracked dict, its keys ints and texts or tuples of these -/
theorem kV_is {P : Program} {w : World} {k : Key} {u : Value} (r : RelV (kV k) u) : (mixKind P w).is k u = true := by
  cases k with
  | inl i => obtain ⟨t, e⟩ := (show ∃ t, u = Value.int i t from r); subst e; exact mixKind_int P w i t
  | inr x => obtain ⟨t, e⟩ := (show ∃ t, u = Value.str x t from r); subst e; exact mixKind_str P w x t
theorem items_are {P : Program} {w : World} : ∀ {ks : List Key} {us : List Value}, Vals (ks.map kV) us → ItemsAre (mixKind P w) ks us
  | [], _, r => by rw [List.map_nil] at r; cases r; exact .nil
  | k :: ks, _, r => by
    rw [List.map_cons] at r
    cases r with
    | cons h t => exact .cons (kV_is h) (items_are t)
/-- raw entries of a dict with tuple keys -/
abbrev KT (H : Hp) : List (List Key × V) → List (List Key × Addr × Value) → Prop := Paired fun p q => p.1 = q.1 ∧ H q.2.1 = some (.tup (p.1.map kV)) ∧ RelV p.2 q.2.2
theorem KT.val {H : Hp} {kvs : List (List Key × V)} {xs : List (List Key × Addr × Value)} (r : KT H kvs xs) (k : List Key) : RelO (valV kvs k) ((atKey xs k).map (·.2)) := by
  induction r with
  | nil => exact True.intro
  | @cons p q ps qs h t ih =>
    obtain ⟨h1, _, h2⟩ := h
    by_cases e : p.1 = k
    · have e' : q.1 = k := h1.symm.trans e
      have b : atKey (q :: qs) k = some q.2 := by simp [atKey, List.find?_cons, e']
      rw [valV_pos e, b]; exact h2
    · have e' : ¬ q.1 = k := fun z => e (h1.trans z)
      have b : atKey (q :: qs) k = atKey qs k := by simp [atKey, List.find?_cons, e']
      rw [valV_neg e, b]; exact ih
theorem KT.repl {H : Hp} {kvs : List (List Key × V)} {xs : List (List Key × Addr × Value)} (r : KT H kvs xs) (k : List Key) {y : V} {u : Value} (ry : RelV y u) :
    KT H (kvs.map fun kv => if kv.1 = k then (kv.1, y) else kv) (xs.map (putAt k u)) := by
  induction r with
  | nil => exact .nil
  | @cons p q ps qs h t ih =>
    rw [List.map_cons, List.map_cons]
    refine .cons ?_ ih
    obtain ⟨h1, h2, h3⟩ := h
    unfold putAt
    by_cases e : p.1 = k
    · rw [if_pos e, if_pos (h1.symm.trans e)]; exact ⟨h1, h2, ry⟩
    · rw [if_neg e, if_neg (fun z => e (h1.trans z))]; exact ⟨h1, h2, h3⟩
theorem KT.put {H : Hp} {kvs : List (List Key × V)} {xs : List (List Key × Addr × Value)} (r : KT H kvs xs) (k : List Key) {b : Addr} {y : V} {u : Value} (hb : H b = some (.tup (k.map kV))) (ry : RelV y u) :
    KT H (putK kvs k y) (storedH xs k b u) := by
  have e : (kvs.any fun kv => decide (kv.1 = k)) = (atKey xs k).isSome := by
    rw [valV_any, (r.val k).isSome_eq, Option.isSome_map]
  unfold putK storedH
  rw [e]
  by_cases q : (atKey xs k).isSome = true
  · rw [if_pos q, if_pos q]; exact r.repl k ry
  · rw [if_neg q, if_neg q]; exact Paired.snoc r ⟨rfl, hb, ry⟩
theorem KT.keeps {H H' : Hp} {kvs : List (List Key × V)} {xs : List (List Key × Addr × Value)} (r : KT H kvs xs) (ht : ∀ b ys, H b = some (.tup ys) → H' b = some (.tup ys)) : KT H' kvs xs :=
  Paired.mapP r fun _ _ z => ⟨z.1, ht _ _ z.2.1, z.2.2⟩
section
variable {P : Program} {w : World} {H : Hp} {h : Heap} {a : Addr}
theorem rd_of {u : HO} (ok : HOk P w H h) (e : Rd H a u) : ObjOk P w H h a u := e.ok ok
theorem dk_rd {kvs : List (Key × V)} (ok : HOk P w H h) (e : Rd H a (.dK kvs)) : kvs.length ≤ sizeLine ∧ (a == sysModules) = false ∧ ∃ vs, KV kvs vs ∧ h.DictOf (mixKind P w) a vs :=
  show ObjOk P w H h a (.dK kvs) from rd_of ok e
theorem dk_of {kvs : List (Key × V)} (ok : HOk P w H h) (e : H a = some (.dK kvs)) : kvs.length ≤ sizeLine ∧ (a == sysModules) = false ∧ ∃ vs, KV kvs vs ∧ h.DictOf (mixKind P w) a vs := dk_rd ok (.inl e)
/-- a tracked tuple of ints and texts is a key -/
theorem key_of {ks : List Key} (ok : HOk P w H h) (e : H a = some (.tup (ks.map kV))) : (tupleKind (mixKind P w)).is h ks a := by
  obtain ⟨_, its, r, o, h1, h2, n, h3⟩ := (show ObjOk P w H h a (.tup (ks.map kV)) from ok a _ e)
  exact ⟨o, its.toArray, n, h1, h2, h3, by simpa using items_are r⟩
theorem dt_rd {kvs : List (List Key × V)} (ok : HOk P w H h) (e : Rd H a (.dT kvs)) : kvs.length ≤ sizeLine ∧ (a == sysModules) = false ∧
    ∃ xs, KT H kvs xs ∧ h.DictOfH (tupleKind (mixKind P w)) a xs := by
  obtain ⟨z, y, xs, r, o, es, ep, h1, h2, h3, h4, h5⟩ := (show ObjOk P w H h a (.dT kvs) from rd_of ok e)
  refine ⟨z, y, xs, r, o, es, ep, h1, h2, h3, h4, fun x hx => ?_, h5⟩
  have all : ∀ {l : List (List Key × V)} {m : List (List Key × Addr × Value)}, KT H l m → ∀ x ∈ m, (tupleKind (mixKind P w)).is h x.1 x.2.1 := by
    intro l m q
    induction q with
    | nil => intro x hx; exact nomatch hx
    | @cons p q ps qs hq t ih =>
      intro x hx
      rcases List.mem_cons.mp hx with e | hx
      · subst e
        exact key_of ok (by rw [← hq.1]; exact hq.2.1)
      · exact ih x hx
  exact all r x hx
theorem dt_of {kvs : List (List Key × V)} (ok : HOk P w H h) (e : H a = some (.dT kvs)) : kvs.length ≤ sizeLine ∧ (a == sysModules) = false ∧
    ∃ xs, KT H kvs xs ∧ h.DictOfH (tupleKind (mixKind P w)) a xs := dt_rd ok (.inl e)
end
/-- what the dict at a holds at the key y -/
def DGet (H : Hp) (a : Addr) (y : V) (r : Option V) : Prop :=
  (∃ kvs k, Rd H a (.dK kvs) ∧ y = kV k ∧ r = valV kvs k) ∨ ∃ kvs k b, Rd H a (.dT kvs) ∧ y = .ref b ∧ H b = some (.tup (k.map kV)) ∧ r = valV kvs k
/-- the heap behind a[y] = v -/
def DPut (H : Hp) (a : Addr) (y v : V) (H' : Hp) : Prop :=
  (∃ kvs k, H a = some (.dK kvs) ∧ y = kV k ∧ kvs.length < sizeLine ∧ H' = upd H a (.dK (putK kvs k v))) ∨
  ∃ kvs k b, H a = some (.dT kvs) ∧ y = .ref b ∧ H b = some (.tup (k.map kV)) ∧ kvs.length < sizeLine ∧ H' = upd H a (.dT (putK kvs k v))
theorem DGet.k {H : Hp} {a : Addr} {kvs : List (Key × V)} {k : Key} (e : H a = some (.dK kvs)) : DGet H a (kV k) (valV kvs k) := .inl ⟨kvs, k, .inl e, rfl, rfl⟩
theorem DPut.k {H : Hp} {a : Addr} {kvs : List (Key × V)} {k : Key} {v : V} (e : H a = some (.dK kvs)) (hl : kvs.length < sizeLine) : DPut H a (kV k) v (upd H a (.dK (putK kvs k v))) := .inl ⟨kvs, k, e, rfl, hl, rfl⟩
section
variable {X : Cx} {pins : List (Addr × Obj)} {σ : St} {H : Hp} {s : Shared} {a : Addr} {y v : V} {u r : Value} {o : Option V} {A : Around} {E : Value → Shared → Prop}
theorem Inv.big (I : Inv X pins σ H s) : sysModules < s.heap.objs.size := by
  have h : mainGlobals < s.heap.objs.size := (I.mod.glob.keeps I.bk).lt
  exact Nat.lt_trans (by decide) h
/-- d[y], there -/
theorem d_getItem {Q : Value → Shared → Prop} (hu : A.units + 1 < cLine) (I : Inv X pins σ H s) (g : DGet H a y (some v)) (ry : RelV y u) (h : ∀ w' s', Inv X pins σ H s' → RelV v w' → Q w' s') :
    wpAny (model X.prog X.w) A (getItem (.ref a) u) Q E s := by
  rcases g with ⟨kvs, k, e, ey, l⟩ | ⟨kvs, k, b, e, ey, eb, l⟩
  · subst ey
    obtain ⟨z, hd, vs, rel, dd⟩ := dk_rd I.hok e
    obtain ⟨w', hw, rw'⟩ := RelO.some_of (v := v) (o := valueAt vs k) (by rw [l]; exact rel.val k)
    exact wpAny_getItem_of (kV_is ry) dd.mapOf hw (h w' _ (I.tok _) rw')
  · subst ey
    cases (show u = Value.ref b from ry)
    obtain ⟨z, hd, xs, rel, dd⟩ := dt_rd I.hok e
    obtain ⟨w', hw, rw'⟩ := RelO.some_of (v := v) (o := (atKey xs k).map (·.2)) (by rw [l]; exact rel.val k)
    obtain ⟨p, hp, hp2⟩ := Option.map_eq_some_iff.mp hw
    refine wpAny_getItem_heap (tupleKind_room_in1 hu) (key_of I.hok eb) dd hp ?_
    rw [hp2]
    exact h w' _ (I.tok _) rw'
/-- y in d -/
theorem d_in {Q : Value → Shared → Prop} (hu : A.units + 1 < cLine) (I : Inv X pins σ H s) (g : DGet H a y o) (ry : RelV y u) (h : ∀ s', Inv X pins σ H s' → Q (.bool o.isSome) s') :
    wpAny (model X.prog X.w) A (compareOp .In u (.ref a)) Q E s := by
  rcases g with ⟨kvs, k, e, ey, l⟩ | ⟨kvs, k, b, e, ey, eb, l⟩
  · subst ey
    obtain ⟨z, hd, vs, rel, dd⟩ := dk_rd I.hok e
    refine wpAny_in_of (kV_is ry) hd dd.mapOf ?_
    rw [← (rel.val k).isSome_eq, ← l]
    exact h _ (I.tok _)
  · subst ey
    cases (show u = Value.ref b from ry)
    obtain ⟨z, hd, xs, rel, dd⟩ := dt_rd I.hok e
    refine wpAny_in_heap (tupleKind_room_in1 hu) (key_of I.hok eb) hd dd ?_
    have q := (rel.val k).isSome_eq
    rw [Option.isSome_map] at q
    rw [← q, ← l]
    exact h _ (I.tok _)
theorem d_notIn {Q : Value → Shared → Prop} (hu : A.units + 1 < cLine) (I : Inv X pins σ H s) (g : DGet H a y o) (ry : RelV y u) (h : ∀ s', Inv X pins σ H s' → Q (.bool (!o.isSome)) s') :
    wpAny (model X.prog X.w) A (compareOp .NotIn u (.ref a)) Q E s := by
  rcases g with ⟨kvs, k, e, ey, l⟩ | ⟨kvs, k, b, e, ey, eb, l⟩
  · subst ey
    obtain ⟨z, hd, vs, rel, dd⟩ := dk_rd I.hok e
    refine wpAny_notIn_of (kV_is ry) hd dd.mapOf ?_
    rw [← (rel.val k).isSome_eq, ← l]
    exact h _ (I.tok _)
  · subst ey
    cases (show u = Value.ref b from ry)
    obtain ⟨z, hd, xs, rel, dd⟩ := dt_rd I.hok e
    refine wpAny_notIn_heap (tupleKind_room_in1 hu) (key_of I.hok eb) hd dd ?_
    have q := (rel.val k).isSome_eq
    rw [Option.isSome_map] at q
    rw [← q, ← l]
    exact h _ (I.tok _)
/-- a dict's object is replaced -/
theorem d_write {h' : Heap} {t' : Nat} {ob : HO} (I : Inv X pins σ H s) (mu : Mut (H a)) (hs : Heap.SameBut a s.heap h') (he : ∃ q, h'.get? a = some q) (new : ObjOk X.prog X.w (upd H a ob) h' a ob) :
    Inv X pins σ (upd H a ob) { s with heap := h', toks := t' } :=
  I.write (x := a) (e := a) mu (.inl rfl) (fun b q hb z => (hs.2 b hb).trans z) he new
theorem dk_new {P : Program} {w : World} {H' : Hp} {h' : Heap} {kvs : List (Key × V)} {vs : List (Key × Value)} (z : kvs.length ≤ sizeLine) (hd : (a == sysModules) = false) (rel : KV kvs vs) (dd : h'.DictOf (mixKind P w) a vs) :
    ObjOk P w H' h' a (.dK kvs) := ⟨z, hd, vs, rel, dd⟩
/-- d[y] = v -/
theorem d_setItem {H' : Hp} {Q : Unit → Shared → Prop} (hu : A.units + 1 < cLine) (I : Inv X pins σ H s) (g : DPut H a y v H') (ry : RelV y u) (rv : RelV v r) (h : ∀ s', Inv X pins σ H' s' → Q () s') :
    wpAny (model X.prog X.w) A (setItem (.ref a) u r) Q E s := by
  rcases g with ⟨kvs, k, e, ey, l, eH⟩ | ⟨kvs, k, b, e, ey, eb, l, eH⟩
  · subst ey eH
    obtain ⟨z, hd, vs, rel, dd⟩ := dk_of I.hok e
    have hz : vs.length ≤ sizeLine := by rw [← rel.length]; exact z
    have hl : (putK kvs k v).length ≤ sizeLine := by have := length_putK kvs k v; omega
    refine wpAny_setItem_pairs (hsz := hz) (kV_is ry) dd fun h' dd' hs => h _ ?_
    have he : ∃ q, h'.get? a = some q := let ⟨q, _, _, hq, _⟩ := dd'; ⟨q, hq⟩
    exact d_write I (by rw [e]; exact True.intro) hs he (dk_new hl hd (rel.put k rv) dd')
  · subst ey eH
    cases (show u = Value.ref b from ry)
    obtain ⟨z, hd, xs, rel, dd⟩ := dt_of I.hok e
    have hz : xs.length ≤ sizeLine := by rw [← Paired.length rel]; exact z
    have hl : (putK kvs k v).length ≤ sizeLine := by have := length_putK kvs k v; omega
    refine wpAny_setItem_heap (hsz := hz) (tupleKind_room_in1 hu) (key_of I.hok eb) dd fun h' dd' hs => h _ ?_
    obtain ⟨q, es, ep, hq, h2, h3, h4, _, h5⟩ := dd'
    refine d_write I (by rw [e]; exact True.intro) hs ⟨q, hq⟩ ⟨hl, hd, _, (rel.put k eb rv).keeps fun c ys ec => ?_, q, es, ep, hq, h2, h3, h4, h5⟩
    rw [upd_ne (ne_of ec e (fun z => nomatch z))]
    exact ec
end
section
variable {X : Cx} {pins : List (Addr × Obj)} {σ : St} {H : Hp} {s : Shared} {a : Addr} {kvs : List (Key × V)} {k : Key} {u : Value} {A : Around} {E : Value → Shared → Prop}
/-- d.pop(k[, x]), there -/
theorem d_pop {v : V} {more : List Value} {Q : Value → Shared → Prop} (I : Inv X pins σ H s) (e : H a = some (.dK kvs)) (ry : RelV (kV k) u) (l : valV kvs k = some v) (hm : more = [] ∨ ∃ x, more = [x])
    (h : ∀ w' s', Inv X pins σ (upd H a (.dK (dropK kvs k))) s' → RelV v w' → Q w' s') : wpAny (model X.prog X.w) A (call (.builtin "dict.pop") (.ref a :: u :: more)) Q E s := by
  obtain ⟨z, hd, vs, rel, dd⟩ := dk_of I.hok e
  obtain ⟨w', hw, rw'⟩ := RelO.some_of (v := v) (o := valueAt vs k) (by rw [← l]; exact rel.val k)
  have hp : (keyPart u).isSome = true := by
    cases k with
    | inl i => obtain ⟨t, q⟩ := (show ∃ t, u = Value.int i t from ry); subst q; rfl
    | inr x => obtain ⟨t, q⟩ := (show ∃ t, u = Value.str x t from ry); subst q; rfl
  have ha : argsOk "dict.pop" ⟨.ref a :: u :: more, []⟩ := by
    rcases hm with q | ⟨x, q⟩
    · subst q; exact PySem.F.args_dict_pop_2 _ _
    · subst q; exact PySem.F.args_dict_pop_3 _ _ _
  refine call_meetsIn PySem.F.slot_dict_pop dd.typeIs PySem.F.entry_dict_pop ha (meets_dict_pop_there (mixKind X.prog X.w) a (kV_is ry) more hm hp)
    ⟨vs, w', dd, by rw [← rel.length]; exact z, hw, fun h' dd' hs => h w' _ ?_ rw'⟩
  have he : ∃ q, h'.get? a = some q := let ⟨q, _, _, hq, _⟩ := dd'; ⟨q, hq⟩
  exact d_write I (by rw [e]; exact True.intro) hs he (dk_new (Nat.le_trans (dropK_le kvs k) z) hd (rel.drop k) dd')
/-- len(d) -/
theorem d_len {Q : Value → Shared → Prop} (I : Inv X pins σ H s) (e : Rd H a (.dK kvs)) (h : ∀ t s', Inv X pins σ H s' → Q (.int kvs.length t) s') : wpAny (model X.prog X.w) A (call (.builtin "len") [.ref a]) Q E s := by
  obtain ⟨z, hd, vs, rel, dd⟩ := dk_rd I.hok e
  refine call_len_dict hd dd (by rw [← rel.length]; rw [sizeLine_eq] at z; omega) ?_
  rw [← rel.length]
  exact h _ _ (I.tok _)
end
/-! ### readings and rules -/
/-- the element of a subscription, not a slice -/
def NoSl (i : Expr) : Prop := ∀ ov iv, subscripted i false ov iv = operate [ov, iv] (getItem ov iv)
theorem subD_of {prog : Program} {w : World} {A : Around} {E : Value → Shared → Prop} {s : Shared} {env : Env} {value slice : Expr} {pos : Pos} {T id : String} {Q : Value → Shared → Prop}
    (hl : typeLookup (.type T) "__getitem__" = pure (some (.builtin id))) (hs : NoSl slice)
    (h : wpAny (model prog w) A (eval value env) (fun o s₁ => wpAny (model prog w) A (eval slice env) (fun i s₂ => s₂.TypeIs o T ∧ wpAny (model prog w) A (getItem o i) Q E s₂) E s₁) E s) :
    wpAny (model prog w) A (eval (.Subscript value slice pos) env) Q E s := by
  refine Subscript_ (wpAny_mono h (fun o s₁ h₁ => wpAny_mono h₁ (fun i s₂ h₂ => ?_) fun _ _ x => x) fun _ _ x => x)
  obtain ⟨hT, h₂⟩ := h₂
  unfold subscriptTail
  refine wpAny_bind ?_
  rw [getitemInPython_of_ne hT.not_modules]
  refine wpAny_bind (wpAny_specialOf hT hl ?_)
  have fin : wpAny (model prog w) A (subscripted slice false o i) (fun r s₃ => wpAny (model prog w) A (letTemporaryGo value o r >>= fun _ => pure r) Q E s₃) E s₂ := by
    rw [hs o i]
    exact wpAny_operating (wpAny_mono h₂ (fun r s₃ h₃ => wpAny_bind (wpAny_letTemporaryGo (wpAny_pure h₃))) fun _ _ x => x)
  first
    | exact wpAny_pure (wpAny_bind fin)
    | exact wpAny_bind (wpAny_pure (wpAny_bind fin))
    | exact wpAny_bind fin
theorem dict_typeIs {X : Cx} {pins : List (Addr × Obj)} {σ : St} {H : Hp} {s : Shared} {a : Addr} {y : V} {o : Option V} (I : Inv X pins σ H s) (g : DGet H a y o) : s.TypeIs (.ref a) "dict" := by
  rcases g with ⟨kvs, k, e, _, _⟩ | ⟨kvs, k, b, e, _, _, _⟩
  · obtain ⟨_, _, vs, _, dd⟩ := dk_rd I.hok e
    exact dd.typeIs
  · obtain ⟨_, _, xs, _, dd⟩ := dt_rd I.hok e
    exact dd.typeIs
/-- d[y] -/
def tDGet (td ty : TE) : TE := fun σ H Q => td σ H fun x H1 => ty σ H1 fun y H2 => ∃ a v, x = .ref a ∧ DGet H2 a y (some v) ∧ Q v H2
/-- y in d, y not in d -/
def tDIn (ty td : TE) : TE := fun σ H Q => ty σ H fun y H1 => td σ H1 fun x H2 => ∃ a o, x = .ref a ∧ DGet H2 a y o ∧ Q (.bl o.isSome) H2
def tDNotIn (ty td : TE) : TE := fun σ H Q => ty σ H fun y H1 => td σ H1 fun x H2 => ∃ a o, x = .ref a ∧ DGet H2 a y o ∧ Q (.bl (!o.isSome)) H2
/-- d[y] = v -/
def sDPut (td ty tv : TE) : TS := fun D σ H => tv σ H fun v H1 => td σ H1 fun x H2 => ty σ H2 fun y H3 => ∃ a H4, x = .ref a ∧ DPut H3 a y v H4 ∧ D.nx σ H4
section
variable {X : Cx} {o i e value : Expr} {pos pos' tpos : Pos} {td ty tv : TE}
theorem pe_dget (hu : X.A.units + 1 < cLine) (ho : PE X o td) (hi : PE X i ty) (hs : NoSl i) : PE X (.Subscript o i pos) (tDGet td ty) := by
  intro pins s σ H Q I h
  refine subD_of PySem.F.slot_dict_getitem.lookup hs (thn (ho pins s σ H _ I h) fun u s1 ⟨x, H1, I1, rx, q1⟩ => thn (hi pins s1 σ H1 _ I1 q1) fun iv s2 ⟨y, H2, I2, ry, a, v, ex, g, q2⟩ => ?_)
  subst ex
  obtain rfl : u = Value.ref a := rx
  exact ⟨dict_typeIs I2 g, d_getItem hu I2 g ry fun w' s3 I3 rw' => ⟨v, H2, I3, rw', q2⟩⟩
theorem pc_din (hu : X.A.units + 1 < cLine) (hi : PE X i ty) (ho : PE X o td) : PC X .In i o (tDIn ty td) := by
  intro pins s σ H Q I h
  refine thn (hi pins s σ H _ I h) fun iv s1 ⟨y, H1, I1, ry, q1⟩ => thn (ho pins s1 σ H1 _ I1 q1) fun u s2 ⟨x, H2, I2, rx, a, ov, ex, g, q2⟩ => ?_
  subst ex
  obtain rfl : u = Value.ref a := rx
  exact d_in hu I2 g ry fun s3 I3 => ⟨.bl ov.isSome, H2, I3, rfl, q2⟩
theorem pc_dnotin (hu : X.A.units + 1 < cLine) (hi : PE X i ty) (ho : PE X o td) : PC X .NotIn i o (tDNotIn ty td) := by
  intro pins s σ H Q I h
  refine thn (hi pins s σ H _ I h) fun iv s1 ⟨y, H1, I1, ry, q1⟩ => thn (ho pins s1 σ H1 _ I1 q1) fun u s2 ⟨x, H2, I2, rx, a, ov, ex, g, q2⟩ => ?_
  subst ex
  obtain rfl : u = Value.ref a := rx
  exact d_notIn hu I2 g ry fun s3 I3 => ⟨.bl (!ov.isSome), H2, I3, rfl, q2⟩
theorem ps_dput (hu : X.A.units + 1 < cLine) (ho : PE X o td) (hi : PE X i ty) (hv : PE X value tv) (hs : swapsWith value (some (.Subscript o i pos')) pos.line X.env = pure false) :
    PS X (.Assign [.Subscript o i pos'] value pos) (sDPut td ty tv) := by
  intro pins s σ H D I h
  refine wpAny_Assign_Subscript (thn (hv pins s σ H _ I h) fun r s1 ⟨v, H1, I1, rv, q1⟩ => thn (ho pins s1 σ H1 _ I1 q1) fun u s2 ⟨x, H2, I2, rx, q2⟩ => thn (hi pins s2 σ H2 _ I2 q2) fun iv s3 ⟨y, H3, I3, ry, a, H4, ex, g, q3⟩ => ?_) hs
  subst ex
  obtain rfl : u = Value.ref a := rx
  exact d_setItem hu I3 g ry rv fun s4 I4 => ⟨σ, H4, I4, q3⟩
end
/-! ### displays -/
theorem dk_empty {P : Program} {w : World} {H : Hp} (h : Heap) (hb : sysModules < h.objs.size) : ObjOk P w H (h.push { cls := .type "dict", data := .dict #[] }) h.objs.size (.dK []) :=
  ⟨Nat.zero_le _, beq_eq_false_iff_ne.mpr (Ne.symm (Nat.ne_of_lt hb)), [], .nil, Heap.DictOf.new h⟩
/-- {}, to be a dict of the kind that is wanted -/
def tDNewK : TE := fun _ H Q => ∀ p, H p = none → Q (.ref p) (upd H p (.dK []))
section
variable {X : Cx} {pos : Pos}
theorem pe_dnewK : PE X (.Dict [] [] pos) tDNewK := fun pins s σ H Q I h =>
  wpAny_Dict_empty ⟨.ref s.heap.objs.size, _, I.laid (a := s.heap.objs.size) (o := .dK []) (t' := s.toks) (fun _ _ q => Heap.get?_push_of_some _ q) (Nat.le_refl _) (dk_empty s.heap I.big), rfl, h _ (I.hok.fresh (Nat.le_refl _))⟩
end
/-! ### methods -/
/-- a method call o.m(e) of a built-in, with one argument: what must be seen of the text -/
structure M1 (X : Cx) (o : Expr) (m : Str) (apos : Pos) (e : Expr) (cpos : Pos) : Prop where
  base : attributeBase o m X.env (eval o X.env) = eval o X.env
  few : ((backTo cpos (starEach [e] X.env)).all (fun x => !x.1) && (backToKw cpos (keywordEach [] X.env)).all (fun x => x.1.isSome)
    && decide (([e] : List Expr).length + ([] : List Keyword).length + (if ([] : List Keyword).isEmpty then 0 else 1) < 30)) = true
  line : (apos.endLine == cpos.line) = true
  trees : backTo cpos (starEach [e] X.env) = [(false, eval e X.env)]
/-- a is a dict, whatever its keys -/
def IsD (H : Hp) (a : Addr) : Prop := (∃ kvs, Rd H a (.dK kvs)) ∨ ∃ kvs, Rd H a (.dT kvs)
theorem isD_at {X : Cx} {pins : List (Addr × Obj)} {σ : St} {H : Hp} {s : Shared} {a : Addr} (I : Inv X pins σ H s) (d : IsD H a) :
    s.TypeIs (.ref a) "dict" ∧ (∀ b, Value.ref a = .ref b → ∃ ob, s.heap.get? b = some ob ∧ ob.dict = none) ∧ (a == sysModules) = false := by
  rcases d with ⟨kvs, e⟩ | ⟨kvs, e⟩
  · obtain ⟨_, hd, vs, _, dd⟩ := dk_rd I.hok e
    refine ⟨dd.typeIs, fun b q => ?_, hd⟩
    cases q
    obtain ⟨ob, _, _, h1, h2, _⟩ := dd
    exact ⟨ob, h1, h2.2.1⟩
  · obtain ⟨_, hd, xs, _, dd⟩ := dt_rd I.hok e
    refine ⟨dd.typeIs, fun b q => ?_, hd⟩
    cases q
    obtain ⟨ob, _, _, h1, h2, _⟩ := dd
    exact ⟨ob, h1, h2.2.1⟩
section
variable {X : Cx} {pins : List (Addr × Obj)} {σ : St} {H : Hp} {s : Shared} {a : Addr} {y d : V} {u r : Value} {o : Option V} {A : Around} {E : Value → Shared → Prop}
/-- d.get(y) -/
theorem d_get1 {Q : Value → Shared → Prop} (hu : A.units + 1 < cLine) (I : Inv X pins σ H s) (g : DGet H a y o) (ry : RelV y u) (h : ∀ w' s', Inv X pins σ H s' → RelV (o.getD .non) w' → Q w' s') :
    wpAny (model X.prog X.w) A (call (.builtin "dict.get") [.ref a, u]) Q E s := by
  rcases g with ⟨kvs, k, e, ey, l⟩ | ⟨kvs, k, b, e, ey, eb, l⟩
  · subst ey
    obtain ⟨z, hd, vs, rel, dd⟩ := dk_rd I.hok e
    refine call_meetsIn PySem.F.slot_dict_get dd.typeIs PySem.F.entry_dict_get (PySem.F.args_dict_get_2 _ _) (meets_dict_get (mixKind X.prog X.w) a (kV_is ry) hd) ⟨_, dd.mapOf, h _ _ (I.tok _) ?_⟩
    rw [l]
    exact (rel.val k).getD rfl
  · subst ey
    cases (show u = Value.ref b from ry)
    obtain ⟨z, hd, xs, rel, dd⟩ := dt_rd I.hok e
    refine call_meetsIn PySem.F.slot_dict_get dd.typeIs PySem.F.entry_dict_get (PySem.F.args_dict_get_2 _ _) (meetsH_dict_get (tupleKind (mixKind X.prog X.w)) a b hd) ⟨tupleKind_room_in1 hu, k, xs, key_of I.hok eb, dd, h _ _ (I.tok _) ?_⟩
    rw [l]
    exact (rel.val k).getD rfl
end
def tDGet1 (td ty : TE) : TE := fun σ H Q => td σ H fun x H1 => ∃ a, x = .ref a ∧ IsD H1 a ∧ ty σ H1 fun y H2 => ∃ o, DGet H2 a y o ∧ Q (o.getD .non) H2
/-- d.pop(k): there; d.pop(k, x): there or not -/
def tDPop1 (td ty : TE) : TE := fun σ H Q => td σ H fun x H1 => ∃ a, x = .ref a ∧ IsD H1 a ∧ ty σ H1 fun y H2 => ∃ kvs k v, H2 a = some (.dK kvs) ∧ y = kV k ∧ valV kvs k = some v ∧ Q v (upd H2 a (.dK (dropK kvs k)))
section
variable {X : Cx} {o e f : Expr} {apos cpos : Pos} {td ty tx : TE}
theorem pe_dget1 (hu : X.A.units + 1 < cLine) (ho : PE X o td) (he : PE X e ty) (m : M1 X o "get" apos e cpos) : PE X (.Call (.Attribute o "get" apos) [e] [] cpos) (tDGet1 td ty) := by
  intro pins s σ H Q I h
  refine wpAny_Call_method m.base m.few m.line PySem.F.plainAttrs_dict PySem.F.slot_dict_get PySem.F.type_dict_get (thn (ho pins s σ H _ I h) fun u s1 ⟨x, H1, I1, rx, a, ex, d, q1⟩ => ?_)
  subst ex
  obtain rfl : u = Value.ref a := rx
  obtain ⟨t1, t2, _⟩ := isD_at I1 d
  refine ⟨t1, t2, ?_⟩
  rw [m.trees]
  refine Calls.callWith_builtin rfl (Calls.evalArgs_plain (Calls.spliced_cons (thn (he pins s1 σ H1 _ I1 q1) fun iv s2 ⟨y, H2, I2, ry, ov, g, q2⟩ => Calls.spliced_nil ?_)))
  exact d_get1 hu I2 g ry fun w' s3 I3 rw' => ⟨_, H2, I3, rw', q2⟩
theorem pe_dpop1 (ho : PE X o td) (he : PE X e ty) (m : M1 X o "pop" apos e cpos) : PE X (.Call (.Attribute o "pop" apos) [e] [] cpos) (tDPop1 td ty) := by
  intro pins s σ H Q I h
  refine wpAny_Call_method m.base m.few m.line PySem.F.plainAttrs_dict PySem.F.slot_dict_pop PySem.F.type_dict_pop (thn (ho pins s σ H _ I h) fun u s1 ⟨x, H1, I1, rx, a, ex, d, q1⟩ => ?_)
  subst ex
  obtain rfl : u = Value.ref a := rx
  obtain ⟨t1, t2, _⟩ := isD_at I1 d
  refine ⟨t1, t2, ?_⟩
  rw [m.trees]
  refine Calls.callWith_builtin rfl (Calls.evalArgs_plain (Calls.spliced_cons (thn (he pins s1 σ H1 _ I1 q1) fun iv s2 ⟨y, H2, I2, ry, kvs, k, v, ea, ey, l, q2⟩ => Calls.spliced_nil ?_)))
  subst ey
  exact d_pop I2 ea ry l (.inl rfl) fun w' s3 I3 rw' => ⟨v, _, I3, rw', q2⟩
end
/-! ### dict(d): a copy -/
section
variable {X : Cx} {pins : List (Addr × Obj)} {σ : St} {H : Hp} {s : Shared} {a : Addr} {kvs : List (Key × V)} {A : Around} {E : Value → Shared → Prop}
end
section
variable {X : Cx} {pins : List (Addr × Obj)} {σ : St} {H : Hp} {s : Shared} {a : Addr} {y : V} {u : Value} {A : Around} {E : Value → Shared → Prop}
end
end L2
namespace L2
open PySem PySem.Spec PyProof.Rows
section
variable {prog : Program} {w : World} {A : Around} {E : Value → Shared → Prop}
end
section
variable {X : Cx}
end
end L2
namespace L2
open PySem PySem.Spec PyProof.Rows
section
variable {X : Cx} {pins : List (Addr × Obj)} {σ : St} {H : Hp} {s : Shared} {h' : Heap}
/-! ### locking a thing while a statement runs -/
theorem Inv.lock {d : Addr} {u : HO} (I : Inv X pins σ H s) (h : H d = some u) (mu : Mut (some u)) : ∃ od, Inv X pins σ (upd H d (.frz od u)) s := by
  have x := I.hok d u h
  have ex : ∃ od, s.heap.get? d = some od := by
    cases u with
    | lst xs => obtain ⟨_, _, _, _, e⟩ := x; exact ⟨_, e⟩
    | dK kvs => obtain ⟨_, _, _, _, o, _, _, e, _⟩ := x; exact ⟨o, e⟩
    | dT kvs => obtain ⟨_, _, _, _, o, _, _, e, _⟩ := x; exact ⟨o, e⟩
    | set S n => obtain ⟨o, _, _, _, e, _⟩ := x; exact ⟨o, e⟩
    | ins C dx fs => obtain ⟨_, _, _, e, _⟩ := x; exact ⟨_, e⟩
    | ext φ => obtain ⟨_, ⟨_, e⟩, _⟩ := x; exact ⟨_, e⟩
    | _ => exact False.elim mu
  obtain ⟨od, e⟩ := ex
  have new : ObjOk X.prog X.w (upd H d (.frz od u)) s.heap d (.frz od u) := by
    refine ⟨e, x.stay (fun b v _ q => q) (fun b q => ?_) fun b xs q => ?_⟩
    · rw [upd_ne (fun z => by rw [z, h] at q; cases q; exact mu)]; exact q
    · rw [upd_ne (fun z => by rw [z, h] at q; cases q; exact mu)]; exact q
  exact ⟨od, I.write (x := d) (e := d) (t' := s.toks) (h' := s.heap) (by rw [h]; exact mu) (.inl rfl) (fun b v _ q => q) ⟨od, e⟩ new⟩
theorem Inv.nofrz {d : Addr} {u : HO} (I : Inv X pins σ H s) (h : H d = some u) (mu : Mut (some u)) : ∀ o' u', X.H_0 d ≠ some (.frz o' u') := fun o' u' e => by
  have q := I.base.frzs d o' u' e
  rw [h] at q
  cases q
  exact mu
theorem Inv.unlock {d : Addr} {od : Obj} {u : HO} (I : Inv X pins σ H s) (h : H d = some (.frz od u)) (hn : ∀ o' u', X.H_0 d ≠ some (.frz o' u')) : Inv X pins σ (upd H d u) s := by
  have neH : ∀ b o, H b = some o → (∀ o' u', o ≠ .frz o' u') → b ≠ d := fun b o e hne z => by
    rw [z, h] at e
    cases e
    exact hne _ _ rfl
  have neN : ∀ b, H b = none → b ≠ d := fun b e z => by rw [z, h] at e; cases e
  refine ⟨I.ok, I.os, I.bare, ⟨I.base.keep, I.base.slot, fun b o e n hx => ?_, I.base.there, fun b xs e => ?_, fun b o x e => ?_, fun b ps e => ?_⟩, I.loc, I.cell, ?_, fun x c e => ?_, fun p hp => ?_, fun b o e => ?_, I.len⟩
  · rw [upd_ne (neN b (I.base.free b o e n hx))]; exact I.base.free b o e n hx
  · have q := I.base.tups b xs e
    rw [upd_ne (neH b _ q (fun _ _ z => nomatch z))]; exact q
  · have q := I.base.frzs b o x e
    rw [upd_ne (fun z => by rw [z] at e; exact hn _ _ e)]; exact q
  · obtain ⟨m, q⟩ := I.base.tbls b ps e
    exact ⟨m, by rw [upd_ne (neH b _ q (fun _ _ z => nomatch z))]; exact q⟩
  · rw [upd_ne (neN _ I.free)]; exact I.free
  · rw [upd_ne (neN c (I.freeC x c e))]; exact I.freeC x c e
  · obtain ⟨e, n, r⟩ := I.pin p hp
    exact ⟨e, by rw [upd_ne (neN _ n)]; exact n, r⟩
  · by_cases hb : b = d
    · rw [hb, upd_same] at e
      cases e
      rw [hb]
      obtain ⟨_, x⟩ := I.hok d _ h
      exact x.stay (fun c v _ q => q) (fun c q => by rw [upd_ne (neH c _ q (fun _ _ z => nomatch z))]; exact q) fun c xs q => by rw [upd_ne (neH c _ q (fun _ _ z => nomatch z))]; exact q
    · rw [upd_ne hb] at e
      exact (I.hok b o e).stay (fun c v _ q => q) (fun c q => by rw [upd_ne (neH c _ q (fun _ _ z => nomatch z))]; exact q) fun c xs q => by rw [upd_ne (neH c _ q (fun _ _ z => nomatch z))]; exact q
end
def tLockE (t : TE) : TE := fun σ H Q => ∃ d u, H d = some u ∧ Mut (some u) ∧ ∀ od, t σ (upd H d (.frz od u)) fun v H' => H' d = some (.frz od u) ∧ Q v (upd H' d u)
section
variable {X : Cx}
theorem pe_lock {e : Expr} {t : TE} (h : PE X e t) : PE X e (tLockE t) := by
  intro pins s σ H Q I hw
  obtain ⟨d, u, hd, mu, hw⟩ := hw
  obtain ⟨od, I1⟩ := I.lock hd mu
  refine thn (h pins s σ _ _ I1 (hw od)) fun v s1 ⟨x, H1, I2, r, e2, q⟩ => ?_
  exact ⟨x, _, I2.unlock e2 (I.nofrz hd mu), r, q⟩
/-! ### one iterator just laid -/
theorem pi_one {tg : Expr} {pins : List (Addr × Obj)} {σ : St} {H : Hp} {s : Shared} {R : It → Hp → Prop} {J : It} {tn : Nat → Heap → Prop} {tk : Nat} (I : Inv X pins σ H s) (o : Obj)
    (T : Turn X.prog X.w X.K tg J [s.heap.objs.size] s.heap.objs.size tn) (st : tn 0 (s.heap.push o)) (q : R J H) : PIE X pins σ tg R (.ref s.heap.objs.size) { s with heap := s.heap.push o, toks := tk } := by
  refine ⟨s.heap.objs.size, [s.heap.objs.size], tn, J, H, rfl, I.kept fun b ob e => Heap.get?_push_of_some _ e, T, st, fun b hb => ?_, q⟩
  have e : b = s.heap.objs.size := by simpa using hb
  subst e
  exact I.fpOk (Nat.le_refl _) (I.hok.fresh (Nat.le_refl _))
end
/-! ### range with a step -/
section
variable {X : Cx} {tg : Expr}
end
/-! ### reversed(list) -/
section
variable {X : Cx} {tg : Expr}
end
/-! ### a str -/
/-! ### a dict's keys: any dict's entries -/
section
variable {prog : Program} {w : World} {A : Around} {E : Value → Shared → Prop} {s : Shared}
theorem iter_keys {d : Addr} {o : Obj} {es : Array DictEntry} {ep : Nat} {Q : Value → Shared → Prop} (hd : (d == sysModules) = false) (ho : s.heap.get? d = some o) (hc : o.ExactDict) (hdat : o.data = .dict es ep)
    (hQ : Q (.ref s.heap.objs.size) { s with heap := s.heap.push { cls := .type "dict_keyiterator", data := .fields #[.ref d, .int 0 0, .int es.size 0, .int ep 0] } }) :
    wpAny (model prog w) A (pyIter (.ref d)) Q E s := by
  have hT : s.TypeIs (.ref d) "dict" := ⟨o, ho, hc.1⟩
  refine wpAny_pyIter_slot hT F.slot_dict_iter (wpAny_call_entry F.slot_dict_iter hT F.entry_dict_iter ?_ (F.args_dict_iter_1 _))
  unfold Builtin.«dict.__iter__»
  refine wpAny_bind ?_
  unfold Builtin.Dict.dictSlotNone
  refine wpAny_bind (wpAny_notOrdered_dict hT ?_)
  show wpAny _ _ (pure (Value.ref d)) _ _ s
  refine wpAny_pure ?_
  show wpAny _ _ (Builtin.Dict.showsAll d >>= _) _ _ s
  unfold Builtin.Dict.showsAll
  rw [if_neg (by rw [hd]; exact Bool.false_ne_true)]
  refine wpAny_bind (wpAny_pure ?_)
  refine wpAny_bind (wpAny_dictEntries ho hdat ?_)
  refine wpAny_bind (wpAny_dictEpoch ho hdat ?_)
  refine wpAny_bind (wpAny_newObj_type (wpAny_pure ⟨_, rfl, "dict_keyiterator", _, ⟨_, Heap.get?_push_size _ rfl, rfl⟩, F.slot_dict_keyiterator_next.lookup, ?_⟩))
  simpa [rawInt] using hQ
theorem next_key_item {it d : Addr} {i n ep : Nat} {od : Obj} {es : Array DictEntry} {en : DictEntry} {Q : Option Value → Shared → Prop} (hit : s.heap.IsKeyIter it d i n ep) (hod : s.heap.get? d = some od) (hdd : od.data = .dict es ep)
    (hsz : es.size = n) (hx : es[i]? = some en) (hQ : ∀ h', h'.IsKeyIter it d (i + 1) n ep → Heap.SameBut it s.heap h' → Q (some en.key) { s with heap := h' }) : wpAny (model prog w) A (pyNext (.ref it)) Q E s := by
  obtain ⟨o, ho, hc, hd⟩ := id hit
  unfold pyNext
  refine wpAny_bind (wpAny_attempt (wpAny_callSpecial?_slot (name := Str.ofString "__next__") hit.typeIs F.slot_dict_keyiterator_next
    (wpAny_call_entry F.slot_dict_keyiterator_next hit.typeIs F.entry_dict_keyiterator_next ?_ (F.args_dict_keyiterator_next_1 _))))
  refine wpAny_bind (wpAny_pure ?_)
  refine wpAny_bind ?_
  refine wpAny_bind ?_
  first | refine wpAny_bind (wpAny_typeNameOfWhole_keyiter hit.typeIs (wpAny_pure ?_)) | refine wpAny_bind (wpAny_typeNameOf_keyiter hit.typeIs (wpAny_pure ?_))
  refine wpAny_bind (wpAny_fieldsOf ho hd ?_)
  have hown : Builtin.Dict_items.ownsTuple "dict_keyiterator" = false := by decide
  simp only [hown, Bool.false_eq_true, if_false]
  show wpAny _ _ (if (Value.ref d == Value.none) = true then _ else _) _ _ s
  rw [if_neg (show ¬ ((Value.ref d == Value.none) = true) from Bool.false_ne_true)]
  refine wpAny_bind (wpAny_pure ?_)
  refine wpAny_bind (wpAny_dictEntries hod hdd ?_)
  rw [if_neg (by rw [hsz]; simp)]
  refine wpAny_bind (wpAny_pure ?_)
  refine wpAny_bind (wpAny_dictEpoch hod hdd ?_)
  rw [if_neg (by simp)]
  refine wpAny_pure ?_
  obtain ⟨hlt', hen⟩ := Array.getElem?_eq_some_iff.mp hx
  simp only [show ¬ ((i : Int) < 0) from by omega, if_false, Int.toNat_natCast, Array.getElem?_eq_getElem hlt']
  refine wpAny_bind ?_
  first | refine wpAny_bind (wpAny_typeNameOfWhole_keyiter hit.typeIs (wpAny_pure ?_)) | refine wpAny_bind (wpAny_typeNameOf_keyiter hit.typeIs (wpAny_pure ?_))
  refine wpAny_bind (wpAny_isOneOf_keyiter hit.typeIs ?_)
  show wpAny _ _ (setField (.ref it) 1 (rawInt ((i : Int) + 1)) >>= _) _ _ s
  refine wpAny_bind (wpAny_setField ho hd (by simp) ?_)
  have hit' : (s.heap.update it (Obj.mapFields (·.setIfInBounds 1 (rawInt ((i : Int) + 1))))).IsKeyIter it d (i + 1) n ep :=
    ⟨_, Heap.get?_update_self _ ho (Obj.isFreed_of_fields (Obj.data_mapFields hd _)), (Obj.cls_mapFields ..).trans hc, by rw [Obj.data_mapFields hd]; simp [rawInt]⟩
  refine wpAny_bind (wpAny_holding ?_)
  refine wpAny_bind (wpAny_isOneOf_keyiter (s := { s with heap := s.heap.update it (Obj.mapFields (·.setIfInBounds 1 (rawInt ((i : Int) + 1)))) }) hit'.typeIs ?_)
  show wpAny _ _ (pure es[i].key) _ _ _
  rw [hen]
  exact wpAny_pure (wpAny_pure ⟨_, rfl, wpAny_pure (hQ _ hit' (Heap.SameBut.update ..))⟩)
theorem next_key_end {it d : Addr} {i n ep : Nat} {od : Obj} {es : Array DictEntry} {Q : Option Value → Shared → Prop} (hh : A.handled = none) (hit : s.heap.IsKeyIter it d i n ep) (hod : s.heap.get? d = some od) (hdd : od.data = .dict es ep)
    (hsz : es.size = n) (hge : n ≤ i) (hQ : ∀ h', Heap.ExtBut it s.heap h' → Q none { s with heap := h' }) : wpAny (model prog w) A (pyNext (.ref it)) Q E s := by
  obtain ⟨o, ho, hc, hd⟩ := id hit
  unfold pyNext
  refine wpAny_bind (wpAny_attempt (wpAny_callSpecial?_slot (name := Str.ofString "__next__") hit.typeIs F.slot_dict_keyiterator_next
    (wpAny_call_entry F.slot_dict_keyiterator_next hit.typeIs F.entry_dict_keyiterator_next ?_ (F.args_dict_keyiterator_next_1 _))))
  refine wpAny_bind (wpAny_pure ?_)
  refine wpAny_bind ?_
  refine wpAny_bind ?_
  first | refine wpAny_bind (wpAny_typeNameOfWhole_keyiter hit.typeIs (wpAny_pure ?_)) | refine wpAny_bind (wpAny_typeNameOf_keyiter hit.typeIs (wpAny_pure ?_))
  refine wpAny_bind (wpAny_fieldsOf ho hd ?_)
  have hown : Builtin.Dict_items.ownsTuple "dict_keyiterator" = false := by decide
  simp only [hown, Bool.false_eq_true, if_false]
  show wpAny _ _ (if (Value.ref d == Value.none) = true then _ else _) _ _ s
  rw [if_neg (show ¬ ((Value.ref d == Value.none) = true) from Bool.false_ne_true)]
  refine wpAny_bind (wpAny_pure ?_)
  refine wpAny_bind (wpAny_dictEntries hod hdd ?_)
  rw [if_neg (by rw [hsz]; simp)]
  refine wpAny_bind (wpAny_pure ?_)
  refine wpAny_bind (wpAny_dictEpoch hod hdd ?_)
  rw [if_neg (by simp)]
  refine wpAny_pure ?_
  have hge' : es.size ≤ i := by rw [hsz]; exact hge
  simp only [show ¬ ((i : Int) < 0) from by omega, if_false, Int.toNat_natCast, Array.getElem?_eq_none hge']
  refine wpAny_bind ?_
  first | refine wpAny_bind (wpAny_typeNameOfWhole_keyiter hit.typeIs (wpAny_pure ?_)) | refine wpAny_bind (wpAny_typeNameOf_keyiter hit.typeIs (wpAny_pure ?_))
  show wpAny _ _ (setField (.ref it) 0 .none >>= _) _ _ s
  refine wpAny_bind (wpAny_setField ho hd (by simp) ?_)
  show wpAny _ _ (newExc (.type "StopIteration") [] >>= _) _ _ _
  refine wpAny_bind ?_
  simp only [newExc, newTuple]
  refine wpAny_bind (wpAny_newObj_type ?_ (by size_fits))
  refine wpAny_bind (m := firstArgMember _ _) (wpAny_of_eq (a := Value.none) (by first | rfl | (simp only [firstArgMember]; rfl)) ?_)
  refine wpAny_newObj_type ?_ (by size_fits)
  simp only [raiseNew]
  refine wpAny_bind (wpAny_handled ?_)
  rw [show A.in1.handled = none from hh]
  refine wpAny_bind (wpAny_pure (wpAny_throw ?_))
  refine wpAny_bind (wpAny_isInstance (T := "StopIteration") (b := true) ⟨_, Heap.get?_push_size _ rfl, rfl⟩ isSubtype_stop ?_)
  exact wpAny_pure (hQ _ (((Heap.SameBut.update ..).extBut.push _).push _))
end
/-! ### a locked dict -/
theorem kv_get {κ : Type} {kvs : List (κ × V)} {vs : List (κ × Value)} (h : KV kvs vs) : ∀ {i : Nat} {k : κ} {v : V}, kvs[i]? = some (k, v) → ∃ u, vs[i]? = some (k, u) ∧ RelV v u := by
  unfold KV at h
  induction h with
  | nil => intro i k v e; simp at e
  | @cons a b l₁ l₂ r t ih =>
    intro i k v e
    cases i with
    | zero =>
      simp only [List.getElem?_cons_zero, Option.some.injEq] at e
      subst e
      refine ⟨b.2, ?_, r.2⟩
      simp only [List.getElem?_cons_zero]
      exact congrArg some (Prod.ext r.1.symm rfl)
    | succ j =>
      simp only [List.getElem?_cons_succ] at e ⊢
      exact ih e
theorem paired_get {α β : Type} {G : α → β → Prop} {l₁ : List α} {l₂ : List β} (h : Paired G l₁ l₂) : ∀ {i : Nat} {a : α}, l₁[i]? = some a → ∃ b, l₂[i]? = some b ∧ G a b := by
  induction h with
  | nil => intro i a e; simp at e
  | @cons a b l₁ l₂ r t ih =>
    intro i a' e
    cases i with
    | zero =>
      simp only [List.getElem?_cons_zero, Option.some.injEq] at e
      subst e
      exact ⟨b, rfl, r⟩
    | succ j =>
      simp only [List.getElem?_cons_succ] at e ⊢
      exact ih e
theorem relV_key {k : Key} {u : Value} (h : keyIs k u = true) : RelV (kV k) u := by
  rcases keyIs_shape h with ⟨i, t, rfl, rfl⟩ | ⟨x, t, rfl, rfl⟩
  · exact ⟨t, rfl⟩
  · exact ⟨t, rfl⟩
section
variable {X : Cx} {pins : List (Addr × Obj)} {σ : St} {H : Hp} {s : Shared} {d : Addr} {o : Obj}
theorem Inv.frzK {kvs : List (Key × V)} (I : Inv X pins σ H s) (h : H d = some (.frz o (.dK kvs))) :
    (d == sysModules) = false ∧ s.heap.get? d = some o ∧ o.ExactDict ∧ ∃ (es : Array DictEntry) (ep : Nat) (vs : List (Key × Value)), o.data = .dict es ep ∧ es.size = kvs.length ∧ KV kvs vs ∧ s.heap.DictAt (mixKind X.prog X.w) d vs ep := by
  obtain ⟨hd, z, hs, vs, kv, o', es, ep, ho, hx, hdt, r⟩ := I.hok d _ h
  rw [hd] at ho
  cases ho
  refine ⟨hs, hd, hx, es, ep, vs, hdt, ?_, kv, o, es, hd, hx, hdt, r⟩
  have l1 := r.2.1.length
  have l2 : kvs.length = vs.length := Paired.length kv
  rw [Array.length_toList] at l1
  omega
/-- the same for tuple keys -/
theorem Inv.frzT {kvs : List (List Key × V)} (I : Inv X pins σ H s) (h : H d = some (.frz o (.dT kvs))) :
    (d == sysModules) = false ∧ s.heap.get? d = some o ∧ o.ExactDict ∧ ∃ (es : Array DictEntry) (ep : Nat), o.data = .dict es ep ∧ es.size = kvs.length ∧
      ∀ (i : Nat) (k : List Key) (v : V), kvs[i]? = some (k, v) → ∃ (en : DictEntry) (q : Addr), es[i]? = some en ∧ en.key = .ref q ∧ H q = some (.tup (k.map kV)) := by
  obtain ⟨hd, z, hs, xs, pr, o', es, ep, ho, hx, hdt, he, _⟩ := I.hok d _ h
  rw [hd] at ho
  cases ho
  refine ⟨hs, hd, hx, es, ep, hdt, ?_, fun i k v e => ?_⟩
  · have l1 : es.size = xs.length := size_of_entries he
    have l2 : kvs.length = xs.length := Paired.length pr
    omega
  · obtain ⟨b, hb, e1, e2, _⟩ := paired_get pr e
    have q := entry_at he i
    rw [hb] at q
    exact ⟨_, b.2.1, q, rfl, e2⟩
end
/-- the keys of the locked dict at d, in their order -/
def Itk (d : Addr) (o : Obj) (kvs : List (Key × V)) : It :=
  ⟨fun i H => H d = some (.frz o (.dK kvs)) ∧ i < kvs.length, fun i H x H' => H' = H ∧ ∃ k v, kvs[i]? = some (k, v) ∧ x = kV k, fun i H => H d = some (.frz o (.dK kvs)) ∧ kvs.length ≤ i⟩
/-- .. of tuple keys: the key's own tuple -/
def Itkt (d : Addr) (o : Obj) (kvs : List (List Key × V)) : It :=
  ⟨fun i H => H d = some (.frz o (.dT kvs)) ∧ i < kvs.length, fun i H x H' => H' = H ∧ ∃ (k : List Key) (v : V) (q : Addr), kvs[i]? = some (k, v) ∧ x = .ref q ∧ H q = some (.tup (k.map kV)), fun i H => H d = some (.frz o (.dT kvs)) ∧ kvs.length ≤ i⟩
theorem dict_ep {o : Obj} {es es' : Array DictEntry} {ep ep' : Nat} (h : o.data = .dict es ep) (h' : o.data = .dict es' ep') : es' = es ∧ ep' = ep := by
  rw [h] at h'
  cases h'
  exact ⟨rfl, rfl⟩
section
variable {P : Program} {w : World} {K : PySem.W.Frag} {tg : Expr} {d : Addr} {o : Obj} {es : Array DictEntry} {ep : Nat}
theorem turn_keys {kvs : List (Key × V)} (it : Addr) (hod : o.data = .dict es ep) : Turn P w K tg (Itk d o kvs) [it] it (fun i h => h.IsKeyIter it d i kvs.length ep) where
  mem := by simp
  obj := fun i h st b hb => by
    have e : b = it := by simpa using hb
    subst e
    obtain ⟨oi, e, c, dd⟩ := st
    exact ⟨oi, e, fun v z => by rw [dd] at z; cases z⟩
  keep := fun i h h' st k => st.at fun oi e => k it (by simp) oi e
  item := by
    intro X hP hw hK hc i pins s σ H E I hf st hg
    subst hP hw hK
    obtain ⟨hd, hi⟩ := hg
    obtain ⟨f0, f1, f2, f3, f4, f5⟩ := hf it (by simp)
    obtain ⟨hs, hgd, hx, es', ep', vs, hdt, hsz, kv, hm⟩ := I.frzK hd
    obtain ⟨rfl, rfl⟩ := dict_ep hod hdt
    obtain ⟨⟨k, v⟩, hkv⟩ : ∃ p, kvs[i]? = some p := ⟨kvs[i], List.getElem?_eq_getElem hi⟩
    obtain ⟨u, hu, ru⟩ := kv_get kv hkv
    have hl : kvs.length = vs.length := Paired.length kv
    rw [hl] at st
    refine wpAny_pyNext_dict_item st hm hu fun key h' hkey st' sb => ?_
    have I1 : Inv X pins σ H { s with heap := h' } := I.turned (t' := s.toks) (fun b ob hb e => (sb.2 b hb).trans e) f0 f1 f3 f4 f5
    obtain ⟨oi, e, c, dd⟩ := id st'
    refine ⟨key, rfl, go_of (s := { s with heap := h' }) e c dd (by decide) ⟨kV k, H, I1, relV_key (show keyIs k key = true from hkey), ⟨rfl, k, v, hkv, rfl⟩, ?_, fun b hb => (hf b hb).1⟩⟩
    show h'.IsKeyIter it d (i + 1) kvs.length _
    rw [hl]
    exact st'
  done := by
    intro X hP hw hK hc i pins s σ H E I hf st hg
    subst hP hw hK
    obtain ⟨hd, hi⟩ := hg
    obtain ⟨f0, f1, f2, f3, f4, f5⟩ := hf it (by simp)
    obtain ⟨hs, hgd, hx, es', ep', vs, hdt, hsz, kv, hm⟩ := I.frzK hd
    obtain ⟨rfl, rfl⟩ := dict_ep hod hdt
    exact next_key_end (I.ok.hd hc) st hgd hdt hsz hi fun h' eb => ⟨rfl, I.turned (t' := s.toks) (fun b ob hb e => eb b ob hb e) f0 f1 f3 f4 f5⟩
  self := fun A i s Q E st h => wpAny_pyIter_keyiter st h
theorem turn_keysT {kvs : List (List Key × V)} (it : Addr) (hod : o.data = .dict es ep) : Turn P w K tg (Itkt d o kvs) [it] it (fun i h => h.IsKeyIter it d i kvs.length ep) where
  mem := by simp
  obj := fun i h st b hb => by
    have e : b = it := by simpa using hb
    subst e
    obtain ⟨oi, e, c, dd⟩ := st
    exact ⟨oi, e, fun v z => by rw [dd] at z; cases z⟩
  keep := fun i h h' st k => st.at fun oi e => k it (by simp) oi e
  item := by
    intro X hP hw hK hc i pins s σ H E I hf st hg
    subst hP hw hK
    obtain ⟨hd, hi⟩ := hg
    obtain ⟨f0, f1, f2, f3, f4, f5⟩ := hf it (by simp)
    obtain ⟨hs, hgd, hx, es', ep', hdt, hsz, ent⟩ := I.frzT hd
    obtain ⟨rfl, rfl⟩ := dict_ep hod hdt
    obtain ⟨⟨k, v⟩, hkv⟩ : ∃ p, kvs[i]? = some p := ⟨kvs[i], List.getElem?_eq_getElem hi⟩
    obtain ⟨en, q, hen, hkey, hq⟩ := ent i k v hkv
    refine next_key_item st hgd hdt hsz hen fun h' st' sb => ?_
    have I1 : Inv X pins σ H { s with heap := h' } := I.turned (t' := s.toks) (fun b ob hb e => (sb.2 b hb).trans e) f0 f1 f3 f4 f5
    obtain ⟨oi, e, c, dd⟩ := id st'
    exact ⟨en.key, rfl, go_of (s := { s with heap := h' }) e c dd (by decide) ⟨.ref q, H, I1, hkey, ⟨rfl, k, v, q, hkv, rfl, hq⟩, st', fun b hb => (hf b hb).1⟩⟩
  done := by
    intro X hP hw hK hc i pins s σ H E I hf st hg
    subst hP hw hK
    obtain ⟨hd, hi⟩ := hg
    obtain ⟨f0, f1, f2, f3, f4, f5⟩ := hf it (by simp)
    obtain ⟨hs, hgd, hx, es', ep', hdt, hsz, ent⟩ := I.frzT hd
    obtain ⟨rfl, rfl⟩ := dict_ep hod hdt
    exact next_key_end (I.ok.hd hc) st hgd hdt hsz hi fun h' eb => ⟨rfl, I.turned (t' := s.toks) (fun b ob hb e => eb b ob hb e) f0 f1 f3 f4 f5⟩
  self := fun A i s Q E st h => by
    refine wpAny_pyIter_slot st.typeIs F.slot_dict_keyiterator_iter (wpAny_call_entry F.slot_dict_keyiterator_iter st.typeIs F.entry_dict_keyiterator_iter ?_ (F.args_dict_keyiterator_iter_1 _))
    show wpAny _ _ (ret (.ref it)) _ _ s
    exact wpAny_pure ⟨_, rfl, "dict_keyiterator", _, st.typeIs, F.slot_dict_keyiterator_next.lookup, h⟩
end
/-! ### for k in d, d.keys(), d.values(), d.items() -/
/-- the dict is locked (tLock, or by the caller) -/
def iKeys (td : TE) : TI := fun σ H R => td σ H fun x H1 => ∃ d o, x = .ref d ∧ ((∃ kvs, H1 d = some (.frz o (.dK kvs)) ∧ R (Itk d o kvs) H1) ∨ ∃ kvs, H1 d = some (.frz o (.dT kvs)) ∧ R (Itkt d o kvs) H1)
section
variable {X : Cx} {tg e : Expr} {td : TE} {apos cpos : Pos}
theorem pi_keys (he : PE X e td) : PI X tg e (iKeys td) := by
  intro pins s σ H R I h
  refine thn (he pins s σ H _ I h) fun u s1 ⟨x, H1, I1, rx, d, o, ex, q⟩ => ?_
  subst ex
  obtain rfl : u = Value.ref d := rx
  rcases q with ⟨kvs, hd, q⟩ | ⟨kvs, hd, q⟩
  · obtain ⟨hs, hgd, hx, es, ep, vs, hdt, hsz, kv, hm⟩ := I1.frzK hd
    refine iter_keys hs hgd hx hdt (pi_one (tk := s1.toks) I1 _ (turn_keys _ hdt) ⟨_, Heap.get?_push_size _ rfl, rfl, ?_⟩ q)
    rw [hsz] <;> rfl
  · obtain ⟨hs, hgd, hx, es, ep, hdt, hsz, ent⟩ := I1.frzT hd
    refine iter_keys hs hgd hx hdt (pi_one (tk := s1.toks) I1 _ (turn_keysT _ hdt) ⟨_, Heap.get?_push_size _ rfl, rfl, ?_⟩ q)
    rw [hsz] <;> rfl
end
/-! ### enumerate(list) -/
/-! ### zip(list, list) -/
end L2
section 
namespace Bits
open PySem PyProof.Rows
end Bits
end 
section 
namespace TL
open PySem PySem.Builtin PySem.Builtin.Str PySem.StrLaws
/-! ### the list functions -/
/-! ### the model's split and partition are these -/
/-! ### computing spl and par -/
/-! ### digits -/
/-! ### words: x.split() -/
end TL
end 
namespace L2
open PySem PySem.Spec PyProof.Rows
section
variable {X : Cx} {pins : List (Addr × Obj)} {σ : St} {H : Hp} {s : Shared} {Q : VK}
end
section
variable {X : Cx}
/-! ### of a text alone -/
/-! ### of a text and a text -/
end
section
variable {X : Cx} {o e : Expr} {to te : TE}
end
end L2
namespace L2
open PySem PySem.Spec PyProof.Rows
section
variable {X : Cx}
end
/-! ### slices of a text -/
end L2
namespace Att
open PySem PySem.W PySem.Calls PyProof.Rows
/-! ### the script -/
/-! ### the attachment: holds_open's last premise (the goal 'hc' behind k_head) from a wpAny of the law's body -/
/-! ### rules over ANY heap (no ledger) from facts about the written part K: the library's own take a ledger (News) for what they write -/
section
variable {prog : Program} {w : World} {A : Around} {E : Value → Shared → Prop} {s : Shared} {K : Frag}
/-! the whole heap as the ledger: makes every rule that writes through a ledger a rule over any heap -/
end
end Att
namespace L2
open PySem PySem.Spec PyProof.Rows
end L2
namespace L2
open PySem PySem.Spec PyProof.Rows
end L2
/- THE LAST THEOREM (shape; LID, My.* are yours):
   My.Adr: a structure of the addresses that your layer names (classes, functions); My.Txt K t: a structure (Prop) of the equations over K;
   My.txt_mk : {K} {implicit addresses ..} (e1 : nsIn K mainGlobals "law" = some (some (.ref f))) (e2 : K.lookup f = some ⟨oc, od, .func (fnOf "law" "law" params body scope dV kV doc pm an cdv ct), sl⟩) (e3 : codeIn K cdv "law" = true) .. : ∃ t, My.Txt K t
set_option maxRecDepth 100000 in
set_option maxHeartbeats 0 in
theorem PySem.Challenge.cw_LID_holds : PySem.Challenge.rw_LID.Holds := by
  w_on; o_law; k_head; (case hw => w_witness2)
  k_fill
  refine L2.walk_of (l := PySem.Challenge.rw_LID) (n := 63) (k := 40) (x := "script") (CX := fun w => ..) (sp := fun _ => My.sp_law) rfl (by decide) rfl ⟨rfl, by decide, by decide⟩ (fun w h Y => PySem.W.kIn_of Y) ?F ?S ?C
  case F =>
    intro w mg fa h KX G hmg
    have T : ∃ t, My.Txt (L2.KOf KX) t := by
      dsimp only [L2.KOf]                          -- K must stand as «<heap const> w.params» for k_is
      refine' My.txt_mk ?e1 ?e2 ?e3 ..
      (case e1 => PySem.W.k_is)                    -- in the order: a name -> its address -> its object -> its parts
      (case e2 => PySem.W.k_is)
      ..
    obtain ⟨t, T⟩ := T
    have e0 := hmg.symm.trans (PySem.W.mg_of KX G T.law)
    cases e0                                       -- fa is the law's own address
    exact ⟨_, fun s u => .of_eq rfl, fun base kb nb => My.law_fn T kb nb⟩     -- if «.of_eq rfl» comes too early: refine' ⟨_, ?b, fun base kb nb => My.law_fn T kb nb⟩; exact fun s u => .of_eq rfl
  case S => exact fun w H a ns hl hO hS => ..
  case C => exact ..
(the tactic k_is has no namespace: write k_is) -/
/-! SHORT WORDS over the layer: a def of the text, its body, what a loop and a test want. -/
namespace L2
open PySem PySem.Spec PyProof.Rows
/-! ### the text by places -/
/-- the j-th statement of a class's body -/
def inClass (s : Stmt) (j : Nat) : Stmt := match s with
  | .ClassDef _ _ _ body _ _ _ _ _ _ _ => body.getD j (.Pass ⟨0, 0, 0, 0⟩)
  | _ => .Pass ⟨0, 0, 0, 0⟩
def defArgs (s : Stmt) : Arguments := match s with
  | .FunctionDef _ a _ _ _ _ _ _ _ _ => a
  | _ => { posonlyargs := [], args := [], vararg := none, kwonlyargs := [], kw_defaults := [], kwarg := none, defaults := [] }
def defBody (s : Stmt) : List Stmt := match s with
  | .FunctionDef _ _ b _ _ _ _ _ _ _ => b
  | _ => []
def defScope (s : Stmt) : Scope := match s with
  | .FunctionDef _ _ _ _ _ _ sc _ _ _ => sc
  | _ => { kind := .function, names := [], isGenerator := false, isCoroutine := false }
/-! ### no exception leaves a def -/
abbrev CX0 : CXT := fun _ _ _ _ _ _ => False
abbrev E0 : XK := fun _ _ _ => False
theorem pass0 {X : Cx} : Passes CX0 X E0 := fun _ _ _ _ _ _ _ h => h.elim
/-! ### a def (or method) of the text as it stands behind the top -/
structure Fun (K : PySem.W.Frag) (x qual : Str) (st : Stmt) (f : Addr) (fd : FuncData) : Prop where
  ex : ∃ (oc : Value) (od : Option Addr) (kV doc pm : Value) (an : Option Addr) (cdv ct : Value) (osl : Array (Option Value)),
    fd = PySem.W.fnOf x qual (defArgs st) (defBody st) (defScope st) .none kV doc pm an cdv ct ∧ K.lookup f = some ⟨oc, od, .func fd, osl⟩ ∧ PySem.W.codeIn K cdv qual = true
  kp : PySem.W.keepIn K (.ref f) = true
section
variable {P : Program} {w : World} {K : PySem.W.Frag} {mg : Str → Option Value} {base : Heap}
/-- THE RULE for a def: its body as a term of rules, and the reading of that term -/
theorem Fun.ok {x qual : Str} {st : Stmt} {f : Addr} {fd : FuncData} {N ps : List Str} {k : Nat} {sp : Sp} (F : Fun K x qual st f fd) (S : FnScope N ps (defScope st)) (len : ∀ vs H Q E, sp vs H Q E → vs.length = ps.length)
    (hbody : ∀ (cdv : Value) (A : Around) (outer : List Env) (s : Shared) (H : Hp) (vs : List V) (Q : VK) (E : XK), Room k (A.deeper (envOfC qual (defScope st) s.heap.objs.size f cdv)) → sp vs H Q E →
      ∃ t, PSs (cxOf CX0 P w K mg base N qual (defScope st) f cdv A outer s H E).nox (defBody st) t ∧ t { nx := fun _ H' => Q .non H', rt := Q } (start N vs) H) : FnOk P w K mg base CX0 (k + 1) f fd ps sp := by
  obtain ⟨oc, od, kV, doc, pm, an, cdv, ct, osl, rfl, lk, hcd⟩ := F.ex
  refine fn_of lk hcd S len fun A outer s H vs Q E hr hsp => ?_
  obtain ⟨t, h, q⟩ := hbody cdv A outer s H vs Q E hr hsp
  exact ⟨t, h.nox, q⟩
/-- how its arguments bind (no defaults): h is «fun _ _ _ _ _ _ us hl => match us, hl with | [_, _], _ => rfl», one _ a parameter -/
theorem Fun.binds {x qual : Str} {st : Stmt} {f : Addr} {fd : FuncData} {ps : List Str} (F : Fun K x qual st f fd)
    (h : ∀ (kV doc pm : Value) (an : Option Addr) (cdv ct : Value) (us : List Value), us.length = ps.length → bindArgs (PySem.W.fnOf x qual (defArgs st) (defBody st) (defScope st) .none kV doc pm an cdv ct) ⟨us, []⟩ = pure (ps.zip us)) : Binds K fd ps [] := by
  obtain ⟨oc, od, kV, doc, pm, an, cdv, ct, osl, rfl, lk, hcd⟩ := F.ex
  exact .all (h kV doc pm an cdv ct)
theorem fun_mk {x qual : Str} {st : Stmt} {f : Addr} {oc : Value} {od an : Option Addr} {osl : Array (Option Value)} {kV doc pm cdv ct : Value} (l : K.lookup f = some ⟨oc, od, .func (PySem.W.fnOf x qual (defArgs st) (defBody st) (defScope st) .none kV doc pm an cdv ct), osl⟩)
    (c : PySem.W.codeIn K cdv qual = true) (k : PySem.W.keepIn K (.ref f) = true) : Fun K x qual st f (PySem.W.fnOf x qual (defArgs st) (defBody st) (defScope st) .none kV doc pm an cdv ct) := ⟨⟨oc, od, kV, doc, pm, an, cdv, ct, osl, rfl, l, c⟩, k⟩
end
theorem hu_of {A : Around} {k : Nat} (hr : Room k A) : A.units + 1 < cLine := Nat.lt_of_le_of_lt (Nat.add_le_add_left (by decide : 1 ≤ 64) _) hr.units
theorem small1000 {n : Nat} (h : n ≤ 1000) : n < sizeLine := Nat.lt_of_le_of_lt h (by decide)
/-! ### expressions in short: the name that stands in the i-th slot -/
section
variable {X : Cx}
theorem pv (i : Nat) {x : Str} {pos : Pos} (hN : X.N[i]? = some x := by rfl) (hv : Vis X.env.scope x := by first | exact Or.inl rfl | exact Or.inr (Or.inl rfl) | exact Or.inr (Or.inr rfl)) (hd : (x == ("__debug__" : Str)) = false := by decide)
    (hcd : (x == ("__classdict__" : Str)) = false := by decide) : PE X (.Name x pos) (tVar i) := pe_var hN hv hd hcd
/-- len of a dict -/
theorem call_lenD : CallR X (.builtin "len") (fun xs H Q => ∃ a kvs, xs = [V.ref a] ∧ H a = some (.dK kvs) ∧ Q (.int kvs.length) H) := by
  intro pins s σ H xs us Q I r h
  obtain ⟨a, kvs, rfl, ha, q⟩ := h
  obtain ⟨u, rfl, ru⟩ := vals1 r
  cases ru
  exact d_len I (.inl ha) fun t s' I' => ⟨.int kvs.length, H, I', ⟨t, rfl⟩, q⟩
end
/-! ### tests -/
theorem iteF {A B : Prop} (h : B) : if false = true then A else B := by
  rw [if_neg Bool.false_ne_true]
  exact h
theorem iteT {A B : Prop} (h : A) : if true = true then A else B := by
  rw [if_pos rfl]
  exact h
theorem ite2 {c A B : Prop} [Decidable c] (h1 : c → A) (h2 : ¬ c → B) : if c then A else B := by
  by_cases h : c
  · rw [if_pos h]
    exact h1 h
  · rw [if_neg h]
    exact h2 h
/-! ### heaps -/
/-- all that was tracked is as it was -/
def Same (H H' : Hp) : Prop := ∀ b o, H b = some o → H' b = some o
theorem Same.trans {H H1 H2 : Hp} (a : Same H H1) (b : Same H1 H2) : Same H H2 := fun c o h => b c o (a c o h)
theorem Same.free {H H' : Hp} (e : Same H H') {l : Addr} (h : H' l = Option.none) : H l = Option.none := by
  cases q : H l with
  | none => rfl
  | some o =>
    rw [e l o q] at h
    cases h
theorem Same.seq {K : PySem.W.Frag} {H H' : Hp} {a : Addr} {xs : List V} (e : Same H H') (h : SqL K H a xs) : SqL K H' a xs := by
  rcases h with (h | ⟨o, h⟩) | h
  · exact .inl (.inl (e _ _ h))
  · exact .inl (.inr ⟨o, e _ _ h⟩)
  · exact .inr h
/-! ### a dict's pairs: keys that differ -/
section
variable {κ : Type} [DecidableEq κ]
end
/-! ### lists -/
theorem nd_ix {α : Type} {l : List α} (hN : l.Nodup) {i j : Nat} {x : α} (a : l[i]? = some x) (b : l[j]? = some x) : i = j := by
  obtain ⟨h1, e1⟩ := List.getElem?_eq_some_iff.mp a
  obtain ⟨h2, e2⟩ := List.getElem?_eq_some_iff.mp b
  exact (List.getElem_inj hN).mp (e1.trans e2.symm)
end L2
section
set_option Elab.async false
set_option linter.all false
set_option maxRecDepth 100000
set_option maxHeartbeats 2000000
namespace L2
open PySem PySem.Spec PyProof.Rows
open PySem.W (WData Codec OpenSpec Well WellAll ReadsW ReadsAllW)
/-! ### an answer as data -/
mutual
/-- x stands for the datum d, lists and tuples all the way -/
inductive Dw (K : PySem.W.Frag) (H : Hp) : V → WData → Prop
  | non : Dw K H .non .none
  | bl (b : Bool) : Dw K H (.bl b) (.bool b)
  | int (i : Int) : Dw K H (.int i) (.int i)
  | str (x : Str) : Dw K H (.str x) (.str x)
  | byt (b : Array UInt8) : Dw K H (.byt b) (.bytes b.toList)
  | lst {a : Addr} {xs : List V} {ds : List WData} : SqL K H a xs → DwAll K H xs ds → Dw K H (.ref a) (.list ds)
  | tup {a : Addr} {xs : List V} {ds : List WData} : SqT K H a xs → DwAll K H xs ds → Dw K H (.ref a) (.tuple ds)
inductive DwAll (K : PySem.W.Frag) (H : Hp) : List V → List WData → Prop
  | nil : DwAll K H [] []
  | cons {v : V} {vs : List V} {d : WData} {ds : List WData} : Dw K H v d → DwAll K H vs ds → DwAll K H (v :: vs) (d :: ds)
end
theorem dw_ints {K : PySem.W.Frag} {H : Hp} : ∀ ns : List Int, DwAll K H (ns.map V.int) (ns.map WData.int)
  | [] => .nil
  | n :: r => .cons (.int n) (dw_ints r)
theorem ints_dw {K : PySem.W.Frag} {H : Hp} : ∀ (ns : List Int) (xs : List V), DwAll K H xs (ns.map WData.int) → xs = ns.map V.int
  | [], xs, h => by
    cases h
    rfl
  | n :: r, xs, h => by
    cases h with
    | cons h1 h2 =>
      cases h1
      rw [ints_dw r _ h2] <;> rfl
section
variable {P : Program} {w : World} {K : PySem.W.Frag} {H : Hp} {h : Heap} {R : PySem.W.WRecords} {cl : Str → Option Addr}
theorem sqL_at {a : Addr} {xs : List V} (hok : HOk P w H h) (KX : K.In h) (q : SqL K H a xs) : ∃ (its : List Value) (o : Obj) (n : Nat), Vals xs its ∧ h.get? a = some o ∧ o.cls = .type "list" ∧ o.data = .seq its.toArray n := by
  rcases q with q | ⟨o, its, n, e, hc, _, hd, _, hv⟩
  · obtain ⟨_, its, n, hv, e⟩ := (show ObjOk P w H h a (.lst xs) from q.ok hok)
    exact ⟨its, _, n, hv, e, rfl, rfl⟩
  · exact ⟨its.toList, o, n, hv, KX _ _ e, hc, by simp [hd]⟩
theorem sqT_at {a : Addr} {xs : List V} (hok : HOk P w H h) (KX : K.In h) (q : SqT K H a xs) : ∃ (its : List Value) (o : Obj) (n : Nat), Vals xs its ∧ h.get? a = some o ∧ o.cls = .type "tuple" ∧ o.data = .seq its.toArray n := by
  rcases q with q | ⟨o, its, n, e, hc, hd, _, hv⟩
  · obtain ⟨_, its, hv, o, e, hc, n, hd⟩ := (show ObjOk P w H h a (.tup xs) from q.ok hok)
    exact ⟨its, o, n, hv, e, hc, hd⟩
  · exact ⟨its.toList, o, n, hv, KX _ _ e, hc, by simp [hd]⟩
mutual
theorem Dw.reads (hok : HOk P w H h) (KX : K.In h) : ∀ (d : WData) (v : V) (u : Value), Dw K H v d → RelV v u → ∃ as, ReadsW R cl h u d as
  | .none, _, _, x, r => by
    cases x
    cases r
    exact ⟨_, ReadsW.none⟩
  | .bool b, _, _, x, r => by
    cases x
    cases r
    exact ⟨_, ReadsW.bool b⟩
  | .int i, _, _, x, r => by
    cases x
    obtain ⟨t, rfl⟩ := r
    exact ⟨_, ReadsW.int i t⟩
  | .str s, _, _, x, r => by
    cases x
    obtain ⟨t, rfl⟩ := r
    exact ⟨_, ReadsW.str s t⟩
  | .bytes b, _, _, x, r => by
    cases x
    obtain ⟨t, rfl⟩ := r
    exact ⟨_, ReadsW.bytes _ t⟩
  | .list ds, _, _, x, r => by
    cases x with
    | lst hs ha =>
      cases r
      obtain ⟨its, o, n, rv, ho, hc, hd⟩ := sqL_at hok KX hs
      obtain ⟨as, hr⟩ := Dw.readsAll hok KX ds _ its ha rv
      exact ⟨_, ReadsW.list ho hc hd hr⟩
  | .tuple ds, _, _, x, r => by
    cases x with
    | tup hs ha =>
      cases r
      obtain ⟨its, o, n, rv, ho, hc, hd⟩ := sqT_at hok KX hs
      obtain ⟨as, hr⟩ := Dw.readsAll hok KX ds _ its ha rv
      exact ⟨_, ReadsW.tuple ho hc hd hr⟩
  | .float _, _, _, x, _ => by cases x
  | .dict _, _, _, x, _ => by cases x
  | .bytearray _, _, _, x, _ => by cases x
  | .set _, _, _, x, _ => by cases x
  | .frozenset _, _, _, x, _ => by cases x
  | .obj _ _, _, _, x, _ => by cases x
theorem Dw.readsAll (hok : HOk P w H h) (KX : K.In h) : ∀ (ds : List WData) (vs : List V) (us : List Value), DwAll K H vs ds → Vals vs us → ∃ as, ReadsAllW R cl h us ds as
  | [], _, _, x, r => by
    cases x
    cases r
    exact ⟨_, ReadsAllW.nil⟩
  | d :: ds, _, _, x, r => by
    cases x with
    | cons h1 h2 =>
      cases r with
      | cons r1 r2 =>
        obtain ⟨as, q1⟩ := Dw.reads hok KX d _ _ h1 r1
        obtain ⟨bs, q2⟩ := Dw.readsAll hok KX ds _ _ h2 r2
        exact ⟨_, ReadsAllW.cons q1 q2⟩
end
end
/-! ### the arguments -/
mutual
/-- data that a codec tells -/
def plW : WData → Bool
  | .none => true
  | .bool _ => true
  | .int _ => true
  | .str _ => true
  | .bytes _ => true
  | .list xs => plWs xs
  | .tuple xs => plWs xs
  | _ => false
def plWs : List WData → Bool
  | [] => true
  | x :: r => plW x && plWs r
end
theorem plWs_map {α : Type} {f : α → WData} (h : ∀ a, plW (f a) = true) : ∀ l : List α, plWs (l.map f) = true
  | [] => rfl
  | x :: r => by
    show (plW (f x) && plWs (r.map f)) = true
    rw [h x, plWs_map h r] <;> rfl
theorem pl_enc : ∀ (c : Codec) (a : c.denote), plW (c.enc a) = true
  | .unit, _ => rfl
  | .bool, _ => rfl
  | .int _ _, _ => rfl
  | .nat _ _, _ => rfl
  | .u8, _ => rfl
  | .bytes _ _, _ => rfl
  | .text _ _ _ _, _ => rfl
  | .list _ _ c, a => plWs_map (fun x => pl_enc c x) a
  | .pair c d, a => by
    show (plW (c.enc a.1) && (plW (d.enc a.2) && true)) = true
    rw [pl_enc c a.1, pl_enc d a.2] <;> rfl
  | .triple c d e, a => by
    show (plW (c.enc a.1) && (plW (d.enc a.2.1) && (plW (e.enc a.2.2) && true))) = true
    rw [pl_enc c a.1, pl_enc d a.2.1, pl_enc e a.2.2] <;> rfl
  | .option c, none => rfl
  | .option c, some x => pl_enc c x
theorem pl_encAll : ∀ (cs : List Codec) (a : Codec.denoteAll cs), plWs (Codec.encAll cs a) = true
  | [], _ => rfl
  | c :: cs, a => by
    show (plW (c.enc a.1) && plWs (Codec.encAll cs a.2)) = true
    rw [pl_enc c a.1, pl_encAll cs a.2] <;> rfl
theorem weight_mem : ∀ {xs : List WData} {d : WData}, d ∈ xs → d.weight ≤ WData.weightAll xs
  | [], d, h => absurd h (by simp)
  | x :: r, d, h => by
    show d.weight ≤ x.weight + 1 + WData.weightAll r
    rcases List.mem_cons.mp h with e | m
    · rw [e]
      omega
    · have z := weight_mem m
      omega
def toV : Value → V
  | .none => .non
  | .bool b => .bl b
  | .int i _ => .int i
  | .str x _ => .str x
  | .bytes b _ => .byt b
  | .ref a => .ref a
  | _ => .non
/-- a value of the arguments, its objects among A -/
def OkU (A : List Addr) : Value → Prop
  | .none => True
  | .bool _ => True
  | .int _ _ => True
  | .str _ _ => True
  | .bytes _ _ => True
  | .ref a => a ∈ A
  | _ => False
theorem OkU.mono {A B : List Addr} (h : ∀ a ∈ A, a ∈ B) : ∀ {u : Value}, OkU A u → OkU B u := fun {u} x => by
  cases u with
  | ref a => exact h a x
  | none => trivial
  | bool b => trivial
  | int i t => trivial
  | str s t => trivial
  | bytes b t => trivial
  | _ => exact False.elim x
theorem relV_toV {A : List Addr} {u : Value} (x : OkU A u) : RelV (toV u) u := by
  cases u with
  | ref a => rfl
  | none => rfl
  | bool b => rfl
  | int i t => exact ⟨t, rfl⟩
  | str s t => exact ⟨t, rfl⟩
  | bytes b t => exact ⟨t, rfl⟩
  | _ => exact False.elim x
theorem vals_toV {A : List Addr} : ∀ {vs : List Value}, (∀ u ∈ vs, OkU A u) → Vals (vs.map toV) vs
  | [], _ => .nil
  | u :: r, h => .cons (relV_toV (h u (List.mem_cons_self ..))) (vals_toV fun x hx => h x (List.mem_cons_of_mem _ hx))
/-- an object of the arguments -/
def ArgOb (h : Heap) (A : List Addr) (a : Addr) : Prop := ∃ vs : List Value, vs.length ≤ sizeLine ∧ (∀ u ∈ vs, OkU A u) ∧
  (h.get? a = some { cls := .type "list", data := .seq vs.toArray } ∨ h.get? a = some { cls := .type "tuple", data := .seq vs.toArray })
theorem ArgOb.mono {h : Heap} {A B : List Addr} {a : Addr} (k : ∀ a ∈ A, a ∈ B) (x : ArgOb h A a) : ArgOb h B a := by
  obtain ⟨vs, h1, h2, h3⟩ := x
  exact ⟨vs, h1, fun u hu => (h2 u hu).mono k, h3⟩
theorem wellAll_len {P : Params} {h : Heap} : ∀ {vs : List Value} {ds : List WData}, WellAll P h vs ds → vs.length = ds.length
  | _, _, .nil => rfl
  | _, _, .cons _ b => by
    show _ + 1 = _ + 1
    rw [wellAll_len b]
theorem well_list {P : Params} {h : Heap} {v : Value} {ds : List WData} (x : Well P h v (.list ds)) : ∃ (a : Addr) (vs : List Value), v = .ref a ∧ h.get? a = some { cls := .type "list", data := .seq vs.toArray } ∧ WellAll P h vs ds := by
  cases x with
  | list ho hall => exact ⟨_, _, rfl, ho, hall⟩
theorem well_tuple {P : Params} {h : Heap} {v : Value} {ds : List WData} (x : Well P h v (.tuple ds)) : ∃ (a : Addr) (vs : List Value), v = .ref a ∧ h.get? a = some { cls := .type "tuple", data := .seq vs.toArray } ∧ WellAll P h vs ds := by
  cases x with
  | tuple ho hall => exact ⟨_, _, rfl, ho, hall⟩
theorem well_cons {P : Params} {h : Heap} {us : List Value} {d : WData} {ds : List WData} (x : WellAll P h us (d :: ds)) : ∃ (v : Value) (vs : List Value), us = v :: vs ∧ Well P h v d ∧ WellAll P h vs ds := by
  cases x with
  | cons a b => exact ⟨_, _, rfl, a, b⟩
theorem line_of {n : Nat} (h : n ≤ 1048576) : n ≤ sizeLine := Nat.le_trans h (by decide)
section
variable {P : Params} {h : Heap}
mutual
theorem area_one : ∀ (d : WData) (v : Value), Well P h v d → plW d = true → d.weight ≤ 1048576 → ∃ A : List Addr, OkU A v ∧ ∀ a ∈ A, ArgOb h A a
  | .none, _, x, _, _ => by
    cases x
    exact ⟨[], trivial, fun a m => absurd m (by simp)⟩
  | .bool b, _, x, _, _ => by
    cases x
    exact ⟨[], trivial, fun a m => absurd m (by simp)⟩
  | .int i, _, x, _, _ => by
    cases x
    exact ⟨[], trivial, fun a m => absurd m (by simp)⟩
  | .str s, _, x, _, _ => by
    cases x
    exact ⟨[], trivial, fun a m => absurd m (by simp)⟩
  | .bytes b, _, x, _, _ => by
    cases x
    exact ⟨[], trivial, fun a m => absurd m (by simp)⟩
  | .list ds, _, x, p, z => by
    obtain ⟨a, vs, rfl, ho, hall⟩ := well_list x
    have z2 : WData.weightAll ds ≤ 1048576 := z
    obtain ⟨A, h1, h2⟩ := area_all ds _ hall p fun d hd => Nat.le_trans (weight_mem hd) z2
    have k : ∀ b ∈ A, b ∈ a :: A := fun b hb => List.mem_cons_of_mem _ hb
    refine ⟨a :: A, List.mem_cons_self .., fun b hb => ?_⟩
    rcases List.mem_cons.mp hb with e | m
    · rw [e]
      exact ⟨vs, line_of (by rw [wellAll_len hall]; exact Nat.le_trans (PySem.W.length_le_weightAllW ds) z2), fun u hu => (h1 u hu).mono k, .inl ho⟩
    · exact (h2 b m).mono k
  | .tuple ds, _, x, p, z => by
    obtain ⟨a, vs, rfl, ho, hall⟩ := well_tuple x
    have z2 : WData.weightAll ds ≤ 1048576 := z
    obtain ⟨A, h1, h2⟩ := area_all ds _ hall p fun d hd => Nat.le_trans (weight_mem hd) z2
    have k : ∀ b ∈ A, b ∈ a :: A := fun b hb => List.mem_cons_of_mem _ hb
    refine ⟨a :: A, List.mem_cons_self .., fun b hb => ?_⟩
    rcases List.mem_cons.mp hb with e | m
    · rw [e]
      exact ⟨vs, line_of (by rw [wellAll_len hall]; exact Nat.le_trans (PySem.W.length_le_weightAllW ds) z2), fun u hu => (h1 u hu).mono k, .inr ho⟩
    · exact (h2 b m).mono k
  | .float _, _, _, p, _ => Bool.noConfusion (show false = true from p)
  | .dict _, _, _, p, _ => Bool.noConfusion (show false = true from p)
  | .bytearray _, _, _, p, _ => Bool.noConfusion (show false = true from p)
  | .set _, _, _, p, _ => Bool.noConfusion (show false = true from p)
  | .frozenset _, _, _, p, _ => Bool.noConfusion (show false = true from p)
  | .obj _ _, _, _, p, _ => Bool.noConfusion (show false = true from p)
theorem area_all : ∀ (ds : List WData) (vs : List Value), WellAll P h vs ds → plWs ds = true → (∀ d ∈ ds, d.weight ≤ 1048576) → ∃ A : List Addr, (∀ u ∈ vs, OkU A u) ∧ ∀ a ∈ A, ArgOb h A a
  | [], _, x, _, _ => by
    cases x
    exact ⟨[], fun u m => absurd m (by simp), fun a m => absurd m (by simp)⟩
  | d :: ds, _, x, p, z => by
    obtain ⟨v, vs, rfl, x1, x2⟩ := well_cons x
    have q : plW d = true ∧ plWs ds = true := Bool.and_eq_true_iff.mp p
    obtain ⟨A, a1, a2⟩ := area_one d v x1 q.1 (z d (List.mem_cons_self ..))
    obtain ⟨B, b1, b2⟩ := area_all ds vs x2 q.2 fun e he => z e (List.mem_cons_of_mem _ he)
    have kA : ∀ b ∈ A, b ∈ A ++ B := fun b hb => List.mem_append.mpr (.inl hb)
    have kB : ∀ b ∈ B, b ∈ A ++ B := fun b hb => List.mem_append.mpr (.inr hb)
    refine ⟨A ++ B, fun u hu => ?_, fun b hb => ?_⟩
    · rcases List.mem_cons.mp hu with e | m
      · rw [e]
        exact a1.mono kA
      · exact (b1 u m).mono kB
    · rcases List.mem_append.mp hb with m | m
      · exact (a2 b m).mono kA
      · exact (b2 b m).mono kB
end
end
/-- what is tracked of an argument's object -/
def hoOf (o : Obj) : Option HO := match o.data with
  | .seq vs _ => if (o.cls == Value.type "list") = true then some (.frz o (.lst (vs.toList.map toV))) else some (.frz o (.tup (vs.toList.map toV)))
  | _ => none
def argH (K : PySem.W.Frag) (h : Heap) (A : List Addr) : Hp := fun b => if b ∈ A then (if (K.lookup b).isNone = true then (h.get? b).bind hoOf else none) else none
/-- nothing is tracked but what is known to the object -/
def OnlyF (H : Hp) : Prop := ∀ b, H b = none ∨ ∃ o u, H b = some (.frz o u)
theorem hoOf_lst (vs : List Value) : hoOf { cls := .type "list", data := .seq vs.toArray } = some (.frz { cls := .type "list", data := .seq vs.toArray } (.lst (vs.map toV))) := by
  show (if (Value.type "list" == Value.type "list") = true then some (HO.frz { cls := .type "list", data := .seq vs.toArray } (.lst (vs.toArray.toList.map toV))) else some (HO.frz { cls := .type "list", data := .seq vs.toArray } (.tup (vs.toArray.toList.map toV)))) = _
  rw [if_pos (beq_self_eq_true _)]
theorem hoOf_tup (vs : List Value) : hoOf { cls := .type "tuple", data := .seq vs.toArray } = some (.frz { cls := .type "tuple", data := .seq vs.toArray } (.tup (vs.map toV))) := by
  show (if (Value.type "tuple" == Value.type "list") = true then some (HO.frz { cls := .type "tuple", data := .seq vs.toArray } (.lst (vs.toArray.toList.map toV))) else some (HO.frz { cls := .type "tuple", data := .seq vs.toArray } (.tup (vs.toArray.toList.map toV)))) = _
  rw [if_neg (by decide)]
section
variable {P : Program} {w : World} {K : PySem.W.Frag} {h : Heap} {A : List Addr}
theorem argH_at {b : Addr} {o : Obj} (hb : b ∈ A) (hk : K.lookup b = none) (e : h.get? b = some o) : argH K h A b = hoOf o := by
  unfold argH
  rw [if_pos hb, hk, if_pos (show (none : Option Obj).isNone = true from rfl), e] <;> rfl
theorem of_argH {b : Addr} {u : HO} (q : argH K h A b = some u) : b ∈ A ∧ K.lookup b = none := by
  unfold argH at q
  by_cases hb : b ∈ A
  · rw [if_pos hb] at q
    cases hk : K.lookup b with
    | none => exact ⟨hb, rfl⟩
    | some o =>
      rw [hk, if_neg (by simp)] at q
      cases q
  · rw [if_neg hb] at q
    cases q
/-- what stands tracked -/
theorem argH_is (ar : ∀ a ∈ A, ArgOb h A a) {b : Addr} {u : HO} (q : argH K h A b = some u) : K.lookup b = none ∧ ∃ vs : List Value, vs.length ≤ sizeLine ∧ (∀ u ∈ vs, OkU A u) ∧
    ((h.get? b = some { cls := .type "list", data := .seq vs.toArray } ∧ u = .frz { cls := .type "list", data := .seq vs.toArray } (.lst (vs.map toV))) ∨
     (h.get? b = some { cls := .type "tuple", data := .seq vs.toArray } ∧ u = .frz { cls := .type "tuple", data := .seq vs.toArray } (.tup (vs.map toV)))) := by
  obtain ⟨hb, hk⟩ := of_argH q
  obtain ⟨vs, h1, h2, h3⟩ := ar b hb
  refine ⟨hk, vs, h1, h2, ?_⟩
  rcases h3 with e | e
  · rw [argH_at hb hk e, hoOf_lst] at q
    exact .inl ⟨e, (Option.some.inj q).symm⟩
  · rw [argH_at hb hk e, hoOf_tup] at q
    exact .inr ⟨e, (Option.some.inj q).symm⟩
theorem argH_only (ar : ∀ a ∈ A, ArgOb h A a) : OnlyF (argH K h A) := fun b => by
  cases q : argH K h A b with
  | none => exact .inl rfl
  | some u =>
    obtain ⟨_, vs, _, _, ⟨_, e⟩ | ⟨_, e⟩⟩ := argH_is ar q
    · exact .inr ⟨_, _, by rw [e]⟩
    · exact .inr ⟨_, _, by rw [e]⟩
theorem argH_ok (ar : ∀ a ∈ A, ArgOb h A a) : HOk P w (argH K h A) h := fun b u q => by
  obtain ⟨_, vs, h1, h2, ⟨e, rfl⟩ | ⟨e, rfl⟩⟩ := argH_is ar q
  · exact ⟨e, by rw [List.length_map]; exact h1, vs, _, vals_toV h2, e⟩
  · exact ⟨e, by rw [List.length_map]; exact h1, vs, vals_toV h2, _, e, rfl, _, rfl⟩
theorem seq_inj {c c' : Value} {vs us : List Value} (e : (some { cls := c, data := .seq vs.toArray } : Option Obj) = some { cls := c', data := .seq us.toArray }) : c = c' ∧ vs = us := by
  have e1 := Option.some.inj e
  have e2 : c = c' := congrArg Obj.cls e1
  have e3 : Data.seq vs.toArray = Data.seq us.toArray := congrArg Obj.data e1
  injection e3 with e4
  refine ⟨e2, ?_⟩
  have e5 := congrArg Array.toList e4
  simpa using e5
/-- a list argument -/
theorem argL (KX : K.In h) (ar : ∀ a ∈ A, ArgOb h A a) {a : Addr} {vs : List Value} (ha : a ∈ A) (e : h.get? a = some { cls := .type "list", data := .seq vs.toArray }) : (∀ u ∈ vs, OkU A u) ∧ SqL K (argH K h A) a (vs.map toV) := by
  obtain ⟨us, h1, h2, h3⟩ := ar a ha
  have hu : us = vs := by
    rcases h3 with q | q
    · rw [e] at q
      exact (seq_inj q).2.symm
    · rw [e] at q
      exact absurd (Value.type.inj (seq_inj q).1) (by decide)
  subst hu
  refine ⟨h2, ?_⟩
  cases hk : K.lookup a with
  | none => exact .inl (.inr ⟨_, by rw [argH_at ha hk e, hoOf_lst]⟩)
  | some o =>
    have e2 := KX a o hk
    rw [e] at e2
    obtain rfl := Option.some.inj e2
    exact .inr ⟨_, us.toArray, _, hk, rfl, rfl, rfl, by rw [List.size_toArray]; exact h1, by simpa using vals_toV h2⟩
theorem argT (KX : K.In h) (ar : ∀ a ∈ A, ArgOb h A a) {a : Addr} {vs : List Value} (ha : a ∈ A) (e : h.get? a = some { cls := .type "tuple", data := .seq vs.toArray }) : (∀ u ∈ vs, OkU A u) ∧ SqT K (argH K h A) a (vs.map toV) := by
  obtain ⟨us, h1, h2, h3⟩ := ar a ha
  have hu : us = vs := by
    rcases h3 with q | q
    · rw [e] at q
      exact absurd (Value.type.inj (seq_inj q).1) (by decide)
    · rw [e] at q
      exact (seq_inj q).2.symm
  subst hu
  refine ⟨h2, ?_⟩
  cases hk : K.lookup a with
  | none => exact .inl (.inr ⟨_, by rw [argH_at ha hk e, hoOf_tup]⟩)
  | some o =>
    have e2 := KX a o hk
    rw [e] at e2
    obtain rfl := Option.some.inj e2
    exact .inr ⟨_, us.toArray, _, hk, rfl, rfl, by rw [List.size_toArray]; exact h1, by simpa using vals_toV h2⟩
mutual
theorem dw_one {Pm : Params} (KX : K.In h) (ar : ∀ a ∈ A, ArgOb h A a) : ∀ (d : WData) (v : Value), Well Pm h v d → plW d = true → OkU A v → Dw K (argH K h A) (toV v) d
  | .none, _, x, _, _ => by
    cases x
    exact .non
  | .bool b, _, x, _, _ => by
    cases x
    exact .bl b
  | .int i, _, x, _, _ => by
    cases x
    exact .int i
  | .str s, _, x, _, _ => by
    cases x
    exact .str s
  | .bytes b, _, x, _, _ => by
    cases x
    have z := Dw.byt (K := K) (H := argH K h A) b.toArray
    exact z
  | .list ds, _, x, p, hu => by
    obtain ⟨a, vs, rfl, ho, hall⟩ := well_list x
    obtain ⟨h2, hs⟩ := argL KX ar hu ho
    exact .lst hs (dw_all KX ar ds _ hall p h2)
  | .tuple ds, _, x, p, hu => by
    obtain ⟨a, vs, rfl, ho, hall⟩ := well_tuple x
    obtain ⟨h2, hs⟩ := argT KX ar hu ho
    exact .tup hs (dw_all KX ar ds _ hall p h2)
  | .float _, _, _, p, _ => Bool.noConfusion (show false = true from p)
  | .dict _, _, _, p, _ => Bool.noConfusion (show false = true from p)
  | .bytearray _, _, _, p, _ => Bool.noConfusion (show false = true from p)
  | .set _, _, _, p, _ => Bool.noConfusion (show false = true from p)
  | .frozenset _, _, _, p, _ => Bool.noConfusion (show false = true from p)
  | .obj _ _, _, _, p, _ => Bool.noConfusion (show false = true from p)
theorem dw_all {Pm : Params} (KX : K.In h) (ar : ∀ a ∈ A, ArgOb h A a) : ∀ (ds : List WData) (vs : List Value), WellAll Pm h vs ds → plWs ds = true → (∀ u ∈ vs, OkU A u) → DwAll K (argH K h A) (vs.map toV) ds
  | [], _, x, _, _ => by
    cases x
    exact .nil
  | d :: ds, _, x, p, hu => by
    obtain ⟨v, vs, rfl, x1, x2⟩ := well_cons x
    have q : plW d = true ∧ plWs ds = true := Bool.and_eq_true_iff.mp p
    exact .cons (dw_one KX ar d v x1 q.1 (hu _ (List.mem_cons_self ..))) (dw_all KX ar ds vs x2 q.2 fun u m => hu u (List.mem_cons_of_mem _ m))
end
end
/-! ### the call -/
theorem spec_call {P : Program} {w : World} {K : PySem.W.Frag} {mg mb : Str → Option Value} {CX : CXT} {k : Nat} {fa : Addr} {fd : FuncData} {ps : List Str} {sp : Sp} {s₁ : Shared} {vals : List Value} {ds : List WData} {R : PySem.W.WRecords} {cl : Str → Option Addr} {d0 : WData}
    (KX : K.In s₁.heap) (hns : s₁.heap.Ns mainGlobals mg) (hb : s₁.heap.Ns builtinsNs mb) (hbb : ∀ x : Str, x ≠ "__name__" → mb x = bootBuiltins x) (hlim : s₁.heap.NoLimit) (hg : s₁.gens = #[])
    (hwl : WellAll w.params s₁.heap vals ds) (hpl : plWs ds = true) (hwt : ∀ d ∈ ds, d.weight ≤ 1048576) (hr : Room k callerA)
    (F : ∀ base : Heap, K.In base → base.Ns mainGlobals mg → FnOk P w K mg base CX k fa fd ps sp) (hbind : ∀ (s : Shared) (us : List Value), us.length = ps.length → BindsTo s fd ⟨us, []⟩ (ps.zip us)) (hlen : ds.length = ps.length)
    (hsp : ∀ (H : Hp) (xs : List V), OnlyF H → DwAll K H xs ds → sp xs H (fun v H' => Dw K H' v d0) fun _ _ _ => False)
    (hCX : ∀ H e s', CX [] H s₁ (fun _ _ _ => False) e s' → False) :
    codeAny (model P w) callerA (.call (.ref fa) ⟨vals, []⟩) (fun r s' => ∃ u as, r = .ok (.ret u) ∧ ReadsW R cl s'.heap u d0 as ∧ OldK s₁.heap s'.heap ∧ s'.os = s₁.os ∧ AllBare s'.gens) s₁ := by
  obtain ⟨A, ho, ar⟩ := area_all ds vals hwl hpl hwt
  have hO : OnlyF (argH K s₁.heap A) := argH_only ar
  have hok : HOk P w (argH K s₁.heap A) s₁.heap := argH_ok ar
  have hS := dw_all KX ar ds vals hwl hpl ho
  have hV := vals_toV ho
  have hK : ∀ b u, argH K s₁.heap A b = some u → K.lookup b = none := fun b u q => (argH_is ar q).1
  have noA : ∀ {b : Addr} {o : Obj} {es : Array DictEntry} {ep : Nat}, s₁.heap.get? b = some o → o.data = .dict es ep → argH K s₁.heap A b = none := fun {b o es ep} e d => by
    cases q : argH K s₁.heap A b with
    | none => rfl
    | some u =>
      obtain ⟨_, vs, _, _, ⟨e2, _⟩ | ⟨e2, _⟩⟩ := argH_is ar q
      · rw [e2] at e
        cases e
        have d' : Data.seq vs.toArray _ = Data.dict es ep := d
        cases d'
      · rw [e2] at e
        cases e
        have d' : Data.seq vs.toArray _ = Data.dict es ep := d
        cases d'
  generalize argH K s₁.heap A = H at hO hok hS hK noA
  have base_of : ∀ {b : Addr} {o : Obj}, s₁.heap.get? b = some o → H b = none → (hidT s₁.heap H).get? b = some o := fun e n => hidT_get e n
  have nsK : ∀ {b : Addr} {m : Str → Option Value}, s₁.heap.Ns b m → (hidT s₁.heap H).Ns b m := fun {b m} ⟨o, es, ep, e, d, r⟩ => ⟨o, es, ep, base_of e (noA e d), d, r⟩
  have nK : ∀ b o, K.lookup b = some o → H b = none := fun b o e => by
    cases q : H b with
    | none => rfl
    | some u =>
      rw [hK b u q] at e
      cases e
  have hKb : K.In (hidT s₁.heap H) := fun b o e => base_of (KX b o e) (nK b o e)
  have hM : Mod K mg (hidT s₁.heap H) := ⟨hKb, nsK hns, ⟨mb, nsK hb, hbb⟩, let ⟨mc, h1, h2⟩ := hlim; ⟨mc, nsK h1, h2⟩⟩
  have e0 : Env0 P w K mg (hidT s₁.heap H) callerA [] s₁ H := ⟨rfl, hM, fun b o e => of_hidT e, Nat.le_of_eq (hidT_size _ _), trivial, fun b hb => absurd (show b ∈ ([] : List Addr) from hb) (by simp), hok, .of_eq hg⟩
  have hl : vals.length = ps.length := by rw [wellAll_len hwl]; exact hlen
  refine codeAny_mono ((F _ hKb (nsK hns)).run callerA [] s₁ H ⟨vals, []⟩ vals (vals.map toV) _ _ hr e0 (hbind s₁ vals hl) hV (hsp H _ hO hS)) fun r s' x => ?_
  cases r with
  | error e => exact (hCX H e s' x).elim
  | ok fl =>
    cases fl with
    | next => exact False.elim x
    | brk => exact False.elim x
    | cont => exact False.elim x
    | ret u =>
      obtain ⟨v, H', os, bare, un, hok', r', q⟩ := x
      have kept : ∀ b o, s₁.heap.get? b = some o → s'.heap.get? b = some o := fun b o e => by
        cases q2 : H b with
        | none => exact un.keep b o e q2 (by intro z; exact absurd (show b ∈ ([] : List Addr) from z) (by simp)) (by simp)
        | some u2 =>
          rcases hO b with z | ⟨ob, u3, z⟩
          · rw [q2] at z
            cases z
          · have z2 := un.frzs b ob _ z
            obtain ⟨e1, _⟩ := hok b _ z
            obtain ⟨e2, _⟩ := hok' b _ z2
            rw [e] at e1
            cases e1
            exact e2
      have KX' : K.In s'.heap := fun b o e => kept b o (KX b o e)
      obtain ⟨as, hrd⟩ := Dw.reads (R := R) (cl := cl) hok' KX' d0 v u q r'
      exact ⟨u, as, rfl, hrd, OldK.of_keep kept, os, bare⟩
/-! ### the row -/
theorem layable_weight {ds : List WData} (h : WData.layableAll ds = true) : ∀ d ∈ ds, d.weight ≤ 1048576 := fun d hd =>
  (PySem.W.layableW_iff.mp (List.all_eq_true.mp h d hd)).2.2
theorem encAll_len : ∀ (cs : List Codec) (a : Codec.denoteAll cs), (Codec.encAll cs a).length = cs.length
  | [], _ => rfl
  | c :: cs, a => by
    show (Codec.encAll cs a.2).length + 1 = cs.length + 1
    rw [encAll_len cs a.2]
/-- the goal that k_headS leaves (case hc), from the promise of the row's def: whatever the arguments that the codecs let and the row asks for, the def gives what stands for enc (f ..) -/
theorem walk_spec {r : OpenSpec} {k : Nat} {q : Program} {loose : List Str} {XP : (Str → Option Value) → Heap → Prop} {YP : World → Heap → Prop} {d : DefRec} {K : Params → PySem.W.Frag} {CX : World → CXT} {ps : List Str} {sp : World → Sp}
    (hwell : r.wellSaid = true) (hdf : d.params.defaults = []) (hlen : r.args.length = ps.length) (hr : Room k callerA)
    (hY : ∀ (w : World) (h : Heap), YP w h → (K w.params).In h)
    (F : ∀ (w : World) (mg : Str → Option Value) (fa : Addr) (h : Heap), YP w h → (K w.params).In h → h.Ns mainGlobals mg → mg d.name = some (.ref fa) →
      ∃ fd : FuncData, (∀ (s : Shared) (us : List Value), us.length = ps.length → BindsTo s fd ⟨us, []⟩ (ps.zip us)) ∧
        ∀ base : Heap, (K w.params).In base → base.Ns mainGlobals mg → FnOk r.prog w (K w.params) mg base (CX w) k fa fd ps (sp w))
    (hsp : ∀ (w : World) (H : Hp) (xs : List V) (a : Codec.denoteAll r.args), OnlyF H → Codec.withinAll r.args a = true → Codec.app r.args r.asked a = true → DwAll (K w.params) H xs (Codec.encAll r.args a) →
      sp w xs H (fun v H' => Dw (K w.params) H' v (r.ret.enc (Codec.app r.args r.f a))) fun _ _ _ => False)
    (hCX : ∀ (w : World) (H : Hp) (s : Shared) (e : Value) (s' : Shared), CX w [] H s (fun _ _ _ => False) e s' → False) :
    PySem.W.WalkOS q loose XP YP r d [] (fun f vs => PySem.call f vs) := by
  intro w s_0 s₁ mg mb G Y fa o pm cd doc dV kV ho hd hcd hD hmg hg args vals as hpre hlay hrd hwl hlo
  obtain ⟨a, e1, e2⟩ := PySem.W.os_pre_some hpre
  obtain ⟨e3, hwi⟩ := Codec.encAll_of_decAll r.args args a e1
  subst e3
  have KX := hY w _ Y
  obtain ⟨fd, hb, hF⟩ := F w mg fa _ Y KX G.T.g hmg
  refine PySem.W.enter_call (codeAny_mono (spec_call (R := []) (cl := classAt s_0.heap) (d0 := r.ret.enc (Codec.app r.args r.f a)) KX G.T.g G.T.b G.T.builtins G.T.nolimit hg hwl (pl_encAll _ _) (layable_weight hlay) hr hF hb (by rw [encAll_len]; exact hlen)
    (fun H xs hO hS => hsp w H xs a hO hwi e2 hS) fun H e s' => hCX w H s₁ e s') fun r' s' hq => ?_)
  obtain ⟨u, as', rfl, h1, h2, h3, h4⟩ := hq
  exact ⟨.inl ⟨u, _, as', rfl, fun _ => rfl, h1, (OpenSpec.post_iff hwell hwi _ _).mpr rfl, fun z => Bool.noConfusion (show false = true from z)⟩, h2, h3, h4⟩
/-- the same where the promise hangs on the written part alone -/
theorem walk_specK {r : OpenSpec} {k : Nat} {q : Program} {loose : List Str} {XP : (Str → Option Value) → Heap → Prop} {YP : World → Heap → Prop} {d : DefRec} {K : Params → PySem.W.Frag} {CX : CXT} {ps : List Str} {sp : PySem.W.Frag → Sp}
    (hwell : r.wellSaid = true) (hdf : d.params.defaults = []) (hlen : r.args.length = ps.length) (hr : Room k callerA)
    (hY : ∀ (w : World) (h : Heap), YP w h → (K w.params).In h)
    (F : ∀ (w : World) (mg : Str → Option Value) (fa : Addr) (h : Heap), YP w h → (K w.params).In h → h.Ns mainGlobals mg → mg d.name = some (.ref fa) →
      ∃ fd : FuncData, (∀ (s : Shared) (us : List Value), us.length = ps.length → BindsTo s fd ⟨us, []⟩ (ps.zip us)) ∧
        ∀ base : Heap, (K w.params).In base → base.Ns mainGlobals mg → FnOk r.prog w (K w.params) mg base CX k fa fd ps (sp (K w.params)))
    (hsp : ∀ (K : PySem.W.Frag) (H : Hp) (xs : List V) (a : Codec.denoteAll r.args), OnlyF H → Codec.withinAll r.args a = true → Codec.app r.args r.asked a = true → DwAll K H xs (Codec.encAll r.args a) →
      sp K xs H (fun v H' => Dw K H' v (r.ret.enc (Codec.app r.args r.f a))) fun _ _ _ => False)
    (hCX : ∀ (H : Hp) (s : Shared) (e : Value) (s' : Shared), CX [] H s (fun _ _ _ => False) e s' → False) :
    PySem.W.WalkOS q loose XP YP r d [] (fun f vs => PySem.call f vs) :=
  walk_spec (K := K) (CX := fun _ => CX) (sp := fun w => sp (K w.params)) hwell hdf hlen hr hY F (fun w H xs a h1 h2 h3 h4 => hsp (K w.params) H xs a h1 h2 h3 h4) fun _ H s e s' => hCX H s e s'
end L2
-- rests on (row put in by the clerk, for the bench that shows a file only what it spells): KE.SpHead KE.OsShapes
end
set_option linter.all false
namespace Os
open Sq01
/-! ### finding, setting, dropping, opening -/
abbrev ids (s : State) : List Nat := s.exchanges.map (·.id)
theorem find_some {s : State} {i : Nat} {x : Exchange} (h : s.find i = some x) : x ∈ s.exchanges ∧ x.id = i := by
  unfold State.find at h
  exact ⟨List.mem_of_find?_eq_some h, by simpa using List.find?_some h⟩
theorem find_none {s : State} {i : Nat} (h : s.find i = none) : i ∉ ids s := by
  unfold State.find at h
  rw [List.find?_eq_none] at h
  intro m
  obtain ⟨x, hx, e⟩ := List.mem_map.mp m
  exact h x hx (by simp [e])
theorem find_of_mem {s : State} (srt : (ids s).Pairwise (· < ·)) {x : Exchange} (h : x ∈ s.exchanges) : s.find x.id = some x := by
  unfold State.find
  unfold ids at srt
  revert srt h
  induction s.exchanges with
  | nil => intro _ h; exact nomatch h
  | cons y l ih =>
    intro srt h
    rw [List.map_cons, List.pairwise_cons] at srt
    rw [List.find?_cons]
    rcases List.mem_cons.mp h with e | h
    · subst e; simp
    · have hlt : y.id < x.id := srt.1 x.id (List.mem_map.mpr ⟨x, h, rfl⟩)
      have hb : (y.id == x.id) = false := by simp; omega
      simp only [hb]
      exact ih srt.2 h
theorem find_none_of {s : State} {i : Nat} (h : i ∉ ids s) : s.find i = none := by
  unfold State.find
  rw [List.find?_eq_none]
  intro x hx
  have : x.id ≠ i := fun e => h (List.mem_map.mpr ⟨x, hx, e⟩)
  simp [this]
theorem set_ids (s : State) (x : Exchange) : ids (s.set x) = ids s := by
  unfold ids State.set
  simp only [List.map_map]
  refine List.map_congr_left fun y _ => ?_
  simp only [Function.comp_apply]
  split
  · rename_i h; exact h.symm
  · rfl
theorem mem_set {s : State} {x y : Exchange} (h : y ∈ (s.set x).exchanges) : y = x ∨ (y ∈ s.exchanges ∧ y.id ≠ x.id) := by
  unfold State.set at h
  obtain ⟨z, hz, e⟩ := List.mem_map.mp h
  by_cases q : z.id = x.id
  · simp only [q, if_true] at e; exact .inl e.symm
  · simp only [q, if_false] at e; subst e; exact .inr ⟨hz, q⟩
theorem mem_set_self {s : State} {x : Exchange} (h : x.id ∈ ids s) : x ∈ (s.set x).exchanges := by
  obtain ⟨z, hz, e⟩ := List.mem_map.mp h
  unfold State.set
  exact List.mem_map.mpr ⟨z, hz, by simp [e]⟩
theorem mem_set_other {s : State} {x y : Exchange} (h : y ∈ s.exchanges) (n : y.id ≠ x.id) : y ∈ (s.set x).exchanges := by
  unfold State.set
  exact List.mem_map.mpr ⟨y, h, by simp [n]⟩
theorem mem_drop {s : State} {i : Nat} {y : Exchange} : y ∈ (s.drop i).exchanges ↔ y ∈ s.exchanges ∧ y.id ≠ i := by
  unfold State.drop
  simp [List.mem_filter]
theorem drop_ids (s : State) (i : Nat) : ids (s.drop i) = (ids s).filter (· != i) := by
  unfold ids State.drop
  rw [List.filter_map]
  rfl
theorem put_perm (x : Exchange) : ∀ l : List Exchange, (put x l).Perm (x :: l)
  | [] => .refl _
  | y :: l => by
    unfold put
    split
    · exact .refl _
    · exact ((put_perm x l).cons y).trans (.swap ..)
theorem put_sorted (x : Exchange) : ∀ l : List Exchange, (l.map (·.id)).Pairwise (· < ·) → x.id ∉ l.map (·.id) → ((put x l).map (·.id)).Pairwise (· < ·)
  | [], _, _ => by simp [put]
  | y :: l, h, n => by
    rw [List.map_cons, List.pairwise_cons] at h
    rw [List.map_cons, List.mem_cons, not_or] at n
    unfold put
    split
    · rename_i hlt
      rw [List.map_cons, List.pairwise_cons, List.map_cons, List.pairwise_cons]
      refine ⟨fun j hj => ?_, h⟩
      rcases List.mem_cons.mp hj with e | hj
      · omega
      · have := h.1 j hj; omega
    · rename_i hlt
      rw [List.map_cons, List.pairwise_cons]
      refine ⟨fun j hj => ?_, put_sorted x l h.2 n.2⟩
      have hm := ((put_perm x l).map (·.id)).mem_iff.mp hj
      rcases List.mem_cons.mp hm with e | hm
      · have e : j = x.id := e
        have n1 : ¬ x.id = y.id := n.1
        show y.id < j
        omega
      · exact h.1 j hm
theorem mem_open {s : State} {x y : Exchange} : y ∈ (s.open_ x).exchanges ↔ y = x ∨ y ∈ s.exchanges := by
  unfold State.open_
  rw [(put_perm x s.exchanges).mem_iff, List.mem_cons]
/-! ### how many are open -/
theorem mine_ids (s : State) : s.mine = ((ids s).filter s.own).length := by
  unfold State.mine ids
  rw [List.filter_map, List.length_map]
  rfl
theorem theirs_ids (s : State) : s.theirs = ((ids s).filter fun i => !s.own i).length := by
  unfold State.theirs ids
  rw [List.filter_map, List.length_map]
  rfl
theorem own_congr {s t : State} (h : t.side = s.side) : t.own = s.own := by
  funext i
  unfold State.own
  rw [h]
/-! ### what is true of every state that comes about -/
structure XOk (x : Exchange) : Prop where
  pos : 0 < x.id
  out : x.out.length ≤ 65536
  sum : x.left + x.got.length + x.owed = 16384
  sent : x.sent = true → x.ended = true ∧ x.out = []
structure Ok (s : State) : Prop where
  side : s.side = 1 ∨ s.side = 2
  srt : (ids s).Pairwise (· < ·)
  xs : ∀ x ∈ s.exchanges, XOk x
  nx : s.next % 2 = s.side % 2
  nx0 : 0 < s.next
  ours : ∀ i ∈ ids s, s.own i = true → i < s.next
  others : ∀ i ∈ ids s, s.own i = false → i ≤ s.greatest
  gr : s.greatest = 0 ∨ s.own s.greatest = false
  mine : s.mine ≤ 64
  theirs : s.theirs ≤ 64
  dead : s.dead = true → s.exchanges = [] ∧ s.first = [] ∧ s.came = []
/-- a state that keeps the side, the numbers, whether it is dead -/
structure Like (s t : State) : Prop where
  side : t.side = s.side
  next : t.next = s.next
  greatest : t.greatest = s.greatest
  ids : ids t = ids s
  dead : t.dead = s.dead
  first : s.first = [] → s.dead = true → t.first = []
  came : t.came = s.came
theorem Ok.like {s t : State} (h : Ok s) (l : Like s t) (hx : ∀ x ∈ t.exchanges, XOk x) : Ok t := by
  have ho := own_congr l.side
  refine ⟨by rw [l.side]; exact h.side, by rw [l.ids]; exact h.srt, hx, by rw [l.next, l.side]; exact h.nx, by rw [l.next]; exact h.nx0, ?_, ?_, ?_, ?_, ?_, ?_⟩
  · rw [l.ids, ho, l.next]; exact h.ours
  · rw [l.ids, ho, l.greatest]; exact h.others
  · rw [ho, l.greatest]; exact h.gr
  · rw [mine_ids, l.ids, ho, ← mine_ids]; exact h.mine
  · rw [theirs_ids, l.ids, ho, ← theirs_ids]; exact h.theirs
  · intro hd
    rw [l.dead] at hd
    obtain ⟨h1, h2, h3⟩ := h.dead hd
    refine ⟨?_, l.first h2 hd, by rw [l.came]; exact h3⟩
    have := l.ids
    unfold Os.ids at this
    rw [h1] at this
    simpa using this
theorem Ok.alive {s : State} (h : Ok s) {x : Exchange} (hx : x ∈ s.exchanges) : s.dead = false := by
  cases e : s.dead with
  | false => rfl
  | true => rw [(h.dead e).1] at hx; exact nomatch hx
theorem Ok.set {s : State} (h : Ok s) {x : Exchange} (hx : XOk x) : Ok (s.set x) :=
  h.like ⟨rfl, rfl, rfl, set_ids s x, rfl, fun a _ => a, rfl⟩ fun y hy => by
    rcases mem_set hy with e | ⟨hy, _⟩
    · subst e; exact hx
    · exact h.xs y hy
theorem Ok.say {s : State} (h : Ok s) (hd : s.dead = false) (f : Frame) : Ok (s.say f) :=
  h.like ⟨rfl, rfl, rfl, rfl, rfl, (fun _ z => by rw [hd] at z; cases z), rfl⟩ h.xs
theorem Ok.back {s : State} (h : Ok s) (hd : s.dead = false) (n : Nat) : Ok (s.back n) := by
  unfold State.back
  dsimp only
  split
  · exact h.like ⟨rfl, rfl, rfl, rfl, rfl, fun a _ => a, rfl⟩ h.xs
  · exact h.like ⟨rfl, rfl, rfl, rfl, rfl, (fun _ z => by rw [hd] at z; cases z), rfl⟩ h.xs
theorem filter_sub_len {α : Type} (p q : α → Bool) (l : List α) : ((l.filter q).filter p).length ≤ (l.filter p).length := by
  rw [List.filter_filter]
  induction l with
  | nil => simp
  | cons a l ih =>
    rw [List.filter_cons, List.filter_cons]
    by_cases h1 : p a = true
    · by_cases h2 : q a = true
      · simp [h1, h2]; exact ih
      · simp [h1, h2]; omega
    · simp [h1]; exact ih
theorem Ok.drop {s : State} (h : Ok s) (i : Nat) : Ok (s.drop i) := by
  have e := drop_ids s i
  refine ⟨h.side, by rw [e]; exact h.srt.sublist List.filter_sublist, fun x hx => h.xs x (mem_drop.mp hx).1, h.nx, h.nx0, ?_, ?_, h.gr, ?_, ?_, ?_⟩
  · intro j hj; rw [e] at hj; exact h.ours j (List.mem_filter.mp hj).1
  · intro j hj; rw [e] at hj; exact h.others j (List.mem_filter.mp hj).1
  · rw [mine_ids, e]
    refine Nat.le_trans (filter_sub_len _ _ _) ?_
    have := h.mine
    rw [mine_ids] at this
    exact this
  · rw [theirs_ids, e]
    refine Nat.le_trans (filter_sub_len _ _ _) ?_
    have := h.theirs
    rw [theirs_ids] at this
    exact this
  · intro hd
    obtain ⟨h1, h2, h3⟩ := h.dead hd
    exact ⟨by show (s.exchanges.filter _) = []; rw [h1]; rfl, h2, h3⟩
theorem Ok.tidy {s : State} (h : Ok s) (i : Nat) : Ok (s.tidy i) := by
  unfold State.tidy
  split
  · split
    · exact h.drop i
    · exact h
  · exact h
theorem Ok.tidies {l : List Exchange} : ∀ {s : State}, Ok s → Ok (l.foldl (fun (t : State) x => t.tidy x.id) s) := by
  induction l with
  | nil => intro s h; exact h
  | cons x l ih => intro s h; exact ih (h.tidy x.id)
theorem set_back_dead (s : State) (n : Nat) : (s.back n).dead = s.dead := by
  unfold State.back; dsimp only; split <;> rfl
theorem Ok.backOf {s : State} (h : Ok s) (hd : s.dead = false) {x : Exchange} {n : Nat} (hx : 0 < x.id) (ho : x.out.length ≤ 65536) (hs : x.left + x.got.length + (x.owed + n) = 16384) (ht : x.sent = true → x.ended = true ∧ x.out = []) : Ok (s.backOf x n) := by
  unfold State.backOf
  dsimp only
  split
  · exact h.set ⟨hx, ho, hs, ht⟩
  · exact (h.set (x := { x with owed := 0, left := x.left + (x.owed + n) }) ⟨hx, ho, by show x.left + (x.owed + n) + x.got.length + 0 = 16384; omega, ht⟩).say hd _
theorem backOf_dead (s : State) (x : Exchange) (n : Nat) : (s.backOf x n).dead = s.dead := by
  unfold State.backOf; dsimp only; split <;> rfl
theorem Ok.begun {n : Nat} (h : n = 1 ∨ n = 2) : Ok (begun n) := by
  refine ⟨h, .nil, (fun x hx => nomatch hx), rfl, ?_, (fun i hi => nomatch hi), (fun i hi => nomatch hi), .inl rfl, Nat.zero_le _, Nat.zero_le _, (fun hd => nomatch hd)⟩
  show 0 < n
  omega
theorem XOk.fresh {i : Nat} (h : 0 < i) : XOk (fresh i) := ⟨h, Nat.zero_le _, rfl, fun z => nomatch z⟩
end Os
set_option linter.all false
namespace Os
open Sq01
/-! ### the next frame, what is sent -/
/-- the state behind a piece of x -/
def sentBy (s : State) (x : Exchange) (f : Frame) : State :=
  ({ s with credit := s.credit - f.body.length, turn := x.id }).set { x with out := x.out.drop f.body.length, sent := f.last, credit := x.credit - f.body.length }
theorem piece_ok {s : State} {x : Exchange} {m : Nat} {f : Frame} (hx : XOk x) (h : s.piece x m = some f) : XOk { x with out := x.out.drop f.body.length, sent := f.last, credit := x.credit - f.body.length } := by
  refine ⟨hx.pos, ?_, hx.sum, ?_⟩
  · show (x.out.drop _).length ≤ _
    rw [List.length_drop]; have := hx.out; omega
  · unfold State.piece at h
    dsimp only at h
    split at h
    · cases h
    · split at h
      · cases h
        intro hl
        have hl : (x.ended && _ == x.out.length) = true := hl
        rw [Bool.and_eq_true] at hl
        refine ⟨hl.1, ?_⟩
        have e := beq_iff_eq.mp hl.2
        show x.out.drop (x.out.take _).length = []
        rw [List.length_take, e]
        simp
      · split at h
        · rename_i hq
          cases h
          intro _
          exact ⟨hq.2, by show x.out.drop _ = []; rw [hq.1]; rfl⟩
        · cases h
theorem mem_turns {s : State} {x : Exchange} : x ∈ s.turns ↔ x ∈ s.exchanges := by
  unfold State.turns
  rw [List.mem_append, List.mem_filter, List.mem_filter]
  simp only [decide_eq_true_eq]
  constructor
  · rintro (h | h) <;> exact h.1
  · intro h
    by_cases q : s.turn < x.id
    · exact .inl ⟨h, q⟩
    · exact .inr ⟨h, by omega⟩
theorem frame_data {s : State} {m : Nat} {f : Frame} {t : State} (h0 : s.first = []) (h : s.frame m = some (f, t)) : ∃ x ∈ s.exchanges, 8 ≤ m ∧ s.piece x (m - 8) = some f ∧ t = sentBy s x f := by
  unfold State.frame at h
  rw [h0] at h
  dsimp only at h
  split at h
  · cases h
  · rename_i hm
    obtain ⟨x, hx, e⟩ := List.exists_of_findSome?_eq_some h
    rw [Option.map_eq_some_iff] at e
    obtain ⟨g, hg, e⟩ := e
    cases e
    refine ⟨x, mem_turns.mp hx, ?_, hg, by cases s; simp only at h0; subst h0; rfl⟩
    have : ¬ m < 8 := fun z => hm (.inl z)
    omega
theorem Ok.frame {s t : State} {m : Nat} {f : Frame} (h : Ok s) (e : s.frame m = some (f, t)) : Ok t := by
  cases h0 : s.first with
  | cons g l =>
    unfold State.frame at e
    rw [h0] at e
    dsimp only at e
    split at e
    · cases e
      exact h.like ⟨rfl, rfl, rfl, rfl, rfl, (fun a _ => by rw [h0] at a; cases a), rfl⟩ h.xs
    · cases e
  | nil =>
    obtain ⟨x, hx, _, hp, rfl⟩ := frame_data h0 e
    unfold sentBy
    exact Ok.set (s := { s with credit := s.credit - f.body.length, turn := x.id }) (h.like ⟨rfl, rfl, rfl, rfl, rfl, fun a _ => a, rfl⟩ h.xs) (piece_ok (h.xs x hx) hp)
theorem Ok.send : ∀ (n : Nat) {s : State} (m : Nat), Ok s → Ok (s.send n m).2
  | 0, s, m, h => h
  | n + 1, s, m, h => by
    unfold State.send
    split
    · exact h
    · rename_i x e
      exact Ok.send n _ (h.frame (f := x.1) (t := x.2) e)
theorem be_length (n x : Nat) : (be n x).length = n := by unfold be; simp
theorem bytes_length (f : Frame) : f.bytes.length = 8 + f.body.length := by
  unfold Frame.bytes
  simp only [List.length_append, List.length_cons, be_length]
  omega
/-! ### what comes -/
theorem Ok.kill {s : State} (h : Ok s) (k : Nat) : Ok (s.kill k).1 :=
  ⟨h.side, .nil, (fun x hx => nomatch hx), h.nx, h.nx0, (fun i hi => nomatch hi), (fun i hi => nomatch hi), h.gr, Nat.zero_le _, Nat.zero_le _, fun _ => ⟨rfl, rfl, rfl⟩⟩
theorem Ok.same {s t : State} (h : Ok s) (e1 : t.side = s.side) (e2 : t.next = s.next) (e3 : t.greatest = s.greatest) (e4 : t.exchanges = s.exchanges) (e5 : t.dead = s.dead) (e6 : s.dead = false) : Ok t := by
  have hi : ids t = ids s := by unfold ids; rw [e4]
  have ho := own_congr e1
  refine ⟨by rw [e1]; exact h.side, by rw [hi]; exact h.srt, by rw [e4]; exact h.xs, by rw [e2, e1]; exact h.nx, by rw [e2]; exact h.nx0, by rw [hi, ho, e2]; exact h.ours, by rw [hi, ho, e3]; exact h.others,
    by rw [e3, ho]; exact h.gr, by rw [mine_ids, hi, ho, ← mine_ids]; exact h.mine, by rw [theirs_ids, hi, ho, ← theirs_ids]; exact h.theirs, fun z => by rw [e5, e6] at z; cases z⟩
theorem Ok.dataFor {s : State} (h : Ok s) {x : Exchange} (hx : x ∈ s.exchanges) (f : Frame) : Ok (s.dataFor x f).1 := by
  have hd := h.alive hx
  have xo := h.xs x hx
  unfold State.dataFor
  dsimp only
  split
  · exact h.kill 6
  · split
    · exact h.kill 4
    · rename_i hn
      rw [not_or] at hn
      refine Ok.set (s := { s with left := s.left - f.body.length }) (h.same rfl rfl rfl rfl rfl hd) ⟨xo.pos, xo.out, ?_, xo.sent⟩
      have := xo.sum
      show x.left - f.body.length + (x.got ++ f.body).length + x.owed = 16384
      rw [List.length_append]
      omega
theorem Ok.dataForNone {s : State} (h : Ok s) (hd : s.dead = false) (n : Nat) : Ok (s.dataForNone n).1 := by
  unfold State.dataForNone
  split
  · exact h.kill 4
  · exact Ok.back (s := { s with left := s.left - n }) (h.same rfl rfl rfl rfl rfl hd) hd n
theorem not_own_of {s : State} (h : Ok s) {i j : Nat} (hi : s.own i = true) (hj : s.own j = false) : i ≠ j := fun e => by rw [e, hj] at hi; cases hi
theorem filter_perm_len {α : Type} {p : α → Bool} {l m : List α} (h : l.Perm m) : (l.filter p).length = (m.filter p).length := (h.filter p).length_eq
theorem Ok.opens {s : State} (h : Ok s) (hd : s.dead = false) {k : Nat} (hk : s.own k = false) (hg : s.greatest < k) (ht : s.theirs < 64) : Ok (({ s with greatest := k } : State).open_ (fresh k)) := by
  have hn : k ∉ ids s := fun hm => by have := h.others k hm hk; omega
  have hp : (ids (({ s with greatest := k } : State).open_ (fresh k))).Perm (k :: ids s) := (put_perm (fresh k) s.exchanges).map (·.id)
  have hm : ∀ i, i ∈ ids (({ s with greatest := k } : State).open_ (fresh k)) → i = k ∨ i ∈ ids s := fun i hi => by
    rcases List.mem_cons.mp (hp.mem_iff.mp hi) with e | e
    · exact .inl e
    · exact .inr e
  refine ⟨h.side, put_sorted (fresh k) s.exchanges h.srt hn, fun x hx => ?_, h.nx, h.nx0, fun i hi ho => ?_, fun i hi ho => ?_, .inr hk, ?_, ?_, fun z => ?_⟩
  · rcases mem_open.mp hx with e | hx
    · subst e; exact .fresh (Nat.lt_of_le_of_lt (Nat.zero_le _) hg)
    · exact h.xs x hx
  · have ho : s.own i = true := ho
    rcases hm i hi with e | hi
    · rw [e, hk] at ho; cases ho
    · exact h.ours i hi ho
  · have ho : s.own i = false := ho
    rcases hm i hi with e | hi
    · exact Nat.le_of_eq e
    · exact Nat.le_of_lt (Nat.lt_of_le_of_lt (h.others i hi ho) hg)
  · rw [mine_ids, filter_perm_len hp, List.filter_cons]
    have e : (({ s with greatest := k } : State).open_ (fresh k)).own = s.own := rfl
    rw [e, hk]
    have := h.mine
    rw [mine_ids] at this
    exact this
  · rw [theirs_ids, filter_perm_len hp, List.filter_cons]
    have e : (({ s with greatest := k } : State).open_ (fresh k)).own = s.own := rfl
    simp only [e, hk]
    rw [theirs_ids] at ht
    simp only [Bool.not_false, if_true, List.length_cons]
    omega
  · have z : s.dead = true := z
    rw [hd] at z; cases z
theorem Ok.asks {s : State} (h : Ok s) (hd : s.dead = false) (ht : s.mine < 64) : Ok { (s.open_ (fresh s.next)) with next := s.next + 2 } := by
  have hk : s.own s.next = true := by unfold State.own; rw [h.nx]; simp
  have hn : s.next ∉ ids s := fun hm => by have := h.ours _ hm hk; omega
  have hp : (ids ({ (s.open_ (fresh s.next)) with next := s.next + 2 } : State)).Perm (s.next :: ids s) := (put_perm (fresh s.next) s.exchanges).map (·.id)
  have hm : ∀ i, i ∈ ids ({ (s.open_ (fresh s.next)) with next := s.next + 2 } : State) → i = s.next ∨ i ∈ ids s := fun i hi => by
    rcases List.mem_cons.mp (hp.mem_iff.mp hi) with e | e
    · exact .inl e
    · exact .inr e
  refine ⟨h.side, put_sorted (fresh s.next) s.exchanges h.srt hn, fun x hx => ?_, ?_, ?_, fun i hi ho => ?_, fun i hi ho => ?_, h.gr, ?_, ?_, fun z => ?_⟩
  · rcases mem_open.mp hx with e | hx
    · subst e; exact .fresh h.nx0
    · exact h.xs x hx
  · show (s.next + 2) % 2 = s.side % 2
    have := h.nx; omega
  · show 0 < s.next + 2
    omega
  · have ho : s.own i = true := ho
    show i < s.next + 2
    rcases hm i hi with e | hi
    · omega
    · have := h.ours i hi ho; omega
  · have ho : s.own i = false := ho
    rcases hm i hi with e | hi
    · rw [e, hk] at ho; cases ho
    · exact h.others i hi ho
  · rw [mine_ids, filter_perm_len hp, List.filter_cons]
    have e : ({ (s.open_ (fresh s.next)) with next := s.next + 2 } : State).own = s.own := rfl
    rw [e, hk]
    rw [mine_ids] at ht
    simp only [if_true, List.length_cons]
    omega
  · rw [theirs_ids, filter_perm_len hp, List.filter_cons]
    have e : ({ (s.open_ (fresh s.next)) with next := s.next + 2 } : State).own = s.own := rfl
    simp only [e, hk]
    have := h.theirs
    rw [theirs_ids] at this
    simpa using this
  · have z : s.dead = true := z
    rw [hd] at z; cases z
/-- one number that is asked anew -/
def anew1 (x : State × List Told) (k : Nat) : State × List Told :=
  let t : State := { x.1 with greatest := k }
  if t.over = true ∨ OPEN ≤ t.theirs then (t.say (stopFrame k (if t.over = true then 1 else 2)), x.2) else (t.open_ (fresh k), x.2 ++ [.asks k])
/-- the first number of the other's behind the greatest -/
def after (s : State) : Nat := if s.greatest = 0 then (if s.side = 1 then 2 else 1) else s.greatest + 2
theorem anew_eq (s : State) (i : Nat) : s.anew i = if OPEN < (i - after s) / 2 + 1 then none else some ((List.range ((i - after s) / 2 + 1)).foldl (fun x j => anew1 x (after s + 2 * j)) (s, [])) := rfl
theorem Ok.anew1 {x : State × List Told} {k : Nat} (h : Ok x.1) (hd : x.1.dead = false) (hk : x.1.own k = false) (hg : x.1.greatest < k) :
    Ok (anew1 x k).1 ∧ (anew1 x k).1.dead = false ∧ (anew1 x k).1.side = x.1.side ∧ (anew1 x k).1.greatest = k ∧ (anew1 x k).1.over = x.1.over := by
  unfold Os.anew1
  dsimp only
  split
  · refine ⟨?_, hd, rfl, rfl, rfl⟩
    refine Ok.say (s := { x.1 with greatest := k }) ⟨h.side, h.srt, h.xs, h.nx, h.nx0, h.ours, fun i hi ho => ?_, .inr hk, h.mine, h.theirs, h.dead⟩ hd _
    exact Nat.le_of_lt (Nat.lt_of_le_of_lt (h.others i hi ho) hg)
  · rename_i hn
    rw [not_or] at hn
    refine ⟨h.opens hd hk hg ?_, hd, rfl, rfl, rfl⟩
    have : ¬ 64 ≤ x.1.theirs := hn.2
    omega
theorem after_own {s : State} (h : Ok s) : s.own (after s) = false ∧ s.greatest < after s ∧ 0 < after s := by
  unfold after
  split
  · rename_i e
    rw [e]
    rcases h.side with q | q
    · rw [if_pos q]; unfold State.own; rw [q]; decide
    · rw [if_neg (by omega)]; unfold State.own; rw [q]; decide
  · rename_i e
    rcases h.gr with q | q
    · exact absurd q e
    · refine ⟨?_, by omega, by omega⟩
      unfold State.own at q ⊢
      rw [show (s.greatest + 2) % 2 = s.greatest % 2 by omega]
      exact q
theorem own_add {s : State} {a : Nat} (j : Nat) : s.own (a + 2 * j) = s.own a := by
  unfold State.own
  rw [show (a + 2 * j) % 2 = a % 2 by omega]
theorem anew_run {s : State} (h : Ok s) (hd : s.dead = false) : ∀ n : Nat, let r := (List.range n).foldl (fun x j => anew1 x (after s + 2 * j)) (s, ([] : List Told))
    Ok r.1 ∧ r.1.dead = false ∧ r.1.side = s.side ∧ (r.1.greatest < after s + 2 * n) ∧ (0 < n → r.1.greatest = after s + 2 * (n - 1)) ∧ r.1.over = s.over
  | 0 => ⟨h, hd, rfl, (after_own h).2.1, fun z => absurd z (Nat.lt_irrefl _), rfl⟩
  | n + 1 => by
    obtain ⟨h1, h2, h3, h4, _, h6⟩ := anew_run h hd n
    dsimp only
    rw [List.range_succ, List.foldl_append]
    generalize (List.range n).foldl (fun x j => anew1 x (after s + 2 * j)) (s, ([] : List Told)) = r at h1 h2 h3 h4 h6
    obtain ⟨g1, g2, g3, g4, g5⟩ := Ok.anew1 (k := after s + 2 * n) h1 h2 (by rw [own_congr h3, own_add]; exact (after_own h).1) h4
    exact ⟨g1, g2, g3.trans h3, by show (anew1 r _).1.greatest < _; rw [g4]; omega, fun _ => g4, g5.trans h6⟩
theorem Ok.anew {s : State} {i : Nat} {t : State × List Told} (h : Ok s) (hd : s.dead = false) (e : s.anew i = some t) : Ok t.1 ∧ t.1.dead = false ∧ t.1.side = s.side := by
  rw [anew_eq] at e
  split at e
  · cases e
  · cases e
    obtain ⟨h1, h2, h3, _⟩ := anew_run h hd ((i - after s) / 2 + 1)
    exact ⟨h1, h2, h3⟩
theorem Ok.loses {l : List Exchange} : ∀ {s : State}, Ok s → s.dead = false → Ok (l.foldl (fun (t : State) x => (t.drop x.id).back x.got.length) s) := by
  induction l with
  | nil => intro s h _; exact h
  | cons x l ih => intro s h hd; exact ih ((h.drop x.id).back hd _) (by rw [set_back_dead]; exact hd)
theorem Ok.takes {s : State} (h : Ok s) (hd : s.dead = false) (f : Frame) : Ok (s.takes f).1 := by
  unfold State.takes
  split
  · split
    · rename_i x e; exact h.dataFor (find_some e).1 f
    · split
      · split
        · exact h.dataForNone hd _
        · exact h.kill 3
      · split
        · exact h.dataForNone hd _
        · split
          · exact h.kill 3
          · rename_i t e
            obtain ⟨h1, h2, _⟩ := h.anew hd e
            dsimp only
            split
            · rename_i x e2; exact h1.dataFor (find_some e2).1 f
            · exact h1.dataForNone h2 _
  · dsimp only
    split
    · split
      · exact h.kill 5
      · exact h.same rfl rfl rfl rfl rfl hd
    · split
      · rename_i x e
        split
        · exact h.kill 5
        · have xo := h.xs x (find_some e).1
          exact h.set ⟨xo.pos, xo.out, xo.sum, xo.sent⟩
      · generalize (if s.own f.id = true then decide (f.id < s.next) else decide (f.id ≤ s.greatest)) = b
        split
        · exact h
        · exact h.kill 3
  · split
    · rename_i x e
      exact (h.drop f.id).back hd _
    · generalize (if s.own f.id = true then decide (f.id < s.next) else decide (f.id ≤ s.greatest)) = b
      split
      · exact h
      · split
        · exact h.kill 3
        · split
          · exact h.kill 3
          · rename_i t e
            obtain ⟨h1, h2, _⟩ := h.anew hd e
            split
            · exact (h1.drop f.id).back h2 _
            · exact h1
  · exact h.say hd _
  · exact h
  · dsimp only
    exact Ok.loses (s := { s with gone := true }) (h.same rfl rfl rfl rfl rfl hd) hd
theorem Ok.reads : ∀ (n : Nat) {s : State}, Ok s → Ok (s.reads n).1
  | 0, s, h => h
  | n + 1, s, h => by
    unfold State.reads
    split
    · exact h
    · rename_i hd
      have hd : s.dead = false := by simpa using hd
      split
      · exact h
      · exact h.kill _
      · rename_i f rest _
        exact Ok.reads n (Ok.takes (s := { s with came := rest }) (h.same rfl rfl rfl rfl rfl hd) hd f)
theorem set_set {s : State} {y z : Exchange} (h : y.id = z.id) : (s.set y).set z = s.set z := by
  unfold State.set
  simp only [List.map_map]
  congr 1
  refine List.map_congr_left fun x _ => ?_
  simp only [Function.comp_apply]
  by_cases q : x.id = y.id
  · rw [if_pos q, if_pos h, if_pos (q.trans h)]
  · rw [if_neg q, if_neg (fun z => q (z.trans h.symm))]
theorem backOf_set {s : State} {y : Exchange} (n : Nat) : (s.set y).backOf y n = s.backOf y n := by
  unfold State.backOf
  dsimp only
  rw [set_set (s := s) (y := y) (z := { y with owed := y.owed + n }) rfl, set_set (s := s) (y := y) (z := { y with owed := 0, left := y.left + (y.owed + n) }) rfl]
theorem Ok.came {s : State} (h : Ok s) (hd : s.dead = false) (b : Bytes) : Ok { s with came := b } := h.same rfl rfl rfl rfl rfl hd
theorem Ok.step {s : State} (h : Ok s) (c : Call) : Ok (step s c).1 := by
  cases c with
  | begin_ side =>
    show Ok (if side = 1 ∨ side = 2 then (Sq01.begun side, says 0) else (s, says (-1))).1
    split
    · rename_i q; exact .begun q
    · exact h
  | ask =>
    unfold Sq01.step
    dsimp only
    split
    · exact h
    · rename_i q
      split
      · exact h
      · rename_i q2
        rw [not_or] at q
        exact h.asks (by simpa using q.1) (Nat.lt_of_not_le q2)
  | put i last b =>
    unfold Sq01.step
    dsimp only
    split
    · exact h
    · split
      · exact h
      · rename_i x e
        split
        · exact h
        · rename_i he
          split
          · exact h
          · rename_i hk
            have xo := h.xs x (find_some e).1
            refine h.set ⟨xo.pos, ?_, xo.sum, fun z => absurd (xo.sent z).1 he⟩
            have hk : ¬ 65536 < x.out.length + b.length := hk
            show (x.out ++ b).length ≤ _
            rw [List.length_append]; omega
  | take i m =>
    unfold Sq01.step
    dsimp only
    split
    · exact h
    · rename_i x e
      have hx := find_some e
      have hd := h.alive hx.1
      have xo := h.xs x hx.1
      dsimp only
      rw [backOf_set]
      refine Ok.tidy (Ok.back (Ok.backOf (x := { x with got := x.got.drop m, done_ := x.done_ || _ }) (n := (x.got.take m).length) h hd xo.pos xo.out ?_ xo.sent) (by rw [backOf_dead]; exact hd) _) _
      have := xo.sum
      show x.left + (x.got.drop m).length + (x.owed + (x.got.take m).length) = 16384
      rw [List.length_drop, List.length_take]
      omega
  | halt_ i w =>
    unfold Sq01.step
    dsimp only
    split
    · exact h
    · split
      · exact h
      · rename_i x e
        have hd := h.alive (find_some e).1
        exact ((h.drop i).back hd _).say (by rw [set_back_dead]; exact hd) _
  | out m => exact Ok.tidies (h.send _ _)
  | came b =>
    unfold Sq01.step
    dsimp only
    split
    · exact h
    · rename_i hd
      exact Ok.reads _ (h.came (by simpa using hd) _)
  | still t =>
    unfold Sq01.step
    dsimp only
    split
    · exact h
    · rename_i hd
      split
      · exact h
      · exact h.say (by simpa using hd) _
  | over =>
    unfold Sq01.step
    dsimp only
    split
    · exact h
    · rename_i hd
      split
      · exact h
      · exact Ok.say (s := { s with over := true }) (h.same rfl rfl rfl rfl rfl (by simpa using hd)) (by simpa using hd) _
  | look i => exact h
  | count => exact h
end Os
set_option linter.all false
namespace Os
open Sq01
/-! ### how many frames are to be sent first -/
abbrev Fl (s : State) : Nat := s.first.length
theorem back_fl (s : State) (n : Nat) : Fl (s.back n) ≤ Fl s + 1 ∧ (s.back n).came = s.came := by
  unfold State.back
  dsimp only
  split
  · exact ⟨Nat.le_succ _, rfl⟩
  · refine ⟨?_, rfl⟩
    show (s.first ++ [_]).length ≤ _
    rw [List.length_append]; exact Nat.le_refl _
theorem backOf_fl (s : State) (x : Exchange) (n : Nat) : Fl (s.backOf x n) ≤ Fl s + 1 ∧ (s.backOf x n).came = s.came := by
  unfold State.backOf
  dsimp only
  split
  · exact ⟨Nat.le_succ _, rfl⟩
  · refine ⟨?_, rfl⟩
    show (s.first ++ [_]).length ≤ _
    rw [List.length_append]; exact Nat.le_refl _
theorem tidy_fl (s : State) (i : Nat) : (s.tidy i).first = s.first ∧ (s.tidy i).came = s.came := by
  unfold State.tidy
  split
  · split <;> exact ⟨rfl, rfl⟩
  · exact ⟨rfl, rfl⟩
theorem tidies_fl : ∀ (l : List Exchange) (s : State), (l.foldl (fun (t : State) x => t.tidy x.id) s).first = s.first ∧ (l.foldl (fun (t : State) x => t.tidy x.id) s).came = s.came
  | [], s => ⟨rfl, rfl⟩
  | x :: l, s => by
    rw [List.foldl_cons]
    have h := tidies_fl l (s.tidy x.id)
    have g := tidy_fl s x.id
    exact ⟨h.1.trans g.1, h.2.trans g.2⟩
theorem frame_fl {s t : State} {m : Nat} {f : Frame} (e : s.frame m = some (f, t)) : Fl t ≤ Fl s ∧ t.came = s.came := by
  cases h0 : s.first with
  | cons g l =>
    unfold State.frame at e
    rw [h0] at e
    dsimp only at e
    split at e
    · cases e
      refine ⟨?_, rfl⟩
      show l.length ≤ s.first.length
      rw [h0]; exact Nat.le_succ _
    · cases e
  | nil =>
    obtain ⟨x, hx, _, hp, rfl⟩ := frame_data h0 e
    exact ⟨Nat.le_refl _, rfl⟩
theorem send_fl : ∀ (n : Nat) (s : State) (m : Nat), Fl (s.send n m).2 ≤ Fl s ∧ (s.send n m).2.came = s.came
  | 0, s, m => ⟨Nat.le_refl _, rfl⟩
  | n + 1, s, m => by
    unfold State.send
    split
    · exact ⟨Nat.le_refl _, rfl⟩
    · rename_i x e
      have h := frame_fl (f := x.1) (t := x.2) e
      have g := send_fl n x.2 (m - x.1.bytes.length)
      exact ⟨Nat.le_trans g.1 h.1, g.2.trans h.2⟩
theorem kill_fl (s : State) (k : Nat) : Fl (s.kill k).1 = 0 ∧ (s.kill k).1.came = [] := ⟨rfl, rfl⟩
theorem dataFor_fl (s : State) (x : Exchange) (f : Frame) : Fl (s.dataFor x f).1 ≤ Fl s + 1 ∧ (s.dataFor x f).1.came.length ≤ s.came.length := by
  unfold State.dataFor
  dsimp only
  split
  · exact ⟨Nat.zero_le _, Nat.zero_le _⟩
  · split
    · exact ⟨Nat.zero_le _, Nat.zero_le _⟩
    · exact ⟨Nat.le_succ _, Nat.le_refl _⟩
theorem dataForNone_fl (s : State) (n : Nat) : Fl (s.dataForNone n).1 ≤ Fl s + 1 ∧ (s.dataForNone n).1.came.length ≤ s.came.length := by
  unfold State.dataForNone
  split
  · exact ⟨Nat.zero_le _, Nat.zero_le _⟩
  · have h := back_fl { s with left := s.left - n } n
    exact ⟨h.1, Nat.le_of_eq (congrArg List.length h.2)⟩
theorem anew1_fl (x : State × List Told) (k : Nat) : Fl (anew1 x k).1 ≤ Fl x.1 + 1 ∧ (anew1 x k).1.came = x.1.came := by
  unfold anew1
  dsimp only
  split
  · refine ⟨?_, rfl⟩
    show (x.1.first ++ [_]).length ≤ _
    rw [List.length_append]; exact Nat.le_refl _
  · exact ⟨Nat.le_succ _, rfl⟩
theorem anew_run_fl (s : State) (g : Nat → Nat) : ∀ n : Nat, Fl ((List.range n).foldl (fun x j => anew1 x (g j)) (s, ([] : List Told))).1 ≤ Fl s + n ∧ ((List.range n).foldl (fun x j => anew1 x (g j)) (s, ([] : List Told))).1.came = s.came
  | 0 => ⟨Nat.le_refl _, rfl⟩
  | n + 1 => by
    rw [List.range_succ, List.foldl_append]
    have h := anew_run_fl s g n
    generalize (List.range n).foldl (fun x j => anew1 x (g j)) (s, ([] : List Told)) = r at h
    have q := anew1_fl r (g n)
    refine ⟨?_, q.2.trans h.2⟩
    have h1 := h.1
    have q1 := q.1
    show Fl (anew1 r (g n)).1 ≤ _
    omega
theorem anew_fl {s : State} {i : Nat} {t : State × List Told} (e : s.anew i = some t) : Fl t.1 ≤ Fl s + 64 ∧ t.1.came = s.came := by
  rw [anew_eq] at e
  split at e
  · cases e
  · rename_i hn
    cases e
    have h := anew_run_fl s (fun j => after s + 2 * j) ((i - after s) / 2 + 1)
    refine ⟨?_, h.2⟩
    have h1 := h.1
    have hn : ¬ 64 < (i - after s) / 2 + 1 := hn
    omega
theorem loses_fl : ∀ (l : List Exchange) (s : State), Fl (l.foldl (fun (t : State) x => (t.drop x.id).back x.got.length) s) ≤ Fl s + l.length ∧ (l.foldl (fun (t : State) x => (t.drop x.id).back x.got.length) s).came = s.came
  | [], s => ⟨Nat.le_refl _, rfl⟩
  | x :: l, s => by
    rw [List.foldl_cons]
    have h := loses_fl l ((s.drop x.id).back x.got.length)
    have g := back_fl (s.drop x.id) x.got.length
    refine ⟨?_, h.2.trans g.2⟩
    have h1 := h.1
    have g1 : Fl ((s.drop x.id).back x.got.length) ≤ Fl s + 1 := g.1
    rw [List.length_cons]
    omega
theorem lost_len {s : State} (h : Ok s) (g : Nat) : (s.exchanges.filter fun x => s.own x.id && decide (g < x.id)).length ≤ 64 := by
  refine Nat.le_trans ?_ h.mine
  unfold State.mine
  have e : (s.exchanges.filter fun x => s.own x.id && decide (g < x.id)) = (s.exchanges.filter fun x => decide (g < x.id)).filter fun x => s.own x.id := by
    rw [List.filter_filter]
  rw [e]
  exact filter_sub_len _ _ _
theorem takes_fl {s : State} (h : Ok s) (f : Frame) : Fl (s.takes f).1 ≤ Fl s + 65 ∧ (s.takes f).1.came.length ≤ s.came.length := by
  have le1 : ∀ {a b : Nat}, a ≤ b + 1 → a ≤ b + 65 := fun h => by omega
  unfold State.takes
  split
  · split
    · exact ⟨le1 (dataFor_fl s _ f).1, (dataFor_fl s _ f).2⟩
    · split
      · split
        · exact ⟨le1 (dataForNone_fl s _).1, (dataForNone_fl s _).2⟩
        · exact ⟨Nat.zero_le _, Nat.zero_le _⟩
      · split
        · exact ⟨le1 (dataForNone_fl s _).1, (dataForNone_fl s _).2⟩
        · split
          · exact ⟨Nat.zero_le _, Nat.zero_le _⟩
          · rename_i t e
            have a := anew_fl e
            dsimp only
            split
            · rename_i x _
              have q := dataFor_fl t.1 x f
              refine ⟨?_, Nat.le_trans q.2 (Nat.le_of_eq (congrArg List.length a.2))⟩
              have q1 := q.1
              have a1 := a.1
              omega
            · have q := dataForNone_fl t.1 f.body.length
              refine ⟨?_, Nat.le_trans q.2 (Nat.le_of_eq (congrArg List.length a.2))⟩
              have q1 := q.1
              have a1 := a.1
              omega
  · dsimp only
    split
    · split
      · exact ⟨Nat.zero_le _, Nat.zero_le _⟩
      · exact ⟨Nat.le_add_right _ _, Nat.le_refl _⟩
    · split
      · split
        · exact ⟨Nat.zero_le _, Nat.zero_le _⟩
        · exact ⟨Nat.le_add_right _ _, Nat.le_refl _⟩
      · generalize (if s.own f.id = true then decide (f.id < s.next) else decide (f.id ≤ s.greatest)) = b
        split
        · exact ⟨Nat.le_add_right _ _, Nat.le_refl _⟩
        · exact ⟨Nat.zero_le _, Nat.zero_le _⟩
  · split
    · rename_i x e
      have q := back_fl (s.drop f.id) x.got.length
      exact ⟨le1 q.1, Nat.le_of_eq (congrArg List.length q.2)⟩
    · generalize (if s.own f.id = true then decide (f.id < s.next) else decide (f.id ≤ s.greatest)) = b
      split
      · exact ⟨Nat.le_add_right _ _, Nat.le_refl _⟩
      · split
        · exact ⟨Nat.zero_le _, Nat.zero_le _⟩
        · split
          · exact ⟨Nat.zero_le _, Nat.zero_le _⟩
          · rename_i t e
            have a := anew_fl e
            have a1 := a.1
            split
            · rename_i x _
              have q := back_fl (t.1.drop f.id) x.got.length
              have q1 : Fl ((t.1.drop f.id).back x.got.length) ≤ Fl t.1 + 1 := q.1
              refine ⟨?_, Nat.le_of_eq (congrArg List.length (q.2.trans a.2))⟩
              show Fl ((t.1.drop f.id).back x.got.length) ≤ _
              omega
            · exact ⟨by omega, Nat.le_of_eq (congrArg List.length a.2)⟩
  · refine ⟨?_, Nat.le_refl _⟩
    show (s.first ++ [_]).length ≤ _
    rw [List.length_append]
    exact Nat.add_le_add_left (by show 1 ≤ 65; omega) _
  · exact ⟨Nat.le_add_right _ _, Nat.le_refl _⟩
  · dsimp only
    have q := loses_fl (s.exchanges.filter fun x => s.own x.id && decide (number f.body < x.id)) { s with gone := true }
    have l := lost_len h (number f.body)
    refine ⟨?_, Nat.le_of_eq (congrArg List.length q.2)⟩
    have q1 : _ ≤ Fl s + _ := q.1
    omega
theorem begins_len {b rest : Bytes} {f : Frame} (e : begins b = .frame f rest) : rest.length + 8 ≤ b.length := by
  unfold begins at e
  dsimp only at e
  split at e
  · cases e
  · split at e
    · cases e
    · split at e
      · cases e
      · split at e
        · cases e
        · split at e
          · rename_i h1 _ _ h2 _
            cases e
            rw [List.length_drop]
            have h2 : ¬ b.length < 8 + number (b.take 2) := h2
            have h1 : ¬ b.length < 8 := h1
            show b.length - (8 + number (b.take 2)) + 8 ≤ b.length
            omega
          · cases e
theorem reads_fl : ∀ (n : Nat) {s : State}, Ok s → Fl (s.reads n).1 + 65 * (s.reads n).1.came.length ≤ Fl s + 65 * s.came.length
  | 0, s, h => Nat.le_refl _
  | n + 1, s, h => by
    unfold State.reads
    split
    · exact Nat.le_refl _
    · rename_i hd
      have hd : s.dead = false := by simpa using hd
      split
      · exact Nat.le_refl _
      · exact Nat.zero_le _
      · rename_i f rest e
        have h1 : Ok ({ s with came := rest } : State) := h.came hd rest
        have h2 := takes_fl h1 f
        have h3 := reads_fl n (Ok.takes h1 hd f)
        have h4 := begins_len e
        have h2a : Fl (({ s with came := rest } : State).takes f).1 ≤ Fl s + 65 := h2.1
        have h2b : (({ s with came := rest } : State).takes f).1.came.length ≤ rest.length := h2.2
        dsimp only
        omega
def wt : Call → Nat
  | .came b => b.length + 1
  | _ => 1
theorem step_fl {s : State} (h : Ok s) (c : Call) : Fl (step s c).1 + 65 * (step s c).1.came.length ≤ Fl s + 65 * s.came.length + 65 * wt c := by
  have key : ∀ {t : State}, Fl t ≤ Fl s + 2 → t.came = s.came → Fl t + 65 * t.came.length ≤ Fl s + 65 * s.came.length + 65 * 1 := fun {t} a b => by rw [b]; omega
  have same : Fl s + 65 * s.came.length ≤ Fl s + 65 * s.came.length + 65 * 1 := Nat.le_add_right _ _
  cases c with
  | begin_ side =>
    show Fl (if side = 1 ∨ side = 2 then (Sq01.begun side, says 0) else (s, says (-1))).1 + 65 * (if side = 1 ∨ side = 2 then (Sq01.begun side, says 0) else (s, says (-1))).1.came.length ≤ _
    split
    · exact Nat.zero_le _
    · exact same
  | ask =>
    unfold Sq01.step
    dsimp only
    split
    · exact same
    · split
      · exact same
      · exact same
  | put i last b =>
    unfold Sq01.step
    dsimp only
    split
    · exact same
    · split
      · exact same
      · split
        · exact same
        · split <;> exact same
  | take i m =>
    unfold Sq01.step
    dsimp only
    split
    · exact same
    · rename_i x e
      dsimp only
      generalize hy : ({ x with got := x.got.drop m, done_ := x.done_ || (x.whole && x.got.drop m == []) } : Exchange) = y
      have g1 := backOf_fl (s.set y) y (x.got.take m).length
      have g2 := back_fl ((s.set y).backOf y (x.got.take m).length) (x.got.take m).length
      have g3 := tidy_fl (((s.set y).backOf y (x.got.take m).length).back (x.got.take m).length) i
      refine key ?_ (g3.2.trans (g2.2.trans g1.2))
      have e3 : Fl ((((s.set y).backOf y (x.got.take m).length).back (x.got.take m).length).tidy i) = Fl (((s.set y).backOf y (x.got.take m).length).back (x.got.take m).length) := congrArg List.length g3.1
      have g1a : Fl ((s.set y).backOf y (x.got.take m).length) ≤ Fl s + 1 := g1.1
      have g2a := g2.1
      rw [e3]
      omega
  | halt_ i w =>
    unfold Sq01.step
    dsimp only
    split
    · exact same
    · split
      · exact same
      · rename_i x e
        have g := back_fl (s.drop i) x.got.length
        have g1 : Fl ((s.drop i).back x.got.length) ≤ Fl s + 1 := g.1
        refine key ?_ g.2
        show (((s.drop i).back x.got.length).first ++ [_]).length ≤ _
        rw [List.length_append]
        show Fl ((s.drop i).back x.got.length) + 1 ≤ _
        omega
  | out m =>
    unfold Sq01.step
    dsimp only
    have g := send_fl (m + 1) s (min m 1048576)
    have t := tidies_fl (s.send (m + 1) (min m 1048576)).2.exchanges (s.send (m + 1) (min m 1048576)).2
    refine key ?_ (t.2.trans g.2)
    have e : Fl ((s.send (m + 1) (min m 1048576)).2.exchanges.foldl (fun (t : State) x => t.tidy x.id) (s.send (m + 1) (min m 1048576)).2) = Fl (s.send (m + 1) (min m 1048576)).2 := congrArg List.length t.1
    rw [e]
    have := g.1
    omega
  | came b =>
    unfold Sq01.step
    dsimp only
    split
    · exact Nat.le_add_right _ _
    · rename_i hd
      have g := reads_fl (s.came.length + b.length + 1) (h.came (by simpa using hd) (s.came ++ b))
      refine Nat.le_trans g ?_
      show Fl s + 65 * (s.came ++ b).length ≤ Fl s + 65 * s.came.length + 65 * (b.length + 1)
      rw [List.length_append]
      omega
  | still t =>
    unfold Sq01.step
    dsimp only
    split
    · exact same
    · split
      · exact same
      · refine key ?_ rfl
        show (s.first ++ [_]).length ≤ _
        rw [List.length_append]
        exact Nat.le_succ _
  | over =>
    unfold Sq01.step
    dsimp only
    split
    · exact same
    · split
      · exact same
      · refine key ?_ rfl
        show (s.first ++ [_]).length ≤ _
        rw [List.length_append]
        exact Nat.le_succ _
  | look i => exact same
  | count => exact same
end Os
set_option linter.all false
namespace Os
open Sq01
/-! ### what is sent: the number that is enough does not matter -/
theorem piece_le {s : State} {x : Exchange} {m : Nat} {f : Frame} (h : s.piece x m = some f) : f.body.length ≤ m := by
  unfold State.piece at h
  dsimp only at h
  split at h
  · cases h
  · split at h
    · cases h
      show (x.out.take _).length ≤ m
      rw [List.length_take]
      exact Nat.le_trans (Nat.min_le_left _ _) (Nat.le_trans (Nat.min_le_left _ _) (Nat.le_trans (Nat.min_le_left _ _) (Nat.min_le_right _ _)))
    · split at h
      · cases h; exact Nat.zero_le _
      · cases h
theorem frame_le {s t : State} {m : Nat} {f : Frame} (e : s.frame m = some (f, t)) : f.bytes.length ≤ m := by
  cases h0 : s.first with
  | cons g l =>
    unfold State.frame at e
    rw [h0] at e
    dsimp only at e
    split at e
    · rename_i q; cases e; exact q
    · cases e
  | nil =>
    obtain ⟨x, hx, h8, hp, _⟩ := frame_data h0 e
    rw [bytes_length]
    have := piece_le hp
    omega
theorem send_fuel : ∀ (n k : Nat) (s : State) (m : Nat), m < n → m < k → s.send n m = s.send k m
  | 0, _, _, _, h, _ => absurd h (Nat.not_lt_zero _)
  | _ + 1, 0, _, _, _, h => absurd h (Nat.not_lt_zero _)
  | n + 1, k + 1, s, m, h1, h2 => by
    unfold State.send
    split
    · rfl
    · rename_i x e
      have hl := frame_le (f := x.1) (t := x.2) e
      rw [bytes_length] at hl
      dsimp only
      rw [send_fuel n k x.2 (m - x.1.bytes.length) (by rw [bytes_length]; omega) (by rw [bytes_length]; omega)]
/-- what is sent into a room -/
def sends (s : State) (m : Nat) : Bytes × State := s.send (m + 1) m
theorem sends_of {s : State} {n m : Nat} (h : m < n) : s.send n m = sends s m := send_fuel _ _ _ _ h (Nat.lt_succ_self _)
theorem sends_none {s : State} {m : Nat} (h : s.frame m = none) : sends s m = ([], s) := by
  unfold sends State.send
  rw [h]
theorem sends_some {s t : State} {m : Nat} {f : Frame} (h : s.frame m = some (f, t)) : sends s m = (f.bytes ++ (sends t (m - f.bytes.length)).1, (sends t (m - f.bytes.length)).2) := by
  have hl := frame_le h
  have h8 := bytes_length f
  unfold sends
  rw [State.send, h]
  dsimp only
  rw [sends_of (s := t) (n := m) (m := m - f.bytes.length) (by omega)]
  rfl
/-- the frames that are to be sent first, as many as go into the room -/
def sendFirst : List Frame → Nat → Bytes × List Frame
  | [], _ => ([], [])
  | f :: l, m => if f.bytes.length ≤ m then (f.bytes ++ (sendFirst l (m - f.bytes.length)).1, (sendFirst l (m - f.bytes.length)).2) else ([], f :: l)
theorem sends_first : ∀ (l : List Frame) (s : State) (m : Nat), s.first = l → sends s m =
    (if (sendFirst l m).2 = [] then ((sendFirst l m).1 ++ (sends { s with first := [] } (m - (sendFirst l m).1.length)).1, (sends { s with first := [] } (m - (sendFirst l m).1.length)).2)
      else ((sendFirst l m).1, { s with first := (sendFirst l m).2 }))
  | [], s, m, h => by
    have e : ({ s with first := [] } : State) = s := by cases s; simp only at h; subst h; rfl
    simp only [sendFirst, if_true, List.nil_append, List.length_nil, Nat.sub_zero, e]
  | f :: l, s, m, h => by
    by_cases q : f.bytes.length ≤ m
    · have hf : s.frame m = some (f, { s with first := l }) := by
        unfold State.frame
        rw [h]
        dsimp only
        rw [if_pos q]
      have ih := sends_first l { s with first := l } (m - f.bytes.length) rfl
      rw [sends_some hf, ih]
      simp only [sendFirst, if_pos q]
      by_cases z : (sendFirst l (m - f.bytes.length)).2 = []
      · simp only [z, if_true, List.append_assoc, List.length_append, Nat.sub_sub]
      · simp only [z, if_false]
    · have hf : s.frame m = none := by
        unfold State.frame
        rw [h]
        dsimp only
        rw [if_neg q]
      rw [sends_none hf]
      simp only [sendFirst, if_neg q]
      have e : ({ s with first := f :: l } : State) = s := by cases s; simp only at h; subst h; rfl
      simp [e]
theorem sendFirst_le : ∀ (l : List Frame) (m : Nat), (sendFirst l m).1.length ≤ m
  | [], m => Nat.zero_le _
  | f :: l, m => by
    unfold sendFirst
    split
    · rename_i q
      have := sendFirst_le l (m - f.bytes.length)
      simp only [List.length_append]
      omega
    · exact Nat.zero_le _
/-! ### data by turns -/
/-- how many bytes x can send into room m behind the head -/
def size (s : State) (x : Exchange) (m : Nat) : Nat := min (min (min 1024 m) (min x.credit s.credit)) x.out.length
def can (s : State) (x : Exchange) (m : Nat) : Bool := if x.out = [] then x.ended && !x.sent else decide (0 < size s x m)
def cut (s : State) (x : Exchange) (m : Nat) : Frame := ⟨1, x.ended && (x.out.drop (size s x m)).isEmpty, x.id, x.out.take (size s x m)⟩
theorem piece_eq {s : State} {x : Exchange} (h : x.sent = true → x.ended = true ∧ x.out = []) (m : Nat) : s.piece x m = if can s x m = true then some (cut s x m) else none := by
  unfold State.piece can cut
  change (if x.sent = true then none else if 0 < size s x m then some (⟨1, x.ended && size s x m == x.out.length, x.id, x.out.take (size s x m)⟩ : Frame) else if x.out = [] ∧ x.ended = true then some (⟨1, true, x.id, []⟩ : Frame) else none) = _
  by_cases hs : x.sent = true
  · rw [if_pos hs, if_pos (h hs).2]
    simp [hs]
  · rw [if_neg hs]
    have hs' : x.sent = false := by simpa using hs
    by_cases ho : x.out = []
    · have hz : size s x m = 0 := by unfold size; rw [ho]; simp
      rw [if_neg (by omega), if_pos ho]
      simp only [hs', ho, Bool.not_false, Bool.and_true, true_and]
      by_cases he : x.ended = true
      · simp [he]
      · simp [he]
    · rw [if_neg ho]
      by_cases hn : 0 < size s x m
      · rw [if_pos hn]
        simp only [hn, decide_true, if_true]
        have e : (size s x m == x.out.length) = (x.out.drop (size s x m)).isEmpty := by
          have hle : size s x m ≤ x.out.length := Nat.min_le_right _ _
          by_cases q : size s x m = x.out.length
          · rw [q]; simp
          · have h1 : (size s x m == x.out.length) = false := by simpa using q
            rw [h1]
            symm
            rw [Bool.eq_false_iff]
            intro z
            rw [List.isEmpty_iff, List.drop_eq_nil_iff] at z
            omega
        rw [e]
      · rw [if_neg hn]
        simp [hn, ho]
theorem find_some_map {α β : Type} (p : α → Bool) (g : α → β) : ∀ l : List α, l.findSome? (fun x => if p x = true then some (g x) else none) = (l.find? p).map g
  | [] => rfl
  | a :: l => by
    rw [List.findSome?_cons, List.find?_cons]
    by_cases h : p a = true
    · simp [h]
    · simp only [h]
      exact find_some_map p g l
/-- the frame by turns -/
theorem frame_turns {s : State} {m : Nat} (h : Ok s) (h0 : s.first = []) (hd : s.dead = false) (hm : 8 ≤ m) : s.frame m = (s.turns.find? fun x => can s x (m - 8)).map fun x => (cut s x (m - 8), sentBy s x (cut s x (m - 8))) := by
  unfold State.frame
  rw [h0]
  dsimp only
  rw [if_neg (by rw [not_or]; exact ⟨by show ¬ m < 8; omega, by rw [hd]; exact Bool.false_ne_true⟩)]
  rw [← find_some_map]
  have e0 : ({ s with first := [] } : State) = s := by cases s; simp only at h0; subst h0; rfl
  have go : ∀ l : List Exchange, (∀ x ∈ l, XOk x) → (l.findSome? fun x => (s.piece x (m - 8)).map fun f => (f, sentBy s x f)) = l.findSome? fun x => if can s x (m - 8) = true then some (cut s x (m - 8), sentBy s x (cut s x (m - 8))) else none := by
    intro l hl
    induction l with
    | nil => rfl
    | cons a l ih =>
      rw [List.findSome?_cons, List.findSome?_cons, piece_eq (hl a List.mem_cons_self).sent]
      by_cases q : can s a (m - 8) = true
      · simp [q]
      · simp only [q]
        exact ih fun x hx => hl x (List.mem_cons_of_mem _ hx)
  have := go s.turns fun x hx => h.xs x (mem_turns.mp hx)
  rw [← this]
  have e1 : HEAD = 8 := rfl
  rw [e1]
  unfold sentBy
  cases s
  simp only at h0
  subst h0
  rfl
theorem frame_small {s : State} {m : Nat} (h0 : s.first = []) (hm : m < 8 ∨ s.dead = true) : s.frame m = none := by
  unfold State.frame
  rw [h0]
  dsimp only
  exact if_pos hm
theorem turns_ids (s : State) : s.turns.map (·.id) = ((ids s).filter fun i => decide (s.turn < i)) ++ (ids s).filter fun i => decide (i ≤ s.turn) := by
  unfold State.turns ids
  rw [List.map_append, List.filter_map, List.filter_map]
  rfl
theorem sentBy_ok {s : State} {x : Exchange} {m : Nat} (h : Ok s) (hx : x ∈ s.exchanges) (hc : can s x m = true) : Ok (sentBy s x (cut s x m)) := by
  have xo := h.xs x hx
  have hp : s.piece x m = some (cut s x m) := by rw [piece_eq xo.sent, if_pos hc]
  unfold sentBy
  exact Ok.set (s := { s with credit := s.credit - (cut s x m).body.length, turn := x.id }) (h.like ⟨rfl, rfl, rfl, rfl, rfl, fun a _ => a, rfl⟩ h.xs) (piece_ok xo hp)
theorem cut_len {s : State} {x : Exchange} {m : Nat} : (cut s x m).body.length = size s x m := by
  show (x.out.take (size s x m)).length = _
  rw [List.length_take]
  exact Nat.min_eq_left (Nat.min_le_right _ _)
theorem out_step {s : State} (m : Nat) : step s (.out m) = ((sends s (min m 1048576)).2.exchanges.foldl (fun (t : State) x => t.tidy x.id) (sends s (min m 1048576)).2, ⟨(sends s (min m 1048576)).1.length, (sends s (min m 1048576)).1⟩) := by
  rw [← sends_of (s := s) (n := m + 1) (m := min m 1048576) (Nat.lt_succ_of_le (Nat.min_le_left _ _))]
  rfl
theorem sends_dead {s : State} (h : Ok s) (hd : s.dead = true) (m : Nat) : sends s m = ([], s) := sends_none (frame_small (h.dead hd).2.1 (.inr hd))
/-- tidying all: what stays -/
theorem tidies_eq {s : State} (h : Ok s) : s.exchanges.foldl (fun (t : State) x => t.tidy x.id) s = { s with exchanges := s.exchanges.filter fun x => !(x.sent && x.done_) } := by
  have go : ∀ (l : List Exchange) (t : State), (ids t).Pairwise (· < ·) → (∀ x ∈ l, x ∈ t.exchanges) → (l.map (·.id)).Nodup → l.foldl (fun (t : State) x => t.tidy x.id) t = { t with exchanges := t.exchanges.filter fun y => !(decide (y.id ∈ l.map (·.id)) && (y.sent && y.done_)) } := by
    intro l
    induction l with
    | nil => intro t _ _ _; cases t; simp; exact (List.filter_eq_self.mpr fun _ _ => rfl).symm
    | cons x l ih =>
      intro t srt hm nd
      rw [List.map_cons, List.nodup_cons] at nd
      rw [List.foldl_cons]
      have hf := find_of_mem srt (hm x List.mem_cons_self)
      have one : t.tidy x.id = { t with exchanges := t.exchanges.filter fun y => !(decide (y.id = x.id) && (y.sent && y.done_)) } := by
        unfold State.tidy
        rw [hf]
        dsimp only
        by_cases q : x.sent = true ∧ x.done_ = true
        · rw [if_pos q]
          unfold State.drop
          congr 1
          refine List.filter_congr fun y hy => ?_
          by_cases e : y.id = x.id
          · have : y = x := by
              have h1 := find_of_mem srt hy
              rw [e, hf] at h1
              exact (Option.some.inj h1).symm
            subst this
            simp [q.1, q.2]
          · simp [e]
        · rw [if_neg q]
          have e : (t.exchanges.filter fun y => !(decide (y.id = x.id) && (y.sent && y.done_))) = t.exchanges := by
            rw [List.filter_eq_self]
            intro y hy
            by_cases e : y.id = x.id
            · have : y = x := by
                have h1 := find_of_mem srt hy
                rw [e, hf] at h1
                exact (Option.some.inj h1).symm
              subst this
              have : (y.sent && y.done_) = false := by
                rw [Bool.eq_false_iff]; intro z; rw [Bool.and_eq_true] at z; exact q z
              simp [this]
            · simp [e]
          rw [e]
      rw [one, ih]
      · simp only [List.filter_filter]
        congr 1
        refine List.filter_congr fun y _ => ?_
        rw [List.map_cons]
        have em : decide (y.id ∈ x.id :: l.map (·.id)) = (decide (y.id = x.id) || decide (y.id ∈ l.map (·.id))) := by
          by_cases e : y.id = x.id <;> by_cases e2 : y.id ∈ l.map (·.id) <;> simp only [List.mem_cons, e, e2, true_or, or_true, or_self, decide_true, decide_false, Bool.or_true, Bool.true_or, Bool.or_self]
        rw [em]
        generalize decide (y.id = x.id) = p
        generalize decide (y.id ∈ l.map (·.id)) = q
        generalize y.sent = a
        generalize y.done_ = b
        revert p q a b
        decide
      · unfold ids
        exact srt.sublist (List.filter_sublist.map _)
      · intro y hy
        refine List.mem_filter.mpr ⟨hm y (List.mem_cons_of_mem _ hy), ?_⟩
        have : y.id ≠ x.id := fun e => nd.1 (by rw [← e]; exact List.mem_map.mpr ⟨y, hy, rfl⟩)
        simp [this]
      · exact nd.2
  rw [go s.exchanges s h.srt (fun x hx => hx) (h.srt.imp fun a => Nat.ne_of_lt a)]
  congr 1
  refine List.filter_congr fun y hy => ?_
  have : y.id ∈ s.exchanges.map (·.id) := List.mem_map.mpr ⟨y, hy, rfl⟩
  simp [this]
end Os
set_option linter.all false
namespace Os
open Sq01
/-! ### tidying by numbers, in any order -/
theorem tidy_eq {t : State} (srt : (ids t).Pairwise (· < ·)) (i : Nat) : t.tidy i = { t with exchanges := t.exchanges.filter fun y => !(decide (y.id = i) && (y.sent && y.done_)) } := by
  unfold State.tidy
  cases hf : t.find i with
  | none =>
    have e : (t.exchanges.filter fun y => !(decide (y.id = i) && (y.sent && y.done_))) = t.exchanges := by
      rw [List.filter_eq_self]
      intro y hy
      have : y.id ≠ i := fun e => find_none hf (by rw [← e]; exact List.mem_map.mpr ⟨y, hy, rfl⟩)
      simp [this]
    rw [e]
  | some x =>
    obtain ⟨hx, rfl⟩ := find_some hf
    have same : ∀ y ∈ t.exchanges, y.id = x.id → y = x := fun y hy e => by
      have h1 := find_of_mem srt hy
      rw [e, hf] at h1
      exact (Option.some.inj h1).symm
    dsimp only
    by_cases q : x.sent = true ∧ x.done_ = true
    · rw [if_pos q]
      unfold State.drop
      congr 1
      refine List.filter_congr fun y hy => ?_
      by_cases e : y.id = x.id
      · have := same y hy e
        subst this
        simp [q.1, q.2]
      · simp [e]
    · rw [if_neg q]
      have e : (t.exchanges.filter fun y => !(decide (y.id = x.id) && (y.sent && y.done_))) = t.exchanges := by
        rw [List.filter_eq_self]
        intro y hy
        by_cases e : y.id = x.id
        · have := same y hy e
          subst this
          have : (y.sent && y.done_) = false := by
            rw [Bool.eq_false_iff]; intro z; rw [Bool.and_eq_true] at z; exact q z
          simp [this]
        · simp [e]
      rw [e]
theorem tidy_list : ∀ (l : List Nat) (t : State), (ids t).Pairwise (· < ·) → l.foldl (fun (t : State) i => t.tidy i) t = { t with exchanges := t.exchanges.filter fun y => !(decide (y.id ∈ l) && (y.sent && y.done_)) }
  | [], t, _ => by
    cases t
    simp
    exact (List.filter_eq_self.mpr fun _ _ => rfl).symm
  | i :: l, t, srt => by
    rw [List.foldl_cons, tidy_eq srt i, tidy_list l]
    · simp only [List.filter_filter]
      congr 1
      refine List.filter_congr fun y _ => ?_
      have em : decide (y.id ∈ i :: l) = (decide (y.id = i) || decide (y.id ∈ l)) := by
        by_cases e : y.id = i <;> by_cases e2 : y.id ∈ l <;> simp only [List.mem_cons, e, e2, true_or, or_true, or_self, decide_true, decide_false, Bool.or_true, Bool.true_or, Bool.or_self]
      rw [em]
      generalize decide (y.id = i) = p
      generalize decide (y.id ∈ l) = q
      generalize y.sent = a
      generalize y.done_ = b
      revert p q a b
      decide
    · unfold ids
      exact srt.sublist (List.filter_sublist.map _)
theorem tidy_ids {s : State} {o : List Nat} (h : Ok s) (hp : o.Perm (ids s)) : o.foldl (fun (t : State) i => t.tidy i) s = s.exchanges.foldl (fun (t : State) x => t.tidy x.id) s := by
  rw [tidies_eq h, tidy_list o s h.srt]
  congr 1
  refine List.filter_congr fun y hy => ?_
  have : y.id ∈ o := hp.mem_iff.mpr (List.mem_map.mpr ⟨y, hy, rfl⟩)
  simp [this]
/-- one that is not tidied yet is still there -/
theorem tidy_find {t : State} (srt : (ids t).Pairwise (· < ·)) {i j : Nat} (n : j ≠ i) : (t.tidy i).find j = t.find j := by
  rw [tidy_eq srt]
  unfold State.find
  show (List.filter _ t.exchanges).find? _ = _
  rw [List.find?_filter]
  congr 1
  funext y
  by_cases e : y.id = j
  · have : ¬ j = i := n
    simp [e, this]
  · simp [e]
theorem srt_tidy {t : State} (srt : (ids t).Pairwise (· < ·)) (i : Nat) : (ids (t.tidy i)).Pairwise (· < ·) := by
  rw [tidy_eq srt]
  unfold ids
  exact srt.sublist (List.filter_sublist.map _)
/-! ### the frames that are to be sent first, by places -/
theorem sendFirst_at (l : List Frame) (m : Nat) : ∀ n : Nat, n ≤ l.length → ((l.take n).flatMap Frame.bytes).length ≤ m →
    sendFirst l m = ((l.take n).flatMap Frame.bytes ++ (sendFirst (l.drop n) (m - ((l.take n).flatMap Frame.bytes).length)).1, (sendFirst (l.drop n) (m - ((l.take n).flatMap Frame.bytes).length)).2) := by
  intro n
  induction n generalizing l m with
  | zero => intro _ _; simp
  | succ n ih =>
    intro hn hm
    cases l with
    | nil => simp at hn
    | cons f l =>
      simp only [List.take_succ_cons, List.flatMap_cons, List.length_append, List.drop_succ_cons] at hm ⊢
      have h1 : f.bytes.length ≤ m := by omega
      rw [sendFirst, if_pos h1, ih l (m - f.bytes.length) (by simpa using hn) (by omega)]
      simp only [List.append_assoc, Nat.sub_sub]
theorem sendFirst_end {l : List Frame} {m n : Nat} (h : n ≤ l.length) (hm : ((l.take n).flatMap Frame.bytes).length ≤ m) (he : ∀ f, l[n]? = some f → m < ((l.take n).flatMap Frame.bytes).length + f.bytes.length) :
    sendFirst l m = ((l.take n).flatMap Frame.bytes, l.drop n) := by
  rw [sendFirst_at l m n h hm]
  cases q : l.drop n with
  | nil => simp [sendFirst]
  | cons f r =>
    have e : l[n]? = some f := by
      have := congrArg (fun z => z[0]?) q
      simpa [List.getElem?_drop] using this
    have h1 := he f e
    rw [sendFirst, if_neg (by omega)]
    simp
theorem flat_snoc {l : List Frame} {n : Nat} {f : Frame} (h : l[n]? = some f) : (l.take (n + 1)).flatMap Frame.bytes = (l.take n).flatMap Frame.bytes ++ f.bytes := by
  rw [List.take_add_one, h, List.flatMap_append]
  simp
end Os
set_option linter.all false
namespace Os
open Sq01
theorem sorted_same : ∀ {a b : List Int}, a.Perm b → a.Pairwise (· ≤ ·) → b.Pairwise (· ≤ ·) → a = b
  | [], b, h, _, _ => (List.nil_perm.mp h).symm
  | x :: a, [], h, _, _ => absurd h.length_eq (by simp)
  | x :: a, y :: b, h, ha, hb => by
    rw [List.pairwise_cons] at ha hb
    have e : x = y := by
      have h1 : x ∈ y :: b := h.mem_iff.mp List.mem_cons_self
      have h2 : y ∈ x :: a := h.mem_iff.mpr List.mem_cons_self
      rcases List.mem_cons.mp h1 with q | q
      · exact q
      · rcases List.mem_cons.mp h2 with q2 | q2
        · exact q2.symm
        · have := hb.1 x q
          have := ha.1 y q2
          omega
    subst e
    rw [sorted_same ((List.perm_cons x).mp h) ha.2 hb.2]
theorem sorted_ids {s : State} {o : List Nat} {ns : List Int} (srt : (ids s).Pairwise (· < ·)) (hp : o.Perm (ids s)) (h1 : ns.Perm (o.map fun (n : Nat) => (n : Int))) (h2 : ns.Pairwise (· ≤ ·)) : ns = (ids s).map fun (n : Nat) => (n : Int) := by
  refine sorted_same (h1.trans (hp.map _)) h2 ?_
  rw [List.pairwise_map]
  exact srt.imp fun h => by omega
/-- by turns: the first that can -/
theorem find_ids (s : State) (p : Exchange → Bool) (l : List Exchange) : (l.find? p).map (·.id) = (l.map fun x => (x.id, p x)).findSome? fun q => if q.2 = true then some q.1 else none := by
  induction l with
  | nil => rfl
  | cons x l ih =>
    rw [List.find?_cons, List.map_cons, List.findSome?_cons]
    cases h : p x
    · simp [ih]
    · simp
end Os
set_option linter.all false
namespace Os
open Sq01
theorem set_back (s : State) (x : Exchange) (n : Nat) : (s.set x).back n = (s.back n).set x := by
  unfold State.back
  dsimp only
  show (if 2 * (s.owed + n) < ALL then _ else _) = _
  by_cases h : 2 * (s.owed + n) < ALL
  · rw [if_pos h]
    show _ = State.set (if 2 * (s.owed + n) < ALL then _ else _) x
    rw [if_pos h]
    rfl
  · rw [if_neg h]
    show _ = State.set (if 2 * (s.owed + n) < ALL then _ else _) x
    rw [if_neg h]
    rfl
/-- the exchange behind what it is given back -/
def backX (x : Exchange) (n : Nat) : Exchange := if x.whole = true ∨ 2 * (x.owed + n) < EACH then { x with owed := x.owed + n } else { x with owed := 0, left := x.left + (x.owed + n) }
theorem backX_id (x : Exchange) (n : Nat) : (backX x n).id = x.id := by unfold backX; split <;> rfl
theorem backX_whole (x : Exchange) (n : Nat) : (backX x n).whole = x.whole := by unfold backX; split <;> rfl
theorem backX_got (x : Exchange) (n : Nat) : (backX x n).got = x.got := by unfold backX; split <;> rfl
theorem backX_out (x : Exchange) (n : Nat) : (backX x n).out = x.out := by unfold backX; split <;> rfl
theorem backX_done (x : Exchange) (n : Nat) : (backX x n).done_ = x.done_ := by unfold backX; split <;> rfl
theorem backX_told (x : Exchange) (n : Nat) : backX { x with done_ := true } n = { backX x n with done_ := true } := by unfold backX; dsimp only; split <;> rfl
/-- the end is told behind what is given back, or ahead of it -/
theorem told_late (s : State) (x : Exchange) (n k : Nat) : ((s.backOf x n).back k).set { backX x n with done_ := true } = (s.backOf { x with done_ := true } n).back k := by
  rw [← set_back]
  congr 1
  unfold State.backOf backX
  dsimp only
  by_cases h : x.whole = true ∨ 2 * (x.owed + n) < EACH
  · rw [if_pos h, if_pos h, if_pos h]
    exact set_set rfl
  · rw [if_neg h, if_neg h, if_neg h]
    show State.say ((s.set _).set _) _ = _
    rw [set_set (s := s) (y := { x with owed := 0, left := x.left + (x.owed + n) }) (z := { x with owed := 0, left := x.left + (x.owed + n), done_ := true }) rfl]
theorem backOf_mem {s : State} {x : Exchange} (n : Nat) (h : x.id ∈ ids s) : backX x n ∈ (s.backOf x n).exchanges := by
  unfold State.backOf backX
  dsimp only
  by_cases q : x.whole = true ∨ 2 * (x.owed + n) < EACH
  · rw [if_pos q, if_pos q]
    exact mem_set_self h
  · rw [if_neg q, if_neg q]
    exact mem_set_self (x := { x with owed := 0, left := x.left + (x.owed + n) }) h
theorem backOf_ids (s : State) (x : Exchange) (n : Nat) : ids (s.backOf x n) = ids s := by
  unfold State.backOf
  dsimp only
  split
  · exact set_ids _ _
  · exact set_ids s { x with owed := 0, left := x.left + (x.owed + n) }
theorem back_ex (s : State) (n : Nat) : (s.back n).exchanges = s.exchanges := by
  unfold State.back
  dsimp only
  split <;> rfl
theorem back_ids (s : State) (n : Nat) : ids (s.back n) = ids s := by unfold ids; rw [back_ex]
end Os
set_option linter.all false
namespace Os
open Sq01
/-! ### what comes, with what is wrong told apart -/
def isOrWas (s : State) (i : Nat) : Bool := if s.own i = true then decide (i < s.next) else decide (i ≤ s.greatest)
theorem was_after {s : State} (h : Ok s) {i : Nat} (ho : s.own i = false) (hi : 0 < i) : i ≤ s.greatest ↔ i < after s := by
  have ho : (i % 2 == s.side % 2) = false := ho
  have ho : i % 2 ≠ s.side % 2 := by simpa using ho
  unfold after
  by_cases e : s.greatest = 0
  · rw [if_pos e, e]
    rcases h.side with q | q
    · rw [if_pos q]; omega
    · rw [if_neg (by omega)]; omega
  · rw [if_neg e]
    rcases h.gr with q | q
    · exact absurd q e
    · have q : (s.greatest % 2 == s.side % 2) = false := q
      have q : s.greatest % 2 ≠ s.side % 2 := by simpa using q
      omega
/-- made known: what is asked anew by it; none: it never was -/
def known (s : State) (i : Nat) : Option (State × List Told) := if isOrWas s i = true then some (s, []) else if s.own i = true then none else s.anew i
def forNone (s : State) (n : Nat) : State × Nat := if s.left < n then (s, 4) else (({ s with left := s.left - n } : State).back n, 0)
def forOne (s : State) (x : Exchange) (f : Frame) : State × List Told × Nat :=
  if x.whole = true then (s, [], 6) else if x.left < f.body.length ∨ s.left < f.body.length then (s, [], 4)
  else (({ s with left := s.left - f.body.length } : State).set { x with got := x.got ++ f.body, whole := f.last, left := x.left - f.body.length }, (if 0 < f.body.length then [.data x.id f.body.length] else []) ++ (if f.last = true then [.last x.id] else []), 0)
/-- the state then, what is told, what is wrong (0: nothing) -/
abbrev Mt := State × List Told × Nat
def metData (s : State) (f : Frame) : Mt := match known s f.id with
  | none => (s, [], 3)
  | some t => match t.1.find f.id with
    | none => ((forNone t.1 f.body.length).1, t.2, (forNone t.1 f.body.length).2)
    | some x => ((forOne t.1 x f).1, t.2 ++ (forOne t.1 x f).2.1, (forOne t.1 x f).2.2)
def metCredit (s : State) (f : Frame) : Mt :=
  if f.id = 0 then (if RAISED < s.credit + number f.body then (s, [], 5) else ({ s with credit := s.credit + number f.body }, [], 0))
  else match s.find f.id with
    | some x => if RAISED < x.credit + number f.body then (s, [], 5) else (s.set { x with credit := x.credit + number f.body }, [], 0)
    | none => if isOrWas s f.id = true then (s, [], 0) else (s, [], 3)
def metStop (s : State) (f : Frame) : Mt := match known s f.id with
  | none => (s, [], 3)
  | some t => match t.1.find f.id with
    | none => (t.1, t.2, 0)
    | some x => ((t.1.drop f.id).back x.got.length, t.2 ++ [.stopped f.id (number f.body)], 0)
def lostOf (s : State) (g : Nat) : List Exchange := s.exchanges.filter fun x => s.own x.id && decide (g < x.id)
def metGoing (s : State) (g : Nat) : State × List Told :=
  ((lostOf s g).foldl (fun (t : State) x => (t.drop x.id).back x.got.length) { s with gone := true }, .going g :: (lostOf s g).map fun x => .stopped x.id (WORD - 1))
def met (s : State) (f : Frame) : Mt := match f.kind with
  | 1 => metData s f
  | 2 => metCredit s f
  | 3 => metStop s f
  | 4 => (s.say ⟨5, false, 0, f.body⟩, [], 0)
  | 5 => (s, [.still (number f.body)], 0)
  | _ => ((metGoing s (number f.body)).1, (metGoing s (number f.body)).2, 0)
/-- .. and what becomes of it -/
def fin (r : Mt) : State × List Told := if r.2.2 = 0 then (r.1, r.2.1) else ((r.1.kill r.2.2).1, r.2.1 ++ [.wrong r.2.2])
theorem was_of_find {s : State} (h : Ok s) {i : Nat} {x : Exchange} (e : s.find i = some x) : isOrWas s i = true := by
  obtain ⟨hm, rfl⟩ := find_some e
  have hi : x.id ∈ ids s := List.mem_map.mpr ⟨x, hm, rfl⟩
  unfold isOrWas
  by_cases ho : s.own x.id = true
  · rw [if_pos ho]; exact decide_eq_true (h.ours _ hi ho)
  · rw [if_neg ho]; exact decide_eq_true (h.others _ hi (by simpa using ho))
theorem fin_forNone (s : State) (n : Nat) (ts : List Told) : fin ((forNone s n).1, ts, (forNone s n).2) = ((s.dataForNone n).1, ts ++ (s.dataForNone n).2) := by
  unfold forNone State.dataForNone
  by_cases z : s.left < n
  · rw [if_pos z, if_pos z]; rfl
  · rw [if_neg z, if_neg z]
    unfold fin
    rw [if_pos rfl, List.append_nil]
theorem fin_forOne (s : State) (x : Exchange) (f : Frame) (ts : List Told) : fin ((forOne s x f).1, ts ++ (forOne s x f).2.1, (forOne s x f).2.2) = ((s.dataFor x f).1, ts ++ (s.dataFor x f).2) := by
  unfold forOne State.dataFor
  dsimp only
  by_cases z : x.whole = true
  · rw [if_pos z, if_pos z]
    unfold fin
    rw [if_neg (by intro z; cases z), List.append_nil]
    rfl
  · rw [if_neg z, if_neg z]
    by_cases y : x.left < f.body.length ∨ s.left < f.body.length
    · rw [if_pos y, if_pos y]
      unfold fin
      rw [if_neg (by intro z; cases z), List.append_nil]
      rfl
    · rw [if_neg y, if_neg y]
      unfold fin
      rw [if_pos rfl]
theorem takes_met {s : State} (h : Ok s) (f : Frame) : s.takes f = fin (met s f) := by
  unfold State.takes met
  split
  · rename_i hk
    rw [hk]
    show _ = fin (metData s f)
    unfold metData known
    cases e : s.find f.id with
    | some x =>
      rw [if_pos (was_of_find h e)]
      dsimp only
      rw [e]
      dsimp only
      rw [fin_forOne]
      rfl
    | none =>
      dsimp only
      unfold isOrWas
      by_cases ho : s.own f.id = true
      · rw [if_pos ho, if_pos ho]
        by_cases hl : f.id < s.next
        · rw [if_pos hl, if_pos (decide_eq_true hl)]
          dsimp only
          rw [e]
          dsimp only
          rw [fin_forNone]
          rfl
        · rw [if_neg hl, if_neg (by rw [decide_eq_false hl]; exact Bool.false_ne_true), if_pos ho]
          rfl
      · rw [if_neg ho, if_neg ho]
        by_cases hl : f.id ≤ s.greatest
        · rw [if_pos hl, if_pos (decide_eq_true hl)]
          dsimp only
          rw [e]
          dsimp only
          rw [fin_forNone]
          rfl
        · rw [if_neg hl, if_neg (by rw [decide_eq_false hl]; exact Bool.false_ne_true), if_neg ho]
          cases s.anew f.id with
          | none => rfl
          | some t =>
            dsimp only
            cases t.1.find f.id with
            | none => dsimp only; rw [fin_forNone]
            | some x => dsimp only; rw [fin_forOne]
  · rename_i hk
    rw [hk]
    show _ = fin (metCredit s f)
    unfold metCredit
    dsimp only
    by_cases h0 : f.id = 0
    · rw [if_pos h0, if_pos h0]
      by_cases z : RAISED < s.credit + number f.body
      · rw [if_pos z, if_pos z]; rfl
      · rw [if_neg z, if_neg z]; rfl
    · rw [if_neg h0, if_neg h0]
      cases e : s.find f.id with
      | some x =>
        dsimp only
        by_cases z : RAISED < x.credit + number f.body
        · rw [if_pos z, if_pos z]; rfl
        · rw [if_neg z, if_neg z]; rfl
      | none =>
        dsimp only
        show (if isOrWas s f.id = true then (s, []) else s.kill 3) = _
        split
        · rfl
        · rfl
  · rename_i hk
    rw [hk]
    show _ = fin (metStop s f)
    unfold metStop known
    cases e : s.find f.id with
    | some x =>
      rw [if_pos (was_of_find h e)]
      dsimp only
      rw [e]
      rfl
    | none =>
      dsimp only
      show (if isOrWas s f.id = true then (s, []) else if s.own f.id = true then s.kill 3 else _) = _
      split
      · dsimp only; rw [e]; rfl
      · split
        · rfl
        · cases s.anew f.id with
          | none => rfl
          | some t =>
            dsimp only
            cases t.1.find f.id with
            | none => rfl
            | some x => rfl
  · rename_i hk; rw [hk]; rfl
  · rename_i hk; rw [hk]; rfl
  · rename_i h1 h2 h3 h4 h5
    split
    · exact absurd ‹f.kind = 1› h1
    · exact absurd ‹f.kind = 2› h2
    · exact absurd ‹f.kind = 3› h3
    · exact absurd ‹f.kind = 4› h4
    · exact absurd ‹f.kind = 5› h5
    · rfl
/-! ### what was not read yet is neither here nor there -/
def wc (s : State) (c : Bytes) : State := { s with came := c }
theorem back_wc (s : State) (n : Nat) (c : Bytes) : (wc s c).back n = wc (s.back n) c := by
  unfold State.back
  dsimp only
  show (if 2 * (s.owed + n) < ALL then _ else _) = _
  split <;> rfl
theorem anew1_wc (x : State × List Told) (k : Nat) (c : Bytes) : anew1 (wc x.1 c, x.2) k = (wc (anew1 x k).1 c, (anew1 x k).2) := by
  unfold anew1
  dsimp only
  show (if x.1.over = true ∨ OPEN ≤ State.theirs { x.1 with greatest := k } then _ else _) = _
  split <;> rfl
theorem anews_wc (g : Nat → Nat) (c : Bytes) : ∀ (l : List Nat) (x : State × List Told), l.foldl (fun x j => anew1 x (g j)) (wc x.1 c, x.2) = (wc (l.foldl (fun x j => anew1 x (g j)) x).1 c, (l.foldl (fun x j => anew1 x (g j)) x).2)
  | [], x => rfl
  | j :: l, x => by
    rw [List.foldl_cons, List.foldl_cons, anew1_wc]
    exact anews_wc g c l (anew1 x (g j))
theorem anew_wc (s : State) (i : Nat) (c : Bytes) : (wc s c).anew i = (s.anew i).map fun t => (wc t.1 c, t.2) := by
  rw [anew_eq, anew_eq]
  show (if OPEN < (i - after s) / 2 + 1 then none else some ((List.range ((i - after s) / 2 + 1)).foldl (fun x j => anew1 x (after s + 2 * j)) (wc s c, []))) = _
  split
  · rfl
  · rw [anews_wc _ c _ (s, [])]; rfl
theorem known_wc (s : State) (i : Nat) (c : Bytes) : known (wc s c) i = (known s i).map fun t => (wc t.1 c, t.2) := by
  unfold known
  show (if isOrWas s i = true then some (wc s c, []) else if s.own i = true then none else (wc s c).anew i) = _
  rw [anew_wc]
  split
  · rfl
  · split <;> rfl
theorem loses_wc (c : Bytes) : ∀ (l : List Exchange) (s : State), l.foldl (fun (t : State) x => (t.drop x.id).back x.got.length) (wc s c) = wc (l.foldl (fun (t : State) x => (t.drop x.id).back x.got.length) s) c
  | [], s => rfl
  | x :: l, s => by
    rw [List.foldl_cons, List.foldl_cons]
    show l.foldl _ ((wc (s.drop x.id) c).back x.got.length) = _
    rw [back_wc]
    exact loses_wc c l _
theorem forOne_wc (s : State) (x : Exchange) (f : Frame) (c : Bytes) : forOne (wc s c) x f = (wc (forOne s x f).1 c, (forOne s x f).2) := by
  unfold forOne
  show (if x.whole = true then _ else if x.left < f.body.length ∨ s.left < f.body.length then _ else _) = _
  split
  · rfl
  · split <;> rfl
theorem met_wc (s : State) (f : Frame) (c : Bytes) : met (wc s c) f = (wc (met s f).1 c, (met s f).2) := by
  unfold met
  split
  · unfold metData
    rw [known_wc]
    cases known s f.id with
    | none => rfl
    | some t =>
      dsimp only [Option.map]
      show (match t.1.find f.id with | none => _ | some x => _) = _
      cases t.1.find f.id with
      | none =>
        dsimp only
        unfold forNone
        show ((if t.1.left < f.body.length then (wc t.1 c, 4) else ((wc { t.1 with left := t.1.left - f.body.length } c).back f.body.length, 0)).1, _, (if t.1.left < f.body.length then (wc t.1 c, 4) else ((wc { t.1 with left := t.1.left - f.body.length } c).back f.body.length, 0)).2) = _
        rw [back_wc]
        split <;> rfl
      | some x =>
        dsimp only
        rw [forOne_wc]
  · unfold metCredit
    show (if f.id = 0 then (if RAISED < s.credit + number f.body then (wc s c, [], 5) else _) else match s.find f.id with | some x => _ | none => _) = _
    split
    · split <;> rfl
    · cases s.find f.id with
      | some x => dsimp only; split <;> rfl
      | none =>
        dsimp only
        show (if isOrWas s f.id = true then (wc s c, [], 0) else (wc s c, [], 3)) = _
        split <;> rfl
  · unfold metStop
    rw [known_wc]
    cases known s f.id with
    | none => rfl
    | some t =>
      dsimp only [Option.map]
      show (match t.1.find f.id with | none => _ | some x => _) = _
      cases t.1.find f.id with
      | none => rfl
      | some x =>
        dsimp only
        show ((wc (t.1.drop f.id) c).back x.got.length, _) = _
        rw [back_wc]
  · rfl
  · rfl
  · unfold metGoing
    dsimp only
    show ((lostOf s (number f.body)).foldl _ (wc { s with gone := true } c), _) = _
    rw [loses_wc]
    rfl
end Os
set_option linter.all false
namespace Os
open Sq01
/-! ### what a frame leaves -/
theorem met_came (s : State) (f : Frame) : (met s f).1.came = s.came := by
  have h := met_wc s f s.came
  have e : wc s s.came = s := rfl
  rw [e] at h
  have h2 := congrArg (fun r : Mt => r.1.came) h
  exact h2
theorem known_alive {s : State} (h : Ok s) (hd : s.dead = false) {i : Nat} {t : State × List Told} (e : known s i = some t) : Ok t.1 ∧ t.1.dead = false ∧ t.1.side = s.side := by
  unfold known at e
  split at e
  · cases e; exact ⟨h, hd, rfl⟩
  · split at e
    · cases e
    · exact h.anew hd e
theorem anews_told (g : Nat → Nat) : ∀ (l : List Nat) (x : State × List Told), (l.foldl (fun x j => anew1 x (g j)) x).2.length ≤ x.2.length + l.length
  | [], x => Nat.le_refl _
  | j :: l, x => by
    rw [List.foldl_cons]
    have h := anews_told g l (anew1 x (g j))
    have h2 : (anew1 x (g j)).2.length ≤ x.2.length + 1 := by
      unfold anew1
      dsimp only
      split
      · exact Nat.le_add_right _ _
      · rw [List.length_append]; exact Nat.le_refl _
    rw [List.length_cons]
    omega
theorem known_told {s : State} {i : Nat} {t : State × List Told} (e : known s i = some t) : t.2.length ≤ 64 := by
  unfold known at e
  split at e
  · cases e; exact Nat.zero_le _
  · split at e
    · cases e
    · rw [anew_eq] at e
      split at e
      · cases e
      · rename_i hn
        cases e
        have hn : ¬ 64 < (i - after s) / 2 + 1 := hn
        have h := anews_told (fun j => after s + 2 * j) (List.range ((i - after s) / 2 + 1)) (s, [])
        rw [List.length_range] at h
        have h : _ ≤ 0 + ((i - after s) / 2 + 1) := h
        omega
theorem known_fl {s : State} {i : Nat} {t : State × List Told} (e : known s i = some t) : Fl t.1 ≤ Fl s + 64 := by
  unfold known at e
  split at e
  · cases e; exact Nat.le_add_right _ _
  · split at e
    · cases e
    · exact (anew_fl e).1
theorem forOne_told (s : State) (x : Exchange) (f : Frame) : (forOne s x f).2.1.length ≤ 2 := by
  unfold forOne
  split
  · exact Nat.zero_le _
  · split
    · exact Nat.zero_le _
    · dsimp only
      rw [List.length_append]
      split <;> split <;> simp
theorem met_told {s : State} (h : Ok s) (f : Frame) : (met s f).2.1.length ≤ 66 := by
  unfold met
  split
  · unfold metData
    cases e : known s f.id with
    | none => exact Nat.zero_le _
    | some t =>
      dsimp only
      have h1 := known_told e
      cases t.1.find f.id with
      | none => dsimp only; omega
      | some x =>
        dsimp only
        rw [List.length_append]
        have h2 := forOne_told t.1 x f
        omega
  · unfold metCredit
    split
    · split <;> exact Nat.zero_le _
    · split
      · split <;> exact Nat.zero_le _
      · split <;> exact Nat.zero_le _
  · unfold metStop
    cases e : known s f.id with
    | none => exact Nat.zero_le _
    | some t =>
      dsimp only
      have h1 := known_told e
      cases t.1.find f.id with
      | none => dsimp only; omega
      | some x =>
        dsimp only
        rw [List.length_append]
        simp
        omega
  · exact Nat.zero_le _
  · exact Nat.le_of_ble_eq_true rfl
  · unfold metGoing lostOf
    dsimp only
    rw [List.length_cons, List.length_map]
    have := lost_len h (number f.body)
    omega
theorem loses_dead : ∀ (l : List Exchange) (s : State), (l.foldl (fun (t : State) x => (t.drop x.id).back x.got.length) s).dead = s.dead
  | [], s => rfl
  | x :: l, s => by
    rw [List.foldl_cons, loses_dead l, set_back_dead]
    rfl
theorem forOne_dead (s : State) (x : Exchange) (f : Frame) : (forOne s x f).1.dead = s.dead := by
  unfold forOne
  split
  · rfl
  · split <;> rfl
theorem met_dead {s : State} (h : Ok s) (hd : s.dead = false) (f : Frame) : (met s f).1.dead = false := by
  unfold met
  split
  · unfold metData
    cases e : known s f.id with
    | none => exact hd
    | some t =>
      dsimp only
      have h1 := (known_alive h hd e).2.1
      cases t.1.find f.id with
      | none =>
        dsimp only
        unfold forNone
        split
        · exact h1
        · dsimp only; rw [set_back_dead]; exact h1
      | some x => dsimp only; rw [forOne_dead]; exact h1
  · unfold metCredit
    split
    · split <;> exact hd
    · split
      · split <;> exact hd
      · split <;> exact hd
  · unfold metStop
    cases e : known s f.id with
    | none => exact hd
    | some t =>
      dsimp only
      have h1 := (known_alive h hd e).2.1
      cases t.1.find f.id with
      | none => exact h1
      | some x => dsimp only; rw [set_back_dead]; exact h1
  · exact hd
  · exact hd
  · unfold metGoing
    dsimp only
    rw [loses_dead]
    exact hd
theorem met_ok {s : State} (h : Ok s) (hd : s.dead = false) {f : Frame} (e : (met s f).2.2 = 0) : Ok (met s f).1 ∧ Fl (met s f).1 ≤ Fl s + 65 := by
  have h1 := h.takes hd f
  have h2 := (takes_fl h f).1
  rw [takes_met h] at h1 h2
  unfold fin at h1 h2
  rw [if_pos e] at h1 h2
  exact ⟨h1, h2⟩
/-! ### reading -/
theorem reads_fuel : ∀ (n k : Nat) (s : State), Ok s → s.came.length < n → s.came.length < k → s.reads n = s.reads k
  | 0, _, s, _, h, _ => absurd h (Nat.not_lt_zero _)
  | _, 0, s, _, _, h => absurd h (Nat.not_lt_zero _)
  | n + 1, k + 1, s, ok, h1, h2 => by
    unfold State.reads
    split
    · rfl
    · rename_i hd
      have hd : s.dead = false := by simpa using hd
      split
      · rfl
      · rfl
      · rename_i f rest e
        have ok1 : Ok ({ s with came := rest } : State) := ok.came hd rest
        have l1 := begins_len e
        have l2 : (({ s with came := rest } : State).takes f).1.came.length ≤ rest.length := (takes_fl ok1 f).2
        dsimp only
        rw [reads_fuel n k _ (ok1.takes hd f) (by omega) (by omega)]
def readsF (s : State) : State × List Told := s.reads (s.came.length + 1)
theorem reads_of {s : State} (h : Ok s) {n : Nat} (hn : s.came.length < n) : s.reads n = readsF s := reads_fuel _ _ s h hn (Nat.lt_succ_self _)
theorem readsF_dead {s : State} (hd : s.dead = true) : readsF s = (s, []) := by
  unfold readsF State.reads
  rw [if_pos hd]
theorem readsF_more {s : State} (h : begins s.came = .more) : readsF s = (s, []) := by
  unfold readsF State.reads
  split
  · rfl
  · rw [h]
theorem readsF_bad {s : State} (hd : s.dead = false) {k : Nat} (h : begins s.came = .bad k) : readsF s = ((s.kill k).1, [.wrong k]) := by
  unfold readsF State.reads
  rw [if_neg (by rw [hd]; exact Bool.false_ne_true), h]
  rfl
theorem readsF_frame {s : State} (ok : Ok s) (hd : s.dead = false) {f : Frame} {rest : Bytes} (e : begins s.came = .frame f rest) :
    readsF s = ((readsF ((wc s rest).takes f).1).1, ((wc s rest).takes f).2 ++ (readsF ((wc s rest).takes f).1).2) := by
  have ok1 : Ok (wc s rest) := ok.came hd rest
  have l1 := begins_len e
  have l2 : ((wc s rest).takes f).1.came.length ≤ rest.length := (takes_fl ok1 f).2
  have e2 : ((wc s rest).takes f).1.reads s.came.length = readsF ((wc s rest).takes f).1 := reads_of (ok1.takes hd f) (by omega)
  conv => lhs; unfold readsF State.reads
  rw [if_neg (by rw [hd]; exact Bool.false_ne_true), e]
  dsimp only
  rw [← e2]
  rfl
theorem readsF_wrong {s : State} (ok : Ok s) (hd : s.dead = false) {f : Frame} {rest : Bytes} (e : begins s.came = .frame f rest) (hk : (met s f).2.2 ≠ 0) :
    readsF s = (((met s f).1.kill (met s f).2.2).1, (met s f).2.1 ++ [.wrong (met s f).2.2]) := by
  have ok1 : Ok (wc s rest) := ok.came hd rest
  rw [readsF_frame ok hd e, takes_met ok1, met_wc]
  unfold fin
  rw [if_neg hk]
  have e3 : ((wc (met s f).1 rest).kill (met s f).2.2).1 = ((met s f).1.kill (met s f).2.2).1 := rfl
  dsimp only
  rw [e3, readsF_dead (s := ((met s f).1.kill (met s f).2.2).1) rfl]
  rw [List.append_nil]
theorem readsF_right {s : State} (ok : Ok s) (hd : s.dead = false) {f : Frame} {rest : Bytes} (e : begins s.came = .frame f rest) (hk : (met s f).2.2 = 0) :
    readsF s = ((readsF (wc (met s f).1 rest)).1, (met s f).2.1 ++ (readsF (wc (met s f).1 rest)).2) := by
  have ok1 : Ok (wc s rest) := ok.came hd rest
  rw [readsF_frame ok hd e, takes_met ok1, met_wc]
  unfold fin
  rw [if_pos hk]
/-! ### a frame's head -/
def frameOf (b : Bytes) : Frame := ⟨b.getD 2 0, b.getD 3 0 == 1, number ((b.drop 4).take 4), (b.drop 8).take (number (b.take 2))⟩
theorem begins_short {b : Bytes} (h : b.length < 8) : begins b = .more := if_pos h
theorem begins_head {b : Bytes} (h : ¬ b.length < 8) : begins b = if 4096 < number (b.take 2) then .bad 1 else if 1 < b.getD 3 0 then .bad 2 else if b.length < 8 + number (b.take 2) then .more else
    if (frameOf b).good = true then .frame (frameOf b) (b.drop (8 + number (b.take 2))) else .bad 2 := if_neg h
/-! ### numbers and bytes -/
theorem number_snoc (b : Bytes) (c : Nat) : number (b ++ [c]) = 256 * number b + c := by
  unfold number
  rw [List.foldl_append]
  rfl
theorem be_succ (n x : Nat) : be (n + 1) x = be n (x / 256) ++ [x % 256] := by
  unfold be
  rw [List.range_succ, List.map_append]
  congr 1
  · refine List.map_congr_left fun i hi => ?_
    have hi : i < n := List.mem_range.mp hi
    rw [show n + 1 - 1 - i = (n - 1 - i) + 1 by omega, Nat.pow_succ, Nat.mul_comm, Nat.div_div_eq_div_mul]
  · simp
theorem be_number : ∀ (n : Nat) (b : Bytes), b.length = n → (∀ c ∈ b, c < 256) → be n (number b) = b
  | 0, b, h, _ => by
    have : b = [] := List.eq_nil_of_length_eq_zero h
    subst this; rfl
  | n + 1, b, h, hb => by
    have hne : b ≠ [] := fun z => by subst z; cases h
    have e := (List.dropLast_concat_getLast hne).symm
    have hc : b.getLast hne < 256 := hb _ (List.getLast_mem hne)
    have hl : b.dropLast.length = n := by rw [List.length_dropLast, h]; rfl
    generalize b.getLast hne = c at e hc
    generalize hd : b.dropLast = d at e hl
    subst e
    rw [number_snoc, be_succ, show (256 * number d + c) / 256 = number d by omega, show (256 * number d + c) % 256 = c by omega]
    rw [be_number n d hl fun x hx => hb x (List.mem_append_left _ hx)]
/-! ### bytes stay bytes -/
def By (s : State) : Prop := ∀ c ∈ s.came, c < 256
theorem begins_rest {b rest : Bytes} {f : Frame} (e : begins b = .frame f rest) : (∃ n, rest = b.drop n) ∧ f = frameOf b := by
  by_cases h : b.length < 8
  · rw [begins_short h] at e; cases e
  · rw [begins_head h] at e
    split at e
    · cases e
    · split at e
      · cases e
      · split at e
        · cases e
        · split at e
          · cases e; exact ⟨⟨_, rfl⟩, rfl⟩
          · cases e
theorem reads_by : ∀ (n : Nat) {s : State}, Ok s → By s → By (s.reads n).1
  | 0, s, _, h => h
  | n + 1, s, ok, h => by
    unfold State.reads
    split
    · exact h
    · rename_i hd
      have hd : s.dead = false := by simpa using hd
      split
      · exact h
      · intro c hc; cases hc
      · rename_i f rest e
        have ok1 : Ok (wc s rest) := ok.came hd rest
        dsimp only
        refine reads_by n (ok1.takes hd f) ?_
        have hr : By (wc s rest) := by
          obtain ⟨⟨m, rfl⟩, _⟩ := begins_rest e
          exact fun c hc => h c (List.mem_of_mem_drop hc)
        show By ((wc s rest).takes f).1
        rw [takes_met ok1]
        unfold fin
        split
        · intro c hc
          dsimp only at hc
          rw [met_came] at hc
          exact hr c hc
        · intro c hc; cases hc
theorem step_came {s : State} (c : Call) (hc : ∀ b, c ≠ .came b) : (step s c).1.came = s.came ∨ (step s c).1.came = [] := by
  cases c with
  | begin_ side =>
    show (if side = 1 ∨ side = 2 then (begun side, says 0) else (s, says (-1))).1.came = s.came ∨ _
    unfold step
    dsimp only
    split
    · exact .inr rfl
    · exact .inl rfl
  | ask =>
    unfold step
    dsimp only
    split
    · exact .inl rfl
    · split <;> exact .inl rfl
  | put i last b =>
    unfold step
    dsimp only
    split
    · exact .inl rfl
    · split
      · exact .inl rfl
      · split
        · exact .inl rfl
        · split <;> exact .inl rfl
  | take i m =>
    unfold step
    dsimp only
    split
    · exact .inl rfl
    · dsimp only
      rw [(tidy_fl _ _).2, (back_fl _ _).2, (backOf_fl _ _ _).2]
      exact .inl rfl
  | halt_ i w =>
    unfold step
    dsimp only
    split
    · exact .inl rfl
    · split
      · exact .inl rfl
      · left
        show (State.back _ _).came = s.came
        rw [(back_fl _ _).2]
        rfl
  | out m =>
    rw [out_step]
    dsimp only
    rw [(tidies_fl _ _).2]
    exact .inl (send_fl _ _ _).2
  | came b => exact absurd rfl (hc b)
  | still t =>
    unfold step
    dsimp only
    split
    · exact .inl rfl
    · split <;> exact .inl rfl
  | over =>
    unfold step
    dsimp only
    split
    · exact .inl rfl
    · split <;> exact .inl rfl
  | look i => exact .inl rfl
  | count => exact .inl rfl
/-- a call's bytes are bytes -/
def ByC : Call → Prop
  | .came b => ∀ c ∈ b, c < 256
  | _ => True
theorem step_by {s : State} (ok : Ok s) (h : By s) {c : Call} (hc : ByC c) : By (step s c).1 := by
  by_cases z : ∃ b, c = .came b
  · obtain ⟨b, rfl⟩ := z
    unfold step
    dsimp only
    split
    · exact h
    · rename_i hd
      have hd : s.dead = false := by simpa using hd
      refine reads_by _ (ok.came hd _) fun c hm => ?_
      rcases List.mem_append.mp hm with q | q
      · exact h c q
      · exact hc c q
  · rcases step_came (s := s) c (fun b e => z ⟨b, e⟩) with q | q
    · unfold By; rw [q]; exact h
    · unfold By; rw [q]; intro c hc; cases hc
end Os
set_option linter.all false
namespace Os
open Sq01
/-! ### the flat list of calls -/
def zs (l : List Nat) : List Int := l.map fun (n : Nat) => (n : Int)
/-- a call as it stands in the list, t behind it -/
inductive Reads (t : List Int) : List Int → List (List Int) → Call → Prop
  | begin_ (a : Nat) (h : a < 2 ^ 64) : Reads t (1 :: (a : Int) :: t) [[1, (a : Int)]] (.begin_ a)
  | ask : Reads t (2 :: t) [[2]] .ask
  | put (i e : Nat) (b : List Nat) (h1 : i < 2 ^ 64) (h2 : e < 2 ^ 64) (hb : ∀ c ∈ b, c < 256) : Reads t (3 :: (i : Int) :: (e : Int) :: (b.length : Int) :: (zs b ++ t)) [[3, (i : Int), (e : Int)], zs b] (.put i e b)
  | take (i m : Nat) (h1 : i < 2 ^ 64) (h2 : m < 2 ^ 64) : Reads t (4 :: (i : Int) :: (m : Int) :: t) [[4, (i : Int), (m : Int)]] (.take i m)
  | halt (i w : Nat) (h1 : i < 2 ^ 64) (h2 : w < 2 ^ 64) : Reads t (5 :: (i : Int) :: (w : Int) :: t) [[5, (i : Int), (w : Int)]] (.halt_ i w)
  | out (m : Nat) (h : m < 2 ^ 64) : Reads t (6 :: (m : Int) :: t) [[6, (m : Int)]] (.out m)
  | came (b : List Nat) (hb : ∀ c ∈ b, c < 256) : Reads t (7 :: (b.length : Int) :: (zs b ++ t)) [[7], zs b] (.came b)
  | still (k : Nat) (h : k < 2 ^ 64) : Reads t (8 :: (k : Int) :: t) [[8, (k : Int)]] (.still k)
  | over : Reads t (9 :: t) [[9]] .over
  | look (i : Nat) (h : i < 2 ^ 64) : Reads t (10 :: (i : Int) :: t) [[10, (i : Int)]] (.look i)
  | count : Reads t (11 :: t) [[11]] .count
theorem nat_of {z : Int} {n : Nat} (h : Sq01Neutral.natural z n = true) : ∃ a : Nat, z = (a : Int) ∧ a < 2 ^ n := by
  unfold Sq01Neutral.natural at h
  rw [Bool.and_eq_true, decide_eq_true_eq, decide_eq_true_eq] at h
  refine ⟨z.toNat, by omega, ?_⟩
  have h2 : ((z.toNat : Nat) : Int) < ((2 ^ n : Nat) : Int) := by
    rw [Int.toNat_of_nonneg h.1]
    have e : ((2 ^ n : Nat) : Int) = 2 ^ n := by simp
    rw [e]; exact h.2
  exact Int.ofNat_lt.mp h2
theorem bytes_of : ∀ {r : List Int}, (r.all fun (z : Int) => Sq01Neutral.natural z 8) = true → ∃ b : List Nat, r = zs b ∧ ∀ c ∈ b, c < 256
  | [], _ => ⟨[], rfl, fun _ h => nomatch h⟩
  | z :: r, h => by
    rw [List.all_cons, Bool.and_eq_true] at h
    obtain ⟨a, e, ha⟩ := nat_of h.1
    obtain ⟨b, eb, hb⟩ := bytes_of h.2
    refine ⟨a :: b, by rw [e, eb]; rfl, fun c hc => ?_⟩
    rcases List.mem_cons.mp hc with q | q
    · rw [q]; exact ha
    · exact hb c q
theorem nats_zs (b : List Nat) : Sq01Neutral.nats (zs b) = b := by
  unfold Sq01Neutral.nats zs
  rw [List.map_map]
  exact (List.map_congr_left fun x _ => rfl).trans (List.map_id' b)
theorem whole_id (c : List (List Int)) : PySq01.whole c = c := by
  unfold PySq01.whole
  split <;> rfl
theorem row_of {l x t : List Int} (h : PyFlat.row l = some (x, t)) : ∃ r : List Int, l = (x.length : Int) :: r ∧ r = x ++ t := by
  cases l with
  | nil => cases h
  | cons n r =>
    have h : (if 0 ≤ n ∧ n.toNat ≤ r.length then some (r.take n.toNat, r.drop n.toNat) else none) = some (x, t) := h
    by_cases q : 0 ≤ n ∧ n.toNat ≤ r.length
    · rw [if_pos q] at h
      cases h
      refine ⟨r, ?_, (List.take_append_drop _ _).symm⟩
      rw [List.length_take, Nat.min_eq_left q.2, Int.toNat_of_nonneg q.1]
    · rw [if_neg q] at h
      cases h
theorem call_of {l : List Int} {c : List (List Int)} {t : List Int} (h : PyFlat.call PySq01.shape l = some (c, t)) (a : Sq01Neutral.asked1 c = true) : ∃ k, Reads t l c k := by
  cases l with
  | nil => cases h
  | cons p r =>
    unfold PyFlat.call at h
    dsimp only at h
    unfold PySq01.shape at h
    by_cases p1 : p = 1
    · subst p1
      simp only [if_true] at h
      split at h
      · cases h
      · rename_i hl
        match r, hl with
        | x :: r, _ =>
          cases h
          obtain ⟨n, rfl, hn⟩ := nat_of (show Sq01Neutral.natural x 64 = true from a)
          exact ⟨_, .begin_ n hn⟩
    rw [if_neg p1] at h
    by_cases p2 : p = 2
    · subst p2
      cases h
      exact ⟨_, .ask⟩
    rw [if_neg p2] at h
    by_cases p3 : p = 3
    · subst p3
      simp only [if_true] at h
      split at h
      · cases h
      · rename_i hl
        match r, hl with
        | x :: y :: r, _ =>
          simp only [List.drop_succ_cons, List.drop_zero, List.take_succ_cons, List.take_zero, PyFlat.rows] at h
          cases e : PyFlat.row r with
          | none => rw [e] at h; cases h
          | some q =>
            obtain ⟨w, u⟩ := q
            rw [e] at h
            cases h
            obtain ⟨r', rfl, rfl⟩ := row_of e
            have a : (w.all (fun (z : Int) => Sq01Neutral.natural z 8) && (Sq01Neutral.natural x 64 && (Sq01Neutral.natural y 64))) = true := a
            rw [Bool.and_eq_true, Bool.and_eq_true] at a
            obtain ⟨i, rfl, hi⟩ := nat_of a.2.1
            obtain ⟨j, rfl, hj⟩ := nat_of a.2.2
            obtain ⟨b, rfl, hb⟩ := bytes_of a.1
            refine ⟨.put i j b, ?_⟩
            have e3 : (zs b).length = b.length := by unfold zs; simp
            rw [e3]
            exact .put i j b hi hj hb
    rw [if_neg p3] at h
    by_cases p4 : p = 4
    · subst p4
      simp only [if_true] at h
      split at h
      · cases h
      · rename_i hl
        match r, hl with
        | [], hl => exact absurd (by show (0 : Nat) < 2; omega) hl
        | [_], hl => exact absurd (by show (1 : Nat) < 2; omega) hl
        | x :: y :: r, _ =>
          cases h
          have a : (Sq01Neutral.natural x 64 && (Sq01Neutral.natural y 64)) = true := a
          rw [Bool.and_eq_true] at a
          obtain ⟨i, rfl, hi⟩ := nat_of a.1
          obtain ⟨j, rfl, hj⟩ := nat_of a.2
          exact ⟨_, .take i j hi hj⟩
    rw [if_neg p4] at h
    by_cases p5 : p = 5
    · subst p5
      simp only [if_true] at h
      split at h
      · cases h
      · rename_i hl
        match r, hl with
        | [], hl => exact absurd (by show (0 : Nat) < 2; omega) hl
        | [_], hl => exact absurd (by show (1 : Nat) < 2; omega) hl
        | x :: y :: r, _ =>
          cases h
          have a : (Sq01Neutral.natural x 64 && (Sq01Neutral.natural y 64)) = true := a
          rw [Bool.and_eq_true] at a
          obtain ⟨i, rfl, hi⟩ := nat_of a.1
          obtain ⟨j, rfl, hj⟩ := nat_of a.2
          exact ⟨_, .halt i j hi hj⟩
    rw [if_neg p5] at h
    by_cases p6 : p = 6
    · subst p6
      simp only [if_true] at h
      split at h
      · cases h
      · rename_i hl
        match r, hl with
        | x :: r, _ =>
          cases h
          obtain ⟨n, rfl, hn⟩ := nat_of (show Sq01Neutral.natural x 64 = true from a)
          exact ⟨_, .out n hn⟩
    rw [if_neg p6] at h
    by_cases p7 : p = 7
    · subst p7
      simp only [if_true] at h
      split at h
      · cases h
      · simp only [List.drop_zero, List.take_zero, PyFlat.rows] at h
        cases e : PyFlat.row r with
        | none => rw [e] at h; cases h
        | some q =>
          obtain ⟨w, u⟩ := q
          rw [e] at h
          cases h
          obtain ⟨r', rfl, rfl⟩ := row_of e
          obtain ⟨b, rfl, hb⟩ := bytes_of (show w.all (fun (z : Int) => Sq01Neutral.natural z 8) = true from a)
          refine ⟨.came b, ?_⟩
          have e3 : (zs b).length = b.length := by unfold zs; simp
          rw [e3]
          exact .came b hb
    rw [if_neg p7] at h
    by_cases p8 : p = 8
    · subst p8
      simp only [if_true] at h
      split at h
      · cases h
      · rename_i hl
        match r, hl with
        | x :: r, _ =>
          cases h
          obtain ⟨n, rfl, hn⟩ := nat_of (show Sq01Neutral.natural x 64 = true from a)
          exact ⟨_, .still n hn⟩
    rw [if_neg p8] at h
    by_cases p9 : p = 9
    · subst p9
      cases h
      exact ⟨_, .over⟩
    rw [if_neg p9] at h
    by_cases p10 : p = 10
    · subst p10
      simp only [if_true] at h
      split at h
      · cases h
      · rename_i hl
        match r, hl with
        | x :: r, _ =>
          cases h
          obtain ⟨n, rfl, hn⟩ := nat_of (show Sq01Neutral.natural x 64 = true from a)
          exact ⟨_, .look n hn⟩
    rw [if_neg p10] at h
    by_cases p11 : p = 11
    · subst p11
      cases h
      exact ⟨_, .count⟩
    rw [if_neg p11] at h
    cases h
theorem reads_call {t l : List Int} {c : List (List Int)} {k : Call} (h : Reads t l c k) : Sq01Neutral.callOf c = some k := by
  cases h <;> simp [Sq01Neutral.callOf, Sq01Neutral.nats, zs, List.map_map] <;> first | rfl | (congr 1; exact (List.map_congr_left fun x _ => rfl).trans (List.map_id' _))
theorem reads_wt {t l : List Int} {c : List (List Int)} {k : Call} (h : Reads t l c k) : t.length < l.length := by
  cases h <;> simp [zs] <;> omega
/-- what is left to be done: of the state s, of the list's rest l, the answers out -/
inductive Run : State → List Int → List Int → Nat → Prop
  | done (s : State) : Run s [] [] 0
  | call {s : State} {t l : List Int} {c : List (List Int)} {k : Call} {out : List Int} {n : Nat} (h : Reads t l c k) (r : Run (step s k).1 t out n) :
      Run s l (((1 + (step s k).2.out.length : Nat) : Int) :: (step s k).2.value :: (zs (step s k).2.out ++ out)) (n + 2 + (step s k).2.out.length)
theorem run_of : ∀ (f : Nat) (l : List Int) (cs : List (List (List Int))) (s : State), PyFlat.calls PySq01.shape f l = some cs → cs.all Sq01Neutral.asked1 = true →
    Run s l (PyFlat.told (PyFlat.played Sq01Neutral.step s cs)) (cs.length + Sq01Neutral.outs s cs)
  | f, [], cs, s, h, a => by
    have e : cs = [] := by cases f <;> (cases h; rfl)
    subst e
    exact .done s
  | 0, p :: r, cs, s, h, a => by cases h
  | f + 1, p :: r, cs, s, h, a => by
    unfold PyFlat.calls at h
    split at h
    · cases h
    · rename_i c t e
      split at h
      · cases h
      · rename_i cs' e'
        cases h
        rw [List.all_cons, Bool.and_eq_true] at a
        obtain ⟨k, hk⟩ := call_of e a.1
        have hc := reads_call hk
        have ih := run_of f t cs' (step s k).1 e' a.2
        have e1 : Sq01Neutral.step s c = ((step s k).1, (step s k).2.value :: zs (step s k).2.out) := by
          unfold Sq01Neutral.step
          rw [hc]
          rfl
        have e2 : PyFlat.told (PyFlat.played Sq01Neutral.step s (c :: cs')) = ((1 + (step s k).2.out.length : Nat) : Int) :: (step s k).2.value :: (zs (step s k).2.out ++ PyFlat.told (PyFlat.played Sq01Neutral.step (step s k).1 cs')) := by
          show PyFlat.told ((Sq01Neutral.step s c).2 :: PyFlat.played Sq01Neutral.step (Sq01Neutral.step s c).1 cs') = _
          rw [e1]
          unfold PyFlat.told
          rw [List.flatMap_cons]
          simp only [List.length_cons, zs, List.length_map, List.cons_append]
          congr 1
          omega
        have e3 : (c :: cs').length + Sq01Neutral.outs s (c :: cs') = (cs'.length + Sq01Neutral.outs (step s k).1 cs') + 2 + (step s k).2.out.length := by
          show (c :: cs').length + ((Sq01Neutral.step s c).2.length + Sq01Neutral.outs (Sq01Neutral.step s c).1 cs') = _
          rw [e1]
          simp only [List.length_cons, zs, List.length_map]
          omega
        rw [e2, e3]
        exact .call hk ih
theorem told_len {s : State} {l out : List Int} {n : Nat} (h : Run s l out n) : out.length = n := by
  induction h with
  | done s => rfl
  | call h r ih => simp only [List.length_cons, List.length_append, zs, List.length_map, ih]; omega
theorem asked_run {l : List Int} (h : PySq01.answers_asked l = true) : ∃ n, Run (begun 1) l (PySq01.answers l) n ∧ n < 1001000 ∧ l ≠ [] := by
  unfold PySq01.answers_asked PySq01.calls at h
  unfold PySq01.answers PySq01.calls
  cases e : PyFlat.calls PySq01.shape l.length l with
  | none => rw [e] at h; cases h
  | some cs =>
    rw [e] at h
    have ew : cs.map PySq01.whole = cs := (List.map_congr_left fun c _ => whole_id c).trans (List.map_id' cs)
    simp only [ew] at h ⊢
    rw [Bool.and_eq_true] at h
    obtain ⟨h1, h2⟩ := h
    unfold Sq01Neutral.asked at h2
    rw [Bool.and_eq_true, Bool.and_eq_true, decide_eq_true_eq] at h2
    have h1 : cs.length ≤ 1000 := of_decide_eq_true h1
    refine ⟨_, run_of _ _ _ _ e h2.2.1, ?_, ?_⟩
    · have h3 : Sq01Neutral.outs (begun 1) cs < 1000000 := h2.2.2
      omega
    · intro z
      subst z
      cases e
      exact absurd h2.1 (by decide)
end Os
set_option linter.all false
set_option maxRecDepth 100000
/-! Rules that the layer lacks: min of five ints, sorted and list of a dict, an item of a module's dict. -/
namespace Os
open PySem PySem.Spec PyProof.Rows L2
theorem args_min5 (a b c d e : Value) : argsOk "min" ⟨[a, b, c, d, e], []⟩ := by unfold argsOk; kernel_rfl
section
variable {prog : Program} {w : World} {A : Around} {E : Value → Shared → Prop} {s : Shared}
theorem call_min_five {a b c d e : Value} {Q : Value → Shared → Prop}
    (h : wpAny (model prog w) A.in1 (pyIter (.ref s.heap.objs.size)) (fun it s₂ => ∃ I fp wr n P St bt, it = .ref I ∧ Walks prog w A.in1 I fp wr n P St ∧ St 0 s₂.heap ∧ (∀ b ∈ fp, b < s₂.heap.objs.size) ∧ 0 < n ∧ CmpOf prog w A.in1 .Lt P bt ∧
      ∀ v h' tk, P (argBest bt (n - 1)) v → (∀ b o, b ∉ wr → s₂.heap.get? b = some o → h'.get? b = some o) → Q v { s₂ with heap := h', toks := tk }) E
      { s with heap := s.heap.push { cls := .type "tuple", data := .seq #[a, b, c, d, e] } }) :
    wpAny (model prog w) A (call (.builtin "min") [a, b, c, d, e]) Q E s := by
  have hname : (toString "min" ++ toString ".loop" : String) = "min.loop" := by decide
  refine call_function_tree F.kind_min F.plain_min F.entry_min (args_min5 _ _ _ _ _) ?_
  show wpAny _ A.in1 (Builtin.Builtins.bindParams "min" ["key", "default"] 0 ⟨[], []⟩ >>= _) _ _ s
  refine wpAny_bind (wpAny_of_eq (show Builtin.Builtins.bindParams "min" ["key", "default"] 0 ⟨[], []⟩ = pure [none, none] from rfl) ?_)
  show wpAny _ A.in1 (newTuple [a, b, c, d, e] >>= _) _ _ s
  refine wpAny_bind (wpAny_newObj_type ?_ (by size_fits))
  refine wpAny_bind (wpAny_mono h (fun it s₂ h₂ => ?_) fun _ _ e => e)
  obtain ⟨I, fp, wr, n, P, St, bt, rfl, W, hst, hfp, hn, hcmp, hQ⟩ := h₂
  refine wpAny_bind (wpAny_newObj_type ?_ (by size_fits))
  have hSf : s₂.heap.objs.size ∉ fp := fun hm => Nat.lt_irrefl _ (hfp _ hm)
  rw [hname]
  refine wpAny_pure ⟨plainId_quiet F.plain_min_loop _, codeAny_min_loop_first W bt hcmp s₂.heap.objs.size hSf hn (W.frame _ _ _ hst fun b _ o e => Heap.get?_push_of_some _ e) (Heap.get?_push_size _ rfl) fun v h' tk hP hk => ?_⟩
  exact hQ v h' tk hP fun b o hbw e => hk b o hbw (Nat.ne_of_lt (Heap.lt_size e)) (Heap.get?_push_of_some _ e)
theorem min_five_ints {a b c d e : Int} {t1 t2 t3 t4 t5 : Tok} {Q : Value → Shared → Prop} (hh : A.handled = none)
    (h : ∀ h' tk M t', (∀ d o, s.heap.get? d = some o → h'.get? d = some o) → M ∈ [a, b, c, d, e] → (∀ y, y ∈ [a, b, c, d, e] → M ≤ y) → Q (.int M t') { s with heap := h', toks := tk }) :
    wpAny (model prog w) A (call (.builtin "min") [.int a t1, .int b t2, .int c t3, .int d t4, .int e t5]) Q E s := by
  generalize hxs : (#[(a, t1), (b, t2), (c, t3), (d, t4), (e, t5)] : Array (Int × Tok)) = xs
  have hT : (s.heap.push { cls := .type "tuple", data := .seq #[.int a t1, .int b t2, .int c t3, .int d t4, .int e t5] }).IsTuple s.heap.objs.size (intItems xs) := ⟨_, Heap.get?_push_size _ rfl, rfl, 0, by rw [← hxs]; simp [intItems]⟩
  have hxz : xs.size = 5 := by rw [← hxs]; rfl
  refine call_min_five (wpAny_pyIter_tuple hT ?_)
  have hsz : (s.heap.push { cls := .type "tuple", data := .seq #[.int a t1, .int b t2, .int c t3, .int d t4, .int e t5] }).objs.size = s.heap.objs.size + 1 := Heap.size_push ..
  refine ⟨_, [_, s.heap.objs.size], [_], _, _, _, _, rfl, Walks.tuple (A := A.in1) hh _ s.heap.objs.size (by rw [hsz]; exact Nat.ne_of_lt (Nat.lt_succ_self _)) (intItems xs),
    ⟨⟨_, Heap.get?_push_size _ rfl, rfl, rfl⟩, hT.push _⟩, fun z hz => ?_, by simp [intItems, hxz], CmpOf.ints_lt (numAt xs) (fun _ _ => intItems_at), fun v h' tk hP hk => ?_⟩
  · show z < ((s.heap.push _).push _).objs.size
    rw [Heap.size_push, hsz]
    rcases List.mem_cons.mp hz with rfl | hz
    · rw [hsz]; exact Nat.lt_succ_self _
    · rcases List.mem_cons.mp hz with rfl | hz
      · exact Nat.lt_succ_of_lt (Nat.lt_succ_self _)
      · cases hz
  · have hold : ∀ d o, s.heap.get? d = some o → h'.get? d = some o := fun d o e => by
      refine hk d o (fun hm => ?_) (Heap.get?_push_of_some _ (Heap.get?_push_of_some _ e))
      rcases List.mem_cons.mp hm with e1 | hm
      · have := Heap.lt_size e; rw [e1, hsz] at this; exact Nat.lt_irrefl _ (Nat.lt_of_succ_lt this)
      · cases hm
    have hns : xs.toList.map (·.1) = [a, b, c, d, e] := by rw [← hxs]; rfl
    obtain ⟨t, rfl⟩ := intItems_at hP
    obtain ⟨h1, h2⟩ := argBest_lt (numAt xs) ((intItems xs).size - 1)
    have hsi : (intItems xs).size = 5 := by simp [intItems, hxz]
    rw [hsi] at h1 h2 ⊢
    refine h h' tk _ t hold ?_ fun y hy => ?_
    · rw [numAt_eq, hns]
      refine PySem.getD_mem ?_
      show _ < 5
      omega
    · rw [← hns] at hy
      obtain ⟨j, hj, rfl⟩ := mem_getD hy
      rw [hns] at hj
      rw [← numAt_eq]
      have hj : j < 5 := hj
      exact h2 j (by omega)
end
theorem ints_are : ∀ {us : List Value} {ns : List Int}, us.length = ns.length → (∀ (j : Nat) (v : Value), us[j]? = some v → ∃ i, ns[j]? = some i ∧ ∃ t, v = Value.int i t) → IntsAre us ns
  | [], [], _, _ => .nil
  | u :: us, n :: ns, hl, h => by
    obtain ⟨i, e, t, rfl⟩ := h 0 u rfl
    cases e
    exact .cons n t (ints_are (by simpa using hl) fun j v q => by simpa using h (j + 1) v (by simpa using q))
  | [], _ :: _, hl, _ => by simp at hl
  | _ :: _, [], hl, _ => by simp at hl
section
variable {X : Cx}
/-- min of five ints -/
theorem call_min5 (hc : X.calm = true) : CallR X (.builtin "min") (fun xs H Q => ∃ a b c d e, xs = [.int a, .int b, .int c, .int d, .int e] ∧ ∀ M, M ∈ [a, b, c, d, e] → (∀ y, y ∈ [a, b, c, d, e] → M ≤ y) → Q (.int M) H) := by
  intro pins s σ H xs us Q I r h
  obtain ⟨a, b, c, d, e, rfl, q⟩ := h
  match us, r with
  | _, .cons ⟨t1, e1⟩ (.cons ⟨t2, e2⟩ (.cons ⟨t3, e3⟩ (.cons ⟨t4, e4⟩ (.cons ⟨t5, e5⟩ .nil)))) =>
    subst e1 e2 e3 e4 e5
    exact min_five_ints (I.ok.hd hc) fun h' tk M t' hk h1 h2 => ⟨.int M, H, I.kept hk, ⟨_, rfl⟩, q M h1 h2⟩
/-- a dict whose keys are ints, in their order -/
def DKeys (kvs : List (Key × V)) (ns : List Int) : Prop := kvs.map (·.1) = ns.map (Sum.inl : Int → Key)
theorem keys_at {P : Program} {w : World} {kvs : List (Key × V)} {vs : List (Key × Value)} {ns : List Int} {acc : List Value} (rel : KV kvs vs) (hk : DKeys kvs ns) (hl : acc.length = vs.length)
    (h : ∀ (j : Nat) (v : Value), acc[j]? = some v → ∃ k x, vs[j]? = some (k, x) ∧ (mixKind P w).is k v = true) : IntsAre acc ns := by
  have e1 : vs.map (·.1) = ns.map (Sum.inl : Int → Key) := rel.keys.symm.trans hk
  have e2 : vs.length = ns.length := by simpa using congrArg List.length e1
  refine ints_are (hl.trans e2) fun j v q => ?_
  obtain ⟨k, x, hx, hi⟩ := h j v q
  have e3 : (vs.map (·.1))[j]? = some k := by rw [List.getElem?_map, hx]; rfl
  rw [e1, List.getElem?_map] at e3
  cases e4 : ns[j]? with
  | none => rw [e4] at e3; cases e3
  | some i =>
    rw [e4] at e3
    cases e3
    exact ⟨i, rfl, Value.isInt_shape (k := i) (v := v) hi⟩
/-- sorted(d) -/
theorem call_sortedD (hc : X.calm = true) : CallR X (.builtin "sorted") (fun xs H Q => ∃ a kvs ns, xs = [.ref a] ∧ H a = some (.dK kvs) ∧ DKeys kvs ns ∧
    ∀ (ns' : List Int) (p : Addr), ns'.Perm ns → ns'.Pairwise (· ≤ ·) → H p = none → Q (.ref p) (upd H p (.lst (ns'.map V.int)))) := by
  intro pins s σ H xs us Q I r h
  obtain ⟨a, kvs, ns, rfl, ha, hk, q⟩ := h
  rw [Vals.ref1 r]
  obtain ⟨z, hd, vs, rel, dd⟩ := dk_of I.hok ha
  obtain ⟨ep, hat⟩ := dd.dictAt
  have hlen : kvs.length = ns.length := by simpa using congrArg List.length hk
  have hvl : vs.length ≤ sizeLine := by rw [← rel.length]; exact z
  refine Calls.call_function_entry kind_sorted plain_sorted entry_sorted (args_sorted1 _) ?_
  unfold Builtin.«sorted»
  refine wpAny_bind (m := checkCount "sorted" 1 1 _) (wpAny_pure ?_)
  refine wpAny_bind (PySem.W.kdu_collect (A := X.A.in1) (PySem.W.kdl_dict (knd := mixKind X.prog X.w) (kvs := vs) (ep := ep) hd) (I.ok.hd hc) hat hvl fun h' tk acc hkp hacc => ?_)
  have hal : acc.toList.length = vs.length := by rw [Array.length_toList]; exact hacc.1
  have hi : IntsAre acc.toList ns := keys_at (P := X.prog) (w := X.w) rel hk hal fun j v e => hacc.2 j v (by rw [← Array.getElem?_toList]; exact e)
  refine wpAny_bind (wpAny_newList ?_ (by rw [hal]; exact hvl))
  have hoL : (h'.push { cls := .type "list", data := .seq acc.toList.toArray }).get? h'.objs.size = some (seqObj "list" acc.toList.toArray 0) := Heap.get?_push_size _ rfl
  refine wpAny_bind (wpAny_holding (wpAny_call_entry slot_list_sort ⟨_, hoL, rfl⟩ entry_list_sort (list_sort_treeAny hoL hi (by rw [hal]; exact hvl) fun out ns' h1 h2 h3 => ⟨_, rfl, ?_⟩) (args_list_sort _)))
  refine wpAny_pure ⟨_, rfl, ?_⟩
  obtain ⟨ep', he'⟩ := PyProof.Rows.sortedHeap_at (vs := acc.toList) (out := out) hoL
  have I1 : Inv X pins σ H { s with heap := h', toks := tk } := I.kept hkp
  have hl2 : (ns'.map V.int).length ≤ sizeLine := by rw [List.length_map, h2.length_eq, ← hlen]; exact z
  refine ⟨.ref _, upd H h'.objs.size (.lst (ns'.map V.int)), I1.laid (t' := tk) (fun b u e => ?_) (Nat.le_refl _) ⟨hl2, out.toList, ep', vals_of_ints h1, he'⟩, rfl, q ns' _ h2 h3 I1.fresh⟩
  have e1 : (h'.push { cls := .type "list", data := .seq acc.toList.toArray }).get? b = some u := Heap.get?_push_of_some _ e
  have hb : b ≠ h'.objs.size := Nat.ne_of_lt (Heap.lt_size e)
  rw [PyProof.Rows.sortedHeap_old hb (Heap.lt_size e1)]; exact e1
/-- list(d) -/
theorem call_listD (hc : X.calm = true) : CallR X (.type "list") (fun xs H Q => ∃ a kvs ns, xs = [.ref a] ∧ H a = some (.dK kvs) ∧ DKeys kvs ns ∧ ∀ p, H p = none → Q (.ref p) (upd H p (.lst (ns.map V.int)))) := by
  intro pins s σ H xs us Q I r h
  obtain ⟨a, kvs, ns, rfl, ha, hk, q⟩ := h
  rw [Vals.ref1 r]
  obtain ⟨z, hd, vs, rel, dd⟩ := dk_of I.hok ha
  obtain ⟨ep, hat⟩ := dd.dictAt
  have hlen : kvs.length = ns.length := by simpa using congrArg List.length hk
  have hvl : vs.length ≤ sizeLine := by rw [← rel.length]; exact z
  refine PySem.W.kdl_call (PySem.W.kdl_dict (knd := mixKind X.prog X.w) (kvs := vs) (ep := ep) hd) (I.ok.hd hc) hat hvl fun h' tk acc c hkp he hacc => ?_
  have hal : acc.toList.length = vs.length := by rw [Array.length_toList]; exact hacc.1
  have hi : IntsAre acc.toList ns := keys_at (P := X.prog) (w := X.w) rel hk hal fun j v e => hacc.2 j v (by rw [← Array.getElem?_toList]; exact e)
  exact ⟨.ref _, upd H s.heap.objs.size (.lst (ns.map V.int)), I.laid (t' := tk) hkp (Nat.le_refl _) ⟨by rw [List.length_map, ← hlen]; exact z, acc.toList, c, vals_of_ints hi, by simpa using he⟩, rfl, q _ I.fresh⟩
/-- a module's dict of ints by ints -/
def tabOf (tab : List (Int × Int)) (k : Int) : Option Int := (tab.find? fun p => p.1 == k).map (·.2)
def MDict (K : PySem.W.Frag) (a : Addr) (tab : List (Int × Int)) : Prop := ∃ o es ep, K.lookup a = some o ∧ o.ExactDict ∧ o.data = .dict es ep ∧ (a == sysModules) = false ∧
  (∀ e ∈ es, ∃ k t, e.key = Value.int k t ∧ e.hash = hashInt k) ∧ ∀ k, match tabOf tab k with
    | some v => ∃ t, findBy keyIs es (Sum.inl k) = some (Value.int v t)
    | none => findBy keyIs es (Sum.inl k) = none
theorem MDict.map {a : Addr} {tab : List (Int × Int)} {pins : List (Addr × Obj)} {s : Shared} {σ : L2.St} {H : Hp} (D : MDict X.K a tab) (I : Inv X pins σ H s) : ∃ m, s.heap.MapOf (mixKind X.prog X.w) a m ∧ (a == sysModules) = false ∧ s.TypeIs (.ref a) "dict" ∧ ∀ k, match tabOf tab k with
    | some v => ∃ t, m (Sum.inl k) = some (Value.int v t)
    | none => m (Sum.inl k) = none := by
  obtain ⟨o, es, ep, lk, ex, dt, hs, hk, hf⟩ := D
  have e1 : s.heap.get? a = some o := I.kIn a o lk
  refine ⟨fun k => findBy keyIs es k, ⟨o, es, ep, e1, ex, dt, fun en hen => ?_, fun k => rfl⟩, hs, ⟨o, e1, ex.1⟩, hf⟩
  obtain ⟨k', t', e2, e3⟩ := hk en hen
  refine ⟨Sum.inl k', ?_, e3⟩
  rw [e2]
  exact kV_is (P := X.prog) (w := X.w) (k := Sum.inl k') ⟨t', rfl⟩
def tMD (tab : List (Int × Int)) (te : TE) : TE := fun σ H Q => te σ H fun y H1 => ∃ k v, y = .int k ∧ tabOf tab k = some v ∧ Q (.int v) H1
theorem pe_md {x : Str} {p pos : Pos} {e : Expr} {te : TE} {tab : List (Int × Int)} (hm : ∃ a, X.mg x = some (.ref a) ∧ MDict X.K a tab) (he : PE X e te) (hs : NoSl e) (hg : Gl X x := by rfl) (hdb : (x == ("__debug__" : Str)) = false := by decide) :
    PE X (.Subscript (.Name x p) e pos) (tMD tab te) := by
  obtain ⟨a, hm, D⟩ := hm
  intro pins s σ H Q I h
  refine subD_of PySem.F.slot_dict_getitem.lookup hs (ld_glob I hg hm (thn (he pins s σ H _ I h) fun iv s2 ⟨y, H2, I2, ry, k, v, ey, hv, q2⟩ => ?_) hdb)
  subst ey
  obtain ⟨m, M, _, ty, hf⟩ := D.map I2
  have hf := hf k
  rw [hv] at hf
  obtain ⟨t, hf⟩ := hf
  exact ⟨ty, wpAny_getItem_of (kV_is (k := Sum.inl k) ry) M hf ⟨.int v, H2, I2.tok _, ⟨t, rfl⟩, q2⟩⟩
def tMDNot (tab : List (Int × Int)) (te : TE) : TE := fun σ H Q => te σ H fun y H1 => ∃ k, y = .int k ∧ Q (.bl (!(tabOf tab k).isSome)) H1
theorem pc_mdnot {x : Str} {p : Pos} {e : Expr} {te : TE} {tab : List (Int × Int)} (hm : ∃ a, X.mg x = some (.ref a) ∧ MDict X.K a tab) (he : PE X e te) (hg : Gl X x := by rfl) (hdb : (x == ("__debug__" : Str)) = false := by decide) :
    PC X .NotIn e (.Name x p) (tMDNot tab te) := by
  obtain ⟨a, hm, D⟩ := hm
  intro pins s σ H Q I h
  refine thn (he pins s σ H _ I h) fun iv s1 ⟨y, H1, I1, ry, k, ey, q1⟩ => ld_glob I1 hg hm ?_ hdb
  subst ey
  obtain ⟨m, M, hd, _, hf⟩ := D.map I1
  have hf := hf k
  refine wpAny_notIn_of (kV_is (k := Sum.inl k) ry) hd M ⟨.bl _, H1, I1.tok _, rfl, ?_⟩
  cases e : tabOf tab k with
  | none =>
    rw [e] at hf q1
    rw [hf]
    exact q1
  | some v =>
    rw [e] at hf q1
    obtain ⟨t, hf⟩ := hf
    rw [hf]
    exact q1
end
end Os
set_option linter.all false
set_option maxRecDepth 100000
/-! The heap of the program as a state of the specification. -/
namespace Os
open PySem L2 Sq01
/-! ### numbers as values -/
def iv (l : List Nat) : List V := l.map fun (n : Nat) => V.int (n : Int)
theorem iv_len (l : List Nat) : (iv l).length = l.length := List.length_map ..
theorem iv_app (a b : List Nat) : iv (a ++ b) = iv a ++ iv b := List.map_append ..
theorem iv_take (n : Nat) (a : List Nat) : iv (a.take n) = (iv a).take n := List.map_take ..
theorem iv_drop (n : Nat) (a : List Nat) : iv (a.drop n) = (iv a).drop n := List.map_drop ..
/-! ### attributes -/
/-- an Exchange's, in the order in which __init__ stores them -/
def xF (x : Exchange) (w u : Addr) : List (Str × V) :=
  [("waiting", .ref w), ("ended", .bl x.ended), ("last_sent", .bl x.sent), ("credit", .int x.credit), ("untaken", .ref u), ("last_came", .bl x.whole), ("end_told", .bl x.done_), ("left", .int x.left), ("owed", .int x.owed)]
/-- a Side's -/
def sF (s : State) (d l c : Addr) : List (Str × V) :=
  [("which", .int s.side), ("dead", .bl s.dead), ("going", .bl s.over), ("other_going", .bl s.gone), ("exchanges", .ref d), ("to_ask", .int s.next), ("to_come", .int (after s)), ("turn", .int s.turn), ("first", .ref l), ("unread", .ref c), ("credit", .int s.credit), ("left", .int s.left), ("owed", .int s.owed)]
/-! ### where things lie -/
/-- what an address of the side's own is for -/
inductive Tag where
  | side | dict | first | unread | exc (i : Nat) | wt (i : Nat) | ut (i : Nat) | fr
  deriving DecidableEq
/-- the side's instance dict, its dict of exchanges, its list of frames; the numbers as the dict has them; each exchange's object and its two lists; the frames' lists; what each address is for -/
structure Lay where
  dx : Addr
  d : Addr
  l : Addr
  c : Addr
  ord : List Nat
  xa : Nat → Addr
  wa : Nat → Addr
  ua : Nat → Addr
  fa : List Addr
  G : Addr → Option Tag
/-- the addresses of the classes -/
structure Cs where
  S : Addr
  X : Addr
  F : Addr
  N : Addr
def kvs (L : Lay) : List (Key × V) := L.ord.map fun (i : Nat) => ((Sum.inl (i : Int) : Key), V.ref (L.xa i))
structure ExAt (Z : Cs) (H : Hp) (L : Lay) (x : Exchange) : Prop where
  ob : ∃ dx, H (L.xa x.id) = some (.ins Z.X dx (xF x (L.wa x.id) (L.ua x.id)))
  gx : L.G (L.xa x.id) = some (.exc x.id)
  wt : H (L.wa x.id) = some (.lst (iv x.out))
  gw : L.G (L.wa x.id) = some (.wt x.id)
  ut : H (L.ua x.id) = some (.lst (iv x.got))
  gu : L.G (L.ua x.id) = some (.ut x.id)
def FrAt (H : Hp) (L : Lay) (a : Addr) (f : Sq01.Frame) : Prop := H a = some (.lst (iv f.bytes)) ∧ L.G a = some .fr
structure Rep (Z : Cs) (H : Hp) (p : Addr) (s : State) (L : Lay) : Prop where
  dom : ∀ b t, L.G b = some t → ∃ o, H b = some o
  hp : H p = some (.ins Z.S L.dx (sF s L.d L.l L.c))
  gp : L.G p = some .side
  hd : H L.d = some (.dK (kvs L))
  gd : L.G L.d = some .dict
  ord : L.ord.Perm (ids s)
  hl : H L.l = some (.lst (L.fa.map V.ref))
  gl : L.G L.l = some .first
  fr : Paired (FrAt H L) L.fa s.first
  ex : ∀ x ∈ s.exchanges, ExAt Z H L x
  hc : H L.c = some (.lst (iv s.came))
  gc : L.G L.c = some .unread
/-- what is not the side's own stays as it was, and not the side's own -/
def Ext (H : Hp) (L : Lay) (H' : Hp) (L' : Lay) : Prop := ∀ b o, H b = some o → L.G b = none → H' b = some o ∧ L'.G b = none
theorem Ext.refl {H : Hp} {L : Lay} : Ext H L H L := fun _ _ e g => ⟨e, g⟩
theorem Ext.trans {H H1 H2 : Hp} {L L1 L2 : Lay} (a : Ext H L H1 L1) (b : Ext H1 L1 H2 L2) : Ext H L H2 L2 := fun c o e g => b c o (a c o e g).1 (a c o e g).2
/-- q is nothing that was there and was not the side's own -/
def New (H : Hp) (L : Lay) (q : Addr) : Prop := ∀ o, H q = some o → L.G q = none → False
theorem New.of {H : Hp} {L : Lay} {q : Addr} (h : H q = none) : New H L q := fun o e _ => by rw [h] at e; cases e
theorem Ext.new {H H' : Hp} {L L' : Lay} {q : Addr} (E : Ext H L H' L') (h : H' q = none) : New H L q := fun o e g => by rw [(E q o e g).1] at h; cases h
theorem gne {L : Lay} {a b : Addr} {t u : Tag} (h : L.G a = some t) (h' : L.G b = some u) (n : t ≠ u) : a ≠ b := fun e => by rw [e, h'] at h; exact n (Option.some.inj h).symm
theorem gne0 {L : Lay} {a b : Addr} {t : Tag} (h : L.G a = some t) (h' : L.G b = none) : a ≠ b := fun e => by rw [e, h'] at h; cases h
theorem paired_mono {α β : Type} {F G : α → β → Prop} : ∀ {l₁ : List α} {l₂ : List β}, Paired F l₁ l₂ → (∀ a b, F a b → G a b) → Paired G l₁ l₂
  | _, _, .nil, _ => .nil
  | _, _, .cons r t, f => .cons (f _ _ r) (paired_mono t f)
theorem paired_drop {α β : Type} {F : α → β → Prop} : ∀ (n : Nat) {l₁ : List α} {l₂ : List β}, Paired F l₁ l₂ → Paired F (l₁.drop n) (l₂.drop n)
  | 0, _, _, h => h
  | _ + 1, _, _, .nil => .nil
  | n + 1, _, _, .cons _ t => paired_drop n t
theorem paired_at {α β : Type} {F : α → β → Prop} : ∀ {l₁ : List α} {l₂ : List β} {i : Nat} {b : β}, Paired F l₁ l₂ → l₂[i]? = some b → ∃ a, l₁[i]? = some a ∧ F a b
  | _, _, _, _, .nil, e => by simp at e
  | _, _, 0, _, .cons r _, e => by simp at e; subst e; exact ⟨_, rfl, r⟩
  | _, _, i + 1, b, .cons _ t, e => by
    obtain ⟨a, h1, h2⟩ := paired_at (i := i) (b := b) t (by simpa using e)
    exact ⟨a, by simpa using h1, h2⟩
section
variable {Z : Cs} {H H' : Hp} {p : Addr} {s : State} {L : Lay}
theorem Rep.free (R : Rep Z H p s L) {q : Addr} (h : H q = none) : L.G q = none := by
  cases e : L.G q with
  | none => rfl
  | some t => obtain ⟨o, z⟩ := R.dom q t e; rw [h] at z; cases z
theorem ExAt.keep {x : Exchange} (E : ExAt Z H L x) (k : ∀ b t, L.G b = some t → H' b = H b) : ExAt Z H' L x :=
  ⟨by rw [k _ _ E.gx]; exact E.ob, E.gx, by rw [k _ _ E.gw]; exact E.wt, E.gw, by rw [k _ _ E.gu]; exact E.ut, E.gu⟩
/-- the side's own stays as it was -/
theorem Rep.keep (R : Rep Z H p s L) (k : ∀ b t, L.G b = some t → H' b = H b) : Rep Z H' p s L :=
  ⟨fun b t e => by rw [k b t e]; exact R.dom b t e, by rw [k _ _ R.gp]; exact R.hp, R.gp, by rw [k _ _ R.gd]; exact R.hd, R.gd, R.ord, by rw [k _ _ R.gl]; exact R.hl, R.gl,
    paired_mono R.fr fun a f q => ⟨by rw [k _ _ q.2]; exact q.1, q.2⟩, fun x hx => (R.ex x hx).keep k, by rw [k _ _ R.gc]; exact R.hc, R.gc⟩
theorem Rep.upd0 (R : Rep Z H p s L) {q : Addr} {o : HO} (g : L.G q = none) : Rep Z (upd H q o) p s L := R.keep fun b t e => upd_ne (gne0 e g)
theorem Rep.fresh (R : Rep Z H p s L) {q : Addr} {o : HO} (h : H q = none) : Rep Z (upd H q o) p s L := R.upd0 (R.free h)
theorem Ext.fresh {q : Addr} {o : HO} (h : H q = none) : Ext H L (upd H q o) L := fun b u e g => ⟨by rw [upd_ne (ne_of_none e h)]; exact e, g⟩
theorem Ext.own {q : Addr} {o : HO} {t : Tag} (h : L.G q = some t) : Ext H L (upd H q o) L := fun b u e g => ⟨by rw [upd_ne (fun z => by rw [z, h] at g; cases g)]; exact e, g⟩
/-- an address becomes the side's own -/
def Lay.tag (L : Lay) (q : Addr) (t : Tag) : Lay := { L with G := fun b => if b = q then some t else L.G b }
theorem tag_same {q : Addr} {t : Tag} : (L.tag q t).G q = some t := if_pos rfl
theorem tag_ne {q b : Addr} {t : Tag} (h : b ≠ q) : (L.tag q t).G b = L.G b := if_neg h
theorem tag_old {q b : Addr} {t u : Tag} (g : L.G q = none) (h : L.G b = some u) : (L.tag q t).G b = some u := by rw [tag_ne (gne0 h g)]; exact h
/-- an untagged object that is there is taken over -/
theorem Rep.tag (R : Rep Z H p s L) {q : Addr} {o : HO} {t : Tag} (h : H q = some o) (g : L.G q = none) : Rep Z H p s (L.tag q t) :=
  ⟨fun b u e => by
      by_cases z : b = q
      · rw [z]; exact ⟨o, h⟩
      · rw [tag_ne z] at e; exact R.dom b u e,
    R.hp, tag_old g R.gp, R.hd, tag_old g R.gd, R.ord, R.hl, tag_old g R.gl, paired_mono R.fr fun a f x => ⟨x.1, tag_old g x.2⟩,
    fun x hx => let E := R.ex x hx; ⟨E.ob, tag_old g E.gx, E.wt, tag_old g E.gw, E.ut, tag_old g E.gu⟩, R.hc, tag_old g R.gc⟩
theorem Ext.tag {q : Addr} {t : Tag} (h : H q = none) {H' : Hp} (k : ∀ b o, H b = some o → L.G b = none → H' b = some o) : Ext H L H' (L.tag q t) := fun b o e g =>
  ⟨k b o e g, by rw [tag_ne (ne_of_none e h)]; exact g⟩
/-! ### changes -/
theorem lt_ne {l : List Exchange} (srt : (l.map (·.id)).Pairwise (· < ·)) {x y : Exchange} (hx : x ∈ l) (hy : y ∈ l) (e : x.id = y.id) : x = y := by
  have h1 := find_of_mem (s := { begun 1 with exchanges := l }) srt hx
  have h2 := find_of_mem (s := { begun 1 with exchanges := l }) srt hy
  rw [e, h2] at h1
  exact (Option.some.inj h1).symm
/-- the side's own attributes change, nothing else of it -/
theorem Rep.side (R : Rep Z H p s L) {t : State} (h1 : t.exchanges = s.exchanges) (h2 : t.first = s.first) (h3 : t.came = s.came) : Rep Z (upd H p (.ins Z.S L.dx (sF t L.d L.l L.c))) p t L := by
  have k : ∀ b u, L.G b = some u → b ≠ p → (upd H p (.ins Z.S L.dx (sF t L.d L.l L.c))) b = H b := fun b u _ z => upd_ne z
  have n1 : L.d ≠ p := gne R.gd R.gp (by decide)
  have n2 : L.l ≠ p := gne R.gl R.gp (by decide)
  have n3 : L.c ≠ p := gne R.gc R.gp (by decide)
  refine ⟨fun b u e => ?_, upd_same, R.gp, by rw [upd_ne n1]; exact R.hd, R.gd, ?_, by rw [upd_ne n2]; exact R.hl, R.gl, ?_, ?_, by rw [upd_ne n3, h3]; exact R.hc, R.gc⟩
  · by_cases z : b = p
    · rw [z]; exact ⟨_, upd_same⟩
    · rw [upd_ne z]; exact R.dom b u e
  · unfold ids; rw [h1]; exact R.ord
  · rw [h2]; exact paired_mono R.fr fun a f x => ⟨by rw [upd_ne (gne x.2 R.gp (by decide))]; exact x.1, x.2⟩
  · rw [h1]
    intro x hx
    have E := R.ex x hx
    exact ⟨by rw [upd_ne (gne E.gx R.gp (by simp))]; exact E.ob, E.gx, by rw [upd_ne (gne E.gw R.gp (by simp))]; exact E.wt, E.gw, by rw [upd_ne (gne E.gu R.gp (by simp))]; exact E.ut, E.gu⟩
/-- an exchange's own attributes change -/
theorem Rep.exc (R : Rep Z H p s L) (srt : (ids s).Pairwise (· < ·)) {x y : Exchange} {dx : Addr} (hx : x ∈ s.exchanges) (e1 : y.id = x.id) (e2 : y.out = x.out) (e3 : y.got = x.got) :
    Rep Z (upd H (L.xa x.id) (.ins Z.X dx (xF y (L.wa x.id) (L.ua x.id)))) p (s.set y) L := by
  have E := R.ex x hx
  have k : ∀ b t, L.G b = some t → t ≠ .exc x.id → (upd H (L.xa x.id) (.ins Z.X dx (xF y (L.wa x.id) (L.ua x.id)))) b = H b := fun b t g n => upd_ne (gne g E.gx n)
  refine ⟨fun b u e => ?_, by rw [k _ _ R.gp (by simp)]; exact R.hp, R.gp, by rw [k _ _ R.gd (by simp)]; exact R.hd, R.gd, by rw [set_ids]; exact R.ord, by rw [k _ _ R.gl (by simp)]; exact R.hl, R.gl,
    paired_mono R.fr fun a f q => ⟨by rw [k _ _ q.2 (by simp)]; exact q.1, q.2⟩, fun z hz => ?_, by rw [k _ _ R.gc (by simp)]; exact R.hc, R.gc⟩
  · by_cases z : b = L.xa x.id
    · rw [z]; exact ⟨_, upd_same⟩
    · rw [upd_ne z]; exact R.dom b u e
  · rcases mem_set hz with q | ⟨hz, n⟩
    · subst q
      refine ⟨⟨dx, by rw [e1, upd_same]⟩, by rw [e1]; exact E.gx, ?_, by rw [e1]; exact E.gw, ?_, by rw [e1]; exact E.gu⟩
      · rw [e1, k _ _ E.gw (by simp), e2]; exact E.wt
      · rw [e1, k _ _ E.gu (by simp), e3]; exact E.ut
    · have F := R.ex z hz
      rw [e1] at n
      exact ⟨by rw [k _ _ F.gx (by simp [n])]; exact F.ob, F.gx, by rw [k _ _ F.gw (by simp)]; exact F.wt, F.gw, by rw [k _ _ F.gu (by simp)]; exact F.ut, F.gu⟩
/-- the list of what waits changes in its place -/
theorem Rep.waits (R : Rep Z H p s L) {x : Exchange} {b : Bytes} (hx : x ∈ s.exchanges) : Rep Z (upd H (L.wa x.id) (.lst (iv b))) p (s.set { x with out := b }) L := by
  have E := R.ex x hx
  have k : ∀ c t, L.G c = some t → t ≠ .wt x.id → (upd H (L.wa x.id) (.lst (iv b))) c = H c := fun c t g n => upd_ne (gne g E.gw n)
  refine ⟨fun c u e => ?_, by rw [k _ _ R.gp (by simp)]; exact R.hp, R.gp, by rw [k _ _ R.gd (by simp)]; exact R.hd, R.gd, by rw [set_ids]; exact R.ord, by rw [k _ _ R.gl (by simp)]; exact R.hl, R.gl,
    paired_mono R.fr fun a f q => ⟨by rw [k _ _ q.2 (by simp)]; exact q.1, q.2⟩, fun z hz => ?_, by rw [k _ _ R.gc (by simp)]; exact R.hc, R.gc⟩
  · by_cases z : c = L.wa x.id
    · rw [z]; exact ⟨_, upd_same⟩
    · rw [upd_ne z]; exact R.dom c u e
  · rcases mem_set hz with q | ⟨hz, n⟩
    · subst q
      refine ⟨?_, E.gx, upd_same, E.gw, ?_, E.gu⟩
      · show ∃ dx, (upd H (L.wa x.id) _) (L.xa x.id) = _
        rw [k _ _ E.gx (by simp)]; exact E.ob
      · show (upd H (L.wa x.id) _) (L.ua x.id) = _
        rw [k _ _ E.gu (by simp)]; exact E.ut
    · have F := R.ex z hz
      have n : z.id ≠ x.id := n
      exact ⟨by rw [k _ _ F.gx (by simp)]; exact F.ob, F.gx, by rw [k _ _ F.gw (by simp [n])]; exact F.wt, F.gw, by rw [k _ _ F.gu (by simp)]; exact F.ut, F.gu⟩
/-- a new list of what waits is put in the old one's place -/
theorem Rep.waitsNew (R : Rep Z H p s L) {x : Exchange} {b : Bytes} {q dx : Addr} (hx : x ∈ s.exchanges) (hq : H q = some (.lst (iv b))) (g : L.G q = none) :
    Rep Z (upd H (L.xa x.id) (.ins Z.X dx (xF x q (L.ua x.id)))) p (s.set { x with out := b }) { L.tag q (.wt x.id) with wa := fun i => if i = x.id then q else L.wa i } := by
  have E := R.ex x hx
  have k : ∀ c t, L.G c = some t → t ≠ .exc x.id → (upd H (L.xa x.id) (.ins Z.X dx (xF x q (L.ua x.id)))) c = H c := fun c t g n => upd_ne (gne g E.gx n)
  have kq : (upd H (L.xa x.id) (.ins Z.X dx (xF x q (L.ua x.id)))) q = some (.lst (iv b)) := by rw [upd_ne (gne0 E.gx g).symm]; exact hq
  refine ⟨fun c u e => ?_, by rw [k _ _ R.gp (by simp)]; exact R.hp, tag_old g R.gp, ?_, tag_old g R.gd, by rw [set_ids]; exact R.ord, ?_, tag_old g R.gl,
    paired_mono R.fr fun a f y => ⟨by rw [k _ _ y.2 (by simp)]; exact y.1, tag_old g y.2⟩, fun z hz => ?_, (by show (upd H (L.xa x.id) _) L.c = _; rw [k _ _ R.gc (by simp)]; exact R.hc), tag_old g R.gc⟩
  · by_cases z : c = L.xa x.id
    · rw [z]; exact ⟨_, upd_same⟩
    · rw [upd_ne z]
      by_cases z2 : c = q
      · rw [z2]; exact ⟨_, hq⟩
      · exact R.dom c u (by rw [← tag_ne (t := .wt x.id) z2]; exact e)
  · show (upd H (L.xa x.id) _) L.d = _
    rw [k _ _ R.gd (by simp)]; exact R.hd
  · show (upd H (L.xa x.id) _) L.l = _
    rw [k _ _ R.gl (by simp)]; exact R.hl
  · rcases mem_set hz with e | ⟨hz, n⟩
    · subst e
      refine ⟨⟨dx, ?_⟩, tag_old g E.gx, ?_, ?_, ?_, tag_old g E.gu⟩
      · show (upd H (L.xa x.id) _) (L.xa x.id) = some (.ins Z.X dx (xF { x with out := b } (if x.id = x.id then q else L.wa x.id) (L.ua x.id)))
        rw [upd_same, if_pos rfl]; rfl
      · show (upd H (L.xa x.id) _) (if x.id = x.id then q else L.wa x.id) = _
        rw [if_pos rfl]; exact kq
      · show (L.tag q (.wt x.id)).G (if x.id = x.id then q else L.wa x.id) = _
        rw [if_pos rfl]; exact tag_same
      · show (upd H (L.xa x.id) _) (L.ua x.id) = _
        rw [k _ _ E.gu (by simp)]; exact E.ut
    · have F := R.ex z hz
      have n : z.id ≠ x.id := n
      refine ⟨?_, tag_old g F.gx, ?_, ?_, ?_, tag_old g F.gu⟩
      · show ∃ dx', (upd H (L.xa x.id) _) (L.xa z.id) = some (.ins Z.X dx' (xF z (if z.id = x.id then q else L.wa z.id) (L.ua z.id)))
        rw [if_neg n, k _ _ F.gx (by simp [n])]; exact F.ob
      · show (upd H (L.xa x.id) _) (if z.id = x.id then q else L.wa z.id) = _
        rw [if_neg n, k _ _ F.gw (by simp)]; exact F.wt
      · show (L.tag q (.wt x.id)).G (if z.id = x.id then q else L.wa z.id) = _
        rw [if_neg n]; exact tag_old g F.gw
      · show (upd H (L.xa x.id) _) (L.ua z.id) = _
        rw [k _ _ F.gu (by simp)]; exact F.ut
/-- a new list of what came and wasn't taken -/
theorem Rep.gotNew (R : Rep Z H p s L) {x : Exchange} {b : Bytes} {q dx : Addr} (hx : x ∈ s.exchanges) (hq : H q = some (.lst (iv b))) (g : L.G q = none) :
    Rep Z (upd H (L.xa x.id) (.ins Z.X dx (xF x (L.wa x.id) q))) p (s.set { x with got := b }) { L.tag q (.ut x.id) with ua := fun i => if i = x.id then q else L.ua i } := by
  have E := R.ex x hx
  have k : ∀ c t, L.G c = some t → t ≠ .exc x.id → (upd H (L.xa x.id) (.ins Z.X dx (xF x (L.wa x.id) q))) c = H c := fun c t g n => upd_ne (gne g E.gx n)
  have kq : (upd H (L.xa x.id) (.ins Z.X dx (xF x (L.wa x.id) q))) q = some (.lst (iv b)) := by rw [upd_ne (gne0 E.gx g).symm]; exact hq
  refine ⟨fun c u e => ?_, by rw [k _ _ R.gp (by simp)]; exact R.hp, tag_old g R.gp, ?_, tag_old g R.gd, by rw [set_ids]; exact R.ord, ?_, tag_old g R.gl,
    paired_mono R.fr fun a f y => ⟨by rw [k _ _ y.2 (by simp)]; exact y.1, tag_old g y.2⟩, fun z hz => ?_, (by show (upd H (L.xa x.id) _) L.c = _; rw [k _ _ R.gc (by simp)]; exact R.hc), tag_old g R.gc⟩
  · by_cases z : c = L.xa x.id
    · rw [z]; exact ⟨_, upd_same⟩
    · rw [upd_ne z]
      by_cases z2 : c = q
      · rw [z2]; exact ⟨_, hq⟩
      · exact R.dom c u (by rw [← tag_ne (t := .ut x.id) z2]; exact e)
  · show (upd H (L.xa x.id) _) L.d = _
    rw [k _ _ R.gd (by simp)]; exact R.hd
  · show (upd H (L.xa x.id) _) L.l = _
    rw [k _ _ R.gl (by simp)]; exact R.hl
  · rcases mem_set hz with e | ⟨hz, n⟩
    · subst e
      refine ⟨⟨dx, ?_⟩, tag_old g E.gx, ?_, tag_old g E.gw, ?_, ?_⟩
      · show (upd H (L.xa x.id) _) (L.xa x.id) = some (.ins Z.X dx (xF { x with got := b } (L.wa x.id) (if x.id = x.id then q else L.ua x.id)))
        rw [upd_same, if_pos rfl]; rfl
      · show (upd H (L.xa x.id) _) (L.wa x.id) = _
        rw [k _ _ E.gw (by simp)]; exact E.wt
      · show (upd H (L.xa x.id) _) (if x.id = x.id then q else L.ua x.id) = _
        rw [if_pos rfl]; exact kq
      · show (L.tag q (.ut x.id)).G (if x.id = x.id then q else L.ua x.id) = _
        rw [if_pos rfl]; exact tag_same
    · have F := R.ex z hz
      have n : z.id ≠ x.id := n
      refine ⟨?_, tag_old g F.gx, ?_, tag_old g F.gw, ?_, ?_⟩
      · show ∃ dx', (upd H (L.xa x.id) _) (L.xa z.id) = some (.ins Z.X dx' (xF z (L.wa z.id) (if z.id = x.id then q else L.ua z.id)))
        rw [if_neg n, k _ _ F.gx (by simp [n])]; exact F.ob
      · show (upd H (L.xa x.id) _) (L.wa z.id) = _
        rw [k _ _ F.gw (by simp)]; exact F.wt
      · show (upd H (L.xa x.id) _) (if z.id = x.id then q else L.ua z.id) = _
        rw [if_neg n, k _ _ F.gu (by simp)]; exact F.ut
      · show (L.tag q (.ut x.id)).G (if z.id = x.id then q else L.ua z.id) = _
        rw [if_neg n]; exact tag_old g F.gu
/-- a frame more is to be sent -/
theorem Rep.say (R : Rep Z H p s L) {f : Sq01.Frame} {q : Addr} (hq : H q = some (.lst (iv f.bytes))) (g : L.G q = none) :
    Rep Z (upd H L.l (.lst (L.fa.map V.ref ++ [V.ref q]))) p (s.say f) { L.tag q .fr with fa := L.fa ++ [q] } := by
  have k : ∀ c t, L.G c = some t → t ≠ .first → (upd H L.l (.lst (L.fa.map V.ref ++ [V.ref q]))) c = H c := fun c t g n => upd_ne (gne g R.gl n)
  have kq : (upd H L.l (.lst (L.fa.map V.ref ++ [V.ref q]))) q = some (.lst (iv f.bytes)) := by rw [upd_ne (gne0 R.gl g).symm]; exact hq
  refine ⟨fun c u e => ?_, by rw [k _ _ R.gp (by simp)]; exact R.hp, tag_old g R.gp, ?_, tag_old g R.gd, R.ord, ?_, tag_old g R.gl, ?_, fun z hz => ?_, (by show (upd H L.l _) L.c = _; rw [k _ _ R.gc (by simp)]; exact R.hc), tag_old g R.gc⟩
  · by_cases z : c = L.l
    · rw [z]; exact ⟨_, upd_same⟩
    · rw [upd_ne z]
      by_cases z2 : c = q
      · rw [z2]; exact ⟨_, hq⟩
      · exact R.dom c u (by rw [← tag_ne (t := .fr) z2]; exact e)
  · show (upd H L.l _) L.d = _
    rw [k _ _ R.gd (by simp)]; exact R.hd
  · show (upd H L.l _) L.l = some (.lst ((L.fa ++ [q]).map V.ref))
    rw [upd_same, List.map_append]; rfl
  · exact Paired.snoc (paired_mono R.fr fun a f' y => ⟨by rw [k _ _ y.2 (by simp)]; exact y.1, tag_old g y.2⟩) ⟨kq, tag_same⟩
  · have F := R.ex z hz
    refine ⟨?_, tag_old g F.gx, ?_, tag_old g F.gw, ?_, tag_old g F.gu⟩
    · show ∃ dx', (upd H L.l _) (L.xa z.id) = _
      rw [k _ _ F.gx (by simp)]; exact F.ob
    · show (upd H L.l _) (L.wa z.id) = _
      rw [k _ _ F.gw (by simp)]; exact F.wt
    · show (upd H L.l _) (L.ua z.id) = _
      rw [k _ _ F.gu (by simp)]; exact F.ut
/-- the first frames are sent: a new list of the others -/
theorem Rep.firstNew (R : Rep Z H p s L) {n : Nat} {q : Addr} (hq : H q = some (.lst ((L.fa.drop n).map V.ref))) (g : L.G q = none) :
    Rep Z (upd H p (.ins Z.S L.dx (sF s L.d q L.c))) p { s with first := s.first.drop n } { L.tag q .first with l := q, fa := L.fa.drop n } := by
  have k : ∀ c t, L.G c = some t → t ≠ .side → (upd H p (.ins Z.S L.dx (sF s L.d q L.c))) c = H c := fun c t g n => upd_ne (gne g R.gp n)
  have kq : (upd H p (.ins Z.S L.dx (sF s L.d q L.c))) q = some (.lst ((L.fa.drop n).map V.ref)) := by rw [upd_ne (gne0 R.gp g).symm]; exact hq
  refine ⟨fun c u e => ?_, upd_same, tag_old g R.gp, ?_, tag_old g R.gd, R.ord, kq, tag_same, ?_, fun z hz => ?_, (by show (upd H p _) L.c = _; rw [k _ _ R.gc (by simp)]; exact R.hc), tag_old g R.gc⟩
  · by_cases z : c = p
    · rw [z]; exact ⟨_, upd_same⟩
    · rw [upd_ne z]
      by_cases z2 : c = q
      · rw [z2]; exact ⟨_, hq⟩
      · exact R.dom c u (by rw [← tag_ne (t := .first) z2]; exact e)
  · show (upd H p _) L.d = _
    rw [k _ _ R.gd (by simp)]; exact R.hd
  · exact paired_drop n (paired_mono R.fr fun a f' y => ⟨by rw [k _ _ y.2 (by simp)]; exact y.1, tag_old g y.2⟩)
  · have F := R.ex z hz
    refine ⟨?_, tag_old g F.gx, ?_, tag_old g F.gw, ?_, tag_old g F.gu⟩
    · show ∃ dx', (upd H p _) (L.xa z.id) = _
      rw [k _ _ F.gx (by simp)]; exact F.ob
    · show (upd H p _) (L.wa z.id) = _
      rw [k _ _ F.gw (by simp)]; exact F.wt
    · show (upd H p _) (L.ua z.id) = _
      rw [k _ _ F.gu (by simp)]; exact F.ut
/-- the list of what was not read yet changes in its place -/
theorem Rep.reads (R : Rep Z H p s L) {b : Bytes} : Rep Z (upd H L.c (.lst (iv b))) p { s with came := b } L := by
  have k : ∀ c t, L.G c = some t → t ≠ .unread → (upd H L.c (.lst (iv b))) c = H c := fun c t g n => upd_ne (gne g R.gc n)
  refine ⟨fun c u e => ?_, by rw [k _ _ R.gp (by simp)]; exact R.hp, R.gp, by rw [k _ _ R.gd (by simp)]; exact R.hd, R.gd, R.ord, by rw [k _ _ R.gl (by simp)]; exact R.hl, R.gl,
    paired_mono R.fr fun a f q => ⟨by rw [k _ _ q.2 (by simp)]; exact q.1, q.2⟩, fun z hz => ?_, upd_same, R.gc⟩
  · by_cases z : c = L.c
    · rw [z]; exact ⟨_, upd_same⟩
    · rw [upd_ne z]; exact R.dom c u e
  · have F := R.ex z hz
    exact ⟨by rw [k _ _ F.gx (by simp)]; exact F.ob, F.gx, by rw [k _ _ F.gw (by simp)]; exact F.wt, F.gw, by rw [k _ _ F.gu (by simp)]; exact F.ut, F.gu⟩
/-- a new list of what was not read yet -/
theorem Rep.readsNew (R : Rep Z H p s L) {b : Bytes} {q : Addr} (hq : H q = some (.lst (iv b))) (g : L.G q = none) :
    Rep Z (upd H p (.ins Z.S L.dx (sF s L.d L.l q))) p { s with came := b } { L.tag q .unread with c := q } := by
  have k : ∀ c t, L.G c = some t → t ≠ .side → (upd H p (.ins Z.S L.dx (sF s L.d L.l q))) c = H c := fun c t g n => upd_ne (gne g R.gp n)
  have kq : (upd H p (.ins Z.S L.dx (sF s L.d L.l q))) q = some (.lst (iv b)) := by rw [upd_ne (gne0 R.gp g).symm]; exact hq
  refine ⟨fun c u e => ?_, upd_same, tag_old g R.gp, ?_, tag_old g R.gd, R.ord, ?_, tag_old g R.gl, ?_, fun z hz => ?_, kq, tag_same⟩
  · by_cases z : c = p
    · rw [z]; exact ⟨_, upd_same⟩
    · rw [upd_ne z]
      by_cases z2 : c = q
      · rw [z2]; exact ⟨_, hq⟩
      · exact R.dom c u (by rw [← tag_ne (t := .unread) z2]; exact e)
  · show (upd H p _) L.d = _
    rw [k _ _ R.gd (by simp)]; exact R.hd
  · show (upd H p _) L.l = _
    rw [k _ _ R.gl (by simp)]; exact R.hl
  · exact paired_mono R.fr fun a f' y => ⟨by rw [k _ _ y.2 (by simp)]; exact y.1, tag_old g y.2⟩
  · have F := R.ex z hz
    refine ⟨?_, tag_old g F.gx, ?_, tag_old g F.gw, ?_, tag_old g F.gu⟩
    · show ∃ dx', (upd H p _) (L.xa z.id) = _
      rw [k _ _ F.gx (by simp)]; exact F.ob
    · show (upd H p _) (L.wa z.id) = _
      rw [k _ _ F.gw (by simp)]; exact F.wt
    · show (upd H p _) (L.ua z.id) = _
      rw [k _ _ F.gu (by simp)]; exact F.ut
/-- the list of what came and wasn't taken changes in its place -/
theorem Rep.gets (R : Rep Z H p s L) {x : Exchange} {b : Bytes} (hx : x ∈ s.exchanges) : Rep Z (upd H (L.ua x.id) (.lst (iv b))) p (s.set { x with got := b }) L := by
  have E := R.ex x hx
  have k : ∀ c t, L.G c = some t → t ≠ .ut x.id → (upd H (L.ua x.id) (.lst (iv b))) c = H c := fun c t g n => upd_ne (gne g E.gu n)
  refine ⟨fun c u e => ?_, by rw [k _ _ R.gp (by simp)]; exact R.hp, R.gp, by rw [k _ _ R.gd (by simp)]; exact R.hd, R.gd, by rw [set_ids]; exact R.ord, by rw [k _ _ R.gl (by simp)]; exact R.hl, R.gl,
    paired_mono R.fr fun a f q => ⟨by rw [k _ _ q.2 (by simp)]; exact q.1, q.2⟩, fun z hz => ?_, by rw [k _ _ R.gc (by simp)]; exact R.hc, R.gc⟩
  · by_cases z : c = L.ua x.id
    · rw [z]; exact ⟨_, upd_same⟩
    · rw [upd_ne z]; exact R.dom c u e
  · rcases mem_set hz with q | ⟨hz, n⟩
    · subst q
      refine ⟨?_, E.gx, ?_, E.gw, upd_same, E.gu⟩
      · show ∃ dx, (upd H (L.ua x.id) _) (L.xa x.id) = _
        rw [k _ _ E.gx (by simp)]; exact E.ob
      · show (upd H (L.ua x.id) _) (L.wa x.id) = _
        rw [k _ _ E.gw (by simp)]; exact E.wt
    · have F := R.ex z hz
      have n : z.id ≠ x.id := n
      exact ⟨by rw [k _ _ F.gx (by simp)]; exact F.ob, F.gx, by rw [k _ _ F.gw (by simp)]; exact F.wt, F.gw, by rw [k _ _ F.gu (by simp [n])]; exact F.ut, F.gu⟩
/-- it's dead: a new dict and two new lists, all empty -/
theorem Rep.kills (R : Rep Z H p s L) {k : Nat} {d l c : Addr} (hd : H d = some (.dK [])) (hl : H l = some (.lst [])) (hc : H c = some (.lst [])) (gd : L.G d = none) (gl : L.G l = none) (gc : L.G c = none) (nlc : l ≠ c) :
    Rep Z (upd H p (.ins Z.S L.dx (sF (s.kill k).1 d l c))) p (s.kill k).1 { ((L.tag d .dict).tag l .first).tag c .unread with d := d, l := l, c := c, ord := [], fa := [] } := by
  have ndl : d ≠ l := ne_of hd hl (by intro z; cases z)
  have ndc : d ≠ c := ne_of hd hc (by intro z; cases z)
  have kf : ∀ a, L.G a = none → (upd H p (.ins Z.S L.dx (sF (s.kill k).1 d l c))) a = H a := fun a g => upd_ne (gne0 R.gp g).symm
  have to : ∀ {a : Addr} {t : Tag}, L.G a = some t → (((L.tag d .dict).tag l .first).tag c .unread).G a = some t := fun {a t} g => by
    rw [tag_ne (gne0 g gc), tag_ne (gne0 g gl), tag_ne (gne0 g gd)]; exact g
  refine ⟨fun a t e => ?_, upd_same, to R.gp, ?_, ?_, .refl _, ?_, ?_, .nil, fun z hz => (nomatch hz), ?_, ?_⟩
  · by_cases z : a = p
    · rw [z]; exact ⟨_, upd_same⟩
    · rw [upd_ne z]
      by_cases z1 : a = c
      · rw [z1]; exact ⟨_, hc⟩
      · by_cases z2 : a = l
        · rw [z2]; exact ⟨_, hl⟩
        · by_cases z3 : a = d
          · rw [z3]; exact ⟨_, hd⟩
          · refine R.dom a t ?_
            have e : (((L.tag d .dict).tag l .first).tag c .unread).G a = some t := e
            rw [tag_ne z1, tag_ne z2, tag_ne z3] at e
            exact e
  · show (upd H p _) d = some (.dK [])
    rw [kf _ gd]; exact hd
  · show (((L.tag d .dict).tag l .first).tag c .unread).G d = _
    rw [tag_ne ndc, tag_ne ndl]; exact tag_same
  · show (upd H p _) l = some (.lst [])
    rw [kf _ gl]; exact hl
  · show (((L.tag d .dict).tag l .first).tag c .unread).G l = _
    rw [tag_ne nlc]; exact tag_same
  · show (upd H p _) c = some (.lst [])
    rw [kf _ gc]; exact hc
  · show (((L.tag d .dict).tag l .first).tag c .unread).G c = _
    exact tag_same
/-! ### the dict of exchanges -/
theorem valV_kvs {i : Nat} : ∀ {o : List Nat} {xa : Nat → Addr}, valV (o.map fun (i : Nat) => ((Sum.inl (i : Int) : Key), V.ref (xa i))) (Sum.inl (i : Int)) = if i ∈ o then some (V.ref (xa i)) else none
  | [], xa => by simp [valV_nil]
  | j :: o, xa => by
    rw [List.map_cons]
    by_cases e : j = i
    · subst e
      rw [valV_pos rfl, if_pos List.mem_cons_self]
    · rw [valV_neg (fun z => e (Int.ofNat.inj (Sum.inl.inj z))), valV_kvs (i := i) (o := o)]
      by_cases q : i ∈ o
      · rw [if_pos q, if_pos (List.mem_cons_of_mem _ q)]
      · rw [if_neg q, if_neg]
        intro z
        rcases List.mem_cons.mp z with z | z
        · exact e z.symm
        · exact q z
theorem Rep.at_some (R : Rep Z H p s L) {x : Exchange} {i : Nat} (h : s.find i = some x) : valV (kvs L) (Sum.inl (i : Int)) = some (V.ref (L.xa i)) := by
  unfold kvs
  rw [valV_kvs, if_pos]
  obtain ⟨h1, h2⟩ := find_some h
  exact R.ord.mem_iff.mpr (List.mem_map.mpr ⟨x, h1, h2⟩)
theorem Rep.at_none (R : Rep Z H p s L) {i : Nat} (h : s.find i = none) : valV (kvs L) (Sum.inl (i : Int)) = none := by
  unfold kvs
  rw [valV_kvs, if_neg]
  intro z
  exact find_none h (R.ord.mem_iff.mp z)
theorem dropK_kvs (i : Nat) (xa : Nat → Addr) : ∀ o : List Nat, dropK (o.map fun (i : Nat) => ((Sum.inl (i : Int) : Key), V.ref (xa i))) (Sum.inl (i : Int)) = (o.filter (· != i)).map fun (i : Nat) => ((Sum.inl (i : Int) : Key), V.ref (xa i)) := by
  intro o
  unfold dropK
  rw [List.filter_map]
  congr 1
  refine List.filter_congr fun j _ => ?_
  show decide ((Sum.inl (j : Int) : Key) ≠ Sum.inl (i : Int)) = (j != i)
  by_cases e : j = i
  · subst e; simp
  · have : ¬ ((Sum.inl (j : Int) : Key) = Sum.inl (i : Int)) := fun z => e (Int.ofNat.inj (Sum.inl.inj z))
    simp [this, e]
/-- an exchange leaves the dict -/
theorem Rep.drops (R : Rep Z H p s L) (i : Nat) : Rep Z (upd H L.d (.dK (dropK (kvs L) (Sum.inl (i : Int))))) p (s.drop i) { L with ord := L.ord.filter (· != i) } := by
  have k : ∀ c t, L.G c = some t → t ≠ .dict → (upd H L.d (.dK (dropK (kvs L) (Sum.inl (i : Int))))) c = H c := fun c t g n => upd_ne (gne g R.gd n)
  refine ⟨fun c u e => ?_, by rw [k _ _ R.gp (by simp)]; exact R.hp, R.gp, ?_, R.gd, ?_, by rw [k _ _ R.gl (by simp)]; exact R.hl, R.gl,
    paired_mono R.fr fun a f y => ⟨by rw [k _ _ y.2 (by simp)]; exact y.1, y.2⟩, fun z hz => ?_, (by show (upd H L.d _) L.c = _; rw [k _ _ R.gc (by simp)]; exact R.hc), R.gc⟩
  · by_cases z : c = L.d
    · rw [z]; exact ⟨_, upd_same⟩
    · rw [upd_ne z]; exact R.dom c u e
  · show (upd H L.d _) L.d = _
    rw [upd_same]
    unfold kvs
    rw [dropK_kvs]
  · rw [drop_ids]; exact R.ord.filter _
  · have F := R.ex z (mem_drop.mp hz).1
    refine ⟨?_, F.gx, ?_, F.gw, ?_, F.gu⟩
    · show ∃ dx', (upd H L.d _) (L.xa z.id) = _
      rw [k _ _ F.gx (by simp)]; exact F.ob
    · show (upd H L.d _) (L.wa z.id) = _
      rw [k _ _ F.gw (by simp)]; exact F.wt
    · show (upd H L.d _) (L.ua z.id) = _
      rw [k _ _ F.gu (by simp)]; exact F.ut
/-- a fresh exchange at a comes into the dict -/
theorem Rep.opens (R : Rep Z H p s L) {i : Nat} {a w u dx : Addr} (hi : i ∉ ids s) (ha : H a = some (.ins Z.X dx (xF (Sq01.fresh i) w u))) (hw : H w = some (.lst [])) (hu : H u = some (.lst [])) (ga : L.G a = none) (gw : L.G w = none) (gu : L.G u = none) (nwu : w ≠ u) :
    Rep Z (upd H L.d (.dK (putK (kvs L) (Sum.inl (i : Int)) (V.ref a)))) p (s.open_ (Sq01.fresh i))
      { ((L.tag a (.exc i)).tag w (.wt i)).tag u (.ut i) with ord := L.ord ++ [i], xa := fun j => if j = i then a else L.xa j, wa := fun j => if j = i then w else L.wa j, ua := fun j => if j = i then u else L.ua j } := by
  have k : ∀ c t, L.G c = some t → t ≠ .dict → (upd H L.d (.dK (putK (kvs L) (Sum.inl (i : Int)) (V.ref a)))) c = H c := fun c t g n => upd_ne (gne g R.gd n)
  have kf : ∀ c, L.G c = none → (upd H L.d (.dK (putK (kvs L) (Sum.inl (i : Int)) (V.ref a)))) c = H c := fun c g => upd_ne (gne0 R.gd g).symm
  have naw : a ≠ w := ne_of ha hw (by intro z; cases z)
  have nau : a ≠ u := ne_of ha hu (by intro z; cases z)
  have to : ∀ {c : Addr} {t : Tag}, L.G c = some t → (((L.tag a (.exc i)).tag w (.wt i)).tag u (.ut i)).G c = some t := fun {c t} g => by
    rw [tag_ne (gne0 g gu), tag_ne (gne0 g gw), tag_ne (gne0 g ga)]; exact g
  have ho : i ∉ L.ord := fun z => hi (R.ord.mem_iff.mp z)
  have ne : ∀ x ∈ s.exchanges, x.id ≠ i := fun x hx e => hi (by rw [← e]; exact List.mem_map.mpr ⟨x, hx, rfl⟩)
  refine ⟨fun c t e => ?_, by rw [k _ _ R.gp (by simp)]; exact R.hp, to R.gp, ?_, to R.gd, ?_, (by show (upd H L.d _) L.l = _; rw [k _ _ R.gl (by simp)]; exact R.hl), to R.gl,
    paired_mono R.fr fun a f y => ⟨by rw [k _ _ y.2 (by simp)]; exact y.1, to y.2⟩, fun z hz => ?_, (by show (upd H L.d _) L.c = _; rw [k _ _ R.gc (by simp)]; exact R.hc), to R.gc⟩
  · by_cases z : c = L.d
    · rw [z]; exact ⟨_, upd_same⟩
    · rw [upd_ne z]
      by_cases z1 : c = u
      · rw [z1]; exact ⟨_, hu⟩
      · by_cases z2 : c = w
        · rw [z2]; exact ⟨_, hw⟩
        · by_cases z3 : c = a
          · rw [z3]; exact ⟨_, ha⟩
          · refine R.dom c t ?_
            have e : (((L.tag a (.exc i)).tag w (.wt i)).tag u (.ut i)).G c = some t := e
            rw [tag_ne z1, tag_ne z2, tag_ne z3] at e
            exact e
  · show (upd H L.d _) L.d = _
    rw [upd_same]
    have e0 : valV (kvs L) (Sum.inl (i : Int)) = none := by unfold kvs; rw [valV_kvs, if_neg ho]
    rw [putK_new _ e0]
    unfold kvs
    show some (HO.dK _) = some (HO.dK ((L.ord ++ [i]).map fun (j : Nat) => ((Sum.inl (j : Int) : Key), V.ref (if j = i then a else L.xa j))))
    rw [List.map_append]
    congr 3
    · refine List.map_congr_left fun j hj => ?_
      rw [if_neg (fun e => ho (by rw [← e]; exact hj))]
    · simp
  · show (L.ord ++ [i]).Perm (ids (s.open_ (Sq01.fresh i)))
    refine List.Perm.trans ?_ ((put_perm (Sq01.fresh i) s.exchanges).map (·.id)).symm
    exact List.perm_append_comm.trans (R.ord.cons i)
  · rcases mem_open.mp hz with e | hz
    · subst e
      refine ⟨⟨dx, ?_⟩, ?_, ?_, ?_, ?_, ?_⟩
      · show (upd H L.d _) (if i = i then a else L.xa i) = some (.ins Z.X dx (xF (Sq01.fresh i) (if i = i then w else L.wa i) (if i = i then u else L.ua i)))
        simp only [if_true]
        rw [kf _ ga]; exact ha
      · show (((L.tag a (.exc i)).tag w (.wt i)).tag u (.ut i)).G (if i = i then a else L.xa i) = some (.exc i)
        rw [if_pos rfl, tag_ne nau, tag_ne naw]; exact tag_same
      · show (upd H L.d _) (if i = i then w else L.wa i) = _
        rw [if_pos rfl, kf _ gw]; exact hw
      · show (((L.tag a (.exc i)).tag w (.wt i)).tag u (.ut i)).G (if i = i then w else L.wa i) = some (.wt i)
        rw [if_pos rfl, tag_ne nwu]; exact tag_same
      · show (upd H L.d _) (if i = i then u else L.ua i) = _
        rw [if_pos rfl, kf _ gu]; exact hu
      · show (((L.tag a (.exc i)).tag w (.wt i)).tag u (.ut i)).G (if i = i then u else L.ua i) = some (.ut i)
        rw [if_pos rfl]; exact tag_same
    · have F := R.ex z hz
      have n := ne z hz
      refine ⟨?_, ?_, ?_, ?_, ?_, ?_⟩
      · show ∃ dx', (upd H L.d _) (if z.id = i then a else L.xa z.id) = some (.ins Z.X dx' (xF z (if z.id = i then w else L.wa z.id) (if z.id = i then u else L.ua z.id)))
        rw [if_neg n, if_neg n, if_neg n, k _ _ F.gx (by simp)]; exact F.ob
      · show (((L.tag a (.exc i)).tag w (.wt i)).tag u (.ut i)).G (if z.id = i then a else L.xa z.id) = _
        rw [if_neg n]; exact to F.gx
      · show (upd H L.d _) (if z.id = i then w else L.wa z.id) = _
        rw [if_neg n, k _ _ F.gw (by simp)]; exact F.wt
      · show (((L.tag a (.exc i)).tag w (.wt i)).tag u (.ut i)).G (if z.id = i then w else L.wa z.id) = _
        rw [if_neg n]; exact to F.gw
      · show (upd H L.d _) (if z.id = i then u else L.ua z.id) = _
        rw [if_neg n, k _ _ F.gu (by simp)]; exact F.ut
      · show (((L.tag a (.exc i)).tag w (.wt i)).tag u (.ut i)).G (if z.id = i then u else L.ua z.id) = _
        rw [if_neg n]; exact to F.gu
end
end Os
set_option linter.all false
set_option maxRecDepth 100000
namespace Os
open PySem PySem.Spec PyProof.Rows L2
/-! ### the text by places -/
def top (i : Nat) : Stmt := PySem.Challenge.pw_onestream_s01_answers.main.body.getD i (.Pass ⟨0, 0, 0, 0⟩)
/-! ### defs, methods, classes as a caller has them -/
section
variable (P : Program) (w : World) (K : PySem.W.Frag) (mg : Str → Option Value) (base : Heap)
def Def (k : Nat) (x : Str) (ps : List Str) (sp : Sp) : Prop := ∃ f fd, FnOk P w K mg base CX0 k f fd ps sp ∧ mg x = some (.ref f) ∧ PySem.W.keepIn K (.ref f) = true ∧ Binds K fd ps []
def Mdef (k : Nat) (C : Addr) (m : Str) (ps : List Str) (sp : Sp) : Prop := ∃ f fd, FnOk P w K mg base CX0 k f fd ps sp ∧ Cls K C ∧ Meth K C m f ∧ Binds K fd ps []
def Made (k : Nat) (x : Str) (C : Addr) (ps : List Str) (sp : Sp) : Prop := ∃ f fd, FnOk P w K mg base CX0 k f fd ps sp ∧ Mk K C f ∧ mg x = some (.ref C) ∧ Binds K fd ps []
end
section
variable {X : Cx} {k : Nat} {x m : Str} {ps : List Str} {sp : Sp} {p pos apos : Pos} {e o : Expr} {es : List Expr} {ta : TE} {t : TA} {C : Addr}
/-- f(e, ..) -/
theorem pd (D : Def X.prog X.w X.K X.mg X.base k x ps sp) (hr : Room k X.A) (ha : PA X (e :: es) t) (hg : Gl X x := by rfl) (hdb : (x == ("__debug__" : Str)) = false := by decide)
    (he : starEach (e :: es) X.env = (false, eval e X.env) :: starEach es X.env := by rfl) (hpl : (backTo pos (starEach es X.env)).any (·.1) = false := by rfl) :
    PE X (.Call (.Name x p) (e :: es) [] pos) (tCall sp [] E0 t) := by
  obtain ⟨f, fd, F, hm, hk, hb⟩ := D
  exact pe_call F hr hg hm hk hb .nil pass0 ha hdb he hpl
/-- o.m(e, ..) -/
theorem pm {pl : Sem Bool} (D : Mdef X.prog X.w X.K X.mg X.base k C m ps sp) (hr : Room k X.A) (ho : PE X o ta) (ha : PA X (e :: es) t)
    (hst : starEach (e :: es) X.env = (false, eval e X.env) :: starEach es X.env := by rfl) (hpl : (backTo pos (starEach es X.env)).any (·.1) = false := by rfl)
    (ht : eval (.Call (.Attribute o m apos) (e :: es) [] pos) X.env = (do
      let ov ← eval o X.env
      standAt apos.atName
      let (f, first) ← holding [ov] (getMethod ov m pl)
      callWith pos f first (backTo pos (starEach (e :: es) X.env)) (backToKw pos (keywordEach [] X.env))) := by rfl) :
    PE X (.Call (.Attribute o m apos) (e :: es) [] pos) (tMeth C m sp [] E0 ta t) := by
  obtain ⟨f, fd, F, c, hm, hb⟩ := D
  exact pe_meth ho c hm F hr hb .nil pass0 ha hst hpl ht
/-- o.m() -/
theorem pm0 {pl : Sem Bool} (D : Mdef X.prog X.w X.K X.mg X.base k C m ps sp) (hr : Room k X.A) (ho : PE X o ta)
    (ht : eval (.Call (.Attribute o m apos) [] [] pos) X.env = (do
      let ov ← eval o X.env
      standAt apos.atName
      let (f, first) ← holding [ov] (getMethod ov m pl)
      callWith pos f first (backTo pos (starEach [] X.env)) (backToKw pos (keywordEach [] X.env))) := by rfl) :
    PE X (.Call (.Attribute o m apos) [] [] pos) (tMeth C m sp [] E0 ta tNil) := by
  obtain ⟨f, fd, F, c, hm, hb⟩ := D
  exact pe_meth0 ho c hm F hr hb .nil pass0 ht
/-- C(e, ..), C() -/
theorem pk (D : Made X.prog X.w X.K X.mg X.base k x C ps sp) (hr : Room (k + 1) X.A) (ha : PA X (e :: es) t) (hg : Gl X x := by rfl) (hdb : (x == ("__debug__" : Str)) = false := by decide)
    (he : starEach (e :: es) X.env = (false, eval e X.env) :: starEach es X.env := by rfl) (hpl : (backTo pos (starEach es X.env)).any (·.1) = false := by rfl) :
    PE X (.Call (.Name x p) (e :: es) [] pos) (tMake C sp [] E0 t) := by
  obtain ⟨f, fd, F, M, hm, hb⟩ := D
  exact pe_make M F hr hg hm hb .nil pass0 ha hdb he hpl
theorem pk0 (D : Made X.prog X.w X.K X.mg X.base k x C ps sp) (hr : Room (k + 1) X.A) (hg : Gl X x := by rfl) (hdb : (x == ("__debug__" : Str)) = false := by decide) :
    PE X (.Call (.Name x p) [] [] pos) (tMake C sp [] E0 tNil) := by
  obtain ⟨f, fd, F, M, hm, hb⟩ := D
  exact pe_make0 M F hr hg hm hb .nil pass0 hdb
/-- a module's whole number -/
def Con (mg : Str → Option Value) (x : Str) (v : Int) : Prop := ∃ t, mg x = some (.int v t)
theorem pc {v : Int} (h : Con X.mg x v) (hg : Gl X x := by rfl) (hd : (x == ("__debug__" : Str)) = false := by decide) : PE X (.Name x pos) (tC (.int v)) := by
  obtain ⟨t, h⟩ := h
  exact pe_glob hg h ⟨t, rfl⟩ hd
theorem pappend (ho : PE X o ta) (ha : PA X [e] t) (hb : attributeBase o "append" X.env (eval o X.env) = eval o X.env := by rfl)
    (hfew : ((backTo pos (starEach [e] X.env)).all (fun x => !x.1) && (backToKw pos (keywordEach [] X.env)).all (fun x => x.1.isSome) && decide (([e] : List Expr).length + ([] : List Keyword).length + (if ([] : List Keyword).isEmpty then 0 else 1) < 30)) = true := by rfl)
    (hline : (apos.endLine == pos.line) = true := by rfl) (hs : starEach [e] X.env = (false, eval e X.env) :: starEach [] X.env := by rfl) (hplain : (backTo pos (starEach [] X.env)).any (·.1) = false := by rfl) :
    PE X (.Call (.Attribute o "append" apos) [e] [] pos) (tBM X.K "list" rAppend ta t) :=
  pe_bm PySem.F.plainAttrs_list PySem.F.slot_list_append PySem.F.type_list_append mt_append ho ha hb hfew hline hs hplain
theorem pextend (ho : PE X o ta) (ha : PA X [e] t) (hb : attributeBase o "extend" X.env (eval o X.env) = eval o X.env := by rfl)
    (hfew : ((backTo pos (starEach [e] X.env)).all (fun x => !x.1) && (backToKw pos (keywordEach [] X.env)).all (fun x => x.1.isSome) && decide (([e] : List Expr).length + ([] : List Keyword).length + (if ([] : List Keyword).isEmpty then 0 else 1) < 30)) = true := by rfl)
    (hline : (apos.endLine == pos.line) = true := by rfl) (hs : starEach [e] X.env = (false, eval e X.env) :: starEach [] X.env := by rfl) (hplain : (backTo pos (starEach [] X.env)).any (·.1) = false := by rfl) :
    PE X (.Call (.Attribute o "extend" apos) [e] [] pos) (tBM X.K "list" rExtend ta t) :=
  pe_bm PySem.F.plainAttrs_list PySem.F.slot_list_extend PySem.F.type_list_extend mt_extend ho ha hb hfew hline hs hplain
end
/-! ### a heap that only grows -/
theorem Same.fresh {H : Hp} {q : Addr} {o : HO} (h : H q = none) : Same H (upd H q o) := fun b u e => by rw [upd_ne (ne_of_none e h)]; exact e
theorem Same.refl' {H : Hp} : Same H H := fun _ _ h => h
section
variable {Z : Cs} {H H' : Hp} {p : Addr} {s : Sq01.State} {L : Lay}
theorem Rep.same (R : Rep Z H p s L) (S : Same H H') : Rep Z H' p s L := R.keep fun b t g => by
  obtain ⟨o, e⟩ := R.dom b t g
  rw [e]; exact S b o e
theorem Ext.same (S : Same H H') : Ext H L H' L := fun b o e g => ⟨S b o e, g⟩
end
def conA : List (Str × Int) := [("HEAD_SIZE", 8), ("DATA", 1), ("CREDIT", 2), ("STOPPED", 3), ("STILL_ASKED", 4), ("STILL_frames", 5), ("GOING", 6), ("OF_ALL", 0), ("BAD_ARGUMENT", 1), ("NOT_THERE", 2), ("DONE_BEFORE", 4), ("NO_ROOM", 5), ("NO_MORE", 6), ("NUMBERS_BELOW", 4294967296), ("WHYS_BELOW", 4294967296), ("OURS_MOST", 64), ("WAITING_MOST", 65536), ("OWED_MOST", 8192), ("BODY_MOST", 4096), ("RIGHT", 0), ("TOO_LONG", 1), ("NO_FRAME", 2), ("NEVER_WAS", 3), ("MORE_THAN_LEFT", 4), ("TOO_MUCH_CREDIT", 5), ("BEHIND_LAST", 6), ("TOLD_ASKED", 1), ("TOLD_BYTES", 2)]
def conB : List (Str × Int) := [("TOLD_LAST", 3), ("TOLD_STOPPED", 4), ("TOLD_GOING", 5), ("TOLD_STILL", 6), ("TOLD_WRONG", 7), ("THEIRS_MOST", 64), ("ANEW_MOST", 64), ("CREDIT_MOST", 2147483647), ("WHY_GOING", 1), ("WHY_FULL", 2), ("WHY_NOT_TAKEN", 4294967295), ("OUT_MOST", 1048576), ("PIECE_MOST", 1024), ("NOBODY", 0), ("CREDIT_AT_FIRST", 16384), ("CREDIT_OF_ALL_AT_FIRST", 65536), ("OWED_OF_ALL_MOST", 32768), ("TOKENS_BELOW", 18446744073709551616), ("BEGIN", 1), ("ASK", 2), ("PUT", 3), ("TAKE", 4), ("STOP", 5), ("OUT", 6), ("CAME", 7), ("STILL_desk", 8), ("OVER", 9), ("LOOK", 10)]
/-- what every class of the program's shows -/
structure Txt (K : PySem.W.Frag) (mg : Str → Option Value) (Z : Cs) : Prop where
  cS : Cls K Z.S
  cX : Cls K Z.X
  cF : Cls K Z.F
  cN : Cls K Z.N
  nS : ∀ f ∈ (["which", "dead", "going", "other_going", "exchanges", "to_ask", "to_come", "turn", "first", "unread", "credit", "left", "owed"] : List Str), NoAttr K Z.S f
  nX : ∀ f ∈ (["waiting", "ended", "last_sent", "credit", "untaken", "last_came", "end_told", "left", "owed"] : List Str), NoAttr K Z.X f
  nF : ∀ f ∈ (["size", "kind", "flags", "number", "body"] : List Str), NoAttr K Z.F f
  nN : NoAttr K Z.N "side"
  len : mg "len" = none
  range : mg "range" = none
  min : mg "min" = none
  max : mg "max" = none
  sorted : mg "sorted" = none
  list : mg "list" = none
  con : ∀ c ∈ conA ++ conB, Con mg c.1 c.2
  sizes : ∃ a, mg "BODY_SIZES" = some (.ref a) ∧ MDict K a [(2, 4), (3, 4), (4, 8), (5, 8), (6, 4)]
  many : ∃ a, mg "HOW_MANY_NUMBERS" = some (.ref a) ∧ MDict K a [(1, 1), (2, 0), (3, 2), (4, 2), (5, 2), (6, 1), (7, 0), (8, 1), (9, 0), (10, 1), (11, 0)]
end Os
set_option linter.all false
set_option maxRecDepth 100000
namespace Os
open PySem PySem.Spec PyProof.Rows L2
abbrev sNB : Stmt := top 9
abbrev sFB : Stmt := top 10
abbrev sDF : Stmt := top 11
abbrev sCF : Stmt := top 12
abbrev sSF : Stmt := top 13
abbrev sSA : Stmt := top 14
abbrev sST : Stmt := top 15
abbrev sGO : Stmt := top 16
abbrev sRef : Stmt := top 23
/-! ### the promises -/
def spNB : Sp := fun vs H Q _ => ∃ n k : Nat, vs = [.int n, .int k] ∧ k ≤ 8 ∧ ∀ q, H q = none → Q (.ref q) (upd H q (.lst (iv (Sq01.be k n))))
def spFB : Sp := fun vs H Q _ => ∃ (kd fl n : Nat) (b : Addr) (body : List Nat), vs = [.int kd, .int fl, .int n, .ref b] ∧ H b = some (.lst (iv body)) ∧ body.length ≤ 100000 ∧
  ∀ H' q, Same H H' → H q = none → H' q = some (.lst (iv (Sq01.be 2 body.length ++ ([kd, fl] ++ (Sq01.be 4 n ++ body))))) → Q (.ref q) H'
/-- a frame's bytes in a new list -/
def Framed (H : Hp) (Q : VK) (f : Sq01.Frame) : Prop := ∀ H' q, Same H H' → H q = none → H' q = some (.lst (iv f.bytes)) → Q (.ref q) H'
def spDF : Sp := fun vs H Q _ => ∃ (n : Nat) (l : Bool) (b : Addr) (body : List Nat), vs = [.int n, .bl l, .ref b] ∧ H b = some (.lst (iv body)) ∧ body.length ≤ 100000 ∧ Framed H Q ⟨1, l, n, body⟩
def spCF : Sp := fun vs H Q _ => ∃ n m : Nat, vs = [.int n, .int m] ∧ Framed H Q (Sq01.creditFrame n m)
def spSF : Sp := fun vs H Q _ => ∃ n m : Nat, vs = [.int n, .int m] ∧ Framed H Q (Sq01.stopFrame n m)
def spSA : Sp := fun vs H Q _ => ∃ n : Nat, vs = [.int n] ∧ Framed H Q ⟨4, false, 0, Sq01.be 8 n⟩
def spST : Sp := fun vs H Q _ => ∃ n : Nat, vs = [.int n] ∧ Framed H Q ⟨5, false, 0, Sq01.be 8 n⟩
def spGO : Sp := fun vs H Q _ => ∃ n : Nat, vs = [.int n] ∧ Framed H Q ⟨6, false, 0, Sq01.be 4 n⟩
def spRef : Sp := fun vs H Q _ => ∃ n : Nat, vs = [.int n] ∧ ∀ q, H q = none → Q (.ref q) (upd H q (.lst [.int (-(n : Int))]))
theorem be_snoc (k n i : Nat) : (List.range (i + 1)).map (fun j => n / 256 ^ (k - 1 - j) % 256) = (List.range i).map (fun j => n / 256 ^ (k - 1 - j) % 256) ++ [n / 256 ^ (k - 1 - i) % 256] := by
  rw [List.range_succ, List.map_append]; rfl
theorem byte_eq {n k i : Nat} (h : i < k) : Builtin.bitAnd ((n : Int) / 2 ^ (8 * ((k : Int) - 1 - (0 + (i : Int)))).toNat) 255 = ((n / 256 ^ (k - 1 - i) % 256 : Nat) : Int) := by
  rw [PyProof.Rows.bitAnd_m8]
  have e : (8 * ((k : Int) - 1 - (0 + (i : Int)))).toNat = 8 * (k - 1 - i) := by omega
  rw [e, Int.natCast_emod, Int.natCast_ediv]
  have e2 : ((256 ^ (k - 1 - i) : Nat) : Int) = 2 ^ (8 * (k - 1 - i)) := by
    rw [Int.pow_mul]; simp
  rw [e2]
  rfl
section
variable {P : Program} {w : World} {K : PySem.W.Frag} {mg : Str → Option Value} {base : Heap} {Z : Cs}
theorem scNB : FnScope ["value", "size", "place"] ["value", "size"] (defScope sNB) := ⟨rfl, rfl, rfl, by decide +kernel, rfl, by decide +kernel, by decide +kernel⟩
/-- the scope of the comprehension that a def hands back -/
def retComp (s : Stmt) : Scope := match defBody s with
  | [.Return (some (.ListComp _ _ sc _)) _] => sc
  | _ => defScope s
theorem blkNB : BlkOk ["value", "size", "place"] (defScope sNB) (retComp sNB) [("place", 2)] := ⟨rfl, by decide +kernel, by decide +kernel, by decide +kernel, by decide +kernel⟩
theorem ok_nb {f : Addr} {fd : FuncData} (F : Fun K "number_bytes" "number_bytes" sNB f fd) (T : Txt K mg Z) : FnOk P w K mg base CX0 1 f fd ["value", "size"] spNB := by
  refine F.ok scNB (fun vs H Q E h => ?_) (fun cdv A outer s H vs Q E hr h => ?_)
  · obtain ⟨n, k, rfl, _⟩ := h; rfl
  · obtain ⟨n, k, rfl, hk, q⟩ := h
    refine ⟨_, pss_one (ps_ret (pe_lc (own := [("place", 2)]) rfl scNB.nd (pi_range1 rfl T.range (pa_cons (pv 1) pa_nil)) blkNB
      (fun _ _ _ _ _ => pg_name (i := 2) scNB.nd rfl (Or.inl rfl)) (fun _ _ _ _ _ => pts_nil)
      (fun _ _ _ _ _ => pe_op op_and (pe_op op_shr (pv 0) (pe_op op_mul pe_int (pe_op op_sub (pe_op op_sub (pv 1) pe_int) (pv 2)))) pe_int))), ?_⟩
    refine ⟨_, rfl, (k : Int), rfl, by omega, by omega, fun D hD => ?_⟩
    refine ⟨fun i m H' => m = k - i ∧ i ≤ k ∧ H' = upd H D (.lst (iv ((List.range i).map fun j => n / 256 ^ (k - 1 - j) % 256))), ⟨k, rfl, Nat.zero_le _, rfl⟩, ?_⟩
    rintro i m H' ⟨rfl, hi, rfl⟩
    by_cases hlt : i < k
    · refine .inr ⟨by show i < (k : Int).toNat; omega, fun H2 => H2 = upd H D (.lst (iv ((List.range (i + 1)).map fun j => n / 256 ^ (k - 1 - j) % 256))), fun H2 e => ⟨k - (i + 1), by omega, rfl, hlt, e⟩, ?_⟩
      rintro x H2 ⟨rfl, rfl⟩
      refine ⟨rfl, _, rfl, _, rfl, _, _, rfl, rfl, _, rfl, _, _, rfl, rfl, _, _, rfl, rfl, .inl ⟨by decide, by decide⟩, _, _, rfl, rfl, by show (0 : Int) ≤ 8 * ((k : Int) - 1 - (0 + (i : Int))); omega, _, _, rfl, rfl, _, upd_same, ?_, ?_⟩
      · rw [iv_len, List.length_map, List.length_range]
        show i < sizeLine
        rw [sizeLine_eq]; omega
      · rw [be_snoc, iv_app]
        show upd (upd H D _) D (.lst (_ ++ [V.int (Builtin.bitAnd ((n : Int) / 2 ^ (8 * ((k : Int) - 1 - (0 + (i : Int)))).toNat) 255)])) = _
        rw [byte_eq hlt]
        funext b
        unfold upd
        split <;> rfl
    · have e : i = k := by omega
      subst e
      exact .inl ⟨by show (i : Int).toNat ≤ i; omega, q D hD⟩
theorem scRef : FnScope ["why"] ["why"] (defScope sRef) := ⟨rfl, rfl, rfl, by decide +kernel, rfl, by decide +kernel, by decide +kernel⟩
theorem ok_ref {f : Addr} {fd : FuncData} (F : Fun K "refused" "refused" sRef f fd) : FnOk P w K mg base CX0 1 f fd ["why"] spRef := by
  refine F.ok scRef (fun vs H Q E h => ?_) (fun cdv A outer s H vs Q E hr h => ?_)
  · obtain ⟨n, rfl, _⟩ := h; rfl
  · obtain ⟨n, rfl, q⟩ := h
    refine ⟨_, pss_one (ps_ret (pe_lst (pa_cons (pe_un un_neg (pv 0)) pa_nil))), ?_⟩
    exact ⟨_, rfl, _, rfl, by show 1 ≤ sizeLine; decide, fun p hp => q p hp⟩
theorem scFB : FnScope ["kind", "flags", "number", "body"] ["kind", "flags", "number", "body"] (defScope sFB) := ⟨rfl, rfl, rfl, by decide +kernel, rfl, by decide +kernel, by decide +kernel⟩
theorem fits {n : Nat} (h : n ≤ 16000000) : n ≤ sizeLine := by rw [sizeLine_eq]; omega
theorem ok_fb {f : Addr} {fd : FuncData} (F : Fun K "frame_bytes" "frame_bytes" sFB f fd) (T : Txt K mg Z) (DN : Def P w K mg base 1 "number_bytes" ["value", "size"] spNB) : FnOk P w K mg base CX0 2 f fd ["kind", "flags", "number", "body"] spFB := by
  refine F.ok scFB (fun vs H Q E h => ?_) (fun cdv A outer s H vs Q E hr h => ?_)
  · obtain ⟨kd, fl, n, b, body, rfl, _⟩ := h; rfl
  · obtain ⟨kd, fl, n, b, body, rfl, hb, hl, q⟩ := h
    refine ⟨_, pss_one (ps_ret (pe_op op_cat (pe_op op_cat (pe_op op_cat (pd DN hr (pa_cons (pe_callB call_len_seq (by rfl) T.len PySem.boot_len (pa_cons (pv 3) pa_nil)) (pa_cons pe_int pa_nil)))
      (pe_lst (pa_cons (pv 0) (pa_cons (pv 1) pa_nil)))) (pd DN hr (pa_cons (pv 2) (pa_cons pe_int pa_nil)))) (pv 3))), ?_⟩
    refine ⟨_, rfl, b, _, rfl, .inl (SqL.of hb), (iv body).length, 2, rfl, by decide, fun q1 h1 => ?_⟩
    have S1 : Same H _ := Same.fresh (o := .lst (iv (Sq01.be 2 (iv body).length))) h1
    refine ⟨_, rfl, _, rfl, by show 2 ≤ sizeLine; decide, fun q2 h2 => ?_⟩
    have S2 : Same H _ := S1.trans (Same.fresh (o := .lst [.int (kd : Int), .int (fl : Int)]) h2)
    have e1 := Same.fresh (o := .lst [V.int (kd : Int), V.int (fl : Int)]) h2 q1 _ upd_same
    refine ⟨q1, q2, _, _, rfl, rfl, e1, upd_same, ?_, fun q3 h3 => ?_⟩
    · rw [iv_len, be_length]; exact fits (by show 2 + 2 ≤ _; decide)
    have S3 : Same H _ := S2.trans (Same.fresh (o := .lst (iv (Sq01.be 2 (iv body).length) ++ [V.int (kd : Int), V.int (fl : Int)])) h3)
    refine ⟨_, rfl, n, 4, rfl, by decide, fun q4 h4 => ?_⟩
    have S4 : Same H _ := S3.trans (Same.fresh (o := .lst (iv (Sq01.be 4 n))) h4)
    have e3 := Same.fresh (o := .lst (iv (Sq01.be 4 n))) h4 q3 _ upd_same
    refine ⟨q3, q4, _, _, rfl, rfl, e3, upd_same, ?_, fun q5 h5 => ?_⟩
    · rw [List.length_append, iv_len, be_length, iv_len, be_length]; exact fits (by show 2 + 2 + 4 ≤ _; decide)
    have S5 : Same H _ := S4.trans (Same.fresh (o := .lst (iv (Sq01.be 2 (iv body).length) ++ [V.int (kd : Int), V.int (fl : Int)] ++ iv (Sq01.be 4 n))) h5)
    refine ⟨_, rfl, q5, b, _, _, rfl, rfl, upd_same, S5 b _ hb, ?_, fun q6 h6 => ?_⟩
    · rw [List.length_append, List.length_append, iv_len, be_length, iv_len, be_length, iv_len]; exact fits (by show 2 + 2 + 4 + body.length ≤ _; omega)
    refine q _ q6 (S5.trans (Same.fresh h6)) (S5.free h6) ?_
    rw [upd_same, iv_len]
    simp [iv]
theorem scDF : FnScope ["number", "last", "body"] ["number", "last", "body"] (defScope sDF) := ⟨rfl, rfl, rfl, by decide +kernel, rfl, by decide +kernel, by decide +kernel⟩
theorem ok_df {f : Addr} {fd : FuncData} (F : Fun K "data_frame" "data_frame" sDF f fd) (T : Txt K mg Z) (DF : Def P w K mg base 2 "frame_bytes" ["kind", "flags", "number", "body"] spFB) : FnOk P w K mg base CX0 3 f fd ["number", "last", "body"] spDF := by
  refine F.ok scDF (fun vs H Q E h => ?_) (fun cdv A outer s H vs Q E hr h => ?_)
  · obtain ⟨n, l, b, body, rfl, _⟩ := h; rfl
  · obtain ⟨n, l, b, body, rfl, hb, hl, q⟩ := h
    have c1 := T.con ("DATA", 1) (by decide +kernel)
    refine ⟨_, pss_one (ps_ret (pd DF hr (pa_cons (pc c1) (pa_cons (pe_ifExp (pt_val (pv 1)) pe_int pe_int) (pa_cons (pv 0) (pa_cons (pv 2) pa_nil)))))), ?_⟩
    refine ⟨_, rfl, l, rfl, ?_⟩
    cases l with
    | true => exact iteT ⟨_, rfl, _, rfl, 1, 1, n, b, body, rfl, hb, hl, fun H' a S hn ha => q H' a S hn ha⟩
    | false => exact iteF ⟨_, rfl, _, rfl, 1, 0, n, b, body, rfl, hb, hl, fun H' a S hn ha => q H' a S hn ha⟩
theorem scCF : FnScope ["number", "more"] ["number", "more"] (defScope sCF) := ⟨rfl, rfl, rfl, by decide +kernel, rfl, by decide +kernel, by decide +kernel⟩
theorem ok_cf {f : Addr} {fd : FuncData} (F : Fun K "credit_frame" "credit_frame" sCF f fd) (T : Txt K mg Z) (DN : Def P w K mg base 1 "number_bytes" ["value", "size"] spNB) (DF : Def P w K mg base 2 "frame_bytes" ["kind", "flags", "number", "body"] spFB) : FnOk P w K mg base CX0 3 f fd ["number", "more"] spCF := by
  refine F.ok scCF (fun vs H Q E h => ?_) (fun cdv A outer s H vs Q E hr h => ?_)
  · obtain ⟨n, m, rfl, _⟩ := h; rfl
  · obtain ⟨n, m, rfl, q⟩ := h
    have c1 := T.con ("CREDIT", 2) (by decide +kernel)
    refine ⟨_, pss_one (ps_ret (pd DF hr (pa_cons (pc c1) (pa_cons pe_int (pa_cons (pv 0) (pa_cons (pd DN (hr.mono (by decide)) (pa_cons (pv 1) (pa_cons pe_int pa_nil))) pa_nil)))))), ?_⟩
    refine ⟨_, rfl, _, rfl, m, 4, rfl, by decide, fun q1 h1 => ?_⟩
    exact ⟨2, 0, n, q1, Sq01.be 4 m, rfl, upd_same, by rw [be_length]; decide, fun H' a S hn ha => q H' a ((Same.fresh h1).trans S) ((Same.fresh h1).free hn) ha⟩
theorem scSF : FnScope ["number", "why"] ["number", "why"] (defScope sSF) := ⟨rfl, rfl, rfl, by decide +kernel, rfl, by decide +kernel, by decide +kernel⟩
theorem ok_sf {f : Addr} {fd : FuncData} (F : Fun K "stopped_frame" "stopped_frame" sSF f fd) (T : Txt K mg Z) (DN : Def P w K mg base 1 "number_bytes" ["value", "size"] spNB) (DF : Def P w K mg base 2 "frame_bytes" ["kind", "flags", "number", "body"] spFB) : FnOk P w K mg base CX0 3 f fd ["number", "why"] spSF := by
  refine F.ok scSF (fun vs H Q E h => ?_) (fun cdv A outer s H vs Q E hr h => ?_)
  · obtain ⟨n, m, rfl, _⟩ := h; rfl
  · obtain ⟨n, m, rfl, q⟩ := h
    have c1 := T.con ("STOPPED", 3) (by decide +kernel)
    refine ⟨_, pss_one (ps_ret (pd DF hr (pa_cons (pc c1) (pa_cons pe_int (pa_cons (pv 0) (pa_cons (pd DN (hr.mono (by decide)) (pa_cons (pv 1) (pa_cons pe_int pa_nil))) pa_nil)))))), ?_⟩
    refine ⟨_, rfl, _, rfl, m, 4, rfl, by decide, fun q1 h1 => ?_⟩
    exact ⟨3, 0, n, q1, Sq01.be 4 m, rfl, upd_same, by rw [be_length]; decide, fun H' a S hn ha => q H' a ((Same.fresh h1).trans S) ((Same.fresh h1).free hn) ha⟩
theorem scsSA : FnScope ["token"] ["token"] (defScope sSA) := ⟨rfl, rfl, rfl, by decide +kernel, rfl, by decide +kernel, by decide +kernel⟩
theorem ok_sa {f : Addr} {fd : FuncData} (F : Fun K "still_asked_frame" "still_asked_frame" sSA f fd) (T : Txt K mg Z) (DN : Def P w K mg base 1 "number_bytes" ["value", "size"] spNB) (DF : Def P w K mg base 2 "frame_bytes" ["kind", "flags", "number", "body"] spFB) : FnOk P w K mg base CX0 3 f fd ["token"] spSA := by
  refine F.ok scsSA (fun vs H Q E h => ?_) (fun cdv A outer s H vs Q E hr h => ?_)
  · obtain ⟨m, rfl, _⟩ := h; rfl
  · obtain ⟨m, rfl, q⟩ := h
    have c1 := T.con ("STILL_ASKED", 4) (by decide +kernel)
    have c2 := T.con ("OF_ALL", 0) (by decide +kernel)
    refine ⟨_, pss_one (ps_ret (pd DF hr (pa_cons (pc c1) (pa_cons pe_int (pa_cons (pc c2) (pa_cons (pd DN (hr.mono (by decide)) (pa_cons (pv 0) (pa_cons pe_int pa_nil))) pa_nil)))))), ?_⟩
    refine ⟨_, rfl, m, 8, rfl, by decide, fun q1 h1 => ?_⟩
    exact ⟨4, 0, 0, q1, Sq01.be 8 m, rfl, upd_same, by rw [be_length]; decide, fun H' a S hn ha => q H' a ((Same.fresh h1).trans S) ((Same.fresh h1).free hn) ha⟩
theorem scsST : FnScope ["token"] ["token"] (defScope sST) := ⟨rfl, rfl, rfl, by decide +kernel, rfl, by decide +kernel, by decide +kernel⟩
theorem ok_st {f : Addr} {fd : FuncData} (F : Fun K "still_frame" "still_frame" sST f fd) (T : Txt K mg Z) (DN : Def P w K mg base 1 "number_bytes" ["value", "size"] spNB) (DF : Def P w K mg base 2 "frame_bytes" ["kind", "flags", "number", "body"] spFB) : FnOk P w K mg base CX0 3 f fd ["token"] spST := by
  refine F.ok scsST (fun vs H Q E h => ?_) (fun cdv A outer s H vs Q E hr h => ?_)
  · obtain ⟨m, rfl, _⟩ := h; rfl
  · obtain ⟨m, rfl, q⟩ := h
    have c1 := T.con ("STILL_frames", 5) (by decide +kernel)
    have c2 := T.con ("OF_ALL", 0) (by decide +kernel)
    refine ⟨_, pss_one (ps_ret (pd DF hr (pa_cons (pc c1) (pa_cons pe_int (pa_cons (pc c2) (pa_cons (pd DN (hr.mono (by decide)) (pa_cons (pv 0) (pa_cons pe_int pa_nil))) pa_nil)))))), ?_⟩
    refine ⟨_, rfl, m, 8, rfl, by decide, fun q1 h1 => ?_⟩
    exact ⟨5, 0, 0, q1, Sq01.be 8 m, rfl, upd_same, by rw [be_length]; decide, fun H' a S hn ha => q H' a ((Same.fresh h1).trans S) ((Same.fresh h1).free hn) ha⟩
theorem scsGO : FnScope ["greatest"] ["greatest"] (defScope sGO) := ⟨rfl, rfl, rfl, by decide +kernel, rfl, by decide +kernel, by decide +kernel⟩
theorem ok_go {f : Addr} {fd : FuncData} (F : Fun K "going_frame" "going_frame" sGO f fd) (T : Txt K mg Z) (DN : Def P w K mg base 1 "number_bytes" ["value", "size"] spNB) (DF : Def P w K mg base 2 "frame_bytes" ["kind", "flags", "number", "body"] spFB) : FnOk P w K mg base CX0 3 f fd ["greatest"] spGO := by
  refine F.ok scsGO (fun vs H Q E h => ?_) (fun cdv A outer s H vs Q E hr h => ?_)
  · obtain ⟨m, rfl, _⟩ := h; rfl
  · obtain ⟨m, rfl, q⟩ := h
    have c1 := T.con ("GOING", 6) (by decide +kernel)
    have c2 := T.con ("OF_ALL", 0) (by decide +kernel)
    refine ⟨_, pss_one (ps_ret (pd DF hr (pa_cons (pc c1) (pa_cons pe_int (pa_cons (pc c2) (pa_cons (pd DN (hr.mono (by decide)) (pa_cons (pv 0) (pa_cons pe_int pa_nil))) pa_nil)))))), ?_⟩
    refine ⟨_, rfl, m, 4, rfl, by decide, fun q1 h1 => ?_⟩
    exact ⟨6, 0, 0, q1, Sq01.be 4 m, rfl, upd_same, by rw [be_length]; decide, fun H' a S hn ha => q H' a ((Same.fresh h1).trans S) ((Same.fresh h1).free hn) ha⟩
end
end Os
set_option linter.all false
set_option maxRecDepth 100000
namespace Os
open PySem PySem.Spec PyProof.Rows L2
open Sq01 (State Exchange Bytes)
/-! ### attributes: read and written -/
section
variable (x : Exchange) (w u : Addr)
theorem xl_waiting : (xF x w u).lookup ("waiting" : Str) = some (.ref w) := by kernel_rfl
theorem xl_ended : (xF x w u).lookup ("ended" : Str) = some (.bl x.ended) := by kernel_rfl
theorem xl_sent : (xF x w u).lookup ("last_sent" : Str) = some (.bl x.sent) := by kernel_rfl
theorem xl_credit : (xF x w u).lookup ("credit" : Str) = some (.int x.credit) := by kernel_rfl
theorem xl_untaken : (xF x w u).lookup ("untaken" : Str) = some (.ref u) := by kernel_rfl
theorem xl_came : (xF x w u).lookup ("last_came" : Str) = some (.bl x.whole) := by kernel_rfl
theorem xl_told : (xF x w u).lookup ("end_told" : Str) = some (.bl x.done_) := by kernel_rfl
theorem xl_left : (xF x w u).lookup ("left" : Str) = some (.int x.left) := by kernel_rfl
theorem xl_owed : (xF x w u).lookup ("owed" : Str) = some (.int x.owed) := by kernel_rfl
theorem xl_allcame : (xF x w u).lookup ("all_came" : Str) = none := by kernel_rfl
theorem xl_nothing : (xF x w u).lookup ("nothing_to_do" : Str) = none := by kernel_rfl
theorem xp_waiting (a : Addr) : putF "waiting" (.ref a) (xF x w u) = xF x a u := by kernel_rfl
theorem xp_ended (b : Bool) : putF "ended" (.bl b) (xF x w u) = xF { x with ended := b } w u := by kernel_rfl
theorem xp_sent (b : Bool) : putF "last_sent" (.bl b) (xF x w u) = xF { x with sent := b } w u := by kernel_rfl
theorem xp_credit (v : Int) (n : Nat) (h : v = (n : Int)) : putF "credit" (.int v) (xF x w u) = xF { x with credit := n } w u := by subst h; kernel_rfl
theorem xp_untaken (a : Addr) : putF "untaken" (.ref a) (xF x w u) = xF x w a := by kernel_rfl
theorem xp_came (b : Bool) : putF "last_came" (.bl b) (xF x w u) = xF { x with whole := b } w u := by kernel_rfl
theorem xp_told (b : Bool) : putF "end_told" (.bl b) (xF x w u) = xF { x with done_ := b } w u := by kernel_rfl
theorem xp_left (v : Int) (n : Nat) (h : v = (n : Int)) : putF "left" (.int v) (xF x w u) = xF { x with left := n } w u := by subst h; kernel_rfl
theorem xp_owed (v : Int) (n : Nat) (h : v = (n : Int)) : putF "owed" (.int v) (xF x w u) = xF { x with owed := n } w u := by subst h; kernel_rfl
end
section
variable (s : State) (d l c : Addr)
theorem sl_which : (sF s d l c).lookup ("which" : Str) = some (.int s.side) := by kernel_rfl
theorem sl_dead : (sF s d l c).lookup ("dead" : Str) = some (.bl s.dead) := by kernel_rfl
theorem sl_over : (sF s d l c).lookup ("going" : Str) = some (.bl s.over) := by kernel_rfl
theorem sl_going : (sF s d l c).lookup ("other_going" : Str) = some (.bl s.gone) := by kernel_rfl
theorem sl_exchanges : (sF s d l c).lookup ("exchanges" : Str) = some (.ref d) := by kernel_rfl
theorem sl_ask : (sF s d l c).lookup ("to_ask" : Str) = some (.int s.next) := by kernel_rfl
theorem sl_come : (sF s d l c).lookup ("to_come" : Str) = some (.int (after s)) := by kernel_rfl
theorem sl_turn : (sF s d l c).lookup ("turn" : Str) = some (.int s.turn) := by kernel_rfl
theorem sl_first : (sF s d l c).lookup ("first" : Str) = some (.ref l) := by kernel_rfl
theorem sl_unread : (sF s d l c).lookup ("unread" : Str) = some (.ref c) := by kernel_rfl
theorem sl_credit : (sF s d l c).lookup ("credit" : Str) = some (.int s.credit) := by kernel_rfl
theorem sl_left : (sF s d l c).lookup ("left" : Str) = some (.int s.left) := by kernel_rfl
theorem sl_owed : (sF s d l c).lookup ("owed" : Str) = some (.int s.owed) := by kernel_rfl
theorem sl_m1 : (sF s d l c).lookup ("add_exchange" : Str) = none := by kernel_rfl
theorem sl_m2 : (sF s d l c).lookup ("is_ours" : Str) = none := by kernel_rfl
theorem sl_m3 : (sF s d l c).lookup ("ours_there" : Str) = none := by kernel_rfl
theorem sl_m4 : (sF s d l c).lookup ("give_back" : Str) = none := by kernel_rfl
theorem sl_m5 : (sF s d l c).lookup ("lose" : Str) = none := by kernel_rfl
theorem sl_m6 : (sF s d l c).lookup ("drop_if_done" : Str) = none := by kernel_rfl
theorem sl_m7 : (sF s d l c).lookup ("drop_done" : Str) = none := by kernel_rfl
theorem sl_m8 : (sF s d l c).lookup ("theirs_there" : Str) = none := by kernel_rfl
theorem sl_m9 : (sF s d l c).lookup ("is_or_was" : Str) = none := by kernel_rfl
theorem sl_m10 : (sF s d l c).lookup ("greatest_that_came" : Str) = none := by kernel_rfl
theorem sl_m11 : (sF s d l c).lookup ("die" : Str) = none := by kernel_rfl
theorem sp_ask (v : Int) (n : Nat) (h : v = (n : Int)) : putF "to_ask" (.int v) (sF s d l c) = sF { s with next := n } d l c := by subst h; kernel_rfl
theorem sp_turn (v : Int) (n : Nat) (h : v = (n : Int)) : putF "turn" (.int v) (sF s d l c) = sF { s with turn := n } d l c := by subst h; kernel_rfl
theorem sp_credit (v : Int) (n : Nat) (h : v = (n : Int)) : putF "credit" (.int v) (sF s d l c) = sF { s with credit := n } d l c := by subst h; kernel_rfl
theorem sp_left (v : Int) (n : Nat) (h : v = (n : Int)) : putF "left" (.int v) (sF s d l c) = sF { s with left := n } d l c := by subst h; kernel_rfl
theorem sp_owed (v : Int) (n : Nat) (h : v = (n : Int)) : putF "owed" (.int v) (sF s d l c) = sF { s with owed := n } d l c := by subst h; kernel_rfl
theorem sp_come (v : Int) (n : Nat) (h : v = (after { s with greatest := n } : Int)) : putF "to_come" (.int v) (sF s d l c) = sF { s with greatest := n } d l c := by subst h; kernel_rfl
theorem sp_first (a : Addr) : putF "first" (.ref a) (sF s d l c) = sF s d a c := by kernel_rfl
theorem sp_exchanges (a : Addr) : putF "exchanges" (.ref a) (sF s d l c) = sF s a l c := by kernel_rfl
theorem sp_unread (a : Addr) : putF "unread" (.ref a) (sF s d l c) = sF s d l a := by kernel_rfl
theorem sp_dead (b : Bool) : putF "dead" (.bl b) (sF s d l c) = sF { s with dead := b } d l c := by kernel_rfl
theorem sp_over (b : Bool) : putF "going" (.bl b) (sF s d l c) = sF { s with over := b } d l c := by kernel_rfl
theorem sp_gone (b : Bool) : putF "other_going" (.bl b) (sF s d l c) = sF { s with gone := b } d l c := by kernel_rfl
end
theorem small_s (s : State) (d l c : Addr) : (sF s d l c).length < 1000 := by show 13 < 1000; decide
theorem small_x (x : Exchange) (w u : Addr) : (xF x w u).length < 1000 := by show 9 < 1000; decide
/-! ### how things stand, seen from an entry -/
structure Now (Z : Cs) (p : Addr) (H0 : Hp) (L0 : Lay) (H : Hp) (s : State) (L : Lay) : Prop where
  rep : Rep Z H p s L
  ext : Ext H0 L0 H L
  xa : L.xa = L0.xa
/-- whatever comes behind a call that brings the side to t -/
def Got (Z : Cs) (p : Addr) (H : Hp) (L : Lay) (t : State) (Q : Hp → Prop) : Prop := ∀ H' L', Now Z p H L H' t L' → Q H'
section
variable {Z : Cs} {p : Addr} {H0 H H1 : Hp} {L0 L L1 : Lay} {s t : State}
theorem Now.of (R : Rep Z H p s L) : Now Z p H L H s L := ⟨R, Ext.refl, rfl⟩
theorem Now.trans (a : Now Z p H0 L0 H s L) (b : Now Z p H L H1 t L1) : Now Z p H0 L0 H1 t L1 := ⟨b.rep, a.ext.trans b.ext, b.xa.trans a.xa⟩
theorem Now.same (a : Now Z p H0 L0 H s L) (S : Same H H1) : Now Z p H0 L0 H1 s L := ⟨a.rep.same S, a.ext.trans (Ext.same S), a.xa⟩
theorem Now.new (a : Now Z p H0 L0 H s L) {q : Addr} {o : HO} (h : H q = none) : Now Z p H0 L0 (upd H q o) s L := a.same (Same.fresh h)
/-- an attribute of the side is written -/
theorem Now.ws (a : Now Z p H0 L0 H s L) {t : State} (h1 : t.exchanges = s.exchanges) (h2 : t.first = s.first) (h3 : t.came = s.came := by rfl) : Now Z p H0 L0 (upd H p (.ins Z.S L.dx (sF t L.d L.l L.c))) t L :=
  ⟨a.rep.side h1 h2 h3, a.ext.trans (Ext.own a.rep.gp), a.xa⟩
/-- an attribute of an exchange is written -/
theorem Now.wx (a : Now Z p H0 L0 H s L) (srt : (ids s).Pairwise (· < ·)) {x y : Exchange} {dx : Addr} (hx : x ∈ s.exchanges) (e1 : y.id = x.id) (e2 : y.out = x.out) (e3 : y.got = x.got) :
    Now Z p H0 L0 (upd H (L.xa x.id) (.ins Z.X dx (xF y (L.wa x.id) (L.ua x.id)))) (s.set y) L :=
  ⟨a.rep.exc srt hx e1 e2 e3, a.ext.trans (Ext.own (a.rep.ex x hx).gx), a.xa⟩
/-- a frame that stands at q is to be sent -/
theorem Now.say (a : Now Z p H0 L0 H s L) {f : Sq01.Frame} {q : Addr} (hq : H q = some (.lst (iv f.bytes))) (g : L.G q = none) (g0 : New H0 L0 q) :
    Now Z p H0 L0 (upd H L.l (.lst (L.fa.map V.ref ++ [V.ref q]))) (s.say f) { L.tag q .fr with fa := L.fa ++ [q] } :=
  ⟨a.rep.say hq g, fun b o e g' => by
    obtain ⟨h1, h2⟩ := a.ext b o e g'
    refine ⟨by rw [upd_ne (fun z => by rw [z, a.rep.gl] at h2; cases h2)]; exact h1, ?_⟩
    show (L.tag q .fr).G b = none
    rw [tag_ne (fun z => ?_)]
    · exact h2
    · subst z
      exact g0 o e g', a.xa⟩
end
end Os
set_option linter.all false
set_option maxRecDepth 100000
namespace Os
open PySem PySem.Spec PyProof.Rows L2
open Sq01 (State Exchange Bytes)
abbrev sX0 : Stmt := inClass (top 94) 0
abbrev sX1 : Stmt := inClass (top 94) 1
abbrev sX2 : Stmt := inClass (top 94) 2
abbrev sS0 : Stmt := inClass (top 98) 0
abbrev sS1 : Stmt := inClass (top 98) 1
abbrev sS2 : Stmt := inClass (top 98) 2
abbrev sS3 : Stmt := inClass (top 98) 3
abbrev sS4 : Stmt := inClass (top 98) 7
abbrev sS5 : Stmt := inClass (top 98) 8
abbrev sS6 : Stmt := inClass (top 98) 9
abbrev sS7 : Stmt := inClass (top 98) 10
abbrev sS8 : Stmt := inClass (top 98) 4
abbrev sS9 : Stmt := inClass (top 98) 5
abbrev sS10 : Stmt := inClass (top 98) 6
abbrev sS11 : Stmt := inClass (top 98) 11
theorem upd2 {H : Hp} {a : Addr} {o o' : HO} : upd (upd H a o) a o' = upd H a o' := by
  funext b
  unfold upd
  split <;> rfl
theorem upd_none {H : Hp} {a b : Addr} {o : HO} (h : upd H a o b = none) : b ≠ a ∧ H b = none := by
  have n : b ≠ a := fun e => by rw [e, upd_same] at h; cases h
  exact ⟨n, by rw [upd_ne n] at h; exact h⟩
theorem len_put {f : Str} {v : V} {fs : List (Str × V)} {n : Nat} (h : fs.length < n) : (putF f v fs).length < n + 1 := Nat.lt_of_le_of_lt (length_putF f v fs) (Nat.succ_lt_succ h)
/-! ### the promises -/
def spX0 (Z : Cs) : Sp := fun vs H Q _ => ∃ p dx, vs = [.ref p] ∧ H p = some (.ins Z.X dx []) ∧ ∀ H' w u, H w = none → H u = none → w ≠ u → H' p = some (.ins Z.X dx (xF (Sq01.fresh 0) w u)) → H' w = some (.lst []) → H' u = some (.lst []) →
  (∀ b o, H b = some o → b ≠ p → H' b = some o) → Q .non H'
def spX1 (Z : Cs) : Sp := fun vs H Q _ => ∃ p dx x w u, vs = [.ref p] ∧ H p = some (.ins Z.X dx (xF x w u)) ∧ H u = some (.lst (iv x.got)) ∧ Q (.bl (x.whole && decide (x.got = []))) H
def spX2 (Z : Cs) : Sp := fun vs H Q _ => ∃ p dx x w u, vs = [.ref p] ∧ H p = some (.ins Z.X dx (xF x w u)) ∧ Q (.bl (x.sent && x.done_)) H
def spS0 (Z : Cs) : Sp := fun vs H Q _ => ∃ (p dx : Addr) (n : Nat), vs = [.ref p, .int n] ∧ (n = 1 ∨ n = 2) ∧ H p = some (.ins Z.S dx []) ∧ ∀ H' L', Rep Z H' p (Sq01.begun n) L' → (∀ b o, H b = some o → b ≠ p → H' b = some o ∧ L'.G b = none) → Q .non H'
def spS1 (Z : Cs) : Sp := fun vs H Q _ => ∃ (p : Addr) (i : Nat) (s : State) (L : Lay), vs = [.ref p, .int i] ∧ Rep Z H p s L ∧ i ∉ ids s ∧ s.exchanges.length ≤ 1000 ∧ ∀ H' L', Rep Z H' p (s.open_ (Sq01.fresh i)) L' → Ext H L H' L' → Q .non H'
def spS2 (Z : Cs) : Sp := fun vs H Q _ => ∃ (p dx d l c : Addr) (i : Nat) (s : State), vs = [.ref p, .int i] ∧ H p = some (.ins Z.S dx (sF s d l c)) ∧ Q (.bl (s.own i)) H
def spS3 (Z : Cs) : Sp := fun vs H Q _ => ∃ (p : Addr) (s : State) (L : Lay), vs = [.ref p] ∧ Rep Z H p s L ∧ s.exchanges.length ≤ 1000 ∧ ∀ H', Same H H' → Q (.int s.mine) H'
def spS4 (Z : Cs) : Sp := fun vs H Q _ => ∃ (p : Addr) (n : Nat) (s : State) (L : Lay), vs = [.ref p, .int n] ∧ Rep Z H p s L ∧ s.first.length < 10000000 ∧ Got Z p H L (s.back n) (Q .non)
def spS5 (Z : Cs) : Sp := fun vs H Q _ => ∃ (p : Addr) (i : Nat) (s : State) (L : Lay) (x : Exchange), vs = [.ref p, .int i] ∧ Rep Z H p s L ∧ s.first.length < 10000000 ∧ s.find i = some x ∧ Got Z p H L ((s.drop i).back x.got.length) (Q .non)
def spS6 (Z : Cs) : Sp := fun vs H Q _ => ∃ (p : Addr) (i : Nat) (s : State) (L : Lay) (x : Exchange), vs = [.ref p, .int i] ∧ Rep Z H p s L ∧ (ids s).Pairwise (· < ·) ∧ s.find i = some x ∧ Got Z p H L (s.tidy i) (Q .non)
def spS8 (Z : Cs) : Sp := fun vs H Q _ => ∃ (p : Addr) (s : State) (L : Lay), vs = [.ref p] ∧ Rep Z H p s L ∧ s.exchanges.length ≤ 1000 ∧ ∀ H', Same H H' → Q (.int s.theirs) H'
def spS9 (Z : Cs) : Sp := fun vs H Q _ => ∃ (p dx d l c : Addr) (i : Nat) (s : State), vs = [.ref p, .int i] ∧ H p = some (.ins Z.S dx (sF s d l c)) ∧ Ok s ∧ 0 < i ∧ Q (.bl (isOrWas s i)) H
def spS10 (Z : Cs) : Sp := fun vs H Q _ => ∃ (p dx d l c : Addr) (s : State), vs = [.ref p] ∧ H p = some (.ins Z.S dx (sF s d l c)) ∧ Ok s ∧ Q (.int s.greatest) H
def spS11 (Z : Cs) : Sp := fun vs H Q _ => ∃ (p : Addr) (s : State) (L : Lay), vs = [.ref p] ∧ Rep Z H p s L ∧ ∀ k H' L', Rep Z H' p (s.kill k).1 L' → Ext H L H' L' → Q .non H'
def spS7 (Z : Cs) : Sp := fun vs H Q _ => ∃ (p : Addr) (s : State) (L : Lay), vs = [.ref p] ∧ Rep Z H p s L ∧ Ok s ∧ Got Z p H L (s.exchanges.foldl (fun (t : State) x => t.tidy x.id) s) (Q .non)
section
variable {P : Program} {w : World} {K : PySem.W.Frag} {mg : Str → Option Value} {base : Heap} {Z : Cs}
/-! ### Exchange -/
theorem scX0 : FnScope ["self"] ["self"] (defScope sX0) := ⟨rfl, rfl, rfl, by decide +kernel, rfl, by decide +kernel, by decide +kernel⟩
theorem xinit_eq (w u : Addr) : putF "owed" (.int 0) (putF "left" (.int 16384) (putF "end_told" (.bl false) (putF "last_came" (.bl false) (putF "untaken" (.ref u) (putF "credit" (.int 16384) (putF "last_sent" (.bl false) (putF "ended" (.bl false) (putF "waiting" (.ref w) [])))))))) = xF (Sq01.fresh 0) w u := by kernel_rfl
theorem ok_x0 {f : Addr} {fd : FuncData} (F : Fun K "__init__" "Exchange.__init__" sX0 f fd) (T : Txt K mg Z) : FnOk P w K mg base CX0 1 f fd ["self"] (spX0 Z) := by
  refine F.ok scX0 (fun vs H Q E h => ?_) (fun cdv A outer s H vs Q E hr h => ?_)
  · obtain ⟨p, dx, rfl, _⟩ := h; rfl
  · obtain ⟨p, dx, rfl, hp, q⟩ := h
    have c1 := T.con ("CREDIT_AT_FIRST", 16384) (by decide +kernel)
    refine ⟨_, pss_cons (ps_fld (pv 0) (pe_lst pa_nil) rfl) (pss_cons (ps_fld (pv 0) pe_bl rfl) (pss_cons (ps_fld (pv 0) pe_bl rfl) (pss_cons (ps_fld (pv 0) (pc c1) rfl) (pss_cons (ps_fld (pv 0) (pe_lst pa_nil) rfl)
      (pss_cons (ps_fld (pv 0) pe_bl rfl) (pss_cons (ps_fld (pv 0) pe_bl rfl) (pss_cons (ps_fld (pv 0) (pc c1) rfl) (pss_one (ps_fld (pv 0) pe_int rfl))))))))), ?_⟩
    refine ⟨Nat.zero_le _, fun a ha => ?_⟩
    have nap : p ≠ a := ne_of_none hp ha
    refine ⟨_, rfl, p, Z.X, dx, [], rfl, (by rw [upd_ne nap]; exact hp), T.cX, T.nX _ (by decide +kernel), (by show 0 < 1000; decide), ?_⟩
    refine ⟨_, rfl, p, Z.X, dx, _, rfl, upd_same, T.cX, T.nX _ (by decide +kernel), (by (repeat (refine len_put ?_)); exact Nat.zero_lt_succ _), ?_⟩
    rw [upd2]
    refine ⟨_, rfl, p, Z.X, dx, _, rfl, upd_same, T.cX, T.nX _ (by decide +kernel), (by (repeat (refine len_put ?_)); exact Nat.zero_lt_succ _), ?_⟩
    rw [upd2]
    refine ⟨_, rfl, p, Z.X, dx, _, rfl, upd_same, T.cX, T.nX _ (by decide +kernel), (by (repeat (refine len_put ?_)); exact Nat.zero_lt_succ _), ?_⟩
    rw [upd2]
    refine ⟨Nat.zero_le _, fun u hu => ?_⟩
    obtain ⟨nup, hu⟩ := upd_none hu
    obtain ⟨nua, hu⟩ := upd_none hu
    refine ⟨_, rfl, p, Z.X, dx, _, rfl, (by rw [upd_ne nup.symm, upd_same]), T.cX, T.nX _ (by decide +kernel), (by (repeat (refine len_put ?_)); exact Nat.zero_lt_succ _), ?_⟩
    refine ⟨_, rfl, p, Z.X, dx, _, rfl, upd_same, T.cX, T.nX _ (by decide +kernel), (by (repeat (refine len_put ?_)); exact Nat.zero_lt_succ _), ?_⟩
    rw [upd2]
    refine ⟨_, rfl, p, Z.X, dx, _, rfl, upd_same, T.cX, T.nX _ (by decide +kernel), (by (repeat (refine len_put ?_)); exact Nat.zero_lt_succ _), ?_⟩
    rw [upd2]
    refine ⟨_, rfl, p, Z.X, dx, _, rfl, upd_same, T.cX, T.nX _ (by decide +kernel), (by (repeat (refine len_put ?_)); exact Nat.zero_lt_succ _), ?_⟩
    rw [upd2]
    refine ⟨_, rfl, p, Z.X, dx, _, rfl, upd_same, T.cX, T.nX _ (by decide +kernel), (by (repeat (refine len_put ?_)); exact Nat.zero_lt_succ _), ?_⟩
    rw [upd2, xinit_eq]
    refine q _ a u ha hu nua.symm upd_same ?_ ?_ fun b o e nb => ?_
    · rw [upd_ne nap.symm, upd_ne nua.symm, upd_ne nap.symm, upd_same]
    · rw [upd_ne nup, upd_same]
    · rw [upd_ne nb, upd_ne (ne_of_none e hu), upd_ne nb, upd_ne (ne_of_none e ha)]; exact e
theorem scX1 : FnScope ["self"] ["self"] (defScope sX1) := ⟨rfl, rfl, rfl, by decide +kernel, rfl, by decide +kernel, by decide +kernel⟩
theorem ok_x1 {f : Addr} {fd : FuncData} (F : Fun K "all_came" "Exchange.all_came" sX1 f fd) (T : Txt K mg Z) : FnOk P w K mg base CX0 1 f fd ["self"] (spX1 Z) := by
  refine F.ok scX1 (fun vs H Q E h => ?_) (fun cdv A outer s H vs Q E hr h => ?_)
  · obtain ⟨p, dx, x, w', u, rfl, _⟩ := h; rfl
  · obtain ⟨p, dx, x, w', u, rfl, hp, hu, q⟩ := h
    refine ⟨_, pss_one (ps_ret (pe_and (pe_fld (pv 0) rfl) (pe_one (pe_cmpR op_eq (pe_callB call_len_seq (by rfl) T.len PySem.boot_len (pa_cons (pe_fld (pv 0) rfl) pa_nil)) pe_int (nomark _))))), ?_⟩
    refine ⟨_, rfl, p, Z.X, dx, _, _, rfl, hp, T.cX, T.nX _ (by decide +kernel), xl_came x w' u, x.whole, rfl, ?_⟩
    cases hw : x.whole with
    | false =>
      rw [hw] at q
      exact iteF q
    | true =>
      rw [hw] at q
      refine iteT ?_
      refine ⟨_, rfl, p, Z.X, dx, _, _, rfl, hp, T.cX, T.nX _ (by decide +kernel), xl_untaken x w' u, u, _, rfl, .inl (SqL.of hu), rfl, ?_⟩
      have e : decide (V.int ((iv x.got).length : Int) = V.int 0) = (true && decide (x.got = [])) := by
        rw [iv_len, Bool.true_and]
        cases x.got with
        | nil => rfl
        | cons a l =>
          simp
          omega
      rw [e]; exact q
theorem scX2 : FnScope ["self"] ["self"] (defScope sX2) := ⟨rfl, rfl, rfl, by decide +kernel, rfl, by decide +kernel, by decide +kernel⟩
theorem ok_x2 {f : Addr} {fd : FuncData} (F : Fun K "nothing_to_do" "Exchange.nothing_to_do" sX2 f fd) (T : Txt K mg Z) : FnOk P w K mg base CX0 1 f fd ["self"] (spX2 Z) := by
  refine F.ok scX2 (fun vs H Q E h => ?_) (fun cdv A outer s H vs Q E hr h => ?_)
  · obtain ⟨p, dx, x, w', u, rfl, _⟩ := h; rfl
  · obtain ⟨p, dx, x, w', u, rfl, hp, q⟩ := h
    refine ⟨_, pss_one (ps_ret (pe_and (pe_fld (pv 0) rfl) (pe_one (pe_fld (pv 0) rfl)))), ?_⟩
    refine ⟨_, rfl, p, Z.X, dx, _, _, rfl, hp, T.cX, T.nX _ (by decide +kernel), xl_sent x w' u, x.sent, rfl, ?_⟩
    cases hw : x.sent with
    | false =>
      rw [hw] at q
      exact iteF q
    | true =>
      rw [hw] at q
      refine iteT ?_
      exact ⟨_, rfl, p, Z.X, dx, _, _, rfl, hp, T.cX, T.nX _ (by decide +kernel), xl_told x w' u, q⟩
/-! ### Side -/
theorem scS0 : FnScope ["self", "which"] ["self", "which"] (defScope sS0) := ⟨rfl, rfl, rfl, by decide +kernel, rfl, by decide +kernel, by decide +kernel⟩
theorem sinit_eq {n : Nat} (h : n = 1 ∨ n = 2) (d l c : Addr) : putF "owed" (.int 0) (putF "left" (.int 65536) (putF "credit" (.int 65536) (putF "unread" (.ref c) (putF "first" (.ref l) (putF "turn" (.int 0) (putF "to_come" (.int (3 - n)) (putF "to_ask" (.int n) (putF "exchanges" (.ref d) (putF "other_going" (.bl false) (putF "going" (.bl false) (putF "dead" (.bl false) (putF "which" (.int n) [])))))))))))) = sF (Sq01.begun n) d l c := by
  rcases h with rfl | rfl
  · kernel_rfl
  · kernel_rfl
theorem ok_s0 {f : Addr} {fd : FuncData} (F : Fun K "__init__" "Side.__init__" sS0 f fd) (T : Txt K mg Z) : FnOk P w K mg base CX0 1 f fd ["self", "which"] (spS0 Z) := by
  refine F.ok scS0 (fun vs H Q E h => ?_) (fun cdv A outer s H vs Q E hr h => ?_)
  · obtain ⟨p, dx, n, rfl, _⟩ := h; rfl
  · obtain ⟨p, dx, n, rfl, hn, hp, q⟩ := h
    have c1 := T.con ("CREDIT_OF_ALL_AT_FIRST", 65536) (by decide +kernel)
    refine ⟨_, pss_cons (ps_fld (pv 0) (pv 1) rfl) (pss_cons (ps_fld (pv 0) pe_bl rfl) (pss_cons (ps_fld (pv 0) pe_bl rfl) (pss_cons (ps_fld (pv 0) pe_bl rfl) (pss_cons (ps_fld (pv 0) pe_dnewK rfl) (pss_cons (ps_fld (pv 0) (pv 1) rfl) (pss_cons (ps_fld (pv 0) (pe_op op_sub pe_int (pv 1)) rfl)
      (pss_cons (ps_fld (pv 0) pe_int rfl) (pss_cons (ps_fld (pv 0) (pe_lst pa_nil) rfl) (pss_cons (ps_fld (pv 0) (pe_lst pa_nil) rfl) (pss_cons (ps_fld (pv 0) (pc c1) rfl) (pss_cons (ps_fld (pv 0) (pc c1) rfl) (pss_one (ps_fld (pv 0) pe_int rfl))))))))))))), ?_⟩
    refine ⟨_, rfl, _, rfl, p, Z.S, dx, [], rfl, hp, T.cS, T.nS _ (by decide +kernel), (by show 0 < 1000; decide), ?_⟩
    refine ⟨_, rfl, p, Z.S, dx, _, rfl, upd_same, T.cS, T.nS _ (by decide +kernel), (by (repeat (refine len_put ?_)); exact Nat.zero_lt_succ _), ?_⟩
    rw [upd2]
    refine ⟨_, rfl, p, Z.S, dx, _, rfl, upd_same, T.cS, T.nS _ (by decide +kernel), (by (repeat (refine len_put ?_)); exact Nat.zero_lt_succ _), ?_⟩
    rw [upd2]
    refine ⟨_, rfl, p, Z.S, dx, _, rfl, upd_same, T.cS, T.nS _ (by decide +kernel), (by (repeat (refine len_put ?_)); exact Nat.zero_lt_succ _), ?_⟩
    rw [upd2]
    intro d hd
    obtain ⟨ndp, hd⟩ := upd_none hd
    refine ⟨_, rfl, p, Z.S, dx, _, rfl, (by rw [upd_ne ndp.symm, upd_same]), T.cS, T.nS _ (by decide +kernel), (by (repeat (refine len_put ?_)); exact Nat.zero_lt_succ _), ?_⟩
    refine ⟨_, rfl, _, rfl, p, Z.S, dx, _, rfl, upd_same, T.cS, T.nS _ (by decide +kernel), (by (repeat (refine len_put ?_)); exact Nat.zero_lt_succ _), ?_⟩
    rw [upd2]
    refine ⟨_, rfl, _, _, rfl, rfl, _, rfl, p, Z.S, dx, _, rfl, upd_same, T.cS, T.nS _ (by decide +kernel), (by (repeat (refine len_put ?_)); exact Nat.zero_lt_succ _), ?_⟩
    rw [upd2]
    refine ⟨_, rfl, p, Z.S, dx, _, rfl, upd_same, T.cS, T.nS _ (by decide +kernel), (by (repeat (refine len_put ?_)); exact Nat.zero_lt_succ _), ?_⟩
    rw [upd2]
    refine ⟨Nat.zero_le _, fun l hl => ?_⟩
    obtain ⟨nlp, hl⟩ := upd_none hl
    obtain ⟨nld, hl⟩ := upd_none hl
    obtain ⟨_, hl⟩ := upd_none hl
    refine ⟨_, rfl, p, Z.S, dx, _, rfl, (by rw [upd_ne nlp.symm, upd_same]), T.cS, T.nS _ (by decide +kernel), (by (repeat (refine len_put ?_)); exact Nat.zero_lt_succ _), ?_⟩
    refine ⟨Nat.zero_le _, fun c hc => ?_⟩
    obtain ⟨ncp, hc⟩ := upd_none hc
    obtain ⟨ncl, hc⟩ := upd_none hc
    obtain ⟨_, hc⟩ := upd_none hc
    obtain ⟨ncd, hc⟩ := upd_none hc
    obtain ⟨_, hc⟩ := upd_none hc
    refine ⟨_, rfl, p, Z.S, dx, _, rfl, (by rw [upd_ne ncp.symm, upd_same]), T.cS, T.nS _ (by decide +kernel), (by (repeat (refine len_put ?_)); exact Nat.zero_lt_succ _), ?_⟩
    refine ⟨_, rfl, p, Z.S, dx, _, rfl, upd_same, T.cS, T.nS _ (by decide +kernel), (by (repeat (refine len_put ?_)); exact Nat.zero_lt_succ _), ?_⟩
    rw [upd2]
    refine ⟨_, rfl, p, Z.S, dx, _, rfl, upd_same, T.cS, T.nS _ (by decide +kernel), (by (repeat (refine len_put ?_)); exact Nat.zero_lt_succ _), ?_⟩
    rw [upd2]
    refine ⟨_, rfl, p, Z.S, dx, _, rfl, upd_same, T.cS, T.nS _ (by decide +kernel), (by (repeat (refine len_put ?_)); exact Nat.zero_lt_succ _), ?_⟩
    rw [upd2, sinit_eq hn]
    refine q _ { dx := dx, d := d, l := l, c := c, ord := [], xa := fun _ => 0, wa := fun _ => 0, ua := fun _ => 0, fa := [], G := fun b => if b = p then some .side else if b = d then some .dict else if b = l then some .first else if b = c then some .unread else none } ?_ fun b o e nb => ?_
    · refine ⟨fun b t e => ?_, upd_same, if_pos rfl, ?_, ?_, .refl _, ?_, ?_, .nil, fun x hx => (nomatch hx), ?_, ?_⟩
      · have e : (if b = p then some Tag.side else if b = d then some Tag.dict else if b = l then some Tag.first else if b = c then some Tag.unread else none) = some t := e
        by_cases h1 : b = p
        · rw [h1, upd_same]; exact ⟨_, rfl⟩
        · rw [upd_ne h1]
          by_cases h4 : b = c
          · rw [h4, upd_same]; exact ⟨_, rfl⟩
          · rw [upd_ne h4, upd_ne h1]
            by_cases h2 : b = l
            · rw [h2, upd_same]; exact ⟨_, rfl⟩
            · rw [upd_ne h2, upd_ne h1]
              by_cases h3 : b = d
              · rw [h3, upd_same]; exact ⟨_, rfl⟩
              · rw [if_neg h1, if_neg h3, if_neg h2, if_neg h4] at e; cases e
      · show (upd _ p _) d = some (.dK [])
        rw [upd_ne ndp, upd_ne ncd.symm, upd_ne ndp, upd_ne nld.symm, upd_ne ndp, upd_same]
      · show (if d = p then some Tag.side else if d = d then some Tag.dict else _) = _
        rw [if_neg ndp, if_pos rfl]
      · show (upd _ p _) l = some (.lst [])
        rw [upd_ne nlp, upd_ne ncl.symm, upd_ne nlp, upd_same]
      · show (if l = p then some Tag.side else if l = d then some Tag.dict else if l = l then some Tag.first else _) = _
        rw [if_neg nlp, if_neg nld, if_pos rfl]
      · show (upd _ p _) c = some (.lst [])
        rw [upd_ne ncp, upd_same]
      · show (if c = p then some Tag.side else if c = d then some Tag.dict else if c = l then some Tag.first else if c = c then some Tag.unread else none) = _
        rw [if_neg ncp, if_neg ncd, if_neg ncl, if_pos rfl]
    · refine ⟨?_, ?_⟩
      · rw [upd_ne nb, upd_ne (ne_of_none e hc), upd_ne nb, upd_ne (ne_of_none e hl), upd_ne nb, upd_ne (ne_of_none e hd), upd_ne nb]; exact e
      · show (if b = p then some Tag.side else if b = d then some Tag.dict else if b = l then some Tag.first else if b = c then some Tag.unread else none) = none
        rw [if_neg nb, if_neg (ne_of_none e hd), if_neg (ne_of_none e hl), if_neg (ne_of_none e hc)]
end
end Os
set_option linter.all false
set_option maxRecDepth 100000
namespace Os
open PySem PySem.Spec PyProof.Rows L2
open Sq01 (State Exchange Bytes)
section
variable {P : Program} {w : World} {K : PySem.W.Frag} {mg : Str → Option Value} {base : Heap} {Z : Cs}
theorem kvs_len (L : Lay) : (kvs L).length = L.ord.length := List.length_map ..
theorem Rep.ordLen {H : Hp} {p : Addr} {s : State} {L : Lay} (R : Rep Z H p s L) : L.ord.length = s.exchanges.length := by
  rw [R.ord.length_eq, List.length_map]
theorem Rep.faLen {H : Hp} {p : Addr} {s : State} {L : Lay} (R : Rep Z H p s L) : L.fa.length = s.first.length := Paired.length R.fr
theorem scS1 : FnScope ["self", "number"] ["self", "number"] (defScope sS1) := ⟨rfl, rfl, rfl, by decide +kernel, rfl, by decide +kernel, by decide +kernel⟩
theorem ok_s1 {f : Addr} {fd : FuncData} (F : Fun K "add_exchange" "Side.add_exchange" sS1 f fd) (T : Txt K mg Z) (DX : Made P w K mg base 1 "Exchange" Z.X ["self"] (spX0 Z)) : FnOk P w K mg base CX0 3 f fd ["self", "number"] (spS1 Z) := by
  refine F.ok scS1 (fun vs H Q E h => ?_) (fun cdv A outer s0 H vs Q E hr h => ?_)
  · obtain ⟨p, i, s, L, rfl, _⟩ := h; rfl
  · obtain ⟨p, i, s, L, rfl, R, hi, hlen, q⟩ := h
    have hu := hu_of hr
    refine ⟨_, pss_one (ps_dput hu (pe_fld (pv 0) rfl) (pv 1) (pk0 DX hr) rfl), ?_⟩
    intro x dx nx ndx nex
    refine ⟨x, dx, rfl, upd_same, fun H' w' u hw hu' nwu h1 h2 h3 kp => ⟨rfl, ?_⟩⟩
    obtain ⟨nwx, hw⟩ := upd_none hw
    obtain ⟨_, hw⟩ := upd_none hw
    obtain ⟨nux, hu'⟩ := upd_none hu'
    obtain ⟨_, hu'⟩ := upd_none hu'
    have S : Same H H' := fun b o e => kp b o (by rw [upd_ne (ne_of_none e nx), upd_ne (ne_of_none e ndx)]; exact e) (ne_of_none e nx)
    have R' := R.same S
    refine ⟨_, rfl, p, Z.S, L.dx, _, _, rfl, R'.hp, T.cS, T.nS _ (by decide +kernel), sl_exchanges _ _ _ _, _, rfl, L.d, _, rfl, DPut.k (k := Sum.inl (i : Int)) R'.hd ?_, ?_⟩
    · rw [kvs_len, R.ordLen]
      exact small1000 hlen
    · refine q _ _ (R'.opens (i := i) hi (dx := dx) h1 h2 h3 (R.free nx) (R.free hw) (R.free hu') nwu) fun b o e g => ⟨?_, ?_⟩
      · rw [upd_ne (gne0 R.gd g).symm]
        exact S b o e
      · show (((L.tag x (.exc i)).tag w' (.wt i)).tag u (.ut i)).G b = none
        rw [tag_ne (ne_of_none e hu'), tag_ne (ne_of_none e hw), tag_ne (ne_of_none e nx)]; exact g
theorem scS2 : FnScope ["self", "number"] ["self", "number"] (defScope sS2) := ⟨rfl, rfl, rfl, by decide +kernel, rfl, by decide +kernel, by decide +kernel⟩
theorem ok_s2 {f : Addr} {fd : FuncData} (F : Fun K "is_ours" "Side.is_ours" sS2 f fd) (T : Txt K mg Z) : FnOk P w K mg base CX0 1 f fd ["self", "number"] (spS2 Z) := by
  refine F.ok scS2 (fun vs H Q E h => ?_) (fun cdv A outer s0 H vs Q E hr h => ?_)
  · obtain ⟨p, dx, d, l, c, i, s, rfl, _⟩ := h; rfl
  · obtain ⟨p, dx, d, l, c, i, s, rfl, hp, q⟩ := h
    refine ⟨_, pss_one (ps_ret (pe_cmpR op_eq (pe_op op_mod (pv 1) pe_int) (pe_op op_mod (pe_fld (pv 0) rfl) pe_int) (nomark _))), ?_⟩
    refine ⟨_, rfl, _, _, rfl, rfl, (by show (0 : Int) < 2; decide), _, rfl, p, Z.S, dx, _, _, rfl, hp, T.cS, T.nS _ (by decide +kernel), sl_which _ _ _ _, _, _, rfl, rfl, (by show (0 : Int) < 2; decide), rfl, ?_⟩
    have e : decide (V.int ((i : Int) % 2) = V.int ((s.side : Int) % 2)) = s.own i := by
      rw [dec_int]
      unfold State.own
      by_cases h : i % 2 = s.side % 2
      · have h' : (i : Int) % 2 = (s.side : Int) % 2 := by omega
        rw [beq_iff_eq.mpr h, beq_iff_eq.mpr h']
      · have h' : ¬ (i : Int) % 2 = (s.side : Int) % 2 := by omega
        rw [beq_eq_false_iff_ne.mpr h, beq_eq_false_iff_ne.mpr h']
    rw [e]; exact q
theorem scS3 : FnScope ["self", "number"] ["self"] (defScope sS3) := ⟨rfl, rfl, rfl, by decide +kernel, rfl, by decide +kernel, by decide +kernel⟩
def lenComp (s : Stmt) : Scope := match defBody s with
  | [.Return (some (.Call _ [.ListComp _ _ sc _] _ _)) _] => sc
  | _ => defScope s
theorem blkS3 : BlkOk ["self", "number"] (defScope sS3) (lenComp sS3) [("number", 1)] := ⟨rfl, by decide +kernel, by decide +kernel, by decide +kernel, by decide +kernel⟩
theorem ok_s3 {f : Addr} {fd : FuncData} (F : Fun K "ours_there" "Side.ours_there" sS3 f fd) (T : Txt K mg Z) (D2 : Mdef P w K mg base 1 Z.S "is_ours" ["self", "number"] (spS2 Z)) : FnOk P w K mg base CX0 2 f fd ["self"] (spS3 Z) := by
  refine F.ok scS3 (fun vs H Q E h => ?_) (fun cdv A outer s0 H vs Q E hr h => ?_)
  · obtain ⟨p, s, L, rfl, _⟩ := h; rfl
  · obtain ⟨p, s, L, rfl, R, hlen, q⟩ := h
    refine ⟨_, pss_one (ps_ret (pe_callB call_len_seq (by rfl) T.len PySem.boot_len (pa_cons (pe_lock (pe_lc (own := [("number", 1)]) rfl scS3.nd (pi_keys (pe_fld (pv 0) rfl)) blkS3
      (fun _ _ _ _ _ => pg_name (i := 1) scS3.nd rfl (Or.inl rfl)) (fun _ _ _ _ _ => pts_one (pt_val (pm D2 hr (pv 0) (pa_cons (pv 1) pa_nil)))) (fun _ _ _ _ _ => pv 1))) pa_nil))), ?_⟩
    have npd : p ≠ L.d := gne R.gp R.gd (by decide)
    refine ⟨L.d, _, R.hd, trivial, fun od => ?_⟩
    refine ⟨_, rfl, p, Z.S, L.dx, _, _, rfl, (by rw [upd_ne npd]; exact R.hp), T.cS, T.nS _ (by decide +kernel), sl_exchanges _ _ _ _, L.d, od, rfl, .inl ⟨_, upd_same, fun D hD => ?_⟩⟩
    obtain ⟨nDd, hD⟩ := upd_none hD
    have hDp : p ≠ D := ne_of_none R.hp hD
    refine ⟨fun i m H' => m = (kvs L).length - i ∧ i ≤ (kvs L).length ∧ H' = upd (upd H L.d (.frz od (.dK (kvs L)))) D (.lst (iv ((L.ord.take i).filter s.own))), ⟨_, rfl, Nat.zero_le _, rfl⟩, ?_⟩
    rintro i m H' ⟨rfl, hi, rfl⟩
    have hz : (upd (upd H L.d (.frz od (.dK (kvs L)))) D (.lst (iv ((L.ord.take i).filter s.own)))) L.d = some (.frz od (.dK (kvs L))) := by rw [upd_ne nDd.symm, upd_same]
    by_cases hlt : i < (kvs L).length
    · refine .inr ⟨⟨hz, hlt⟩, fun H2 => H2 = upd (upd H L.d (.frz od (.dK (kvs L)))) D (.lst (iv ((L.ord.take (i + 1)).filter s.own))), fun H2 e => ⟨(kvs L).length - (i + 1), by omega, rfl, hlt, e⟩, ?_⟩
      rintro x H2 ⟨rfl, k, v, hkv, rfl⟩
      have hlo : i < L.ord.length := by rw [kvs_len] at hlt; exact hlt
      have ek : k = Sum.inl ((L.ord[i] : Nat) : Int) := by
        unfold kvs at hkv
        rw [List.getElem?_map, List.getElem?_eq_getElem hlo] at hkv
        exact (congrArg Prod.fst (Option.some.inj hkv)).symm
      subst ek
      have et : L.ord.take (i + 1) = L.ord.take i ++ [L.ord[i]] := by rw [List.take_add_one, List.getElem?_eq_getElem hlo]; rfl
      refine ⟨rfl, ?_⟩
      refine ⟨_, rfl, p, L.dx, _, rfl, (by rw [upd_ne hDp, upd_ne npd]; exact R.hp), sl_m2 _ _ _ _, _, rfl, p, L.dx, L.d, L.l, L.c, L.ord[i], s, rfl, (by rw [upd_ne hDp, upd_ne npd]; exact R.hp), s.own L.ord[i], rfl, ?_⟩
      cases ho : s.own L.ord[i] with
      | true =>
        refine iteT ?_
        refine ⟨_, rfl, _, upd_same, ?_, ?_⟩
        · rw [iv_len]
          refine Nat.lt_of_le_of_lt (List.length_filter_le _ _) (small1000 ?_)
          rw [List.length_take, R.ordLen]
          omega
        · rw [upd2, et, List.filter_append, List.filter_cons, ho]
          simp [iv]
          rfl
      | false =>
        refine iteF ?_
        rw [et, List.filter_append, List.filter_cons, ho]
        simp
    · have e : i = (kvs L).length := by omega
      subst e
      refine .inl ⟨⟨hz, Nat.le_refl _⟩, hz, D, _, rfl, .inl (SqL.of (by rw [upd_ne nDd, upd_same])), ?_⟩
      have em : ((iv ((L.ord.take (kvs L).length).filter s.own)).length : Int) = (s.mine : Int) := by
        rw [iv_len, kvs_len, List.take_length, mine_ids, filter_perm_len R.ord]
      rw [em]
      refine q _ fun b o e => ?_
      by_cases z : b = L.d
      · rw [z, R.hd] at e
        rw [z, upd_same]
        exact e
      · rw [upd_ne z, upd_ne (ne_of_none e hD), upd_ne z]; exact e
theorem scS4 : FnScope ["self", "size"] ["self", "size"] (defScope sS4) := ⟨rfl, rfl, rfl, by decide +kernel, rfl, by decide +kernel, by decide +kernel⟩
theorem ok_s4 {f : Addr} {fd : FuncData} (F : Fun K "give_back" "Side.give_back" sS4 f fd) (T : Txt K mg Z) (DC : Def P w K mg base 3 "credit_frame" ["number", "more"] spCF) : FnOk P w K mg base CX0 4 f fd ["self", "size"] (spS4 Z) := by
  refine F.ok scS4 (fun vs H Q E h => ?_) (fun cdv A outer s0 H vs Q E hr h => ?_)
  · obtain ⟨p, n, s, L, rfl, _⟩ := h; rfl
  · obtain ⟨p, n, s, L, rfl, R, hf, q⟩ := h
    have c1 := T.con ("OWED_OF_ALL_MOST", 32768) (by decide +kernel)
    have c2 := T.con ("OF_ALL", 0) (by decide +kernel)
    refine ⟨_, pss_cons (ps_fldaug (pv 0) (pv 1) in_add) (pss_one (ps_if (pt_cmpR op_ge (pe_fld (pv 0) rfl) (pc c1) (nomark _))
      (pss_cons (ps_fldaug (pv 0) (pe_fld (pv 0) rfl) in_add)
      (pss_cons (ps_expr (pappend (pe_fld (pv 0) rfl) (pa_cons (pd DC hr (pa_cons (pc c2) (pa_cons (pe_fld (pv 0) rfl) pa_nil))) pa_nil)))
      (pss_one (ps_fld (pv 0) pe_int rfl)))) pss_nil)), ?_⟩
    have N := Now.of R
    refine ⟨_, rfl, p, Z.S, L.dx, _, _, rfl, R.hp, T.cS, T.nS _ (by decide +kernel), sl_owed _ _ _ _, _, rfl, _, _, rfl, rfl, _, _, R.hp, small_s _ _ _ _, ?_⟩
    rw [sp_owed (n := s.owed + n) (h := ?hh)]
    case hh => rfl
    have N1 := N.ws (t := { s with owed := s.owed + n }) rfl rfl
    refine ⟨_, rfl, p, Z.S, L.dx, _, _, rfl, N1.rep.hp, T.cS, T.nS _ (by decide +kernel), sl_owed _ _ _ _, _, _, rfl, rfl, _, rfl, ?_⟩
    refine ite2 (fun hc => ?_) (fun hc => ?_)
    · have hc : (32768 : Int) ≤ (s.owed : Int) + (n : Int) := of_decide_eq_true hc
      refine ⟨_, rfl, p, Z.S, L.dx, _, _, rfl, N1.rep.hp, T.cS, T.nS _ (by decide +kernel), sl_left _ _ _ _, _, rfl, p, Z.S, L.dx, _, _, rfl, N1.rep.hp, T.cS, T.nS _ (by decide +kernel), sl_owed _ _ _ _, _, _, rfl, rfl, _, _, N1.rep.hp, small_s _ _ _ _, ?_⟩
      rw [sp_left (n := s.left + (s.owed + n)) (h := ?hh)]
      case hh => rfl
      have N2 := N1.ws (t := { s with owed := s.owed + n, left := s.left + (s.owed + n) }) rfl rfl
      refine ⟨_, rfl, p, Z.S, L.dx, _, _, rfl, N2.rep.hp, T.cS, T.nS _ (by decide +kernel), sl_first _ _ _ _, .inl ⟨rfl, _, SqL.of N2.rep.hl⟩, _, rfl, p, Z.S, L.dx, _, _, rfl, N2.rep.hp, T.cS, T.nS _ (by decide +kernel), sl_owed _ _ _ _, 0, s.owed + n, rfl, fun H' a S hn ha => ?_⟩
      have N3 := N2.same S
      refine ⟨L.l, _, _, rfl, rfl, N3.rep.hl, ?_, ?_⟩
      · rw [List.length_map, R.faLen]
        exact Nat.lt_trans hf (by decide)
      have N4 := N3.say ha (N2.rep.free hn) (N2.ext.new hn)
      refine ⟨_, rfl, p, Z.S, _, _, rfl, N4.rep.hp, T.cS, T.nS _ (by decide +kernel), small_s _ _ _ _, ?_⟩
      rw [sp_owed (n := 0) (h := ?hh)]
      case hh => rfl
      have N5 := N4.ws (t := ({ s with owed := 0, left := s.left + (s.owed + n) } : State).say (Sq01.creditFrame 0 (s.owed + n))) rfl rfl
      have e : s.back n = (({ s with owed := 0, left := s.left + (s.owed + n) } : State).say (Sq01.creditFrame 0 (s.owed + n))) := by
        unfold State.back
        dsimp only
        exact if_neg (by show ¬ 2 * (s.owed + n) < 65536; omega)
      rw [e] at q
      exact q _ _ N5
    · have hc : ¬ (32768 : Int) ≤ (s.owed : Int) + (n : Int) := fun z => hc (decide_eq_true z)
      have e : s.back n = { s with owed := s.owed + n } := by
        unfold State.back
        dsimp only
        exact if_pos (by show 2 * (s.owed + n) < 65536; omega)
      rw [e] at q
      exact q _ _ N1
theorem scS5 : FnScope ["self", "number", "lost"] ["self", "number"] (defScope sS5) := ⟨rfl, rfl, rfl, by decide +kernel, rfl, by decide +kernel, by decide +kernel⟩
theorem ok_s5 {f : Addr} {fd : FuncData} (F : Fun K "lose" "Side.lose" sS5 f fd) (T : Txt K mg Z) (D4 : Mdef P w K mg base 4 Z.S "give_back" ["self", "size"] (spS4 Z)) : FnOk P w K mg base CX0 5 f fd ["self", "number"] (spS5 Z) := by
  refine F.ok scS5 (fun vs H Q E h => ?_) (fun cdv A outer s0 H vs Q E hr h => ?_)
  · obtain ⟨p, i, s, L, x, rfl, _⟩ := h; rfl
  · obtain ⟨p, i, s, L, x, rfl, R, hf, hx, q⟩ := h
    obtain ⟨hm, hid⟩ := find_some hx
    subst hid
    have Ex := R.ex x hm
    refine ⟨_, pss_cons (ps_set (i := 2) scS5.nd rfl (Or.inl rfl) (pe_dpop1 (pe_fld (pv 0) rfl) (pv 1) ⟨rfl, rfl, rfl, rfl⟩))
      (pss_one (ps_expr (pm D4 hr (pv 0) (pa_cons (pe_callB call_len_seq (by rfl) T.len PySem.boot_len (pa_cons (pe_fld (pv 2) rfl) pa_nil)) pa_nil)))), ?_⟩
    refine ⟨_, rfl, p, Z.S, L.dx, _, _, rfl, R.hp, T.cS, T.nS _ (by decide +kernel), sl_exchanges _ _ _ _, L.d, rfl, .inl ⟨_, .inl R.hd⟩, _, rfl, _, Sum.inl (x.id : Int), _, R.hd, rfl, R.at_some hx, ?_⟩
    have N1 : Now Z p H L _ (s.drop x.id) { L with ord := L.ord.filter (· != x.id) } := ⟨R.drops x.id, Ext.trans (Ext.own R.gd) (fun b o e g => ⟨e, g⟩), rfl⟩
    obtain ⟨dx, hob⟩ := Ex.ob
    have n1 : L.xa x.id ≠ L.d := gne Ex.gx R.gd (by simp)
    have n2 : L.ua x.id ≠ L.d := gne Ex.gu R.gd (by simp)
    refine ⟨_, rfl, p, L.dx, _, rfl, N1.rep.hp, sl_m4 _ _ _ _, _, rfl, L.xa x.id, Z.X, dx, _, _, rfl, (by rw [upd_ne n1]; exact hob), T.cX, T.nX _ (by decide +kernel), xl_untaken _ _ _, L.ua x.id, _, rfl, .inl (SqL.of (by rw [upd_ne n2]; exact Ex.ut)), p, x.got.length, s.drop x.id, _, ?_, N1.rep, hf, fun H' L' N' => q _ _ (N1.trans N')⟩
    rw [iv_len]
    rfl
theorem scS6 : FnScope ["self", "number"] ["self", "number"] (defScope sS6) := ⟨rfl, rfl, rfl, by decide +kernel, rfl, by decide +kernel, by decide +kernel⟩
theorem ok_s6 {f : Addr} {fd : FuncData} (F : Fun K "drop_if_done" "Side.drop_if_done" sS6 f fd) (T : Txt K mg Z) (D2 : Mdef P w K mg base 1 Z.X "nothing_to_do" ["self"] (spX2 Z)) : FnOk P w K mg base CX0 2 f fd ["self", "number"] (spS6 Z) := by
  refine F.ok scS6 (fun vs H Q E h => ?_) (fun cdv A outer s0 H vs Q E hr h => ?_)
  · obtain ⟨p, i, s, L, x, rfl, _⟩ := h; rfl
  · obtain ⟨p, i, s, L, x, rfl, R, srt, hx, q⟩ := h
    obtain ⟨hm, hid⟩ := find_some hx
    subst hid
    have Ex := R.ex x hm
    obtain ⟨dx, hob⟩ := Ex.ob
    have hu := hu_of hr
    refine ⟨_, pss_one (ps_if (pt_val (pm0 D2 hr (pe_dget hu (pe_fld (pv 0) rfl) (pv 1) (fun _ _ => rfl)))) (pss_one (ps_expr (pe_dpop1 (pe_fld (pv 0) rfl) (pv 1) ⟨rfl, rfl, rfl, rfl⟩))) pss_nil), ?_⟩
    have g : DGet H L.d (kV (Sum.inl (x.id : Int))) (some (V.ref (L.xa x.id))) := by rw [← R.at_some hx]; exact DGet.k R.hd
    refine ⟨_, rfl, p, Z.S, L.dx, _, _, rfl, R.hp, T.cS, T.nS _ (by decide +kernel), sl_exchanges _ _ _ _, _, rfl, L.d, _, rfl, g, L.xa x.id, dx, _, rfl, hob, xl_nothing _ _ _, L.xa x.id, dx, x, _, _, rfl, hob, _, rfl, ?_⟩
    have e : s.tidy x.id = if (x.sent && x.done_) = true then s.drop x.id else s := by
      unfold State.tidy
      rw [hx]
      dsimp only
      by_cases z : x.sent = true ∧ x.done_ = true
      · rw [if_pos z, if_pos (by rw [z.1, z.2]; rfl)]
      · rw [if_neg z, if_neg (by rw [Bool.and_eq_true]; exact z)]
    rw [e] at q
    refine ite2 (fun hc => ?_) (fun hc => ?_)
    · rw [if_pos hc] at q
      exact ⟨_, rfl, p, Z.S, L.dx, _, _, rfl, R.hp, T.cS, T.nS _ (by decide +kernel), sl_exchanges _ _ _ _, L.d, rfl, .inl ⟨_, .inl R.hd⟩, _, rfl, _, Sum.inl (x.id : Int), _, R.hd, rfl, R.at_some hx,
        q _ _ ⟨R.drops x.id, Ext.trans (Ext.own R.gd) (fun b o e g => ⟨e, g⟩), rfl⟩⟩
    · rw [if_neg hc] at q
      exact q _ _ (Now.of R)
theorem scS7 : FnScope ["self", "number"] ["self"] (defScope sS7) := ⟨rfl, rfl, rfl, by decide +kernel, rfl, by decide +kernel, by decide +kernel⟩
theorem keys_kvs (L : Lay) : DKeys (kvs L) (L.ord.map fun (n : Nat) => (n : Int)) := by
  unfold DKeys kvs
  rw [List.map_map, List.map_map]
  rfl
theorem iv_ints (l : List Nat) : (l.map fun (n : Nat) => (n : Int)).map V.int = iv l := by
  unfold iv
  rw [List.map_map]
  rfl
theorem iv_at {l : List Nat} {i : Nat} {y : V} (h : (iv l)[i]? = some y) : ∃ n, l[i]? = some n ∧ y = V.int (n : Int) := by
  unfold iv at h
  rw [List.getElem?_map] at h
  cases e : l[i]? with
  | none => rw [e] at h; cases h
  | some n => rw [e] at h; exact ⟨n, rfl, (Option.some.inj h).symm⟩
theorem fold_ids : ∀ (l : List Nat) (s : State), (ids s).Pairwise (· < ·) → (ids (l.foldl (fun (t : State) i => t.tidy i) s)).Pairwise (· < ·)
  | [], s, h => h
  | i :: l, s, h => fold_ids l _ (srt_tidy h i)
theorem fold_find : ∀ (l : List Nat) (s : State) (j : Nat), (ids s).Pairwise (· < ·) → j ∉ l → (l.foldl (fun (t : State) i => t.tidy i) s).find j = s.find j
  | [], s, j, _, _ => rfl
  | i :: l, s, j, h, n => by
    rw [List.foldl_cons, fold_find l _ j (srt_tidy h i) (fun z => n (List.mem_cons_of_mem _ z)), tidy_find h (fun z => n (by rw [z]; exact List.mem_cons_self))]
theorem ok_s7 {f : Addr} {fd : FuncData} (F : Fun K "drop_done" "Side.drop_done" sS7 f fd) (T : Txt K mg Z) (D6 : Mdef P w K mg base 2 Z.S "drop_if_done" ["self", "number"] (spS6 Z)) : FnOk P w K mg base CX0 3 f fd ["self"] (spS7 Z) := by
  refine F.ok scS7 (fun vs H Q E h => ?_) (fun cdv A outer s0 H vs Q E hr h => ?_)
  · obtain ⟨p, s, L, rfl, _⟩ := h; rfl
  · obtain ⟨p, s, L, rfl, R, ok, q⟩ := h
    refine ⟨_, pss_one (ps_for PassesOwn.never rfl (pi_list (pe_callTy (call_listD rfl) (by rfl) T.list PyProof.Rows.boot_list (pa_cons (pe_fld (pv 0) rfl) pa_nil))) (pg_name (i := 1) scS7.nd rfl (Or.inl rfl))
      (pss_one (ps_expr (pm D6 hr (pv 0) (pa_cons (pv 1) pa_nil))))), ?_⟩
    refine ⟨_, rfl, p, Z.S, L.dx, _, _, rfl, R.hp, T.cS, T.nS _ (by decide +kernel), sl_exchanges _ _ _ _, L.d, _, _, rfl, R.hd, keys_kvs L, fun a ha => ?_⟩
    have N1 : Now Z p H L (upd H a (.lst (iv L.ord))) s L := (Now.of R).new ha
    rw [iv_ints]
    refine ⟨a, rfl, ⟨_, SqL.of upd_same⟩, for_list (K := K) (a := a) (xs := iv L.ord) (fun i σ H' => ∃ (v : Option V) (L' : Lay), σ = [some (.ref p), v] ∧ H' a = some (.lst (iv L.ord)) ∧ L'.G a = none ∧ Now Z p H L H' ((L.ord.take i).foldl (fun (t : State) i => t.tidy i) s) L')
      ⟨none, L, rfl, upd_same, R.free ha, N1⟩ (fun i σ H' _ ⟨_, _, _, h1, _⟩ => SqL.of h1) ?_ ?_⟩
    · rintro i y σ H' hi ⟨v, L', rfl, h1, h2, N⟩
      obtain ⟨n, hn, rfl⟩ := iv_at hi
      have hmem : n ∈ ids s := R.ord.mem_iff.mp (List.mem_of_getElem? hn)
      have nd : L.ord.Nodup := R.ord.nodup_iff.mpr (ok.srt.imp fun h => Nat.ne_of_lt h)
      have hno : n ∉ L.ord.take i := fun z => by
        obtain ⟨j, ej⟩ := List.mem_iff_getElem?.mp z
        have hj := (List.getElem?_eq_some_iff.mp ej).1
        rw [List.length_take] at hj
        rw [List.getElem?_take_of_lt (by omega)] at ej
        exact absurd (nd_ix nd ej hn) (by omega)
      obtain ⟨x, hx⟩ : ∃ x, s.find n = some x := by
        obtain ⟨x, hx, e⟩ := List.mem_map.mp hmem
        exact ⟨x, by rw [← e]; exact find_of_mem ok.srt hx⟩
      refine ⟨_, rfl, p, L'.dx, _, rfl, N.rep.hp, sl_m6 _ _ _ _, _, rfl, p, n, _, L', x, rfl, N.rep, fold_ids _ _ ok.srt, by rw [fold_find _ _ _ ok.srt hno]; exact hx, fun H2 L2 N2 => ?_⟩
      have e2 : (L.ord.take (i + 1)).foldl (fun (t : State) i => t.tidy i) s = ((L.ord.take i).foldl (fun (t : State) i => t.tidy i) s).tidy n := by
        rw [List.take_add_one, hn, List.foldl_append]; rfl
      obtain ⟨k1, k2⟩ := N2.ext a _ h1 h2
      refine ⟨_, L2, rfl, k1, k2, ?_⟩
      rw [e2]
      exact N.trans N2
    · rintro σ H' ⟨v, L', rfl, h1, h2, N⟩
      rw [iv_len, List.take_length, tidy_ids ok R.ord] at N
      exact q _ _ N
theorem split_len (s : State) : s.exchanges.length = s.mine + s.theirs := by
  unfold State.mine State.theirs
  induction s.exchanges with
  | nil => rfl
  | cons x l ih =>
    rw [List.filter_cons, List.filter_cons, List.length_cons, ih]
    cases s.own x.id <;> simp <;> omega
theorem scS8 : FnScope ["self"] ["self"] (defScope sS8) := ⟨rfl, rfl, rfl, by decide +kernel, rfl, by decide +kernel, by decide +kernel⟩
theorem ok_s8 {f : Addr} {fd : FuncData} (F : Fun K "theirs_there" "Side.theirs_there" sS8 f fd) (T : Txt K mg Z) (D3 : Mdef P w K mg base 2 Z.S "ours_there" ["self"] (spS3 Z)) : FnOk P w K mg base CX0 3 f fd ["self"] (spS8 Z) := by
  refine F.ok scS8 (fun vs H Q E h => ?_) (fun cdv A outer s0 H vs Q E hr h => ?_)
  · obtain ⟨p, s, L, rfl, _⟩ := h; rfl
  · obtain ⟨p, s, L, rfl, R, hlen, q⟩ := h
    refine ⟨_, pss_one (ps_ret (pe_op op_sub (pe_callB call_lenD (by rfl) T.len PySem.boot_len (pa_cons (pe_fld (pv 0) rfl) pa_nil)) (pm0 D3 hr (pv 0)))), ?_⟩
    refine ⟨_, rfl, p, Z.S, L.dx, _, _, rfl, R.hp, T.cS, T.nS _ (by decide +kernel), sl_exchanges _ _ _ _, L.d, _, rfl, R.hd, _, rfl, p, L.dx, _, rfl, R.hp, sl_m3 _ _ _ _, p, s, L, rfl, R, hlen, fun H' S => ⟨_, _, rfl, rfl, ?_⟩⟩
    have e : (((kvs L).length : Nat) : Int) - (s.mine : Int) = (s.theirs : Int) := by
      rw [kvs_len, R.ordLen, split_len]; omega
    show Q (V.int ((((kvs L).length : Nat) : Int) - (s.mine : Int))) H'
    rw [e]
    exact q H' S
theorem scS9 : FnScope ["self", "number"] ["self", "number"] (defScope sS9) := ⟨rfl, rfl, rfl, by decide +kernel, rfl, by decide +kernel, by decide +kernel⟩
theorem ok_s9 {f : Addr} {fd : FuncData} (F : Fun K "is_or_was" "Side.is_or_was" sS9 f fd) (T : Txt K mg Z) (D2 : Mdef P w K mg base 1 Z.S "is_ours" ["self", "number"] (spS2 Z)) : FnOk P w K mg base CX0 2 f fd ["self", "number"] (spS9 Z) := by
  refine F.ok scS9 (fun vs H Q E h => ?_) (fun cdv A outer s0 H vs Q E hr h => ?_)
  · obtain ⟨p, dx, d, l, c, i, s, rfl, _⟩ := h; rfl
  · obtain ⟨p, dx, d, l, c, i, s, rfl, hp, ok, hi, q⟩ := h
    refine ⟨_, pss_one (ps_ret (pe_cmpR op_lt (pv 1) (pe_ifExp (pt_val (pm D2 hr (pv 0) (pa_cons (pv 1) pa_nil))) (pe_fld (pv 0) rfl) (pe_fld (pv 0) rfl)) (nomark _))), ?_⟩
    refine ⟨_, rfl, _, rfl, p, dx, _, rfl, hp, sl_m2 _ _ _ _, _, rfl, p, dx, d, l, c, i, s, rfl, hp, s.own i, rfl, ?_⟩
    unfold isOrWas at q
    cases ho : s.own i with
    | true =>
      rw [ho, if_pos rfl] at q
      refine iteT ⟨_, rfl, p, Z.S, dx, _, _, rfl, hp, T.cS, T.nS _ (by decide +kernel), sl_ask _ _ _ _, _, _, rfl, rfl, ?_⟩
      have e : decide ((i : Int) < (s.next : Int)) = decide (i < s.next) := by
        by_cases z : i < s.next
        · rw [decide_eq_true z, decide_eq_true (by omega)]
        · rw [decide_eq_false z, decide_eq_false (by omega)]
      show Q (V.bl (decide ((i : Int) < (s.next : Int)))) H
      rw [e]; exact q
    | false =>
      rw [ho, if_neg Bool.false_ne_true] at q
      refine iteF ⟨_, rfl, p, Z.S, dx, _, _, rfl, hp, T.cS, T.nS _ (by decide +kernel), sl_come _ _ _ _, _, _, rfl, rfl, ?_⟩
      have e : decide ((i : Int) < (after s : Int)) = decide (i ≤ s.greatest) := by
        have w := was_after ok ho hi
        by_cases z : i ≤ s.greatest
        · have z2 := w.mp z
          rw [decide_eq_true z, decide_eq_true (by omega)]
        · have z2 : ¬ i < after s := fun y => z (w.mpr y)
          rw [decide_eq_false z, decide_eq_false (by omega)]
      show Q (V.bl (decide ((i : Int) < (after s : Int)))) H
      rw [e]; exact q
theorem scS10 : FnScope ["self"] ["self"] (defScope sS10) := ⟨rfl, rfl, rfl, by decide +kernel, rfl, by decide +kernel, by decide +kernel⟩
theorem ok_s10 {f : Addr} {fd : FuncData} (F : Fun K "greatest_that_came" "Side.greatest_that_came" sS10 f fd) (T : Txt K mg Z) : FnOk P w K mg base CX0 1 f fd ["self"] (spS10 Z) := by
  refine F.ok scS10 (fun vs H Q E h => ?_) (fun cdv A outer s0 H vs Q E hr h => ?_)
  · obtain ⟨p, dx, d, l, c, s, rfl, _⟩ := h; rfl
  · obtain ⟨p, dx, d, l, c, s, rfl, hp, ok, q⟩ := h
    refine ⟨_, pss_one (ps_ret (pe_callB (call_max2 rfl) (by rfl) T.max PyProof.Rows.boot_max (pa_cons (pe_op op_sub (pe_fld (pv 0) rfl) pe_int) (pa_cons pe_int pa_nil)))), ?_⟩
    refine ⟨_, rfl, p, Z.S, dx, _, _, rfl, hp, T.cS, T.nS _ (by decide +kernel), sl_come _ _ _ _, _, _, rfl, rfl, _, _, rfl, ?_⟩
    have e : (if (0 : Int) > (after s : Int) - 2 then (0 : Int) else (after s : Int) - 2) = (s.greatest : Int) := by
      unfold after
      by_cases z : s.greatest = 0
      · rw [if_pos z, z]
        split <;> split <;> simp_all
      · rw [if_neg z, if_neg (by omega)]
        omega
    show Q (V.int (if (0 : Int) > (after s : Int) - 2 then (0 : Int) else (after s : Int) - 2)) H
    rw [e]
    exact q
theorem scS11 : FnScope ["self"] ["self"] (defScope sS11) := ⟨rfl, rfl, rfl, by decide +kernel, rfl, by decide +kernel, by decide +kernel⟩
theorem ok_s11 {f : Addr} {fd : FuncData} (F : Fun K "die" "Side.die" sS11 f fd) (T : Txt K mg Z) : FnOk P w K mg base CX0 1 f fd ["self"] (spS11 Z) := by
  refine F.ok scS11 (fun vs H Q E h => ?_) (fun cdv A outer s0 H vs Q E hr h => ?_)
  · obtain ⟨p, s, L, rfl, _⟩ := h; rfl
  · obtain ⟨p, s, L, rfl, R, q⟩ := h
    refine ⟨_, pss_cons (ps_fld (pv 0) pe_bl rfl) (pss_cons (ps_fld (pv 0) pe_dnewK rfl) (pss_cons (ps_fld (pv 0) (pe_lst pa_nil) rfl) (pss_one (ps_fld (pv 0) (pe_lst pa_nil) rfl)))), ?_⟩
    refine ⟨_, rfl, p, Z.S, L.dx, _, rfl, R.hp, T.cS, T.nS _ (by decide +kernel), small_s _ _ _ _, ?_⟩
    rw [sp_dead]
    intro d hd
    obtain ⟨ndp, hd⟩ := upd_none hd
    refine ⟨_, rfl, p, Z.S, L.dx, _, rfl, (by rw [upd_ne ndp.symm, upd_same]), T.cS, T.nS _ (by decide +kernel), small_s _ _ _ _, ?_⟩
    rw [sp_exchanges]
    refine ⟨Nat.zero_le _, fun l hl => ?_⟩
    obtain ⟨nlp, hl⟩ := upd_none hl
    obtain ⟨nld, hl⟩ := upd_none hl
    obtain ⟨_, hl⟩ := upd_none hl
    refine ⟨_, rfl, p, Z.S, L.dx, _, rfl, (by rw [upd_ne nlp.symm, upd_same]), T.cS, T.nS _ (by decide +kernel), small_s _ _ _ _, ?_⟩
    rw [sp_first]
    refine ⟨Nat.zero_le _, fun c hc => ?_⟩
    obtain ⟨ncp, hc⟩ := upd_none hc
    obtain ⟨ncl, hc⟩ := upd_none hc
    obtain ⟨_, hc⟩ := upd_none hc
    obtain ⟨ncd, hc⟩ := upd_none hc
    obtain ⟨_, hc⟩ := upd_none hc
    refine ⟨_, rfl, p, Z.S, L.dx, _, rfl, (by rw [upd_ne ncp.symm, upd_same]), T.cS, T.nS _ (by decide +kernel), small_s _ _ _ _, ?_⟩
    rw [sp_unread]
    have R1 : Rep Z (upd (upd (upd H d (.dK [])) l (.lst [])) c (.lst [])) p s L := ((R.fresh hd).fresh (by rw [upd_ne nld]; exact hl)).fresh (by rw [upd_ne ncl, upd_ne ncd]; exact hc)
    have e : ∀ k, upd (upd (upd (upd (upd (upd (upd H p (.ins Z.S L.dx (sF { s with dead := true } L.d L.l L.c))) d (.dK [])) p (.ins Z.S L.dx (sF { s with dead := true } d L.l L.c))) l (.lst [])) p (.ins Z.S L.dx (sF { s with dead := true } d l L.c))) c (.lst [])) p (.ins Z.S L.dx (sF { s with dead := true } d l c)) =
        upd (upd (upd (upd H d (.dK [])) l (.lst [])) c (.lst [])) p (.ins Z.S L.dx (sF (s.kill k).1 d l c)) := by
      intro k
      funext b
      unfold upd
      by_cases h1 : b = p
      · rw [if_pos h1, if_pos h1]; rfl
      · simp only [if_neg h1]
    rw [e 0]
    refine q 0 _ _ (R1.kills (k := 0) ?_ ?_ upd_same (R.free hd) (R.free hl) (R.free hc) ncl.symm) fun b o eb gb => ⟨?_, ?_⟩
    · rw [upd_ne ncd.symm, upd_ne nld.symm, upd_same]
    · rw [upd_ne ncl.symm, upd_same]
    · rw [upd_ne (fun z => by rw [z, R.gp] at gb; cases gb), upd_ne (ne_of_none eb hc), upd_ne (ne_of_none eb hl), upd_ne (ne_of_none eb hd)]; exact eb
    · show (((L.tag d .dict).tag l .first).tag c .unread).G b = none
      rw [tag_ne (ne_of_none eb hc), tag_ne (ne_of_none eb hl), tag_ne (ne_of_none eb hd)]; exact gb
end
end Os
set_option linter.all false
set_option maxRecDepth 100000
namespace Os
open PySem PySem.Spec PyProof.Rows L2
open Sq01 (State Exchange Bytes)
abbrev sAsk : Stmt := top 30
abbrev sPut : Stmt := top 31
abbrev sTake : Stmt := top 32
abbrev sOwe : Stmt := top 33
abbrev sStop : Stmt := top 34
/-- an answer in a new list, the side as it is then -/
def Answers (Z : Cs) (p : Addr) (H : Hp) (L : Lay) (r : State × Sq01.Ans) (Q : VK) : Prop := ∀ H' L' q, Rep Z H' p r.1 L' → Ext H L H' L' → New H L q → H' q = some (.lst (.int r.2.value :: iv r.2.out)) → L'.G q = none → Q (.ref q) H'
def spAsk (Z : Cs) : Sp := fun vs H Q _ => ∃ (p : Addr) (s : State) (L : Lay), vs = [.ref p] ∧ Rep Z H p s L ∧ Ok s ∧ Answers Z p H L (Sq01.step s .ask) Q
def spPut (Z : Cs) : Sp := fun vs H Q _ => ∃ (p b : Addr) (i e : Nat) (bs : List Nat) (s : State) (L : Lay), vs = [.ref p, .int i, .int e, .ref b] ∧ Rep Z H p s L ∧ Ok s ∧ H b = some (.lst (iv bs)) ∧ L.G b = none ∧ bs.length ≤ 100000 ∧ Answers Z p H L (Sq01.step s (.put i e bs)) Q
def spOwe (Z : Cs) : Sp := fun vs H Q _ => ∃ (p : Addr) (i n : Nat) (s : State) (L : Lay) (x : Exchange), vs = [.ref p, .int i, .int n] ∧ Rep Z H p s L ∧ (ids s).Pairwise (· < ·) ∧ s.first.length < 9000000 ∧ s.find i = some x ∧ Got Z p H L (s.backOf x n) (Q .non)
def spTake (Z : Cs) : Sp := fun vs H Q _ => ∃ (p : Addr) (i m : Nat) (s : State) (L : Lay), vs = [.ref p, .int i, .int m] ∧ Rep Z H p s L ∧ Ok s ∧ s.first.length < 9000000 ∧ Answers Z p H L (Sq01.step s (.take i m)) Q
def spStop (Z : Cs) : Sp := fun vs H Q _ => ∃ (p : Addr) (i w : Nat) (s : State) (L : Lay), vs = [.ref p, .int i, .int w] ∧ Rep Z H p s L ∧ Ok s ∧ s.first.length < 9000000 ∧ Answers Z p H L (Sq01.step s (.halt_ i w)) Q
theorem Ok.few {s : State} (h : Ok s) : s.exchanges.length ≤ 1000 := by
  have e : s.exchanges.length = s.mine + s.theirs := by
    unfold State.mine State.theirs
    induction s.exchanges with
    | nil => rfl
    | cons x l ih =>
      rw [List.filter_cons, List.filter_cons, List.length_cons, ih]
      cases s.own x.id <;> simp <;> omega
  have := h.mine
  have := h.theirs
  omega
section
variable {P : Program} {w : World} {K : PySem.W.Frag} {mg : Str → Option Value} {base : Heap} {Z : Cs}
/-- a refusal leaves all as it was -/
theorem Answers.no {p : Addr} {H : Hp} {L : Lay} {s : State} {r : State × Sq01.Ans} {Q : VK} {n : Nat} (k : Answers Z p H L r Q) (R : Rep Z H p s L) (e : r = (s, Sq01.says (-(n : Int)))) (q : Addr) (hq : H q = none) : Q (.ref q) (upd H q (.lst [.int (-(n : Int))])) := by
  subst e
  exact k _ L q (R.fresh hq) (Ext.fresh hq) (.of hq) upd_same (R.free hq)
theorem scAsk : FnScope ["side", "number"] ["side"] (defScope sAsk) := ⟨rfl, rfl, rfl, by decide +kernel, rfl, by decide +kernel, by decide +kernel⟩
theorem ok_ask {f : Addr} {fd : FuncData} (F : Fun K "ask" "ask" sAsk f fd) (T : Txt K mg Z) (DR : Def P w K mg base 1 "refused" ["why"] spRef) (D3 : Mdef P w K mg base 2 Z.S "ours_there" ["self"] (spS3 Z))
    (D1 : Mdef P w K mg base 3 Z.S "add_exchange" ["self", "number"] (spS1 Z)) : FnOk P w K mg base CX0 4 f fd ["side"] (spAsk Z) := by
  refine F.ok scAsk (fun vs H Q E h => ?_) (fun cdv A outer s0 H vs Q E hr h => ?_)
  · obtain ⟨p, s, L, rfl, _⟩ := h; rfl
  · obtain ⟨p, s, L, rfl, R, ok, q⟩ := h
    have c1 := T.con ("NUMBERS_BELOW", 4294967296) (by decide +kernel)
    have c2 := T.con ("NO_MORE", 6) (by decide +kernel)
    have c3 := T.con ("OURS_MOST", 64) (by decide +kernel)
    have c4 := T.con ("NO_ROOM", 5) (by decide +kernel)
    have hr1 : Room 1 _ := hr.mono (by decide)
    have hr2 : Room 2 _ := hr.mono (by decide)
    refine ⟨_, pss_cons (ps_if (PW.pt (pw_or (pt_val (pe_fld (pv 0) rfl)) (pw_or (pt_val (pe_fld (pv 0) rfl)) (pw_or1 (pt_cmpR op_ge (pe_fld (pv 0) rfl) (pc c1) (nomark _)))))) (pss_one (ps_ret (pd DR hr1 (pa_cons (pc c2) pa_nil)))) pss_nil)
      (pss_cons (ps_if (pt_cmpR op_ge (pm0 D3 hr2 (pv 0)) (pc c3) (nomark _)) (pss_one (ps_ret (pd DR hr1 (pa_cons (pc c4) pa_nil)))) pss_nil)
      (pss_cons (ps_set (i := 1) scAsk.nd rfl (Or.inl rfl) (pe_fld (pv 0) rfl))
      (pss_cons (ps_fldaug (pv 0) pe_int in_add)
      (pss_cons (ps_expr (pm D1 hr (pv 0) (pa_cons (pv 1) pa_nil)))
      (pss_one (ps_ret (pe_lst (pa_cons (pv 1) pa_nil)))))))), ?_⟩
    have no6 : (s.dead = true ∨ s.gone = true ∨ Sq01.WORD ≤ s.next) → Sq01.step s .ask = (s, Sq01.says (-((6 : Nat) : Int))) := fun h => if_pos h
    refine ⟨_, rfl, p, Z.S, L.dx, _, _, rfl, R.hp, T.cS, T.nS _ (by decide +kernel), sl_dead _ _ _ _, s.dead, rfl, ?_⟩
    cases hd : s.dead with
    | true =>
      refine iteT (iteT ?_)
      exact ⟨6, rfl, q.no R (no6 (.inl hd))⟩
    | false =>
      refine iteF ?_
      refine ⟨_, rfl, p, Z.S, L.dx, _, _, rfl, R.hp, T.cS, T.nS _ (by decide +kernel), sl_going _ _ _ _, s.gone, rfl, ?_⟩
      cases hg : s.gone with
      | true =>
        refine iteT (iteT ?_)
        exact ⟨6, rfl, q.no R (no6 (.inr (.inl hg)))⟩
      | false =>
        refine iteF ?_
        refine ⟨_, rfl, p, Z.S, L.dx, _, _, rfl, R.hp, T.cS, T.nS _ (by decide +kernel), sl_ask _ _ _ _, _, _, rfl, rfl, _, rfl, ?_⟩
        refine ite2 (fun hc => ?_) (fun hc => ?_)
        · have hc : (4294967296 : Int) ≤ (s.next : Int) := of_decide_eq_true hc
          exact ⟨6, rfl, q.no R (no6 (.inr (.inr (by show 2 ^ 32 ≤ s.next; omega))))⟩
        · have hc : ¬ (4294967296 : Int) ≤ (s.next : Int) := fun z => hc (decide_eq_true z)
          have n6 : ¬ (s.dead = true ∨ s.gone = true ∨ Sq01.WORD ≤ s.next) := by
            rintro (z | z | z)
            · rw [hd] at z; cases z
            · rw [hg] at z; cases z
            · have z : 2 ^ 32 ≤ s.next := z
              omega
          refine ⟨_, rfl, p, L.dx, _, rfl, R.hp, sl_m3 _ _ _ _, p, s, L, rfl, R, ok.few, fun H1 S1 => ?_⟩
          have R1 := R.same S1
          refine ⟨_, _, rfl, rfl, _, rfl, ?_⟩
          refine ite2 (fun hc2 => ?_) (fun hc2 => ?_)
          · have hc2 : (64 : Int) ≤ (s.mine : Int) := of_decide_eq_true hc2
            refine ⟨5, rfl, fun a ha => ?_⟩
            have e : Sq01.step s .ask = (s, Sq01.says (-5)) := (if_neg n6).trans (if_pos (show 64 ≤ s.mine by omega))
            rw [e] at q
            exact q _ L a (R1.fresh ha) ((Ext.same S1).trans (Ext.fresh ha)) ((Ext.same S1).new ha) upd_same (R1.free ha)
          · have hc2 : ¬ (64 : Int) ≤ (s.mine : Int) := fun z => hc2 (decide_eq_true z)
            have e : Sq01.step s .ask = ({ (s.open_ (Sq01.fresh s.next)) with next := s.next + 2 }, Sq01.says s.next) := (if_neg n6).trans (if_neg (show ¬ 64 ≤ s.mine by omega))
            rw [e] at q
            have N1 : Now Z p H L H1 s L := (Now.of R).same S1
            refine ⟨_, rfl, p, Z.S, L.dx, _, _, rfl, R1.hp, T.cS, T.nS _ (by decide +kernel), sl_ask _ _ _ _, ?_⟩
            refine ⟨_, rfl, p, Z.S, L.dx, _, _, rfl, R1.hp, T.cS, T.nS _ (by decide +kernel), sl_ask _ _ _ _, _, _, rfl, rfl, _, _, R1.hp, small_s _ _ _ _, ?_⟩
            rw [sp_ask (n := s.next + 2) (h := ?hh)]
            case hh => rfl
            have N2 := N1.ws (t := { s with next := s.next + 2 }) rfl rfl
            have hn : s.next ∉ ids s := fun hm => by
              have hk : s.own s.next = true := by unfold State.own; rw [ok.nx]; simp
              have := ok.ours _ hm hk
              omega
            refine ⟨_, rfl, p, L.dx, _, rfl, N2.rep.hp, sl_m1 _ _ _ _, _, rfl, p, s.next, _, L, rfl, N2.rep, hn, ok.few, fun H3 L3 R3 E3 => ?_⟩
            refine ⟨_, rfl, by show 1 ≤ sizeLine; decide, fun a ha => ?_⟩
            have E4 := N2.ext.trans E3
            exact q _ L3 a (R3.fresh ha) (E4.trans (Ext.fresh ha)) (E4.new ha) upd_same (R3.free ha)
theorem not_non (a : Addr) : decide (V.ref a = V.non) = false := decide_eq_false (fun z => nomatch z)
theorem scPut : FnScope ["side", "number", "last", "what", "exchange"] ["side", "number", "last", "what"] (defScope sPut) := ⟨rfl, rfl, rfl, by decide +kernel, rfl, by decide +kernel, by decide +kernel⟩
theorem ok_put {f : Addr} {fd : FuncData} (F : Fun K "put" "put" sPut f fd) (T : Txt K mg Z) (DR : Def P w K mg base 1 "refused" ["why"] spRef) : FnOk P w K mg base CX0 2 f fd ["side", "number", "last", "what"] (spPut Z) := by
  refine F.ok scPut (fun vs H Q E h => ?_) (fun cdv A outer s0 H vs Q E hr h => ?_)
  · obtain ⟨p, b, i, e, bs, s, L, rfl, _⟩ := h; rfl
  · obtain ⟨p, b, i, e, bs, s, L, rfl, R, ok, hb, gb, hbl, q⟩ := h
    have hu := hu_of hr
    have c1 := T.con ("BAD_ARGUMENT", 1) (by decide +kernel)
    have c2 := T.con ("NOT_THERE", 2) (by decide +kernel)
    have c3 := T.con ("NO_MORE", 6) (by decide +kernel)
    have c4 := T.con ("NO_ROOM", 5) (by decide +kernel)
    have c5 := T.con ("WAITING_MOST", 65536) (by decide +kernel)
    refine ⟨_, pss_cons (ps_if (pt_cmpR op_gt (pv 2) pe_int (nomark _)) (pss_one (ps_ret (pd DR hr (pa_cons (pc c1) pa_nil)))) pss_nil)
      (pss_cons (ps_set (i := 4) scPut.nd rfl (Or.inl rfl) (pe_dget1 hu (pe_fld (pv 0) rfl) (pv 1) ⟨rfl, rfl, rfl, rfl⟩))
      (pss_cons (ps_if (pt_cmp (pc_isN (pv 4))) (pss_one (ps_ret (pd DR hr (pa_cons (pc c2) pa_nil)))) pss_nil)
      (pss_cons (ps_if (pt_val (pe_fld (pv 4) rfl)) (pss_one (ps_ret (pd DR hr (pa_cons (pc c3) pa_nil)))) pss_nil)
      (pss_cons (ps_if (pt_cmpR op_gt (pe_op op_add (pe_callB call_len_seq (by rfl) T.len PySem.boot_len (pa_cons (pe_fld (pv 4) rfl) pa_nil)) (pe_callB call_len_seq (by rfl) T.len PySem.boot_len (pa_cons (pv 3) pa_nil))) (pc c5) (nomark _)) (pss_one (ps_ret (pd DR hr (pa_cons (pc c4) pa_nil)))) pss_nil)
      (pss_cons (ps_expr (pextend (pe_fld (pv 4) rfl) (pa_cons (pv 3) pa_nil)))
      (pss_cons (ps_fld (pv 4) (pe_cmpR op_eq (pv 2) pe_int (nomark _)) rfl)
      (pss_one (ps_ret (pe_lst (pa_cons (pe_callB call_len_seq (by rfl) T.len PySem.boot_len (pa_cons (pe_fld (pv 4) rfl) pa_nil)) pa_nil)))))))))), ?_⟩
    refine ⟨_, rfl, _, _, rfl, rfl, _, rfl, ?_⟩
    refine ite2 (fun hc => ?_) (fun hc => ?_)
    · have hc : (1 : Int) < (e : Int) := of_decide_eq_true hc
      exact ⟨1, rfl, q.no R (if_pos (by omega))⟩
    have hc : ¬ (1 : Int) < (e : Int) := fun z => hc (decide_eq_true z)
    have st : Sq01.step s (.put i e bs) = (match s.find i with
      | none => (s, Sq01.says (-2))
      | some x => if x.ended = true then (s, Sq01.says (-6)) else if Sq01.KEPT < x.out.length + bs.length then (s, Sq01.says (-5)) else (s.set { x with out := x.out ++ bs, ended := e == 1 }, Sq01.says ((x.out ++ bs).length))) := if_neg (by omega)
    refine ⟨_, rfl, p, Z.S, L.dx, _, _, rfl, R.hp, T.cS, T.nS _ (by decide +kernel), sl_exchanges _ _ _ _, L.d, rfl, .inl ⟨_, .inl R.hd⟩, _, rfl, _, DGet.k (k := Sum.inl (i : Int)) R.hd, ?_⟩
    cases hx : s.find i with
    | none =>
      rw [R.at_none hx]
      refine ⟨_, rfl, _, rfl, ?_⟩
      refine iteT ?_
      exact ⟨2, rfl, q.no R (by rw [st, hx]; rfl)⟩
    | some x =>
      obtain ⟨hm, hid⟩ := find_some hx
      subst hid
      have Ex := R.ex x hm
      obtain ⟨dx, hob⟩ := Ex.ob
      rw [R.at_some hx]
      refine ⟨_, rfl, _, rfl, ?_⟩
      show if decide (V.ref (L.xa x.id) = V.non) = true then _ else _
      rw [not_non]
      refine iteF ?_
      refine ⟨_, rfl, L.xa x.id, Z.X, dx, _, _, rfl, hob, T.cX, T.nX _ (by decide +kernel), xl_ended _ _ _, x.ended, rfl, ?_⟩
      rw [hx] at st
      cases he : x.ended with
      | true =>
        refine iteT ?_
        exact ⟨6, rfl, q.no R (by rw [st]; exact if_pos he)⟩
      | false =>
        refine iteF ?_
        have st2 := st.trans (if_neg (by rw [he]; exact Bool.false_ne_true))
        refine ⟨_, rfl, L.xa x.id, Z.X, dx, _, _, rfl, hob, T.cX, T.nX _ (by decide +kernel), xl_waiting _ _ _, L.wa x.id, _, rfl, .inl (SqL.of Ex.wt), _, rfl, b, _, rfl, .inl (SqL.of hb), _, _, rfl, rfl, _, _, rfl, rfl, _, rfl, ?_⟩
        refine ite2 (fun hc2 => ?_) (fun hc2 => ?_)
        · have hc2 : (65536 : Int) < ((iv x.out).length : Int) + ((iv bs).length : Int) := of_decide_eq_true hc2
          rw [iv_len, iv_len] at hc2
          exact ⟨5, rfl, q.no R (by rw [st2]; exact if_pos (by show 65536 < _; omega))⟩
        · have hc2 : ¬ (65536 : Int) < ((iv x.out).length : Int) + ((iv bs).length : Int) := fun z => hc2 (decide_eq_true z)
          rw [iv_len, iv_len] at hc2
          have st3 := st2.trans (if_neg (by show ¬ 65536 < _; omega))
          rw [st3] at q
          refine ⟨_, rfl, L.xa x.id, Z.X, dx, _, _, rfl, hob, T.cX, T.nX _ (by decide +kernel), xl_waiting _ _ _, .inl ⟨rfl, _, SqL.of Ex.wt⟩, _, rfl, L.wa x.id, b, _, _, rfl, rfl, Ex.wt, hb, ?_, ?_⟩
          · rw [iv_len, iv_len]; exact fits (by omega)
          rw [← iv_app]
          have R1 := R.waits (b := x.out ++ bs) hm
          have E1 : Ext H L (upd H (L.wa x.id) (.lst (iv (x.out ++ bs)))) L := Ext.own Ex.gw
          have N1 : Now Z p H L _ _ L := ⟨R1, E1, rfl⟩
          have hm1 : ({ x with out := x.out ++ bs } : Exchange) ∈ (s.set { x with out := x.out ++ bs }).exchanges := mem_set_self (x := { x with out := x.out ++ bs }) (List.mem_map.mpr ⟨x, hm, rfl⟩)
          have srt1 : (ids (s.set { x with out := x.out ++ bs })).Pairwise (· < ·) := by rw [set_ids]; exact ok.srt
          have nxw : L.xa x.id ≠ L.wa x.id := gne Ex.gx Ex.gw (by simp)
          have hob1 : (upd H (L.wa x.id) (.lst (iv (x.out ++ bs)))) (L.xa x.id) = some (.ins Z.X dx (xF x (L.wa x.id) (L.ua x.id))) := by rw [upd_ne nxw]; exact hob
          refine ⟨_, rfl, rfl, _, rfl, L.xa x.id, Z.X, dx, _, rfl, hob1, T.cX, T.nX _ (by decide +kernel), small_x _ _ _, ?_⟩
          have ee : decide (V.int (e : Int) = V.int 1) = (e == 1) := by
            rw [dec_int]
            by_cases h : e = 1
            · subst h; rfl
            · rw [beq_eq_false_iff_ne.mpr h, beq_eq_false_iff_ne.mpr (by omega)]
          rw [ee]
          rw [xp_ended]
          have N2 := N1.wx srt1 (x := { x with out := x.out ++ bs }) (y := { x with out := x.out ++ bs, ended := e == 1 }) (dx := dx) hm1 rfl rfl rfl
          rw [set_set (s := s) (y := { x with out := x.out ++ bs }) (z := { x with out := x.out ++ bs, ended := e == 1 }) rfl] at N2
          refine ⟨_, rfl, L.xa x.id, Z.X, dx, _, _, rfl, upd_same, T.cX, T.nX _ (by decide +kernel), xl_waiting _ _ _, L.wa x.id, iv (x.out ++ bs), rfl, .inl (SqL.of ?_), by show 1 ≤ sizeLine; decide, fun a ha => ?_⟩
          · rw [upd_ne nxw.symm, upd_same]
          · rw [iv_len]
            exact q _ L a (N2.rep.fresh ha) (N2.ext.trans (Ext.fresh ha)) (N2.ext.new ha) upd_same (N2.rep.free ha)
end
end Os
set_option linter.all false
set_option maxRecDepth 100000
namespace Os
open PySem PySem.Spec PyProof.Rows L2
open Sq01 (State Exchange Bytes)
section
variable {P : Program} {w : World} {K : PySem.W.Frag} {mg : Str → Option Value} {base : Heap} {Z : Cs}
theorem scOwe : FnScope ["side", "number", "size", "exchange"] ["side", "number", "size"] (defScope sOwe) := ⟨rfl, rfl, rfl, by decide +kernel, rfl, by decide +kernel, by decide +kernel⟩
theorem ok_owe {f : Addr} {fd : FuncData} (F : Fun K "owe" "owe" sOwe f fd) (T : Txt K mg Z) (DC : Def P w K mg base 3 "credit_frame" ["number", "more"] spCF) : FnOk P w K mg base CX0 4 f fd ["side", "number", "size"] (spOwe Z) := by
  refine F.ok scOwe (fun vs H Q E h => ?_) (fun cdv A outer s0 H vs Q E hr h => ?_)
  · obtain ⟨p, i, n, s, L, x, rfl, _⟩ := h; rfl
  · obtain ⟨p, i, n, s, L, x, rfl, R, srt, hf, hx, q⟩ := h
    obtain ⟨hm, hid⟩ := find_some hx
    subst hid
    have Ex := R.ex x hm
    obtain ⟨dx, hob⟩ := Ex.ob
    have hu := hu_of hr
    have c1 := T.con ("OWED_MOST", 8192) (by decide +kernel)
    refine ⟨_, pss_cons (ps_set (i := 3) scOwe.nd rfl (Or.inl rfl) (pe_dget hu (pe_fld (pv 0) rfl) (pv 1) (fun _ _ => rfl)))
      (pss_cons (ps_fldaug (pv 3) (pv 2) in_add)
      (pss_one (ps_if (PW.pt (pw_and (pt_cmpR op_ge (pe_fld (pv 3) rfl) (pc c1) (nomark _)) (pw_and1 (pt_not (pt_val (pe_fld (pv 3) rfl))))))
        (pss_cons (ps_fldaug (pv 3) (pe_fld (pv 3) rfl) in_add)
        (pss_cons (ps_expr (pappend (pe_fld (pv 0) rfl) (pa_cons (pd DC hr (pa_cons (pv 1) (pa_cons (pe_fld (pv 3) rfl) pa_nil))) pa_nil)))
        (pss_one (ps_fld (pv 3) pe_int rfl)))) pss_nil))), ?_⟩
    have g : DGet H L.d (kV (Sum.inl (x.id : Int))) (some (V.ref (L.xa x.id))) := by rw [← R.at_some hx]; exact DGet.k R.hd
    refine ⟨_, rfl, p, Z.S, L.dx, _, _, rfl, R.hp, T.cS, T.nS _ (by decide +kernel), sl_exchanges _ _ _ _, _, rfl, L.d, _, rfl, g, ?_⟩
    refine ⟨_, rfl, L.xa x.id, Z.X, dx, _, _, rfl, hob, T.cX, T.nX _ (by decide +kernel), xl_owed _ _ _, _, rfl, _, _, rfl, rfl, dx, _, hob, small_x _ _ _, ?_⟩
    rw [xp_owed (n := x.owed + n) (h := ?hh)]
    case hh => rfl
    have N1 := (Now.of R).wx srt (y := { x with owed := x.owed + n }) (dx := dx) hm rfl rfl rfl
    have hid : x.id ∈ ids s := List.mem_map.mpr ⟨x, hm, rfl⟩
    have hm1 : ({ x with owed := x.owed + n } : Exchange) ∈ (s.set { x with owed := x.owed + n }).exchanges := mem_set_self (x := { x with owed := x.owed + n }) hid
    have srt1 : (ids (s.set { x with owed := x.owed + n })).Pairwise (· < ·) := by rw [set_ids]; exact srt
    refine ⟨_, rfl, L.xa x.id, Z.X, dx, _, _, rfl, upd_same, T.cX, T.nX _ (by decide +kernel), xl_owed _ _ _, _, _, rfl, rfl, _, rfl, ?_⟩
    refine ite2 (fun hc => ?_) (fun hc => ?_)
    · have hc : (8192 : Int) ≤ ((x.owed + n : Nat) : Int) := of_decide_eq_true hc
      refine ⟨_, rfl, L.xa x.id, Z.X, dx, _, _, rfl, upd_same, T.cX, T.nX _ (by decide +kernel), xl_came _ _ _, x.whole, rfl, ?_⟩
      refine ite2 (fun hw => ?_) (fun hw => ?_)
      rotate_left
      · have hw : x.whole = true := by simpa using hw
        have e : s.backOf x n = s.set { x with owed := x.owed + n } := if_pos (.inl hw)
        rw [e] at q
        exact q _ _ N1
      · have hw : x.whole = false := by simpa using hw
        have e : s.backOf x n = (s.set { x with owed := 0, left := x.left + (x.owed + n) }).say (Sq01.creditFrame x.id (x.owed + n)) := if_neg (by
          rintro (z | z)
          · rw [hw] at z; cases z
          · have z : 2 * (x.owed + n) < 16384 := z
            omega)
        rw [e] at q
        refine ⟨_, rfl, L.xa x.id, Z.X, dx, _, _, rfl, upd_same, T.cX, T.nX _ (by decide +kernel), xl_left _ _ _, _, rfl, L.xa x.id, Z.X, dx, _, _, rfl, upd_same, T.cX, T.nX _ (by decide +kernel), xl_owed _ _ _, _, _, rfl, rfl, dx, _, upd_same, small_x _ _ _, ?_⟩
        rw [xp_left (n := x.left + (x.owed + n)) (h := ?hh)]
        case hh => rfl
        have N2 := N1.wx srt1 (y := { x with owed := x.owed + n, left := x.left + (x.owed + n) }) (dx := dx) hm1 rfl rfl rfl
        rw [set_set (s := s) (y := { x with owed := x.owed + n }) (z := { x with owed := x.owed + n, left := x.left + (x.owed + n) }) rfl] at N2
        refine ⟨_, rfl, p, Z.S, L.dx, _, _, rfl, N2.rep.hp, T.cS, T.nS _ (by decide +kernel), sl_first _ _ _ _, .inl ⟨rfl, _, SqL.of N2.rep.hl⟩, _, rfl, _, rfl, L.xa x.id, Z.X, dx, _, _, rfl, upd_same, T.cX, T.nX _ (by decide +kernel), xl_owed _ _ _, x.id, x.owed + n, rfl, fun H' a S hn ha => ?_⟩
        have N3 := N2.same S
        refine ⟨L.l, _, _, rfl, rfl, N3.rep.hl, ?_, ?_⟩
        · rw [List.length_map, R.faLen]
          exact Nat.lt_trans hf (by decide)
        have N4 := N3.say ha (N2.rep.free hn) (N2.ext.new hn)
        have hm4 : ({ x with owed := x.owed + n, left := x.left + (x.owed + n) } : Exchange) ∈ ((s.set { x with owed := x.owed + n, left := x.left + (x.owed + n) }).say (Sq01.creditFrame x.id (x.owed + n))).exchanges := mem_set_self (x := { x with owed := x.owed + n, left := x.left + (x.owed + n) }) hid
        have srt4 : (ids ((s.set { x with owed := x.owed + n, left := x.left + (x.owed + n) }).say (Sq01.creditFrame x.id (x.owed + n)))).Pairwise (· < ·) := by
          show (ids (s.set { x with owed := x.owed + n, left := x.left + (x.owed + n) })).Pairwise (· < ·)
          rw [set_ids]; exact srt
        obtain ⟨dx4, hob4⟩ := (N4.rep.ex _ hm4).ob
        refine ⟨_, rfl, L.xa x.id, Z.X, dx4, _, rfl, hob4, T.cX, T.nX _ (by decide +kernel), small_x _ _ _, ?_⟩
        rw [xp_owed (n := 0) (h := ?hh)]
        case hh => rfl
        have N5 := N4.wx srt4 (y := { x with owed := 0, left := x.left + (x.owed + n) }) (dx := dx4) hm4 rfl rfl rfl
        have e5 : ((s.set { x with owed := x.owed + n, left := x.left + (x.owed + n) }).say (Sq01.creditFrame x.id (x.owed + n))).set { x with owed := 0, left := x.left + (x.owed + n) } = (s.set { x with owed := 0, left := x.left + (x.owed + n) }).say (Sq01.creditFrame x.id (x.owed + n)) := by
          show State.say ((s.set _).set _) _ = _
          rw [set_set (s := s) (y := { x with owed := x.owed + n, left := x.left + (x.owed + n) }) (z := { x with owed := 0, left := x.left + (x.owed + n) }) rfl]
        rw [e5] at N5
        exact q _ _ N5
    · have hc : ¬ (8192 : Int) ≤ ((x.owed + n : Nat) : Int) := fun z => hc (decide_eq_true z)
      have e : s.backOf x n = s.set { x with owed := x.owed + n } := if_pos (.inr (by show 2 * (x.owed + n) < 16384; omega))
      rw [e] at q
      exact q _ _ N1
theorem scStop : FnScope ["side", "number", "why"] ["side", "number", "why"] (defScope sStop) := ⟨rfl, rfl, rfl, by decide +kernel, rfl, by decide +kernel, by decide +kernel⟩
theorem ok_stop {f : Addr} {fd : FuncData} (F : Fun K "stop" "stop" sStop f fd) (T : Txt K mg Z) (DR : Def P w K mg base 1 "refused" ["why"] spRef) (D5 : Mdef P w K mg base 5 Z.S "lose" ["self", "number"] (spS5 Z)) (DS : Def P w K mg base 3 "stopped_frame" ["number", "why"] spSF) :
    FnOk P w K mg base CX0 6 f fd ["side", "number", "why"] (spStop Z) := by
  refine F.ok scStop (fun vs H Q E h => ?_) (fun cdv A outer s0 H vs Q E hr h => ?_)
  · obtain ⟨p, i, n, s, L, rfl, _⟩ := h; rfl
  · obtain ⟨p, i, n, s, L, rfl, R, ok, hf, q⟩ := h
    have hu := hu_of hr
    have c1 := T.con ("WHYS_BELOW", 4294967296) (by decide +kernel)
    have c2 := T.con ("BAD_ARGUMENT", 1) (by decide +kernel)
    have c3 := T.con ("NOT_THERE", 2) (by decide +kernel)
    have hr1 : Room 1 _ := hr.mono (by decide)
    have hr3 : Room 3 _ := hr.mono (by decide)
    refine ⟨_, pss_cons (ps_if (pt_cmpR op_ge (pv 2) (pc c1) (nomark _)) (pss_one (ps_ret (pd DR hr1 (pa_cons (pc c2) pa_nil)))) pss_nil)
      (pss_cons (ps_if (pt_cmp (pc_dnotin hu (pv 1) (pe_fld (pv 0) rfl))) (pss_one (ps_ret (pd DR hr1 (pa_cons (pc c3) pa_nil)))) pss_nil)
      (pss_cons (ps_expr (pm D5 hr (pv 0) (pa_cons (pv 1) pa_nil)))
      (pss_cons (ps_expr (pappend (pe_fld (pv 0) rfl) (pa_cons (pd DS hr3 (pa_cons (pv 1) (pa_cons (pv 2) pa_nil))) pa_nil)))
      (pss_one (ps_ret (pe_lst (pa_cons pe_int pa_nil))))))), ?_⟩
    refine ⟨_, rfl, _, _, rfl, rfl, _, rfl, ?_⟩
    refine ite2 (fun hc => ?_) (fun hc => ?_)
    · have hc : (4294967296 : Int) ≤ (n : Int) := of_decide_eq_true hc
      exact ⟨1, rfl, q.no R (if_pos (by show 2 ^ 32 ≤ n; omega))⟩
    have hc : ¬ (4294967296 : Int) ≤ (n : Int) := fun z => hc (decide_eq_true z)
    have st : Sq01.step s (.halt_ i n) = (match s.find i with
      | none => (s, Sq01.says (-2))
      | some x => (((s.drop i).back x.got.length).say (Sq01.stopFrame i n), Sq01.says 0)) := if_neg (by show ¬ 2 ^ 32 ≤ n; omega)
    refine ⟨_, rfl, _, rfl, p, Z.S, L.dx, _, _, rfl, R.hp, T.cS, T.nS _ (by decide +kernel), sl_exchanges _ _ _ _, L.d, _, rfl, DGet.k (k := Sum.inl (i : Int)) R.hd, _, rfl, ?_⟩
    cases hx : s.find i with
    | none =>
      rw [R.at_none hx]
      exact ⟨2, rfl, q.no R (by rw [st, hx]; rfl)⟩
    | some x =>
      rw [R.at_some hx]
      rw [st, hx] at q
      refine ⟨_, rfl, p, L.dx, _, rfl, R.hp, sl_m5 _ _ _ _, _, rfl, p, i, s, L, x, rfl, R, Nat.lt_trans hf (by decide), hx, fun H1 L1 N1 => ?_⟩
      refine ⟨_, rfl, p, Z.S, L1.dx, _, _, rfl, N1.rep.hp, T.cS, T.nS _ (by decide +kernel), sl_first _ _ _ _, .inl ⟨rfl, _, SqL.of N1.rep.hl⟩, _, rfl, _, rfl, i, n, rfl, fun H' a S hn ha => ?_⟩
      have N3 := N1.same S
      refine ⟨L1.l, _, _, rfl, rfl, N3.rep.hl, ?_, ?_⟩
      · rw [List.length_map, N1.rep.faLen]
        have := (back_fl (s.drop i) x.got.length).1
        have h2 : Fl (s.drop i) = s.first.length := rfl
        have h3 : ((s.drop i).back x.got.length).first.length ≤ s.first.length + 1 := this
        exact Nat.lt_of_le_of_lt h3 (Nat.lt_of_lt_of_le (Nat.succ_lt_succ hf) (by decide))
      have N4 := N3.say ha (N1.rep.free hn) (N1.ext.new hn)
      refine ⟨by show 1 ≤ sizeLine; decide, fun b hb => ?_⟩
      exact q _ _ b (N4.rep.fresh hb) (N4.ext.trans (Ext.fresh hb)) (N4.ext.new hb) upd_same (N4.rep.free hb)
end
end Os
set_option linter.all false
set_option maxRecDepth 100000
namespace Os
open PySem PySem.Spec PyProof.Rows L2
open Sq01 (State Exchange Bytes)
theorem cut_head (xs : List V) (k : Nat) (h : k ≤ xs.length) : cutV xs none (some (k : Int)) = xs.take k := by
  unfold cutV
  have e1 : HT.sIx xs.length 0 none = 0 := rfl
  have e2 : HT.sIx xs.length xs.length (some (k : Int)) = k := by
    simp only [HT.sIx]
    by_cases h0 : (k : Int) < 0
    · omega
    · rw [if_neg h0]; omega
  rw [e1, e2]
  rfl
theorem cut_tail (xs : List V) (k : Nat) (h : k ≤ xs.length) : cutV xs (some (k : Int)) none = xs.drop k := by
  unfold cutV
  have e1 : HT.sIx xs.length xs.length none = xs.length := rfl
  have e2 : HT.sIx xs.length 0 (some (k : Int)) = k := by
    simp only [HT.sIx]
    by_cases h0 : (k : Int) < 0
    · omega
    · rw [if_neg h0]; omega
  rw [e1, e2]
  exact List.take_of_length_le (by rw [List.length_drop]; omega)
section
variable {Z : Cs} {p : Addr} {H0 H : Hp} {L0 L : Lay} {s : State}
theorem Now.gotNew (a : Now Z p H0 L0 H s L) {x : Exchange} {b : Bytes} {q dx : Addr} (hx : x ∈ s.exchanges) (hq : H q = some (.lst (iv b))) (g : L.G q = none) (g0 : New H0 L0 q) :
    Now Z p H0 L0 (upd H (L.xa x.id) (.ins Z.X dx (xF x (L.wa x.id) q))) (s.set { x with got := b }) { L.tag q (.ut x.id) with ua := fun i => if i = x.id then q else L.ua i } :=
  ⟨a.rep.gotNew hx hq g, fun c o e g' => by
    obtain ⟨h1, h2⟩ := a.ext c o e g'
    refine ⟨by rw [upd_ne (fun z => by rw [z, (a.rep.ex x hx).gx] at h2; cases h2)]; exact h1, ?_⟩
    show (L.tag q (.ut x.id)).G c = none
    rw [tag_ne (fun z => g0 o (by rw [← z]; exact e) (by rw [← z]; exact g'))]
    exact h2, a.xa⟩
theorem Now.waitsNew (a : Now Z p H0 L0 H s L) {x : Exchange} {b : Bytes} {q dx : Addr} (hx : x ∈ s.exchanges) (hq : H q = some (.lst (iv b))) (g : L.G q = none) (g0 : New H0 L0 q) :
    Now Z p H0 L0 (upd H (L.xa x.id) (.ins Z.X dx (xF x q (L.ua x.id)))) (s.set { x with out := b }) { L.tag q (.wt x.id) with wa := fun i => if i = x.id then q else L.wa i } :=
  ⟨a.rep.waitsNew hx hq g, fun c o e g' => by
    obtain ⟨h1, h2⟩ := a.ext c o e g'
    refine ⟨by rw [upd_ne (fun z => by rw [z, (a.rep.ex x hx).gx] at h2; cases h2)]; exact h1, ?_⟩
    show (L.tag q (.wt x.id)).G c = none
    rw [tag_ne (fun z => g0 o (by rw [← z]; exact e) (by rw [← z]; exact g'))]
    exact h2, a.xa⟩
end
theorem take_step {s : State} {x : Exchange} {m k : Nat} (hx : s.find x.id = some x) (hk : (x.got.take m).length = k) (e1 : x.got.take m = x.got.take k) (e2 : x.got.drop m = x.got.drop k) :
    Sq01.step s (.take x.id m) = (((s.backOf { x with got := x.got.drop k, done_ := x.done_ || (x.whole && decide (x.got.drop k = [])) } k).back k).tidy x.id, ⟨(k : Int), Sq01.bit (x.whole && decide (x.got.drop k = [])) :: x.got.take k⟩) := by
  unfold Sq01.step
  dsimp only
  rw [hx]
  dsimp only
  rw [backOf_set, hk, e1, e2]
  have e3 : (x.got.drop k == []) = decide (x.got.drop k = []) := by
    cases x.got.drop k with
    | nil => rfl
    | cons a l => rfl
  rw [e3]
theorem has_find {s : State} (srt : (ids s).Pairwise (· < ·)) {y : Exchange} {i : Nat} (h : y ∈ s.exchanges) (e : y.id = i) : s.find i = some y := by rw [← e]; exact find_of_mem srt h
section
variable {P : Program} {w : World} {K : PySem.W.Frag} {mg : Str → Option Value} {base : Heap} {Z : Cs}
theorem scTake : FnScope ["side", "number", "most", "exchange", "size", "taken", "end"] ["side", "number", "most"] (defScope sTake) := ⟨rfl, rfl, rfl, by decide +kernel, rfl, by decide +kernel, by decide +kernel⟩
theorem ok_take {f : Addr} {fd : FuncData} (F : Fun K "take" "take" sTake f fd) (T : Txt K mg Z) (DR : Def P w K mg base 1 "refused" ["why"] spRef) (DO : Def P w K mg base 4 "owe" ["side", "number", "size"] (spOwe Z))
    (D4 : Mdef P w K mg base 4 Z.S "give_back" ["self", "size"] (spS4 Z)) (D1 : Mdef P w K mg base 1 Z.X "all_came" ["self"] (spX1 Z)) (D6 : Mdef P w K mg base 2 Z.S "drop_if_done" ["self", "number"] (spS6 Z)) :
    FnOk P w K mg base CX0 5 f fd ["side", "number", "most"] (spTake Z) := by
  refine F.ok scTake (fun vs H Q E h => ?_) (fun cdv A outer s0 H vs Q E hr h => ?_)
  · obtain ⟨p, i, m, s, L, rfl, _⟩ := h; rfl
  · obtain ⟨p, i, m, s, L, rfl, R, ok, hf, q⟩ := h
    have hu := hu_of hr
    have c2 := T.con ("NOT_THERE", 2) (by decide +kernel)
    have hr1 : Room 1 _ := hr.mono (by decide)
    have hr2 : Room 2 _ := hr.mono (by decide)
    refine ⟨_, pss_cons (ps_set (i := 3) scTake.nd rfl (Or.inl rfl) (pe_dget1 hu (pe_fld (pv 0) rfl) (pv 1) ⟨rfl, rfl, rfl, rfl⟩))
      (pss_cons (ps_if (pt_cmp (pc_isN (pv 3))) (pss_one (ps_ret (pd DR hr1 (pa_cons (pc c2) pa_nil)))) pss_nil)
      (pss_cons (ps_set (i := 4) scTake.nd rfl (Or.inl rfl) (pe_callB (call_min2 rfl) (by rfl) T.min PyProof.Rows.boot_min (pa_cons (pv 2) (pa_cons (pe_callB call_len_seq (by rfl) T.len PySem.boot_len (pa_cons (pe_fld (pv 3) rfl) pa_nil)) pa_nil))))
      (pss_cons (ps_set (i := 5) scTake.nd rfl (Or.inl rfl) (pe_slice sl_list (pe_fld (pv 3) rfl) po_none (po_some (pv 4))))
      (pss_cons (ps_fld (pv 3) (pe_slice sl_list (pe_fld (pv 3) rfl) (po_some (pv 4)) po_none) rfl)
      (pss_cons (ps_expr (pd DO hr (pa_cons (pv 0) (pa_cons (pv 1) (pa_cons (pv 4) pa_nil)))))
      (pss_cons (ps_expr (pm D4 hr (pv 0) (pa_cons (pv 4) pa_nil)))
      (pss_cons (ps_set (i := 6) scTake.nd rfl (Or.inl rfl) (pm0 D1 hr1 (pv 3)))
      (pss_cons (ps_if (pt_val (pv 6)) (pss_one (ps_fld (pv 3) pe_bl rfl)) pss_nil)
      (pss_cons (ps_expr (pm D6 hr2 (pv 0) (pa_cons (pv 1) pa_nil)))
      (pss_one (ps_ret (pe_op op_cat (pe_lst (pa_cons (pv 4) (pa_cons (pe_ifExp (pt_val (pv 6)) pe_int pe_int) pa_nil))) (pv 5))))))))))))), ?_⟩
    refine ⟨_, rfl, p, Z.S, L.dx, _, _, rfl, R.hp, T.cS, T.nS _ (by decide +kernel), sl_exchanges _ _ _ _, L.d, rfl, .inl ⟨_, .inl R.hd⟩, _, rfl, _, DGet.k (k := Sum.inl (i : Int)) R.hd, ?_⟩
    cases hx : s.find i with
    | none =>
      rw [R.at_none hx]
      refine ⟨_, rfl, _, rfl, ?_⟩
      refine iteT ?_
      have st : Sq01.step s (.take i m) = (s, Sq01.says (-2)) := by unfold Sq01.step; dsimp only; rw [hx]
      exact ⟨2, rfl, q.no R st⟩
    | some x =>
      obtain ⟨hm, hid⟩ := find_some hx
      subst hid
      have Ex := R.ex x hm
      obtain ⟨dx, hob⟩ := Ex.ob
      rw [R.at_some hx]
      refine ⟨_, rfl, _, rfl, ?_⟩
      show if decide (V.ref (L.xa x.id) = V.non) = true then _ else _
      rw [not_non]
      refine iteF ?_
      -- size, taken, untaken
      refine ⟨_, rfl, _, rfl, L.xa x.id, Z.X, dx, _, _, rfl, hob, T.cX, T.nX _ (by decide +kernel), xl_untaken _ _ _, L.ua x.id, _, rfl, .inl (SqL.of Ex.ut), _, _, rfl, ?_⟩
      generalize hk : (x.got.take m).length = k
      have hkl : k ≤ x.got.length := by rw [← hk, List.length_take]; omega
      have ek : (if ((iv x.got).length : Int) < (m : Int) then ((iv x.got).length : Int) else (m : Int)) = (k : Int) := by
        rw [iv_len, ← hk, List.length_take]
        by_cases z : (x.got.length : Int) < (m : Int)
        · rw [if_pos z]; omega
        · rw [if_neg z]; omega
      rw [ek]
      have etk : x.got.take m = x.got.take k := by
        rw [← hk, List.length_take]
        rcases Nat.le_total m x.got.length with z | z
        · rw [Nat.min_eq_left z]
        · rw [Nat.min_eq_right z, List.take_of_length_le z, List.take_of_length_le (Nat.le_refl _)]
      have edr : x.got.drop m = x.got.drop k := by
        rw [← hk, List.length_take]
        rcases Nat.le_total m x.got.length with z | z
        · rw [Nat.min_eq_left z]
        · rw [Nat.min_eq_right z, List.drop_of_length_le z, List.drop_of_length_le (Nat.le_refl _)]
      refine ⟨_, rfl, L.xa x.id, Z.X, dx, _, _, rfl, hob, T.cX, T.nX _ (by decide +kernel), xl_untaken _ _ _, _, rfl, _, rfl, L.ua x.id, _, rfl, SqL.of Ex.ut, fun a1 ha1 => ?_⟩
      rw [cut_head _ k (by rw [iv_len]; exact hkl), ← iv_take]
      have NA : Now Z p (upd H a1 (.lst (iv (x.got.take k)))) L (upd H a1 (.lst (iv (x.got.take k)))) s L := Now.of (R.fresh ha1)
      have ga1 := R.free ha1
      have n1 : L.xa x.id ≠ a1 := gne0 Ex.gx ga1
      have n2 : L.ua x.id ≠ a1 := gne0 Ex.gu ga1
      have hob1 : (upd H a1 (.lst (iv (x.got.take k)))) (L.xa x.id) = some (.ins Z.X dx (xF x (L.wa x.id) (L.ua x.id))) := by rw [upd_ne n1]; exact hob
      refine ⟨_, rfl, L.xa x.id, Z.X, dx, _, _, rfl, hob1, T.cX, T.nX _ (by decide +kernel), xl_untaken _ _ _, _, rfl, _, rfl, L.ua x.id, _, rfl, SqL.of (by rw [upd_ne n2]; exact Ex.ut), fun a2 ha2 => ?_⟩
      rw [cut_tail _ k (by rw [iv_len]; exact hkl), ← iv_drop]
      have NB := NA.new (o := .lst (iv (x.got.drop k))) ha2
      have n3 : L.xa x.id ≠ a2 := ne_of_none hob1 ha2
      refine ⟨_, rfl, L.xa x.id, Z.X, dx, _, rfl, (by rw [upd_ne n3]; exact hob1), T.cX, T.nX _ (by decide +kernel), small_x _ _ _, ?_⟩
      rw [xp_untaken]
      have N1 := NB.gotNew (b := x.got.drop k) (dx := dx) hm upd_same (NA.rep.free ha2) (.of ha2)
      generalize hz : ({ x with got := x.got.drop k } : Exchange) = z at N1
      have zid : z.id = x.id := by rw [← hz]
      have zwh : z.whole = x.whole := by rw [← hz]
      have zgo : z.got = x.got.drop k := by rw [← hz]
      have zdo : z.done_ = x.done_ := by rw [← hz]
      have hidm : z.id ∈ ids s := by rw [zid]; exact List.mem_map.mpr ⟨x, hm, rfl⟩
      have srt1 : (ids (s.set z)).Pairwise (· < ·) := by rw [set_ids]; exact ok.srt
      -- owe, give_back
      refine ⟨_, rfl, _, rfl, _, rfl, p, x.id, k, s.set z, _, z, rfl, N1.rep, srt1, hf, has_find srt1 (mem_set_self hidm) zid, fun H2 L2 N2 => ?_⟩
      have N2 := N1.trans N2
      rw [backOf_set] at N2
      refine ⟨_, rfl, p, L2.dx, _, rfl, N2.rep.hp, sl_m4 _ _ _ _, _, rfl, p, k, s.backOf z k, L2, rfl, N2.rep, ?_, fun H3 L3 N3 => ?_⟩
      · have := (backOf_fl s z k).1
        have h3 : (s.backOf z k).first.length ≤ s.first.length + 1 := this
        exact Nat.lt_of_le_of_lt h3 (Nat.lt_of_lt_of_le (Nat.succ_lt_succ hf) (by decide))
      have N3 := N2.trans N3
      have srt3 : (ids ((s.backOf z k).back k)).Pairwise (· < ·) := by rw [back_ids, backOf_ids]; exact ok.srt
      have hm3 : backX z k ∈ ((s.backOf z k).back k).exchanges := by rw [back_ex]; exact backOf_mem k hidm
      have bid : (backX z k).id = x.id := (backX_id z k).trans zid
      have E3 := N3.rep.ex _ hm3
      have ea3 : L3.xa (backX z k).id = L.xa x.id := by rw [bid, N3.xa]
      obtain ⟨dx3, hob3⟩ := E3.ob
      rw [ea3] at hob3
      -- all_came
      refine ⟨_, rfl, L.xa x.id, dx3, _, rfl, hob3, xl_allcame _ _ _, L.xa x.id, dx3, backX z k, _, _, rfl, hob3, E3.ut, ?_⟩
      have eb : ((backX z k).whole && decide ((backX z k).got = [])) = (x.whole && decide (x.got.drop k = [])) := by rw [backX_whole, backX_got, zwh, zgo]
      rw [eb]
      rw [take_step hx hk etk edr] at q
      have ed : ∀ b : Bool, ({ x with got := x.got.drop k, done_ := x.done_ || b } : Exchange) = { z with done_ := z.done_ || b } := fun b => by rw [← hz]
      rw [ed] at q
      generalize (x.whole && decide (x.got.drop k = [])) = b at q
      obtain ⟨ka, ga⟩ := N3.ext a1 _ upd_same ga1
      refine ⟨_, rfl, b, rfl, ?_⟩
      cases b with
      | true =>
        refine ⟨_, rfl, L.xa x.id, Z.X, dx3, _, rfl, hob3, T.cX, T.nX _ (by decide +kernel), small_x _ _ _, ?_⟩
        rw [xp_told]
        have N4 := N3.wx srt3 (y := { backX z k with done_ := true }) (dx := dx3) hm3 rfl rfl rfl
        rw [ea3, told_late] at N4
        have e4 : ({ z with done_ := z.done_ || true } : Exchange) = { z with done_ := true } := by rw [Bool.or_true]
        rw [e4] at q
        have srt4 : (ids ((s.backOf { z with done_ := true } k).back k)).Pairwise (· < ·) := by rw [back_ids, backOf_ids]; exact ok.srt
        have hm4 : backX { z with done_ := true } k ∈ ((s.backOf { z with done_ := true } k).back k).exchanges := by rw [back_ex]; exact backOf_mem (x := { z with done_ := true }) k hidm
        refine ⟨_, rfl, p, L3.dx, _, rfl, N4.rep.hp, sl_m6 _ _ _ _, _, rfl, p, x.id, _, L3, _, rfl, N4.rep, srt4, has_find srt4 hm4 ((backX_id _ k).trans zid), fun H5 L5 N5 => ?_⟩
        have N5 := N4.trans N5
        obtain ⟨kb, gb⟩ := N5.ext a1 _ upd_same ga1
        refine ⟨_, rfl, _, rfl, true, rfl, by show 2 ≤ sizeLine; decide, fun a6 h6 => ?_⟩
        refine ⟨_, rfl, a6, a1, _, _, rfl, rfl, upd_same, (by rw [upd_ne (ne_of_none kb h6)]; exact kb), ?_, fun a7 h7 => ?_⟩
        · rw [iv_len, List.length_take]
          have := (ok.xs x hm).sum
          exact fits (by show 2 + _ ≤ _; omega)
        have N7 := (N5.new (o := .lst [V.int (k : Int), V.int 1]) h6).new (o := .lst ([V.int (k : Int), V.int 1] ++ iv (x.got.take k))) h7
        have E7 := (Ext.fresh (L := L) ha1).trans N7.ext
        exact q _ L5 a7 N7.rep E7 (((Ext.fresh (L := L) ha1).trans (N5.new (o := .lst [V.int (k : Int), V.int 1]) h6).ext).new h7) upd_same ((N5.new (o := .lst [V.int (k : Int), V.int 1]) h6).rep.free h7)
      | false =>
        have e4 : ({ z with done_ := z.done_ || false } : Exchange) = z := by rw [Bool.or_false]
        rw [e4] at q
        refine ⟨_, rfl, p, L3.dx, _, rfl, N3.rep.hp, sl_m6 _ _ _ _, _, rfl, p, x.id, _, L3, _, rfl, N3.rep, srt3, has_find srt3 hm3 bid, fun H5 L5 N5 => ?_⟩
        have N5 := N3.trans N5
        obtain ⟨kb, gb⟩ := N5.ext a1 _ upd_same ga1
        refine ⟨_, rfl, _, rfl, false, rfl, by show 2 ≤ sizeLine; decide, fun a6 h6 => ?_⟩
        refine ⟨_, rfl, a6, a1, _, _, rfl, rfl, upd_same, (by rw [upd_ne (ne_of_none kb h6)]; exact kb), ?_, fun a7 h7 => ?_⟩
        · rw [iv_len, List.length_take]
          have := (ok.xs x hm).sum
          exact fits (by show 2 + _ ≤ _; omega)
        have N7 := (N5.new (o := .lst [V.int (k : Int), V.int 0]) h6).new (o := .lst ([V.int (k : Int), V.int 0] ++ iv (x.got.take k))) h7
        have E7 := (Ext.fresh (L := L) ha1).trans N7.ext
        exact q _ L5 a7 N7.rep E7 (((Ext.fresh (L := L) ha1).trans (N5.new (o := .lst [V.int (k : Int), V.int 0]) h6).ext).new h7) upd_same ((N5.new (o := .lst [V.int (k : Int), V.int 0]) h6).rep.free h7)
end
end Os
set_option linter.all false
set_option maxRecDepth 100000
namespace Os
open PySem PySem.Spec PyProof.Rows L2
open Sq01 (State Exchange Bytes)
abbrev sOut : Stmt := top 85
abbrev sSF1 : Stmt := top 86
abbrev sSD : Stmt := top 87
abbrev sWT : Stmt := top 88
abbrev sCS : Stmt := top 89
abbrev sPS : Stmt := top 90
abbrev sSP : Stmt := top 91
/-- the size of a piece, as the program reckons it -/
def sizeI (s : State) (x : Exchange) (room : Nat) : Int := if 8 ≤ room then (size s x (room - 8) : Int) else (room : Int) - 8
def canB (s : State) (room : Nat) (x : Exchange) : Bool := decide (8 ≤ room) && can s x (room - 8)
/-- whose turn it is; 0: nobody's -/
def who (s : State) (room : Nat) : Nat := match s.turns.find? (canB s room) with
  | some x => x.id
  | none => 0
def spPS (Z : Cs) : Sp := fun vs H Q _ => ∃ (p : Addr) (room : Nat) (s : State) (L : Lay) (x : Exchange), vs = [.ref p, .ref (L.xa x.id), .int room] ∧ Rep Z H p s L ∧ x ∈ s.exchanges ∧ Q (.int (sizeI s x room)) H
def spCS (Z : Cs) : Sp := fun vs H Q _ => ∃ (p : Addr) (room : Nat) (s : State) (L : Lay) (x : Exchange), vs = [.ref p, .ref (L.xa x.id), .int room] ∧ Rep Z H p s L ∧ x ∈ s.exchanges ∧ Q (.bl (canB s room x)) H
def spWT (Z : Cs) : Sp := fun vs H Q _ => ∃ (p : Addr) (room : Nat) (s : State) (L : Lay), vs = [.ref p, .int room] ∧ Rep Z H p s L ∧ Ok s ∧ ∀ H', Same H H' → Q (.int (who s room)) H'
def spSP (Z : Cs) : Sp := fun vs H Q _ => ∃ (p : Addr) (room : Nat) (s : State) (L : Lay) (x : Exchange), vs = [.ref p, .int x.id, .int room] ∧ Rep Z H p s L ∧ Ok s ∧ x ∈ s.exchanges ∧ 8 ≤ room ∧
  ∀ H' L' q, Now Z p H L H' (sentBy s x (cut s x (room - 8))) L' → New H L q → H' q = some (.lst (iv (cut s x (room - 8)).bytes)) → L'.G q = none → Q (.ref q) H'
section
variable {P : Program} {w : World} {K : PySem.W.Frag} {mg : Str → Option Value} {base : Heap} {Z : Cs}
theorem scPS : FnScope ["side", "exchange", "room"] ["side", "exchange", "room"] (defScope sPS) := ⟨rfl, rfl, rfl, by decide +kernel, rfl, by decide +kernel, by decide +kernel⟩
theorem ok_ps {f : Addr} {fd : FuncData} (F : Fun K "piece_size" "piece_size" sPS f fd) (T : Txt K mg Z) : FnOk P w K mg base CX0 1 f fd ["side", "exchange", "room"] (spPS Z) := by
  refine F.ok scPS (fun vs H Q E h => ?_) (fun cdv A outer s0 H vs Q E hr h => ?_)
  · obtain ⟨p, room, s, L, x, rfl, _⟩ := h; rfl
  · obtain ⟨p, room, s, L, x, rfl, R, hm, q⟩ := h
    have c1 := T.con ("PIECE_MOST", 1024) (by decide +kernel)
    have c2 := T.con ("HEAD_SIZE", 8) (by decide +kernel)
    have Ex := R.ex x hm
    obtain ⟨dx, hob⟩ := Ex.ob
    refine ⟨_, pss_one (ps_ret (pe_callB (call_min5 rfl) (by rfl) T.min PyProof.Rows.boot_min (pa_cons (pe_callB call_len_seq (by rfl) T.len PySem.boot_len (pa_cons (pe_fld (pv 1) rfl) pa_nil)) (pa_cons (pc c1) (pa_cons (pe_fld (pv 1) rfl) (pa_cons (pe_fld (pv 0) rfl) (pa_cons (pe_op op_sub (pv 2) (pc c2)) pa_nil))))))), ?_⟩
    refine ⟨_, rfl, L.xa x.id, Z.X, dx, _, _, rfl, hob, T.cX, T.nX _ (by decide +kernel), xl_waiting _ _ _, L.wa x.id, _, rfl, .inl (SqL.of Ex.wt), _, rfl, L.xa x.id, Z.X, dx, _, _, rfl, hob, T.cX, T.nX _ (by decide +kernel), xl_credit _ _ _,
      _, rfl, p, Z.S, L.dx, _, _, rfl, R.hp, T.cS, T.nS _ (by decide +kernel), sl_credit _ _ _ _, _, rfl, _, _, rfl, rfl, _, _, _, _, _, rfl, fun M h1 h2 => ?_⟩
    have eM : M = sizeI s x room := by
      have g1 := h2 _ (List.mem_cons_self)
      have g2 := h2 _ (List.mem_cons_of_mem _ List.mem_cons_self)
      have g3 := h2 _ (List.mem_cons_of_mem _ (List.mem_cons_of_mem _ List.mem_cons_self))
      have g4 := h2 _ (List.mem_cons_of_mem _ (List.mem_cons_of_mem _ (List.mem_cons_of_mem _ List.mem_cons_self)))
      have g5 := h2 _ (List.mem_cons_of_mem _ (List.mem_cons_of_mem _ (List.mem_cons_of_mem _ (List.mem_cons_of_mem _ List.mem_cons_self))))
      simp only [List.mem_cons, List.not_mem_nil, or_false, iv_len] at h1 g1
      have g2 : M ≤ 1024 := g2
      have g5 : M ≤ (room : Int) - 8 := g5
      have h1 : M = (x.out.length : Int) ∨ M = 1024 ∨ M = (x.credit : Int) ∨ M = (s.credit : Int) ∨ M = (room : Int) - 8 := h1
      unfold sizeI size
      by_cases h8 : 8 ≤ room
      · rw [if_pos h8]
        omega
      · rw [if_neg h8]
        omega
    rw [eM]
    exact q
theorem scCS : FnScope ["side", "exchange", "room"] ["side", "exchange", "room"] (defScope sCS) := ⟨rfl, rfl, rfl, by decide +kernel, rfl, by decide +kernel, by decide +kernel⟩
theorem ok_cs {f : Addr} {fd : FuncData} (F : Fun K "can_send" "can_send" sCS f fd) (T : Txt K mg Z) (DP : Def P w K mg base 1 "piece_size" ["side", "exchange", "room"] (spPS Z)) : FnOk P w K mg base CX0 2 f fd ["side", "exchange", "room"] (spCS Z) := by
  refine F.ok scCS (fun vs H Q E h => ?_) (fun cdv A outer s0 H vs Q E hr h => ?_)
  · obtain ⟨p, room, s, L, x, rfl, _⟩ := h; rfl
  · obtain ⟨p, room, s, L, x, rfl, R, hm, q⟩ := h
    have c2 := T.con ("HEAD_SIZE", 8) (by decide +kernel)
    have Ex := R.ex x hm
    obtain ⟨dx, hob⟩ := Ex.ob
    refine ⟨_, pss_cons (ps_if (pt_cmpR op_gt (pe_callB call_len_seq (by rfl) T.len PySem.boot_len (pa_cons (pe_fld (pv 1) rfl) pa_nil)) pe_int (nomark _)) (pss_one (ps_ret (pe_cmpR op_gt (pd DP hr (pa_cons (pv 0) (pa_cons (pv 1) (pa_cons (pv 2) pa_nil)))) pe_int (nomark _)))) pss_nil)
      (pss_one (ps_ret (pe_and (pe_fld (pv 1) rfl) (pe_and (pe_not (pe_fld (pv 1) rfl)) (pe_one (pe_cmpR op_ge (pv 2) (pc c2) (nomark _))))))), ?_⟩
    refine ⟨_, rfl, L.xa x.id, Z.X, dx, _, _, rfl, hob, T.cX, T.nX _ (by decide +kernel), xl_waiting _ _ _, L.wa x.id, _, rfl, .inl (SqL.of Ex.wt), _, _, rfl, rfl, _, rfl, ?_⟩
    refine ite2 (fun hc => ?_) (fun hc => ?_)
    · have hc : (0 : Int) < ((iv x.out).length : Int) := of_decide_eq_true hc
      rw [iv_len] at hc
      have hne : x.out ≠ [] := fun z => by rw [z] at hc; simp at hc
      refine ⟨_, rfl, _, rfl, _, rfl, p, room, s, L, x, rfl, R, hm, _, _, rfl, rfl, ?_⟩
      have e : decide ((0 : Int) < sizeI s x room) = canB s room x := by
        unfold sizeI canB can
        by_cases h8 : 8 ≤ room
        · rw [if_pos h8, if_neg hne, decide_eq_true h8, Bool.true_and]
          by_cases h0 : 0 < size s x (room - 8)
          · rw [decide_eq_true h0, decide_eq_true (by omega)]
          · rw [decide_eq_false h0, decide_eq_false (by omega)]
        · rw [if_neg h8, decide_eq_false h8, Bool.false_and, decide_eq_false (by omega)]
      rw [← e] at q
      exact q
    · have hc : ¬ (0 : Int) < ((iv x.out).length : Int) := fun z => hc (decide_eq_true z)
      rw [iv_len] at hc
      have hne : x.out = [] := List.eq_nil_of_length_eq_zero (by omega)
      have e : canB s room x = (x.ended && (!x.sent && decide ((8 : Int) ≤ (room : Int)))) := by
        unfold canB can
        rw [if_pos hne]
        have e8 : decide ((8 : Int) ≤ (room : Int)) = decide (8 ≤ room) := by
          by_cases h8 : 8 ≤ room
          · rw [decide_eq_true h8, decide_eq_true (by omega)]
          · rw [decide_eq_false h8, decide_eq_false (by omega)]
        rw [e8]
        cases decide (8 ≤ room) <;> cases x.ended <;> cases x.sent <;> rfl
      rw [e] at q
      refine ⟨_, rfl, L.xa x.id, Z.X, dx, _, _, rfl, hob, T.cX, T.nX _ (by decide +kernel), xl_ended _ _ _, x.ended, rfl, ?_⟩
      refine ite2 (fun he => ?_) (fun he => ?_)
      · rw [he, Bool.true_and] at q
        refine ⟨_, rfl, L.xa x.id, Z.X, dx, _, _, rfl, hob, T.cX, T.nX _ (by decide +kernel), xl_sent _ _ _, x.sent, rfl, _, rfl, ?_⟩
        refine ite2 (fun hs => ?_) (fun hs => ?_)
        · rw [hs, Bool.true_and] at q
          exact ⟨_, rfl, _, _, rfl, rfl, q⟩
        · have hs : (!x.sent) = false := by simpa using hs
          rw [hs, Bool.false_and] at q
          exact q
      · have he : x.ended = false := by simpa using he
        rw [he, Bool.false_and] at q
        exact q
end
end Os
set_option linter.all false
set_option maxRecDepth 100000
namespace Os
open PySem PySem.Spec PyProof.Rows L2
open Sq01 (State Exchange Bytes)
/-- [n for n in l if p(n)], l a list of whole numbers -/
theorem filter_lc {K : PySem.W.Frag} {a : Addr} {l : List Nat} {pr : Nat → Bool} {g : TG} {tt : TT} {te : TE} {vs : List Nat} {σ : L2.St} {H : Hp} {Q : Addr → Hp → Prop} (ha : H a = some (.lst (iv l))) (hl : l.length ≤ 1000)
    (turn : ∀ (n : Nat) (H' : Hp) (Y : V → Hp → Prop) (W0 : Hp → Prop), Same H H' → (pr n = true → Y (.int (n : Int)) H') → (pr n = false → W0 H') →
      g (.int (n : Int)) (wipe σ vs) H' fun σ2 H2 => wipe σ2 vs = wipe σ vs ∧ tt σ2 H2 fun b H3 => if b = true then te σ2 H3 Y else W0 H3)
    (q : ∀ D, H D = none → Q D (upd H D (.lst (iv (l.filter pr))))) :
    ∀ D, H D = none → ∃ W : Nat → Nat → Hp → Prop, (∃ m, W 0 m (upd H D (.lst []))) ∧ ∀ i m H, W i m H →
      ((Itl K a).stop i H ∧ Q D H) ∨ ((Itl K a).go i H ∧ ∃ Nx : Hp → Prop, (∀ H', Nx H' → ∃ m', m' < m ∧ W (i + 1) m' H') ∧ ∀ x H', (Itl K a).yld i H x H' → g x (wipe σ vs) H' fun σ2 H2 => wipe σ2 vs = wipe σ vs ∧ tt σ2 H2 fun b H3 =>
        if b = true then te σ2 H3 fun y H4 => ∃ acc, H4 D = some (.lst acc) ∧ acc.length < sizeLine ∧ Nx (upd H4 D (.lst (acc ++ [y]))) else Nx H3) := by
  intro D hD
  refine ⟨fun i m H' => m = l.length - i ∧ i ≤ l.length ∧ H' = upd H D (.lst (iv ((l.take i).filter pr))), ⟨_, rfl, Nat.zero_le _, rfl⟩, ?_⟩
  rintro i m H' ⟨rfl, hi, rfl⟩
  have hz : (upd H D (.lst (iv ((l.take i).filter pr)))) a = some (.lst (iv l)) := by rw [upd_ne (ne_of_none ha hD)]; exact ha
  by_cases hlt : i < l.length
  · have hat : (iv l)[i]? = some (V.int ((l[i] : Nat) : Int)) := by unfold iv; rw [List.getElem?_map, List.getElem?_eq_getElem hlt]; rfl
    have et : l.take (i + 1) = l.take i ++ [l[i]] := by rw [List.take_add_one, List.getElem?_eq_getElem hlt]; rfl
    refine .inr ⟨⟨_, _, SqL.of hz, hat⟩, fun H2 => H2 = upd H D (.lst (iv ((l.take (i + 1)).filter pr))), fun H2 e => ⟨l.length - (i + 1), by omega, rfl, hlt, e⟩, ?_⟩
    rintro x H2 ⟨rfl, hy⟩
    have ex : V.int ((l[i] : Nat) : Int) = x := Option.some.inj (hat.symm.trans (hy _ (SqL.of hz)))
    subst ex
    refine turn _ _ _ _ (Same.fresh hD) (fun hp => ⟨_, upd_same, ?_, ?_⟩) (fun hp => ?_)
    · rw [iv_len]
      refine Nat.lt_of_le_of_lt (List.length_filter_le _ _) (small1000 ?_)
      rw [List.length_take]; omega
    · rw [upd2, et, List.filter_append, List.filter_cons, hp]
      simp [iv]
    · rw [et, List.filter_append, List.filter_cons, hp]
      simp
  · have e : i = l.length := by omega
    subst e
    rw [List.take_length]
    exact .inl ⟨⟨_, SqL.of (by rw [List.take_length] at hz; exact hz), by rw [iv_len]; exact Nat.le_refl _⟩, q D hD⟩
/-- o.f within a comprehension's block: the text's part is the def's own -/
theorem pe_fldK {X : Cx} {K : PySem.W.Frag} {e : Expr} {f : Str} {pos : Pos} {ta : TE} (hK : X.K = K) (he : PE X e ta) (hb : attributeBase e f X.env (eval e X.env) = eval e X.env) : PE X (.Attribute e f pos) (tFld K ta f) := by
  subst hK
  exact pe_fld he hb
theorem find_at {α : Type} {p : α → Bool} : ∀ {l : List α} {i : Nat} {x : α}, l[i]? = some x → p x = true → (∀ j y, j < i → l[j]? = some y → p y = false) → l.find? p = some x
  | [], _, _, h, _, _ => by simp at h
  | a :: l, 0, x, h, hp, _ => by
    simp at h; subst h
    rw [List.find?_cons, hp]
  | a :: l, i + 1, x, h, hp, hn => by
    have h0 := hn 0 a (Nat.succ_pos _) rfl
    rw [List.find?_cons, h0]
    exact find_at (l := l) (i := i) (by simpa using h) hp fun j y hj hy => hn (j + 1) y (Nat.succ_lt_succ hj) (by simpa using hy)
theorem find_no {α : Type} {p : α → Bool} {l : List α} (hn : ∀ j y, j < l.length → l[j]? = some y → p y = false) : l.find? p = none := by
  rw [List.find?_eq_none]
  intro x hx
  obtain ⟨j, hj⟩ := List.mem_iff_getElem?.mp hx
  rw [hn j x (List.getElem?_eq_some_iff.mp hj).1 hj]
  exact Bool.false_ne_true
def asgComp (s : Stmt) (j : Nat) : Scope := match (defBody s).getD j (.Pass ⟨0, 0, 0, 0⟩) with
  | .Assign _ (.ListComp _ _ sc _) _ => sc
  | _ => defScope s
section
variable {P : Program} {w : World} {K : PySem.W.Frag} {mg : Str → Option Value} {base : Heap} {Z : Cs}
theorem scWT : FnScope ["side", "room", "numbers", "behind", "before", "number"] ["side", "room"] (defScope sWT) := ⟨rfl, rfl, rfl, by decide +kernel, rfl, by decide +kernel, by decide +kernel⟩
theorem blkW1 : BlkOk ["side", "room", "numbers", "behind", "before", "number"] (defScope sWT) (asgComp sWT 1) [("number", 5)] := ⟨rfl, by decide +kernel, by decide +kernel, by decide +kernel, by decide +kernel⟩
theorem blkW2 : BlkOk ["side", "room", "numbers", "behind", "before", "number"] (defScope sWT) (asgComp sWT 2) [("number", 5)] := ⟨rfl, by decide +kernel, by decide +kernel, by decide +kernel, by decide +kernel⟩
theorem ok_wt {f : Addr} {fd : FuncData} (F : Fun K "whose_turn" "whose_turn" sWT f fd) (T : Txt K mg Z) (DC : Def P w K mg base 2 "can_send" ["side", "exchange", "room"] (spCS Z)) : FnOk P w K mg base CX0 3 f fd ["side", "room"] (spWT Z) := by
  refine F.ok scWT (fun vs H Q E h => ?_) (fun cdv A outer s0 H vs Q E hr h => ?_)
  · obtain ⟨p, room, s, L, rfl, _⟩ := h; rfl
  · obtain ⟨p, room, s, L, rfl, R, ok, q⟩ := h
    have hu := hu_of hr
    have c0 := T.con ("NOBODY", 0) (by decide +kernel)
    refine ⟨_, pss_cons (ps_set (i := 2) scWT.nd rfl (Or.inl rfl) (pe_callB (call_sortedD rfl) (by rfl) T.sorted (by decide +kernel) (pa_cons (pe_fld (pv 0) rfl) pa_nil)))
      (pss_cons (ps_setLc (i := 3) (own := [("number", 5)]) rfl scWT.nd rfl rfl (by rfl) (pi_list (pv 2)) blkW1 (fun _ _ _ _ _ => by exact pg_name (i := 5) scWT.nd rfl (Or.inl rfl)) (fun _ _ _ _ _ => by exact pts_one (pt_cmpR op_gt (pv 5) (pe_fldK (K := K) rfl (pv 0) rfl) (nomark _))) (fun _ _ _ _ _ => by exact pv 5))
      (pss_cons (ps_setLc (i := 4) (own := [("number", 5)]) rfl scWT.nd rfl rfl (by rfl) (pi_list (pv 2)) blkW2 (fun _ _ _ _ _ => by exact pg_name (i := 5) scWT.nd rfl (Or.inl rfl)) (fun _ _ _ _ _ => by exact pts_one (pt_cmpR op_le (pv 5) (pe_fldK (K := K) rfl (pv 0) rfl) (nomark _))) (fun _ _ _ _ _ => by exact pv 5))
      (pss_cons (ps_for PassesOwn.never rfl (pi_list (pe_op op_cat (pv 3) (pv 4))) (pg_name (i := 5) scWT.nd rfl (Or.inl rfl))
        (pss_one (ps_if (pt_val (pd DC hr (pa_cons (pv 0) (pa_cons (pe_dget hu (pe_fld (pv 0) rfl) (pv 5) (fun _ _ => rfl)) (pa_cons (pv 1) pa_nil))))) (pss_one (ps_ret (pv 5))) pss_nil)))
      (pss_one (ps_ret (pc c0)))))), ?_⟩
    -- numbers
    refine ⟨_, rfl, p, Z.S, L.dx, _, _, rfl, R.hp, T.cS, T.nS _ (by decide +kernel), sl_exchanges _ _ _ _, L.d, _, _, rfl, R.hd, keys_kvs L, fun ns a1 h1 h2 ha1 => ?_⟩
    have en := sorted_ids ok.srt R.ord h1 h2
    subst en
    rw [iv_ints]
    have hfew : (ids s).length ≤ 1000 := by rw [List.length_map]; exact ok.few
    have S1 : Same H _ := Same.fresh (o := .lst (iv (ids s))) ha1
    -- behind
    refine ⟨_, rfl, a1, rfl, ⟨_, SqL.of upd_same⟩, ?_⟩
    refine filter_lc (K := K) (a := a1) (l := ids s) (pr := fun i => decide (s.turn < i)) (g := gName 5) (tt := tTest (tOp (rI0 fun i j => V.bl (decide (j < i))) (tVar 5) (tFld K (tVar 0) "turn"))) (te := tVar 5) (vs := [5])
      (σ := [some (.ref p), some (.int (room : Int)), some (.ref a1), none, none, none]) upd_same hfew (fun n H' Y W0 S hy hn => ?_) fun a2 ha2 => ?_
    · refine ⟨rfl, _, rfl, _, rfl, p, Z.S, L.dx, _, _, rfl, S _ _ (S1 _ _ R.hp), T.cS, T.nS _ (by decide +kernel), sl_turn _ _ _ _, _, _, rfl, rfl, _, rfl, ?_⟩
      refine ite2 (fun hc => ?_) (fun hc => ?_)
      · have hc : (s.turn : Int) < (n : Int) := of_decide_eq_true hc
        exact ⟨_, rfl, hy (decide_eq_true (by omega))⟩
      · have hc : ¬ (s.turn : Int) < (n : Int) := fun z => hc (decide_eq_true z)
        exact hn (decide_eq_false (by omega))
    have S2 : Same H _ := S1.trans (Same.fresh (o := .lst (iv ((ids s).filter fun i => decide (s.turn < i)))) ha2)
    have k1 := Same.fresh (o := .lst (iv ((ids s).filter fun i => decide (s.turn < i)))) ha2 a1 _ upd_same
    -- before
    refine ⟨_, rfl, a1, rfl, ⟨_, SqL.of k1⟩, ?_⟩
    refine filter_lc (K := K) (a := a1) (l := ids s) (pr := fun i => decide (i ≤ s.turn)) (g := gName 5) (tt := tTest (tOp (rI0 fun i j => V.bl (decide (i ≤ j))) (tVar 5) (tFld K (tVar 0) "turn"))) (te := tVar 5) (vs := [5])
      (σ := [some (.ref p), some (.int (room : Int)), some (.ref a1), some (.ref a2), none, none]) k1 hfew (fun n H' Y W0 S hy hn => ?_) fun a3 ha3 => ?_
    · refine ⟨rfl, _, rfl, _, rfl, p, Z.S, L.dx, _, _, rfl, S _ _ (S2 _ _ R.hp), T.cS, T.nS _ (by decide +kernel), sl_turn _ _ _ _, _, _, rfl, rfl, _, rfl, ?_⟩
      refine ite2 (fun hc => ?_) (fun hc => ?_)
      · have hc : (n : Int) ≤ (s.turn : Int) := of_decide_eq_true hc
        exact ⟨_, rfl, hy (decide_eq_true (by omega))⟩
      · have hc : ¬ (n : Int) ≤ (s.turn : Int) := fun z => hc (decide_eq_true z)
        exact hn (decide_eq_false (by omega))
    have S3 : Same H _ := S2.trans (Same.fresh (o := .lst (iv ((ids s).filter fun i => decide (i ≤ s.turn)))) ha3)
    have k2 := Same.fresh (o := .lst (iv ((ids s).filter fun i => decide (i ≤ s.turn)))) ha3 a2 _ upd_same
    -- behind + before
    have hlt : (iv ((ids s).filter fun i => decide (s.turn < i)) ++ iv ((ids s).filter fun i => decide (i ≤ s.turn))) = iv (s.turns.map (·.id)) := by rw [turns_ids, iv_app]
    refine ⟨_, rfl, _, rfl, a2, a3, _, _, rfl, rfl, k2, upd_same, ?_, fun a4 ha4 => ?_⟩
    · rw [iv_len, iv_len]
      have g1 := List.length_filter_le (fun i => decide (s.turn < i)) (ids s)
      have g2 := List.length_filter_le (fun i => decide (i ≤ s.turn)) (ids s)
      exact fits (by omega)
    rw [hlt]
    have S4 : Same H _ := S3.trans (Same.fresh (o := .lst (iv (s.turns.map (·.id)))) ha4)
    refine ⟨a4, rfl, ⟨_, SqL.of upd_same⟩, for_list (K := K) (a := a4) (xs := iv (s.turns.map (·.id))) (fun i σ H' => ∃ v : Option V, σ = [some (.ref p), some (.int (room : Int)), some (.ref a1), some (.ref a2), some (.ref a3), v] ∧ Same H H' ∧ H' a4 = some (.lst (iv (s.turns.map (·.id)))) ∧
        ∀ j y, j < i → s.turns[j]? = some y → canB s room y = false)
      ⟨none, rfl, S4, upd_same, fun j y hj => absurd hj (Nat.not_lt_zero _)⟩ (fun i σ H' _ ⟨_, _, _, h1, _⟩ => SqL.of h1) ?_ ?_⟩
    · rintro i y σ H' hi ⟨v, rfl, S, h4, hn⟩
      obtain ⟨n, hn', rfl⟩ := iv_at hi
      rw [List.getElem?_map] at hn'
      cases ex : s.turns[i]? with
      | none => rw [ex] at hn'; cases hn'
      | some x =>
        rw [ex] at hn'
        have en : x.id = n := Option.some.inj hn'
        subst en
        have hm : x ∈ s.exchanges := mem_turns.mp (List.mem_of_getElem? ex)
        have R' := R.same S
        have g : DGet H' L.d (kV (Sum.inl (x.id : Int))) (some (V.ref (L.xa x.id))) := by rw [← R'.at_some (find_of_mem ok.srt hm)]; exact DGet.k R'.hd
        refine ⟨_, rfl, _, rfl, p, Z.S, L.dx, _, _, rfl, R'.hp, T.cS, T.nS _ (by decide +kernel), sl_exchanges _ _ _ _, _, rfl, L.d, _, rfl, g, _, rfl, p, room, s, L, x, rfl, R', hm, _, rfl, ?_⟩
        refine ite2 (fun hc => ?_) (fun hc => ?_)
        · refine ⟨_, rfl, ?_⟩
          have ew : who s room = x.id := by
            unfold who
            rw [find_at ex hc hn]
          rw [ew] at q
          exact q H' S
        · refine ⟨_, rfl, S, h4, fun j y hj hy => ?_⟩
          by_cases e : j = i
          · subst e
            rw [ex] at hy
            cases hy
            simpa using hc
          · exact hn j y (by omega) hy
    · rintro σ H' ⟨v, rfl, S, h4, hn⟩
      rw [iv_len, List.length_map] at hn
      have ew : who s room = 0 := by
        unfold who
        rw [find_no hn]
      rw [ew] at q
      exact q H' S
end
end Os
set_option linter.all false
set_option maxRecDepth 100000
namespace Os
open PySem PySem.Spec PyProof.Rows L2
open Sq01 (State Exchange Bytes)
section
variable {X : Cx} {a b : Expr} {ta tb : TE} {pos : Pos} {rest : List Expr}
/-- a and b, b's value told ahead -/
def tAndB (ta tb : TE) : TE := fun σ H Q => ta σ H fun x H1 => ∃ c, x = .bl c ∧ ∃ d, (c = true → tb σ H1 fun y H2 => y = .bl d ∧ H2 = H1) ∧ Q (.bl (c && d)) H1
theorem pe_andB (ha : PE X a ta) (hb : PE X (.BoolOp .And (b :: rest) pos) tb) : PE X (.BoolOp .And (a :: b :: rest) pos) (tAndB ta tb) := by
  intro pins s σ H Q I h
  refine BoolOp_and (thn (ha pins s σ H _ I h) fun v s1 ⟨x, H1, I1, r1, q1⟩ => ?_)
  obtain ⟨c, rfl, d, hd, q1⟩ := q1
  cases r1
  refine wpAny_truthy_bool ?_
  cases c with
  | true => exact thn (hb pins s1 σ H1 _ I1 (hd rfl)) fun v s2 ⟨y, H2, I2, r2, e1, e2⟩ => by subst e1 e2; exact ⟨_, _, I2, r2, q1⟩
  | false => exact ⟨.bl false, H1, I1, rfl, q1⟩
/-- .. as a test -/
def tAndT (t u : TT) : TT := fun σ H Q => t σ H fun c H1 => ∃ d, (c = true → u σ H1 fun b H2 => b = d ∧ H2 = H1) ∧ Q (c && d) H1
theorem pw_andB {tA tB' : TT} (ha : PT X a tA) (hb : PW X (.BoolOp .And (b :: rest) pos) tB') : PW X (.BoolOp .And (a :: b :: rest) pos) (tAndT tA tB') := by
  intro wh pins s σ H Q I h
  refine isTrue_and (thn (ha pins s σ H _ I h) fun c s1 ⟨H1, I1, d, hd, q⟩ => ?_)
  cases c with
  | true => exact thn (hb wh pins s1 σ H1 _ I1 (hd rfl)) fun b' s2 ⟨H2, I2, e1, e2⟩ => by subst e1 e2; exact ⟨_, I2, q⟩
  | false => exact ⟨H1, I1, q⟩
end
section
variable {P : Program} {w : World} {K : PySem.W.Frag} {mg : Str → Option Value} {base : Heap} {Z : Cs}
theorem size_le (s : State) (x : Exchange) (m : Nat) : size s x m ≤ x.out.length ∧ size s x m ≤ x.credit ∧ size s x m ≤ s.credit ∧ size s x m ≤ 1024 := by unfold size; omega
theorem sentBy_eq (s : State) (x : Exchange) (m : Nat) : sentBy s x (cut s x m) = { (s.set { x with out := x.out.drop (size s x m), credit := x.credit - size s x m, sent := x.ended && (x.out.drop (size s x m)).isEmpty }) with credit := s.credit - size s x m, turn := x.id } := by
  unfold sentBy
  rw [cut_len]
  rfl
theorem scSP : FnScope ["side", "number", "room", "exchange", "size", "piece"] ["side", "number", "room"] (defScope sSP) := ⟨rfl, rfl, rfl, by decide +kernel, rfl, by decide +kernel, by decide +kernel⟩
theorem ok_sp {f : Addr} {fd : FuncData} (F : Fun K "send_piece" "send_piece" sSP f fd) (T : Txt K mg Z) (DP : Def P w K mg base 1 "piece_size" ["side", "exchange", "room"] (spPS Z)) (DD : Def P w K mg base 3 "data_frame" ["number", "last", "body"] spDF) :
    FnOk P w K mg base CX0 4 f fd ["side", "number", "room"] (spSP Z) := by
  refine F.ok scSP (fun vs H Q E h => ?_) (fun cdv A outer s0 H vs Q E hr h => ?_)
  · obtain ⟨p, room, s, L, x, rfl, _⟩ := h; rfl
  · obtain ⟨p, room, s, L, x, rfl, R, ok, hm, h8, q⟩ := h
    have hu := hu_of hr
    have hr1 : Room 1 _ := hr.mono (by decide)
    have Ex := R.ex x hm
    obtain ⟨dx, hob⟩ := Ex.ob
    have xo := ok.xs x hm
    refine ⟨_, pss_cons (ps_set (i := 3) scSP.nd rfl (Or.inl rfl) (pe_dget hu (pe_fld (pv 0) rfl) (pv 1) (fun _ _ => rfl)))
      (pss_cons (ps_set (i := 4) scSP.nd rfl (Or.inl rfl) (pd DP hr1 (pa_cons (pv 0) (pa_cons (pv 3) (pa_cons (pv 2) pa_nil)))))
      (pss_cons (ps_set (i := 5) scSP.nd rfl (Or.inl rfl) (pe_slice sl_list (pe_fld (pv 3) rfl) po_none (po_some (pv 4))))
      (pss_cons (ps_fld (pv 3) (pe_slice sl_list (pe_fld (pv 3) rfl) (po_some (pv 4)) po_none) rfl)
      (pss_cons (ps_fldaug (pv 3) (pv 4) in_sub)
      (pss_cons (ps_fldaug (pv 0) (pv 4) in_sub)
      (pss_cons (ps_fld (pv 3) (pe_andB (pe_fld (pv 3) rfl) (pe_one (pe_cmpR op_eq (pe_callB call_len_seq (by rfl) T.len PySem.boot_len (pa_cons (pe_fld (pv 3) rfl) pa_nil)) pe_int (nomark _)))) rfl)
      (pss_cons (ps_fld (pv 0) (pv 1) rfl)
      (pss_one (ps_ret (pd DD hr (pa_cons (pv 1) (pa_cons (pe_fld (pv 3) rfl) (pa_cons (pv 5) pa_nil))))))))))))), ?_⟩
    have g : DGet H L.d (kV (Sum.inl (x.id : Int))) (some (V.ref (L.xa x.id))) := by rw [← R.at_some (find_of_mem ok.srt hm)]; exact DGet.k R.hd
    refine ⟨_, rfl, p, Z.S, L.dx, _, _, rfl, R.hp, T.cS, T.nS _ (by decide +kernel), sl_exchanges _ _ _ _, _, rfl, L.d, _, rfl, g, ?_⟩
    refine ⟨_, rfl, _, rfl, _, rfl, p, room, s, L, x, rfl, R, hm, ?_⟩
    rw [sentBy_eq] at q
    have ecut : cut s x (room - 8) = ⟨1, x.ended && (x.out.drop (size s x (room - 8))).isEmpty, x.id, x.out.take (size s x (room - 8))⟩ := rfl
    rw [ecut] at q
    have esz : sizeI s x room = ((size s x (room - 8) : Nat) : Int) := if_pos h8
    rw [esz]
    obtain ⟨hs1, hs2, hs3, hs4⟩ := size_le s x (room - 8)
    generalize size s x (room - 8) = k at q hs1 hs2 hs3 hs4
    -- piece, waiting
    refine ⟨_, rfl, L.xa x.id, Z.X, dx, _, _, rfl, hob, T.cX, T.nX _ (by decide +kernel), xl_waiting _ _ _, _, rfl, _, rfl, L.wa x.id, _, rfl, SqL.of Ex.wt, fun a1 ha1 => ?_⟩
    rw [cut_head _ k (by rw [iv_len]; exact hs1), ← iv_take]
    have NA : Now Z p (upd H a1 (.lst (iv (x.out.take k)))) L (upd H a1 (.lst (iv (x.out.take k)))) s L := Now.of (R.fresh ha1)
    have ga1 := R.free ha1
    have n1 : L.xa x.id ≠ a1 := gne0 Ex.gx ga1
    have n2 : L.wa x.id ≠ a1 := gne0 Ex.gw ga1
    have hob1 : (upd H a1 (.lst (iv (x.out.take k)))) (L.xa x.id) = some (.ins Z.X dx (xF x (L.wa x.id) (L.ua x.id))) := by rw [upd_ne n1]; exact hob
    refine ⟨_, rfl, L.xa x.id, Z.X, dx, _, _, rfl, hob1, T.cX, T.nX _ (by decide +kernel), xl_waiting _ _ _, _, rfl, _, rfl, L.wa x.id, _, rfl, SqL.of (by rw [upd_ne n2]; exact Ex.wt), fun a2 ha2 => ?_⟩
    rw [cut_tail _ k (by rw [iv_len]; exact hs1), ← iv_drop]
    have NB := NA.new (o := .lst (iv (x.out.drop k))) ha2
    have n3 : L.xa x.id ≠ a2 := ne_of_none hob1 ha2
    refine ⟨_, rfl, L.xa x.id, Z.X, dx, _, rfl, (by rw [upd_ne n3]; exact hob1), T.cX, T.nX _ (by decide +kernel), small_x _ _ _, ?_⟩
    rw [xp_waiting]
    have N1 := NB.waitsNew (b := x.out.drop k) (dx := dx) hm upd_same (NA.rep.free ha2) (.of ha2)
    have hidm : x.id ∈ ids s := List.mem_map.mpr ⟨x, hm, rfl⟩
    have srtS : ∀ y : Exchange, (ids (s.set y)).Pairwise (· < ·) := fun y => by rw [set_ids]; exact ok.srt
    -- exchange.credit -= size
    refine ⟨_, rfl, L.xa x.id, Z.X, dx, _, _, rfl, upd_same, T.cX, T.nX _ (by decide +kernel), xl_credit _ _ _, _, rfl, _, _, rfl, rfl, dx, _, upd_same, small_x _ _ _, ?_⟩
    rw [xp_credit (n := x.credit - k) (h := ?hh)]
    case hh => omega
    have wa1 : (if x.id = x.id then a2 else L.wa x.id) = a2 := if_pos rfl
    have N2 := N1.wx (srtS _) (x := { x with out := x.out.drop k }) (y := { x with out := x.out.drop k, credit := x.credit - k }) (dx := dx) (mem_set_self (x := { x with out := x.out.drop k }) hidm) rfl rfl rfl
    rw [set_set (s := s) (y := { x with out := x.out.drop k }) (z := { x with out := x.out.drop k, credit := x.credit - k }) rfl] at N2
    dsimp only at N2
    rw [wa1] at N2
    -- side.credit -= size
    refine ⟨_, rfl, p, Z.S, L.dx, _, _, rfl, N2.rep.hp, T.cS, T.nS _ (by decide +kernel), sl_credit _ _ _ _, _, rfl, _, _, rfl, rfl, L.dx, _, N2.rep.hp, small_s _ _ _ _, ?_⟩
    rw [sp_credit (n := s.credit - k) (h := ?hh)]
    case hh =>
      show (s.credit : Int) - (k : Int) = _
      omega
    have N3 := N2.ws (t := { (s.set { x with out := x.out.drop k, credit := x.credit - k }) with credit := s.credit - k }) rfl rfl
    -- exchange.last_sent = ..
    have hm3 : ({ x with out := x.out.drop k, credit := x.credit - k } : Exchange) ∈ ({ (s.set { x with out := x.out.drop k, credit := x.credit - k }) with credit := s.credit - k } : State).exchanges := mem_set_self (x := { x with out := x.out.drop k, credit := x.credit - k }) hidm
    have E3 := N3.rep.ex _ hm3
    obtain ⟨dx3, hob3⟩ := E3.ob
    dsimp only at hob3
    rw [wa1] at hob3
    have hw3 := E3.wt
    dsimp only at hw3
    rw [wa1] at hw3
    refine ⟨_, rfl, L.xa x.id, Z.X, dx3, _, _, rfl, hob3, T.cX, T.nX _ (by decide +kernel), xl_ended _ _ _, x.ended, rfl, (x.out.drop k).isEmpty, fun _ => ⟨_, rfl, L.xa x.id, Z.X, dx3, _, _, rfl, hob3, T.cX, T.nX _ (by decide +kernel), xl_waiting _ _ _, a2, _, rfl, .inl (SqL.of hw3), rfl, ?_, rfl⟩, ?_⟩
    · rw [iv_len]
      congr 1
      cases x.out.drop k with
      | nil => rfl
      | cons c l =>
        simp
        omega
    refine ⟨_, rfl, L.xa x.id, Z.X, dx3, _, rfl, hob3, T.cX, T.nX _ (by decide +kernel), small_x _ _ _, ?_⟩
    rw [xp_sent]
    have N4 := N3.wx (srtS _) (y := { x with out := x.out.drop k, credit := x.credit - k, sent := x.ended && (x.out.drop k).isEmpty }) (dx := dx3) hm3 rfl rfl rfl
    have e4 : ({ (s.set { x with out := x.out.drop k, credit := x.credit - k }) with credit := s.credit - k } : State).set { x with out := x.out.drop k, credit := x.credit - k, sent := x.ended && (x.out.drop k).isEmpty } =
        { (s.set { x with out := x.out.drop k, credit := x.credit - k, sent := x.ended && (x.out.drop k).isEmpty }) with credit := s.credit - k } := by
      rw [← set_set (s := s) (y := { x with out := x.out.drop k, credit := x.credit - k }) (z := { x with out := x.out.drop k, credit := x.credit - k, sent := x.ended && (x.out.drop k).isEmpty }) rfl]
      rfl
    rw [e4] at N4
    dsimp only at N4
    rw [wa1] at N4
    -- side.turn = number
    refine ⟨_, rfl, _, rfl, p, Z.S, L.dx, _, rfl, N4.rep.hp, T.cS, T.nS _ (by decide +kernel), small_s _ _ _ _, ?_⟩
    rw [sp_turn (n := x.id) (h := ?hh)]
    case hh => rfl
    have N5 := N4.ws (t := { (s.set { x with out := x.out.drop k, credit := x.credit - k, sent := x.ended && (x.out.drop k).isEmpty }) with credit := s.credit - k, turn := x.id }) rfl rfl
    have hm5 : ({ x with out := x.out.drop k, credit := x.credit - k, sent := x.ended && (x.out.drop k).isEmpty } : Exchange) ∈ ({ (s.set { x with out := x.out.drop k, credit := x.credit - k, sent := x.ended && (x.out.drop k).isEmpty }) with credit := s.credit - k, turn := x.id } : State).exchanges :=
      mem_set_self (x := { x with out := x.out.drop k, credit := x.credit - k, sent := x.ended && (x.out.drop k).isEmpty }) hidm
    obtain ⟨dx5, hob5⟩ := (N5.rep.ex _ hm5).ob
    dsimp only at hob5
    obtain ⟨ka, _⟩ := N5.ext a1 _ upd_same ga1
    refine ⟨_, rfl, _, rfl, L.xa x.id, Z.X, dx5, _, _, rfl, hob5, T.cX, T.nX _ (by decide +kernel), xl_sent _ _ _, _, rfl, x.id, x.ended && (x.out.drop k).isEmpty, a1, x.out.take k, rfl, ka, ?_, fun H' a S hn ha => ?_⟩
    · rw [List.length_take]; omega
    have N6 := ((Now.of R).new ha1).trans (N5.same S)
    exact q _ _ a N6 ((((Now.of R).new ha1).trans N5).ext.new hn) ha (N5.rep.free hn)
end
end Os
set_option linter.all false
set_option maxRecDepth 100000
namespace Os
open PySem PySem.Spec PyProof.Rows L2
open Sq01 (State Exchange Bytes)
/-- a list of bytes handed back, the side at t -/
def Hands (Z : Cs) (p : Addr) (H : Hp) (L : Lay) (t : State) (b : Bytes) (Q : VK) : Prop := ∀ H' L' q, Now Z p H L H' t L' → New H L q → H' q = some (.lst (iv b)) → L'.G q = none → Q (.ref q) H'
def spSF1 (Z : Cs) : Sp := fun vs H Q _ => ∃ (p : Addr) (room : Nat) (s : State) (L : Lay), vs = [.ref p, .int room] ∧ Rep Z H p s L ∧ room ≤ 1048576 ∧ s.first.length ≤ 10000000 ∧ Hands Z p H L { s with first := (sendFirst s.first room).2 } (sendFirst s.first room).1 Q
def spSD (Z : Cs) : Sp := fun vs H Q _ => ∃ (p : Addr) (room : Nat) (s : State) (L : Lay), vs = [.ref p, .int room] ∧ Rep Z H p s L ∧ Ok s ∧ room ≤ 1048576 ∧ s.first = [] ∧ s.dead = false ∧ Hands Z p H L (sends s room).2 (sends s room).1 Q
def spOut (Z : Cs) : Sp := fun vs H Q _ => ∃ (p : Addr) (m : Nat) (s : State) (L : Lay), vs = [.ref p, .int m] ∧ Rep Z H p s L ∧ Ok s ∧ s.first.length ≤ 10000000 ∧ Answers Z p H L (Sq01.step s (.out m)) Q
section
variable {P : Program} {w : World} {K : PySem.W.Frag} {mg : Str → Option Value} {base : Heap} {Z : Cs}
theorem scSF1 : FnScope ["side", "room", "sent", "done"] ["side", "room"] (defScope sSF1) := ⟨rfl, rfl, rfl, by decide +kernel, rfl, by decide +kernel, by decide +kernel⟩
theorem ok_sf1 {f : Addr} {fd : FuncData} (F : Fun K "send_first" "send_first" sSF1 f fd) (T : Txt K mg Z) : FnOk P w K mg base CX0 1 f fd ["side", "room"] (spSF1 Z) := by
  refine F.ok scSF1 (fun vs H Q E h => ?_) (fun cdv A outer s0 H vs Q E hr h => ?_)
  · obtain ⟨p, room, s, L, rfl, _⟩ := h; rfl
  · obtain ⟨p, room, s, L, rfl, R, hroom, hfl, q⟩ := h
    refine ⟨_, pss_cons (ps_set (i := 2) scSF1.nd rfl (Or.inl rfl) (pe_lst pa_nil)) (pss_cons (ps_set (i := 3) scSF1.nd rfl (Or.inl rfl) pe_int) (pss_cons (ps_while PassesOwn.never (PW.pt (pw_andB (pt_cmpR op_lt (pv 3) (pe_callB call_len_seq (by rfl) T.len PySem.boot_len (pa_cons (pe_fld (pv 0) rfl) pa_nil)) (nomark _)) (pw_and1 (pt_cmpR op_le (pe_op op_add (pe_callB call_len_seq (by rfl) T.len PySem.boot_len (pa_cons (pv 2) pa_nil)) (pe_callB call_len_seq (by rfl) T.len PySem.boot_len (pa_cons (pe_ix ix_list (pe_fld (pv 0) rfl) (pv 3) (fun _ _ => rfl)) pa_nil))) (pv 1) (nomark _))))) (pss_cons (ps_expr (pextend (pv 2) (pa_cons (pe_ix ix_list (pe_fld (pv 0) rfl) (pv 3) (fun _ _ => rfl)) pa_nil))) (pss_one (ps_aug (i := 3) scSF1.nd rfl (Or.inl rfl) pe_int ip_add)))) (pss_cons (ps_fld (pv 0) (pe_slice sl_list (pe_fld (pv 0) rfl) (po_some (pv 3)) po_none) rfl) (pss_one (ps_ret (pv 2)))))), ?_⟩
    refine ⟨Nat.zero_le _, fun a ha => ?_⟩
    have ga := R.free ha
    generalize hfl' : (fun n : Nat => (s.first.take n).flatMap Sq01.Frame.bytes) = fl
    have fl0 : fl 0 = [] := by rw [← hfl']; rfl
    refine ⟨fun m σ H' => ∃ d, m = s.first.length - d ∧ d ≤ s.first.length ∧ (fl d).length ≤ room ∧ σ = [some (.ref p), some (.int (room : Int)), some (.ref a), some (.int (d : Int))] ∧ H' = upd H a (.lst (iv (fl d))), ⟨_, 0, rfl, Nat.zero_le _, by rw [fl0]; exact Nat.zero_le _, rfl, by rw [fl0]; rfl⟩, ?_⟩
    rintro m σ H' ⟨d, rfl, hd, hlen, rfl, rfl⟩
    have R' : Rep Z (upd H a (.lst (iv (fl d)))) p s L := R.fresh ha
    have faL : (L.fa.map V.ref).length = s.first.length := by rw [List.length_map]; exact R.faLen
    have R'l : ∀ f', s.first[d]? = some f' → ∃ a', (L.fa.map V.ref)[d]? = some (V.ref a') ∧ (upd H a (.lst (iv (fl d)))) a' = some (.lst (iv f'.bytes)) := fun f' hf' => by
      obtain ⟨a', h1, h2⟩ := paired_at R'.fr hf'
      exact ⟨a', by rw [List.getElem?_map, h1]; rfl, h2.1⟩
    refine ⟨_, rfl, _, rfl, p, Z.S, L.dx, _, _, rfl, R'.hp, T.cS, T.nS _ (by decide +kernel), sl_first _ _ _ _, L.l, _, rfl, .inl (SqL.of R'.hl), _, _, rfl, rfl, _, rfl,
      (match s.first[d]? with
        | some f' => decide ((fl d).length + f'.bytes.length ≤ room)
        | none => false), fun hc => ?_, ?_⟩
    · have hc : (d : Int) < ((L.fa.map V.ref).length : Int) := of_decide_eq_true hc
      rw [faL] at hc
      have hf' : s.first[d]? = some s.first[d] := List.getElem?_eq_getElem (by omega)
      obtain ⟨a', e1, e2⟩ := R'l _ hf'
      refine ⟨_, rfl, a, _, rfl, .inl (SqL.of upd_same), _, rfl, p, Z.S, L.dx, _, _, rfl, R'.hp, T.cS, T.nS _ (by decide +kernel), sl_first _ _ _ _, _, rfl, L.l, _, _, _, rfl, rfl, SqL.of R'.hl, atI_nat e1, a', _, rfl, .inl (SqL.of e2), _, _, rfl, rfl, _, rfl, _, _, rfl, rfl, _, rfl, ?_, rfl⟩
      rw [hf', iv_len, iv_len]
      dsimp only
      by_cases z : (fl d).length + (Sq01.Frame.bytes s.first[d]).length ≤ room
      · rw [decide_eq_true z, decide_eq_true (by omega)]
      · rw [decide_eq_false z, decide_eq_false (by omega)]
    rw [faL]
    refine ite2 (fun hc => ?_) (fun hc => ?_)
    · rw [Bool.and_eq_true] at hc
      obtain ⟨hc1, hc2⟩ := hc
      have hc1 : (d : Int) < (s.first.length : Int) := of_decide_eq_true hc1
      have hf' : s.first[d]? = some s.first[d] := List.getElem?_eq_getElem (by omega)
      rw [hf'] at hc2
      have hc2 : (fl d).length + (Sq01.Frame.bytes s.first[d]).length ≤ room := of_decide_eq_true hc2
      obtain ⟨a', e1, e2⟩ := R'l _ hf'
      have efl : fl (d + 1) = fl d ++ (Sq01.Frame.bytes s.first[d]) := by rw [← hfl']; exact flat_snoc hf'
      refine ⟨fun σ' H' => σ' = [some (.ref p), some (.int (room : Int)), some (.ref a), some (.int ((d + 1 : Nat) : Int))] ∧ H' = upd H a (.lst (iv (fl (d + 1)))), fun σ' H' ⟨h1, h2⟩ => ⟨s.first.length - (d + 1), by omega, d + 1, rfl, by omega, by rw [efl, List.length_append]; exact hc2, h1, h2⟩, ?_⟩
      refine ⟨_, rfl, .inl ⟨rfl, _, SqL.of upd_same⟩, _, rfl, p, Z.S, L.dx, _, _, rfl, R'.hp, T.cS, T.nS _ (by decide +kernel), sl_first _ _ _ _, _, rfl, L.l, _, _, _, rfl, rfl, SqL.of R'.hl, atI_nat e1, a, a', _, _, rfl, rfl, upd_same, e2, ?_, ?_⟩
      · rw [iv_len, iv_len]; exact fits (by omega)
      refine ⟨_, rfl, _, _, rfl, rfl, rfl, ?_⟩
      rw [upd2, efl, iv_app]
    · have ef : sendFirst s.first room = (fl d, s.first.drop d) := by
        rw [← hfl']
        refine sendFirst_end hd (by rw [← hfl'] at hlen; exact hlen) fun f' hf' => ?_
        rcases Nat.lt_or_ge room (((s.first.take d).flatMap Sq01.Frame.bytes).length + f'.bytes.length) with z | z
        · exact z
        · refine absurd ?_ hc
          rw [Bool.and_eq_true, hf']
          have hlt := (List.getElem?_eq_some_iff.mp hf').1
          refine ⟨decide_eq_true (by omega), decide_eq_true ?_⟩
          rw [← hfl']; exact z
      rw [ef] at q
      refine ⟨_, rfl, p, Z.S, L.dx, _, _, rfl, R'.hp, T.cS, T.nS _ (by decide +kernel), sl_first _ _ _ _, _, rfl, _, rfl, L.l, _, rfl, SqL.of R'.hl, fun b hb => ?_⟩
      rw [cut_tail _ d (by rw [faL]; exact hd), ← List.map_drop]
      have R2 : Rep Z (upd (upd H a (.lst (iv (fl d)))) b (.lst ((L.fa.drop d).map V.ref))) p s L := R'.fresh hb
      have nbp : p ≠ b := ne_of_none R'.hp hb
      refine ⟨_, rfl, p, Z.S, L.dx, _, rfl, R2.hp, T.cS, T.nS _ (by decide +kernel), small_s _ _ _ _, ?_⟩
      rw [sp_first]
      have N3 : Now Z p H L _ _ _ := ⟨R2.firstNew (n := d) (q := b) upd_same (R'.free hb), fun c o e g => by
        have n1 : c ≠ a := ne_of_none e ha
        have n2 : c ≠ b := fun z => by
          rw [z] at e
          have := Same.fresh (o := .lst (iv (fl d))) ha b o e
          rw [hb] at this; cases this
        refine ⟨?_, ?_⟩
        · rw [upd_ne (fun z => by rw [z, R.gp] at g; cases g), upd_ne n2, upd_ne n1]; exact e
        · show (L.tag b .first).G c = none
          rw [tag_ne n2]; exact g, rfl⟩
      refine ⟨_, rfl, q _ _ a N3 (.of ha) ?_ ?_⟩
      · have nab : a ≠ b := (upd_none hb).1.symm
        rw [upd_ne (fun z => by rw [z, R.gp] at ga; cases ga), upd_ne nab, upd_same]
      · show (L.tag b .first).G a = none
        rw [tag_ne (upd_none hb).1.symm]; exact ga
end
end Os
set_option linter.all false
set_option maxRecDepth 100000
namespace Os
open PySem PySem.Spec PyProof.Rows L2
open Sq01 (State Exchange Bytes)
abbrev sF0 : Stmt := inClass (top 43) 0
abbrev sF1 : Stmt := inClass (top 43) 1
abbrev sNO : Stmt := top 44
abbrev sWH : Stmt := top 45
abbrev sWF : Stmt := top 46
abbrev sIF : Stmt := top 47
abbrev sNF : Stmt := top 48
abbrev sHA : Stmt := top 49
abbrev sBF : Stmt := top 50
/-- a Frame's attributes -/
def fF (n k fl i : Nat) (b : Addr) : List (Str × V) := [("size", .int n), ("kind", .int k), ("flags", .int fl), ("number", .int i), ("body", .ref b)]
section
variable (n k fl i : Nat) (b : Addr)
theorem fl_size : (fF n k fl i b).lookup ("size" : Str) = some (.int n) := by kernel_rfl
theorem fl_kind : (fF n k fl i b).lookup ("kind" : Str) = some (.int k) := by kernel_rfl
theorem fl_flags : (fF n k fl i b).lookup ("flags" : Str) = some (.int fl) := by kernel_rfl
theorem fl_number : (fF n k fl i b).lookup ("number" : Str) = some (.int i) := by kernel_rfl
theorem fl_body : (fF n k fl i b).lookup ("body" : Str) = some (.ref b) := by kernel_rfl
theorem fl_m1 : (fF n k fl i b).lookup ("body_number" : Str) = none := by kernel_rfl
theorem fp_body (a : Addr) : putF "body" (.ref a) (fF n k fl i b) = fF n k fl i a := by kernel_rfl
theorem finit_eq : putF "body" (.ref b) (putF "number" (.int i) (putF "flags" (.int fl) (putF "kind" (.int k) (putF "size" (.int n) [])))) = fF n k fl i b := by kernel_rfl
theorem small_f : (fF n k fl i b).length < 1000 := by show 5 < 1000; decide
end
theorem cut_mid (xs : List V) (a b : Nat) (h1 : a ≤ b) (h2 : b ≤ xs.length) : cutV xs (some (a : Int)) (some (b : Int)) = (xs.drop a).take (b - a) := by
  unfold cutV
  rw [HT.sIx_nat, HT.sIx_nat, Nat.min_eq_left h2, Nat.min_eq_left (Nat.le_trans h1 h2)]
def spNO : Sp := fun vs H Q _ => ∃ (a : Addr) (b : List Nat), vs = [.ref a] ∧ H a = some (.lst (iv b)) ∧ Q (.int (Sq01.number b : Nat)) H
def spF0 (Z : Cs) : Sp := fun vs H Q _ => ∃ (p dx h : Addr) (d : List Nat), vs = [.ref p, .ref h] ∧ H p = some (.ins Z.F dx []) ∧ H h = some (.lst (iv d)) ∧ d.length = 8 ∧
  ∀ H' b, H' p = some (.ins Z.F dx (fF (Sq01.number (d.take 2)) (d.getD 2 0) (d.getD 3 0) (Sq01.number ((d.drop 4).take 4)) b)) → (∀ b o, H b = some o → b ≠ p → H' b = some o) → Q .non H'
def spF1 (Z : Cs) : Sp := fun vs H Q _ => ∃ (a dx b : Addr) (n k fl i : Nat) (body : List Nat), vs = [.ref a] ∧ H a = some (.ins Z.F dx (fF n k fl i b)) ∧ H b = some (.lst (iv body)) ∧ Q (.int (Sq01.number body : Nat)) H
def spWH (Z : Cs) : Sp := fun vs H Q _ => ∃ (a dx b : Addr) (n k fl i : Nat), vs = [.ref a] ∧ H a = some (.ins Z.F dx (fF n k fl i b)) ∧ Q (.int ((if 4096 < n then 1 else if 1 < fl then 2 else 0 : Nat) : Int)) H
/-- the object of a frame without its body's bytes -/
def FAt0 (Z : Cs) (H : Hp) (a : Addr) (f : Sq01.Frame) (b : Addr) : Prop := ∃ dx, H a = some (.ins Z.F dx (fF f.body.length f.kind (Sq01.bit f.last) f.id b))
def spNF (Z : Cs) : Sp := fun vs H Q _ => ∃ (a b : Addr) (f : Sq01.Frame), vs = [.ref a] ∧ FAt0 Z H a f b ∧ Q (.bl (if f.kind = 3 then decide (f.id ≠ 0) else decide (f.kind = 2) || decide (f.id = 0))) H
def spIF (Z : Cs) : Sp := fun vs H Q _ => ∃ (a b : Addr) (f : Sq01.Frame), vs = [.ref a] ∧ FAt0 Z H a f b ∧ Q (.bl f.good) H
def spWF (Z : Cs) : Sp := fun vs H Q _ => ∃ (a b : Addr) (f : Sq01.Frame), vs = [.ref a] ∧ FAt0 Z H a f b ∧ Q (.int ((if f.good = true then 0 else 2 : Nat) : Int)) H
def spHA (Z : Cs) : Sp := fun vs H Q _ => ∃ (u : Addr) (j : Nat) (c : List Nat), vs = [.ref u, .int j] ∧ H u = some (.lst (iv c)) ∧ c.length ≤ 1000000 ∧ ((c.drop j).length < 8 → j ≤ c.length → Q .non H) ∧ j ≤ c.length ∧
  (¬ (c.drop j).length < 8 → ∀ H' a dx b, Same H H' → H a = none → H' a = some (.ins Z.F dx (fF (Sq01.number ((c.drop j).take 2)) ((c.drop j).getD 2 0) ((c.drop j).getD 3 0) (Sq01.number (((c.drop j).drop 4).take 4)) b)) → Q (.ref a) H')
def spBF (Z : Cs) : Sp := fun vs H Q _ => ∃ (a dx b : Addr) (n k fl i j : Nat), vs = [.ref a, .int j] ∧ H a = some (.ins Z.F dx (fF n k fl i b)) ∧ Q (.int ((j + 8 + n : Nat) : Int)) H
theorem number_take {b : List Nat} {i n : Nat} (h : b[i]? = some n) : Sq01.number (b.take (i + 1)) = 256 * Sq01.number (b.take i) + n := by
  rw [List.take_add_one, h]
  exact number_snoc _ _
section
variable {P : Program} {w : World} {K : PySem.W.Frag} {mg : Str → Option Value} {base : Heap} {Z : Cs}
theorem scNO : FnScope ["row", "value", "byte"] ["row"] (defScope sNO) := ⟨rfl, rfl, rfl, by decide +kernel, rfl, by decide +kernel, by decide +kernel⟩
theorem ok_no {f : Addr} {fd : FuncData} (F : Fun K "number_of" "number_of" sNO f fd) : FnOk P w K mg base CX0 1 f fd ["row"] spNO := by
  refine F.ok scNO (fun vs H Q E h => ?_) (fun cdv A outer s0 H vs Q E hr h => ?_)
  · obtain ⟨a, b, rfl, _⟩ := h; rfl
  · obtain ⟨a, b, rfl, ha, q⟩ := h
    refine ⟨_, pss_cons (ps_set (i := 1) scNO.nd rfl (Or.inl rfl) pe_int) (pss_cons (ps_for PassesOwn.never rfl (pi_list (pv 0)) (pg_name (i := 2) scNO.nd rfl (Or.inl rfl))
      (pss_one (ps_set (i := 1) scNO.nd rfl (Or.inl rfl) (pe_op op_add (pe_op op_mul (pv 1) pe_int) (pv 2))))) (pss_one (ps_ret (pv 1)))), ?_⟩
    refine ⟨_, rfl, a, rfl, ⟨_, SqL.of ha⟩, for_list (K := K) (a := a) (xs := iv b) (fun i σ H' => ∃ v : Option V, σ = [some (.ref a), some (.int (Sq01.number (b.take i) : Nat)), v] ∧ H' = H) ⟨none, rfl, rfl⟩ (fun i σ H' _ ⟨_, _, e⟩ => by rw [e]; exact SqL.of ha) ?_ ?_⟩
    · rintro i y σ H' hi ⟨v, rfl, rfl⟩
      obtain ⟨n, hn, rfl⟩ := iv_at hi
      refine ⟨_, rfl, _, _, rfl, rfl, .inr ⟨by decide, by decide⟩, _, rfl, _, _, rfl, rfl, some (V.int (n : Int)), ?_, rfl⟩
      rw [number_take hn]
      have e : ((Sq01.number (b.take i) : Nat) : Int) * 256 + (n : Int) = ((256 * Sq01.number (b.take i) + n : Nat) : Int) := by omega
      rw [← e]
      rfl
    · rintro σ H' ⟨v, rfl, rfl⟩
      rw [iv_len, List.take_length]
      exact ⟨_, rfl, q⟩
theorem scF0 : FnScope ["self", "head"] ["self", "head"] (defScope sF0) := ⟨rfl, rfl, rfl, by decide +kernel, rfl, by decide +kernel, by decide +kernel⟩
theorem ok_f0 {f : Addr} {fd : FuncData} (F : Fun K "__init__" "Frame.__init__" sF0 f fd) (T : Txt K mg Z) (DN : Def P w K mg base 1 "number_of" ["row"] spNO) : FnOk P w K mg base CX0 2 f fd ["self", "head"] (spF0 Z) := by
  refine F.ok scF0 (fun vs H Q E h => ?_) (fun cdv A outer s0 H vs Q E hr h => ?_)
  · obtain ⟨p, dx, h', d, rfl, _⟩ := h; rfl
  · obtain ⟨p, dx, hd, d, rfl, hp, hh, hl, q⟩ := h
    refine ⟨_, pss_cons (ps_fld (pv 0) (pd DN hr (pa_cons (pe_slice sl_list (pv 1) (po_some pe_int) (po_some pe_int)) pa_nil)) rfl)
      (pss_cons (ps_fld (pv 0) (pe_ix ix_list (pv 1) pe_int (fun _ _ => rfl)) rfl) (pss_cons (ps_fld (pv 0) (pe_ix ix_list (pv 1) pe_int (fun _ _ => rfl)) rfl)
      (pss_cons (ps_fld (pv 0) (pd DN hr (pa_cons (pe_slice sl_list (pv 1) (po_some pe_int) (po_some pe_int)) pa_nil)) rfl) (pss_one (ps_fld (pv 0) (pe_lst pa_nil) rfl))))), ?_⟩
    have e1 : cutV (iv d) (some (0 : Int)) (some (2 : Int)) = iv (d.take 2) := by
      refine (cut_mid (iv d) 0 2 (by decide) (by rw [iv_len, hl]; decide)).trans ?_
      rw [iv_take]; rfl
    have e2 : cutV (iv d) (some (4 : Int)) (some (8 : Int)) = iv ((d.drop 4).take 4) := by
      refine (cut_mid (iv d) 4 8 (by decide) (by rw [iv_len, hl]; decide)).trans ?_
      rw [iv_take, iv_drop]
    have at_ : ∀ j : Nat, j < 8 → (iv d)[j]? = some (V.int ((d.getD j 0 : Nat) : Int)) := fun j hj => by
      unfold iv
      rw [List.getElem?_map, List.getElem?_eq_getElem (by omega), List.getD_eq_getElem?_getD, List.getElem?_eq_getElem (by omega)]
      rfl
    refine ⟨_, rfl, _, rfl, _, rfl, hd, _, rfl, SqL.of hh, fun a1 h1 => ?_⟩
    rw [e1]
    have n1 : p ≠ a1 := ne_of_none hp h1
    have m1 : hd ≠ a1 := ne_of_none hh h1
    have nph : hd ≠ p := ne_of hh hp (by intro z; cases z)
    refine ⟨a1, d.take 2, rfl, upd_same, _, rfl, p, Z.F, dx, [], rfl, (by rw [upd_ne n1]; exact hp), T.cF, T.nF _ (by decide +kernel), (by show 0 < 1000; decide), ?_⟩
    refine ⟨_, rfl, hd, _, _, _, rfl, rfl, SqL.of (by rw [upd_ne nph, upd_ne m1]; exact hh), atI_nat (at_ 2 (by decide)), _, rfl, p, Z.F, dx, _, rfl, upd_same, T.cF, T.nF _ (by decide +kernel), (by (repeat (refine len_put ?_)); exact Nat.zero_lt_succ _), ?_⟩
    rw [upd2]
    refine ⟨_, rfl, hd, _, _, _, rfl, rfl, SqL.of (by rw [upd_ne nph, upd_ne m1]; exact hh), atI_nat (at_ 3 (by decide)), _, rfl, p, Z.F, dx, _, rfl, upd_same, T.cF, T.nF _ (by decide +kernel), (by (repeat (refine len_put ?_)); exact Nat.zero_lt_succ _), ?_⟩
    rw [upd2]
    refine ⟨_, rfl, _, rfl, _, rfl, hd, _, rfl, SqL.of (by rw [upd_ne nph, upd_ne m1]; exact hh), fun a2 h2 => ?_⟩
    rw [e2]
    obtain ⟨n2, h2⟩ := upd_none h2
    obtain ⟨_, h2⟩ := upd_none h2
    refine ⟨a2, _, rfl, upd_same, _, rfl, p, Z.F, dx, _, rfl, (by rw [upd_ne n2.symm, upd_same]), T.cF, T.nF _ (by decide +kernel), (by (repeat (refine len_put ?_)); exact Nat.zero_lt_succ _), ?_⟩
    refine ⟨Nat.zero_le _, fun a3 h3 => ?_⟩
    obtain ⟨n3, h3⟩ := upd_none h3
    obtain ⟨_, h3⟩ := upd_none h3
    obtain ⟨_, h3⟩ := upd_none h3
    obtain ⟨_, h3⟩ := upd_none h3
    refine ⟨_, rfl, p, Z.F, dx, _, rfl, (by rw [upd_ne n3.symm, upd_same]), T.cF, T.nF _ (by decide +kernel), (by (repeat (refine len_put ?_)); exact Nat.zero_lt_succ _), ?_⟩
    rw [finit_eq]
    refine q _ a3 upd_same fun b o e nb => ?_
    rw [upd_ne nb, upd_ne (ne_of_none e h3), upd_ne nb, upd_ne (ne_of_none e h2), upd_ne nb, upd_ne (ne_of_none e h1)]; exact e
theorem scF1 : FnScope ["self"] ["self"] (defScope sF1) := ⟨rfl, rfl, rfl, by decide +kernel, rfl, by decide +kernel, by decide +kernel⟩
theorem ok_f1 {f : Addr} {fd : FuncData} (F : Fun K "body_number" "Frame.body_number" sF1 f fd) (T : Txt K mg Z) (DN : Def P w K mg base 1 "number_of" ["row"] spNO) : FnOk P w K mg base CX0 2 f fd ["self"] (spF1 Z) := by
  refine F.ok scF1 (fun vs H Q E h => ?_) (fun cdv A outer s0 H vs Q E hr h => ?_)
  · obtain ⟨a, dx, b, n, k, fl, i, body, rfl, _⟩ := h; rfl
  · obtain ⟨a, dx, b, n, k, fl, i, body, rfl, ha, hb, q⟩ := h
    refine ⟨_, pss_one (ps_ret (pd DN hr (pa_cons (pe_fld (pv 0) rfl) pa_nil))), ?_⟩
    exact ⟨_, rfl, a, Z.F, dx, _, _, rfl, ha, T.cF, T.nF _ (by decide +kernel), fl_body _ _ _ _ _, b, body, rfl, hb, q⟩
theorem scWH : FnScope ["frame"] ["frame"] (defScope sWH) := ⟨rfl, rfl, rfl, by decide +kernel, rfl, by decide +kernel, by decide +kernel⟩
theorem ok_wh {f : Addr} {fd : FuncData} (F : Fun K "wrong_head" "wrong_head" sWH f fd) (T : Txt K mg Z) : FnOk P w K mg base CX0 1 f fd ["frame"] (spWH Z) := by
  refine F.ok scWH (fun vs H Q E h => ?_) (fun cdv A outer s0 H vs Q E hr h => ?_)
  · obtain ⟨a, dx, b, n, k, fl, i, rfl, _⟩ := h; rfl
  · obtain ⟨a, dx, b, n, k, fl, i, rfl, ha, q⟩ := h
    have c1 := T.con ("BODY_MOST", 4096) (by decide +kernel)
    have c2 := T.con ("TOO_LONG", 1) (by decide +kernel)
    have c3 := T.con ("NO_FRAME", 2) (by decide +kernel)
    have c4 := T.con ("RIGHT", 0) (by decide +kernel)
    refine ⟨_, pss_cons (ps_if (pt_cmpR op_gt (pe_fld (pv 0) rfl) (pc c1) (nomark _)) (pss_one (ps_ret (pc c2))) pss_nil)
      (pss_cons (ps_if (pt_cmpR op_gt (pe_fld (pv 0) rfl) pe_int (nomark _)) (pss_one (ps_ret (pc c3))) pss_nil) (pss_one (ps_ret (pc c4)))), ?_⟩
    refine ⟨_, rfl, a, Z.F, dx, _, _, rfl, ha, T.cF, T.nF _ (by decide +kernel), fl_size _ _ _ _ _, _, _, rfl, rfl, _, rfl, ?_⟩
    refine ite2 (fun hc => ?_) (fun hc => ?_)
    · have hc : (4096 : Int) < (n : Int) := of_decide_eq_true hc
      rw [if_pos (by omega)] at q
      exact q
    have hc : ¬ (4096 : Int) < (n : Int) := fun z => hc (decide_eq_true z)
    rw [if_neg (by omega)] at q
    refine ⟨_, rfl, a, Z.F, dx, _, _, rfl, ha, T.cF, T.nF _ (by decide +kernel), fl_flags _ _ _ _ _, _, _, rfl, rfl, _, rfl, ?_⟩
    refine ite2 (fun hc => ?_) (fun hc => ?_)
    · have hc : (1 : Int) < (fl : Int) := of_decide_eq_true hc
      rw [if_pos (by omega)] at q
      exact q
    · have hc : ¬ (1 : Int) < (fl : Int) := fun z => hc (decide_eq_true z)
      rw [if_neg (by omega)] at q
      exact q
theorem int_eq (a b : Nat) : decide (V.int (a : Int) = V.int (b : Int)) = decide (a = b) := by
  by_cases z : a = b
  · rw [decide_eq_true z, decide_eq_true (by rw [z])]
  · rw [decide_eq_false z, decide_eq_false (fun y => z (by have := V.int.inj y; omega))]
theorem scNF : FnScope ["frame"] ["frame"] (defScope sNF) := ⟨rfl, rfl, rfl, by decide +kernel, rfl, by decide +kernel, by decide +kernel⟩
theorem ok_nf {f : Addr} {fd : FuncData} (F : Fun K "number_fits" "number_fits" sNF f fd) (T : Txt K mg Z) : FnOk P w K mg base CX0 1 f fd ["frame"] (spNF Z) := by
  refine F.ok scNF (fun vs H Q E h => ?_) (fun cdv A outer s0 H vs Q E hr h => ?_)
  · obtain ⟨a, b, f, rfl, _⟩ := h; rfl
  · obtain ⟨a, b, f, rfl, ⟨dx, ha⟩, q⟩ := h
    have c1 := T.con ("STOPPED", 3) (by decide +kernel)
    have c2 := T.con ("OF_ALL", 0) (by decide +kernel)
    have c3 := T.con ("CREDIT", 2) (by decide +kernel)
    refine ⟨_, pss_cons (ps_if (pt_cmpR op_eq (pe_fld (pv 0) rfl) (pc c1) (nomark _)) (pss_one (ps_ret (pe_cmpR op_ne (pe_fld (pv 0) rfl) (pc c2) (nomark _)))) pss_nil)
      (pss_one (ps_ret (pe_or (pe_cmpR op_eq (pe_fld (pv 0) rfl) (pc c3) (nomark _)) (pe_one (pe_cmpR op_eq (pe_fld (pv 0) rfl) (pc c2) (nomark _)))))), ?_⟩
    refine ⟨_, rfl, a, Z.F, dx, _, _, rfl, ha, T.cF, T.nF _ (by decide +kernel), fl_kind _ _ _ _ _, rfl, _, rfl, ?_⟩
    refine ite2 (fun hc => ?_) (fun hc => ?_)
    · have hc : f.kind = 3 := of_decide_eq_true ((int_eq f.kind 3).symm.trans hc)
      rw [if_pos hc] at q
      refine ⟨_, rfl, a, Z.F, dx, _, _, rfl, ha, T.cF, T.nF _ (by decide +kernel), fl_number _ _ _ _ _, rfl, ?_⟩
      have e : (!decide (V.int (f.id : Int) = V.int 0)) = decide (f.id ≠ 0) := by
        rw [show decide (V.int (f.id : Int) = V.int 0) = decide (f.id = 0) from int_eq f.id 0]
        by_cases z : f.id = 0
        · rw [decide_eq_true z, decide_eq_false (fun y => y z)]; rfl
        · rw [decide_eq_false z, decide_eq_true z]; rfl
      rw [← e] at q
      exact q
    · have hc : ¬ f.kind = 3 := fun z => hc ((int_eq f.kind 3).trans (decide_eq_true z))
      rw [if_neg hc] at q
      refine ⟨_, rfl, a, Z.F, dx, _, _, rfl, ha, T.cF, T.nF _ (by decide +kernel), fl_kind _ _ _ _ _, rfl, _, rfl, ?_⟩
      rw [show decide (V.int (f.kind : Int) = V.int 2) = decide (f.kind = 2) from int_eq f.kind 2]
      refine ite2 (fun hk => ?_) (fun hk => ?_)
      · rw [hk, Bool.true_or] at q
        exact q
      · have hk : decide (f.kind = 2) = false := by simpa using hk
        rw [hk, Bool.false_or] at q
        refine ⟨_, rfl, a, Z.F, dx, _, _, rfl, ha, T.cF, T.nF _ (by decide +kernel), fl_number _ _ _ _ _, rfl, ?_⟩
        rw [show decide (V.int (f.id : Int) = V.int 0) = decide (f.id = 0) from int_eq f.id 0]
        exact q
theorem tab_sizes (k : Nat) : tabOf [(2, 4), (3, 4), (4, 8), (5, 8), (6, 4)] (k : Int) = if k = 2 then some 4 else if k = 3 then some 4 else if k = 4 then some 8 else if k = 5 then some 8 else if k = 6 then some 4 else none := by
  match k with
  | 0 => rfl
  | 1 => rfl
  | 2 => rfl
  | 3 => rfl
  | 4 => rfl
  | 5 => rfl
  | 6 => rfl
  | k + 7 =>
    have h : ∀ j : Int, j < 7 → (j == ((k + 7 : Nat) : Int)) = false := fun j hj => beq_eq_false_iff_ne.mpr (by omega)
    unfold tabOf
    simp only [List.find?_cons, h 2 (by decide), h 3 (by decide), h 4 (by decide), h 5 (by decide), h 6 (by decide), List.find?_nil, Option.map_none]
    rw [if_neg (by omega), if_neg (by omega), if_neg (by omega), if_neg (by omega), if_neg (by omega)]
/-- how long a body is, by its kind -/
def szOf (k : Nat) : Option Nat := if k = 2 then some 4 else if k = 3 then some 4 else if k = 4 then some 8 else if k = 5 then some 8 else if k = 6 then some 4 else none
theorem tab_sz (k : Nat) : tabOf [(2, 4), (3, 4), (4, 8), (5, 8), (6, 4)] (k : Int) = (szOf k).map fun (n : Nat) => (n : Int) := by
  rw [tab_sizes]
  unfold szOf
  repeat (first | rfl | (split; rfl))
theorem good_eq (f : Sq01.Frame) : f.good = if f.kind = 1 then decide (f.id ≠ 0) else match szOf f.kind with
    | none => false
    | some n => if f.body.length = n then decide (f.last = false) && (if f.kind = 3 then decide (f.id ≠ 0) else decide (f.kind = 2) || decide (f.id = 0)) else false := by
  obtain ⟨k, l, i, b⟩ := f
  unfold Sq01.Frame.good szOf
  dsimp only
  match k with
  | 0 => rfl
  | 1 => simp [bne, Bool.beq_eq_decide_eq]
  | 2 => cases l <;> simp [Bool.beq_eq_decide_eq]
  | 3 => cases l <;> simp [bne, Bool.beq_eq_decide_eq, Bool.and_comm]
  | 4 => cases l <;> simp [Bool.beq_eq_decide_eq, Bool.and_comm]
  | 5 => cases l <;> simp [Bool.beq_eq_decide_eq, Bool.and_comm]
  | 6 => cases l <;> simp [Bool.beq_eq_decide_eq, Bool.and_comm]
  | k + 7 => simp
theorem scIF : FnScope ["frame"] ["frame"] (defScope sIF) := ⟨rfl, rfl, rfl, by decide +kernel, rfl, by decide +kernel, by decide +kernel⟩
theorem ok_if {f : Addr} {fd : FuncData} (F : Fun K "is_frame" "is_frame" sIF f fd) (T : Txt K mg Z) (DF : Def P w K mg base 1 "number_fits" ["frame"] (spNF Z)) : FnOk P w K mg base CX0 2 f fd ["frame"] (spIF Z) := by
  refine F.ok scIF (fun vs H Q E h => ?_) (fun cdv A outer s0 H vs Q E hr h => ?_)
  · obtain ⟨a, b, f, rfl, _⟩ := h; rfl
  · obtain ⟨a, b, f, rfl, ⟨dx, ha⟩, q⟩ := h
    have c1 := T.con ("DATA", 1) (by decide +kernel)
    have c2 := T.con ("OF_ALL", 0) (by decide +kernel)
    refine ⟨_, pss_cons (ps_if (pt_cmpR op_eq (pe_fld (pv 0) rfl) (pc c1) (nomark _)) (pss_one (ps_ret (pe_cmpR op_ne (pe_fld (pv 0) rfl) (pc c2) (nomark _)))) pss_nil)
      (pss_cons (ps_if (PW.pt (pw_or (pt_cmp (pc_mdnot T.sizes (pe_fld (pv 0) rfl))) (pw_or1 (pt_cmpR op_ne (pe_fld (pv 0) rfl) (pe_md T.sizes (pe_fld (pv 0) rfl) (fun _ _ => rfl)) (nomark _))))) (pss_one (ps_ret pe_bl)) pss_nil)
      (pss_one (ps_ret (pe_and (pe_cmpR op_eq (pe_fld (pv 0) rfl) pe_int (nomark _)) (pe_one (pd DF hr (pa_cons (pv 0) pa_nil))))))), ?_⟩
    rw [good_eq] at q
    refine ⟨_, rfl, a, Z.F, dx, _, _, rfl, ha, T.cF, T.nF _ (by decide +kernel), fl_kind _ _ _ _ _, rfl, _, rfl, ?_⟩
    refine ite2 (fun hc => ?_) (fun hc => ?_)
    · have hc : f.kind = 1 := of_decide_eq_true ((int_eq f.kind 1).symm.trans hc)
      rw [if_pos hc] at q
      refine ⟨_, rfl, a, Z.F, dx, _, _, rfl, ha, T.cF, T.nF _ (by decide +kernel), fl_number _ _ _ _ _, rfl, ?_⟩
      have e : (!decide (V.int (f.id : Int) = V.int 0)) = decide (f.id ≠ 0) := by
        rw [show decide (V.int (f.id : Int) = V.int 0) = decide (f.id = 0) from int_eq f.id 0]
        by_cases z : f.id = 0
        · rw [decide_eq_true z, decide_eq_false (fun y => y z)]; rfl
        · rw [decide_eq_false z, decide_eq_true z]; rfl
      rw [← e] at q
      exact q
    · have hc : ¬ f.kind = 1 := fun z => hc ((int_eq f.kind 1).trans (decide_eq_true z))
      rw [if_neg hc] at q
      refine ⟨_, rfl, a, Z.F, dx, _, _, rfl, ha, T.cF, T.nF _ (by decide +kernel), fl_kind _ _ _ _ _, _, rfl, _, rfl, ?_⟩
      rw [tab_sz]
      cases hs : szOf f.kind with
      | none =>
        rw [hs] at q
        exact iteT (iteT q)
      | some n =>
        rw [hs] at q
        dsimp only at q
        refine iteF ?_
        refine ⟨_, rfl, a, Z.F, dx, _, _, rfl, ha, T.cF, T.nF _ (by decide +kernel), fl_size _ _ _ _ _, _, rfl, a, Z.F, dx, _, _, rfl, ha, T.cF, T.nF _ (by decide +kernel), fl_kind _ _ _ _ _, _, (n : Int), rfl, (by rw [tab_sz, hs]; rfl), rfl, _, rfl, ?_⟩
        refine ite2 (fun hn => ?_) (fun hn => ?_)
        · rw [int_eq] at hn
          have hn : ¬ f.body.length = n := by simpa using hn
          rw [if_neg hn] at q
          exact q
        · rw [int_eq] at hn
          have hn : f.body.length = n := by simpa using hn
          rw [if_pos hn] at q
          refine ⟨_, rfl, a, Z.F, dx, _, _, rfl, ha, T.cF, T.nF _ (by decide +kernel), fl_flags _ _ _ _ _, rfl, _, rfl, ?_⟩
          have e : decide (V.int (Sq01.bit f.last : Int) = V.int 0) = decide (f.last = false) := by
            cases f.last <;> rfl
          rw [e]
          refine ite2 (fun hl => ?_) (fun hl => ?_)
          · rw [hl, Bool.true_and] at q
            exact ⟨_, rfl, a, b, f, rfl, ⟨dx, ha⟩, q⟩
          · have hl : decide (f.last = false) = false := by simpa using hl
            rw [hl, Bool.false_and] at q
            exact q
theorem scWF : FnScope ["frame"] ["frame"] (defScope sWF) := ⟨rfl, rfl, rfl, by decide +kernel, rfl, by decide +kernel, by decide +kernel⟩
theorem ok_wf {f : Addr} {fd : FuncData} (F : Fun K "wrong_frame" "wrong_frame" sWF f fd) (T : Txt K mg Z) (DI : Def P w K mg base 2 "is_frame" ["frame"] (spIF Z)) : FnOk P w K mg base CX0 3 f fd ["frame"] (spWF Z) := by
  refine F.ok scWF (fun vs H Q E h => ?_) (fun cdv A outer s0 H vs Q E hr h => ?_)
  · obtain ⟨a, b, f, rfl, _⟩ := h; rfl
  · obtain ⟨a, b, f, rfl, ha, q⟩ := h
    have c1 := T.con ("RIGHT", 0) (by decide +kernel)
    have c2 := T.con ("NO_FRAME", 2) (by decide +kernel)
    refine ⟨_, pss_one (ps_ret (pe_ifExp (pt_val (pd DI hr (pa_cons (pv 0) pa_nil))) (pc c1) (pc c2))), ?_⟩
    refine ⟨_, rfl, a, b, f, rfl, ha, f.good, rfl, ?_⟩
    cases hg : f.good with
    | true =>
      rw [hg] at q
      exact iteT q
    | false =>
      rw [hg] at q
      exact iteF q
theorem scBF : FnScope ["frame", "at"] ["frame", "at"] (defScope sBF) := ⟨rfl, rfl, rfl, by decide +kernel, rfl, by decide +kernel, by decide +kernel⟩
theorem ok_bf {f : Addr} {fd : FuncData} (F : Fun K "behind_frame" "behind_frame" sBF f fd) (T : Txt K mg Z) : FnOk P w K mg base CX0 1 f fd ["frame", "at"] (spBF Z) := by
  refine F.ok scBF (fun vs H Q E h => ?_) (fun cdv A outer s0 H vs Q E hr h => ?_)
  · obtain ⟨a, dx, b, n, k, fl, i, j, rfl, _⟩ := h; rfl
  · obtain ⟨a, dx, b, n, k, fl, i, j, rfl, ha, q⟩ := h
    have c1 := T.con ("HEAD_SIZE", 8) (by decide +kernel)
    refine ⟨_, pss_one (ps_ret (pe_op op_add (pe_op op_add (pv 1) (pc c1)) (pe_fld (pv 0) rfl))), ?_⟩
    exact ⟨_, rfl, _, _, rfl, rfl, _, rfl, a, Z.F, dx, _, _, rfl, ha, T.cF, T.nF _ (by decide +kernel), fl_size _ _ _ _ _, _, _, rfl, rfl, q⟩
theorem scHA : FnScope ["unread", "at"] ["unread", "at"] (defScope sHA) := ⟨rfl, rfl, rfl, by decide +kernel, rfl, by decide +kernel, by decide +kernel⟩
theorem ok_ha {f : Addr} {fd : FuncData} (F : Fun K "head_at" "head_at" sHA f fd) (T : Txt K mg Z) (DF : Made P w K mg base 2 "Frame" Z.F ["self", "head"] (spF0 Z)) : FnOk P w K mg base CX0 4 f fd ["unread", "at"] (spHA Z) := by
  refine F.ok scHA (fun vs H Q E h => ?_) (fun cdv A outer s0 H vs Q E hr h => ?_)
  · obtain ⟨u, j, c, rfl, _⟩ := h; rfl
  · obtain ⟨u, j, c, rfl, hu, hcl, q1, hj, q2⟩ := h
    have c1 := T.con ("HEAD_SIZE", 8) (by decide +kernel)
    refine ⟨_, pss_cons (ps_if (pt_cmpR op_lt (pe_op op_sub (pe_callB call_len_seq (by rfl) T.len PySem.boot_len (pa_cons (pv 0) pa_nil)) (pv 1)) (pc c1) (nomark _)) (pss_one (ps_ret pe_non)) pss_nil)
      (pss_one (ps_ret (pk DF hr (pa_cons (pe_slice sl_list (pv 0) (po_some (pv 1)) (po_some (pe_op op_add (pv 1) (pc c1)))) pa_nil)))), ?_⟩
    refine ⟨_, rfl, u, _, rfl, .inl (SqL.of hu), _, rfl, _, _, rfl, rfl, _, _, rfl, rfl, _, rfl, ?_⟩
    refine ite2 (fun hc => ?_) (fun hc => ?_)
    · have hc : ((iv c).length : Int) - (j : Int) < 8 := of_decide_eq_true hc
      rw [iv_len] at hc
      exact q1 (by rw [List.length_drop]; omega) hj
    · have hc : ¬ ((iv c).length : Int) - (j : Int) < 8 := fun z => hc (decide_eq_true z)
      rw [iv_len] at hc
      have hl : ¬ (c.drop j).length < 8 := by rw [List.length_drop]; omega
      refine ⟨_, rfl, _, rfl, _, rfl, _, rfl, _, _, rfl, rfl, _, rfl, u, _, rfl, SqL.of hu, fun a1 h1 => ?_⟩
      have e1 : cutV (iv c) (some (j : Int)) (some ((j : Int) + 8)) = iv ((c.drop j).take 8) := by
        refine (cut_mid (iv c) j (j + 8) (by omega) (by rw [iv_len]; omega)).trans ?_
        rw [iv_take, iv_drop, show j + 8 - j = 8 by omega]
      rw [e1]
      intro x dx nx ndx nex
      refine ⟨x, dx, a1, (c.drop j).take 8, rfl, upd_same, ?_, ?_, fun H' b h2 kp => ⟨rfl, ?_⟩⟩
      · rw [upd_ne (fun z => by rw [← z, upd_same] at nx; cases nx), upd_ne (fun z => by rw [← z, upd_same] at ndx; cases ndx), upd_same]
      · rw [List.length_take]; omega
      · have S : Same H H' := fun b o e => by
          have e' : (upd H a1 (.lst (iv ((c.drop j).take 8)))) b = some o := by rw [upd_ne (ne_of_none e h1)]; exact e
          exact kp b o (by rw [upd_ne (ne_of_none e' nx), upd_ne (ne_of_none e' ndx)]; exact e') (ne_of_none e' nx)
        refine q2 hl H' x dx b S (upd_none nx).2 ?_
        rw [h2]
        have g : ∀ i : Nat, i < 8 → ((c.drop j).take 8).getD i 0 = (c.drop j).getD i 0 := fun i hi => by
          rw [List.getD_eq_getElem?_getD, List.getD_eq_getElem?_getD, List.getElem?_take_of_lt hi]
        rw [g 2 (by decide), g 3 (by decide), List.take_take, List.drop_take, List.take_take]
        rfl
end
end Os
set_option linter.all false
set_option maxRecDepth 100000
namespace Os
open PySem PySem.Spec PyProof.Rows L2
open Sq01 (State Exchange Bytes Told)
/-! ### the list of what is told: t -/
def TAt (H : Hp) (L : Lay) (a : Addr) (x : Told) : Prop := H a = some (.lst (iv (Sq01.told x))) ∧ L.G a = none
def TL (H : Hp) (L : Lay) (t : Addr) (ts : List Told) : Prop := ∃ tas : List Addr, H t = some (.lst (tas.map V.ref)) ∧ L.G t = none ∧ Paired (TAt H L) tas ts
/-- what is neither the side's own nor t stays -/
def ExtB (t : Addr) (H : Hp) (L : Lay) (H' : Hp) (L' : Lay) : Prop := ∀ b o, b ≠ t → H b = some o → L.G b = none → H' b = some o ∧ L'.G b = none
theorem ExtB.refl {t : Addr} {H : Hp} {L : Lay} : ExtB t H L H L := fun _ _ _ e g => ⟨e, g⟩
theorem ExtB.trans {t : Addr} {H H1 H2 : Hp} {L L1 L2 : Lay} (a : ExtB t H L H1 L1) (b : ExtB t H1 L1 H2 L2) : ExtB t H L H2 L2 := fun c o n e g => b c o n (a c o n e g).1 (a c o n e g).2
theorem Ext.b {t : Addr} {H H' : Hp} {L L' : Lay} (a : Ext H L H' L') : ExtB t H L H' L' := fun c o _ e g => a c o e g
theorem told_cons (x : Told) : ∃ n l, Sq01.told x = n :: l := by cases x <;> exact ⟨_, _, rfl⟩
theorem told_few (x : Told) : (Sq01.told x).length ≤ 3 := by cases x <;> exact Nat.le_of_ble_eq_true rfl
theorem TL.ext {H H' : Hp} {L L' : Lay} {t : Addr} {ts : List Told} (h : TL H L t ts) (E : Ext H L H' L') : TL H' L' t ts := by
  obtain ⟨tas, h1, h2, h3⟩ := h
  obtain ⟨k1, k2⟩ := E t _ h1 h2
  exact ⟨tas, k1, k2, paired_mono h3 fun a x q => E a _ q.1 q.2⟩
theorem TL.ne {H : Hp} {L : Lay} {t : Addr} {tas : List Addr} (h1 : H t = some (.lst (tas.map V.ref))) {a : Addr} {x : Told} (q : TAt H L a x) : a ≠ t := by
  intro e
  subst e
  obtain ⟨n, l, hx⟩ := told_cons x
  have h2 := q.1
  rw [h1, hx] at h2
  cases tas with
  | nil => cases h2
  | cons b bs => cases h2
theorem TL.push {H : Hp} {L : Lay} {t q : Addr} {ts : List Told} {x : Told} {tas : List Addr} (h1 : H t = some (.lst (tas.map V.ref))) (h2 : L.G t = none) (h3 : Paired (TAt H L) tas ts) (hq : H q = some (.lst (iv (Sq01.told x)))) (gq : L.G q = none) :
    TL (upd H t (.lst (tas.map V.ref ++ [V.ref q]))) L t (ts ++ [x]) := by
  have hqt : q ≠ t := TL.ne h1 (x := x) (L := L) ⟨hq, gq⟩
  refine ⟨tas ++ [q], ?_, h2, ?_⟩
  · rw [upd_same, List.map_append]; rfl
  · exact Paired.snoc (paired_mono h3 fun a y z => ⟨by rw [upd_ne (TL.ne h1 z)]; exact z.1, z.2⟩) ⟨by rw [upd_ne hqt]; exact hq, gq⟩
theorem TL.len {H : Hp} {L : Lay} {ts : List Told} {tas : List Addr} (h3 : Paired (TAt H L) tas ts) : tas.length = ts.length := Paired.length h3
theorem ExtB.own {t : Addr} {H : Hp} {L : Lay} {o : HO} : ExtB t H L (upd H t o) L := fun b u n e g => ⟨by rw [upd_ne n]; exact e, g⟩
theorem ExtB.new {t : Addr} {H H' : Hp} {L L' : Lay} {q : Addr} (E : ExtB t H L H' L') (hq : H' q = none) (hqt : q ≠ t) : New H L q := fun o e g => by rw [(E q o hqt e g).1] at hq; cases hq
/-- a frame and its object; its body isn't t -/
def FAt (Z : Cs) (H : Hp) (L : Lay) (t a : Addr) (f : Sq01.Frame) : Prop := ∃ b, FAt0 Z H a f b ∧ H b = some (.lst (iv f.body)) ∧ L.G a = none ∧ L.G b = none ∧ a ≠ t ∧ b ≠ t
theorem FAt.extB {Z : Cs} {H H' : Hp} {L L' : Lay} {t a : Addr} {f : Sq01.Frame} (h : FAt Z H L t a f) (E : ExtB t H L H' L') : FAt Z H' L' t a f := by
  obtain ⟨b, ⟨dx, h1⟩, h2, h3, h4, h5, h6⟩ := h
  obtain ⟨k1, k2⟩ := E a _ h5 h1 h3
  obtain ⟨k3, k4⟩ := E b _ h6 h2 h4
  exact ⟨b, ⟨dx, k1⟩, k3, k2, k4, h5, h6⟩
theorem FAt.ext {Z : Cs} {H H' : Hp} {L L' : Lay} {t a : Addr} {f : Sq01.Frame} (h : FAt Z H L t a f) (E : Ext H L H' L') : FAt Z H' L' t a f := h.extB E.b
/-- what a frame does, what is told, what is wrong -/
def Tells (Z : Cs) (p t : Addr) (H : Hp) (L : Lay) (ts : List Told) (r : Mt) (Q : VK) : Prop := ∀ H' L', Rep Z H' p r.1 L' → ExtB t H L H' L' → TL H' L' t (ts ++ r.2.1) → Q (.int (r.2.2 : Nat)) H'
/-! ### how many of theirs there are -/
theorem theirs_open {s : State} {k g : Nat} (hk : s.own k = false) : (({ s with greatest := g } : State).open_ (Sq01.fresh k)).theirs = s.theirs + 1 := by
  rw [theirs_ids, theirs_ids]
  have e : ∀ i, (({ s with greatest := g } : State).open_ (Sq01.fresh k)).own i = s.own i := fun i => rfl
  have hp : (ids (({ s with greatest := g } : State).open_ (Sq01.fresh k))).Perm (k :: ids s) := (put_perm (Sq01.fresh k) s.exchanges).map (·.id)
  have h2 : ((ids (({ s with greatest := g } : State).open_ (Sq01.fresh k))).filter fun i => !s.own i).length = ((k :: ids s).filter fun i => !s.own i).length := filter_perm_len hp
  show ((ids (({ s with greatest := g } : State).open_ (Sq01.fresh k))).filter fun i => !s.own i).length = _
  rw [h2, List.filter_cons, hk]
  rfl
abbrev runs (s : State) (j : Nat) : State × List Told := (List.range j).foldl (fun x i => anew1 x (after s + 2 * i)) (s, ([] : List Told))
theorem runs_succ (s : State) (j : Nat) : runs s (j + 1) = anew1 (runs s j) (after s + 2 * j) := by
  unfold runs
  rw [List.range_succ, List.foldl_append]
  rfl
theorem theirs_run {s : State} (h : Ok s) (hd : s.dead = false) (ho : s.over = false) : ∀ j : Nat, (runs s j).1.theirs = min 64 (s.theirs + j)
  | 0 => by
    have := h.theirs
    show s.theirs = _
    omega
  | j + 1 => by
    have ih := theirs_run h hd ho j
    obtain ⟨h1, h2, h3, h4, _, h6⟩ := anew_run h hd j
    have h3 : (runs s j).1.side = s.side := h3
    have h6 : (runs s j).1.over = s.over := h6
    rw [runs_succ]
    unfold anew1
    dsimp only
    have hk : (runs s j).1.own (after s + 2 * j) = false := by rw [own_congr h3, own_add]; exact (after_own h).1
    split
    · rename_i hc
      rcases hc with z | z
      · have z : (runs s j).1.over = true := z
        rw [h6, ho] at z; cases z
      · have z : 64 ≤ (runs s j).1.theirs := z
        show (runs s j).1.theirs = _
        omega
    · rename_i hc
      rw [not_or] at hc
      have z : ¬ 64 ≤ (runs s j).1.theirs := hc.2
      dsimp only
      rw [theirs_open hk]
      omega
/-- whether the next one has room -/
theorem room_run {s : State} (h : Ok s) (hd : s.dead = false) (j : Nat) : ((runs s j).1.over = true ∨ 64 ≤ (runs s j).1.theirs) ↔ ¬ (j : Int) < (if s.over = true then (0 : Int) else 64 - (s.theirs : Int)) := by
  obtain ⟨_, _, _, _, _, h6⟩ := anew_run h hd j
  have h6 : (runs s j).1.over = s.over := h6
  have ht := h.theirs
  cases ho : s.over with
  | true =>
    rw [if_pos rfl]
    exact ⟨fun _ => by omega, fun _ => .inl (h6.trans ho)⟩
  | false =>
    rw [if_neg Bool.false_ne_true, theirs_run h hd ho j]
    refine ⟨fun z => ?_, fun z => .inr (by omega)⟩
    rcases z with z | z
    · rw [h6, ho] at z; cases z
    · omega
end Os
set_option linter.all false
set_option maxRecDepth 100000
namespace Os
open PySem PySem.Spec PyProof.Rows L2
open Sq01 (State Exchange Bytes Told)
abbrev sCame : Stmt := top 69
abbrev sRF : Stmt := top 70
abbrev sMeet : Stmt := top 71
abbrev sMD : Stmt := top 72
abbrev sDN : Stmt := top 73
abbrev sMC : Stmt := top 74
abbrev sAC : Stmt := top 75
abbrev sMS : Stmt := top 76
abbrev sMG : Stmt := top 77
abbrev sMK : Stmt := top 78
abbrev sHM : Stmt := top 79
abbrev sAA : Stmt := top 80
def spHM (Z : Cs) : Sp := fun vs H Q _ => ∃ (p dx d l c : Addr) (i : Nat) (s : State), vs = [.ref p, .int i] ∧ H p = some (.ins Z.S dx (sF s d l c)) ∧ after s ≤ i ∧ Q (.int (((i - after s) / 2 + 1 : Nat) : Int)) H
def spAA (Z : Cs) : Sp := fun vs H Q _ => ∃ (p t : Addr) (i : Nat) (s : State) (L : Lay) (ts : List Told), vs = [.ref p, .int i, .ref t] ∧ Rep Z H p s L ∧ Ok s ∧ s.dead = false ∧ s.own i = false ∧ after s ≤ i ∧ (i - after s) / 2 + 1 ≤ 64 ∧ s.first.length < 8000000 ∧ TL H L t ts ∧ ts.length < 8000000 ∧
  ∀ H' L', Rep Z H' p (runs s ((i - after s) / 2 + 1)).1 L' → ExtB t H L H' L' → TL H' L' t (ts ++ (runs s ((i - after s) / 2 + 1)).2) → Q .non H'
def spMK (Z : Cs) : Sp := fun vs H Q _ => ∃ (p t : Addr) (i : Nat) (s : State) (L : Lay) (ts : List Told), vs = [.ref p, .int i, .ref t] ∧ Rep Z H p s L ∧ Ok s ∧ s.dead = false ∧ 0 < i ∧ s.first.length < 8000000 ∧ TL H L t ts ∧ ts.length < 8000000 ∧ match known s i with
  | none => Q (.int 3) H
  | some r => ∀ H' L', Rep Z H' p r.1 L' → ExtB t H L H' L' → TL H' L' t (ts ++ r.2) → Q (.int 0) H'
section
variable {X : Cx} {a b c : Expr} {ta tb : TE} {tA : TT} {pos : Pos}
/-- a if t else b, the value told ahead -/
def tIfB (t : TT) (ta tb : TE) : TE := fun σ H Q => ∃ (v : V) (S : Hp → Prop), (t σ H fun c H1 => if c = true then ta σ H1 (fun y H2 => y = v ∧ S H2) else tb σ H1 (fun y H2 => y = v ∧ S H2)) ∧ ∀ H2, S H2 → Q v H2
theorem pe_ifB (hc : PT X c tA) (ha : PE X a ta) (hb : PE X b tb) : PE X (.IfExp c a b pos) (tIfB tA ta tb) := by
  intro pins s σ H Q I h
  obtain ⟨v, S, h, k⟩ := h
  refine thn (pe_ifExp hc ha hb pins s σ H (fun y H2 => y = v ∧ S H2) I h) fun u s1 ⟨y, H2, I2, r2, e, hS⟩ => ?_
  subst e
  exact ⟨_, H2, I2, r2, k H2 hS⟩
/-- a statement, what is true behind it told ahead -/
def tMid (t : TS) : TS := fun D σ H => ∃ S : L2.St → Hp → Prop, t { D with nx := S } σ H ∧ ∀ σ' H', S σ' H' → D.nx σ' H'
theorem ps_mid {st : Stmt} {t : TS} (h : PS X st t) : PS X st (tMid t) := by
  intro pins s σ H D I hS
  obtain ⟨S, h1, h2⟩ := hS
  refine thn (h pins s σ H _ I h1) fun f s1 q => ?_
  cases f with
  | next =>
    obtain ⟨σ', H', I', n⟩ := q
    exact ⟨σ', H', I', h2 _ _ n⟩
  | brk => exact q
  | cont => exact q
  | ret u => exact q
end
section
variable {P : Program} {w : World} {K : PySem.W.Frag} {mg : Str → Option Value} {base : Heap} {Z : Cs}
theorem scHM : FnScope ["side", "number"] ["side", "number"] (defScope sHM) := ⟨rfl, rfl, rfl, by decide +kernel, rfl, by decide +kernel, by decide +kernel⟩
theorem ok_hm {f : Addr} {fd : FuncData} (F : Fun K "how_many_anew" "how_many_anew" sHM f fd) (T : Txt K mg Z) : FnOk P w K mg base CX0 1 f fd ["side", "number"] (spHM Z) := by
  refine F.ok scHM (fun vs H Q E h => ?_) (fun cdv A outer s0 H vs Q E hr h => ?_)
  · obtain ⟨p, dx, d, l, c, i, s, rfl, _⟩ := h; rfl
  · obtain ⟨p, dx, d, l, c, i, s, rfl, hp, ha, q⟩ := h
    refine ⟨_, pss_one (ps_ret (pe_op op_add (pe_op op_fdiv (pe_op op_sub (pv 1) (pe_fld (pv 0) rfl)) pe_int) pe_int)), ?_⟩
    refine ⟨_, rfl, _, rfl, p, Z.S, dx, _, _, rfl, hp, T.cS, T.nS _ (by decide +kernel), sl_come _ _ _ _, _, _, rfl, rfl, _, _, rfl, rfl, ⟨by decide, by decide⟩, _, _, rfl, rfl, ?_⟩
    have e : ((i : Int) - (after s : Int)) / 2 + 1 = (((i - after s) / 2 + 1 : Nat) : Int) := by omega
    show Q (V.int (((i : Int) - (after s : Int)) / 2 + 1)) H
    rw [e]
    exact q
theorem scAA : FnScope ["side", "number", "told", "room", "why", "place", "anew"] ["side", "number", "told"] (defScope sAA) := ⟨rfl, rfl, rfl, by decide +kernel, rfl, by decide +kernel, by decide +kernel⟩
theorem ok_aa {f : Addr} {fd : FuncData} (F : Fun K "ask_anew" "ask_anew" sAA f fd) (T : Txt K mg Z) (DH : Def P w K mg base 1 "how_many_anew" ["side", "number"] (spHM Z)) (D8 : Mdef P w K mg base 3 Z.S "theirs_there" ["self"] (spS8 Z))
    (D1 : Mdef P w K mg base 3 Z.S "add_exchange" ["self", "number"] (spS1 Z)) (DS : Def P w K mg base 3 "stopped_frame" ["number", "why"] spSF) : FnOk P w K mg base CX0 4 f fd ["side", "number", "told"] (spAA Z) := by
  refine F.ok scAA (fun vs H Q E h => ?_) (fun cdv A outer s0 H vs Q E hr h => ?_)
  · obtain ⟨p, t, i, s, L, ts, rfl, _⟩ := h; rfl
  · obtain ⟨p, t, i, s, L, ts, rfl, R, ok, hd, ho, hai, hn, hfl, tl, htl, q⟩ := h
    have c1 := T.con ("THEIRS_MOST", 64) (by decide +kernel)
    have c2 := T.con ("WHY_GOING", 1) (by decide +kernel)
    have c3 := T.con ("WHY_FULL", 2) (by decide +kernel)
    have c4 := T.con ("TOLD_ASKED", 1) (by decide +kernel)
    have hr1 : Room 1 _ := hr.mono (by decide)
    refine ⟨_, pss_cons (ps_set (i := 3) scAA.nd rfl (Or.inl rfl) (pe_ifB (pt_val (pe_fld (pv 0) rfl)) pe_int (pe_op op_sub (pc c1) (pm0 D8 hr (pv 0)))))
      (pss_cons (ps_set (i := 4) scAA.nd rfl (Or.inl rfl) (pe_ifB (pt_val (pe_fld (pv 0) rfl)) (pc c2) (pc c3)))
      (pss_cons (ps_for PassesOwn.never rfl (pi_range1 rfl T.range (pa_cons (pd DH hr1 (pa_cons (pv 0) (pa_cons (pv 1) pa_nil))) pa_nil)) (pg_name (i := 5) scAA.nd rfl (Or.inl rfl))
        (pss_cons (ps_set (i := 6) scAA.nd rfl (Or.inl rfl) (pe_op op_add (pe_fld (pv 0) rfl) (pe_op op_mul pe_int (pv 5))))
        (pss_one (ps_if (pt_cmpR op_lt (pv 5) (pv 3) (nomark _))
          (pss_cons (ps_expr (pm D1 hr (pv 0) (pa_cons (pv 6) pa_nil))) (pss_one (ps_expr (pappend (pv 2) (pa_cons (pe_lst (pa_cons (pc c4) (pa_cons (pv 6) pa_nil))) pa_nil)))))
          (pss_one (ps_expr (pappend (pe_fld (pv 0) rfl) (pa_cons (pd DS hr (pa_cons (pv 6) (pa_cons (pv 4) pa_nil))) pa_nil))))))))
      (pss_one (ps_fld (pv 0) (pe_op op_add (pv 1) pe_int) rfl)))), ?_⟩
    refine ⟨.int (if s.over = true then (0 : Int) else 64 - (s.theirs : Int)), Same H, ⟨_, rfl, p, Z.S, L.dx, _, _, rfl, R.hp, T.cS, T.nS _ (by decide +kernel), sl_over _ _ _ _, s.over, rfl, ?_⟩, fun H1 S1 => ?_⟩
    · cases ho' : s.over with
      | true => exact iteT ⟨rfl, Same.refl'⟩
      | false => exact iteF ⟨_, rfl, p, L.dx, _, rfl, R.hp, sl_m8 _ _ _ _, p, s, L, rfl, R, ok.few, fun H' S' => ⟨_, _, rfl, rfl, rfl, S'⟩⟩
    have R1 := R.same S1
    refine ⟨.int ((if s.over = true then 1 else 2 : Nat) : Int), fun H2 => H2 = H1, ⟨_, rfl, p, Z.S, L.dx, _, _, rfl, R1.hp, T.cS, T.nS _ (by decide +kernel), sl_over _ _ _ _, s.over, rfl, ?_⟩, fun H2 e2 => ?_⟩
    · cases ho' : s.over with
      | true => exact iteT ⟨rfl, rfl⟩
      | false => exact iteF ⟨rfl, rfl⟩
    subst e2
    have hrm := room_run ok hd
    generalize hroom : (if s.over = true then (0 : Int) else 64 - (s.theirs : Int)) = room at hrm
    have side_ : ∀ j, (runs s j).1.side = s.side := fun j => (anew_run ok hd j).2.2.1
    have af : ∀ j, after ({ (runs s j).1 with greatest := s.greatest } : State) = after s := fun j => by
      unfold after
      show (if s.greatest = 0 then (if (runs s j).1.side = 1 then 2 else 1) else s.greatest + 2) = _
      rw [side_ j]
    refine ⟨_, rfl, _, rfl, p, L.dx, L.d, L.l, L.c, i, s, rfl, R1.hp, hai, _, rfl, by omega, by omega, for_range (lo := 0) (n := ((((i - after s) / 2 + 1 : Nat) : Int)).toNat)
      (fun j σ H' => ∃ (v5 v6 : Option V) (L' : Lay), σ = [some (.ref p), some (.int (i : Int)), some (.ref t), some (.int room), some (.int ((if s.over = true then 1 else 2 : Nat) : Int)), v5, v6] ∧ Rep Z H' p { (runs s j).1 with greatest := s.greatest } L' ∧ ExtB t H L H' L' ∧ TL H' L' t (ts ++ (runs s j).2))
      ⟨none, none, L, rfl, R1, (Ext.same S1).b, (by show TL _ L t (ts ++ []); rw [List.append_nil]; exact tl.ext (Ext.same S1))⟩ ?_ ?_⟩
    · rintro j σ H' hj ⟨v5, v6, L', rfl, R', E', tl'⟩
      obtain ⟨g1, g2, g3, g4, _, g6⟩ := anew_run ok hd j
      have g1 : Ok (runs s j).1 := g1
      have g2 : (runs s j).1.dead = false := g2
      have g3 : (runs s j).1.side = s.side := g3
      have g4 : (runs s j).1.greatest < after s + 2 * j := g4
      have gfl : (runs s j).1.first.length ≤ s.first.length + j := (anew_run_fl s (fun j => after s + 2 * j) j).1
      have gtl : (runs s j).2.length ≤ 0 + j := by
        have := anews_told (fun j => after s + 2 * j) (List.range j) (s, [])
        rw [List.length_range] at this
        exact this
      have hj64 : j < 64 := by omega
      have hk : (runs s j).1.own (after s + 2 * j) = false := by rw [own_congr g3, own_add]; exact (after_own ok).1
      refine ⟨_, rfl, p, Z.S, L'.dx, _, _, rfl, R'.hp, T.cS, T.nS _ (by decide +kernel), sl_come _ _ _ _, _, rfl, _, _, rfl, rfl, .inl ⟨by decide, by decide⟩, _, _, rfl, rfl, ?_⟩
      rw [af j]
      have ea : (after s : Int) + 2 * (0 + (j : Int)) = ((after s + 2 * j : Nat) : Int) := by omega
      dsimp only
      rw [ea]
      refine ⟨_, rfl, _, rfl, _, _, rfl, rfl, _, rfl, ?_⟩
      refine ite2 (fun hc => ?_) (fun hc => ?_)
      · have hc : (0 : Int) + (j : Int) < room := of_decide_eq_true hc
        have hno : ¬ ((runs s j).1.over = true ∨ 64 ≤ (runs s j).1.theirs) := fun z => (hrm j).mp z (by omega)
        have er : runs s (j + 1) = (({ (runs s j).1 with greatest := after s + 2 * j } : State).open_ (Sq01.fresh (after s + 2 * j)), (runs s j).2 ++ [.asks (after s + 2 * j)]) := by
          rw [runs_succ]
          exact if_neg hno
        have hni : after s + 2 * j ∉ ids ({ (runs s j).1 with greatest := s.greatest } : State) := fun hm => by
          have := g1.others _ hm hk
          omega
        refine ⟨_, rfl, p, L'.dx, _, rfl, R'.hp, sl_m1 _ _ _ _, _, rfl, p, after s + 2 * j, _, L', rfl, R', hni, g1.few, fun H3 L3 R3 E3 => ?_⟩
        have tl3 := tl'.ext E3
        obtain ⟨tas, k1, k2, k3⟩ := tl3
        refine ⟨_, rfl, .inl ⟨rfl, _, SqL.of k1⟩, _, rfl, by show 2 ≤ sizeLine; decide, fun a ha => ?_⟩
        have S4 : Same H3 (upd H3 a (.lst [V.int 1, V.int ((after s + 2 * j : Nat) : Int)])) := Same.fresh ha
        refine ⟨t, _, _, rfl, rfl, S4 _ _ k1, ?_, ?_⟩
        · rw [List.length_map, TL.len k3, List.length_append]
          exact Nat.lt_of_lt_of_le (show _ < 9000000 by omega) (fits (by decide))
        have R4 := R3.same S4
        have p4 := TL.push (x := .asks (after s + 2 * j)) (S4 _ _ k1) k2 (paired_mono k3 fun b y z => ⟨S4 _ _ z.1, z.2⟩) (q := a) upd_same (R3.free ha)
        refine ⟨_, _, L3, rfl, ?_, ((E'.trans E3.b).trans (Ext.same S4).b).trans ExtB.own, ?_⟩
        · rw [er]
          exact R4.upd0 k2
        · rw [er]
          dsimp only
          rw [← List.append_assoc]
          exact p4
      · have hc : ¬ (0 : Int) + (j : Int) < room := fun z => hc (decide_eq_true z)
        have hyes : (runs s j).1.over = true ∨ 64 ≤ (runs s j).1.theirs := (hrm j).mpr (by omega)
        have er : runs s (j + 1) = (({ (runs s j).1 with greatest := after s + 2 * j } : State).say (Sq01.stopFrame (after s + 2 * j) (if s.over = true then 1 else 2)), (runs s j).2) := by
          rw [runs_succ]
          have e0 : anew1 (runs s j) (after s + 2 * j) = (({ (runs s j).1 with greatest := after s + 2 * j } : State).say (Sq01.stopFrame (after s + 2 * j) (if (runs s j).1.over = true then 1 else 2)), (runs s j).2) := if_pos hyes
          rw [e0, show (runs s j).1.over = s.over from g6]
        refine ⟨_, rfl, p, Z.S, L'.dx, _, _, rfl, R'.hp, T.cS, T.nS _ (by decide +kernel), sl_first _ _ _ _, .inl ⟨rfl, _, SqL.of R'.hl⟩, _, rfl, _, rfl, after s + 2 * j, (if s.over = true then 1 else 2), rfl, fun H3 a S3 hn3 ha3 => ?_⟩
        have N3 := (Now.of R').same S3
        refine ⟨L'.l, _, _, rfl, rfl, N3.rep.hl, ?_, ?_⟩
        · rw [List.length_map, R'.faLen]
          exact Nat.lt_of_lt_of_le (show _ < 9000000 by show (runs s j).1.first.length < 9000000; omega) (fits (by decide))
        have N4 := N3.say ha3 (R'.free hn3) (.of hn3)
        refine ⟨_, _, _, rfl, ?_, E'.trans N4.ext.b, ?_⟩
        · rw [er]
          exact N4.rep
        · rw [er]
          exact tl'.ext N4.ext
    · rintro σ H' ⟨v5, v6, L', rfl, R', E', tl'⟩
      rw [Int.toNat_natCast] at R' tl'
      refine ⟨_, rfl, _, _, rfl, rfl, _, rfl, p, Z.S, L'.dx, _, rfl, R'.hp, T.cS, T.nS _ (by decide +kernel), small_s _ _ _ _, ?_⟩
      have hpos := (after_own ok).2.2
      rw [sp_come (n := i) (h := ?hh)]
      case hh =>
        have e : after ({ ({ (runs s ((i - after s) / 2 + 1)).1 with greatest := s.greatest } : State) with greatest := i } : State) = i + 2 := by
          unfold after
          exact if_neg (show ¬ i = 0 by omega)
        rw [e]
        rfl
      have R5 := R'.side (t := { (runs s ((i - after s) / 2 + 1)).1 with greatest := i }) rfl rfl rfl
      have eg : (runs s ((i - after s) / 2 + 1)).1.greatest = i := by
        have h5 : (runs s ((i - after s) / 2 + 1)).1.greatest = after s + 2 * ((i - after s) / 2 + 1 - 1) := (anew_run ok hd ((i - after s) / 2 + 1)).2.2.2.2.1 (Nat.succ_pos _)
        have pa : (after s % 2 == s.side % 2) = false := (after_own ok).1
        have pa : after s % 2 ≠ s.side % 2 := by simpa using pa
        have pi : (i % 2 == s.side % 2) = false := ho
        have pi : i % 2 ≠ s.side % 2 := by simpa using pi
        rw [h5]
        omega
      have es : ({ (runs s ((i - after s) / 2 + 1)).1 with greatest := i } : State) = (runs s ((i - after s) / 2 + 1)).1 := by
        conv => rhs; rw [← (show ({ (runs s ((i - after s) / 2 + 1)).1 with greatest := (runs s ((i - after s) / 2 + 1)).1.greatest } : State) = (runs s ((i - after s) / 2 + 1)).1 from rfl), eg]
      rw [es] at R5
      have E5 : Ext H' L' (upd H' p (.ins Z.S L'.dx (sF ({ (runs s ((i - after s) / 2 + 1)).1 with greatest := i } : State) L'.d L'.l L'.c))) L' := Ext.own R'.gp
      rw [es] at E5
      show Q .non (upd H' p (.ins Z.S L'.dx (sF ({ (runs s ((i - after s) / 2 + 1)).1 with greatest := i } : State) L'.d L'.l L'.c)))
      rw [es]
      exact q _ L' R5 (E'.trans E5.b) (tl'.ext E5)
theorem scMK : FnScope ["side", "number", "told"] ["side", "number", "told"] (defScope sMK) := ⟨rfl, rfl, rfl, by decide +kernel, rfl, by decide +kernel, by decide +kernel⟩
theorem ok_mk {f : Addr} {fd : FuncData} (F : Fun K "make_known" "make_known" sMK f fd) (T : Txt K mg Z) (D9 : Mdef P w K mg base 2 Z.S "is_or_was" ["self", "number"] (spS9 Z)) (D2 : Mdef P w K mg base 1 Z.S "is_ours" ["self", "number"] (spS2 Z))
    (DH : Def P w K mg base 1 "how_many_anew" ["side", "number"] (spHM Z)) (DA : Def P w K mg base 4 "ask_anew" ["side", "number", "told"] (spAA Z)) : FnOk P w K mg base CX0 5 f fd ["side", "number", "told"] (spMK Z) := by
  refine F.ok scMK (fun vs H Q E h => ?_) (fun cdv A outer s0 H vs Q E hr h => ?_)
  · obtain ⟨p, t, i, s, L, ts, rfl, _⟩ := h; rfl
  · obtain ⟨p, t, i, s, L, ts, rfl, R, ok, hd, hi, hfl, tl, htl, q⟩ := h
    have c1 := T.con ("RIGHT", 0) (by decide +kernel)
    have c2 := T.con ("ANEW_MOST", 64) (by decide +kernel)
    have c3 := T.con ("NEVER_WAS", 3) (by decide +kernel)
    have hr1 : Room 1 _ := hr.mono (by decide)
    have hr2 : Room 2 _ := hr.mono (by decide)
    refine ⟨_, pss_cons (ps_if (pt_val (pm D9 hr2 (pv 0) (pa_cons (pv 1) pa_nil))) (pss_one (ps_ret (pc c1))) pss_nil)
      (pss_cons (ps_if (PW.pt (pw_or (pt_val (pm D2 hr1 (pv 0) (pa_cons (pv 1) pa_nil))) (pw_or1 (pt_cmpR op_gt (pd DH hr1 (pa_cons (pv 0) (pa_cons (pv 1) pa_nil))) (pc c2) (nomark _))))) (pss_one (ps_ret (pc c3))) pss_nil)
      (pss_cons (ps_expr (pd DA hr (pa_cons (pv 0) (pa_cons (pv 1) (pa_cons (pv 2) pa_nil))))) (pss_one (ps_ret (pc c1))))), ?_⟩
    unfold known at q
    refine ⟨_, rfl, p, L.dx, _, rfl, R.hp, sl_m9 _ _ _ _, _, rfl, p, L.dx, L.d, L.l, L.c, i, s, rfl, R.hp, ok, hi, isOrWas s i, rfl, ?_⟩
    cases hw : isOrWas s i with
    | true =>
      rw [if_pos hw] at q
      refine iteT ?_
      exact q H L R ExtB.refl (by rw [List.append_nil]; exact tl)
    | false =>
      rw [if_neg (by rw [hw]; exact Bool.false_ne_true)] at q
      refine iteF ?_
      refine ⟨_, rfl, p, L.dx, _, rfl, R.hp, sl_m2 _ _ _ _, _, rfl, p, L.dx, L.d, L.l, L.c, i, s, rfl, R.hp, s.own i, rfl, ?_⟩
      cases ho : s.own i with
      | true =>
        rw [if_pos ho] at q
        exact iteT (iteT q)
      | false =>
        rw [if_neg (by rw [ho]; exact Bool.false_ne_true), anew_eq] at q
        refine iteF ?_
        have hai : after s ≤ i := by
          unfold isOrWas at hw
          rw [ho, if_neg Bool.false_ne_true] at hw
          have hw : ¬ i ≤ s.greatest := of_decide_eq_false hw
          have := was_after ok ho hi
          omega
        refine ⟨_, rfl, _, rfl, p, L.dx, L.d, L.l, L.c, i, s, rfl, R.hp, hai, _, _, rfl, rfl, _, rfl, ?_⟩
        refine ite2 (fun hc => ?_) (fun hc => ?_)
        · have hc : (64 : Int) < (((i - after s) / 2 + 1 : Nat) : Int) := of_decide_eq_true hc
          rw [if_pos (show Sq01.OPEN < (i - after s) / 2 + 1 by show 64 < _; omega)] at q
          exact q
        · have hc : ¬ (64 : Int) < (((i - after s) / 2 + 1 : Nat) : Int) := fun z => hc (decide_eq_true z)
          rw [if_neg (show ¬ Sq01.OPEN < (i - after s) / 2 + 1 by show ¬ 64 < _; omega)] at q
          exact ⟨_, rfl, _, rfl, _, rfl, p, t, i, s, L, ts, rfl, R, ok, hd, ho, hai, by omega, hfl, tl, htl, fun H' L' R' E' tl' => q H' L' R' E' tl'⟩
end
end Os
set_option linter.all false
set_option maxRecDepth 100000
namespace Os
open PySem PySem.Spec PyProof.Rows L2
open Sq01 (State Exchange Bytes)
theorem send_le : ∀ (n : Nat) (s : State) (m : Nat), (s.send n m).1.length ≤ m
  | 0, s, m => Nat.zero_le _
  | n + 1, s, m => by
    unfold State.send
    split
    · exact Nat.zero_le _
    · rename_i x e
      have h := frame_le (f := x.1) (t := x.2) e
      have g := send_le n x.2 (m - x.1.bytes.length)
      dsimp only
      rw [List.length_append]
      omega
theorem sends_le (s : State) (m : Nat) : (sends s m).1.length ≤ m := send_le _ _ _
theorem who_zero {s : State} {m : Nat} (h : Ok s) (h0 : s.first = []) (hd : s.dead = false) (hw : who s m = 0) : sends s m = ([], s) := by
  by_cases hm : 8 ≤ m
  · refine sends_none ?_
    rw [frame_turns h h0 hd hm]
    unfold who at hw
    have e : canB s m = fun x => can s x (m - 8) := by
      funext x
      unfold canB
      rw [decide_eq_true hm, Bool.true_and]
    rw [e] at hw
    cases hx : s.turns.find? fun x => can s x (m - 8) with
    | none => rfl
    | some x =>
      rw [hx] at hw
      have hp := (h.xs x (mem_turns.mp (List.mem_of_find?_eq_some hx))).pos
      have hw : x.id = 0 := hw
      omega
  · exact sends_none (frame_small h0 (.inl (by omega)))
theorem who_some {s : State} {m : Nat} (h : Ok s) (h0 : s.first = []) (hd : s.dead = false) (hw : who s m ≠ 0) : ∃ x ∈ s.exchanges, who s m = x.id ∧ 8 ≤ m ∧ Ok (sentBy s x (cut s x (m - 8))) ∧ (cut s x (m - 8)).bytes.length ≤ m ∧
    sends s m = ((cut s x (m - 8)).bytes ++ (sends (sentBy s x (cut s x (m - 8))) (m - (cut s x (m - 8)).bytes.length)).1, (sends (sentBy s x (cut s x (m - 8))) (m - (cut s x (m - 8)).bytes.length)).2) := by
  unfold who at hw
  cases hx : s.turns.find? (canB s m) with
  | none => rw [hx] at hw; exact absurd rfl hw
  | some x =>
    have hm : x ∈ s.exchanges := mem_turns.mp (List.mem_of_find?_eq_some hx)
    have hc := List.find?_some hx
    unfold canB at hc
    rw [Bool.and_eq_true] at hc
    have h8 : 8 ≤ m := of_decide_eq_true hc.1
    have hf : s.frame m = some (cut s x (m - 8), sentBy s x (cut s x (m - 8))) := by
      rw [frame_turns h h0 hd h8]
      have e : canB s m = fun x => can s x (m - 8) := by
        funext y
        unfold canB
        rw [decide_eq_true h8, Bool.true_and]
      rw [← e, hx]
      rfl
    refine ⟨x, hm, ?_, h8, sentBy_ok h hm hc.2, frame_le hf, sends_some hf⟩
    unfold who
    rw [hx]
section
variable {P : Program} {w : World} {K : PySem.W.Frag} {mg : Str → Option Value} {base : Heap} {Z : Cs}
theorem scSD : FnScope ["side", "room", "sent", "number"] ["side", "room"] (defScope sSD) := ⟨rfl, rfl, rfl, by decide +kernel, rfl, by decide +kernel, by decide +kernel⟩
theorem ok_sd {f : Addr} {fd : FuncData} (F : Fun K "send_data" "send_data" sSD f fd) (T : Txt K mg Z) (DW : Def P w K mg base 3 "whose_turn" ["side", "room"] (spWT Z)) (DP : Def P w K mg base 4 "send_piece" ["side", "number", "room"] (spSP Z)) : FnOk P w K mg base CX0 5 f fd ["side", "room"] (spSD Z) := by
  refine F.ok scSD (fun vs H Q E h => ?_) (fun cdv A outer s0 H vs Q E hr h => ?_)
  · obtain ⟨p, room, s, L, rfl, _⟩ := h; rfl
  · obtain ⟨p, room, s, L, rfl, R, ok, hroom, hf0, hd, q⟩ := h
    have hr3 : Room 3 _ := hr.mono (by decide)
    have c0 := T.con ("NOBODY", 0) (by decide +kernel)
    refine ⟨_, pss_cons (ps_set (i := 2) scSD.nd rfl (Or.inl rfl) (pe_lst pa_nil))
      (pss_cons (ps_set (i := 3) scSD.nd rfl (Or.inl rfl) (pd DW hr3 (pa_cons (pv 0) (pa_cons (pv 1) pa_nil))))
      (pss_cons (ps_while PassesOwn.never (pt_cmpR op_ne (pv 3) (pc c0) (nomark _))
        (pss_cons (ps_expr (pextend (pv 2) (pa_cons (pd DP hr (pa_cons (pv 0) (pa_cons (pv 3) (pa_cons (pe_op op_sub (pv 1) (pe_callB call_len_seq (by rfl) T.len PySem.boot_len (pa_cons (pv 2) pa_nil))) pa_nil)))) pa_nil)))
        (pss_one (ps_set (i := 3) scSD.nd rfl (Or.inl rfl) (pd DW hr3 (pa_cons (pv 0) (pa_cons (pe_op op_sub (pv 1) (pe_callB call_len_seq (by rfl) T.len PySem.boot_len (pa_cons (pv 2) pa_nil))) pa_nil)))))))
      (pss_one (ps_ret (pv 2))))), ?_⟩
    refine ⟨Nat.zero_le _, fun a ha => ?_⟩
    have N0 : Now Z p H L (upd H a (.lst [])) s L := (Now.of R).new ha
    refine ⟨_, rfl, _, rfl, p, room, s, L, rfl, N0.rep, ok, fun H1 S1 => ?_⟩
    have N1 := N0.same S1
    refine ⟨fun m σ H' => ∃ (b : Bytes) (s1 : State) (L' : Lay), m = room - b.length ∧ σ = [some (.ref p), some (.int (room : Int)), some (.ref a), some (.int ((who s1 (room - b.length) : Nat) : Int))] ∧ b.length ≤ room ∧ Ok s1 ∧ s1.first = [] ∧ s1.dead = false ∧ Now Z p H L H' s1 L' ∧ H' a = some (.lst (iv b)) ∧ L'.G a = none ∧
        sends s room = (b ++ (sends s1 (room - b.length)).1, (sends s1 (room - b.length)).2), ⟨_, [], s, L, rfl, rfl, Nat.zero_le _, ok, hf0, hd, N1, S1 _ _ upd_same, R.free ha, rfl⟩, ?_⟩
    rintro m σ H' ⟨b, s1, L', rfl, rfl, hbl, ok1, hf1, hd1, N, hb, gb, es⟩
    refine ⟨_, rfl, rfl, _, rfl, ?_⟩
    rw [show decide (V.int ((who s1 (room - b.length) : Nat) : Int) = V.int 0) = decide (who s1 (room - b.length) = 0) from by
      by_cases z : who s1 (room - b.length) = 0
      · rw [z]; rfl
      · rw [decide_eq_false z, decide_eq_false (fun y => z (by have := V.int.inj y; omega))]]
    by_cases hw : who s1 (room - b.length) = 0
    · rw [decide_eq_true hw]
      refine iteF ⟨_, rfl, ?_⟩
      rw [who_zero ok1 hf1 hd1 hw, List.append_nil] at es
      rw [es] at q
      exact q _ L' a N (.of ha) hb gb
    · rw [decide_eq_false hw]
      refine iteT ?_
      obtain ⟨x, hm, ew, h8, ok2, hle, es2⟩ := who_some ok1 hf1 hd1 hw
      generalize hr2 : room - b.length = r2 at *
      generalize hcu : cut s1 x (r2 - 8) = cu at *
      refine ⟨fun σ' H' => ∃ (b' : Bytes) (s1 : State) (L' : Lay), room - b'.length < r2 ∧ σ' = [some (.ref p), some (.int (room : Int)), some (.ref a), some (.int ((who s1 (room - b'.length) : Nat) : Int))] ∧ b'.length ≤ room ∧ Ok s1 ∧ s1.first = [] ∧ s1.dead = false ∧ Now Z p H L H' s1 L' ∧ H' a = some (.lst (iv b')) ∧ L'.G a = none ∧
        sends s room = (b' ++ (sends s1 (room - b'.length)).1, (sends s1 (room - b'.length)).2), fun σ' H' ⟨b', s1, L', h1, h2⟩ => ⟨_, h1, b', s1, L', rfl, h2⟩, ?_⟩
      rw [ew]
      have er2 : (room : Int) - ((iv b).length : Int) = (r2 : Int) := by rw [iv_len]; omega
      refine ⟨_, rfl, .inl ⟨rfl, _, SqL.of hb⟩, _, rfl, _, rfl, _, rfl, _, rfl, a, _, rfl, .inl (SqL.of hb), _, _, rfl, rfl, ?_⟩
      refine ⟨p, r2, s1, L', x, (by show [V.ref p, V.int (x.id : Int), V.int ((room : Int) - ((iv b).length : Int))] = _; rw [er2]), N.rep, ok1, hm, h8, fun H2 L2 c N2 nw hc gc => ?_⟩
      rw [hcu] at N2 hc
      obtain ⟨ka, ga⟩ := N2.ext a _ hb gb
      have hca : c ≠ a := fun z => nw _ (by rw [z]; exact hb) (by rw [z]; exact gb)
      refine ⟨a, c, _, _, rfl, rfl, ka, hc, ?_, ?_⟩
      · rw [iv_len, iv_len]; exact fits (by omega)
      rw [← iv_app]
      have N3 := N.trans N2
      have N4 : Now Z p H L (upd H2 a (.lst (iv (b ++ cu.bytes)))) (sentBy s1 x cu) L2 := ⟨N3.rep.upd0 ga, fun y o ey gy => by
        obtain ⟨e1, e2⟩ := N3.ext y o ey gy
        exact ⟨by rw [upd_ne (ne_of_none ey ha)]; exact e1, e2⟩, N3.xa⟩
      have hbl2 : (b ++ cu.bytes).length = b.length + cu.bytes.length := List.length_append
      have hpos : 8 ≤ cu.bytes.length := by rw [bytes_length]; omega
      have er3 : (room : Int) - ((iv (b ++ cu.bytes)).length : Int) = ((room - (b ++ cu.bytes).length : Nat) : Int) := by rw [iv_len]; omega
      refine ⟨_, rfl, _, rfl, _, rfl, a, _, rfl, .inl (SqL.of upd_same), _, _, rfl, rfl, ?_⟩
      refine ⟨p, room - (b ++ cu.bytes).length, sentBy s1 x cu, L2, (by show [V.ref p, V.int ((room : Int) - ((iv (b ++ cu.bytes)).length : Int))] = _; rw [er3]), N4.rep, ok2, fun H5 S5 => ?_⟩
      refine ⟨b ++ cu.bytes, sentBy s1 x cu, L2, by omega, rfl, by omega, ok2, hf1, hd1, N4.same S5, S5 _ _ upd_same, ga, ?_⟩
      rw [es, es2, show room - (b ++ cu.bytes).length = r2 - cu.bytes.length by omega, List.append_assoc]
theorem scOut : FnScope ["side", "most", "room", "sent"] ["side", "most"] (defScope sOut) := ⟨rfl, rfl, rfl, by decide +kernel, rfl, by decide +kernel, by decide +kernel⟩
theorem ok_out {f : Addr} {fd : FuncData} (F : Fun K "out" "out" sOut f fd) (T : Txt K mg Z) (DF : Def P w K mg base 1 "send_first" ["side", "room"] (spSF1 Z)) (DD : Def P w K mg base 5 "send_data" ["side", "room"] (spSD Z)) (D7 : Mdef P w K mg base 3 Z.S "drop_done" ["self"] (spS7 Z)) :
    FnOk P w K mg base CX0 6 f fd ["side", "most"] (spOut Z) := by
  refine F.ok scOut (fun vs H Q E h => ?_) (fun cdv A outer s0 H vs Q E hr h => ?_)
  · obtain ⟨p, m, s, L, rfl, _⟩ := h; rfl
  · obtain ⟨p, m, s, L, rfl, R, ok, hfl, q⟩ := h
    have hr1 : Room 1 _ := hr.mono (by decide)
    have hr3 : Room 3 _ := hr.mono (by decide)
    have c0 := T.con ("OUT_MOST", 1048576) (by decide +kernel)
    refine ⟨_, pss_cons (ps_if (pt_val (pe_fld (pv 0) rfl)) (pss_one (ps_ret (pe_lst (pa_cons pe_int pa_nil)))) pss_nil)
      (pss_cons (ps_set (i := 2) scOut.nd rfl (Or.inl rfl) (pe_callB (call_min2 rfl) (by rfl) T.min PyProof.Rows.boot_min (pa_cons (pv 1) (pa_cons (pc c0) pa_nil))))
      (pss_cons (ps_set (i := 3) scOut.nd rfl (Or.inl rfl) (pd DF hr1 (pa_cons (pv 0) (pa_cons (pv 2) pa_nil))))
      (pss_cons (ps_mid (ps_if (pt_cmpR op_eq (pe_callB call_len_seq (by rfl) T.len PySem.boot_len (pa_cons (pe_fld (pv 0) rfl) pa_nil)) pe_int (nomark _))
        (pss_one (ps_expr (pextend (pv 3) (pa_cons (pd DD hr (pa_cons (pv 0) (pa_cons (pe_op op_sub (pv 2) (pe_callB call_len_seq (by rfl) T.len PySem.boot_len (pa_cons (pv 3) pa_nil))) pa_nil))) pa_nil)))) pss_nil))
      (pss_cons (ps_expr (pm0 D7 hr3 (pv 0)))
      (pss_one (ps_ret (pe_op op_cat (pe_lst (pa_cons (pe_callB call_len_seq (by rfl) T.len PySem.boot_len (pa_cons (pv 3) pa_nil)) pa_nil)) (pv 3)))))))), ?_⟩
    rw [out_step] at q
    refine ⟨_, rfl, p, Z.S, L.dx, _, _, rfl, R.hp, T.cS, T.nS _ (by decide +kernel), sl_dead _ _ _ _, s.dead, rfl, ?_⟩
    cases hd : s.dead with
    | true =>
      refine iteT ⟨by show 1 ≤ sizeLine; decide, fun a ha => ?_⟩
      rw [sends_dead ok hd] at q
      have e0 : s.exchanges.foldl (fun (t : State) x => t.tidy x.id) s = s := by rw [(ok.dead hd).1]; rfl
      dsimp only at q
      rw [e0] at q
      exact q _ L a (R.fresh ha) (Ext.fresh ha) (.of ha) upd_same (R.free ha)
    | false =>
      refine iteF ?_
      generalize hroom : min m 1048576 = room at q
      have em : (if (1048576 : Int) < (m : Int) then (1048576 : Int) else (m : Int)) = (room : Int) := by
        by_cases z : (1048576 : Int) < (m : Int)
        · rw [if_pos z]; omega
        · rw [if_neg z]; omega
      refine ⟨_, rfl, _, _, rfl, ?_⟩
      rw [em]
      -- sent = send_first(side, room)
      refine ⟨_, rfl, _, rfl, p, room, s, L, rfl, R, by omega, hfl, fun H1 L1 a N1 na ha ga => ?_⟩
      have sf := sends_first s.first s room rfl
      have sle := sendFirst_le s.first room
      generalize hsf : sendFirst s.first room = sfr at *
      -- if len(side.first) == 0
      refine ⟨fun σ' H' => ∃ L', σ' = [some (.ref p), some (.int (m : Int)), some (.int (room : Int)), some (.ref a)] ∧ Now Z p H L H' (sends s room).2 L' ∧ H' a = some (.lst (iv (sends s room).1)) ∧ L'.G a = none,
        ⟨_, rfl, p, Z.S, L1.dx, _, _, rfl, N1.rep.hp, T.cS, T.nS _ (by decide +kernel), sl_first _ _ _ _, L1.l, _, rfl, .inl (SqL.of N1.rep.hl), rfl, _, rfl, ?_⟩, ?_⟩
      · rw [List.length_map, N1.rep.faLen]
        by_cases hz : sfr.2 = []
        · rw [if_pos hz] at sf
          rw [hz] at N1 ⊢
          refine iteT ?_
          have ok1 : Ok ({ s with first := [] } : State) := ok.like ⟨rfl, rfl, rfl, rfl, rfl, fun _ _ => rfl, rfl⟩ ok.xs
          have er : (room : Int) - ((iv sfr.1).length : Int) = ((room - sfr.1.length : Nat) : Int) := by rw [iv_len]; omega
          refine ⟨_, rfl, .inl ⟨rfl, _, SqL.of ha⟩, _, rfl, _, rfl, _, rfl, a, _, rfl, .inl (SqL.of ha), _, _, rfl, rfl, ?_⟩
          refine ⟨p, room - sfr.1.length, { s with first := [] }, L1, (by show [V.ref p, V.int ((room : Int) - ((iv sfr.1).length : Int))] = _; rw [er]), N1.rep, ok1, by omega, rfl, hd, fun H2 L2 c N2 nc hc gc => ?_⟩
          obtain ⟨ka, ga2⟩ := N2.ext a _ ha ga
          have hle2 := sends_le ({ s with first := [] } : State) (room - sfr.1.length)
          refine ⟨a, c, _, _, rfl, rfl, ka, hc, ?_, ?_⟩
          · rw [iv_len, iv_len]; exact fits (by omega)
          rw [← iv_app]
          have N3 := N1.trans N2
          refine ⟨L2, rfl, ⟨?_, fun y o ey gy => ?_, N3.xa⟩, ?_, ga2⟩
          · rw [sf]
            exact N3.rep.upd0 ga2
          · obtain ⟨e1, e2⟩ := N3.ext y o ey gy
            exact ⟨by rw [upd_ne (fun z => na o (by rw [← z]; exact ey) (by rw [← z]; exact gy))]; exact e1, e2⟩
          · rw [upd_same, sf]
        · rw [if_neg hz] at sf
          have hne : decide (V.int ((sfr.2.length : Nat) : Int) = V.int 0) = false := decide_eq_false fun z => hz (List.eq_nil_of_length_eq_zero (Int.ofNat.inj (V.int.inj z)))
          show if decide (V.int ((sfr.2.length : Nat) : Int) = V.int 0) = true then _ else _
          rw [hne]
          refine iteF ⟨L1, rfl, ?_, ?_, ga⟩
          · rw [sf]; exact N1
          · rw [sf]; exact ha
      rintro σ4 H4 ⟨L4, rfl, N4, ha4, ga4⟩
      have ok4 : Ok (sends s room).2 := Ok.send _ _ ok
      have hle4 := sends_le s room
      generalize sends s room = sr at *
      -- side.drop_done()
      refine ⟨_, rfl, p, L4.dx, _, rfl, N4.rep.hp, sl_m7 _ _ _ _, p, sr.2, L4, rfl, N4.rep, ok4, fun H5 L5 N5 => ?_⟩
      obtain ⟨ka, ga5⟩ := N5.ext a _ ha4 ga4
      have N6 := N4.trans N5
      refine ⟨_, rfl, a, _, rfl, .inl (SqL.of ka), by show 1 ≤ sizeLine; decide, fun a6 h6 => ?_⟩
      refine ⟨_, rfl, a6, a, _, _, rfl, rfl, upd_same, (by rw [upd_ne (ne_of_none ka h6)]; exact ka), ?_, fun a7 h7 => ?_⟩
      · rw [iv_len]; exact fits (by show 1 + _ ≤ _; omega)
      have N7 := N6.new (o := .lst [V.int ((iv sr.1).length : Int)]) h6
      refine q _ L5 a7 (N7.rep.fresh h7) (N7.ext.trans (Ext.fresh h7)) (N7.ext.new h7) ?_ (N7.rep.free h7)
      rw [upd_same, iv_len]
      rfl
end
end Os
set_option linter.all false
set_option maxRecDepth 100000
namespace Os
open PySem PySem.Spec PyProof.Rows L2
open Sq01 (State Exchange Bytes Told)
def spDN (Z : Cs) : Sp := fun vs H Q _ => ∃ (p : Addr) (n : Nat) (s : State) (L : Lay), vs = [.ref p, .int n] ∧ Rep Z H p s L ∧ s.first.length < 9000000 ∧ ∀ H' L', Rep Z H' p (forNone s n).1 L' → Ext H L H' L' → Q (.int ((forNone s n).2 : Nat)) H'
def spAC (K : PySem.W.Frag) : Sp := fun vs H Q _ => ∃ (a C dx : Addr) (fs : List (Str × V)) (m n : Nat), vs = [.ref a, .int n] ∧ H a = some (.ins C dx fs) ∧ Cls K C ∧ NoAttr K C "credit" ∧ fs.lookup ("credit" : Str) = some (.int m) ∧ fs.length < 1000 ∧
  (if Sq01.RAISED < m + n then Q (.int 5) H else Q (.int 0) (upd H a (.ins C dx (putF "credit" (.int ((m : Int) + (n : Int))) fs))))
def spMC (Z : Cs) : Sp := fun vs H Q _ => ∃ (p t a : Addr) (f : Sq01.Frame) (s : State) (L : Lay), vs = [.ref p, .ref a] ∧ Rep Z H p s L ∧ Ok s ∧ FAt Z H L t a f ∧ ∀ H' L', Rep Z H' p (metCredit s f).1 L' → Ext H L H' L' → Q (.int ((metCredit s f).2.2 : Nat)) H'
def spMS (Z : Cs) : Sp := fun vs H Q _ => ∃ (p t a : Addr) (f : Sq01.Frame) (s : State) (L : Lay) (ts : List Told), vs = [.ref p, .ref a, .ref t] ∧ Rep Z H p s L ∧ Ok s ∧ s.dead = false ∧ 0 < f.id ∧ s.first.length < 8000000 ∧ FAt Z H L t a f ∧ TL H L t ts ∧ ts.length < 8000000 ∧ Tells Z p t H L ts (metStop s f) Q
def spMD (Z : Cs) : Sp := fun vs H Q _ => ∃ (p t a : Addr) (f : Sq01.Frame) (s : State) (L : Lay) (ts : List Told), vs = [.ref p, .ref a, .ref t] ∧ Rep Z H p s L ∧ Ok s ∧ s.dead = false ∧ 0 < f.id ∧ s.first.length < 8000000 ∧ FAt Z H L t a f ∧ TL H L t ts ∧ ts.length < 8000000 ∧ Tells Z p t H L ts (metData s f) Q
section
variable {P : Program} {w : World} {K : PySem.W.Frag} {mg : Str → Option Value} {base : Heap} {Z : Cs}
theorem scDN : FnScope ["side", "size"] ["side", "size"] (defScope sDN) := ⟨rfl, rfl, rfl, by decide +kernel, rfl, by decide +kernel, by decide +kernel⟩
theorem ok_dn {f : Addr} {fd : FuncData} (F : Fun K "data_for_nothing" "data_for_nothing" sDN f fd) (T : Txt K mg Z) (D4 : Mdef P w K mg base 4 Z.S "give_back" ["self", "size"] (spS4 Z)) : FnOk P w K mg base CX0 5 f fd ["side", "size"] (spDN Z) := by
  refine F.ok scDN (fun vs H Q E h => ?_) (fun cdv A outer s0 H vs Q E hr h => ?_)
  · obtain ⟨p, n, s, L, rfl, _⟩ := h; rfl
  · obtain ⟨p, n, s, L, rfl, R, hfl, q⟩ := h
    have c1 := T.con ("MORE_THAN_LEFT", 4) (by decide +kernel)
    have c2 := T.con ("RIGHT", 0) (by decide +kernel)
    refine ⟨_, pss_cons (ps_if (pt_cmpR op_gt (pv 1) (pe_fld (pv 0) rfl) (nomark _)) (pss_one (ps_ret (pc c1))) pss_nil)
      (pss_cons (ps_fldaug (pv 0) (pv 1) in_sub) (pss_cons (ps_expr (pm D4 hr (pv 0) (pa_cons (pv 1) pa_nil))) (pss_one (ps_ret (pc c2))))), ?_⟩
    unfold forNone at q
    refine ⟨_, rfl, _, rfl, p, Z.S, L.dx, _, _, rfl, R.hp, T.cS, T.nS _ (by decide +kernel), sl_left _ _ _ _, _, _, rfl, rfl, _, rfl, ?_⟩
    refine ite2 (fun hc => ?_) (fun hc => ?_)
    · have hc : (s.left : Int) < (n : Int) := of_decide_eq_true hc
      rw [if_pos (show s.left < n by omega)] at q
      exact q H L R Ext.refl
    · have hc : ¬ (s.left : Int) < (n : Int) := fun z => hc (decide_eq_true z)
      rw [if_neg (show ¬ s.left < n by omega)] at q
      refine ⟨_, rfl, p, Z.S, L.dx, _, _, rfl, R.hp, T.cS, T.nS _ (by decide +kernel), sl_left _ _ _ _, _, rfl, _, _, rfl, rfl, _, _, R.hp, small_s _ _ _ _, ?_⟩
      rw [sp_left (n := s.left - n) (h := ?hh)]
      case hh =>
        show (s.left : Int) - (n : Int) = _
        omega
      have N1 := (Now.of R).ws (t := { s with left := s.left - n }) rfl rfl
      exact ⟨_, rfl, p, L.dx, _, rfl, N1.rep.hp, sl_m4 _ _ _ _, _, rfl, p, n, _, L, rfl, N1.rep, Nat.lt_trans hfl (by decide), fun H2 L2 N2 => q H2 L2 N2.rep (N1.ext.trans N2.ext)⟩
theorem scAC : FnScope ["holder", "more"] ["holder", "more"] (defScope sAC) := ⟨rfl, rfl, rfl, by decide +kernel, rfl, by decide +kernel, by decide +kernel⟩
theorem ok_ac {f : Addr} {fd : FuncData} (F : Fun K "add_credit" "add_credit" sAC f fd) (T : Txt K mg Z) : FnOk P w K mg base CX0 1 f fd ["holder", "more"] (spAC K) := by
  refine F.ok scAC (fun vs H Q E h => ?_) (fun cdv A outer s0 H vs Q E hr h => ?_)
  · obtain ⟨a, C, dx, fs, m, n, rfl, _⟩ := h; rfl
  · obtain ⟨a, C, dx, fs, m, n, rfl, ha, cl, na, lk, few, q⟩ := h
    have c1 := T.con ("CREDIT_MOST", 2147483647) (by decide +kernel)
    have c2 := T.con ("TOO_MUCH_CREDIT", 5) (by decide +kernel)
    have c3 := T.con ("RIGHT", 0) (by decide +kernel)
    refine ⟨_, pss_cons (ps_if (pt_cmpR op_gt (pe_op op_add (pe_fld (pv 0) rfl) (pv 1)) (pc c1) (nomark _)) (pss_one (ps_ret (pc c2))) pss_nil)
      (pss_cons (ps_fldaug (pv 0) (pv 1) in_add) (pss_one (ps_ret (pc c3)))), ?_⟩
    refine ⟨_, rfl, a, C, dx, _, _, rfl, ha, cl, na, lk, _, rfl, _, _, rfl, rfl, _, _, rfl, rfl, _, rfl, ?_⟩
    refine ite2 (fun hc => ?_) (fun hc => ?_)
    · have hc : (2147483647 : Int) < (m : Int) + (n : Int) := of_decide_eq_true hc
      rw [if_pos (show Sq01.RAISED < m + n by show 2147483647 < m + n; omega)] at q
      exact q
    · have hc : ¬ (2147483647 : Int) < (m : Int) + (n : Int) := fun z => hc (decide_eq_true z)
      rw [if_neg (show ¬ Sq01.RAISED < m + n by show ¬ 2147483647 < m + n; omega)] at q
      exact ⟨_, rfl, a, C, dx, _, _, rfl, ha, cl, na, lk, _, rfl, _, _, rfl, rfl, dx, _, ha, few, q⟩
theorem scMC : FnScope ["side", "frame"] ["side", "frame"] (defScope sMC) := ⟨rfl, rfl, rfl, by decide +kernel, rfl, by decide +kernel, by decide +kernel⟩
theorem ok_mc {f : Addr} {fd : FuncData} (F : Fun K "meet_credit" "meet_credit" sMC f fd) (T : Txt K mg Z) (DA : Def P w K mg base 1 "add_credit" ["holder", "more"] (spAC K)) (D1 : Mdef P w K mg base 2 Z.F "body_number" ["self"] (spF1 Z))
    (D9 : Mdef P w K mg base 2 Z.S "is_or_was" ["self", "number"] (spS9 Z)) : FnOk P w K mg base CX0 3 f fd ["side", "frame"] (spMC Z) := by
  refine F.ok scMC (fun vs H Q E h => ?_) (fun cdv A outer s0 H vs Q E hr h => ?_)
  · obtain ⟨p, t, a, f, s, L, rfl, _⟩ := h; rfl
  · obtain ⟨p, t, a, f, s, L, rfl, R, ok, ⟨b, ⟨dx, ha⟩, hb, ga, gb, nat, nbt⟩, q⟩ := h
    have hu := hu_of hr
    have hr1 : Room 1 _ := hr.mono (by decide)
    have c1 := T.con ("OF_ALL", 0) (by decide +kernel)
    have c2 := T.con ("RIGHT", 0) (by decide +kernel)
    have c3 := T.con ("NEVER_WAS", 3) (by decide +kernel)
    refine ⟨_, pss_cons (ps_if (pt_cmpR op_eq (pe_fld (pv 1) rfl) (pc c1) (nomark _)) (pss_one (ps_ret (pd DA hr1 (pa_cons (pv 0) (pa_cons (pm0 D1 hr (pv 1)) pa_nil))))) pss_nil)
      (pss_cons (ps_if (pt_cmp (pc_din hu (pe_fld (pv 1) rfl) (pe_fld (pv 0) rfl))) (pss_one (ps_ret (pd DA hr1 (pa_cons (pe_dget hu (pe_fld (pv 0) rfl) (pe_fld (pv 1) rfl) (fun _ _ => rfl)) (pa_cons (pm0 D1 hr (pv 1)) pa_nil))))) pss_nil)
      (pss_one (ps_ret (pe_ifExp (pt_val (pm D9 hr (pv 0) (pa_cons (pe_fld (pv 1) rfl) pa_nil))) (pc c2) (pc c3))))), ?_⟩
    unfold metCredit at q
    refine ⟨_, rfl, a, Z.F, dx, _, _, rfl, ha, T.cF, T.nF _ (by decide +kernel), fl_number _ _ _ _ _, rfl, _, rfl, ?_⟩
    refine ite2 (fun hc => ?_) (fun hc => ?_)
    · have hc : f.id = 0 := of_decide_eq_true ((int_eq f.id 0).symm.trans hc)
      rw [if_pos hc] at q
      refine ⟨_, rfl, _, rfl, a, dx, _, rfl, ha, fl_m1 _ _ _ _ _, a, dx, b, _, _, _, _, f.body, rfl, ha, hb, p, Z.S, L.dx, _, s.credit, Sq01.number f.body, rfl, R.hp, T.cS, T.nS _ (by decide +kernel), sl_credit _ _ _ _, small_s _ _ _ _, ?_⟩
      split
      · rename_i z
        rw [if_pos z] at q
        exact q H L R Ext.refl
      · rename_i z
        rw [if_neg z] at q
        rw [sp_credit (n := s.credit + Sq01.number f.body) (h := ?hh)]
        case hh => rfl
        have N1 := (Now.of R).ws (t := { s with credit := s.credit + Sq01.number f.body }) rfl rfl
        exact q _ L N1.rep N1.ext
    · have hc : ¬ f.id = 0 := fun z => hc ((int_eq f.id 0).trans (decide_eq_true z))
      rw [if_neg hc] at q
      refine ⟨_, rfl, a, Z.F, dx, _, _, rfl, ha, T.cF, T.nF _ (by decide +kernel), fl_number _ _ _ _ _, _, rfl, p, Z.S, L.dx, _, _, rfl, R.hp, T.cS, T.nS _ (by decide +kernel), sl_exchanges _ _ _ _, L.d, _, rfl, DGet.k (k := Sum.inl (f.id : Int)) R.hd, _, rfl, ?_⟩
      cases hx : s.find f.id with
      | some x =>
        rw [R.at_some hx]
        rw [hx] at q
        dsimp only at q
        obtain ⟨hm, hid⟩ := find_some hx
        have Ex := R.ex x hm
        obtain ⟨ex, hob⟩ := Ex.ob
        rw [hid] at hob
        have g : DGet H L.d (kV (Sum.inl (f.id : Int))) (some (V.ref (L.xa f.id))) := by rw [← R.at_some hx]; exact DGet.k R.hd
        refine ⟨_, rfl, p, Z.S, L.dx, _, _, rfl, R.hp, T.cS, T.nS _ (by decide +kernel), sl_exchanges _ _ _ _, _, rfl, a, Z.F, dx, _, _, rfl, ha, T.cF, T.nF _ (by decide +kernel), fl_number _ _ _ _ _, L.d, _, rfl, g, _, rfl, a, dx, _, rfl, ha, fl_m1 _ _ _ _ _, a, dx, b, _, _, _, _, f.body, rfl, ha, hb,
          L.xa f.id, Z.X, ex, _, x.credit, Sq01.number f.body, rfl, hob, T.cX, T.nX _ (by decide +kernel), xl_credit _ _ _, small_x _ _ _, ?_⟩
        split
        · rename_i z
          rw [if_pos z] at q
          exact q H L R Ext.refl
        · rename_i z
          rw [if_neg z] at q
          rw [xp_credit (n := x.credit + Sq01.number f.body) (h := ?hh)]
          case hh => rfl
          have N1 := (Now.of R).wx ok.srt (x := x) (y := { x with credit := x.credit + Sq01.number f.body }) (dx := ex) hm rfl rfl rfl
          rw [← hid]
          exact q _ L N1.rep N1.ext
      | none =>
        rw [R.at_none hx]
        rw [hx] at q
        dsimp only at q
        refine ⟨_, rfl, p, L.dx, _, rfl, R.hp, sl_m9 _ _ _ _, _, rfl, a, Z.F, dx, _, _, rfl, ha, T.cF, T.nF _ (by decide +kernel), fl_number _ _ _ _ _, p, L.dx, L.d, L.l, L.c, f.id, s, rfl, R.hp, ok, by omega, isOrWas s f.id, rfl, ?_⟩
        cases hw : isOrWas s f.id with
        | true =>
          rw [if_pos hw] at q
          exact iteT (q H L R Ext.refl)
        | false =>
          rw [if_neg (by rw [hw]; exact Bool.false_ne_true)] at q
          exact iteF (q H L R Ext.refl)
theorem scMS : FnScope ["side", "frame", "told", "wrong"] ["side", "frame", "told"] (defScope sMS) := ⟨rfl, rfl, rfl, by decide +kernel, rfl, by decide +kernel, by decide +kernel⟩
theorem ok_ms {f : Addr} {fd : FuncData} (F : Fun K "meet_stopped" "meet_stopped" sMS f fd) (T : Txt K mg Z) (DK : Def P w K mg base 5 "make_known" ["side", "number", "told"] (spMK Z)) (D5 : Mdef P w K mg base 5 Z.S "lose" ["self", "number"] (spS5 Z))
    (D1 : Mdef P w K mg base 2 Z.F "body_number" ["self"] (spF1 Z)) : FnOk P w K mg base CX0 6 f fd ["side", "frame", "told"] (spMS Z) := by
  refine F.ok scMS (fun vs H Q E h => ?_) (fun cdv A outer s0 H vs Q E hr h => ?_)
  · obtain ⟨p, t, a, f, s, L, ts, rfl, _⟩ := h; rfl
  · obtain ⟨p, t, a, f, s, L, ts, rfl, R, ok, hd, hi, hfl, fa, tl, htl, q⟩ := h
    have hu := hu_of hr
    have hr2 : Room 2 _ := hr.mono (by decide)
    have c1 := T.con ("RIGHT", 0) (by decide +kernel)
    have c2 := T.con ("TOLD_STOPPED", 4) (by decide +kernel)
    refine ⟨_, pss_cons (ps_set (i := 3) scMS.nd rfl (Or.inl rfl) (pd DK hr (pa_cons (pv 0) (pa_cons (pe_fld (pv 1) rfl) (pa_cons (pv 2) pa_nil)))))
      (pss_cons (ps_if (pt_cmpR op_ne (pv 3) (pc c1) (nomark _)) (pss_one (ps_ret (pv 3))) pss_nil)
      (pss_cons (ps_if (pt_cmp (pc_din hu (pe_fld (pv 1) rfl) (pe_fld (pv 0) rfl)))
        (pss_cons (ps_expr (pm D5 hr (pv 0) (pa_cons (pe_fld (pv 1) rfl) pa_nil))) (pss_one (ps_expr (pappend (pv 2) (pa_cons (pe_lst (pa_cons (pc c2) (pa_cons (pe_fld (pv 1) rfl) (pa_cons (pm0 D1 hr2 (pv 1)) pa_nil)))) pa_nil))))) pss_nil)
      (pss_one (ps_ret (pc c1))))), ?_⟩
    have fa0 := fa
    obtain ⟨b, ⟨dx, ha⟩, hb, ga, gb, nat, nbt⟩ := fa0
    refine ⟨_, rfl, _, rfl, a, Z.F, dx, _, _, rfl, ha, T.cF, T.nF _ (by decide +kernel), fl_number _ _ _ _ _, _, rfl, p, t, f.id, s, L, ts, rfl, R, ok, hd, hi, hfl, tl, htl, ?_⟩
    unfold metStop at q
    cases hk : known s f.id with
    | none =>
      rw [hk] at q
      dsimp only at q ⊢
      refine ⟨_, rfl, rfl, _, rfl, iteT ⟨_, rfl, ?_⟩⟩
      exact q H L R ExtB.refl (by rw [List.append_nil]; exact tl)
    | some r =>
      rw [hk] at q
      dsimp only at q ⊢
      intro H1 L1 R1 E1 tl1
      obtain ⟨ok1, hd1, _⟩ := known_alive ok hd hk
      have fl1 : r.1.first.length ≤ s.first.length + 64 := known_fl hk
      have tn1 := known_told hk
      refine ⟨_, rfl, rfl, _, rfl, iteF ?_⟩
      have fa1 := fa.extB E1
      obtain ⟨b1, ⟨dx1, ha1⟩, hb1, ga1, gb1, _, nb1⟩ := fa1
      refine ⟨_, rfl, a, Z.F, dx1, _, _, rfl, ha1, T.cF, T.nF _ (by decide +kernel), fl_number _ _ _ _ _, _, rfl, p, Z.S, L1.dx, _, _, rfl, R1.hp, T.cS, T.nS _ (by decide +kernel), sl_exchanges _ _ _ _, L1.d, _, rfl, DGet.k (k := Sum.inl (f.id : Int)) R1.hd, _, rfl, ?_⟩
      cases hx : r.1.find f.id with
      | none =>
        rw [R1.at_none hx]
        rw [hx] at q
        exact iteF (q H1 L1 R1 E1 tl1)
      | some x =>
        rw [R1.at_some hx]
        rw [hx] at q
        dsimp only at q
        refine iteT ?_
        refine ⟨_, rfl, p, L1.dx, _, rfl, R1.hp, sl_m5 _ _ _ _, _, rfl, a, Z.F, dx1, _, _, rfl, ha1, T.cF, T.nF _ (by decide +kernel), fl_number _ _ _ _ _, p, f.id, r.1, L1, x, rfl, R1, by omega, hx, fun H2 L2 N2 => ?_⟩
        have tl2 := tl1.ext N2.ext
        obtain ⟨b2, ⟨dx2, ha2⟩, hb2, ga2, gb2, _, nb2⟩ := (fa.extB E1).ext N2.ext
        obtain ⟨tas, k1, k2, k3⟩ := tl2
        refine ⟨_, rfl, .inl ⟨rfl, _, SqL.of k1⟩, _, rfl, a, Z.F, dx2, _, _, rfl, ha2, T.cF, T.nF _ (by decide +kernel), fl_number _ _ _ _ _, _, rfl, a, dx2, _, rfl, ha2, fl_m1 _ _ _ _ _, a, dx2, b2, _, _, _, _, f.body, rfl, ha2, hb2, by show 3 ≤ sizeLine; decide, fun c hc => ?_⟩
        have S4 : Same H2 (upd H2 c (.lst [V.int 4, V.int (f.id : Int), V.int (Sq01.number f.body : Nat)])) := Same.fresh hc
        refine ⟨t, _, _, rfl, rfl, S4 _ _ k1, ?_, ?_⟩
        · rw [List.length_map, TL.len k3, List.length_append]
          exact Nat.lt_of_lt_of_le (show _ < 9000000 by omega) (fits (by decide))
        have p4 := TL.push (x := .stopped f.id (Sq01.number f.body)) (S4 _ _ k1) k2 (paired_mono k3 fun b y z => ⟨S4 _ _ z.1, z.2⟩) (q := c) upd_same (N2.rep.free hc)
        refine q _ L2 ((N2.rep.same S4).upd0 k2) (((E1.trans N2.ext.b).trans (Ext.same S4).b).trans ExtB.own) ?_
        rw [← List.append_assoc]
        exact p4
end
end Os
set_option linter.all false
set_option maxRecDepth 100000
namespace Os
open PySem PySem.Spec PyProof.Rows L2
open Sq01 (State Exchange Bytes Told)
section
variable {P : Program} {w : World} {K : PySem.W.Frag} {mg : Str → Option Value} {base : Heap} {Z : Cs}
theorem scMD : FnScope ["side", "frame", "told", "wrong", "exchange"] ["side", "frame", "told"] (defScope sMD) := ⟨rfl, rfl, rfl, by decide +kernel, rfl, by decide +kernel, by decide +kernel⟩
theorem ok_md {f : Addr} {fd : FuncData} (F : Fun K "meet_data" "meet_data" sMD f fd) (T : Txt K mg Z) (DK : Def P w K mg base 5 "make_known" ["side", "number", "told"] (spMK Z)) (DN : Def P w K mg base 5 "data_for_nothing" ["side", "size"] (spDN Z)) :
    FnOk P w K mg base CX0 6 f fd ["side", "frame", "told"] (spMD Z) := by
  refine F.ok scMD (fun vs H Q E h => ?_) (fun cdv A outer s0 H vs Q E hr h => ?_)
  · obtain ⟨p, t, a, f, s, L, ts, rfl, _⟩ := h; rfl
  · obtain ⟨p, t, a, f, s, L, ts, rfl, R, ok, hd, hi, hfl, fa, tl, htl, q⟩ := h
    have hu := hu_of hr
    have c1 := T.con ("RIGHT", 0) (by decide +kernel)
    have c2 := T.con ("BEHIND_LAST", 6) (by decide +kernel)
    have c3 := T.con ("MORE_THAN_LEFT", 4) (by decide +kernel)
    have c4 := T.con ("TOLD_BYTES", 2) (by decide +kernel)
    have c5 := T.con ("TOLD_LAST", 3) (by decide +kernel)
    refine ⟨_, pss_cons (ps_set (i := 3) scMD.nd rfl (Or.inl rfl) (pd DK hr (pa_cons (pv 0) (pa_cons (pe_fld (pv 1) rfl) (pa_cons (pv 2) pa_nil)))))
      (pss_cons (ps_if (pt_cmpR op_ne (pv 3) (pc c1) (nomark _)) (pss_one (ps_ret (pv 3))) pss_nil)
      (pss_cons (ps_set (i := 4) scMD.nd rfl (Or.inl rfl) (pe_dget1 hu (pe_fld (pv 0) rfl) (pe_fld (pv 1) rfl) ⟨rfl, rfl, rfl, rfl⟩))
      (pss_cons (ps_if (pt_cmp (pc_isN (pv 4))) (pss_one (ps_ret (pd DN hr (pa_cons (pv 0) (pa_cons (pe_fld (pv 1) rfl) pa_nil))))) pss_nil)
      (pss_cons (ps_if (pt_val (pe_fld (pv 4) rfl)) (pss_one (ps_ret (pc c2))) pss_nil)
      (pss_cons (ps_if (PW.pt (pw_or (pt_cmpR op_gt (pe_fld (pv 1) rfl) (pe_fld (pv 4) rfl) (nomark _)) (pw_or1 (pt_cmpR op_gt (pe_fld (pv 1) rfl) (pe_fld (pv 0) rfl) (nomark _))))) (pss_one (ps_ret (pc c3))) pss_nil)
      (pss_cons (ps_fldaug (pv 4) (pe_fld (pv 1) rfl) in_sub)
      (pss_cons (ps_fldaug (pv 0) (pe_fld (pv 1) rfl) in_sub)
      (pss_cons (ps_expr (pextend (pe_fld (pv 4) rfl) (pa_cons (pe_fld (pv 1) rfl) pa_nil)))
      (pss_cons (ps_mid (ps_if (pt_cmpR op_gt (pe_fld (pv 1) rfl) pe_int (nomark _)) (pss_one (ps_expr (pappend (pv 2) (pa_cons (pe_lst (pa_cons (pc c4) (pa_cons (pe_fld (pv 1) rfl) (pa_cons (pe_fld (pv 1) rfl) pa_nil)))) pa_nil)))) pss_nil))
      (pss_cons (ps_mid (ps_if (pt_cmpR op_eq (pe_fld (pv 1) rfl) pe_int (nomark _)) (pss_cons (ps_fld (pv 4) pe_bl rfl) (pss_one (ps_expr (pappend (pv 2) (pa_cons (pe_lst (pa_cons (pc c5) (pa_cons (pe_fld (pv 1) rfl) pa_nil))) pa_nil))))) pss_nil))
      (pss_one (ps_ret (pc c1))))))))))))), ?_⟩
    have fa0 := fa
    obtain ⟨b, ⟨dx, ha⟩, hb, ga, gb, nat, nbt⟩ := fa0
    refine ⟨_, rfl, _, rfl, a, Z.F, dx, _, _, rfl, ha, T.cF, T.nF _ (by decide +kernel), fl_number _ _ _ _ _, _, rfl, p, t, f.id, s, L, ts, rfl, R, ok, hd, hi, hfl, tl, htl, ?_⟩
    unfold metData at q
    cases hk : known s f.id with
    | none =>
      rw [hk] at q
      dsimp only at q ⊢
      refine ⟨_, rfl, rfl, _, rfl, iteT ⟨_, rfl, ?_⟩⟩
      exact q H L R ExtB.refl (by rw [List.append_nil]; exact tl)
    | some r =>
      rw [hk] at q
      dsimp only at q ⊢
      intro H1 L1 R1 E1 tl1
      obtain ⟨ok1, hd1, _⟩ := known_alive ok hd hk
      have fl1 : r.1.first.length ≤ s.first.length + 64 := known_fl hk
      have tn1 := known_told hk
      refine ⟨_, rfl, rfl, _, rfl, iteF ?_⟩
      have fa1 := fa.extB E1
      obtain ⟨b1, ⟨dx1, ha1⟩, hb1, ga1, gb1, _, nb1⟩ := fa1
      refine ⟨_, rfl, p, Z.S, L1.dx, _, _, rfl, R1.hp, T.cS, T.nS _ (by decide +kernel), sl_exchanges _ _ _ _, L1.d, rfl, .inl ⟨_, .inl R1.hd⟩, _, rfl, a, Z.F, dx1, _, _, rfl, ha1, T.cF, T.nF _ (by decide +kernel), fl_number _ _ _ _ _, _, DGet.k (k := Sum.inl (f.id : Int)) R1.hd, ?_⟩
      cases hx : r.1.find f.id with
      | none =>
        rw [R1.at_none hx]
        rw [hx] at q
        dsimp only at q
        refine ⟨_, rfl, _, rfl, ?_⟩
        refine iteT ?_
        exact ⟨_, rfl, _, rfl, a, Z.F, dx1, _, _, rfl, ha1, T.cF, T.nF _ (by decide +kernel), fl_size _ _ _ _ _, p, f.body.length, r.1, L1, rfl, R1, by omega, fun H2 L2 R2 E2 => q H2 L2 R2 (E1.trans E2.b) (tl1.ext E2)⟩
      | some x =>
        rw [R1.at_some hx]
        rw [hx] at q
        dsimp only at q
        obtain ⟨hm, hid⟩ := find_some hx
        have Ex := R1.ex x hm
        obtain ⟨ex, hob⟩ := Ex.ob
        rw [← hid]
        refine ⟨_, rfl, _, rfl, ?_⟩
        show if decide (V.ref (L1.xa x.id) = V.non) = true then _ else _
        rw [not_non]
        refine iteF ?_
        unfold forOne at q
        refine ⟨_, rfl, L1.xa x.id, Z.X, ex, _, _, rfl, hob, T.cX, T.nX _ (by decide +kernel), xl_came _ _ _, x.whole, rfl, ?_⟩
        cases hw : x.whole with
        | true =>
          rw [if_pos hw] at q
          dsimp only at q
          rw [List.append_nil] at q
          exact iteT (q H1 L1 R1 E1 tl1)
        | false =>
          rw [if_neg (by rw [hw]; exact Bool.false_ne_true)] at q
          refine iteF ?_
          refine ⟨_, rfl, a, Z.F, dx1, _, _, rfl, ha1, T.cF, T.nF _ (by decide +kernel), fl_size _ _ _ _ _, _, rfl, L1.xa x.id, Z.X, ex, _, _, rfl, hob, T.cX, T.nX _ (by decide +kernel), xl_left _ _ _, _, _, rfl, rfl, _, rfl, ?_⟩
          refine ite2 (fun hc => ?_) (fun hc => ?_)
          · have hc : (x.left : Int) < (f.body.length : Int) := of_decide_eq_true hc
            rw [if_pos (.inl (by omega))] at q
            dsimp only at q
            rw [List.append_nil] at q
            exact iteT (q H1 L1 R1 E1 tl1)
          have hc : ¬ (x.left : Int) < (f.body.length : Int) := fun z => hc (decide_eq_true z)
          refine ⟨_, rfl, a, Z.F, dx1, _, _, rfl, ha1, T.cF, T.nF _ (by decide +kernel), fl_size _ _ _ _ _, _, rfl, p, Z.S, L1.dx, _, _, rfl, R1.hp, T.cS, T.nS _ (by decide +kernel), sl_left _ _ _ _, _, _, rfl, rfl, _, rfl, ?_⟩
          refine ite2 (fun hc2 => ?_) (fun hc2 => ?_)
          · have hc2 : (r.1.left : Int) < (f.body.length : Int) := of_decide_eq_true hc2
            rw [if_pos (.inr (by omega))] at q
            dsimp only at q
            rw [List.append_nil] at q
            exact q H1 L1 R1 E1 tl1
          have hc2 : ¬ (r.1.left : Int) < (f.body.length : Int) := fun z => hc2 (decide_eq_true z)
          rw [if_neg (by omega)] at q
          dsimp only at q
          have hidm : x.id ∈ ids r.1 := List.mem_map.mpr ⟨x, hm, rfl⟩
          have N0 := Now.of R1
          -- exchange.left -= frame.size
          refine ⟨_, rfl, L1.xa x.id, Z.X, ex, _, _, rfl, hob, T.cX, T.nX _ (by decide +kernel), xl_left _ _ _, _, rfl, a, Z.F, dx1, _, _, rfl, ha1, T.cF, T.nF _ (by decide +kernel), fl_size _ _ _ _ _, _, _, rfl, rfl, ex, _, hob, small_x _ _ _, ?_⟩
          rw [xp_left (n := x.left - f.body.length) (h := ?hh)]
          case hh => omega
          have N1 := N0.wx ok1.srt (y := { x with left := x.left - f.body.length }) (dx := ex) hm rfl rfl rfl
          obtain ⟨b2, ⟨dx2, ha2⟩, hb2, ga2, gb2, _, nb2⟩ := (fa.extB E1).ext N1.ext
          -- side.left -= frame.size
          refine ⟨_, rfl, p, Z.S, L1.dx, _, _, rfl, N1.rep.hp, T.cS, T.nS _ (by decide +kernel), sl_left _ _ _ _, _, rfl, a, Z.F, dx2, _, _, rfl, ha2, T.cF, T.nF _ (by decide +kernel), fl_size _ _ _ _ _, _, _, rfl, rfl, L1.dx, _, N1.rep.hp, small_s _ _ _ _, ?_⟩
          rw [sp_left (n := r.1.left - f.body.length) (h := ?hh)]
          case hh =>
            show (r.1.left : Int) - (f.body.length : Int) = _
            omega
          have N2 := N1.ws (t := { (r.1.set { x with left := x.left - f.body.length }) with left := r.1.left - f.body.length }) rfl rfl
          obtain ⟨b3, ⟨dx3, ha3⟩, hb3, ga3, gb3, _, nb3⟩ := (fa.extB E1).ext N2.ext
          have hm2 : ({ x with left := x.left - f.body.length } : Exchange) ∈ ({ (r.1.set { x with left := x.left - f.body.length }) with left := r.1.left - f.body.length } : State).exchanges := mem_set_self (x := { x with left := x.left - f.body.length }) hidm
          have E2 := N2.rep.ex _ hm2
          obtain ⟨ex2, hob2⟩ := E2.ob
          have hut := E2.ut
          dsimp only at hob2 hut
          have xo := ok1.xs x hm
          -- exchange.untaken.extend(frame.body)
          refine ⟨_, rfl, L1.xa x.id, Z.X, ex2, _, _, rfl, hob2, T.cX, T.nX _ (by decide +kernel), xl_untaken _ _ _, .inl ⟨rfl, _, SqL.of hut⟩, _, rfl, a, Z.F, dx3, _, _, rfl, ha3, T.cF, T.nF _ (by decide +kernel), fl_body _ _ _ _ _, L1.ua x.id, b3, _, _, rfl, rfl, hut, hb3, ?_, ?_⟩
          · rw [iv_len, iv_len]
            have := xo.sum
            exact fits (by omega)
          rw [← iv_app]
          have R3 := N2.rep.gets (b := x.got ++ f.body) hm2
          have N3 : Now Z p H1 L1 _ _ L1 := ⟨R3, N2.ext.trans (Ext.own E2.gu), N2.xa⟩
          have e3 : ({ (r.1.set { x with left := x.left - f.body.length }) with left := r.1.left - f.body.length } : State).set { ({ x with left := x.left - f.body.length } : Exchange) with got := x.got ++ f.body } = ({ r.1 with left := r.1.left - f.body.length } : State).set { x with left := x.left - f.body.length, got := x.got ++ f.body } :=
            set_set (s := { r.1 with left := r.1.left - f.body.length }) (y := { x with left := x.left - f.body.length }) (z := { x with left := x.left - f.body.length, got := x.got ++ f.body }) rfl
          rw [e3] at N3
          generalize hs3 : ({ r.1 with left := r.1.left - f.body.length } : State).set { x with left := x.left - f.body.length, got := x.got ++ f.body } = s3 at N3
          have hm3 : ({ x with left := x.left - f.body.length, got := x.got ++ f.body } : Exchange) ∈ s3.exchanges := by
            rw [← hs3]
            exact mem_set_self (s := { r.1 with left := r.1.left - f.body.length }) (x := { x with left := x.left - f.body.length, got := x.got ++ f.body }) hidm
          have srt3 : (ids s3).Pairwise (· < ·) := by
            rw [← hs3, set_ids]
            exact ok1.srt
          have tl3 := tl1.ext N3.ext
          have fa3 := (fa.extB E1).ext N3.ext
          -- what is told of it
          generalize htd : (if 0 < f.body.length then [Told.data x.id f.body.length] else []) = td at q
          have hgot : ∀ l : Bool, ({ r.1 with left := r.1.left - f.body.length } : State).set { x with got := x.got ++ f.body, whole := l, left := x.left - f.body.length } = if l = true then s3.set { x with left := x.left - f.body.length, got := x.got ++ f.body, whole := true } else s3 := fun l => by
            cases l with
            | true =>
              rw [if_pos rfl, ← hs3]
              exact (set_set (s := { r.1 with left := r.1.left - f.body.length }) (y := { x with left := x.left - f.body.length, got := x.got ++ f.body }) (z := { x with left := x.left - f.body.length, got := x.got ++ f.body, whole := true }) rfl).symm
            | false =>
              rw [if_neg Bool.false_ne_true, ← hs3]
              have ew : ({ x with got := x.got ++ f.body, whole := false, left := x.left - f.body.length } : Exchange) = { x with left := x.left - f.body.length, got := x.got ++ f.body } := by
                obtain ⟨x1, x2, x3, x4, x5, x6, x7, x8, x9, x10⟩ := x
                have hw : x7 = false := hw
                subst hw
                rfl
              rw [ew]
          rw [hgot] at q
          obtain ⟨b4, ⟨dx4, ha4⟩, hb4, ga4, gb4, _, nb4⟩ := fa3
          -- if frame.size > 0
          refine ⟨fun σ' H' => σ' = [some (.ref p), some (.ref a), some (.ref t), some (.int 0), some (.ref (L1.xa x.id))] ∧ Rep Z H' p s3 L1 ∧ ExtB t H1 L1 H' L1 ∧ TL H' L1 t (ts ++ r.2 ++ td), ⟨_, rfl, a, Z.F, dx4, _, _, rfl, ha4, T.cF, T.nF _ (by decide +kernel), fl_size _ _ _ _ _, _, _, rfl, rfl, _, rfl, ?_⟩, ?_⟩
          · refine ite2 (fun hc3 => ?_) (fun hc3 => ?_)
            · have hc3 : (0 : Int) < (f.body.length : Int) := of_decide_eq_true hc3
              rw [if_pos (by omega)] at htd
              obtain ⟨tas, k1, k2, k3⟩ := tl3
              refine ⟨_, rfl, .inl ⟨rfl, _, SqL.of k1⟩, _, rfl, a, Z.F, dx4, _, _, rfl, ha4, T.cF, T.nF _ (by decide +kernel), fl_number _ _ _ _ _, _, rfl, a, Z.F, dx4, _, _, rfl, ha4, T.cF, T.nF _ (by decide +kernel), fl_size _ _ _ _ _, by show 3 ≤ sizeLine; decide, fun c hc4 => ?_⟩
              have S4 : Same _ (upd _ c (.lst [V.int 2, V.int (f.id : Int), V.int (f.body.length : Int)])) := Same.fresh hc4
              refine ⟨t, _, _, rfl, rfl, S4 _ _ k1, ?_, ?_⟩
              · rw [List.length_map, TL.len k3, List.length_append]
                exact Nat.lt_of_lt_of_le (show _ < 9000000 by omega) (fits (by decide))
              have p4 := TL.push (x := .data x.id f.body.length) (S4 _ _ k1) k2 (paired_mono k3 fun b y z => ⟨S4 _ _ z.1, z.2⟩) (q := c) (by rw [upd_same, hid]; rfl) (N3.rep.free hc4)
              refine ⟨rfl, (N3.rep.same S4).upd0 k2, (N3.ext.b.trans (Ext.same S4).b).trans ExtB.own, ?_⟩
              rw [← htd]
              exact p4
            · have hc3 : ¬ (0 : Int) < (f.body.length : Int) := fun z => hc3 (decide_eq_true z)
              rw [if_neg (by omega)] at htd
              refine ⟨rfl, N3.rep, N3.ext.b, ?_⟩
              rw [← htd, List.append_nil]
              exact tl3
          rintro σ5 H5 ⟨rfl, R5, E5, tl5⟩
          obtain ⟨b5, ⟨dx5, ha5⟩, hb5, ga5, gb5, _, nb5⟩ := (fa.extB E1).extB E5
          -- if frame.flags == 1
          refine ⟨fun σ' H' => ∃ L', Rep Z H' p (if f.last = true then s3.set { x with left := x.left - f.body.length, got := x.got ++ f.body, whole := true } else s3) L' ∧ ExtB t H1 L1 H' L' ∧ TL H' L' t (ts ++ r.2 ++ td ++ (if f.last = true then [Told.last x.id] else [])), ⟨_, rfl, a, Z.F, dx5, _, _, rfl, ha5, T.cF, T.nF _ (by decide +kernel), fl_flags _ _ _ _ _, rfl, _, rfl, ?_⟩, ?_⟩
          · cases hlast : f.last with
            | false =>
              refine iteF ⟨L1, ?_, E5, ?_⟩
              · rw [if_neg Bool.false_ne_true]; exact R5
              · rw [if_neg Bool.false_ne_true, List.append_nil]; exact tl5
            | true =>
              refine iteT ?_
              obtain ⟨ex5, hob5⟩ := (R5.ex _ hm3).ob
              dsimp only at hob5
              refine ⟨_, rfl, L1.xa x.id, Z.X, ex5, _, rfl, hob5, T.cX, T.nX _ (by decide +kernel), small_x _ _ _, ?_⟩
              rw [xp_came]
              have N6 := (Now.of R5).wx srt3 (x := { x with left := x.left - f.body.length, got := x.got ++ f.body }) (y := { x with left := x.left - f.body.length, got := x.got ++ f.body, whole := true }) (dx := ex5) hm3 rfl rfl rfl
              have tl6 := tl5.ext N6.ext
              obtain ⟨b6, ⟨dx6, ha6⟩, hb6, ga6, gb6, _, nb6⟩ := ((fa.extB E1).extB E5).ext N6.ext
              obtain ⟨tas, k1, k2, k3⟩ := tl6
              refine ⟨_, rfl, .inl ⟨rfl, _, SqL.of k1⟩, _, rfl, a, Z.F, dx6, _, _, rfl, ha6, T.cF, T.nF _ (by decide +kernel), fl_number _ _ _ _ _, by show 2 ≤ sizeLine; decide, fun c hc4 => ?_⟩
              have S4 : Same _ (upd _ c (.lst [V.int 3, V.int (f.id : Int)])) := Same.fresh hc4
              refine ⟨t, _, _, rfl, rfl, S4 _ _ k1, ?_, ?_⟩
              · rw [List.length_map, TL.len k3, List.length_append, List.length_append]
                have : td.length ≤ 1 := by rw [← htd]; split <;> simp
                exact Nat.lt_of_lt_of_le (show _ < 9000000 by omega) (fits (by decide))
              have p4 := TL.push (x := .last x.id) (S4 _ _ k1) k2 (paired_mono k3 fun b y z => ⟨S4 _ _ z.1, z.2⟩) (q := c) (by rw [upd_same, hid]; rfl) (N6.rep.free hc4)
              refine ⟨L1, ?_, ((E5.trans N6.ext.b).trans (Ext.same S4).b).trans ExtB.own, ?_⟩
              · rw [if_pos rfl]; exact (N6.rep.same S4).upd0 k2
              · rw [if_pos rfl]; exact p4
          rintro σ6 H6 ⟨L6, R6, E6, tl6⟩
          refine q H6 L6 R6 (E1.trans E6) ?_
          rw [← List.append_assoc, ← List.append_assoc]
          exact tl6
end
end Os
set_option linter.all false
set_option maxRecDepth 100000
namespace Os
open PySem PySem.Spec PyProof.Rows L2
open Sq01 (State Exchange Bytes Told)
theorem drop_find {s : State} {i j : Nat} (n : i ≠ j) : (s.drop j).find i = s.find i := by
  unfold State.find State.drop
  dsimp only
  induction s.exchanges with
  | nil => rfl
  | cons x l ih =>
    rw [List.filter_cons]
    by_cases h : x.id = j
    · have h1 : (x.id != j) = false := by rw [h]; simp
      have h2 : (x.id == i) = false := beq_eq_false_iff_ne.mpr (fun z => n (z.symm.trans h))
      rw [h1, if_neg Bool.false_ne_true, ih, List.find?_cons, h2]
    · have h1 : (x.id != j) = true := by simpa using h
      rw [h1, if_pos rfl, List.find?_cons, List.find?_cons, ih]
theorem back_find (s : State) (n i : Nat) : (s.back n).find i = s.find i := by
  unfold State.find
  rw [back_ex]
abbrev loseL (l : List Exchange) (s : State) : State := l.foldl (fun (t : State) x => (t.drop x.id).back x.got.length) s
theorem lose_find : ∀ (l : List Exchange) (s : State) (i : Nat), (∀ x ∈ l, x.id ≠ i) → (loseL l s).find i = s.find i
  | [], s, i, _ => rfl
  | x :: l, s, i, h => by
    show (loseL l ((s.drop x.id).back x.got.length)).find i = _
    rw [lose_find l _ i (fun y hy => h y (List.mem_cons_of_mem _ hy)), back_find, drop_find (fun z => h x List.mem_cons_self z.symm)]
def spMG (Z : Cs) : Sp := fun vs H Q _ => ∃ (p t : Addr) (g : Nat) (s : State) (L : Lay) (ts : List Told), vs = [.ref p, .int g, .ref t] ∧ Rep Z H p s L ∧ Ok s ∧ s.dead = false ∧ s.first.length < 8000000 ∧ TL H L t ts ∧ ts.length < 8000000 ∧
  ∀ H' L', Rep Z H' p (metGoing s g).1 L' → ExtB t H L H' L' → TL H' L' t (ts ++ (metGoing s g).2) → Q .non H'
section
variable {P : Program} {w : World} {K : PySem.W.Frag} {mg : Str → Option Value} {base : Heap} {Z : Cs}
theorem scMG : FnScope ["side", "greatest", "told", "lost", "number"] ["side", "greatest", "told"] (defScope sMG) := ⟨rfl, rfl, rfl, by decide +kernel, rfl, by decide +kernel, by decide +kernel⟩
theorem blkMG : BlkOk ["side", "greatest", "told", "lost", "number"] (defScope sMG) (asgComp sMG 2) [("number", 4)] := ⟨rfl, by decide +kernel, by decide +kernel, by decide +kernel, by decide +kernel⟩
theorem ok_mg {f : Addr} {fd : FuncData} (F : Fun K "meet_going" "meet_going" sMG f fd) (T : Txt K mg Z) (D2 : Mdef P w K mg base 1 Z.S "is_ours" ["self", "number"] (spS2 Z)) (D5 : Mdef P w K mg base 5 Z.S "lose" ["self", "number"] (spS5 Z)) :
    FnOk P w K mg base CX0 6 f fd ["side", "greatest", "told"] (spMG Z) := by
  refine F.ok scMG (fun vs H Q E h => ?_) (fun cdv A outer s0 H vs Q E hr h => ?_)
  · obtain ⟨p, t, g, s, L, ts, rfl, _⟩ := h; rfl
  · obtain ⟨p, t, g, s, L, ts, rfl, R, ok, hd, hfl, tl, htl, q⟩ := h
    have hr1 : Room 1 _ := hr.mono (by decide)
    have c1 := T.con ("TOLD_GOING", 5) (by decide +kernel)
    have c2 := T.con ("TOLD_STOPPED", 4) (by decide +kernel)
    have c3 := T.con ("WHY_NOT_TAKEN", 4294967295) (by decide +kernel)
    refine ⟨_, pss_cons (ps_fld (pv 0) pe_bl rfl)
      (pss_cons (ps_expr (pappend (pv 2) (pa_cons (pe_lst (pa_cons (pc c1) (pa_cons (pv 1) pa_nil))) pa_nil)))
      (pss_cons (ps_setLc (i := 3) (own := [("number", 4)]) rfl scMG.nd rfl rfl (by rfl) (pi_list (pe_callB (call_sortedD rfl) (by rfl) T.sorted (by decide +kernel) (pa_cons (pe_fld (pv 0) rfl) pa_nil))) blkMG (fun _ _ _ _ _ => by exact pg_name (i := 4) scMG.nd rfl (Or.inl rfl))
        (fun _ _ _ _ _ => by exact pts_one (PW.pt (pw_and (pt_val (pm D2 hr1 (pv 0) (pa_cons (pv 4) pa_nil))) (pw_and1 (pt_cmpR op_gt (pv 4) (pv 1) (nomark _)))))) (fun _ _ _ _ _ => by exact pv 4))
      (pss_one (ps_for PassesOwn.never rfl (pi_list (pv 3)) (pg_name (i := 4) scMG.nd rfl (Or.inl rfl))
        (pss_cons (ps_expr (pm D5 hr (pv 0) (pa_cons (pv 4) pa_nil))) (pss_one (ps_expr (pappend (pv 2) (pa_cons (pe_lst (pa_cons (pc c2) (pa_cons (pv 4) (pa_cons (pc c3) pa_nil)))) pa_nil))))))))), ?_⟩
    -- side.other_going = True
    refine ⟨_, rfl, p, Z.S, L.dx, _, rfl, R.hp, T.cS, T.nS _ (by decide +kernel), small_s _ _ _ _, ?_⟩
    rw [sp_gone]
    have N1 := (Now.of R).ws (t := { s with gone := true }) rfl rfl
    have tl1 := tl.ext N1.ext
    obtain ⟨tas, k1, k2, k3⟩ := tl1
    -- told.append([TOLD_GOING, greatest])
    refine ⟨_, rfl, .inl ⟨rfl, _, SqL.of k1⟩, _, rfl, by show 2 ≤ sizeLine; decide, fun a1 h1 => ?_⟩
    have S2 : Same _ (upd _ a1 (.lst [V.int 5, V.int (g : Int)])) := Same.fresh h1
    refine ⟨t, _, _, rfl, rfl, S2 _ _ k1, ?_, ?_⟩
    · rw [List.length_map, TL.len k3]
      exact Nat.lt_of_lt_of_le (show _ < 9000000 by omega) (fits (by decide))
    have tl2 := TL.push (x := .going g) (S2 _ _ k1) k2 (paired_mono k3 fun b y z => ⟨S2 _ _ z.1, z.2⟩) (q := a1) upd_same (N1.rep.free h1)
    have R2 := (N1.rep.same S2).upd0 (q := t) (o := .lst (tas.map V.ref ++ [V.ref a1])) k2
    have E2 : ExtB t H L _ L := (N1.ext.b.trans (Ext.same S2).b).trans (ExtB.own (t := t) (o := .lst (tas.map V.ref ++ [V.ref a1])))
    generalize (upd (upd (upd H p (.ins Z.S L.dx (sF ({ s with gone := true } : State) L.d L.l L.c))) a1 (.lst [V.int 5, V.int (g : Int)])) t (.lst (tas.map V.ref ++ [V.ref a1]))) = H2 at tl2 R2 E2
    -- lost = [..]
    refine ⟨_, rfl, p, Z.S, L.dx, _, _, rfl, R2.hp, T.cS, T.nS _ (by decide +kernel), sl_exchanges _ _ _ _, L.d, _, _, rfl, R2.hd, keys_kvs L, fun ns a2 h1' h2' ha2 => ?_⟩
    have en := sorted_ids (s := { s with gone := true }) ok.srt R2.ord h1' h2'
    subst en
    rw [iv_ints]
    have hfew : (ids s).length ≤ 1000 := by rw [List.length_map]; exact ok.few
    have S3 : Same H2 _ := Same.fresh (o := .lst (iv (ids s))) ha2
    refine ⟨a2, rfl, ⟨_, SqL.of upd_same⟩, ?_⟩
    refine filter_lc (K := K) (a := a2) (l := ids s) (pr := fun i => s.own i && decide (g < i)) (g := gName 4) (tt := tAnd (tB (tMeth Z.S "is_ours" (spS2 Z) [] E0 (tVar 0) (tCons (tVar 4) tNil))) (tTest (tOp (rI0 fun i j => V.bl (decide (j < i))) (tVar 4) (tVar 1)))) (te := tVar 4) (vs := [4])
      (σ := [some (.ref p), some (.int (g : Int)), some (.ref t), none, none]) upd_same hfew (fun n H' Y W0 S hy hn => ?_) fun a3 ha3 => ?_
    · have hp' := S _ _ (S3 _ _ R2.hp)
      refine ⟨rfl, _, rfl, p, L.dx, _, rfl, hp', sl_m2 _ _ _ _, _, rfl, p, L.dx, L.d, L.l, L.c, n, { s with gone := true }, rfl, hp', s.own n, rfl, ?_⟩
      cases ho : s.own n with
      | false => exact iteF (iteF (hn (by rw [ho]; rfl)))
      | true =>
        refine iteT ⟨_, rfl, _, rfl, _, _, rfl, rfl, _, rfl, ?_⟩
        refine ite2 (fun hc => ?_) (fun hc => ?_)
        · have hc : (g : Int) < (n : Int) := of_decide_eq_true hc
          exact ⟨_, rfl, hy (by rw [ho, Bool.true_and]; exact decide_eq_true (by omega))⟩
        · have hc : ¬ (g : Int) < (n : Int) := fun z => hc (decide_eq_true z)
          exact hn (by rw [ho, Bool.true_and]; exact decide_eq_false (by omega))
    have S4 : Same H2 _ := S3.trans (Same.fresh (o := .lst (iv ((ids s).filter fun i => s.own i && decide (g < i)))) ha3)
    have el : (ids s).filter (fun i => s.own i && decide (g < i)) = (lostOf s g).map (·.id) := by
      unfold lostOf ids
      rw [List.filter_map]
      rfl
    rw [el] at S4 ⊢
    have h3t : a3 ≠ t := fun z => by
      obtain ⟨tas', k1', _, _⟩ := tl2
      rw [z] at ha3
      rw [S3 _ _ k1'] at ha3
      cases ha3
    have g3 : L.G a3 = none := (R2.same S3).free ha3
    have llen : (lostOf s g).length ≤ 64 := lost_len ok g
    -- for number in lost
    refine ⟨_, rfl, a3, rfl, ⟨_, SqL.of upd_same⟩, for_list (K := K) (a := a3) (xs := iv ((lostOf s g).map (·.id))) (fun j σ H' => ∃ (v : Option V) (L' : Lay), σ = [some (.ref p), some (.int (g : Int)), some (.ref t), some (.ref a3), v] ∧ H' a3 = some (.lst (iv ((lostOf s g).map (·.id)))) ∧ L'.G a3 = none ∧
        Rep Z H' p (loseL ((lostOf s g).take j) { s with gone := true }) L' ∧ ExtB t H L H' L' ∧ TL H' L' t (ts ++ [.going g] ++ ((lostOf s g).take j).map fun x => .stopped x.id (Sq01.WORD - 1)))
      ⟨_, L, rfl, upd_same, g3, R2.same S4, E2.trans (Ext.same S4).b, by rw [List.take_zero, List.map_nil, List.append_nil]; exact tl2.ext (Ext.same S4)⟩ (fun i σ H' _ ⟨_, _, _, h1, _⟩ => SqL.of h1) ?_ ?_⟩
    · rintro j y σ H' hj ⟨v, L', rfl, h1, h2, R', E', tl'⟩
      obtain ⟨n, hn, rfl⟩ := iv_at hj
      rw [List.getElem?_map] at hn
      cases ex : (lostOf s g)[j]? with
      | none => rw [ex] at hn; cases hn
      | some x =>
        rw [ex] at hn
        have en : x.id = n := Option.some.inj hn
        subst en
        have hjl := (List.getElem?_eq_some_iff.mp ex).1
        have hm : x ∈ s.exchanges := (List.mem_filter.mp (List.mem_of_getElem? ex)).1
        have nd : ((lostOf s g).map (·.id)).Nodup := by
          rw [← el]
          exact (ok.srt.imp fun h => Nat.ne_of_lt h : (ids s).Nodup).sublist List.filter_sublist
        have hno : ∀ y ∈ (lostOf s g).take j, y.id ≠ x.id := fun y hy e => by
          obtain ⟨k, ek⟩ := List.mem_iff_getElem?.mp hy
          have hk := (List.getElem?_eq_some_iff.mp ek).1
          rw [List.length_take] at hk
          rw [List.getElem?_take_of_lt (by omega)] at ek
          have e1 : ((lostOf s g).map (·.id))[k]? = some y.id := by rw [List.getElem?_map, ek]; rfl
          have e2 : ((lostOf s g).map (·.id))[j]? = some y.id := by rw [List.getElem?_map, ex, e]; rfl
          have := nd_ix nd e1 e2
          omega
        have hx : (loseL ((lostOf s g).take j) { s with gone := true }).find x.id = some x := by
          rw [lose_find _ _ _ hno]
          exact find_of_mem (s := { s with gone := true }) ok.srt hm
        have fl' : (loseL ((lostOf s g).take j) { s with gone := true }).first.length ≤ s.first.length + ((lostOf s g).take j).length := (loses_fl ((lostOf s g).take j) { s with gone := true }).1
        rw [List.length_take] at fl'
        refine ⟨_, rfl, p, L'.dx, _, rfl, R'.hp, sl_m5 _ _ _ _, _, rfl, p, x.id, _, L', x, rfl, R', by omega, hx, fun H3 L3 N3 => ?_⟩
        obtain ⟨m1, m2⟩ := N3.ext a3 _ h1 h2
        have tl3 := tl'.ext N3.ext
        obtain ⟨tas', k1', k2', k3'⟩ := tl3
        refine ⟨_, rfl, .inl ⟨rfl, _, SqL.of k1'⟩, _, rfl, by show 3 ≤ sizeLine; decide, fun a4 h4 => ?_⟩
        have S5 : Same H3 (upd H3 a4 (.lst [V.int 4, V.int (x.id : Int), V.int 4294967295])) := Same.fresh h4
        refine ⟨t, _, _, rfl, rfl, S5 _ _ k1', ?_, ?_⟩
        · rw [List.length_map, TL.len k3', List.length_append, List.length_append, List.length_map, List.length_take]
          exact Nat.lt_of_lt_of_le (show _ < 9000000 by simp; omega) (fits (by decide))
        have p5 := TL.push (x := .stopped x.id (Sq01.WORD - 1)) (S5 _ _ k1') k2' (paired_mono k3' fun b y z => ⟨S5 _ _ z.1, z.2⟩) (q := a4) upd_same (N3.rep.free h4)
        have et : (lostOf s g).take (j + 1) = (lostOf s g).take j ++ [x] := by rw [List.take_add_one, ex]; rfl
        refine ⟨_, L3, rfl, by rw [upd_ne h3t]; exact S5 _ _ m1, m2, ?_, ((E'.trans N3.ext.b).trans (Ext.same S5).b).trans ExtB.own, ?_⟩
        · rw [et]
          unfold loseL
          rw [List.foldl_append]
          exact (N3.rep.same S5).upd0 k2'
        · rw [et, List.map_append, ← List.append_assoc]
          exact p5
    · rintro σ H' ⟨v, L', rfl, h1, h2, R', E', tl'⟩
      rw [iv_len, List.length_map, List.take_length] at R' tl'
      refine q _ L' R' E' ?_
      rw [List.append_assoc] at tl'
      exact tl'
end
end Os
set_option linter.all false
set_option maxRecDepth 100000
namespace Os
open PySem PySem.Spec PyProof.Rows L2
open Sq01 (State Exchange Bytes Told)
def spMeet (Z : Cs) : Sp := fun vs H Q _ => ∃ (p t a : Addr) (f : Sq01.Frame) (s : State) (L : Lay) (ts : List Told), vs = [.ref p, .ref a, .ref t] ∧ Rep Z H p s L ∧ Ok s ∧ s.dead = false ∧ s.first.length < 7000000 ∧ FAt Z H L t a f ∧ TL H L t ts ∧ ts.length < 7000000 ∧ (∀ c ∈ f.body, c < 256) ∧
  (f.good = false → Q (.int 2) H) ∧ (f.good = true → Tells Z p t H L ts (met s f) Q)
theorem good_kind {f : Sq01.Frame} (h : f.good = true) : (f.kind = 1 ∧ f.id ≠ 0) ∨ f.kind = 2 ∨ (f.kind = 3 ∧ f.id ≠ 0) ∨ (f.kind = 4 ∧ f.body.length = 8) ∨ f.kind = 5 ∨ f.kind = 6 := by
  rw [good_eq] at h
  by_cases k1 : f.kind = 1
  · rw [if_pos k1] at h
    exact .inl ⟨k1, of_decide_eq_true h⟩
  · rw [if_neg k1] at h
    unfold szOf at h
    by_cases k2 : f.kind = 2
    · exact .inr (.inl k2)
    · rw [if_neg k2] at h
      by_cases k3 : f.kind = 3
      · rw [if_pos k3] at h
        dsimp only at h
        split at h
        · rw [Bool.and_eq_true] at h
          exact .inr (.inr (.inl ⟨k3, of_decide_eq_true h.2⟩))
        · cases h
      · rw [if_neg k3] at h
        by_cases k4 : f.kind = 4
        · rw [if_pos k4] at h
          dsimp only at h
          split at h
          · rename_i e
            exact .inr (.inr (.inr (.inl ⟨k4, e⟩)))
          · cases h
        · rw [if_neg k4] at h
          by_cases k5 : f.kind = 5
          · exact .inr (.inr (.inr (.inr (.inl k5))))
          · rw [if_neg k5] at h
            by_cases k6 : f.kind = 6
            · exact .inr (.inr (.inr (.inr (.inr k6))))
            · rw [if_neg k6] at h
              cases h
section
variable {P : Program} {w : World} {K : PySem.W.Frag} {mg : Str → Option Value} {base : Heap} {Z : Cs}
theorem scMeet : FnScope ["side", "frame", "told", "wrong"] ["side", "frame", "told"] (defScope sMeet) := ⟨rfl, rfl, rfl, by decide +kernel, rfl, by decide +kernel, by decide +kernel⟩
theorem ok_meet {f : Addr} {fd : FuncData} (F : Fun K "meet" "meet" sMeet f fd) (T : Txt K mg Z) (DW : Def P w K mg base 3 "wrong_frame" ["frame"] (spWF Z)) (DD : Def P w K mg base 6 "meet_data" ["side", "frame", "told"] (spMD Z)) (DC : Def P w K mg base 3 "meet_credit" ["side", "frame"] (spMC Z))
    (DS : Def P w K mg base 6 "meet_stopped" ["side", "frame", "told"] (spMS Z)) (DT : Def P w K mg base 3 "still_frame" ["token"] spST) (D1 : Mdef P w K mg base 2 Z.F "body_number" ["self"] (spF1 Z)) (DG : Def P w K mg base 6 "meet_going" ["side", "greatest", "told"] (spMG Z)) :
    FnOk P w K mg base CX0 7 f fd ["side", "frame", "told"] (spMeet Z) := by
  refine F.ok scMeet (fun vs H Q E h => ?_) (fun cdv A outer s0 H vs Q E hr h => ?_)
  · obtain ⟨p, t, a, f, s, L, ts, rfl, _⟩ := h; rfl
  · obtain ⟨p, t, a, f, s, L, ts, rfl, R, ok, hd, hfl, fa, tl, htl, hby, q0, q⟩ := h
    have hr2 : Room 2 _ := hr.mono (by decide)
    have hr3 : Room 3 _ := hr.mono (by decide)
    have c0 := T.con ("RIGHT", 0) (by decide +kernel)
    have c1 := T.con ("DATA", 1) (by decide +kernel)
    have c2 := T.con ("CREDIT", 2) (by decide +kernel)
    have c3 := T.con ("STOPPED", 3) (by decide +kernel)
    have c4 := T.con ("STILL_ASKED", 4) (by decide +kernel)
    have c5 := T.con ("STILL_frames", 5) (by decide +kernel)
    have c6 := T.con ("TOLD_STILL", 6) (by decide +kernel)
    refine ⟨_, pss_cons (ps_set (i := 3) scMeet.nd rfl (Or.inl rfl) (pd DW hr3 (pa_cons (pv 1) pa_nil)))
      (pss_cons (ps_if (pt_cmpR op_ne (pv 3) (pc c0) (nomark _)) (pss_one (ps_ret (pv 3))) pss_nil)
      (pss_cons (ps_if (pt_cmpR op_eq (pe_fld (pv 1) rfl) (pc c1) (nomark _)) (pss_one (ps_ret (pd DD hr (pa_cons (pv 0) (pa_cons (pv 1) (pa_cons (pv 2) pa_nil)))))) pss_nil)
      (pss_cons (ps_if (pt_cmpR op_eq (pe_fld (pv 1) rfl) (pc c2) (nomark _)) (pss_one (ps_ret (pd DC hr3 (pa_cons (pv 0) (pa_cons (pv 1) pa_nil))))) pss_nil)
      (pss_cons (ps_if (pt_cmpR op_eq (pe_fld (pv 1) rfl) (pc c3) (nomark _)) (pss_one (ps_ret (pd DS hr (pa_cons (pv 0) (pa_cons (pv 1) (pa_cons (pv 2) pa_nil)))))) pss_nil)
      (pss_cons (ps_if (pt_cmpR op_eq (pe_fld (pv 1) rfl) (pc c4) (nomark _)) (pss_one (ps_expr (pappend (pe_fld (pv 0) rfl) (pa_cons (pd DT hr3 (pa_cons (pm0 D1 hr2 (pv 1)) pa_nil)) pa_nil))))
        (pss_one (ps_if (pt_cmpR op_eq (pe_fld (pv 1) rfl) (pc c5) (nomark _)) (pss_one (ps_expr (pappend (pv 2) (pa_cons (pe_lst (pa_cons (pc c6) (pa_cons (pm0 D1 hr2 (pv 1)) pa_nil))) pa_nil))))
          (pss_one (ps_expr (pd DG hr (pa_cons (pv 0) (pa_cons (pm0 D1 hr2 (pv 1)) (pa_cons (pv 2) pa_nil)))))))))
      (pss_one (ps_ret (pc c0)))))))), ?_⟩
    have fa0 := fa
    obtain ⟨b, ⟨dx, ha⟩, hb, ga, gb, nat, nbt⟩ := fa0
    refine ⟨_, rfl, a, b, f, rfl, ⟨dx, ha⟩, ?_⟩
    cases hg : f.good with
    | false => exact ⟨_, rfl, rfl, _, rfl, iteT ⟨_, rfl, q0 hg⟩⟩
    | true =>
      have q := q hg
      refine ⟨_, rfl, rfl, _, rfl, iteF ?_⟩
      refine ⟨_, rfl, a, Z.F, dx, _, _, rfl, ha, T.cF, T.nF _ (by decide +kernel), fl_kind _ _ _ _ _, rfl, _, rfl, ?_⟩
      have no : ∀ {n m : Nat} {A B : Prop}, f.kind = n → n ≠ m → B → if decide (V.int (f.kind : Int) = V.int (m : Int)) = true then A else B := fun {n m A B} e ne hB => by
        rw [int_eq, decide_eq_false (fun z => ne (e.symm.trans z))]
        exact iteF hB
      have yes : ∀ {n : Nat} {A B : Prop}, f.kind = n → A → if decide (V.int (f.kind : Int) = V.int (n : Int)) = true then A else B := fun {n A B} e hA => by
        rw [int_eq, decide_eq_true e]
        exact iteT hA
      rcases good_kind hg with ⟨k, hi⟩ | k | ⟨k, hi⟩ | ⟨k, h8⟩ | k | k
      · refine yes (n := 1) k ?_
        have em : met s f = metData s f := by unfold met; rw [k]; rfl
        rw [em] at q
        exact ⟨_, rfl, _, rfl, _, rfl, p, t, a, f, s, L, ts, rfl, R, ok, hd, by omega, by omega, fa, tl, by omega, q⟩
      · refine no (m := 1) k (by decide) ?_
        refine ⟨_, rfl, a, Z.F, dx, _, _, rfl, ha, T.cF, T.nF _ (by decide +kernel), fl_kind _ _ _ _ _, rfl, _, rfl, ?_⟩
        refine yes (n := 2) k ?_
        have em : met s f = metCredit s f := by unfold met; rw [k]; rfl
        rw [em] at q
        have e0 : (metCredit s f).2.1 = [] := by
          unfold metCredit
          split
          · split <;> rfl
          · split
            · split <;> rfl
            · split <;> rfl
        exact ⟨_, rfl, _, rfl, p, t, a, f, s, L, rfl, R, ok, fa, fun H' L' R' E' => q H' L' R' E'.b (by rw [e0, List.append_nil]; exact tl.ext E')⟩
      · refine no (m := 1) k (by decide) ?_
        refine ⟨_, rfl, a, Z.F, dx, _, _, rfl, ha, T.cF, T.nF _ (by decide +kernel), fl_kind _ _ _ _ _, rfl, _, rfl, ?_⟩
        refine no (m := 2) k (by decide) ?_
        refine ⟨_, rfl, a, Z.F, dx, _, _, rfl, ha, T.cF, T.nF _ (by decide +kernel), fl_kind _ _ _ _ _, rfl, _, rfl, ?_⟩
        refine yes (n := 3) k ?_
        have em : met s f = metStop s f := by unfold met; rw [k]; rfl
        rw [em] at q
        exact ⟨_, rfl, _, rfl, _, rfl, p, t, a, f, s, L, ts, rfl, R, ok, hd, by omega, by omega, fa, tl, by omega, q⟩
      · refine no (m := 1) k (by decide) ?_
        refine ⟨_, rfl, a, Z.F, dx, _, _, rfl, ha, T.cF, T.nF _ (by decide +kernel), fl_kind _ _ _ _ _, rfl, _, rfl, ?_⟩
        refine no (m := 2) k (by decide) ?_
        refine ⟨_, rfl, a, Z.F, dx, _, _, rfl, ha, T.cF, T.nF _ (by decide +kernel), fl_kind _ _ _ _ _, rfl, _, rfl, ?_⟩
        refine no (m := 3) k (by decide) ?_
        refine ⟨_, rfl, a, Z.F, dx, _, _, rfl, ha, T.cF, T.nF _ (by decide +kernel), fl_kind _ _ _ _ _, rfl, _, rfl, ?_⟩
        refine yes (n := 4) k ?_
        have em : met s f = (s.say ⟨5, false, 0, f.body⟩, [], 0) := by unfold met; rw [k]; rfl
        rw [em] at q
        refine ⟨_, rfl, p, Z.S, L.dx, _, _, rfl, R.hp, T.cS, T.nS _ (by decide +kernel), sl_first _ _ _ _, .inl ⟨rfl, _, SqL.of R.hl⟩, _, rfl, a, dx, _, rfl, ha, fl_m1 _ _ _ _ _, a, dx, b, _, _, _, _, f.body, rfl, ha, hb, Sq01.number f.body, rfl, fun H' c S hn hc => ?_⟩
        have N3 := (Now.of R).same S
        refine ⟨L.l, _, _, rfl, rfl, N3.rep.hl, ?_, ?_⟩
        · rw [List.length_map, R.faLen]
          exact Nat.lt_of_lt_of_le (show _ < 9000000 by omega) (fits (by decide))
        have N4 := N3.say hc (R.free hn) (.of hn)
        rw [be_number 8 f.body h8 hby] at N4
        exact q _ _ N4.rep N4.ext.b (by rw [List.append_nil]; exact tl.ext N4.ext)
      · refine no (m := 1) k (by decide) ?_
        refine ⟨_, rfl, a, Z.F, dx, _, _, rfl, ha, T.cF, T.nF _ (by decide +kernel), fl_kind _ _ _ _ _, rfl, _, rfl, ?_⟩
        refine no (m := 2) k (by decide) ?_
        refine ⟨_, rfl, a, Z.F, dx, _, _, rfl, ha, T.cF, T.nF _ (by decide +kernel), fl_kind _ _ _ _ _, rfl, _, rfl, ?_⟩
        refine no (m := 3) k (by decide) ?_
        refine ⟨_, rfl, a, Z.F, dx, _, _, rfl, ha, T.cF, T.nF _ (by decide +kernel), fl_kind _ _ _ _ _, rfl, _, rfl, ?_⟩
        refine no (m := 4) k (by decide) ?_
        refine ⟨_, rfl, a, Z.F, dx, _, _, rfl, ha, T.cF, T.nF _ (by decide +kernel), fl_kind _ _ _ _ _, rfl, _, rfl, ?_⟩
        refine yes (n := 5) k ?_
        have em : met s f = (s, [.still (Sq01.number f.body)], 0) := by unfold met; rw [k]; rfl
        rw [em] at q
        obtain ⟨tas, k1, k2, k3⟩ := tl
        refine ⟨_, rfl, .inl ⟨rfl, _, SqL.of k1⟩, _, rfl, a, dx, _, rfl, ha, fl_m1 _ _ _ _ _, a, dx, b, _, _, _, _, f.body, rfl, ha, hb, by show 2 ≤ sizeLine; decide, fun c hc => ?_⟩
        have S4 : Same H (upd H c (.lst [V.int 6, V.int (Sq01.number f.body : Nat)])) := Same.fresh hc
        refine ⟨t, _, _, rfl, rfl, S4 _ _ k1, ?_, ?_⟩
        · rw [List.length_map, TL.len k3]
          exact Nat.lt_of_lt_of_le (show _ < 9000000 by omega) (fits (by decide))
        have p4 := TL.push (x := .still (Sq01.number f.body)) (S4 _ _ k1) k2 (paired_mono k3 fun b y z => ⟨S4 _ _ z.1, z.2⟩) (q := c) upd_same (R.free hc)
        exact q _ L ((R.same S4).upd0 k2) ((Ext.same S4).b.trans ExtB.own) p4
      · refine no (m := 1) k (by decide) ?_
        refine ⟨_, rfl, a, Z.F, dx, _, _, rfl, ha, T.cF, T.nF _ (by decide +kernel), fl_kind _ _ _ _ _, rfl, _, rfl, ?_⟩
        refine no (m := 2) k (by decide) ?_
        refine ⟨_, rfl, a, Z.F, dx, _, _, rfl, ha, T.cF, T.nF _ (by decide +kernel), fl_kind _ _ _ _ _, rfl, _, rfl, ?_⟩
        refine no (m := 3) k (by decide) ?_
        refine ⟨_, rfl, a, Z.F, dx, _, _, rfl, ha, T.cF, T.nF _ (by decide +kernel), fl_kind _ _ _ _ _, rfl, _, rfl, ?_⟩
        refine no (m := 4) k (by decide) ?_
        refine ⟨_, rfl, a, Z.F, dx, _, _, rfl, ha, T.cF, T.nF _ (by decide +kernel), fl_kind _ _ _ _ _, rfl, _, rfl, ?_⟩
        refine no (m := 5) k (by decide) ?_
        have em : met s f = ((metGoing s (Sq01.number f.body)).1, (metGoing s (Sq01.number f.body)).2, 0) := by unfold met; rw [k]; rfl
        rw [em] at q
        exact ⟨_, rfl, _, rfl, a, dx, _, rfl, ha, fl_m1 _ _ _ _ _, a, dx, b, _, _, _, _, f.body, rfl, ha, hb, _, rfl, p, t, Sq01.number f.body, s, L, ts, rfl, R, ok, hd, by omega, tl, by omega, fun H' L' R' E' tl' => q H' L' R' E' tl'⟩
end
end Os
set_option linter.all false
set_option maxRecDepth 100000
namespace Os
open PySem PySem.Spec PyProof.Rows L2
open Sq01 (State Exchange Bytes Told)
/-- what reading comes to: the state, what is told, what is wrong -/
def RdTo (s s' : State) (ts : List Told) (k : Nat) : Prop := (k = 0 ∧ readsF s = (s', ts)) ∨ (k ≠ 0 ∧ readsF s = ((s'.kill k).1, ts ++ [.wrong k]))
def spRF (Z : Cs) : Sp := fun vs H Q _ => ∃ (p t : Addr) (s : State) (L : Lay) (ts : List Told), vs = [.ref p, .ref t] ∧ Rep Z H p s L ∧ Ok s ∧ s.dead = false ∧ By s ∧ s.came.length ≤ 50000 ∧ s.first.length + 65 * s.came.length < 6000000 ∧ TL H L t ts ∧ ts.length + 66 * s.came.length < 6000000 ∧
  ∀ H' L' s' ts' k, Rep Z H' p s' L' → ExtB t H L H' L' → TL H' L' t (ts ++ ts') → ts'.length ≤ 66 * s.came.length → RdTo s s' ts' k → Q (.int (k : Nat)) H'
/-- the frame's object that stands in the loop -/
def Head (Z : Cs) (H0 : Hp) (L0 : Lay) (H : Hp) (L : Lay) (d : List Nat) (v : V) : Prop := (v = .non ∧ d.length < 8) ∨
  ∃ a dx b, v = .ref a ∧ ¬ d.length < 8 ∧ H a = some (.ins Z.F dx (fF (Sq01.number (d.take 2)) (d.getD 2 0) (d.getD 3 0) (Sq01.number ((d.drop 4).take 4)) b)) ∧ L.G a = none ∧ New H0 L0 a
/-- how things stand when j bytes of c were read -/
structure Mid (Z : Cs) (p t : Addr) (H : Hp) (L : Lay) (ts : List Told) (s : State) (j : Nat) (H' : Hp) (L' : Lay) (s1 : State) (ts1 : List Told) : Prop where
  le : j ≤ s.came.length
  cm : s1.came = s.came.drop j
  ok : Ok s1
  dead : s1.dead = false
  rep : Rep Z H' p (wc s1 s.came) L'
  ext : ExtB t H L H' L'
  tl : TL H' L' t (ts ++ ts1)
  rd : readsF s = ((readsF s1).1, ts1 ++ (readsF s1).2)
  fl : s1.first.length + 65 * (s.came.length - j) ≤ s.first.length + 65 * s.came.length
  tn : ts1.length + 66 * (s.came.length - j) ≤ 66 * s.came.length
section
variable {P : Program} {w : World} {K : PySem.W.Frag} {mg : Str → Option Value} {base : Heap} {Z : Cs}
theorem scRF : FnScope ["side", "told", "at", "frame", "wrong", "behind"] ["side", "told"] (defScope sRF) := ⟨rfl, rfl, rfl, by decide +kernel, rfl, by decide +kernel, by decide +kernel⟩
theorem ok_rf {f : Addr} {fd : FuncData} (F : Fun K "read_frames" "read_frames" sRF f fd) (T : Txt K mg Z) (DH : Def P w K mg base 4 "head_at" ["unread", "at"] (spHA Z)) (DW : Def P w K mg base 1 "wrong_head" ["frame"] (spWH Z)) (DB : Def P w K mg base 1 "behind_frame" ["frame", "at"] (spBF Z))
    (DM : Def P w K mg base 7 "meet" ["side", "frame", "told"] (spMeet Z)) : FnOk P w K mg base CX0 8 f fd ["side", "told"] (spRF Z) := by
  refine F.ok scRF (fun vs H Q E h => ?_) (fun cdv A outer s0 H vs Q E hr h => ?_)
  · obtain ⟨p, t, s, L, ts, rfl, _⟩ := h; rfl
  · obtain ⟨p, t, s, L, ts, rfl, R, ok, hd, by_, hcl, hfl, tl, htl, q⟩ := h
    have hr1 : Room 1 _ := hr.mono (by decide)
    have hr4 : Room 4 _ := hr.mono (by decide)
    have c0 := T.con ("RIGHT", 0) (by decide +kernel)
    have c8 := T.con ("HEAD_SIZE", 8) (by decide +kernel)
    refine ⟨_, pss_cons (ps_set (i := 2) scRF.nd rfl (Or.inl rfl) pe_int)
      (pss_cons (ps_mid (ps_set (i := 3) scRF.nd rfl (Or.inl rfl) (pd DH hr4 (pa_cons (pe_fld (pv 0) rfl) (pa_cons (pv 2) pa_nil)))))
      (pss_cons (ps_mid (ps_while PassesOwn.never (pt_cmp (pc_notN (pv 3)))
        (pss_cons (ps_set (i := 4) scRF.nd rfl (Or.inl rfl) (pd DW hr1 (pa_cons (pv 3) pa_nil)))
        (pss_cons (ps_if (pt_cmpR op_ne (pv 4) (pc c0) (nomark _)) (pss_one (ps_ret (pv 4))) pss_nil)
        (pss_cons (ps_set (i := 5) scRF.nd rfl (Or.inl rfl) (pd DB hr1 (pa_cons (pv 3) (pa_cons (pv 2) pa_nil))))
        (pss_cons (ps_if (pt_cmpR op_gt (pv 5) (pe_callB call_len_seq (by rfl) T.len PySem.boot_len (pa_cons (pe_fld (pv 0) rfl) pa_nil)) (nomark _)) (pss_one ps_break) pss_nil)
        (pss_cons (ps_fld (pv 3) (pe_slice sl_list (pe_fld (pv 0) rfl) (po_some (pe_op op_add (pv 2) (pc c8))) (po_some (pv 5))) rfl)
        (pss_cons (ps_set (i := 4) scRF.nd rfl (Or.inl rfl) (pd DM hr (pa_cons (pv 0) (pa_cons (pv 3) (pa_cons (pv 1) pa_nil)))))
        (pss_cons (ps_if (pt_cmpR op_ne (pv 4) (pc c0) (nomark _)) (pss_one (ps_ret (pv 4))) pss_nil)
        (pss_cons (ps_set (i := 2) scRF.nd rfl (Or.inl rfl) (pv 5))
        (pss_one (ps_set (i := 3) scRF.nd rfl (Or.inl rfl) (pd DH hr4 (pa_cons (pe_fld (pv 0) rfl) (pa_cons (pv 2) pa_nil)))))))))))))))
      (pss_cons (ps_fld (pv 0) (pe_slice sl_list (pe_fld (pv 0) rfl) (po_some (pv 2)) po_none) rfl)
      (pss_one (ps_ret (pc c0)))))), ?_⟩
    generalize hc : s.came = c at hcl hfl htl q
    have M0 : Mid Z p t H L ts s 0 H L s [] := ⟨Nat.zero_le _, rfl, ok, hd, R, ExtB.refl, by rw [List.append_nil]; exact tl, rfl, Nat.le_refl _, Nat.le_of_eq (Nat.zero_add _)⟩
    -- frame = head_at(side.unread, 0)
    refine ⟨fun σ' H' => ∃ v L', σ' = [some (.ref p), some (.ref t), some (.int ((0 : Nat) : Int)), some v, none, none] ∧ Head Z H L H' L' (c.drop 0) v ∧ Mid Z p t H L ts s 0 H' L' s [],
      ⟨_, rfl, p, Z.S, L.dx, _, _, rfl, R.hp, T.cS, T.nS _ (by decide +kernel), sl_unread _ _ _ _, _, rfl, L.c, 0, c, rfl, (by rw [← hc]; exact R.hc), by omega, fun h1 _ => ⟨_, L, rfl, .inl ⟨rfl, h1⟩, M0⟩, Nat.zero_le _, fun h8 H1 a dx b S1 hn h2 => ?_⟩, ?_⟩
    · exact ⟨_, L, rfl, .inr ⟨a, dx, b, rfl, h8, h2, R.free hn, .of hn⟩, ⟨Nat.zero_le _, rfl, ok, hd, R.same S1, (Ext.same S1).b, by rw [List.append_nil]; exact tl.ext (Ext.same S1), rfl, Nat.le_refl _, Nat.le_of_eq (Nat.zero_add _)⟩⟩
    rintro σ1 H1 ⟨v, L1, rfl, hh, M⟩
    -- while frame is not None
    refine ⟨fun σ' H' => ∃ (j : Nat) (v w1 w2 : Option V) (L' : Lay) (s1 : State) (ts1 : List Told), σ' = [some (.ref p), some (.ref t), some (.int (j : Int)), v, w1, w2] ∧ Mid Z p t H L ts s j H' L' s1 ts1 ∧ Sq01.begins (c.drop j) = .more, ?_, ?_⟩
    · refine ⟨fun m σ' H' => ∃ (j : Nat) (v : V) (w1 w2 : Option V) (L' : Lay) (s1 : State) (ts1 : List Told), m = c.length - j ∧ σ' = [some (.ref p), some (.ref t), some (.int (j : Int)), some v, w1, w2] ∧ Head Z H L H' L' (c.drop j) v ∧ Mid Z p t H L ts s j H' L' s1 ts1, ⟨_, 0, v, none, none, L1, s, [], rfl, rfl, hh, M⟩, ?_⟩
      rintro m σ2 H2 ⟨j, v, w1, w2, L2, s1, ts1, rfl, rfl, hh, M⟩
      have hce : c = s.came := hc.symm
      have hjl : j ≤ c.length := by rw [hce]; exact M.le
      have cm : s1.came = c.drop j := by rw [hce]; exact M.cm
      have dl : (c.drop j).length = c.length - j := List.length_drop
      refine ⟨_, rfl, _, rfl, ?_⟩
      rcases hh with ⟨rfl, h8⟩ | ⟨a, dx, b, rfl, h8, ha, ga, na0⟩
      · exact iteF ⟨j, _, w1, w2, L2, s1, ts1, rfl, M, begins_short h8⟩
      · show if (!decide (V.ref a = V.non)) = true then _ else _
        rw [not_non]
        refine iteT ?_
        have hb := begins_head h8
        -- what stands behind a turn
        refine ⟨fun σ' H' => ∃ (j' : Nat) (v : V) (w1 w2 : Option V) (L' : Lay) (s1 : State) (ts1 : List Told), c.length - j' < c.length - j ∧ σ' = [some (.ref p), some (.ref t), some (.int (j' : Int)), some v, w1, w2] ∧ Head Z H L H' L' (c.drop j') v ∧ Mid Z p t H L ts s j' H' L' s1 ts1,
          fun σ' H' ⟨j', v, w1, w2, L', s1, ts1, hlt, e1, e2, e3⟩ => ⟨_, hlt, j', v, w1, w2, L', s1, ts1, rfl, e1, e2, e3⟩, ?_⟩
        generalize hn : Sq01.number ((c.drop j).take 2) = n at ha hb
        -- wrong = wrong_head(frame)
        refine ⟨_, rfl, a, dx, b, n, _, _, _, rfl, ha, ?_⟩
        by_cases h4 : 4096 < n
        · rw [if_pos h4] at hb ⊢
          refine ⟨_, rfl, rfl, _, rfl, iteT ⟨_, rfl, ?_⟩⟩
          refine q H2 L2 (wc s1 s.came) ts1 1 M.rep M.ext M.tl (by have := M.tn; rw [hc] at this; omega) (.inr ⟨by decide, ?_⟩)
          rw [M.rd, readsF_bad (k := 1) M.dead (by rw [cm]; exact hb)]
          rfl
        rw [if_neg h4] at hb ⊢
        by_cases h1f : 1 < (c.drop j).getD 3 0
        · rw [if_pos h1f] at hb ⊢
          refine ⟨_, rfl, rfl, _, rfl, iteT ⟨_, rfl, ?_⟩⟩
          refine q H2 L2 (wc s1 s.came) ts1 2 M.rep M.ext M.tl (by have := M.tn; rw [hc] at this; omega) (.inr ⟨by decide, ?_⟩)
          rw [M.rd, readsF_bad (k := 2) M.dead (by rw [cm]; exact hb)]
          rfl
        rw [if_neg h1f] at hb ⊢
        refine ⟨_, rfl, rfl, _, rfl, iteF ?_⟩
        -- behind = behind_frame(frame, at)
        refine ⟨_, rfl, _, rfl, a, dx, b, n, _, _, _, j, rfl, ha, ?_⟩
        have huc : H2 L2.c = some (.lst (iv c)) := by rw [hce]; exact M.rep.hc
        refine ⟨_, rfl, _, rfl, p, Z.S, L2.dx, _, _, rfl, M.rep.hp, T.cS, T.nS _ (by decide +kernel), sl_unread _ _ _ _, L2.c, _, rfl, .inl (SqL.of huc), _, _, rfl, rfl, _, rfl, ?_⟩
        refine ite2 (fun hcc => ?_) (fun hcc => ?_)
        · have hcc : ((iv c).length : Int) < ((j + 8 + n : Nat) : Int) := of_decide_eq_true hcc
          rw [iv_len] at hcc
          rw [if_pos (by omega)] at hb
          exact ⟨j, _, _, _, L2, s1, ts1, rfl, M, hb⟩
        have hcc : ¬ ((iv c).length : Int) < ((j + 8 + n : Nat) : Int) := fun z => hcc (decide_eq_true z)
        rw [iv_len] at hcc
        rw [if_neg (by omega)] at hb
        -- frame.body = side.unread[at + HEAD_SIZE:behind]
        refine ⟨_, rfl, p, Z.S, L2.dx, _, _, rfl, M.rep.hp, T.cS, T.nS _ (by decide +kernel), sl_unread _ _ _ _, _, rfl, _, _, rfl, rfl, _, rfl, _, rfl, _, rfl, L2.c, _, rfl, SqL.of huc, fun a1 h1 => ?_⟩
        have ecut : cutV (iv c) (some ((j : Int) + 8)) (some ((j + 8 + n : Nat) : Int)) = iv (((c.drop j).drop 8).take n) := by
          refine (cut_mid (iv c) (j + 8) (j + 8 + n) (by omega) (by rw [iv_len]; omega)).trans ?_
          rw [iv_take, iv_drop, iv_drop, List.drop_drop, show j + 8 + n - (j + 8) = n by omega]
        rw [ecut]
        have na1 : a ≠ a1 := ne_of_none ha h1
        refine ⟨_, rfl, a, Z.F, dx, _, rfl, (by rw [upd_ne na1]; exact ha), T.cF, T.nF _ (by decide +kernel), small_f _ _ _ _ _, ?_⟩
        rw [fp_body]
        -- wrong = meet(side, frame, told)
        generalize hf : frameOf (c.drop j) = f at hb
        have fk : f.kind = (c.drop j).getD 2 0 := by rw [← hf]; rfl
        have fid : f.id = Sq01.number (((c.drop j).drop 4).take 4) := by rw [← hf]; rfl
        have fb : f.body = ((c.drop j).drop 8).take n := by rw [← hf, ← hn]; rfl
        have flast : Sq01.bit f.last = (c.drop j).getD 3 0 := by
          rw [← hf]
          show Sq01.bit ((c.drop j).getD 3 0 == 1) = _
          have : (c.drop j).getD 3 0 = 0 ∨ (c.drop j).getD 3 0 = 1 := by omega
          rcases this with z | z <;> rw [z] <;> rfl
        have flen : f.body.length = n := by
          rw [fb, List.length_take, List.length_drop, List.length_drop]
          omega
        have g1 : L2.G a1 = none := M.rep.free h1
        have R3 : Rep Z (upd (upd H2 a1 (.lst (iv (((c.drop j).drop 8).take n)))) a (.ins Z.F dx (fF n ((c.drop j).getD 2 0) ((c.drop j).getD 3 0) (Sq01.number (((c.drop j).drop 4).take 4)) a1))) p (wc s1 s.came) L2 := (M.rep.fresh h1).upd0 ga
        have hat : a ≠ t := fun z => by
          obtain ⟨tas, k1, _⟩ := M.tl
          rw [z, k1] at ha
          cases ha
        have h1t : a1 ≠ t := fun z => by
          obtain ⟨tas, k1, _⟩ := M.tl
          rw [z, k1] at h1
          cases h1
        have tl3 : TL (upd (upd H2 a1 (.lst (iv (((c.drop j).drop 8).take n)))) a (.ins Z.F dx (fF n ((c.drop j).getD 2 0) ((c.drop j).getD 3 0) (Sq01.number (((c.drop j).drop 4).take 4)) a1))) L2 t (ts ++ ts1) := by
          obtain ⟨tas, k1, k2, k3⟩ := M.tl.ext (Ext.same (Same.fresh (o := .lst (iv (((c.drop j).drop 8).take n))) h1))
          refine ⟨tas, by rw [upd_ne hat.symm]; exact k1, k2, paired_mono k3 fun x y z => ⟨?_, z.2⟩⟩
          rw [upd_ne (fun e => by have z1 := z.1; rw [e, upd_ne na1, ha] at z1; cases z1)]
          exact z.1
        have fa3 : FAt Z (upd (upd H2 a1 (.lst (iv (((c.drop j).drop 8).take n)))) a (.ins Z.F dx (fF n ((c.drop j).getD 2 0) ((c.drop j).getD 3 0) (Sq01.number (((c.drop j).drop 4).take 4)) a1))) L2 t a f := by
          refine ⟨a1, ⟨dx, ?_⟩, ?_, ga, g1, hat, h1t⟩
          · rw [upd_same, flen, fk, flast, fid]
          · rw [upd_ne na1.symm, upd_same, fb]
        -- all but the frame's own object is as it was; that is no part of the entry
        have E3 : ExtB t H L (upd (upd H2 a1 (.lst (iv (((c.drop j).drop 8).take n)))) a (.ins Z.F dx (fF n ((c.drop j).getD 2 0) ((c.drop j).getD 3 0) (Sq01.number (((c.drop j).drop 4).take 4)) a1))) L2 := fun x o nx ex gx => by
          obtain ⟨e1, e2⟩ := M.ext x o nx ex gx
          exact ⟨by rw [upd_ne (fun z => na0 o (by rw [← z]; exact ex) (by rw [← z]; exact gx)), upd_ne (ne_of_none e1 h1)]; exact e1, e2⟩
        have fl1 := M.fl
        have tn1 := M.tn
        rw [hc] at fl1 tn1
        have ok1 : Ok (wc s1 s.came) := M.ok.came M.dead _
        refine ⟨_, rfl, _, rfl, _, rfl, p, t, a, f, wc s1 s.came, L2, ts ++ ts1, rfl, R3, ok1, M.dead, (by show s1.first.length < 7000000; omega), fa3, tl3, (by rw [List.length_append]; omega), ?_, fun hgf => ?_, fun hgt => ?_⟩
        · intro x hx
          rw [fb] at hx
          have hx := List.mem_of_mem_drop (List.mem_of_mem_drop (List.mem_of_mem_take hx))
          rw [hce] at hx
          exact by_ x hx
        · rw [hgf, if_neg Bool.false_ne_true] at hb
          refine ⟨_, rfl, rfl, _, rfl, iteT ⟨_, rfl, ?_⟩⟩
          refine q _ L2 (wc s1 s.came) ts1 2 R3 E3 tl3 (by omega) (.inr ⟨by decide, ?_⟩)
          rw [M.rd, readsF_bad (k := 2) M.dead (by rw [cm]; exact hb)]
          rfl
        · rw [hgt, if_pos rfl] at hb
          intro H4 L4 R4 E4 tl4
          rw [met_wc] at R4 tl4 ⊢
          dsimp only at R4 tl4 ⊢
          have E5 := E3.trans E4
          have mt := met_told M.ok f
          refine ⟨_, rfl, rfl, _, rfl, ?_⟩
          by_cases hk : (met s1 f).2.2 = 0
          · rw [hk]
            refine iteF ?_
            obtain ⟨ok2, fl2⟩ := met_ok M.ok M.dead hk
            have fl2 : (met s1 f).1.first.length ≤ s1.first.length + 65 := fl2
            have dd2 := met_dead M.ok M.dead f
            -- at = behind; frame = head_at(side.unread, at)
            have hdd : (c.drop j).drop (8 + n) = c.drop (j + 8 + n) := by rw [List.drop_drop, Nat.add_assoc]
            have M2 : ∀ H5, Same H4 H5 → Mid Z p t H L ts s (j + 8 + n) H5 L4 (wc (met s1 f).1 (c.drop (j + 8 + n))) (ts1 ++ (met s1 f).2.1) := fun H5 S5 => by
              refine ⟨by rw [hc]; omega, by rw [hc]; rfl, ok2.came dd2 _, dd2, R4.same S5, E5.trans (Ext.same S5).b, ?_, ?_, ?_, ?_⟩
              · rw [← List.append_assoc]; exact tl4.ext (Ext.same S5)
              · rw [M.rd, readsF_right M.ok M.dead (f := f) (rest := c.drop (j + 8 + n)) (by rw [cm, hb, hdd]) hk]
                rw [List.append_assoc]
              · rw [hc]
                show (met s1 f).1.first.length + _ ≤ _
                omega
              · rw [hc, List.length_append]
                omega
            refine ⟨_, rfl, ?_⟩
            have huc4 : H4 L4.c = some (.lst (iv c)) := by rw [hce]; exact R4.hc
            refine ⟨_, rfl, p, Z.S, L4.dx, _, _, rfl, R4.hp, T.cS, T.nS _ (by decide +kernel), sl_unread _ _ _ _, _, rfl, L4.c, j + 8 + n, c, rfl, huc4, by omega, fun h1' _ => ?_, by omega, fun h8' H5 a5 dx5 b5 S5 hn5 ha5 => ?_⟩
            · exact ⟨j + 8 + n, _, _, _, L4, _, _, by omega, rfl, .inl ⟨rfl, h1'⟩, M2 H4 Same.refl'⟩
            · refine ⟨j + 8 + n, _, _, _, L4, _, _, by omega, rfl, .inr ⟨a5, dx5, b5, rfl, h8', ha5, R4.free hn5, ?_⟩, M2 H5 S5⟩
              refine E5.new hn5 fun z => ?_
              obtain ⟨tas, k1, _⟩ := tl4
              rw [z, k1] at hn5
              cases hn5
          · have hkd : (!decide (V.int (((met s1 f).2.2 : Nat) : Int) = V.int 0)) = true := by
              rw [show decide (V.int (((met s1 f).2.2 : Nat) : Int) = V.int 0) = decide ((met s1 f).2.2 = 0) from int_eq _ 0, decide_eq_false hk]
              rfl
            rw [hkd]
            refine iteT ⟨_, rfl, ?_⟩
            refine q H4 L4 (wc (met s1 f).1 s.came) (ts1 ++ (met s1 f).2.1) (met s1 f).2.2 R4 E5 (by rw [← List.append_assoc]; exact tl4) (by rw [List.length_append]; omega) (.inr ⟨hk, ?_⟩)
            rw [M.rd, readsF_wrong M.ok M.dead (f := f) (rest := (c.drop j).drop (8 + n)) (by rw [cm]; exact hb) hk]
            rw [List.append_assoc]
            rfl
    · rintro σ2 H2 ⟨j, v, w1, w2, L2, s1, ts1, rfl, M, hmore⟩
      have huc : H2 L2.c = some (.lst (iv c)) := by rw [← hc]; exact M.rep.hc
      have hjl : j ≤ c.length := by rw [← hc]; exact M.le
      have cm : s1.came = c.drop j := by rw [← hc]; exact M.cm
      refine ⟨_, rfl, p, Z.S, L2.dx, _, _, rfl, M.rep.hp, T.cS, T.nS _ (by decide +kernel), sl_unread _ _ _ _, _, rfl, _, rfl, L2.c, _, rfl, SqL.of huc, fun a1 h1 => ?_⟩
      rw [cut_tail _ j (by rw [iv_len]; exact hjl), ← iv_drop]
      have R3 : Rep Z (upd H2 a1 (.lst (iv (c.drop j)))) p (wc s1 s.came) L2 := M.rep.fresh h1
      refine ⟨_, rfl, p, Z.S, L2.dx, _, rfl, R3.hp, T.cS, T.nS _ (by decide +kernel), small_s _ _ _ _, ?_⟩
      rw [sp_unread]
      have g1 := M.rep.free h1
      have R4 := R3.readsNew (b := c.drop j) (q := a1) upd_same g1
      have E4 : Ext H2 L2 (upd (upd H2 a1 (.lst (iv (c.drop j)))) p (.ins Z.S L2.dx (sF (wc s1 s.came) L2.d L2.l a1))) { L2.tag a1 .unread with c := a1 } := fun x o ex gx => by
        have nx1 : x ≠ a1 := ne_of_none ex h1
        refine ⟨by rw [upd_ne (fun z => by rw [z, M.rep.gp] at gx; cases gx), upd_ne nx1]; exact ex, ?_⟩
        show (L2.tag a1 .unread).G x = none
        rw [tag_ne nx1]; exact gx
      have e1 : ({ wc s1 s.came with came := c.drop j } : State) = s1 := by
        show ({ s1 with came := c.drop j } : State) = s1
        rw [← cm]
      rw [e1] at R4
      refine q _ _ s1 ts1 0 R4 (M.ext.trans E4.b) (M.tl.ext E4) (by have := M.tn; rw [hc] at this; omega) (.inl ⟨rfl, ?_⟩)
      rw [M.rd, readsF_more (by rw [cm]; exact hmore), List.append_nil]
end
def spCame (Z : Cs) : Sp := fun vs H Q _ => ∃ (p b : Addr) (bs : List Nat) (s : State) (L : Lay), vs = [.ref p, .ref b] ∧ Rep Z H p s L ∧ Ok s ∧ By s ∧ H b = some (.lst (iv bs)) ∧ L.G b = none ∧ (∀ c ∈ bs, c < 256) ∧ s.came.length + bs.length ≤ 40000 ∧ s.first.length < 3000000 ∧ Answers Z p H L (Sq01.step s (.came bs)) Q
theorem flat_take {l : List Told} {i : Nat} {x : Told} (h : l[i]? = some x) : (l.take (i + 1)).flatMap Sq01.told = (l.take i).flatMap Sq01.told ++ Sq01.told x := by
  rw [List.take_add_one, h, List.flatMap_append]
  simp
theorem flat_len (l : List Told) : (l.flatMap Sq01.told).length ≤ 3 * l.length := by
  induction l with
  | nil => exact Nat.le_refl _
  | cons x l ih =>
    rw [List.flatMap_cons, List.length_append, List.length_cons]
    have := told_few x
    omega
section
variable {P : Program} {w : World} {K : PySem.W.Frag} {mg : Str → Option Value} {base : Heap} {Z : Cs}
theorem scCame : FnScope ["side", "what", "told", "wrong", "answer", "thing"] ["side", "what"] (defScope sCame) := ⟨rfl, rfl, rfl, by decide +kernel, rfl, by decide +kernel, by decide +kernel⟩
theorem ok_came {f : Addr} {fd : FuncData} (F : Fun K "came" "came" sCame f fd) (T : Txt K mg Z) (DR : Def P w K mg base 1 "refused" ["why"] spRef) (DF : Def P w K mg base 8 "read_frames" ["side", "told"] (spRF Z)) (D11 : Mdef P w K mg base 1 Z.S "die" ["self"] (spS11 Z)) :
    FnOk P w K mg base CX0 9 f fd ["side", "what"] (spCame Z) := by
  refine F.ok scCame (fun vs H Q E h => ?_) (fun cdv A outer s0 H vs Q E hr h => ?_)
  · obtain ⟨p, b, bs, s, L, rfl, _⟩ := h; rfl
  · obtain ⟨p, b, bs, s, L, rfl, R, ok, by_, hb, gb, hbb, hlen, hfl, q⟩ := h
    have hr1 : Room 1 _ := hr.mono (by decide)
    have c0 := T.con ("RIGHT", 0) (by decide +kernel)
    have c1 := T.con ("NO_MORE", 6) (by decide +kernel)
    have c2 := T.con ("TOLD_WRONG", 7) (by decide +kernel)
    refine ⟨_, pss_cons (ps_if (pt_val (pe_fld (pv 0) rfl)) (pss_one (ps_ret (pd DR hr1 (pa_cons (pc c1) pa_nil)))) pss_nil)
      (pss_cons (ps_expr (pextend (pe_fld (pv 0) rfl) (pa_cons (pv 1) pa_nil)))
      (pss_cons (ps_set (i := 2) scCame.nd rfl (Or.inl rfl) (pe_lst pa_nil))
      (pss_cons (ps_set (i := 3) scCame.nd rfl (Or.inl rfl) (pd DF hr (pa_cons (pv 0) (pa_cons (pv 2) pa_nil))))
      (pss_cons (ps_mid (ps_if (pt_cmpR op_ne (pv 3) (pc c0) (nomark _)) (pss_cons (ps_expr (pm0 D11 hr1 (pv 0))) (pss_one (ps_expr (pappend (pv 2) (pa_cons (pe_lst (pa_cons (pc c2) (pa_cons (pv 3) pa_nil))) pa_nil))))) pss_nil))
      (pss_cons (ps_set (i := 4) scCame.nd rfl (Or.inl rfl) (pe_lst (pa_cons (pe_callB call_len_seq (by rfl) T.len PySem.boot_len (pa_cons (pv 2) pa_nil)) pa_nil)))
      (pss_cons (ps_for PassesOwn.never rfl (pi_list (pv 2)) (pg_name (i := 5) scCame.nd rfl (Or.inl rfl)) (pss_one (ps_expr (pextend (pv 4) (pa_cons (pv 5) pa_nil)))))
      (pss_one (ps_ret (pv 4))))))))), ?_⟩
    refine ⟨_, rfl, p, Z.S, L.dx, _, _, rfl, R.hp, T.cS, T.nS _ (by decide +kernel), sl_dead _ _ _ _, s.dead, rfl, ?_⟩
    cases hd : s.dead with
    | true =>
      refine iteT ?_
      exact ⟨6, rfl, q.no R (if_pos hd)⟩
    | false =>
      refine iteF ?_
      have st : Sq01.step s (.came bs) = ((readsF (wc s (s.came ++ bs))).1, ⟨(readsF (wc s (s.came ++ bs))).2.length, (readsF (wc s (s.came ++ bs))).2.flatMap Sq01.told⟩) := by
        have e : State.reads (s.came.length + bs.length + 1) ({ s with came := s.came ++ bs } : State) = readsF (wc s (s.came ++ bs)) := by
          unfold readsF
          show _ = State.reads ((s.came ++ bs).length + 1) _
          rw [List.length_append]
          rfl
        unfold Sq01.step
        dsimp only
        rw [if_neg (by rw [hd]; exact Bool.false_ne_true), e]
      rw [st] at q
      -- side.unread.extend(what)
      refine ⟨_, rfl, p, Z.S, L.dx, _, _, rfl, R.hp, T.cS, T.nS _ (by decide +kernel), sl_unread _ _ _ _, .inl ⟨rfl, _, SqL.of R.hc⟩, _, rfl, L.c, b, _, _, rfl, rfl, R.hc, hb, ?_, ?_⟩
      · rw [iv_len, iv_len]; exact fits (by omega)
      rw [← iv_app]
      have R1 : Rep Z _ p (wc s (s.came ++ bs)) L := R.reads (b := s.came ++ bs)
      have E1 : Ext H L (upd H L.c (.lst (iv (s.came ++ bs)))) L := Ext.own R.gc
      -- told = []
      refine ⟨Nat.zero_le _, fun t ht => ?_⟩
      have ht0 : New H L t := E1.new ht
      have R2 := R1.fresh (o := .lst []) ht
      have gt := R1.free ht
      have tl2 : TL (upd (upd H L.c (.lst (iv (s.came ++ bs)))) t (.lst [])) L t [] := ⟨[], upd_same, gt, .nil⟩
      have ok1 : Ok (wc s (s.came ++ bs)) := ok.came hd _
      have by1 : By (wc s (s.came ++ bs)) := fun c hc => by
        rcases List.mem_append.mp hc with z | z
        · exact by_ c z
        · exact hbb c z
      have hcl : (wc s (s.came ++ bs)).came.length = s.came.length + bs.length := List.length_append
      -- wrong = read_frames(side, told)
      refine ⟨_, rfl, _, rfl, p, t, wc s (s.came ++ bs), L, [], rfl, R2, ok1, hd, by1, by omega, (by show s.first.length + _ < _; omega), tl2, (by rw [hcl]; show 0 + _ < _; omega), fun H3 L3 s' ts' k R3 E3 tl3 hn3 to3 => ?_⟩
      rw [List.nil_append] at tl3
      have E3' : Ext H L H3 L3 := fun x o ex gx => by
        have nxt : x ≠ t := fun z => ht0 o (by rw [← z]; exact ex) (by rw [← z]; exact gx)
        obtain ⟨e1, e2⟩ := E1 x o ex gx
        exact E3 x o nxt (by rw [upd_ne nxt]; exact e1) e2
      -- if wrong != RIGHT
      refine ⟨fun σ' H' => ∃ (v : Option V) (L' : Lay), σ' = [some (.ref p), some (.ref b), some (.ref t), v, none, none] ∧ Rep Z H' p (readsF (wc s (s.came ++ bs))).1 L' ∧ Ext H L H' L' ∧ TL H' L' t (readsF (wc s (s.came ++ bs))).2 ∧ (readsF (wc s (s.came ++ bs))).2.length ≤ 3000000,
        ⟨_, rfl, rfl, _, rfl, ?_⟩, ?_⟩
      · rcases to3 with ⟨hk, e⟩ | ⟨hk, e⟩
        · subst hk
          rw [e]
          exact iteF ⟨_, L3, rfl, R3, E3', tl3, by dsimp only; omega⟩
        · have hkd : (!decide (V.int ((k : Nat) : Int) = V.int 0)) = true := by
            rw [show decide (V.int ((k : Nat) : Int) = V.int 0) = decide (k = 0) from int_eq _ 0, decide_eq_false hk]
            rfl
          rw [hkd, e]
          refine iteT ?_
          refine ⟨_, rfl, p, L3.dx, _, rfl, R3.hp, sl_m11 _ _ _ _, p, s', L3, rfl, R3, fun k' H4 L4 R4 E4 => ?_⟩
          have ek : (s'.kill k').1 = (s'.kill k).1 := rfl
          rw [ek] at R4
          have tl4 := tl3.ext E4
          obtain ⟨tas, k1, k2, k3⟩ := tl4
          refine ⟨_, rfl, .inl ⟨rfl, _, SqL.of k1⟩, _, rfl, by show 2 ≤ sizeLine; decide, fun a5 h5 => ?_⟩
          have S5 : Same H4 (upd H4 a5 (.lst [V.int 7, V.int (k : Int)])) := Same.fresh h5
          refine ⟨t, _, _, rfl, rfl, S5 _ _ k1, ?_, ?_⟩
          · rw [List.length_map, TL.len k3]
            exact Nat.lt_of_lt_of_le (show _ < 9000000 by omega) (fits (by decide))
          have p5 := TL.push (x := .wrong k) (S5 _ _ k1) k2 (paired_mono k3 fun b y z => ⟨S5 _ _ z.1, z.2⟩) (q := a5) upd_same (R4.free h5)
          refine ⟨_, L4, rfl, (R4.same S5).upd0 k2, fun x o ex gx => ?_, p5, ?_⟩
          · have nxt : x ≠ t := fun z => ht0 o (by rw [← z]; exact ex) (by rw [← z]; exact gx)
            obtain ⟨e1, e2⟩ := (E3'.trans E4).trans (Ext.same S5) x o ex gx
            exact ⟨by rw [upd_ne nxt]; exact e1, e2⟩
          · dsimp only
            rw [List.length_append]
            show _ + 1 ≤ _
            omega
      rintro σ4 H4 ⟨v, L4, rfl, R4, E4, tl4, hn4⟩
      generalize readsF (wc s (s.came ++ bs)) = r at R4 tl4 hn4 q
      obtain ⟨tas, k1, k2, k3⟩ := tl4
      have tlen := TL.len k3
      -- answer = [len(told)]
      refine ⟨_, rfl, t, _, rfl, .inl (SqL.of k1), by show 1 ≤ sizeLine; decide, fun a5 h5 => ?_⟩
      have S5 : Same H4 (upd H4 a5 (.lst [V.int ((tas.map V.ref).length : Int)])) := Same.fresh h5
      have k15 := S5 _ _ k1
      have ht5 : a5 ≠ t := fun z => by rw [z, k1] at h5; cases h5
      have k35 : Paired (TAt H4 L4) tas r.2 := k3
      refine ⟨_, rfl, t, rfl, ⟨_, SqL.of k15⟩, for_list (K := K) (a := t) (xs := tas.map V.ref) (fun i σ H' => ∃ v6 : Option V, σ = [some (.ref p), some (.ref b), some (.ref t), v, some (.ref a5), v6] ∧ H' = upd H4 a5 (.lst (iv (r.2.length :: (r.2.take i).flatMap Sq01.told)))) ⟨none, rfl, ?_⟩ (fun i σ H' _ ⟨_, _, e⟩ => ?_) ?_ ?_⟩
      · rw [List.length_map, tlen]
        rfl
      · rw [e]
        exact SqL.of (by rw [upd_ne ht5.symm]; exact k1)
      · rintro i y σ H' hi ⟨v6, rfl, rfl⟩
        rw [List.getElem?_map] at hi
        cases ea : tas[i]? with
        | none => rw [ea] at hi; cases hi
        | some a =>
          rw [ea] at hi
          have ey : V.ref a = y := Option.some.inj hi
          subst ey
          have hil := (List.getElem?_eq_some_iff.mp ea).1
          obtain ⟨a', ea', hx⟩ := paired_at k35 (List.getElem?_eq_getElem (by omega : i < r.2.length))
          rw [ea] at ea'
          cases ea'
          have nax : a ≠ a5 := ne_of_none hx.1 h5
          refine ⟨_, rfl, .inl ⟨rfl, _, SqL.of upd_same⟩, _, rfl, a5, a, _, _, rfl, rfl, upd_same, (by rw [upd_ne nax]; exact hx.1), ?_, ?_⟩
          · rw [iv_len, iv_len, List.length_cons]
            have h1 := flat_len (r.2.take i)
            have h2 := told_few (r.2[i])
            rw [List.length_take] at h1
            exact fits (by omega)
          · refine ⟨_, rfl, ?_⟩
            rw [upd2, flat_take (List.getElem?_eq_getElem (by omega : i < r.2.length)), ← iv_app]
            rfl
      · rintro σ H' ⟨v6, rfl, rfl⟩
        rw [List.length_map, tlen, List.take_length]
        refine ⟨_, rfl, ?_⟩
        exact q _ L4 a5 (R4.fresh h5) (E4.trans (Ext.fresh h5)) (E4.new h5) upd_same (R4.free h5)
end
end Os
set_option linter.all false
set_option maxRecDepth 100000
namespace Os
open PySem PySem.Spec PyProof.Rows L2
open Sq01 (State Exchange Bytes)
abbrev sLook : Stmt := top 35
abbrev sHow : Stmt := top 36
abbrev sStl : Stmt := top 101
abbrev sOvr : Stmt := top 102
abbrev sCnt : Stmt := top 103
def spHow (Z : Cs) : Sp := fun vs H Q _ => ∃ (a dx wa ua : Addr) (x : Exchange), vs = [.ref a] ∧ H a = some (.ins Z.X dx (xF x wa ua)) ∧ (x.sent = true → x.ended = true) ∧ Q (.int ((Sq01.bit x.ended + Sq01.bit x.sent : Nat) : Int)) H
def spLook (Z : Cs) : Sp := fun vs H Q _ => ∃ (p : Addr) (i : Nat) (s : State) (L : Lay), vs = [.ref p, .int i] ∧ Rep Z H p s L ∧ Ok s ∧ Answers Z p H L (Sq01.step s (.look i)) Q
def spStl (Z : Cs) : Sp := fun vs H Q _ => ∃ (p : Addr) (k : Nat) (s : State) (L : Lay), vs = [.ref p, .int k] ∧ Rep Z H p s L ∧ s.first.length < 9000000 ∧ Answers Z p H L (Sq01.step s (.still k)) Q
def spOvr (Z : Cs) : Sp := fun vs H Q _ => ∃ (p : Addr) (s : State) (L : Lay), vs = [.ref p] ∧ Rep Z H p s L ∧ Ok s ∧ s.first.length < 9000000 ∧ Answers Z p H L (Sq01.step s .over) Q
def spCnt (Z : Cs) : Sp := fun vs H Q _ => ∃ (p : Addr) (s : State) (L : Lay), vs = [.ref p] ∧ Rep Z H p s L ∧ Ok s ∧ Answers Z p H L (Sq01.step s .count) Q
section
variable {P : Program} {w : World} {K : PySem.W.Frag} {mg : Str → Option Value} {base : Heap} {Z : Cs}
theorem scHow : FnScope ["exchange"] ["exchange"] (defScope sHow) := ⟨rfl, rfl, rfl, by decide +kernel, rfl, by decide +kernel, by decide +kernel⟩
theorem ok_how {f : Addr} {fd : FuncData} (F : Fun K "how_far_ended" "how_far_ended" sHow f fd) (T : Txt K mg Z) : FnOk P w K mg base CX0 1 f fd ["exchange"] (spHow Z) := by
  refine F.ok scHow (fun vs H Q E h => ?_) (fun cdv A outer s0 H vs Q E hr h => ?_)
  · obtain ⟨a, dx, wa, ua, x, rfl, _⟩ := h; rfl
  · obtain ⟨a, dx, wa, ua, x, rfl, ha, hs, q⟩ := h
    refine ⟨_, pss_cons (ps_if (pt_val (pe_fld (pv 0) rfl)) (pss_one (ps_ret pe_int)) pss_nil) (pss_one (ps_ret (pe_ifExp (pt_val (pe_fld (pv 0) rfl)) pe_int pe_int))), ?_⟩
    refine ⟨_, rfl, a, Z.X, dx, _, _, rfl, ha, T.cX, T.nX _ (by decide +kernel), xl_sent _ _ _, x.sent, rfl, ?_⟩
    cases h1 : x.sent with
    | true =>
      rw [h1, hs h1] at q
      exact iteT q
    | false =>
      rw [h1] at q
      refine iteF ⟨_, rfl, a, Z.X, dx, _, _, rfl, ha, T.cX, T.nX _ (by decide +kernel), xl_ended _ _ _, x.ended, rfl, ?_⟩
      cases h2 : x.ended with
      | true => rw [h2] at q; exact iteT q
      | false => rw [h2] at q; exact iteF q
theorem scLook : FnScope ["side", "number", "exchange", "last_came"] ["side", "number"] (defScope sLook) := ⟨rfl, rfl, rfl, by decide +kernel, rfl, by decide +kernel, by decide +kernel⟩
theorem ok_look {f : Addr} {fd : FuncData} (F : Fun K "look" "look" sLook f fd) (T : Txt K mg Z) (DR : Def P w K mg base 1 "refused" ["why"] spRef) (DH : Def P w K mg base 1 "how_far_ended" ["exchange"] (spHow Z)) : FnOk P w K mg base CX0 2 f fd ["side", "number"] (spLook Z) := by
  refine F.ok scLook (fun vs H Q E h => ?_) (fun cdv A outer s0 H vs Q E hr h => ?_)
  · obtain ⟨p, i, s, L, rfl, _⟩ := h; rfl
  · obtain ⟨p, i, s, L, rfl, R, ok, q⟩ := h
    have hu := hu_of hr
    have c2 := T.con ("NOT_THERE", 2) (by decide +kernel)
    refine ⟨_, pss_cons (ps_set (i := 2) scLook.nd rfl (Or.inl rfl) (pe_dget1 hu (pe_fld (pv 0) rfl) (pv 1) ⟨rfl, rfl, rfl, rfl⟩))
      (pss_cons (ps_if (pt_cmp (pc_isN (pv 2))) (pss_one (ps_ret (pd DR hr (pa_cons (pc c2) pa_nil)))) pss_nil)
      (pss_cons (ps_set (i := 3) scLook.nd rfl (Or.inl rfl) (pe_ifExp (pt_val (pe_fld (pv 2) rfl)) pe_int pe_int))
      (pss_one (ps_ret (pe_lst (pa_cons pe_int (pa_cons (pe_callB call_len_seq (by rfl) T.len PySem.boot_len (pa_cons (pe_fld (pv 2) rfl) pa_nil)) (pa_cons (pd DH hr (pa_cons (pv 2) pa_nil)) (pa_cons (pe_fld (pv 2) rfl)
        (pa_cons (pe_callB call_len_seq (by rfl) T.len PySem.boot_len (pa_cons (pe_fld (pv 2) rfl) pa_nil)) (pa_cons (pv 3) (pa_cons (pe_fld (pv 2) rfl) pa_nil)))))))))))), ?_⟩
    refine ⟨_, rfl, p, Z.S, L.dx, _, _, rfl, R.hp, T.cS, T.nS _ (by decide +kernel), sl_exchanges _ _ _ _, L.d, rfl, .inl ⟨_, .inl R.hd⟩, _, rfl, _, DGet.k (k := Sum.inl (i : Int)) R.hd, ?_⟩
    cases hx : s.find i with
    | none =>
      rw [R.at_none hx]
      refine ⟨_, rfl, _, rfl, ?_⟩
      refine iteT ?_
      have st : Sq01.step s (.look i) = (s, Sq01.says (-2)) := by unfold Sq01.step; dsimp only; rw [hx]
      exact ⟨2, rfl, q.no R st⟩
    | some x =>
      obtain ⟨hm, hid⟩ := find_some hx
      subst hid
      have Ex := R.ex x hm
      obtain ⟨dx, hob⟩ := Ex.ob
      rw [R.at_some hx]
      refine ⟨_, rfl, _, rfl, ?_⟩
      show if decide (V.ref (L.xa x.id) = V.non) = true then _ else _
      rw [not_non]
      refine iteF ?_
      have st : Sq01.step s (.look x.id) = (s, ⟨0, [x.out.length, Sq01.bit x.ended + Sq01.bit x.sent, x.credit, x.got.length, Sq01.bit x.whole, x.left]⟩) := by unfold Sq01.step; dsimp only; rw [hx]
      rw [st] at q
      have hsent : x.sent = true → x.ended = true := fun z => ((ok.xs x hm).sent z).1
      refine ⟨_, rfl, L.xa x.id, Z.X, dx, _, _, rfl, hob, T.cX, T.nX _ (by decide +kernel), xl_came _ _ _, x.whole, rfl, ?_⟩
      have fin : ∀ (v : Int), v = (Sq01.bit x.whole : Int) → ∀ a, H a = none → Q (.ref a) (upd H a (.lst [V.int 0, V.int ((iv x.out).length : Int), V.int ((Sq01.bit x.ended + Sq01.bit x.sent : Nat) : Int), V.int (x.credit : Int), V.int ((iv x.got).length : Int), V.int v, V.int (x.left : Int)])) := fun v hv a ha => by
        refine q _ L a (R.fresh ha) (Ext.fresh ha) (.of ha) ?_ (R.free ha)
        rw [upd_same, iv_len, iv_len, hv]
        rfl
      cases hw : x.whole with
      | true =>
        refine iteT ⟨_, rfl, L.xa x.id, Z.X, dx, _, _, rfl, hob, T.cX, T.nX _ (by decide +kernel), xl_waiting _ _ _, L.wa x.id, _, rfl, .inl (SqL.of Ex.wt), _, rfl, L.xa x.id, dx, _, _, x, rfl, hob, hsent, _, rfl, L.xa x.id, Z.X, dx, _, _, rfl, hob, T.cX, T.nX _ (by decide +kernel), xl_credit _ _ _,
          _, rfl, L.xa x.id, Z.X, dx, _, _, rfl, hob, T.cX, T.nX _ (by decide +kernel), xl_untaken _ _ _, L.ua x.id, _, rfl, .inl (SqL.of Ex.ut), _, rfl, _, rfl, L.xa x.id, Z.X, dx, _, _, rfl, hob, T.cX, T.nX _ (by decide +kernel), xl_left _ _ _, by show 7 ≤ sizeLine; decide, fun a ha => fin 1 (by rw [hw]; rfl) a ha⟩
      | false =>
        refine iteF ⟨_, rfl, L.xa x.id, Z.X, dx, _, _, rfl, hob, T.cX, T.nX _ (by decide +kernel), xl_waiting _ _ _, L.wa x.id, _, rfl, .inl (SqL.of Ex.wt), _, rfl, L.xa x.id, dx, _, _, x, rfl, hob, hsent, _, rfl, L.xa x.id, Z.X, dx, _, _, rfl, hob, T.cX, T.nX _ (by decide +kernel), xl_credit _ _ _,
          _, rfl, L.xa x.id, Z.X, dx, _, _, rfl, hob, T.cX, T.nX _ (by decide +kernel), xl_untaken _ _ _, L.ua x.id, _, rfl, .inl (SqL.of Ex.ut), _, rfl, _, rfl, L.xa x.id, Z.X, dx, _, _, rfl, hob, T.cX, T.nX _ (by decide +kernel), xl_left _ _ _, by show 7 ≤ sizeLine; decide, fun a ha => fin 0 (by rw [hw]; rfl) a ha⟩
theorem scStl : FnScope ["side", "token"] ["side", "token"] (defScope sStl) := ⟨rfl, rfl, rfl, by decide +kernel, rfl, by decide +kernel, by decide +kernel⟩
theorem ok_stl {f : Addr} {fd : FuncData} (F : Fun K "still" "still" sStl f fd) (T : Txt K mg Z) (DR : Def P w K mg base 1 "refused" ["why"] spRef) (DS : Def P w K mg base 3 "still_asked_frame" ["token"] spSA) : FnOk P w K mg base CX0 4 f fd ["side", "token"] (spStl Z) := by
  refine F.ok scStl (fun vs H Q E h => ?_) (fun cdv A outer s0 H vs Q E hr h => ?_)
  · obtain ⟨p, k, s, L, rfl, _⟩ := h; rfl
  · obtain ⟨p, k, s, L, rfl, R, hf, q⟩ := h
    have hr1 : Room 1 _ := hr.mono (by decide)
    have c1 := T.con ("NO_MORE", 6) (by decide +kernel)
    have c2 := T.con ("TOKENS_BELOW", 18446744073709551616) (by decide +kernel)
    have c3 := T.con ("BAD_ARGUMENT", 1) (by decide +kernel)
    refine ⟨_, pss_cons (ps_if (pt_val (pe_fld (pv 0) rfl)) (pss_one (ps_ret (pd DR hr1 (pa_cons (pc c1) pa_nil)))) pss_nil)
      (pss_cons (ps_if (pt_cmpR op_ge (pv 1) (pc c2) (nomark _)) (pss_one (ps_ret (pd DR hr1 (pa_cons (pc c3) pa_nil)))) pss_nil)
      (pss_cons (ps_expr (pappend (pe_fld (pv 0) rfl) (pa_cons (pd DS hr (pa_cons (pv 1) pa_nil)) pa_nil)))
      (pss_one (ps_ret (pe_lst (pa_cons pe_int pa_nil)))))), ?_⟩
    refine ⟨_, rfl, p, Z.S, L.dx, _, _, rfl, R.hp, T.cS, T.nS _ (by decide +kernel), sl_dead _ _ _ _, s.dead, rfl, ?_⟩
    cases hd : s.dead with
    | true =>
      refine iteT ?_
      exact ⟨6, rfl, q.no R (if_pos hd)⟩
    | false =>
      refine iteF ?_
      have hdn : ¬ s.dead = true := by rw [hd]; exact Bool.false_ne_true
      refine ⟨_, rfl, _, _, rfl, rfl, _, rfl, ?_⟩
      refine ite2 (fun hc => ?_) (fun hc => ?_)
      · have hc : (18446744073709551616 : Int) ≤ (k : Int) := of_decide_eq_true hc
        exact ⟨1, rfl, q.no R ((if_neg hdn).trans (if_pos (by show 2 ^ 64 ≤ k; omega)))⟩
      · have hc : ¬ (18446744073709551616 : Int) ≤ (k : Int) := fun z => hc (decide_eq_true z)
        have st : Sq01.step s (.still k) = (s.say ⟨4, false, 0, Sq01.be 8 k⟩, Sq01.says 0) := (if_neg hdn).trans (if_neg (by show ¬ 2 ^ 64 ≤ k; omega))
        rw [st] at q
        refine ⟨_, rfl, p, Z.S, L.dx, _, _, rfl, R.hp, T.cS, T.nS _ (by decide +kernel), sl_first _ _ _ _, .inl ⟨rfl, _, SqL.of R.hl⟩, _, rfl, k, rfl, fun H' a S hn ha => ?_⟩
        have N3 := (Now.of R).same S
        refine ⟨L.l, _, _, rfl, rfl, N3.rep.hl, ?_, ?_⟩
        · rw [List.length_map, R.faLen]
          exact Nat.lt_of_lt_of_le hf (fits (by decide))
        have N4 := N3.say ha (R.free hn) (.of hn)
        refine ⟨by show 1 ≤ sizeLine; decide, fun b hb => ?_⟩
        exact q _ _ b (N4.rep.fresh hb) (N4.ext.trans (Ext.fresh hb)) (N4.ext.new hb) upd_same (N4.rep.free hb)
theorem scOvr : FnScope ["side"] ["side"] (defScope sOvr) := ⟨rfl, rfl, rfl, by decide +kernel, rfl, by decide +kernel, by decide +kernel⟩
theorem ok_ovr {f : Addr} {fd : FuncData} (F : Fun K "over" "over" sOvr f fd) (T : Txt K mg Z) (DR : Def P w K mg base 1 "refused" ["why"] spRef) (DG : Def P w K mg base 3 "going_frame" ["greatest"] spGO) (D10 : Mdef P w K mg base 1 Z.S "greatest_that_came" ["self"] (spS10 Z)) : FnOk P w K mg base CX0 4 f fd ["side"] (spOvr Z) := by
  refine F.ok scOvr (fun vs H Q E h => ?_) (fun cdv A outer s0 H vs Q E hr h => ?_)
  · obtain ⟨p, s, L, rfl, _⟩ := h; rfl
  · obtain ⟨p, s, L, rfl, R, ok, hf, q⟩ := h
    have hr1 : Room 1 _ := hr.mono (by decide)
    have c1 := T.con ("NO_MORE", 6) (by decide +kernel)
    have c2 := T.con ("DONE_BEFORE", 4) (by decide +kernel)
    refine ⟨_, pss_cons (ps_if (pt_val (pe_fld (pv 0) rfl)) (pss_one (ps_ret (pd DR hr1 (pa_cons (pc c1) pa_nil)))) pss_nil)
      (pss_cons (ps_if (pt_val (pe_fld (pv 0) rfl)) (pss_one (ps_ret (pd DR hr1 (pa_cons (pc c2) pa_nil)))) pss_nil)
      (pss_cons (ps_fld (pv 0) pe_bl rfl)
      (pss_cons (ps_expr (pappend (pe_fld (pv 0) rfl) (pa_cons (pd DG hr (pa_cons (pm0 D10 hr1 (pv 0)) pa_nil)) pa_nil)))
      (pss_one (ps_ret (pe_lst (pa_cons pe_int pa_nil))))))), ?_⟩
    refine ⟨_, rfl, p, Z.S, L.dx, _, _, rfl, R.hp, T.cS, T.nS _ (by decide +kernel), sl_dead _ _ _ _, s.dead, rfl, ?_⟩
    cases hd : s.dead with
    | true =>
      refine iteT ?_
      exact ⟨6, rfl, q.no R (if_pos hd)⟩
    | false =>
      refine iteF ?_
      have hdn : ¬ s.dead = true := by rw [hd]; exact Bool.false_ne_true
      refine ⟨_, rfl, p, Z.S, L.dx, _, _, rfl, R.hp, T.cS, T.nS _ (by decide +kernel), sl_over _ _ _ _, s.over, rfl, ?_⟩
      cases ho : s.over with
      | true =>
        refine iteT ?_
        exact ⟨4, rfl, q.no R ((if_neg hdn).trans (if_pos ho))⟩
      | false =>
        refine iteF ?_
        have st : Sq01.step s .over = (({ s with over := true } : State).say ⟨6, false, 0, Sq01.be 4 s.greatest⟩, Sq01.says 0) := (if_neg hdn).trans (if_neg (by rw [ho]; exact Bool.false_ne_true))
        rw [st] at q
        refine ⟨_, rfl, p, Z.S, L.dx, _, rfl, R.hp, T.cS, T.nS _ (by decide +kernel), small_s _ _ _ _, ?_⟩
        rw [sp_over]
        have N1 := (Now.of R).ws (t := { s with over := true }) rfl rfl
        have ok1 : Ok ({ s with over := true } : State) := ok.same rfl rfl rfl rfl rfl hd
        refine ⟨_, rfl, p, Z.S, L.dx, _, _, rfl, N1.rep.hp, T.cS, T.nS _ (by decide +kernel), sl_first _ _ _ _, .inl ⟨rfl, _, SqL.of N1.rep.hl⟩, _, rfl, p, L.dx, _, rfl, N1.rep.hp, sl_m10 _ _ _ _, p, L.dx, L.d, L.l, L.c, _, rfl, N1.rep.hp, ok1, s.greatest, rfl, fun H' a S hn ha => ?_⟩
        have N3 := N1.same S
        refine ⟨L.l, _, _, rfl, rfl, N3.rep.hl, ?_, ?_⟩
        · rw [List.length_map, R.faLen]
          exact Nat.lt_of_lt_of_le hf (fits (by decide))
        have N4 := N3.say ha (N1.rep.free hn) (N1.ext.new hn)
        refine ⟨by show 1 ≤ sizeLine; decide, fun b hb => ?_⟩
        exact q _ _ b (N4.rep.fresh hb) (N4.ext.trans (Ext.fresh hb)) (N4.ext.new hb) upd_same (N4.rep.free hb)
theorem scCnt : FnScope ["side"] ["side"] (defScope sCnt) := ⟨rfl, rfl, rfl, by decide +kernel, rfl, by decide +kernel, by decide +kernel⟩
theorem ok_cnt {f : Addr} {fd : FuncData} (F : Fun K "count" "count" sCnt f fd) (T : Txt K mg Z) (D3 : Mdef P w K mg base 2 Z.S "ours_there" ["self"] (spS3 Z)) (D8 : Mdef P w K mg base 3 Z.S "theirs_there" ["self"] (spS8 Z)) : FnOk P w K mg base CX0 4 f fd ["side"] (spCnt Z) := by
  refine F.ok scCnt (fun vs H Q E h => ?_) (fun cdv A outer s0 H vs Q E hr h => ?_)
  · obtain ⟨p, s, L, rfl, _⟩ := h; rfl
  · obtain ⟨p, s, L, rfl, R, ok, q⟩ := h
    have hr2 : Room 2 _ := hr.mono (by decide)
    refine ⟨_, pss_one (ps_ret (pe_lst (pa_cons (pm0 D3 hr2 (pv 0)) (pa_cons (pm0 D8 hr (pv 0)) (pa_cons (pe_callB call_len_seq (by rfl) T.len PySem.boot_len (pa_cons (pe_fld (pv 0) rfl) pa_nil)) (pa_cons (pe_fld (pv 0) rfl) (pa_cons (pe_fld (pv 0) rfl) pa_nil))))))), ?_⟩
    refine ⟨_, rfl, p, L.dx, _, rfl, R.hp, sl_m3 _ _ _ _, p, s, L, rfl, R, ok.few, fun H1 S1 => ?_⟩
    have R1 := R.same S1
    refine ⟨_, rfl, p, L.dx, _, rfl, R1.hp, sl_m8 _ _ _ _, p, s, L, rfl, R1, ok.few, fun H2 S2 => ?_⟩
    have R2 := R1.same S2
    have E2 : Ext H L H2 L := (Ext.same S1).trans (Ext.same S2)
    refine ⟨_, rfl, p, Z.S, L.dx, _, _, rfl, R2.hp, T.cS, T.nS _ (by decide +kernel), sl_first _ _ _ _, L.l, _, rfl, .inl (SqL.of R2.hl), _, rfl, p, Z.S, L.dx, _, _, rfl, R2.hp, T.cS, T.nS _ (by decide +kernel), sl_credit _ _ _ _, _, rfl, p, Z.S, L.dx, _, _, rfl, R2.hp, T.cS, T.nS _ (by decide +kernel), sl_left _ _ _ _, by show 5 ≤ sizeLine; decide, fun a ha => ?_⟩
    refine q _ L a (R2.fresh ha) (E2.trans (Ext.fresh ha)) (E2.new ha) ?_ (R2.free ha)
    rw [upd_same, List.length_map, R.faLen]
    rfl
end
end Os
set_option linter.all false
set_option maxRecDepth 100000
namespace Os
open PySem PySem.Spec PyProof.Rows L2
open Sq01 (State Exchange Bytes)
abbrev sL0 : Stmt := inClass (top 116) 0
abbrev sL1 : Stmt := inClass (top 116) 1
abbrev sL2 : Stmt := inClass (top 116) 2
abbrev sAns : Stmt := top 117
def lF (p : Addr) : List (Str × V) := [("side", .ref p)]
theorem ll_side (p : Addr) : (lF p).lookup ("side" : Str) = some (.ref p) := by kernel_rfl
theorem ll_m1 (p : Addr) : (lF p).lookup ("begin" : Str) = none := by kernel_rfl
theorem ll_m2 (p : Addr) : (lF p).lookup ("answer" : Str) = none := by kernel_rfl
theorem lp_side (p q : Addr) : putF "side" (.ref q) (lF p) = lF q := by kernel_rfl
theorem linit_eq (p : Addr) : putF "side" (.ref p) [] = lF p := by kernel_rfl
/-- the line's object, whose side is at p, in the state s -/
structure LineAt (Z : Cs) (H : Hp) (ln : Addr) (s : State) (p : Addr) (L : Lay) : Prop where
  ob : ∃ dn, H ln = some (.ins Z.N dn (lF p))
  g : L.G ln = none
  rep : Rep Z H p s L
def AnsL (Z : Cs) (ln : Addr) (H : Hp) (L : Lay) (r : State × Sq01.Ans) (Q : VK) : Prop := ∀ H' p' L' q, LineAt Z H' ln r.1 p' L' → ExtB ln H L H' L' → New H L q → H' q = some (.lst (.int r.2.value :: iv r.2.out)) → L'.G q = none → Q (.ref q) H'
/-- from what the side's own function does -/
theorem AnsL.of {Z : Cs} {ln p : Addr} {H : Hp} {L : Lay} {s : State} {r : State × Sq01.Ans} {Q : VK} (A : LineAt Z H ln s p L) (q : AnsL Z ln H L r Q) : Answers Z p H L r Q := fun H' L' c R' E' nc hc gc => by
  obtain ⟨dn, h1⟩ := A.ob
  obtain ⟨k1, k2⟩ := E' ln _ h1 A.g
  exact q H' p L' c ⟨⟨dn, k1⟩, k2, R'⟩ E'.b nc hc gc
def callNo : Sq01.Call → Nat × List Nat × List Nat
  | .begin_ a => (1, [a], [])
  | .ask => (2, [], [])
  | .put i e b => (3, [i, e], b)
  | .take i m => (4, [i, m], [])
  | .halt_ i w => (5, [i, w], [])
  | .out m => (6, [m], [])
  | .came b => (7, [], b)
  | .still k => (8, [k], [])
  | .over => (9, [], [])
  | .look i => (10, [i], [])
  | .count => (11, [], [])
def spL0 (Z : Cs) : Sp := fun vs H Q _ => ∃ (ln dn : Addr), vs = [.ref ln] ∧ H ln = some (.ins Z.N dn []) ∧ ∀ H' p L, LineAt Z H' ln (Sq01.begun 1) p L → (∀ b o, H b = some o → b ≠ ln → H' b = some o ∧ L.G b = none) → Q .non H'
def spL1 (Z : Cs) : Sp := fun vs H Q _ => ∃ (ln p : Addr) (n : Nat) (s : State) (L : Lay), vs = [.ref ln, .int n] ∧ LineAt Z H ln s p L ∧ AnsL Z ln H L (Sq01.step s (.begin_ n)) Q
def spL2 (Z : Cs) : Sp := fun vs H Q _ => ∃ (ln p ns wh : Addr) (k : Sq01.Call) (s : State) (L : Lay), vs = [.ref ln, .int ((callNo k).1 : Nat), .ref ns, .ref wh] ∧ LineAt Z H ln s p L ∧ Ok s ∧ By s ∧ ByC k ∧ s.first.length < 3000000 ∧ s.came.length ≤ 17000 ∧ (callNo k).2.2.length ≤ 17000 ∧
  H ns = some (.lst (iv (callNo k).2.1)) ∧ L.G ns = none ∧ H wh = some (.lst (iv (callNo k).2.2)) ∧ L.G wh = none ∧ AnsL Z ln H L (Sq01.step s k) Q
section
variable {P : Program} {w : World} {K : PySem.W.Frag} {mg : Str → Option Value} {base : Heap} {Z : Cs}
theorem scL0 : FnScope ["self"] ["self"] (defScope sL0) := ⟨rfl, rfl, rfl, by decide +kernel, rfl, by decide +kernel, by decide +kernel⟩
theorem ok_l0 {f : Addr} {fd : FuncData} (F : Fun K "__init__" "Line.__init__" sL0 f fd) (T : Txt K mg Z) (DS : Made P w K mg base 1 "Side" Z.S ["self", "which"] (spS0 Z)) : FnOk P w K mg base CX0 3 f fd ["self"] (spL0 Z) := by
  refine F.ok scL0 (fun vs H Q E h => ?_) (fun cdv A outer s0 H vs Q E hr h => ?_)
  · obtain ⟨ln, dn, rfl, _⟩ := h; rfl
  · obtain ⟨ln, dn, rfl, hl, q⟩ := h
    refine ⟨_, pss_one (ps_fld (pv 0) (pk DS hr (pa_cons pe_int pa_nil)) rfl), ?_⟩
    intro x dx nx ndx nex
    refine ⟨x, dx, 1, rfl, .inl rfl, upd_same, fun H' L' R' kp => ⟨rfl, ?_⟩⟩
    have nlx : ln ≠ x := ne_of_none hl nx
    have kp' : ∀ b o, H b = some o → H' b = some o ∧ L'.G b = none := fun b o e => kp b o (by rw [upd_ne (ne_of_none e nx), upd_ne (ne_of_none e ndx)]; exact e) (ne_of_none e nx)
    obtain ⟨k1, k2⟩ := kp' ln _ hl
    refine ⟨_, rfl, ln, Z.N, dn, _, rfl, k1, T.cN, T.nN, (by show 0 < 1000; decide), ?_⟩
    rw [linit_eq]
    refine q _ x L' ⟨⟨dn, upd_same⟩, k2, R'.upd0 k2⟩ fun b o e nb => ?_
    obtain ⟨m1, m2⟩ := kp' b o e
    exact ⟨by rw [upd_ne nb]; exact m1, m2⟩
theorem scL1 : FnScope ["self", "which"] ["self", "which"] (defScope sL1) := ⟨rfl, rfl, rfl, by decide +kernel, rfl, by decide +kernel, by decide +kernel⟩
theorem ok_l1 {f : Addr} {fd : FuncData} (F : Fun K "begin" "Line.begin" sL1 f fd) (T : Txt K mg Z) (DR : Def P w K mg base 1 "refused" ["why"] spRef) (DS : Made P w K mg base 1 "Side" Z.S ["self", "which"] (spS0 Z)) : FnOk P w K mg base CX0 3 f fd ["self", "which"] (spL1 Z) := by
  refine F.ok scL1 (fun vs H Q E h => ?_) (fun cdv A outer s0 H vs Q E hr h => ?_)
  · obtain ⟨ln, p, n, s, L, rfl, _⟩ := h; rfl
  · obtain ⟨ln, p, n, s, L, rfl, A, q⟩ := h
    have hr1 : Room 1 _ := hr.mono (by decide)
    have c1 := T.con ("BAD_ARGUMENT", 1) (by decide +kernel)
    refine ⟨_, pss_cons (ps_if (PW.pt (pw_and (pt_cmpR op_ne (pv 1) pe_int (nomark _)) (pw_and1 (pt_cmpR op_ne (pv 1) pe_int (nomark _))))) (pss_one (ps_ret (pd DR hr1 (pa_cons (pc c1) pa_nil)))) pss_nil)
      (pss_cons (ps_fld (pv 0) (pk DS hr (pa_cons (pv 1) pa_nil)) rfl) (pss_one (ps_ret (pe_lst (pa_cons pe_int pa_nil))))), ?_⟩
    have e1 : (!decide (V.int (n : Int) = V.int 1)) = !decide (n = 1) := congrArg (! ·) (int_eq n 1)
    have e2 : (!decide (V.int (n : Int) = V.int 2)) = !decide (n = 2) := congrArg (! ·) (int_eq n 2)
    by_cases hn : n = 1 ∨ n = 2
    · have st : Sq01.step s (.begin_ n) = (Sq01.begun n, Sq01.says 0) := if_pos hn
      rw [st] at q
      refine ⟨_, rfl, rfl, _, rfl, ?_⟩
      rw [e1]
      refine ite2 (fun hc => ?_) (fun hc => ?_)
      · refine ⟨_, rfl, rfl, _, rfl, ?_⟩
        rw [e2]
        have h2 : n = 2 := by
          rcases hn with z | z
          · rw [decide_eq_true z] at hc; cases hc
          · exact z
        rw [decide_eq_true h2]
        refine iteF ?_
        refine ⟨_, rfl, ?_⟩
        intro x dx nx ndx nex
        refine ⟨x, dx, n, rfl, hn, upd_same, fun H' L' R' kp => ⟨rfl, ?_⟩⟩
        have kp' : ∀ b o, H b = some o → H' b = some o ∧ L'.G b = none := fun b o e => kp b o (by rw [upd_ne (ne_of_none e nx), upd_ne (ne_of_none e ndx)]; exact e) (ne_of_none e nx)
        obtain ⟨dn, hl⟩ := A.ob
        obtain ⟨k1, k2⟩ := kp' ln _ hl
        refine ⟨_, rfl, ln, Z.N, dn, _, rfl, k1, T.cN, T.nN, (by show 1 < 1000; decide), ?_⟩
        rw [lp_side]
        refine ⟨by show 1 ≤ sizeLine; decide, fun a ha => ?_⟩
        obtain ⟨na, ha'⟩ := upd_none ha
        have hna : H a = none := by
          cases e : H a with
          | none => rfl
          | some o => rw [(kp' a o e).1] at ha'; cases ha'
        have R2 := R'.upd0 (q := ln) (o := .ins Z.N dn (lF x)) k2
        refine q _ x L' a ⟨⟨dn, by rw [upd_ne na.symm, upd_same]⟩, k2, R2.fresh ha⟩ (fun b o nb e g => ?_) (.of hna) upd_same (R2.free ha)
        obtain ⟨m1, m2⟩ := kp' b o e
        exact ⟨by rw [upd_ne (ne_of_none e hna), upd_ne nb]; exact m1, m2⟩
      · refine iteF ?_
        refine ⟨_, rfl, ?_⟩
        intro x dx nx ndx nex
        refine ⟨x, dx, n, rfl, hn, upd_same, fun H' L' R' kp => ⟨rfl, ?_⟩⟩
        have kp' : ∀ b o, H b = some o → H' b = some o ∧ L'.G b = none := fun b o e => kp b o (by rw [upd_ne (ne_of_none e nx), upd_ne (ne_of_none e ndx)]; exact e) (ne_of_none e nx)
        obtain ⟨dn, hl⟩ := A.ob
        obtain ⟨k1, k2⟩ := kp' ln _ hl
        refine ⟨_, rfl, ln, Z.N, dn, _, rfl, k1, T.cN, T.nN, (by show 1 < 1000; decide), ?_⟩
        rw [lp_side]
        refine ⟨by show 1 ≤ sizeLine; decide, fun a ha => ?_⟩
        obtain ⟨na, ha'⟩ := upd_none ha
        have hna : H a = none := by
          cases e : H a with
          | none => rfl
          | some o => rw [(kp' a o e).1] at ha'; cases ha'
        have R2 := R'.upd0 (q := ln) (o := .ins Z.N dn (lF x)) k2
        refine q _ x L' a ⟨⟨dn, by rw [upd_ne na.symm, upd_same]⟩, k2, R2.fresh ha⟩ (fun b o nb e g => ?_) (.of hna) upd_same (R2.free ha)
        obtain ⟨m1, m2⟩ := kp' b o e
        exact ⟨by rw [upd_ne (ne_of_none e hna), upd_ne nb]; exact m1, m2⟩
    · have st : Sq01.step s (.begin_ n) = (s, Sq01.says (-1)) := if_neg hn
      rw [st] at q
      rw [not_or] at hn
      refine ⟨_, rfl, rfl, _, rfl, ?_⟩
      rw [e1, decide_eq_false hn.1]
      refine iteT ⟨_, rfl, rfl, _, rfl, ?_⟩
      rw [e2, decide_eq_false hn.2]
      refine iteT ⟨1, rfl, fun a ha => ?_⟩
      obtain ⟨dn, hl⟩ := A.ob
      exact q _ p L a ⟨⟨dn, by rw [upd_ne (ne_of_none hl ha)]; exact hl⟩, A.g, A.rep.fresh ha⟩ (Ext.fresh ha).b (.of ha) upd_same (A.rep.free ha)
theorem scL2 : FnScope ["self", "call", "numbers", "what"] ["self", "call", "numbers", "what"] (defScope sL2) := ⟨rfl, rfl, rfl, by decide +kernel, rfl, by decide +kernel, by decide +kernel⟩
theorem ok_l2 {f : Addr} {fd : FuncData} (F : Fun K "answer" "Line.answer" sL2 f fd) (T : Txt K mg Z) (D1 : Mdef P w K mg base 3 Z.N "begin" ["self", "which"] (spL1 Z)) (DA : Def P w K mg base 4 "ask" ["side"] (spAsk Z)) (DP : Def P w K mg base 2 "put" ["side", "number", "last", "what"] (spPut Z)) (DT : Def P w K mg base 5 "take" ["side", "number", "most"] (spTake Z))
    (DS : Def P w K mg base 6 "stop" ["side", "number", "why"] (spStop Z)) (DO : Def P w K mg base 6 "out" ["side", "most"] (spOut Z)) (DC : Def P w K mg base 9 "came" ["side", "what"] (spCame Z)) (DL : Def P w K mg base 4 "still" ["side", "token"] (spStl Z)) (DV : Def P w K mg base 4 "over" ["side"] (spOvr Z)) (DK : Def P w K mg base 2 "look" ["side", "number"] (spLook Z)) (DN : Def P w K mg base 4 "count" ["side"] (spCnt Z)) :
    FnOk P w K mg base CX0 10 f fd ["self", "call", "numbers", "what"] (spL2 Z) := by
  refine F.ok scL2 (fun vs H Q E h => ?_) (fun cdv A outer s0 H vs Q E hr h => ?_)
  · obtain ⟨ln, p, ns, wh, k, s, L, rfl, _⟩ := h; rfl
  · obtain ⟨ln, p, ns, wh, k, s, L, rfl, A, ok, by_, hbk, hfl, hcl, hwl, hns, gns, hwh, gwh, q⟩ := h
    have r2 : Room 2 _ := hr.mono (by decide)
    have r3 : Room 3 _ := hr.mono (by decide)
    have r4 : Room 4 _ := hr.mono (by decide)
    have r5 : Room 5 _ := hr.mono (by decide)
    have r6 : Room 6 _ := hr.mono (by decide)
    have c1 := T.con ("BEGIN", 1) (by decide +kernel)
    have c2 := T.con ("ASK", 2) (by decide +kernel)
    have c3 := T.con ("PUT", 3) (by decide +kernel)
    have c4 := T.con ("TAKE", 4) (by decide +kernel)
    have c5 := T.con ("STOP", 5) (by decide +kernel)
    have c6 := T.con ("OUT", 6) (by decide +kernel)
    have c7 := T.con ("CAME", 7) (by decide +kernel)
    have c8 := T.con ("STILL_desk", 8) (by decide +kernel)
    have c9 := T.con ("OVER", 9) (by decide +kernel)
    have c10 := T.con ("LOOK", 10) (by decide +kernel)
    refine ⟨_, pss_cons (ps_if (pt_cmpR op_eq (pv 1) (pc c1) (nomark _)) (pss_one (ps_ret (pm D1 r3 (pv 0) (pa_cons (pe_ix ix_list (pv 2) pe_int (fun _ _ => rfl)) pa_nil)))) pss_nil)
      (pss_cons (ps_if (pt_cmpR op_eq (pv 1) (pc c2) (nomark _)) (pss_one (ps_ret (pd DA r4 (pa_cons (pe_fld (pv 0) rfl) pa_nil)))) pss_nil)
      (pss_cons (ps_if (pt_cmpR op_eq (pv 1) (pc c3) (nomark _)) (pss_one (ps_ret (pd DP r2 (pa_cons (pe_fld (pv 0) rfl) (pa_cons (pe_ix ix_list (pv 2) pe_int (fun _ _ => rfl)) (pa_cons (pe_ix ix_list (pv 2) pe_int (fun _ _ => rfl)) (pa_cons (pv 3) pa_nil))))))) pss_nil)
      (pss_cons (ps_if (pt_cmpR op_eq (pv 1) (pc c4) (nomark _)) (pss_one (ps_ret (pd DT r5 (pa_cons (pe_fld (pv 0) rfl) (pa_cons (pe_ix ix_list (pv 2) pe_int (fun _ _ => rfl)) (pa_cons (pe_ix ix_list (pv 2) pe_int (fun _ _ => rfl)) pa_nil)))))) pss_nil)
      (pss_cons (ps_if (pt_cmpR op_eq (pv 1) (pc c5) (nomark _)) (pss_one (ps_ret (pd DS r6 (pa_cons (pe_fld (pv 0) rfl) (pa_cons (pe_ix ix_list (pv 2) pe_int (fun _ _ => rfl)) (pa_cons (pe_ix ix_list (pv 2) pe_int (fun _ _ => rfl)) pa_nil)))))) pss_nil)
      (pss_cons (ps_if (pt_cmpR op_eq (pv 1) (pc c6) (nomark _)) (pss_one (ps_ret (pd DO r6 (pa_cons (pe_fld (pv 0) rfl) (pa_cons (pe_ix ix_list (pv 2) pe_int (fun _ _ => rfl)) pa_nil))))) pss_nil)
      (pss_cons (ps_if (pt_cmpR op_eq (pv 1) (pc c7) (nomark _)) (pss_one (ps_ret (pd DC hr (pa_cons (pe_fld (pv 0) rfl) (pa_cons (pv 3) pa_nil))))) pss_nil)
      (pss_cons (ps_if (pt_cmpR op_eq (pv 1) (pc c8) (nomark _)) (pss_one (ps_ret (pd DL r4 (pa_cons (pe_fld (pv 0) rfl) (pa_cons (pe_ix ix_list (pv 2) pe_int (fun _ _ => rfl)) pa_nil))))) pss_nil)
      (pss_cons (ps_if (pt_cmpR op_eq (pv 1) (pc c9) (nomark _)) (pss_one (ps_ret (pd DV r4 (pa_cons (pe_fld (pv 0) rfl) pa_nil)))) pss_nil)
      (pss_cons (ps_if (pt_cmpR op_eq (pv 1) (pc c10) (nomark _)) (pss_one (ps_ret (pd DK r2 (pa_cons (pe_fld (pv 0) rfl) (pa_cons (pe_ix ix_list (pv 2) pe_int (fun _ _ => rfl)) pa_nil))))) pss_nil)
      (pss_one (ps_ret (pd DN r4 (pa_cons (pe_fld (pv 0) rfl) pa_nil))))))))))))), ?_⟩
    obtain ⟨dn, hl⟩ := A.ob
    have R := A.rep
    have qa := q.of A
    have no : ∀ {n m : Nat} {A B : Prop}, n ≠ m → B → if decide (V.int (n : Int) = V.int (m : Int)) = true then A else B := fun {n m A B} ne hB => by
      rw [int_eq, decide_eq_false ne]
      exact iteF hB
    have yes : ∀ {n : Nat} {A B : Prop}, A → if decide (V.int (n : Int) = V.int (n : Int)) = true then A else B := fun {n A B} hA => by
      rw [decide_eq_true rfl]
      exact iteT hA
    cases k with
    | begin_ a =>
      refine ⟨_, rfl, rfl, _, rfl, yes (n := 1) ?_⟩
      exact ⟨_, rfl, ln, dn, _, rfl, hl, ll_m1 _, _, rfl, ns, _, _, _, rfl, rfl, SqL.of hns, atI_nat (j := 0) rfl, ln, p, a, s, L, rfl, A, q⟩
    | ask =>
      refine ⟨_, rfl, rfl, _, rfl, no (n := 2) (m := 1) (by decide) ?_⟩
      refine ⟨_, rfl, rfl, _, rfl, yes (n := 2) ?_⟩
      exact ⟨_, rfl, ln, Z.N, dn, _, _, rfl, hl, T.cN, T.nN, ll_side _, p, s, L, rfl, R, ok, qa⟩
    | put i e b =>
      refine ⟨_, rfl, rfl, _, rfl, no (n := 3) (m := 1) (by decide) ?_⟩
      refine ⟨_, rfl, rfl, _, rfl, no (n := 3) (m := 2) (by decide) ?_⟩
      refine ⟨_, rfl, rfl, _, rfl, yes (n := 3) ?_⟩
      exact ⟨_, rfl, ln, Z.N, dn, _, _, rfl, hl, T.cN, T.nN, ll_side _, _, rfl, ns, _, _, _, rfl, rfl, SqL.of hns, atI_nat (j := 0) rfl, _, rfl, ns, _, _, _, rfl, rfl, SqL.of hns, atI_nat (j := 1) rfl, _, rfl, p, wh, i, e, b, s, L, rfl, R, ok, hwh, gwh, Nat.le_trans hwl (by decide), qa⟩
    | take i m =>
      refine ⟨_, rfl, rfl, _, rfl, no (n := 4) (m := 1) (by decide) ?_⟩
      refine ⟨_, rfl, rfl, _, rfl, no (n := 4) (m := 2) (by decide) ?_⟩
      refine ⟨_, rfl, rfl, _, rfl, no (n := 4) (m := 3) (by decide) ?_⟩
      refine ⟨_, rfl, rfl, _, rfl, yes (n := 4) ?_⟩
      exact ⟨_, rfl, ln, Z.N, dn, _, _, rfl, hl, T.cN, T.nN, ll_side _, _, rfl, ns, _, _, _, rfl, rfl, SqL.of hns, atI_nat (j := 0) rfl, _, rfl, ns, _, _, _, rfl, rfl, SqL.of hns, atI_nat (j := 1) rfl, p, i, m, s, L, rfl, R, ok, by omega, qa⟩
    | halt_ i m =>
      refine ⟨_, rfl, rfl, _, rfl, no (n := 5) (m := 1) (by decide) ?_⟩
      refine ⟨_, rfl, rfl, _, rfl, no (n := 5) (m := 2) (by decide) ?_⟩
      refine ⟨_, rfl, rfl, _, rfl, no (n := 5) (m := 3) (by decide) ?_⟩
      refine ⟨_, rfl, rfl, _, rfl, no (n := 5) (m := 4) (by decide) ?_⟩
      refine ⟨_, rfl, rfl, _, rfl, yes (n := 5) ?_⟩
      exact ⟨_, rfl, ln, Z.N, dn, _, _, rfl, hl, T.cN, T.nN, ll_side _, _, rfl, ns, _, _, _, rfl, rfl, SqL.of hns, atI_nat (j := 0) rfl, _, rfl, ns, _, _, _, rfl, rfl, SqL.of hns, atI_nat (j := 1) rfl, p, i, m, s, L, rfl, R, ok, by omega, qa⟩
    | out m =>
      refine ⟨_, rfl, rfl, _, rfl, no (n := 6) (m := 1) (by decide) ?_⟩
      refine ⟨_, rfl, rfl, _, rfl, no (n := 6) (m := 2) (by decide) ?_⟩
      refine ⟨_, rfl, rfl, _, rfl, no (n := 6) (m := 3) (by decide) ?_⟩
      refine ⟨_, rfl, rfl, _, rfl, no (n := 6) (m := 4) (by decide) ?_⟩
      refine ⟨_, rfl, rfl, _, rfl, no (n := 6) (m := 5) (by decide) ?_⟩
      refine ⟨_, rfl, rfl, _, rfl, yes (n := 6) ?_⟩
      exact ⟨_, rfl, ln, Z.N, dn, _, _, rfl, hl, T.cN, T.nN, ll_side _, _, rfl, ns, _, _, _, rfl, rfl, SqL.of hns, atI_nat (j := 0) rfl, p, m, s, L, rfl, R, ok, by omega, qa⟩
    | came b =>
      refine ⟨_, rfl, rfl, _, rfl, no (n := 7) (m := 1) (by decide) ?_⟩
      refine ⟨_, rfl, rfl, _, rfl, no (n := 7) (m := 2) (by decide) ?_⟩
      refine ⟨_, rfl, rfl, _, rfl, no (n := 7) (m := 3) (by decide) ?_⟩
      refine ⟨_, rfl, rfl, _, rfl, no (n := 7) (m := 4) (by decide) ?_⟩
      refine ⟨_, rfl, rfl, _, rfl, no (n := 7) (m := 5) (by decide) ?_⟩
      refine ⟨_, rfl, rfl, _, rfl, no (n := 7) (m := 6) (by decide) ?_⟩
      refine ⟨_, rfl, rfl, _, rfl, yes (n := 7) ?_⟩
      have hwl : b.length ≤ 17000 := hwl
      exact ⟨_, rfl, ln, Z.N, dn, _, _, rfl, hl, T.cN, T.nN, ll_side _, _, rfl, p, wh, b, s, L, rfl, R, ok, by_, hwh, gwh, hbk, by omega, hfl, qa⟩
    | still m =>
      refine ⟨_, rfl, rfl, _, rfl, no (n := 8) (m := 1) (by decide) ?_⟩
      refine ⟨_, rfl, rfl, _, rfl, no (n := 8) (m := 2) (by decide) ?_⟩
      refine ⟨_, rfl, rfl, _, rfl, no (n := 8) (m := 3) (by decide) ?_⟩
      refine ⟨_, rfl, rfl, _, rfl, no (n := 8) (m := 4) (by decide) ?_⟩
      refine ⟨_, rfl, rfl, _, rfl, no (n := 8) (m := 5) (by decide) ?_⟩
      refine ⟨_, rfl, rfl, _, rfl, no (n := 8) (m := 6) (by decide) ?_⟩
      refine ⟨_, rfl, rfl, _, rfl, no (n := 8) (m := 7) (by decide) ?_⟩
      refine ⟨_, rfl, rfl, _, rfl, yes (n := 8) ?_⟩
      exact ⟨_, rfl, ln, Z.N, dn, _, _, rfl, hl, T.cN, T.nN, ll_side _, _, rfl, ns, _, _, _, rfl, rfl, SqL.of hns, atI_nat (j := 0) rfl, p, m, s, L, rfl, R, by omega, qa⟩
    | over =>
      refine ⟨_, rfl, rfl, _, rfl, no (n := 9) (m := 1) (by decide) ?_⟩
      refine ⟨_, rfl, rfl, _, rfl, no (n := 9) (m := 2) (by decide) ?_⟩
      refine ⟨_, rfl, rfl, _, rfl, no (n := 9) (m := 3) (by decide) ?_⟩
      refine ⟨_, rfl, rfl, _, rfl, no (n := 9) (m := 4) (by decide) ?_⟩
      refine ⟨_, rfl, rfl, _, rfl, no (n := 9) (m := 5) (by decide) ?_⟩
      refine ⟨_, rfl, rfl, _, rfl, no (n := 9) (m := 6) (by decide) ?_⟩
      refine ⟨_, rfl, rfl, _, rfl, no (n := 9) (m := 7) (by decide) ?_⟩
      refine ⟨_, rfl, rfl, _, rfl, no (n := 9) (m := 8) (by decide) ?_⟩
      refine ⟨_, rfl, rfl, _, rfl, yes (n := 9) ?_⟩
      exact ⟨_, rfl, ln, Z.N, dn, _, _, rfl, hl, T.cN, T.nN, ll_side _, p, s, L, rfl, R, ok, by omega, qa⟩
    | look i =>
      refine ⟨_, rfl, rfl, _, rfl, no (n := 10) (m := 1) (by decide) ?_⟩
      refine ⟨_, rfl, rfl, _, rfl, no (n := 10) (m := 2) (by decide) ?_⟩
      refine ⟨_, rfl, rfl, _, rfl, no (n := 10) (m := 3) (by decide) ?_⟩
      refine ⟨_, rfl, rfl, _, rfl, no (n := 10) (m := 4) (by decide) ?_⟩
      refine ⟨_, rfl, rfl, _, rfl, no (n := 10) (m := 5) (by decide) ?_⟩
      refine ⟨_, rfl, rfl, _, rfl, no (n := 10) (m := 6) (by decide) ?_⟩
      refine ⟨_, rfl, rfl, _, rfl, no (n := 10) (m := 7) (by decide) ?_⟩
      refine ⟨_, rfl, rfl, _, rfl, no (n := 10) (m := 8) (by decide) ?_⟩
      refine ⟨_, rfl, rfl, _, rfl, no (n := 10) (m := 9) (by decide) ?_⟩
      refine ⟨_, rfl, rfl, _, rfl, yes (n := 10) ?_⟩
      exact ⟨_, rfl, ln, Z.N, dn, _, _, rfl, hl, T.cN, T.nN, ll_side _, _, rfl, ns, _, _, _, rfl, rfl, SqL.of hns, atI_nat (j := 0) rfl, p, i, s, L, rfl, R, ok, qa⟩
    | count =>
      refine ⟨_, rfl, rfl, _, rfl, no (n := 11) (m := 1) (by decide) ?_⟩
      refine ⟨_, rfl, rfl, _, rfl, no (n := 11) (m := 2) (by decide) ?_⟩
      refine ⟨_, rfl, rfl, _, rfl, no (n := 11) (m := 3) (by decide) ?_⟩
      refine ⟨_, rfl, rfl, _, rfl, no (n := 11) (m := 4) (by decide) ?_⟩
      refine ⟨_, rfl, rfl, _, rfl, no (n := 11) (m := 5) (by decide) ?_⟩
      refine ⟨_, rfl, rfl, _, rfl, no (n := 11) (m := 6) (by decide) ?_⟩
      refine ⟨_, rfl, rfl, _, rfl, no (n := 11) (m := 7) (by decide) ?_⟩
      refine ⟨_, rfl, rfl, _, rfl, no (n := 11) (m := 8) (by decide) ?_⟩
      refine ⟨_, rfl, rfl, _, rfl, no (n := 11) (m := 9) (by decide) ?_⟩
      refine ⟨_, rfl, rfl, _, rfl, no (n := 11) (m := 10) (by decide) ?_⟩
      exact ⟨_, rfl, ln, Z.N, dn, _, _, rfl, hl, T.cN, T.nN, ll_side _, p, s, L, rfl, R, ok, qa⟩
end
end Os
set_option linter.all false
set_option maxRecDepth 100000
namespace Os
open PySem PySem.Spec PyProof.Rows L2
open Sq01 (State Exchange Bytes)
abbrev manyTab : List (Int × Int) := [(1, 1), (2, 0), (3, 2), (4, 2), (5, 2), (6, 1), (7, 0), (8, 1), (9, 0), (10, 1), (11, 0)]
/-- the bytes of a call as they stand in the list, with how many there are -/
def rowOf (k : Sq01.Call) : List Nat := if (callNo k).1 = 3 ∨ (callNo k).1 = 7 then (callNo k).2.2.length :: (callNo k).2.2 else []
theorem zs_cons (a : Nat) (l : List Nat) : zs (a :: l) = (a : Int) :: zs l := rfl
theorem zs_app (a b : List Nat) : zs (a ++ b) = zs a ++ zs b := List.map_append ..
theorem zs_len (a : List Nat) : (zs a).length = a.length := List.length_map ..
theorem reads_parts {t l : List Int} {c : List (List Int)} {k : Sq01.Call} (h : Reads t l c k) :
    l = (((callNo k).1 : Nat) : Int) :: (zs (callNo k).2.1 ++ (zs (rowOf k) ++ t)) ∧ tabOf manyTab (((callNo k).1 : Nat) : Int) = some ((callNo k).2.1.length : Int) ∧ ((callNo k).1 = 3 ∨ (callNo k).1 = 7 ∨ (callNo k).2.2 = []) ∧ ByC k ∧ wt k + t.length ≤ l.length := by
  cases h with
  | begin_ a h => exact ⟨rfl, rfl, .inr (.inr rfl), trivial, by simp [wt]; omega⟩
  | ask => exact ⟨rfl, rfl, .inr (.inr rfl), trivial, by simp [wt]; omega⟩
  | put i e b h1 h2 hb => exact ⟨rfl, rfl, .inl rfl, trivial, by simp [wt, zs]; omega⟩
  | take i m h1 h2 => exact ⟨rfl, rfl, .inr (.inr rfl), trivial, by simp [wt]; omega⟩
  | halt i w h1 h2 => exact ⟨rfl, rfl, .inr (.inr rfl), trivial, by simp [wt]; omega⟩
  | out m h => exact ⟨rfl, rfl, .inr (.inr rfl), trivial, by simp [wt]; omega⟩
  | came b hb => exact ⟨rfl, rfl, .inr (.inl rfl), hb, by simp [wt, zs]; omega⟩
  | still k h => exact ⟨rfl, rfl, .inr (.inr rfl), trivial, by simp [wt]; omega⟩
  | over => exact ⟨rfl, rfl, .inr (.inr rfl), trivial, by simp [wt]; omega⟩
  | look i h => exact ⟨rfl, rfl, .inr (.inr rfl), trivial, by simp [wt]; omega⟩
  | count => exact ⟨rfl, rfl, .inr (.inr rfl), trivial, by simp [wt]; omega⟩
def spAns (K : PySem.W.Frag) : Sp := fun vs H Q _ => ∃ (a : Addr) (ns out : List Int) (n : Nat), vs = [.ref a] ∧ SqL K H a (ns.map V.int) ∧ ns.length ≤ 16000 ∧ Run (Sq01.begun 1) ns out n ∧ n < 1001000 ∧ ∀ (H' : Hp) (p : Addr), H' p = some (.lst (out.map V.int)) → Q (.ref p) H'
theorem iv_zs (l : List Nat) : (zs l).map V.int = iv l := iv_ints l
/-- how things stand when the calls up to j were done -/
structure At (Z : Cs) (H : Hp) (ln ad : Addr) (ns out : List Int) (j : Nat) (H' : Hp) (p : Addr) (L : Lay) (s : State) (done rest : List Int) (n : Nat) : Prop where
  le : j ≤ ns.length
  line : LineAt Z H' ln s p L
  keep : ∀ b o, H b = some o → H' b = some o ∧ L.G b = none
  had : H' ad = some (.lst (done.map V.int))
  gad : L.G ad = none
  ok : Ok s
  by_ : By s
  run : Run s (ns.drop j) rest n
  out : out = done ++ rest
  fl : s.first.length + 65 * s.came.length ≤ 65 * j
section
variable {P : Program} {w : World} {K : PySem.W.Frag} {mg : Str → Option Value} {base : Heap} {Z : Cs}
theorem scAns : FnScope ["calls", "line", "answered", "at", "call", "behind", "numbers", "what", "told"] ["calls"] (defScope sAns) := ⟨rfl, rfl, rfl, by decide +kernel, rfl, by decide +kernel, by decide +kernel⟩
theorem ok_ans {f : Addr} {fd : FuncData} (F : Fun K "answers" "answers" sAns f fd) (T : Txt K mg Z) (D0 : Made P w K mg base 3 "Line" Z.N ["self"] (spL0 Z)) (D2 : Mdef P w K mg base 10 Z.N "answer" ["self", "call", "numbers", "what"] (spL2 Z)) : FnOk P w K mg base CX0 11 f fd ["calls"] (spAns K) := by
  refine F.ok scAns (fun vs H Q E h => ?_) (fun cdv A outer s0 H vs Q E hr h => ?_)
  · obtain ⟨a, ns, out, n, rfl, _⟩ := h; rfl
  · obtain ⟨a, ns, out, n, rfl, hS, hlen, run, hn, q⟩ := h
    have r4 : Room 4 _ := hr.mono (by decide)
    have c3 := T.con ("PUT", 3) (by decide +kernel)
    have c7 := T.con ("CAME", 7) (by decide +kernel)
    refine ⟨_, pss_cons (ps_set (i := 1) scAns.nd rfl (Or.inl rfl) (pk0 D0 r4))
      (pss_cons (ps_set (i := 2) scAns.nd rfl (Or.inl rfl) (pe_lst pa_nil))
      (pss_cons (ps_set (i := 3) scAns.nd rfl (Or.inl rfl) pe_int)
      (pss_cons (ps_while PassesOwn.never (pt_cmpR op_lt (pv 3) (pe_callB call_len_seq (by rfl) T.len PySem.boot_len (pa_cons (pv 0) pa_nil)) (nomark _))
        (pss_cons (ps_set (i := 4) scAns.nd rfl (Or.inl rfl) (pe_ix ix_list (pv 0) (pv 3) (fun _ _ => rfl)))
        (pss_cons (ps_set (i := 5) scAns.nd rfl (Or.inl rfl) (pe_op op_add (pe_op op_add (pv 3) pe_int) (pe_md T.many (pv 4) (fun _ _ => rfl))))
        (pss_cons (ps_set (i := 6) scAns.nd rfl (Or.inl rfl) (pe_slice sl_list (pv 0) (po_some (pe_op op_add (pv 3) pe_int)) (po_some (pv 5))))
        (pss_cons (ps_set (i := 7) scAns.nd rfl (Or.inl rfl) (pe_lst pa_nil))
        (pss_cons (ps_mid (ps_if (pt_cmpR op_in_seq (pv 4) (pe_tup (pa_cons (pc c3) (pa_cons (pc c7) pa_nil))) rfl)
          (pss_cons (ps_set (i := 7) scAns.nd rfl (Or.inl rfl) (pe_slice sl_list (pv 0) (po_some (pe_op op_add (pv 5) pe_int)) (po_some (pe_op op_add (pe_op op_add (pv 5) pe_int) (pe_ix ix_list (pv 0) (pv 5) (fun _ _ => rfl))))))
          (pss_one (ps_set (i := 5) scAns.nd rfl (Or.inl rfl) (pe_op op_add (pe_op op_add (pv 5) pe_int) (pe_callB call_len_seq (by rfl) T.len PySem.boot_len (pa_cons (pv 7) pa_nil)))))) pss_nil))
        (pss_cons (ps_set (i := 8) scAns.nd rfl (Or.inl rfl) (pm D2 hr (pv 1) (pa_cons (pv 4) (pa_cons (pv 6) (pa_cons (pv 7) pa_nil)))))
        (pss_cons (ps_expr (pappend (pv 2) (pa_cons (pe_callB call_len_seq (by rfl) T.len PySem.boot_len (pa_cons (pv 8) pa_nil)) pa_nil)))
        (pss_cons (ps_expr (pextend (pv 2) (pa_cons (pv 8) pa_nil)))
        (pss_one (ps_set (i := 3) scAns.nd rfl (Or.inl rfl) (pv 5))))))))))))
      (pss_one (ps_ret (pv 2)))))), ?_⟩
    -- line = Line()
    intro ln dn nln ndn nen
    refine ⟨ln, dn, rfl, upd_same, fun H1 p1 L1 A1 kp1 => ⟨rfl, ?_⟩⟩
    have kp : ∀ b o, H b = some o → H1 b = some o ∧ L1.G b = none := fun b o e => kp1 b o (by rw [upd_ne (ne_of_none e nln), upd_ne (ne_of_none e ndn)]; exact e) (ne_of_none e nln)
    have olen := told_len run
    -- answered = []
    refine ⟨Nat.zero_le _, fun ad had => ?_⟩
    have had0 : H ad = none := by
      cases e : H ad with
      | none => rfl
      | some o => rw [(kp ad o e).1] at had; cases had
    have hlad : ln ≠ ad := by
      obtain ⟨dn', h⟩ := A1.ob
      exact ne_of_none h had
    have At0 : At Z H ln ad ns out 0 (upd H1 ad (.lst [])) p1 L1 (Sq01.begun 1) [] out n := by
      obtain ⟨dn', h⟩ := A1.ob
      refine ⟨Nat.zero_le _, ⟨⟨dn', by rw [upd_ne hlad]; exact h⟩, A1.g, A1.rep.fresh had⟩, fun b o e => ?_, upd_same, A1.rep.free had, Ok.begun (.inl rfl), (fun c hc => by cases hc), run, rfl, Nat.le_refl _⟩
      obtain ⟨e1, e2⟩ := kp b o e
      exact ⟨by rw [upd_ne (ne_of_none e had0)]; exact e1, e2⟩
    refine ⟨fun m σ H' => ∃ (j : Nat) (v4 v5 v6 v7 v8 : Option V) (p : Addr) (L : Lay) (s : State) (done rest : List Int) (n' : Nat), m = ns.length - j ∧ σ = [some (.ref a), some (.ref ln), some (.ref ad), some (.int (j : Int)), v4, v5, v6, v7, v8] ∧ At Z H ln ad ns out j H' p L s done rest n',
      ⟨_, 0, none, none, none, none, none, p1, L1, Sq01.begun 1, [], out, n, rfl, rfl, At0⟩, ?_⟩
    rintro m σ H2 ⟨j, v4, v5, v6, v7, v8, p, L, s, done, rest, n', rfl, rfl, I⟩
    have S2 : Same H H2 := fun b o e => (I.keep b o e).1
    have hS2 := S2.seq hS
    have hml : (ns.map V.int).length = ns.length := List.length_map ..
    refine ⟨_, rfl, _, rfl, a, _, rfl, .inl hS2, _, _, rfl, rfl, _, rfl, ?_⟩
    rw [hml]
    refine ite2 (fun hc => ?_) (fun hc => ?_)
    rotate_left
    · -- all is done
      have hc : ¬ (j : Int) < (ns.length : Int) := fun z => hc (decide_eq_true z)
      have e0 : ns.drop j = [] := List.drop_of_length_le (by omega)
      have hrun := I.run
      rw [e0] at hrun
      have er : rest = [] := by cases hrun with
        | done => rfl
        | call h r => cases h
      have eo := I.out
      rw [er, List.append_nil] at eo
      refine ⟨_, rfl, q H2 ad ?_⟩
      rw [eo]
      exact I.had
    · have hc : (j : Int) < (ns.length : Int) := of_decide_eq_true hc
      have hjl : j < ns.length := by omega
      have hrun := I.run
      have hne : ns.drop j ≠ [] := fun z => by
        have := congrArg List.length z
        rw [List.length_drop] at this
        simp at this
        omega
      obtain ⟨t, c, k, out2, n2, hrd, hr2, er, en⟩ : ∃ (t : List Int) (c : List (List Int)) (k : Sq01.Call) (out2 : List Int) (n2 : Nat), Reads t (ns.drop j) c k ∧ Run (Sq01.step s k).1 t out2 n2 ∧ rest = ((1 + (Sq01.step s k).2.out.length : Nat) : Int) :: (Sq01.step s k).2.value :: (zs (Sq01.step s k).2.out ++ out2) ∧ n' = n2 + 2 + (Sq01.step s k).2.out.length := by
        generalize ns.drop j = d at hrun hne
        cases hrun with
        | done => exact absurd rfl hne
        | call h r => exact ⟨_, _, _, _, _, h, r, rfl, rfl⟩
      obtain ⟨el, etab, hwh, hbk, hwt⟩ := reads_parts hrd
      have dl : (ns.drop j).length = ns.length - j := List.length_drop
      have fl2 := step_fl I.ok k
      have ok2 := I.ok.step k
      have by2 := step_by I.ok I.by_ hbk
      generalize hcno : callNo k = cn at el etab hwh
      obtain ⟨cno, args, what⟩ := cn
      dsimp only at el etab hwh
      -- the list's numbers by their places
      have hal : ns.length - j = 1 + args.length + ((rowOf k).length + t.length) := by
        rw [← dl, el, List.length_cons, List.length_append, List.length_append, zs_len, zs_len]; omega
      have hat : (ns.map V.int)[j]? = some (V.int (cno : Int)) := by
        rw [List.getElem?_map]
        have : ns[j]? = (ns.drop j)[0]? := by rw [List.getElem?_drop]; rfl
        rw [this, el]
        rfl
      have hd1 : ns.drop (j + 1) = zs args ++ (zs (rowOf k) ++ t) := by
        rw [← List.drop_drop, el]; rfl
      have hd2 : ns.drop (j + 1 + args.length) = zs (rowOf k) ++ t := by
        rw [← List.drop_drop, hd1, List.drop_append_of_le_length (by rw [zs_len]; exact Nat.le_refl _), List.drop_of_length_le (by rw [zs_len]; exact Nat.le_refl _), List.nil_append]
      have hjn : j + 1 + args.length + (rowOf k).length ≤ ns.length := by omega
      refine ⟨fun σ' H' => ∃ m', m' < ns.length - j ∧ ∃ (j' : Nat) (v4 v5 v6 v7 v8 : Option V) (p : Addr) (L : Lay) (s : State) (done rest : List Int) (n' : Nat), m' = ns.length - j' ∧ σ' = [some (.ref a), some (.ref ln), some (.ref ad), some (.int (j' : Int)), v4, v5, v6, v7, v8] ∧ At Z H ln ad ns out j' H' p L s done rest n', fun σ' H' h => h, ?_⟩
      -- call = calls[at]
      refine ⟨_, rfl, _, rfl, a, _, _, _, rfl, rfl, hS2, atI_nat hat, ?_⟩
      -- behind = at + 1 + HOW_MANY_NUMBERS[call]
      refine ⟨_, rfl, _, _, rfl, rfl, _, rfl, (cno : Int), (args.length : Int), rfl, etab, _, _, rfl, rfl, ?_⟩
      -- numbers = calls[at + 1:behind]
      refine ⟨_, rfl, _, rfl, _, _, rfl, rfl, _, rfl, _, rfl, _, rfl, a, _, rfl, hS2, fun nb hnb => ?_⟩
      have ecut : cutV (ns.map V.int) (some ((j : Int) + 1)) (some ((j : Int) + 1 + (args.length : Int))) = iv args := by
        refine (cut_mid (ns.map V.int) (j + 1) (j + 1 + args.length) (by omega) (by rw [hml]; omega)).trans ?_
        rw [← List.map_drop, hd1, List.map_append, iv_zs, show j + 1 + args.length - (j + 1) = (iv args).length by rw [iv_len]; omega, List.take_left]
      rw [ecut]
      -- what = []
      refine ⟨Nat.zero_le _, fun wb hwb => ?_⟩
      have S3 : Same H2 (upd H2 nb (.lst (iv args))) := Same.fresh hnb
      have S4 : Same H2 (upd (upd H2 nb (.lst (iv args))) wb (.lst [])) := S3.trans (Same.fresh hwb)
      have gnb : L.G nb = none := I.line.rep.free hnb
      have gwb : L.G wb = none := (I.line.rep.same S3).free hwb
      have hnb4 : (upd (upd H2 nb (.lst (iv args))) wb (.lst [])) nb = some (.lst (iv args)) := by rw [upd_ne (upd_none hwb).1.symm, upd_same]
      generalize hH4 : upd (upd H2 nb (.lst (iv args))) wb (.lst []) = H4 at S4 hnb4
      have hwb4 : H4 wb = some (.lst []) := by rw [← hH4, upd_same]
      have hS4 := (S2.trans S4).seq hS
      have R4 := I.line.rep.same S4
      -- if call in (PUT, CAME)
      refine ⟨fun σ' H' => ∃ (bh : Int) (wb' : Addr), σ' = [some (.ref a), some (.ref ln), some (.ref ad), some (.int (j : Int)), some (.int (cno : Int)), some (.int bh), some (.ref nb), some (.ref wb'), v8] ∧ bh = ((j + 1 + args.length + (rowOf k).length : Nat) : Int) ∧ Same H4 H' ∧ H' wb' = some (.lst (iv what)) ∧ L.G wb' = none,
        ⟨_, rfl, by show 2 ≤ sizeLine; decide, fun tp htp => ⟨tp, _, rfl, .inr (SqT.of upd_same), rfl, rfl, _, rfl, ?_⟩⟩, ?_⟩
      · have ein : inV (V.int (cno : Int)) [V.int 3, V.int 7] = decide (cno = 3 ∨ cno = 7) := by
          show ((3 : Int) == (cno : Int) || ((7 : Int) == (cno : Int) || false)) = _
          by_cases z3 : cno = 3
          · subst z3; rfl
          · by_cases z7 : cno = 7
            · subst z7; rfl
            · rw [beq_eq_false_iff_ne.mpr (by omega), beq_eq_false_iff_ne.mpr (by omega), decide_eq_false (by omega)]
              rfl
        show if inV (V.int (cno : Int)) [V.int 3, V.int 7] = true then _ else _
        rw [ein]
        have S5 : Same H4 (upd H4 tp (.tup [V.int 3, V.int 7])) := Same.fresh htp
        have hS5 := ((S2.trans S4).trans S5).seq hS
        have hrow : rowOf k = if cno = 3 ∨ cno = 7 then what.length :: what else [] := by unfold rowOf; rw [hcno]
        refine ite2 (fun h37 => ?_) (fun h37 => ?_)
        · have h37 : cno = 3 ∨ cno = 7 := of_decide_eq_true h37
          rw [if_pos h37] at hrow
          have hat2 : (ns.map V.int)[j + 1 + args.length]? = some (V.int (what.length : Int)) := by
            rw [List.getElem?_map]
            have : ns[j + 1 + args.length]? = (ns.drop (j + 1 + args.length))[0]? := by rw [List.getElem?_drop]; rfl
            rw [this, hd2, hrow]
            rfl
          have hrl : (rowOf k).length = what.length + 1 := by rw [hrow]; rfl
          refine ⟨_, rfl, _, rfl, _, _, rfl, rfl, _, rfl, _, rfl, _, _, rfl, rfl, _, rfl, _, rfl, a, _, _, _, rfl, rfl, hS5, atI_nat (j := j + 1 + args.length) hat2, _, _, rfl, rfl, _, rfl, a, _, rfl, hS5, fun wb2 hwb2 => ?_⟩
          have ecut2 : cutV (ns.map V.int) (some ((j : Int) + 1 + (args.length : Int) + 1)) (some ((j : Int) + 1 + (args.length : Int) + 1 + (what.length : Int))) = iv what := by
            refine (cut_mid (ns.map V.int) (j + 1 + args.length + 1) (j + 1 + args.length + 1 + what.length) (by omega) (by rw [hml]; omega)).trans ?_
            have hd3 : ns.drop (j + 1 + args.length + 1) = zs what ++ t := by
              rw [← List.drop_drop, hd2, hrow]; rfl
            rw [← List.map_drop, hd3, List.map_append, iv_zs, show j + 1 + args.length + 1 + what.length - (j + 1 + args.length + 1) = (iv what).length by rw [iv_len]; omega, List.take_left]
          rw [ecut2]
          refine ⟨_, rfl, _, _, rfl, rfl, _, rfl, wb2, _, rfl, .inl (SqL.of upd_same), _, _, rfl, rfl, ?_⟩
          refine ⟨_, wb2, rfl, ?_, S5.trans (Same.fresh hwb2), upd_same, (R4.same S5).free hwb2⟩
          rw [iv_len, hrl]
          omega
        · have h37 : ¬ (cno = 3 ∨ cno = 7) := fun z => h37 (decide_eq_true z)
          rw [if_neg h37] at hrow
          have ew : what = [] := by
            rcases hwh with z | z | z
            · exact absurd (.inl z) h37
            · exact absurd (.inr z) h37
            · exact z
          refine ⟨_, wb, rfl, ?_, S5, ?_, gwb⟩
          · rw [hrow]
            rfl
          · rw [ew]
            exact S5 _ _ hwb4
      rintro σ5 H5 ⟨bh, wb', rfl, rfl, S5, hwb5, gwb5⟩
      have S25 := S4.trans S5
      have A5 : LineAt Z H5 ln s p L := by
        obtain ⟨dn', h⟩ := I.line.ob
        exact ⟨⟨dn', S25 _ _ h⟩, I.line.g, I.line.rep.same S25⟩
      obtain ⟨dn', hln5⟩ := A5.ob
      have hfl := I.fl
      -- told = line.answer(call, numbers, what)
      refine ⟨_, rfl, ln, dn', _, rfl, hln5, ll_m2 _, _, rfl, _, rfl, _, rfl, ln, p, nb, wb', k, s, L, (by rw [hcno]; rfl), A5, I.ok, I.by_, hbk, by omega, by omega, ?_, (by rw [hcno]; exact S5 _ _ hnb4), gnb, (by rw [hcno]; exact hwb5), gwb5, fun H6 p6 L6 q6 A6 E6 n6 h6 g6 => ?_⟩
      · rw [hcno]
        dsimp only
        have hrow : rowOf k = if cno = 3 ∨ cno = 7 then what.length :: what else [] := by unfold rowOf; rw [hcno]
        rcases hwh with z | z | z
        · rw [if_pos (.inl z)] at hrow
          rw [hrow] at hal
          simp at hal
          omega
        · rw [if_pos (.inr z)] at hrow
          rw [hrow] at hal
          simp at hal
          omega
        · rw [z]; exact Nat.zero_le _
      obtain ⟨had6, gad6⟩ := E6 ad _ hlad.symm (S25 _ _ I.had) I.gad
      have hqad : q6 ≠ ad := fun z => n6 _ (by rw [z]; exact S25 _ _ I.had) (by rw [z]; exact I.gad)
      have eo := I.out
      have hol : out.length = done.length + rest.length := by rw [eo, List.length_append]
      have hrl2 : rest.length = 2 + (Sq01.step s k).2.out.length + out2.length := by
        rw [er, List.length_cons, List.length_cons, List.length_append, zs_len]; omega
      generalize hstp : Sq01.step s k = sr at *
      -- answered.append(len(told))
      refine ⟨_, rfl, .inl ⟨rfl, _, SqL.of had6⟩, _, rfl, q6, _, rfl, .inl (SqL.of h6), ad, _, _, rfl, rfl, had6, ?_, ?_⟩
      · rw [List.length_map]
        exact Nat.lt_of_lt_of_le (show _ < 9000000 by omega) (fits (by decide))
      -- answered.extend(told)
      refine ⟨_, rfl, .inl ⟨rfl, _, SqL.of upd_same⟩, _, rfl, ad, q6, _, _, rfl, rfl, upd_same, (by rw [upd_ne hqad]; exact h6), ?_, ?_⟩
      · simp only [List.length_append, List.length_map, List.length_cons, List.length_nil, iv_len]
        exact fits (by omega)
      rw [upd2]
      -- at = behind
      refine ⟨_, rfl, ?_⟩
      refine ⟨ns.length - (j + 1 + args.length + (rowOf k).length), by omega, j + 1 + args.length + (rowOf k).length, _, _, _, _, _, p6, L6, sr.1, done ++ ((1 + sr.2.out.length : Nat) : Int) :: sr.2.value :: zs sr.2.out, out2, n2, rfl, rfl, ?_⟩
      obtain ⟨dn6, hln6⟩ := A6.ob
      refine ⟨hjn, ⟨⟨dn6, by rw [upd_ne hlad]; exact hln6⟩, A6.g, A6.rep.upd0 gad6⟩, fun b o e => ?_, ?_, gad6, ok2, by2, ?_, ?_, ?_⟩
      · obtain ⟨e1, e2⟩ := I.keep b o e
        obtain ⟨e3, e4⟩ := E6 b o (ne_of_none e nln) (S25 _ _ e1) e2
        exact ⟨by rw [upd_ne (ne_of_none e had0)]; exact e3, e4⟩
      · rw [upd_same, List.map_append]
        congr 2
        rw [List.append_assoc]
        congr 1
        show V.int ((V.int sr.2.value :: iv sr.2.out).length : Int) :: (V.int sr.2.value :: iv sr.2.out) = V.int ((1 + sr.2.out.length : Nat) : Int) :: V.int sr.2.value :: (zs sr.2.out).map V.int
        rw [List.length_cons, iv_len, iv_zs, Nat.add_comm]
      · have hdt : ns.drop (j + 1 + args.length + (rowOf k).length) = t := by
          rw [← List.drop_drop, hd2, List.drop_append_of_le_length (by rw [zs_len]; exact Nat.le_refl _), List.drop_of_length_le (by rw [zs_len]; exact Nat.le_refl _), List.nil_append]
        rw [hdt]
        exact hr2
      · rw [eo, er, List.append_assoc]
        rfl
      · have fl3 : sr.1.first.length + 65 * sr.1.came.length ≤ s.first.length + 65 * s.came.length + 65 * wt k := fl2
        rw [dl] at hwt
        show sr.1.first.length + 65 * sr.1.came.length ≤ 65 * (j + 1 + args.length + (rowOf k).length)
        omega
end
end Os
set_option linter.all false
set_option maxRecDepth 100000
/-! What the top has written, put together. -/
namespace Os
open PySem PySem.Spec PyProof.Rows L2
section
variable {P : Program} {w : World} {K : PySem.W.Frag} {mg : Str → Option Value} {base h : Heap}
def DefIn (K : PySem.W.Frag) (mg : Str → Option Value) (x qual : Str) (st : Stmt) : Prop := ∃ f fd, Fun K x qual st f fd ∧ mg x = some (.ref f) ∧ PySem.W.keepIn K (.ref f) = true
def MethIn (K : PySem.W.Frag) (C : Addr) (m qual : Str) (st : Stmt) : Prop := ∃ f fd, Fun K m qual st f fd ∧ Meth K C m f
def MadeIn (K : PySem.W.Frag) (mg : Str → Option Value) (x : Str) (C : Addr) (qual : Str) (st : Stmt) : Prop := ∃ f fd, Fun K "__init__" qual st f fd ∧ Mk K C f ∧ mg x = some (.ref C)
def MadeOf (K : PySem.W.Frag) (C : Addr) (qual : Str) (st : Stmt) : Prop := ∃ f fd, Fun K "__init__" qual st f fd ∧ Mk K C f
theorem MadeOf.in_ {x qual : Str} {C : Addr} {st : Stmt} (D : MadeOf K C qual st) (h : mg x = some (.ref C)) : MadeIn K mg x C qual st := by
  obtain ⟨f, fd, F, m⟩ := D
  exact ⟨f, fd, F, m, h⟩
theorem def_mk {x qual : Str} {st : Stmt} {f : Addr} {oc : Value} {od an : Option Addr} {osl : Array (Option Value)} {kV doc pm cdv ct : Value} (X : K.In h) (G : h.Ns mainGlobals mg) (a : PySem.W.nsIn K mainGlobals x = some (some (.ref f)))
    (l : K.lookup f = some ⟨oc, od, .func (PySem.W.fnOf x qual (defArgs st) (defBody st) (defScope st) .none kV doc pm an cdv ct), osl⟩) (c : PySem.W.codeIn K cdv qual = true) (k : PySem.W.keepIn K (.ref f) = true) : DefIn K mg x qual st :=
  ⟨f, _, fun_mk l c k, PySem.W.mg_of X G a, k⟩
theorem meth_mk {C : Addr} {x qual : Str} {st : Stmt} {f : Addr} {oc : Value} {od an : Option Addr} {osl : Array (Option Value)} {kV doc pm cdv ct : Value} (a : PySem.W.findIn K (.ref C) x = some (some (.ref f))) (i : PySem.W.isFn K (.ref f) = true)
    (l : K.lookup f = some ⟨oc, od, .func (PySem.W.fnOf x qual (defArgs st) (defBody st) (defScope st) .none kV doc pm an cdv ct), osl⟩) (c : PySem.W.codeIn K cdv qual = true) (k : PySem.W.keepIn K (.ref f) = true) : MethIn K C x qual st :=
  ⟨f, _, fun_mk l c k, a, i, k⟩
theorem made_mk {C : Addr} {qual : Str} {st : Stmt} {f : Addr} {oc : Value} {od an : Option Addr} {osl : Array (Option Value)} {kV doc pm cdv ct : Value} (a : PySem.W.findIn K (.ref C) "__init__" = some (some (.ref f))) (i : PySem.W.isFn K (.ref f) = true)
    (l : K.lookup f = some ⟨oc, od, .func (PySem.W.fnOf "__init__" qual (defArgs st) (defBody st) (defScope st) .none kV doc pm an cdv ct), osl⟩) (c : PySem.W.codeIn K cdv qual = true) (k : PySem.W.keepIn K (.ref f) = true) (m : PySem.W.makesIn K C = true) (kc : PySem.W.keepIn K (.ref C) = true) : MadeOf K C qual st :=
  ⟨f, _, fun_mk l c k, ⟨m, a, i, kc⟩⟩
section
variable {x qual m : Str} {st : Stmt} {k : Nat} {ps : List Str} {sp : Sp} {C : Addr}
theorem DefIn.to (D : DefIn K mg x qual st) (ok : ∀ f fd, Fun K x qual st f fd → FnOk P w K mg base CX0 k f fd ps sp)
    (hb : ∀ (kV doc pm : Value) (an : Option Addr) (cdv ct : Value) (us : List Value), us.length = ps.length → bindArgs (PySem.W.fnOf x qual (defArgs st) (defBody st) (defScope st) .none kV doc pm an cdv ct) ⟨us, []⟩ = pure (ps.zip us)) : Def P w K mg base k x ps sp := by
  obtain ⟨f, fd, F, hm, hk⟩ := D
  exact ⟨f, fd, ok f fd F, hm, hk, F.binds hb⟩
theorem MethIn.to (c : Cls K C) (D : MethIn K C m qual st) (ok : ∀ f fd, Fun K m qual st f fd → FnOk P w K mg base CX0 k f fd ps sp)
    (hb : ∀ (kV doc pm : Value) (an : Option Addr) (cdv ct : Value) (us : List Value), us.length = ps.length → bindArgs (PySem.W.fnOf m qual (defArgs st) (defBody st) (defScope st) .none kV doc pm an cdv ct) ⟨us, []⟩ = pure (ps.zip us)) : Mdef P w K mg base k C m ps sp := by
  obtain ⟨f, fd, F, hm⟩ := D
  exact ⟨f, fd, ok f fd F, c, hm, F.binds hb⟩
theorem MadeIn.to (D : MadeIn K mg x C qual st) (ok : ∀ f fd, Fun K "__init__" qual st f fd → FnOk P w K mg base CX0 k f fd ps sp)
    (hb : ∀ (kV doc pm : Value) (an : Option Addr) (cdv ct : Value) (us : List Value), us.length = ps.length → bindArgs (PySem.W.fnOf "__init__" qual (defArgs st) (defBody st) (defScope st) .none kV doc pm an cdv ct) ⟨us, []⟩ = pure (ps.zip us)) : Made P w K mg base k x C ps sp := by
  obtain ⟨f, fd, F, hm, hk⟩ := D
  exact ⟨f, fd, ok f fd F, hm, hk, F.binds hb⟩
end
/-! ### a module's dict -/
def mdCheck : List DictEntry → List (Int × Int) → Bool
  | [], [] => true
  | e :: es, p :: tab => (match e.key with | .int k _ => k == p.1 | _ => false) && ((match e.val with | .int v _ => v == p.2 | _ => false) && (e.hash == hashInt p.1 && mdCheck es tab))
  | _, _ => false
theorem md_keys : ∀ {es : List DictEntry} {tab : List (Int × Int)}, mdCheck es tab = true → ∀ e ∈ es, ∃ k t, e.key = Value.int k t ∧ e.hash = hashInt k
  | [], _, _, e, he => nomatch he
  | e0 :: es, [], h, _, _ => nomatch h
  | e0 :: es, p :: tab, h, e, he => by
    unfold mdCheck at h
    rw [Bool.and_eq_true, Bool.and_eq_true, Bool.and_eq_true] at h
    rcases List.mem_cons.mp he with rfl | he
    · cases hk : e.key with
      | int k t =>
        rw [hk] at h
        have e1 : k = p.1 := eq_of_beq h.1
        exact ⟨k, t, rfl, by rw [e1]; exact eq_of_beq h.2.2.1⟩
      | _ => rw [hk] at h; exact absurd h.1 Bool.false_ne_true
    · exact md_keys h.2.2.2 e he
theorem isInt_self (k : Int) (t : Tok) : Value.isInt k (Value.int k t) = true := by simp [Value.isInt]
theorem isInt_ne {k j : Int} {t : Tok} (n : j ≠ k) : Value.isInt k (Value.int j t) = false := by
  cases e : Value.isInt k (Value.int j t) with
  | false => rfl
  | true =>
    obtain ⟨t', z⟩ := Value.isInt_shape (k := k) (v := Value.int j t) e
    injection z with z1 _
    exact absurd z1 n
theorem md_find : ∀ {es : List DictEntry} {tab : List (Int × Int)}, mdCheck es tab = true → ∀ k, match tabOf tab k with
    | some v => ∃ t, ((es.find? fun e => keyIs (Sum.inl k) e.key).map (·.val)) = some (Value.int v t)
    | none => ((es.find? fun e => keyIs (Sum.inl k) e.key).map (·.val)) = none
  | [], [], _, k => rfl
  | [], _ :: _, h, _ => nomatch h
  | _ :: _, [], h, _ => nomatch h
  | e :: es, p :: tab, h, k => by
    unfold mdCheck at h
    rw [Bool.and_eq_true, Bool.and_eq_true, Bool.and_eq_true] at h
    have ih := md_find h.2.2.2 k
    cases hk : e.key with
    | int j t =>
      rw [hk] at h
      have ej : j = p.1 := eq_of_beq h.1
      cases hv : e.val with
      | int v t2 =>
        rw [hv] at h
        have ev : v = p.2 := eq_of_beq h.2.1
        by_cases z : p.1 = k
        · have e1 : tabOf (p :: tab) k = some p.2 := by
            unfold tabOf
            rw [List.find?_cons, beq_iff_eq.mpr z]
            rfl
          rw [e1]
          refine ⟨t2, ?_⟩
          have e2 : keyIs (Sum.inl k) e.key = true := by rw [hk, ej, z]; exact isInt_self k t
          rw [List.find?_cons, e2]
          show some e.val = _
          rw [hv, ev]
        · have e1 : tabOf (p :: tab) k = tabOf tab k := by
            unfold tabOf
            rw [List.find?_cons, beq_eq_false_iff_ne.mpr z]
          have e2 : keyIs (Sum.inl k) e.key = false := by rw [hk, ej]; exact isInt_ne (t := t) z
          rw [e1, List.find?_cons, e2]
          exact ih
      | _ => rw [hv] at h; exact absurd h.2.1 Bool.false_ne_true
    | _ => rw [hk] at h; exact absurd h.1 Bool.false_ne_true
theorem md_mk {a : Addr} {es : Array DictEntry} {ep : Nat} {tab : List (Int × Int)} (l : K.lookup a = some ⟨.type "dict", none, .dict es ep, #[]⟩) (hs : (a == sysModules) = false) (hc : mdCheck es.toList tab = true) : MDict K a tab := by
  refine ⟨_, es, ep, l, ⟨rfl, rfl, rfl⟩, rfl, hs, fun e he => md_keys hc e (by simpa using he), fun k => ?_⟩
  have h := md_find hc k
  unfold findBy
  rw [← Array.find?_toList]
  exact h
theorem mod_mk {x : Str} {a : Addr} {es : Array DictEntry} {ep : Nat} {tab : List (Int × Int)} (X : K.In h) (G : h.Ns mainGlobals mg) (n : PySem.W.nsIn K mainGlobals x = some (some (.ref a))) (l : K.lookup a = some ⟨.type "dict", none, .dict es ep, #[]⟩) (hs : (a == sysModules) = false)
    (hc : mdCheck es.toList tab = true) : ∃ a, mg x = some (.ref a) ∧ MDict K a tab := ⟨a, PySem.W.mg_of X G n, md_mk l hs hc⟩
/-! ### whole numbers, names without a class's attribute -/
def ConAll (K : PySem.W.Frag) : List (Str × Int) → Prop
  | [] => True
  | c :: l => (∃ t, PySem.W.nsIn K mainGlobals c.1 = some (some (.int c.2 t))) ∧ ConAll K l
theorem con_all (X : K.In h) (G : h.Ns mainGlobals mg) : ∀ {l : List (Str × Int)}, ConAll K l → ∀ c ∈ l, Con mg c.1 c.2
  | [], _, c, hc => nomatch hc
  | d :: l, ⟨⟨t, e⟩, q⟩, c, hc => by
    rcases List.mem_cons.mp hc with rfl | hc
    · exact ⟨t, PySem.W.mg_of X G e⟩
    · exact con_all X G q c hc
def NoAll (K : PySem.W.Frag) (C : Addr) : List Str → Prop
  | [] => True
  | f :: l => PySem.W.findIn K (.ref C) f = some none ∧ NoAll K C l
theorem no_all {C : Addr} : ∀ {l : List Str}, NoAll K C l → ∀ f ∈ l, NoAttr K C f
  | [], _, f, hf => nomatch hf
  | d :: l, ⟨e, q⟩, f, hf => by
    rcases List.mem_cons.mp hf with rfl | hf
    · exact e
    · exact no_all q f hf
theorem con_app : ∀ {a b : List (Str × Int)}, ConAll K a → ConAll K b → ConAll K (a ++ b)
  | [], _, _, h => h
  | _ :: _, _, ⟨e, q⟩, h => ⟨e, con_app q h⟩
set_option maxHeartbeats 8000000 in
/-- all defs keep their promises -/
theorem all_ok {Z : Cs} (T : Txt K mg Z) (d_nb : DefIn K mg "number_bytes" "number_bytes" sNB) (d_ref : DefIn K mg "refused" "refused" sRef) (d_fb : DefIn K mg "frame_bytes" "frame_bytes" sFB) (d_df : DefIn K mg "data_frame" "data_frame" sDF) (d_cf : DefIn K mg "credit_frame" "credit_frame" sCF) (d_sf : DefIn K mg "stopped_frame" "stopped_frame" sSF) (d_sa : DefIn K mg "still_asked_frame" "still_asked_frame" sSA) (d_st : DefIn K mg "still_frame" "still_frame" sST) (d_go : DefIn K mg "going_frame" "going_frame" sGO) (d_x0 : MadeIn K mg "Exchange" Z.X "Exchange.__init__" sX0) (d_x1 : MethIn K Z.X "all_came" "Exchange.all_came" sX1) (d_x2 : MethIn K Z.X "nothing_to_do" "Exchange.nothing_to_do" sX2) (d_s0 : MadeIn K mg "Side" Z.S "Side.__init__" sS0) (d_s1 : MethIn K Z.S "add_exchange" "Side.add_exchange" sS1) (d_s2 : MethIn K Z.S "is_ours" "Side.is_ours" sS2) (d_s3 : MethIn K Z.S "ours_there" "Side.ours_there" sS3) (d_s4 : MethIn K Z.S "give_back" "Side.give_back" sS4) (d_s5 : MethIn K Z.S "lose" "Side.lose" sS5) (d_s6 : MethIn K Z.S "drop_if_done" "Side.drop_if_done" sS6) (d_s7 : MethIn K Z.S "drop_done" "Side.drop_done" sS7) (d_s8 : MethIn K Z.S "theirs_there" "Side.theirs_there" sS8) (d_s9 : MethIn K Z.S "is_or_was" "Side.is_or_was" sS9) (d_s10 : MethIn K Z.S "greatest_that_came" "Side.greatest_that_came" sS10) (d_s11 : MethIn K Z.S "die" "Side.die" sS11) (d_ask : DefIn K mg "ask" "ask" sAsk) (d_put : DefIn K mg "put" "put" sPut) (d_owe : DefIn K mg "owe" "owe" sOwe) (d_take : DefIn K mg "take" "take" sTake) (d_stop : DefIn K mg "stop" "stop" sStop) (d_how : DefIn K mg "how_far_ended" "how_far_ended" sHow) (d_look : DefIn K mg "look" "look" sLook) (d_no : DefIn K mg "number_of" "number_of" sNO) (d_f0 : MadeIn K mg "Frame" Z.F "Frame.__init__" sF0) (d_f1 : MethIn K Z.F "body_number" "Frame.body_number" sF1) (d_wh : DefIn K mg "wrong_head" "wrong_head" sWH) (d_nf : DefIn K mg "number_fits" "number_fits" sNF) (d_if_ : DefIn K mg "is_frame" "is_frame" sIF) (d_wf : DefIn K mg "wrong_frame" "wrong_frame" sWF) (d_bf : DefIn K mg "behind_frame" "behind_frame" sBF) (d_ha : DefIn K mg "head_at" "head_at" sHA) (d_hm : DefIn K mg "how_many_anew" "how_many_anew" sHM) (d_aa : DefIn K mg "ask_anew" "ask_anew" sAA) (d_mkn : DefIn K mg "make_known" "make_known" sMK) (d_dn : DefIn K mg "data_for_nothing" "data_for_nothing" sDN) (d_ac : DefIn K mg "add_credit" "add_credit" sAC) (d_mc : DefIn K mg "meet_credit" "meet_credit" sMC) (d_ms : DefIn K mg "meet_stopped" "meet_stopped" sMS) (d_md : DefIn K mg "meet_data" "meet_data" sMD) (d_mgo : DefIn K mg "meet_going" "meet_going" sMG) (d_meet : DefIn K mg "meet" "meet" sMeet) (d_rf : DefIn K mg "read_frames" "read_frames" sRF) (d_came : DefIn K mg "came" "came" sCame) (d_ps : DefIn K mg "piece_size" "piece_size" sPS) (d_cs : DefIn K mg "can_send" "can_send" sCS) (d_wt : DefIn K mg "whose_turn" "whose_turn" sWT) (d_sp : DefIn K mg "send_piece" "send_piece" sSP) (d_sf1 : DefIn K mg "send_first" "send_first" sSF1) (d_sd : DefIn K mg "send_data" "send_data" sSD) (d_out : DefIn K mg "out" "out" sOut) (d_stl : DefIn K mg "still" "still" sStl) (d_ovr : DefIn K mg "over" "over" sOvr) (d_cnt : DefIn K mg "count" "count" sCnt) (d_l0 : MadeIn K mg "Line" Z.N "Line.__init__" sL0) (d_l1 : MethIn K Z.N "begin" "Line.begin" sL1) (d_l2 : MethIn K Z.N "answer" "Line.answer" sL2) {fa : Addr} {fda : FuncData} (Fa : Fun K "answers" "answers" sAns fa fda) : FnOk P w K mg base CX0 11 fa fda ["calls"] (spAns K) := by
  have h_nb : Def P w K mg base 1 "number_bytes" ["value", "size"] spNB := d_nb.to (fun f fd F => ok_nb F T) (fun _ _ _ _ _ _ us hl => match us, hl with | [_, _], _ => rfl)
  have h_ref : Def P w K mg base 1 "refused" ["why"] spRef := d_ref.to (fun f fd F => ok_ref F ) (fun _ _ _ _ _ _ us hl => match us, hl with | [_], _ => rfl)
  have h_fb : Def P w K mg base 2 "frame_bytes" ["kind", "flags", "number", "body"] spFB := d_fb.to (fun f fd F => ok_fb F T h_nb) (fun _ _ _ _ _ _ us hl => match us, hl with | [_, _, _, _], _ => rfl)
  have h_df : Def P w K mg base 3 "data_frame" ["number", "last", "body"] spDF := d_df.to (fun f fd F => ok_df F T h_fb) (fun _ _ _ _ _ _ us hl => match us, hl with | [_, _, _], _ => rfl)
  have h_cf : Def P w K mg base 3 "credit_frame" ["number", "more"] spCF := d_cf.to (fun f fd F => ok_cf F T h_nb h_fb) (fun _ _ _ _ _ _ us hl => match us, hl with | [_, _], _ => rfl)
  have h_sf : Def P w K mg base 3 "stopped_frame" ["number", "why"] spSF := d_sf.to (fun f fd F => ok_sf F T h_nb h_fb) (fun _ _ _ _ _ _ us hl => match us, hl with | [_, _], _ => rfl)
  have h_sa : Def P w K mg base 3 "still_asked_frame" ["token"] spSA := d_sa.to (fun f fd F => ok_sa F T h_nb h_fb) (fun _ _ _ _ _ _ us hl => match us, hl with | [_], _ => rfl)
  have h_st : Def P w K mg base 3 "still_frame" ["token"] spST := d_st.to (fun f fd F => ok_st F T h_nb h_fb) (fun _ _ _ _ _ _ us hl => match us, hl with | [_], _ => rfl)
  have h_go : Def P w K mg base 3 "going_frame" ["greatest"] spGO := d_go.to (fun f fd F => ok_go F T h_nb h_fb) (fun _ _ _ _ _ _ us hl => match us, hl with | [_], _ => rfl)
  have h_x0 : Made P w K mg base 1 "Exchange" Z.X ["self"] (spX0 Z) := d_x0.to (fun f fd F => ok_x0 F T) (fun _ _ _ _ _ _ us hl => match us, hl with | [_], _ => rfl)
  have h_x1 : Mdef P w K mg base 1 Z.X "all_came" ["self"] (spX1 Z) := MethIn.to T.cX d_x1 (fun f fd F => ok_x1 F T) (fun _ _ _ _ _ _ us hl => match us, hl with | [_], _ => rfl)
  have h_x2 : Mdef P w K mg base 1 Z.X "nothing_to_do" ["self"] (spX2 Z) := MethIn.to T.cX d_x2 (fun f fd F => ok_x2 F T) (fun _ _ _ _ _ _ us hl => match us, hl with | [_], _ => rfl)
  have h_s0 : Made P w K mg base 1 "Side" Z.S ["self", "which"] (spS0 Z) := d_s0.to (fun f fd F => ok_s0 F T) (fun _ _ _ _ _ _ us hl => match us, hl with | [_, _], _ => rfl)
  have h_s1 : Mdef P w K mg base 3 Z.S "add_exchange" ["self", "number"] (spS1 Z) := MethIn.to T.cS d_s1 (fun f fd F => ok_s1 F T h_x0) (fun _ _ _ _ _ _ us hl => match us, hl with | [_, _], _ => rfl)
  have h_s2 : Mdef P w K mg base 1 Z.S "is_ours" ["self", "number"] (spS2 Z) := MethIn.to T.cS d_s2 (fun f fd F => ok_s2 F T) (fun _ _ _ _ _ _ us hl => match us, hl with | [_, _], _ => rfl)
  have h_s3 : Mdef P w K mg base 2 Z.S "ours_there" ["self"] (spS3 Z) := MethIn.to T.cS d_s3 (fun f fd F => ok_s3 F T h_s2) (fun _ _ _ _ _ _ us hl => match us, hl with | [_], _ => rfl)
  have h_s4 : Mdef P w K mg base 4 Z.S "give_back" ["self", "size"] (spS4 Z) := MethIn.to T.cS d_s4 (fun f fd F => ok_s4 F T h_cf) (fun _ _ _ _ _ _ us hl => match us, hl with | [_, _], _ => rfl)
  have h_s5 : Mdef P w K mg base 5 Z.S "lose" ["self", "number"] (spS5 Z) := MethIn.to T.cS d_s5 (fun f fd F => ok_s5 F T h_s4) (fun _ _ _ _ _ _ us hl => match us, hl with | [_, _], _ => rfl)
  have h_s6 : Mdef P w K mg base 2 Z.S "drop_if_done" ["self", "number"] (spS6 Z) := MethIn.to T.cS d_s6 (fun f fd F => ok_s6 F T h_x2) (fun _ _ _ _ _ _ us hl => match us, hl with | [_, _], _ => rfl)
  have h_s7 : Mdef P w K mg base 3 Z.S "drop_done" ["self"] (spS7 Z) := MethIn.to T.cS d_s7 (fun f fd F => ok_s7 F T h_s6) (fun _ _ _ _ _ _ us hl => match us, hl with | [_], _ => rfl)
  have h_s8 : Mdef P w K mg base 3 Z.S "theirs_there" ["self"] (spS8 Z) := MethIn.to T.cS d_s8 (fun f fd F => ok_s8 F T h_s3) (fun _ _ _ _ _ _ us hl => match us, hl with | [_], _ => rfl)
  have h_s9 : Mdef P w K mg base 2 Z.S "is_or_was" ["self", "number"] (spS9 Z) := MethIn.to T.cS d_s9 (fun f fd F => ok_s9 F T h_s2) (fun _ _ _ _ _ _ us hl => match us, hl with | [_, _], _ => rfl)
  have h_s10 : Mdef P w K mg base 1 Z.S "greatest_that_came" ["self"] (spS10 Z) := MethIn.to T.cS d_s10 (fun f fd F => ok_s10 F T) (fun _ _ _ _ _ _ us hl => match us, hl with | [_], _ => rfl)
  have h_s11 : Mdef P w K mg base 1 Z.S "die" ["self"] (spS11 Z) := MethIn.to T.cS d_s11 (fun f fd F => ok_s11 F T) (fun _ _ _ _ _ _ us hl => match us, hl with | [_], _ => rfl)
  have h_ask : Def P w K mg base 4 "ask" ["side"] (spAsk Z) := d_ask.to (fun f fd F => ok_ask F T h_ref h_s3 h_s1) (fun _ _ _ _ _ _ us hl => match us, hl with | [_], _ => rfl)
  have h_put : Def P w K mg base 2 "put" ["side", "number", "last", "what"] (spPut Z) := d_put.to (fun f fd F => ok_put F T h_ref) (fun _ _ _ _ _ _ us hl => match us, hl with | [_, _, _, _], _ => rfl)
  have h_owe : Def P w K mg base 4 "owe" ["side", "number", "size"] (spOwe Z) := d_owe.to (fun f fd F => ok_owe F T h_cf) (fun _ _ _ _ _ _ us hl => match us, hl with | [_, _, _], _ => rfl)
  have h_take : Def P w K mg base 5 "take" ["side", "number", "most"] (spTake Z) := d_take.to (fun f fd F => ok_take F T h_ref h_owe h_s4 h_x1 h_s6) (fun _ _ _ _ _ _ us hl => match us, hl with | [_, _, _], _ => rfl)
  have h_stop : Def P w K mg base 6 "stop" ["side", "number", "why"] (spStop Z) := d_stop.to (fun f fd F => ok_stop F T h_ref h_s5 h_sf) (fun _ _ _ _ _ _ us hl => match us, hl with | [_, _, _], _ => rfl)
  have h_how : Def P w K mg base 1 "how_far_ended" ["exchange"] (spHow Z) := d_how.to (fun f fd F => ok_how F T) (fun _ _ _ _ _ _ us hl => match us, hl with | [_], _ => rfl)
  have h_look : Def P w K mg base 2 "look" ["side", "number"] (spLook Z) := d_look.to (fun f fd F => ok_look F T h_ref h_how) (fun _ _ _ _ _ _ us hl => match us, hl with | [_, _], _ => rfl)
  have h_no : Def P w K mg base 1 "number_of" ["row"] spNO := d_no.to (fun f fd F => ok_no F ) (fun _ _ _ _ _ _ us hl => match us, hl with | [_], _ => rfl)
  have h_f0 : Made P w K mg base 2 "Frame" Z.F ["self", "head"] (spF0 Z) := d_f0.to (fun f fd F => ok_f0 F T h_no) (fun _ _ _ _ _ _ us hl => match us, hl with | [_, _], _ => rfl)
  have h_f1 : Mdef P w K mg base 2 Z.F "body_number" ["self"] (spF1 Z) := MethIn.to T.cF d_f1 (fun f fd F => ok_f1 F T h_no) (fun _ _ _ _ _ _ us hl => match us, hl with | [_], _ => rfl)
  have h_wh : Def P w K mg base 1 "wrong_head" ["frame"] (spWH Z) := d_wh.to (fun f fd F => ok_wh F T) (fun _ _ _ _ _ _ us hl => match us, hl with | [_], _ => rfl)
  have h_nf : Def P w K mg base 1 "number_fits" ["frame"] (spNF Z) := d_nf.to (fun f fd F => ok_nf F T) (fun _ _ _ _ _ _ us hl => match us, hl with | [_], _ => rfl)
  have h_if_ : Def P w K mg base 2 "is_frame" ["frame"] (spIF Z) := d_if_.to (fun f fd F => ok_if F T h_nf) (fun _ _ _ _ _ _ us hl => match us, hl with | [_], _ => rfl)
  have h_wf : Def P w K mg base 3 "wrong_frame" ["frame"] (spWF Z) := d_wf.to (fun f fd F => ok_wf F T h_if_) (fun _ _ _ _ _ _ us hl => match us, hl with | [_], _ => rfl)
  have h_bf : Def P w K mg base 1 "behind_frame" ["frame", "at"] (spBF Z) := d_bf.to (fun f fd F => ok_bf F T) (fun _ _ _ _ _ _ us hl => match us, hl with | [_, _], _ => rfl)
  have h_ha : Def P w K mg base 4 "head_at" ["unread", "at"] (spHA Z) := d_ha.to (fun f fd F => ok_ha F T h_f0) (fun _ _ _ _ _ _ us hl => match us, hl with | [_, _], _ => rfl)
  have h_hm : Def P w K mg base 1 "how_many_anew" ["side", "number"] (spHM Z) := d_hm.to (fun f fd F => ok_hm F T) (fun _ _ _ _ _ _ us hl => match us, hl with | [_, _], _ => rfl)
  have h_aa : Def P w K mg base 4 "ask_anew" ["side", "number", "told"] (spAA Z) := d_aa.to (fun f fd F => ok_aa F T h_hm h_s8 h_s1 h_sf) (fun _ _ _ _ _ _ us hl => match us, hl with | [_, _, _], _ => rfl)
  have h_mkn : Def P w K mg base 5 "make_known" ["side", "number", "told"] (spMK Z) := d_mkn.to (fun f fd F => ok_mk F T h_s9 h_s2 h_hm h_aa) (fun _ _ _ _ _ _ us hl => match us, hl with | [_, _, _], _ => rfl)
  have h_dn : Def P w K mg base 5 "data_for_nothing" ["side", "size"] (spDN Z) := d_dn.to (fun f fd F => ok_dn F T h_s4) (fun _ _ _ _ _ _ us hl => match us, hl with | [_, _], _ => rfl)
  have h_ac : Def P w K mg base 1 "add_credit" ["holder", "more"] (spAC K) := d_ac.to (fun f fd F => ok_ac F T) (fun _ _ _ _ _ _ us hl => match us, hl with | [_, _], _ => rfl)
  have h_mc : Def P w K mg base 3 "meet_credit" ["side", "frame"] (spMC Z) := d_mc.to (fun f fd F => ok_mc F T h_ac h_f1 h_s9) (fun _ _ _ _ _ _ us hl => match us, hl with | [_, _], _ => rfl)
  have h_ms : Def P w K mg base 6 "meet_stopped" ["side", "frame", "told"] (spMS Z) := d_ms.to (fun f fd F => ok_ms F T h_mkn h_s5 h_f1) (fun _ _ _ _ _ _ us hl => match us, hl with | [_, _, _], _ => rfl)
  have h_md : Def P w K mg base 6 "meet_data" ["side", "frame", "told"] (spMD Z) := d_md.to (fun f fd F => ok_md F T h_mkn h_dn) (fun _ _ _ _ _ _ us hl => match us, hl with | [_, _, _], _ => rfl)
  have h_mgo : Def P w K mg base 6 "meet_going" ["side", "greatest", "told"] (spMG Z) := d_mgo.to (fun f fd F => ok_mg F T h_s2 h_s5) (fun _ _ _ _ _ _ us hl => match us, hl with | [_, _, _], _ => rfl)
  have h_meet : Def P w K mg base 7 "meet" ["side", "frame", "told"] (spMeet Z) := d_meet.to (fun f fd F => ok_meet F T h_wf h_md h_mc h_ms h_st h_f1 h_mgo) (fun _ _ _ _ _ _ us hl => match us, hl with | [_, _, _], _ => rfl)
  have h_rf : Def P w K mg base 8 "read_frames" ["side", "told"] (spRF Z) := d_rf.to (fun f fd F => ok_rf F T h_ha h_wh h_bf h_meet) (fun _ _ _ _ _ _ us hl => match us, hl with | [_, _], _ => rfl)
  have h_came : Def P w K mg base 9 "came" ["side", "what"] (spCame Z) := d_came.to (fun f fd F => ok_came F T h_ref h_rf h_s11) (fun _ _ _ _ _ _ us hl => match us, hl with | [_, _], _ => rfl)
  have h_ps : Def P w K mg base 1 "piece_size" ["side", "exchange", "room"] (spPS Z) := d_ps.to (fun f fd F => ok_ps F T) (fun _ _ _ _ _ _ us hl => match us, hl with | [_, _, _], _ => rfl)
  have h_cs : Def P w K mg base 2 "can_send" ["side", "exchange", "room"] (spCS Z) := d_cs.to (fun f fd F => ok_cs F T h_ps) (fun _ _ _ _ _ _ us hl => match us, hl with | [_, _, _], _ => rfl)
  have h_wt : Def P w K mg base 3 "whose_turn" ["side", "room"] (spWT Z) := d_wt.to (fun f fd F => ok_wt F T h_cs) (fun _ _ _ _ _ _ us hl => match us, hl with | [_, _], _ => rfl)
  have h_sp : Def P w K mg base 4 "send_piece" ["side", "number", "room"] (spSP Z) := d_sp.to (fun f fd F => ok_sp F T h_ps h_df) (fun _ _ _ _ _ _ us hl => match us, hl with | [_, _, _], _ => rfl)
  have h_sf1 : Def P w K mg base 1 "send_first" ["side", "room"] (spSF1 Z) := d_sf1.to (fun f fd F => ok_sf1 F T) (fun _ _ _ _ _ _ us hl => match us, hl with | [_, _], _ => rfl)
  have h_sd : Def P w K mg base 5 "send_data" ["side", "room"] (spSD Z) := d_sd.to (fun f fd F => ok_sd F T h_wt h_sp) (fun _ _ _ _ _ _ us hl => match us, hl with | [_, _], _ => rfl)
  have h_out : Def P w K mg base 6 "out" ["side", "most"] (spOut Z) := d_out.to (fun f fd F => ok_out F T h_sf1 h_sd h_s7) (fun _ _ _ _ _ _ us hl => match us, hl with | [_, _], _ => rfl)
  have h_stl : Def P w K mg base 4 "still" ["side", "token"] (spStl Z) := d_stl.to (fun f fd F => ok_stl F T h_ref h_sa) (fun _ _ _ _ _ _ us hl => match us, hl with | [_, _], _ => rfl)
  have h_ovr : Def P w K mg base 4 "over" ["side"] (spOvr Z) := d_ovr.to (fun f fd F => ok_ovr F T h_ref h_go h_s10) (fun _ _ _ _ _ _ us hl => match us, hl with | [_], _ => rfl)
  have h_cnt : Def P w K mg base 4 "count" ["side"] (spCnt Z) := d_cnt.to (fun f fd F => ok_cnt F T h_s3 h_s8) (fun _ _ _ _ _ _ us hl => match us, hl with | [_], _ => rfl)
  have h_l0 : Made P w K mg base 3 "Line" Z.N ["self"] (spL0 Z) := d_l0.to (fun f fd F => ok_l0 F T h_s0) (fun _ _ _ _ _ _ us hl => match us, hl with | [_], _ => rfl)
  have h_l1 : Mdef P w K mg base 3 Z.N "begin" ["self", "which"] (spL1 Z) := MethIn.to T.cN d_l1 (fun f fd F => ok_l1 F T h_ref h_s0) (fun _ _ _ _ _ _ us hl => match us, hl with | [_, _], _ => rfl)
  have h_l2 : Mdef P w K mg base 10 Z.N "answer" ["self", "call", "numbers", "what"] (spL2 Z) := MethIn.to T.cN d_l2 (fun f fd F => ok_l2 F T h_l1 h_ask h_put h_take h_stop h_out h_came h_stl h_ovr h_look h_cnt) (fun _ _ _ _ _ _ us hl => match us, hl with | [_, _, _, _], _ => rfl)
  exact ok_ans Fa T h_l0 h_l2
theorem no_cons {C : Addr} {f : Str} {l : List Str} (e : PySem.W.findIn K (.ref C) f = some none) (q : NoAll K C l) : NoAll K C (f :: l) := ⟨e, q⟩
theorem no_nil {C : Addr} : NoAll K C [] := trivial
theorem con_cons {x : Str} {v : Int} {t : Tok} {l : List (Str × Int)} (e : PySem.W.nsIn K mainGlobals x = some (some (.int v t))) (q : ConAll K l) : ConAll K ((x, v) :: l) := ⟨⟨t, e⟩, q⟩
theorem con_nil : ConAll K [] := trivial
set_option maxHeartbeats 8000000 in
theorem all_mk {CS CX CF CN fa f3 : Addr} {oc3 : Value} {od3 an3 : Option Addr} {sl3 : Array (Option Value)} {kV3 dc3 pm3 cd3 ct3 : Value} (KX : K.In h) (G : h.Ns mainGlobals mg) (hfa : mg "answers" = some (.ref fa))
    (aS : PySem.W.nsIn K mainGlobals "Side" = some (some (.ref CS))) (aX : PySem.W.nsIn K mainGlobals "Exchange" = some (some (.ref CX))) (aF : PySem.W.nsIn K mainGlobals "Frame" = some (some (.ref CF))) (aN : PySem.W.nsIn K mainGlobals "Line" = some (some (.ref CN)))
    (cS : Cls K CS) (cX : Cls K CX) (cF : Cls K CF) (cN : Cls K CN) (nS : NoAll K CS ["which", "dead", "going", "other_going", "exchanges", "to_ask", "to_come", "turn", "first", "unread", "credit", "left", "owed"]) (nX : NoAll K CX ["waiting", "ended", "last_sent", "credit", "untaken", "last_came", "end_told", "left", "owed"]) (nF : NoAll K CF ["size", "kind", "flags", "number", "body"]) (nN : NoAll K CN ["side"])
    (len : PySem.W.nsIn K mainGlobals "len" = some none) (range : PySem.W.nsIn K mainGlobals "range" = some none) (min_ : PySem.W.nsIn K mainGlobals "min" = some none) (max_ : PySem.W.nsIn K mainGlobals "max" = some none) (sorted_ : PySem.W.nsIn K mainGlobals "sorted" = some none) (list_ : PySem.W.nsIn K mainGlobals "list" = some none)
    (kA : ConAll K conA) (kB : ConAll K conB) (sz : ∃ a, mg "BODY_SIZES" = some (.ref a) ∧ MDict K a [(2, 4), (3, 4), (4, 8), (5, 8), (6, 4)]) (mn : ∃ a, mg "HOW_MANY_NUMBERS" = some (.ref a) ∧ MDict K a manyTab)
    (d_nb : DefIn K mg "number_bytes" "number_bytes" sNB) (d_ref : DefIn K mg "refused" "refused" sRef) (d_fb : DefIn K mg "frame_bytes" "frame_bytes" sFB) (d_df : DefIn K mg "data_frame" "data_frame" sDF) (d_cf : DefIn K mg "credit_frame" "credit_frame" sCF) (d_sf : DefIn K mg "stopped_frame" "stopped_frame" sSF) (d_sa : DefIn K mg "still_asked_frame" "still_asked_frame" sSA) (d_st : DefIn K mg "still_frame" "still_frame" sST) (d_go : DefIn K mg "going_frame" "going_frame" sGO) (d_x0 : MadeOf K CX "Exchange.__init__" sX0) (d_x1 : MethIn K CX "all_came" "Exchange.all_came" sX1) (d_x2 : MethIn K CX "nothing_to_do" "Exchange.nothing_to_do" sX2) (d_s0 : MadeOf K CS "Side.__init__" sS0) (d_s1 : MethIn K CS "add_exchange" "Side.add_exchange" sS1) (d_s2 : MethIn K CS "is_ours" "Side.is_ours" sS2) (d_s3 : MethIn K CS "ours_there" "Side.ours_there" sS3) (d_s4 : MethIn K CS "give_back" "Side.give_back" sS4) (d_s5 : MethIn K CS "lose" "Side.lose" sS5) (d_s6 : MethIn K CS "drop_if_done" "Side.drop_if_done" sS6) (d_s7 : MethIn K CS "drop_done" "Side.drop_done" sS7) (d_s8 : MethIn K CS "theirs_there" "Side.theirs_there" sS8) (d_s9 : MethIn K CS "is_or_was" "Side.is_or_was" sS9) (d_s10 : MethIn K CS "greatest_that_came" "Side.greatest_that_came" sS10) (d_s11 : MethIn K CS "die" "Side.die" sS11) (d_ask : DefIn K mg "ask" "ask" sAsk) (d_put : DefIn K mg "put" "put" sPut) (d_owe : DefIn K mg "owe" "owe" sOwe) (d_take : DefIn K mg "take" "take" sTake) (d_stop : DefIn K mg "stop" "stop" sStop) (d_how : DefIn K mg "how_far_ended" "how_far_ended" sHow) (d_look : DefIn K mg "look" "look" sLook) (d_no : DefIn K mg "number_of" "number_of" sNO) (d_f0 : MadeOf K CF "Frame.__init__" sF0) (d_f1 : MethIn K CF "body_number" "Frame.body_number" sF1) (d_wh : DefIn K mg "wrong_head" "wrong_head" sWH) (d_nf : DefIn K mg "number_fits" "number_fits" sNF) (d_if_ : DefIn K mg "is_frame" "is_frame" sIF) (d_wf : DefIn K mg "wrong_frame" "wrong_frame" sWF) (d_bf : DefIn K mg "behind_frame" "behind_frame" sBF) (d_ha : DefIn K mg "head_at" "head_at" sHA) (d_hm : DefIn K mg "how_many_anew" "how_many_anew" sHM) (d_aa : DefIn K mg "ask_anew" "ask_anew" sAA) (d_mkn : DefIn K mg "make_known" "make_known" sMK) (d_dn : DefIn K mg "data_for_nothing" "data_for_nothing" sDN) (d_ac : DefIn K mg "add_credit" "add_credit" sAC) (d_mc : DefIn K mg "meet_credit" "meet_credit" sMC) (d_ms : DefIn K mg "meet_stopped" "meet_stopped" sMS) (d_md : DefIn K mg "meet_data" "meet_data" sMD) (d_mgo : DefIn K mg "meet_going" "meet_going" sMG) (d_meet : DefIn K mg "meet" "meet" sMeet) (d_rf : DefIn K mg "read_frames" "read_frames" sRF) (d_came : DefIn K mg "came" "came" sCame) (d_ps : DefIn K mg "piece_size" "piece_size" sPS) (d_cs : DefIn K mg "can_send" "can_send" sCS) (d_wt : DefIn K mg "whose_turn" "whose_turn" sWT) (d_sp : DefIn K mg "send_piece" "send_piece" sSP) (d_sf1 : DefIn K mg "send_first" "send_first" sSF1) (d_sd : DefIn K mg "send_data" "send_data" sSD) (d_out : DefIn K mg "out" "out" sOut) (d_stl : DefIn K mg "still" "still" sStl) (d_ovr : DefIn K mg "over" "over" sOvr) (d_cnt : DefIn K mg "count" "count" sCnt) (d_l0 : MadeOf K CN "Line.__init__" sL0) (d_l1 : MethIn K CN "begin" "Line.begin" sL1) (d_l2 : MethIn K CN "answer" "Line.answer" sL2)
    (a3 : PySem.W.nsIn K mainGlobals "answers" = some (some (.ref f3))) (l3 : K.lookup f3 = some ⟨oc3, od3, .func (PySem.W.fnOf "answers" "answers" (defArgs sAns) (defBody sAns) (defScope sAns) .none kV3 dc3 pm3 an3 cd3 ct3), sl3⟩) (c3 : PySem.W.codeIn K cd3 "answers" = true) (k3 : PySem.W.keepIn K (.ref f3) = true) :
    ∃ fd : FuncData, (∀ (s : Shared) (us : List Value), us.length = (["calls"] : List Str).length → BindsTo s fd ⟨us, []⟩ ((["calls"] : List Str).zip us)) ∧ ∀ base : Heap, K.In base → base.Ns mainGlobals mg → FnOk P w K mg base CX0 11 fa fd ["calls"] (spAns K) := by
  have e := hfa.symm.trans (PySem.W.mg_of KX G a3)
  cases e
  have T : Txt K mg ⟨CS, CX, CF, CN⟩ := ⟨cS, cX, cF, cN, no_all nS, no_all nX, no_all nF, no_all nN "side" List.mem_cons_self, PySem.W.mg_none_of KX G len, PySem.W.mg_none_of KX G range, PySem.W.mg_none_of KX G min_, PySem.W.mg_none_of KX G max_, PySem.W.mg_none_of KX G sorted_, PySem.W.mg_none_of KX G list_, con_all KX G (con_app kA kB), sz, mn⟩
  exact ⟨_, fun s us hu => match us, hu with | [_], _ => .of_eq rfl, fun base _ _ => all_ok (Z := ⟨CS, CX, CF, CN⟩) T d_nb d_ref d_fb d_df d_cf d_sf d_sa d_st d_go (d_x0.in_ (PySem.W.mg_of KX G aX)) d_x1 d_x2 (d_s0.in_ (PySem.W.mg_of KX G aS)) d_s1 d_s2 d_s3 d_s4 d_s5 d_s6 d_s7 d_s8 d_s9 d_s10 d_s11 d_ask d_put d_owe d_take d_stop d_how d_look d_no (d_f0.in_ (PySem.W.mg_of KX G aF)) d_f1 d_wh d_nf d_if_ d_wf d_bf d_ha d_hm d_aa d_mkn d_dn d_ac d_mc d_ms d_md d_mgo d_meet d_rf d_came d_ps d_cs d_wt d_sp d_sf1 d_sd d_out d_stl d_ovr d_cnt (d_l0.in_ (PySem.W.mg_of KX G aN)) d_l1 d_l2 (fun_mk (st := sAns) l3 c3 k3)⟩
end
end Os
set_option linter.all false
set_option Elab.async false
/-! These names are taken, so that the head lays no quick twin of the text's own constants: a twin's equation is of the square of the objects' number, and the whole would weigh 150 MB. -/
namespace PySem.W.Fast
def tw10038802214267406728 := ()
def tw10043676619765826135 := ()
def tw1008737480796131752 := ()
def tw10225598704477905490 := ()
def tw10335462131856153316 := ()
def tw10344289616005614656 := ()
def tw10350890157986111897 := ()
def tw10398324071178718080 := ()
def tw10417804846763875944 := ()
def tw10420757862401395225 := ()
def tw10449700063352675049 := ()
def tw10464363325802099450 := ()
def tw10515655653155378364 := ()
def tw10573527321293770321 := ()
def tw10580704812421344411 := ()
def tw10714493646730956409 := ()
def tw10732230526052261367 := ()
def tw10739924916343800798 := ()
def tw10773896072950462665 := ()
def tw10773941314061000374 := ()
def tw10775322327375926885 := ()
def tw10787297349902944509 := ()
def tw10835901986487692674 := ()
def tw10852766086570459750 := ()
def tw10895325631148240899 := ()
def tw10896632274019473880 := ()
def tw10901669851542615834 := ()
def tw10926130072037022684 := ()
def tw1093502070284256914 := ()
def tw10983530420599945704 := ()
def tw10991880478017629858 := ()
def tw11019194678152378736 := ()
def tw11019748304140548840 := ()
def tw11027480726072654868 := ()
def tw11034885585028838128 := ()
def tw11063913211566977479 := ()
def tw1106875667215133598 := ()
def tw11133618255796696420 := ()
def tw11142600701589438395 := ()
def tw11178451728810730041 := ()
def tw11213014828486374467 := ()
def tw11243149784531952087 := ()
def tw11284951433518190963 := ()
def tw11302959542848234417 := ()
def tw11306158913906755923 := ()
def tw11320667067564161406 := ()
def tw1132608270152319427 := ()
def tw11347463260525147757 := ()
def tw11351981022628372367 := ()
def tw11357601952150727671 := ()
def tw11371216661150732299 := ()
def tw11443472864853007329 := ()
def tw11464316463959125002 := ()
def tw11523065223228892296 := ()
def tw11533036463790745149 := ()
def tw11540119387633726297 := ()
def tw1156857162646673600 := ()
def tw11571449432439231997 := ()
def tw11612822981144256104 := ()
def tw11656612062935485383 := ()
def tw1167858860872148432 := ()
def tw11752336224657698743 := ()
def tw11785439382755171573 := ()
def tw11799725153367868373 := ()
def tw11855102508934458049 := ()
def tw11866226369379594446 := ()
def tw11902093499203994549 := ()
def tw11925389011119828853 := ()
def tw11985652632630633121 := ()
def tw1200579063495478156 := ()
def tw12076120462910250207 := ()
def tw12116545119384308678 := ()
def tw12125272082097901411 := ()
def tw12132150496097564257 := ()
def tw12146856201364248569 := ()
def tw12164931127819869858 := ()
def tw12284110619988182805 := ()
def tw12313573949875735232 := ()
def tw12326863098157021677 := ()
def tw12330879951344194817 := ()
def tw12394211874888486901 := ()
def tw12448271051832608095 := ()
def tw12448330966978663229 := ()
def tw12487020447421629509 := ()
def tw12497711886672881265 := ()
def tw12504079782713829105 := ()
def tw12511882198924015120 := ()
def tw12523025154480031364 := ()
def tw12539077854084536074 := ()
def tw12587522488994452836 := ()
def tw12675044251846265643 := ()
def tw12681832660876528709 := ()
def tw1269718682403403664 := ()
def tw12722776152804632215 := ()
def tw12739521314446868305 := ()
def tw12792126292475454815 := ()
def tw12855651930309493516 := ()
def tw12866742953153189681 := ()
def tw12884155411653312829 := ()
def tw12896494135587166445 := ()
def tw12973759379339523093 := ()
def tw12980919731033272264 := ()
def tw12999330430871735037 := ()
def tw13004954141479221599 := ()
def tw13041680885407203461 := ()
def tw13149640532500919329 := ()
def tw13244898787561549012 := ()
def tw13249372565466070123 := ()
def tw13266858039767717223 := ()
def tw13300715951665971894 := ()
def tw13372257883172945855 := ()
def tw13378792853216092820 := ()
def tw13435115094546297129 := ()
def tw1355254190072070247 := ()
def tw13559991912161714005 := ()
def tw13609784865487069912 := ()
def tw13622299939802698471 := ()
def tw13631555158817410870 := ()
def tw13644316124744906251 := ()
def tw13651172625444328361 := ()
def tw13680431508413728123 := ()
def tw13681427467397743377 := ()
def tw13697258716471693874 := ()
def tw13697740524081218646 := ()
def tw13710163921694069463 := ()
def tw13715239372345230205 := ()
def tw13725631649996826638 := ()
def tw13727950719443501564 := ()
def tw13743180795579274095 := ()
def tw13784606440771179465 := ()
def tw13805862325143187380 := ()
def tw13809224064675001244 := ()
def tw13814807918919477529 := ()
def tw13816611228311208654 := ()
def tw13860578696773834405 := ()
def tw13928295606163532077 := ()
def tw13992748329876088040 := ()
def tw14008915164258295844 := ()
def tw14159038352513909123 := ()
def tw14168947253613276686 := ()
def tw14178428847427593444 := ()
def tw14192854056389868645 := ()
def tw14291390624981582314 := ()
def tw14297751538808757402 := ()
def tw14378401090056185807 := ()
def tw14415882528564290145 := ()
def tw14425844141291552187 := ()
def tw14466152377972120170 := ()
def tw14472630727573398342 := ()
def tw14474304262594362518 := ()
def tw14483435867613052781 := ()
def tw14489884404997185237 := ()
def tw14549281670269711566 := ()
def tw14640186442057265116 := ()
def tw14656016604428151453 := ()
def tw14678605804097026617 := ()
def tw14735445084403541304 := ()
def tw14741536224842640821 := ()
def tw14752255168988522934 := ()
def tw14854156029558340941 := ()
def tw14855053062115488932 := ()
def tw1487097758599782418 := ()
def tw14936617724759672360 := ()
def tw14957801367861175749 := ()
def tw14986476329376765808 := ()
def tw15099861759646382230 := ()
def tw15147285875817971190 := ()
def tw15171365420303541025 := ()
def tw15180162275164802444 := ()
def tw1522458484739626341 := ()
def tw15240290158677117212 := ()
def tw15270862400951810399 := ()
def tw15283655858534429435 := ()
def tw15342172108051270363 := ()
def tw15349211646778262425 := ()
def tw15414877568680332949 := ()
def tw1543397044780333065 := ()
def tw15478934626441673801 := ()
def tw15501488411021983030 := ()
def tw15575762385170233890 := ()
def tw15595747985492989072 := ()
def tw15610350537198916636 := ()
def tw15663543662418835447 := ()
def tw156730328536157803 := ()
def tw15699884825819214107 := ()
def tw15751808999903412867 := ()
def tw15756891298479483041 := ()
def tw15811261580963010269 := ()
def tw15837844183838867763 := ()
def tw15877975946246256948 := ()
def tw15916069198872142192 := ()
def tw15921276578235499030 := ()
def tw15944998220055713786 := ()
def tw15979873035583286344 := ()
def tw15988097412417362772 := ()
def tw16023685817151494362 := ()
def tw16023701523141012568 := ()
def tw16096694895435423587 := ()
def tw16099731599173112256 := ()
def tw16101526951888965557 := ()
def tw16115728146636961644 := ()
def tw16130685390323559134 := ()
def tw16141214375624114966 := ()
def tw16141564552244537118 := ()
def tw16262888833723821038 := ()
def tw16300191926678089933 := ()
def tw16341185038617005591 := ()
def tw16416799519590984211 := ()
def tw16500234774024154458 := ()
def tw16509307874384975977 := ()
def tw16539731327679472784 := ()
def tw16541279073114540462 := ()
def tw16557294385461137945 := ()
def tw16648154572834408797 := ()
def tw16671777250555967159 := ()
def tw16803578349526771484 := ()
def tw16808278340958691372 := ()
def tw1682389718475303135 := ()
def tw16825225570218653213 := ()
def tw16852319346152494947 := ()
def tw16899413256895212853 := ()
def tw16932177520607232851 := ()
def tw1693646528265343546 := ()
def tw16995825291429640034 := ()
def tw17020000338248067681 := ()
def tw1704946885106270629 := ()
def tw17110826468287888919 := ()
def tw17161595938522334014 := ()
def tw17165004627965742233 := ()
def tw17209555459530469749 := ()
def tw17211069274873961099 := ()
def tw17258076194154421713 := ()
def tw17367975324172745870 := ()
def tw17399775815748073648 := ()
def tw17512639054306367123 := ()
def tw17544857226398447652 := ()
def tw17724132367820456752 := ()
def tw17733131448301835681 := ()
def tw17749984276273723944 := ()
def tw17814401500984457914 := ()
def tw17863319333117989727 := ()
def tw17887972928863910300 := ()
def tw1789786393232193187 := ()
def tw17944062357716282801 := ()
def tw17985831036640681850 := ()
def tw1799050239372606106 := ()
def tw18082356305923729585 := ()
def tw18093824949572334112 := ()
def tw18097330269440090748 := ()
def tw18116526374986154900 := ()
def tw18123475299114505179 := ()
def tw18151805398160177967 := ()
def tw18202604969247873757 := ()
def tw18242975790214162550 := ()
def tw18263323300429741968 := ()
def tw18327273417541774086 := ()
def tw18392061413405274160 := ()
def tw18393186869539617222 := ()
def tw1840301571515754486 := ()
def tw1988909463552848174 := ()
def tw2064345488805429640 := ()
def tw2068108519788647695 := ()
def tw2087674166926544864 := ()
def tw2094117033747642899 := ()
def tw2165743329857068284 := ()
def tw2207520355888648979 := ()
def tw2231583516749964344 := ()
def tw2252410726133942604 := ()
def tw2258411134871134927 := ()
def tw2307073511021447569 := ()
def tw2443349986248981259 := ()
def tw2485836153156284168 := ()
def tw2529251050637542580 := ()
def tw2600434480817013520 := ()
def tw2613667270335154242 := ()
def tw2627492586685465597 := ()
def tw2690832835325007811 := ()
def tw2719064283070308813 := ()
def tw2746151732336947692 := ()
def tw2766088987329952104 := ()
def tw2793886009173872269 := ()
def tw2799236278826938755 := ()
def tw2935493361937212084 := ()
def tw2988458605937172027 := ()
def tw2992760126591651757 := ()
def tw3004808021838499696 := ()
def tw302088313715591863 := ()
def tw3063178938507172246 := ()
def tw3068374999031807167 := ()
def tw3077639126732521947 := ()
def tw3086069468889559801 := ()
def tw3131522017560397129 := ()
def tw3152488431946668928 := ()
def tw3154359287067843202 := ()
def tw3221447517406886688 := ()
def tw327761798163590003 := ()
def tw3287112311756684520 := ()
def tw3364135928985369276 := ()
def tw340600989456434026 := ()
def tw3415073399862881053 := ()
def tw3439758349354966237 := ()
def tw3443486748948959081 := ()
def tw3448628064868178732 := ()
def tw3458912516574285606 := ()
def tw3496763746871902454 := ()
def tw3548625091805914438 := ()
def tw357110311337553895 := ()
def tw3592538687826416700 := ()
def tw3614113476707795567 := ()
def tw3621155875132463697 := ()
def tw367277877498644738 := ()
def tw3684392969202255955 := ()
def tw3690422366649806161 := ()
def tw3887259295372702766 := ()
def tw3905405154034809601 := ()
def tw3939980255733268088 := ()
def tw3942629676755285743 := ()
def tw3974573905570031501 := ()
def tw3983720700367491572 := ()
def tw3992058622070019814 := ()
def tw3995541248594148550 := ()
def tw4139277442569843399 := ()
def tw4148759404863223088 := ()
def tw4163573958749141827 := ()
def tw4187468408163665032 := ()
def tw4199658022116500145 := ()
def tw4280599547767082400 := ()
def tw4284353241063971231 := ()
def tw4318510198720351314 := ()
def tw432896296834581411 := ()
def tw433002747231599025 := ()
def tw4372656366718294767 := ()
def tw4372830530483356255 := ()
def tw4373057538648682635 := ()
def tw4407618544367663774 := ()
def tw4446692614384384921 := ()
def tw4453822578464609070 := ()
def tw4456018731243981938 := ()
def tw4471110480370070140 := ()
def tw4471793421327365354 := ()
def tw4478742920266796281 := ()
def tw44857701766996198 := ()
def tw4505088981763191770 := ()
def tw4536080751353164650 := ()
def tw4588217842270311785 := ()
def tw4595283898842420442 := ()
def tw4705139607498613576 := ()
def tw470744939788775735 := ()
def tw4726463623704073010 := ()
def tw482986298172387817 := ()
def tw4866495597840034841 := ()
def tw4870920350461282052 := ()
def tw491279136624568082 := ()
def tw4927936712524897689 := ()
def tw4930585486079998154 := ()
def tw4981807878742837665 := ()
def tw4992587736274938241 := ()
def tw5007537421206646842 := ()
def tw5041438962336568796 := ()
def tw5064462645013650525 := ()
def tw5100685037317216404 := ()
def tw5110673159467418620 := ()
def tw5128553079913666105 := ()
def tw5159198030379395567 := ()
def tw5172062616280327418 := ()
def tw5209549634776843561 := ()
def tw5276885858889475515 := ()
def tw5344150175806575306 := ()
def tw53669473359781030 := ()
def tw5376655086397510760 := ()
def tw5382666364072834122 := ()
def tw5391333147167638592 := ()
def tw5419147303466329647 := ()
def tw5476180315152993165 := ()
def tw5597491313647114109 := ()
def tw5597890902676778443 := ()
def tw5653837666886360971 := ()
def tw5685368104332636902 := ()
def tw5769858051975056380 := ()
def tw5796399679961385794 := ()
def tw5836399052435287629 := ()
def tw5972995848864266104 := ()
def tw5974788650956114459 := ()
def tw5989634250503875212 := ()
def tw599832460730951122 := ()
def tw6005561005182708581 := ()
def tw6027144465235287319 := ()
def tw606036296452713637 := ()
def tw609028997936107128 := ()
def tw6124704009701369785 := ()
def tw6162586586644611871 := ()
def tw6185427138659208290 := ()
def tw626055163843743906 := ()
def tw6295174640527031547 := ()
def tw6303891100989301705 := ()
def tw6328850868880681453 := ()
def tw6361713131877612518 := ()
def tw6407401970393792179 := ()
def tw6456758925568099933 := ()
def tw6462904324110455293 := ()
def tw648633338725994362 := ()
def tw6538194899056530105 := ()
def tw655931204276223583 := ()
def tw657136265470230456 := ()
def tw6582779638137696237 := ()
def tw6636057518422245302 := ()
def tw6636616523173018653 := ()
def tw6656217910516972531 := ()
def tw6673946253216746878 := ()
def tw6730399572069514383 := ()
def tw6762462831261994758 := ()
def tw6819085891499973103 := ()
def tw6912980854301534424 := ()
def tw6915663669234012309 := ()
def tw6920575984091269761 := ()
def tw6932600970575173697 := ()
def tw7082098248660872069 := ()
def tw7084941921647946382 := ()
def tw7090767491689906330 := ()
def tw7199996242357522311 := ()
def tw7301322346705986044 := ()
def tw7356265738746128369 := ()
def tw7367590877337050388 := ()
def tw7369813041579553050 := ()
def tw7406646894860230473 := ()
def tw7463445211862743739 := ()
def tw7490684101223366506 := ()
def tw7527171121972261633 := ()
def tw7536801269406157082 := ()
def tw7592226618976185982 := ()
def tw7645447870390136296 := ()
def tw7661547732650700312 := ()
def tw7730099492013560385 := ()
def tw7745959519777862156 := ()
def tw7801483767883114358 := ()
def tw7846226001959716680 := ()
def tw7848380201032196824 := ()
def tw7857537161812824358 := ()
def tw8091766525590993073 := ()
def tw8189994415251542257 := ()
def tw8221963113122160760 := ()
def tw823767556145365776 := ()
def tw8267999147863226839 := ()
def tw8303782157786953357 := ()
def tw8325921591656487151 := ()
def tw8327990116054095896 := ()
def tw8352211687901456179 := ()
def tw8394971411792122031 := ()
def tw8406132576555110736 := ()
def tw8498854067854680392 := ()
def tw8547374262982207035 := ()
def tw8695938033536116440 := ()
def tw8730909520407752160 := ()
def tw8787625848017708917 := ()
def tw8792529106854557483 := ()
def tw8837717639637682275 := ()
def tw8870865126807358030 := ()
def tw8949406921980273234 := ()
def tw8954786189074964705 := ()
def tw8986530683201538998 := ()
def tw9032967190096118176 := ()
def tw9033002747983860284 := ()
def tw9157407228192646696 := ()
def tw9231121756622902253 := ()
def tw926188462103350236 := ()
def tw9328399154567163857 := ()
def tw9429787278777842113 := ()
def tw9488001768426100347 := ()
def tw9490648128869812751 := ()
def tw9560503148956099519 := ()
def tw9568844844884742733 := ()
def tw9609769920435906896 := ()
def tw965291600959918450 := ()
def tw9657551450439932763 := ()
def tw9692908414234411093 := ()
def tw9730496906492597644 := ()
def tw9750847171446142399 := ()
def tw9767825289132082464 := ()
def tw9894613987416298576 := ()
def tw9908896204354434373 := ()
def tw9920245264933464623 := ()
def tw9938453120840567337 := ()
def tw9956440717497522952 := ()
def tw9985609516978499196 := ()
end PySem.W.Fast
open PySem PySem.W PyProof.Rows
set_option maxRecDepth 100000 in
set_option maxHeartbeats 0 in
theorem PySem.Challenge.cw_onestream_s01_answers_holds : PySem.Challenge.rw_onestream_s01_answers.Holds := by
  w_on; k_headS; (case hw => exact ⟨[.list [.int 2]], by decide +kernel, by decide +kernel⟩)
  k_fillS
  refine L2.walk_specK (r := PySem.Challenge.rw_onestream_s01_answers) (k := 11) (CX := L2.CX0) (ps := ["calls"]) (sp := Os.spAns) (by decide +kernel) rfl rfl ⟨rfl, by decide, by decide⟩ (fun w h Y => PySem.W.kIn_of Y) ?F ?S (fun _ _ _ _ z => z)
  case F =>
    intro w mg fa h Y KX G hmg
    refine' Os.all_mk KX G hmg ?aS ?aX ?aF ?aN ⟨?pgS, ?hdS, ?poS, ?saS⟩ ⟨?pgX, ?hdX, ?poX, ?saX⟩ ⟨?pgF, ?hdF, ?poF, ?saF⟩ ⟨?pgN, ?hdN, ?poN, ?saN⟩ ?nS ?nX ?nF ?nN ?len ?range ?min ?max ?sorted ?list ?kA ?kB (Os.mod_mk KX G ?n1 ?l1 ?s1 ?h1) (Os.mod_mk KX G ?n2 ?l2 ?s2 ?h2)
      (Os.def_mk KX G ?a_nb ?l_nb ?c_nb ?k_nb)
      (Os.def_mk KX G ?a_ref ?l_ref ?c_ref ?k_ref)
      (Os.def_mk KX G ?a_fb ?l_fb ?c_fb ?k_fb)
      (Os.def_mk KX G ?a_df ?l_df ?c_df ?k_df)
      (Os.def_mk KX G ?a_cf ?l_cf ?c_cf ?k_cf)
      (Os.def_mk KX G ?a_sf ?l_sf ?c_sf ?k_sf)
      (Os.def_mk KX G ?a_sa ?l_sa ?c_sa ?k_sa)
      (Os.def_mk KX G ?a_st ?l_st ?c_st ?k_st)
      (Os.def_mk KX G ?a_go ?l_go ?c_go ?k_go)
      (Os.made_mk ?a_x0 ?i_x0 ?l_x0 ?c_x0 ?k_x0 ?m_x0 ?kc_x0)
      (Os.meth_mk ?a_x1 ?i_x1 ?l_x1 ?c_x1 ?k_x1)
      (Os.meth_mk ?a_x2 ?i_x2 ?l_x2 ?c_x2 ?k_x2)
      (Os.made_mk ?a_s0 ?i_s0 ?l_s0 ?c_s0 ?k_s0 ?m_s0 ?kc_s0)
      (Os.meth_mk ?a_s1 ?i_s1 ?l_s1 ?c_s1 ?k_s1)
      (Os.meth_mk ?a_s2 ?i_s2 ?l_s2 ?c_s2 ?k_s2)
      (Os.meth_mk ?a_s3 ?i_s3 ?l_s3 ?c_s3 ?k_s3)
      (Os.meth_mk ?a_s4 ?i_s4 ?l_s4 ?c_s4 ?k_s4)
      (Os.meth_mk ?a_s5 ?i_s5 ?l_s5 ?c_s5 ?k_s5)
      (Os.meth_mk ?a_s6 ?i_s6 ?l_s6 ?c_s6 ?k_s6)
      (Os.meth_mk ?a_s7 ?i_s7 ?l_s7 ?c_s7 ?k_s7)
      (Os.meth_mk ?a_s8 ?i_s8 ?l_s8 ?c_s8 ?k_s8)
      (Os.meth_mk ?a_s9 ?i_s9 ?l_s9 ?c_s9 ?k_s9)
      (Os.meth_mk ?a_s10 ?i_s10 ?l_s10 ?c_s10 ?k_s10)
      (Os.meth_mk ?a_s11 ?i_s11 ?l_s11 ?c_s11 ?k_s11)
      (Os.def_mk KX G ?a_ask ?l_ask ?c_ask ?k_ask)
      (Os.def_mk KX G ?a_put ?l_put ?c_put ?k_put)
      (Os.def_mk KX G ?a_owe ?l_owe ?c_owe ?k_owe)
      (Os.def_mk KX G ?a_take ?l_take ?c_take ?k_take)
      (Os.def_mk KX G ?a_stop ?l_stop ?c_stop ?k_stop)
      (Os.def_mk KX G ?a_how ?l_how ?c_how ?k_how)
      (Os.def_mk KX G ?a_look ?l_look ?c_look ?k_look)
      (Os.def_mk KX G ?a_no ?l_no ?c_no ?k_no)
      (Os.made_mk ?a_f0 ?i_f0 ?l_f0 ?c_f0 ?k_f0 ?m_f0 ?kc_f0)
      (Os.meth_mk ?a_f1 ?i_f1 ?l_f1 ?c_f1 ?k_f1)
      (Os.def_mk KX G ?a_wh ?l_wh ?c_wh ?k_wh)
      (Os.def_mk KX G ?a_nf ?l_nf ?c_nf ?k_nf)
      (Os.def_mk KX G ?a_if_ ?l_if_ ?c_if_ ?k_if_)
      (Os.def_mk KX G ?a_wf ?l_wf ?c_wf ?k_wf)
      (Os.def_mk KX G ?a_bf ?l_bf ?c_bf ?k_bf)
      (Os.def_mk KX G ?a_ha ?l_ha ?c_ha ?k_ha)
      (Os.def_mk KX G ?a_hm ?l_hm ?c_hm ?k_hm)
      (Os.def_mk KX G ?a_aa ?l_aa ?c_aa ?k_aa)
      (Os.def_mk KX G ?a_mkn ?l_mkn ?c_mkn ?k_mkn)
      (Os.def_mk KX G ?a_dn ?l_dn ?c_dn ?k_dn)
      (Os.def_mk KX G ?a_ac ?l_ac ?c_ac ?k_ac)
      (Os.def_mk KX G ?a_mc ?l_mc ?c_mc ?k_mc)
      (Os.def_mk KX G ?a_ms ?l_ms ?c_ms ?k_ms)
      (Os.def_mk KX G ?a_md ?l_md ?c_md ?k_md)
      (Os.def_mk KX G ?a_mgo ?l_mgo ?c_mgo ?k_mgo)
      (Os.def_mk KX G ?a_meet ?l_meet ?c_meet ?k_meet)
      (Os.def_mk KX G ?a_rf ?l_rf ?c_rf ?k_rf)
      (Os.def_mk KX G ?a_came ?l_came ?c_came ?k_came)
      (Os.def_mk KX G ?a_ps ?l_ps ?c_ps ?k_ps)
      (Os.def_mk KX G ?a_cs ?l_cs ?c_cs ?k_cs)
      (Os.def_mk KX G ?a_wt ?l_wt ?c_wt ?k_wt)
      (Os.def_mk KX G ?a_sp ?l_sp ?c_sp ?k_sp)
      (Os.def_mk KX G ?a_sf1 ?l_sf1 ?c_sf1 ?k_sf1)
      (Os.def_mk KX G ?a_sd ?l_sd ?c_sd ?k_sd)
      (Os.def_mk KX G ?a_out ?l_out ?c_out ?k_out)
      (Os.def_mk KX G ?a_stl ?l_stl ?c_stl ?k_stl)
      (Os.def_mk KX G ?a_ovr ?l_ovr ?c_ovr ?k_ovr)
      (Os.def_mk KX G ?a_cnt ?l_cnt ?c_cnt ?k_cnt)
      (Os.made_mk ?a_l0 ?i_l0 ?l_l0 ?c_l0 ?k_l0 ?m_l0 ?kc_l0)
      (Os.meth_mk ?a_l1 ?i_l1 ?l_l1 ?c_l1 ?k_l1)
      (Os.meth_mk ?a_l2 ?i_l2 ?l_l2 ?c_l2 ?k_l2)
      ?a3 ?l3 ?c3 ?k3
    (case aS => k_is); (case aX => k_is); (case aF => k_is); (case aN => k_is)
    (case pgS => k_is); (case hdS => k_is); (case poS => k_is); (case saS => k_is); (case pgX => k_is); (case hdX => k_is); (case poX => k_is); (case saX => k_is); (case pgF => k_is); (case hdF => k_is); (case poF => k_is); (case saF => k_is); (case pgN => k_is); (case hdN => k_is); (case poN => k_is); (case saN => k_is)
    (case nS => exact (Os.no_cons (by k_is) (Os.no_cons (by k_is) (Os.no_cons (by k_is) (Os.no_cons (by k_is) (Os.no_cons (by k_is) (Os.no_cons (by k_is) (Os.no_cons (by k_is) (Os.no_cons (by k_is) (Os.no_cons (by k_is) (Os.no_cons (by k_is) (Os.no_cons (by k_is) (Os.no_cons (by k_is) (Os.no_cons (by k_is) Os.no_nil))))))))))))))
    (case nX => exact (Os.no_cons (by k_is) (Os.no_cons (by k_is) (Os.no_cons (by k_is) (Os.no_cons (by k_is) (Os.no_cons (by k_is) (Os.no_cons (by k_is) (Os.no_cons (by k_is) (Os.no_cons (by k_is) (Os.no_cons (by k_is) Os.no_nil))))))))))
    (case nF => exact (Os.no_cons (by k_is) (Os.no_cons (by k_is) (Os.no_cons (by k_is) (Os.no_cons (by k_is) (Os.no_cons (by k_is) Os.no_nil))))))
    (case nN => exact (Os.no_cons (by k_is) Os.no_nil))
    (case len => k_is); (case range => k_is); (case min => k_is); (case max => k_is); (case sorted => k_is); (case list => k_is)
    (case kA => exact (Os.con_cons (by k_is) (Os.con_cons (by k_is) (Os.con_cons (by k_is) (Os.con_cons (by k_is) (Os.con_cons (by k_is) (Os.con_cons (by k_is) (Os.con_cons (by k_is) (Os.con_cons (by k_is) (Os.con_cons (by k_is) (Os.con_cons (by k_is) (Os.con_cons (by k_is) (Os.con_cons (by k_is) (Os.con_cons (by k_is) (Os.con_cons (by k_is) (Os.con_cons (by k_is) (Os.con_cons (by k_is) (Os.con_cons (by k_is) (Os.con_cons (by k_is) (Os.con_cons (by k_is) (Os.con_cons (by k_is) (Os.con_cons (by k_is) (Os.con_cons (by k_is) (Os.con_cons (by k_is) (Os.con_cons (by k_is) (Os.con_cons (by k_is) (Os.con_cons (by k_is) (Os.con_cons (by k_is) (Os.con_cons (by k_is) Os.con_nil)))))))))))))))))))))))))))))
    (case kB => exact (Os.con_cons (by k_is) (Os.con_cons (by k_is) (Os.con_cons (by k_is) (Os.con_cons (by k_is) (Os.con_cons (by k_is) (Os.con_cons (by k_is) (Os.con_cons (by k_is) (Os.con_cons (by k_is) (Os.con_cons (by k_is) (Os.con_cons (by k_is) (Os.con_cons (by k_is) (Os.con_cons (by k_is) (Os.con_cons (by k_is) (Os.con_cons (by k_is) (Os.con_cons (by k_is) (Os.con_cons (by k_is) (Os.con_cons (by k_is) (Os.con_cons (by k_is) (Os.con_cons (by k_is) (Os.con_cons (by k_is) (Os.con_cons (by k_is) (Os.con_cons (by k_is) (Os.con_cons (by k_is) (Os.con_cons (by k_is) (Os.con_cons (by k_is) (Os.con_cons (by k_is) (Os.con_cons (by k_is) (Os.con_cons (by k_is) Os.con_nil)))))))))))))))))))))))))))))
    (case n1 => k_is); (case l1 => k_is); (case s1 => rfl); (case h1 => decide +kernel)
    (case n2 => k_is); (case l2 => k_is); (case s2 => rfl); (case h2 => decide +kernel)
    (case a_nb => k_is); (case l_nb => k_is); (case c_nb => k_is); (case k_nb => k_is)
    (case a_ref => k_is); (case l_ref => k_is); (case c_ref => k_is); (case k_ref => k_is)
    (case a_fb => k_is); (case l_fb => k_is); (case c_fb => k_is); (case k_fb => k_is)
    (case a_df => k_is); (case l_df => k_is); (case c_df => k_is); (case k_df => k_is)
    (case a_cf => k_is); (case l_cf => k_is); (case c_cf => k_is); (case k_cf => k_is)
    (case a_sf => k_is); (case l_sf => k_is); (case c_sf => k_is); (case k_sf => k_is)
    (case a_sa => k_is); (case l_sa => k_is); (case c_sa => k_is); (case k_sa => k_is)
    (case a_st => k_is); (case l_st => k_is); (case c_st => k_is); (case k_st => k_is)
    (case a_go => k_is); (case l_go => k_is); (case c_go => k_is); (case k_go => k_is)
    (case a_x0 => k_is); (case i_x0 => k_is); (case l_x0 => k_is); (case c_x0 => k_is); (case k_x0 => k_is); (case m_x0 => k_is); (case kc_x0 => k_is)
    (case a_x1 => k_is); (case i_x1 => k_is); (case l_x1 => k_is); (case c_x1 => k_is); (case k_x1 => k_is)
    (case a_x2 => k_is); (case i_x2 => k_is); (case l_x2 => k_is); (case c_x2 => k_is); (case k_x2 => k_is)
    (case a_s0 => k_is); (case i_s0 => k_is); (case l_s0 => k_is); (case c_s0 => k_is); (case k_s0 => k_is); (case m_s0 => k_is); (case kc_s0 => k_is)
    (case a_s1 => k_is); (case i_s1 => k_is); (case l_s1 => k_is); (case c_s1 => k_is); (case k_s1 => k_is)
    (case a_s2 => k_is); (case i_s2 => k_is); (case l_s2 => k_is); (case c_s2 => k_is); (case k_s2 => k_is)
    (case a_s3 => k_is); (case i_s3 => k_is); (case l_s3 => k_is); (case c_s3 => k_is); (case k_s3 => k_is)
    (case a_s4 => k_is); (case i_s4 => k_is); (case l_s4 => k_is); (case c_s4 => k_is); (case k_s4 => k_is)
    (case a_s5 => k_is); (case i_s5 => k_is); (case l_s5 => k_is); (case c_s5 => k_is); (case k_s5 => k_is)
    (case a_s6 => k_is); (case i_s6 => k_is); (case l_s6 => k_is); (case c_s6 => k_is); (case k_s6 => k_is)
    (case a_s7 => k_is); (case i_s7 => k_is); (case l_s7 => k_is); (case c_s7 => k_is); (case k_s7 => k_is)
    (case a_s8 => k_is); (case i_s8 => k_is); (case l_s8 => k_is); (case c_s8 => k_is); (case k_s8 => k_is)
    (case a_s9 => k_is); (case i_s9 => k_is); (case l_s9 => k_is); (case c_s9 => k_is); (case k_s9 => k_is)
    (case a_s10 => k_is); (case i_s10 => k_is); (case l_s10 => k_is); (case c_s10 => k_is); (case k_s10 => k_is)
    (case a_s11 => k_is); (case i_s11 => k_is); (case l_s11 => k_is); (case c_s11 => k_is); (case k_s11 => k_is)
    (case a_ask => k_is); (case l_ask => k_is); (case c_ask => k_is); (case k_ask => k_is)
    (case a_put => k_is); (case l_put => k_is); (case c_put => k_is); (case k_put => k_is)
    (case a_owe => k_is); (case l_owe => k_is); (case c_owe => k_is); (case k_owe => k_is)
    (case a_take => k_is); (case l_take => k_is); (case c_take => k_is); (case k_take => k_is)
    (case a_stop => k_is); (case l_stop => k_is); (case c_stop => k_is); (case k_stop => k_is)
    (case a_how => k_is); (case l_how => k_is); (case c_how => k_is); (case k_how => k_is)
    (case a_look => k_is); (case l_look => k_is); (case c_look => k_is); (case k_look => k_is)
    (case a_no => k_is); (case l_no => k_is); (case c_no => k_is); (case k_no => k_is)
    (case a_f0 => k_is); (case i_f0 => k_is); (case l_f0 => k_is); (case c_f0 => k_is); (case k_f0 => k_is); (case m_f0 => k_is); (case kc_f0 => k_is)
    (case a_f1 => k_is); (case i_f1 => k_is); (case l_f1 => k_is); (case c_f1 => k_is); (case k_f1 => k_is)
    (case a_wh => k_is); (case l_wh => k_is); (case c_wh => k_is); (case k_wh => k_is)
    (case a_nf => k_is); (case l_nf => k_is); (case c_nf => k_is); (case k_nf => k_is)
    (case a_if_ => k_is); (case l_if_ => k_is); (case c_if_ => k_is); (case k_if_ => k_is)
    (case a_wf => k_is); (case l_wf => k_is); (case c_wf => k_is); (case k_wf => k_is)
    (case a_bf => k_is); (case l_bf => k_is); (case c_bf => k_is); (case k_bf => k_is)
    (case a_ha => k_is); (case l_ha => k_is); (case c_ha => k_is); (case k_ha => k_is)
    (case a_hm => k_is); (case l_hm => k_is); (case c_hm => k_is); (case k_hm => k_is)
    (case a_aa => k_is); (case l_aa => k_is); (case c_aa => k_is); (case k_aa => k_is)
    (case a_mkn => k_is); (case l_mkn => k_is); (case c_mkn => k_is); (case k_mkn => k_is)
    (case a_dn => k_is); (case l_dn => k_is); (case c_dn => k_is); (case k_dn => k_is)
    (case a_ac => k_is); (case l_ac => k_is); (case c_ac => k_is); (case k_ac => k_is)
    (case a_mc => k_is); (case l_mc => k_is); (case c_mc => k_is); (case k_mc => k_is)
    (case a_ms => k_is); (case l_ms => k_is); (case c_ms => k_is); (case k_ms => k_is)
    (case a_md => k_is); (case l_md => k_is); (case c_md => k_is); (case k_md => k_is)
    (case a_mgo => k_is); (case l_mgo => k_is); (case c_mgo => k_is); (case k_mgo => k_is)
    (case a_meet => k_is); (case l_meet => k_is); (case c_meet => k_is); (case k_meet => k_is)
    (case a_rf => k_is); (case l_rf => k_is); (case c_rf => k_is); (case k_rf => k_is)
    (case a_came => k_is); (case l_came => k_is); (case c_came => k_is); (case k_came => k_is)
    (case a_ps => k_is); (case l_ps => k_is); (case c_ps => k_is); (case k_ps => k_is)
    (case a_cs => k_is); (case l_cs => k_is); (case c_cs => k_is); (case k_cs => k_is)
    (case a_wt => k_is); (case l_wt => k_is); (case c_wt => k_is); (case k_wt => k_is)
    (case a_sp => k_is); (case l_sp => k_is); (case c_sp => k_is); (case k_sp => k_is)
    (case a_sf1 => k_is); (case l_sf1 => k_is); (case c_sf1 => k_is); (case k_sf1 => k_is)
    (case a_sd => k_is); (case l_sd => k_is); (case c_sd => k_is); (case k_sd => k_is)
    (case a_out => k_is); (case l_out => k_is); (case c_out => k_is); (case k_out => k_is)
    (case a_stl => k_is); (case l_stl => k_is); (case c_stl => k_is); (case k_stl => k_is)
    (case a_ovr => k_is); (case l_ovr => k_is); (case c_ovr => k_is); (case k_ovr => k_is)
    (case a_cnt => k_is); (case l_cnt => k_is); (case c_cnt => k_is); (case k_cnt => k_is)
    (case a_l0 => k_is); (case i_l0 => k_is); (case l_l0 => k_is); (case c_l0 => k_is); (case k_l0 => k_is); (case m_l0 => k_is); (case kc_l0 => k_is)
    (case a_l1 => k_is); (case i_l1 => k_is); (case l_l1 => k_is); (case c_l1 => k_is); (case k_l1 => k_is)
    (case a_l2 => k_is); (case i_l2 => k_is); (case l_l2 => k_is); (case c_l2 => k_is); (case k_l2 => k_is)
    (case a3 => k_is); (case l3 => k_is); (case c3 => k_is); (case k3 => k_is)
  case S =>
    intro K H xs a hO hwi hask hx
    cases hx with
    | cons h1 h2 =>
      cases h2
      cases h1 with
      | lst hs ha =>
        have e := L2.ints_dw a.1 _ ha
        subst e
        have q : ((Codec.inLen 0 16000 a.1 && a.1.all (Codec.inInt 0 18446744073709551615)) && true) = true := hwi
        rw [Bool.and_eq_true, Bool.and_eq_true] at q
        obtain ⟨n, run, hn, _⟩ := Os.asked_run (l := a.1) hask
        exact ⟨_, a.1, PySq01.answers a.1, n, rfl, hs, (Codec.inNat_iff.mp q.1.1).2, run, hn, fun H' p hp => .lst (L2.SqL.of hp) (L2.dw_ints _)⟩
#print axioms PySem.Challenge.cw_onestream_s01_answers_holds
