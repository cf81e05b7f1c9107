import PyProof.Rows.All
import Wide.All
import OpenK.AllK
import Wide.FinOn
import PyProof.EqAt
import PyProof.EqKinds
import PyProof.TupleCall
import KE.BitLaws
import KE.IntBitsLaws
import Open.SpecLaws
import KE.OsHead
import KE.OsGo
import PySem.Challenge.RW_stalklines_s01_answers
set_option Elab.async false
set_option linter.all false
set_option maxRecDepth 100000
namespace L2
open PySem PySem.Spec PyProof.Rows
/-- a key: an int or a str -/
abbrev Key := Sum Int Str
def keyIs : Key → Value → Bool
  | .inl k, v => Value.isInt k v
  | .inr x, v => Value.isStrOf x v
def keyH (w : World) : Key → Int
  | .inl k => hashInt k
  | .inr x => hashStr w x
theorem keyIs_shape : ∀ {k : Key} {v : Value}, keyIs k v = true → (∃ i t, k = Sum.inl i ∧ v = Value.int i t) ∨ (∃ x t, k = Sum.inr x ∧ v = Value.str x t)
  | .inl i, v, h => by
    obtain ⟨t, e⟩ := Value.isInt_shape (k := i) (v := v) h
    exact .inl ⟨i, t, rfl, e⟩
  | .inr x, v, h => by
    obtain ⟨t, e⟩ := Value.isStrOf_shape (x := x) (v := v) h
    exact .inr ⟨x, t, rfl, e⟩
theorem keyIs_int (i : Int) (t : Tok) : keyIs (.inl i) (.int i t) = true := by simp [keyIs, Value.isInt]
theorem keyIs_str (x : Str) (t : Tok) : keyIs (.inr x) (.str x t) = true := by simp [keyIs, Value.isStrOf]
theorem key_ll (a b : Int) : decide ((Sum.inl a : Key) = Sum.inl b) = (a == b) := by
  by_cases e : a = b
  · subst e; simp
  · have h : ¬ (Sum.inl a : Key) = Sum.inl b := fun q => e (Sum.inl.inj q)
    rw [decide_eq_false h]
    exact (beq_eq_false_iff_ne.mpr e).symm
theorem key_rr (a b : Str) : decide ((Sum.inr a : Key) = Sum.inr b) = decide (a = b) := by
  by_cases e : a = b
  · subst e; simp
  · have h : ¬ (Sum.inr a : Key) = Sum.inr b := fun q => e (Sum.inr.inj q)
    rw [decide_eq_false h, decide_eq_false e]
theorem key_lr (a : Int) (b : Str) : decide ((Sum.inl a : Key) = Sum.inr b) = false := decide_eq_false (fun q => nomatch q)
theorem key_rl (a : Str) (b : Int) : decide ((Sum.inr a : Key) = Sum.inl b) = false := decide_eq_false (fun q => nomatch q)
def mixKind (prog : Program) (w : World) : PySem.KeyKind prog w Key where
  is := keyIs
  hash := keyH w
  inj := fun v a b ha hb => by
    rcases keyIs_shape ha with ⟨i, t, rfl, rfl⟩ | ⟨x, t, rfl, rfl⟩
    · rcases keyIs_shape hb with ⟨j, u, rfl, e⟩ | ⟨y, u, rfl, e⟩
      · injection e with e1 _; rw [e1]
      · exact nomatch e
    · rcases keyIs_shape hb with ⟨j, u, rfl, e⟩ | ⟨y, u, rfl, e⟩
      · exact nomatch e
      · injection e with e1 _; rw [e1]
  byValue := fun k v h => by
    rcases keyIs_shape h with ⟨i, t, rfl, rfl⟩ | ⟨x, t, rfl, rfl⟩ <;> rfl
  pyHash := fun hv h => by
    rcases keyIs_shape hv with ⟨i, t, rfl, rfl⟩ | ⟨x, t, rfl, rfl⟩
    · exact wpAny_pyHash_int h
    · exact wpAny_pyHash_str h
  eqBool := fun hu hv h => by
    rcases keyIs_shape hu with ⟨i, t, rfl, rfl⟩ | ⟨x, t, rfl, rfl⟩
    · rcases keyIs_shape hv with ⟨j, u, rfl, rfl⟩ | ⟨y, u, rfl, rfl⟩
      · rw [key_ll] at h; exact wpAny_eqBool_int h
      · rw [key_lr] at h; exact SeqAt.EqAt.int_str i t y u _ _ _ _ h
    · rcases keyIs_shape hv with ⟨j, u, rfl, rfl⟩ | ⟨y, u, rfl, rfl⟩
      · rw [key_rl] at h; exact SeqAt.EqAt.str_int x t j u _ _ _ _ h
      · rw [key_rr] at h; exact wpAny_eqBool_str h
  «strs» := fun k x t v h => by
    rcases keyIs_shape h with ⟨i, u, rfl, e⟩ | ⟨y, u, rfl, e⟩
    · exact nomatch e
    · injection e with e1 _
      subst e1
      cases v <;> rfl
theorem mixKind_int (prog : Program) (w : World) (i : Int) (t : Tok) : (mixKind prog w).is (.inl i) (.int i t) = true := keyIs_int i t
theorem mixKind_str (prog : Program) (w : World) (x : Str) (t : Tok) : (mixKind prog w).is (.inr x) (.str x t) = true := keyIs_str x t
end L2
namespace L2
open PySem PySem.Spec PyProof.Rows
/-- a value, without the heap -/
inductive V where
  | non | bl (b : Bool) | int (i : Int) | str (x : Str) | byt (b : Array UInt8) | flt (b : UInt64) | ref (a : Addr) | ty (n : String)
  deriving DecidableEq
def RelV : V → Value → Prop
  | .non, u => u = Value.none
  | .bl b, u => u = Value.bool b
  | .int i, u => ∃ t, u = Value.int i t
  | .str x, u => ∃ t, u = Value.str x t
  | .byt b, u => ∃ t, u = Value.bytes b t
  | .flt b, u => ∃ t, u = Value.float b t
  | .ref a, u => u = Value.ref a
  | .ty n, u => u = Value.type n
abbrev Vals : List V → List Value → Prop := Paired RelV
theorem Vals.length {xs : List V} {us : List Value} (r : Vals xs us) : xs.length = us.length := Paired.length r
theorem Vals.get : ∀ {xs : List V} {us : List Value} {i : Nat} {x : V}, Vals xs us → xs[i]? = some x → ∃ u, us[i]? = some u ∧ RelV x u
  | _, _, _, _, .nil, e => by simp at e
  | _, _, 0, _, .cons r _, e => by simp at e; subst e; exact ⟨_, rfl, r⟩
  | _, _, i + 1, x, .cons _ t, e => by
    obtain ⟨u, h1, h2⟩ := Vals.get (i := i) (x := x) t (by simpa using e)
    exact ⟨u, by simpa using h1, h2⟩
theorem Vals.append : ∀ {xs ys : List V} {us ws : List Value}, Vals xs us → Vals ys ws → Vals (xs ++ ys) (us ++ ws)
  | _, _, _, _, .nil, s => s
  | _, _, _, _, .cons r t, s => .cons r (Vals.append t s)
theorem Vals.take : ∀ {xs : List V} {us : List Value} (n : Nat), Vals xs us → Vals (xs.take n) (us.take n)
  | _, _, 0, _ => .nil
  | _, _, _ + 1, .nil => .nil
  | _, _, n + 1, .cons r t => .cons r (Vals.take n t)
theorem Vals.drop : ∀ {xs : List V} {us : List Value} (n : Nat), Vals xs us → Vals (xs.drop n) (us.drop n)
  | _, _, 0, r => r
  | _, _, _ + 1, .nil => .nil
  | _, _, n + 1, .cons _ t => Vals.drop n t
def RelO : Option V → Option Value → Prop
  | some v, some u => RelV v u
  | none, none => True
  | _, _ => False
def KV {κ : Type} : List (κ × V) → List (κ × Value) → Prop := Paired fun (p : κ × V) (q : κ × Value) => p.1 = q.1 ∧ RelV p.2 q.2
/-- a key of a dict (00_mix): an int or a text -/
def kV : Key → V
  | .inl i => .int i
  | .inr x => .str x
/-- what stands at a tracked address -/
inductive HO where
  /-- a list -/
  | lst (xs : List V)
  /-- a tuple (never changes) -/
  | tup (xs : List V)
  /-- a dict whose keys are ints and texts; one whose keys are tuples of ints and texts (the empty one is both) -/
  | dK (kvs : List (Key × V)) | dT (kvs : List (List Key × V))
  /-- a set of ints: its members, its size -/
  | set (S : Int → Bool) (n : Nat)
  /-- an instance of the class at C, its dict at dx, its attributes -/
  | ins (C dx : Addr) (fs : List (Str × V))
  /-- the dict of the instance at x -/
  | own (x : Addr)
  /-- the dict of an exception -/
  | xd (fs : List (Str × V))
  /-- a bound method, f of x -/
  | met (f x : Addr)
  /-- a range object lo, lo + 1, .. below hi -/
  | rng (lo hi : Int)
  /-- a thing that is known to the object (the script; a dict while a loop walks it): read, never written while it is so -/
  | frz (o : Obj) (u : HO)
  /-- a code object's table -/
  | tbl (ps : Array Value)
  /-- any other thing, by what is true of its one object (a def of one's own: SetO a S n := HO.ext fun h => ..) -/
  | ext (φ : Heap → Prop)
abbrev Hp := Addr → Option HO
def upd (H : Hp) (a : Addr) (o : HO) : Hp := fun b => if b = a then some o else H b
theorem upd_same {H : Hp} {a : Addr} {o : HO} : upd H a o a = some o := by unfold upd; rw [if_pos rfl]
theorem upd_ne {H : Hp} {a b : Addr} {o : HO} (h : b ≠ a) : upd H a o b = H b := by unfold upd; rw [if_neg h]
/-- two objects of different content stand apart -/
theorem ne_of {H : Hp} {a b : Addr} {o u : HO} (h : H a = some o) (h' : H b = some u) (d : o ≠ u) : a ≠ b := by
  intro e; subst e; rw [h] at h'; exact d (Option.some.inj h')
theorem ne_of_none {H : Hp} {a b : Addr} {o : HO} (h : H a = some o) (h' : H b = none) : a ≠ b := by
  intro e; subst e; rw [h] at h'; cases h'
section
variable (P : Program) (w : World)
def ObjOk (H : Hp) (h : Heap) (a : Addr) : HO → Prop
  | .lst xs => xs.length ≤ sizeLine ∧ ∃ (its : List Value) (n : Nat), Vals xs its ∧ h.get? a = some { cls := .type "list", data := .seq its.toArray n }
  | .tup xs => xs.length ≤ sizeLine ∧ ∃ its : List Value, Vals xs its ∧ IsTup h a its.toArray
  | .dK kvs => kvs.length ≤ sizeLine ∧ (a == sysModules) = false ∧ ∃ vs, KV kvs vs ∧ h.DictOf (mixKind P w) a vs
  | .dT kvs => kvs.length ≤ sizeLine ∧ (a == sysModules) = false ∧ ∃ xs : List (List Key × Addr × Value),
      Paired (fun (p : List Key × V) (q : List Key × Addr × Value) => p.1 = q.1 ∧ H q.2.1 = some (.tup (p.1.map kV)) ∧ RelV p.2 q.2.2) kvs xs ∧
      ∃ o es ep, h.get? a = some o ∧ o.ExactDict ∧ o.data = .dict es ep ∧ es.toList = xs.map (entryOfKey (tupleKind (mixKind P w))) ∧ (xs.map (·.1)).Nodup
  | .set S n => h.SetOf (intKind P w) a S n
  | .ins C dx fs => H dx = some (.own a) ∧ fs.length ≤ 1000 ∧ dx ≠ a ∧ h.get? a = some (PySem.W.instObj C dx) ∧
      ∃ mA, h.Ns1 dx mA ∧ (∀ f, RelO (fs.lookup f) (mA f)) ∧ PySem.Within mA (fs.map (·.1))
  | .own _ => ∃ o, h.get? a = some o
  | .xd fs => ∃ mA, h.Ns1 a mA ∧ ∀ f, RelO (fs.lookup f) (mA f)
  | .rng lo hi => ∃ t u v, h.get? a = some { cls := .type "range", data := .fields #[.int lo t, .int hi u, .int 1 v] }
  | .frz o u => h.get? a = some o ∧ ObjOk H h a u
  | .tbl ps => h.get? a = some { cls := .none, data := .fields ps }
  | .met f x => h.get? a = some (PySem.W.methodObj (.ref f) (.ref x))
  | .ext φ => φ h ∧ (∃ o, h.get? a = some o) ∧ ∀ h1 h2 : Heap, φ h1 → (∀ o, h1.get? a = some o → h2.get? a = some o) → φ h2
/-- the abstract heap is held -/
def HOk (H : Hp) (h : Heap) : Prop := ∀ a o, H a = some o → ObjOk P w H h a o
end
section
variable {P : Program} {w : World} {H H' : Hp} {h h' : Heap} {a : Addr} {o : HO}
theorem ObjOk.lt (x : ObjOk P w H h a o) : a < h.objs.size := by
  cases o with
  | lst xs => obtain ⟨_, _, _, _, e⟩ := x; exact Heap.lt_size e
  | tup xs => obtain ⟨_, _, _, p⟩ := x; exact p.lt
  | dK kvs => obtain ⟨_, _, _, _, o, _, _, e, _⟩ := x; exact Heap.lt_size e
  | dT kvs => obtain ⟨_, _, _, _, o, _, _, e, _⟩ := x; exact Heap.lt_size e
  | set S n => obtain ⟨o, _, _, _, e, _⟩ := x; exact Heap.lt_size e
  | ins C dx fs => obtain ⟨_, _, _, e, _⟩ := x; exact Heap.lt_size e
  | own y => obtain ⟨_, e⟩ := x; exact Heap.lt_size e
  | xd fs => obtain ⟨_, ⟨_, _, _, e, _⟩, _⟩ := x; exact Heap.lt_size e
  | rng lo hi => obtain ⟨_, _, _, e⟩ := x; exact Heap.lt_size e
  | frz ob u => obtain ⟨e, _⟩ := x; exact Heap.lt_size e
  | tbl ps => exact Heap.lt_size (show h.get? a = some _ from x)
  | met f y => exact Heap.lt_size (show h.get? a = some _ from x)
  | ext φ => obtain ⟨_, ⟨_, e⟩, _⟩ := x; exact Heap.lt_size e
theorem Paired.mapP {α β : Type} {F G : α → β → Prop} : ∀ {l₁ : List α} {l₂ : List β}, Paired F l₁ l₂ → (∀ a b, F a b → G a b) → Paired G l₁ l₂
  | _, _, .nil, _ => .nil
  | _, _, .cons r t, f => .cons (f _ _ r) (Paired.mapP t f)
/-- what an object's description leans on: its own object, its own dict, the tuples -/
theorem ObjOk.stay (x : ObjOk P w H h a o) (k : ∀ b u, (b = a ∨ H b = some (.own a)) → h.get? b = some u → h'.get? b = some u)
    (ho : ∀ b, H b = some (.own a) → H' b = some (.own a)) (ht : ∀ b xs, H b = some (.tup xs) → H' b = some (.tup xs)) : ObjOk P w H' h' a o := by
  induction o with
  | lst xs => obtain ⟨z, its, n, r, e⟩ := x; exact ⟨z, its, n, r, k _ _ (.inl rfl) e⟩
  | tup xs => obtain ⟨z, its, r, ob, e, c⟩ := x; exact ⟨z, its, r, ob, k _ _ (.inl rfl) e, c⟩
  | dK kvs => obtain ⟨z, y, vs, r, ob, es, ep, e, c⟩ := x; exact ⟨z, y, vs, r, ob, es, ep, k _ _ (.inl rfl) e, c⟩
  | dT kvs =>
    obtain ⟨z, y, xs, r, ob, es, ep, e, c⟩ := x
    exact ⟨z, y, xs, Paired.mapP r fun p q z => ⟨z.1, ht _ _ z.2.1, z.2.2⟩, ob, es, ep, k _ _ (.inl rfl) e, c⟩
  | set S n => obtain ⟨ob, es, ep, t, e, c⟩ := x; exact ⟨ob, es, ep, t, k _ _ (.inl rfl) e, c⟩
  | ins C dx fs =>
    obtain ⟨d, z, ne, e, mA, ⟨od, es, ep, e2, c⟩, r⟩ := x
    exact ⟨ho _ d, z, ne, k _ _ (.inl rfl) e, mA, ⟨od, es, ep, k _ _ (.inr d) e2, c⟩, r⟩
  | own y => obtain ⟨ob, e⟩ := x; exact ⟨ob, k _ _ (.inl rfl) e⟩
  | xd fs => obtain ⟨mA, ⟨od, es, ep, e, c⟩, r⟩ := x; exact ⟨mA, ⟨od, es, ep, k _ _ (.inl rfl) e, c⟩, r⟩
  | rng lo hi => obtain ⟨t, u, v, e⟩ := x; exact ⟨t, u, v, k _ _ (.inl rfl) e⟩
  | frz ob u ih => obtain ⟨e, q⟩ := x; exact ⟨k _ _ (.inl rfl) e, ih q⟩
  | tbl ps =>
    have e : h.get? a = some { cls := .none, data := .fields ps } := x
    show h'.get? a = some { cls := .none, data := .fields ps }
    exact k a _ (.inl rfl) e
  | met f y =>
    have e : h.get? a = some (PySem.W.methodObj (.ref f) (.ref y)) := x
    show h'.get? a = some (PySem.W.methodObj (.ref f) (.ref y))
    exact k a _ (.inl rfl) e
  | ext φ => obtain ⟨p, ⟨o, e⟩, st⟩ := x; exact ⟨st _ _ p fun o q => k _ _ (.inl rfl) q, ⟨o, k _ _ (.inl rfl) e⟩, st⟩
theorem HOk.lt (x : HOk P w H h) (e : H a = some o) : a < h.objs.size := (x a o e).lt
theorem HOk.fresh (x : HOk P w H h) (e : h.objs.size ≤ a) : H a = none := by
  cases q : H a with
  | none => rfl
  | some u => exact absurd (Nat.lt_of_lt_of_le (x.lt q) e) (Nat.lt_irrefl _)
/-- every object of the heap is kept -/
theorem HOk.kept (x : HOk P w H h) (k : ∀ b u, h.get? b = some u → h'.get? b = some u) : HOk P w H h' := fun a o e =>
  (x a o e).stay (fun b u _ q => k b u q) (fun _ q => q) fun _ _ q => q
/-- a new object is laid and tracked -/
theorem HOk.laid (x : HOk P w H h) (k : ∀ b u, h.get? b = some u → h'.get? b = some u) (hp : h.objs.size ≤ a) (new : ObjOk P w (upd H a o) h' a o) : HOk P w (upd H a o) h' := fun b u e => by
  have hn := x.fresh hp
  by_cases hb : b = a
  · subst hb; rw [upd_same] at e; cases e; exact new
  · rw [upd_ne hb] at e
    exact (x b u e).stay (fun c v _ q => k c v q) (fun c q => by rw [upd_ne (ne_of_none q hn)]; exact q) fun c xs q => by rw [upd_ne (ne_of_none q hn)]; exact q
end
/-- what may be read as u: it is u, or a known u -/
def Rd (H : Hp) (a : Addr) (u : HO) : Prop := H a = some u ∨ ∃ o, H a = some (.frz o u)
theorem Rd.ok {P : Program} {w : World} {H : Hp} {h : Heap} {a : Addr} {u : HO} (r : Rd H a u) (x : HOk P w H h) : ObjOk P w H h a u := by
  rcases r with r | ⟨o, r⟩
  · exact x a u r
  · obtain ⟨_, q⟩ := x a _ r
    exact q
/-- what may be written -/
def Mut : Option HO → Prop
  | some (.lst _) => True
  | some (.dK _) => True
  | some (.dT _) => True
  | some (.set _ _) => True
  | some (.ins _ _ _) => True
  | some (.ext _) => True
  | _ => False
section
variable {P : Program} {w : World} {H : Hp} {h h' : Heap} {x e : Addr} {o' : HO}
/-- the object at e is changed: x itself, or the dict of the instance x -/
theorem HOk.write (ok : HOk P w H h) (mu : Mut (H x)) (he : e = x ∨ H e = some (.own x)) (k : ∀ b u, b ≠ e → h.get? b = some u → h'.get? b = some u) (heo : ∃ u, h'.get? e = some u)
    (new : ObjOk P w (upd H x o') h' x o') : HOk P w (upd H x o') h' := fun b u q => by
  have nown : ∀ c y, H c = some (.own y) → c ≠ x := fun c y r z => by subst z; rw [r] at mu; exact mu
  have ntup : ∀ c xs, H c = some (.tup xs) → c ≠ x := fun c xs r z => by subst z; rw [r] at mu; exact mu
  by_cases hb : b = x
  · subst hb; rw [upd_same] at q; cases q; exact new
  · rw [upd_ne hb] at q
    by_cases hbe : b = e
    · have q' : H b = some (.own x) := by
        rcases he with z | z
        · exact absurd (hbe.trans z) hb
        · rw [hbe]; exact z
      rw [q] at q'; cases q'
      obtain ⟨v, hv⟩ := heo
      exact ⟨v, by rw [hbe]; exact hv⟩
    · refine (ok b u q).stay (fun c v hc r => k c v ?_ r) (fun c r => by rw [upd_ne (nown c b r)]; exact r) fun c xs r => by rw [upd_ne (ntup c xs r)]; exact r
      rcases hc with rfl | hc
      · exact hbe
      · rintro rfl
        rcases he with z | z
        · exact nown c b hc z
        · rw [hc] at z; cases z; exact hb rfl
end
structure Un (fs ex : List Addr) (H H' : Hp) (h h' : Heap) : Prop where
  keep : ∀ b o, h.get? b = some o → H b = none → b ∉ fs → b ∉ ex → h'.get? b = some o
  slot : ∀ b o, h.get? b = some o → H b = none → b ∈ fs → b ∉ ex → ∃ sl, h'.get? b = some { o with slots := sl }
  free : ∀ b o, h.get? b = some o → H b = none → b ∉ ex → H' b = none
  there : ∀ b o, h.get? b = some o → b ∉ ex → ∃ o', h'.get? b = some o'
  tups : ∀ b xs, H b = some (.tup xs) → H' b = some (.tup xs)
  frzs : ∀ b o u, H b = some (.frz o u) → H' b = some (.frz o u)
  tbls : ∀ b ps, H b = some (.tbl ps) → ∃ more, H' b = some (.tbl (ps ++ more))
section
variable {fs fs' ex ex' : List Addr} {H H1 H2 : Hp} {h h1 h2 h' : Heap} {a x e : Addr} {o : HO}
theorem Un.any (u : Un fs ex H H1 h h1) {b : Addr} {ob : Obj} (q : h.get? b = some ob) (n : H b = none) (hx : b ∉ ex) : ∃ sl, h1.get? b = some { ob with slots := sl } := by
  by_cases hb : b ∈ fs
  · exact u.slot b ob q n hb hx
  · exact ⟨ob.slots, u.keep b ob q n hb hx⟩
theorem Un.kept (k : ∀ b u, h.get? b = some u → h'.get? b = some u) : Un fs ex H H h h' :=
  ⟨fun b ob q _ _ _ => k b ob q, fun b ob q _ _ _ => ⟨ob.slots, k b ob q⟩, fun _ _ _ n _ => n, fun b ob q _ => ⟨ob, k b ob q⟩, fun _ _ q => q, fun _ _ _ q => q, fun _ ps q => ⟨#[], by rw [q]; simp⟩⟩
theorem Un.refl : Un fs ex H H h h := Un.kept fun _ _ q => q
theorem Un.laid (k : ∀ b u, h.get? b = some u → h'.get? b = some u) (hp : h.objs.size ≤ a) (hn : H a = none) : Un fs ex H (upd H a o) h h' where
  keep := fun b u q _ _ _ => k b u q
  slot := fun b u q _ _ _ => ⟨u.slots, k b u q⟩
  free := fun b u q n _ => by rw [upd_ne (Nat.ne_of_lt (Nat.lt_of_lt_of_le (Heap.lt_size q) hp))]; exact n
  there := fun b u q _ => ⟨u, k b u q⟩
  tups := fun b xs q => by rw [upd_ne (ne_of_none q hn)]; exact q
  frzs := fun b u xs q => by rw [upd_ne (ne_of_none q hn)]; exact q
  tbls := fun b ps q => ⟨#[], by rw [upd_ne (ne_of_none q hn), q]; simp⟩
theorem Un.write (mu : Mut (H x)) (he : e = x ∨ H e = some (.own x)) (k : ∀ b u, b ≠ e → h.get? b = some u → h'.get? b = some u) (heo : ∃ u, h'.get? e = some u) : Un fs ex H (upd H x o) h h' := by
  have hx : ∀ b, H b = none → b ≠ x := fun b n z => by subst z; rw [n] at mu; exact mu
  have hb : ∀ b, H b = none → b ≠ e := fun b n z => by
    subst z
    rcases he with r | r
    · exact hx b n r
    · rw [n] at r; cases r
  have hm : ∀ b u, H b = some u → ¬ Mut (some u) → b ≠ x := fun b u q nm z => by subst z; rw [q] at mu; exact nm mu
  refine ⟨fun b u q n _ _ => k b u (hb b n) q, fun b u q n _ _ => ⟨u.slots, k b u (hb b n) q⟩, fun b u q n _ => by rw [upd_ne (hx b n)]; exact n, fun b u q _ => ?_,
    fun b xs q => by rw [upd_ne (hm b _ q fun z => z)]; exact q, fun b u xs q => by rw [upd_ne (hm b _ q fun z => z)]; exact q, fun b ps q => ⟨#[], by rw [upd_ne (hm b _ q fun z => z), q]; simp⟩⟩
  by_cases hbe : b = e
  · subst hbe; exact heo
  · exact ⟨u, k b u hbe q⟩
end
def trk (h : Heap) (H : Hp) : List Addr := (List.range h.objs.size).filter fun a => (H a).isSome
def hidT (h : Heap) (H : Hp) : Heap := PySem.W.hideAll h (trk h H)
theorem hidT_size (h : Heap) (H : Hp) : (hidT h H).objs.size = h.objs.size := PySem.W.hideAll_size _ _
theorem hidT_get {h : Heap} {H : Hp} {b : Addr} {o : Obj} (e : h.get? b = some o) (n : H b = none) : (hidT h H).get? b = some o :=
  PySem.W.hideAll_get _ e fun hm => by
    have q : (H b).isSome = true := (List.mem_filter.mp hm).2
    rw [n] at q; simp at q
theorem of_hidT {h : Heap} {H : Hp} {b : Addr} {o : Obj} (e : (hidT h H).get? b = some o) : h.get? b = some o ∧ H b = none := by
  have e' : h.get? b = some o := PySem.W.of_hideAll (trk h H) e
  refine ⟨e', ?_⟩
  cases q : H b with
  | none => rfl
  | some x =>
    have hm : b ∈ trk h H := List.mem_filter.mpr ⟨List.mem_range.mpr (Heap.lt_size e'), by simp [q]⟩
    have z : (hidT h H).get? b = none := PySem.W.hideAll_none (trk h H) hm
    rw [z] at e; cases e
end L2
namespace L2
open PySem PySem.Spec PyProof.Rows
/-- the module's facts, over the base: the heap at the law's entry without what is tracked there -/
structure Mod (K : PySem.W.Frag) (mg : Str → Option Value) (base : Heap) : Prop where
  kin : K.In base
  glob : base.Ns mainGlobals mg
  blt : ∃ mb, base.Ns builtinsNs mb ∧ ∀ x : Str, x ≠ "__name__" → mb x = bootBuiltins x
  nolimit : base.NoLimit
/-- the context: a def's body (or a comprehension's block) running. base: fixed through the whole law; s₀, H₀: the entry; outer: the frames whose slots others may change (a def's callers); stack: all frames that run;
   ex: iterators that were made ahead of the entry and are walked here (a comprehension's); fn: the names whose cells were made at the entry (a def: all; a comprehension's block: its own); calm: not within an except suite; pn: pins that every state bears; xe: what is wanted of an exception that leaves the code -/
structure Cx where
  prog : Program
  w : World
  K : PySem.W.Frag
  mg : Str → Option Value
  base : Heap
  A : Around
  N : List Str
  s_0 : Shared
  H_0 : Hp
  env : Env
  outer : List Env
  stack : List Env
  ex : List Addr
  fn : Str → Bool
  calm : Bool
  pn : List (Addr × Obj)
  xe : Value → Shared → Prop
/-- the callers' frames -/
def frs (l : List Env) : List Addr := l.filterMap (·.frame)
abbrev Cx.fs (X : Cx) : List Addr := frs X.outer
def Vis (sc : Scope) (x : Str) : Prop := sc.names.lookup x = some .local ∨ sc.names.lookup x = some .cell ∨ sc.names.lookup x = some .free
def Loc (sc : Scope) (x : Str) : Prop := sc.names.lookup x = some .local ∨ sc.names.lookup x = some .cell
def Look (env : Env) (h : Heap) (m : Str → Option Value) (x : Str) (u : Value) : Prop :=
  (env.kindOf x = some .local ∧ m x = some u) ∨ ((env.kindOf x = some .cell ∨ env.kindOf x = some .free) ∧ ∃ c, env.cells.lookup x = some c ∧ h.IsCell c (some u))
structure Cx.Ok (X : Cx) : Prop where
  mod : Mod X.K X.mg X.base
  kind : X.env.scope.kind = .function
  glob : X.env.globals = mainGlobals
  blt : X.env.builtins = builtinsNs
  above : X.s_0.heap.objs.size ≤ X.env.locals
  inj : ∀ x y c, X.env.cells.lookup x = some c → X.env.cells.lookup y = some c → x = y
  has : ∀ x, (X.env.kindOf x = some .cell ∨ X.env.kindOf x = some .free) → ∃ c, X.env.cells.lookup x = some c
  cab : ∀ x c, X.fn x = true → X.env.cells.lookup x = some c → X.s_0.heap.objs.size ≤ c
  hd : X.calm = true → X.A.handled = none
  frames : X.A.frames = some X.stack
  stk : X.stack = X.outer ∨ (X.stack = X.env :: X.outer ∧ X.env.frame = some X.env.locals)
  exf : ∀ b ∈ X.ex, b ≠ X.env.locals ∧ ∀ x c, X.env.cells.lookup x = some c → c ≠ b
  bs : ∀ b o, X.base.get? b = some o → X.s_0.heap.get? b = some o ∧ X.H_0 b = none
  bsz : X.base.objs.size ≤ X.s_0.heap.objs.size
  noex : ∀ b o, X.base.get? b = some o → b ∉ X.ex
  exfs : ∀ b ∈ X.ex, b ∉ X.fs
  funs : X.s_0.heap.FunFrames X.base X.outer
  frf : ∀ b ∈ X.fs, X.H_0 b = none
structure Inv (X : Cx) (pins : List (Addr × Obj)) (σ : List (Option V)) (H : Hp) (s : Shared) : Prop where
  ok : X.Ok
  os : s.os = X.s_0.os
  bare : AllBare s.gens
  base : Un X.fs X.ex X.H_0 H X.s_0.heap s.heap
  loc : ∃ m, s.heap.Ns X.env.locals m ∧ ∀ (i : Nat) (x : Str) (v : V), X.N[i]? = some x → σ[i]? = some (some v) → Vis X.env.scope x → ∃ u, RelV v u ∧ Look X.env s.heap m x u
  cell : ∀ x c, X.env.cells.lookup x = some c → ∃ v, s.heap.IsCell c v
  free : H X.env.locals = none
  freeC : ∀ x c, X.env.cells.lookup x = some c → H c = none
  pin : ∀ p ∈ X.pn ++ pins, s.heap.get? p.1 = some p.2 ∧ H p.1 = none ∧ p.1 ≠ X.env.locals ∧ p.1 ∉ X.fs ∧ ∀ v, p.2.data ≠ .cell v
  hok : HOk X.prog X.w H s.heap
  len : σ.length = X.N.length
section
variable {X : Cx} {pins : List (Addr × Obj)} {σ : List (Option V)} {H H' : Hp} {s : Shared} {h' : Heap}
theorem Cx.Ok.nofr (ok : X.Ok) {b : Addr} {o : Obj} (e : X.base.get? b = some o) : b ∉ X.fs := fun hb => by
  have := (ok.funs.mem hb).1
  rw [e] at this; cases this
theorem Inv.bs (I : Inv X pins σ H s) : ∀ b o, X.base.get? b = some o → s.heap.get? b = some o ∧ H b = none := fun b o e =>
  ⟨I.base.keep b o (I.ok.bs b o e).1 (I.ok.bs b o e).2 (I.ok.nofr e) (I.ok.noex b o e), I.base.free b o (I.ok.bs b o e).1 (I.ok.bs b o e).2 (I.ok.noex b o e)⟩
theorem Inv.bk (I : Inv X pins σ H s) : ∀ b o, X.base.get? b = some o → s.heap.get? b = some o := fun b o e => (I.bs b o e).1
theorem Inv.mod (I : Inv X pins σ H s) : Mod X.K X.mg X.base := I.ok.mod
theorem Inv.kIn (I : Inv X pins σ H s) : X.K.In s.heap := I.ok.mod.kin.keeps I.bk
theorem Inv.lt (I : Inv X pins σ H s) : X.env.locals < s.heap.objs.size := let ⟨_, hn, _⟩ := I.loc; hn.lt
theorem Inv.sz (I : Inv X pins σ H s) : X.s_0.heap.objs.size ≤ s.heap.objs.size := Nat.le_trans I.ok.above (Nat.le_of_lt I.lt)
theorem Inv.nofs (I : Inv X pins σ H s) {a : Addr} (h : s.heap.objs.size ≤ a) : a ∉ X.fs := fun hb => by
  obtain ⟨_, o, ho, _⟩ := I.ok.funs.mem hb
  exact absurd (Nat.lt_of_lt_of_le (Heap.lt_size ho) (Nat.le_trans I.sz h)) (Nat.lt_irrefl _)
theorem Inv.cne (I : Inv X pins σ H s) : ∀ x c, X.env.cells.lookup x = some c → c ≠ X.env.locals := fun x c e z => by
  obtain ⟨v, o, ho, hd⟩ := I.cell x c e
  obtain ⟨m, ⟨o', es, ep, ho', hd', _⟩, _⟩ := I.loc
  rw [z, ho'] at ho; cases ho; rw [hd'] at hd; cases hd
theorem Inv.funs (I : Inv X pins σ H s) : s.heap.FunFrames X.base X.outer := by
  have all : ∀ (l : List Env), (∀ b ∈ frs l, b ∈ X.fs) → X.s_0.heap.FunFrames X.base l → s.heap.FunFrames X.base l := by
    intro l
    induction l with
    | nil => intro _ _; trivial
    | cons env r ih =>
      intro hs hl
      obtain ⟨hk, ⟨L, o, hf, hn, ho, hd⟩, hr⟩ := hl
      have hL : L ∈ X.fs := hs L (by unfold frs; rw [List.filterMap_cons, hf]; exact List.mem_cons_self)
      obtain ⟨sl, e⟩ := I.base.slot L o ho (I.ok.frf L hL) hL fun z => I.ok.exfs L z hL
      exact ⟨hk, ⟨L, _, hf, hn, e, hd⟩, ih (fun b hb => hs b (by unfold frs; rw [List.filterMap_cons, hf]; exact List.mem_cons_of_mem _ hb)) hr⟩
  exact all X.outer (fun _ hb => hb) I.ok.funs
/-- the frames that run, for a call -/
theorem Inv.stack (I : Inv X pins σ H s) : s.heap.FunFrames X.base X.stack := by
  rcases I.ok.stk with e | ⟨e, hf⟩
  · rw [e]; exact I.funs
  · rw [e]
    obtain ⟨m, hn, _⟩ := I.loc
    refine .cons (by rw [I.ok.kind]; decide) hf hn ?_ I.funs
    exact Heap.get?_none_of_le (Nat.le_trans I.ok.bsz I.ok.above)
theorem Inv.stkSub (I : Inv X pins σ H s) : ∀ b ∈ frs X.stack, b ∈ X.env.locals :: X.fs := fun b hb => by
  rcases I.ok.stk with e | ⟨e, hf⟩
  · rw [e] at hb; exact List.mem_cons_of_mem _ hb
  · rw [e] at hb
    unfold frs at hb
    rw [List.filterMap_cons, hf] at hb
    exact hb
theorem Inv.stkFree (I : Inv X pins σ H s) : ∀ b ∈ frs X.stack, H b = none := fun b hb => by
  rcases List.mem_cons.mp (I.stkSub b hb) with e | hb
  · rw [e]; exact I.free
  · obtain ⟨_, o, ho, _⟩ := I.ok.funs.mem hb
    exact I.base.free b o ho (I.ok.frf b hb) fun z => I.ok.exfs b z hb
/-- THE STEP: the untracked objects but the frame and the records at ch are kept (the callers' frames up to slots), the frame's map is kept, the new abstract heap is held -/
theorem Inv.step {g' : Array GenState} {t' : Nat} {d' : Drawn} {ch : List Addr} (I : Inv X pins σ H s)
    (hch : ∀ b ∈ ch, (b ∈ X.ex ∨ X.s_0.heap.objs.size ≤ b) ∧ b ≠ X.env.locals ∧ (∀ x c, X.env.cells.lookup x = some c → c ≠ b) ∧ ∀ p ∈ X.pn ++ pins, p.1 ≠ b)
    (keep : ∀ b o, b ≠ X.env.locals → b ∉ X.fs → b ∉ ch → s.heap.get? b = some o → H b = none → h'.get? b = some o)
    (slot : ∀ b o, b ≠ X.env.locals → b ∈ X.fs → b ∉ ch → s.heap.get? b = some o → H b = none → ∃ sl, h'.get? b = some { o with slots := sl }) (free : ∀ b o, b ∉ ch → s.heap.get? b = some o → H b = none → H' b = none)
    (there : ∀ b o, b ∉ ch → s.heap.get? b = some o → ∃ o', h'.get? b = some o')
    (tups : ∀ b xs, H b = some (.tup xs) → H' b = some (.tup xs)) (frzs : ∀ b o u, H b = some (.frz o u) → H' b = some (.frz o u)) (tbls : ∀ b ps, H b = some (.tbl ps) → ∃ more, H' b = some (.tbl (ps ++ more)))
    (ns : ∀ m, s.heap.Ns X.env.locals m → h'.Ns X.env.locals m) (hok : HOk X.prog X.w H' h') (hg : AllBare g') :
    Inv X pins σ H' { s with heap := h', gens := g', drawn := d', toks := t' } := by
  have neL : ∀ b o, X.s_0.heap.get? b = some o → b ≠ X.env.locals := fun b o e => Nat.ne_of_lt (Nat.lt_of_lt_of_le (Heap.lt_size e) I.ok.above)
  have neC : ∀ b o, X.s_0.heap.get? b = some o → b ∉ X.ex → b ∉ ch := fun b o e hx hb => by
    rcases (hch b hb).1 with z | z
    · exact hx z
    · exact absurd (Nat.lt_of_lt_of_le (Heap.lt_size e) z) (Nat.lt_irrefl _)
  have cellK : ∀ x c, X.env.cells.lookup x = some c → ∀ v, s.heap.IsCell c v → h'.IsCell c v := fun x c e v ⟨o, ho, hd⟩ => by
    have nch : c ∉ ch := fun z => (hch c z).2.2.1 x c e rfl
    by_cases hc : c ∈ X.fs
    · obtain ⟨sl, q⟩ := slot c o (I.cne x c e) hc nch ho (I.freeC x c e)
      exact ⟨_, q, hd⟩
    · exact ⟨o, keep c o (I.cne x c e) hc nch ho (I.freeC x c e), hd⟩
  refine ⟨I.ok, I.os, hg, ⟨fun b o e n hb hx => ?_, fun b o e n hb hx => ?_, fun b o e n hx => ?_, fun b o e hx => ?_, fun b xs e => tups b xs (I.base.tups b xs e), fun b o xs e => frzs b o xs (I.base.frzs b o xs e), fun b ps e => ?_⟩, ?_, fun x c e => ?_, ?_, fun x c e => ?_, fun p hp => ?_, hok, I.len⟩
  · exact keep b o (neL b o e) hb (neC b o e hx) (I.base.keep b o e n hb hx) (I.base.free b o e n hx)
  · obtain ⟨sl, e1⟩ := I.base.slot b o e n hb hx
    obtain ⟨sl', e2⟩ := slot b _ (neL b o e) hb (neC b o e hx) e1 (I.base.free b o e n hx)
    exact ⟨sl', e2⟩
  · obtain ⟨o', e1⟩ := I.base.there b o e hx
    exact free b o' (neC b o e hx) e1 (I.base.free b o e n hx)
  · obtain ⟨o', e1⟩ := I.base.there b o e hx
    exact there b o' (neC b o e hx) e1
  · obtain ⟨m1, e1⟩ := I.base.tbls b ps e
    obtain ⟨m2, e2⟩ := tbls b _ e1
    exact ⟨m1 ++ m2, by rw [e2, Array.append_assoc]⟩
  · obtain ⟨m, hn, hl⟩ := I.loc
    refine ⟨m, ns m hn, fun i x v e1 e2 e3 => ?_⟩
    obtain ⟨u, r, l⟩ := hl i x v e1 e2 e3
    refine ⟨u, r, ?_⟩
    rcases l with l | ⟨k, c, e, z⟩
    · exact .inl l
    · exact .inr ⟨k, c, e, cellK x c e _ z⟩
  · obtain ⟨v, z⟩ := I.cell x c e
    exact ⟨v, cellK x c e v z⟩
  · obtain ⟨m, ⟨o, _, _, ho, _⟩, _⟩ := I.loc
    exact free _ o (fun z => (hch _ z).2.1 rfl) ho I.free
  · obtain ⟨v, o, ho, hd⟩ := I.cell x c e
    exact free c o (fun z => (hch c z).2.2.1 x c e rfl) ho (I.freeC x c e)
  · obtain ⟨e, n, ne, nf, d⟩ := I.pin p hp
    have nch : p.1 ∉ ch := fun z => (hch p.1 z).2.2.2 p hp rfl
    exact ⟨keep p.1 p.2 ne nf nch e n, free p.1 p.2 nch e n, ne, nf, d⟩
/-- .. where the frame's own object is kept too -/
theorem Inv.un {t' : Nat} (I : Inv X pins σ H s) (u : Un X.fs [] H H' s.heap h') (hok : HOk X.prog X.w H' h') : Inv X pins σ H' { s with heap := h', toks := t' } := by
  obtain ⟨m, ⟨o, es, ep, ho, r⟩, _⟩ := id I.loc
  obtain ⟨sl, hL⟩ := u.any ho I.free (by simp)
  exact I.step (g' := s.gens) (d' := s.drawn) (ch := []) (fun _ z => nomatch z) (fun b o _ hb _ e n => u.keep b o e n hb (by simp)) (fun b o _ hb _ e n => u.slot b o e n hb (by simp)) (fun b o _ e n => u.free b o e n (by simp)) (fun b o _ e => u.there b o e (by simp)) u.tups u.frzs u.tbls (fun m' hm => by
    obtain ⟨o', es', ep', ho', r'⟩ := hm
    rw [ho] at ho'; cases ho'
    exact ⟨_, es', ep', hL, r'⟩) hok I.bare
/-- behind a call (or a comprehension's block): the slots of this frame may have changed too, the records at ch may have turned -/
theorem Inv.call {g' : Array GenState} {t' : Nat} {d' : Drawn} {ch : List Addr} (I : Inv X pins σ H s) (u : Un (frs X.stack) ch H H' s.heap h') (hok : HOk X.prog X.w H' h') (hg : AllBare g')
    (hch : ∀ b ∈ ch, (b ∈ X.ex ∨ X.s_0.heap.objs.size ≤ b) ∧ b ≠ X.env.locals ∧ (∀ x c, X.env.cells.lookup x = some c → c ≠ b) ∧ ∀ p ∈ X.pn ++ pins, p.1 ≠ b) :
    Inv X pins σ H' { s with heap := h', gens := g', drawn := d', toks := t' } := by
  obtain ⟨m, ⟨o, es, ep, ho, r⟩, _⟩ := id I.loc
  obtain ⟨sl, hL⟩ := u.any ho I.free fun z => (hch _ z).2.1 rfl
  exact I.step (ch := ch) hch (fun b o hL hb hc e n => u.keep b o e n (fun z => (List.mem_cons.mp (I.stkSub b z)).elim hL hb) hc) (fun b o _ _ hc e n => u.any e n hc) (fun b o hc e n => u.free b o e n hc) (fun b o hc e => u.there b o e hc) u.tups u.frzs u.tbls (fun m' hm => by
    obtain ⟨o', es', ep', ho', r'⟩ := hm
    rw [ho] at ho'; cases ho'
    exact ⟨_, es', ep', hL, r'⟩) hok hg
/-- an untracked record of ours (an iterator) has turned -/
theorem Inv.turned {t' : Nat} {it : Addr} (I : Inv X pins σ H s) (k : ∀ b o, b ≠ it → s.heap.get? b = some o → h'.get? b = some o) (hn : H it = none) (hL : it ≠ X.env.locals)
    (h1 : it ∈ X.ex ∨ X.s_0.heap.objs.size ≤ it) (h2 : ∀ x c, X.env.cells.lookup x = some c → c ≠ it) (h3 : ∀ p ∈ X.pn ++ pins, p.1 ≠ it) : Inv X pins σ H { s with heap := h', toks := t' } := by
  have nit : ∀ b u, H b = some u → b ≠ it := fun b u e z => by rw [z, hn] at e; cases e
  refine I.step (g' := s.gens) (d' := s.drawn) (ch := [it]) (fun b hb => ?_) (fun b o _ _ hc e _ => k b o (fun z => hc (by simp [z])) e) (fun b o _ _ hc e _ => ⟨o.slots, k b o (fun z => hc (by simp [z])) e⟩) (fun _ _ _ _ n => n)
    (fun b o hc e => ⟨o, k b o (fun z => hc (by simp [z])) e⟩) (fun _ _ e => e) (fun _ _ _ e => e) (fun b ps e => ⟨#[], by rw [e]; simp⟩) (fun m hm => ?_) (fun b u e => ?_) I.bare
  · have e : b = it := by simpa using hb
    subst e
    exact ⟨h1, hL, h2, h3⟩
  · obtain ⟨o, es, ep, ho, r⟩ := hm
    exact ⟨o, es, ep, k _ o (Ne.symm hL) ho, r⟩
  · refine (I.hok b u e).stay (fun c v hc q => k c v ?_ q) (fun _ q => q) fun _ _ q => q
    rcases hc with z | z
    · rw [z]; exact nit b u e
    · exact nit c _ z
theorem Inv.tok (I : Inv X pins σ H s) (t : Nat) : Inv X pins σ H { s with toks := t } := I.un (h' := s.heap) (t' := t) Un.refl I.hok
/-- all objects kept -/
theorem Inv.kept {t' : Nat} (I : Inv X pins σ H s) (k : ∀ b u, s.heap.get? b = some u → h'.get? b = some u) : Inv X pins σ H { s with heap := h', toks := t' } := I.un (Un.kept k) (I.hok.kept k)
/-- a new object laid and tracked -/
theorem Inv.laid {a : Addr} {o : HO} {t' : Nat} (I : Inv X pins σ H s) (k : ∀ b u, s.heap.get? b = some u → h'.get? b = some u) (hp : s.heap.objs.size ≤ a) (new : ObjOk X.prog X.w (upd H a o) h' a o) :
    Inv X pins σ (upd H a o) { s with heap := h', toks := t' } := I.un (Un.laid k hp (I.hok.fresh hp)) (I.hok.laid k hp new)
/-- an object written -/
theorem Inv.write {x e : Addr} {o : HO} {t' : Nat} (I : Inv X pins σ H s) (mu : Mut (H x)) (he : e = x ∨ H e = some (.own x)) (k : ∀ b u, b ≠ e → s.heap.get? b = some u → h'.get? b = some u) (heo : ∃ u, h'.get? e = some u)
    (new : ObjOk X.prog X.w (upd H x o) h' x o) : Inv X pins σ (upd H x o) { s with heap := h', toks := t' } := I.un (Un.write mu he k heo) (I.hok.write mu he k heo new)
/-- forgetting slots, pins -/
theorem Inv.weak {σ' : List (Option V)} (I : Inv X pins σ H s) (hl : σ'.length = σ.length) (w : ∀ (i : Nat) v, σ'[i]? = some (some v) → σ[i]? = some (some v)) : Inv X pins σ' H s :=
  ⟨I.ok, I.os, I.bare, I.base, let ⟨m, hn, hl'⟩ := I.loc; ⟨m, hn, fun i x v e1 e2 e3 => hl' i x v e1 (w i v e2) e3⟩, I.cell, I.free, I.freeC, I.pin, I.hok, hl.trans I.len⟩
theorem Inv.pins_of {pins' : List (Addr × Obj)} (I : Inv X pins σ H s) (h : ∀ p ∈ pins', s.heap.get? p.1 = some p.2 ∧ H p.1 = none ∧ p.1 ≠ X.env.locals ∧ p.1 ∉ X.fs ∧ ∀ v, p.2.data ≠ .cell v) : Inv X pins' σ H s :=
  ⟨I.ok, I.os, I.bare, I.base, I.loc, I.cell, I.free, I.freeC, fun p hp => (List.mem_append.mp hp).elim (fun z => I.pin p (List.mem_append_left _ z)) (h p), I.hok, I.len⟩
theorem nodup_ix {N : List Str} (hN : N.Nodup) {i j : Nat} {x : Str} (a : N[i]? = some x) (b : N[j]? = some x) : i = j := by
  obtain ⟨h1, e1⟩ := List.getElem?_eq_some_iff.mp a
  obtain ⟨h2, e2⟩ := List.getElem?_eq_some_iff.mp b
  exact (List.getElem_inj hN).mp (e1.trans e2.symm)
/-- a name is stored; what changed -/
theorem store_ok2 {M : Model} {A : Around} {E : Value → Shared → Prop} {i : Nat} {x : Str} {v : V} {u : Value} {Q : Unit → Shared → Prop} (I : Inv X pins σ H s) (hN : X.N.Nodup) (hi : X.N[i]? = some x) (hx : Loc X.env.scope x) (r : RelV v u)
    (h : ∀ s', Inv X pins (σ.set i (some v)) H s' → (∃ a, Heap.SameBut a s.heap s'.heap ∧ (a = X.env.locals ∨ X.env.cells.lookup x = some a)) → Q () s') (hf : X.fn x = true ∨ X.env.scope.names.lookup x = some .local := by first | exact .inl rfl | exact .inr rfl | assumption) : wpAny M A (storeName X.env x u) Q E s := by
  obtain ⟨m, hn, hl⟩ := id I.loc
  have hcls : (X.env.scope.kind == .class || (X.env.scope.kind == .module && X.env.locals != X.env.globals)) = false := by rw [I.ok.kind]; rfl
  have hiσ : i < σ.length := by rw [I.len]; exact (List.getElem?_eq_some_iff.mp hi).1
  have cne := I.cne
  have tracked : ∀ {a : Addr} {h' : Heap}, (∃ o, s.heap.get? a = some o ∧ H a = none) → Heap.SameBut a s.heap h' → HOk X.prog X.w H h' := fun {a h'} ha hs b ob e => by
    obtain ⟨_, _, hfree⟩ := ha
    refine (I.hok b ob e).stay (fun c w' hc q => (hs.2 c ?_).trans q) (fun _ q => q) fun _ _ q => q
    rintro rfl
    rcases hc with rfl | hc
    · rw [hfree] at e; cases e
    · rw [hfree] at hc; cases hc
  rcases hx with hk | hk
  · refine wpAny_storeName_local hk hn (fun h' hn' hs => ?_) hcls
    obtain ⟨oL, _, _, hoL, _⟩ := id hn
    refine h _ ⟨I.ok, I.os, I.bare, ⟨fun b o e n hb hx => ?_, fun b o e n hb hx => ?_, I.base.free, fun b o e hx => ?_, I.base.tups, I.base.frzs, I.base.tbls⟩, ⟨_, hn', fun j y v' e1 e2 e3 => ?_⟩, fun y c e => ?_, I.free, I.freeC, fun p hp => ?_, tracked ⟨oL, hoL, I.free⟩ hs, by simpa using I.len⟩ ⟨_, hs, .inl rfl⟩
    · exact (hs.2 b (Nat.ne_of_lt (Nat.lt_of_lt_of_le (Heap.lt_size e) I.ok.above))).trans (I.base.keep b o e n hb hx)
    · obtain ⟨sl, e1⟩ := I.base.slot b o e n hb hx
      exact ⟨sl, (hs.2 b (Nat.ne_of_lt (Nat.lt_of_lt_of_le (Heap.lt_size e) I.ok.above))).trans e1⟩
    · obtain ⟨o', e1⟩ := I.base.there b o e hx
      exact ⟨o', (hs.2 b (Nat.ne_of_lt (Nat.lt_of_lt_of_le (Heap.lt_size e) I.ok.above))).trans e1⟩
    · by_cases hj : j = i
      · subst hj
        rw [hi] at e1; cases e1
        rw [List.getElem?_set_self hiσ] at e2
        cases e2
        exact ⟨u, r, .inl ⟨hk, by simp⟩⟩
      · rw [List.getElem?_set_ne (Ne.symm hj)] at e2
        obtain ⟨u', r', q⟩ := hl j y v' e1 e2 e3
        refine ⟨u', r', ?_⟩
        rcases q with ⟨k, e⟩ | ⟨k, c, e, z⟩
        · refine .inl ⟨k, ?_⟩
          have : y ≠ x := fun e => hj (nodup_ix hN e1 (e ▸ hi))
          simp [this, e]
        · exact .inr ⟨k, c, e, z.sameBut hs (cne y c e)⟩
    · obtain ⟨w', z⟩ := I.cell y c e
      exact ⟨w', z.sameBut hs (cne y c e)⟩
    · obtain ⟨e, n, ne, nf, d⟩ := I.pin p hp
      exact ⟨(hs.2 p.1 ne).trans e, n, ne, nf, d⟩
  · have hfn : X.fn x = true := by
      rcases hf with z | z
      · exact z
      · rw [z] at hk; cases hk
    obtain ⟨c, hc⟩ := I.ok.has x (.inl hk)
    obtain ⟨w', z⟩ := I.cell x c hc
    refine wpAny_storeName_cell I.ok.kind hk hc z (fun h' hc' hs => ?_)
    obtain ⟨oc, hoc, hocd⟩ := id z
    refine h { s with heap := h' } ⟨I.ok, I.os, I.bare, ⟨fun b o e n hb hx => ?_, fun b o e n hb hx => ?_, I.base.free, fun b o e hx => ?_, I.base.tups, I.base.frzs, I.base.tbls⟩, ⟨m, hn.sameBut hs (Ne.symm (cne x c hc)), fun j y v' e1 e2 e3 => ?_⟩, fun y c' e => ?_, I.free, I.freeC, fun p hp => ?_, tracked ⟨oc, hoc, I.freeC x c hc⟩ hs, by simpa using I.len⟩ ⟨c, hs, .inr hc⟩
    · exact (hs.2 b (Nat.ne_of_lt (Nat.lt_of_lt_of_le (Heap.lt_size e) (I.ok.cab x c hfn hc)))).trans (I.base.keep b o e n hb hx)
    · obtain ⟨sl, e1⟩ := I.base.slot b o e n hb hx
      exact ⟨sl, (hs.2 b (Nat.ne_of_lt (Nat.lt_of_lt_of_le (Heap.lt_size e) (I.ok.cab x c hfn hc)))).trans e1⟩
    · obtain ⟨o', e1⟩ := I.base.there b o e hx
      exact ⟨o', (hs.2 b (Nat.ne_of_lt (Nat.lt_of_lt_of_le (Heap.lt_size e) (I.ok.cab x c hfn hc)))).trans e1⟩
    · by_cases hj : j = i
      · subst hj
        rw [hi] at e1; cases e1
        rw [List.getElem?_set_self hiσ] at e2
        cases e2
        exact ⟨u, r, .inr ⟨.inl hk, c, hc, hc'⟩⟩
      · rw [List.getElem?_set_ne (Ne.symm hj)] at e2
        obtain ⟨u', r', q⟩ := hl j y v' e1 e2 e3
        refine ⟨u', r', ?_⟩
        rcases q with q | ⟨k, c', e, z'⟩
        · exact .inl q
        · refine .inr ⟨k, c', e, z'.sameBut hs ?_⟩
          rintro rfl
          exact hj (nodup_ix hN e1 (I.ok.inj _ _ _ e hc ▸ hi))
    · by_cases hcc : c' = c
      · subst hcc; exact ⟨_, hc'⟩
      · obtain ⟨w2, z2⟩ := I.cell y c' e
        exact ⟨w2, z2.sameBut hs hcc⟩
    · obtain ⟨e, n, ne, nf, d⟩ := I.pin p hp
      refine ⟨(hs.2 p.1 ?_).trans e, n, ne, nf, d⟩
      intro q
      rw [q, hoc] at e
      have q' : oc = p.2 := Option.some.inj e
      exact d w' (by rw [← q']; exact hocd)
theorem store_ok {M : Model} {A : Around} {E : Value → Shared → Prop} {i : Nat} {x : Str} {v : V} {u : Value} {Q : Unit → Shared → Prop} (I : Inv X pins σ H s) (hN : X.N.Nodup) (hi : X.N[i]? = some x) (hx : Loc X.env.scope x) (r : RelV v u)
    (h : ∀ s', Inv X pins (σ.set i (some v)) H s' → Q () s') (hf : X.fn x = true ∨ X.env.scope.names.lookup x = some .local := by first | exact .inl rfl | exact .inr rfl | assumption) : wpAny M A (storeName X.env x u) Q E s :=
  store_ok2 I hN hi hx r (fun s' I' _ => h s' I') hf
/-- behind a call or a block, the state as it is -/
theorem Inv.call' {s' : Shared} {ch : List Addr} (I : Inv X pins σ H s) (ho : s'.os = s.os) (u : Un (frs X.stack) ch H H' s.heap s'.heap) (hok : HOk X.prog X.w H' s'.heap) (hg : AllBare s'.gens)
    (hch : ∀ b ∈ ch, (b ∈ X.ex ∨ X.s_0.heap.objs.size ≤ b) ∧ b ≠ X.env.locals ∧ (∀ x c, X.env.cells.lookup x = some c → c ≠ b) ∧ ∀ p ∈ X.pn ++ pins, p.1 ≠ b) : Inv X pins σ H' s' := by
  obtain ⟨h', g', d', t', o'⟩ := s'
  have e : o' = s.os := ho
  subst e
  exact I.call (g' := g') (t' := t') (d' := d') u hok hg hch
end
/-- an exception: its class, its own dict's address (where it has one), the abstract heap behind it -/
abbrev XK := Value → Option Addr → Hp → Prop
abbrev St := List (Option V)
abbrev VK := V → Hp → Prop
/-- an expression's reading; a test's; an argument list's -/
abbrev TE := St → Hp → VK → Prop
abbrev TT := St → Hp → (Bool → Hp → Prop) → Prop
abbrev TA := St → Hp → (List V → Hp → Prop) → Prop
/-- what is wanted behind a statement -/
structure Ends where
  nx : St → Hp → Prop
  rt : VK
  bk : St → Hp → Prop := fun _ _ => False
  ct : St → Hp → Prop := fun _ _ => False
abbrev TS := Ends → St → Hp → Prop
def EP (X : Cx) (pins : List (Addr × Obj)) (σ : St) (Q : VK) (u : Value) (s' : Shared) : Prop := ∃ v H', Inv X pins σ H' s' ∧ RelV v u ∧ Q v H'
def TP (X : Cx) (pins : List (Addr × Obj)) (σ : St) (Q : Bool → Hp → Prop) (b : Bool) (s' : Shared) : Prop := ∃ H', Inv X pins σ H' s' ∧ Q b H'
def AP (X : Cx) (pins : List (Addr × Obj)) (σ : St) (Q : List V → Hp → Prop) (us : List Value) (s' : Shared) : Prop := ∃ vs H', Inv X pins σ H' s' ∧ Vals vs us ∧ Q vs H'
def SP (X : Cx) (pins : List (Addr × Obj)) (D : Ends) (f : Flow) (s' : Shared) : Prop :=
  match f with
  | .next => ∃ σ' H', Inv X pins σ' H' s' ∧ D.nx σ' H'
  | .brk => ∃ σ' H', Inv X pins σ' H' s' ∧ D.bk σ' H'
  | .cont => ∃ σ' H', Inv X pins σ' H' s' ∧ D.ct σ' H'
  | .ret u => ∃ v σ' H', Inv X pins σ' H' s' ∧ RelV v u ∧ D.rt v H'
def PE (X : Cx) (e : Expr) (t : TE) : Prop :=
  ∀ (pins : List (Addr × Obj)) (s : Shared) (σ : St) (H : Hp) (Q : VK), Inv X pins σ H s → t σ H Q → wpAny (model X.prog X.w) X.A (eval e X.env) (EP X pins σ Q) X.xe s
def PT (X : Cx) (e : Expr) (t : TT) : Prop :=
  ∀ (pins : List (Addr × Obj)) (s : Shared) (σ : St) (H : Hp) (Q : Bool → Hp → Prop), Inv X pins σ H s → t σ H Q → wpAny (model X.prog X.w) X.A (isTrue e X.env (eval e X.env)) (TP X pins σ Q) X.xe s
/-- a test whatever its 'whole' is (and, or) -/
def PW (X : Cx) (e : Expr) (t : TT) : Prop :=
  ∀ (whole : Sem Value) (pins : List (Addr × Obj)) (s : Shared) (σ : St) (H : Hp) (Q : Bool → Hp → Prop), Inv X pins σ H s → t σ H Q → wpAny (model X.prog X.w) X.A (isTrue e X.env whole) (TP X pins σ Q) X.xe s
theorem PW.pt {X : Cx} {e : Expr} {t : TT} (h : PW X e t) : PT X e t := h _
/-- an argument list (no star), from the left -/
def PA (X : Cx) (es : List Expr) (t : TA) : Prop :=
  ∀ (pos : Pos) (pins : List (Addr × Obj)) (s : Shared) (σ : St) (H : Hp) (Q : List V → Hp → Prop), Inv X pins σ H s → t σ H Q → wpAny (model X.prog X.w) X.A (spliced (backTo pos (starEach es X.env))) (AP X pins σ Q) X.xe s
def PS (X : Cx) (st : Stmt) (t : TS) : Prop :=
  ∀ (pins : List (Addr × Obj)) (s : Shared) (σ : St) (H : Hp) (D : Ends), Inv X pins σ H s → t D σ H → wpAny (model X.prog X.w) X.A (exec st X.env) (SP X pins D) X.xe s
def PSs (X : Cx) (st : List Stmt) (t : TS) : Prop :=
  ∀ (pins : List (Addr × Obj)) (s : Shared) (σ : St) (H : Hp) (D : Ends), Inv X pins σ H s → t D σ H → wpAny (model X.prog X.w) X.A (execs st X.env) (SP X pins D) X.xe s
/-- weaken the end -/
theorem thn {α : Type} {t : Sem α} {Q Q' : α → Shared → Prop} {M : Model} {A : Around} {E : Value → Shared → Prop} {s : Shared} (h : wpAny M A t Q E s) (hQ : ∀ a s, Q a s → Q' a s) : wpAny M A t Q' E s := wpAny_mono h hQ fun _ _ x => x
end L2
namespace L2
open PySem PySem.Spec PyProof.Rows
section
variable {X : Cx}
def tVar (i : Nat) : TE := fun σ H Q => ∃ v, σ[i]? = some (some v) ∧ Q v H
def tC (v : V) : TE := fun _ H Q => Q v H
theorem pe_var {i : Nat} {x : Str} {pos : Pos} (hN : X.N[i]? = some x) (hv : Vis X.env.scope x) (hd : (x == ("__debug__" : Str)) = false := by decide) (hcd : (x == ("__classdict__" : Str)) = false := by decide) : PE X (.Name x pos) (tVar i) := by
  intro pins s σ H Q I h
  obtain ⟨v, e, h⟩ := h
  obtain ⟨m, hn, hl⟩ := I.loc
  obtain ⟨u, r, l⟩ := hl i x v hN e hv
  have fin : EP X pins σ Q u s := ⟨v, H, I, r, h⟩
  rcases l with ⟨hk, hm⟩ | ⟨hk, c, hc, hcell⟩
  · exact wpAny_Name (wpAny_loadName_local I.ok.kind hk hn hm fin) hd
  · rcases hk with hk | hk
    · exact wpAny_Name (wpAny_loadName_cell I.ok.kind hk hc hcell fin) hd
    · exact wpAny_Name (wpAny_loadName_free I.ok.kind hk hc hcell fin hcd) hd
theorem pe_int {i j pos} : PE X (.Constant (.int i) j pos) (tC (.int i)) := fun _ _ _ H _ I h => wpAny_Constant_int ⟨.int i, H, I.tok _, ⟨_, rfl⟩, h⟩
theorem pe_bl {b j pos} : PE X (.Constant (.bool b) j pos) (tC (.bl b)) := fun _ _ _ H _ I h => Constant_bool ⟨.bl b, H, I, rfl, h⟩
/-- a global name of the def -/
def Gl (X : Cx) (x : Str) : Prop := X.env.kindOf x = some .globalImplicit
theorem ld_glob {E : Value → Shared → Prop} {pins : List (Addr × Obj)} {s : Shared} {σ : St} {H : Hp} {x : Str} {u : Value} {pos : Pos} {Q : Value → Shared → Prop} (I : Inv X pins σ H s) (hg : Gl X x) (hm : X.mg x = some u) (h : Q u s)
    (hd : (x == ("__debug__" : Str)) = false := by decide) : wpAny (model X.prog X.w) X.A (eval (.Name x pos) X.env) Q E s :=
  Calls.Name_function_global I.ok.kind hg (Calls.loadGlobal_global (by rw [I.ok.glob]; exact I.mod.glob.keeps I.bk) hm h) hd
theorem ld_blt {E : Value → Shared → Prop} {pins : List (Addr × Obj)} {s : Shared} {σ : St} {H : Hp} {x : Str} {u : Value} {pos : Pos} {Q : Value → Shared → Prop} (I : Inv X pins σ H s) (hg : Gl X x) (hm : X.mg x = none) (hv : bootBuiltins x = some u) (h : Q u s)
    (hn : x ≠ "__name__" := by decide) (hd : (x == ("__debug__" : Str)) = false := by decide) : wpAny (model X.prog X.w) X.A (eval (.Name x pos) X.env) Q E s := by
  obtain ⟨mb, h1, h2⟩ := I.mod.blt
  exact Calls.Name_function_global I.ok.kind hg (Calls.loadGlobal_builtin (by rw [I.ok.glob]; exact I.mod.glob.keeps I.bk) hm (by rw [I.ok.blt]; exact h1.keeps I.bk) ((h2 x hn).trans hv) h) hd
/-- a module's constant, a class, a function, as a value -/
theorem pe_glob {x : Str} {v : V} {u : Value} {pos : Pos} (hg : Gl X x) (hm : X.mg x = some u) (r : RelV v u) (hd : (x == ("__debug__" : Str)) = false := by decide) : PE X (.Name x pos) (tC v) :=
  fun _ _ _ H _ I h => ld_glob I hg hm ⟨v, H, I, r, h⟩ hd
variable {a b : Expr} {ta tb : TE} {pos : Pos}
def PC (X : Cx) (op : CmpOp) (a b : Expr) (t : TE) : Prop :=
  ∀ (pins : List (Addr × Obj)) (s : Shared) (σ : St) (H : Hp) (Q : VK), Inv X pins σ H s → t σ H Q →
    wpAny (model X.prog X.w) X.A (eval a X.env) (fun v s₁ => wpAny (model X.prog X.w) X.A (eval b X.env) (fun u s₂ => wpAny (model X.prog X.w) X.A (compareOp op v u) (EP X pins σ Q) X.xe s₂) X.xe s₁) X.xe s
/-- a comparison as a value, as a test -/
def tB (t : TE) : TT := fun σ H Q => t σ H fun x H1 => ∃ c, x = .bl c ∧ Q c H1
theorem pt_cmp {op : CmpOp} {t : TE} (h : PC X op a b t) (h1 : behindInMarks op b = false := by first | exact nobehind _ (by decide) (by decide) | rfl) : PT X (.Compare a [op] [b] pos) (tB t) := by
  intro pins s σ H Q I hw
  refine wpAny_isTrue_Compare1 (thn (h pins s σ H _ I hw) fun v s1 h1 => thn h1 fun u s2 h2 => thn h2 fun c s3 ⟨x, H1, I1, r1, q1⟩ => ?_) h1
  obtain ⟨d, rfl, q⟩ := q1
  cases r1
  exact wpAny_truthy_bool ⟨H1, I1, q⟩
variable {tA tB' : TT} {rest : List Expr}
def tAnd (t u : TT) : TT := fun σ H Q => t σ H fun c H1 => if c = true then u σ H1 Q else Q false H1
def tOr (t u : TT) : TT := fun σ H Q => t σ H fun c H1 => if c = true then Q true H1 else u σ H1 Q
theorem pw_and1 (ha : PT X a tA) : PW X (.BoolOp .And [a] pos) tA := by
  intro wh pins s σ H Q I h
  refine isTrue_and (thn (ha pins s σ H Q I h) fun c s1 e => ?_)
  cases c with
  | true => exact isTrue_and_nil e
  | false => exact e
theorem pw_or1 (ha : PT X a tA) : PW X (.BoolOp .Or [a] pos) tA := by
  intro wh pins s σ H Q I h
  refine isTrue_or (thn (ha pins s σ H Q I h) fun c s1 e => ?_)
  cases c with
  | false => exact isTrue_or_nil e
  | true => exact e
theorem pw_and (ha : PT X a tA) (hb : PW X (.BoolOp .And (b :: rest) pos) tB') : PW X (.BoolOp .And (a :: b :: rest) pos) (tAnd tA tB') := by
  intro wh pins s σ H Q I h
  refine isTrue_and (thn (ha pins s σ H _ I h) fun c s1 ⟨H1, I1, q1⟩ => ?_)
  cases c with
  | true => exact hb wh pins s1 σ H1 Q I1 q1
  | false => exact ⟨H1, I1, q1⟩
theorem pw_or (ha : PT X a tA) (hb : PW X (.BoolOp .Or (b :: rest) pos) tB') : PW X (.BoolOp .Or (a :: b :: rest) pos) (tOr tA tB') := by
  intro wh pins s σ H Q I h
  refine isTrue_or (thn (ha pins s σ H _ I h) fun c s1 ⟨H1, I1, q1⟩ => ?_)
  cases c with
  | true => exact ⟨H1, I1, q1⟩
  | false => exact hb wh pins s1 σ H1 Q I1 q1
/-- a if t else b -/
def tIf (t : TT) (ta tb : TE) : TE := fun σ H Q => t σ H fun c H1 => if c = true then ta σ H1 Q else tb σ H1 Q
theorem pe_ifExp {c : Expr} (hc : PT X c tA) (ha : PE X a ta) (hb : PE X b tb) : PE X (.IfExp c a b pos) (tIf tA ta tb) := by
  intro pins s σ H Q I h
  refine wpAny_IfExp (thn (hc pins s σ H _ I h) fun d s1 ⟨H1, I1, q1⟩ => ?_)
  cases d with
  | true => exact ha pins s1 σ H1 Q I1 q1
  | false => exact hb pins s1 σ H1 Q I1 q1
end
end L2
namespace L2
open PySem PySem.Spec PyProof.Rows
def SqL (K : PySem.W.Frag) (H : Hp) (a : Addr) (xs : List V) : Prop :=
  Rd H a (.lst xs) ∨
    ∃ (o : Obj) (its : Array Value) (n : Nat), K.lookup a = some o ∧ o.cls = .type "list" ∧ o.dict = none ∧ o.data = .seq its n ∧ its.size ≤ sizeLine ∧ Vals xs its.toList
def SqT (K : PySem.W.Frag) (H : Hp) (a : Addr) (xs : List V) : Prop :=
  Rd H a (.tup xs) ∨
    ∃ (o : Obj) (its : Array Value) (n : Nat), K.lookup a = some o ∧ o.cls = .type "tuple" ∧ o.data = .seq its n ∧ its.size ≤ sizeLine ∧ Vals xs its.toList
def absV : Value → Option V
  | .none => some .non
  | .bool b => some (.bl b)
  | .int i _ => some (.int i)
  | .str x _ => some (.str x)
  | .bytes b _ => some (.byt b)
  | .float b _ => some (.flt b)
  | .ref a => some (.ref a)
  | .type n => some (.ty n)
  | _ => none
theorem RelV.abs {x : V} {u : Value} (r : RelV x u) : absV u = some x := by
  cases x with
  | non => cases r; rfl
  | bl _ => cases r; rfl
  | int _ => obtain ⟨t, rfl⟩ := r; rfl
  | str _ => obtain ⟨t, rfl⟩ := r; rfl
  | byt _ => obtain ⟨t, rfl⟩ := r; rfl
  | flt _ => obtain ⟨t, rfl⟩ := r; rfl
  | ref _ => cases r; rfl
  | ty _ => cases r; rfl
theorem RelV.inj {x y : V} {u : Value} (r : RelV x u) (q : RelV y u) : x = y := Option.some.inj (r.abs.symm.trans q.abs)
theorem Vals.inj : ∀ {xs ys : List V} {us : List Value}, Vals xs us → Vals ys us → xs = ys
  | _, _, _, .nil, .nil => rfl
  | _, _, _, .cons r t, .cons r' t' => by rw [r.inj r', Vals.inj t t']
section
variable {X : Cx} {pins : List (Addr × Obj)} {σ : St} {H : Hp} {s : Shared} {a : Addr} {xs ys : List V}
theorem SqL.of {K : PySem.W.Frag} (h : H a = some (.lst xs)) : SqL K H a xs := .inl (.inl h)
theorem SqT.of {K : PySem.W.Frag} (h : H a = some (.tup xs)) : SqT K H a xs := .inl (.inl h)
theorem Inv.list (I : Inv X pins σ H s) (h : SqL X.K H a xs) : ∃ its : List Value, Vals xs its ∧ PlainL s.heap a its.toArray ∧ xs.length ≤ sizeLine := by
  rcases h with h | ⟨o, its, n, hk, hc, hd, hs, hz, r⟩
  · obtain ⟨z, its, n, r, e⟩ := h.ok I.hok
    exact ⟨its, r, ⟨_, n, e, rfl, rfl, rfl⟩, z⟩
  · refine ⟨its.toList, r, ⟨o, n, I.kIn a o hk, hc, hd, by simpa using hs⟩, ?_⟩
    have e := r.length
    simp only [Array.length_toList] at e
    omega
theorem Inv.tuple (I : Inv X pins σ H s) (h : SqT X.K H a xs) : ∃ its : List Value, Vals xs its ∧ IsTup s.heap a its.toArray ∧ xs.length ≤ sizeLine := by
  rcases h with h | ⟨o, its, n, hk, hc, hs, hz, r⟩
  · obtain ⟨z, its, r, p⟩ := h.ok I.hok
    exact ⟨its, r, p, z⟩
  · refine ⟨its.toList, r, ⟨o, I.kIn a o hk, hc, n, by simpa using hs⟩, ?_⟩
    have e := r.length
    simp only [Array.length_toList] at e
    omega
theorem Inv.list_inj (I : Inv X pins σ H s) (h : SqL X.K H a xs) (h' : SqL X.K H a ys) : xs = ys := by
  obtain ⟨its, r, ⟨o, n, e, _, _, d⟩, _⟩ := I.list h
  obtain ⟨its', r', ⟨o', n', e', _, _, d'⟩, _⟩ := I.list h'
  rw [e] at e'; cases e'
  rw [d] at d'
  injection d' with d1 _
  have : its = its' := by simpa using congrArg Array.toList d1
  subst this
  exact r.inj r'
theorem Inv.tuple_inj (I : Inv X pins σ H s) (h : SqT X.K H a xs) (h' : SqT X.K H a ys) : xs = ys := by
  obtain ⟨its, r, ⟨o, e, _, n, d⟩, _⟩ := I.tuple h
  obtain ⟨its', r', ⟨o', e', _, n', d'⟩, _⟩ := I.tuple h'
  rw [e] at e'; cases e'
  rw [d] at d'
  injection d' with d1 _
  have : its = its' := by simpa using congrArg Array.toList d1
  subst this
  exact r.inj r'
end
abbrev Cx.wish (X : Cx) (E : Value → Shared → Prop) : Cx := { X with xe := E }
/-- no exception leaves -/
abbrev Cx.nox (X : Cx) : Cx := X.wish fun _ _ => False
theorem Cx.Ok.wish {X : Cx} (ok : X.Ok) (E : Value → Shared → Prop) : (X.wish E).Ok :=
  ⟨ok.mod, ok.kind, ok.glob, ok.blt, ok.above, ok.inj, ok.has, ok.cab, ok.hd, ok.frames, ok.stk, ok.exf, ok.bs, ok.bsz, ok.noex, ok.exfs, ok.funs, ok.frf⟩
theorem Cx.Ok.unwish {X : Cx} {E : Value → Shared → Prop} (ok : (X.wish E).Ok) : X.Ok :=
  ⟨ok.mod, ok.kind, ok.glob, ok.blt, ok.above, ok.inj, ok.has, ok.cab, ok.hd, ok.frames, ok.stk, ok.exf, ok.bs, ok.bsz, ok.noex, ok.exfs, ok.funs, ok.frf⟩
section
variable {X : Cx} {pins : List (Addr × Obj)} {σ : St} {H : Hp} {s : Shared} {E : Value → Shared → Prop}
theorem Inv.wish (I : Inv X pins σ H s) (E : Value → Shared → Prop) : Inv (X.wish E) pins σ H s := ⟨I.ok.wish E, I.os, I.bare, I.base, I.loc, I.cell, I.free, I.freeC, I.pin, I.hok, I.len⟩
theorem Inv.unwish (I : Inv (X.wish E) pins σ H s) : Inv X pins σ H s := ⟨I.ok.unwish, I.os, I.bare, I.base, I.loc, I.cell, I.free, I.freeC, I.pin, I.hok, I.len⟩
theorem SP.unwish {D : Ends} {f : Flow} {s' : Shared} (h : SP (X.wish E) pins D f s') : SP X pins D f s' := by
  cases f with
  | next => obtain ⟨σ', H', I, q⟩ := h; exact ⟨σ', H', I.unwish, q⟩
  | brk => obtain ⟨σ', H', I, q⟩ := h; exact ⟨σ', H', I.unwish, q⟩
  | cont => obtain ⟨σ', H', I, q⟩ := h; exact ⟨σ', H', I.unwish, q⟩
  | ret u => obtain ⟨v, σ', H', I, r, q⟩ := h; exact ⟨v, σ', H', I.unwish, r, q⟩
theorem PSs.nox {st : List Stmt} {t : TS} (h : PSs X.nox st t) : PSs X st t := fun pins s σ H D I hw =>
  wpAny_mono (h pins s σ H D (I.wish _) hw) (fun _ _ q => q.unwish) fun _ _ z => False.elim z
end
section
variable {X : Cx} {st : Stmt} {rest : List Stmt} {t u : TS} {e : Expr} {te : TE} {pos : Pos}
def tNext : TS := fun D σ H => D.nx σ H
def tSeq (t u : TS) : TS := fun D σ H => t { D with nx := u D } σ H
theorem pss_nil : PSs X [] tNext := fun _ _ σ H _ I h => wpAny_execs_nil ⟨σ, H, I, h⟩
theorem pss_cons (h1 : PS X st t) (h2 : PSs X rest u) : PSs X (st :: rest) (tSeq t u) := by
  intro pins s σ H D I h
  refine wpAny_execs_cons (thn (h1 pins s σ H { D with nx := u D } I h) fun f s1 q => ?_)
  cases f with
  | next =>
    obtain ⟨σ', H', I', q⟩ := q
    exact h2 pins s1 σ' H' D I' q
  | ret v => exact q
  | brk => exact q
  | cont => exact q
theorem pss_one (h1 : PS X st t) : PSs X [st] t := by
  intro pins s σ H D I h
  refine wpAny_execs_cons (thn (h1 pins s σ H D I h) fun f s1 q => ?_)
  cases f with
  | next => exact wpAny_execs_nil q
  | ret v => exact q
  | brk => exact q
  | cont => exact q
/-- in a def's body nothing is shown -/
theorem Inv.quiet {pins : List (Addr × Obj)} {σ : St} {H : Hp} {s : Shared} (I : Inv X pins σ H s) : interactive X.env = false := by simp [interactive, I.ok.kind]
/-- an expression whose value is dropped -/
def tDrop (te : TE) : TS := fun D σ H => te σ H fun _ H1 => D.nx σ H1
theorem ps_expr (he : PE X e te) (hs : swapsWith e none pos.line X.env = pure false := by rfl) : PS X (.Expr e pos) (tDrop te) := by
  intro pins s σ H D I h
  exact wpAny_Expr_any (thn (he pins s σ H _ I h) fun v s1 ⟨x, H1, I1, r1, q1⟩ => ⟨σ, H1, I1, q1⟩) I.quiet hs
def tRet (te : TE) : TS := fun D σ H => te σ H D.rt
theorem ps_ret (he : PE X e te) : PS X (.Return (some e) pos) (tRet te) := by
  intro pins s σ H D I h
  exact wpAny_Return_some (thn (he pins s σ H _ I h) fun v s1 ⟨x, H1, I1, r1, q1⟩ => ⟨x, σ, H1, I1, r1, q1⟩)
def tIfS (c : TT) (t u : TS) : TS := fun D σ H => c σ H fun b H1 => if b = true then t D σ H1 else u D σ H1
theorem ps_if {c : Expr} {a b : List Stmt} {tc : TT} (hc : PT X c tc) (ha : PSs X a t) (hb : PSs X b u) : PS X (.If c a b pos) (tIfS tc t u) := by
  intro pins s σ H D I h
  refine wpAny_If (thn (hc pins s σ H _ I h) fun d s1 ⟨H1, I1, q1⟩ => ?_)
  cases d with
  | true => exact ha pins s1 σ H1 D I1 q1
  | false => exact hb pins s1 σ H1 D I1 q1
end
abbrev TG := V → St → Hp → (St → Hp → Prop) → Prop
abbrev TGs := List V → St → Hp → (St → Hp → Prop) → Prop
def PG (X : Cx) (target : Expr) (t : TG) : Prop :=
  ∀ (pins : List (Addr × Obj)) (s : Shared) (σ : St) (H : Hp) (v : V) (u : Value) (Q : St → Hp → Prop), Inv X pins σ H s → RelV v u → t v σ H Q →
    wpAny (model X.prog X.w) X.A (assign target X.env u) (fun _ s' => ∃ σ' H', Inv X pins σ' H' s' ∧ Q σ' H') X.xe s
/-- several targets, one after another -/
def PGs (X : Cx) (ts : List Expr) (t : TGs) : Prop :=
  ∀ (pins : List (Addr × Obj)) (s : Shared) (σ : St) (H : Hp) (vs : List V) (us : List Value) (Q : St → Hp → Prop), Inv X pins σ H s → Vals vs us → t vs σ H Q →
    wpAny (model X.prog X.w) X.A (assignInOrder ((assignEach ts X.env).map (·.2)) us) (fun _ s' => ∃ σ' H', Inv X pins σ' H' s' ∧ Q σ' H') X.xe s
/-- a op= b, by values -/
abbrev TIp := V → V → Hp → VK → Prop
def PIp (X : Cx) (op : Operator) (t : TIp) : Prop :=
  ∀ (pins : List (Addr × Obj)) (s : Shared) (σ : St) (H : Hp) (x y : V) (v u : Value) (Q : VK), Inv X pins σ H s → RelV x v → RelV y u → t x y H Q →
    wpAny (model X.prog X.w) X.A (inplaceOp op v u) (EP X pins σ Q) X.xe s
section
variable {X : Cx} {pos : Pos}
def gName (i : Nat) : TG := fun v σ H Q => Q (σ.set i (some v)) H
theorem pg_name {i : Nat} {x : Str} (hN : X.N.Nodup) (hi : X.N[i]? = some x) (hx : Loc X.env.scope x) (hf : X.fn x = true ∨ X.env.scope.names.lookup x = some .local := by first | exact .inl rfl | exact .inr rfl | assumption) : PG X (.Name x pos) (gName i) := by
  intro pins s σ H v u Q I r h
  exact wpAny_assign_Name (store_ok I hN hi hx r (fun s' I' => ⟨_, H, I', h⟩) hf)
def gNil : TGs := fun vs σ H Q => vs = [] ∧ Q σ H
def gCons (t : TG) (u : TGs) : TGs := fun vs σ H Q => ∃ v r, vs = v :: r ∧ t v σ H fun σ' H' => u r σ' H' Q
theorem pgs_nil : PGs X [] gNil := by
  intro pins s σ H vs us Q I r h
  obtain ⟨e, h⟩ := h
  subst e
  cases r
  exact assignInOrder_nil ⟨σ, H, I, h⟩
theorem pgs_cons {e : Expr} {es : List Expr} {t : TG} {u : TGs} (h1 : PG X e t) (h2 : PGs X es u)
    (hs : (assignEach (e :: es) X.env).map (·.2) = assign e X.env :: (assignEach es X.env).map (·.2) := by rfl) : PGs X (e :: es) (gCons t u) := by
  intro pins s σ H vs us Q I r h
  obtain ⟨v, vr, e1, h⟩ := h
  subst e1
  cases r with
  | cons r rr =>
    rw [hs]
    refine assignInOrder_cons (thn (h1 pins s σ H _ _ _ I r h) fun _ s1 ⟨σ1, H1, I1, q1⟩ => ?_)
    exact h2 pins s1 σ1 H1 _ _ Q I1 rr q1
/-- (a, b, ..) = a tuple of that length -/
def gTup (K : PySem.W.Frag) (n : Nat) (t : TGs) : TG := fun v σ H Q => ∃ a xs, v = .ref a ∧ SqT K H a xs ∧ xs.length = n ∧ t xs σ H Q
theorem pg_tup {es : List Expr} {k : Nat} {t : TGs} {n : Nat} (hc : X.calm = true) (h : PGs X es t)
    (hn : (assignEach es X.env).length = n := by rfl) (hst : (assignEach es X.env).findIdx? (·.1) = none := by rfl) : PG X (.Tuple es k pos) (gTup X.K n t) := by
  intro pins s σ H v u Q I r hw
  obtain ⟨a, xs, e1, hq, hl, hw⟩ := hw
  subst e1
  cases r
  obtain ⟨its, rv, ht, hz⟩ := I.tuple hq
  refine assign_Tuple_tuple (I.ok.hd hc) ht (by simp [hn, ← hl, rv.length]) hst fun h' hx => ?_
  have I1 : Inv X pins σ H { s with heap := h' } := I.kept (t' := s.toks) fun b o e => hx b o (Nat.ne_of_lt (Heap.lt_size e)) e
  exact h pins _ σ H xs _ Q I1 (by simpa using rv) hw
/-- target = value -/
def tAsg (te : TE) (g : TG) : TS := fun D σ H => te σ H fun x H1 => g x σ H1 D.nx
/-- name = value -/
theorem ps_set {i : Nat} {x : Str} {e : Expr} {te : TE} {pos' : Pos} (hN : X.N.Nodup) (hi : X.N[i]? = some x) (hx : Loc X.env.scope x) (he : PE X e te) (hs : swapsWith e (some (.Name x pos')) pos.line X.env = pure false := by rfl) (hf : X.fn x = true ∨ X.env.scope.names.lookup x = some .local := by first | exact .inl rfl | exact .inr rfl | assumption) :
    PS X (.Assign [.Name x pos'] e pos) (tAsg te (gName i)) := by
  intro pins s σ H D I h
  refine wpAny_Assign_Name (thn (he pins s σ H _ I h) fun v s1 ⟨y, H1, I1, r1, q1⟩ => ?_) hs
  exact store_ok I1 hN hi hx r1 (fun s2 I2 => ⟨_, H1, I2, q1⟩) hf
/-- name op= e -/
def tAug (i : Nat) (te : TE) (ti : TIp) : TS := fun D σ H => ∃ x, σ[i]? = some (some x) ∧ te σ H fun y H1 => ti x y H1 fun z H2 => D.nx (σ.set i (some z)) H2
theorem ps_aug {i : Nat} {x : Str} {e : Expr} {te : TE} {op : Operator} {ti : TIp} {pos' : Pos} (hN : X.N.Nodup) (hi : X.N[i]? = some x) (hx : Loc X.env.scope x) (he : PE X e te) (ho : PIp X op ti) (hf : X.fn x = true ∨ X.env.scope.names.lookup x = some .local := by first | exact .inl rfl | exact .inr rfl | assumption) :
    PS X (.AugAssign (.Name x pos') op e pos) (tAug i te ti) := by
  intro pins s σ H D I h
  obtain ⟨v, e1, h⟩ := h
  obtain ⟨m, hn, hl⟩ := I.loc
  have vis : Vis X.env.scope x := by rcases hx with k | k; exact .inl k; exact .inr (.inl k)
  obtain ⟨u, r, l⟩ := hl i x v hi e1 vis
  refine wpAny_AugAssign_Name ?_
  have go : wpAny (model X.prog X.w) X.A (eval e X.env) (fun w s₂ => wpAny (model X.prog X.w) X.A (inplaceOp op u w) (fun r s₃ => wpAny (model X.prog X.w) X.A (storeName X.env x r) (fun _ => SP X pins D .next) X.xe s₃) X.xe s₂) X.xe s := by
    refine thn (he pins s σ H _ I h) fun w s1 ⟨y, H1, I1, r1, q1⟩ => ?_
    refine thn (ho pins s1 σ H1 v y u w _ I1 r r1 q1) fun z s2 ⟨zv, H2, I2, r2, q2⟩ => ?_
    exact store_ok I2 hN hi hx r2 (fun s3 I3 => ⟨_, H2, I3, q2⟩) hf
  rcases l with ⟨hk, hm⟩ | ⟨hk, c, hc, hcell⟩
  · exact wpAny_loadName_local I.ok.kind hk hn hm go
  · rcases hk with hk | hk
    · exact wpAny_loadName_cell I.ok.kind hk hc hcell go
    · rcases hx with k | k
      · have : X.env.scope.names.lookup x = some .free := hk
        rw [k] at this; cases this
      · have : X.env.scope.names.lookup x = some .free := hk
        rw [k] at this; cases this
/-- ints -/
def ipI (f : Int → Int → Int) : TIp := fun x y H Q => ∃ i j, x = .int i ∧ y = .int j ∧ Q (.int (f i j)) H
theorem ip_add : PIp X .Add (ipI fun i j => i + j) := by
  intro pins s σ H x y v u Q I r1 r2 h
  obtain ⟨i, j, e1, e2, q⟩ := h
  subst e1; subst e2
  obtain ⟨t, rfl⟩ := r1
  obtain ⟨t', rfl⟩ := r2
  exact iadd_int ⟨.int _, H, I.tok _, ⟨_, rfl⟩, q⟩
theorem ip_sub : PIp X .Sub (ipI fun i j => i - j) := by
  intro pins s σ H x y v u Q I r1 r2 h
  obtain ⟨i, j, e1, e2, q⟩ := h
  subst e1; subst e2
  obtain ⟨t, rfl⟩ := r1
  obtain ⟨t', rfl⟩ := r2
  exact isub_int ⟨.int _, H, I.tok _, ⟨_, rfl⟩, q⟩
end
section
variable {X : Cx} {pos : Pos}
/-- the invariant W with its measure -/
def tWhile (c : TT) (tb : TS) : TS := fun D σ H => ∃ W : Nat → St → Hp → Prop, (∃ m, W m σ H) ∧ ∀ m σ H, W m σ H →
  c σ H fun b H1 => if b = true then ∃ N : St → Hp → Prop, (∀ σ' H', N σ' H' → ∃ m', m' < m ∧ W m' σ' H') ∧ tb { D with nx := N, ct := N, bk := D.nx } σ H1 else D.nx σ H1
theorem ps_while {c : Expr} {body : List Stmt} {tc : TT} {tb : TS} (hp : PassesOwn (model X.prog X.w) X.A X.env X.xe) (hc : PT X c tc) (hb : PSs X body tb) : PS X (.While c body [] pos) (tWhile tc tb) := by
  intro pins s σ H D I h
  obtain ⟨W, ⟨m0, w0⟩, turn⟩ := h
  refine wpAny_While (codeAny_whileLoop (fun n s' => ∃ σ' H', Inv X pins σ' H' s' ∧ W n σ' H') ?_ m0 ⟨σ, H, I, w0⟩)
  rintro n s1 ⟨σ1, H1, I1, w1⟩
  refine wpAny_passesOwn hp (thn (hc pins s1 σ1 H1 _ I1 (turn n σ1 H1 w1)) fun b s2 ⟨H2, I2, q2⟩ => ?_)
  cases b with
  | true =>
    obtain ⟨N, hN, q2⟩ := q2
    rw [if_pos rfl]
    refine wpAny_passesOwn hp (thn (hb pins s2 σ1 H2 _ I2 q2) fun f s3 q3 => ?_)
    cases f with
    | next =>
      obtain ⟨σ3, H3, I3, n3⟩ := q3
      obtain ⟨m', hm, w3⟩ := hN σ3 H3 n3
      exact ⟨m', hm, σ3, H3, I3, w3⟩
    | cont =>
      obtain ⟨σ3, H3, I3, n3⟩ := q3
      obtain ⟨m', hm, w3⟩ := hN σ3 H3 n3
      exact ⟨m', hm, σ3, H3, I3, w3⟩
    | brk => exact q3
    | ret v => exact q3
  | false =>
    rw [if_neg Bool.false_ne_true]
    exact wpAny_execs_nil ⟨σ1, H2, I2, q2⟩
end
/-- at turn i: it yields x (the heap may grow), or it stops -/
structure It where
  go : Nat → Hp → Prop
  yld : Nat → Hp → V → Hp → Prop
  stop : Nat → Hp → Prop
/-- the iterator's own objects may turn: they are not the frame's, not pinned, younger than the entry (or a comprehension's own) -/
def FpOk (X : Cx) (pins : List (Addr × Obj)) (H : Hp) (b : Addr) : Prop :=
  H b = none ∧ b ≠ X.env.locals ∧ b ∉ X.fs ∧ (b ∈ X.ex ∨ X.s_0.heap.objs.size ≤ b) ∧ (∀ x c, X.env.cells.lookup x = some c → c ≠ b) ∧ ∀ p ∈ X.pn ++ pins, p.1 ≠ b
theorem Inv.fpOk {X : Cx} {pins : List (Addr × Obj)} {σ : St} {H H' : Hp} {s : Shared} {b : Addr} (I : Inv X pins σ H s) (hb : s.heap.objs.size ≤ b) (hn : H' b = none) : FpOk X pins H' b := by
  refine ⟨hn, Nat.ne_of_gt (Nat.lt_of_lt_of_le I.lt hb), I.nofs hb, .inr (Nat.le_trans I.sz hb), fun x c e z => ?_, fun p hp z => ?_⟩
  · obtain ⟨v, q⟩ := I.cell x c e
    exact absurd (Nat.lt_of_lt_of_le q.lt (by rw [z]; exact hb)) (Nat.lt_irrefl _)
  · exact absurd (Nat.lt_of_lt_of_le (Heap.lt_size (I.pin p hp).1) (by rw [z]; exact hb)) (Nat.lt_irrefl _)
structure Turn (P : Program) (w : World) (K : PySem.W.Frag) (tg : Expr) (J : It) (fp : List Addr) (it : Addr) (tn : Nat → Heap → Prop) : Prop where
  mem : it ∈ fp
  obj : ∀ i h, tn i h → ∀ b ∈ fp, ∃ o, h.get? b = some o ∧ ∀ v, o.data ≠ .cell v
  keep : ∀ i h h', tn i h → (∀ b ∈ fp, ∀ o, h.get? b = some o → h'.get? b = some o) → tn i h'
  item : ∀ (X : Cx), X.prog = P → X.w = w → X.K = K → X.calm = true → ∀ (i : Nat) (pins : List (Addr × Obj)) (s : Shared) (σ : St) (H : Hp) (E : Value → Shared → Prop), Inv X pins σ H s → (∀ b ∈ fp, FpOk X pins H b) → tn i s.heap → J.go i H →
    wpAny (model P w) X.A (pyNext (.ref it)) (fun r s1 => ∃ u, r = some u ∧
      wpAny (model P w) X.A (letOwnedTupleGo tg (.ref it) u) (fun _ s2 => ∃ x H', Inv X pins σ H' s2 ∧ RelV x u ∧ J.yld i H x H' ∧ tn (i + 1) s2.heap ∧ ∀ b ∈ fp, H' b = none) E s1) E s
  done : ∀ (X : Cx), X.prog = P → X.w = w → X.K = K → X.calm = true → ∀ (i : Nat) (pins : List (Addr × Obj)) (s : Shared) (σ : St) (H : Hp) (E : Value → Shared → Prop), Inv X pins σ H s → (∀ b ∈ fp, FpOk X pins H b) → tn i s.heap → J.stop i H →
    wpAny (model P w) X.A (pyNext (.ref it)) (fun r s1 => r = none ∧ Inv X pins σ H s1) E s
  self : ∀ (A : Around) (i : Nat) (s : Shared) (Q : Value → Shared → Prop) (E : Value → Shared → Prop), tn i s.heap → Q (.ref it) s → wpAny (model P w) A (pyIter (.ref it)) Q E s
abbrev TI := St → Hp → (It → Hp → Prop) → Prop
/-- an iterator has come -/
def PIE (X : Cx) (pins : List (Addr × Obj)) (σ : St) (tg : Expr) (R : It → Hp → Prop) (itv : Value) (s2 : Shared) : Prop :=
  ∃ (it : Addr) (fp : List Addr) (tn : Nat → Heap → Prop) (J : It) (H' : Hp), itv = .ref it ∧ Inv X pins σ H' s2 ∧ Turn X.prog X.w X.K tg J fp it tn ∧ tn 0 s2.heap ∧ (∀ b ∈ fp, FpOk X pins H' b) ∧ R J H'
def PI (X : Cx) (tg iter : Expr) (wi : TI) : Prop :=
  ∀ (pins : List (Addr × Obj)) (s : Shared) (σ : St) (H : Hp) (R : It → Hp → Prop), Inv X pins σ H s → wi σ H R →
    wpAny (model X.prog X.w) X.A (eval iter X.env) (fun v s1 => wpAny (model X.prog X.w) X.A (pyIter v) (PIE X pins σ tg R) X.xe s1) X.xe s
/-- the step ahead of the store is nothing for an iterator that keeps no tuple -/
theorem go_of {M : Model} {A : Around} {E : Value → Shared → Prop} {s : Shared} {tg : Expr} {it : Addr} {u : Value} {o : Obj} {n : String} {vs : Array Value} {Q : Unit → Shared → Prop} (ho : s.heap.get? it = some o) (hc : o.cls = .type n) (hd : o.data = .fields vs)
    (hn : ["enumerate", "zip", "dict_itemiterator", "dict_reverseitemiterator", "odict_iterator", "itertools.zip_longest", "itertools.pairwise"].contains n = false) (hQ : Q () s) : wpAny M A (letOwnedTupleGo tg (.ref it) u) Q E s := by
  unfold letOwnedTupleGo
  cases tg <;> first
    | exact wpAny_pure hQ
    | (cases u <;> first
        | exact wpAny_pure hQ
        | (refine wpAny_bind (wpAny_load ho ?_)
           rw [hc, hd]
           show wpAny M A (if (["enumerate", "zip", "dict_itemiterator", "dict_reverseitemiterator", "odict_iterator", "itertools.zip_longest", "itertools.pairwise"].contains n && vs[0]? == some (rawInt _)) = true then _ else _) Q E s
           rw [if_neg (by intro h; rw [hn, Bool.false_and] at h; cases h)]
           exact wpAny_pure hQ))
/-- the list at a, as it stands at each turn (a loop may append to it) -/
def Itl (K : PySem.W.Frag) (a : Addr) : It :=
  ⟨fun i H => ∃ xs x, SqL K H a xs ∧ xs[i]? = some x, fun i H x H' => H' = H ∧ ∀ xs, SqL K H a xs → xs[i]? = some x, fun i H => ∃ xs, SqL K H a xs ∧ xs.length ≤ i⟩
def Itt (K : PySem.W.Frag) (a : Addr) : It :=
  ⟨fun i H => ∃ xs x, SqT K H a xs ∧ xs[i]? = some x, fun i H x H' => H' = H ∧ ∀ xs, SqT K H a xs → xs[i]? = some x, fun i H => ∃ xs, SqT K H a xs ∧ xs.length ≤ i⟩
/-- lo, lo + 1, .. (n of them) -/
def Itr (lo : Int) (n : Nat) : It := ⟨fun i _ => i < n, fun i H x H' => H' = H ∧ x = .int (lo + i), fun i _ => n ≤ i⟩
theorem turn_list {P : Program} {w : World} {K : PySem.W.Frag} {tg : Expr} (a it : Addr) : Turn P w K tg (Itl K a) [it] it (fun i h => h.IsListIter it a i) where
  mem := by simp
  obj := fun i h st b hb => by
    have e : b = it := by simpa using hb
    subst e
    obtain ⟨o, e, c, d⟩ := st
    exact ⟨o, e, fun v z => by rw [d] at z; cases z⟩
  keep := fun i h h' st k => st.at fun o e => k it (by simp) o e
  item := by
    intro X hP hw hK hc i pins s σ H E I hf st hg
    subst hP hw hK
    obtain ⟨xs, x, hq, hx⟩ := hg
    obtain ⟨its, rv, p, hz⟩ := I.list hq
    obtain ⟨u, hu, ru⟩ := rv.get hx
    obtain ⟨f0, f1, f2, f3, f4, f5⟩ := hf it (by simp)
    refine wpAny_pyNext_list_item st p.isList (x := u) (by simpa using hu) fun h' st' sb => ?_
    have I1 : Inv X pins σ H { s with heap := h' } := I.turned (t' := s.toks) (fun b o hb e => (sb.2 b hb).trans e) f0 f1 f3 f4 f5
    obtain ⟨o, e, c, d⟩ := id st'
    exact ⟨u, rfl, go_of (s := { s with heap := h' }) e c d (by decide) ⟨x, H, I1, ru, ⟨rfl, fun ys hy => by rw [I.list_inj hy hq]; exact hx⟩, st', fun b hb => (hf b hb).1⟩⟩
  done := by
    intro X hP hw hK hc i pins s σ H E I hf st hg
    subst hP hw hK
    obtain ⟨xs, hq, hx⟩ := hg
    obtain ⟨its, rv, p, hz⟩ := I.list hq
    obtain ⟨f0, f1, f2, f3, f4, f5⟩ := hf it (by simp)
    have hl := rv.length
    exact wpAny_pyNext_list_end (I.ok.hd hc) st p.isList (by simp; omega) fun h' eb => ⟨rfl, I.turned (t' := s.toks) (fun b o hb e => eb b o hb e) f0 f1 f3 f4 f5⟩
  self := fun _ _ _ _ _ st h => wpAny_pyIter_listiter st h
theorem turn_tuple {P : Program} {w : World} {K : PySem.W.Frag} {tg : Expr} (a it : Addr) : Turn P w K tg (Itt K a) [it] it (fun i h => h.IsTupleIter it a i) where
  mem := by simp
  obj := fun i h st b hb => by
    have e : b = it := by simpa using hb
    subst e
    obtain ⟨o, e, c, d⟩ := st
    exact ⟨o, e, fun v z => by rw [d] at z; cases z⟩
  keep := fun i h h' st k => st.at fun o e => k it (by simp) o e
  item := by
    intro X hP hw hK hc i pins s σ H E I hf st hg
    subst hP hw hK
    obtain ⟨xs, x, hq, hx⟩ := hg
    obtain ⟨its, rv, p, hz⟩ := I.tuple hq
    obtain ⟨u, hu, ru⟩ := rv.get hx
    obtain ⟨f0, f1, f2, f3, f4, f5⟩ := hf it (by simp)
    refine wpAny_pyNext_tuple_item st (show s.heap.IsTuple a its.toArray from p) (x := u) (by simpa using hu) fun h' st' sb => ?_
    have I1 : Inv X pins σ H { s with heap := h' } := I.turned (t' := s.toks) (fun b o hb e => (sb.2 b hb).trans e) f0 f1 f3 f4 f5
    obtain ⟨o, e, c, d⟩ := id st'
    exact ⟨u, rfl, go_of (s := { s with heap := h' }) e c d (by decide) ⟨x, H, I1, ru, ⟨rfl, fun ys hy => by rw [I.tuple_inj hy hq]; exact hx⟩, st', fun b hb => (hf b hb).1⟩⟩
  done := by
    intro X hP hw hK hc i pins s σ H E I hf st hg
    subst hP hw hK
    obtain ⟨xs, hq, hx⟩ := hg
    obtain ⟨its, rv, p, hz⟩ := I.tuple hq
    obtain ⟨f0, f1, f2, f3, f4, f5⟩ := hf it (by simp)
    have hl := rv.length
    exact wpAny_pyNext_tuple_end (I.ok.hd hc) st (show s.heap.IsTuple a its.toArray from p) (by simp; omega) fun h' eb => ⟨rfl, I.turned (t' := s.toks) (fun b o hb e => eb b o hb e) f0 f1 f3 f4 f5⟩
  self := fun _ _ _ _ _ st h => wpAny_pyIter_tupleiter st h
theorem turn_range {P : Program} {w : World} {K : PySem.W.Frag} {tg : Expr} (it : Addr) (lo : Int) (n : Nat) : Turn P w K tg (Itr lo n) [it] it (fun i h => IsRangeIter h it (lo + (i : Nat) * 1) ((n : Int) - (i : Nat)) 1) where
  mem := by simp
  obj := fun i h st b hb => by
    have e : b = it := by simpa using hb
    subst e
    exact ⟨_, st, fun v z => by
      have z' : Data.fields _ = Data.cell v := z
      cases z'⟩
  keep := fun i h h' st k => k it (by simp) _ st
  item := by
    intro X hP hw hK hc i pins s σ H E I hf st hg
    subst hP hw hK
    obtain ⟨f0, f1, f2, f3, f4, f5⟩ := hf it (by simp)
    have W := Walks.range (prog := X.prog) (w := X.w) (I.ok.hd hc) it lo 1 n
    refine W.item i s _ _ hg st fun v h' tk hv st' kk => ?_
    obtain ⟨t, rfl⟩ := hv
    have I1 : Inv X pins σ H { s with heap := h', toks := tk } := I.turned (fun b o hb e => kk b o (by simpa using hb) e) f0 f1 f3 f4 f5
    refine ⟨_, rfl, go_of (s := { s with heap := h', toks := tk }) (n := "range_iterator") st' rfl rfl (by decide) ⟨.int (lo + i), H, I1, ⟨t, ?_⟩, ⟨rfl, rfl⟩, st', fun b hb => (hf b hb).1⟩⟩
    rw [Int.mul_one]
  done := by
    intro X hP hw hK hc i pins s σ H E I hf st hg
    subst hP hw hK
    obtain ⟨f0, f1, f2, f3, f4, f5⟩ := hf it (by simp)
    exact wpAny_pyNext_range_end (I.ok.hd hc) st (by have : n ≤ i := hg; omega) fun h' eb => ⟨rfl, I.turned (t' := s.toks) (fun b o hb e => eb b o hb e) f0 f1 f3 f4 f5⟩
  self := fun _ _ _ _ _ st h => wpAny_pyIter_rangeiter st h
end L2
namespace L2
open PySem PySem.Spec PyProof.Rows
section
variable {X : Cx} {tg : Expr}
def iList (K : PySem.W.Frag) (tl : TE) : TI := fun σ H R => tl σ H fun x H1 => ∃ a, x = .ref a ∧ (∃ xs, SqL K H1 a xs) ∧ R (Itl K a) H1
def iTup (K : PySem.W.Frag) (tl : TE) : TI := fun σ H R => tl σ H fun x H1 => ∃ a, x = .ref a ∧ (∃ xs, SqT K H1 a xs) ∧ R (Itt K a) H1
theorem pi_list {l : Expr} {tl : TE} (hl : PE X l tl) : PI X tg l (iList X.K tl) := by
  intro pins s σ H R I h
  refine thn (hl pins s σ H _ I h) fun v s1 ⟨x, H1, I1, r1, q1⟩ => ?_
  obtain ⟨a, e, ⟨xs, hq⟩, q⟩ := q1
  subst e
  cases r1
  obtain ⟨its, rv, p, hz⟩ := I1.list hq
  refine wpAny_pyIter_list p.isList ?_
  refine ⟨s1.heap.objs.size, [s1.heap.objs.size], _, _, H1, rfl, I1.kept (t' := s1.toks) fun b o e => Heap.get?_push_of_some _ e, turn_list a _, ⟨_, Heap.get?_push_size _ rfl, rfl, rfl⟩, fun b hb => ?_, q⟩
  have e : b = s1.heap.objs.size := by simpa using hb
  subst e
  exact I1.fpOk (Nat.le_refl _) (I1.hok.fresh (Nat.le_refl _))
theorem pi_tup {l : Expr} {tl : TE} (hl : PE X l tl) : PI X tg l (iTup X.K tl) := by
  intro pins s σ H R I h
  refine thn (hl pins s σ H _ I h) fun v s1 ⟨x, H1, I1, r1, q1⟩ => ?_
  obtain ⟨a, e, ⟨xs, hq⟩, q⟩ := q1
  subst e
  cases r1
  obtain ⟨its, rv, p, hz⟩ := I1.tuple hq
  refine wpAny_pyIter_tuple (show s1.heap.IsTuple a its.toArray from p) ?_
  refine ⟨s1.heap.objs.size, [s1.heap.objs.size], _, _, H1, rfl, I1.kept (t' := s1.toks) fun b o e => Heap.get?_push_of_some _ e, turn_tuple a _, ⟨_, Heap.get?_push_size _ rfl, rfl, rfl⟩, fun b hb => ?_, q⟩
  have e : b = s1.heap.objs.size := by simpa using hb
  subst e
  exact I1.fpOk (Nat.le_refl _) (I1.hok.fresh (Nat.le_refl _))
/-- a range object just made, walked -/
theorem range_it {pins : List (Addr × Obj)} {σ : St} {H : Hp} {s : Shared} {R : It → Hp → Prop} {E : Value → Shared → Prop} {lo hi : Int} {t u v : Tok} {tk : Nat} (I : Inv X pins σ H s) (h1 : -(2 ^ 62) ≤ lo) (h2 : lo < 2 ^ 62) (h3 : -(2 ^ 62) ≤ hi) (h4 : hi < 2 ^ 62)
    (q : R (Itr lo (hi - lo).toNat) H) : wpAny (model X.prog X.w) X.A (pyIter (.ref s.heap.objs.size)) (PIE X pins σ tg R) E { s with heap := s.heap.push { cls := .type "range", data := .fields #[.int lo t, .int hi u, .int 1 v] }, toks := tk } := by
  refine wpAny_pyIter_range (IsRange.new ..) (small_one h1 h2 h3 h4) ?_
  have I1 : Inv X pins σ H { s with heap := s.heap.push { cls := .type "range", data := .fields #[.int lo t, .int hi u, .int 1 v] }, toks := tk } := I.kept fun b o e => Heap.get?_push_of_some _ e
  refine ⟨(s.heap.push { cls := .type "range", data := .fields #[.int lo t, .int hi u, .int 1 v] }).objs.size, [(s.heap.push { cls := .type "range", data := .fields #[.int lo t, .int hi u, .int 1 v] }).objs.size], _, _, H, rfl,
    I1.kept (t' := tk) fun b o e => Heap.get?_push_of_some _ e, turn_range _ lo (hi - lo).toNat, ?_, fun b hb => ?_, q⟩
  · have e1 : lo + ((0 : Nat) : Int) * 1 = lo := by simp
    have e2 : (((hi - lo).toNat : Nat) : Int) - ((0 : Nat) : Int) = Builtin.Range.rangeSize lo hi 1 := by rw [rangeSize_one]; split <;> omega
    show IsRangeIter _ _ (lo + ((0 : Nat) : Int) * 1) ((((hi - lo).toNat : Nat) : Int) - ((0 : Nat) : Int)) 1
    rw [e1, e2]
    exact Heap.get?_push_size _ rfl
  · have e : b = (s.heap.push { cls := .type "range", data := .fields #[.int lo t, .int hi u, .int 1 v] }).objs.size := by simpa using hb
    subst e
    exact I1.fpOk (Nat.le_refl _) (I1.hok.fresh (Nat.le_refl _))
def iRng1 (ta : TA) : TI := fun σ H R => ta σ H fun vs H1 => ∃ j : Int, vs = [.int j] ∧ -(2 ^ 62) ≤ j ∧ j < 2 ^ 62 ∧ R (Itr 0 j.toNat) H1
def iRng2 (ta : TA) : TI := fun σ H R => ta σ H fun vs H1 => ∃ i j : Int, vs = [.int i, .int j] ∧ (-(2 ^ 62) ≤ i ∧ i < 2 ^ 62 ∧ -(2 ^ 62) ≤ j ∧ j < 2 ^ 62) ∧ R (Itr i (j - i).toNat) H1
theorem pi_range1 {a : Expr} {ta : TA} {p pos : Pos} (hg : Gl X "range") (hm : X.mg "range" = none) (ha : PA X [a] ta) (hs : starEach [a] X.env = [(false, eval a X.env)] := by rfl) : PI X tg (.Call (.Name "range" p) [a] [] pos) (iRng1 ta) := by
  intro pins s σ H R I h
  refine Call_ (ld_blt I hg hm boot_range (PyProof.Rows.callWith_type1 (thn (ha pos pins s σ H _ I h) fun us s1 ⟨vs, H1, I1, r1, q1⟩ => ?_) hs rfl))
  obtain ⟨j, e, q1, q2, q⟩ := q1
  subst e
  cases r1 with
  | cons r rr =>
    cases rr
    obtain ⟨t, rfl⟩ := r
    exact call_range_1 (range_it I1 (by omega) (by omega) q1 q2 (by simpa using q))
theorem pi_range2 {a b : Expr} {ta : TA} {p pos : Pos} (hg : Gl X "range") (hm : X.mg "range" = none) (ha : PA X [a, b] ta) (hs : starEach [a, b] X.env = [(false, eval a X.env), (false, eval b X.env)] := by rfl) (hs2 : starEach [b] X.env = [(false, eval b X.env)] := by rfl) :
    PI X tg (.Call (.Name "range" p) [a, b] [] pos) (iRng2 ta) := by
  intro pins s σ H R I h
  refine Call_ (ld_blt I hg hm boot_range (PyProof.Rows.callWith_type1 (thn (ha pos pins s σ H _ I h) fun us s1 ⟨vs, H1, I1, r1, q1⟩ => ?_) (by rw [hs, hs2]) (by rw [hs2]; rfl)))
  obtain ⟨i, j, e, ⟨q1, q2, q3, q4⟩, q⟩ := q1
  subst e
  cases r1 with
  | cons r rr =>
    cases rr with
    | cons r' rr =>
      cases rr
      obtain ⟨t, rfl⟩ := r
      obtain ⟨t', rfl⟩ := r'
      exact call_range_2 (range_it I1 q1 q2 q3 q4 q)
/-- W: the invariant by the turn and a measure; N: what the body is to reach -/
def tFor (wi : TI) (g : TG) (tb : TS) : TS := fun D σ H => wi σ H fun J H1 => ∃ W : Nat → Nat → St → Hp → Prop, (∃ m, W 0 m σ H1) ∧ ∀ i m σ H, W i m σ H →
  (J.stop i H ∧ D.nx σ H) ∨ (J.go i H ∧ ∃ N : St → Hp → Prop, (∀ σ' H', N σ' H' → ∃ m', m' < m ∧ W (i + 1) m' σ' H') ∧ ∀ x H', J.yld i H x H' → g x σ H' fun σ2 H2 => tb { D with nx := N, ct := N, bk := D.nx } σ2 H2)
/-- the records at fp as they stand -/
def pinsAt (fp : List Addr) (h : Heap) : List (Addr × Obj) := fp.filterMap fun b => (h.get? b).map fun o => (b, o)
theorem mem_pinsAt {fp : List Addr} {h : Heap} {b : Addr} {o : Obj} (hb : b ∈ fp) (e : h.get? b = some o) : (b, o) ∈ pinsAt fp h := List.mem_filterMap.mpr ⟨b, hb, by rw [e]; rfl⟩
theorem of_pinsAt {fp : List Addr} {h : Heap} {p : Addr × Obj} (hp : p ∈ pinsAt fp h) : p.1 ∈ fp ∧ h.get? p.1 = some p.2 := by
  obtain ⟨b, hb, e⟩ := List.mem_filterMap.mp hp
  cases q : h.get? b with
  | none => rw [q] at e; cases e
  | some o =>
    rw [q] at e
    have e' : (b, o) = p := Option.some.inj e
    subst e'
    exact ⟨hb, q⟩
theorem Inv.pinned {pins : List (Addr × Obj)} {σ : St} {H : Hp} {s : Shared} {fp : List Addr} (I : Inv X pins σ H s) (hf : ∀ b ∈ fp, FpOk X pins H b) (ho : ∀ b ∈ fp, ∃ o, s.heap.get? b = some o ∧ ∀ v, o.data ≠ .cell v) : Inv X (pins ++ pinsAt fp s.heap) σ H s :=
  I.pins_of fun p hp => (List.mem_append.mp hp).elim (fun z => I.pin p (List.mem_append_right _ z)) fun z => by
    obtain ⟨hb, e⟩ := of_pinsAt z
    obtain ⟨f0, f1, f2, _⟩ := hf p.1 hb
    obtain ⟨o, e', d⟩ := ho p.1 hb
    rw [e] at e'; cases e'
    exact ⟨e, f0, f1, f2, d⟩
theorem Inv.unpinned {pins pl : List (Addr × Obj)} {σ : St} {H : Hp} {s : Shared} (I : Inv X (pins ++ pl) σ H s) : Inv X pins σ H s := I.pins_of fun p hp => I.pin p (List.mem_append_right _ (List.mem_append_left _ hp))
theorem ps_for {iter : Expr} {body : List Stmt} {wi : TI} {g : TG} {tb : TS} {pos : Pos} (hp : PassesOwn (model X.prog X.w) X.A X.env X.xe) (hc : X.calm = true) (hi : PI X tg iter wi) (hg : PG X tg g) (hb : PSs X body tb)
    (hs : ∀ x, foldedSetIterable iter X.env x = pure x := by intro _; rfl) : PS X (.For tg iter body [] pos) (tFor wi g tb) := by
  intro pins s σ H D I h
  refine wpAny_For (thn (hi pins s σ H _ I h) fun v s1 h1 => thn h1 fun itv s2 h2 => ?_) hs
  obtain ⟨it, fp, tn, J, H2, e, I2, T, st2, f2, W, ⟨m0, w0⟩, turn⟩ := h2
  subst e
  -- what stays true of the iterator's objects through the loop
  have stat : ∀ {H' : Hp}, (∀ b ∈ fp, H' b = none) → ∀ b ∈ fp, FpOk X pins H' b := fun hn b hb => ⟨hn b hb, (f2 b hb).2⟩
  refine codeAny_forLoop_any (fun n s' => ∃ i σ' H', Inv X pins σ' H' s' ∧ tn i s'.heap ∧ (∀ b ∈ fp, H' b = none) ∧ W i n σ' H') ?_ m0 ⟨0, σ, H2, I2, st2, fun b hb => (f2 b hb).1, w0⟩
  rintro n s3 ⟨i, σ3, H3, I3, st3, fr3, w3⟩
  rcases turn i n σ3 H3 w3 with ⟨stop, qn⟩ | ⟨go, N, hN, step⟩
  · refine wpAny_passesOwn hp (thn (T.done X rfl rfl rfl hc i pins s3 σ3 H3 X.xe I3 (stat fr3) st3 stop) fun r s4 ⟨hr, I4⟩ => ?_)
    subst hr
    exact wpAny_execs_nil ⟨σ3, H3, I4, qn⟩
  · refine wpAny_passesOwn hp (thn (T.item X rfl rfl rfl hc i pins s3 σ3 H3 X.xe I3 (stat fr3) st3 go) fun r s4 ⟨u, hr, h4⟩ => ?_)
    subst hr
    refine wpAny_passesOwn hp (thn h4 fun _ s5 ⟨x, H5, I5, r5, y5, st5, fr5⟩ => ?_)
    have I5' := I5.pinned (stat fr5) (T.obj _ _ st5)
    refine wpAny_passesOwn hp (thn (hg _ s5 σ3 H5 x u _ I5' r5 (step x H5 y5)) fun _ s6 ⟨σ6, H6, I6, q6⟩ => ?_)
    refine wpAny_passesOwn hp (thn (hb _ s6 σ6 H6 _ I6 q6) fun f s7 q7 => ?_)
    have again : ∀ {σ7 : St} {H7 : Hp}, Inv X (pins ++ pinsAt fp s5.heap) σ7 H7 s7 → N σ7 H7 → ∃ m, m < n ∧ ∃ i σ' H', Inv X pins σ' H' s7 ∧ tn i s7.heap ∧ (∀ b ∈ fp, H' b = none) ∧ W i m σ' H' := fun {σ7 H7} I7 n7 => by
      obtain ⟨m', hm, w7⟩ := hN σ7 H7 n7
      refine ⟨m', hm, i + 1, σ7, H7, I7.unpinned, T.keep _ _ _ st5 fun b hb o e => (I7.pin (b, o) (List.mem_append_right _ (List.mem_append_right _ (mem_pinsAt hb e)))).1, fun b hb => ?_, w7⟩
      obtain ⟨o, e, d⟩ := T.obj _ _ st5 b hb
      exact (I7.pin (b, o) (List.mem_append_right _ (List.mem_append_right _ (mem_pinsAt hb e)))).2.1
    cases f with
    | next => obtain ⟨σ7, H7, I7, n7⟩ := q7; exact again I7 n7
    | cont => obtain ⟨σ7, H7, I7, n7⟩ := q7; exact again I7 n7
    | brk => obtain ⟨σ7, H7, I7, q7⟩ := q7; exact ⟨σ7, H7, I7.unpinned, q7⟩
    | ret v => obtain ⟨x7, σ7, H7, I7, r7, q7⟩ := q7; exact ⟨x7, σ7, H7, I7.unpinned, r7, q7⟩
end
/-- over a list that the body leaves as it is -/
theorem for_list {K : PySem.W.Frag} {a : Addr} {xs : List V} {g : TG} {tb : TS} {D : Ends} {σ : St} {H : Hp} (Pv : Nat → St → Hp → Prop) (h0 : Pv 0 σ H) (hl : ∀ i σ H, i ≤ xs.length → Pv i σ H → SqL K H a xs)
    (hs : ∀ i x σ H, xs[i]? = some x → Pv i σ H → g x σ H fun σ2 H2 => tb { D with nx := Pv (i + 1), ct := Pv (i + 1), bk := D.nx } σ2 H2) (hd : ∀ σ H, Pv xs.length σ H → D.nx σ H) :
    ∃ W : Nat → Nat → St → Hp → Prop, (∃ m, W 0 m σ H) ∧ ∀ i m σ H, W i m σ H →
      ((Itl K a).stop i H ∧ D.nx σ H) ∨ ((Itl K a).go i H ∧ ∃ N : St → Hp → Prop, (∀ σ' H', N σ' H' → ∃ m', m' < m ∧ W (i + 1) m' σ' H') ∧ ∀ x H', (Itl K a).yld i H x H' → g x σ H' fun σ2 H2 => tb { D with nx := N, ct := N, bk := D.nx } σ2 H2) := by
  refine ⟨fun i m σ H => m = xs.length - i ∧ i ≤ xs.length ∧ Pv i σ H, ⟨xs.length, by simp, Nat.zero_le _, h0⟩, ?_⟩
  rintro i m σ H ⟨rfl, hi, p⟩
  have q := hl i σ H hi p
  by_cases hlt : i < xs.length
  · refine .inr ⟨⟨xs, xs[i], q, by simp [hlt]⟩, Pv (i + 1), fun σ' H' p' => ⟨xs.length - (i + 1), by omega, rfl, hlt, p'⟩, fun x H' y => ?_⟩
    obtain ⟨e, y⟩ := y
    subst e
    exact hs i x σ _ (y xs q) p
  · have e : i = xs.length := by omega
    subst e
    exact .inl ⟨⟨xs, q, Nat.le_refl _⟩, hd σ H p⟩
theorem for_tup {K : PySem.W.Frag} {a : Addr} {xs : List V} {g : TG} {tb : TS} {D : Ends} {σ : St} {H : Hp} (Pv : Nat → St → Hp → Prop) (h0 : Pv 0 σ H) (hl : ∀ i σ H, i ≤ xs.length → Pv i σ H → SqT K H a xs)
    (hs : ∀ i x σ H, xs[i]? = some x → Pv i σ H → g x σ H fun σ2 H2 => tb { D with nx := Pv (i + 1), ct := Pv (i + 1), bk := D.nx } σ2 H2) (hd : ∀ σ H, Pv xs.length σ H → D.nx σ H) :
    ∃ W : Nat → Nat → St → Hp → Prop, (∃ m, W 0 m σ H) ∧ ∀ i m σ H, W i m σ H →
      ((Itt K a).stop i H ∧ D.nx σ H) ∨ ((Itt K a).go i H ∧ ∃ N : St → Hp → Prop, (∀ σ' H', N σ' H' → ∃ m', m' < m ∧ W (i + 1) m' σ' H') ∧ ∀ x H', (Itt K a).yld i H x H' → g x σ H' fun σ2 H2 => tb { D with nx := N, ct := N, bk := D.nx } σ2 H2) := by
  refine ⟨fun i m σ H => m = xs.length - i ∧ i ≤ xs.length ∧ Pv i σ H, ⟨xs.length, by simp, Nat.zero_le _, h0⟩, ?_⟩
  rintro i m σ H ⟨rfl, hi, p⟩
  have q := hl i σ H hi p
  by_cases hlt : i < xs.length
  · refine .inr ⟨⟨xs, xs[i], q, by simp [hlt]⟩, Pv (i + 1), fun σ' H' p' => ⟨xs.length - (i + 1), by omega, rfl, hlt, p'⟩, fun x H' y => ?_⟩
    obtain ⟨e, y⟩ := y
    subst e
    exact hs i x σ _ (y xs q) p
  · have e : i = xs.length := by omega
    subst e
    exact .inl ⟨⟨xs, q, Nat.le_refl _⟩, hd σ H p⟩
theorem for_range {lo : Int} {n : Nat} {g : TG} {tb : TS} {D : Ends} {σ : St} {H : Hp} (Pv : Nat → St → Hp → Prop) (h0 : Pv 0 σ H)
    (hs : ∀ i σ H, i < n → Pv i σ H → g (.int (lo + i)) σ H fun σ2 H2 => tb { D with nx := Pv (i + 1), ct := Pv (i + 1), bk := D.nx } σ2 H2) (hd : ∀ σ H, Pv n σ H → D.nx σ H) :
    ∃ W : Nat → Nat → St → Hp → Prop, (∃ m, W 0 m σ H) ∧ ∀ i m σ H, W i m σ H →
      ((Itr lo n).stop i H ∧ D.nx σ H) ∨ ((Itr lo n).go i H ∧ ∃ N : St → Hp → Prop, (∀ σ' H', N σ' H' → ∃ m', m' < m ∧ W (i + 1) m' σ' H') ∧ ∀ x H', (Itr lo n).yld i H x H' → g x σ H' fun σ2 H2 => tb { D with nx := N, ct := N, bk := D.nx } σ2 H2) := by
  refine ⟨fun i m σ H => m = n - i ∧ i ≤ n ∧ Pv i σ H, ⟨n, by simp, Nat.zero_le _, h0⟩, ?_⟩
  rintro i m σ H ⟨rfl, hi, p⟩
  by_cases hlt : i < n
  · refine .inr ⟨hlt, Pv (i + 1), fun σ' H' p' => ⟨n - (i + 1), by omega, rfl, hlt, p'⟩, fun x H' y => ?_⟩
    obtain ⟨e, y⟩ := y
    subst e y
    exact hs i σ _ hlt p
  · have e : i = n := by omega
    subst e
    exact .inl ⟨Nat.le_refl _, hd σ H p⟩
/-- while, by a word and a measure of the state -/
theorem while_by {c : TT} {tb : TS} {D : Ends} {σ : St} {H : Hp} (Pv : St → Hp → Prop) (μ : St → Hp → Nat) (h0 : Pv σ H)
    (hs : ∀ σ H, Pv σ H → c σ H fun b H1 => if b = true then tb { D with nx := fun σ' H' => Pv σ' H' ∧ μ σ' H' < μ σ H, ct := fun σ' H' => Pv σ' H' ∧ μ σ' H' < μ σ H, bk := D.nx } σ H1 else D.nx σ H1)
    (mono : ∀ σ H Q Q', (∀ b H1, Q b H1 → Q' b H1) → c σ H Q → c σ H Q') : tWhile c tb D σ H := by
  refine ⟨fun m σ H => m = μ σ H ∧ Pv σ H, ⟨_, rfl, h0⟩, ?_⟩
  rintro m σ H ⟨rfl, p⟩
  refine mono σ H _ _ (fun b H1 q => ?_) (hs σ H p)
  cases b with
  | true => exact ⟨_, fun σ' H' ⟨p', l⟩ => ⟨_, l, rfl, p'⟩, q⟩
  | false => exact q
end L2
namespace L2
open PySem PySem.Spec PyProof.Rows
abbrev R2 := V → V → Hp → VK → Prop
/-- a two-place operation on values: f is binaryOp op, inplaceOp op or compareOp op -/
def OpR (X : Cx) (f : Value → Value → Sem Value) (r : R2) : Prop :=
  ∀ (pins : List (Addr × Obj)) (s : Shared) (σ : St) (H : Hp) (x y : V) (v u : Value) (Q : VK), Inv X pins σ H s → RelV x v → RelV y u → r x y H Q →
    wpAny (model X.prog X.w) X.A (f v u) (EP X pins σ Q) X.xe s
/-- a one-place operation -/
def UnR (X : Cx) (f : Value → Sem Value) (r : V → Hp → VK → Prop) : Prop :=
  ∀ (pins : List (Addr × Obj)) (s : Shared) (σ : St) (H : Hp) (x : V) (v : Value) (Q : VK), Inv X pins σ H s → RelV x v → r x H Q →
    wpAny (model X.prog X.w) X.A (f v) (EP X pins σ Q) X.xe s
/-- a call of a value that is known (a builtin, a type) with values -/
def CallR (X : Cx) (f : Value) (r : List V → Hp → VK → Prop) : Prop :=
  ∀ (pins : List (Addr × Obj)) (s : Shared) (σ : St) (H : Hp) (xs : List V) (us : List Value) (Q : VK), Inv X pins σ H s → Vals xs us → r xs H Q →
    wpAny (model X.prog X.w) X.A (call f us) (EP X pins σ Q) X.xe s
/-- a value's truth -/
def TruR (X : Cx) (r : V → Hp → (Bool → Hp → Prop) → Prop) : Prop :=
  ∀ (pins : List (Addr × Obj)) (s : Shared) (σ : St) (H : Hp) (x : V) (v : Value) (Q : Bool → Hp → Prop), Inv X pins σ H s → RelV x v → r x H Q →
    wpAny (model X.prog X.w) X.A (truthy v) (TP X pins σ Q) X.xe s
def tOp (r : R2) (ta tb : TE) : TE := fun σ H Q => ta σ H fun x H1 => tb σ H1 fun y H2 => r x y H2 Q
def tUn (r : V → Hp → VK → Prop) (ta : TE) : TE := fun σ H Q => ta σ H fun x H1 => r x H1 Q
/-- ints in, under C, and a value out -/
def rI (C : Int → Int → Prop) (g : Int → Int → V) : R2 := fun x y H Q => ∃ i j, x = .int i ∧ y = .int j ∧ C i j ∧ Q (g i j) H
def rI0 (g : Int → Int → V) : R2 := fun x y H Q => ∃ i j, x = .int i ∧ y = .int j ∧ Q (g i j) H
def rU (g : Int → V) : V → Hp → VK → Prop := fun x H Q => ∃ i, x = .int i ∧ Q (g i) H
section
variable {X : Cx} {a b c : Expr} {ta tb tc : TE} {pos : Pos}
theorem binT (ha : PE X a ta) (hb : PE X b tb) {pins : List (Addr × Obj)} {s : Shared} {σ : St} {H : Hp} {R : V → V → Hp → Prop} (I : Inv X pins σ H s)
    (h : ta σ H fun x H1 => tb σ H1 fun y H2 => R x y H2) {Q : Value → Shared → Prop} {f : Value → Value → Sem Value}
    (hf : ∀ v u s2 x y H2, Inv X pins σ H2 s2 → RelV x v → RelV y u → R x y H2 → wpAny (model X.prog X.w) X.A (f v u) Q X.xe s2) :
    wpAny (model X.prog X.w) X.A (eval a X.env) (fun v s₁ => wpAny (model X.prog X.w) X.A (eval b X.env) (fun u s₂ => wpAny (model X.prog X.w) X.A (f v u) Q X.xe s₂) X.xe s₁) X.xe s := by
  refine thn (ha pins s σ H _ I h) fun v s1 ⟨x, H1, I1, r1, q1⟩ => ?_
  refine thn (hb pins s1 σ H1 _ I1 q1) fun u s2 ⟨y, H2, I2, r2, q2⟩ => ?_
  exact hf v u s2 x y H2 I2 r1 r2 q2
theorem pe_op {op : Operator} {r : R2} (ho : OpR X (binaryOp op) r) (ha : PE X a ta) (hb : PE X b tb) : PE X (.BinOp a op b pos) (tOp r ta tb) := by
  intro pins s σ H Q I h
  exact wpAny_BinOp (binT ha hb I h fun v u s2 x y H2 I2 rx ry q => ho pins s2 σ H2 x y v u Q I2 rx ry q)
theorem pe_un {op : UnaryOp} {r : V → Hp → VK → Prop} (ho : UnR X (unaryOp op) r) (ha : PE X a ta) : PE X (.UnaryOp op a pos) (tUn r ta) := by
  intro pins s σ H Q I h
  exact UnaryOp_ (thn (ha pins s σ H _ I h) fun v s1 ⟨x, H1, I1, r1, q1⟩ => ho pins s1 σ H1 x v Q I1 r1 q1)
theorem opI {f : Value → Value → Sem Value} {C : Int → Int → Prop} {g : Int → Int → Int}
    (rule : ∀ (i j : Int) (t u : Tok) (s : Shared) (Q : Value → Shared → Prop) (E : Value → Shared → Prop), C i j → Q (.int (g i j) s.toks) { s with toks := s.toks + 1 } → wpAny (model X.prog X.w) X.A (f (.int i t) (.int j u)) Q E s) :
    OpR X f (rI C fun i j => .int (g i j)) := by
  intro pins s σ H x y v u Q I rx ry h
  obtain ⟨i, j, rfl, rfl, hc, q⟩ := h
  obtain ⟨t, rfl⟩ := rx
  obtain ⟨t', rfl⟩ := ry
  exact rule i j t t' s _ _ hc ⟨.int (g i j), H, I.tok _, ⟨_, rfl⟩, q⟩
theorem opI0 {f : Value → Value → Sem Value} {g : Int → Int → Int}
    (rule : ∀ (i j : Int) (t u : Tok) (s : Shared) (Q : Value → Shared → Prop) (E : Value → Shared → Prop), Q (.int (g i j) s.toks) { s with toks := s.toks + 1 } → wpAny (model X.prog X.w) X.A (f (.int i t) (.int j u)) Q E s) :
    OpR X f (rI0 fun i j => .int (g i j)) := by
  intro pins s σ H x y v u Q I rx ry h
  obtain ⟨i, j, rfl, rfl, q⟩ := h
  obtain ⟨t, rfl⟩ := rx
  obtain ⟨t', rfl⟩ := ry
  exact rule i j t t' s _ _ ⟨.int (g i j), H, I.tok _, ⟨_, rfl⟩, q⟩
theorem opB0 {f : Value → Value → Sem Value} {g : Int → Int → Bool}
    (rule : ∀ (i j : Int) (t u : Tok) (s : Shared) (Q : Value → Shared → Prop) (E : Value → Shared → Prop), Q (.bool (g i j)) s → wpAny (model X.prog X.w) X.A (f (.int i t) (.int j u)) Q E s) :
    OpR X f (rI0 fun i j => .bl (g i j)) := by
  intro pins s σ H x y v u Q I rx ry h
  obtain ⟨i, j, rfl, rfl, q⟩ := h
  obtain ⟨t, rfl⟩ := rx
  obtain ⟨t', rfl⟩ := ry
  exact rule i j t t' s _ _ ⟨.bl (g i j), H, I, rfl, q⟩
def CDiv (i j : Int) : Prop := 0 < j ∧ j < 1073741824
def CPow (i j : Int) : Prop := 0 ≤ j ∧ j ≤ 1000000 ∧ i.natAbs < 2 ^ 64
def CMul (i j : Int) : Prop := (-(2 ^ 64) < i ∧ i < 2 ^ 64) ∨ (-(2 ^ 64) < j ∧ j < 2 ^ 64)
theorem CMul.ok {i j : Int} (h : CMul i j) : IntMulOk i j := by
  rcases h with ⟨h1, h2⟩ | ⟨h1, h2⟩
  · exact .of_left (intBits_le_64 h1 h2)
  · exact .of_right (intBits_le_64 h1 h2)
theorem two_pow_nn (k : Nat) : (0 : Int) ≤ 2 ^ k := by
  rw [two_pow_cast]
  exact Int.natCast_nonneg _
theorem op_add : OpR X (binaryOp .Add) (rI0 fun i j => .int (i + j)) := opI0 fun _ _ _ _ _ _ _ q => add_int q
theorem op_sub : OpR X (binaryOp .Sub) (rI0 fun i j => .int (i - j)) := opI0 fun _ _ _ _ _ _ _ q => sub_int q
theorem op_mul : OpR X (binaryOp .Mult) (rI CMul fun i j => .int (i * j)) := opI fun _ _ _ _ _ _ _ hc q => mul_int q hc.ok
/-- // by a positive divisor -/
theorem op_fdiv : OpR X (binaryOp .FloorDiv) (rI CDiv fun i j => .int (i / j)) := opI fun i j _ _ _ _ _ hc q => by
  have h1 : (0 : Int) < j := hc.1
  have h2 : j < 1073741824 := hc.2
  exact floordiv_int (by omega) (by rw [Int.fdiv_eq_ediv_of_nonneg i (by omega)]; exact q) (.inl (PyProof.noPylong_small (by omega)))
/-- % by a positive divisor of any size -/
theorem op_mod : OpR X (binaryOp .Mod) (rI (fun _ j => 0 < j) fun i j => .int (i % j)) := opI fun i j _ _ _ _ _ hc q => by
  have h1 : (0 : Int) < j := hc
  exact mod_int' (by omega) (by rw [Int.fmod_eq_emod_of_nonneg i (by omega)]; exact q)
theorem op_shl : OpR X (binaryOp .LShift) (rI CPow fun i j => .int (i * 2 ^ j.toNat)) := opI fun _ _ _ _ _ _ _ hc q => lshift_int_small hc.1 hc.2.1 hc.2.2 q
theorem op_shr : OpR X (binaryOp .RShift) (rI (fun _ j => 0 ≤ j) fun i j => .int (i / 2 ^ j.toNat)) := opI fun i j _ _ _ _ _ hc q =>
  rshift_int hc (by rw [Int.fdiv_eq_ediv_of_nonneg i (two_pow_nn _)]; exact q)
theorem op_and : OpR X (binaryOp .BitAnd) (rI0 fun i j => .int (Builtin.bitAnd i j)) := opI0 fun _ _ _ _ _ _ _ q => and_int q
theorem op_xor : OpR X (binaryOp .BitXor) (rI0 fun i j => .int (Builtin.bitXor i j)) := opI0 fun _ _ _ _ _ _ _ q => xor_int q
theorem unI {f : Value → Sem Value} {g : Int → Int}
    (rule : ∀ (i : Int) (t : Tok) (s : Shared) (Q : Value → Shared → Prop) (E : Value → Shared → Prop), Q (.int (g i) s.toks) { s with toks := s.toks + 1 } → wpAny (model X.prog X.w) X.A (f (.int i t)) Q E s) :
    UnR X f (rU fun i => .int (g i)) := by
  intro pins s σ H x v Q I rx h
  obtain ⟨i, rfl, q⟩ := h
  obtain ⟨t, rfl⟩ := rx
  exact rule i t s _ _ ⟨.int (g i), H, I.tok _, ⟨_, rfl⟩, q⟩
theorem un_neg : UnR X (unaryOp .USub) (rU fun i => .int (-i)) := unI fun _ _ _ _ _ q => neg_int q
end
/-- the scalars that == tells apart as data does -/
def scal : V → V → Bool
  | .non, .non => true | .non, .int _ => true | .int _, .non => true | .non, .bl _ => true | .bl _, .non => true | .non, .str _ => true | .str _, .non => true
  | .int _, .int _ => true | .bl _, .bl _ => true | .str _, .str _ => true | .byt _, .byt _ => true
  | .int _, .str _ => true | .str _, .int _ => true | .bl _, .str _ => true | .str _, .bl _ => true
  | _, _ => false
def rEq : R2 := fun x y H Q => scal x y = true ∧ Q (.bl (decide (x = y))) H
def rNe : R2 := fun x y H Q => scal x y = true ∧ Q (.bl (!decide (x = y))) H
theorem dec_int {i j : Int} : decide (V.int i = V.int j) = (i == j) := by
  rw [Bool.eq_iff_iff]
  simp
theorem dec_bl {i j : Bool} : decide (V.bl i = V.bl j) = (i == j) := by
  rw [Bool.eq_iff_iff]
  simp
theorem dec_str {i j : Str} : decide (V.str i = V.str j) = (i == j) := by
  rw [Bool.eq_iff_iff]
  simp
theorem dec_byt {i j : Array UInt8} : decide (V.byt i = V.byt j) = (i.toList == j.toList) := by
  rw [Bool.eq_iff_iff]
  cases i
  cases j
  simp
section
variable {X : Cx} {a b c : Expr} {ta tb tc : TE} {pos : Pos}
theorem fin_bl {pins : List (Addr × Obj)} {σ : St} {H : Hp} {s : Shared} {Q : VK} {k k' : Bool} (I : Inv X pins σ H s) (q : Q (.bl k) H) (e : k = k') : EP X pins σ Q (.bool k') s := by
  subst e
  exact ⟨.bl k, H, I, rfl, q⟩
theorem op_eq : OpR X (compareOp .Eq) rEq := by
  intro pins s σ H x y v u Q I rx ry h
  obtain ⟨hs, q⟩ := h
  cases x with
  | non =>
    cases rx
    cases y with
    | non => cases ry; exact PySem.EqNone.eq_none_none (fin_bl I q (by simp))
    | bl j => cases ry; exact PySem.EqNone.eq_none_bool (fin_bl I q (by simp))
    | int j => obtain ⟨t', rfl⟩ := ry; exact PySem.EqNone.eq_none_int (fin_bl I q (by simp))
    | str j => obtain ⟨t', rfl⟩ := ry; exact PySem.EqNone.eq_none_str (fin_bl I q (by simp))
    | _ => exact absurd (show false = true from hs) Bool.false_ne_true
  | bl i =>
    cases rx
    cases y with
    | non => cases ry; exact PySem.EqNone.eq_bool_none (fin_bl I q (by simp))
    | bl j => cases ry; exact eq_bool (fin_bl I q dec_bl)
    | str j => obtain ⟨t', rfl⟩ := ry; exact PySem.EqMixed.eq_bool_str (fin_bl I q (by simp))
    | _ => exact absurd (show false = true from hs) Bool.false_ne_true
  | int i =>
    obtain ⟨t, rfl⟩ := rx
    cases y with
    | non => cases ry; exact PySem.EqNone.eq_int_none (fin_bl I q (by simp))
    | int j => obtain ⟨t', rfl⟩ := ry; exact eq_int (fin_bl I q dec_int)
    | str j => obtain ⟨t', rfl⟩ := ry; exact PySem.EqMixed.eq_int_str (fin_bl I q (by simp))
    | _ => exact absurd (show false = true from hs) Bool.false_ne_true
  | str i =>
    obtain ⟨t, rfl⟩ := rx
    cases y with
    | non => cases ry; exact PySem.EqNone.eq_str_none (fin_bl I q (by simp))
    | bl j => cases ry; exact PySem.EqMixed.eq_str_bool (fin_bl I q (by simp))
    | int j => obtain ⟨t', rfl⟩ := ry; exact PySem.EqMixed.eq_str_int (fin_bl I q (by simp))
    | str j => obtain ⟨t', rfl⟩ := ry; exact eq_str (fin_bl I q dec_str)
    | _ => exact absurd (show false = true from hs) Bool.false_ne_true
  | byt i =>
    obtain ⟨t, rfl⟩ := rx
    cases y with
    | byt j => obtain ⟨t', rfl⟩ := ry; exact PySem.W.eq_bytes (fin_bl I q dec_byt)
    | _ => exact absurd (show false = true from hs) Bool.false_ne_true
  | _ => cases y <;> exact absurd (show false = true from hs) Bool.false_ne_true
theorem op_ne : OpR X (compareOp .NotEq) rNe := by
  intro pins s σ H x y v u Q I rx ry h
  obtain ⟨hs, q⟩ := h
  cases x with
  | non =>
    cases rx
    cases y with
    | non => cases ry; exact PySem.EqNone.ne_none_none (fin_bl I q (by simp))
    | bl j => cases ry; exact PySem.EqNone.ne_none_bool (fin_bl I q (by simp))
    | int j => obtain ⟨t', rfl⟩ := ry; exact PySem.EqNone.ne_none_int (fin_bl I q (by simp))
    | str j => obtain ⟨t', rfl⟩ := ry; exact PySem.EqNone.ne_none_str (fin_bl I q (by simp))
    | _ => exact absurd (show false = true from hs) Bool.false_ne_true
  | bl i =>
    cases rx
    cases y with
    | non => cases ry; exact PySem.EqNone.ne_bool_none (fin_bl I q (by simp))
    | bl j => cases ry; exact ne_bool (fin_bl I q (congrArg not dec_bl))
    | str j => obtain ⟨t', rfl⟩ := ry; exact PySem.EqMixed.ne_bool_str (fin_bl I q (by simp))
    | _ => exact absurd (show false = true from hs) Bool.false_ne_true
  | int i =>
    obtain ⟨t, rfl⟩ := rx
    cases y with
    | non => cases ry; exact PySem.EqNone.ne_int_none (fin_bl I q (by simp))
    | int j => obtain ⟨t', rfl⟩ := ry; exact ne_int (fin_bl I q (congrArg not dec_int))
    | str j => obtain ⟨t', rfl⟩ := ry; exact PySem.EqMixed.ne_int_str (fin_bl I q (by simp))
    | _ => exact absurd (show false = true from hs) Bool.false_ne_true
  | str i =>
    obtain ⟨t, rfl⟩ := rx
    cases y with
    | non => cases ry; exact PySem.EqNone.ne_str_none (fin_bl I q (by simp))
    | bl j => cases ry; exact PySem.EqMixed.ne_str_bool (fin_bl I q (by simp))
    | int j => obtain ⟨t', rfl⟩ := ry; exact PySem.EqMixed.ne_str_int (fin_bl I q (by simp))
    | str j => obtain ⟨t', rfl⟩ := ry; exact ne_str (fin_bl I q (congrArg not dec_str))
    | _ => exact absurd (show false = true from hs) Bool.false_ne_true
  | byt i =>
    obtain ⟨t, rfl⟩ := rx
    cases y with
    | byt j => obtain ⟨t', rfl⟩ := ry; exact PySem.W.ne_bytes (fin_bl I q (congrArg not dec_byt))
    | _ => exact absurd (show false = true from hs) Bool.false_ne_true
  | _ => cases y <;> exact absurd (show false = true from hs) Bool.false_ne_true
theorem op_lt : OpR X (compareOp .Lt) (rI0 fun i j => .bl (decide (i < j))) := opB0 fun _ _ _ _ _ _ _ q => lt_int q
theorem op_gt : OpR X (compareOp .Gt) (rI0 fun i j => .bl (decide (j < i))) := opB0 fun _ _ _ _ _ _ _ q => gt_int q
theorem op_ge : OpR X (compareOp .GtE) (rI0 fun i j => .bl (decide (j ≤ i))) := opB0 fun _ _ _ _ _ _ _ q => ge_int q
theorem nomark (b : Expr) {op : CmpOp} (h : op ≠ .In := by decide) (h2 : op ≠ .NotIn := by decide) : behindInMarks op b = false := by
  have e1 : (op == CmpOp.In) = false := by cases op <;> first | rfl | exact absurd rfl h
  have e2 : (op == CmpOp.NotIn) = false := by cases op <;> first | rfl | exact absurd rfl h2
  cases b <;> simp [behindInMarks, e1, e2]
/-- a comparison as a value; hm: nomark b, or (for in, not in) by with_unfolding_all rfl -/
theorem pe_cmpR {op : CmpOp} {r : R2} (ho : OpR X (compareOp op) r) (ha : PE X a ta) (hb : PE X b tb) (hm : behindInMarks op b = false) : PE X (.Compare a [op] [b] pos) (tOp r ta tb) := by
  intro pins s σ H Q I h
  exact wpAny_Compare1 (binT ha hb I h fun v u s2 x y H2 I2 rx ry q => ho pins s2 σ H2 x y v u Q I2 rx ry q) hm
/-- a reading of a value as a test -/
def tTest (t : TE) : TT := fun σ H Q => t σ H fun x H' => ∃ k, x = .bl k ∧ Q k H'
theorem pt_cmpR {op : CmpOp} {r : R2} (ho : OpR X (compareOp op) r) (ha : PE X a ta) (hb : PE X b tb) (hm : behindInMarks op b = false) : PT X (.Compare a [op] [b] pos) (tTest (tOp r ta tb)) := by
  intro pins s σ H Q I h
  refine wpAny_isTrue_Compare1 (thn (ha pins s σ H _ I h) fun v s1 ⟨x, H1, I1, r1, q1⟩ => thn (hb pins s1 σ H1 _ I1 q1) fun u s2 ⟨y, H2, I2, r2, q2⟩ =>
    thn (ho pins s2 σ H2 x y v u _ I2 r1 r2 q2) fun c s3 ⟨z, H3, I3, r3, k, e, q3⟩ => ?_) hm
  subst e
  cases r3
  exact wpAny_truthy_bool ⟨H3, I3, q3⟩
/-- a value's truth by the abstract heap -/
def TruV (K : PySem.W.Frag) (x : V) (H : Hp) (k : Bool) : Prop :=
  match x with
  | .non => k = false
  | .bl b => k = b
  | .int i => k = (i != 0)
  | .str y => y.length ≤ sizeLine ∧ k = ((y.length : Int) != 0)
  | .byt y => y.size ≤ sizeLine ∧ k = ((y.size : Int) != 0)
  | .ref p => (∃ xs, SqL K H p xs ∧ k = !xs.isEmpty) ∨ (∃ xs, SqT K H p xs ∧ k = !xs.isEmpty) ∨ ∃ kvs, H p = some (.dK kvs) ∧ k = !kvs.isEmpty
  | _ => False
theorem isEmpty_kv {κ : Type} {kvs : List (κ × V)} {vs : List (κ × Value)} (r : KV kvs vs) : (!vs.isEmpty) = !kvs.isEmpty := by
  cases r <;> rfl
theorem isEmpty_of {xs : List V} {its : List Value} (r : Vals xs its) : (!its.toArray.isEmpty) = !xs.isEmpty := by
  cases r <;> simp
theorem line63 : (sizeLine : Nat) < 2 ^ 63 := by rw [sizeLine_eq]; decide
theorem tru_ok : TruR X (fun x H Q => ∃ k, TruV X.K x H k ∧ Q k H) := by
  intro pins s σ H x v Q I rx h
  obtain ⟨k, e, q⟩ := h
  have hl := line63
  have hs : sizeLine = 16777216 := sizeLine_eq
  cases x with
  | non =>
    cases rx
    have e' : k = false := e
    subst e'
    exact truthy_none ⟨H, I, q⟩
  | bl b =>
    cases rx
    have e' : k = b := e
    subst e'
    exact wpAny_truthy_bool ⟨H, I, q⟩
  | int i =>
    obtain ⟨t, rfl⟩ := rx
    have e' : k = (i != 0) := e
    subst e'
    exact PySem.P.truthy_int ⟨H, I, q⟩
  | str y =>
    obtain ⟨t, rfl⟩ := rx
    obtain ⟨hy, e'⟩ : y.length ≤ sizeLine ∧ k = ((y.length : Int) != 0) := e
    subst e'
    exact PySem.P.truthy_str (by omega) ⟨H, I.tok _, q⟩
  | byt y =>
    obtain ⟨t, rfl⟩ := rx
    obtain ⟨hy, e'⟩ : y.size ≤ sizeLine ∧ k = ((y.size : Int) != 0) := e
    subst e'
    exact PySem.W.truthy_bytes (by omega) ⟨H, I.tok _, q⟩
  | ref p =>
    cases rx
    have e' : (∃ xs, SqL X.K H p xs ∧ k = !xs.isEmpty) ∨ (∃ xs, SqT X.K H p xs ∧ k = !xs.isEmpty) ∨ ∃ kvs, H p = some (.dK kvs) ∧ k = !kvs.isEmpty := e
    rcases e' with ⟨xs, hx, e'⟩ | ⟨xs, hx, e'⟩ | ⟨kvs, hx, e'⟩
    · subst e'
      obtain ⟨its, r, pl, hz⟩ := I.list hx
      have hlen := r.length
      exact wpAny_truthy_list pl.isList (by simp only [List.size_toArray]; omega) ⟨H, I.tok _, by rw [isEmpty_of r]; exact q⟩
    · subst e'
      obtain ⟨its, r, pl, hz⟩ := I.tuple hx
      have hlen := r.length
      exact truthy_tuple pl (by simp only [List.size_toArray]; omega) ⟨H, I.tok _, by rw [isEmpty_of r]; exact q⟩
    · subst e'
      obtain ⟨hz, hS, vs, r, m⟩ : kvs.length ≤ sizeLine ∧ (p == sysModules) = false ∧ ∃ vs, KV kvs vs ∧ s.heap.DictOf (mixKind X.prog X.w) p vs := I.hok p _ hx
      have hlen : kvs.length = vs.length := Paired.length r
      exact wpAny_truthy_dict hS m (by omega) ⟨H, I.tok _, by rw [isEmpty_kv r]; exact q⟩
  | _ => exact (show False from e).elim
/-- any expression whose test is its value's truth (a name, a call, a subscript, a field ..: he by fun _ => rfl) -/
theorem pt_truth (ha : PE X a ta) (he : ∀ whole, isTrue a X.env whole = (do let v ← whole; standAt a.pos; holding [v] (truthy v))) :
    PT X a (fun σ H Q => ta σ H fun x H' => ∃ k, TruV X.K x H' k ∧ Q k H') := by
  intro pins s σ H Q I h
  exact isTrue_plain (thn (ha pins s σ H _ I h) fun v s1 ⟨x, H1, I1, r1, q1⟩ => tru_ok pins s1 σ H1 x v Q I1 r1 q1) (he _)
theorem vals1 {x : V} {us : List Value} (r : Vals [x] us) : ∃ u, us = [u] ∧ RelV x u := by
  cases r with
  | cons r1 r2 => cases r2; exact ⟨_, rfl, r1⟩
/-- len of a str, a bytes, a list, a tuple -/
def LenV (K : PySem.W.Frag) (x : V) (H : Hp) (n : Nat) : Prop :=
  match x with
  | .str y => y.length ≤ sizeLine ∧ n = y.length
  | .byt y => y.size ≤ sizeLine ∧ n = y.size
  | .ref p => (∃ xs, SqL K H p xs ∧ n = xs.length) ∨ ∃ xs, SqT K H p xs ∧ n = xs.length
  | _ => False
theorem call_len : CallR X (.builtin "len") (fun xs H Q => ∃ x n, xs = [x] ∧ LenV X.K x H n ∧ Q (.int n) H) := by
  intro pins s σ H xs us Q I r h
  obtain ⟨x, n, rfl, e, q⟩ := h
  obtain ⟨u, rfl, rx⟩ := vals1 r
  have hl := line63
  have hs : sizeLine = 16777216 := sizeLine_eq
  cases x with
  | str y =>
    obtain ⟨t, rfl⟩ := rx
    obtain ⟨hy, e'⟩ : y.length ≤ sizeLine ∧ n = y.length := e
    subst e'
    exact len_str (by omega) ⟨.int _, H, I.tok _, ⟨_, rfl⟩, q⟩
  | byt y =>
    obtain ⟨t, rfl⟩ := rx
    obtain ⟨hy, e'⟩ : y.size ≤ sizeLine ∧ n = y.size := e
    subst e'
    exact PySem.W.len_bytes (by omega) ⟨.int _, H, I.tok _, ⟨_, rfl⟩, q⟩
  | ref p =>
    cases rx
    have e' : (∃ xs, SqL X.K H p xs ∧ n = xs.length) ∨ ∃ xs, SqT X.K H p xs ∧ n = xs.length := e
    rcases e' with ⟨xs, hx, e'⟩ | ⟨xs, hx, e'⟩
    · subst e'
      obtain ⟨its, r', pl, hz⟩ := I.list hx
      have hlen := r'.length
      exact Calls.call_len_list pl.isList (by simp only [List.size_toArray]; omega) ⟨.int xs.length, H, I.tok _, ⟨_, by simp only [List.size_toArray]; rw [hlen]⟩, q⟩
    · subst e'
      obtain ⟨its, r', pl, hz⟩ := I.tuple hx
      have hlen := r'.length
      exact len_tuple pl (by simp only [List.size_toArray]; omega) ⟨.int xs.length, H, I.tok _, ⟨_, by simp only [List.size_toArray]; rw [hlen]⟩, q⟩
  | _ => exact (show False from e).elim
end
end L2
namespace L2
open PySem PySem.Spec PyProof.Rows
structure ObjM (h : Heap) (x dx C : Addr) (mA : Str → Option Value) : Prop where
  obj : h.get? x = some (PySem.W.instObj C dx)
  ns : h.Ns1 dx mA
  ne : dx ≠ x
theorem lookIn_ns {h : Heap} {dx : Addr} {mA : Str → Option Value} (n : h.Ns1 dx mA) : ∃ od, h.get? dx = some od ∧ ∀ name, PySem.W.lookIn name od = some (mA name) := by
  obtain ⟨o, es, ep, ho, hd, hk, _, hm⟩ := n
  refine ⟨o, ho, fun name => ?_⟩
  have e := hm name
  unfold nsFind findBy at e
  rw [← Array.find?_toList] at e
  unfold PySem.W.lookIn
  rw [hd]
  dsimp only
  split
  · rename_i y q
    rw [q] at e
    exact congrArg some e
  · rename_i q
    rw [q] at e
    have a : es.toList.any (·.refKey) = false := by
      rw [List.any_eq_false]
      intro y hy
      obtain ⟨z, t, hkey⟩ := hk y (Array.mem_toList_iff.mp hy)
      simp [DictEntry.refKey, hkey]
    have a' : ¬ es.toList.any (·.refKey) = true := by rw [a]; exact Bool.false_ne_true
    rw [if_neg a']
    exact congrArg some e
theorem ObjM.look {h : Heap} {x dx C : Addr} {mA : Str → Option Value} (I : ObjM h x dx C mA) : ∃ od, PySem.W.InstAt h x (PySem.W.instObj C dx) C (some od) ∧ ∀ name, PySem.W.lookIn name od = some (mA name) :=
  let ⟨od, ho, hl⟩ := lookIn_ns I.ns
  ⟨od, ⟨I.obj, rfl, rfl, ho⟩, hl⟩
section
variable {prog : Program} {w : World} {A : Around} {E : Value → Shared → Prop} {s : Shared} {K : PySem.W.Frag} {x dx C f : Addr} {mA : Str → Option Value} {name : Str} {v : Value}
theorem get_map {expr : Bool} {Q : Value → Shared → Prop} (X : K.In s.heap) (I : ObjM s.heap x dx C mA) (hg : PySem.W.plainGet K C name = true) (hh : PySem.W.hasDictIn K C = true)
    (ha : PySem.W.findIn K (.ref C) name = some none) (hv : mA name = some v) (hv' : PySem.W.handedIn v = true) (h : Q v { s with toks := s.toks + 1 }) :
    wpAny (model prog w) A (getAttr (.ref x) name expr) Q E s := by
  obtain ⟨od, J, hl⟩ := I.look
  exact PySem.W.get_value X J (PySem.W.plainGet_of hg).1 (PySem.W.findObj_own hh ha rfl (by rw [hl, hv])) hv' h
theorem get_meth {pl : Sem Bool} {Q : Value × List Value → Shared → Prop} (X : K.In s.heap) (I : ObjM s.heap x dx C mA) (hg : PySem.W.plainGet K C name = true)
    (hf : PySem.W.findIn K (.ref C) name = some (some (.ref f))) (ht : PySem.W.isFn K (.ref f) = true) (hv : mA name = none) (h : Q (.ref f, [.ref x]) s) :
    wpAny (model prog w) A (getMethod (.ref x) name pl) Q E s := by
  obtain ⟨od, J, hl⟩ := I.look
  exact PySem.W.method_fn X J (PySem.W.plainGet_of hg).1 (PySem.W.plainGet_of hg).2 hf (beq_iff_eq.mp ht) (by show (PySem.W.lookIn name od).map (·.isSome) = some false; rw [hl, hv]; rfl) h
theorem set_map {ns : List Str} {Q : Unit → Shared → Prop} (X : K.In s.heap) (I : ObjM s.heap x dx C mA)
    (hs : PySem.W.findIn K (.ref C) "__setattr__" = some (some (.builtin "object.__setattr__"))) (hp : PySem.W.plainOver K C = true) (ht : PySem.W.takerIn K C name = some none) (hh : PySem.W.hasDictIn K C = true)
    (hw : PySem.Within mA ns) (hsz : ns.length ≤ sizeLine)
    (h : ∀ h', ObjM h' x dx C (fun y => if y = name then some v else mA y) → Heap.SameBut dx s.heap h' → Q () { s with heap := h', toks := s.toks + 2 }) :
    wpAny (model prog w) A (setAttr (.ref x) name v) Q E s := by
  obtain ⟨od, J, hl⟩ := I.look
  refine PySem.W.set_plain X J hs (PySem.W.osa_open (s := { s with toks := s.toks + 1 }) (r := none) X J hp ht fun b => ?_)
  obtain ⟨cd, hc, hd'⟩ := PySem.W.any_some hh
  have hx : s.heap.get? x = some ⟨.ref C, some dx, .plain, #[]⟩ := I.obj
  refine wpAny_bind (wpAny_pure (wpAny_bind (wpAny_bind (wpAny_loadPart hx (wpAny_bind (PySem.W.Looks.here (s := { s with toks := s.toks + 1 }) (PySem.W.looks_clsIn X hc) ?_))))))
  rw [hd']
  refine wpAny_pure (a := some dx) (wpAny_bind (wpAny_pure (wpAny_bind ?_)))
  refine wpAny_nsSet1 (s := { s with toks := s.toks + 1 }) I.ns fun h' hn2 hs2 => ?_
  obtain ⟨oD, esD, epD, hoD, hdD, hcD⟩ := hn2.count (PySem.Within.cons name v hw)
  refine wpAny_bind (wpAny_lookBehind hoD (by rw [hdD]; exact pastItsLine_dict (Nat.le_trans hcD (by rw [List.length_cons]; omega))) ?_)
  exact wpAny_pure (h _ ⟨(hs2.2 _ (Ne.symm I.ne)).trans I.obj, hn2, I.ne⟩ hs2)
/-- C(..): the dict at the heap's end, the instance behind it; then its __init__ -/
theorem make_map {R : Result → Shared → Prop} {vs : List Value} {kw : List (Str × Value)} (X : K.In s.heap) (hm : PySem.W.makesIn K C = true)
    (hi : PySem.W.findIn K (.ref C) "__init__" = some (some (.ref f))) (hf : PySem.W.typeIn K (.ref f) = some (.type "function"))
    (h : codeAny (model prog w) (A.under (.builtin "type.__call__" ⟨.ref C :: vs, kw⟩)) (.call (.ref f) ⟨.ref (s.heap.objs.size + 1) :: vs, kw⟩) (PySem.W.InitBack (s.heap.objs.size + 1) R)
      { s with heap := (s.heap.push PySem.W.emptyDict).push (PySem.W.instObj C s.heap.objs.size) }) :
    codeAny (model prog w) A (.call (.ref C) ⟨vs, kw⟩) R s := by
  obtain ⟨hh, g, d, t, os⟩ := s
  exact PySem.W.make_core (PySem.W.makes_of X hm) (PySem.W.looks_findIn X hi) (fun self => PySem.W.bind_fn X self hf) (.inl rfl) h
end
def putF (f : Str) (v : V) : List (Str × V) → List (Str × V)
  | [] => [(f, v)]
  | (g, x) :: r => if g = f then (g, v) :: r else (g, x) :: putF f v r
theorem lookup_putF (f g : Str) (v : V) : ∀ fs : List (Str × V), (putF f v fs).lookup g = if g = f then some v else fs.lookup g
  | [] => by
    show List.lookup g [(f, v)] = _
    by_cases h : g = f
    · have hb : (g == f) = true := beq_iff_eq.mpr h
      simp only [List.lookup, hb, if_pos h]
    · have hb : (g == f) = false := beq_eq_false_iff_ne.mpr h
      simp only [List.lookup, hb, if_neg h]
  | (k, x) :: r => by
    have ih := lookup_putF f g v r
    rw [show putF f v ((k, x) :: r) = (if k = f then (k, v) :: r else (k, x) :: putF f v r) from rfl]
    by_cases hk : k = f
    · rw [if_pos hk]
      by_cases h : g = k
      · have hb : (g == k) = true := beq_iff_eq.mpr h
        simp only [List.lookup, hb, if_pos (h.trans hk)]
      · have hb : (g == k) = false := beq_eq_false_iff_ne.mpr h
        simp only [List.lookup, hb, if_neg (fun e : g = f => h (e.trans hk.symm))]
    · rw [if_neg hk]
      by_cases h : g = k
      · have hb : (g == k) = true := beq_iff_eq.mpr h
        simp only [List.lookup, hb, if_neg (fun e : g = f => hk (h.symm.trans e))]
      · have hb : (g == k) = false := beq_eq_false_iff_ne.mpr h
        simp only [List.lookup, hb]
        exact ih
theorem keys_putF (f : Str) (v : V) : ∀ fs : List (Str × V), f ∈ (putF f v fs).map (·.1) ∧ ∀ g, g ∈ fs.map (·.1) → g ∈ (putF f v fs).map (·.1)
  | [] => ⟨by simp [putF], fun g h => by simp at h⟩
  | (k, x) :: r => by
    obtain ⟨i1, i2⟩ := keys_putF f v r
    rw [show putF f v ((k, x) :: r) = (if k = f then (k, v) :: r else (k, x) :: putF f v r) from rfl]
    by_cases hk : k = f
    · rw [if_pos hk]
      subst hk
      exact ⟨by simp, fun g h => by simpa using h⟩
    · rw [if_neg hk]
      refine ⟨?_, fun g h => ?_⟩
      · rw [List.map_cons]
        exact List.mem_cons_of_mem _ i1
      · rw [List.map_cons] at h ⊢
        rcases List.mem_cons.mp h with e | e
        · exact List.mem_cons.mpr (.inl e)
        · exact List.mem_cons_of_mem _ (i2 g e)
theorem length_putF (f : Str) (v : V) : ∀ fs : List (Str × V), (putF f v fs).length ≤ fs.length + 1
  | [] => by simp [putF]
  | (k, x) :: r => by
    have ih := length_putF f v r
    rw [show putF f v ((k, x) :: r) = (if k = f then (k, v) :: r else (k, x) :: putF f v r) from rfl]
    by_cases hk : k = f
    · rw [if_pos hk, List.length_cons, List.length_cons]; omega
    · rw [if_neg hk, List.length_cons, List.length_cons]; omega
theorem RelO.some_of {v : V} {o : Option Value} (r : RelO (some v) o) : ∃ u, o = some u ∧ RelV v u := by
  cases o with
  | none => exact (show False from r).elim
  | some u => exact ⟨u, rfl, r⟩
theorem RelO.none_of {o : Option Value} (r : RelO none o) : o = none := by
  cases o with
  | none => rfl
  | some u => exact (show False from r).elim
theorem handed_of {v : V} {u : Value} (r : RelV v u) : PySem.W.handedIn u = true := by
  cases v with
  | non => cases (show u = Value.none from r); rfl
  | bl b => cases (show u = Value.bool b from r); rfl
  | int i => obtain ⟨t, e⟩ := (show ∃ t, u = Value.int i t from r); cases e; rfl
  | str x => obtain ⟨t, e⟩ := (show ∃ t, u = Value.str x t from r); cases e; rfl
  | byt b => obtain ⟨t, e⟩ := (show ∃ t, u = Value.bytes b t from r); cases e; rfl
  | flt b => obtain ⟨t, e⟩ := (show ∃ t, u = Value.float b t from r); cases e; rfl
  | ref a => cases (show u = Value.ref a from r); rfl
  | ty n => cases (show u = Value.type n from r); rfl
section
variable {P : Program} {w : World} {H H' : Hp} {h h' : Heap} {a C dx : Addr} {fs fs' : List (Str × V)}
theorem ins_get (hok : HOk P w H h) (e : H a = some (.ins C dx fs)) : ∃ mA, ObjM h a dx C mA ∧ (∀ f, RelO (fs.lookup f) (mA f)) ∧ PySem.Within mA (fs.map (·.1)) ∧ fs.length ≤ 1000 ∧ H dx = some (.own a) := by
  obtain ⟨d, z, ne, ob, mA, n, r, q⟩ := (show ObjOk P w H h a (.ins C dx fs) from hok a _ e)
  exact ⟨mA, ⟨ob, n, ne⟩, r, q, z, d⟩
end
structure Cls (K : PySem.W.Frag) (C : Addr) : Prop where
  pg : PySem.W.plainGet K C Str.empty = true
  hd : PySem.W.hasDictIn K C = true
  po : PySem.W.plainOver K C = true
  sa : PySem.W.findIn K (.ref C) "__setattr__" = some (some (.builtin "object.__setattr__"))
theorem Cls.get {K : PySem.W.Frag} {C : Addr} (c : Cls K C) (f : Str) : PySem.W.plainGet K C f = true := c.pg
/-- no class of it has the name -/
def NoAttr (K : PySem.W.Frag) (C : Addr) (f : Str) : Prop := PySem.W.findIn K (.ref C) f = some none
theorem NoAttr.taker {K : PySem.W.Frag} {C : Addr} {f : Str} (n : NoAttr K C f) : PySem.W.takerIn K C f = some none := by
  unfold PySem.W.takerIn
  rw [show PySem.W.findIn K (.ref C) f = some none from n]
  rfl
/-- a method: a plain def of the class or of one above it -/
structure Meth (K : PySem.W.Frag) (C : Addr) (m : Str) (f : Addr) : Prop where
  at_ : PySem.W.findIn K (.ref C) m = some (some (.ref f))
  fn : PySem.W.isFn K (.ref f) = true
  kp : PySem.W.keepIn K (.ref f) = true
section
variable {X : Cx} {pins : List (Addr × Obj)} {σ : St} {H : Hp} {s : Shared} {a C dx : Addr} {fs : List (Str × V)} {f : Str} {v : V} {A : Around} {E : Value → Shared → Prop}
theorem getattr_ok {b : Bool} {Q : Value → Shared → Prop} (I : Inv X pins σ H s) (e : H a = some (.ins C dx fs)) (c : Cls X.K C) (n : NoAttr X.K C f) (l : fs.lookup f = some v)
    (h : ∀ u s', Inv X pins σ H s' → RelV v u → Q u s') : wpAny (model X.prog X.w) A (getAttr (.ref a) f b) Q E s := by
  obtain ⟨mA, O, r, _, _, _⟩ := ins_get I.hok e
  obtain ⟨u, hu, ru⟩ := RelO.some_of (v := v) (o := mA f) (by rw [← l]; exact r f)
  exact get_map I.kIn O (c.get f) c.hd n hu (handed_of ru) (h u _ (I.tok _) ru)
theorem getmeth_ok {m : Str} {g : Addr} {pl : Sem Bool} {Q : Value × List Value → Shared → Prop} (I : Inv X pins σ H s) (e : H a = some (.ins C dx fs)) (c : Cls X.K C) (k : Meth X.K C m g) (l : fs.lookup m = none)
    (h : Q (.ref g, [.ref a]) s) : wpAny (model X.prog X.w) A (getMethod (.ref a) m pl) Q E s := by
  obtain ⟨mA, O, r, _, _, _⟩ := ins_get I.hok e
  have hn : mA m = none := RelO.none_of (by rw [← l]; exact r m)
  exact get_meth I.kIn O (c.get m) k.at_ k.fn hn h
theorem setattr_ok {y : V} {u : Value} {Q : Unit → Shared → Prop} (I : Inv X pins σ H s) (e : H a = some (.ins C dx fs)) (c : Cls X.K C) (n : NoAttr X.K C f) (hl : fs.length < 1000) (ry : RelV y u)
    (h : ∀ s', Inv X pins σ (upd H a (.ins C dx (putF f y fs))) s' → Q () s') : wpAny (model X.prog X.w) A (setAttr (.ref a) f u) Q E s := by
  obtain ⟨mA, O, r, wi, _, ho⟩ := ins_get I.hok e
  have hz : (fs.map (·.1)).length ≤ sizeLine := by rw [List.length_map, sizeLine_eq]; omega
  refine set_map I.kIn O c.sa c.po n.taker c.hd wi hz fun h' O' sb => h _ ?_
  have hd : ∃ o, h'.get? dx = some o := let ⟨o, _, _, e', _⟩ := O'.ns; ⟨o, e'⟩
  refine I.write (x := a) (e := dx) (by rw [e]; exact True.intro) (.inr ho) (fun b q hb z => (sb.2 b hb).trans z) hd ?_
  refine ⟨by rw [upd_ne O.ne]; exact ho, ?_, O.ne, O'.obj, _, O'.ns, fun g => ?_, fun g hg => ?_⟩
  · have := length_putF f y fs; omega
  · show RelO ((putF f y fs).lookup g) (if g = f then some u else mA g)
    rw [lookup_putF]
    by_cases q : g = f
    · rw [if_pos q, if_pos q]; exact ry
    · rw [if_neg q, if_neg q]; exact r g
  · by_cases q : g = f
    · rw [q]; exact (keys_putF f y fs).1
    · refine (keys_putF f y fs).2 g (wi g fun z => hg ?_)
      show (if g = f then some u else mA g) = none
      rw [if_neg q]; exact z
/-- a new instance, tracked, without attributes -/
theorem Inv.made (I : Inv X pins σ H s) : Inv X pins σ (upd (upd H s.heap.objs.size (.own (s.heap.objs.size + 1))) (s.heap.objs.size + 1) (.ins C s.heap.objs.size []))
    { s with heap := (s.heap.push PySem.W.emptyDict).push (PySem.W.instObj C s.heap.objs.size) } := by
  have e1 : (s.heap.push PySem.W.emptyDict).get? s.heap.objs.size = some PySem.W.emptyDict := Heap.get?_push_size s.heap rfl
  have e2 : ((s.heap.push PySem.W.emptyDict).push (PySem.W.instObj C s.heap.objs.size)).get? (s.heap.objs.size + 1) = some (PySem.W.instObj C s.heap.objs.size) := by
    have := Heap.get?_push_size (s.heap.push PySem.W.emptyDict) (o := PySem.W.instObj C s.heap.objs.size) rfl
    rwa [Heap.size_push] at this
  have e3 : (s.heap.push PySem.W.emptyDict).Ns s.heap.objs.size (fun _ => none) := ⟨PySem.W.emptyDict, #[], _, e1, rfl, (fun e he => absurd he (by simp)), fun _ => rfl⟩
  have I1 := I.laid (a := s.heap.objs.size) (o := .own (s.heap.objs.size + 1)) (h' := s.heap.push PySem.W.emptyDict) (t' := s.toks) (fun b u q => Heap.get?_push_of_some _ q) (Nat.le_refl _) ⟨_, e1⟩
  refine I1.laid (a := s.heap.objs.size + 1) (o := .ins C s.heap.objs.size []) (t' := s.toks) (fun b u q => Heap.get?_push_of_some _ q) (Nat.le_of_eq (Heap.size_push _ _)) ?_
  have ne : s.heap.objs.size ≠ s.heap.objs.size + 1 := Nat.ne_of_lt (Nat.lt_succ_self _)
  refine ⟨by rw [upd_ne ne, upd_same], Nat.zero_le _, ne, e2, fun _ => none, (Heap.Ns1.of_empty e3).at fun o q => Heap.get?_push_of_some _ q, fun _ => True.intro, fun y hy => absurd rfl hy⟩
/-- e.f where nothing but the object is asked: through attributeBase (super) and the last hold -/
theorem attr_of {prog : Program} {w : World} {env : Env} {e : Expr} {f : Str} {pos : Pos} {s : Shared} {Q : Value → Shared → Prop} (hb : attributeBase e f env (eval e env) = eval e env)
    (h : wpAny (model prog w) A (eval e env) (fun o s₁ => wpAny (model prog w) A (getAttr o f true) Q E s₁) E s) : wpAny (model prog w) A (eval (.Attribute e f pos) env) Q E s :=
  Attribute_any_ h (by rw [arm_eval_Attribute, hb])
end
/-- e.f, an attribute of the instance -/
def tFld (K : PySem.W.Frag) (ta : TE) (f : Str) : TE := fun σ H Q => ta σ H fun x H1 => ∃ a C dx fs v, x = .ref a ∧ H1 a = some (.ins C dx fs) ∧ Cls K C ∧ NoAttr K C f ∧ fs.lookup f = some v ∧ Q v H1
/-- e.f = value -/
def sFld (K : PySem.W.Frag) (ta tv : TE) (f : Str) : TS := fun D σ H => tv σ H fun y H1 => ta σ H1 fun x H2 => ∃ a C dx fs, x = .ref a ∧ H2 a = some (.ins C dx fs) ∧ Cls K C ∧ NoAttr K C f ∧ fs.length < 1000 ∧
  D.nx σ (upd H2 a (.ins C dx (putF f y fs)))
section
variable {X : Cx} {o e value : Expr} {f : Str} {pos pos' tpos : Pos} {ta tv : TE}
theorem pe_fld (he : PE X e ta) (hb : attributeBase e f X.env (eval e X.env) = eval e X.env) : PE X (.Attribute e f pos) (tFld X.K ta f) := by
  intro pins s σ H Q I h
  refine attr_of hb (thn (he pins s σ H _ I h) fun u s1 ⟨x, H1, I1, rx, a, C, dx, fs, v, ex, ea, c, n, l, q⟩ => ?_)
  subst ex
  obtain rfl : u = Value.ref a := rx
  exact getattr_ok I1 ea c n l fun u' s2 I2 ru => ⟨v, H1, I2, ru, q⟩
theorem ps_fld (ha : PE X o ta) (hv : PE X value tv) (hs : swapsWith value (some (.Attribute o f pos')) pos.line X.env = pure false) : PS X (.Assign [.Attribute o f pos'] value pos) (sFld X.K ta tv f) := by
  intro pins s σ H D I h
  refine plainObj_wpAny_Assign_Attribute (thn (hv pins s σ H _ I h) fun u s1 ⟨y, H1, I1, ry, q⟩ => thn (ha pins s1 σ H1 _ I1 q) fun ov s2 ⟨x, H2, I2, rx, a, C, dx, fs, ex, ea, c, n, l, q2⟩ => ?_) hs
  subst ex
  obtain rfl : ov = Value.ref a := rx
  exact setattr_ok I2 ea c n l ry fun s3 I3 => ⟨σ, _, I3, q2⟩
end
section
variable {X : Cx} {pins : List (Addr × Obj)} {σ : St} {H : Hp} {s : Shared} {A : Around} {E : Value → Shared → Prop} {Q : Value → Shared → Prop} {c : Value} {b : Bool}
end
end L2
namespace L2
open PySem PySem.Spec PyProof.Rows
structure Room (k : Nat) (A : Around) : Prop where
  hd : A.handled = none
  dp : A.depth + 3 * k + 5 < recursionLimit
  un : A.units + 16 * k + 200 < cLine
theorem Room.mono {j k : Nat} {A : Around} (r : Room k A) (h : j ≤ k) : Room j A := ⟨r.hd, by have := r.dp; omega, by have := r.un; omega⟩
theorem Room.deeper {k : Nat} {A : Around} (r : Room (k + 1) A) (env : Env) : Room k (A.deeper env) :=
  ⟨r.hd, by have := r.dp; show A.depth + 1 + 3 * k + 5 < _; omega, by have := r.un; show A.units + 3 + 16 * k + 200 < _; omega⟩
theorem make_depth {A : Around} {C : Addr} {us : List Value} {kw : List (Str × Value)} : (A.under (.builtin "type.__call__" ⟨.ref C :: us, kw⟩)).depth = A.depth + 1 := by
  first | rfl | simp [Around.under, Code.weight, Code.isCreation, Code.isGuard, Code.isCaller, Code.frames, Code.isFrame, guardIds]
theorem make_units {A : Around} {C : Addr} {us : List Value} {kw : List (Str × Value)} : (A.under (.builtin "type.__call__" ⟨.ref C :: us, kw⟩)).units = A.units + 1 := by
  first | rfl | simp [Around.under, Code.cUnits, Code.frames, Code.isFrame]
theorem Room.make {k : Nat} {A : Around} (r : Room (k + 1) A) (C : Addr) (us : List Value) (kw : List (Str × Value)) : Room k (A.under (.builtin "type.__call__" ⟨.ref C :: us, kw⟩)) :=
  ⟨r.hd, by have := r.dp; rw [make_depth]; omega, by have := r.un; rw [make_units]; omega⟩
theorem Room.depth {k : Nat} {A : Around} (r : Room k A) : A.depth < recursionLimit := by have := r.dp; omega
theorem Room.units {k : Nat} {A : Around} (r : Room k A) : A.units + 64 < cLine := by have := r.un; omega
theorem Room.units0 {k : Nat} {A : Around} (r : Room k A) : A.units < cLine := by have := r.un; omega
def tNil : TA := fun _ H Q => Q [] H
def tCons (ta : TE) (tr : TA) : TA := fun σ H Q => ta σ H fun x H1 => tr σ H1 fun xs H2 => Q (x :: xs) H2
section
variable {X : Cx} {e : Expr} {es : List Expr} {te : TE} {t : TA} {pos : Pos}
theorem pa_nil : PA X [] tNil := fun _ _ _ _ H Q I h => Calls.spliced_nil ⟨[], H, I, .nil, h⟩
theorem pa_cons (ha : PE X e te) (hr : PA X es t) (hs : starEach (e :: es) X.env = (false, eval e X.env) :: starEach es X.env := by rfl) : PA X (e :: es) (tCons te t) := by
  intro pos pins s σ H Q I h
  rw [hs]
  show wpAny _ _ (spliced ((false, eval e X.env) :: backTo pos (starEach es X.env))) _ _ s
  refine Calls.spliced_cons (thn (ha pins s σ H _ I h) fun u s1 ⟨x, H1, I1, r1, q1⟩ => ?_)
  exact thn (hr pos pins s1 σ H1 _ I1 q1) fun us s2 ⟨xs, H2, I2, r2, q2⟩ => ⟨x :: xs, H2, I2, .cons r1 r2, q2⟩
/-- a tuple, a list of written items -/
def tTup (t : TA) : TE := fun σ H Q => t σ H fun xs H1 => xs.length ≤ sizeLine ∧ ∀ p, H1 p = none → Q (.ref p) (upd H1 p (.tup xs))
def tLst (t : TA) : TE := fun σ H Q => t σ H fun xs H1 => xs.length ≤ sizeLine ∧ ∀ p, H1 p = none → Q (.ref p) (upd H1 p (.lst xs))
theorem pe_tup {x1} (h : PA X es t) : PE X (.Tuple es x1 pos) (tTup t) := by
  intro pins s σ H Q I hq
  refine wpAny_Tuple_spliced (thn (h pos pins s σ H _ I hq) fun us s1 ⟨xs, H1, I1, r, z, q⟩ => ⟨by rw [← r.length]; exact z, ?_⟩)
  have hf : H1 s1.heap.objs.size = none := I1.hok.fresh (Nat.le_refl _)
  refine ⟨.ref s1.heap.objs.size, upd H1 s1.heap.objs.size (.tup xs), I1.laid (t' := s1.toks) (fun b u e => Heap.get?_push_of_some _ e) (Nat.le_refl _) ?_, rfl, q _ hf⟩
  exact ⟨z, us, r, ⟨_, Heap.get?_push_size _ rfl, rfl, _, rfl⟩⟩
theorem pe_lst (h : PA X es t) : PE X (.List es pos) (tLst t) := by
  intro pins s σ H Q I hq
  refine wpAny_List_spliced (thn (h pos pins s σ H _ I hq) fun us s1 ⟨xs, H1, I1, r, z, q⟩ => ⟨by rw [← r.length]; exact z, ?_⟩)
  have hf : H1 s1.heap.objs.size = none := I1.hok.fresh (Nat.le_refl _)
  refine ⟨.ref s1.heap.objs.size, upd H1 s1.heap.objs.size (.lst xs), I1.laid (t' := s1.toks) (fun b u e => Heap.get?_push_of_some _ e) (Nat.le_refl _) ?_, rfl, q _ hf⟩
  exact ⟨z, us, 0, r, Heap.get?_push_size _ rfl⟩
end
/-- a def's promise: the bound arguments in the parameters' order, the heap, the wanted end, the wanted exception -/
abbrev Sp := List V → Hp → VK → XK → Prop
/-- how an exception lies behind a call (file 08 gives it): the callers' frames, abstract heap and state ahead of the call, the wish, the exception, the state -/
abbrev CXT := List Env → Hp → Shared → XK → Value → Shared → Prop
/-- the state at a call -/
structure Env0 (P : Program) (w : World) (K : PySem.W.Frag) (mg : Str → Option Value) (base : Heap) (A : Around) (outer : List Env) (s : Shared) (H : Hp) : Prop where
  frames : A.frames = some outer
  mod : Mod K mg base
  bs : ∀ b o, base.get? b = some o → s.heap.get? b = some o ∧ H b = none
  bsz : base.objs.size ≤ s.heap.objs.size
  funs : s.heap.FunFrames base outer
  frf : ∀ b ∈ frs outer, H b = none
  hok : HOk P w H s.heap
  bare : AllBare s.gens
/-- a call's end -/
def CE (outer : List Env) (P : Program) (w : World) (H : Hp) (s : Shared) (Q : VK) (u : Value) (s' : Shared) : Prop :=
  ∃ v H', s'.os = s.os ∧ AllBare s'.gens ∧ Un (frs outer) [] H H' s.heap s'.heap ∧ HOk P w H' s'.heap ∧ RelV v u ∧ Q v H'
def CR (CX : CXT) (outer : List Env) (P : Program) (w : World) (H : Hp) (s : Shared) (Q : VK) (E : XK) (r : Result) (s' : Shared) : Prop :=
  match r with
  | .ok (.ret u) => CE outer P w H s Q u s'
  | .ok _ => False
  | .error e => CX outer H s E e s'
structure FnOk (P : Program) (w : World) (K : PySem.W.Frag) (mg : Str → Option Value) (base : Heap) (CX : CXT) (k : Nat) (f : Addr) (fd : FuncData) (ps : List Str) (sp : Sp) : Prop where
  len : ∀ vs H Q E, sp vs H Q E → vs.length = ps.length
  run : ∀ (A : Around) (outer : List Env) (s : Shared) (H : Hp) (args : Args) (us : List Value) (vs : List V) (Q : VK) (E : XK), Room k A → Env0 P w K mg base A outer s H → BindsTo s fd args (ps.zip us) → Vals vs us → sp vs H Q E →
    codeAny (model P w) A (.call (.ref f) args) (CR CX outer P w H s Q E) s
theorem Env0.make {P : Program} {w : World} {K : PySem.W.Frag} {mg : Str → Option Value} {base : Heap} {A : Around} {outer : List Env} {s : Shared} {H : Hp} (e : Env0 P w K mg base A outer s H) (C : Addr) (us : List Value) (kw : List (Str × Value)) :
    Env0 P w K mg base (A.under (.builtin "type.__call__" ⟨.ref C :: us, kw⟩)) outer s H := ⟨by first | exact e.frames | (simpa [Around.under, Code.envs, Code.isFrame, pushEnvs] using e.frames), e.mod, e.bs, e.bsz, e.funs, e.frf, e.hok, e.bare⟩
section
variable {X : Cx} {pins : List (Addr × Obj)} {σ : St} {H : Hp} {s s' : Shared}
/-- from a body: what a callee wants -/
theorem Inv.env0 (I : Inv X pins σ H s) : Env0 X.prog X.w X.K X.mg X.base X.A X.stack s H :=
  ⟨I.ok.frames, I.ok.mod, I.bs, Nat.le_trans I.ok.bsz I.sz, I.stack, I.stkFree, I.hok, I.bare⟩
/-- behind a call -/
theorem Inv.after {Q : VK} {u : Value} (I : Inv X pins σ H s) (h : CE X.stack X.prog X.w H s Q u s') : EP X pins σ Q u s' := by
  obtain ⟨v, H', os, bare, un, hok, r, q⟩ := h
  obtain ⟨hh, g, d, t, os'⟩ := s'
  obtain rfl : os' = s.os := os
  exact ⟨v, H', I.call (h' := hh) (g' := g) (d' := d) (t' := t) (ch := []) un hok bare (fun b z => absurd z (by simp)), r, q⟩
end
/-- f(..): the written arguments, then the defaults dvs; E: what is wanted of an exception -/
def tCall (sp : Sp) (dvs : List V) (E : XK) (t : TA) : TE := fun σ H Q => t σ H fun vs H1 => sp (vs ++ dvs) H1 Q E
/-- o.m(..) of an instance of the class at C -/
def tMeth (C : Addr) (m : Str) (sp : Sp) (dvs : List V) (E : XK) (ta : TE) (t : TA) : TE := fun σ H Q => ta σ H fun x H1 => ∃ a dx fs, x = .ref a ∧ H1 a = some (.ins C dx fs) ∧ fs.lookup m = none ∧
  t σ H1 fun vs H2 => sp (x :: (vs ++ dvs)) H2 Q E
/-- C(..): a new instance and its dict, then __init__ -/
def tMake (C : Addr) (sp : Sp) (dvs : List V) (E : XK) (t : TA) : TE := fun σ H Q => t σ H fun vs H1 => ∀ x dx, H1 x = none → H1 dx = none → dx ≠ x →
  sp (.ref x :: (vs ++ dvs)) (upd (upd H1 dx (.own x)) x (.ins C dx [])) (fun v H2 => v = .non ∧ Q (.ref x) H2) E
/-- how the parameters are bound: us the positional arguments, kw the keywords' values by name, ds the defaults that fill up -/
def Binds (K : PySem.W.Frag) (fd : FuncData) (ps : List Str) (ds : List Value) : Prop :=
  ∀ (s : Shared) (us : List Value), K.In s.heap → (us ++ ds).length = ps.length → BindsTo s fd ⟨us, []⟩ (ps.zip (us ++ ds))
/-- every parameter is given -/
theorem Binds.all {K : PySem.W.Frag} {fd : FuncData} {ps : List Str} (h : ∀ us : List Value, us.length = ps.length → bindArgs fd ⟨us, []⟩ = pure (ps.zip us)) : Binds K fd ps [] := fun s us _ hl => by
  rw [List.append_nil] at hl ⊢
  exact .of_eq (h us hl)
/-- an exception of a callee reaches what this body wants of exceptions -/
def Passes (CX : CXT) (X : Cx) (E : XK) : Prop := ∀ (pins : List (Addr × Obj)) (σ : St) (H : Hp) (s : Shared) (e : Value) (s' : Shared), Inv X pins σ H s → CX X.stack H s E e s' → X.xe e s'
section
variable {X : Cx} {CX : CXT} {k : Nat} {f C : Addr} {fd : FuncData} {ps : List Str} {sp : Sp} {dvs : List V} {ds : List Value} {E : XK} {x m : Str} {p pos apos : Pos} {e o : Expr} {es : List Expr} {ta : TE} {t : TA}
/-- the callee runs -/
theorem run_fn {pins : List (Addr × Obj)} {σ : St} {H : Hp} {s : Shared} {Q : VK} {us : List Value} {vs : List V} (F : FnOk X.prog X.w X.K X.mg X.base CX k f fd ps sp) (hr : Room k X.A) (hb : Binds X.K fd ps ds) (hd : Vals dvs ds) (hx : Passes CX X E)
    (I : Inv X pins σ H s) (r : Vals vs us) (h : sp (vs ++ dvs) H Q E) : wpAny (model X.prog X.w) X.A (call (.ref f) us) (EP X pins σ Q) X.xe s := by
  have r2 : Vals (vs ++ dvs) (us ++ ds) := r.append hd
  have hl : (us ++ ds).length = ps.length := by rw [← r2.length]; exact F.len _ _ _ _ h
  refine wpAny_call (codeAny_mono (F.run X.A X.stack s H ⟨us, []⟩ (us ++ ds) (vs ++ dvs) Q E hr I.env0 (hb s us I.kIn hl) r2 h) fun r s' hq => ?_)
  cases r with
  | error e => exact hx pins σ H s e s' I hq
  | ok fl =>
    cases fl with
    | ret u => exact I.after hq
    | next => exact False.elim hq
    | brk => exact False.elim hq
    | cont => exact False.elim hq
theorem pe_call (F : FnOk X.prog X.w X.K X.mg X.base CX k f fd ps sp) (hr : Room k X.A) (hg : Gl X x) (hm : X.mg x = some (.ref f)) (hk : PySem.W.keepIn X.K (.ref f) = true) (hb : Binds X.K fd ps ds) (hd : Vals dvs ds) (hx : Passes CX X E)
    (ha : PA X (e :: es) t) (hdb : (x == ("__debug__" : Str)) = false := by decide) (he : starEach (e :: es) X.env = (false, eval e X.env) :: starEach es X.env := by rfl) (hpl : (backTo pos (starEach es X.env)).any (·.1) = false := by rfl) :
    PE X (.Call (.Name x p) (e :: es) [] pos) (tCall sp dvs E t) := by
  intro pins s σ H Q I h
  refine wpAny_Call_Name_kw (ld_glob I hg hm ?_ hdb)
  refine PySem.W.callWith_K (h₀ := X.base) I.ok.mod.kin hk (thn (ha pos pins s σ H _ I h) fun us s1 ⟨vs, H1, I1, r, q⟩ => ⟨I1.kIn, ?_⟩) he hpl
  exact run_fn F hr hb hd hx I1 r q
/-- o.m(e, ..) -/
theorem pe_meth {pl : Sem Bool} (he : PE X o ta) (c : Cls X.K C) (hm : Meth X.K C m f) (F : FnOk X.prog X.w X.K X.mg X.base CX k f fd ps sp) (hr : Room k X.A) (hb : Binds X.K fd ps ds) (hd : Vals dvs ds) (hx : Passes CX X E) (ha : PA X (e :: es) t)
    (hst : starEach (e :: es) X.env = (false, eval e X.env) :: starEach es X.env := by rfl) (hpl : (backTo pos (starEach es X.env)).any (·.1) = false := by rfl)
    (ht : eval (.Call (.Attribute o m apos) (e :: es) [] pos) X.env = (do
      let ov ← eval o X.env
      standAt apos.atName
      let (f, first) ← holding [ov] (getMethod ov m pl)
      callWith pos f first (backTo pos (starEach (e :: es) X.env)) (backToKw pos (keywordEach [] X.env))) := by rfl) :
    PE X (.Call (.Attribute o m apos) (e :: es) [] pos) (tMeth C m sp dvs E ta t) := by
  intro pins s σ H Q I h
  refine PySem.W.methodCall_KW (pl := pl) (thn (he pins s σ H _ I h) fun u s1 ⟨x, H1, I1, rx, a, dx, fs, ex, ea, l, q⟩ => ?_) ht
  subst ex
  obtain rfl : u = Value.ref a := rx
  refine getmeth_ok I1 ea c hm l ?_
  refine PySem.W.callWith_K (first := [.ref a]) (h₀ := X.base) I.ok.mod.kin hm.kp (thn (ha pos pins s1 σ H1 _ I1 q) fun us s2 ⟨vs, H2, I2, r, q2⟩ => ⟨I2.kIn, ?_⟩) hst hpl
  exact run_fn (us := .ref a :: us) (vs := .ref a :: vs) F hr hb hd hx I2 (.cons rfl r) q2
/-- o.m() -/
theorem pe_meth0 {pl : Sem Bool} (he : PE X o ta) (c : Cls X.K C) (hm : Meth X.K C m f) (F : FnOk X.prog X.w X.K X.mg X.base CX k f fd ps sp) (hr : Room k X.A) (hb : Binds X.K fd ps ds) (hd : Vals dvs ds) (hx : Passes CX X E)
    (ht : eval (.Call (.Attribute o m apos) [] [] pos) X.env = (do
      let ov ← eval o X.env
      standAt apos.atName
      let (f, first) ← holding [ov] (getMethod ov m pl)
      callWith pos f first (backTo pos (starEach [] X.env)) (backToKw pos (keywordEach [] X.env))) := by rfl) :
    PE X (.Call (.Attribute o m apos) [] [] pos) (tMeth C m sp dvs E ta tNil) := by
  intro pins s σ H Q I h
  refine PySem.W.methodCall_KW (pl := pl) (thn (he pins s σ H _ I h) fun u s1 ⟨x, H1, I1, rx, a, dx, fs, ex, ea, l, q⟩ => ?_) ht
  subst ex
  obtain rfl : u = Value.ref a := rx
  refine getmeth_ok I1 ea c hm l ?_
  exact PySem.W.callWith_K0 (first := [.ref a]) I1.kIn hm.kp (run_fn (us := [.ref a]) (vs := [.ref a]) F hr hb hd hx I1 (.cons rfl .nil) q)
/-- what a class must have to be made -/
structure Mk (K : PySem.W.Frag) (C f : Addr) : Prop where
  makes : PySem.W.makesIn K C = true
  init : PySem.W.findIn K (.ref C) "__init__" = some (some (.ref f))
  fn : PySem.W.isFn K (.ref f) = true
  kp : PySem.W.keepIn K (.ref C) = true
theorem run_make {pins : List (Addr × Obj)} {σ : St} {H : Hp} {s : Shared} {Q : VK} {us : List Value} {vs : List V} (M : Mk X.K C f) (F : FnOk X.prog X.w X.K X.mg X.base CX k f fd ps sp) (hr : Room (k + 1) X.A) (hb : Binds X.K fd ps ds) (hd : Vals dvs ds)
    (hx : Passes CX X E) (I : Inv X pins σ H s) (r : Vals vs us)
    (h : ∀ x dx, H x = none → H dx = none → dx ≠ x → sp (.ref x :: (vs ++ dvs)) (upd (upd H dx (.own x)) x (.ins C dx [])) (fun v H2 => v = .non ∧ Q (.ref x) H2) E) :
    wpAny (model X.prog X.w) X.A (call (.ref C) us) (EP X pins σ Q) X.xe s := by
  have hq := h (s.heap.objs.size + 1) s.heap.objs.size (I.hok.fresh (Nat.le_succ _)) (I.hok.fresh (Nat.le_refl _)) (Nat.ne_of_lt (Nat.lt_succ_self _))
  have I2 := Inv.made (C := C) I
  have r2 : Vals (V.ref (s.heap.objs.size + 1) :: (vs ++ dvs)) (Value.ref (s.heap.objs.size + 1) :: (us ++ ds)) := .cons rfl (r.append hd)
  have hl : (Value.ref (s.heap.objs.size + 1) :: us ++ ds).length = ps.length := by
    have e := r2.length
    rw [F.len _ _ _ _ hq] at e
    exact e.symm
  refine wpAny_call (make_map (f := f) I.kIn M.makes M.init (beq_iff_eq.mp M.fn) (codeAny_mono (F.run _ X.stack _ _ ⟨Value.ref (s.heap.objs.size + 1) :: us, []⟩ (Value.ref (s.heap.objs.size + 1) :: (us ++ ds)) _ _ E (hr.make C us [])
    (I2.env0.make C us []) (hb _ (Value.ref (s.heap.objs.size + 1) :: us) I2.kIn hl) r2 hq) fun r s' hq' => ?_))
  cases r with
  | error e => exact hx pins σ _ _ e s' I2 hq'
  | ok fl =>
    cases fl with
    | ret u =>
      obtain ⟨v, H', I3, rv, ev, q3⟩ := I2.after hq'
      subst ev
      exact ⟨rv, ⟨V.ref (s.heap.objs.size + 1), H', I3, rfl, q3⟩⟩
    | next => exact False.elim hq'
    | brk => exact False.elim hq'
    | cont => exact False.elim hq'
theorem pe_make (M : Mk X.K C f) (F : FnOk X.prog X.w X.K X.mg X.base CX k f fd ps sp) (hr : Room (k + 1) X.A) (hg : Gl X x) (hm : X.mg x = some (.ref C)) (hb : Binds X.K fd ps ds) (hd : Vals dvs ds) (hx : Passes CX X E)
    (ha : PA X (e :: es) t) (hdb : (x == ("__debug__" : Str)) = false := by decide) (he : starEach (e :: es) X.env = (false, eval e X.env) :: starEach es X.env := by rfl) (hpl : (backTo pos (starEach es X.env)).any (·.1) = false := by rfl) :
    PE X (.Call (.Name x p) (e :: es) [] pos) (tMake C sp dvs E t) := by
  intro pins s σ H Q I h
  refine wpAny_Call_Name_kw (ld_glob I hg hm ?_ hdb)
  refine PySem.W.callWith_K (h₀ := X.base) I.ok.mod.kin M.kp (thn (ha pos pins s σ H _ I h) fun us s1 ⟨vs, H1, I1, r, q⟩ => ⟨I1.kIn, ?_⟩) he hpl
  exact run_make M F hr hb hd hx I1 r q
theorem pe_make0 (M : Mk X.K C f) (F : FnOk X.prog X.w X.K X.mg X.base CX k f fd ps sp) (hr : Room (k + 1) X.A) (hg : Gl X x) (hm : X.mg x = some (.ref C)) (hb : Binds X.K fd ps ds) (hd : Vals dvs ds) (hx : Passes CX X E)
    (hdb : (x == ("__debug__" : Str)) = false := by decide) : PE X (.Call (.Name x p) [] [] pos) (tMake C sp dvs E tNil) := by
  intro pins s σ H Q I h
  refine wpAny_Call_Name_kw (ld_glob I hg hm ?_ hdb)
  exact PySem.W.callWith_K0 I.kIn M.kp (run_make (us := []) M F hr hb hd hx I .nil h)
end
section
variable {X : Cx} {CX : CXT} {k : Nat} {f C : Addr} {fd : FuncData} {ps ks : List Str} {sp : Sp} {E : XK} {x m : Str} {p pos apos kpos : Pos} {e o : Expr} {es : List Expr} {kws : List Keyword} {te ta : TE} {t tk : TA} {nm : Option Str}
variable {g : List Value → List Value → List Value} {gV : List V → List V → List V}
end
/-- names: the parameters first -/
structure FnScope (N P : List Str) (sc : Scope) : Prop where
  kind : sc.kind = .function
  co : sc.isCoroutine = false
  gen : sc.isGenerator = false
  nd : N.Nodup
  pre : N.take P.length = P
  par : ∀ x ∈ P, sc.names.lookup x = some .local ∨ sc.names.lookup x = some .cell
  nofree : ∀ y ∈ sc.names, y.2 ≠ .free
theorem bindL_out {kindOf : Str → Option NameKind} {x : Str} : ∀ {binds : List (Str × Value)} {m : Str → Option Value}, (∀ v, (x, v) ∉ binds) → bindL kindOf binds m x = m x
  | [], _, _ => rfl
  | (n, v) :: r, m, h => by
    unfold bindL
    rw [bindL_out fun w hw => h w (List.mem_cons_of_mem _ hw)]
    split
    · have : x ≠ n := by rintro rfl; exact h v List.mem_cons_self
      simp [this]
    · rfl
theorem bindC_out {kindOf : Str → Option NameKind} {x : Str} : ∀ {binds : List (Str × Value)} {m : Str → Option Value}, (∀ v, (x, v) ∉ binds) → bindC kindOf binds m x = m x
  | [], _, _ => rfl
  | (n, v) :: r, m, h => by
    unfold bindC
    rw [bindC_out fun w hw => h w (List.mem_cons_of_mem _ hw)]
    split
    · rfl
    · have : x ≠ n := by rintro rfl; exact h v List.mem_cons_self
      simp [this]
theorem bindL_get {kindOf : Str → Option NameKind} {x : Str} {v : Value} : ∀ {P : List Str} {vs : List Value} {i : Nat} {m : Str → Option Value}, P.Nodup → P[i]? = some x → vs[i]? = some v → kindOf x = some .local →
    bindL kindOf (P.zip vs) m x = some v
  | [], _, _, _, _, h, _, _ => by simp at h
  | _ :: _, [], _, _, _, _, h, _ => by simp at h
  | p :: P, w :: vs, 0, m, nd, h1, h2, hk => by
    simp at h1 h2; subst h1; subst h2
    show bindL kindOf ((p, w) :: P.zip vs) m p = _
    unfold bindL
    rw [bindL_out fun v hv => (List.nodup_cons.mp nd).1 (List.of_mem_zip hv).1, if_pos hk]
    simp
  | p :: P, w :: vs, i + 1, m, nd, h1, h2, hk => by
    show bindL kindOf ((p, w) :: P.zip vs) m x = _
    unfold bindL
    exact bindL_get (i := i) (List.nodup_cons.mp nd).2 (by simpa using h1) (by simpa using h2) hk
theorem bindC_get {kindOf : Str → Option NameKind} {x : Str} {v : Value} : ∀ {P : List Str} {vs : List Value} {i : Nat} {m : Str → Option Value}, P.Nodup → P[i]? = some x → vs[i]? = some v → kindOf x ≠ some .local →
    bindC kindOf (P.zip vs) m x = some v
  | [], _, _, _, _, h, _, _ => by simp at h
  | _ :: _, [], _, _, _, _, h, _ => by simp at h
  | p :: P, w :: vs, 0, m, nd, h1, h2, hk => by
    simp at h1 h2; subst h1; subst h2
    show bindC kindOf ((p, w) :: P.zip vs) m p = _
    unfold bindC
    rw [bindC_out fun v hv => (List.nodup_cons.mp nd).1 (List.of_mem_zip hv).1, if_neg hk]
    simp
  | p :: P, w :: vs, i + 1, m, nd, h1, h2, hk => by
    show bindC kindOf ((p, w) :: P.zip vs) m x = _
    unfold bindC
    exact bindC_get (i := i) (List.nodup_cons.mp nd).2 (by simpa using h1) (by simpa using h2) hk
/-- the names' values at the entry -/
def start (N : List Str) (vs : List V) : St := vs.map some ++ List.replicate (N.length - vs.length) none
/-- the context of a def's body, at its entry; an exception leaves the frame, then lies as CX says -/
def cxOf (CX : CXT) (P : Program) (w : World) (K : PySem.W.Frag) (mg : Str → Option Value) (base : Heap) (N : List Str) (qual : Str) (scope : Scope) (f : Addr) (cd : Value) (A : Around) (outer : List Env) (s : Shared) (H : Hp) (E : XK) : Cx where
  prog := P
  w := w
  K := K
  mg := mg
  base := base
  A := A.deeper (envOfC qual scope s.heap.objs.size f cd)
  N := N
  s_0 := s
  H_0 := H
  env := envOfC qual scope s.heap.objs.size f cd
  outer := outer
  stack := envOfC qual scope s.heap.objs.size f cd :: outer
  ex := []
  calm := true
  fn := fun _ => true
  pn := []
  xe := fun e s' => wpAny (model P w) (A.deeper (envOfC qual scope s.heap.objs.size f cd)) (leaving (envOfC qual scope s.heap.objs.size f cd) e) (fun _ s'' => CX outer H s E e s'') (fun e' s'' => CX outer H s E e' s'') s'
theorem cell_has {sc : Scope} {n : Nat} {x : Str} (h : sc.names.lookup x = some .cell) : ∃ c, (cellsFrom n sc.names []).lookup x = some c := by
  have q := PySem.W.cellsFrom_some sc.names n [] (.inl h)
  exact Option.isSome_iff_exists.mp q
theorem inv_start {CX : CXT} {P : Program} {w : World} {K : PySem.W.Frag} {mg : Str → Option Value} {base : Heap} {N ps : List Str} {qual : Str} {scope : Scope} {f : Addr} {cd : Value} {A : Around} {outer : List Env} {s s1 : Shared} {H : Hp} {E : XK} {us : List Value} {vs : List V}
    (S : FnScope N ps scope) (hd : A.handled = none) (e0 : Env0 P w K mg base A outer s H) (hl : vs.length = ps.length) (r : Vals vs us)
    (x : InCallC s s.heap.objs.size (bindL (envOfC qual scope s.heap.objs.size f cd).kindOf (ps.zip us) fun _ => none) (cellsFrom (s.heap.objs.size + 1) scope.names []) (bindC (envOfC qual scope s.heap.objs.size f cd).kindOf (ps.zip us) fun _ => none) s1) :
    Inv (cxOf CX P w K mg base N qual scope f cd A outer s H E) [] (start N vs) H s1 := by
  have hpl : ps.length ≤ N.length := by have := congrArg List.length S.pre; rw [List.length_take] at this; omega
  obtain ⟨h1, tk, rfl, hk⟩ := x.done
  have noA : ∀ b : Addr, b ∉ (cxOf CX P w K mg base N qual scope f cd A outer s H E).ex := fun b z => absurd (show b ∈ ([] : List Addr) from z) (by simp)
  refine ⟨⟨e0.mod, S.kind, rfl, rfl, Nat.le_refl _, fun y z c h1 h2 => ?_, fun y hy => ?_, fun y c _ h => ?_, fun _ => hd, Around.frames_deeper e0.frames, .inr ⟨rfl, rfl⟩, fun b z => absurd z (noA b), e0.bs, e0.bsz, fun b _ _ => noA b, fun b z => absurd z (noA b), e0.funs, e0.frf⟩,
    rfl, e0.bare, Un.kept hk, ⟨_, x.toInCall.ns, fun i y v h1 h2 h3 => ?_⟩, fun y c h => ⟨_, x.cell y c h⟩, e0.hok.fresh (Nat.le_refl _), fun y c h => ?_, fun p hp => absurd (show p ∈ ([] : List (Addr × Obj)) from hp) (by simp), e0.hok.kept hk, ?_⟩
  · exact name_of_addr x.apart (PySem.mem_of_lookup h1) (PySem.mem_of_lookup h2)
  · have hy : scope.names.lookup y = some .cell ∨ scope.names.lookup y = some .free := hy
    rcases hy with hy | hy
    · exact cell_has hy
    · exact absurd rfl (S.nofree _ (PySem.mem_of_lookup hy))
  · exact Nat.le_of_lt (x.above y c (PySem.mem_of_lookup h))
  · have hi : i < vs.length := by
      unfold start at h2
      by_cases hi : i < vs.length
      · exact hi
      · rw [List.getElem?_append_right (by simpa using hi)] at h2
        rw [List.getElem?_replicate] at h2
        split at h2 <;> cases h2
    have ha : vs[i]? = some v := by
      unfold start at h2
      rw [List.getElem?_append_left (by simpa using hi), List.getElem?_map] at h2
      cases e : vs[i]? with
      | none => rw [e] at h2; cases h2
      | some a => rw [e] at h2; cases h2; rfl
    obtain ⟨u, hu, rv⟩ := r.get ha
    have hp : ps[i]? = some y := by
      rw [← S.pre, List.getElem?_take_of_lt (by omega)]; exact h1
    have ndP : ps.Nodup := by rw [← S.pre]; exact S.nd.sublist (List.take_sublist _ _)
    refine ⟨u, rv, ?_⟩
    rcases S.par y (List.mem_of_getElem? hp) with k | k
    · exact .inl ⟨k, bindL_get ndP hp hu k⟩
    · obtain ⟨c, e⟩ := cell_has (n := s.heap.objs.size + 1) k
      refine .inr ⟨.inl k, c, e, ?_⟩
      have q := x.cell y c e
      rw [bindC_get ndP hp hu (by show scope.names.lookup y ≠ _; rw [k]; decide)] at q
      exact q
  · exact e0.hok.fresh (Nat.le_of_lt (x.above y c (PySem.mem_of_lookup h)))
  · unfold start
    show _ = N.length
    rw [List.length_append, List.length_map, List.length_replicate]
    omega
/-- THE RULE: a def (or a method) of the text, by its body. The body's reading t is chosen for each entry; it is run at the parameters' values -/
theorem fn_of {CX : CXT} {P : Program} {w : World} {K : PySem.W.Frag} {mg : Str → Option Value} {base : Heap} {k : Nat} {f : Addr} {name qual : Str} {params : Arguments} {body : List Stmt} {scope : Scope} {dV kV doc pm cdv ct oc : Value} {an od : Option Addr}
    {osl : Array (Option Value)} {N ps : List Str} {sp : Sp} (lk : K.lookup f = some ⟨oc, od, .func (PySem.W.fnOf name qual params body scope dV kV doc pm an cdv ct), osl⟩) (hcd : PySem.W.codeIn K cdv qual = true) (S : FnScope N ps scope)
    (len : ∀ vs H Q E, sp vs H Q E → vs.length = ps.length)
    (hbody : ∀ (A : Around) (outer : List Env) (s : Shared) (H : Hp) (vs : List V) (Q : VK) (E : XK), Room k (A.deeper (envOfC qual scope s.heap.objs.size f cdv)) → sp vs H Q E →
      ∃ t, PSs (cxOf CX P w K mg base N qual scope f cdv A outer s H E) body t ∧ t { nx := fun _ H' => Q .non H', rt := Q } (start N vs) H) :
    FnOk P w K mg base CX (k + 1) f (PySem.W.fnOf name qual params body scope dV kV doc pm an cdv ct) ps sp := by
  refine ⟨len, fun A outer s H args us vs Q E hr e0 hb r hsp => ?_⟩
  have hl := len _ _ _ _ hsp
  have KX : K.In s.heap := e0.mod.kin.keeps fun b o e => (e0.bs b o e).1
  have lim : s.heap.NoLimit := e0.mod.nolimit.keeps fun b o e => (e0.bs b o e).1
  have hkind : ∀ y ∈ ps.zip us, scope.names.lookup y.1 = some .local ∨ (scope.names.lookup y.1 = some .cell ∧ ((cellsFrom (s.heap.objs.size + 1) scope.names []).lookup y.1).isSome = true) := fun ⟨n, v⟩ hy => by
    rcases S.par n (List.of_mem_zip hy).1 with q | q
    · exact .inl q
    · exact .inr ⟨q, PySem.W.cellsFrom_some _ _ _ (.inl q)⟩
  refine codeAny_call_function hr.depth (KX _ _ lk) rfl S.co S.gen rfl (PySem.W.codeRec_of KX hcd) (hb _ _ _ _ ?_)
  refine wpAny_newFunctionEnv_cells S.kind hkind fun env he s1 x => ?_
  subst he
  refine ⟨lim.keeps x.toInCall.keep, codeAny_func ?_⟩
  obtain ⟨t, ht, hq⟩ := hbody A outer s H vs Q E (hr.deeper _) hsp
  have I : Inv (cxOf CX P w K mg base N qual scope f cdv A outer s H E) [] (start N vs) H s1 := inv_start S hr.hd e0 hl r x
  refine wpAny_mono (ht [] s1 (start N vs) H _ I hq) (fun fl s' hs => ?_) fun e s' hs => hs
  have fin : ∀ {σ' : St} {H' : Hp} {v : V} {u : Value}, Inv (cxOf CX P w K mg base N qual scope f cdv A outer s H E) [] σ' H' s' → RelV v u → Q v H' → CE outer P w H s Q u s' :=
    fun {σ' H' v u} J rv q => ⟨v, H', J.os, J.bare, J.base, J.hok, rv, q⟩
  cases fl with
  | ret u =>
    obtain ⟨v, σ', H', J, rv, q⟩ := hs
    exact fin J rv q
  | next =>
    obtain ⟨σ', H', J, q⟩ := hs
    exact fin (v := V.non) (u := Value.none) J rfl q
  | brk =>
    obtain ⟨_, _, _, q⟩ := hs
    exact False.elim q
  | cont =>
    obtain ⟨_, _, _, q⟩ := hs
    exact False.elim q
end L2
namespace L2
open PySem PySem.Spec PyProof.Rows
section
variable {X : Cx} {x : Str} {p pos : Pos} {e : Expr} {es : List Expr} {t : TA} {id T : String} {r : List V → Hp → VK → Prop}
def tCB (r : List V → Hp → VK → Prop) (t : TA) : TE := fun σ H Q => t σ H fun vs H1 => r vs H1 Q
/-- f(e, ..), f a built-in function -/
theorem pe_callB (hc : CallR X (.builtin id) r) (hg : Gl X x) (hm : X.mg x = none) (hv : bootBuiltins x = some (.builtin id)) (ha : PA X (e :: es) t) (hn : x ≠ "__name__" := by decide) (hdb : (x == ("__debug__" : Str)) = false := by decide)
    (he : starEach (e :: es) X.env = (false, eval e X.env) :: starEach es X.env := by rfl) (hpl : (backTo pos (starEach es X.env)).any (·.1) = false := by rfl) : PE X (.Call (.Name x p) (e :: es) [] pos) (tCB r t) := by
  intro pins s σ H Q I h
  refine wpAny_Call_Name_kw (ld_blt I hg hm hv ?_ hn hdb)
  exact PyProof.Rows.callWith_builtin1 (thn (ha pos pins s σ H _ I h) fun us s1 ⟨vs, H1, I1, r1, q1⟩ => hc pins s1 σ H1 vs us Q I1 r1 q1) he hpl
end
end L2
namespace HT
open PySem PyProof.Rows
section
open PySem.SeqAt
open PySem.AutoSeq1 (wpAny_loadPart')
open PySem.MeetsSeq PySem.MeetsSeq2 PySem.MeetsSeq3
end
section
variable {prog : Program} {w : World} {A : Around} {E : Value → Shared → Prop} {s : Shared}
/-- a slice's bound as a place among n (d where it is left out) -/
def sIx (n d : Nat) : Option Int → Nat
  | none => d
  | some v => if v < 0 then (v + (n : Int)).toNat else min v.toNat n
theorem sIx_none (n d : Nat) : sIx n d none = d := rfl
theorem sIx_nat (n d k : Nat) : sIx n d (some (k : Int)) = min k n := by
  show (if (k : Int) < 0 then ((k : Int) + (n : Int)).toNat else min (k : Int).toNat n) = min k n
  rw [if_neg (by omega), Int.toNat_natCast]
end
end HT
namespace L2
open PySem PySem.Spec PyProof.Rows
abbrev TO := St → Hp → (Option Int → Hp → Prop) → Prop
/-- a slice's part (left out, or an int) -/
def PO (X : Cx) (e : Option Expr) (t : TO) : Prop :=
  ∀ (pins : List (Addr × Obj)) (s : Shared) (σ : St) (H : Hp) (Q : Option Int → Hp → Prop), Inv X pins σ H s → t σ H Q →
    wpAny (model X.prog X.w) X.A (evalPart e X.env) (fun u s' => ∃ o H', Inv X pins σ H' s' ∧ IsPart u o ∧ Q o H') X.xe s
def tNoPart : TO := fun _ H Q => Q none H
def tPart (t : TE) : TO := fun σ H Q => t σ H fun x H1 => ∃ i, x = .int i ∧ Q (some i) H1
section
variable {X : Cx} {e : Expr} {te : TE} {lo hi : Option Expr} {tl th : TO} {pos p2 : Pos}
theorem po_none : PO X none tNoPart := by
  intro pins s σ H Q I h
  rw [evalPart_none]
  exact wpAny_pure ⟨none, H, I, .none, h⟩
theorem po_some (h : PE X e te) : PO X (some e) (tPart te) := by
  intro pins s σ H Q I hw
  rw [evalPart_some]
  refine thn (h pins s σ H _ I hw) fun u s1 ⟨x, H1, I1, r1, q1⟩ => ?_
  obtain ⟨i, rfl, q⟩ := q1
  obtain ⟨t, rfl⟩ := r1
  exact ⟨some i, H1, I1, .int i t, q⟩
/-- what a slice of a value is, by values: the slice object stands at sl -/
def SlR (X : Cx) (r : V → Option Int → Option Int → Hp → VK → Prop) : Prop :=
  ∀ (pins : List (Addr × Obj)) (s : Shared) (σ : St) (H : Hp) (x : V) (v vl vu : Value) (lo hi : Option Int) (sl : Addr) (Q : VK), Inv X pins σ H s → RelV x v → s.heap.IsSliceOf sl vl vu .none → IsPart vl lo → IsPart vu hi → r x lo hi H Q →
    ∃ T id, typeLookup (.type T) "__getitem__" = pure (some (.builtin id)) ∧ s.TypeIs v T ∧ wpAny (model X.prog X.w) X.A (getItem v (.ref sl)) (EP X pins σ Q) X.xe s
def tSl (r : V → Option Int → Option Int → Hp → VK → Prop) (te : TE) (tl th : TO) : TE := fun σ H Q => te σ H fun x H1 => tl σ H1 fun l H2 => th σ H2 fun u H3 => r x l u H3 Q
/-- a[lo:hi], any a -/
theorem pe_slice {r : V → Option Int → Option Int → Hp → VK → Prop} (hr : SlR X r) (he : PE X e te) (hl : PO X lo tl) (hu : PO X hi th) : PE X (.Subscript e (.Slice lo hi none p2) pos) (tSl r te tl th) := by
  intro pins s σ H Q I h
  refine Subscript_ (thn (he pins s σ H _ I h) fun v s1 ⟨x, H1, I1, r1, q1⟩ => ?_)
  refine wpAny_Slice (thn (hl pins s1 σ H1 _ I1 q1) fun vl s2 ⟨l, H2, I2, pl, q2⟩ => thn (hu pins s2 σ H2 _ I2 q2) fun vu s3 ⟨u, H3, I3, pu, q3⟩ => ?_)
  rw [evalPart_none]
  refine wpAny_pure ?_
  have I4 : Inv X pins σ H3 { s3 with heap := s3.heap.push { cls := .type "slice", data := .fields #[vl, vu, .none] } } := I3.kept (t' := s3.toks) fun b ob q => Heap.get?_push_of_some _ q
  obtain ⟨T, id, hT, ht, hg⟩ := hr pins { s3 with heap := s3.heap.push { cls := .type "slice", data := .fields #[vl, vu, .none] } } σ H3 x v vl vu l u s3.heap.objs.size Q I4 r1 (Heap.IsSliceOf.new ..) pl pu q3
  show wpAny (model X.prog X.w) X.A (subscriptTail e (.Slice lo hi none p2) v (.ref s3.heap.objs.size)) (EP X pins σ Q) X.xe { s3 with heap := s3.heap.push { cls := .type "slice", data := .fields #[vl, vu, .none] } }
  exact tail_any (ops := [.ref s3.heap.objs.size, v]) ht hT hg (by with_unfolding_all rfl)
/-- the items of xs[lo:hi] -/
def cutV (xs : List V) (lo hi : Option Int) : List V := (xs.drop (HT.sIx xs.length 0 lo)).take (HT.sIx xs.length xs.length hi - HT.sIx xs.length 0 lo)
theorem cutV_length (xs : List V) (lo hi : Option Int) : (cutV xs lo hi).length ≤ xs.length := by
  unfold cutV
  rw [List.length_take, List.length_drop]
  omega
end
end L2
namespace L2
open PySem PySem.Spec PyProof.Rows
/-- the place that an index of any sign means -/
def ixN (n : Nat) (i : Int) : Option Nat := if 0 ≤ i then (if i < n then some i.toNat else none) else if -(n : Int) ≤ i then some (i + n).toNat else none
def atI {α : Type} (xs : List α) (i : Int) : Option α := (ixN xs.length i).bind fun j => xs[j]?
theorem ixN_seq {n : Nat} {i : Int} {j : Nat} (h : ixN n i = some j) : seqIndex? i n = some j ∧ j < n ∧ -(n : Int) ≤ i ∧ i < n := by
  unfold ixN at h
  by_cases h0 : 0 ≤ i
  · rw [if_pos h0] at h
    by_cases h1 : i < n
    · rw [if_pos h1] at h
      have e : i.toNat = j := Option.some.inj h
      exact ⟨by rw [seqIndex_of h0 h1, e], by omega, by omega, h1⟩
    · rw [if_neg h1] at h; cases h
  · rw [if_neg h0] at h
    by_cases h1 : -(n : Int) ≤ i
    · rw [if_pos h1] at h
      have e : (i + n).toNat = j := Option.some.inj h
      exact ⟨by rw [seqIndex_neg (by omega) h1, e], by omega, h1, by omega⟩
    · rw [if_neg h1] at h; cases h
theorem atI_get {α : Type} {xs : List α} {i : Int} {v : α} (h : atI xs i = some v) : ∃ j, seqIndex? i xs.length = some j ∧ xs[j]? = some v ∧ j < xs.length ∧ -(xs.length : Int) ≤ i ∧ i < xs.length := by
  unfold atI at h
  cases e : ixN xs.length i with
  | none => rw [e] at h; cases h
  | some j =>
    rw [e] at h
    obtain ⟨h1, h2, h3, h4⟩ := ixN_seq e
    exact ⟨j, h1, h, h2, h3, h4⟩
theorem atI_nat {α : Type} {xs : List α} {j : Nat} {v : α} (h : xs[j]? = some v) : atI xs (j : Int) = some v := by
  have hj : j < xs.length := (List.getElem?_eq_some_iff.mp h).1
  have e : ixN xs.length (j : Int) = some j := by
    unfold ixN
    rw [if_pos (by omega), if_pos (by omega)]; simp
  unfold atI; rw [e]; exact h
/-- what stands as an index of a plain subscript -/
def PlainIx (b : Expr) : Prop := ∀ o i, subscripted b false o i = operate [o, i] (getItem o i)
/-- a subscript by values -/
def IxR (X : Cx) (r : R2) : Prop :=
  ∀ (value slice : Expr) (pins : List (Addr × Obj)) (s : Shared) (σ : St) (H : Hp) (x y : V) (v u : Value) (Q : VK), Inv X pins σ H s → RelV x v → RelV y u → r x y H Q →
    subscripted slice false v u = operate [v, u] (getItem v u) → wpAny (model X.prog X.w) X.A (subscriptTail value slice v u) (EP X pins σ Q) X.xe s
/-- a call of a builtin's method by values: the receiver, the arguments -/
def MtR (X : Cx) (id : String) (r : V → List V → Hp → VK → Prop) : Prop :=
  ∀ (pins : List (Addr × Obj)) (s : Shared) (σ : St) (H : Hp) (x : V) (xs : List V) (v : Value) (us : List Value) (Q : VK), Inv X pins σ H s → RelV x v → Vals xs us → r x xs H Q →
    wpAny (model X.prog X.w) X.A (call (.builtin id) (v :: us)) (EP X pins σ Q) X.xe s
section
variable {X : Cx} {a b : Expr} {ta tb : TE} {pos : Pos}
/-- a[b] -/
theorem pe_ix {r : R2} (hr : IxR X r) (ha : PE X a ta) (hb : PE X b tb) (hs : PlainIx b) : PE X (.Subscript a b pos) (tOp r ta tb) := by
  intro pins s σ H Q I h
  exact Subscript_ (binT ha hb I h fun v u s2 x y H2 I2 rx ry q => hr a b pins s2 σ H2 x y v u Q I2 rx ry q (hs _ _))
def rIxL (K : PySem.W.Frag) : R2 := fun x y H Q => ∃ p xs i v, x = .ref p ∧ y = .int i ∧ SqL K H p xs ∧ atI xs i = some v ∧ Q v H
def rIxT (K : PySem.W.Frag) : R2 := fun x y H Q => ∃ p xs i v, x = .ref p ∧ y = .int i ∧ SqT K H p xs ∧ atI xs i = some v ∧ Q v H
theorem ix_list : IxR X (rIxL X.K) := by
  intro value slice pins s σ H x y v u Q I rx ry h hs
  obtain ⟨p, xs, i, z, rfl, rfl, hq, he, q⟩ := h
  cases rx
  obtain ⟨t, rfl⟩ := ry
  obtain ⟨its, r, pl, hz⟩ := I.list hq
  obtain ⟨j, h1, h2, h3, h4, h5⟩ := atI_get he
  obtain ⟨w, ew, rw'⟩ := r.get h2
  have hl := r.length
  have hn := line63
  have fin : EP X pins σ Q w s := ⟨z, H, I, rw', q⟩
  by_cases h0 : 0 ≤ i
  · have hj : i.toNat = j := by
      rw [seqIndex_of h0 h5] at h1
      exact Option.some.inj h1
    exact item_listR pl.isList h0 (by omega) (by rw [hj]; simpa using ew) fin hs
  · have hj : (i + (its.toArray.size : Int)).toNat = j := by
      rw [seqIndex_neg (by omega) h4] at h1
      rw [List.size_toArray, ← hl]
      exact Option.some.inj h1
    exact subscriptTail_builtinR (x := w) pl.isList.typeIs slot_list_getitem.lookup
      (wpAny_getItem_list_neg (Q := fun r s' => r = w ∧ EP X pins σ Q r s') pl.isList (by omega) (by rw [List.size_toArray] <;> omega) (by omega) (by rw [hj]; simpa using ew) ⟨rfl, fin⟩) hs
theorem ix_tup : IxR X (rIxT X.K) := by
  intro value slice pins s σ H x y v u Q I rx ry h hs
  obtain ⟨p, xs, i, z, rfl, rfl, hq, he, q⟩ := h
  cases rx
  obtain ⟨t, rfl⟩ := ry
  obtain ⟨its, r, pl, hz⟩ := I.tuple hq
  obtain ⟨j, h1, h2, h3, h4, h5⟩ := atI_get he
  obtain ⟨w, ew, rw'⟩ := r.get h2
  have hl := r.length
  have hn := line63
  have fin : EP X pins σ Q w s := ⟨z, H, I, rw', q⟩
  exact subscriptTail_builtinR (x := w) pl.typeIs slot_tuple_getitem.lookup
    (getItem_tuple (j := j) (Q := fun r s' => r = w ∧ EP X pins σ Q r s') pl (by omega) (by omega) (by rw [List.size_toArray, ← hl]; exact h1) (by simpa using ew) ⟨rfl, fin⟩) hs
theorem slice_bounds (lo hi : Option Int) (n : Nat) : (sliceBounds lo hi none n).1 = ((HT.sIx n 0 lo : Nat) : Int) ∧ (sliceBounds lo hi none n).2.1 = ((HT.sIx n n hi : Nat) : Int) ∧ (sliceBounds lo hi none n).2.2 = 1 := by
  refine ⟨?_, ?_, rfl⟩
  · cases lo with
    | none => simp [sliceBounds, HT.sIx]
    | some i =>
      simp only [sliceBounds, HT.sIx, Option.getD_none, show (1 : Int) > 0 by decide, if_true]
      by_cases h : i < 0
      · simp only [h, if_true] <;> omega
      · simp only [h, if_false] <;> omega
  · cases hi with
    | none => simp [sliceBounds, HT.sIx]
    | some i =>
      simp only [sliceBounds, HT.sIx, Option.getD_none, show (1 : Int) > 0 by decide, if_true]
      by_cases h : i < 0
      · simp only [h, if_true] <;> omega
      · simp only [h, if_false] <;> omega
theorem slicePick_cut (its : List Value) (lo hi : Option Int) : slicePick its.toArray lo hi none = ((its.drop (HT.sIx its.length 0 lo)).take (HT.sIx its.length its.length hi - HT.sIx its.length 0 lo)).toArray := by
  obtain ⟨h1, h2, h3⟩ := slice_bounds lo hi its.toArray.size
  unfold slicePick
  rw [h1, h2, h3]
  simp only [sliceRange_one, pick_run, List.size_toArray] <;> rfl
/-- xs[lo:hi] of a list: a new list -/
def rSlL (K : PySem.W.Frag) : V → Option Int → Option Int → Hp → VK → Prop := fun x lo hi H Q => ∃ a xs, x = .ref a ∧ SqL K H a xs ∧ ∀ p, H p = none → Q (.ref p) (upd H p (.lst (cutV xs lo hi)))
theorem sl_list : SlR X (rSlL X.K) := by
  intro pins s σ H x v vl vu lo hi sl Q I rx hs pl pu h
  obtain ⟨a, xs, rfl, hx, q⟩ := h
  cases rx
  obtain ⟨its, r, ht, hz⟩ := I.list hx
  have hlen := r.length
  refine ⟨"list", _, slot_list_getitem.lookup, ht.isList.typeIs, ?_⟩
  refine wpAny_getItem_list_slice ht.isList hs pl pu .none (by simp) ?_ (by rw [List.size_toArray] <;> omega)
  rw [slicePick_cut, ← hlen]
  refine ⟨.ref s.heap.objs.size, _, I.laid (t' := s.toks) (o := .lst (cutV xs lo hi)) (fun b ob q => Heap.get?_push_of_some _ q) (Nat.le_refl _) ?_, rfl, q _ (I.hok.fresh (Nat.le_refl _))⟩
  exact ⟨Nat.le_trans (cutV_length xs lo hi) hz, _, 0, (r.drop (HT.sIx xs.length 0 lo)).take (HT.sIx xs.length xs.length hi - HT.sIx xs.length 0 lo), Heap.get?_push_size _ rfl⟩
def flatV : V → Bool
  | .non => true
  | .bl _ => true
  | .int _ => true
  | .str _ => true
  | _ => false
/-- == of flat values -/
def eqV : V → V → Bool
  | .non, .non => true
  | .bl a, .bl b => a == b
  | .bl a, .int b => (if a then 1 else 0) == b
  | .int a, .bl b => a == (if b then 1 else 0)
  | .int a, .int b => a == b
  | .str a, .str b => a == b
  | _, _ => false
theorem eqAt_V {A : Around} {s : Shared} {y x : V} {u v : Value} (ry : RelV y u) (rx : RelV x v) (fy : flatV y = true) (fx : flatV x = true) : SeqAt.EqAt A s u v (eqV y x) := by
  cases y with
  | non =>
    cases ry
    cases x with
    | non => cases rx; exact SeqAt.EqAt.same _
    | bl b => cases rx; exact SeqAt.EqAt.none_bool b
    | int b => obtain ⟨t, rfl⟩ := rx; exact SeqAt.EqAt.none_int b t
    | str b => obtain ⟨t, rfl⟩ := rx; exact SeqAt.EqAt.none_str b t
    | _ => exact absurd (show false = true from fx) Bool.false_ne_true
  | bl a =>
    cases ry
    cases x with
    | non => cases rx; exact SeqAt.EqAt.bool_none a
    | bl b => cases rx; exact SeqAt.EqAt.bool_bool a b
    | int b => obtain ⟨t, rfl⟩ := rx; exact SeqAt.EqAt.bool_int a b t
    | str b => obtain ⟨t, rfl⟩ := rx; exact SeqAt.EqAt.bool_str a b t
    | _ => exact absurd (show false = true from fx) Bool.false_ne_true
  | int a =>
    obtain ⟨t', rfl⟩ := ry
    cases x with
    | non => cases rx; exact SeqAt.EqAt.int_none a t'
    | bl b => cases rx; exact SeqAt.EqAt.int_bool a t' b
    | int b => obtain ⟨t, rfl⟩ := rx; exact SeqAt.EqAt.int_int a t' b t
    | str b => obtain ⟨t, rfl⟩ := rx; exact SeqAt.EqAt.int_str a t' b t
    | _ => exact absurd (show false = true from fx) Bool.false_ne_true
  | str a =>
    obtain ⟨t', rfl⟩ := ry
    cases x with
    | non => cases rx; exact SeqAt.EqAt.str_none a t'
    | bl b => cases rx; exact SeqAt.EqAt.str_bool a t' b
    | int b => obtain ⟨t, rfl⟩ := rx; exact SeqAt.EqAt.str_int a t' b t
    | str b => obtain ⟨t, rfl⟩ := rx; exact SeqAt.EqAt.str_str a t' b t
    | _ => exact absurd (show false = true from fx) Bool.false_ne_true
  | _ => exact absurd (show false = true from fy) Bool.false_ne_true
/-- the items' answers, read off the values (a value's own answer does not lean on its token) -/
def eqU (x : V) (u : Value) : Bool := match u with
  | .none => eqV .non x
  | .bool b => eqV (.bl b) x
  | .int i _ => eqV (.int i) x
  | .str z _ => eqV (.str z) x
  | _ => false
theorem eqU_of {x y : V} {u : Value} (r : RelV y u) (f : flatV y = true) : eqU x u = eqV y x := by
  cases y with
  | non => cases r; rfl
  | bl b => cases r; rfl
  | int i => obtain ⟨t, rfl⟩ := r; rfl
  | str z => obtain ⟨t, rfl⟩ := r; rfl
  | _ => exact absurd (show false = true from f) Bool.false_ne_true
theorem any_eqU {x : V} : ∀ {xs : List V} {us : List Value}, Vals xs us → xs.all flatV = true → us.any (eqU x) = xs.any fun y => eqV y x
  | _, _, .nil, _ => rfl
  | y :: xs, u :: us, .cons r t, f => by
    rw [List.all_cons, Bool.and_eq_true] at f
    rw [List.any_cons, List.any_cons, eqU_of r f.1, any_eqU t f.2]
theorem mem_eqAt {A : Around} {s : Shared} {x : V} {v : Value} (rx : RelV x v) (fx : flatV x = true) : ∀ {xs : List V} {us : List Value}, Vals xs us → xs.all flatV = true → ∀ u ∈ us, SeqAt.EqAt A s u v (eqU x u)
  | _, _, .nil, _ => fun u hu => by cases hu
  | y :: xs, u :: us, .cons r t, f => fun u' hu => by
    rw [List.all_cons, Bool.and_eq_true] at f
    rcases List.mem_cons.mp hu with rfl | hu
    · rw [eqU_of r f.1]; exact eqAt_V r rx f.1 fx
    · exact mem_eqAt rx fx t f.2 u' hu
def inV (x : V) (xs : List V) : Bool := xs.any fun y => eqV y x
/-- x in a list or tuple of flat items -/
def rIn (K : PySem.W.Frag) (neg : Bool) : R2 := fun x y H Q => ∃ p xs, y = .ref p ∧ (SqL K H p xs ∨ SqT K H p xs) ∧ flatV x = true ∧ xs.all flatV = true ∧ Q (.bl (if neg then !inV x xs else inV x xs)) H
theorem op_in_seq : OpR X (compareOp .In) (rIn X.K false) := by
  intro pins s σ H x y v u Q I rx ry h
  obtain ⟨p, xs, rfl, hq, fx, fs, q⟩ := h
  cases ry
  rcases hq with hq | hq
  · obtain ⟨its, r, pl, hz⟩ := I.list hq
    refine SeqAt.in_listAt (eqU x) pl.isList (fun w hw => mem_eqAt rx fx r fs w (by simpa using hw)) ⟨.bl _, H, I, rfl, ?_⟩
    rw [show its.toArray.any (eqU x) = its.any (eqU x) by simp, any_eqU r fs]
    exact q
  · obtain ⟨its, r, pl, hz⟩ := I.tuple hq
    refine SeqAt.in_tupleAt (eqU x) pl (fun w hw => mem_eqAt rx fx r fs w (by simpa using hw)) ⟨.bl _, H, I, rfl, ?_⟩
    rw [show its.toArray.any (eqU x) = its.any (eqU x) by simp, any_eqU r fs]
    exact q
theorem op_notIn_seq : OpR X (compareOp .NotIn) (rIn X.K true) := by
  intro pins s σ H x y v u Q I rx ry h
  obtain ⟨p, xs, rfl, hq, fx, fs, q⟩ := h
  cases ry
  rcases hq with hq | hq
  · obtain ⟨its, r, pl, hz⟩ := I.list hq
    refine SeqAt.notIn_listAt (eqU x) pl.isList (fun w hw => mem_eqAt rx fx r fs w (by simpa using hw)) ⟨.bl _, H, I, rfl, ?_⟩
    rw [show its.toArray.any (eqU x) = its.any (eqU x) by simp, any_eqU r fs]
    exact q
  · obtain ⟨its, r, pl, hz⟩ := I.tuple hq
    refine SeqAt.notIn_tupleAt (eqU x) pl (fun w hw => mem_eqAt rx fx r fs w (by simpa using hw)) ⟨.bl _, H, I, rfl, ?_⟩
    rw [show its.toArray.any (eqU x) = its.any (eqU x) by simp, any_eqU r fs]
    exact q
/-- the value is of that builtin type -/
def tyV (K : PySem.W.Frag) (T : String) (x : V) (H : Hp) : Prop := match x with
  | .str _ => T = "str"
  | .int _ => T = "int"
  | .ref p => (T = "list" ∧ ∃ xs, SqL K H p xs) ∨ (T = "tuple" ∧ ∃ o, K.lookup p = some o ∧ o.cls = .type "tuple" ∧ o.dict = none) ∨
      (T = "dict" ∧ ((∃ kvs, H p = some (.dK kvs)) ∨ ∃ kvs, H p = some (.dT kvs))) ∨ (T = "set" ∧ ∃ S n, H p = some (.set S n))
  | _ => False
theorem tyV_is {pins : List (Addr × Obj)} {σ : St} {H : Hp} {s : Shared} {T : String} {x : V} {v : Value} (I : Inv X pins σ H s) (r : RelV x v) (ty : tyV X.K T x H) :
    s.TypeIs v T ∧ ∀ a, v = .ref a → ∃ ob, s.heap.get? a = some ob ∧ ob.dict = none := by
  cases x with
  | str z =>
    obtain ⟨t, rfl⟩ := r
    cases (show T = "str" from ty)
    exact ⟨typeIs_str s z t, fun _ e => nomatch e⟩
  | int i =>
    obtain ⟨t, rfl⟩ := r
    cases (show T = "int" from ty)
    exact ⟨typeIs_int s i t, fun _ e => nomatch e⟩
  | ref p =>
    cases r
    rcases ty with ⟨rfl, xs, hq⟩ | ⟨rfl, o, hk, hc, hd⟩ | ⟨rfl, hk⟩ | ⟨rfl, S, n, hk⟩
    · obtain ⟨its, _, pl, _⟩ := I.list hq
      refine ⟨pl.isList.typeIs, fun a e => ?_⟩
      cases e
      obtain ⟨o, n, e, c, hd, _⟩ := pl
      exact ⟨o, e, hd⟩
    · refine ⟨⟨o, I.kIn p o hk, hc⟩, fun a e => ?_⟩
      cases e
      exact ⟨o, I.kIn _ o hk, hd⟩
    · have z : ∃ o, s.heap.get? p = some o ∧ o.ExactDict := by
        rcases hk with ⟨kvs, hk⟩ | ⟨kvs, hk⟩
        · obtain ⟨_, _, _, _, o, _, _, e, ex, _⟩ := I.hok p _ hk
          exact ⟨o, e, ex⟩
        · obtain ⟨_, _, _, _, o, _, _, e, ex, _⟩ := I.hok p _ hk
          exact ⟨o, e, ex⟩
      obtain ⟨o, e, ex⟩ := z
      refine ⟨⟨o, e, ex.1⟩, fun a e2 => ?_⟩
      cases e2
      exact ⟨o, e, ex.2.1⟩
    · obtain ⟨o, _, _, _, e, ex, _⟩ := I.hok p _ hk
      refine ⟨⟨o, e, ex.1⟩, fun a e2 => ?_⟩
      cases e2
      exact ⟨o, e, ex.2.1⟩
  | _ => exact False.elim ty
def tBM0 (K : PySem.W.Frag) (T : String) (r : V → List V → Hp → VK → Prop) (to : TE) : TE := fun σ H Q => to σ H fun x H1 => tyV K T x H1 ∧ r x [] H1 Q
def tBM (K : PySem.W.Frag) (T : String) (r : V → List V → Hp → VK → Prop) (to : TE) (t : TA) : TE := fun σ H Q => to σ H fun x H1 => tyV K T x H1 ∧ t σ H1 fun xs H2 => r x xs H2 Q
variable {o e : Expr} {es : List Expr} {to : TE} {t : TA} {name : Str} {apos cpos : Pos} {T id : String} {r : V → List V → Hp → VK → Prop}
theorem pe_bm0 (pa : PlainAttrs T) (slot : Slot T name id) (hty : typeOf (.builtin id) = pure (.type "method_descriptor")) (hm : MtR X id r) (ho : PE X o to)
    (hbase : attributeBase o name X.env (eval o X.env) = eval o X.env := by rfl) (hline : (apos.endLine == cpos.line) = true := by rfl) : PE X (.Call (.Attribute o name apos) [] [] cpos) (tBM0 X.K T r to) := by
  intro pins s σ H Q I h
  refine wpAny_Call_method0_late hbase hline (thn (ho pins s σ H _ I h) fun v s1 ⟨x, H1, I1, r1, ty, q1⟩ => ?_)
  obtain ⟨h1, h2⟩ := tyV_is I1 r1 ty
  exact ⟨T, id, pa, slot, hty, h1, h2, Calls.callWith_builtin rfl (PySem.evalArgs_none (hm pins s1 σ H1 x [] v [] Q I1 r1 .nil q1))⟩
theorem pe_bm (pa : PlainAttrs T) (slot : Slot T name id) (hty : typeOf (.builtin id) = pure (.type "method_descriptor")) (hm : MtR X id r) (ho : PE X o to) (ha : PA X (e :: es) t)
    (hbase : attributeBase o name X.env (eval o X.env) = eval o X.env := by rfl)
    (hfew : ((backTo cpos (starEach (e :: es) X.env)).all (fun x => !x.1) && (backToKw cpos (keywordEach [] X.env)).all (fun x => x.1.isSome)
      && decide ((e :: es).length + ([] : List Keyword).length + (if ([] : List Keyword).isEmpty then 0 else 1) < 30)) = true := by rfl)
    (hline : (apos.endLine == cpos.line) = true := by rfl) (hs : starEach (e :: es) X.env = (false, eval e X.env) :: starEach es X.env := by rfl) (hplain : (backTo cpos (starEach es X.env)).any (·.1) = false := by rfl) :
    PE X (.Call (.Attribute o name apos) (e :: es) [] cpos) (tBM X.K T r to t) := by
  intro pins s σ H Q I h
  refine wpAny_Call_method_late hbase hfew hline rfl (thn (ho pins s σ H _ I h) fun v s1 ⟨x, H1, I1, r1, ty, q1⟩ => ?_)
  obtain ⟨h1, h2⟩ := tyV_is I1 r1 ty
  refine ⟨T, id, pa, slot, hty, h1, h2, ?_⟩
  have hA := ha cpos pins s1 σ H1 _ I1 q1
  rw [hs] at hA ⊢
  refine Calls.callWith_builtin (by show (false || (backTo cpos (starEach es X.env)).any (·.1)) = false; rw [hplain] <;> rfl) (Calls.evalArgs_plain ?_)
  exact thn hA fun us s2 ⟨vs, H2, I2, r2, q2⟩ => hm pins s2 σ H2 x vs v us Q I2 r1 r2 q2
/- xs.append(e), list.index on a module's tuple .. are MtR facts of 06m -/
end
end L2
namespace L2
open PySem PySem.Spec PyProof.Rows
def MtM (X : Cx) (id : String) (r : V → List V → Hp → VK → Prop) : Prop :=
  ∀ (pins : List (Addr × Obj)) (s : Shared) (σ : St) (H : Hp) (x : V) (xs : List V) (v : Value) (us : List Value) (Q : VK), Inv X pins σ H s → RelV x v → Vals xs us → r x xs H Q →
    wpAny (model X.prog X.w) X.A (call (.builtin id) (v :: us)) (EP X pins σ Q) X.xe s
theorem Vals.one : ∀ {x : V} {us : List Value}, Vals [x] us → ∃ u, us = [u] ∧ RelV x u
  | _, _, .cons r .nil => ⟨_, rfl, r⟩
theorem Vals.zero : ∀ {us : List Value}, Vals [] us → us = []
  | _, .nil => rfl
theorem Vals.dropLast {xs : List V} {us : List Value} (h : Vals xs us) : Vals xs.dropLast us.dropLast := by
  induction h with
  | nil => exact .nil
  | cons r t ih =>
    cases t with
    | nil => exact .nil
    | cons q t' => exact .cons r ih
theorem Vals.reverse {xs : List V} {us : List Value} (h : Vals xs us) : Vals xs.reverse us.reverse := by
  induction h with
  | nil => exact .nil
  | cons r t ih => rw [List.reverse_cons, List.reverse_cons]; exact Vals.append ih (.cons r .nil)
theorem Vals.rep {xs : List V} {us : List Value} (h : Vals xs us) : ∀ k : Nat, Vals (List.replicate k xs).flatten (List.replicate k us).flatten
  | 0 => .nil
  | k + 1 => by
    rw [List.replicate_succ, List.replicate_succ, List.flatten_cons, List.flatten_cons]
    exact Vals.append h (Vals.rep h k)
theorem erase_last {α : Type} (l : List α) : l.eraseIdx (l.length - 1) = l.dropLast := by
  induction l with
  | nil => rfl
  | cons a r ih =>
    cases r with
    | nil => rfl
    | cons b r =>
      have e : (a :: b :: r).length - 1 = ((b :: r).length - 1) + 1 := by
        have h1 : (a :: b :: r).length = r.length + 2 := rfl
        have h2 : (b :: r).length = r.length + 1 := rfl
        omega
      rw [e, List.eraseIdx_cons_succ, ih]
      all_goals rfl
theorem foldl_rep (its : List Value) : ∀ (k : Nat) (acc : List Value),
    List.foldl (fun x1 x2 => x1 ++ x2) acc.toArray (List.replicate k its.toArray) = (acc ++ (List.replicate k its).flatten).toArray
  | 0, acc => by simp
  | k + 1, acc => by
    have e : acc.toArray ++ its.toArray = (acc ++ its).toArray := by simp
    have e2 : (acc ++ its) ++ (List.replicate k its).flatten = acc ++ (List.replicate (k + 1) its).flatten := by
      rw [List.replicate_succ, List.flatten_cons, List.append_assoc]
    rw [← e2, ← foldl_rep its k (acc ++ its), ← e, List.replicate_succ, List.foldl_cons]
section
variable {X : Cx} {pins : List (Addr × Obj)} {σ : St} {H : Hp} {s : Shared} {l b : Addr} {xs ys zs : List V}
theorem Inv.lset {its its' : List Value} {n : Nat} {f : Array Value → Array Value} {t' : Nat} (I : Inv X pins σ H s) (hH : H l = some (.lst xs))
    (e : s.heap.get? l = some { cls := .type "list", data := .seq its.toArray n }) (hf : f its.toArray = its'.toArray) (hv : Vals ys its') (hz : ys.length ≤ sizeLine) :
    Inv X pins σ (upd H l (.lst ys)) { s with heap := s.heap.update l (Obj.mapSeq f), toks := t' } := by
  have q := PySem.IsL.update e f
  rw [hf] at q
  refine I.write (x := l) (e := l) (by rw [hH]; exact trivial) (.inl rfl) (fun b' u hb hu => (Heap.get?_update_other s.heap (Obj.mapSeq f) (Ne.symm hb)).trans hu) ⟨_, q⟩ ?_
  exact ⟨hz, its', _, hv, q⟩
theorem Inv.lnew {its : List Value} {t' : Nat} (I : Inv X pins σ H s) (hv : Vals ys its) (hz : ys.length ≤ sizeLine) :
    Inv X pins σ (upd H s.heap.objs.size (.lst ys)) { s with heap := s.heap.push { cls := .type "list", data := .seq its.toArray }, toks := t' } :=
  I.laid (fun _ _ q => Heap.get?_push_of_some _ q) (Nat.le_refl _) ⟨hz, its, 0, hv, Heap.get?_push_size _ rfl⟩
theorem Inv.fresh (I : Inv X pins σ H s) : H s.heap.objs.size = none := I.hok.fresh (Nat.le_refl _)
theorem Inv.lstM (I : Inv X pins σ H s) (hH : H l = some (.lst xs)) : xs.length ≤ sizeLine ∧ ∃ (its : List Value) (n : Nat), Vals xs its ∧ xs.length = its.length ∧ s.heap.get? l = some { cls := .type "list", data := .seq its.toArray n } := by
  obtain ⟨z, its, n, r, e⟩ := I.hok l _ hH
  exact ⟨z, its, n, r, r.length, e⟩
theorem notLongL {n : Nat} (h : n ≤ sizeLine) : Builtin.List.listTooLong n = false := by
  unfold Builtin.List.listTooLong
  exact decide_eq_false (by omega)
end
section
variable {X : Cx}
def rAppend : V → List V → Hp → VK → Prop := fun x vs H Q => ∃ l xs y, x = .ref l ∧ vs = [y] ∧ H l = some (.lst xs) ∧ xs.length < sizeLine ∧ Q .non (upd H l (.lst (xs ++ [y])))
theorem mt_append : MtM X "list.append" rAppend := by
  intro pins s σ H x vs v us Q I rx rv h
  obtain ⟨l, xs, y, rfl, rfl, hH, hz, q⟩ := h
  cases rx
  obtain ⟨u, rfl, ru⟩ := rv.one
  obtain ⟨z, its, n, r, hl, e⟩ := I.lstM hH
  refine call_meets F.slot_list_append ⟨_, e, rfl⟩ F.entry_list_append (F.args_list_append_2 _ _) (PySem.list_append l its.toArray n u (by rw [List.size_toArray]; omega)) ⟨e, ?_⟩
  refine ⟨.non, _, I.lset (its' := its ++ [u]) hH e (by simp) (r.append (.cons ru .nil)) ?_, rfl, q⟩
  rw [List.length_append, List.length_singleton]
  omega
def rExtend : V → List V → Hp → VK → Prop := fun x vs H Q => ∃ l b xs zs, x = .ref l ∧ vs = [.ref b] ∧ H l = some (.lst xs) ∧ H b = some (.lst zs) ∧ xs.length + zs.length ≤ sizeLine ∧ Q .non (upd H l (.lst (xs ++ zs)))
theorem mt_extend : MtM X "list.extend" rExtend := by
  intro pins s σ H x vs v us Q I rx rv h
  obtain ⟨l, b, xs, zs, rfl, rfl, hH, hB, hz, q⟩ := h
  cases rx
  obtain ⟨u, rfl, ru⟩ := rv.one
  cases ru
  obtain ⟨z, its, n, r, hl, e⟩ := I.lstM hH
  obtain ⟨z2, its2, n2, r2, hl2, e2⟩ := I.lstM hB
  have hsz : its.toArray.size + its2.toArray.size ≤ sizeLine := by rw [List.size_toArray, List.size_toArray]; omega
  have hlong : ¬ (!its.toArray.isEmpty && Builtin.List.listTooLong (its.toArray.size + its2.toArray.size)) = true := by
    rw [notLongL hsz, Bool.and_false]
    exact Bool.false_ne_true
  refine call_meets F.slot_list_extend ⟨_, e, rfl⟩ F.entry_list_extend (F.args_list_extend_2 _ _)
    (AutoSeq1.list_extend_list_list_0 l its.toArray n b its2.toArray n2 hlong (by rw [List.size_toArray]; omega) (by omega)) ⟨e, e2, ?_⟩
  refine ⟨.non, _, I.lset (its' := its ++ its2) hH e (by simp) (r.append r2) ?_, rfl, q⟩
  rw [List.length_append]
  omega
def rPop : V → List V → Hp → VK → Prop := fun x vs H Q => ∃ l xs y, x = .ref l ∧ vs = [] ∧ H l = some (.lst xs) ∧ xs[xs.length - 1]? = some y ∧ Q y (upd H l (.lst xs.dropLast))
theorem mt_pop : MtM X "list.pop" rPop := by
  intro pins s σ H x vs v us Q I rx rv h
  obtain ⟨l, xs, y, rfl, rfl, hH, hy, q⟩ := h
  cases rx
  have hus := rv.zero
  subst hus
  obtain ⟨z, its, n, r, hl, e⟩ := I.lstM hH
  obtain ⟨u, hu, ru⟩ := r.get hy
  have hy' : its.toArray[its.toArray.size - 1]? = some u := by
    show its.toArray[its.length - 1]? = some u
    rw [← Array.getElem?_toList, ← hl]
    exact hu
  refine call_meets F.slot_list_pop ⟨_, e, rfl⟩ F.entry_list_pop (F.args_list_pop_1 _) (MeetsSeq.list_pop_last l its.toArray n u hy' (by rw [List.size_toArray]; omega)) ⟨e, ?_⟩
  refine ⟨y, _, I.lset (its' := its.dropLast) hH e ?_ r.dropLast ?_, ru, q⟩
  · show its.toArray.eraseIdxIfInBounds (its.toArray.size - 1) = its.dropLast.toArray
    rw [List.size_toArray, List.eraseIdxIfInBounds_toArray, erase_last]
  · rw [List.length_dropLast]
    omega
def rCat : R2 := fun x y H Q => ∃ l b xs zs, x = .ref l ∧ y = .ref b ∧ H l = some (.lst xs) ∧ H b = some (.lst zs) ∧ xs.length + zs.length ≤ sizeLine ∧ ∀ p, H p = none → Q (.ref p) (upd H p (.lst (xs ++ zs)))
theorem op_cat : OpR X (binaryOp .Add) rCat := by
  intro pins s σ H x y v u Q I rx ry h
  obtain ⟨l, b, xs, zs, rfl, rfl, hH, hB, hz, q⟩ := h
  cases rx
  cases ry
  obtain ⟨z, its, n, r, hl, e⟩ := I.lstM hH
  obtain ⟨z2, its2, n2, r2, hl2, e2⟩ := I.lstM hB
  refine PySem.P.add_list e e2 ?_ (by rw [List.size_toArray, List.size_toArray]; omega)
  have ea : its.toArray ++ its2.toArray = (its ++ its2).toArray := by simp
  rw [ea]
  exact ⟨.ref _, _, I.lnew (t' := s.toks) (r.append r2) (by rw [List.length_append]; omega), rfl, q _ I.fresh⟩
/-- a list times an int (a negative one is nothing) -/
def rRep : R2 := fun x y H Q => ∃ l k xs, x = .ref l ∧ y = .int k ∧ H l = some (.lst xs) ∧ -(2 ^ 63) ≤ k ∧ k < 2 ^ 63 ∧ xs.length * k.toNat ≤ sizeLine ∧
  ∀ p, H p = none → Q (.ref p) (upd H p (.lst (List.replicate k.toNat xs).flatten))
theorem len_rep {α : Type} (xs : List α) (k : Nat) : (List.replicate k xs).flatten.length = k * xs.length := by
  induction k with
  | zero => simp
  | succ k ih => rw [List.replicate_succ, List.flatten_cons, List.length_append, ih, Nat.succ_mul, Nat.add_comm]
theorem op_rep : OpR X (binaryOp .Mult) rRep := by
  intro pins s σ H x y v u Q I rx ry h
  obtain ⟨l, k, xs, rfl, rfl, hH, h1, h2, hz, q⟩ := h
  cases rx
  obtain ⟨t, rfl⟩ := ry
  obtain ⟨z, its, n, r, hl, e⟩ := I.lstM hH
  have hlen : its.toArray.size * k.toNat ≤ sizeLine := by rw [List.size_toArray, ← hl]; exact hz
  have hcap : ¬ its.toArray.size * k.toNat > (2 ^ 63 - 1) / 8 := by
    have : (sizeLine : Nat) ≤ (2 ^ 63 - 1) / 8 := by decide
    omega
  have hfit : ¬ (!Builtin.List.listFitsIndex k) = true := by
    rw [fitsIndex_both h1 h2]
    exact Bool.false_ne_true
  have hlong : ¬ Builtin.List.listTooLong (its.toArray.size * k.toNat) = true := by
    rw [notLongL hlen]
    exact Bool.false_ne_true
  have hnew : List.foldl (fun x1 x2 => x1 ++ x2) #[] (List.replicate (if its.toArray.isEmpty = true then 0 else k.toNat) its.toArray) = (List.replicate k.toNat its).flatten.toArray := by
    have f0 : ∀ m : Nat, List.foldl (fun x1 x2 => x1 ++ x2) #[] (List.replicate m its.toArray) = (List.replicate m its).flatten.toArray := fun m => by
      have := foldl_rep its m []
      rw [List.nil_append] at this
      exact this
    rw [f0]
    cases its with
    | nil => simp
    | cons a r' => rw [if_neg (by simp)]
  refine wpAny_binaryOp_repeat_ref (T := "list") (U := "int") (by decide) ⟨_, e, rfl⟩ (fun s' => typeIs_int s' k t) noFill_list_mul F.fills_int_mul F.slot_int_rmul repeat_list F.slot_int_index.lookup
    (call_meets F.slot_int_rmul (typeIs_int s k t) F.entry_int_rmul (F.args_int_rmul_2 _ _) (int___rmul___int_list k t l its.toArray n)
      ⟨e, rfl, ⟨_, e, rfl⟩, call_meets F.slot_list_mul ⟨_, e, rfl⟩ F.entry_list_mul (F.args_list_mul_2 _ _) (AutoListH.list___mul___list_int_3 l its.toArray n k t hfit hcap hlong) ⟨e, ?_⟩⟩)
  rw [hnew]
  exact ⟨.ref _, _, I.lnew (t' := s.toks) (r.rep k.toNat) (by rw [len_rep, Nat.mul_comm]; exact hz), rfl, q _ I.fresh⟩
end
section
variable {prog : Program} {w : World} {A : Around} {E : Value → Shared → Prop} {s : Shared}
end
section
variable {X : Cx}
end
end L2
namespace L2
open PySem PySem.Spec PyProof.Rows
theorem Vals.ints : ∀ {ns : List Int} {us : List Value}, Vals (ns.map V.int) us → IntsAre us ns
  | [], us, h => by
    rw [List.map_nil] at h
    cases h
    exact IntsAre.nil
  | n :: ns, us, h => by
    rw [List.map_cons] at h
    cases h with
    | cons r t =>
      obtain ⟨k, rfl⟩ := r
      exact IntsAre.cons n k (Vals.ints t)
theorem vals_of_ints : ∀ {us : List Value} {ns : List Int}, IntsAre us ns → Vals (ns.map V.int) us
  | _, _, .nil => by rw [List.map_nil]; exact Paired.nil
  | _, _, .cons n t h => by rw [List.map_cons]; exact Paired.cons (show RelV (V.int n) (Value.int n t) from ⟨t, rfl⟩) (vals_of_ints h)
theorem Vals.ref1 {a : Addr} {us : List Value} (r : Vals [V.ref a] us) : us = [Value.ref a] := by
  cases r with
  | cons r t =>
    cases t
    cases r
    rfl
section
variable {prog : Program} {w : World} {A : Around} {E : Value → Shared → Prop} {s : Shared} {l : Addr} {its : List Value} {ns : List Int} {Q : Value → Shared → Prop}
theorem sum_raw (hh : A.handled = none) (hl : s.heap.IsList l its.toArray) (hi : IntsAre its ns)
    (h : ∀ h' tk t', (∀ b o, s.heap.get? b = some o → h'.get? b = some o) → Q (.int ns.sum t') { s with heap := h', toks := tk }) : wpAny (model prog w) A (call (.builtin "sum") [.ref l]) Q E s := by
  obtain ⟨xs, e⟩ := hi.allInts.items
  have hn : numsOf (intItems xs).toList = ns := by rw [← e]; exact hi.numsOf
  rw [nums_intItems] at hn
  rw [e] at hl
  refine PySem.sum_intListG hh hl fun h' tk t' hk => ?_
  have := h h' tk t' hk
  rw [preSum_eq, List.take_of_length_le (by simp), hn]; exact this
end
section
variable {X : Cx}
/-- sum(xs) of a list of ints -/
def rSum (K : PySem.W.Frag) : List V → Hp → VK → Prop := fun vs H Q => ∃ (a : Addr) (ns : List Int), vs = [V.ref a] ∧ SqL K H a (ns.map V.int) ∧ Q (.int ns.sum) H
theorem cr_sum (hc : X.calm = true) : CallR X (.builtin "sum") (rSum X.K) := by
  intro pins s σ H vs us Q I r h
  obtain ⟨a, ns, rfl, hs, q⟩ := h
  obtain ⟨its, rv, hl, _⟩ := I.list hs
  rw [Vals.ref1 r]
  exact sum_raw (I.ok.hd hc) hl.isList rv.ints fun h' tk t' hk => ⟨.int _, H, I.kept hk, ⟨_, rfl⟩, q⟩
theorem small64 {n : Nat} (h : n < 64) : n ≤ sizeLine := by rw [sizeLine_eq]; omega
end
section
variable {X : Cx}
def rIndex (K : PySem.W.Frag) : V → List V → Hp → VK → Prop := fun x xs H Q => ∃ (a : Addr) (ys : List V) (y : V) (j : Nat) (z : V), x = V.ref a ∧ xs = [y] ∧ SqL K H a ys ∧ flatV y = true ∧ ys.all flatV = true ∧ ys[j]? = some z ∧ eqV z y = true ∧
  (∀ (m : Nat) (z' : V), m < j → ys[m]? = some z' → eqV z' y = false) ∧ Q (.int (j : Nat)) H
theorem flat_at {ys : List V} (f : ys.all flatV = true) {j : Nat} {z : V} (h : ys[j]? = some z) : flatV z = true := List.all_eq_true.mp f z (List.mem_of_getElem? h)
theorem mt_index : MtR X "list.index" (rIndex X.K) := by
  intro pins s σ H x xs v us Q I rx rxs h
  obtain ⟨a, ys, y, j, z, rfl, rfl, hs, fy, fys, hz, hzj, hno, q⟩ := h
  cases rx
  cases rxs with
  | cons ry rt =>
    rename_i uy ut
    cases rt
    obtain ⟨its, rv, ⟨⟨cls, dd, data, sl⟩, n, ho, hc, hdn, hd⟩, hlen⟩ := I.list hs
    simp only at hc hd
    subst hc hd
    obtain ⟨u, hu, ru⟩ := rv.get hz
    obtain ⟨hjl, hje⟩ := List.getElem?_eq_some_iff.mp hu
    have hvl := rv.length
    have hj : j < its.toArray.size := by simpa using hjl
    have hsl := sizeLine_eq
    refine call_meets PySem.F.slot_list_index ⟨_, ho, rfl⟩ PySem.F.entry_list_index (PySem.F.args_list_index_2 _ _)
      (SeqAt.list_indexAt a its.toArray n dd sl uy (eqU y) j hj (by omega) ?_ ?_) ⟨ho, fun u' hu' => mem_eqAt ry fy rv fys u' (by simpa using hu'), ?_⟩
    · have e1 : its.toArray[j] = u := by simpa using hje
      rw [e1, eqU_of ru (flat_at fys hz)]
      exact hzj
    · intro m hm hmj
      have hml : m < its.length := by simpa using hm
      have hmy : m < ys.length := by omega
      have hy' : ys[m]? = some ys[m] := List.getElem?_eq_getElem hmy
      obtain ⟨u2, hu2, ru2⟩ := rv.get hy'
      obtain ⟨_, hme⟩ := List.getElem?_eq_some_iff.mp hu2
      have e1 : its.toArray[m] = u2 := by simpa using hme
      rw [e1, eqU_of ru2 (flat_at fys hy')]
      exact hno m _ hmj hy'
    · exact ⟨.int (j : Nat), H, I.tok _, ⟨_, rfl⟩, q⟩
end
section
variable {X : Cx}
end
section
variable {X : Cx}
end
section
variable {X : Cx} {pins : List (Addr × Obj)} {σ : St} {H : Hp} {s : Shared}
end
section
variable {X : Cx}
end
end L2
namespace L2
open PySem PySem.Spec PyProof.Rows
abbrev CellAt (h : Heap) (c : Addr) (v : Option Value) : Prop := h.IsCell c v
def relS (scope sc : Scope) : Scope :=
  { scope with names := scope.names.map fun (n, k) => if (k == .free && sc.kind == .function && sc.names.lookup n == some .cell) then (n, .cell) else (n, k) }
def cloFrom (cells : List (Str × Addr)) : List (Str × NameKind) → List (Str × Addr) → List (Str × Addr)
  | [], acc => acc
  | (n, k) :: r, acc => if k == .free then cloFrom cells r ((n, (cells.lookup n).getD 0) :: acc) else cloFrom cells r acc
theorem closure_loop (env : Env) (f : Str × NameKind → List (Str × Addr) → Sem (ForInStep (List (Str × Addr))))
    (hf : ∀ n k c, f (n, k) c = if k == .free then (do let a ← cellOf env n; pure (.yield ((n, a) :: c))) else pure (.yield c)) :
    ∀ (names : List (Str × NameKind)) (acc : List (Str × Addr)), (∀ y ∈ names, y.2 = .free → ∃ c, env.cells.lookup y.1 = some c) → forIn names acc f = pure (cloFrom env.cells names acc)
  | [], acc, _ => by rw [List.forIn_nil]; rfl
  | (n, k) :: r, acc, h => by
    rw [List.forIn_cons, hf]
    have ih := fun acc => closure_loop env f hf r acc fun y hy => h y (List.mem_cons_of_mem _ hy)
    unfold cloFrom
    by_cases hk : (k == NameKind.free) = true
    · rw [if_pos hk, if_pos hk]
      obtain ⟨c, hc⟩ := h (n, k) List.mem_cons_self (by simpa using hk)
      have e : cellOf env n = pure c := by unfold cellOf; rw [hc]
      rw [e]
      have e2 : (env.cells.lookup n).getD 0 = c := by rw [hc]; rfl
      rw [e2]
      exact ih _
    · rw [if_neg hk, if_neg hk]
      exact ih _
theorem closure_ok {scope : Scope} {env : Env} (h : ∀ y ∈ scope.names, y.2 = .free → ∃ c, env.cells.lookup y.1 = some c) : closureFor scope env = pure (cloFrom env.cells scope.names []) := by
  simp only [closureFor]
  rw [closure_loop env _ (fun n k c => rfl) scope.names [] h]
  rfl
theorem mem_lookup {α : Type} : ∀ {l : List (Str × α)} {n : Str} {c : α}, (n, c) ∈ l → ∃ c', l.lookup n = some c'
  | (k, v) :: r, n, c, h => by
    rw [List.lookup_cons]
    cases hb : n == k with
    | true => exact ⟨_, rfl⟩
    | false =>
      rcases List.mem_cons.mp h with e | h
      · cases e; simp at hb
      · exact mem_lookup h
theorem cloFrom_mem {cells : List (Str × Addr)} : ∀ {names : List (Str × NameKind)} {acc : List (Str × Addr)} {n : Str} {c : Addr}, (n, c) ∈ cloFrom cells names acc → (n, c) ∈ acc ∨ ((n, .free) ∈ names ∧ c = (cells.lookup n).getD 0)
  | [], _, _, _, h => .inl h
  | (m, k) :: r, acc, n, c, h => by
    unfold cloFrom at h
    split at h
    · rename_i hk
      have hk : k = .free := by simpa using hk
      rcases cloFrom_mem h with h | ⟨h1, h2⟩
      · rcases List.mem_cons.mp h with e | h
        · cases e; exact .inr ⟨hk ▸ List.mem_cons_self, rfl⟩
        · exact .inl h
      · exact .inr ⟨List.mem_cons_of_mem _ h1, h2⟩
    · rcases cloFrom_mem h with h | ⟨h1, h2⟩
      · exact .inl h
      · exact .inr ⟨List.mem_cons_of_mem _ h1, h2⟩
theorem cloFrom_acc {cells : List (Str × Addr)} : ∀ {names : List (Str × NameKind)} {acc : List (Str × Addr)} {p : Str × Addr}, p ∈ acc → p ∈ cloFrom cells names acc
  | [], _, _, h => h
  | (m, k) :: r, acc, p, h => by
    unfold cloFrom
    split
    · exact cloFrom_acc (List.mem_cons_of_mem _ h)
    · exact cloFrom_acc h
theorem cloFrom_has {cells : List (Str × Addr)} : ∀ {names : List (Str × NameKind)} {acc : List (Str × Addr)} {n : Str}, (n, .free) ∈ names → (n, (cells.lookup n).getD 0) ∈ cloFrom cells names acc
  | (m, k) :: r, acc, n, h => by
    unfold cloFrom
    rcases List.mem_cons.mp h with e | h
    · cases e
      exact cloFrom_acc List.mem_cons_self
    · split
      · exact cloFrom_has h
      · exact cloFrom_has h
theorem cells_mem : ∀ {names : List (Str × NameKind)} {h : Heap} {acc : List (Str × Addr)} {x : Str} {c : Addr}, (x, c) ∈ cellsFrom h.objs.size names acc →
    (x, c) ∈ acc ∨ ((x, .cell) ∈ names ∧ h.objs.size ≤ c ∧ CellAt (pushCells h names) c none)
  | [], _, _, _, _, h => .inl h
  | (n, k) :: r, h, acc, x, c, hm => by
    unfold cellsFrom at hm
    unfold pushCells
    split at hm
    · rename_i hk
      rw [if_pos hk]
      have hk : k = .cell := by simpa using hk
      rw [← Heap.size_push h { cls := .type "cell", data := .cell none }] at hm
      rcases cells_mem hm with hm | ⟨h1, h2, h3⟩
      · rcases List.mem_cons.mp hm with e | hm
        · cases e
          exact .inr ⟨hk ▸ List.mem_cons_self, Nat.le_refl _, _, pushCells_keeps r _ _ _ (Heap.get?_push_size _ rfl), rfl⟩
        · exact .inl hm
      · rw [Heap.size_push] at h2
        exact .inr ⟨List.mem_cons_of_mem _ h1, Nat.le_of_succ_le h2, h3⟩
    · rename_i hk
      rw [if_neg hk]
      rcases cells_mem hm with hm | ⟨h1, h2, h3⟩
      · exact .inl hm
      · exact .inr ⟨List.mem_cons_of_mem _ h1, h2, h3⟩
theorem cells_acc : ∀ {names : List (Str × NameKind)} {n : Nat} {acc : List (Str × Addr)} {p : Str × Addr}, p ∈ acc → p ∈ cellsFrom n names acc
  | [], _, _, _, h => h
  | (m, k) :: r, n, acc, p, h => by
    unfold cellsFrom
    split
    · exact cells_acc (List.mem_cons_of_mem _ h)
    · exact cells_acc h
theorem cells_has : ∀ {names : List (Str × NameKind)} {n : Nat} {acc : List (Str × Addr)} {x : Str}, (x, .cell) ∈ names → ∃ c, (x, c) ∈ cellsFrom n names acc
  | (m, k) :: r, n, acc, x, h => by
    unfold cellsFrom
    rcases List.mem_cons.mp h with e | h
    · cases e
      exact ⟨n, cells_acc List.mem_cons_self⟩
    · split
      · exact cells_has h
      · exact cells_has h
theorem cells_inj : ∀ {names : List (Str × NameKind)} {h : Heap} {acc : List (Str × Addr)} {x y : Str} {c : Addr}, (∀ p ∈ acc, p.2 < h.objs.size) → (∀ x y c, (x, c) ∈ acc → (y, c) ∈ acc → x = y) →
    (x, c) ∈ cellsFrom h.objs.size names acc → (y, c) ∈ cellsFrom h.objs.size names acc → x = y
  | [], _, _, _, _, _, _, hi, h1, h2 => hi _ _ _ h1 h2
  | (n, k) :: r, h, acc, x, y, c, hl, hi, h1, h2 => by
    unfold cellsFrom at h1 h2
    split at h1
    · rename_i hk
      rw [if_pos hk] at h2
      rw [← Heap.size_push h { cls := .type "cell", data := .cell none }] at h1 h2
      refine cells_inj (h := h.push _) (fun p hp => ?_) (fun x y c a b => ?_) h1 h2
      · rw [Heap.size_push]
        rcases List.mem_cons.mp hp with rfl | hp
        · exact Nat.lt_succ_self _
        · exact Nat.lt_succ_of_lt (hl p hp)
      · rcases List.mem_cons.mp a with e | a <;> rcases List.mem_cons.mp b with e' | b
        · cases e; cases e'; rfl
        · cases e; exact absurd (hl _ b) (Nat.lt_irrefl _)
        · cases e'; exact absurd (hl _ a) (Nat.lt_irrefl _)
        · exact hi _ _ _ a b
    · rename_i hk
      rw [if_neg hk] at h2
      exact cells_inj hl hi h1 h2
theorem newEnv_comp {M : Model} {A : Around} {E : Value → Shared → Prop} {s : Shared} {scope : Scope} {globals : Addr} {closure : List (Str × Addr)} {qual : Str} {func : Option Addr} {code : Value} {around : Env} {builtins : Addr} {Q : Env → Shared → Prop}
    (h : Q (newEnv scope s.heap.objs.size globals (cellsFrom (s.heap.objs.size + 1) scope.names closure) qual func code (some around) builtins)
      { s with heap := pushCells (s.heap.push { cls := .type "dict", data := .dict #[] }) scope.names }) :
    wpAny M A (newFunctionEnv scope globals closure [] qual func code (some around) builtins) Q E s := by
  simp only [newFunctionEnv, Option.isSome_some, if_true]
  refine wpAny_bind (wpAny_alloc ?_)
  refine wpAny_bind (wpAny_layCells _ (fun n k c => rfl) scope.names closure _ _ ?_)
  rw [show ({ s with heap := s.heap.push { cls := .type "dict", data := .dict #[] } } : Shared).heap.objs.size = s.heap.objs.size + 1 from Heap.size_push ..]
  rw [List.forIn_nil]
  exact wpAny_bind (wpAny_pure (wpAny_pure h))
/-- every name of the written scope, in the scope that runs -/
theorem lookup_relS {sc : Scope} : ∀ {names : List (Str × NameKind)} {x : Str} {k : NameKind},
    (names.map fun (n, k) => if (k == NameKind.free && sc.kind == .function && sc.names.lookup n == some .cell) then (n, NameKind.cell) else (n, k)).lookup x = some k →
    ∃ k', names.lookup x = some k' ∧ (k = k' ∨ (k' = .free ∧ k = .cell))
  | [], _, _, h => by simp at h
  | (n, k₀) :: r, x, k, h => by
    have ih := @lookup_relS sc r x k
    have h' : List.lookup x ((if (k₀ == NameKind.free && sc.kind == .function && sc.names.lookup n == some .cell) = true then (n, NameKind.cell) else (n, k₀)) :: (r.map _)) = some k := h
    cases hx : x == n with
    | true =>
      simp only [List.lookup_cons, hx]
      by_cases hc : (k₀ == NameKind.free && sc.kind == .function && sc.names.lookup n == some .cell) = true
      · rw [if_pos hc] at h'
        simp only [List.lookup_cons, hx] at h'
        cases h'
        simp only [Bool.and_eq_true, beq_iff_eq] at hc
        exact ⟨k₀, rfl, .inr ⟨hc.1.1, rfl⟩⟩
      · rw [if_neg hc] at h'
        simp only [List.lookup_cons, hx] at h'
        cases h'
        exact ⟨_, rfl, .inl rfl⟩
    | false =>
      simp only [List.lookup_cons, hx]
      by_cases hc : (k₀ == NameKind.free && sc.kind == .function && sc.names.lookup n == some .cell) = true
      · rw [if_pos hc] at h'
        simp only [List.lookup_cons, hx] at h'
        exact ih h'
      · rw [if_neg hc] at h'
        simp only [List.lookup_cons, hx] at h'
        exact ih h'
/-- the names of a comprehension's block: its own (with their places in N), or captured -/
structure BlkOk (N : List Str) (sc scope : Scope) (own : List (Str × Nat)) : Prop where
  kind : scope.kind = .function
  uniq : ∀ y ∈ scope.names, scope.names.lookup y.1 = some y.2
  ix : ∀ p ∈ own, N[p.2]? = some p.1
  free : ∀ y ∈ scope.names, y.2 = .free → sc.names.lookup y.1 = some .cell ∨ sc.names.lookup y.1 = some .free
  own : ∀ y ∈ scope.names, y.2 = .local ∨ y.2 = .cell → y.1 ∈ own.map (·.1) ∨ y.1 ∉ N
/-- the slots of the block's own names forgotten -/
def wipe (σ : St) : List Nat → St
  | [] => σ
  | v :: vs => (wipe σ vs).set v none
theorem wipe_length (σ : St) : ∀ vs : List Nat, (wipe σ vs).length = σ.length
  | [] => rfl
  | v :: vs => by unfold wipe; rw [List.length_set, wipe_length σ vs]
theorem wipe_some {σ : St} {i : Nat} {x : V} : ∀ {vs : List Nat}, (wipe σ vs)[i]? = some (some x) → σ[i]? = some (some x) ∧ i ∉ vs
  | [], h => ⟨h, by simp⟩
  | v :: vs, h => by
    unfold wipe at h
    by_cases hi : v = i
    · subst hi
      by_cases hv : v < (wipe σ vs).length
      · rw [List.getElem?_set_self hv] at h; cases h
      · rw [List.getElem?_eq_none (by simpa using hv)] at h; cases h
    · rw [List.getElem?_set_ne hi] at h
      obtain ⟨h1, h2⟩ := wipe_some h
      exact ⟨h1, by simp only [List.mem_cons, not_or]; exact ⟨fun e => hi e.symm, h2⟩⟩
/-- the context of a block that starts at s, its iterator's objects at fp -/
abbrev Cx.blk (X : Cx) (s : Shared) (H : Hp) (scope : Scope) (cenv : Env) (fp : List Addr) : Cx := { X with s_0 := s, H_0 := H, env := cenv, outer := X.stack, ex := fp, fn := fun x => scope.names.lookup x == some .cell, pn := [], xe := fun _ _ => False }
section
variable {X : Cx} {pins : List (Addr × Obj)} {σ : St} {H : Hp} {s : Shared}
theorem block_start {scope : Scope} {own : List (Str × Nat)} {fp : List Addr} (I : Inv X pins σ H s) (ok : BlkOk X.N X.env.scope scope own) (hN : X.N.Nodup) (hfp : ∀ b ∈ fp, FpOk X pins H b ∧ b < s.heap.objs.size) :
    Inv (X.blk s H scope (compEnvC scope (cellsFrom (s.heap.objs.size + 1) scope.names (cloFrom X.env.cells scope.names [])) s.heap.objs.size X.env) fp) [] (wipe σ (own.map (·.2))) H { s with heap := pushCells (s.heap.push { cls := .type "dict", data := .dict #[] }) scope.names } := by
  have hfree : ∀ y ∈ scope.names, y.2 = .free → ∃ c, X.env.cells.lookup y.1 = some c := fun y hy e => by
    rcases ok.free y hy e with k | k
    · exact I.ok.has _ (.inl k)
    · exact I.ok.has _ (.inr k)
  generalize hcenv : compEnvC scope (cellsFrom (s.heap.objs.size + 1) scope.names (cloFrom X.env.cells scope.names [])) s.heap.objs.size X.env = cenv
  have kp : ∀ b o, s.heap.get? b = some o → (pushCells (s.heap.push { cls := .type "dict", data := .dict #[] }) scope.names).get? b = some o := fun b o e => pushCells_keeps _ _ _ _ (Heap.get?_push_of_some _ e)
  have hL : cenv.locals = s.heap.objs.size := by rw [← hcenv]; rfl
  have hcl : cenv.cells = cellsFrom (s.heap.objs.size + 1) scope.names (cloFrom X.env.cells scope.names []) := by rw [← hcenv]; rfl
  have hsc : cenv.scope = relS scope X.env.scope := by rw [← hcenv]; rfl
  rw [← Heap.size_push s.heap { cls := .type "dict", data := .dict #[] }] at hcl
  have cm : ∀ {y c}, (y, c) ∈ cloFrom X.env.cells scope.names [] → X.env.cells.lookup y = some c ∧ c < s.heap.objs.size := fun {y c} hm => by
    rcases cloFrom_mem hm with hm | ⟨h1, rfl⟩
    · cases hm
    · obtain ⟨c, hc⟩ := hfree _ h1 rfl
      rw [hc]
      obtain ⟨w, z⟩ := I.cell _ _ hc
      exact ⟨rfl, z.lt⟩
  have mem : ∀ {y c}, cenv.cells.lookup y = some c → (X.env.cells.lookup y = some c ∧ c < s.heap.objs.size) ∨ (s.heap.objs.size + 1 ≤ c ∧ CellAt (pushCells (s.heap.push { cls := .type "dict", data := .dict #[] }) scope.names) c none) := fun {y c} e => by
    rw [hcl] at e
    rcases cells_mem (PySem.mem_of_lookup e) with hm | ⟨_, h2, h3⟩
    · exact .inl (cm hm)
    · rw [Heap.size_push] at h2; exact .inr ⟨h2, h3⟩
  have look : ∀ {y}, scope.names.lookup y = some .free → ∃ c, cenv.cells.lookup y = some c ∧ X.env.cells.lookup y = some c := fun {y} hl => by
    have hy : (y, NameKind.free) ∈ scope.names := PySem.mem_of_lookup hl
    obtain ⟨c', e'⟩ := mem_lookup (cells_acc (names := scope.names) (n := (s.heap.push { cls := .type "dict", data := .dict #[] }).objs.size) (cloFrom_has (cells := X.env.cells) (acc := []) hy))
    rw [← hcl] at e'
    refine ⟨c', e', ?_⟩
    rw [hcl] at e'
    rcases cells_mem (PySem.mem_of_lookup e') with hm | ⟨h1, _, _⟩
    · exact (cm hm).1
    · have := ok.uniq _ h1
      rw [hl] at this; cases this
  have okB : (X.blk s H scope cenv fp).Ok := by
    refine ⟨I.ok.mod, by show cenv.scope.kind = _; rw [hsc]; exact ok.kind, by show cenv.globals = _; rw [← hcenv]; exact I.ok.glob, by show cenv.builtins = _; rw [← hcenv]; exact I.ok.blt, by show s.heap.objs.size ≤ cenv.locals; rw [hL]; exact Nat.le_refl _,
      fun y z c e1 e2 => ?_, fun y hy => ?_, fun y c z e => ?_, I.ok.hd, I.ok.frames, .inl rfl, fun b hb => ⟨?_, fun y c e z => ?_⟩, I.bs, Nat.le_trans I.ok.bsz I.sz, fun b o e hb => ?_, fun b hb z => ?_, I.stack, I.stkFree⟩
    · have e1 : cenv.cells.lookup y = some c := e1
      have e2 : cenv.cells.lookup z = some c := e2
      rw [hcl] at e1 e2
      refine cells_inj (fun p hp => ?_) (fun y z c a b => I.ok.inj y z c (cm a).1 (cm b).1) (PySem.mem_of_lookup e1) (PySem.mem_of_lookup e2)
      rw [Heap.size_push]
      exact Nat.lt_succ_of_lt (cm (y := p.1) (c := p.2) hp).2
    · show ∃ c, cenv.cells.lookup y = some c
      have key : ∀ k, cenv.kindOf y = some k → (k = .cell ∨ k = .free) → ∃ c, cenv.cells.lookup y = some c := fun k hk hk' => by
        unfold Env.kindOf at hk
        rw [hsc] at hk
        obtain ⟨k', e, r⟩ := lookup_relS hk
        have : k' = .cell ∨ k' = .free := by
          rcases r with rfl | ⟨rfl, _⟩
          · exact hk'
          · exact .inr rfl
        rcases this with rfl | rfl
        · obtain ⟨c, hm⟩ := cells_has (n := (s.heap.push { cls := .type "dict", data := .dict #[] }).objs.size) (acc := cloFrom X.env.cells scope.names []) (PySem.mem_of_lookup e)
          obtain ⟨c', e'⟩ := mem_lookup hm
          exact ⟨c', by rw [hcl]; exact e'⟩
        · obtain ⟨c, h1, _⟩ := look e
          exact ⟨c, h1⟩
      rcases hy with hy | hy
      · exact key _ hy (.inl rfl)
      · exact key _ hy (.inr rfl)
    · have z : (scope.names.lookup y == some NameKind.cell) = true := z
      have z : scope.names.lookup y = some .cell := by simpa using z
      have e : cenv.cells.lookup y = some c := e
      rw [hcl] at e
      rcases cells_mem (PySem.mem_of_lookup e) with hm | ⟨_, h2, _⟩
      · rcases cloFrom_mem hm with hm | ⟨h1, _⟩
        · cases hm
        · have q := ok.uniq _ h1
          rw [z] at q; cases q
      · rw [Heap.size_push] at h2
        exact Nat.le_of_succ_le h2
    · show b ≠ cenv.locals
      rw [hL]; exact Nat.ne_of_lt (hfp b hb).2
    · have e : cenv.cells.lookup y = some c := e
      rcases mem e with ⟨h1, _⟩ | ⟨h1, _⟩
      · exact (hfp b hb).1.2.2.2.2.1 y c h1 z
      · have h2 : s.heap.objs.size + 1 ≤ b := by rw [← z]; exact h1
        exact absurd (Nat.lt_of_lt_of_le (hfp b hb).2 (Nat.le_of_succ_le h2)) (Nat.lt_irrefl _)
    · rcases (hfp b hb).1.2.2.2.1 with z | z
      · exact I.ok.noex b o e z
      · exact absurd (Nat.lt_of_lt_of_le (Heap.lt_size e) (Nat.le_trans I.ok.bsz z)) (Nat.lt_irrefl _)
    · rcases List.mem_cons.mp (I.stkSub b z) with z | z
      · exact (hfp b hb).1.2.1 z
      · exact (hfp b hb).1.2.2.1 z
  refine ⟨okB, rfl, I.bare, Un.kept kp, ⟨fun _ => none, ?_, fun i y av e1 e2 e3 => ?_⟩, fun y c e => ?_, ?_, fun y c e => ?_, fun p hp => ?_, I.hok.kept kp, by rw [wipe_length]; exact I.len⟩
  · show Heap.Ns _ cenv.locals _
    rw [hL]
    exact Heap.Ns.keeps (Heap.Ns.new ..) fun b o e => pushCells_keeps _ _ _ _ e
  · obtain ⟨e2, hne⟩ := wipe_some e2
    have hfr : scope.names.lookup y = some .free ∧ (cenv.kindOf y = some .cell ∨ cenv.kindOf y = some .free) := by
      have key : ∀ k, cenv.scope.names.lookup y = some k → k = .local ∨ k = .cell ∨ k = .free → scope.names.lookup y = some .free ∧ (cenv.kindOf y = some .cell ∨ cenv.kindOf y = some .free) := fun k hk hk' => by
        have hk0 := hk
        rw [hsc] at hk
        obtain ⟨k', e, r⟩ := lookup_relS hk
        have no : ¬ (k' = .local ∨ k' = .cell) := fun hh => by
          rcases ok.own _ (PySem.mem_of_lookup e) hh with e' | e'
          · obtain ⟨p, hp, hpy⟩ := List.mem_map.mp e'
            have e3 := ok.ix p hp
            have : p.1 = y := hpy
            rw [this] at e3
            exact hne (List.mem_map.mpr ⟨p, hp, nodup_ix hN e3 e1⟩)
          · exact e' (List.mem_of_getElem? e1)
        rcases r with rfl | ⟨rfl, rfl⟩
        · rcases hk' with rfl | rfl | rfl
          · exact absurd (.inl rfl) no
          · exact absurd (.inr rfl) no
          · exact ⟨e, .inr hk0⟩
        · exact ⟨e, .inl hk0⟩
      have e3 : Vis cenv.scope y := e3
      rcases e3 with e3 | e3 | e3
      · exact key _ e3 (.inl rfl)
      · exact key _ e3 (.inr (.inl rfl))
      · exact key _ e3 (.inr (.inr rfl))
    obtain ⟨m, hn, hl⟩ := I.loc
    have hvis : Vis X.env.scope y := (ok.free _ (PySem.mem_of_lookup hfr.1) rfl).elim (fun k => .inr (.inl k)) (fun k => .inr (.inr k))
    obtain ⟨w, r, q⟩ := hl i y av e1 e2 hvis
    refine ⟨w, r, .inr ⟨hfr.2, ?_⟩⟩
    obtain ⟨c, h1, h2⟩ := look hfr.1
    rcases q with ⟨k, _⟩ | ⟨_, c', e', z⟩
    · have k : X.env.scope.names.lookup y = some .local := k
      rcases ok.free _ (PySem.mem_of_lookup hfr.1) rfl with k' | k' <;> rw [show X.env.scope.names.lookup y = _ from k'] at k <;> cases k
    · rw [h2] at e'; cases e'
      exact ⟨c, h1, z.keeps kp⟩
  · have e : cenv.cells.lookup y = some c := e
    rcases mem e with ⟨h1, _⟩ | ⟨_, z⟩
    · obtain ⟨w, z⟩ := I.cell y c h1
      exact ⟨w, z.keeps kp⟩
    · exact ⟨_, z⟩
  · show H cenv.locals = none
    rw [hL]; exact I.hok.fresh (Nat.le_refl _)
  · have e : cenv.cells.lookup y = some c := e
    rcases mem e with ⟨h1, _⟩ | ⟨h1, _⟩
    · exact I.freeC y c h1
    · exact I.hok.fresh (Nat.le_of_succ_le h1)
  · exact absurd (show p ∈ ([] : List (Addr × Obj)) ++ [] from hp) (by simp)
/-- an item appended to a tracked list -/
theorem app_ok {E : Value → Shared → Prop} {D : Addr} {xs : List V} {y : V} {v : Value} {Q : Value → Shared → Prop} (I : Inv X pins σ H s) (hD : H D = some (.lst xs)) (hz : xs.length < sizeLine) (r : RelV y v)
    (h : ∀ s', Inv X pins σ (upd H D (.lst (xs ++ [y]))) s' → Q .none s') : wpAny (model X.prog X.w) X.A (call (.builtin "list.append") [.ref D, v]) Q E s := by
  obtain ⟨hz', its, n, ri, e⟩ := I.hok D _ hD
  have hl := ri.length
  refine append_at (hsz := by rw [List.size_toArray]; omega) e fun h' sb ho' => ?_
  refine h { s with heap := h' } (I.write (t' := s.toks) (by rw [hD]; trivial) (.inl rfl) (fun b u hb q => (sb.2 b hb).trans q) ⟨_, ho'⟩ ⟨by rw [List.length_append]; exact hz, its ++ [v], n + 1, ri.append (.cons r .nil), ?_⟩)
  rw [ho']
  simp
/-- a clause's tests -/
def PTs (X : Cx) (ifs : List Expr) (t : TT) : Prop :=
  ∀ (pins : List (Addr × Obj)) (s : Shared) (σ : St) (H : Hp) (Q : Bool → Hp → Prop), Inv X pins σ H s → t σ H Q →
    wpAny (model X.prog X.w) X.A (forIn ifs true fun c r => if r = true then do let ok ← isTrue c X.env (eval c X.env); pure (ForInStep.yield ok) else pure (ForInStep.yield r)) (TP X pins σ Q) X.xe s
def tYes : TT := fun _ H Q => Q true H
theorem pts_nil : PTs X [] tYes := fun _ _ _ H _ I h => wpAny_tests_nil ⟨H, I, h⟩
theorem pts_one {c : Expr} {t : TT} (h : PT X c t) : PTs X [c] t := fun pins s σ H Q I hw => wpAny_tests_one (h pins s σ H Q I hw)
end
theorem thnF {α : Type} {t : Sem α} {Q Q' : α → Shared → Prop} {M : Model} {A : Around} {E : Value → Shared → Prop} {s : Shared} (h : wpAny M A t Q (fun _ _ => False) s) (hQ : ∀ a s, Q a s → Q' a s) : wpAny M A t Q' E s := wpAny_mono h hQ fun _ _ z => False.elim z
/-- the loop of a list comprehension's block, the target of any form (codeAny_compLoop_tests asks a target that no tuple goes to; statement and proof follow it, PyProof/CompMap.lean:41-61, with the step letOwnedTupleGo kept) -/
theorem compLoop_any {prog : Program} {w : World} {A : Around} {R : Result → Shared → Prop} {s : Shared} {elt target iter : Expr} {ifs : List Expr} {scope : Scope} {pos : Pos} {it acc : Value} {env : Env} (I : Nat → Shared → Prop)
    (turn : ∀ n s, I n s → wpAny (model prog w) A (pyNext it) (fun r s₁ => match r with
      | none => R (.ok .next) s₁
      | some v => wpAny (model prog w) A (letOwnedTupleGo target it v) (fun _ s₁' => wpAny (model prog w) A (assign target env v) (fun _ s₂ =>
          wpAny (model prog w) A (forIn ifs true fun c r => if r = true then do let ok ← isTrue c env (eval c env); pure (ForInStep.yield ok) else pure (ForInStep.yield r)) (fun ok s₃ =>
            if ok = true then wpAny (model prog w) A (eval elt env) (fun x s₄ =>
              wpAny (model prog w) A (call (.builtin "list.append") [acc, x]) (fun _ s₅ => ∃ m, m < n ∧ I m s₅) (notedBy (model prog w) A env fun e s' => R (.error e) s') s₄) (notedBy (model prog w) A env fun e s' => R (.error e) s') s₃
            else ∃ m, m < n ∧ I m s₃) (notedBy (model prog w) A env fun e s' => R (.error e) s') s₂) (notedBy (model prog w) A env fun e s' => R (.error e) s') s₁') (notedBy (model prog w) A env fun e s' => R (.error e) s') s₁) (notedBy (model prog w) A env fun e s' => R (.error e) s') s)
    (n : Nat) (h : I n s) :
    codeAny (model prog w) A (.compLoop (.ListComp elt [⟨target, iter, ifs, 0⟩] scope pos) 0 it acc env) R s := by
  refine codeAny_loop rfl I (fun n s hI => ?_) n h
  show wpAny _ A ((compTurn (.ListComp elt [⟨target, iter, ifs, 0⟩] scope pos) 0 it acc env).onRaise (fun x => do noteFrame x env; theTreesLotGoes x)) _ _ s
  refine wpAny_noted ?_
  rw [compTurn_list]
  refine wpAny_bind (wpAny_standAt (wpAny_bind (wpAny_mono (turn n s hI) (fun r s₁ h₁ => ?_) fun _ _ h' => h')))
  cases r with
  | none => exact wpAny_pure h₁
  | some v =>
    refine wpAny_bind (wpAny_mono h₁ (fun _ s₁' h₁' => ?_) fun _ _ h' => h')
    refine wpAny_bind (wpAny_mono h₁' (fun _ s₂ h₂ => wpAny_bind (wpAny_mono h₂ (fun ok s₃ h₃ => ?_) fun _ _ h' => h')) fun _ _ h' => h')
    cases ok with
    | false => exact wpAny_pure ⟨rfl, h₃⟩
    | true =>
      exact wpAny_bind (wpAny_bind (wpAny_mono h₃ (fun x s₄ h₄ => wpAny_bind (wpAny_mono h₄ (fun _ s₅ h₅ => wpAny_pure (wpAny_pure ⟨rfl, h₅⟩)) fun _ _ h' => h')) fun _ _ h' => h'))
section
variable {X : Cx}
/-- [elt for target in iter if ..]: D the new list; W by the turn and a measure, Nx what a turn is to reach -/
def tLc (wi : TI) (g : TG) (tt : TT) (te : TE) (vs : List Nat) : TE := fun σ H Q => wi σ H fun J H1 => ∀ D, H1 D = none → ∃ W : Nat → Nat → Hp → Prop, (∃ m, W 0 m (upd H1 D (.lst []))) ∧ ∀ i m H, W i m H →
  (J.stop i H ∧ Q (.ref D) H) ∨ (J.go i H ∧ ∃ Nx : Hp → Prop, (∀ H', Nx H' → ∃ m', m' < m ∧ W (i + 1) m' H') ∧ ∀ x H', J.yld i H x H' → g x (wipe σ vs) H' fun σ2 H2 => wipe σ2 vs = wipe σ vs ∧ tt σ2 H2 fun b H3 =>
    if b = true then te σ2 H3 fun y H4 => ∃ acc, H4 D = some (.lst acc) ∧ acc.length < sizeLine ∧ Nx (upd H4 D (.lst (acc ++ [y]))) else Nx H3)
theorem lc_core {pins : List (Addr × Obj)} {s : Shared} {σ : St} {H : Hp} {Q : VK} {elt tg iter : Expr} {ifs : List Expr} {scope : Scope} {own : List (Str × Nat)} {pos pos' : Pos} {wi : TI} {g : TG} {tt : TT} {te : TE} {use : Option (Value → Sem Unit)} {Qf : Value → Shared → Prop}
    (hc : X.calm = true) (hN : X.N.Nodup) (I : Inv X pins σ H s) (hi : PI X tg iter wi) (ok : BlkOk X.N X.env.scope scope own)
    (hg : ∀ (s : Shared) (H : Hp) (C : Addr) (cl : List (Str × Addr)) (fp : List Addr), PG (X.blk s H scope (compEnvC scope cl C X.env) fp) tg g) (ht : ∀ (s : Shared) (H : Hp) (C : Addr) (cl : List (Str × Addr)) (fp : List Addr), PTs (X.blk s H scope (compEnvC scope cl C X.env) fp) ifs tt)
    (he : ∀ (s : Shared) (H : Hp) (C : Addr) (cl : List (Str × Addr)) (fp : List Addr), PE (X.blk s H scope (compEnvC scope cl C X.env) fp) elt te) (hs : ∀ x, foldedSetIterable iter X.env x = pure x)
    (h : tLc wi g tt te (own.map (·.2)) σ H Q)
    (hRR : ∀ D C s' m H', Inv X pins σ H' s' → Q (.ref D) H' → s'.heap.Ns C m → FpOk X pins H' C → compPost (model X.prog X.w) X.A X.xe use Qf (.ref D) C (.ok .next) s') :
    wpAny (model X.prog X.w) X.A (comprehension (.ListComp elt [⟨tg, iter, ifs, 0⟩] scope pos) scope X.env pos' (newList []) false (eval iter X.env) use) Qf X.xe s := by
  have hfree : ∀ y ∈ scope.names, y.2 = .free → ∃ c, X.env.cells.lookup y.1 = some c := fun y hy e => by
    rcases ok.free y hy e with k | k
    · exact I.ok.has _ (.inl k)
    · exact I.ok.has _ (.inr k)
  refine wpAny_comprehension_free (use := use) rfl hs (closure_ok hfree) ok.kind (fun y hy e => by rw [ok.uniq y hy, e])
    (thn (hi pins s σ H _ I h) fun xv s1 hx => thn hx fun itv s2 h2 => ?_)
  obtain ⟨it, fp, tn, J, H2, e, I2, T, st2, f2, q⟩ := h2
  subst e
  refine wpAny_newObj_type (newEnv_comp ?_) (by show 0 ≤ sizeLine; decide)
  generalize hD : s2.heap.objs.size = D
  have hDn : H2 D = none := I2.hok.fresh (Nat.le_of_eq hD)
  obtain ⟨W, ⟨m0, w0⟩, turn⟩ := q D hDn
  -- the new list
  generalize hs3 : ({ s2 with heap := s2.heap.push { cls := .type "list", data := .seq ([] : List Value).toArray } } : Shared) = s3
  have I3 : Inv X pins σ (upd H2 D (.lst [])) s3 := by
    rw [← hs3]
    refine I2.laid (t' := s2.toks) (fun b o e => Heap.get?_push_of_some _ e) (Nat.le_of_eq hD) ⟨Nat.zero_le _, [], 0, .nil, ?_⟩
    rw [← hD]
    exact Heap.get?_push_size _ rfl
  have h3 : s3.heap = s2.heap.push { cls := .type "list", data := .seq ([] : List Value).toArray } := by rw [← hs3]
  have sz : ∀ b ∈ fp, b < s2.heap.objs.size := fun b hb => by
    obtain ⟨o, e, _⟩ := T.obj _ _ st2 b hb
    exact Heap.lt_size e
  have f3 : ∀ b ∈ fp, FpOk X pins (upd H2 D (.lst [])) b ∧ b < s3.heap.objs.size := fun b hb => by
    have hlt := sz b hb
    refine ⟨⟨?_, (f2 b hb).2⟩, by rw [h3, Heap.size_push]; exact Nat.lt_succ_of_lt hlt⟩
    rw [upd_ne (by rw [← hD]; exact Nat.ne_of_lt hlt)]
    exact (f2 b hb).1
  have st3 : tn 0 s3.heap := T.keep _ _ _ st2 fun b _ o e => by rw [h3]; exact Heap.get?_push_of_some _ e
  have I4 := block_start I3 ok hN f3
  have pg := hg s3 (upd H2 D (.lst [])) s3.heap.objs.size (cellsFrom (s3.heap.objs.size + 1) scope.names (cloFrom X.env.cells scope.names [])) fp
  have pt := ht s3 (upd H2 D (.lst [])) s3.heap.objs.size (cellsFrom (s3.heap.objs.size + 1) scope.names (cloFrom X.env.cells scope.names [])) fp
  have pe := he s3 (upd H2 D (.lst [])) s3.heap.objs.size (cellsFrom (s3.heap.objs.size + 1) scope.names (cloFrom X.env.cells scope.names [])) fp
  show codeAny _ _ (.compStart (.ListComp elt [⟨tg, iter, ifs, 0⟩] scope pos) 0 (.ref it) (.ref D) (compEnvC scope (cellsFrom (s3.heap.objs.size + 1) scope.names (cloFrom X.env.cells scope.names [])) s3.heap.objs.size X.env)) (compPost (model X.prog X.w) X.A X.xe use Qf (.ref D) s3.heap.objs.size) { s3 with heap := pushCells (s3.heap.push { cls := .type "dict", data := .dict #[] }) scope.names }
  have nfp : ∀ b ∈ fp, (upd H2 D (.lst [])) b = none := fun b hb => (f3 b hb).1.1
  generalize hce : compEnvC scope (cellsFrom (s3.heap.objs.size + 1) scope.names (cloFrom X.env.cells scope.names [])) s3.heap.objs.size X.env = ce at I4 pg pt pe ⊢
  have cL : ce.locals = s3.heap.objs.size := by subst hce; rfl
  generalize hH3 : upd H2 D (.lst []) = H3 at I3 I4 pg pt pe w0 nfp f3
  generalize hs4 : ({ s3 with heap := pushCells (s3.heap.push { cls := .type "dict", data := .dict #[] }) scope.names } : Shared) = s4 at I4 ⊢
  have st4 : tn 0 s4.heap := T.keep _ _ _ st3 fun b _ o e => by rw [← hs4]; exact pushCells_keeps _ _ _ _ (Heap.get?_push_of_some _ e)
  have stat : ∀ {σ' : St} {H' : Hp} {s' : Shared}, Inv (X.blk s3 H3 scope ce fp) [] σ' H' s' → (∀ b ∈ fp, H' b = none) → ∀ b ∈ fp, FpOk (X.blk s3 H3 scope ce fp) [] H' b := fun {σ' H' s'} I' hn b hb =>
    ⟨hn b hb, (I'.ok.exf b hb).1, I'.ok.exfs b hb, .inl hb, fun x c e => (I'.ok.exf b hb).2 x c e, fun p hp => absurd (show p ∈ ([] : List (Addr × Obj)) ++ [] from hp) (by simp)⟩
  have loop : codeAny (model X.prog X.w) X.A (.compLoop (.ListComp elt [⟨tg, iter, ifs, 0⟩] scope pos) 0 (.ref it) (.ref D) ce) (compPost (model X.prog X.w) X.A X.xe use Qf (.ref D) s3.heap.objs.size) s4 := by
    refine compLoop_any (fun n s' => ∃ i H', Inv (X.blk s3 H3 scope ce fp) [] (wipe σ (own.map (·.2))) H' s' ∧ tn i s'.heap ∧ (∀ b ∈ fp, H' b = none) ∧ W i n H') ?_ m0 ⟨0, H3, I4, st4, nfp, w0⟩
    rintro n s5 ⟨i, H5, I5, st5, n5, w5⟩
    rcases turn i n H5 w5 with ⟨stop, qq⟩ | ⟨go, Nx, hNx, step⟩
    · have td := T.done (X.blk s3 H3 scope ce fp) rfl rfl rfl hc i [] s5 _ H5 (fun _ _ => False) I5 (stat I5 n5) st5 stop
      refine thnF td fun r s6 ⟨hr, I6⟩ => ?_
      subst hr
      -- back in the def's context
      have I7 : Inv X pins σ H5 s6 := I3.call' (ch := fp) I6.os I6.base I6.hok I6.bare fun b hb => ⟨(f3 b hb).1.2.2.2.1, (f3 b hb).1.2.1, (f3 b hb).1.2.2.2.2.1, (f3 b hb).1.2.2.2.2.2⟩
      have nC : H5 s3.heap.objs.size = none := by
        have z : H5 ce.locals = none := I6.free
        rw [cL] at z
        exact z
      obtain ⟨m, hn, _⟩ := I6.loc
      have hn : s6.heap.Ns ce.locals m := hn
      rw [cL] at hn
      exact hRR D s3.heap.objs.size s6 m H5 I7 qq hn (I3.fpOk (Nat.le_refl _) nC)
    · have ti := T.item (X.blk s3 H3 scope ce fp) rfl rfl rfl hc i [] s5 _ H5 (fun _ _ => False) I5 (stat I5 n5) st5 go
      refine thnF ti fun r s6 ⟨u, hr, h6⟩ => ?_
      subst hr
      refine thnF h6 fun _ s7 ⟨x, H7, I7, r7, y7, st7, n7⟩ => ?_
      have I7' := I7.pinned (stat I7 n7) (T.obj _ _ st7)
      refine thnF (pg _ s7 _ H7 x u _ I7' r7 (step x H7 y7)) fun _ s8 ⟨σ8, H8, I8, hw8, q8⟩ => ?_
      refine thnF (pt _ s8 σ8 H8 _ I8 q8) fun b s9 ⟨H9, I9, q9⟩ => ?_
      -- the turn's end
      have fin : ∀ {s' : Shared} {H' : Hp}, Inv (X.blk s3 H3 scope ce fp) ([] ++ pinsAt fp s7.heap) σ8 H' s' → Nx H' → ∃ m, m < n ∧ ∃ i H', Inv (X.blk s3 H3 scope ce fp) [] (wipe σ (own.map (·.2))) H' s' ∧ tn i s'.heap ∧ (∀ b ∈ fp, H' b = none) ∧ W i m H' := fun {s' H'} I' nx => by
        obtain ⟨m', hm, w'⟩ := hNx H' nx
        have pin' : ∀ b ∈ fp, ∀ o, s7.heap.get? b = some o → s'.heap.get? b = some o ∧ H' b = none := fun b hb o e =>
          let z := I'.pin (b, o) (List.mem_append_right _ (List.mem_append_right _ (mem_pinsAt hb e)))
          ⟨z.1, z.2.1⟩
        have hl : (wipe σ (own.map (·.2))).length = σ8.length := by rw [← hw8, wipe_length]
        refine ⟨m', hm, i + 1, H', (I'.unpinned (pins := [])).weak hl (fun j v e => ?_), T.keep _ _ _ st7 fun b hb o e => (pin' b hb o e).1, fun b hb => ?_, w'⟩
        · rw [← hw8] at e
          exact (wipe_some e).1
        · obtain ⟨o, e, _⟩ := T.obj _ _ st7 b hb
          exact (pin' b hb o e).2
      cases b with
      | false =>
        simp only [Bool.false_eq_true, if_false] at q9 ⊢
        exact fin I9 q9
      | true =>
        simp only [if_true] at q9 ⊢
        refine thnF (pe _ s9 σ8 H9 _ I9 q9) fun z s10 ⟨yv, H10, I10, r10, acc, hD10, hz10, nx⟩ => ?_
        exact app_ok (X := X.blk s3 H3 scope ce fp) I10 hD10 hz10 r10 fun s11 I11 => fin I11 nx
  exact codeAny_compStart_list loop (T.self X.A 0 _ _ _ st4 loop)
/-- as a value -/
theorem pe_lc {elt tg iter : Expr} {ifs : List Expr} {scope : Scope} {own : List (Str × Nat)} {pos : Pos} {wi : TI} {g : TG} {tt : TT} {te : TE} (hc : X.calm = true) (hN : X.N.Nodup) (hi : PI X tg iter wi) (ok : BlkOk X.N X.env.scope scope own)
    (hg : ∀ (s : Shared) (H : Hp) (C : Addr) (cl : List (Str × Addr)) (fp : List Addr), PG (X.blk s H scope (compEnvC scope cl C X.env) fp) tg g) (ht : ∀ (s : Shared) (H : Hp) (C : Addr) (cl : List (Str × Addr)) (fp : List Addr), PTs (X.blk s H scope (compEnvC scope cl C X.env) fp) ifs tt)
    (he : ∀ (s : Shared) (H : Hp) (C : Addr) (cl : List (Str × Addr)) (fp : List Addr), PE (X.blk s H scope (compEnvC scope cl C X.env) fp) elt te) (hs : ∀ x, foldedSetIterable iter X.env x = pure x := by intro _; rfl) :
    PE X (.ListComp elt [⟨tg, iter, ifs, 0⟩] scope pos) (tLc wi g tt te (own.map (·.2))) := by
  intro pins s σ H Q I h
  rw [eval_ListComp]
  refine lc_core hc hN I hi ok hg ht he hs h fun D C s' m H' I' q hn f => ⟨m, hn, fun h'' sb => ?_⟩
  obtain ⟨f0, f1, f2, f3, f4, f5⟩ := f
  exact ⟨.ref D, H', I'.turned (t' := s'.toks) (fun b o hb e => (sb.2 b hb).trans e) f0 f1 f3 f4 f5, rfl, q⟩
end
/-- over a range: Pv by the turn and the heap (the new list at D within) -/
theorem lc_range {lo : Int} {n : Nat} {g : TG} {tt : TT} {te : TE} {vs : List Nat} {σ : St} {H1 : Hp} {D : Addr} {Qd : Hp → Prop} (Pv : Nat → Hp → Prop) (h0 : Pv 0 (upd H1 D (.lst [])))
    (hs : ∀ i H, i < n → Pv i H → g (.int (lo + i)) (wipe σ vs) H fun σ2 H2 => wipe σ2 vs = wipe σ vs ∧ tt σ2 H2 fun b H3 =>
      if b = true then te σ2 H3 fun y H4 => ∃ acc, H4 D = some (.lst acc) ∧ acc.length < sizeLine ∧ Pv (i + 1) (upd H4 D (.lst (acc ++ [y]))) else Pv (i + 1) H3) (hd : ∀ H, Pv n H → Qd H) :
    ∃ W : Nat → Nat → Hp → Prop, (∃ m, W 0 m (upd H1 D (.lst []))) ∧ ∀ i m H, W i m H →
      ((Itr lo n).stop i H ∧ Qd H) ∨ ((Itr lo n).go i H ∧ ∃ Nx : Hp → Prop, (∀ H', Nx H' → ∃ m', m' < m ∧ W (i + 1) m' H') ∧ ∀ x H', (Itr lo n).yld i H x H' → g x (wipe σ vs) H' fun σ2 H2 => wipe σ2 vs = wipe σ vs ∧ tt σ2 H2 fun b H3 =>
        if b = true then te σ2 H3 fun y H4 => ∃ acc, H4 D = some (.lst acc) ∧ acc.length < sizeLine ∧ Nx (upd H4 D (.lst (acc ++ [y]))) else Nx H3) := by
  refine ⟨fun i m H => m = n - i ∧ i ≤ n ∧ Pv i H, ⟨n, by simp, Nat.zero_le _, h0⟩, ?_⟩
  rintro i m H ⟨rfl, hi, p⟩
  by_cases hlt : i < n
  · refine .inr ⟨hlt, Pv (i + 1), fun H' p' => ⟨n - (i + 1), by omega, rfl, hlt, p'⟩, fun x H' y => ?_⟩
    obtain ⟨e, y⟩ := y
    subst e y
    exact hs i _ hlt p
  · have e : i = n := by omega
    subst e
    exact .inl ⟨Nat.le_refl _, hd H p⟩
/-- over a list that the block leaves as it is -/
theorem lc_list {K : PySem.W.Frag} {a : Addr} {xs : List V} {g : TG} {tt : TT} {te : TE} {vs : List Nat} {σ : St} {H1 : Hp} {D : Addr} {Qd : Hp → Prop} (Pv : Nat → Hp → Prop) (h0 : Pv 0 (upd H1 D (.lst []))) (hl : ∀ i H, i ≤ xs.length → Pv i H → SqL K H a xs)
    (hs : ∀ i x H, xs[i]? = some x → Pv i H → g x (wipe σ vs) H fun σ2 H2 => wipe σ2 vs = wipe σ vs ∧ tt σ2 H2 fun b H3 =>
      if b = true then te σ2 H3 fun y H4 => ∃ acc, H4 D = some (.lst acc) ∧ acc.length < sizeLine ∧ Pv (i + 1) (upd H4 D (.lst (acc ++ [y]))) else Pv (i + 1) H3) (hd : ∀ H, Pv xs.length H → Qd H) :
    ∃ W : Nat → Nat → Hp → Prop, (∃ m, W 0 m (upd H1 D (.lst []))) ∧ ∀ i m H, W i m H →
      ((Itl K a).stop i H ∧ Qd H) ∨ ((Itl K a).go i H ∧ ∃ Nx : Hp → Prop, (∀ H', Nx H' → ∃ m', m' < m ∧ W (i + 1) m' H') ∧ ∀ x H', (Itl K a).yld i H x H' → g x (wipe σ vs) H' fun σ2 H2 => wipe σ2 vs = wipe σ vs ∧ tt σ2 H2 fun b H3 =>
        if b = true then te σ2 H3 fun y H4 => ∃ acc, H4 D = some (.lst acc) ∧ acc.length < sizeLine ∧ Nx (upd H4 D (.lst (acc ++ [y]))) else Nx H3) := by
  refine ⟨fun i m H => m = xs.length - i ∧ i ≤ xs.length ∧ Pv i H, ⟨xs.length, by simp, Nat.zero_le _, h0⟩, ?_⟩
  rintro i m H ⟨rfl, hi, p⟩
  have q := hl i H hi p
  by_cases hlt : i < xs.length
  · refine .inr ⟨⟨xs, xs[i], q, by simp [hlt]⟩, Pv (i + 1), fun H' p' => ⟨xs.length - (i + 1), by omega, rfl, hlt, p'⟩, fun x H' y => ?_⟩
    obtain ⟨e, y⟩ := y
    subst e
    exact hs i x _ (y xs q) p
  · have e : i = xs.length := by omega
    subst e
    exact .inl ⟨⟨xs, q, Nat.le_refl _⟩, hd H p⟩
/-- over a tuple -/
theorem lc_tup {K : PySem.W.Frag} {a : Addr} {xs : List V} {g : TG} {tt : TT} {te : TE} {vs : List Nat} {σ : St} {H1 : Hp} {D : Addr} {Qd : Hp → Prop} (Pv : Nat → Hp → Prop) (h0 : Pv 0 (upd H1 D (.lst []))) (hl : ∀ i H, i ≤ xs.length → Pv i H → SqT K H a xs)
    (hs : ∀ i x H, xs[i]? = some x → Pv i H → g x (wipe σ vs) H fun σ2 H2 => wipe σ2 vs = wipe σ vs ∧ tt σ2 H2 fun b H3 =>
      if b = true then te σ2 H3 fun y H4 => ∃ acc, H4 D = some (.lst acc) ∧ acc.length < sizeLine ∧ Pv (i + 1) (upd H4 D (.lst (acc ++ [y]))) else Pv (i + 1) H3) (hd : ∀ H, Pv xs.length H → Qd H) :
    ∃ W : Nat → Nat → Hp → Prop, (∃ m, W 0 m (upd H1 D (.lst []))) ∧ ∀ i m H, W i m H →
      ((Itt K a).stop i H ∧ Qd H) ∨ ((Itt K a).go i H ∧ ∃ Nx : Hp → Prop, (∀ H', Nx H' → ∃ m', m' < m ∧ W (i + 1) m' H') ∧ ∀ x H', (Itt K a).yld i H x H' → g x (wipe σ vs) H' fun σ2 H2 => wipe σ2 vs = wipe σ vs ∧ tt σ2 H2 fun b H3 =>
        if b = true then te σ2 H3 fun y H4 => ∃ acc, H4 D = some (.lst acc) ∧ acc.length < sizeLine ∧ Nx (upd H4 D (.lst (acc ++ [y]))) else Nx H3) := by
  refine ⟨fun i m H => m = xs.length - i ∧ i ≤ xs.length ∧ Pv i H, ⟨xs.length, by simp, Nat.zero_le _, h0⟩, ?_⟩
  rintro i m H ⟨rfl, hi, p⟩
  have q := hl i H hi p
  by_cases hlt : i < xs.length
  · refine .inr ⟨⟨xs, xs[i], q, by simp [hlt]⟩, Pv (i + 1), fun H' p' => ⟨xs.length - (i + 1), by omega, rfl, hlt, p'⟩, fun x H' y => ?_⟩
    obtain ⟨e, y⟩ := y
    subst e
    exact hs i x _ (y xs q) p
  · have e : i = xs.length := by omega
    subst e
    exact .inl ⟨⟨xs, q, Nat.le_refl _⟩, hd H p⟩
def blkC (N : List Str) (sc scope : Scope) (own : List (Str × Nat)) : Bool :=
  (match scope.kind with | .function => true | _ => false) && (scope.names.all fun y => decide (scope.names.lookup y.1 = some y.2)) && (own.all fun p => decide (N[p.2]? = some p.1)) &&
    (scope.names.all fun y => match y.2 with
      | .free => (match sc.names.lookup y.1 with | some .cell => true | some .free => true | _ => false)
      | .local => decide (y.1 ∈ own.map (·.1)) || decide (y.1 ∉ N)
      | .cell => decide (y.1 ∈ own.map (·.1)) || decide (y.1 ∉ N)
      | _ => true)
theorem blkOk_by {N : List Str} {sc scope : Scope} {own : List (Str × Nat)} (h : blkC N sc scope own = true) : BlkOk N sc scope own := by
  unfold blkC at h
  simp only [Bool.and_eq_true, List.all_eq_true, decide_eq_true_eq] at h
  obtain ⟨⟨⟨h1, h2⟩, h3⟩, h4⟩ := h
  refine ⟨?_, h2, h3, fun y hy e => ?_, fun y hy e => ?_⟩
  · split at h1
    · assumption
    · cases h1
  · have q := h4 y hy
    simp only [e] at q
    split at q <;> first | exact .inl (by assumption) | exact .inr (by assumption) | cases q
  · have q := h4 y hy
    rcases e with e | e <;> (simp only [e, Bool.or_eq_true, decide_eq_true_eq] at q; exact q)
end L2
namespace L2
open PySem PySem.Spec PyProof.Rows
section
variable {prog : Program} {w : World} {A : Around} {R : Result → Shared → Prop} {s : Shared} {elt t0 i0 t1 i1 : Expr} {ifs0 ifs1 : List Expr} {scope : Scope} {pos : Pos} {it acc : Value} {env : Env}
end
section
variable {X : Cx}
end
end L2
namespace L2
open PySem PySem.Spec PyProof.Rows
section
variable {κ : Type} [DecidableEq κ]
def valV (kvs : List (κ × V)) (k : κ) : Option V := (kvs.find? fun kv => decide (kv.1 = k)).map (·.2)
/-- in its place, or at the end -/
def putK (kvs : List (κ × V)) (k : κ) (v : V) : List (κ × V) :=
  if (kvs.any fun kv => decide (kv.1 = k)) = true then kvs.map (fun kv => if kv.1 = k then (kv.1, v) else kv) else kvs ++ [(k, v)]
theorem valV_pos {p : κ × V} {r : List (κ × V)} {k : κ} (e : p.1 = k) : valV (p :: r) k = some p.2 := by simp [valV, List.find?_cons, e]
theorem valV_neg {p : κ × V} {r : List (κ × V)} {k : κ} (e : ¬ p.1 = k) : valV (p :: r) k = valV r k := by simp [valV, List.find?_cons, e]
theorem valV_any (k : κ) : ∀ kvs : List (κ × V), (kvs.any fun kv => decide (kv.1 = k)) = (valV kvs k).isSome
  | [] => rfl
  | p :: r => by
    rw [List.any_cons]
    by_cases e : p.1 = k
    · simp only [valV_pos e, decide_eq_true e, Bool.true_or, Option.isSome_some]
    · rw [valV_neg e, decide_eq_false e, Bool.false_or]; exact valV_any k r
theorem length_putK (kvs : List (κ × V)) (k : κ) (v : V) : (putK kvs k v).length ≤ kvs.length + 1 := by
  unfold putK
  split
  · rw [List.length_map]; omega
  · rw [List.length_append, List.length_cons, List.length_nil]; omega
theorem putK_new {kvs : List (κ × V)} {k : κ} (v : V) (h : valV kvs k = none) : putK kvs k v = kvs ++ [(k, v)] := by
  unfold putK
  rw [valV_any, h]
  exact if_neg (by decide)
theorem RelO.isSome_eq {o : Option V} {u : Option Value} (r : RelO o u) : o.isSome = u.isSome := by
  cases o with
  | none => cases u with
    | none => rfl
    | some _ => exact (show False from r).elim
  | some _ => cases u with
    | none => exact (show False from r).elim
    | some _ => rfl
theorem RelO.getD {o : Option V} {u : Option Value} {d : V} {d' : Value} (r : RelO o u) (rd : RelV d d') : RelV (o.getD d) (u.getD d') := by
  cases o with
  | none => cases u with
    | none => exact rd
    | some _ => exact (show False from r).elim
  | some _ => cases u with
    | none => exact (show False from r).elim
    | some _ => exact r
/-- raw tables of the same keys -/
theorem KV.val {kvs : List (κ × V)} {vs : List (κ × Value)} (r : KV kvs vs) (k : κ) : RelO (valV kvs k) (valueAt vs k) := by
  unfold KV at r
  induction r with
  | nil => exact True.intro
  | @cons p q ps qs h t ih =>
    obtain ⟨h1, h2⟩ := h
    by_cases e : p.1 = k
    · have e' : q.1 = k := h1.symm.trans e
      have b : valueAt (q :: qs) k = some q.2 := by simp [valueAt, List.find?_cons, e']
      rw [valV_pos e, b]; exact h2
    · have e' : ¬ q.1 = k := fun z => e (h1.trans z)
      have b : valueAt (q :: qs) k = valueAt qs k := by simp [valueAt, List.find?_cons, e']
      rw [valV_neg e, b]; exact ih
theorem KV.any {kvs : List (κ × V)} {vs : List (κ × Value)} (r : KV kvs vs) (k : κ) : (kvs.any fun kv => decide (kv.1 = k)) = vs.any fun kv => decide (kv.1 = k) := by
  unfold KV at r
  induction r with
  | nil => rfl
  | cons h t ih => rw [List.any_cons, List.any_cons, ih, h.1]
theorem KV.repl {kvs : List (κ × V)} {vs : List (κ × Value)} (r : KV kvs vs) (k : κ) {y : V} {u : Value} (ry : RelV y u) :
    KV (kvs.map fun kv => if kv.1 = k then (kv.1, y) else kv) (vs.map fun kv => if kv.1 = k then (kv.1, u) else kv) := by
  unfold KV at r ⊢
  induction r with
  | nil => exact .nil
  | @cons p q ps qs h t ih =>
    rw [List.map_cons, List.map_cons]
    refine .cons ?_ ih
    obtain ⟨h1, h2⟩ := h
    by_cases e : p.1 = k
    · rw [if_pos e, if_pos (h1.symm.trans e)]; exact ⟨h1, ry⟩
    · rw [if_neg e, if_neg (fun z => e (h1.trans z))]; exact ⟨h1, h2⟩
theorem KV.put {kvs : List (κ × V)} {vs : List (κ × Value)} (r : KV kvs vs) (k : κ) {y : V} {u : Value} (ry : RelV y u) : KV (putK kvs k y) (stored vs k u) := by
  unfold putK stored
  rw [r.any k]
  by_cases e : (vs.any fun kv => decide (kv.1 = k)) = true
  · rw [if_pos e, if_pos e]; exact r.repl k ry
  · rw [if_neg e, if_neg e]; exact Paired.snoc r ⟨rfl, ry⟩
theorem KV.length {kvs : List (κ × V)} {vs : List (κ × Value)} (r : KV kvs vs) : kvs.length = vs.length := Paired.length r
end
theorem kV_is {P : Program} {w : World} {k : Key} {u : Value} (r : RelV (kV k) u) : (mixKind P w).is k u = true := by
  cases k with
  | inl i => obtain ⟨t, e⟩ := (show ∃ t, u = Value.int i t from r); subst e; exact mixKind_int P w i t
  | inr x => obtain ⟨t, e⟩ := (show ∃ t, u = Value.str x t from r); subst e; exact mixKind_str P w x t
theorem items_are {P : Program} {w : World} : ∀ {ks : List Key} {us : List Value}, Vals (ks.map kV) us → ItemsAre (mixKind P w) ks us
  | [], _, r => by rw [List.map_nil] at r; cases r; exact .nil
  | k :: ks, _, r => by
    rw [List.map_cons] at r
    cases r with
    | cons h t => exact .cons (kV_is h) (items_are t)
/-- raw entries of a dict with tuple keys -/
abbrev KT (H : Hp) : List (List Key × V) → List (List Key × Addr × Value) → Prop := Paired fun p q => p.1 = q.1 ∧ H q.2.1 = some (.tup (p.1.map kV)) ∧ RelV p.2 q.2.2
theorem KT.val {H : Hp} {kvs : List (List Key × V)} {xs : List (List Key × Addr × Value)} (r : KT H kvs xs) (k : List Key) : RelO (valV kvs k) ((atKey xs k).map (·.2)) := by
  induction r with
  | nil => exact True.intro
  | @cons p q ps qs h t ih =>
    obtain ⟨h1, _, h2⟩ := h
    by_cases e : p.1 = k
    · have e' : q.1 = k := h1.symm.trans e
      have b : atKey (q :: qs) k = some q.2 := by simp [atKey, List.find?_cons, e']
      rw [valV_pos e, b]; exact h2
    · have e' : ¬ q.1 = k := fun z => e (h1.trans z)
      have b : atKey (q :: qs) k = atKey qs k := by simp [atKey, List.find?_cons, e']
      rw [valV_neg e, b]; exact ih
theorem KT.repl {H : Hp} {kvs : List (List Key × V)} {xs : List (List Key × Addr × Value)} (r : KT H kvs xs) (k : List Key) {y : V} {u : Value} (ry : RelV y u) :
    KT H (kvs.map fun kv => if kv.1 = k then (kv.1, y) else kv) (xs.map (putAt k u)) := by
  induction r with
  | nil => exact .nil
  | @cons p q ps qs h t ih =>
    rw [List.map_cons, List.map_cons]
    refine .cons ?_ ih
    obtain ⟨h1, h2, h3⟩ := h
    unfold putAt
    by_cases e : p.1 = k
    · rw [if_pos e, if_pos (h1.symm.trans e)]; exact ⟨h1, h2, ry⟩
    · rw [if_neg e, if_neg (fun z => e (h1.trans z))]; exact ⟨h1, h2, h3⟩
theorem KT.put {H : Hp} {kvs : List (List Key × V)} {xs : List (List Key × Addr × Value)} (r : KT H kvs xs) (k : List Key) {b : Addr} {y : V} {u : Value} (hb : H b = some (.tup (k.map kV))) (ry : RelV y u) :
    KT H (putK kvs k y) (storedH xs k b u) := by
  have e : (kvs.any fun kv => decide (kv.1 = k)) = (atKey xs k).isSome := by
    rw [valV_any, (r.val k).isSome_eq, Option.isSome_map]
  unfold putK storedH
  rw [e]
  by_cases q : (atKey xs k).isSome = true
  · rw [if_pos q, if_pos q]; exact r.repl k ry
  · rw [if_neg q, if_neg q]; exact Paired.snoc r ⟨rfl, hb, ry⟩
theorem KT.keeps {H H' : Hp} {kvs : List (List Key × V)} {xs : List (List Key × Addr × Value)} (r : KT H kvs xs) (ht : ∀ b ys, H b = some (.tup ys) → H' b = some (.tup ys)) : KT H' kvs xs :=
  Paired.mapP r fun _ _ z => ⟨z.1, ht _ _ z.2.1, z.2.2⟩
section
variable {P : Program} {w : World} {H : Hp} {h : Heap} {a : Addr}
theorem rd_of {u : HO} (ok : HOk P w H h) (e : Rd H a u) : ObjOk P w H h a u := e.ok ok
theorem dk_rd {kvs : List (Key × V)} (ok : HOk P w H h) (e : Rd H a (.dK kvs)) : kvs.length ≤ sizeLine ∧ (a == sysModules) = false ∧ ∃ vs, KV kvs vs ∧ h.DictOf (mixKind P w) a vs :=
  show ObjOk P w H h a (.dK kvs) from rd_of ok e
theorem dk_of {kvs : List (Key × V)} (ok : HOk P w H h) (e : H a = some (.dK kvs)) : kvs.length ≤ sizeLine ∧ (a == sysModules) = false ∧ ∃ vs, KV kvs vs ∧ h.DictOf (mixKind P w) a vs := dk_rd ok (.inl e)
/-- a tracked tuple of ints and texts is a key -/
theorem key_of {ks : List Key} (ok : HOk P w H h) (e : H a = some (.tup (ks.map kV))) : (tupleKind (mixKind P w)).is h ks a := by
  obtain ⟨_, its, r, o, h1, h2, n, h3⟩ := (show ObjOk P w H h a (.tup (ks.map kV)) from ok a _ e)
  exact ⟨o, its.toArray, n, h1, h2, h3, by simpa using items_are r⟩
theorem dt_rd {kvs : List (List Key × V)} (ok : HOk P w H h) (e : Rd H a (.dT kvs)) : kvs.length ≤ sizeLine ∧ (a == sysModules) = false ∧
    ∃ xs, KT H kvs xs ∧ h.DictOfH (tupleKind (mixKind P w)) a xs := by
  obtain ⟨z, y, xs, r, o, es, ep, h1, h2, h3, h4, h5⟩ := (show ObjOk P w H h a (.dT kvs) from rd_of ok e)
  refine ⟨z, y, xs, r, o, es, ep, h1, h2, h3, h4, fun x hx => ?_, h5⟩
  have all : ∀ {l : List (List Key × V)} {m : List (List Key × Addr × Value)}, KT H l m → ∀ x ∈ m, (tupleKind (mixKind P w)).is h x.1 x.2.1 := by
    intro l m q
    induction q with
    | nil => intro x hx; exact nomatch hx
    | @cons p q ps qs hq t ih =>
      intro x hx
      rcases List.mem_cons.mp hx with e | hx
      · subst e
        exact key_of ok (by rw [← hq.1]; exact hq.2.1)
      · exact ih x hx
  exact all r x hx
theorem dt_of {kvs : List (List Key × V)} (ok : HOk P w H h) (e : H a = some (.dT kvs)) : kvs.length ≤ sizeLine ∧ (a == sysModules) = false ∧
    ∃ xs, KT H kvs xs ∧ h.DictOfH (tupleKind (mixKind P w)) a xs := dt_rd ok (.inl e)
end
/-- what the dict at a holds at the key y -/
def DGet (H : Hp) (a : Addr) (y : V) (r : Option V) : Prop :=
  (∃ kvs k, Rd H a (.dK kvs) ∧ y = kV k ∧ r = valV kvs k) ∨ ∃ kvs k b, Rd H a (.dT kvs) ∧ y = .ref b ∧ H b = some (.tup (k.map kV)) ∧ r = valV kvs k
/-- the heap behind a[y] = v -/
def DPut (H : Hp) (a : Addr) (y v : V) (H' : Hp) : Prop :=
  (∃ kvs k, H a = some (.dK kvs) ∧ y = kV k ∧ kvs.length < sizeLine ∧ H' = upd H a (.dK (putK kvs k v))) ∨
  ∃ kvs k b, H a = some (.dT kvs) ∧ y = .ref b ∧ H b = some (.tup (k.map kV)) ∧ kvs.length < sizeLine ∧ H' = upd H a (.dT (putK kvs k v))
theorem DGet.k {H : Hp} {a : Addr} {kvs : List (Key × V)} {k : Key} (e : H a = some (.dK kvs)) : DGet H a (kV k) (valV kvs k) := .inl ⟨kvs, k, .inl e, rfl, rfl⟩
theorem DGet.t {H : Hp} {a b : Addr} {kvs : List (List Key × V)} {k : List Key} (e : H a = some (.dT kvs)) (eb : H b = some (.tup (k.map kV))) : DGet H a (.ref b) (valV kvs k) := .inr ⟨kvs, k, b, .inl e, rfl, eb, rfl⟩
theorem DPut.k {H : Hp} {a : Addr} {kvs : List (Key × V)} {k : Key} {v : V} (e : H a = some (.dK kvs)) (hl : kvs.length < sizeLine) : DPut H a (kV k) v (upd H a (.dK (putK kvs k v))) := .inl ⟨kvs, k, e, rfl, hl, rfl⟩
theorem DPut.t {H : Hp} {a b : Addr} {kvs : List (List Key × V)} {k : List Key} {v : V} (e : H a = some (.dT kvs)) (eb : H b = some (.tup (k.map kV))) (hl : kvs.length < sizeLine) :
    DPut H a (.ref b) v (upd H a (.dT (putK kvs k v))) := .inr ⟨kvs, k, b, e, rfl, eb, hl, rfl⟩
section
variable {X : Cx} {pins : List (Addr × Obj)} {σ : St} {H : Hp} {s : Shared} {a : Addr} {y v : V} {u r : Value} {o : Option V} {A : Around} {E : Value → Shared → Prop}
theorem Inv.big (I : Inv X pins σ H s) : sysModules < s.heap.objs.size := by
  have h : mainGlobals < s.heap.objs.size := (I.mod.glob.keeps I.bk).lt
  exact Nat.lt_trans (by decide) h
/-- d[y], there -/
theorem d_getItem {Q : Value → Shared → Prop} (hu : A.units + 1 < cLine) (I : Inv X pins σ H s) (g : DGet H a y (some v)) (ry : RelV y u) (h : ∀ w' s', Inv X pins σ H s' → RelV v w' → Q w' s') :
    wpAny (model X.prog X.w) A (getItem (.ref a) u) Q E s := by
  rcases g with ⟨kvs, k, e, ey, l⟩ | ⟨kvs, k, b, e, ey, eb, l⟩
  · subst ey
    obtain ⟨z, hd, vs, rel, dd⟩ := dk_rd I.hok e
    obtain ⟨w', hw, rw'⟩ := RelO.some_of (v := v) (o := valueAt vs k) (by rw [l]; exact rel.val k)
    exact wpAny_getItem_of (kV_is ry) dd.mapOf hw (h w' _ (I.tok _) rw')
  · subst ey
    cases (show u = Value.ref b from ry)
    obtain ⟨z, hd, xs, rel, dd⟩ := dt_rd I.hok e
    obtain ⟨w', hw, rw'⟩ := RelO.some_of (v := v) (o := (atKey xs k).map (·.2)) (by rw [l]; exact rel.val k)
    obtain ⟨p, hp, hp2⟩ := Option.map_eq_some_iff.mp hw
    refine wpAny_getItem_heap (tupleKind_room_in1 hu) (key_of I.hok eb) dd hp ?_
    rw [hp2]
    exact h w' _ (I.tok _) rw'
/-- y in d -/
theorem d_in {Q : Value → Shared → Prop} (hu : A.units + 1 < cLine) (I : Inv X pins σ H s) (g : DGet H a y o) (ry : RelV y u) (h : ∀ s', Inv X pins σ H s' → Q (.bool o.isSome) s') :
    wpAny (model X.prog X.w) A (compareOp .In u (.ref a)) Q E s := by
  rcases g with ⟨kvs, k, e, ey, l⟩ | ⟨kvs, k, b, e, ey, eb, l⟩
  · subst ey
    obtain ⟨z, hd, vs, rel, dd⟩ := dk_rd I.hok e
    refine wpAny_in_of (kV_is ry) hd dd.mapOf ?_
    rw [← (rel.val k).isSome_eq, ← l]
    exact h _ (I.tok _)
  · subst ey
    cases (show u = Value.ref b from ry)
    obtain ⟨z, hd, xs, rel, dd⟩ := dt_rd I.hok e
    refine wpAny_in_heap (tupleKind_room_in1 hu) (key_of I.hok eb) hd dd ?_
    have q := (rel.val k).isSome_eq
    rw [Option.isSome_map] at q
    rw [← q, ← l]
    exact h _ (I.tok _)
theorem d_notIn {Q : Value → Shared → Prop} (hu : A.units + 1 < cLine) (I : Inv X pins σ H s) (g : DGet H a y o) (ry : RelV y u) (h : ∀ s', Inv X pins σ H s' → Q (.bool (!o.isSome)) s') :
    wpAny (model X.prog X.w) A (compareOp .NotIn u (.ref a)) Q E s := by
  rcases g with ⟨kvs, k, e, ey, l⟩ | ⟨kvs, k, b, e, ey, eb, l⟩
  · subst ey
    obtain ⟨z, hd, vs, rel, dd⟩ := dk_rd I.hok e
    refine wpAny_notIn_of (kV_is ry) hd dd.mapOf ?_
    rw [← (rel.val k).isSome_eq, ← l]
    exact h _ (I.tok _)
  · subst ey
    cases (show u = Value.ref b from ry)
    obtain ⟨z, hd, xs, rel, dd⟩ := dt_rd I.hok e
    refine wpAny_notIn_heap (tupleKind_room_in1 hu) (key_of I.hok eb) hd dd ?_
    have q := (rel.val k).isSome_eq
    rw [Option.isSome_map] at q
    rw [← q, ← l]
    exact h _ (I.tok _)
/-- a dict's object is replaced -/
theorem d_write {h' : Heap} {t' : Nat} {ob : HO} (I : Inv X pins σ H s) (mu : Mut (H a)) (hs : Heap.SameBut a s.heap h') (he : ∃ q, h'.get? a = some q) (new : ObjOk X.prog X.w (upd H a ob) h' a ob) :
    Inv X pins σ (upd H a ob) { s with heap := h', toks := t' } :=
  I.write (x := a) (e := a) mu (.inl rfl) (fun b q hb z => (hs.2 b hb).trans z) he new
theorem dk_new {P : Program} {w : World} {H' : Hp} {h' : Heap} {kvs : List (Key × V)} {vs : List (Key × Value)} (z : kvs.length ≤ sizeLine) (hd : (a == sysModules) = false) (rel : KV kvs vs) (dd : h'.DictOf (mixKind P w) a vs) :
    ObjOk P w H' h' a (.dK kvs) := ⟨z, hd, vs, rel, dd⟩
/-- d[y] = v -/
theorem d_setItem {H' : Hp} {Q : Unit → Shared → Prop} (hu : A.units + 1 < cLine) (I : Inv X pins σ H s) (g : DPut H a y v H') (ry : RelV y u) (rv : RelV v r) (h : ∀ s', Inv X pins σ H' s' → Q () s') :
    wpAny (model X.prog X.w) A (setItem (.ref a) u r) Q E s := by
  rcases g with ⟨kvs, k, e, ey, l, eH⟩ | ⟨kvs, k, b, e, ey, eb, l, eH⟩
  · subst ey eH
    obtain ⟨z, hd, vs, rel, dd⟩ := dk_of I.hok e
    have hz : vs.length ≤ sizeLine := by rw [← rel.length]; exact z
    have hl : (putK kvs k v).length ≤ sizeLine := by have := length_putK kvs k v; omega
    refine wpAny_setItem_pairs (hsz := hz) (kV_is ry) dd fun h' dd' hs => h _ ?_
    have he : ∃ q, h'.get? a = some q := let ⟨q, _, _, hq, _⟩ := dd'; ⟨q, hq⟩
    exact d_write I (by rw [e]; exact True.intro) hs he (dk_new hl hd (rel.put k rv) dd')
  · subst ey eH
    cases (show u = Value.ref b from ry)
    obtain ⟨z, hd, xs, rel, dd⟩ := dt_of I.hok e
    have hz : xs.length ≤ sizeLine := by rw [← Paired.length rel]; exact z
    have hl : (putK kvs k v).length ≤ sizeLine := by have := length_putK kvs k v; omega
    refine wpAny_setItem_heap (hsz := hz) (tupleKind_room_in1 hu) (key_of I.hok eb) dd fun h' dd' hs => h _ ?_
    obtain ⟨q, es, ep, hq, h2, h3, h4, _, h5⟩ := dd'
    refine d_write I (by rw [e]; exact True.intro) hs ⟨q, hq⟩ ⟨hl, hd, _, (rel.put k eb rv).keeps fun c ys ec => ?_, q, es, ep, hq, h2, h3, h4, h5⟩
    rw [upd_ne (ne_of ec e (fun z => nomatch z))]
    exact ec
end
section
variable {X : Cx} {pins : List (Addr × Obj)} {σ : St} {H : Hp} {s : Shared} {a : Addr} {kvs : List (Key × V)} {k : Key} {u : Value} {A : Around} {E : Value → Shared → Prop}
end
/-- the element of a subscription, not a slice -/
def NoSl (i : Expr) : Prop := ∀ ov iv, subscripted i false ov iv = operate [ov, iv] (getItem ov iv)
theorem subD_of {prog : Program} {w : World} {A : Around} {E : Value → Shared → Prop} {s : Shared} {env : Env} {value slice : Expr} {pos : Pos} {T id : String} {Q : Value → Shared → Prop}
    (hl : typeLookup (.type T) "__getitem__" = pure (some (.builtin id))) (hs : NoSl slice)
    (h : wpAny (model prog w) A (eval value env) (fun o s₁ => wpAny (model prog w) A (eval slice env) (fun i s₂ => s₂.TypeIs o T ∧ wpAny (model prog w) A (getItem o i) Q E s₂) E s₁) E s) :
    wpAny (model prog w) A (eval (.Subscript value slice pos) env) Q E s := by
  refine Subscript_ (wpAny_mono h (fun o s₁ h₁ => wpAny_mono h₁ (fun i s₂ h₂ => ?_) fun _ _ x => x) fun _ _ x => x)
  obtain ⟨hT, h₂⟩ := h₂
  unfold subscriptTail
  refine wpAny_bind ?_
  rw [getitemInPython_of_ne hT.not_modules]
  refine wpAny_bind (wpAny_specialOf hT hl ?_)
  have fin : wpAny (model prog w) A (subscripted slice false o i) (fun r s₃ => wpAny (model prog w) A (letTemporaryGo value o r >>= fun _ => pure r) Q E s₃) E s₂ := by
    rw [hs o i]
    exact wpAny_operating (wpAny_mono h₂ (fun r s₃ h₃ => wpAny_bind (wpAny_letTemporaryGo (wpAny_pure h₃))) fun _ _ x => x)
  first
    | exact wpAny_pure (wpAny_bind fin)
    | exact wpAny_bind (wpAny_pure (wpAny_bind fin))
    | exact wpAny_bind fin
theorem dict_typeIs {X : Cx} {pins : List (Addr × Obj)} {σ : St} {H : Hp} {s : Shared} {a : Addr} {y : V} {o : Option V} (I : Inv X pins σ H s) (g : DGet H a y o) : s.TypeIs (.ref a) "dict" := by
  rcases g with ⟨kvs, k, e, _, _⟩ | ⟨kvs, k, b, e, _, _, _⟩
  · obtain ⟨_, _, vs, _, dd⟩ := dk_rd I.hok e
    exact dd.typeIs
  · obtain ⟨_, _, xs, _, dd⟩ := dt_rd I.hok e
    exact dd.typeIs
/-- d[y] -/
def tDGet (td ty : TE) : TE := fun σ H Q => td σ H fun x H1 => ty σ H1 fun y H2 => ∃ a v, x = .ref a ∧ DGet H2 a y (some v) ∧ Q v H2
/-- y in d, y not in d -/
def tDIn (ty td : TE) : TE := fun σ H Q => ty σ H fun y H1 => td σ H1 fun x H2 => ∃ a o, x = .ref a ∧ DGet H2 a y o ∧ Q (.bl o.isSome) H2
def tDNotIn (ty td : TE) : TE := fun σ H Q => ty σ H fun y H1 => td σ H1 fun x H2 => ∃ a o, x = .ref a ∧ DGet H2 a y o ∧ Q (.bl (!o.isSome)) H2
/-- d[y] = v -/
def sDPut (td ty tv : TE) : TS := fun D σ H => tv σ H fun v H1 => td σ H1 fun x H2 => ty σ H2 fun y H3 => ∃ a H4, x = .ref a ∧ DPut H3 a y v H4 ∧ D.nx σ H4
section
variable {X : Cx} {o i e value : Expr} {pos pos' tpos : Pos} {td ty tv : TE}
theorem pe_dget (hu : X.A.units + 1 < cLine) (ho : PE X o td) (hi : PE X i ty) (hs : NoSl i) : PE X (.Subscript o i pos) (tDGet td ty) := by
  intro pins s σ H Q I h
  refine subD_of PySem.F.slot_dict_getitem.lookup hs (thn (ho pins s σ H _ I h) fun u s1 ⟨x, H1, I1, rx, q1⟩ => thn (hi pins s1 σ H1 _ I1 q1) fun iv s2 ⟨y, H2, I2, ry, a, v, ex, g, q2⟩ => ?_)
  subst ex
  obtain rfl : u = Value.ref a := rx
  exact ⟨dict_typeIs I2 g, d_getItem hu I2 g ry fun w' s3 I3 rw' => ⟨v, H2, I3, rw', q2⟩⟩
theorem pc_din (hu : X.A.units + 1 < cLine) (hi : PE X i ty) (ho : PE X o td) : PC X .In i o (tDIn ty td) := by
  intro pins s σ H Q I h
  refine thn (hi pins s σ H _ I h) fun iv s1 ⟨y, H1, I1, ry, q1⟩ => thn (ho pins s1 σ H1 _ I1 q1) fun u s2 ⟨x, H2, I2, rx, a, ov, ex, g, q2⟩ => ?_
  subst ex
  obtain rfl : u = Value.ref a := rx
  exact d_in hu I2 g ry fun s3 I3 => ⟨.bl ov.isSome, H2, I3, rfl, q2⟩
theorem pc_dnotin (hu : X.A.units + 1 < cLine) (hi : PE X i ty) (ho : PE X o td) : PC X .NotIn i o (tDNotIn ty td) := by
  intro pins s σ H Q I h
  refine thn (hi pins s σ H _ I h) fun iv s1 ⟨y, H1, I1, ry, q1⟩ => thn (ho pins s1 σ H1 _ I1 q1) fun u s2 ⟨x, H2, I2, rx, a, ov, ex, g, q2⟩ => ?_
  subst ex
  obtain rfl : u = Value.ref a := rx
  exact d_notIn hu I2 g ry fun s3 I3 => ⟨.bl (!ov.isSome), H2, I3, rfl, q2⟩
theorem ps_dput (hu : X.A.units + 1 < cLine) (ho : PE X o td) (hi : PE X i ty) (hv : PE X value tv) (hs : swapsWith value (some (.Subscript o i pos')) pos.line X.env = pure false) :
    PS X (.Assign [.Subscript o i pos'] value pos) (sDPut td ty tv) := by
  intro pins s σ H D I h
  refine wpAny_Assign_Subscript (thn (hv pins s σ H _ I h) fun r s1 ⟨v, H1, I1, rv, q1⟩ => thn (ho pins s1 σ H1 _ I1 q1) fun u s2 ⟨x, H2, I2, rx, q2⟩ => thn (hi pins s2 σ H2 _ I2 q2) fun iv s3 ⟨y, H3, I3, ry, a, H4, ex, g, q3⟩ => ?_) hs
  subst ex
  obtain rfl : u = Value.ref a := rx
  exact d_setItem hu I3 g ry rv fun s4 I4 => ⟨σ, H4, I4, q3⟩
end
theorem dk_empty {P : Program} {w : World} {H : Hp} (h : Heap) (hb : sysModules < h.objs.size) : ObjOk P w H (h.push { cls := .type "dict", data := .dict #[] }) h.objs.size (.dK []) :=
  ⟨Nat.zero_le _, beq_eq_false_iff_ne.mpr (Ne.symm (Nat.ne_of_lt hb)), [], .nil, Heap.DictOf.new h⟩
theorem dt_empty {P : Program} {w : World} {H : Hp} (h : Heap) (hb : sysModules < h.objs.size) : ObjOk P w H (h.push { cls := .type "dict", data := .dict #[] }) h.objs.size (.dT []) :=
  ⟨Nat.zero_le _, beq_eq_false_iff_ne.mpr (Ne.symm (Nat.ne_of_lt hb)), [], .nil, _, #[], 0, Heap.get?_push_size _ rfl, ⟨rfl, rfl, rfl⟩, rfl, rfl, List.nodup_nil⟩
/-- {}, to be a dict of the kind that is wanted -/
def tDNewK : TE := fun _ H Q => ∀ p, H p = none → Q (.ref p) (upd H p (.dK []))
def tDNewT : TE := fun _ H Q => ∀ p, H p = none → Q (.ref p) (upd H p (.dT []))
section
variable {X : Cx} {pos : Pos}
theorem pe_dnewK : PE X (.Dict [] [] pos) tDNewK := fun pins s σ H Q I h =>
  wpAny_Dict_empty ⟨.ref s.heap.objs.size, _, I.laid (a := s.heap.objs.size) (o := .dK []) (t' := s.toks) (fun _ _ q => Heap.get?_push_of_some _ q) (Nat.le_refl _) (dk_empty s.heap I.big), rfl, h _ (I.hok.fresh (Nat.le_refl _))⟩
theorem pe_dnewT : PE X (.Dict [] [] pos) tDNewT := fun pins s σ H Q I h =>
  wpAny_Dict_empty ⟨.ref s.heap.objs.size, _, I.laid (a := s.heap.objs.size) (o := .dT []) (t' := s.toks) (fun _ _ q => Heap.get?_push_of_some _ q) (Nat.le_refl _) (dt_empty s.heap I.big), rfl, h _ (I.hok.fresh (Nat.le_refl _))⟩
end
/-- the pairs of a display, from the left -/
def tPairs : List (TE × TE) → St → Hp → (List (V × V) → Hp → Prop) → Prop
  | [], _, H, Q => Q [] H
  | (tk, tv) :: r, σ, H, Q => tk σ H fun x H1 => tv σ H1 fun y H2 => tPairs r σ H2 fun ps H3 => Q ((x, y) :: ps) H3
abbrev VV : List (V × V) → List (Value × Value) → Prop := Paired fun p q => RelV p.1 q.1 ∧ RelV p.2 q.2
def PPs (X : Cx) (pos : Pos) (keys : List (Option Expr)) (values : List Expr) (trs : List (TE × TE)) : Prop :=
  ∀ (pins : List (Addr × Obj)) (s : Shared) (σ : St) (H : Hp) (Q : List (V × V) → Hp → Prop), Inv X pins σ H s → tPairs trs σ H Q →
    wpAny (model X.prog X.w) X.A (evalPairs (pairTrees keys values X.env pos)) (fun vs s' => ∃ ps H', Inv X pins σ H' s' ∧ VV ps vs ∧ Q ps H') X.xe s
theorem pps_nil {X : Cx} {pos : Pos} : PPs X pos [] [] [] := fun pins s σ H Q I h => pairTrees_nil_walk ⟨[], H, I, .nil, h⟩
theorem pps_cons {X : Cx} {pos : Pos} {k v : Expr} {ks : List (Option Expr)} {vs : List Expr} {tk tv : TE} {trs : List (TE × TE)} (hk : PE X k tk) (hv : PE X v tv) (hr : PPs X pos ks vs trs) :
    PPs X pos (some k :: ks) (v :: vs) ((tk, tv) :: trs) := fun pins s σ H Q I h =>
  pairTrees_cons_walk (thn (hk pins s σ H _ I h) fun u s1 ⟨x, H1, I1, rx, q1⟩ => thn (hv pins s1 σ H1 _ I1 q1) fun w2 s2 ⟨y, H2, I2, ry, q2⟩ =>
    thn (hr pins s2 σ H2 _ I2 q2) fun ws s3 ⟨ps, H3, I3, rel, q3⟩ => ⟨(x, y) :: ps, H3, I3, .cons ⟨rx, ry⟩ rel, q3⟩)
def mergeK (kvs more : List (Key × V)) : List (Key × V) := more.foldl (fun acc kv => putK acc kv.1 kv.2) kvs
theorem KV.merge : ∀ {more : List (Key × V)} {rs : List (Key × Value)} {kvs : List (Key × V)} {vs : List (Key × Value)}, KV more rs → KV kvs vs → KV (mergeK kvs more) (merged vs rs) := by
  intro more rs kvs vs r
  unfold KV at r
  induction r generalizing kvs vs with
  | nil => intro q; exact q
  | @cons p q ps qs h t ih =>
    intro r0
    have e : KV (putK kvs p.1 p.2) (stored vs q.1 q.2) := by
      have := r0.put p.1 h.2
      rw [← h.1]; exact this
    exact ih e
theorem length_mergeK : ∀ (more kvs : List (Key × V)), (mergeK kvs more).length ≤ kvs.length + more.length
  | [], kvs => by show kvs.length ≤ kvs.length + 0; omega
  | p :: r, kvs => by
    have h1 := length_mergeK r (putK kvs p.1 p.2)
    have h2 := length_putK kvs p.1 p.2
    show (mergeK (putK kvs p.1 p.2) r).length ≤ _
    rw [List.length_cons]; omega
theorem carries_of {P : Program} {w : World} : ∀ {kvs : List (Key × V)} {ws : List (Value × Value)}, VV (kvs.map fun kv => (kV kv.1, kv.2)) ws → ∃ rs, Carries (mixKind P w) ws rs ∧ KV kvs rs
  | [], _, r => by rw [List.map_nil] at r; cases r; exact ⟨[], True.intro, .nil⟩
  | p :: kvs, _, r => by
    rw [List.map_cons] at r
    cases r with
    | @cons a b as bs h t =>
      obtain ⟨rs, c, q⟩ := carries_of (P := P) (w := w) t
      obtain ⟨b1, b2⟩ := b
      exact ⟨(p.1, b2) :: rs, ⟨kV_is h.1, rfl, c⟩, .cons ⟨rfl, h.2⟩ q⟩
/-- {k: v, ..} with keys ints and texts; the new dict stands empty while the pairs are made -/
def tDisp (trs : List (TE × TE)) : TE := fun σ H Q => ∀ p, H p = none → tPairs trs σ (upd H p (.dK [])) fun ps H2 => H2 p = some (.dK []) ∧ ∃ kvs : List (Key × V), ps = kvs.map (fun kv => (kV kv.1, kv.2)) ∧ kvs.length ≤ 15 ∧ Q (.ref p) (upd H2 p (.dK (mergeK [] kvs)))
theorem pe_disp {X : Cx} {pos : Pos} {keys : List (Option Expr)} {values : List Expr} {trs : List (TE × TE)} (h : PPs X pos keys values trs) (hall : keys.all (·.isSome) = true) (hl : keys.length = values.length) (h0 : keys ≠ [])
    (h15 : keys.length ≤ 15) : PE X (.Dict keys values pos) (tDisp trs) := by
  intro pins s σ H Q I q
  have hn := I.hok.fresh (Nat.le_refl s.heap.objs.size)
  have I1 := I.laid (a := s.heap.objs.size) (o := .dK []) (h' := s.heap.push { cls := .type "dict", data := .dict #[] }) (t' := s.toks) (fun _ _ q => Heap.get?_push_of_some _ q) (Nat.le_refl _) (dk_empty s.heap I.big)
  refine wpAny_Dict_walk (knd := mixKind X.prog X.w) hall hl h0 h15 (thn (h pins _ σ _ _ I1 (q _ hn)) fun ws s2 ⟨ps, H2, I2, rel, e, kvs, ep, lk, q2⟩ => ?_)
  subst ep
  obtain ⟨rs, c, rk⟩ := carries_of (P := X.prog) (w := X.w) rel
  obtain ⟨z, hd, vs0, r0, dd⟩ := dk_of I2.hok e
  cases r0
  refine ⟨rs, c, dd, fun h' dd' hs => ⟨.ref s.heap.objs.size, _, ?_, rfl, q2⟩⟩
  have hz : (mergeK [] kvs).length ≤ sizeLine := by
    have h1 := length_mergeK kvs []
    rw [List.length_nil] at h1
    rw [sizeLine_eq]; omega
  have he : ∃ q, h'.get? s.heap.objs.size = some q := let ⟨q, _, _, hq, _⟩ := dd'; ⟨q, hq⟩
  exact d_write I2 (by rw [e]; exact True.intro) hs he (dk_new hz hd (rk.merge .nil) dd')
structure M2 (X : Cx) (o : Expr) (m : Str) (apos : Pos) (e f : Expr) (cpos : Pos) : Prop where
  base : attributeBase o m X.env (eval o X.env) = eval o X.env
  few : ((backTo cpos (starEach [e, f] X.env)).all (fun x => !x.1) && (backToKw cpos (keywordEach [] X.env)).all (fun x => x.1.isSome)
    && decide (([e, f] : List Expr).length + ([] : List Keyword).length + (if ([] : List Keyword).isEmpty then 0 else 1) < 30)) = true
  line : (apos.endLine == cpos.line) = true
  trees : backTo cpos (starEach [e, f] X.env) = [(false, eval e X.env), (false, eval f X.env)]
/-- a is a dict, whatever its keys -/
def IsD (H : Hp) (a : Addr) : Prop := (∃ kvs, Rd H a (.dK kvs)) ∨ ∃ kvs, Rd H a (.dT kvs)
theorem isD_at {X : Cx} {pins : List (Addr × Obj)} {σ : St} {H : Hp} {s : Shared} {a : Addr} (I : Inv X pins σ H s) (d : IsD H a) :
    s.TypeIs (.ref a) "dict" ∧ (∀ b, Value.ref a = .ref b → ∃ ob, s.heap.get? b = some ob ∧ ob.dict = none) ∧ (a == sysModules) = false := by
  rcases d with ⟨kvs, e⟩ | ⟨kvs, e⟩
  · obtain ⟨_, hd, vs, _, dd⟩ := dk_rd I.hok e
    refine ⟨dd.typeIs, fun b q => ?_, hd⟩
    cases q
    obtain ⟨ob, _, _, h1, h2, _⟩ := dd
    exact ⟨ob, h1, h2.2.1⟩
  · obtain ⟨_, hd, xs, _, dd⟩ := dt_rd I.hok e
    refine ⟨dd.typeIs, fun b q => ?_, hd⟩
    cases q
    obtain ⟨ob, _, _, h1, h2, _⟩ := dd
    exact ⟨ob, h1, h2.2.1⟩
section
variable {X : Cx} {pins : List (Addr × Obj)} {σ : St} {H : Hp} {s : Shared} {a : Addr} {y d : V} {u r : Value} {o : Option V} {A : Around} {E : Value → Shared → Prop}
/-- d.get(y, x) -/
theorem d_get2 {Q : Value → Shared → Prop} (hu : A.units + 1 < cLine) (I : Inv X pins σ H s) (g : DGet H a y o) (ry : RelV y u) (rd : RelV d r) (h : ∀ w' s', Inv X pins σ H s' → RelV (o.getD d) w' → Q w' s') :
    wpAny (model X.prog X.w) A (call (.builtin "dict.get") [.ref a, u, r]) Q E s := by
  rcases g with ⟨kvs, k, e, ey, l⟩ | ⟨kvs, k, b, e, ey, eb, l⟩
  · subst ey
    obtain ⟨z, hd, vs, rel, dd⟩ := dk_rd I.hok e
    refine call_meetsIn PySem.F.slot_dict_get dd.typeIs PySem.F.entry_dict_get (PySem.F.args_dict_get_3 _ _ _) (meets_dict_get_default (mixKind X.prog X.w) a (kV_is ry) hd r) ⟨_, dd.mapOf, h _ _ (I.tok _) ?_⟩
    rw [l]
    exact (rel.val k).getD rd
  · subst ey
    cases (show u = Value.ref b from ry)
    obtain ⟨z, hd, xs, rel, dd⟩ := dt_rd I.hok e
    refine call_meetsIn PySem.F.slot_dict_get dd.typeIs PySem.F.entry_dict_get (PySem.F.args_dict_get_3 _ _ _) (meetsH_dict_get_default (tupleKind (mixKind X.prog X.w)) a b hd r) ⟨tupleKind_room_in1 hu, k, xs, key_of I.hok eb, dd, h _ _ (I.tok _) ?_⟩
    rw [l]
    exact (rel.val k).getD rd
end
def tDGet2 (td ty tx : TE) : TE := fun σ H Q => td σ H fun x H1 => ∃ a, x = .ref a ∧ IsD H1 a ∧ ty σ H1 fun y H2 => tx σ H2 fun z H3 => ∃ o, DGet H3 a y o ∧ Q (o.getD z) H3
section
variable {X : Cx} {o e f : Expr} {apos cpos : Pos} {td ty tx : TE}
theorem pe_dget2 (hu : X.A.units + 1 < cLine) (ho : PE X o td) (he : PE X e ty) (hf : PE X f tx) (m : M2 X o "get" apos e f cpos) : PE X (.Call (.Attribute o "get" apos) [e, f] [] cpos) (tDGet2 td ty tx) := by
  intro pins s σ H Q I h
  refine wpAny_Call_method m.base m.few m.line PySem.F.plainAttrs_dict PySem.F.slot_dict_get PySem.F.type_dict_get (thn (ho pins s σ H _ I h) fun u s1 ⟨x, H1, I1, rx, a, ex, d, q1⟩ => ?_)
  subst ex
  obtain rfl : u = Value.ref a := rx
  obtain ⟨t1, t2, _⟩ := isD_at I1 d
  refine ⟨t1, t2, ?_⟩
  rw [m.trees]
  refine Calls.callWith_builtin rfl (Calls.evalArgs_plain (Calls.spliced_cons (thn (he pins s1 σ H1 _ I1 q1) fun iv s2 ⟨y, H2, I2, ry, q2⟩ =>
    Calls.spliced_cons (thn (hf pins s2 σ H2 _ I2 q2) fun fv s3 ⟨z, H3, I3, rz, ov, g, q3⟩ => Calls.spliced_nil ?_))))
  exact d_get2 hu I3 g ry rz fun w' s4 I4 rw' => ⟨_, H3, I4, rw', q3⟩
end
section
variable {X : Cx} {pins : List (Addr × Obj)} {σ : St} {H : Hp} {s : Shared} {a : Addr} {kvs : List (Key × V)} {A : Around} {E : Value → Shared → Prop}
end
section
variable {X : Cx} {pins : List (Addr × Obj)} {σ : St} {H : Hp} {s : Shared} {a : Addr} {y : V} {u : Value} {A : Around} {E : Value → Shared → Prop}
end
end L2
namespace L2
open PySem PySem.Spec PyProof.Rows
section
variable {prog : Program} {w : World} {A : Around} {E : Value → Shared → Prop}
end
section
variable {X : Cx}
end
end L2
namespace L2
open PySem PySem.Spec PyProof.Rows
theorem boot_reversed5 : bootBuiltins "reversed" = some (.type "reversed") := by decide +kernel
section
variable {X : Cx} {pins : List (Addr × Obj)} {σ : St} {H : Hp} {s : Shared} {h' : Heap}
/-- .. and one new object is laid -/
theorem Inv.turnedNew {t' : Nat} {ch : List Addr} {T : Addr} {ob : HO} (I : Inv X pins σ H s) (k : ∀ b o, b ∉ ch → s.heap.get? b = some o → h'.get? b = some o) (hf : ∀ b ∈ ch, FpOk X pins H b) (hT : s.heap.objs.size ≤ T)
    (new : ObjOk X.prog X.w (upd H T ob) h' T ob) : Inv X pins σ (upd H T ob) { s with heap := h', toks := t' } := by
  have hn : H T = none := I.hok.fresh hT
  have nit : ∀ b u, H b = some u → b ∉ ch := fun b u e z => by
    have q := (hf b z).1
    rw [q] at e; cases e
  refine I.step (g' := s.gens) (d' := s.drawn) (ch := ch) (fun b hb => ⟨(hf b hb).2.2.2.1, (hf b hb).2.1, (hf b hb).2.2.2.2.1, (hf b hb).2.2.2.2.2⟩) (fun b o _ _ hc e _ => k b o hc e) (fun b o _ _ hc e _ => ⟨o.slots, k b o hc e⟩)
    (fun b o _ e n => ?_) (fun b o hc e => ⟨o, k b o hc e⟩) (fun b xs e => ?_) (fun b o u e => ?_) (fun b ps e => ⟨#[], ?_⟩) (fun m hm => ?_) (fun b u e => ?_) I.bare
  · rw [upd_ne (Nat.ne_of_lt (Nat.lt_of_lt_of_le (Heap.lt_size e) hT))]; exact n
  · rw [upd_ne (ne_of_none e hn)]; exact e
  · rw [upd_ne (ne_of_none e hn)]; exact e
  · rw [upd_ne (ne_of_none e hn), e]; simp
  · obtain ⟨o, es, ep, ho, r⟩ := hm
    exact ⟨o, es, ep, k _ o (fun z => (hf _ z).2.1 rfl) ho, r⟩
  · by_cases hb : b = T
    · subst hb
      rw [upd_same] at e
      cases e
      exact new
    · rw [upd_ne hb] at e
      refine (I.hok b u e).stay (fun c v hc q => k c v ?_ q) (fun c q => by rw [upd_ne (ne_of_none q hn)]; exact q) fun c xs q => by rw [upd_ne (ne_of_none q hn)]; exact q
      rcases hc with z | z
      · rw [z]; exact nit b u e
      · exact nit c _ z
theorem Inv.lock {d : Addr} {u : HO} (I : Inv X pins σ H s) (h : H d = some u) (mu : Mut (some u)) : ∃ od, Inv X pins σ (upd H d (.frz od u)) s := by
  have x := I.hok d u h
  have ex : ∃ od, s.heap.get? d = some od := by
    cases u with
    | lst xs => obtain ⟨_, _, _, _, e⟩ := x; exact ⟨_, e⟩
    | dK kvs => obtain ⟨_, _, _, _, o, _, _, e, _⟩ := x; exact ⟨o, e⟩
    | dT kvs => obtain ⟨_, _, _, _, o, _, _, e, _⟩ := x; exact ⟨o, e⟩
    | set S n => obtain ⟨o, _, _, _, e, _⟩ := x; exact ⟨o, e⟩
    | ins C dx fs => obtain ⟨_, _, _, e, _⟩ := x; exact ⟨_, e⟩
    | ext φ => obtain ⟨_, ⟨_, e⟩, _⟩ := x; exact ⟨_, e⟩
    | _ => exact False.elim mu
  obtain ⟨od, e⟩ := ex
  have new : ObjOk X.prog X.w (upd H d (.frz od u)) s.heap d (.frz od u) := by
    refine ⟨e, x.stay (fun b v _ q => q) (fun b q => ?_) fun b xs q => ?_⟩
    · rw [upd_ne (fun z => by rw [z, h] at q; cases q; exact mu)]; exact q
    · rw [upd_ne (fun z => by rw [z, h] at q; cases q; exact mu)]; exact q
  exact ⟨od, I.write (x := d) (e := d) (t' := s.toks) (h' := s.heap) (by rw [h]; exact mu) (.inl rfl) (fun b v _ q => q) ⟨od, e⟩ new⟩
theorem Inv.nofrz {d : Addr} {u : HO} (I : Inv X pins σ H s) (h : H d = some u) (mu : Mut (some u)) : ∀ o' u', X.H_0 d ≠ some (.frz o' u') := fun o' u' e => by
  have q := I.base.frzs d o' u' e
  rw [h] at q
  cases q
  exact mu
theorem Inv.unlock {d : Addr} {od : Obj} {u : HO} (I : Inv X pins σ H s) (h : H d = some (.frz od u)) (hn : ∀ o' u', X.H_0 d ≠ some (.frz o' u')) : Inv X pins σ (upd H d u) s := by
  have neH : ∀ b o, H b = some o → (∀ o' u', o ≠ .frz o' u') → b ≠ d := fun b o e hne z => by
    rw [z, h] at e
    cases e
    exact hne _ _ rfl
  have neN : ∀ b, H b = none → b ≠ d := fun b e z => by rw [z, h] at e; cases e
  refine ⟨I.ok, I.os, I.bare, ⟨I.base.keep, I.base.slot, fun b o e n hx => ?_, I.base.there, fun b xs e => ?_, fun b o x e => ?_, fun b ps e => ?_⟩, I.loc, I.cell, ?_, fun x c e => ?_, fun p hp => ?_, fun b o e => ?_, I.len⟩
  · rw [upd_ne (neN b (I.base.free b o e n hx))]; exact I.base.free b o e n hx
  · have q := I.base.tups b xs e
    rw [upd_ne (neH b _ q (fun _ _ z => nomatch z))]; exact q
  · have q := I.base.frzs b o x e
    rw [upd_ne (fun z => by rw [z] at e; exact hn _ _ e)]; exact q
  · obtain ⟨m, q⟩ := I.base.tbls b ps e
    exact ⟨m, by rw [upd_ne (neH b _ q (fun _ _ z => nomatch z))]; exact q⟩
  · rw [upd_ne (neN _ I.free)]; exact I.free
  · rw [upd_ne (neN c (I.freeC x c e))]; exact I.freeC x c e
  · obtain ⟨e, n, r⟩ := I.pin p hp
    exact ⟨e, by rw [upd_ne (neN _ n)]; exact n, r⟩
  · by_cases hb : b = d
    · rw [hb, upd_same] at e
      cases e
      rw [hb]
      obtain ⟨_, x⟩ := I.hok d _ h
      exact x.stay (fun c v _ q => q) (fun c q => by rw [upd_ne (neH c _ q (fun _ _ z => nomatch z))]; exact q) fun c xs q => by rw [upd_ne (neH c _ q (fun _ _ z => nomatch z))]; exact q
    · rw [upd_ne hb] at e
      exact (I.hok b o e).stay (fun c v _ q => q) (fun c q => by rw [upd_ne (neH c _ q (fun _ _ z => nomatch z))]; exact q) fun c xs q => by rw [upd_ne (neH c _ q (fun _ _ z => nomatch z))]; exact q
end
/-- the statement runs while the thing at d is locked (read, not written); d and what stands there are the reading's choice -/
def tLock (t : TS) : TS := fun D σ H => ∃ d u, H d = some u ∧ Mut (some u) ∧ ∀ od, t ⟨fun σ' H' => H' d = some (.frz od u) ∧ D.nx σ' (upd H' d u), fun v H' => H' d = some (.frz od u) ∧ D.rt v (upd H' d u), fun σ' H' => H' d = some (.frz od u) ∧ D.bk σ' (upd H' d u), fun σ' H' => H' d = some (.frz od u) ∧ D.ct σ' (upd H' d u)⟩ σ (upd H d (.frz od u))
section
variable {X : Cx}
theorem ps_lock {st : Stmt} {t : TS} (h : PS X st t) : PS X st (tLock t) := by
  intro pins s σ H D I hw
  obtain ⟨d, u, hd, mu, hw⟩ := hw
  obtain ⟨od, I1⟩ := I.lock hd mu
  refine thn (h pins s σ _ _ I1 (hw od)) fun f s1 q => ?_
  cases f with
  | next => obtain ⟨σ', H', I2, e, q⟩ := q; exact ⟨σ', _, I2.unlock e (I.nofrz hd mu), q⟩
  | brk => obtain ⟨σ', H', I2, e, q⟩ := q; exact ⟨σ', _, I2.unlock e (I.nofrz hd mu), q⟩
  | cont => obtain ⟨σ', H', I2, e, q⟩ := q; exact ⟨σ', _, I2.unlock e (I.nofrz hd mu), q⟩
  | ret v => obtain ⟨x, σ', H', I2, r, e, q⟩ := q; exact ⟨x, σ', _, I2.unlock e (I.nofrz hd mu), r, q⟩
theorem pi_one {tg : Expr} {pins : List (Addr × Obj)} {σ : St} {H : Hp} {s : Shared} {R : It → Hp → Prop} {J : It} {tn : Nat → Heap → Prop} {tk : Nat} (I : Inv X pins σ H s) (o : Obj)
    (T : Turn X.prog X.w X.K tg J [s.heap.objs.size] s.heap.objs.size tn) (st : tn 0 (s.heap.push o)) (q : R J H) : PIE X pins σ tg R (.ref s.heap.objs.size) { s with heap := s.heap.push o, toks := tk } := by
  refine ⟨s.heap.objs.size, [s.heap.objs.size], tn, J, H, rfl, I.kept fun b ob e => Heap.get?_push_of_some _ e, T, st, fun b hb => ?_, q⟩
  have e : b = s.heap.objs.size := by simpa using hb
  subst e
  exact I.fpOk (Nat.le_refl _) (I.hok.fresh (Nat.le_refl _))
end
/-- lo, lo + c, .. (n of them) -/
def Itc (lo c : Int) (n : Nat) : It := ⟨fun i _ => i < n, fun i H x H' => H' = H ∧ x = .int (lo + (i : Nat) * c), fun i _ => n ≤ i⟩
theorem turn_rangeC {P : Program} {w : World} {K : PySem.W.Frag} {tg : Expr} (it : Addr) (lo c : Int) (n : Nat) : Turn P w K tg (Itc lo c n) [it] it (fun i h => IsRangeIter h it (lo + (i : Nat) * c) ((n : Int) - (i : Nat)) c) where
  mem := by simp
  obj := fun i h st b hb => by
    have e : b = it := by simpa using hb
    subst e
    exact ⟨_, st, fun v z => nomatch z⟩
  keep := fun i h h' st k => k it (by simp) _ st
  item := by
    intro X hP hw hK hc i pins s σ H E I hf st hg
    subst hP hw hK
    obtain ⟨f0, f1, f2, f3, f4, f5⟩ := hf it (by simp)
    have W := Walks.range (prog := X.prog) (w := X.w) (I.ok.hd hc) it lo c n
    refine W.item i s _ _ hg st fun v h' tk hv st' kk => ?_
    obtain ⟨t, rfl⟩ := hv
    have I1 : Inv X pins σ H { s with heap := h', toks := tk } := I.turned (fun b o hb e => kk b o (by simpa using hb) e) f0 f1 f3 f4 f5
    exact ⟨_, rfl, go_of (s := { s with heap := h', toks := tk }) (n := "range_iterator") st' rfl rfl (by decide) ⟨.int (lo + (i : Nat) * c), H, I1, ⟨t, rfl⟩, ⟨rfl, rfl⟩, st', fun b hb => (hf b hb).1⟩⟩
  done := by
    intro X hP hw hK hc i pins s σ H E I hf st hg
    subst hP hw hK
    obtain ⟨f0, f1, f2, f3, f4, f5⟩ := hf it (by simp)
    exact wpAny_pyNext_range_end (I.ok.hd hc) st (by have : n ≤ i := hg; omega) fun h' eb => ⟨rfl, I.turned (t' := s.toks) (fun b o hb e => eb b o hb e) f0 f1 f3 f4 f5⟩
  self := fun A i s Q E st h => wpAny_pyIter_rangeiter st h
/-- range(i, j, c): small bounds, n items -/
def RgC (i j c : Int) (n : Nat) : Prop := c ≠ 0 ∧ c.natAbs < 1073741824 ∧ Builtin.Range.small i j c = true ∧ Builtin.Range.rangeSize i j c = n
def iRng3 (ta : TA) : TI := fun σ H R => ta σ H fun vs H1 => ∃ (i j c : Int) (n : Nat), vs = [.int i, .int j, .int c] ∧ RgC i j c n ∧ R (Itc i c n) H1
section
variable {X : Cx} {tg : Expr}
theorem pi_range3 {a b c : Expr} {ta : TA} {p pos : Pos} (hg : Gl X "range") (hm : X.mg "range" = none) (ha : PA X [a, b, c] ta)
    (hs : starEach [a, b, c] X.env = (false, eval a X.env) :: starEach [b, c] X.env := by rfl) (hpl : (backTo pos (starEach [b, c] X.env)).any (·.1) = false := by rfl) :
    PI X tg (.Call (.Name "range" p) [a, b, c] [] pos) (iRng3 ta) := by
  intro pins s σ H R I h
  refine Call_ (ld_blt I hg hm boot_range (PyProof.Rows.callWith_type1 (thn (ha pos pins s σ H _ I h) fun us s1 ⟨vs, H1, I1, r1, q1⟩ => ?_) hs hpl))
  obtain ⟨i, j, k, n, e, ⟨c0, c1, c2, c3⟩, q⟩ := q1
  subst e
  cases r1 with
  | cons r rr =>
    cases rr with
    | cons r' rr =>
      cases rr with
      | cons r'' rr =>
        cases rr
        obtain ⟨t, rfl⟩ := r
        obtain ⟨t', rfl⟩ := r'
        obtain ⟨t'', rfl⟩ := r''
        refine call_range_3 c0 ?_ (.inl (PyProof.noPylong_small c1))
        refine wpAny_pyIter_range (IsRange.new ..) c2 ?_
        have I2 : Inv X pins σ H1 { s1 with heap := s1.heap.push { cls := .type "range", data := .fields #[.int i t, .int j t', .int k t''] } } := I1.kept (t' := s1.toks) fun b o e => Heap.get?_push_of_some _ e
        refine pi_one (tk := s1.toks) I2 _ (turn_rangeC _ i k n) ?_ q
        have e1 : i + ((0 : Nat) : Int) * k = i := by simp
        have e2 : (n : Int) - ((0 : Nat) : Int) = Builtin.Range.rangeSize i j k := by rw [c3]; simp
        show IsRangeIter _ _ (i + ((0 : Nat) : Int) * k) ((n : Int) - ((0 : Nat) : Int)) k
        rw [e1, e2]
        exact Heap.get?_push_size _ rfl
end
/-- the turns of a step range, for the for loop -/
theorem for_rangeC {lo c : Int} {n : Nat} {g : TG} {tb : TS} {D : Ends} {σ : St} {H : Hp} (Pv : Nat → St → Hp → Prop) (h0 : Pv 0 σ H)
    (hs : ∀ i σ H, i < n → Pv i σ H → g (.int (lo + (i : Nat) * c)) σ H fun σ2 H2 => tb { D with nx := Pv (i + 1), ct := Pv (i + 1), bk := D.nx } σ2 H2) (hd : ∀ σ H, Pv n σ H → D.nx σ H) :
    ∃ W : Nat → Nat → St → Hp → Prop, (∃ m, W 0 m σ H) ∧ ∀ i m σ H, W i m σ H →
      ((Itc lo c n).stop i H ∧ D.nx σ H) ∨ ((Itc lo c n).go i H ∧ ∃ N : St → Hp → Prop, (∀ σ' H', N σ' H' → ∃ m', m' < m ∧ W (i + 1) m' σ' H') ∧ ∀ x H', (Itc lo c n).yld i H x H' → g x σ H' fun σ2 H2 => tb { D with nx := N, ct := N, bk := D.nx } σ2 H2) := by
  refine ⟨fun i m σ H => m = n - i ∧ i ≤ n ∧ Pv i σ H, ⟨n, by simp, Nat.zero_le _, h0⟩, ?_⟩
  rintro i m σ H ⟨rfl, hi, p⟩
  by_cases hlt : i < n
  · refine .inr ⟨hlt, Pv (i + 1), fun σ' H' p' => ⟨n - (i + 1), by omega, rfl, hlt, p'⟩, fun x H' y => ?_⟩
    obtain ⟨e, y⟩ := y
    subst e y
    exact hs i σ _ hlt p
  · have e : i = n := by omega
    subst e
    exact .inl ⟨Nat.le_refl _, hd σ H p⟩
section
variable {X : Cx} {tg : Expr}
end
section
variable {prog : Program} {w : World} {A : Around} {E : Value → Shared → Prop} {s : Shared}
end
theorem kv_get {κ : Type} {kvs : List (κ × V)} {vs : List (κ × Value)} (h : KV kvs vs) : ∀ {i : Nat} {k : κ} {v : V}, kvs[i]? = some (k, v) → ∃ u, vs[i]? = some (k, u) ∧ RelV v u := by
  unfold KV at h
  induction h with
  | nil => intro i k v e; simp at e
  | @cons a b l₁ l₂ r t ih =>
    intro i k v e
    cases i with
    | zero =>
      simp only [List.getElem?_cons_zero, Option.some.injEq] at e
      subst e
      refine ⟨b.2, ?_, r.2⟩
      simp only [List.getElem?_cons_zero]
      exact congrArg some (Prod.ext r.1.symm rfl)
    | succ j =>
      simp only [List.getElem?_cons_succ] at e ⊢
      exact ih e
theorem paired_get {α β : Type} {G : α → β → Prop} {l₁ : List α} {l₂ : List β} (h : Paired G l₁ l₂) : ∀ {i : Nat} {a : α}, l₁[i]? = some a → ∃ b, l₂[i]? = some b ∧ G a b := by
  induction h with
  | nil => intro i a e; simp at e
  | @cons a b l₁ l₂ r t ih =>
    intro i a' e
    cases i with
    | zero =>
      simp only [List.getElem?_cons_zero, Option.some.injEq] at e
      subst e
      exact ⟨b, rfl, r⟩
    | succ j =>
      simp only [List.getElem?_cons_succ] at e ⊢
      exact ih e
theorem relV_key {k : Key} {u : Value} (h : keyIs k u = true) : RelV (kV k) u := by
  rcases keyIs_shape h with ⟨i, t, rfl, rfl⟩ | ⟨x, t, rfl, rfl⟩
  · exact ⟨t, rfl⟩
  · exact ⟨t, rfl⟩
section
variable {X : Cx} {pins : List (Addr × Obj)} {σ : St} {H : Hp} {s : Shared} {d : Addr} {o : Obj}
theorem Inv.frzK {kvs : List (Key × V)} (I : Inv X pins σ H s) (h : H d = some (.frz o (.dK kvs))) :
    (d == sysModules) = false ∧ s.heap.get? d = some o ∧ o.ExactDict ∧ ∃ (es : Array DictEntry) (ep : Nat) (vs : List (Key × Value)), o.data = .dict es ep ∧ es.size = kvs.length ∧ KV kvs vs ∧ s.heap.DictAt (mixKind X.prog X.w) d vs ep := by
  obtain ⟨hd, z, hs, vs, kv, o', es, ep, ho, hx, hdt, r⟩ := I.hok d _ h
  rw [hd] at ho
  cases ho
  refine ⟨hs, hd, hx, es, ep, vs, hdt, ?_, kv, o, es, hd, hx, hdt, r⟩
  have l1 := r.2.1.length
  have l2 : kvs.length = vs.length := Paired.length kv
  rw [Array.length_toList] at l1
  omega
end
/-- the pairs, each a new tuple -/
def Iti (d : Addr) (o : Obj) (kvs : List (Key × V)) : It :=
  ⟨fun i H => H d = some (.frz o (.dK kvs)) ∧ i < kvs.length, fun i H x H' => ∃ T k v, kvs[i]? = some (k, v) ∧ x = .ref T ∧ H T = none ∧ H' = upd H T (.tup [kV k, v]), fun i H => H d = some (.frz o (.dK kvs)) ∧ kvs.length ≤ i⟩
theorem dict_ep {o : Obj} {es es' : Array DictEntry} {ep ep' : Nat} (h : o.data = .dict es ep) (h' : o.data = .dict es' ep') : es' = es ∧ ep' = ep := by
  rw [h] at h'
  cases h'
  exact ⟨rfl, rfl⟩
section
variable {P : Program} {w : World} {K : PySem.W.Frag} {tg : Expr} {d : Addr} {o : Obj} {es : Array DictEntry} {ep : Nat}
theorem turn_items {kvs : List (Key × V)} {elts : List Expr} {kk : Nat} {tpos : Pos} (it : Addr) (hod : o.data = .dict es ep) :
    Turn P w K (.Tuple elts kk tpos) (Iti d o kvs) [it] it (fun i h => ∃ ok ov, IsItemIter h it d i kvs.length ep ok ov) where
  mem := by simp
  obj := fun i h st b hb => by
    have e : b = it := by simpa using hb
    subst e
    obtain ⟨ok, ov, e⟩ := st
    exact ⟨_, e, fun v z => nomatch z⟩
  keep := fun i h h' st k => let ⟨ok, ov, e⟩ := st; ⟨ok, ov, k it (by simp) _ e⟩
  item := by
    intro X hP hw hK hc i pins s σ H E I hf st hg
    subst hP hw hK
    obtain ⟨hd, hi⟩ := hg
    obtain ⟨hs, hgd, hx, es', ep', vs, hdt, hsz, kv, hm⟩ := I.frzK hd
    obtain ⟨rfl, rfl⟩ := dict_ep hod hdt
    obtain ⟨⟨k, v⟩, hkv⟩ : ∃ p, kvs[i]? = some p := ⟨kvs[i], List.getElem?_eq_getElem hi⟩
    obtain ⟨u, hu, ru⟩ := kv_get kv hkv
    have hl : kvs.length = vs.length := Paired.length kv
    obtain ⟨ok, ov, he⟩ := st
    rw [hl] at he
    have hlt : it < s.heap.objs.size := Heap.lt_size he
    refine wpAny_pyNext_items_item he hm hu fun key h' hkey ho hT hz hk => ?_
    refine ⟨_, rfl, wpAny_letOwnedTupleGo_items (s := { s with heap := h' }) ho fun h'' he' sb => ?_⟩
    have hT2 : h''.get? s.heap.objs.size = some { cls := .type "tuple", data := .seq #[key, u] } := (sb.2 _ (Nat.ne_of_gt hlt)).trans hT
    have new : ObjOk X.prog X.w (upd H s.heap.objs.size (.tup [kV k, v])) h'' s.heap.objs.size (.tup [kV k, v]) :=
      ⟨by show 2 ≤ sizeLine; decide, [key, u], .cons (relV_key (show keyIs k key = true from hkey)) (.cons ru .nil), ⟨_, hT2, rfl, _, rfl⟩⟩
    have I1 : Inv X pins σ (upd H s.heap.objs.size (.tup [kV k, v])) { s with heap := h'' } :=
      I.turnedNew (t' := s.toks) (ch := [it]) (fun b ob hb e => (sb.2 b (by simpa using hb)).trans (hk b ob (by simpa using hb) e)) hf (Nat.le_refl _) new
    refine ⟨.ref s.heap.objs.size, _, I1, rfl, ⟨_, k, v, hkv, rfl, I.hok.fresh (Nat.le_refl _), rfl⟩, ⟨key, u, ?_⟩, fun b hb => ?_⟩
    · rw [hl]; exact he'
    · have e : b = it := by simpa using hb
      rw [e, upd_ne (Nat.ne_of_lt hlt)]
      exact (hf it (by simp)).1
  done := by
    intro X hP hw hK hc i pins s σ H E I hf st hg
    subst hP hw hK
    obtain ⟨hd, hi⟩ := hg
    obtain ⟨f0, f1, f2, f3, f4, f5⟩ := hf it (by simp)
    obtain ⟨hs, hgd, hx, es', ep', vs, hdt, hsz, kv, hm⟩ := I.frzK hd
    obtain ⟨rfl, rfl⟩ := dict_ep hod hdt
    have hl : kvs.length = vs.length := Paired.length kv
    obtain ⟨ok, ov, he⟩ := st
    rw [hl] at he
    exact wpAny_pyNext_items_end (I.ok.hd hc) he hm (List.getElem?_eq_none (by omega)) fun h' eb => ⟨rfl, I.turned (t' := s.toks) (fun b ob hb e => eb b ob hb e) f0 f1 f3 f4 f5⟩
  self := fun A i s Q E st h => let ⟨_, _, e⟩ := st; PySem.W.kcp_self e h
end
def iItems (td : TE) : TI := fun σ H R => td σ H fun x H1 => ∃ d o kvs, x = .ref d ∧ H1 d = some (.frz o (.dK kvs)) ∧ R (Iti d o kvs) H1
section
variable {X : Cx} {tg e : Expr} {td : TE} {apos cpos : Pos}
theorem pi_items {elts : List Expr} {kk : Nat} {tpos : Pos} (he : PE X e td) (hbase : attributeBase e "items" X.env (eval e X.env) = eval e X.env := by rfl) (hline : (apos.endLine == cpos.line) = true := by rfl) :
    PI X (.Tuple elts kk tpos) (.Call (.Attribute e "items" apos) [] [] cpos) (iItems td) := by
  intro pins s σ H R I h
  refine wpAny_Call_method (T := "dict") (id := "dict.items") hbase rfl hline F.plainAttrs_dict F.slot_dict_items F.type_dict_items (thn (he pins s σ H _ I h) fun u s1 ⟨x, H1, I1, rx, d, o, kvs, ex, hd, q⟩ => ?_)
  subst ex
  obtain rfl : u = Value.ref d := rx
  obtain ⟨hs, hgd, hx, es, ep, vs, hdt, hsz, kv, hm⟩ := I1.frzK hd
  have hl : kvs.length = vs.length := Paired.length kv
  refine ⟨hm.dictOf.typeIs, hm.dictOf.mapOf.noDict, ?_⟩
  have I2 : Inv X pins σ H1 { s1 with heap := s1.heap.push { cls := .type "dict_items", data := .fields #[.ref d] } } := I1.kept (t' := s1.toks) fun b ob q => Heap.get?_push_of_some _ q
  have fin : wpAny (model X.prog X.w) X.A (pyIter (.ref s1.heap.objs.size)) (PIE X pins σ (.Tuple elts kk tpos) R) X.xe { s1 with heap := s1.heap.push { cls := .type "dict_items", data := .fields #[.ref d] } } := by
    refine wpAny_pyIter_items (d := d) (knd := mixKind X.prog X.w) ⟨_, Heap.get?_push_size _ rfl, rfl, rfl⟩ (hm.push _) (pi_one (tk := s1.toks) I2 _ (turn_items _ hdt) ⟨.none, .none, ?_⟩ q)
    rw [hl]
    exact Heap.get?_push_size _ rfl
  show wpAny _ _ (callWith cpos (.builtin "dict.items") [.ref d] [] []) _ X.xe s1
  exact method_meetsIn F.slot_dict_items F.entry_dict_items rfl (PySem.evalArgs_none ⟨rfl, hm.dictOf.typeIs, F.args_dict_items_1 _, _, meets_dict_items (mixKind X.prog X.w) d hs, ⟨vs, hm.dictOf⟩, fin⟩)
end
/-- the list at a as it stands at each turn, each item in a new pair -/
def Ite (K : PySem.W.Frag) (a : Addr) : It :=
  ⟨fun i H => ∃ (xs : List V) (x : V), SqL K H a xs ∧ xs[i]? = some x, fun i H v H' => ∃ T x, v = .ref T ∧ H T = none ∧ H' = upd H T (.tup [.int (i : Nat), x]) ∧ ∀ xs, SqL K H a xs → xs[i]? = some x, fun i H => ∃ xs : List V, SqL K H a xs ∧ xs.length ≤ i⟩
theorem turn_enum {P : Program} {w : World} {K : PySem.W.Frag} {elts : List Expr} {kk : Nat} {tpos : Pos} (a e it : Addr) :
    Turn P w K (.Tuple elts kk tpos) (Ite K a) [e, it] e (fun i h => (∃ old, IsEnum h e it ((i : Nat) : Int) old) ∧ h.IsListIter it a i ∧ e ≠ it) where
  mem := by simp
  obj := fun i h st b hb => by
    obtain ⟨⟨old, he⟩, ⟨o, ho, hc, hd⟩, _⟩ := st
    have e' : b = e ∨ b = it := by simpa using hb
    rcases e' with z | z
    · rw [z]; exact ⟨_, he, fun v q => nomatch q⟩
    · rw [z]; exact ⟨o, ho, fun v q => by rw [hd] at q; cases q⟩
  keep := fun i h h' st k => let ⟨⟨old, he⟩, hi, hne⟩ := st; ⟨⟨old, k e (by simp) _ he⟩, hi.at fun o q => k it (by simp) o q, hne⟩
  item := by
    intro X hP hw hK hc i pins s σ H E I hf st hg
    subst hP hw hK
    obtain ⟨⟨old, he⟩, hit, hne⟩ := st
    obtain ⟨xs, x, hq, hx⟩ := hg
    obtain ⟨its, rv, p, hz⟩ := I.list hq
    obtain ⟨u, hu, ru⟩ := rv.get hx
    have hel : e < s.heap.objs.size := Heap.lt_size he
    have hil : it < s.heap.objs.size := by obtain ⟨_, q, _⟩ := hit; exact Heap.lt_size q
    refine wpAny_pyNext_enum_item he hit p.isList (x := u) (by simpa using hu) hne fun h' ho hit' hT hsz hk => ?_
    refine ⟨_, rfl, wpAny_letOwnedTupleGo_enum (s := { s with heap := h', toks := s.toks + 1 }) ho fun h'' he' sb => ?_⟩
    have hT2 : h''.get? s.heap.objs.size = some { cls := .type "tuple", data := .seq #[.int i s.toks, u] } := (sb.2 _ (Nat.ne_of_gt hel)).trans hT
    have new : ObjOk X.prog X.w (upd H s.heap.objs.size (.tup [.int (i : Nat), x])) h'' s.heap.objs.size (.tup [.int (i : Nat), x]) :=
      ⟨by show 2 ≤ sizeLine; decide, [.int i s.toks, u], .cons ⟨_, rfl⟩ (.cons ru .nil), ⟨_, hT2, rfl, _, rfl⟩⟩
    have I1 : Inv X pins σ (upd H s.heap.objs.size (.tup [.int (i : Nat), x])) { s with heap := h'', toks := s.toks + 1 } :=
      I.turnedNew (ch := [e, it]) (fun b ob hb q => (sb.2 b (fun z => hb (by simp [z]))).trans (hk b ob (fun z => hb (by simp [z])) (fun z => hb (by simp [z])) q)) hf (Nat.le_refl _) new
    refine ⟨.ref s.heap.objs.size, _, I1, rfl, ⟨_, x, rfl, I.hok.fresh (Nat.le_refl _), rfl, fun ys hy => by rw [I.list_inj hy hq]; exact hx⟩, ⟨⟨u, ?_⟩, hit'.at fun o q => (sb.2 it (Ne.symm hne)).trans q, hne⟩, fun b hb => ?_⟩
    · have e1 : ((i + 1 : Nat) : Int) = (i : Int) + 1 := by omega
      rw [e1]; exact he'
    · have hb' : b < s.heap.objs.size := by
        have e' : b = e ∨ b = it := by simpa using hb
        rcases e' with z | z
        · rw [z]; exact hel
        · rw [z]; exact hil
      rw [upd_ne (Nat.ne_of_lt hb')]
      exact (hf b hb).1
  done := by
    intro X hP hw hK hc i pins s σ H E I hf st hg
    subst hP hw hK
    obtain ⟨⟨old, he⟩, hit, hne⟩ := st
    obtain ⟨xs, hq, hx⟩ := hg
    obtain ⟨its, rv, p, hz⟩ := I.list hq
    obtain ⟨f0, f1, f2, f3, f4, f5⟩ := hf it (by simp)
    have hl := rv.length
    exact wpAny_pyNext_enum_end (I.ok.hd hc) he hit p.isList (by simp; omega) fun h' eb => ⟨rfl, I.turned (t' := s.toks) (fun b o hb q => eb b o hb q) f0 f1 f3 f4 f5⟩
  self := fun A i s Q E st h => let ⟨⟨_, he⟩, _⟩ := st; wpAny_pyIter_enum he h
def iEnum (K : PySem.W.Frag) (ta : TA) : TI := fun σ H R => ta σ H fun vs H1 => ∃ a xs, vs = [.ref a] ∧ SqL K H1 a xs ∧ R (Ite K a) H1
theorem pi_enum {X : Cx} {e : Expr} {ta : TA} {p pos tpos : Pos} {elts : List Expr} {kk : Nat} (hg : Gl X "enumerate") (hm : X.mg "enumerate" = none) (ha : PA X [e] ta) (hs : starEach [e] X.env = [(false, eval e X.env)] := by rfl) :
    PI X (.Tuple elts kk tpos) (.Call (.Name "enumerate" p) [e] [] pos) (iEnum X.K ta) := by
  intro pins s σ H R I h
  refine Call_ (ld_blt I hg hm boot_enumerate (PyProof.Rows.callWith_type1 (thn (ha pos pins s σ H _ I h) fun us s1 ⟨vs, H1, I1, r1, q1⟩ => ?_) hs rfl))
  obtain ⟨a, xs, ex, hq, q⟩ := q1
  subst ex
  cases r1 with
  | cons r rr =>
    cases rr
    cases r
    obtain ⟨its, rv, p', hz⟩ := I1.list hq
    refine call_enumerate_list p'.isList fun h' he hit hsz hk => wpAny_pyIter_enum he ?_
    have I2 : Inv X pins σ H1 { s1 with heap := h' } := I1.kept (t' := s1.toks) hk
    refine ⟨s1.heap.objs.size + 1, [s1.heap.objs.size + 1, s1.heap.objs.size], _, _, H1, rfl, I2, turn_enum a (s1.heap.objs.size + 1) s1.heap.objs.size, ⟨⟨.none, he⟩, hit, Nat.succ_ne_self _⟩, fun b hb => ?_, q⟩
    have e' : b = s1.heap.objs.size + 1 ∨ b = s1.heap.objs.size := by simpa using hb
    have hle : s1.heap.objs.size ≤ b := by
      rcases e' with z | z
      · rw [z]; exact Nat.le_add_right _ _
      · rw [z]; exact Nat.le_refl _
    exact I1.fpOk hle (I1.hok.fresh hle)
end L2
section 
namespace Bits
open PySem PyProof.Rows
theorem nat_xor_add_and (m : Nat) : ∀ n : Nat, (m ^^^ n) + 2 * (m &&& n) = m + n := by
  induction m using Nat.strongRecOn with
  | _ m ih =>
    intro n
    by_cases h0 : m = 0
    · subst h0
      simp
    · have ih' := ih (m / 2) (by omega) (n / 2)
      rw [← Nat.xor_div_two, ← Nat.and_div_two] at ih'
      have o1 := @Nat.xor_mod_two_eq_one m n
      have a1 := @Nat.and_mod_two_eq_one m n
      omega
theorem bitXor_pp {x y : Int} (hx : 0 ≤ x) (hy : 0 ≤ y) : Builtin.bitXor x y = ((x.toNat ^^^ y.toNat : Nat) : Int) := by
  have e := nat_xor_add_and x.toNat y.toNat
  rw [bitXor_and, bitAnd_pp hx hy]
  omega
end Bits
end 
section 
namespace TL
open PySem PySem.Builtin PySem.Builtin.Str PySem.StrLaws
end TL
end 
namespace L2
open PySem PySem.Spec PyProof.Rows
section
variable {X : Cx} {pins : List (Addr × Obj)} {σ : St} {H : Hp} {s : Shared} {Q : VK}
end
section
variable {X : Cx}
end
section
variable {X : Cx} {o e : Expr} {to te : TE}
end
end L2
namespace L2
open PySem PySem.Spec PyProof.Rows
section
variable {X : Cx}
end
end L2
namespace Att
open PySem PySem.W PySem.Calls PyProof.Rows
section
variable {prog : Program} {w : World} {A : Around} {E : Value → Shared → Prop} {s : Shared} {K : Frag}
end
end Att
namespace L2
open PySem PySem.Spec PyProof.Rows
end L2
namespace L2
open PySem PySem.Spec PyProof.Rows
end L2
/- THE LAST THEOREM (shape; LID, My.* are yours):
   My.Adr: a structure of the addresses that your layer names (classes, functions); My.Txt K t: a structure (Prop) of the equations over K;
   My.txt_mk : {K} {implicit addresses ..} (e1 : nsIn K mainGlobals "law" = some (some (.ref f))) (e2 : K.lookup f = some ⟨oc, od, .func (fnOf "law" "law" params body scope dV kV doc pm an cdv ct), sl⟩) (e3 : codeIn K cdv "law" = true) .. : ∃ t, My.Txt K t
(the tactic k_is has no namespace: write k_is) -/
namespace L2
open PySem PySem.Spec PyProof.Rows
/-- the j-th statement of a class's body -/
def inClass (s : Stmt) (j : Nat) : Stmt := match s with
  | .ClassDef _ _ _ body _ _ _ _ _ _ _ => body.getD j (.Pass ⟨0, 0, 0, 0⟩)
  | _ => .Pass ⟨0, 0, 0, 0⟩
def defArgs (s : Stmt) : Arguments := match s with
  | .FunctionDef _ a _ _ _ _ _ _ _ _ => a
  | _ => { posonlyargs := [], args := [], vararg := none, kwonlyargs := [], kw_defaults := [], kwarg := none, defaults := [] }
def defBody (s : Stmt) : List Stmt := match s with
  | .FunctionDef _ _ b _ _ _ _ _ _ _ => b
  | _ => []
def defScope (s : Stmt) : Scope := match s with
  | .FunctionDef _ _ _ _ _ _ sc _ _ _ => sc
  | _ => { kind := .function, names := [], isGenerator := false, isCoroutine := false }
abbrev CX0 : CXT := fun _ _ _ _ _ _ => False
abbrev E0 : XK := fun _ _ _ => False
theorem pass0 {X : Cx} : Passes CX0 X E0 := fun _ _ _ _ _ _ _ h => h.elim
structure Fun (K : PySem.W.Frag) (x qual : Str) (st : Stmt) (f : Addr) (fd : FuncData) : Prop where
  ex : ∃ (oc : Value) (od : Option Addr) (kV doc pm : Value) (an : Option Addr) (cdv ct : Value) (osl : Array (Option Value)),
    fd = PySem.W.fnOf x qual (defArgs st) (defBody st) (defScope st) .none kV doc pm an cdv ct ∧ K.lookup f = some ⟨oc, od, .func fd, osl⟩ ∧ PySem.W.codeIn K cdv qual = true
  kp : PySem.W.keepIn K (.ref f) = true
section
variable {P : Program} {w : World} {K : PySem.W.Frag} {mg : Str → Option Value} {base : Heap}
/-- THE RULE for a def: its body as a term of rules, and the reading of that term -/
theorem Fun.ok {x qual : Str} {st : Stmt} {f : Addr} {fd : FuncData} {N ps : List Str} {k : Nat} {sp : Sp} (F : Fun K x qual st f fd) (S : FnScope N ps (defScope st)) (len : ∀ vs H Q E, sp vs H Q E → vs.length = ps.length)
    (hbody : ∀ (cdv : Value) (A : Around) (outer : List Env) (s : Shared) (H : Hp) (vs : List V) (Q : VK) (E : XK), Room k (A.deeper (envOfC qual (defScope st) s.heap.objs.size f cdv)) → sp vs H Q E →
      ∃ t, PSs (cxOf CX0 P w K mg base N qual (defScope st) f cdv A outer s H E).nox (defBody st) t ∧ t { nx := fun _ H' => Q .non H', rt := Q } (start N vs) H) : FnOk P w K mg base CX0 (k + 1) f fd ps sp := by
  obtain ⟨oc, od, kV, doc, pm, an, cdv, ct, osl, rfl, lk, hcd⟩ := F.ex
  refine fn_of lk hcd S len fun A outer s H vs Q E hr hsp => ?_
  obtain ⟨t, h, q⟩ := hbody cdv A outer s H vs Q E hr hsp
  exact ⟨t, h.nox, q⟩
/-- how its arguments bind (no defaults): h is «fun _ _ _ _ _ _ us hl => match us, hl with | [_, _], _ => rfl», one _ a parameter -/
theorem Fun.binds {x qual : Str} {st : Stmt} {f : Addr} {fd : FuncData} {ps : List Str} (F : Fun K x qual st f fd)
    (h : ∀ (kV doc pm : Value) (an : Option Addr) (cdv ct : Value) (us : List Value), us.length = ps.length → bindArgs (PySem.W.fnOf x qual (defArgs st) (defBody st) (defScope st) .none kV doc pm an cdv ct) ⟨us, []⟩ = pure (ps.zip us)) : Binds K fd ps [] := by
  obtain ⟨oc, od, kV, doc, pm, an, cdv, ct, osl, rfl, lk, hcd⟩ := F.ex
  exact .all (h kV doc pm an cdv ct)
theorem fun_mk {x qual : Str} {st : Stmt} {f : Addr} {oc : Value} {od an : Option Addr} {osl : Array (Option Value)} {kV doc pm cdv ct : Value} (l : K.lookup f = some ⟨oc, od, .func (PySem.W.fnOf x qual (defArgs st) (defBody st) (defScope st) .none kV doc pm an cdv ct), osl⟩)
    (c : PySem.W.codeIn K cdv qual = true) (k : PySem.W.keepIn K (.ref f) = true) : Fun K x qual st f (PySem.W.fnOf x qual (defArgs st) (defBody st) (defScope st) .none kV doc pm an cdv ct) := ⟨⟨oc, od, kV, doc, pm, an, cdv, ct, osl, rfl, l, c⟩, k⟩
end
theorem hu_of {A : Around} {k : Nat} (hr : Room k A) : A.units + 1 < cLine := Nat.lt_of_le_of_lt (Nat.add_le_add_left (by decide : 1 ≤ 64) _) hr.units
section
variable {X : Cx}
theorem pv (i : Nat) {x : Str} {pos : Pos} (hN : X.N[i]? = some x := by rfl) (hv : Vis X.env.scope x := by first | exact Or.inl rfl | exact Or.inr (Or.inl rfl) | exact Or.inr (Or.inr rfl)) (hd : (x == ("__debug__" : Str)) = false := by decide)
    (hcd : (x == ("__classdict__" : Str)) = false := by decide) : PE X (.Name x pos) (tVar i) := pe_var hN hv hd hcd
end
theorem iteF {A B : Prop} (h : B) : if false = true then A else B := by
  rw [if_neg Bool.false_ne_true]
  exact h
theorem iteT {A B : Prop} (h : A) : if true = true then A else B := by
  rw [if_pos rfl]
  exact h
theorem ite2 {c A B : Prop} [Decidable c] (h1 : c → A) (h2 : ¬ c → B) : if c then A else B := by
  by_cases h : c
  · rw [if_pos h]
    exact h1 h
  · rw [if_neg h]
    exact h2 h
/-- all that was tracked is as it was -/
def Same (H H' : Hp) : Prop := ∀ b o, H b = some o → H' b = some o
theorem Same.refl (H : Hp) : Same H H := fun _ _ h => h
theorem Same.trans {H H1 H2 : Hp} (a : Same H H1) (b : Same H1 H2) : Same H H2 := fun c o h => b c o (a c o h)
theorem Same.free {H H' : Hp} (e : Same H H') {l : Addr} (h : H' l = Option.none) : H l = Option.none := by
  cases q : H l with
  | none => rfl
  | some o =>
    rw [e l o q] at h
    cases h
theorem Same.seq {K : PySem.W.Frag} {H H' : Hp} {a : Addr} {xs : List V} (e : Same H H') (h : SqL K H a xs) : SqL K H' a xs := by
  rcases h with (h | ⟨o, h⟩) | h
  · exact .inl (.inl (e _ _ h))
  · exact .inl (.inr ⟨o, e _ _ h⟩)
  · exact .inr h
section
variable {κ : Type} [DecidableEq κ]
end
/-- a new instance and its __init__ leave all that was tracked as it was -/
theorem Same.made {H H1 : Hp} {x dx C : Addr} (nx : H x = Option.none) (nd : H dx = Option.none) (k : ∀ b o, (upd (upd H dx (.own x)) x (.ins C dx [])) b = some o → b ≠ x → H1 b = some o) : Same H H1 := fun b o e =>
  k b o (by rw [upd_ne (ne_of_none e nx), upd_ne (ne_of_none e nd)]; exact e) (ne_of_none e nx)
end L2
section
set_option Elab.async false
set_option linter.all false
set_option maxRecDepth 100000
set_option maxHeartbeats 2000000
namespace L2
open PySem PySem.Spec PyProof.Rows
open PySem.W (WData Codec OpenSpec Well WellAll ReadsW ReadsAllW)
/-! ### an answer as data -/
mutual
/-- x stands for the datum d, lists and tuples all the way -/
inductive Dw (K : PySem.W.Frag) (H : Hp) : V → WData → Prop
  | non : Dw K H .non .none
  | bl (b : Bool) : Dw K H (.bl b) (.bool b)
  | int (i : Int) : Dw K H (.int i) (.int i)
  | str (x : Str) : Dw K H (.str x) (.str x)
  | byt (b : Array UInt8) : Dw K H (.byt b) (.bytes b.toList)
  | lst {a : Addr} {xs : List V} {ds : List WData} : SqL K H a xs → DwAll K H xs ds → Dw K H (.ref a) (.list ds)
  | tup {a : Addr} {xs : List V} {ds : List WData} : SqT K H a xs → DwAll K H xs ds → Dw K H (.ref a) (.tuple ds)
inductive DwAll (K : PySem.W.Frag) (H : Hp) : List V → List WData → Prop
  | nil : DwAll K H [] []
  | cons {v : V} {vs : List V} {d : WData} {ds : List WData} : Dw K H v d → DwAll K H vs ds → DwAll K H (v :: vs) (d :: ds)
end
theorem dw_ints {K : PySem.W.Frag} {H : Hp} : ∀ ns : List Int, DwAll K H (ns.map V.int) (ns.map WData.int)
  | [] => .nil
  | n :: r => .cons (.int n) (dw_ints r)
theorem ints_dw {K : PySem.W.Frag} {H : Hp} : ∀ (ns : List Int) (xs : List V), DwAll K H xs (ns.map WData.int) → xs = ns.map V.int
  | [], xs, h => by
    cases h
    rfl
  | n :: r, xs, h => by
    cases h with
    | cons h1 h2 =>
      cases h1
      rw [ints_dw r _ h2] <;> rfl
section
variable {P : Program} {w : World} {K : PySem.W.Frag} {H : Hp} {h : Heap} {R : PySem.W.WRecords} {cl : Str → Option Addr}
theorem sqL_at {a : Addr} {xs : List V} (hok : HOk P w H h) (KX : K.In h) (q : SqL K H a xs) : ∃ (its : List Value) (o : Obj) (n : Nat), Vals xs its ∧ h.get? a = some o ∧ o.cls = .type "list" ∧ o.data = .seq its.toArray n := by
  rcases q with q | ⟨o, its, n, e, hc, _, hd, _, hv⟩
  · obtain ⟨_, its, n, hv, e⟩ := (show ObjOk P w H h a (.lst xs) from q.ok hok)
    exact ⟨its, _, n, hv, e, rfl, rfl⟩
  · exact ⟨its.toList, o, n, hv, KX _ _ e, hc, by simp [hd]⟩
theorem sqT_at {a : Addr} {xs : List V} (hok : HOk P w H h) (KX : K.In h) (q : SqT K H a xs) : ∃ (its : List Value) (o : Obj) (n : Nat), Vals xs its ∧ h.get? a = some o ∧ o.cls = .type "tuple" ∧ o.data = .seq its.toArray n := by
  rcases q with q | ⟨o, its, n, e, hc, hd, _, hv⟩
  · obtain ⟨_, its, hv, o, e, hc, n, hd⟩ := (show ObjOk P w H h a (.tup xs) from q.ok hok)
    exact ⟨its, o, n, hv, e, hc, hd⟩
  · exact ⟨its.toList, o, n, hv, KX _ _ e, hc, by simp [hd]⟩
mutual
theorem Dw.reads (hok : HOk P w H h) (KX : K.In h) : ∀ (d : WData) (v : V) (u : Value), Dw K H v d → RelV v u → ∃ as, ReadsW R cl h u d as
  | .none, _, _, x, r => by
    cases x
    cases r
    exact ⟨_, ReadsW.none⟩
  | .bool b, _, _, x, r => by
    cases x
    cases r
    exact ⟨_, ReadsW.bool b⟩
  | .int i, _, _, x, r => by
    cases x
    obtain ⟨t, rfl⟩ := r
    exact ⟨_, ReadsW.int i t⟩
  | .str s, _, _, x, r => by
    cases x
    obtain ⟨t, rfl⟩ := r
    exact ⟨_, ReadsW.str s t⟩
  | .bytes b, _, _, x, r => by
    cases x
    obtain ⟨t, rfl⟩ := r
    exact ⟨_, ReadsW.bytes _ t⟩
  | .list ds, _, _, x, r => by
    cases x with
    | lst hs ha =>
      cases r
      obtain ⟨its, o, n, rv, ho, hc, hd⟩ := sqL_at hok KX hs
      obtain ⟨as, hr⟩ := Dw.readsAll hok KX ds _ its ha rv
      exact ⟨_, ReadsW.list ho hc hd hr⟩
  | .tuple ds, _, _, x, r => by
    cases x with
    | tup hs ha =>
      cases r
      obtain ⟨its, o, n, rv, ho, hc, hd⟩ := sqT_at hok KX hs
      obtain ⟨as, hr⟩ := Dw.readsAll hok KX ds _ its ha rv
      exact ⟨_, ReadsW.tuple ho hc hd hr⟩
  | .float _, _, _, x, _ => by cases x
  | .dict _, _, _, x, _ => by cases x
  | .bytearray _, _, _, x, _ => by cases x
  | .set _, _, _, x, _ => by cases x
  | .frozenset _, _, _, x, _ => by cases x
  | .obj _ _, _, _, x, _ => by cases x
theorem Dw.readsAll (hok : HOk P w H h) (KX : K.In h) : ∀ (ds : List WData) (vs : List V) (us : List Value), DwAll K H vs ds → Vals vs us → ∃ as, ReadsAllW R cl h us ds as
  | [], _, _, x, r => by
    cases x
    cases r
    exact ⟨_, ReadsAllW.nil⟩
  | d :: ds, _, _, x, r => by
    cases x with
    | cons h1 h2 =>
      cases r with
      | cons r1 r2 =>
        obtain ⟨as, q1⟩ := Dw.reads hok KX d _ _ h1 r1
        obtain ⟨bs, q2⟩ := Dw.readsAll hok KX ds _ _ h2 r2
        exact ⟨_, ReadsAllW.cons q1 q2⟩
end
end
/-! ### the arguments -/
mutual
/-- data that a codec tells -/
def plW : WData → Bool
  | .none => true
  | .bool _ => true
  | .int _ => true
  | .str _ => true
  | .bytes _ => true
  | .list xs => plWs xs
  | .tuple xs => plWs xs
  | _ => false
def plWs : List WData → Bool
  | [] => true
  | x :: r => plW x && plWs r
end
theorem plWs_map {α : Type} {f : α → WData} (h : ∀ a, plW (f a) = true) : ∀ l : List α, plWs (l.map f) = true
  | [] => rfl
  | x :: r => by
    show (plW (f x) && plWs (r.map f)) = true
    rw [h x, plWs_map h r] <;> rfl
theorem pl_enc : ∀ (c : Codec) (a : c.denote), plW (c.enc a) = true
  | .unit, _ => rfl
  | .bool, _ => rfl
  | .int _ _, _ => rfl
  | .nat _ _, _ => rfl
  | .u8, _ => rfl
  | .bytes _ _, _ => rfl
  | .text _ _ _ _, _ => rfl
  | .list _ _ c, a => plWs_map (fun x => pl_enc c x) a
  | .pair c d, a => by
    show (plW (c.enc a.1) && (plW (d.enc a.2) && true)) = true
    rw [pl_enc c a.1, pl_enc d a.2] <;> rfl
  | .triple c d e, a => by
    show (plW (c.enc a.1) && (plW (d.enc a.2.1) && (plW (e.enc a.2.2) && true))) = true
    rw [pl_enc c a.1, pl_enc d a.2.1, pl_enc e a.2.2] <;> rfl
  | .option c, none => rfl
  | .option c, some x => pl_enc c x
theorem pl_encAll : ∀ (cs : List Codec) (a : Codec.denoteAll cs), plWs (Codec.encAll cs a) = true
  | [], _ => rfl
  | c :: cs, a => by
    show (plW (c.enc a.1) && plWs (Codec.encAll cs a.2)) = true
    rw [pl_enc c a.1, pl_encAll cs a.2] <;> rfl
theorem weight_mem : ∀ {xs : List WData} {d : WData}, d ∈ xs → d.weight ≤ WData.weightAll xs
  | [], d, h => absurd h (by simp)
  | x :: r, d, h => by
    show d.weight ≤ x.weight + 1 + WData.weightAll r
    rcases List.mem_cons.mp h with e | m
    · rw [e]
      omega
    · have z := weight_mem m
      omega
def toV : Value → V
  | .none => .non
  | .bool b => .bl b
  | .int i _ => .int i
  | .str x _ => .str x
  | .bytes b _ => .byt b
  | .ref a => .ref a
  | _ => .non
/-- a value of the arguments, its objects among A -/
def OkU (A : List Addr) : Value → Prop
  | .none => True
  | .bool _ => True
  | .int _ _ => True
  | .str _ _ => True
  | .bytes _ _ => True
  | .ref a => a ∈ A
  | _ => False
theorem OkU.mono {A B : List Addr} (h : ∀ a ∈ A, a ∈ B) : ∀ {u : Value}, OkU A u → OkU B u := fun {u} x => by
  cases u with
  | ref a => exact h a x
  | none => trivial
  | bool b => trivial
  | int i t => trivial
  | str s t => trivial
  | bytes b t => trivial
  | _ => exact False.elim x
theorem relV_toV {A : List Addr} {u : Value} (x : OkU A u) : RelV (toV u) u := by
  cases u with
  | ref a => rfl
  | none => rfl
  | bool b => rfl
  | int i t => exact ⟨t, rfl⟩
  | str s t => exact ⟨t, rfl⟩
  | bytes b t => exact ⟨t, rfl⟩
  | _ => exact False.elim x
theorem vals_toV {A : List Addr} : ∀ {vs : List Value}, (∀ u ∈ vs, OkU A u) → Vals (vs.map toV) vs
  | [], _ => .nil
  | u :: r, h => .cons (relV_toV (h u (List.mem_cons_self ..))) (vals_toV fun x hx => h x (List.mem_cons_of_mem _ hx))
/-- an object of the arguments -/
def ArgOb (h : Heap) (A : List Addr) (a : Addr) : Prop := ∃ vs : List Value, vs.length ≤ sizeLine ∧ (∀ u ∈ vs, OkU A u) ∧
  (h.get? a = some { cls := .type "list", data := .seq vs.toArray } ∨ h.get? a = some { cls := .type "tuple", data := .seq vs.toArray })
theorem ArgOb.mono {h : Heap} {A B : List Addr} {a : Addr} (k : ∀ a ∈ A, a ∈ B) (x : ArgOb h A a) : ArgOb h B a := by
  obtain ⟨vs, h1, h2, h3⟩ := x
  exact ⟨vs, h1, fun u hu => (h2 u hu).mono k, h3⟩
theorem wellAll_len {P : Params} {h : Heap} : ∀ {vs : List Value} {ds : List WData}, WellAll P h vs ds → vs.length = ds.length
  | _, _, .nil => rfl
  | _, _, .cons _ b => by
    show _ + 1 = _ + 1
    rw [wellAll_len b]
theorem well_list {P : Params} {h : Heap} {v : Value} {ds : List WData} (x : Well P h v (.list ds)) : ∃ (a : Addr) (vs : List Value), v = .ref a ∧ h.get? a = some { cls := .type "list", data := .seq vs.toArray } ∧ WellAll P h vs ds := by
  cases x with
  | list ho hall => exact ⟨_, _, rfl, ho, hall⟩
theorem well_tuple {P : Params} {h : Heap} {v : Value} {ds : List WData} (x : Well P h v (.tuple ds)) : ∃ (a : Addr) (vs : List Value), v = .ref a ∧ h.get? a = some { cls := .type "tuple", data := .seq vs.toArray } ∧ WellAll P h vs ds := by
  cases x with
  | tuple ho hall => exact ⟨_, _, rfl, ho, hall⟩
theorem well_cons {P : Params} {h : Heap} {us : List Value} {d : WData} {ds : List WData} (x : WellAll P h us (d :: ds)) : ∃ (v : Value) (vs : List Value), us = v :: vs ∧ Well P h v d ∧ WellAll P h vs ds := by
  cases x with
  | cons a b => exact ⟨_, _, rfl, a, b⟩
theorem line_of {n : Nat} (h : n ≤ 1048576) : n ≤ sizeLine := Nat.le_trans h (by decide)
section
variable {P : Params} {h : Heap}
mutual
theorem area_one : ∀ (d : WData) (v : Value), Well P h v d → plW d = true → d.weight ≤ 1048576 → ∃ A : List Addr, OkU A v ∧ ∀ a ∈ A, ArgOb h A a
  | .none, _, x, _, _ => by
    cases x
    exact ⟨[], trivial, fun a m => absurd m (by simp)⟩
  | .bool b, _, x, _, _ => by
    cases x
    exact ⟨[], trivial, fun a m => absurd m (by simp)⟩
  | .int i, _, x, _, _ => by
    cases x
    exact ⟨[], trivial, fun a m => absurd m (by simp)⟩
  | .str s, _, x, _, _ => by
    cases x
    exact ⟨[], trivial, fun a m => absurd m (by simp)⟩
  | .bytes b, _, x, _, _ => by
    cases x
    exact ⟨[], trivial, fun a m => absurd m (by simp)⟩
  | .list ds, _, x, p, z => by
    obtain ⟨a, vs, rfl, ho, hall⟩ := well_list x
    have z2 : WData.weightAll ds ≤ 1048576 := z
    obtain ⟨A, h1, h2⟩ := area_all ds _ hall p fun d hd => Nat.le_trans (weight_mem hd) z2
    have k : ∀ b ∈ A, b ∈ a :: A := fun b hb => List.mem_cons_of_mem _ hb
    refine ⟨a :: A, List.mem_cons_self .., fun b hb => ?_⟩
    rcases List.mem_cons.mp hb with e | m
    · rw [e]
      exact ⟨vs, line_of (by rw [wellAll_len hall]; exact Nat.le_trans (PySem.W.length_le_weightAllW ds) z2), fun u hu => (h1 u hu).mono k, .inl ho⟩
    · exact (h2 b m).mono k
  | .tuple ds, _, x, p, z => by
    obtain ⟨a, vs, rfl, ho, hall⟩ := well_tuple x
    have z2 : WData.weightAll ds ≤ 1048576 := z
    obtain ⟨A, h1, h2⟩ := area_all ds _ hall p fun d hd => Nat.le_trans (weight_mem hd) z2
    have k : ∀ b ∈ A, b ∈ a :: A := fun b hb => List.mem_cons_of_mem _ hb
    refine ⟨a :: A, List.mem_cons_self .., fun b hb => ?_⟩
    rcases List.mem_cons.mp hb with e | m
    · rw [e]
      exact ⟨vs, line_of (by rw [wellAll_len hall]; exact Nat.le_trans (PySem.W.length_le_weightAllW ds) z2), fun u hu => (h1 u hu).mono k, .inr ho⟩
    · exact (h2 b m).mono k
  | .float _, _, _, p, _ => Bool.noConfusion (show false = true from p)
  | .dict _, _, _, p, _ => Bool.noConfusion (show false = true from p)
  | .bytearray _, _, _, p, _ => Bool.noConfusion (show false = true from p)
  | .set _, _, _, p, _ => Bool.noConfusion (show false = true from p)
  | .frozenset _, _, _, p, _ => Bool.noConfusion (show false = true from p)
  | .obj _ _, _, _, p, _ => Bool.noConfusion (show false = true from p)
theorem area_all : ∀ (ds : List WData) (vs : List Value), WellAll P h vs ds → plWs ds = true → (∀ d ∈ ds, d.weight ≤ 1048576) → ∃ A : List Addr, (∀ u ∈ vs, OkU A u) ∧ ∀ a ∈ A, ArgOb h A a
  | [], _, x, _, _ => by
    cases x
    exact ⟨[], fun u m => absurd m (by simp), fun a m => absurd m (by simp)⟩
  | d :: ds, _, x, p, z => by
    obtain ⟨v, vs, rfl, x1, x2⟩ := well_cons x
    have q : plW d = true ∧ plWs ds = true := Bool.and_eq_true_iff.mp p
    obtain ⟨A, a1, a2⟩ := area_one d v x1 q.1 (z d (List.mem_cons_self ..))
    obtain ⟨B, b1, b2⟩ := area_all ds vs x2 q.2 fun e he => z e (List.mem_cons_of_mem _ he)
    have kA : ∀ b ∈ A, b ∈ A ++ B := fun b hb => List.mem_append.mpr (.inl hb)
    have kB : ∀ b ∈ B, b ∈ A ++ B := fun b hb => List.mem_append.mpr (.inr hb)
    refine ⟨A ++ B, fun u hu => ?_, fun b hb => ?_⟩
    · rcases List.mem_cons.mp hu with e | m
      · rw [e]
        exact a1.mono kA
      · exact (b1 u m).mono kB
    · rcases List.mem_append.mp hb with m | m
      · exact (a2 b m).mono kA
      · exact (b2 b m).mono kB
end
end
/-- what is tracked of an argument's object -/
def hoOf (o : Obj) : Option HO := match o.data with
  | .seq vs _ => if (o.cls == Value.type "list") = true then some (.frz o (.lst (vs.toList.map toV))) else some (.frz o (.tup (vs.toList.map toV)))
  | _ => none
def argH (K : PySem.W.Frag) (h : Heap) (A : List Addr) : Hp := fun b => if b ∈ A then (if (K.lookup b).isNone = true then (h.get? b).bind hoOf else none) else none
/-- nothing is tracked but what is known to the object -/
def OnlyF (H : Hp) : Prop := ∀ b, H b = none ∨ ∃ o u, H b = some (.frz o u)
theorem hoOf_lst (vs : List Value) : hoOf { cls := .type "list", data := .seq vs.toArray } = some (.frz { cls := .type "list", data := .seq vs.toArray } (.lst (vs.map toV))) := by
  show (if (Value.type "list" == Value.type "list") = true then some (HO.frz { cls := .type "list", data := .seq vs.toArray } (.lst (vs.toArray.toList.map toV))) else some (HO.frz { cls := .type "list", data := .seq vs.toArray } (.tup (vs.toArray.toList.map toV)))) = _
  rw [if_pos (beq_self_eq_true _)]
theorem hoOf_tup (vs : List Value) : hoOf { cls := .type "tuple", data := .seq vs.toArray } = some (.frz { cls := .type "tuple", data := .seq vs.toArray } (.tup (vs.map toV))) := by
  show (if (Value.type "tuple" == Value.type "list") = true then some (HO.frz { cls := .type "tuple", data := .seq vs.toArray } (.lst (vs.toArray.toList.map toV))) else some (HO.frz { cls := .type "tuple", data := .seq vs.toArray } (.tup (vs.toArray.toList.map toV)))) = _
  rw [if_neg (by decide)]
section
variable {P : Program} {w : World} {K : PySem.W.Frag} {h : Heap} {A : List Addr}
theorem argH_at {b : Addr} {o : Obj} (hb : b ∈ A) (hk : K.lookup b = none) (e : h.get? b = some o) : argH K h A b = hoOf o := by
  unfold argH
  rw [if_pos hb, hk, if_pos (show (none : Option Obj).isNone = true from rfl), e] <;> rfl
theorem of_argH {b : Addr} {u : HO} (q : argH K h A b = some u) : b ∈ A ∧ K.lookup b = none := by
  unfold argH at q
  by_cases hb : b ∈ A
  · rw [if_pos hb] at q
    cases hk : K.lookup b with
    | none => exact ⟨hb, rfl⟩
    | some o =>
      rw [hk, if_neg (by simp)] at q
      cases q
  · rw [if_neg hb] at q
    cases q
/-- what stands tracked -/
theorem argH_is (ar : ∀ a ∈ A, ArgOb h A a) {b : Addr} {u : HO} (q : argH K h A b = some u) : K.lookup b = none ∧ ∃ vs : List Value, vs.length ≤ sizeLine ∧ (∀ u ∈ vs, OkU A u) ∧
    ((h.get? b = some { cls := .type "list", data := .seq vs.toArray } ∧ u = .frz { cls := .type "list", data := .seq vs.toArray } (.lst (vs.map toV))) ∨
     (h.get? b = some { cls := .type "tuple", data := .seq vs.toArray } ∧ u = .frz { cls := .type "tuple", data := .seq vs.toArray } (.tup (vs.map toV)))) := by
  obtain ⟨hb, hk⟩ := of_argH q
  obtain ⟨vs, h1, h2, h3⟩ := ar b hb
  refine ⟨hk, vs, h1, h2, ?_⟩
  rcases h3 with e | e
  · rw [argH_at hb hk e, hoOf_lst] at q
    exact .inl ⟨e, (Option.some.inj q).symm⟩
  · rw [argH_at hb hk e, hoOf_tup] at q
    exact .inr ⟨e, (Option.some.inj q).symm⟩
theorem argH_only (ar : ∀ a ∈ A, ArgOb h A a) : OnlyF (argH K h A) := fun b => by
  cases q : argH K h A b with
  | none => exact .inl rfl
  | some u =>
    obtain ⟨_, vs, _, _, ⟨_, e⟩ | ⟨_, e⟩⟩ := argH_is ar q
    · exact .inr ⟨_, _, by rw [e]⟩
    · exact .inr ⟨_, _, by rw [e]⟩
theorem argH_ok (ar : ∀ a ∈ A, ArgOb h A a) : HOk P w (argH K h A) h := fun b u q => by
  obtain ⟨_, vs, h1, h2, ⟨e, rfl⟩ | ⟨e, rfl⟩⟩ := argH_is ar q
  · exact ⟨e, by rw [List.length_map]; exact h1, vs, _, vals_toV h2, e⟩
  · exact ⟨e, by rw [List.length_map]; exact h1, vs, vals_toV h2, _, e, rfl, _, rfl⟩
theorem seq_inj {c c' : Value} {vs us : List Value} (e : (some { cls := c, data := .seq vs.toArray } : Option Obj) = some { cls := c', data := .seq us.toArray }) : c = c' ∧ vs = us := by
  have e1 := Option.some.inj e
  have e2 : c = c' := congrArg Obj.cls e1
  have e3 : Data.seq vs.toArray = Data.seq us.toArray := congrArg Obj.data e1
  injection e3 with e4
  refine ⟨e2, ?_⟩
  have e5 := congrArg Array.toList e4
  simpa using e5
/-- a list argument -/
theorem argL (KX : K.In h) (ar : ∀ a ∈ A, ArgOb h A a) {a : Addr} {vs : List Value} (ha : a ∈ A) (e : h.get? a = some { cls := .type "list", data := .seq vs.toArray }) : (∀ u ∈ vs, OkU A u) ∧ SqL K (argH K h A) a (vs.map toV) := by
  obtain ⟨us, h1, h2, h3⟩ := ar a ha
  have hu : us = vs := by
    rcases h3 with q | q
    · rw [e] at q
      exact (seq_inj q).2.symm
    · rw [e] at q
      exact absurd (Value.type.inj (seq_inj q).1) (by decide)
  subst hu
  refine ⟨h2, ?_⟩
  cases hk : K.lookup a with
  | none => exact .inl (.inr ⟨_, by rw [argH_at ha hk e, hoOf_lst]⟩)
  | some o =>
    have e2 := KX a o hk
    rw [e] at e2
    obtain rfl := Option.some.inj e2
    exact .inr ⟨_, us.toArray, _, hk, rfl, rfl, rfl, by rw [List.size_toArray]; exact h1, by simpa using vals_toV h2⟩
theorem argT (KX : K.In h) (ar : ∀ a ∈ A, ArgOb h A a) {a : Addr} {vs : List Value} (ha : a ∈ A) (e : h.get? a = some { cls := .type "tuple", data := .seq vs.toArray }) : (∀ u ∈ vs, OkU A u) ∧ SqT K (argH K h A) a (vs.map toV) := by
  obtain ⟨us, h1, h2, h3⟩ := ar a ha
  have hu : us = vs := by
    rcases h3 with q | q
    · rw [e] at q
      exact absurd (Value.type.inj (seq_inj q).1) (by decide)
    · rw [e] at q
      exact (seq_inj q).2.symm
  subst hu
  refine ⟨h2, ?_⟩
  cases hk : K.lookup a with
  | none => exact .inl (.inr ⟨_, by rw [argH_at ha hk e, hoOf_tup]⟩)
  | some o =>
    have e2 := KX a o hk
    rw [e] at e2
    obtain rfl := Option.some.inj e2
    exact .inr ⟨_, us.toArray, _, hk, rfl, rfl, by rw [List.size_toArray]; exact h1, by simpa using vals_toV h2⟩
mutual
theorem dw_one {Pm : Params} (KX : K.In h) (ar : ∀ a ∈ A, ArgOb h A a) : ∀ (d : WData) (v : Value), Well Pm h v d → plW d = true → OkU A v → Dw K (argH K h A) (toV v) d
  | .none, _, x, _, _ => by
    cases x
    exact .non
  | .bool b, _, x, _, _ => by
    cases x
    exact .bl b
  | .int i, _, x, _, _ => by
    cases x
    exact .int i
  | .str s, _, x, _, _ => by
    cases x
    exact .str s
  | .bytes b, _, x, _, _ => by
    cases x
    have z := Dw.byt (K := K) (H := argH K h A) b.toArray
    exact z
  | .list ds, _, x, p, hu => by
    obtain ⟨a, vs, rfl, ho, hall⟩ := well_list x
    obtain ⟨h2, hs⟩ := argL KX ar hu ho
    exact .lst hs (dw_all KX ar ds _ hall p h2)
  | .tuple ds, _, x, p, hu => by
    obtain ⟨a, vs, rfl, ho, hall⟩ := well_tuple x
    obtain ⟨h2, hs⟩ := argT KX ar hu ho
    exact .tup hs (dw_all KX ar ds _ hall p h2)
  | .float _, _, _, p, _ => Bool.noConfusion (show false = true from p)
  | .dict _, _, _, p, _ => Bool.noConfusion (show false = true from p)
  | .bytearray _, _, _, p, _ => Bool.noConfusion (show false = true from p)
  | .set _, _, _, p, _ => Bool.noConfusion (show false = true from p)
  | .frozenset _, _, _, p, _ => Bool.noConfusion (show false = true from p)
  | .obj _ _, _, _, p, _ => Bool.noConfusion (show false = true from p)
theorem dw_all {Pm : Params} (KX : K.In h) (ar : ∀ a ∈ A, ArgOb h A a) : ∀ (ds : List WData) (vs : List Value), WellAll Pm h vs ds → plWs ds = true → (∀ u ∈ vs, OkU A u) → DwAll K (argH K h A) (vs.map toV) ds
  | [], _, x, _, _ => by
    cases x
    exact .nil
  | d :: ds, _, x, p, hu => by
    obtain ⟨v, vs, rfl, x1, x2⟩ := well_cons x
    have q : plW d = true ∧ plWs ds = true := Bool.and_eq_true_iff.mp p
    exact .cons (dw_one KX ar d v x1 q.1 (hu _ (List.mem_cons_self ..))) (dw_all KX ar ds vs x2 q.2 fun u m => hu u (List.mem_cons_of_mem _ m))
end
end
/-! ### the call -/
theorem spec_call {P : Program} {w : World} {K : PySem.W.Frag} {mg mb : Str → Option Value} {CX : CXT} {k : Nat} {fa : Addr} {fd : FuncData} {ps : List Str} {sp : Sp} {s₁ : Shared} {vals : List Value} {ds : List WData} {R : PySem.W.WRecords} {cl : Str → Option Addr} {d0 : WData}
    (KX : K.In s₁.heap) (hns : s₁.heap.Ns mainGlobals mg) (hb : s₁.heap.Ns builtinsNs mb) (hbb : ∀ x : Str, x ≠ "__name__" → mb x = bootBuiltins x) (hlim : s₁.heap.NoLimit) (hg : s₁.gens = #[])
    (hwl : WellAll w.params s₁.heap vals ds) (hpl : plWs ds = true) (hwt : ∀ d ∈ ds, d.weight ≤ 1048576) (hr : Room k callerA)
    (F : ∀ base : Heap, K.In base → base.Ns mainGlobals mg → FnOk P w K mg base CX k fa fd ps sp) (hbind : ∀ (s : Shared) (us : List Value), us.length = ps.length → BindsTo s fd ⟨us, []⟩ (ps.zip us)) (hlen : ds.length = ps.length)
    (hsp : ∀ (H : Hp) (xs : List V), OnlyF H → DwAll K H xs ds → sp xs H (fun v H' => Dw K H' v d0) fun _ _ _ => False)
    (hCX : ∀ H e s', CX [] H s₁ (fun _ _ _ => False) e s' → False) :
    codeAny (model P w) callerA (.call (.ref fa) ⟨vals, []⟩) (fun r s' => ∃ u as, r = .ok (.ret u) ∧ ReadsW R cl s'.heap u d0 as ∧ OldK s₁.heap s'.heap ∧ s'.os = s₁.os ∧ AllBare s'.gens) s₁ := by
  obtain ⟨A, ho, ar⟩ := area_all ds vals hwl hpl hwt
  have hO : OnlyF (argH K s₁.heap A) := argH_only ar
  have hok : HOk P w (argH K s₁.heap A) s₁.heap := argH_ok ar
  have hS := dw_all KX ar ds vals hwl hpl ho
  have hV := vals_toV ho
  have hK : ∀ b u, argH K s₁.heap A b = some u → K.lookup b = none := fun b u q => (argH_is ar q).1
  have noA : ∀ {b : Addr} {o : Obj} {es : Array DictEntry} {ep : Nat}, s₁.heap.get? b = some o → o.data = .dict es ep → argH K s₁.heap A b = none := fun {b o es ep} e d => by
    cases q : argH K s₁.heap A b with
    | none => rfl
    | some u =>
      obtain ⟨_, vs, _, _, ⟨e2, _⟩ | ⟨e2, _⟩⟩ := argH_is ar q
      · rw [e2] at e
        cases e
        have d' : Data.seq vs.toArray _ = Data.dict es ep := d
        cases d'
      · rw [e2] at e
        cases e
        have d' : Data.seq vs.toArray _ = Data.dict es ep := d
        cases d'
  generalize argH K s₁.heap A = H at hO hok hS hK noA
  have base_of : ∀ {b : Addr} {o : Obj}, s₁.heap.get? b = some o → H b = none → (hidT s₁.heap H).get? b = some o := fun e n => hidT_get e n
  have nsK : ∀ {b : Addr} {m : Str → Option Value}, s₁.heap.Ns b m → (hidT s₁.heap H).Ns b m := fun {b m} ⟨o, es, ep, e, d, r⟩ => ⟨o, es, ep, base_of e (noA e d), d, r⟩
  have nK : ∀ b o, K.lookup b = some o → H b = none := fun b o e => by
    cases q : H b with
    | none => rfl
    | some u =>
      rw [hK b u q] at e
      cases e
  have hKb : K.In (hidT s₁.heap H) := fun b o e => base_of (KX b o e) (nK b o e)
  have hM : Mod K mg (hidT s₁.heap H) := ⟨hKb, nsK hns, ⟨mb, nsK hb, hbb⟩, let ⟨mc, h1, h2⟩ := hlim; ⟨mc, nsK h1, h2⟩⟩
  have e0 : Env0 P w K mg (hidT s₁.heap H) callerA [] s₁ H := ⟨rfl, hM, fun b o e => of_hidT e, Nat.le_of_eq (hidT_size _ _), trivial, fun b hb => absurd (show b ∈ ([] : List Addr) from hb) (by simp), hok, .of_eq hg⟩
  have hl : vals.length = ps.length := by rw [wellAll_len hwl]; exact hlen
  refine codeAny_mono ((F _ hKb (nsK hns)).run callerA [] s₁ H ⟨vals, []⟩ vals (vals.map toV) _ _ hr e0 (hbind s₁ vals hl) hV (hsp H _ hO hS)) fun r s' x => ?_
  cases r with
  | error e => exact (hCX H e s' x).elim
  | ok fl =>
    cases fl with
    | next => exact False.elim x
    | brk => exact False.elim x
    | cont => exact False.elim x
    | ret u =>
      obtain ⟨v, H', os, bare, un, hok', r', q⟩ := x
      have kept : ∀ b o, s₁.heap.get? b = some o → s'.heap.get? b = some o := fun b o e => by
        cases q2 : H b with
        | none => exact un.keep b o e q2 (by intro z; exact absurd (show b ∈ ([] : List Addr) from z) (by simp)) (by simp)
        | some u2 =>
          rcases hO b with z | ⟨ob, u3, z⟩
          · rw [q2] at z
            cases z
          · have z2 := un.frzs b ob _ z
            obtain ⟨e1, _⟩ := hok b _ z
            obtain ⟨e2, _⟩ := hok' b _ z2
            rw [e] at e1
            cases e1
            exact e2
      have KX' : K.In s'.heap := fun b o e => kept b o (KX b o e)
      obtain ⟨as, hrd⟩ := Dw.reads (R := R) (cl := cl) hok' KX' d0 v u q r'
      exact ⟨u, as, rfl, hrd, OldK.of_keep kept, os, bare⟩
/-! ### the row -/
theorem layable_weight {ds : List WData} (h : WData.layableAll ds = true) : ∀ d ∈ ds, d.weight ≤ 1048576 := fun d hd =>
  (PySem.W.layableW_iff.mp (List.all_eq_true.mp h d hd)).2.2
theorem encAll_len : ∀ (cs : List Codec) (a : Codec.denoteAll cs), (Codec.encAll cs a).length = cs.length
  | [], _ => rfl
  | c :: cs, a => by
    show (Codec.encAll cs a.2).length + 1 = cs.length + 1
    rw [encAll_len cs a.2]
/-- the goal that k_headS leaves (case hc), from the promise of the row's def: whatever the arguments that the codecs let and the row asks for, the def gives what stands for enc (f ..) -/
theorem walk_spec {r : OpenSpec} {k : Nat} {q : Program} {loose : List Str} {XP : (Str → Option Value) → Heap → Prop} {YP : World → Heap → Prop} {d : DefRec} {K : Params → PySem.W.Frag} {CX : World → CXT} {ps : List Str} {sp : World → Sp}
    (hwell : r.wellSaid = true) (hdf : d.params.defaults = []) (hlen : r.args.length = ps.length) (hr : Room k callerA)
    (hY : ∀ (w : World) (h : Heap), YP w h → (K w.params).In h)
    (F : ∀ (w : World) (mg : Str → Option Value) (fa : Addr) (h : Heap), YP w h → (K w.params).In h → h.Ns mainGlobals mg → mg d.name = some (.ref fa) →
      ∃ fd : FuncData, (∀ (s : Shared) (us : List Value), us.length = ps.length → BindsTo s fd ⟨us, []⟩ (ps.zip us)) ∧
        ∀ base : Heap, (K w.params).In base → base.Ns mainGlobals mg → FnOk r.prog w (K w.params) mg base (CX w) k fa fd ps (sp w))
    (hsp : ∀ (w : World) (H : Hp) (xs : List V) (a : Codec.denoteAll r.args), OnlyF H → Codec.withinAll r.args a = true → Codec.app r.args r.asked a = true → DwAll (K w.params) H xs (Codec.encAll r.args a) →
      sp w xs H (fun v H' => Dw (K w.params) H' v (r.ret.enc (Codec.app r.args r.f a))) fun _ _ _ => False)
    (hCX : ∀ (w : World) (H : Hp) (s : Shared) (e : Value) (s' : Shared), CX w [] H s (fun _ _ _ => False) e s' → False) :
    PySem.W.WalkOS q loose XP YP r d [] (fun f vs => PySem.call f vs) := by
  intro w s_0 s₁ mg mb G Y fa o pm cd doc dV kV ho hd hcd hD hmg hg args vals as hpre hlay hrd hwl hlo
  obtain ⟨a, e1, e2⟩ := PySem.W.os_pre_some hpre
  obtain ⟨e3, hwi⟩ := Codec.encAll_of_decAll r.args args a e1
  subst e3
  have KX := hY w _ Y
  obtain ⟨fd, hb, hF⟩ := F w mg fa _ Y KX G.T.g hmg
  refine PySem.W.enter_call (codeAny_mono (spec_call (R := []) (cl := classAt s_0.heap) (d0 := r.ret.enc (Codec.app r.args r.f a)) KX G.T.g G.T.b G.T.builtins G.T.nolimit hg hwl (pl_encAll _ _) (layable_weight hlay) hr hF hb (by rw [encAll_len]; exact hlen)
    (fun H xs hO hS => hsp w H xs a hO hwi e2 hS) fun H e s' => hCX w H s₁ e s') fun r' s' hq => ?_)
  obtain ⟨u, as', rfl, h1, h2, h3, h4⟩ := hq
  exact ⟨.inl ⟨u, _, as', rfl, fun _ => rfl, h1, (OpenSpec.post_iff hwell hwi _ _).mpr rfl, fun z => Bool.noConfusion (show false = true from z)⟩, h2, h3, h4⟩
/-- the same where the promise hangs on the written part alone -/
theorem walk_specK {r : OpenSpec} {k : Nat} {q : Program} {loose : List Str} {XP : (Str → Option Value) → Heap → Prop} {YP : World → Heap → Prop} {d : DefRec} {K : Params → PySem.W.Frag} {CX : CXT} {ps : List Str} {sp : PySem.W.Frag → Sp}
    (hwell : r.wellSaid = true) (hdf : d.params.defaults = []) (hlen : r.args.length = ps.length) (hr : Room k callerA)
    (hY : ∀ (w : World) (h : Heap), YP w h → (K w.params).In h)
    (F : ∀ (w : World) (mg : Str → Option Value) (fa : Addr) (h : Heap), YP w h → (K w.params).In h → h.Ns mainGlobals mg → mg d.name = some (.ref fa) →
      ∃ fd : FuncData, (∀ (s : Shared) (us : List Value), us.length = ps.length → BindsTo s fd ⟨us, []⟩ (ps.zip us)) ∧
        ∀ base : Heap, (K w.params).In base → base.Ns mainGlobals mg → FnOk r.prog w (K w.params) mg base CX k fa fd ps (sp (K w.params)))
    (hsp : ∀ (K : PySem.W.Frag) (H : Hp) (xs : List V) (a : Codec.denoteAll r.args), OnlyF H → Codec.withinAll r.args a = true → Codec.app r.args r.asked a = true → DwAll K H xs (Codec.encAll r.args a) →
      sp K xs H (fun v H' => Dw K H' v (r.ret.enc (Codec.app r.args r.f a))) fun _ _ _ => False)
    (hCX : ∀ (H : Hp) (s : Shared) (e : Value) (s' : Shared), CX [] H s (fun _ _ _ => False) e s' → False) :
    PySem.W.WalkOS q loose XP YP r d [] (fun f vs => PySem.call f vs) :=
  walk_spec (K := K) (CX := fun _ => CX) (sp := fun w => sp (K w.params)) hwell hdf hlen hr hY F (fun w H xs a h1 h2 h3 h4 => hsp (K w.params) H xs a h1 h2 h3 h4) fun _ H s e s' => hCX H s e s'
end L2
end
section
set_option linter.all false
namespace SL
open Uw67
/-! The program's own functions, over plain numbers and lists. -/
section
variable {κ β : Type} [DecidableEq κ]
def get? (m : List (κ × β)) (k : κ) : Option β := (m.find? fun kv => decide (kv.1 = k)).map (·.2)
def put (m : List (κ × β)) (k : κ) (v : β) : List (κ × β) :=
  if (m.any fun kv => decide (kv.1 = k)) = true then m.map (fun kv => if kv.1 = k then (kv.1, v) else kv) else m ++ [(k, v)]
end
def takenList : Nat → List Nat → List Nat
  | _, [] => []
  | m, l :: r => if l = 0 ∨ m ≤ l then [] else takes m l :: takenList (m - takes m l) r
def cutsStep (m : Nat) (d : List (Nat × Nat)) (c : Nat) : List (Nat × Nat) := put d (takes m c) ((get? d (takes m c)).getD 0 + 1)
def cutsBy (m : Nat) : List (Nat × Nat) := ((List.range (m - 1)).map (· + 1)).foldl (cutsStep m) []
abbrev Tab := List ((Nat × Nat) × Frac)
def inner (st : Nat × Nat) (f : Frac) (acc : Tab) (tc : Nat × Nat) : Tab :=
  let key := (st.1 - tc.1, st.2 + if isGreat tc.1 = true then 1 else 0)
  put acc key (plus ((get? acc key).getD zero) (times f (frac tc.2 (st.1 - 1))))
def outer (acc : Tab) (p : (Nat × Nat) × Frac) : Tab := (cutsBy p.1.1).foldl (inner p.1 p.2) acc
def afterChange (t : Tab) : Tab := t.foldl outer []
def tab (n : Nat) : Nat → Tab
  | 0 => [((n, 0), one)]
  | k + 1 => afterChange (tab n k)
def oddStep (o : List (Nat × Frac)) (p : (Nat × Nat) × Frac) : List (Nat × Frac) := put o (9 - p.1.2) (plus ((get? o (9 - p.1.2)).getD zero) p.2)
def lineOdds (n : Nat) : List (Nat × Frac) := (tab n 3).foldl oddStep [(6, zero), (7, zero), (8, zero), (9, zero)]
def ns : List Nat := (List.range 20).map fun i => 21 + 4 * i
set_option maxRecDepth 100000 in
theorem lineOdds_eq : ∀ n ∈ ns, lineOdds n = [(6, odds n 6), (7, odds n 7), (8, odds n 8), (9, odds n 9)] := by decide +kernel
/-! what the fractions on the way are: small enough -/
def okFr (f : Frac) : Bool := decide (f.u < 2 ^ 64) && (decide (0 < f.l) && decide (f.l < 2 ^ 64))
def okRun {α β : Type} (f : α → β → α) (ok : α → Bool) : α → List β → Bool
  | a, [] => ok a
  | a, b :: r => ok a && okRun f ok (f a b) r
theorem okRun_take {α β : Type} {f : α → β → α} {ok : α → Bool} : ∀ (l : List β) (a : α) (i : Nat), okRun f ok a l = true → i ≤ l.length → ok ((l.take i).foldl f a) = true
  | [], a, i, h, hi => by
    have e : i = 0 := by simpa using hi
    subst e; exact h
  | b :: r, a, 0, h, _ => by
    unfold okRun at h
    rw [Bool.and_eq_true] at h
    exact h.1
  | b :: r, a, i + 1, h, hi => by
    unfold okRun at h
    rw [Bool.and_eq_true] at h
    exact okRun_take r (f a b) i h.2 (by simpa using hi)
def accOk (t : Tab) : Bool := decide (t.length ≤ 1000) && t.all fun x => okFr x.2
def okIn (p : (Nat × Nat) × Frac) : Bool := decide (2 ≤ p.1.1) && (decide (p.1.1 ≤ 97) && (okFr p.2 && (cutsBy p.1.1).all fun tc => decide (tc.1 ≤ p.1.1) && (decide (tc.1 ≤ 9) && decide (tc.2 < 2 ^ 64))))
def okOuter : Tab → Tab → Bool
  | _, [] => true
  | acc, p :: r => okIn p && (okRun (inner p.1 p.2) accOk acc (cutsBy p.1.1) && okOuter (outer acc p) r)
theorem okOuter_take : ∀ (t acc : Tab) (i : Nat) (p : (Nat × Nat) × Frac), okOuter acc t = true → t[i]? = some p → okIn p = true ∧ okRun (inner p.1 p.2) accOk ((t.take i).foldl outer acc) (cutsBy p.1.1) = true
  | [], acc, i, p, _, e => by simp at e
  | q :: r, acc, 0, p, h, e => by
    have e' : q = p := Option.some.inj e
    subst e'
    unfold okOuter at h
    rw [Bool.and_eq_true, Bool.and_eq_true] at h
    exact ⟨h.1, h.2.1⟩
  | q :: r, acc, i + 1, p, h, e => by
    unfold okOuter at h
    rw [Bool.and_eq_true, Bool.and_eq_true] at h
    exact okOuter_take r (outer acc q) i p h.2.2 e
def okIn3 (p : (Nat × Nat) × Frac) : Bool := decide (p.1.2 ≤ 3) && okFr p.2
def okO (o : List (Nat × Frac)) : Bool := decide (o.length ≤ 1000) && ((o.all fun x => okFr x.2) && ([6, 7, 8, 9].all fun k => (get? o k).isSome))
def okN (n : Nat) : Bool := okOuter [] (tab n 0) && (okOuter [] (tab n 1) && (okOuter [] (tab n 2) && ((tab n 3).all okIn3 && okRun oddStep okO [(6, zero), (7, zero), (8, zero), (9, zero)] (tab n 3))))
set_option maxRecDepth 100000 in
theorem ok_ns : ∀ n ∈ ns, okN n = true := by decide +kernel
end SL
set_option linter.all false
namespace SL
open Uw67
/-! The calls of a list, as it is handed in. -/
def tokN : Call → List Nat
  | .begins n => [0, n]
  | .line a b c => [1, a, b, c]
  | .odds => [2]
  | .cast l => 3 :: l.length :: l
  | .chance h m => [4, h, m]
  | .becomes h => [5, h]
  | .moving k => [6, k]
  | .came h => [7, h]
  | .turned h => [8, h]
  | .family h => [9, h]
  | .cores h => [10, h]
  | .pairs l => 11 :: l.length :: l
def okCall : Call → Prop
  | .cast l => l.length = 18
  | .pairs l => l.length = 64
  | _ => True
def playU : Nat → List Call → List (List Int)
  | _, [] => []
  | n, c :: r => (step n c).2 :: playU (step n c).1 r
def stateU : Nat → List Call → Nat
  | n, [] => n
  | n, c :: r => stateU (step n c).1 r
theorem nat_cast {x : Int} (h : Uw67Neutral.nat x = true) : ((x.toNat : Nat) : Int) = x := by
  unfold Uw67Neutral.nat at h
  rw [Bool.and_eq_true, decide_eq_true_eq] at h
  exact Int.toNat_of_nonneg h.1
theorem nats_cast : ∀ {l : List Int}, l.all Uw67Neutral.nat = true → Uw67.ints (l.map Int.toNat) = l
  | [], _ => rfl
  | x :: r, h => by
    rw [List.all_cons, Bool.and_eq_true] at h
    show ((x.toNat : Nat) : Int) :: Uw67.ints (r.map Int.toNat) = x :: r
    rw [nat_cast h.1, nats_cast h.2]
theorem callOf_some {l : List Int} {k : Call} (h : Uw67Neutral.callOf l = some k) : l.all Uw67Neutral.nat = true ∧ Uw67Neutral.callIn (l.map Int.toNat) = some k := by
  unfold Uw67Neutral.callOf at h
  by_cases q : l.all Uw67Neutral.nat = false
  · rw [if_pos q] at h; cases h
  · rw [if_neg q] at h
    exact ⟨by simpa using q, h⟩
theorem one_num {p : Nat} {x : Int} {r t : List Int} {c : List (List Int)} {k : Call} (mk : Nat → Call) (htok : ∀ n, tokN (mk n) = [p, n]) (hok : ∀ n, okCall (mk n)) (hin : ∀ n, Uw67Neutral.callIn [p, n] = some (mk n))
    (hk : Uw67Neutral.callOf [(p : Int), x] = some k) : ((p : Int) :: x :: r) = Uw67.ints (tokN k) ++ r ∧ okCall k := by
  obtain ⟨h1, h2⟩ := callOf_some hk
  have h2 : Uw67Neutral.callIn [p, x.toNat] = some k := h2
  rw [hin] at h2
  obtain rfl := Option.some.inj h2
  have e := nats_cast h1
  refine ⟨?_, hok _⟩
  rw [htok]
  have e : Uw67.ints [p, x.toNat] = [(p : Int), x] := e
  rw [e]
  rfl
theorem two_nums {x y : Int} {r : List Int} {k : Call} (hk : Uw67Neutral.callOf [4, x, y] = some k) : (4 :: x :: y :: r) = Uw67.ints (tokN k) ++ r ∧ okCall k := by
  obtain ⟨h1, h2⟩ := callOf_some hk
  have h2 : some (Call.chance x.toNat y.toNat) = some k := h2
  obtain rfl := Option.some.inj h2
  have e : Uw67.ints [4, x.toNat, y.toNat] = [4, x, y] := nats_cast h1
  refine ⟨?_, True.intro⟩
  show _ = Uw67.ints [4, x.toNat, y.toNat] ++ r
  rw [e]
  rfl
theorem three_nums {x y z : Int} {r : List Int} {k : Call} (hk : Uw67Neutral.callOf [1, x, y, z] = some k) : (1 :: x :: y :: z :: r) = Uw67.ints (tokN k) ++ r ∧ okCall k := by
  obtain ⟨h1, h2⟩ := callOf_some hk
  have h2 : some (Call.line x.toNat y.toNat z.toNat) = some k := h2
  obtain rfl := Option.some.inj h2
  have e : Uw67.ints [1, x.toNat, y.toNat, z.toNat] = [1, x, y, z] := nats_cast h1
  refine ⟨?_, True.intro⟩
  show _ = Uw67.ints [1, x.toNat, y.toNat, z.toNat] ++ r
  rw [e]
  rfl
theorem a_row {p m : Nat} {n : Int} {r : List Int} {k : Call} (mk : List Nat → Call) (htok : ∀ l, tokN (mk l) = p :: l.length :: l) (hok : ∀ l, l.length = m → okCall (mk l))
    (hin : ∀ l, Uw67Neutral.callIn (p :: l) = if l.length = m then some (mk l) else none) (hn : 0 ≤ n ∧ n.toNat ≤ r.length)
    (hk : Uw67Neutral.callOf ((p : Int) :: r.take n.toNat) = some k) : ((p : Int) :: n :: r) = Uw67.ints (tokN k) ++ r.drop n.toNat ∧ okCall k := by
  obtain ⟨h1, h2⟩ := callOf_some hk
  have h2 : Uw67Neutral.callIn (p :: (r.take n.toNat).map Int.toNat) = some k := h2
  rw [hin] at h2
  have hl : ((r.take n.toNat).map Int.toNat).length = n.toNat := by rw [List.length_map, List.length_take]; omega
  by_cases q : ((r.take n.toNat).map Int.toNat).length = m
  · rw [if_pos q] at h2
    obtain rfl := Option.some.inj h2
    refine ⟨?_, hok _ q⟩
    rw [List.all_cons, Bool.and_eq_true] at h1
    have e := nats_cast h1.2
    rw [htok, hl]
    show _ = (p : Int) :: ((n.toNat : Nat) : Int) :: (Uw67.ints ((r.take n.toNat).map Int.toNat) ++ r.drop n.toNat)
    rw [e, List.take_append_drop, Int.toNat_of_nonneg hn.1]
  · rw [if_neg q] at h2; cases h2
theorem shape_cases {p : Int} {a b : Nat} (h : PyUw67.shape p = some (a, b)) :
    (p = 0 ∧ a = 1 ∧ b = 0) ∨ (p = 1 ∧ a = 3 ∧ b = 0) ∨ (p = 2 ∧ a = 0 ∧ b = 0) ∨ (p = 3 ∧ a = 0 ∧ b = 1) ∨ (p = 4 ∧ a = 2 ∧ b = 0) ∨ (p = 5 ∧ a = 1 ∧ b = 0) ∨ (p = 6 ∧ a = 1 ∧ b = 0) ∨ (p = 7 ∧ a = 1 ∧ b = 0) ∨
    (p = 8 ∧ a = 1 ∧ b = 0) ∨ (p = 9 ∧ a = 1 ∧ b = 0) ∨ (p = 10 ∧ a = 1 ∧ b = 0) ∨ (p = 11 ∧ a = 0 ∧ b = 1) := by
  by_cases h0 : p = 0
  · subst h0
    have h : some (1, 0) = some (a, b) := h
    cases h
    decide
  by_cases h1 : p = 1
  · subst h1
    have h : some (3, 0) = some (a, b) := h
    cases h
    decide
  by_cases h2 : p = 2
  · subst h2
    have h : some (0, 0) = some (a, b) := h
    cases h
    decide
  by_cases h3 : p = 3
  · subst h3
    have h : some (0, 1) = some (a, b) := h
    cases h
    decide
  by_cases h4 : p = 4
  · subst h4
    have h : some (2, 0) = some (a, b) := h
    cases h
    decide
  by_cases h5 : p = 5
  · subst h5
    have h : some (1, 0) = some (a, b) := h
    cases h
    decide
  by_cases h6 : p = 6
  · subst h6
    have h : some (1, 0) = some (a, b) := h
    cases h
    decide
  by_cases h7 : p = 7
  · subst h7
    have h : some (1, 0) = some (a, b) := h
    cases h
    decide
  by_cases h8 : p = 8
  · subst h8
    have h : some (1, 0) = some (a, b) := h
    cases h
    decide
  by_cases h9 : p = 9
  · subst h9
    have h : some (1, 0) = some (a, b) := h
    cases h
    decide
  by_cases h10 : p = 10
  · subst h10
    have h : some (1, 0) = some (a, b) := h
    cases h
    decide
  by_cases h11 : p = 11
  · subst h11
    have h : some (0, 1) = some (a, b) := h
    cases h
    decide
  have e : PyUw67.shape p = none := by
    unfold PyUw67.shape
    rw [if_neg h0, if_neg h1, if_neg h2, if_neg h3, if_neg h4, if_neg h5, if_neg h6, if_neg h7, if_neg h8, if_neg h9, if_neg h10, if_neg h11]
  rw [e] at h
  cases h
theorem call_row {p : Int} {r : List Int} {c : List (List Int)} {t : List Int} (h : (match PyFlat.rows 1 (r.drop 0) with | none => none | some (xs, t) => some ((p :: r.take 0) :: xs, t)) = some (c, t)) :
    ∃ n r', r = n :: r' ∧ (0 ≤ n ∧ n.toNat ≤ r'.length) ∧ c = [[p], r'.take n.toNat] ∧ t = r'.drop n.toNat := by
  cases r with
  | nil => cases h
  | cons n r' =>
    by_cases q : 0 ≤ n ∧ n.toNat ≤ r'.length
    · have e : PyFlat.row (n :: r') = some (r'.take n.toNat, r'.drop n.toNat) := by
        show (if 0 ≤ n ∧ n.toNat ≤ r'.length then _ else _) = _
        rw [if_pos q]
      have e2 : PyFlat.rows 1 ((n :: r').drop 0) = some ([r'.take n.toNat], r'.drop n.toNat) := by
        show (match PyFlat.row (n :: r') with | none => none | some (x, s) => match PyFlat.rows 0 s with | none => none | some (xs, t) => some (x :: xs, t)) = _
        rw [e]
        rfl
      rw [e2] at h
      have h' := Option.some.inj h
      refine ⟨n, r', rfl, q, ?_, ?_⟩
      · exact (congrArg Prod.fst h').symm
      · exact (congrArg Prod.snd h').symm
    · have e : PyFlat.row (n :: r') = none := by
        show (if 0 ≤ n ∧ n.toNat ≤ r'.length then _ else _) = _
        rw [if_neg q]
      have e2 : PyFlat.rows 1 ((n :: r').drop 0) = none := by
        show (match PyFlat.row (n :: r') with | none => none | some (x, s) => match PyFlat.rows 0 s with | none => none | some (xs, t) => some (x :: xs, t)) = _
        rw [e]
      rw [e2] at h
      cases h
theorem call_nums {p : Int} {r : List Int} {a : Nat} {c : List (List Int)} {t : List Int} (h : (if r.length < a then none else match PyFlat.rows 0 (r.drop a) with | none => none | some (xs, t) => some ((p :: r.take a) :: xs, t)) = some (c, t)) :
    a ≤ r.length ∧ c = [p :: r.take a] ∧ t = r.drop a := by
  by_cases q : r.length < a
  · rw [if_pos q] at h; cases h
  · rw [if_neg q] at h
    have h : some ([p :: r.take a], r.drop a) = some (c, t) := h
    have h' := Option.some.inj h
    exact ⟨by omega, (congrArg Prod.fst h').symm, (congrArg Prod.snd h').symm⟩
theorem call_tok {l t : List Int} {c : List (List Int)} {k : Call} (h : PyFlat.call PyUw67.shape l = some (c, t)) (hk : Uw67Neutral.callOf ((PyUw67.whole c).headD []) = some k) : l = Uw67.ints (tokN k) ++ t ∧ okCall k := by
  cases l with
  | nil => cases h
  | cons p r =>
    unfold PyFlat.call at h
    cases hs : PyUw67.shape p with
    | none => simp only [hs] at h; cases h
    | some ab =>
      obtain ⟨a, b⟩ := ab
      simp only [hs] at h
      rcases shape_cases hs with ⟨rfl, rfl, rfl⟩ | ⟨rfl, rfl, rfl⟩ | ⟨rfl, rfl, rfl⟩ | ⟨rfl, rfl, rfl⟩ | ⟨rfl, rfl, rfl⟩ | ⟨rfl, rfl, rfl⟩ | ⟨rfl, rfl, rfl⟩ | ⟨rfl, rfl, rfl⟩ | ⟨rfl, rfl, rfl⟩ | ⟨rfl, rfl, rfl⟩ | ⟨rfl, rfl, rfl⟩ | ⟨rfl, rfl, rfl⟩
      · obtain ⟨hl, rfl, rfl⟩ := call_nums h
        match r, hl with
        | x :: r, _ => exact one_num (p := 0) (t := []) (c := []) .begins (fun _ => rfl) (fun _ => True.intro) (fun _ => rfl) hk
      · obtain ⟨hl, rfl, rfl⟩ := call_nums h
        match r, hl with
        | x :: y :: z :: r, _ => exact three_nums hk
      · obtain ⟨hl, rfl, rfl⟩ := call_nums h
        obtain ⟨h1, h2⟩ := callOf_some hk
        have h2 : some Call.odds = some k := h2
        obtain rfl := Option.some.inj h2
        exact ⟨rfl, True.intro⟩
      · rw [if_neg (Nat.not_lt_zero _)] at h
        obtain ⟨n, r', rfl, hn, rfl, rfl⟩ := call_row h
        exact a_row (p := 3) (m := 18) .cast (fun _ => rfl) (fun _ h => h) (fun _ => rfl) hn hk
      · obtain ⟨hl, rfl, rfl⟩ := call_nums h
        match r, hl with
        | x :: y :: r, _ => exact two_nums hk
      · obtain ⟨hl, rfl, rfl⟩ := call_nums h
        match r, hl with
        | x :: r, _ => exact one_num (p := 5) (t := []) (c := []) .becomes (fun _ => rfl) (fun _ => True.intro) (fun _ => rfl) hk
      · obtain ⟨hl, rfl, rfl⟩ := call_nums h
        match r, hl with
        | x :: r, _ => exact one_num (p := 6) (t := []) (c := []) .moving (fun _ => rfl) (fun _ => True.intro) (fun _ => rfl) hk
      · obtain ⟨hl, rfl, rfl⟩ := call_nums h
        match r, hl with
        | x :: r, _ => exact one_num (p := 7) (t := []) (c := []) .came (fun _ => rfl) (fun _ => True.intro) (fun _ => rfl) hk
      · obtain ⟨hl, rfl, rfl⟩ := call_nums h
        match r, hl with
        | x :: r, _ => exact one_num (p := 8) (t := []) (c := []) .turned (fun _ => rfl) (fun _ => True.intro) (fun _ => rfl) hk
      · obtain ⟨hl, rfl, rfl⟩ := call_nums h
        match r, hl with
        | x :: r, _ => exact one_num (p := 9) (t := []) (c := []) .family (fun _ => rfl) (fun _ => True.intro) (fun _ => rfl) hk
      · obtain ⟨hl, rfl, rfl⟩ := call_nums h
        match r, hl with
        | x :: r, _ => exact one_num (p := 10) (t := []) (c := []) .cores (fun _ => rfl) (fun _ => True.intro) (fun _ => rfl) hk
      · rw [if_neg (Nat.not_lt_zero _)] at h
        obtain ⟨n, r', rfl, hn, rfl, rfl⟩ := call_row h
        exact a_row (p := 11) (m := 64) .pairs (fun _ => rfl) (fun _ h => h) (fun _ => rfl) hn hk
theorem calls_tok : ∀ (f : Nat) (l : List Int) (raw : List (List (List Int))) (n : Nat), PyFlat.calls PyUw67.shape f l = some raw → ((raw.map PyUw67.whole).map fun c => c.headD []).all Uw67Neutral.asked1 = true →
    ∃ ks : List Call, l = Uw67.ints (ks.flatMap tokN) ∧ (∀ c ∈ ks, okCall c) ∧ ks.length = raw.length ∧ PyFlat.played (fun s c => Uw67Neutral.step s (c.headD [])) n (raw.map PyUw67.whole) = playU n ks
  | f, [], raw, n, h, _ => by
    have e : raw = [] := by
      cases f <;> exact (Option.some.inj h).symm
    subst e
    exact ⟨[], rfl, (fun _ h => nomatch h), rfl, rfl⟩
  | 0, _ :: _, raw, n, h, _ => by cases h
  | f + 1, p :: r, raw, n, h, ha => by
    unfold PyFlat.calls at h
    cases hc : PyFlat.call PyUw67.shape (p :: r) with
    | none => simp only [hc] at h; cases h
    | some ct =>
      obtain ⟨c, t⟩ := ct
      simp only [hc] at h
      cases hr : PyFlat.calls PyUw67.shape f t with
      | none => simp only [hr] at h; cases h
      | some cs =>
        simp only [hr] at h
        obtain rfl := Option.some.inj h
        rw [List.map_cons, List.map_cons, List.all_cons, Bool.and_eq_true] at ha
        obtain ⟨k, hk⟩ := Option.isSome_iff_exists.mp ha.1
        obtain ⟨el, hok⟩ := call_tok hc hk
        have es : Uw67Neutral.step n ((PyUw67.whole c).headD []) = step n k := by
          unfold Uw67Neutral.step
          rw [hk]
          rfl
        obtain ⟨ks, e1, e2, e3, e4⟩ := calls_tok f t cs (step n k).1 hr ha.2
        refine ⟨k :: ks, ?_, fun c hc => ?_, by rw [List.length_cons, List.length_cons, e3], ?_⟩
        · rw [el, e1, List.flatMap_cons]
          unfold Uw67.ints
          rw [List.map_append]
        · rcases List.mem_cons.mp hc with q | q
          · subst q; exact hok
          · exact e2 c q
        · rw [List.map_cons]
          show (Uw67Neutral.step n ((PyUw67.whole c).headD [])).2 :: PyFlat.played _ (Uw67Neutral.step n ((PyUw67.whole c).headD [])).1 (cs.map PyUw67.whole) = (step n k).2 :: playU (step n k).1 ks
          rw [es, e4]
/-- what is asked of a list, in calls -/
theorem asked_calls {l : List Int} (h : PyUw67.answers_asked l = true) : ∃ ks : List Call, l = Uw67.ints (ks.flatMap tokN) ∧ (∀ c ∈ ks, okCall c) ∧ ks.length ≤ 40 ∧ PyUw67.answers l = PyFlat.told (playU 49 ks) ∧ (PyUw67.answers l).length ≤ 10000000 := by
  unfold PyUw67.answers_asked at h
  cases hr : PyFlat.calls PyUw67.shape l.length l with
  | none => simp only [hr] at h; cases h
  | some raw =>
    simp only [hr] at h
    rw [Bool.and_eq_true, Bool.and_eq_true, Bool.and_eq_true, Bool.and_eq_true] at h
    obtain ⟨⟨⟨⟨_, h40⟩, _⟩, ha⟩, hs⟩ := h
    unfold Uw67Neutral.asked at ha
    rw [Bool.and_eq_true] at ha
    obtain ⟨ks, e1, e2, e3, e4⟩ := calls_tok l.length l raw 49 hr ha.1
    refine ⟨ks, e1, e2, ?_, ?_, ?_⟩
    · rw [e3]
      unfold PyFlat.atMost at h40
      exact of_decide_eq_true h40
    · have e5 : PyUw67.answers l = PyFlat.told (PyFlat.played (fun s c => Uw67Neutral.step s (c.headD [])) Uw67Neutral.start (raw.map PyUw67.whole)) := by
        unfold PyUw67.answers PyUw67.calls
        simp only [hr]
      rw [e5]
      exact congrArg PyFlat.told e4
    · unfold PyFlat.short at hs
      exact of_decide_eq_true hs
theorem step_ns {n : Nat} (h : n ∈ ns) (c : Call) : (step n c).1 ∈ ns := by
  cases c with
  | begins k =>
    show (if k < 21 ∨ 97 < k ∨ k % 4 ≠ 1 then (n, [-1]) else (k, [0])).1 ∈ ns
    split
    · exact h
    · rename_i q
      refine List.mem_map.mpr ⟨(k - 21) / 4, List.mem_range.mpr (by omega), by omega⟩
  | _ => exact h
end SL
set_option Elab.async false
set_option linter.all false
set_option maxRecDepth 100000
set_option maxHeartbeats 4000000
namespace SL
open PySem PySem.Spec PyProof.Rows L2
/-! ### d.items() of a dict whose keys are tuples: by the dict's raw entries -/
section
variable {prog : Program} {w : World} {A : Around} {E : Value → Shared → Prop} {s : Shared}
theorem nextRaw {it d : Addr} {i n ep : Nat} {od : Obj} {es : Array DictEntry} {en : DictEntry} {ok ov : Value} {Q : Option Value → Shared → Prop} (hit : IsItemIter s.heap it d i n ep ok ov)
    (hod : s.heap.get? d = some od) (hdd : od.data = .dict es ep) (hsz : es.size = n) (hx : es[i]? = some en)
    (hQ : ∀ h', IsItemIterOut h' it d (i + 1) n ep en.key en.val s.heap.objs.size → h'.get? s.heap.objs.size = some { cls := .type "tuple", data := .seq #[en.key, en.val] } →
      (∀ b o, b ≠ it → s.heap.get? b = some o → h'.get? b = some o) → Q (some (.ref s.heap.objs.size)) { s with heap := h' }) :
    wpAny (model prog w) A (pyNext (.ref it)) Q E s := by
  obtain ⟨hp, g, dr, tk, os⟩ := s
  have hT : Shared.TypeIs ⟨hp, g, dr, tk, os⟩ (.ref it) "dict_itemiterator" := ⟨_, hit, rfl⟩
  have hown : Builtin.Dict_items.ownsTuple "dict_itemiterator" = true := by decide
  unfold pyNext
  refine wpAny_bind (wpAny_attempt (wpAny_callSpecial?_slot (name := Str.ofString "__next__") hT F.slot_dict_itemiterator_next (wpAny_call_entry F.slot_dict_itemiterator_next hT F.entry_dict_itemiterator_next (wpAny_bind (wpAny_pure (wpAny_bind (wpAny_bind ?_)))) (F.args_dict_itemiterator_next_1 _))))
  refine wpAny_bind (wpAny_typeNameOfWhole_itemiter hT (wpAny_pure (wpAny_bind (wpAny_fieldsOf hit rfl ?_))))
  simp only [hown, if_true]
  show wpAny _ _ (if (Value.ref d == Value.none) = true then _ else _) _ _ _
  rw [if_neg (show ¬ ((Value.ref d == Value.none) = true) from Bool.false_ne_true)]
  refine wpAny_bind (wpAny_pure (wpAny_bind (wpAny_dictEntries hod hdd ?_)))
  rw [if_neg (by rw [hsz]; simp)]
  refine wpAny_bind (wpAny_pure (wpAny_bind (wpAny_dictEpoch hod hdd ?_)))
  rw [if_neg (by simp)]
  obtain ⟨hlt', hen⟩ := Array.getElem?_eq_some_iff.mp hx
  refine wpAny_pure ?_
  simp only [show ¬ ((i : Int) < 0) from by omega, if_false, Int.toNat_natCast, Array.getElem?_eq_getElem hlt']
  refine wpAny_bind (wpAny_bind (wpAny_typeNameOfWhole_itemiter hT (wpAny_pure (wpAny_bind (wpAny_isOneOf_itemiter hT ?_)))))
  rw [hen]
  show wpAny _ _ (setField (.ref it) 3 (rawInt ((i : Int) + 1)) >>= _) _ _ ⟨hp, g, dr, tk, os⟩
  refine wpAny_bind (wpAny_setField_rec hit (by simp) fun h1 e1 s1 => ?_)
  have s1' : Heap.SameBut it hp h1 := s1
  have e1' : IsItemIter h1 it d (i + 1) n ep ok ov := by
    unfold IsItemIter
    rw [show ((i + 1 : Nat) : Int) = (i : Int) + 1 by omega]
    simpa [rawInt] using e1
  have T1 : Shared.TypeIs ⟨h1, g, dr, tk, os⟩ (.ref it) "dict_itemiterator" := ⟨_, e1', rfl⟩
  refine wpAny_bind (wpAny_holding (wpAny_bind (wpAny_isOneOf_itemiter T1 (wpAny_bind (wpAny_isOneOf_itemiter T1 ?_)))))
  show wpAny _ _ (Builtin.Dict_items.pairFromOwner (.ref it) 6 en.key en.val) _ _ ⟨h1, g, dr, tk, os⟩
  unfold Builtin.Dict_items.pairFromOwner
  refine wpAny_bind (wpAny_newTuple ?_)
  have e2 : IsItemIter (h1.push { cls := .type "tuple", data := .seq #[en.key, en.val] }) it d (i + 1) n ep ok ov := Heap.get?_push_of_some _ e1'
  generalize g2 : h1.push { cls := .type "tuple", data := .seq #[en.key, en.val] } = h2 at e2
  have z1 : h1.objs.size = hp.objs.size := s1'.1
  have il : it < hp.objs.size := Heap.lt_size hit
  have t2 : h2.get? hp.objs.size = some { cls := .type "tuple", data := .seq #[en.key, en.val] } := by rw [← g2, ← z1]; exact Heap.get?_push_size _ rfl
  have k2 : ∀ b o, b ≠ it → hp.get? b = some o → h2.get? b = some o := fun b o hb e => by rw [← g2]; exact Heap.get?_push_of_some _ (s1'.extBut b o hb e)
  show wpAny _ _ (Builtin.Dict_items.ownedTupleIsFree (.ref it) >>= _) _ _ ⟨h2, g, dr, tk, os⟩
  rw [z1]
  clear g2 e1 e1' s1 s1' T1 z1 h1
  refine wpAny_bind ?_
  unfold Builtin.Dict_items.ownedTupleIsFree
  refine wpAny_bind (wpAny_field e2 rfl (x := .none) rfl (wpAny_pure ?_))
  simp only [if_true]
  refine wpAny_bind (wpAny_field e2 rfl (x := ok) rfl (wpAny_bind (wpAny_field e2 rfl (x := ov) rfl (wpAny_bind (wpAny_setField_rec e2 (by simp) fun h3 e3 s3 => ?_)))))
  have e3' : IsItemIter h3 it d (i + 1) n ep en.key ov := e3
  have s3' : Heap.SameBut it h2 h3 := s3
  refine wpAny_bind (wpAny_setField_rec e3' (by simp) fun h4 e4 s4 => ?_)
  have e4' : IsItemIter h4 it d (i + 1) n ep en.key en.val := e4
  have s4' : Heap.SameBut it h3 h4 := s4
  refine wpAny_bind (wpAny_setField_rec e4' (by simp) fun h5 e5 s5 => ?_)
  have e5' : IsItemIterOut h5 it d (i + 1) n ep en.key en.val hp.objs.size := e5
  have s5' : Heap.SameBut it h4 h5 := s5
  refine wpAny_bind (wpAny_setField_rec e5' (by simp) fun h6 e6 s6 => ?_)
  have e6' : IsItemIterOut h6 it d (i + 1) n ep en.key en.val hp.objs.size := e6
  have s6' : Heap.SameBut it h5 h6 := s6
  have kp : ∀ b o, b ≠ it → h2.get? b = some o → h6.get? b = some o := fun b o hb e => s6'.extBut b o hb (s5'.extBut b o hb (s4'.extBut b o hb (s3'.extBut b o hb e)))
  exact wpAny_bind (wpAny_letGo (wpAny_pure (wpAny_pure ⟨_, rfl, wpAny_pure (hQ h6 e6' (kp _ _ (Nat.ne_of_gt il) t2) fun b o hb e => kp b o hb (k2 b o hb e))⟩)))
theorem endRaw {it d : Addr} {i n ep : Nat} {od : Obj} {es : Array DictEntry} {ok ov : Value} {Q : Option Value → Shared → Prop} (hh : A.handled = none) (hit : IsItemIter s.heap it d i n ep ok ov)
    (hod : s.heap.get? d = some od) (hdd : od.data = .dict es ep) (hsz : es.size = n) (hge : n ≤ i)
    (hQ : ∀ h', Heap.ExtBut it s.heap h' → Q none { s with heap := h' }) : wpAny (model prog w) A (pyNext (.ref it)) Q E s := by
  have hT : s.TypeIs (.ref it) "dict_itemiterator" := ⟨_, hit, rfl⟩
  have hown : Builtin.Dict_items.ownsTuple "dict_itemiterator" = true := by decide
  unfold pyNext
  refine wpAny_bind (wpAny_attempt (wpAny_callSpecial?_slot (name := Str.ofString "__next__") hT F.slot_dict_itemiterator_next (wpAny_call_entry F.slot_dict_itemiterator_next hT F.entry_dict_itemiterator_next (wpAny_bind (wpAny_pure (wpAny_bind (wpAny_bind ?_)))) (F.args_dict_itemiterator_next_1 _))))
  refine wpAny_bind (wpAny_typeNameOfWhole_itemiter hT (wpAny_pure (wpAny_bind (wpAny_fieldsOf hit rfl ?_))))
  simp only [hown, if_true]
  show wpAny _ _ (if (Value.ref d == Value.none) = true then _ else _) _ _ s
  rw [if_neg (show ¬ ((Value.ref d == Value.none) = true) from Bool.false_ne_true)]
  refine wpAny_bind (wpAny_pure (wpAny_bind (wpAny_dictEntries hod hdd ?_)))
  rw [if_neg (by rw [hsz]; simp)]
  refine wpAny_bind (wpAny_pure (wpAny_bind (wpAny_dictEpoch hod hdd ?_)))
  rw [if_neg (by simp)]
  refine wpAny_pure ?_
  simp only [show ¬ ((i : Int) < 0) from by omega, if_false, Int.toNat_natCast, Array.getElem?_eq_none (show es.size ≤ i by rw [hsz]; exact hge)]
  refine wpAny_bind (wpAny_bind (wpAny_typeNameOfWhole_itemiter hT (wpAny_pure ?_)))
  show wpAny _ _ (setField (.ref it) 2 .none >>= _) _ _ s
  refine wpAny_bind (wpAny_setField hit rfl (by simp) ?_)
  show wpAny _ _ (newExc (.type "StopIteration") [] >>= _) _ _ _
  refine wpAny_bind ?_
  simp only [newExc, newTuple]
  refine wpAny_bind (wpAny_newObj_type (wpAny_bind (m := firstArgMember _ _) (wpAny_of_eq (a := Value.none) (by first | rfl | (simp only [firstArgMember]; rfl)) (wpAny_newObj_type ?_ (by size_fits)))) (by size_fits))
  simp only [raiseNew]
  refine wpAny_bind (wpAny_handled ?_)
  rw [show A.in1.handled = none from hh]
  refine wpAny_bind (wpAny_pure (wpAny_throw ?_))
  refine wpAny_bind (wpAny_isInstance (T := "StopIteration") (b := true) ⟨_, Heap.get?_push_size _ rfl, rfl⟩ isSubtype_stop ?_)
  exact wpAny_pure (hQ _ (((Heap.SameBut.update ..).extBut.push _).push _))
theorem iterRaw {v d : Addr} {od : Obj} {es : Array DictEntry} {ep : Nat} {Q : Value → Shared → Prop} (hv : s.heap.IsItemsView v d) (hod : s.heap.get? d = some od) (hdd : od.data = .dict es ep)
    (hQ : Q (.ref s.heap.objs.size) { s with heap := s.heap.push { cls := .type "dict_itemiterator", data := .fields #[.none, .bool false, .ref d, .int 0 0, .int es.size 0, .int ep 0, .none, .none] } }) :
    wpAny (model prog w) A (pyIter (.ref v)) Q E s := by
  obtain ⟨ov, hov, hcv, hdv⟩ := id hv
  have hown : Builtin.Dict_items.ownsTuple "dict_itemiterator" = true := by decide
  refine wpAny_pyIter_slot hv.typeIs F.slot_dict_items_iter (wpAny_call_entry F.slot_dict_items_iter hv.typeIs F.entry_dict_items_iter ?_ (F.args_dict_items_iter_1 _))
  unfold Builtin.«dict_items.__iter__»
  refine wpAny_bind (wpAny_pure (wpAny_bind ?_))
  unfold Builtin.Dict_items.dictOf
  refine wpAny_bind (wpAny_field hov hdv (x := .ref d) rfl (wpAny_pure (wpAny_bind ?_)))
  unfold Builtin.Dict_items.newIterator
  refine wpAny_bind (wpAny_dictEntries hod hdd (wpAny_bind (wpAny_dictEpoch hod hdd ?_)))
  simp only [hown, if_true]
  refine wpAny_newObj_type (wpAny_pure ⟨_, rfl, "dict_itemiterator", _, ⟨_, Heap.get?_push_size _ rfl, rfl⟩, F.slot_dict_itemiterator_next.lookup, ?_⟩)
    (by simp only [sizeOk, Builtin.Dict_items.ownedTupleFields, List.size_toArray, List.length_append, List.length_cons, List.length_nil, sizeLine_eq]; omega)
  simpa [rawInt, Builtin.Dict_items.ownedTupleFields] using hQ
theorem meetsRaw (d : Addr) (hd : (d == sysModules) = false) :
    MeetsIn prog w (Builtin.«dict.items» ⟨[.ref d], []⟩) (fun _ R s => s.TypeIs (.ref d) "dict" ∧
      R (.ok (.ret (.ref s.heap.objs.size))) { s with heap := s.heap.push { cls := .type "dict_items", data := .fields #[.ref d] } }) :=
  .of_wp fun A R s ⟨hT, h⟩ => by
    unfold Builtin.«dict.items»
    refine wpAny_bind ?_
    unfold Builtin.Dict.noArgs
    refine wpAny_bind (wpAny_notOrdered_dict hT ?_)
    show wpAny _ _ (pure d) _ _ s
    refine wpAny_pure ?_
    show wpAny _ _ (Builtin.Dict.showsAll d >>= _) _ _ s
    unfold Builtin.Dict.showsAll
    rw [if_neg (by rw [hd]; exact Bool.false_ne_true)]
    exact wpAny_bind (wpAny_pure (wpAny_bind (wpAny_newObj_type (wpAny_pure ⟨_, rfl, h⟩))))
end
theorem frzT2 {X : Cx} {pins : List (Addr × Obj)} {σ : L2.St} {H : Hp} {s : Shared} {d : Addr} {o : Obj} {kvs : List (List Key × V)} (I : Inv X pins σ H s) (h : H d = some (.frz o (.dT kvs))) :
    (d == sysModules) = false ∧ s.heap.get? d = some o ∧ o.ExactDict ∧ ∃ (es : Array DictEntry) (ep : Nat), o.data = .dict es ep ∧ es.size = kvs.length ∧
      ∀ (i : Nat) (k : List Key) (v : V), kvs[i]? = some (k, v) → ∃ (en : DictEntry) (q : Addr), es[i]? = some en ∧ en.key = .ref q ∧ H q = some (.tup (k.map kV)) ∧ RelV v en.val := by
  obtain ⟨hd, z, hs, xs, pr, o', es, ep, ho, hx, hdt, he, _⟩ := I.hok d _ h
  rw [hd] at ho
  cases ho
  refine ⟨hs, hd, hx, es, ep, hdt, ?_, fun i k v e => ?_⟩
  · have l1 : es.size = xs.length := size_of_entries he
    have l2 : kvs.length = xs.length := Paired.length pr
    omega
  · obtain ⟨b, hb, e1, e2, e3⟩ := paired_get pr e
    have q := entry_at he i
    rw [hb] at q
    exact ⟨_, b.2.1, q, rfl, e2, e3⟩
/-- the pairs of a locked dict with tuple keys, each a new tuple -/
def Itit (d : Addr) (o : Obj) (kvs : List (List Key × V)) : It :=
  ⟨fun i H => H d = some (.frz o (.dT kvs)) ∧ i < kvs.length, fun i H x H' => ∃ T k v q, kvs[i]? = some (k, v) ∧ H q = some (.tup (k.map kV)) ∧ x = .ref T ∧ H T = none ∧ H' = upd H T (.tup [.ref q, v]), fun i H => H d = some (.frz o (.dT kvs)) ∧ kvs.length ≤ i⟩
theorem turn_itemsT {P : Program} {w : World} {K : PySem.W.Frag} {d : Addr} {o : Obj} {es : Array DictEntry} {ep : Nat} {kvs : List (List Key × V)} {elts : List Expr} {kk : Nat} {tpos : Pos} (it : Addr) (hod : o.data = .dict es ep) :
    Turn P w K (.Tuple elts kk tpos) (Itit d o kvs) [it] it (fun i h => ∃ ok ov, IsItemIter h it d i kvs.length ep ok ov) where
  mem := by simp
  obj := fun i h st b hb => by
    have e : b = it := by simpa using hb
    subst e
    obtain ⟨ok, ov, e⟩ := st
    exact ⟨_, e, fun v z => nomatch z⟩
  keep := fun i h h' st k => let ⟨ok, ov, e⟩ := st; ⟨ok, ov, k it (by simp) _ e⟩
  item := by
    intro X hP hw hK hc i pins s σ H E I hf st hg
    subst hP hw hK
    obtain ⟨hd, hi⟩ := hg
    obtain ⟨hs, hgd, hx, es', ep', hdt, hsz, ent⟩ := frzT2 I hd
    obtain ⟨rfl, rfl⟩ := dict_ep hod hdt
    obtain ⟨⟨k, v⟩, hkv⟩ : ∃ p, kvs[i]? = some p := ⟨kvs[i], List.getElem?_eq_getElem hi⟩
    obtain ⟨en, q, hen, hkey, hq, ru⟩ := ent i k v hkv
    obtain ⟨ok, ov, he⟩ := st
    have hlt : it < s.heap.objs.size := Heap.lt_size he
    refine nextRaw he hgd hdt hsz hen fun h' ho hT hk => ?_
    refine ⟨_, rfl, wpAny_letOwnedTupleGo_items (s := { s with heap := h' }) ho fun h'' he' sb => ?_⟩
    have hT2 : h''.get? s.heap.objs.size = some { cls := .type "tuple", data := .seq #[en.key, en.val] } := (sb.2 _ (Nat.ne_of_gt hlt)).trans hT
    have new : ObjOk X.prog X.w (upd H s.heap.objs.size (.tup [.ref q, v])) h'' s.heap.objs.size (.tup [.ref q, v]) :=
      ⟨by show 2 ≤ sizeLine; decide, [en.key, en.val], .cons hkey (.cons ru .nil), ⟨_, hT2, rfl, _, rfl⟩⟩
    have I1 : Inv X pins σ (upd H s.heap.objs.size (.tup [.ref q, v])) { s with heap := h'' } :=
      I.turnedNew (t' := s.toks) (ch := [it]) (fun b ob hb e => (sb.2 b (by simpa using hb)).trans (hk b ob (by simpa using hb) e)) hf (Nat.le_refl _) new
    refine ⟨.ref s.heap.objs.size, _, I1, rfl, ⟨_, k, v, q, hkv, hq, rfl, I.hok.fresh (Nat.le_refl _), rfl⟩, ⟨_, _, he'⟩, fun b hb => ?_⟩
    have e : b = it := by simpa using hb
    rw [e, upd_ne (Nat.ne_of_lt hlt)]
    exact (hf it (by simp)).1
  done := by
    intro X hP hw hK hc i pins s σ H E I hf st hg
    subst hP hw hK
    obtain ⟨hd, hi⟩ := hg
    obtain ⟨f0, f1, f2, f3, f4, f5⟩ := hf it (by simp)
    obtain ⟨hs, hgd, hx, es', ep', hdt, hsz, ent⟩ := frzT2 I hd
    obtain ⟨rfl, rfl⟩ := dict_ep hod hdt
    obtain ⟨ok, ov, he⟩ := st
    exact endRaw (I.ok.hd hc) he hgd hdt hsz hi fun h' eb => ⟨rfl, I.turned (t' := s.toks) (fun b ob hb e => eb b ob hb e) f0 f1 f3 f4 f5⟩
  self := fun A i s Q E st h => let ⟨_, _, e⟩ := st; PySem.W.kcp_self e h
def iItemsT (td : TE) : TI := fun σ H R => td σ H fun x H1 => ∃ d o kvs, x = .ref d ∧ H1 d = some (.frz o (.dT kvs)) ∧ R (Itit d o kvs) H1
theorem pi_itemsT {X : Cx} {e : Expr} {td : TE} {apos cpos : Pos} {elts : List Expr} {kk : Nat} {tpos : Pos} (he : PE X e td) (hbase : attributeBase e "items" X.env (eval e X.env) = eval e X.env := by rfl) (hline : (apos.endLine == cpos.line) = true := by rfl) :
    PI X (.Tuple elts kk tpos) (.Call (.Attribute e "items" apos) [] [] cpos) (iItemsT td) := by
  intro pins s σ H R I h
  refine wpAny_Call_method (T := "dict") (id := "dict.items") hbase rfl hline F.plainAttrs_dict F.slot_dict_items F.type_dict_items (thn (he pins s σ H _ I h) fun u s1 ⟨x, H1, I1, rx, d, o, kvs, ex, hd, q⟩ => ?_)
  subst ex
  obtain rfl : u = Value.ref d := rx
  obtain ⟨hs, hgd, hx, es, ep, hdt, hsz, ent⟩ := frzT2 I1 hd
  have hT : s1.TypeIs (.ref d) "dict" := ⟨o, hgd, hx.1⟩
  refine ⟨hT, fun a ea => by cases ea; exact ⟨o, hgd, hx.2.1⟩, ?_⟩
  have I2 : Inv X pins σ H1 { s1 with heap := s1.heap.push { cls := .type "dict_items", data := .fields #[.ref d] } } := I1.kept (t' := s1.toks) fun b ob q => Heap.get?_push_of_some _ q
  have fin : wpAny (model X.prog X.w) X.A (pyIter (.ref s1.heap.objs.size)) (PIE X pins σ (.Tuple elts kk tpos) R) X.xe { s1 with heap := s1.heap.push { cls := .type "dict_items", data := .fields #[.ref d] } } := by
    refine iterRaw (d := d) ⟨_, Heap.get?_push_size _ rfl, rfl, rfl⟩ (Heap.get?_push_of_some _ hgd) hdt (pi_one (tk := s1.toks) I2 _ (turn_itemsT _ hdt) ⟨.none, .none, ?_⟩ q)
    rw [hsz]
    exact Heap.get?_push_size _ rfl
  show wpAny _ _ (callWith cpos (.builtin "dict.items") [.ref d] [] []) _ X.xe s1
  exact method_meetsIn F.slot_dict_items F.entry_dict_items rfl (PySem.evalArgs_none ⟨rfl, hT, F.args_dict_items_1 _, _, meetsRaw d hs, hT, fin⟩)
end SL
set_option Elab.async false
set_option linter.all false
set_option maxRecDepth 100000
set_option maxHeartbeats 4000000
namespace SL
open PySem PySem.Spec PyProof.Rows L2
/-! ### numbers of any size that this program meets -/
def BIGN : Nat := 2 ^ 4000
def Big (i : Int) : Prop := i.natAbs < BIGN
theorem Big.log {i : Int} (h : Big i) : i.natAbs.log2 < 4000 := by
  rcases Nat.eq_zero_or_pos i.natAbs with z | z
  · rw [z]; decide
  · exact (Nat.log2_lt (Nat.ne_of_gt z)).mpr h
theorem Big.bits {i : Int} (h : Big i) : Builtin.Int.intBits i ≤ 4000 := by
  have q := h.log
  unfold Builtin.Int.intBits
  split
  · exact Nat.zero_le _
  · omega
section
variable {X : Cx}
theorem op_mulB : OpR X (binaryOp .Mult) (rI (fun i j => Big i ∧ Big j) fun i j => .int (i * j)) :=
  opI fun _ _ _ _ _ _ _ hc q => mul_int q (IntMulOk.of_le hc.1.bits hc.2.bits (by decide))
theorem op_fdivB : OpR X (binaryOp .FloorDiv) (rI (fun _ j => 0 < j ∧ Big j) fun i j => .int (i / j)) := opI fun i j _ _ _ _ _ hc q => by
  have h1 : (0 : Int) < j := hc.1
  exact floordiv_int (by omega) (by rw [Int.fdiv_eq_ediv_of_nonneg i (by omega)]; exact q) (.inl (PyProof.noPylong_of_log2 (Nat.lt_trans hc.2.log (by decide))))
end
/-! ### {k: v}, the one key a tuple -/
def tDisp1T (tk tv : TE) : TE := fun σ H Q => ∀ p, H p = none → tk σ (upd H p (.dT [])) fun x H1 => tv σ H1 fun y H2 => H2 p = some (.dT []) ∧ ∃ b ks, x = .ref b ∧ H2 b = some (.tup (ks.map kV)) ∧ Q (.ref p) (upd H2 p (.dT [(ks, y)]))
theorem pe_disp1T {X : Cx} {pos : Pos} {k v : Expr} {tk tv : TE} (hu : X.A.units < cLine) (hk : PE X k tk) (hv : PE X v tv) : PE X (.Dict [some k] [v] pos) (tDisp1T tk tv) := by
  intro pins s σ H Q I q
  have hn := I.hok.fresh (Nat.le_refl s.heap.objs.size)
  have I1 := I.laid (a := s.heap.objs.size) (o := .dT []) (h' := s.heap.push { cls := .type "dict", data := .dict #[] }) (t' := s.toks) (fun _ _ q => Heap.get?_push_of_some _ q) (Nat.le_refl _) (dt_empty s.heap I.big)
  rw [arm_eval_Dict, zip_pairTrees [some k] [v] X.env pos rfl rfl, dictDisplay_pairs (pairTrees [some k] [v] X.env pos) (fun z => by simp [pairTrees] at z) (by show 1 < 17; decide)]
  refine wpAny_bind (wpAny_standAt (wpAny_bind ?_))
  unfold subDict
  refine wpAny_bind (wpAny_alloc (wpAny_bind (wpAny_holding ?_)))
  rw [if_pos (by show 1 ≤ 15; decide)]
  refine wpAny_bind (pairTrees_cons_walk (thn (hk pins _ σ _ _ I1 (q _ hn)) fun u s1 ⟨x, H1, I2, rx, q1⟩ => thn (hv pins s1 σ H1 _ I2 q1) fun w2 s2 ⟨y, H2, I3, ry, e, b, ks, ex, eb, q2⟩ => pairTrees_nil_walk ?_))
  subst ex
  obtain rfl : u = Value.ref b := rx
  obtain ⟨z, hd, xs, r0, dd⟩ := dt_of I3.hok e
  cases r0
  refine wpAny_holding ?_
  rw [List.forIn_cons]
  refine wpAny_bind (wpAny_bind (wpAny_bind (wpAny_dictSet_heap (knd := tupleKind (mixKind X.prog X.w)) (hsz := Nat.zero_le _) hu (key_of I3.hok eb) dd fun h' dd' hs => wpAny_pure ?_)))
  dsimp only
  rw [List.forIn_nil]
  refine wpAny_pure (wpAny_pure (wpAny_pure (wpAny_pure ⟨.ref s.heap.objs.size, _, ?_, rfl, q2⟩)))
  obtain ⟨q, es, ep, hq, h2, h3, h4, _, h5⟩ := dd'
  refine d_write I3 (by rw [e]; exact True.intro) hs ⟨q, hq⟩ ⟨by show 1 ≤ sizeLine; decide, hd, _, ((show KT H2 [] [] from .nil).put ks eb ry).keeps fun c ys ec => ?_, q, es, ep, hq, h2, h3, h4, h5⟩
  rw [upd_ne (ne_of ec e (fun z => nomatch z))]
  exact ec
end SL
set_option Elab.async false
set_option linter.all false
set_option maxRecDepth 100000
set_option maxHeartbeats 4000000
namespace SL
open PySem PySem.Spec PyProof.Rows L2
/-! ### loops over enumerate(list), d.items(): their invariants by the turn -/
theorem for_enum {K : PySem.W.Frag} {a : Addr} {xs : List V} {g : TG} {tb : TS} {D : Ends} {σ : L2.St} {H : Hp} (Pv : Nat → L2.St → Hp → Prop) (h0 : Pv 0 σ H) (hl : ∀ i σ H, i ≤ xs.length → Pv i σ H → SqL K H a xs)
    (hs : ∀ i x T σ H, xs[i]? = some x → Pv i σ H → H T = none → g (.ref T) σ (upd H T (.tup [.int (i : Nat), x])) fun σ2 H2 => tb { D with nx := Pv (i + 1), ct := Pv (i + 1), bk := D.nx } σ2 H2) (hd : ∀ σ H, Pv xs.length σ H → D.nx σ H) :
    ∃ W : Nat → Nat → L2.St → Hp → Prop, (∃ m, W 0 m σ H) ∧ ∀ i m σ H, W i m σ H →
      ((Ite K a).stop i H ∧ D.nx σ H) ∨ ((Ite K a).go i H ∧ ∃ N : L2.St → Hp → Prop, (∀ σ' H', N σ' H' → ∃ m', m' < m ∧ W (i + 1) m' σ' H') ∧ ∀ x H', (Ite K a).yld i H x H' → g x σ H' fun σ2 H2 => tb { D with nx := N, ct := N, bk := D.nx } σ2 H2) := by
  refine ⟨fun i m σ H => m = xs.length - i ∧ i ≤ xs.length ∧ Pv i σ H, ⟨xs.length, by simp, Nat.zero_le _, h0⟩, ?_⟩
  rintro i m σ H ⟨rfl, hi, p⟩
  have q := hl i σ H hi p
  by_cases hlt : i < xs.length
  · refine .inr ⟨⟨xs, xs[i], q, by simp [hlt]⟩, Pv (i + 1), fun σ' H' p' => ⟨xs.length - (i + 1), by omega, rfl, hlt, p'⟩, fun x H' y => ?_⟩
    obtain ⟨T, z, ex, hT, eH, hz⟩ := y
    subst ex eH
    exact hs i z T σ H (hz xs q) p hT
  · have e : i = xs.length := by omega
    subst e
    exact .inl ⟨⟨xs, q, Nat.le_refl _⟩, hd σ H p⟩
theorem for_itemsK {d : Addr} {o : Obj} {kvs : List (Key × V)} {g : TG} {tb : TS} {D : Ends} {σ : L2.St} {H : Hp} (Pv : Nat → L2.St → Hp → Prop) (h0 : Pv 0 σ H) (hl : ∀ i σ H, i ≤ kvs.length → Pv i σ H → H d = some (.frz o (.dK kvs)))
    (hs : ∀ i k v T σ H, kvs[i]? = some (k, v) → Pv i σ H → H T = none → g (.ref T) σ (upd H T (.tup [kV k, v])) fun σ2 H2 => tb { D with nx := Pv (i + 1), ct := Pv (i + 1), bk := D.nx } σ2 H2) (hd : ∀ σ H, Pv kvs.length σ H → D.nx σ H) :
    ∃ W : Nat → Nat → L2.St → Hp → Prop, (∃ m, W 0 m σ H) ∧ ∀ i m σ H, W i m σ H →
      ((Iti d o kvs).stop i H ∧ D.nx σ H) ∨ ((Iti d o kvs).go i H ∧ ∃ N : L2.St → Hp → Prop, (∀ σ' H', N σ' H' → ∃ m', m' < m ∧ W (i + 1) m' σ' H') ∧ ∀ x H', (Iti d o kvs).yld i H x H' → g x σ H' fun σ2 H2 => tb { D with nx := N, ct := N, bk := D.nx } σ2 H2) := by
  refine ⟨fun i m σ H => m = kvs.length - i ∧ i ≤ kvs.length ∧ Pv i σ H, ⟨kvs.length, by simp, Nat.zero_le _, h0⟩, ?_⟩
  rintro i m σ H ⟨rfl, hi, p⟩
  have q := hl i σ H hi p
  by_cases hlt : i < kvs.length
  · refine .inr ⟨⟨q, hlt⟩, Pv (i + 1), fun σ' H' p' => ⟨kvs.length - (i + 1), by omega, rfl, hlt, p'⟩, fun x H' y => ?_⟩
    obtain ⟨T, k, v, hkv, ex, hT, eH⟩ := y
    subst ex eH
    exact hs i k v T σ H hkv p hT
  · have e : i = kvs.length := by omega
    subst e
    exact .inl ⟨⟨q, Nat.le_refl _⟩, hd σ H p⟩
theorem for_itemsT {d : Addr} {o : Obj} {kvs : List (List Key × V)} {g : TG} {tb : TS} {D : Ends} {σ : L2.St} {H : Hp} (Pv : Nat → L2.St → Hp → Prop) (h0 : Pv 0 σ H) (hl : ∀ i σ H, i ≤ kvs.length → Pv i σ H → H d = some (.frz o (.dT kvs)))
    (hs : ∀ i k v q T σ H, kvs[i]? = some (k, v) → Pv i σ H → H q = some (.tup (k.map kV)) → H T = none → g (.ref T) σ (upd H T (.tup [.ref q, v])) fun σ2 H2 => tb { D with nx := Pv (i + 1), ct := Pv (i + 1), bk := D.nx } σ2 H2) (hd : ∀ σ H, Pv kvs.length σ H → D.nx σ H) :
    ∃ W : Nat → Nat → L2.St → Hp → Prop, (∃ m, W 0 m σ H) ∧ ∀ i m σ H, W i m σ H →
      ((Itit d o kvs).stop i H ∧ D.nx σ H) ∨ ((Itit d o kvs).go i H ∧ ∃ N : L2.St → Hp → Prop, (∀ σ' H', N σ' H' → ∃ m', m' < m ∧ W (i + 1) m' σ' H') ∧ ∀ x H', (Itit d o kvs).yld i H x H' → g x σ H' fun σ2 H2 => tb { D with nx := N, ct := N, bk := D.nx } σ2 H2) := by
  refine ⟨fun i m σ H => m = kvs.length - i ∧ i ≤ kvs.length ∧ Pv i σ H, ⟨kvs.length, by simp, Nat.zero_le _, h0⟩, ?_⟩
  rintro i m σ H ⟨rfl, hi, p⟩
  have q := hl i σ H hi p
  by_cases hlt : i < kvs.length
  · refine .inr ⟨⟨q, hlt⟩, Pv (i + 1), fun σ' H' p' => ⟨kvs.length - (i + 1), by omega, rfl, hlt, p'⟩, fun x H' y => ?_⟩
    obtain ⟨T, k, v, b, hkv, hb, ex, hT, eH⟩ := y
    subst ex eH
    exact hs i k v b T σ H hkv p hb hT
  · have e : i = kvs.length := by omega
    subst e
    exact .inl ⟨⟨q, Nat.le_refl _⟩, hd σ H p⟩
/-! ### an operation whose value is named -/
def rE (g : Int → Int → Int) : R2 := fun x y H Q => ∃ i j z, x = .int i ∧ y = .int j ∧ g i j = z ∧ Q (.int z) H
def rEC (C : Int → Int → Prop) (g : Int → Int → Int) : R2 := fun x y H Q => ∃ i j z, x = .int i ∧ y = .int j ∧ C i j ∧ g i j = z ∧ Q (.int z) H
theorem opE {X : Cx} {f : Value → Value → Sem Value} {g : Int → Int → Int} (h : OpR X f (rI0 fun i j => .int (g i j))) : OpR X f (rE g) := by
  intro pins s σ H x y v u Q I rx ry q
  obtain ⟨i, j, z, e1, e2, e3, q⟩ := q
  subst e3
  exact h pins s σ H x y v u Q I rx ry ⟨i, j, e1, e2, q⟩
theorem opEC {X : Cx} {f : Value → Value → Sem Value} {C : Int → Int → Prop} {g : Int → Int → Int} (h : OpR X f (rI C fun i j => .int (g i j))) : OpR X f (rEC C g) := by
  intro pins s σ H x y v u Q I rx ry q
  obtain ⟨i, j, z, e1, e2, c, e3, q⟩ := q
  subst e3
  exact h pins s σ H x y v u Q I rx ry ⟨i, j, e1, e2, c, q⟩
/-! ### heaps: what is new -/
theorem Same.upd {H H' : Hp} {p : Addr} {o : HO} (s : Same H H') (h : H p = none) : Same H (upd H' p o) := fun b u e => by
  rw [upd_ne (ne_of_none e h)]
  exact s b u e
theorem Same.new {H : Hp} {p : Addr} {o : HO} (h : H p = none) : Same H (L2.upd H p o) := Same.upd (Same.refl H) h
theorem Same.tup {K : PySem.W.Frag} {H H' : Hp} {a : Addr} {xs : List V} (e : Same H H') (h : SqT K H a xs) : SqT K H' a xs := by
  rcases h with (h | ⟨o, h⟩) | h
  · exact .inl (.inl (e _ _ h))
  · exact .inl (.inr ⟨o, e _ _ h⟩)
  · exact .inr h
/-! ### constants of the module -/
def ConI (mg : Str → Option Value) (x : Str) (i : Int) : Prop := ∃ t, mg x = some (.int i t)
def ConT (K : PySem.W.Frag) (mg : Str → Option Value) (x : Str) (xs : List V) : Prop :=
  ∃ a o its n, mg x = some (.ref a) ∧ K.lookup a = some o ∧ o.cls = .type "tuple" ∧ o.data = .seq its n ∧ its.size ≤ sizeLine ∧ Vals xs its.toList
section
variable {X : Cx} {x : Str} {pos : Pos}
theorem pe_ci {i : Int} (c : ConI X.mg x i) (hg : Gl X x) (hd : (x == ("__debug__" : Str)) = false := by decide) : PE X (.Name x pos) (tC (.int i)) := by
  obtain ⟨t, e⟩ := c
  exact pe_glob hg e ⟨t, rfl⟩ hd
def tCT (K : PySem.W.Frag) (xs : List V) : TE := fun _ H Q => ∀ a, (∀ H', SqT K H' a xs) → Q (.ref a) H
theorem pe_ct {xs : List V} (c : ConT X.K X.mg x xs) (hg : Gl X x) (hd : (x == ("__debug__" : Str)) = false := by decide) : PE X (.Name x pos) (tCT X.K xs) := by
  obtain ⟨a, o, its, n, e, h⟩ := c
  intro pins s σ H Q I q
  exact pe_glob (v := .ref a) hg e rfl hd pins s σ H Q I (q a fun H' => .inr ⟨o, its, n, h⟩)
/-! the same, where the context's parts are named (within a comprehension's block) -/
theorem op_inK {K : PySem.W.Frag} (hK : X.K = K := by rfl) : OpR X (compareOp .In) (rIn K false) := by
  subst hK
  exact op_in_seq
theorem pe_ctK {K : PySem.W.Frag} {mg : Str → Option Value} {xs : List V} (c : ConT K mg x xs) (hK : X.K = K := by rfl) (hM : X.mg = mg := by rfl) (hg : Gl X x := by rfl) (hd : (x == ("__debug__" : Str)) = false := by decide) : PE X (.Name x pos) (tCT K xs) := by
  subst hK hM
  exact pe_ct c hg hd
theorem pe_ciK {mg : Str → Option Value} {i : Int} (c : ConI mg x i) (hM : X.mg = mg := by rfl) (hg : Gl X x := by rfl) (hd : (x == ("__debug__" : Str)) = false := by decide) : PE X (.Name x pos) (tC (.int i)) := by
  subst hM
  exact pe_ci c hg hd
end
end SL
set_option Elab.async false
set_option linter.all false
set_option maxRecDepth 100000
set_option maxHeartbeats 4000000
namespace SL
open PySem PySem.Spec PyProof.Rows L2
/-! ### a dict of ints of the module, read by an index -/
def EntI (e : DictEntry) (p : Int × Int) : Prop := e.hash = hashInt p.1 ∧ (∃ t, e.key = .int p.1 t) ∧ ∃ t, e.val = .int p.2 t
def ConD (K : PySem.W.Frag) (mg : Str → Option Value) (x : Str) (d : List (Int × Int)) : Prop :=
  ∃ a o es ep, mg x = some (.ref a) ∧ K.lookup a = some o ∧ o.ExactDict ∧ o.data = .dict es ep ∧ Paired EntI es.toList d
def lookI (d : List (Int × Int)) (k : Int) : Option Int := (d.find? fun p => decide (p.1 = k)).map (·.2)
theorem ent_find {k v : Int} : ∀ {l : List DictEntry} {d : List (Int × Int)}, Paired EntI l d → lookI d k = some v → ∃ t, (l.find? fun e => keyIs (.inl k) e.key).map (·.val) = some (.int v t)
  | _, _, .nil, e => by simp [lookI] at e
  | _, _, .cons (a := en) (b := p) r t, e => by
    obtain ⟨_, ⟨t1, hk⟩, t2, hv⟩ := r
    by_cases q : p.1 = k
    · have e1 : ∀ r, lookI (p :: r) k = some p.2 := fun r => by simp [lookI, List.find?_cons, q]
      rw [e1] at e
      obtain rfl := Option.some.inj e
      have e2 : keyIs (.inl k) en.key = true := by rw [hk, q]; exact keyIs_int k t1
      rw [List.find?_cons, e2]
      exact ⟨t2, by rw [← hv]; rfl⟩
    · have e1 : ∀ r, lookI (p :: r) k = lookI r k := fun r => by simp [lookI, List.find?_cons, q]
      rw [e1] at e
      have e2 : keyIs (.inl k) en.key = false := by
        rw [hk]
        show Value.isInt k (.int p.1 t1) = false
        simp [Value.isInt]
        first | exact fun z => q z | exact fun z => q z.symm
      rw [List.find?_cons, e2]
      exact ent_find t e
theorem ent_keys {P : Program} {w : World} : ∀ {l : List DictEntry} {d : List (Int × Int)}, Paired EntI l d → ∀ e ∈ l, ∃ k, (mixKind P w).is k e.key = true ∧ e.hash = (mixKind P w).hash k
  | _, _, .nil, e, h => nomatch h
  | _, _, .cons (a := en) (b := p) r t, e, h => by
    rcases List.mem_cons.mp h with q | q
    · subst q
      obtain ⟨h1, ⟨t1, hk⟩, _⟩ := r
      exact ⟨.inl p.1, by rw [hk]; exact mixKind_int P w p.1 t1, h1⟩
    · exact ent_keys t e q
def tMD (d : List (Int × Int)) (ty : TE) : TE := fun σ H Q => ty σ H fun y H1 => ∃ k v, y = .int k ∧ lookI d k = some v ∧ Q (.int v) H1
theorem pe_md {X : Cx} {x : Str} {d : List (Int × Int)} {i : Expr} {ty : TE} {p pos : Pos} (c : ConD X.K X.mg x d) (hg : Gl X x) (hi : PE X i ty) (hs : NoSl i) (hd : (x == ("__debug__" : Str)) = false := by decide) :
    PE X (.Subscript (.Name x p) i pos) (tMD d ty) := by
  obtain ⟨a, o, es, ep, hm, hk, hx, hdt, pr⟩ := c
  intro pins s σ H Q I h
  refine subD_of PySem.F.slot_dict_getitem.lookup hs (ld_glob I hg hm (thn (hi pins s σ H _ I h) fun iv s2 ⟨y, H2, I2, ry, k, v, ey, g, q2⟩ => ?_) hd)
  subst ey
  obtain ⟨t, rfl⟩ := ry
  have ho := I2.kIn a o hk
  obtain ⟨tv, hf⟩ := ent_find pr g
  refine ⟨⟨o, ho, hx.1⟩, wpAny_getItem_of (knd := mixKind X.prog X.w) (k := .inl k) (f := fun k => findBy keyIs es k) (v := .int v tv) (mixKind_int _ _ k t) ⟨o, es, ep, ho, hx, hdt, fun e he => ent_keys pr e (Array.mem_toList_iff.mpr he), fun _ => rfl⟩ ?_ ⟨.int v, H2, I2.tok _, ⟨tv, rfl⟩, q2⟩⟩
  show findBy keyIs es (.inl k) = some (.int v tv)
  unfold findBy
  rw [← Array.find?_toList]
  exact hf
end SL
set_option Elab.async false
set_option linter.all false
set_option maxRecDepth 100000
set_option maxHeartbeats 4000000
namespace SL
open PySem PySem.Spec PyProof.Rows L2
/-! ### callables, each with its promise -/
section
variable (P : Program) (w : World) (K : PySem.W.Frag) (mg : Str → Option Value) (base : Heap)
/-- a def of the module under its name -/
def GF (k : Nat) (x : Str) (ps : List Str) (sp : Sp) : Prop := ∃ f fd, FnOk P w K mg base CX0 k f fd ps sp ∧ mg x = some (.ref f) ∧ PySem.W.keepIn K (.ref f) = true ∧ Binds K fd ps []
/-- a method of the class at C -/
def GM (C : Addr) (k : Nat) (m : Str) (ps : List Str) (sp : Sp) : Prop := ∃ f fd, FnOk P w K mg base CX0 k f fd ps sp ∧ Cls K C ∧ Meth K C m f ∧ Binds K fd ps []
/-- a class under its name, by its __init__ -/
def GC (C : Addr) (k : Nat) (x : Str) (ps : List Str) (sp : Sp) : Prop := ∃ f fd, FnOk P w K mg base CX0 k f fd ps sp ∧ Mk K C f ∧ mg x = some (.ref C) ∧ Binds K fd ps []
end
section
variable {X : Cx} {k : Nat} {C : Addr} {ps : List Str} {sp : Sp} {x m : Str} {p pos apos : Pos} {e o : Expr} {es : List Expr} {ta : TE} {t : TA}
theorem pe_gf (G : GF X.prog X.w X.K X.mg X.base k x ps sp) (hr : Room k X.A) (hg : Gl X x) (ha : PA X (e :: es) t) (hdb : (x == ("__debug__" : Str)) = false := by decide)
    (he : starEach (e :: es) X.env = (false, eval e X.env) :: starEach es X.env := by rfl) (hpl : (backTo pos (starEach es X.env)).any (·.1) = false := by rfl) :
    PE X (.Call (.Name x p) (e :: es) [] pos) (tCall sp [] E0 t) := by
  obtain ⟨f, fd, F, hm, hk, hb⟩ := G
  exact pe_call F hr hg hm hk hb .nil pass0 ha hdb he hpl
theorem pe_gc (G : GC X.prog X.w X.K X.mg X.base C k x ps sp) (hr : Room (k + 1) X.A) (hg : Gl X x) (ha : PA X (e :: es) t) (hdb : (x == ("__debug__" : Str)) = false := by decide)
    (he : starEach (e :: es) X.env = (false, eval e X.env) :: starEach es X.env := by rfl) (hpl : (backTo pos (starEach es X.env)).any (·.1) = false := by rfl) :
    PE X (.Call (.Name x p) (e :: es) [] pos) (tMake C sp [] E0 t) := by
  obtain ⟨f, fd, F, M, hm, hb⟩ := G
  exact pe_make M F hr hg hm hb .nil pass0 ha hdb he hpl
theorem pe_gm {pl : Sem Bool} (G : GM X.prog X.w X.K X.mg X.base C k m ps sp) (hr : Room k X.A) (ho : PE X o ta) (ha : PA X (e :: es) t) (hst : starEach (e :: es) X.env = (false, eval e X.env) :: starEach es X.env := by rfl) (hpl : (backTo pos (starEach es X.env)).any (·.1) = false := by rfl)
    (ht : eval (.Call (.Attribute o m apos) (e :: es) [] pos) X.env = (do
      let ov ← eval o X.env
      standAt apos.atName
      let (f, first) ← holding [ov] (getMethod ov m pl)
      callWith pos f first (backTo pos (starEach (e :: es) X.env)) (backToKw pos (keywordEach [] X.env))) := by rfl) :
    PE X (.Call (.Attribute o m apos) (e :: es) [] pos) (tMeth C m sp [] E0 ta t) := by
  obtain ⟨f, fd, F, c, hm, hb⟩ := G
  exact pe_meth ho c hm F hr hb .nil pass0 ha hst hpl ht
theorem pe_gm0 {pl : Sem Bool} (G : GM X.prog X.w X.K X.mg X.base C k m ps sp) (hr : Room k X.A) (ho : PE X o ta)
    (ht : eval (.Call (.Attribute o m apos) [] [] pos) X.env = (do
      let ov ← eval o X.env
      standAt apos.atName
      let (f, first) ← holding [ov] (getMethod ov m pl)
      callWith pos f first (backTo pos (starEach [] X.env)) (backToKw pos (keywordEach [] X.env))) := by rfl) :
    PE X (.Call (.Attribute o m apos) [] [] pos) (tMeth C m sp [] E0 ta tNil) := by
  obtain ⟨f, fd, F, c, hm, hb⟩ := G
  exact pe_meth0 ho c hm F hr hb .nil pass0 ht
end
/-! ### the text by places -/
def top (i : Nat) : Stmt := PySem.Challenge.pw_stalklines_s01_answers.main.body.getD i (.Pass ⟨0, 0, 0, 0⟩)
abbrev sLeft : Stmt := top 20
abbrev sCut : Stmt := top 21
abbrev sCuts : Stmt := top 22
abbrev sLog : Stmt := top 23
abbrev sTold : Stmt := top 24
abbrev sSet : Stmt := top 25
abbrev sAt : Stmt := top 26
abbrev sGcd : Stmt := top 27
abbrev sFI : Stmt := inClass (top 28) 0
abbrev sFP : Stmt := inClass (top 28) 1
abbrev sFT : Stmt := inClass (top 28) 2
abbrev sFX : Stmt := inClass (top 28) 3
abbrev sFO : Stmt := inClass (top 28) 4
abbrev sProd : Stmt := top 29
abbrev sCby : Stmt := top 30
abbrev sAft : Stmt := top 31
abbrev sLod : Stmt := top 32
abbrev sChOf : Stmt := top 33
abbrev sChBec : Stmt := top 34
abbrev sChMov : Stmt := top 35
abbrev sLik : Stmt := top 36
/-! ### left_over, taken_by_cut -/
def spLeft : Sp := fun vs H Q _ => ∃ n : Nat, vs = [.int n] ∧ Q (.int (Uw67.over n)) H
def spCut : Sp := fun vs H Q _ => ∃ m c : Nat, vs = [.int m, .int c] ∧ c < m ∧ Q (.int (Uw67.takes m c)) H
section
variable {P : Program} {w : World} {K : PySem.W.Frag} {mg : Str → Option Value} {base : Heap}
theorem scLeft : FnScope ["heap", "rest"] ["heap"] (defScope sLeft) := ⟨rfl, rfl, rfl, by decide +kernel, rfl, by decide +kernel, by decide +kernel⟩
theorem ok_left {f : Addr} {fd : FuncData} (F : Fun K "left_over" "left_over" sLeft f fd) : FnOk P w K mg base CX0 1 f fd ["heap"] spLeft := by
  refine F.ok scLeft (fun vs H Q E h => ?_) (fun cdv A outer s H vs Q E hr h => ?_)
  · obtain ⟨n, rfl, _⟩ := h; rfl
  · obtain ⟨n, rfl, k⟩ := h
    refine ⟨_, pss_cons (ps_if (pt_cmpR op_eq (pv 0) pe_int (nomark _)) (pss_one (ps_ret pe_int)) pss_nil) (pss_cons (ps_set (i := 1) scLeft.nd rfl (Or.inl rfl) (pe_op op_mod (pv 0) pe_int))
      (pss_one (ps_ret (pe_ifExp (pt_cmpR op_eq (pv 1) pe_int (nomark _)) pe_int (pv 1))))), ?_⟩
    refine ⟨_, rfl, rfl, _, rfl, ite2 (fun c => ?_) (fun c => ?_)⟩
    · have c' : (V.int n) = V.int 0 := of_decide_eq_true c
      injection c' with c'
      have e : n = 0 := by omega
      subst e
      exact k
    · have c' : ¬ (V.int n) = V.int 0 := fun z => c (decide_eq_true z)
      have e : n ≠ 0 := fun z => c' (by rw [z]; rfl)
      refine ⟨_, rfl, _, _, rfl, rfl, (by show (0 : Int) < 4; decide), _, rfl, rfl, _, rfl, ite2 (fun d => ?_) (fun d => ?_)⟩
      · have d' : V.int ((n : Int) % 4) = V.int 0 := of_decide_eq_true d
        injection d' with d'
        have e2 : n % 4 = 0 := by omega
        rw [Uw67.over, if_neg e, if_pos e2] at k
        exact k
      · have d' : ¬ V.int ((n : Int) % 4) = V.int 0 := fun z => d (decide_eq_true z)
        have e2 : ¬ n % 4 = 0 := fun z => d' (by rw [show ((n : Int) % 4) = 0 by omega])
        rw [Uw67.over, if_neg e, if_neg e2] at k
        refine ⟨_, rfl, ?_⟩
        exact k
theorem scCut : FnScope ["in_hand", "cut", "right"] ["in_hand", "cut"] (defScope sCut) := ⟨rfl, rfl, rfl, by decide +kernel, rfl, by decide +kernel, by decide +kernel⟩
theorem ok_cut {f : Addr} {fd : FuncData} (F : Fun K "taken_by_cut" "taken_by_cut" sCut f fd) (G : GF P w K mg base 1 "left_over" ["heap"] spLeft) : FnOk P w K mg base CX0 2 f fd ["in_hand", "cut"] spCut := by
  refine F.ok scCut (fun vs H Q E h => ?_) (fun cdv A outer s H vs Q E hr h => ?_)
  · obtain ⟨m, c, rfl, _⟩ := h; rfl
  · obtain ⟨m, c, rfl, hc, k⟩ := h
    refine ⟨_, pss_cons (ps_set (i := 2) scCut.nd rfl (Or.inl rfl) (pe_op op_sub (pe_op op_sub (pv 0) (pv 1)) pe_int))
      (pss_one (ps_ret (pe_op op_add (pe_op op_add pe_int (pe_gf G hr rfl (pa_cons (pv 1) pa_nil))) (pe_gf G hr rfl (pa_cons (pv 2) pa_nil))))), ?_⟩
    refine ⟨_, rfl, _, rfl, _, _, rfl, rfl, _, _, rfl, rfl, _, rfl, c, rfl, _, _, rfl, rfl, _, rfl, m - c - 1, ?_, _, _, rfl, rfl, ?_⟩
    · show [V.int ((m : Int) - c - 1)] = [V.int ((m - c - 1 : Nat) : Int)]
      rw [show ((m - c - 1 : Nat) : Int) = (m : Int) - c - 1 by omega]
    · unfold Uw67.takes at k
      rw [show ((1 + Uw67.over c + Uw67.over (m - c - 1) : Nat) : Int) = 1 + (Uw67.over c : Int) + (Uw67.over (m - c - 1) : Int) by omega] at k
      exact k
end
end SL
set_option Elab.async false
set_option linter.all false
set_option maxRecDepth 100000
set_option maxHeartbeats 4000000
namespace SL
open PySem PySem.Spec PyProof.Rows L2
def nV (l : List Nat) : List V := l.map fun n => V.int (n : Nat)
theorem nV_length (l : List Nat) : (nV l).length = l.length := List.length_map ..
theorem nV_get {l : List Nat} {i : Nat} {x : V} (h : (nV l)[i]? = some x) : ∃ n, l[i]? = some n ∧ x = V.int (n : Nat) := by
  unfold nV at h
  rw [List.getElem?_map] at h
  cases e : l[i]? with
  | none => rw [e] at h; cases h
  | some n => rw [e] at h; exact ⟨n, rfl, (Option.some.inj h).symm⟩
theorem drop_of {α : Type} : ∀ {l : List α} {i : Nat} {x : α}, l[i]? = some x → l.drop i = x :: l.drop (i + 1)
  | [], i, x, h => by simp at h
  | a :: l, 0, x, h => by
    have e : a = x := Option.some.inj h
    subst e; rfl
  | a :: l, i + 1, x, h => by
    show l.drop i = x :: l.drop (i + 1)
    exact drop_of (l := l) h
theorem over_le (h : Nat) : Uw67.over h ≤ h ∧ Uw67.over h ≤ 4 := by
  unfold Uw67.over
  split
  · omega
  · split <;> omega
theorem takes_le {m l : Nat} (h : l < m) : Uw67.takes m l ≤ m ∧ Uw67.takes m l ≤ 9 := by
  have a := over_le l
  have b := over_le (m - l - 1)
  unfold Uw67.takes
  omega
theorem taken_len : ∀ (cs : List Nat) (m : Nat), (takenList m cs).length ≤ cs.length
  | [], m => Nat.le_refl _
  | c :: r, m => by
    unfold takenList
    split
    · exact Nat.zero_le _
    · have := taken_len r (m - Uw67.takes m c)
      simp only [List.length_cons]; omega
theorem taken_le : ∀ (cs : List Nat) (m : Nat), ∀ t ∈ takenList m cs, t ≤ 9
  | [], m, t, h => by simp [takenList] at h
  | c :: r, m, t, h => by
    unfold takenList at h
    split at h
    · simp at h
    · rename_i hc
      rcases List.mem_cons.mp h with e | e
      · subst e; exact (takes_le (by omega)).2
      · exact taken_le r _ t e
/-! ### the module's constants and Python's own names -/
structure Txt (K : PySem.W.Frag) (mg : Str → Option Value) : Prop where
  len : mg "len" = none
  range : mg "range" = none
  enum : mg "enumerate" = none
  great : ConT K mg "GREAT" [.int 8, .int 9]
  chg : ConI mg "CHANGES_OF_A_LINE" 3
  lns : ConI mg "LINES_OF_A_HEXAGRAM" 6
/-! ### taken_by_cuts -/
def spCuts (K : PySem.W.Frag) : Sp := fun vs H Q _ => ∃ (n : Nat) (a : Addr) (cs : List Nat), vs = [.int n, .ref a] ∧ SqL K H a (nV cs) ∧ cs.length ≤ 1000 ∧
  ∀ (H' : Hp) (p : Addr), H p = none → H' p = some (.lst (nV (takenList n cs))) → Same H H' → Q (.ref p) H'
section
variable {P : Program} {w : World} {K : PySem.W.Frag} {mg : Str → Option Value} {base : Heap}
theorem scCuts : FnScope ["stalks", "cuts", "taken", "in_hand", "cut", "took"] ["stalks", "cuts"] (defScope sCuts) := ⟨rfl, rfl, rfl, by decide +kernel, rfl, by decide +kernel, by decide +kernel⟩
theorem ok_cuts {f : Addr} {fd : FuncData} (F : Fun K "taken_by_cuts" "taken_by_cuts" sCuts f fd) (G : GF P w K mg base 2 "taken_by_cut" ["in_hand", "cut"] spCut) : FnOk P w K mg base CX0 3 f fd ["stalks", "cuts"] (spCuts K) := by
  refine F.ok scCuts (fun vs H Q E h => ?_) (fun cdv A outer s H vs Q E hr h => ?_)
  · obtain ⟨n, a, cs, rfl, _⟩ := h; rfl
  · obtain ⟨n, a, cs, rfl, hS, hlen, k⟩ := h
    refine ⟨_, pss_cons (ps_set (i := 2) scCuts.nd rfl (Or.inl rfl) (pe_lst pa_nil)) (pss_cons (ps_set (i := 3) scCuts.nd rfl (Or.inl rfl) (pv 0))
      (pss_cons (ps_for PassesOwn.never rfl (pi_list (pv 1)) (pg_name (i := 4) scCuts.nd rfl (Or.inl rfl))
        (pss_cons (ps_if (PW.pt (pw_or (pt_cmpR op_eq (pv 4) pe_int (nomark _)) (pw_or1 (pt_cmpR op_ge (pv 4) (pv 3) (nomark _))))) (pss_one (ps_ret (pv 2))) pss_nil)
        (pss_cons (ps_set (i := 5) scCuts.nd rfl (Or.inl rfl) (pe_gf G hr rfl (pa_cons (pv 3) (pa_cons (pv 4) pa_nil))))
        (pss_cons (ps_expr (pe_bm PySem.F.plainAttrs_list PySem.F.slot_list_append PySem.F.type_list_append mt_append (pv 2) (pa_cons (pv 5) pa_nil)))
        (pss_one (ps_aug (i := 3) scCuts.nd rfl (Or.inl rfl) (pv 5) ip_sub))))))
      (pss_one (ps_ret (pv 2))))), ?_⟩
    refine ⟨Nat.zero_le _, fun p hp => ?_⟩
    refine ⟨_, rfl, _, rfl, a, rfl, ⟨_, (Same.new hp).seq hS⟩, for_list (K := K) (a := a) (xs := nV cs) (fun i σ H' => ∃ (m : Nat) (ts : List Nat) (v4 v5 : Option V), σ = [some (.int n), some (.ref a), some (.ref p), some (.int m), v4, v5] ∧
      takenList n cs = ts ++ takenList m (cs.drop i) ∧ ts.length ≤ i ∧ H' p = some (.lst (nV ts)) ∧ Same H H') ⟨n, [], none, none, rfl, rfl, Nat.le_refl _, upd_same, Same.new hp⟩ (fun i σ H' _ ⟨_, _, _, _, _, _, _, _, s5⟩ => s5.seq hS) ?_ ?_⟩
    · rintro i y σ H' hi ⟨m, ts, v4, v5, rfl, e1, l1, hq, s5⟩
      obtain ⟨c, hc, rfl⟩ := nV_get hi
      rw [drop_of hc] at e1
      have hi' : i < cs.length := (List.getElem?_eq_some_iff.mp hc).1
      refine ⟨_, rfl, rfl, _, rfl, ite2 (fun z => ?_) (fun z => ?_)⟩
      · have z' : V.int (c : Int) = V.int 0 := of_decide_eq_true z
        injection z' with z'
        have e : takenList m (c :: cs.drop (i + 1)) = [] := by unfold takenList; rw [if_pos (by omega)]
        refine ⟨_, rfl, ?_⟩
        rw [e, List.append_nil] at e1
        exact k H' p hp (by rw [e1]; exact hq) s5
      · have z' : ¬ c = 0 := fun q => z (decide_eq_true (by rw [q]; rfl))
        refine ⟨_, rfl, _, rfl, _, _, rfl, rfl, _, rfl, ite2 (fun y => ?_) (fun y => ?_)⟩
        · have y' : (m : Int) ≤ c := of_decide_eq_true y
          have e : takenList m (c :: cs.drop (i + 1)) = [] := by unfold takenList; rw [if_pos (by omega)]
          refine ⟨_, rfl, ?_⟩
          rw [e, List.append_nil] at e1
          exact k H' p hp (by rw [e1]; exact hq) s5
        · have y' : ¬ (m : Int) ≤ c := fun q => y (decide_eq_true q)
          have e : takenList m (c :: cs.drop (i + 1)) = Uw67.takes m c :: takenList (m - Uw67.takes m c) (cs.drop (i + 1)) := by rw [takenList, if_neg (by omega)]
          have lt := (takes_le (show c < m by omega)).1
          refine ⟨_, rfl, _, rfl, m, c, rfl, by omega, ?_⟩
          refine ⟨_, rfl, .inl ⟨rfl, _, SqL.of hq⟩, _, rfl, p, _, _, rfl, rfl, hq, (by rw [nV_length]; exact Nat.lt_of_lt_of_le (Nat.lt_of_le_of_lt l1 hi') (Nat.le_trans hlen (by decide))), ?_⟩
          refine ⟨_, rfl, _, rfl, _, _, rfl, rfl, m - Uw67.takes m c, ts ++ [Uw67.takes m c], some (.int c), some (.int (Uw67.takes m c)), ?_, ?_, ?_, ?_, Same.upd s5 hp⟩
          · rw [show ((m - Uw67.takes m c : Nat) : Int) = (m : Int) - (Uw67.takes m c : Nat) by omega]
            rfl
          · rw [e1, e, List.append_assoc]; rfl
          · rw [List.length_append]; exact Nat.add_le_add_right l1 1
          · rw [upd_same]
            unfold nV
            rw [List.map_append]
            rfl
    · rintro σ H' ⟨m, ts, v4, v5, rfl, e1, l1, hq, s5⟩
      rw [nV_length, List.drop_length] at e1
      rw [show takenList m [] = [] from rfl, List.append_nil] at e1
      exact ⟨_, rfl, k H' p hp (by rw [e1]; exact hq) s5⟩
/-! ### line_of_greats, line_told -/
def spLog : Sp := fun vs H Q _ => ∃ n : Nat, vs = [.int n] ∧ n ≤ 9 ∧ Q (.int ((9 - n : Nat) : Int)) H
theorem scLog : FnScope ["greats"] ["greats"] (defScope sLog) := ⟨rfl, rfl, rfl, by decide +kernel, rfl, by decide +kernel, by decide +kernel⟩
theorem ok_log {f : Addr} {fd : FuncData} (F : Fun K "line_of_greats" "line_of_greats" sLog f fd) : FnOk P w K mg base CX0 1 f fd ["greats"] spLog := by
  refine F.ok scLog (fun vs H Q E h => ?_) (fun cdv A outer s H vs Q E hr h => ?_)
  · obtain ⟨n, rfl, _⟩ := h; rfl
  · obtain ⟨n, rfl, hn, k⟩ := h
    refine ⟨_, pss_one (ps_ret (pe_op op_sub pe_int (pv 0))), ?_⟩
    refine ⟨_, rfl, _, _, rfl, rfl, ?_⟩
    rw [show ((9 - n : Nat) : Int) = 9 - (n : Int) by omega] at k
    exact k
def spTold (K : PySem.W.Frag) : Sp := fun vs H Q _ => ∃ (a : Addr) (ts : List Nat), vs = [.ref a] ∧ SqL K H a (nV ts) ∧ ts.length ≤ 9 ∧ (∀ t ∈ ts, t ≤ 9) ∧ ∀ H' : Hp, Same H H' → Q (.int (Uw67.lineOf ts)) H'
theorem inGreat {t : Nat} (h : t ≤ 9) : inV (.int (t : Int)) [.int 8, .int 9] = Uw67.isGreat t := by
  have q : t = 0 ∨ t = 1 ∨ t = 2 ∨ t = 3 ∨ t = 4 ∨ t = 5 ∨ t = 6 ∨ t = 7 ∨ t = 8 ∨ t = 9 := by omega
  rcases q with rfl | rfl | rfl | rfl | rfl | rfl | rfl | rfl | rfl | rfl <;> decide
theorem scTold : FnScope ["taken", "took"] ["taken"] (defScope sTold) := ⟨rfl, rfl, rfl, by decide +kernel, rfl, by decide +kernel, by decide +kernel⟩
theorem ok_told {f : Addr} {fd : FuncData} (F : Fun K "line_told" "line_told" sTold f fd) (T : Txt K mg) (G : GF P w K mg base 1 "line_of_greats" ["greats"] spLog) : FnOk P w K mg base CX0 2 f fd ["taken"] (spTold K) := by
  refine F.ok scTold (fun vs H Q E h => ?_) (fun cdv A outer s H vs Q E hr h => ?_)
  · obtain ⟨a, ts, rfl, _⟩ := h; rfl
  · obtain ⟨a, ts, rfl, hS, hlen, hle, k⟩ := h
    refine ⟨_, pss_one (ps_ret (pe_gf G hr rfl (pa_cons (pe_callB call_len rfl T.len PySem.boot_len (pa_cons (pe_lc (own := [("took", 1)]) rfl scTold.nd (pi_list (pv 0)) (blkOk_by (N := ["taken", "took"]) (sc := defScope sTold) (by decide +kernel))
      (fun s H C cl fp => pg_name (i := 1) scTold.nd rfl (Or.inl rfl)) (fun s H C cl fp => pts_one (pt_cmpR (op_inK (K := K)) (pv 1) (pe_ctK T.great) (by with_unfolding_all rfl))) (fun s H C cl fp => pv 1)) pa_nil)) pa_nil))), ?_⟩
    refine ⟨_, rfl, a, rfl, ⟨_, hS⟩, fun D hD => ?_⟩
    have fin : ∀ H' : Hp, H' D = some (.lst (nV (ts.filter Uw67.isGreat))) → Same H H' → ∃ x n, [V.ref D] = [x] ∧ LenV K x H' n ∧ ∃ n' : Nat, ([.int (n : Int)] : List V) ++ [] = [.int (n' : Int)] ∧ n' ≤ 9 ∧ Q (.int ((9 - n' : Nat) : Int)) H' := by
      intro H' hD' s5
      refine ⟨_, (ts.filter Uw67.isGreat).length, rfl, .inl ⟨_, SqL.of hD', (nV_length _).symm⟩, _, rfl, Nat.le_trans (List.length_filter_le _ _) hlen, ?_⟩
      exact k H' s5
    refine lc_list (K := K) (a := a) (xs := nV ts) (fun i H' => H' D = some (.lst (nV ((ts.take i).filter Uw67.isGreat))) ∧ Same H H') ⟨upd_same, Same.new hD⟩ (fun i H' _ ⟨_, s5⟩ => s5.seq hS) ?_ ?_
    · rintro i x H' hi ⟨hq, s5⟩
      obtain ⟨t, ht, rfl⟩ := nV_get hi
      have mt : t ∈ ts := List.mem_of_getElem? ht
      have et : ts.take (i + 1) = ts.take i ++ [t] := by rw [List.take_add_one, ht]; rfl
      refine ⟨rfl, _, rfl, fun g hg => ⟨g, _, rfl, .inr (hg _), rfl, rfl, _, rfl, ?_⟩⟩
      show if inV (.int (t : Int)) [.int 8, .int 9] = true then _ else _
      rw [inGreat (hle t mt)]
      refine ite2 (fun z => ?_) (fun z => ?_)
      · refine ⟨_, rfl, _, hq, ?_, ?_, Same.upd s5 hD⟩
        · rw [nV_length]
          exact Nat.lt_of_le_of_lt (Nat.le_trans (List.length_filter_le _ _) (Nat.le_trans (List.length_take_le' ..) hlen)) (by decide)
        · rw [upd_same, et, List.filter_append, List.filter_cons, if_pos z, List.filter_nil]
          unfold nV
          rw [List.map_append]
          rfl
      · refine ⟨?_, s5⟩
        rw [hq, et, List.filter_append, List.filter_cons, if_neg z, List.filter_nil, List.append_nil]
    · rintro H' ⟨hq, s5⟩
      rw [nV_length, List.take_length] at hq
      exact fin H' hq s5
end
end SL
set_option Elab.async false
set_option linter.all false
set_option maxRecDepth 100000
set_option maxHeartbeats 4000000
namespace SL
open PySem PySem.Spec PyProof.Rows L2
/-! ### set_of_lines -/
theorem ofLines_snoc (l : List Nat) (x : Nat) : Uw67.ofLines (l ++ [x]) = Uw67.ofLines l + x * 2 ^ l.length := by
  unfold Uw67.ofLines
  rw [List.zipIdx_append, List.map_append, List.foldl_append]
  simp
def setOf (p : Nat → Bool) (ls : List Nat) : Nat := Uw67.ofLines (ls.map fun x => if p x = true then 1 else 0)
theorem setOf_snoc (p : Nat → Bool) (ls : List Nat) (x : Nat) : setOf p (ls ++ [x]) = setOf p ls + if p x = true then 2 ^ ls.length else 0 := by
  unfold setOf
  rw [List.map_append, List.map_cons, List.map_nil, ofLines_snoc, List.length_map]
  split <;> simp
def spSet (K : PySem.W.Frag) : Sp := fun vs H Q _ => ∃ (a b : Addr) (ls : List Nat) (ks : List V), vs = [.ref a, .ref b] ∧ SqL K H a (nV ls) ∧ (∀ H', SqT K H' b ks) ∧ ks.all flatV = true ∧ ls.length ≤ 6 ∧
  ∀ H' : Hp, Same H H' → Q (.int (setOf (fun x => inV (.int (x : Nat)) ks) ls)) H'
section
variable {P : Program} {w : World} {K : PySem.W.Frag} {mg : Str → Option Value} {base : Heap}
theorem scSet : FnScope ["lines", "kinds", "number", "place", "line"] ["lines", "kinds"] (defScope sSet) := ⟨rfl, rfl, rfl, by decide +kernel, rfl, by decide +kernel, by decide +kernel⟩
theorem ok_set {f : Addr} {fd : FuncData} (F : Fun K "set_of_lines" "set_of_lines" sSet f fd) (T : Txt K mg) : FnOk P w K mg base CX0 1 f fd ["lines", "kinds"] (spSet K) := by
  refine F.ok scSet (fun vs H Q E h => ?_) (fun cdv A outer s H vs Q E hr h => ?_)
  · obtain ⟨a, b, ls, ks, rfl, _⟩ := h; rfl
  · obtain ⟨a, b, ls, ks, rfl, hS, hK, hf, hlen, k⟩ := h
    refine ⟨_, pss_cons (ps_set (i := 2) scSet.nd rfl (Or.inl rfl) pe_int)
      (pss_cons (ps_for PassesOwn.never rfl (pi_enum rfl T.enum (pa_cons (pv 0) pa_nil)) (pg_tup rfl (pgs_cons (pg_name (i := 3) scSet.nd rfl (Or.inl rfl)) (pgs_cons (pg_name (i := 4) scSet.nd rfl (Or.inl rfl)) pgs_nil)))
        (pss_one (ps_if (pt_cmpR op_in_seq (pv 4) (pv 1) (by with_unfolding_all rfl)) (pss_one (ps_aug (i := 2) scSet.nd rfl (Or.inl rfl) (pe_op op_shl pe_int (pv 3)) ip_add)) pss_nil)))
      (pss_one (ps_ret (pv 2)))), ?_⟩
    refine ⟨_, rfl, a, _, rfl, hS, for_enum (K := K) (a := a) (xs := nV ls) (fun i σ H' => ∃ v3 v4 : Option V, σ = [some (.ref a), some (.ref b), some (.int (setOf (fun x => inV (.int (x : Nat)) ks) (ls.take i))), v3, v4] ∧ Same H H')
      ⟨none, none, rfl, Same.refl H⟩ (fun i σ H' _ ⟨_, _, _, s5⟩ => s5.seq hS) ?_ ?_⟩
    · rintro i y T' σ H' hi ⟨v3, v4, rfl, s5⟩ hT'
      obtain ⟨l, hl, rfl⟩ := nV_get hi
      have hil : i < ls.length := (List.getElem?_eq_some_iff.mp hl).1
      have et : ls.take (i + 1) = ls.take i ++ [l] := by rw [List.take_add_one, hl]; rfl
      have el : (ls.take i).length = i := by rw [List.length_take]; omega
      have s6 : Same H (L2.upd H' T' (.tup [.int (i : Nat), .int (l : Nat)])) := s5.trans (Same.new hT')
      refine ⟨T', _, rfl, SqT.of upd_same, rfl, _, _, rfl, _, _, rfl, rfl, _, rfl, _, rfl, b, ks, rfl, .inr (hK _), rfl, hf, _, rfl, ite2 (fun z => ?_) (fun z => ?_)⟩
      · refine ⟨_, rfl, _, rfl, _, _, rfl, rfl, ⟨by omega, by omega, by decide⟩, _, _, rfl, rfl, some (.int (i : Nat)), some (.int (l : Nat)), ?_, s6⟩
        have z : inV (.int (l : Nat)) ks = true := z
        rw [et, setOf_snoc, el, if_pos z]
        dsimp only
        have e2 : (1 : Int) * 2 ^ ((i : Int)).toNat = ((2 ^ i : Nat) : Int) := by
          rw [Int.toNat_natCast, Int.one_mul]; simp
        rw [e2, show ((setOf (fun x => inV (.int (x : Nat)) ks) (ls.take i) + 2 ^ i : Nat) : Int) = (setOf (fun x => inV (.int (x : Nat)) ks) (ls.take i) : Int) + ((2 ^ i : Nat) : Int) by omega]
        rfl
      · refine ⟨some (.int (i : Nat)), some (.int (l : Nat)), ?_, s6⟩
        have z : ¬ inV (.int (l : Nat)) ks = true := z
        rw [et, setOf_snoc, if_neg z]
        rfl
    · rintro σ H' ⟨v3, v4, rfl, s5⟩
      rw [nV_length, List.take_length]
      exact ⟨_, rfl, k H' s5⟩
/-! ### line_at -/
def spAt : Sp := fun vs H Q _ => ∃ h m p : Nat, vs = [.int h, .int m, .int p] ∧ Q (.int (Uw67.kind (Uw67.bit h p) (Uw67.bit m p))) H
theorem bit_int (x p : Nat) : Builtin.bitAnd ((x : Int) / 2 ^ ((p : Nat) : Int).toNat) 1 = ((Uw67.bit x p : Nat) : Int) := by
  rw [Int.toNat_natCast]
  have e : ((x : Int) / 2 ^ p) = ((x / 2 ^ p : Nat) : Int) := by
    rw [show ((2 : Int) ^ p) = ((2 ^ p : Nat) : Int) by simp]
    rfl
  rw [e, bitAnd_m1]
  rfl
theorem bit_01 (x p : Nat) : Uw67.bit x p = 0 ∨ Uw67.bit x p = 1 := by unfold Uw67.bit; omega
theorem scAt : FnScope ["hexagram", "moving", "place", "moves"] ["hexagram", "moving", "place"] (defScope sAt) := ⟨rfl, rfl, rfl, by decide +kernel, rfl, by decide +kernel, by decide +kernel⟩
theorem ok_at {f : Addr} {fd : FuncData} (F : Fun K "line_at" "line_at" sAt f fd) : FnOk P w K mg base CX0 1 f fd ["hexagram", "moving", "place"] spAt := by
  refine F.ok scAt (fun vs H Q E h => ?_) (fun cdv A outer s H vs Q E hr h => ?_)
  · obtain ⟨h, m, p, rfl, _⟩ := h; rfl
  · obtain ⟨h, m, p, rfl, k⟩ := h
    refine ⟨_, pss_cons (ps_set (i := 3) scAt.nd rfl (Or.inl rfl) (pe_op (opE op_and) (pe_op op_shr (pv 1) (pv 2)) pe_int))
      (pss_cons (ps_if (pt_truth (pe_op (opE op_and) (pe_op op_shr (pv 0) (pv 2)) pe_int) (fun _ => rfl)) (pss_one (ps_ret (pe_ifExp (pt_truth (pv 3) (fun _ => rfl)) pe_int pe_int))) pss_nil)
      (pss_one (ps_ret (pe_ifExp (pt_truth (pv 3) (fun _ => rfl)) pe_int pe_int)))), ?_⟩
    have hp : (0 : Int) ≤ (p : Int) := by omega
    refine ⟨_, rfl, _, rfl, _, _, rfl, rfl, hp, _, _, _, rfl, rfl, bit_int m p, ?_⟩
    refine ⟨_, rfl, _, rfl, _, _, rfl, rfl, hp, _, _, _, rfl, rfl, bit_int h p, ?_⟩
    unfold Uw67.kind at k
    rcases bit_01 h p with e | e <;> rcases bit_01 m p with e2 | e2 <;> rw [e, e2] at k ⊢
    · exact ⟨_, rfl, iteF ⟨_, rfl, _, rfl, iteF k⟩⟩
    · exact ⟨_, rfl, iteF ⟨_, rfl, _, rfl, iteT k⟩⟩
    · exact ⟨_, rfl, iteT ⟨_, rfl, _, rfl, iteF k⟩⟩
    · exact ⟨_, rfl, iteT ⟨_, rfl, _, rfl, iteT k⟩⟩
/-! ### common_divisor -/
def spGcd : Sp := fun vs H Q _ => ∃ a b : Nat, vs = [.int a, .int b] ∧ Q (.int (Nat.gcd a b)) H
def slotN (σ : L2.St) (i : Nat) : Nat := match σ[i]? with
  | some (some (.int z)) => z.toNat
  | _ => 0
theorem scGcd : FnScope ["one", "other", "rest"] ["one", "other"] (defScope sGcd) := ⟨rfl, rfl, rfl, by decide +kernel, rfl, by decide +kernel, by decide +kernel⟩
theorem ok_gcd {f : Addr} {fd : FuncData} (F : Fun K "common_divisor" "common_divisor" sGcd f fd) : FnOk P w K mg base CX0 1 f fd ["one", "other"] spGcd := by
  refine F.ok scGcd (fun vs H Q E h => ?_) (fun cdv A outer s H vs Q E hr h => ?_)
  · obtain ⟨a, b, rfl, _⟩ := h; rfl
  · obtain ⟨a, b, rfl, k⟩ := h
    refine ⟨_, pss_cons (ps_while PassesOwn.never (pt_cmpR op_gt (pv 1) pe_int (nomark _))
        (pss_cons (ps_set (i := 2) scGcd.nd rfl (Or.inl rfl) (pe_op op_mod (pv 0) (pv 1))) (pss_cons (ps_set (i := 0) scGcd.nd rfl (Or.inl rfl) (pv 1)) (pss_one (ps_set (i := 1) scGcd.nd rfl (Or.inl rfl) (pv 2))))))
      (pss_one (ps_ret (pv 0))), ?_⟩
    refine while_by (fun σ H' => H' = H ∧ ∃ (x y : Nat) (v : Option V), σ = [some (.int x), some (.int y), v] ∧ Nat.gcd x y = Nat.gcd a b) (fun σ _ => slotN σ 1) ⟨rfl, a, b, none, rfl, rfl⟩ ?_ ?_
    · rintro σ H' ⟨rfl, x, y, v, rfl, e⟩
      refine ⟨_, rfl, _, _, rfl, rfl, _, rfl, ite2 (fun z => ?_) (fun z => ?_)⟩
      · have z' : (0 : Int) < y := of_decide_eq_true z
        refine ⟨_, rfl, _, rfl, _, _, rfl, rfl, z', _, rfl, _, rfl, ⟨rfl, y, x % y, _, rfl, ?_⟩, ?_⟩
        · rw [← e, Nat.gcd_comm y, ← Nat.gcd_rec, Nat.gcd_comm]
        · show ((x : Int) % (y : Int)).toNat < (y : Int).toNat
          have := Int.emod_lt_of_pos (x : Int) z'
          omega
      · have z' : ¬ (0 : Int) < y := fun q => z (decide_eq_true q)
        have y0 : y = 0 := by omega
        subst y0
        rw [Nat.gcd_zero_right] at e
        subst e
        exact ⟨_, rfl, k⟩
    · rintro σ H' Q1 Q2 hq ⟨v, e, i, j, h1, h2, c, hc, q⟩
      exact ⟨v, e, i, j, h1, h2, c, hc, hq _ _ q⟩
end
end SL
set_option Elab.async false
set_option linter.all false
set_option maxRecDepth 100000
set_option maxHeartbeats 4000000
namespace SL
open PySem PySem.Spec PyProof.Rows L2
open Uw67 (Frac frac plus times)
/-! ### fractions: their size -/
structure Fb (k : Nat) (f : Frac) : Prop where
  u : f.u < 2 ^ k
  p : 0 < f.l
  l : f.l < 2 ^ k
theorem Fb.mono {j k : Nat} {f : Frac} (h : Fb j f) (hk : j ≤ k) : Fb k f := ⟨Nat.lt_of_lt_of_le h.u (Nat.pow_le_pow_right (by decide) hk), h.p, Nat.lt_of_lt_of_le h.l (Nat.pow_le_pow_right (by decide) hk)⟩
theorem frac_fb {k a b : Nat} (ha : a < 2 ^ k) (h0 : 0 < b) (hb : b < 2 ^ k) : Fb k (frac a b) := by
  have g0 : 0 < Nat.gcd a b := Nat.gcd_pos_of_pos_right a h0
  have gd : Nat.gcd a b ∣ b := Nat.gcd_dvd_right a b
  exact ⟨Nat.lt_of_le_of_lt (Nat.div_le_self _ _) ha, Nat.div_pos (Nat.le_of_dvd h0 gd) g0, Nat.lt_of_le_of_lt (Nat.div_le_self _ _) hb⟩
theorem mul_lt {j k a b : Nat} (ha : a < 2 ^ j) (hb : b < 2 ^ k) : a * b < 2 ^ (j + k) := by
  rw [Nat.pow_add]
  exact Nat.mul_lt_mul'' ha hb
theorem times_fb {j k : Nat} {f g : Frac} (hf : Fb j f) (hg : Fb k g) : Fb (j + k) (times f g) := frac_fb (mul_lt hf.u hg.u) (Nat.mul_pos hf.p hg.p) (mul_lt hf.l hg.l)
theorem plus_fb {j k : Nat} {f g : Frac} (hf : Fb j f) (hg : Fb k g) : Fb (j + k + 1) (plus f g) := by
  have h1 := mul_lt hf.u hg.l
  have h2 := mul_lt hg.u hf.l
  have h3 := mul_lt hf.l hg.l
  rw [Nat.add_comm k j] at h2
  refine frac_fb ?_ (Nat.mul_pos hf.p hg.p) ?_
  · rw [Nat.pow_succ]; omega
  · rw [Nat.pow_succ]; omega
theorem lt_big {n k : Nat} (h : n < 2 ^ k) (hk : k ≤ 4000) : Big (n : Int) := by
  show (n : Int).natAbs < BIGN
  rw [Int.natAbs_natCast]
  exact Nat.lt_of_lt_of_le h (Nat.pow_le_pow_right (by decide) hk)
/-! ### a Fraction on the heap -/
def ff (f : Frac) : List (Str × V) := putF "below" (.int (f.l : Nat)) (putF "above" (.int (f.u : Nat)) [])
theorem ff_a (f : Frac) : (ff f).lookup ("above" : Str) = some (.int (f.u : Nat)) := by
  unfold ff
  rw [lookup_putF, if_neg (by decide +kernel), lookup_putF, if_pos rfl]
theorem ff_b (f : Frac) : (ff f).lookup ("below" : Str) = some (.int (f.l : Nat)) := by
  unfold ff
  rw [lookup_putF, if_pos rfl]
theorem ff_no (f : Frac) {m : Str} (h1 : ¬ m = "below") (h2 : ¬ m = "above") : (ff f).lookup m = none := by
  unfold ff
  rw [lookup_putF, if_neg h1, lookup_putF, if_neg h2]
  rfl
def FracAt (C : Addr) (H : Hp) (a : Addr) (f : Frac) : Prop := ∃ dx, H a = some (.ins C dx (ff f))
theorem FracAt.same {C : Addr} {H H' : Hp} {a : Addr} {f : Frac} (h : FracAt C H a f) (s : Same H H') : FracAt C H' a f := let ⟨dx, e⟩ := h; ⟨dx, s _ _ e⟩
theorem FracAt.upd {C : Addr} {H : Hp} {a p : Addr} {f : Frac} {o : HO} (h : FracAt C H a f) (hp : H p = none) : FracAt C (L2.upd H p o) a f := h.same (Same.new hp)
structure TxF (K : PySem.W.Frag) (C : Addr) : Prop where
  cl : Cls K C
  nA : NoAttr K C "above"
  nB : NoAttr K C "below"
def spFI (C : Addr) : Sp := fun vs H Q _ => ∃ (x dx : Addr) (a b : Nat), vs = [.ref x, .int a, .int b] ∧ H x = some (.ins C dx []) ∧ 0 < b ∧ Big (b : Int) ∧
  ∀ H' : Hp, FracAt C H' x (frac a b) → (∀ c o, H c = some o → c ≠ x → H' c = some o) → Q .non H'
def spFP (C : Addr) (op : Frac → Frac → Frac) : Sp := fun vs H Q _ => ∃ (p q : Addr) (f g : Frac), vs = [.ref p, .ref q] ∧ FracAt C H p f ∧ FracAt C H q g ∧ Fb 1500 f ∧ Fb 1500 g ∧
  ∀ (H' : Hp) (x : Addr), H x = none → FracAt C H' x (op f g) → Same H H' → Q (.ref x) H'
def spFO (C : Addr) : Sp := fun vs H Q _ => ∃ (p : Addr) (f : Frac), vs = [.ref p] ∧ FracAt C H p f ∧
  ∀ (H' : Hp) (x : Addr), H x = none → H' x = some (.lst (nV [f.u, f.l])) → Same H H' → Q (.ref x) H'
/-- Fraction(a, b) -/
theorem mk_frac {C : Addr} {H : Hp} {Q : VK} {a b : Nat} (hb : 0 < b) (hB : Big (b : Int)) (k : ∀ (H' : Hp) (x : Addr), H x = none → FracAt C H' x (frac a b) → Same H H' → Q (.ref x) H') :
    ∀ x dx, H x = none → H dx = none → dx ≠ x → spFI C (.ref x :: ([.int (a : Nat), .int (b : Nat)] ++ [])) (L2.upd (L2.upd H dx (.own x)) x (.ins C dx [])) (fun v H2 => v = .non ∧ Q (.ref x) H2) E0 := fun x dx hx hd hne =>
  ⟨x, dx, a, b, rfl, upd_same, hb, hB, fun H' hF kp => ⟨rfl, k H' x hx hF (Same.made hx hd kp)⟩⟩
section
variable {P : Program} {w : World} {K : PySem.W.Frag} {mg : Str → Option Value} {base : Heap}
theorem scFI : FnScope ["self", "above", "below", "divisor"] ["self", "above", "below"] (defScope sFI) := ⟨rfl, rfl, rfl, by decide +kernel, rfl, by decide +kernel, by decide +kernel⟩
theorem ok_fi {f C : Addr} {fd : FuncData} (F : Fun K "__init__" "Fraction.__init__" sFI f fd) (T : TxF K C) (G : GF P w K mg base 1 "common_divisor" ["one", "other"] spGcd) : FnOk P w K mg base CX0 2 f fd ["self", "above", "below"] (spFI C) := by
  refine F.ok scFI (fun vs H Q E h => ?_) (fun cdv A outer s H vs Q E hr h => ?_)
  · obtain ⟨x, dx, a, b, rfl, _⟩ := h; rfl
  · obtain ⟨x, dx, a, b, rfl, hx, hb, hB, k⟩ := h
    refine ⟨_, pss_cons (ps_set (i := 3) scFI.nd rfl (Or.inl rfl) (pe_gf G hr rfl (pa_cons (pv 1) (pa_cons (pv 2) pa_nil))))
      (pss_cons (ps_fld (pv 0) (pe_op op_fdivB (pv 1) (pv 3)) rfl) (pss_one (ps_fld (pv 0) (pe_op op_fdivB (pv 2) (pv 3)) rfl))), ?_⟩
    have g0 : 0 < Nat.gcd a b := Nat.gcd_pos_of_pos_right a hb
    have gl : Nat.gcd a b ≤ b := Nat.le_of_dvd hb (Nat.gcd_dvd_right a b)
    have gB : Big ((Nat.gcd a b : Nat) : Int) := by
      have hB' : (b : Int).natAbs < BIGN := hB
      show ((Nat.gcd a b : Nat) : Int).natAbs < BIGN
      rw [Int.natAbs_natCast] at hB' ⊢
      exact Nat.lt_of_le_of_lt gl hB'
    have g1 : (0 : Int) < (Nat.gcd a b : Nat) := by omega
    refine ⟨_, rfl, _, rfl, a, b, rfl, ?_⟩
    refine ⟨_, rfl, _, rfl, _, _, rfl, rfl, ⟨g1, gB⟩, _, rfl, x, C, dx, _, rfl, hx, T.cl, T.nA, (by show 0 < 1000; decide), ?_⟩
    refine ⟨_, rfl, _, rfl, _, _, rfl, rfl, ⟨g1, gB⟩, _, rfl, x, C, dx, _, rfl, upd_same, T.cl, T.nB, (by show 1 < 1000; decide), ?_⟩
    refine k _ ⟨dx, ?_⟩ fun c o e hc => by rw [upd_ne hc, upd_ne hc]; exact e
    rw [upd_same]
    rfl
theorem scFP : FnScope ["self", "other"] ["self", "other"] (defScope sFP) := ⟨rfl, rfl, rfl, by decide +kernel, rfl, by decide +kernel, by decide +kernel⟩
theorem ok_fp {f C : Addr} {fd : FuncData} (F : Fun K "plus" "Fraction.plus" sFP f fd) (T : TxF K C) (G : GC P w K mg base C 2 "Fraction" ["self", "above", "below"] (spFI C)) : FnOk P w K mg base CX0 4 f fd ["self", "other"] (spFP C plus) := by
  refine F.ok scFP (fun vs H Q E h => ?_) (fun cdv A outer s H vs Q E hr h => ?_)
  · obtain ⟨p, q, f1, f2, rfl, _⟩ := h; rfl
  · obtain ⟨p, q, f1, f2, rfl, ⟨d1, h1⟩, ⟨d2, h2⟩, b1, b2, k⟩ := h
    refine ⟨_, pss_one (ps_ret (pe_gc G hr rfl (pa_cons (pe_op op_add (pe_op op_mulB (pe_fld (pv 0) rfl) (pe_fld (pv 1) rfl)) (pe_op op_mulB (pe_fld (pv 1) rfl) (pe_fld (pv 0) rfl))) (pa_cons (pe_op op_mulB (pe_fld (pv 0) rfl) (pe_fld (pv 1) rfl)) pa_nil)))), ?_⟩
    have B1u := lt_big b1.u (by decide)
    have B1l := lt_big b1.l (by decide)
    have B2u := lt_big b2.u (by decide)
    have B2l := lt_big b2.l (by decide)
    refine ⟨_, rfl, p, C, d1, _, _, rfl, h1, T.cl, T.nA, ff_a _, _, rfl, q, C, d2, _, _, rfl, h2, T.cl, T.nB, ff_b _, _, _, rfl, rfl, ⟨B1u, B2l⟩, ?_⟩
    refine ⟨_, rfl, q, C, d2, _, _, rfl, h2, T.cl, T.nA, ff_a _, _, rfl, p, C, d1, _, _, rfl, h1, T.cl, T.nB, ff_b _, _, _, rfl, rfl, ⟨B2u, B1l⟩, _, _, rfl, rfl, ?_⟩
    refine ⟨_, rfl, p, C, d1, _, _, rfl, h1, T.cl, T.nB, ff_b _, _, rfl, q, C, d2, _, _, rfl, h2, T.cl, T.nB, ff_b _, _, _, rfl, rfl, ⟨B1l, B2l⟩, ?_⟩
    exact mk_frac (a := f1.u * f2.l + f2.u * f1.l) (b := f1.l * f2.l) (Nat.mul_pos b1.p b2.p) (lt_big (mul_lt b1.l b2.l) (by decide)) k
theorem scFT : FnScope ["self", "other"] ["self", "other"] (defScope sFT) := ⟨rfl, rfl, rfl, by decide +kernel, rfl, by decide +kernel, by decide +kernel⟩
theorem ok_ft {f C : Addr} {fd : FuncData} (F : Fun K "times" "Fraction.times" sFT f fd) (T : TxF K C) (G : GC P w K mg base C 2 "Fraction" ["self", "above", "below"] (spFI C)) : FnOk P w K mg base CX0 4 f fd ["self", "other"] (spFP C times) := by
  refine F.ok scFT (fun vs H Q E h => ?_) (fun cdv A outer s H vs Q E hr h => ?_)
  · obtain ⟨p, q, f1, f2, rfl, _⟩ := h; rfl
  · obtain ⟨p, q, f1, f2, rfl, ⟨d1, h1⟩, ⟨d2, h2⟩, b1, b2, k⟩ := h
    refine ⟨_, pss_one (ps_ret (pe_gc G hr rfl (pa_cons (pe_op op_mulB (pe_fld (pv 0) rfl) (pe_fld (pv 1) rfl)) (pa_cons (pe_op op_mulB (pe_fld (pv 0) rfl) (pe_fld (pv 1) rfl)) pa_nil)))), ?_⟩
    have B1u := lt_big b1.u (by decide)
    have B1l := lt_big b1.l (by decide)
    have B2u := lt_big b2.u (by decide)
    have B2l := lt_big b2.l (by decide)
    refine ⟨_, rfl, p, C, d1, _, _, rfl, h1, T.cl, T.nA, ff_a _, _, rfl, q, C, d2, _, _, rfl, h2, T.cl, T.nA, ff_a _, _, _, rfl, rfl, ⟨B1u, B2u⟩, ?_⟩
    refine ⟨_, rfl, p, C, d1, _, _, rfl, h1, T.cl, T.nB, ff_b _, _, rfl, q, C, d2, _, _, rfl, h2, T.cl, T.nB, ff_b _, _, _, rfl, rfl, ⟨B1l, B2l⟩, ?_⟩
    exact mk_frac (a := f1.u * f2.u) (b := f1.l * f2.l) (Nat.mul_pos b1.p b2.p) (lt_big (mul_lt b1.l b2.l) (by decide)) k
def spFX (C : Addr) : Sp := fun vs H Q _ => ∃ (p q : Addr) (f g : Frac), vs = [.ref p, .ref q] ∧ FracAt C H p f ∧ FracAt C H q g ∧ Fb 1500 f ∧ Fb 1500 g ∧ Q (.bl (Uw67.less g f)) H
theorem scFX : FnScope ["self", "other"] ["self", "other"] (defScope sFX) := ⟨rfl, rfl, rfl, by decide +kernel, rfl, by decide +kernel, by decide +kernel⟩
theorem ok_fx {f C : Addr} {fd : FuncData} (F : Fun K "exceeds" "Fraction.exceeds" sFX f fd) (T : TxF K C) : FnOk P w K mg base CX0 1 f fd ["self", "other"] (spFX C) := by
  refine F.ok scFX (fun vs H Q E h => ?_) (fun cdv A outer s H vs Q E hr h => ?_)
  · obtain ⟨p, q, f1, f2, rfl, _⟩ := h; rfl
  · obtain ⟨p, q, f1, f2, rfl, ⟨d1, h1⟩, ⟨d2, h2⟩, b1, b2, k⟩ := h
    refine ⟨_, pss_one (ps_ret (pe_cmpR op_gt (pe_op op_mulB (pe_fld (pv 0) rfl) (pe_fld (pv 1) rfl)) (pe_op op_mulB (pe_fld (pv 1) rfl) (pe_fld (pv 0) rfl)) (nomark _))), ?_⟩
    have B1u := lt_big b1.u (by decide)
    have B1l := lt_big b1.l (by decide)
    have B2u := lt_big b2.u (by decide)
    have B2l := lt_big b2.l (by decide)
    refine ⟨_, rfl, p, C, d1, _, _, rfl, h1, T.cl, T.nA, ff_a _, _, rfl, q, C, d2, _, _, rfl, h2, T.cl, T.nB, ff_b _, _, _, rfl, rfl, ⟨B1u, B2l⟩, ?_⟩
    refine ⟨_, rfl, q, C, d2, _, _, rfl, h2, T.cl, T.nA, ff_a _, _, rfl, p, C, d1, _, _, rfl, h1, T.cl, T.nB, ff_b _, _, _, rfl, rfl, ⟨B2u, B1l⟩, _, _, rfl, rfl, ?_⟩
    have e : Uw67.less f2 f1 = decide ((f2.u : Int) * (f1.l : Int) < (f1.u : Int) * (f2.l : Int)) := by
      unfold Uw67.less
      rw [decide_eq_decide, ← Int.natCast_mul, ← Int.natCast_mul, Int.ofNat_lt]
    rw [e] at k
    exact k
theorem scFO : FnScope ["self"] ["self"] (defScope sFO) := ⟨rfl, rfl, rfl, by decide +kernel, rfl, by decide +kernel, by decide +kernel⟩
theorem ok_fo {f C : Addr} {fd : FuncData} (F : Fun K "told" "Fraction.told" sFO f fd) (T : TxF K C) : FnOk P w K mg base CX0 1 f fd ["self"] (spFO C) := by
  refine F.ok scFO (fun vs H Q E h => ?_) (fun cdv A outer s H vs Q E hr h => ?_)
  · obtain ⟨p, f1, rfl, _⟩ := h; rfl
  · obtain ⟨p, f1, rfl, ⟨d1, h1⟩, k⟩ := h
    refine ⟨_, pss_one (ps_ret (pe_lst (pa_cons (pe_fld (pv 0) rfl) (pa_cons (pe_fld (pv 0) rfl) pa_nil)))), ?_⟩
    refine ⟨_, rfl, p, C, d1, _, _, rfl, h1, T.cl, T.nA, ff_a _, _, rfl, p, C, d1, _, _, rfl, h1, T.cl, T.nB, ff_b _, (by show 2 ≤ sizeLine; decide), fun x hx => ?_⟩
    exact k _ x hx upd_same (Same.new hx)
/-! ### product_of -/
def Fracs (C : Addr) (H : Hp) (as : List Addr) (fs : List Frac) : Prop := Paired (fun a f => FracAt C H a f) as fs
theorem Fracs.same {C : Addr} {H H' : Hp} {as : List Addr} {fs : List Frac} (h : Fracs C H as fs) (s : Same H H') : Fracs C H' as fs := Paired.mapP h fun _ _ z => z.same s
def spProd (K : PySem.W.Frag) (C : Addr) : Sp := fun vs H Q _ => ∃ (l : Addr) (as : List Addr) (fs : List Frac), vs = [.ref l] ∧ SqL K H l (as.map V.ref) ∧ Fracs C H as fs ∧ (∀ f ∈ fs, Fb 200 f) ∧ fs.length ≤ 7 ∧
  ∀ (H' : Hp) (x : Addr), H x = none → FracAt C H' x (Uw67.product fs) → Same H H' → Q (.ref x) H'
theorem prod_snoc (fs : List Frac) (f : Frac) : Uw67.product (fs ++ [f]) = times (Uw67.product fs) f := by
  unfold Uw67.product
  rw [List.foldl_append]
  rfl
theorem prod_fb : ∀ (fs : List Frac) (i : Nat), (∀ f ∈ fs, Fb 200 f) → i ≤ fs.length → Fb (200 * i + 1) (Uw67.product (fs.take i))
  | fs, 0, _, _ => by
    rw [List.take_zero]
    exact ⟨by decide, by decide, by decide⟩
  | fs, i + 1, h, hi => by
    have hl : i < fs.length := hi
    have e : fs.take (i + 1) = fs.take i ++ [fs[i]] := by rw [List.take_add_one, List.getElem?_eq_getElem hl]; rfl
    rw [e, prod_snoc]
    have q := times_fb (prod_fb fs i h (Nat.le_of_lt hl)) (h fs[i] (List.getElem_mem hl))
    exact q.mono (by omega)
theorem scProd : FnScope ["fractions", "product", "fraction"] ["fractions"] (defScope sProd) := ⟨rfl, rfl, rfl, by decide +kernel, rfl, by decide +kernel, by decide +kernel⟩
theorem ok_prod {f C : Addr} {fd : FuncData} (F : Fun K "product_of" "product_of" sProd f fd) (G : GC P w K mg base C 2 "Fraction" ["self", "above", "below"] (spFI C)) (GT : GM P w K mg base C 4 "times" ["self", "other"] (spFP C times)) :
    FnOk P w K mg base CX0 5 f fd ["fractions"] (spProd K C) := by
  refine F.ok scProd (fun vs H Q E h => ?_) (fun cdv A outer s H vs Q E hr h => ?_)
  · obtain ⟨l, as, fs, rfl, _⟩ := h; rfl
  · obtain ⟨l, as, fs, rfl, hS, hF, hB, hlen, k⟩ := h
    have hr3 : Room 3 _ := hr.mono (by decide)
    have hal : as.length = fs.length := Paired.length hF
    refine ⟨_, pss_cons (ps_set (i := 1) scProd.nd rfl (Or.inl rfl) (pe_gc G hr3 rfl (pa_cons pe_int (pa_cons pe_int pa_nil))))
      (pss_cons (ps_for PassesOwn.never rfl (pi_list (pv 0)) (pg_name (i := 2) scProd.nd rfl (Or.inl rfl)) (pss_one (ps_set (i := 1) scProd.nd rfl (Or.inl rfl) (pe_gm GT hr (pv 1) (pa_cons (pv 2) pa_nil)))))
      (pss_one (ps_ret (pv 1)))), ?_⟩
    refine fun x0 dx0 hx0 hd0 _ => ⟨x0, dx0, 1, 1, rfl, upd_same, by decide, lt_big (k := 1) (by decide) (by decide), fun H1 hF0 kp => ⟨rfl, ?_⟩⟩
    have s1 : Same H H1 := Same.made hx0 hd0 kp
    refine ⟨_, rfl, l, rfl, ⟨_, s1.seq hS⟩, for_list (K := K) (a := l) (xs := as.map V.ref) (fun i σ H' => ∃ (x : Addr) (v2 : Option V), σ = [some (.ref l), some (.ref x), v2] ∧ H x = none ∧ FracAt C H' x (Uw67.product (fs.take i)) ∧ Same H H')
      ⟨x0, none, rfl, hx0, hF0, s1⟩ (fun i σ H' _ ⟨_, _, _, _, _, s5⟩ => s5.seq hS) ?_ ?_⟩
    · rintro i y σ H' hi ⟨x, v2, rfl, hx, hFx, s5⟩
      rw [List.getElem?_map] at hi
      cases e : as[i]? with
      | none => rw [e] at hi; cases hi
      | some a =>
        rw [e] at hi
        obtain rfl : V.ref a = y := Option.some.inj hi
        obtain ⟨f, hf, hFa⟩ := paired_get hF e
        have hil : i < fs.length := (List.getElem?_eq_some_iff.mp hf).1
        have et : fs.take (i + 1) = fs.take i ++ [f] := by rw [List.take_add_one, hf]; rfl
        obtain ⟨dx, hxx⟩ := hFx
        refine ⟨_, rfl, x, dx, _, rfl, hxx, ff_no _ (by decide +kernel) (by decide +kernel), _, rfl, x, a, Uw67.product (fs.take i), f, rfl, ⟨dx, hxx⟩, hFa.same s5, (prod_fb fs i hB (Nat.le_of_lt hil)).mono (by omega), (hB f (List.mem_of_getElem? hf)).mono (by decide), fun H2 z hz hFz s6 => ?_⟩
        refine ⟨z, some (.ref a), rfl, s5.free hz, ?_, s5.trans s6⟩
        rw [et, prod_snoc]
        exact hFz
    · rintro σ H' ⟨x, v2, rfl, hx, hFx, s5⟩
      rw [List.length_map, hal, List.take_length] at hFx
      exact ⟨_, rfl, k H' x hx hFx s5⟩
end
end SL
set_option Elab.async false
set_option linter.all false
set_option maxRecDepth 100000
set_option maxHeartbeats 4000000
namespace SL
open PySem PySem.Spec PyProof.Rows L2
open Uw67 (Frac frac plus times)
/-! ### a dict on the heap against a table -/
section
variable {κ κ' β : Type} [DecidableEq κ] [DecidableEq κ'] {fk : κ → κ'} {R R' : V → β → Prop}
def Dm (fk : κ → κ') (R : V → β → Prop) (kvs : List (κ' × V)) (m : List (κ × β)) : Prop := Paired (fun (p : κ' × V) (x : κ × β) => p.1 = fk x.1 ∧ R p.2 x.2) kvs m
theorem Dm.mono {kvs : List (κ' × V)} {m : List (κ × β)} (h : Dm fk R kvs m) (f : ∀ v b, R v b → R' v b) : Dm fk R' kvs m := Paired.mapP h fun _ _ z => ⟨z.1, f _ _ z.2⟩
theorem Dm.length {kvs : List (κ' × V)} {m : List (κ × β)} (h : Dm fk R kvs m) : kvs.length = m.length := Paired.length h
theorem Dm.any (inj : ∀ a b, fk a = fk b → a = b) (k : κ) {kvs : List (κ' × V)} {m : List (κ × β)} (h : Dm fk R kvs m) : (kvs.any fun kv => decide (kv.1 = fk k)) = m.any fun kv => decide (kv.1 = k) := by
  unfold Dm at h
  induction h with
  | nil => rfl
  | @cons p q ps qs r t ih =>
    rw [List.any_cons, List.any_cons, ih]
    congr 1
    rw [r.1]
    by_cases e : q.1 = k
    · rw [e, decide_eq_true rfl, decide_eq_true rfl]
    · rw [decide_eq_false e, decide_eq_false fun z => e (inj _ _ z)]
theorem Dm.get (inj : ∀ a b, fk a = fk b → a = b) (k : κ) {kvs : List (κ' × V)} {m : List (κ × β)} (h : Dm fk R kvs m) :
    (∃ v b, valV kvs (fk k) = some v ∧ get? m k = some b ∧ R v b) ∨ (valV kvs (fk k) = none ∧ get? m k = none) := by
  unfold Dm at h
  induction h with
  | nil => exact .inr ⟨rfl, rfl⟩
  | @cons p q ps qs r t ih =>
    by_cases e : q.1 = k
    · have e' : p.1 = fk k := by rw [r.1, e]
      refine .inl ⟨p.2, q.2, valV_pos e', ?_, r.2⟩
      simp [get?, List.find?_cons, e]
    · have e' : ¬ p.1 = fk k := fun z => e (inj _ _ (r.1.symm.trans z))
      have e2 : get? (q :: qs) k = get? qs k := by simp [get?, List.find?_cons, e]
      rw [valV_neg e', e2]
      exact ih
theorem Dm.put (inj : ∀ a b, fk a = fk b → a = b) (k : κ) {v : V} {b : β} (rv : R v b) {kvs : List (κ' × V)} {m : List (κ × β)} (h : Dm fk R kvs m) : Dm fk R (putK kvs (fk k) v) (SL.put m k b) := by
  unfold putK SL.put
  rw [h.any inj k]
  by_cases c : (m.any fun kv => decide (kv.1 = k)) = true
  · rw [if_pos c, if_pos c]
    clear c
    unfold Dm at h ⊢
    induction h with
    | nil => exact .nil
    | @cons p q ps qs r t ih =>
      rw [List.map_cons, List.map_cons]
      refine .cons ?_ ih
      by_cases e : q.1 = k
      · have e' : p.1 = fk k := by rw [r.1, e]
        rw [if_pos e, if_pos e']
        exact ⟨r.1, rv⟩
      · have e' : ¬ p.1 = fk k := fun z => e (inj _ _ (r.1.symm.trans z))
        rw [if_neg e, if_neg e']
        exact r
  · rw [if_neg c, if_neg c]
    exact Paired.snoc h ⟨rfl, rv⟩
theorem Dm.at_ {kvs : List (κ' × V)} {m : List (κ × β)} (h : Dm fk R kvs m) {i : Nat} {k : κ'} {v : V} (e : kvs[i]? = some (k, v)) : ∃ x, m[i]? = some x ∧ k = fk x.1 ∧ R v x.2 := by
  obtain ⟨x, hx, r⟩ := paired_get h e
  exact ⟨x, hx, r⟩
theorem put_length (m : List (κ × β)) (k : κ) (v : β) : (SL.put m k v).length ≤ m.length + 1 := by
  unfold SL.put
  split
  · rw [List.length_map]; omega
  · rw [List.length_append]; exact Nat.le_refl _
end
def kN (n : Nat) : Key := Sum.inl (n : Int)
theorem kN_inj : ∀ a b, kN a = kN b → a = b := fun a b e => by
  have e' : (a : Int) = b := Sum.inl.inj e
  omega
def kP (p : Nat × Nat) : List Key := [kN p.1, kN p.2]
theorem kP_inj : ∀ a b, kP a = kP b → a = b := fun a b e => by
  have e' : [kN a.1, kN a.2] = [kN b.1, kN b.2] := e
  injection e' with h1 h2
  injection h2 with h2 _
  exact Prod.ext (kN_inj _ _ h1) (kN_inj _ _ h2)
abbrev RN : V → Nat → Prop := fun v n => v = .int (n : Nat)
abbrev RF (C : Addr) (H : Hp) : V → Frac → Prop := fun v f => ∃ a, v = .ref a ∧ FracAt C H a f
theorem RF.same {C : Addr} {H H' : Hp} (s : Same H H') : ∀ v f, RF C H v f → RF C H' v f := fun _ _ ⟨a, e, h⟩ => ⟨a, e, h.same s⟩
/-! ### a new dict is locked for good -/
def tFrz (t : TE) : TE := fun σ H Q => t σ H fun x H1 => ∃ d u, x = .ref d ∧ H1 d = some u ∧ Mut (some u) ∧ ∀ od, Q x (upd H1 d (.frz od u))
theorem pe_frz {X : Cx} {e : Expr} {t : TE} (h : PE X e t) : PE X e (tFrz t) := by
  intro pins s σ H Q I hw
  refine thn (h pins s σ H _ I hw) fun v s1 ⟨x, H1, I2, r, d, u, ex, hd, mu, q⟩ => ?_
  obtain ⟨od, I3⟩ := I2.lock hd mu
  exact ⟨x, _, I3, r, q od⟩
/-! ### cuts_by_taken -/
def upto (m i : Nat) : List (Nat × Nat) := ((List.range i).map (· + 1)).foldl (cutsStep m) []
theorem upto_succ (m i : Nat) : upto m (i + 1) = cutsStep m (upto m i) (i + 1) := by
  unfold upto
  rw [List.range_succ, List.map_append, List.foldl_append]
  rfl
theorem upto_length (m : Nat) : ∀ i, (upto m i).length ≤ i
  | 0 => Nat.le_refl _
  | i + 1 => by
    rw [upto_succ]
    unfold cutsStep
    have h1 := upto_length m i
    have h2 := put_length (upto m i) (Uw67.takes m (i + 1)) ((get? (upto m i) (Uw67.takes m (i + 1))).getD 0 + 1)
    omega
def spCby : Sp := fun vs H Q _ => ∃ m : Nat, vs = [.int m] ∧ m ≤ 1000 ∧ ∀ (H' : Hp) (p : Addr) (kvs : List (Key × V)), H p = none → H' p = some (.dK kvs) → Dm kN RN kvs (cutsBy m) → Same H H' → Q (.ref p) H'
section
variable {P : Program} {w : World} {K : PySem.W.Frag} {mg : Str → Option Value} {base : Heap}
theorem scCby : FnScope ["in_hand", "cuts", "cut", "took"] ["in_hand"] (defScope sCby) := ⟨rfl, rfl, rfl, by decide +kernel, rfl, by decide +kernel, by decide +kernel⟩
theorem ok_cby {f : Addr} {fd : FuncData} (F : Fun K "cuts_by_taken" "cuts_by_taken" sCby f fd) (T : Txt K mg) (G : GF P w K mg base 2 "taken_by_cut" ["in_hand", "cut"] spCut) : FnOk P w K mg base CX0 3 f fd ["in_hand"] spCby := by
  refine F.ok scCby (fun vs H Q E h => ?_) (fun cdv A outer s H vs Q E hr h => ?_)
  · obtain ⟨m, rfl, _⟩ := h; rfl
  · obtain ⟨m, rfl, hm, k⟩ := h
    have hu := hu_of hr
    refine ⟨_, pss_cons (ps_set (i := 1) scCby.nd rfl (Or.inl rfl) pe_dnewK)
      (pss_cons (ps_for PassesOwn.never rfl (pi_range2 rfl T.range (pa_cons pe_int (pa_cons (pv 0) pa_nil))) (pg_name (i := 2) scCby.nd rfl (Or.inl rfl))
        (pss_cons (ps_set (i := 3) scCby.nd rfl (Or.inl rfl) (pe_gf G hr rfl (pa_cons (pv 0) (pa_cons (pv 2) pa_nil))))
        (pss_one (ps_dput hu (pv 1) (pv 3) (pe_op op_add (pe_dget2 hu (pv 1) (pv 3) pe_int ⟨rfl, rfl, rfl, rfl⟩) pe_int) rfl))))
      (pss_one (ps_ret (pv 1)))), ?_⟩
    intro p hp
    refine ⟨_, rfl, 1, (m : Int), rfl, ⟨by omega, by omega, by omega, by omega⟩, for_range (lo := 1) (n := ((m : Int) - 1).toNat) (fun i σ H' => ∃ (v2 v3 : Option V) (kvs : List (Key × V)), σ = [some (.int m), some (.ref p), v2, v3] ∧
      H' p = some (.dK kvs) ∧ Dm kN RN kvs (upto m i) ∧ Same H H') ⟨none, none, [], rfl, upd_same, .nil, Same.new hp⟩ ?_ ?_⟩
    · rintro i σ H' hi ⟨v2, v3, kvs, rfl, hq, dm, s5⟩
      have hi2 : i + 1 < m := by omega
      refine ⟨_, rfl, _, rfl, m, i + 1, ?_, hi2, ?_⟩
      · show [V.int (m : Int), V.int (1 + (i : Int))] = [V.int (m : Int), V.int ((i + 1 : Nat) : Int)]
        rw [show ((i + 1 : Nat) : Int) = 1 + (i : Int) by omega]
      · have hl : kvs.length < sizeLine := by
          have h1 := dm.length
          have h2 := upto_length m i
          exact Nat.lt_of_le_of_lt (show kvs.length ≤ 1000 by omega) (by decide)
        refine ⟨_, rfl, p, rfl, .inl ⟨_, .inl hq⟩, _, rfl, valV kvs (kN (Uw67.takes m (i + 1))), DGet.k (k := kN (Uw67.takes m (i + 1))) hq, ?_⟩
        have fin : ∀ c : Nat, (get? (upto m i) (Uw67.takes m (i + 1))).getD 0 = c → ∃ v2' v3' kvs', [some (.int m), some (.ref p), some (.int (1 + (i : Int))), some (.int (Uw67.takes m (i + 1)))] = ([some (.int m), some (.ref p), v2', v3'] : L2.St) ∧
            (L2.upd H' p (.dK (putK kvs (kN (Uw67.takes m (i + 1))) (.int ((c : Int) + 1))))) p = some (.dK kvs') ∧ Dm kN RN kvs' (upto m (i + 1)) ∧ Same H (L2.upd H' p (.dK (putK kvs (kN (Uw67.takes m (i + 1))) (.int ((c : Int) + 1))))) := by
          intro c hc
          refine ⟨_, _, _, rfl, upd_same, ?_, Same.upd s5 hp⟩
          rw [upto_succ]
          unfold cutsStep
          rw [hc]
          exact dm.put kN_inj _ (show RN (.int ((c : Int) + 1)) (c + 1) from rfl)
        rcases dm.get kN_inj (Uw67.takes m (i + 1)) with ⟨v, c, e1, e2, e3⟩ | ⟨e1, e2⟩
        · rw [e1]
          subst e3
          refine ⟨_, _, rfl, rfl, _, rfl, _, rfl, p, _, rfl, DPut.k (k := kN (Uw67.takes m (i + 1))) hq hl, ?_⟩
          exact fin c (by rw [e2]; rfl)
        · rw [e1]
          refine ⟨0, 1, rfl, rfl, _, rfl, _, rfl, p, _, rfl, DPut.k (k := kN (Uw67.takes m (i + 1))) hq hl, ?_⟩
          exact fin 0 (by rw [e2]; rfl)
    · rintro σ H' ⟨v2, v3, kvs, rfl, hq, dm, s5⟩
      refine ⟨_, rfl, k H' p kvs hp hq ?_ s5⟩
      unfold cutsBy
      rw [show m - 1 = ((m : Int) - 1).toNat by omega]
      exact dm
end
end SL
set_option Elab.async false
set_option linter.all false
set_option maxRecDepth 100000
set_option maxHeartbeats 4000000
namespace SL
open PySem PySem.Spec PyProof.Rows L2
open Uw67 (Frac frac plus times)
/-! ### all but one stays -/
def SX (x : Addr) (H H' : Hp) : Prop := ∀ b o, b ≠ x → H b = some o → H' b = some o
theorem SX.refl (x : Addr) (H : Hp) : SX x H H := fun _ _ _ e => e
theorem SX.trans {x : Addr} {H H1 H2 : Hp} (a : SX x H H1) (b : SX x H1 H2) : SX x H H2 := fun c o n e => b c o n (a c o n e)
theorem SX.of {x : Addr} {H H' : Hp} (s : Same H H') : SX x H H' := fun b o _ e => s b o e
theorem SX.put {x : Addr} {H H' : Hp} (s : SX x H H') (o : HO) : SX x H (L2.upd H' x o) := fun b u n e => by
  rw [upd_ne n]; exact s b u n e
theorem SX.free {x : Addr} {H H' : Hp} (s : SX x H H') {l : Addr} (n : l ≠ x) (h : H' l = none) : H l = none := by
  cases q : H l with
  | none => rfl
  | some o => rw [s l o n q] at h; cases h
theorem FracAt.sx {C x : Addr} {H H' : Hp} {a : Addr} {f : Frac} {kv : List (List Key × V)} (h : FracAt C H a f) (hx : H x = some (.dT kv)) (s : SX x H H') : FracAt C H' a f := by
  obtain ⟨dx, e⟩ := h
  exact ⟨dx, s _ _ (ne_of e hx (fun z => nomatch z)) e⟩
theorem RF.sx {C x : Addr} {H H' : Hp} {kv : List (List Key × V)} (hx : H x = some (.dT kv)) (s : SX x H H') : ∀ v f, RF C H v f → RF C H' v f := fun _ _ ⟨a, e, h⟩ => ⟨a, e, h.sx hx s⟩
theorem okFr_fb {f : Frac} (h : okFr f = true) : Fb 64 f := by
  unfold okFr at h
  rw [Bool.and_eq_true, Bool.and_eq_true, decide_eq_true_eq, decide_eq_true_eq, decide_eq_true_eq] at h
  exact ⟨h.1, h.2.1, h.2.2⟩
theorem getD_fb {κ : Type} [DecidableEq κ] {m : List (κ × Frac)} {k : κ} {f : Frac} (h : (m.all fun x => okFr x.2) = true) (e : get? m k = some f) : Fb 64 f := by
  unfold get? at e
  cases q : m.find? (fun kv => decide (kv.1 = k)) with
  | none => rw [q] at e; cases e
  | some x =>
    rw [q] at e
    obtain rfl : x.2 = f := Option.some.inj e
    exact okFr_fb (List.all_eq_true.mp h x (List.mem_of_find?_eq_some q))
theorem zero_eq : frac 0 1 = Uw67.zero := by decide
theorem zero_fb : Fb 64 Uw67.zero := ⟨by decide, by decide, by decide⟩
theorem foldl_take_succ {α β : Type} (f : α → β → α) (a : α) {l : List β} {i : Nat} {x : β} (h : l[i]? = some x) : (l.take (i + 1)).foldl f a = f ((l.take i).foldl f a) x := by
  rw [List.take_add_one, h, List.foldl_append]
  rfl
/-! ### after_change -/
def spAft (C : Addr) : Sp := fun vs H Q _ => ∃ (c : Addr) (kc : List (List Key × V)) (t : Tab), vs = [.ref c] ∧ H c = some (.dT kc) ∧ Dm kP (RF C H) kc t ∧ okOuter [] t = true ∧
  ∀ (H' : Hp) (p : Addr) (kvs : List (List Key × V)), H p = none → H' p = some (.dT kvs) → Dm kP (RF C H') kvs (afterChange t) → Same H H' → Q (.ref p) H'
section
variable {P : Program} {w : World} {K : PySem.W.Frag} {mg : Str → Option Value} {base : Heap}
theorem scAft : FnScope ["chances", "following", "state", "chance", "in_hand", "took", "cuts", "greats", "reached", "share"] ["chances"] (defScope sAft) := ⟨rfl, rfl, rfl, by decide +kernel, rfl, by decide +kernel, by decide +kernel⟩
theorem ok_aft {f C : Addr} {fd : FuncData} (F : Fun K "after_change" "after_change" sAft f fd) (T : Txt K mg) (GB : GF P w K mg base 3 "cuts_by_taken" ["in_hand"] spCby) (G : GC P w K mg base C 2 "Fraction" ["self", "above", "below"] (spFI C))
    (GP : GM P w K mg base C 4 "plus" ["self", "other"] (spFP C plus)) (GT : GM P w K mg base C 4 "times" ["self", "other"] (spFP C times)) : FnOk P w K mg base CX0 5 f fd ["chances"] (spAft C) := by
  refine F.ok scAft (fun vs H Q E h => ?_) (fun cdv A outer s H vs Q E hr h => ?_)
  · obtain ⟨c, kc, t, rfl, _⟩ := h; rfl
  · obtain ⟨c, kc, t, rfl, hc, dmc, hok, k⟩ := h
    have hr3 : Room 3 _ := hr.mono (by decide)
    have hu := hu_of hr
    refine ⟨_, (pss_cons (ps_set (i := 1) scAft.nd rfl (Or.inl rfl) pe_dnewT) <|
      pss_cons (ps_lock (ps_for PassesOwn.never rfl (pi_itemsT (pv 0)) (pg_tup rfl (pgs_cons (pg_name (i := 2) scAft.nd rfl (Or.inl rfl)) (pgs_cons (pg_name (i := 3) scAft.nd rfl (Or.inl rfl)) pgs_nil))) <|
        pss_cons (ps_set (i := 4) scAft.nd rfl (Or.inl rfl) (pe_ix ix_tup (pv 2) pe_int (fun _ _ => rfl))) <|
        pss_one (ps_for PassesOwn.never rfl (pi_items (pe_frz (pe_gf GB hr3 rfl (pa_cons (pv 4) pa_nil)))) (pg_tup rfl (pgs_cons (pg_name (i := 5) scAft.nd rfl (Or.inl rfl)) (pgs_cons (pg_name (i := 6) scAft.nd rfl (Or.inl rfl)) pgs_nil))) <|
          pss_cons (ps_set (i := 7) scAft.nd rfl (Or.inl rfl) (pe_op op_add (pe_ix ix_tup (pv 2) pe_int (fun _ _ => rfl)) (pe_ifExp (pt_cmpR op_in_seq (pv 5) (pe_ctK T.great) (by with_unfolding_all rfl)) pe_int pe_int))) <|
          pss_cons (ps_set (i := 8) scAft.nd rfl (Or.inl rfl) (pe_tup (pa_cons (pe_op op_sub (pv 4) (pv 5)) (pa_cons (pv 7) pa_nil)))) <|
          pss_cons (ps_set (i := 9) scAft.nd rfl (Or.inl rfl) (pe_gm GT hr (pv 3) (pa_cons (pe_gc G hr3 rfl (pa_cons (pv 6) (pa_cons (pe_op op_sub (pv 4) pe_int) pa_nil))) pa_nil))) <|
          pss_one (ps_dput hu (pv 1) (pv 8) (pe_gm GP hr (pe_dget2 hu (pv 1) (pv 8) (pe_gc G hr3 rfl (pa_cons pe_int (pa_cons pe_int pa_nil))) ⟨rfl, rfl, rfl, rfl⟩) (pa_cons (pv 9) pa_nil)) rfl)))) <|
      pss_one (ps_ret (pv 1))), ?_⟩
    intro fl hfl
    have ncf : c ≠ fl := ne_of_none hc hfl
    refine ⟨c, .dT kc, by rw [upd_ne ncf]; exact hc, True.intro, fun od => ?_⟩
    -- the heap at the outer loop's start
    have hb_c : (L2.upd (L2.upd H fl (.dT [])) c (.frz od (.dT kc))) c = some (.frz od (.dT kc)) := upd_same
    have hb_fl : (L2.upd (L2.upd H fl (.dT [])) c (.frz od (.dT kc))) fl = some (.dT []) := by rw [upd_ne ncf.symm, upd_same]
    have hb_H : ∀ b o, b ≠ c → H b = some o → (L2.upd (L2.upd H fl (.dT [])) c (.frz od (.dT kc))) b = some o := fun b o n e => by
      rw [upd_ne n, upd_ne (ne_of_none e hfl)]; exact e
    have hb_F : ∀ v f, RF C H v f → RF C (L2.upd (L2.upd H fl (.dT [])) c (.frz od (.dT kc))) v f := fun v f ⟨a, e, dx, h⟩ => ⟨a, e, dx, hb_H _ _ (ne_of h hc (fun z => nomatch z)) h⟩
    generalize hHb : L2.upd (L2.upd H fl (.dT [])) c (.frz od (.dT kc)) = Hb at *
    have dmb : Dm kP (RF C Hb) kc t := dmc.mono hb_F
    refine ⟨_, rfl, c, od, kc, rfl, hb_c, for_itemsT (d := c) (o := od) (kvs := kc) (fun i σ H' => ∃ (v2 v3 v4 v5 v6 v7 v8 v9 : Option V) (kvs : List (List Key × V)), σ = [some (.ref c), some (.ref fl), v2, v3, v4, v5, v6, v7, v8, v9] ∧
      H' fl = some (.dT kvs) ∧ Dm kP (RF C H') kvs ((t.take i).foldl SL.outer []) ∧ SX fl Hb H') ⟨none, none, none, none, none, none, none, none, [], rfl, hb_fl, .nil, SX.refl fl Hb⟩
      (fun i σ H' _ ⟨_, _, _, _, _, _, _, _, _, _, _, _, s5⟩ => s5 c _ ncf hb_c) ?_ ?_⟩
    · rintro i ky v q T' σ H' hi ⟨v2, v3, v4, v5, v6, v7, v8, v9, kvs, rfl, hq, dm, s5⟩ hqt hT'
      obtain ⟨⟨⟨m, g⟩, fr⟩, hti, rfl, a3, rfl, hF3⟩ := dmb.at_ hi
      obtain ⟨okI, okR⟩ := okOuter_take t [] i _ hok hti
      unfold okIn at okI
      rw [Bool.and_eq_true, Bool.and_eq_true, Bool.and_eq_true, decide_eq_true_eq, decide_eq_true_eq] at okI
      obtain ⟨m2, m97, okF, okC⟩ := okI
      have m2 : 2 ≤ m := m2
      have m97 : m ≤ 97 := m97
      have okF : Fb 64 fr := okFr_fb okF
      have okC : ∀ tc ∈ cutsBy m, tc.1 ≤ m ∧ tc.1 ≤ 9 ∧ tc.2 < 2 ^ 64 := fun tc h => by
        have z := List.all_eq_true.mp okC tc h
        rw [Bool.and_eq_true, Bool.and_eq_true, decide_eq_true_eq, decide_eq_true_eq, decide_eq_true_eq] at z
        exact z
      have hqt : H' q = some (.tup [.int (m : Nat), .int (g : Nat)]) := hqt
      have hF3 : FracAt C H' a3 fr := hF3.sx hb_fl s5
      have nqT : q ≠ T' := ne_of_none hqt hT'
      refine ⟨T', _, rfl, SqT.of upd_same, rfl, _, _, rfl, _, _, rfl, rfl, ?_⟩
      have s0 : Same H' (L2.upd H' T' (.tup [.ref q, .ref a3])) := Same.new hT'
      generalize L2.upd H' T' (.tup [.ref q, .ref a3]) = H1 at s0 ⊢
      refine ⟨_, rfl, q, _, _, _, rfl, rfl, SqT.of (s0 _ _ hqt), atI_nat (j := 0) rfl, ?_⟩
      refine ⟨_, rfl, m, rfl, Nat.le_trans m97 (by decide), fun H2 dcut kcut hdn hdcut dmcut s1 => ?_⟩
      refine ⟨dcut, .dK kcut, rfl, hdcut, True.intro, fun od2 => ?_⟩
      have s01 := s0.trans s1
      have nfd : fl ≠ dcut := ne_of_none (s0 _ _ hq) hdn
      have nqd : q ≠ dcut := ne_of_none (s0 _ _ hqt) hdn
      -- the heap at the inner loop's start
      have si : SX fl H' (L2.upd H2 dcut (.frz od2 (.dK kcut))) := fun b o n e => by
        rw [upd_ne (ne_of_none (s0 _ _ e) hdn)]; exact s01 _ _ e
      have hi_fl : (L2.upd H2 dcut (.frz od2 (.dK kcut))) fl = some (.dT kvs) := by rw [upd_ne nfd]; exact s01 _ _ hq
      have hi_q : (L2.upd H2 dcut (.frz od2 (.dK kcut))) q = some (.tup [.int (m : Nat), .int (g : Nat)]) := by rw [upd_ne nqd]; exact s01 _ _ hqt
      have hi_d : (L2.upd H2 dcut (.frz od2 (.dK kcut))) dcut = some (.frz od2 (.dK kcut)) := upd_same
      generalize L2.upd H2 dcut (.frz od2 (.dK kcut)) = Hi at si hi_fl hi_q hi_d ⊢
      have hi_F : FracAt C Hi a3 fr := hF3.sx hq si
      have dmi : Dm kP (RF C Hi) kvs ((t.take i).foldl SL.outer []) := dm.mono (RF.sx hq si)
      refine ⟨dcut, od2, kcut, rfl, hi_d, for_itemsK (d := dcut) (o := od2) (kvs := kcut) (fun j σ H' => ∃ (v5 v6 v7 v8 v9 : Option V) (kvs : List (List Key × V)), σ = [some (.ref c), some (.ref fl), some (.ref q), some (.ref a3), some (.int (m : Nat)), v5, v6, v7, v8, v9] ∧
        H' fl = some (.dT kvs) ∧ Dm kP (RF C H') kvs (((cutsBy m).take j).foldl (inner (m, g) fr) ((t.take i).foldl SL.outer [])) ∧ SX fl Hi H') ⟨v5, v6, v7, v8, v9, kvs, rfl, hi_fl, dmi, SX.refl fl Hi⟩
        (fun j σ H' _ ⟨_, _, _, _, _, _, _, _, _, s6⟩ => s6 dcut _ (ne_of hi_d hi_fl (fun z => nomatch z)) hi_d) ?_ ?_⟩
      · rintro j ky v T2 σ H3 hj ⟨v5, v6, v7, v8, v9, kvs3, rfl, hq3, dm3, s6⟩ hT2
        obtain ⟨⟨took, cnt⟩, hcj, rfl, rfl⟩ := dmcut.at_ hj
        obtain ⟨tm, t9, cb⟩ := okC _ (List.mem_of_getElem? hcj)
        have tm : took ≤ m := tm
        have t9 : took ≤ 9 := t9
        have cb : cnt < 2 ^ 64 := cb
        have nqf : q ≠ fl := ne_of hi_q hi_fl (fun z => nomatch z)
        have h3_q := s6 q _ nqf hi_q
        have h3_F : FracAt C H3 a3 fr := hi_F.sx hi_fl s6
        have okA := okRun_take (cutsBy m) _ j okR (Nat.le_of_lt (List.getElem?_eq_some_iff.mp hcj).1)
        generalize hacc : ((cutsBy m).take j).foldl (inner (m, g) fr) ((t.take i).foldl SL.outer []) = acc at dm3 okA
        unfold accOk at okA
        rw [Bool.and_eq_true, decide_eq_true_eq] at okA
        have t1 : Same H3 (L2.upd H3 T2 (.tup [kV (kN took), .int (cnt : Nat)])) := Same.new hT2
        refine ⟨T2, _, rfl, SqT.of upd_same, rfl, _, _, rfl, _, _, rfl, rfl, ?_⟩
        generalize L2.upd H3 T2 (.tup [kV (kN took), .int (cnt : Nat)]) = H4 at t1 ⊢
        refine ⟨_, rfl, q, _, _, _, rfl, rfl, SqT.of (t1 _ _ h3_q), atI_nat (j := 1) rfl, ?_⟩
        -- greats
        have fin : ∀ gg : Nat, gg = g + (if Uw67.isGreat took = true then 1 else 0) → ∀ σ', σ' = [some (.ref c), some (.ref fl), some (.ref q), some (.ref a3), some (.int (m : Nat)), some (.int (took : Nat)), some (.int (cnt : Nat)), some (.int (gg : Nat)), v8, v9] → ∀ D : Ends,
            (∀ σ H', (∃ (v5 v6 v7 v8 v9 : Option V) (kvs : List (List Key × V)), σ = [some (.ref c), some (.ref fl), some (.ref q), some (.ref a3), some (.int (m : Nat)), v5, v6, v7, v8, v9] ∧
                H' fl = some (.dT kvs) ∧ Dm kP (RF C H') kvs (((cutsBy m).take (j + 1)).foldl (inner (m, g) fr) ((t.take i).foldl SL.outer [])) ∧ SX fl Hi H') → D.nx σ H') →
            tSeq (tAsg (tTup (tCons (tOp (rI0 fun i j => .int (i - j)) (tVar 4) (tVar 5)) (tCons (tVar 7) tNil))) (gName 8))
              (tSeq (tAsg (tMeth C "times" (spFP C times) [] E0 (tVar 3) (tCons (tMake C (spFI C) [] E0 (tCons (tVar 6) (tCons (tOp (rI0 fun i j => .int (i - j)) (tVar 4) (tC (.int 1))) tNil))) tNil)) (gName 9))
                (sDPut (tVar 1) (tVar 8) (tMeth C "plus" (spFP C plus) [] E0 (tDGet2 (tVar 1) (tVar 8) (tMake C (spFI C) [] E0 (tCons (tC (.int 0)) (tCons (tC (.int 1)) tNil)))) (tCons (tVar 9) tNil))))
              D σ' H4 := by
          intro gg hgg σ' hσ D hD
          subst hσ
          refine ⟨_, rfl, _, rfl, _, _, rfl, rfl, _, rfl, (by show 2 ≤ sizeLine; decide), fun b8 hb8 => ?_⟩
          have key8 : ([.int ((m : Int) - (took : Nat)), .int (gg : Nat)] : List V) = (kP (m - took, gg)).map kV := by
            show ([.int ((m : Int) - (took : Nat)), .int (gg : Nat)] : List V) = [.int ((m - took : Nat) : Int), .int (gg : Nat)]
            rw [show ((m - took : Nat) : Int) = (m : Int) - (took : Nat) by omega]
          have t2 : Same H4 (L2.upd H4 b8 (.tup [.int ((m : Int) - (took : Nat)), .int (gg : Nat)])) := Same.new hb8
          have h5_b : (L2.upd H4 b8 (.tup [.int ((m : Int) - (took : Nat)), .int (gg : Nat)])) b8 = some (.tup ((kP (m - took, gg)).map kV)) := by rw [upd_same, key8]
          generalize L2.upd H4 b8 (.tup [.int ((m : Int) - (took : Nat)), .int (gg : Nat)]) = H5 at t2 h5_b ⊢
          have u5 : Same H3 H5 := t1.trans t2
          obtain ⟨d3, h5_3⟩ := h3_F.same u5
          refine ⟨_, rfl, a3, d3, _, rfl, h5_3, ff_no _ (by decide +kernel) (by decide +kernel), _, rfl, _, rfl, _, _, rfl, rfl, fun x6 d6 hx6 hd6 _ => ⟨x6, d6, cnt, m - 1, ?_, upd_same, by omega, lt_big (k := 7) (by show m - 1 < 128; omega) (by decide), fun H6 hF6 kp6 => ⟨rfl, ?_⟩⟩⟩
          · show [V.ref x6, V.int (cnt : Nat), V.int ((m : Int) - 1)] = [V.ref x6, V.int (cnt : Nat), V.int ((m - 1 : Nat) : Int)]
            rw [show ((m - 1 : Nat) : Int) = (m : Int) - 1 by omega]
          have t6 : Same H5 H6 := Same.made hx6 hd6 kp6
          have fbs : Fb 64 (frac cnt (m - 1)) := frac_fb cb (by omega) (Nat.lt_of_le_of_lt (show m - 1 ≤ 97 by omega) (by decide))
          refine ⟨a3, x6, fr, frac cnt (m - 1), rfl, (h3_F.same u5).same t6, hF6, okF.mono (by decide), fbs.mono (by decide), fun H7 x7 hx7 hF7 t7 => ?_⟩
          have u7 : Same H3 H7 := (u5.trans t6).trans t7
          have h7_b := t7 _ _ (t6 _ _ h5_b)
          refine ⟨_, rfl, fl, rfl, .inr ⟨kvs3, .inl (u7 _ _ hq3)⟩, _, rfl, fun x8 d8 hx8 hd8 _ => ⟨x8, d8, 0, 1, rfl, upd_same, by decide, lt_big (k := 1) (by decide) (by decide), fun H8 hF8 kp8 => ⟨rfl, _, DGet.t (k := kP (m - took, gg)) (Same.made hx8 hd8 kp8 _ _ (u7 _ _ hq3)) (Same.made hx8 hd8 kp8 _ _ h7_b), ?_⟩⟩⟩
          have t8 : Same H7 H8 := Same.made hx8 hd8 kp8
          have u8 : Same H3 H8 := u7.trans t8
          obtain ⟨az, ez, hFz, fbz⟩ : ∃ az, (valV kvs3 (kP (m - took, gg))).getD (.ref x8) = .ref az ∧ FracAt C H8 az ((get? acc (m - took, gg)).getD Uw67.zero) ∧ Fb 64 ((get? acc (m - took, gg)).getD Uw67.zero) := by
            rcases dm3.get kP_inj (m - took, gg) with ⟨v, f, e1, e2, a, e3, hFa⟩ | ⟨e1, e2⟩
            · rw [e1, e2]
              exact ⟨a, e3, hFa.same u8, getD_fb okA.2 e2⟩
            · rw [e1, e2]
              exact ⟨x8, rfl, by rw [zero_eq] at hF8; exact hF8, zero_fb⟩
          rw [ez]
          obtain ⟨dz, hz⟩ := id hFz
          refine ⟨az, dz, _, rfl, hz, ff_no _ (by decide +kernel) (by decide +kernel), _, rfl, az, x7, _, _, rfl, hFz, hF7.same t8, fbz.mono (by decide), (times_fb okF fbs).mono (by decide), fun H9 x9 hx9 hF9 t9 => ?_⟩
          have u9 : Same H3 H9 := u8.trans t9
          have h9_fl := u9 _ _ hq3
          have h9_b := t9 _ _ (t8 _ _ h7_b)
          have hl : kvs3.length < sizeLine := by
            rw [dm3.length]
            exact Nat.lt_of_le_of_lt okA.1 (by decide)
          refine ⟨_, rfl, _, rfl, fl, _, rfl, DPut.t (k := kP (m - took, gg)) h9_fl h9_b hl, ?_⟩
          have sxf : SX fl H3 (L2.upd H9 fl (.dT (putK kvs3 (kP (m - took, gg)) (.ref x9)))) := (SX.of u9).put _
          refine hD _ _ ⟨_, _, _, _, _, _, rfl, upd_same, ?_, s6.trans sxf⟩
          rw [foldl_take_succ _ _ hcj, hacc]
          have e : inner (m, g) fr acc (took, cnt) = SL.put acc (m - took, gg) (plus ((get? acc (m - took, gg)).getD Uw67.zero) (times fr (frac cnt (m - 1)))) := by
            rw [hgg]; rfl
          rw [e]
          refine (dm3.mono (RF.sx hq3 sxf)).put kP_inj _ ⟨x9, rfl, ?_⟩
          exact hF9.sx h9_fl ((SX.refl fl H9).put _)
        refine ⟨_, rfl, fun gr hgr => ⟨gr, _, rfl, .inr (hgr _), rfl, rfl, _, rfl, ?_⟩⟩
        show if inV (.int (took : Int)) [.int 8, .int 9] = true then _ else _
        rw [inGreat t9]
        refine ite2 (fun z => ⟨_, _, rfl, rfl, ?_⟩) (fun z => ⟨_, _, rfl, rfl, ?_⟩)
        · exact fin (g + 1) (by rw [if_pos z]) _ rfl _ fun _ _ h => h
        · exact fin g (by rw [if_neg z]; rfl) _ (congrArg (fun z : Int => ([some (.ref c), some (.ref fl), some (.ref q), some (.ref a3), some (.int (m : Nat)), some (.int (took : Nat)), some (.int (cnt : Nat)), some (.int z), v8, v9] : L2.St)) (Int.add_zero (g : Int))) _ fun _ _ h => h
      · rintro σ H3 ⟨v5', v6', v7', v8', v9', kvs3, rfl, hq3, dm3, s6⟩
        rw [dmcut.length, List.take_length] at dm3
        refine ⟨_, _, _, _, _, _, _, _, _, rfl, hq3, ?_, s5.trans (si.trans s6)⟩
        rw [foldl_take_succ _ _ hti]
        exact dm3
    · rintro σ H' ⟨v2, v3, v4, v5, v6, v7, v8, v9, kvs, rfl, hq, dm, s5⟩
      rw [dmc.length, List.take_length] at dm
      refine ⟨s5 c _ ncf hb_c, _, rfl, ?_⟩
      have n2 : fl ≠ c := ncf.symm
      refine k _ fl kvs hfl (by rw [upd_ne n2]; exact hq) (dm.mono fun v f ⟨a, e, dx, h⟩ => ⟨a, e, dx, by rw [upd_ne (ne_of h (s5 c _ ncf hb_c) (fun z => nomatch z))]; exact h⟩) fun b o e => ?_
      by_cases hbc : b = c
      · subst hbc
        rw [upd_same, ← e, hc]
      · rw [upd_ne hbc]
        exact s5 b o (ne_of_none e hfl) (hb_H b o hbc e)
end
end SL
set_option Elab.async false
set_option linter.all false
set_option maxRecDepth 100000
set_option maxHeartbeats 4000000
namespace SL
open PySem PySem.Spec PyProof.Rows L2
open Uw67 (Frac frac plus times)
theorem FracAt.sxK {C x : Addr} {H H' : Hp} {a : Addr} {f : Frac} {kv : List (Key × V)} (h : FracAt C H a f) (hx : H x = some (.dK kv)) (s : SX x H H') : FracAt C H' a f := by
  obtain ⟨dx, e⟩ := h
  exact ⟨dx, s _ _ (ne_of e hx (fun z => nomatch z)) e⟩
theorem RF.sxK {C x : Addr} {H H' : Hp} {kv : List (Key × V)} (hx : H x = some (.dK kv)) (s : SX x H H') : ∀ v f, RF C H v f → RF C H' v f := fun _ _ ⟨a, e, h⟩ => ⟨a, e, h.sxK hx s⟩
def zeros : List (Nat × Frac) := [(6, Uw67.zero), (7, Uw67.zero), (8, Uw67.zero), (9, Uw67.zero)]
def oddsTab (n : Nat) : List (Nat × Frac) := [(6, Uw67.odds n 6), (7, Uw67.odds n 7), (8, Uw67.odds n 8), (9, Uw67.odds n 9)]
theorem zeros_take : ∀ i, i < 4 → SL.put (zeros.take i) (6 + i) Uw67.zero = zeros.take (i + 1) := by decide
theorem okN_parts {n : Nat} (h : n ∈ ns) : (∀ i, i < 3 → okOuter [] (tab n i) = true) ∧ (∀ p ∈ tab n 3, p.1.2 ≤ 3 ∧ Fb 64 p.2) ∧ okRun oddStep okO zeros (tab n 3) = true := by
  have q := ok_ns n h
  unfold okN at q
  rw [Bool.and_eq_true, Bool.and_eq_true, Bool.and_eq_true, Bool.and_eq_true] at q
  obtain ⟨q0, q1, q2, q3, q4⟩ := q
  refine ⟨fun i hi => ?_, fun p hp => ?_, q4⟩
  · match i, hi with
    | 0, _ => exact q0
    | 1, _ => exact q1
    | 2, _ => exact q2
  · have z := List.all_eq_true.mp q3 p hp
    unfold okIn3 at z
    rw [Bool.and_eq_true, decide_eq_true_eq] at z
    exact ⟨z.1, okFr_fb z.2⟩
def spLod (C : Addr) : Sp := fun vs H Q _ => ∃ n : Nat, vs = [.int n] ∧ n ∈ ns ∧ ∀ (H' : Hp) (p : Addr) (kvs : List (Key × V)), H p = none → H' p = some (.dK kvs) → Dm kN (RF C H') kvs (oddsTab n) → Same H H' → Q (.ref p) H'
section
variable {P : Program} {w : World} {K : PySem.W.Frag} {mg : Str → Option Value} {base : Heap}
theorem scLod : FnScope ["stalks", "chances", "change", "odds", "line", "state", "chance"] ["stalks"] (defScope sLod) := ⟨rfl, rfl, rfl, by decide +kernel, rfl, by decide +kernel, by decide +kernel⟩
theorem ok_lod {f C : Addr} {fd : FuncData} (F : Fun K "line_odds" "line_odds" sLod f fd) (T : Txt K mg) (GA : GF P w K mg base 5 "after_change" ["chances"] (spAft C)) (G : GC P w K mg base C 2 "Fraction" ["self", "above", "below"] (spFI C))
    (GP : GM P w K mg base C 4 "plus" ["self", "other"] (spFP C plus)) (GL : GF P w K mg base 1 "line_of_greats" ["greats"] spLog) : FnOk P w K mg base CX0 6 f fd ["stalks"] (spLod C) := by
  refine F.ok scLod (fun vs H Q E h => ?_) (fun cdv A outer s H vs Q E hr h => ?_)
  · obtain ⟨n, rfl, _⟩ := h; rfl
  · obtain ⟨n, rfl, hn, k⟩ := h
    obtain ⟨okA, ok3, okR⟩ := okN_parts hn
    have hr1 : Room 1 _ := hr.mono (by decide)
    have hr3 : Room 3 _ := hr.mono (by decide)
    have hr4 : Room 4 _ := hr.mono (by decide)
    have hu := hu_of hr
    refine ⟨_, (pss_cons (ps_set (i := 1) scLod.nd rfl (Or.inl rfl) (pe_disp1T hr.units0 (pe_tup (pa_cons (pv 0) (pa_cons pe_int pa_nil))) (pe_gc G hr3 rfl (pa_cons pe_int (pa_cons pe_int pa_nil))))) <|
      pss_cons (ps_for PassesOwn.never rfl (pi_range1 rfl T.range (pa_cons (pe_ciK T.chg) pa_nil)) (pg_name (i := 2) scLod.nd rfl (Or.inl rfl)) <|
        pss_one (ps_set (i := 1) scLod.nd rfl (Or.inl rfl) (pe_gf GA hr rfl (pa_cons (pv 1) pa_nil)))) <|
      pss_cons (ps_set (i := 3) scLod.nd rfl (Or.inl rfl) pe_dnewK) <|
      pss_cons (ps_for PassesOwn.never rfl (pi_range2 rfl T.range (pa_cons pe_int (pa_cons pe_int pa_nil))) (pg_name (i := 4) scLod.nd rfl (Or.inl rfl)) <|
        pss_one (ps_dput hu (pv 3) (pv 4) (pe_gc G hr3 rfl (pa_cons pe_int (pa_cons pe_int pa_nil))) rfl)) <|
      pss_cons (ps_lock (ps_for PassesOwn.never rfl (pi_itemsT (pv 1)) (pg_tup rfl (pgs_cons (pg_name (i := 5) scLod.nd rfl (Or.inl rfl)) (pgs_cons (pg_name (i := 6) scLod.nd rfl (Or.inl rfl)) pgs_nil))) <|
        pss_cons (ps_set (i := 4) scLod.nd rfl (Or.inl rfl) (pe_gf GL hr1 rfl (pa_cons (pe_ix ix_tup (pv 5) pe_int (fun _ _ => rfl)) pa_nil))) <|
        pss_one (ps_dput hu (pv 3) (pv 4) (pe_gm GP hr4 (pe_dget hu (pv 3) (pv 4) (fun _ _ => rfl)) (pa_cons (pv 6) pa_nil)) rfl))) <|
      pss_one (ps_ret (pv 3))), ?_⟩
    -- chances = {(stalks, 0): Fraction(1, 1)}
    intro c0 hc0
    refine ⟨_, rfl, (by show 2 ≤ sizeLine; decide), fun b0 hb0 => ?_⟩
    have nb : b0 ≠ c0 := fun z => by rw [z, upd_same] at hb0; cases hb0
    have hb0' : H b0 = none := by rw [upd_ne nb] at hb0; exact hb0
    refine fun x0 d0 hx0 hd0 _ => ⟨x0, d0, 1, 1, rfl, upd_same, by decide, lt_big (k := 1) (by decide) (by decide), fun H1 hF0 kp => ⟨rfl, ?_⟩⟩
    have e1 : Same (L2.upd (L2.upd H c0 (.dT [])) b0 (.tup [.int (n : Nat), .int 0])) H1 := Same.made hx0 hd0 kp
    have h1c : H1 c0 = some (.dT []) := e1 _ _ (by rw [upd_ne nb.symm, upd_same])
    have h1b : H1 b0 = some (.tup ((kP (n, 0)).map kV)) := e1 _ _ upd_same
    have s1 : Same H H1 := fun b o e => e1 b o (by rw [upd_ne (ne_of_none e hb0'), upd_ne (ne_of_none e hc0)]; exact e)
    refine ⟨h1c, b0, kP (n, 0), rfl, h1b, ?_⟩
    have d1 : Dm kP (RF C (L2.upd H1 c0 (.dT [(kP (n, 0), .ref x0)]))) [(kP (n, 0), .ref x0)] (tab n 0) := .cons ⟨rfl, x0, rfl, hF0.sx h1c ((SX.refl c0 H1).put _)⟩ .nil
    -- for change in range(3)
    refine ⟨3, rfl, by decide, by decide, for_range (lo := 0) (n := 3) (fun i σ H' => ∃ (c : Addr) (kc : List (List Key × V)) (v2 : Option V), σ = [some (.int n), some (.ref c), v2, none, none, none, none] ∧ H c = none ∧
      H' c = some (.dT kc) ∧ Dm kP (RF C H') kc (tab n i) ∧ Same H H') ⟨c0, _, none, rfl, hc0, upd_same, d1, Same.upd s1 hc0⟩ ?_ ?_⟩
    · rintro i σ H' hi ⟨c, kc, v2, rfl, hcn, hc, dm, s5⟩
      refine ⟨_, rfl, c, kc, tab n i, rfl, hc, dm, okA i hi, fun H2 p kvs hp hq dm2 s6 => ?_⟩
      exact ⟨p, kvs, _, rfl, s5.free hp, hq, dm2, s5.trans s6⟩
    rintro σ H2 ⟨c, kc, v2, rfl, hcn, hc, dmc, s2⟩
    -- odds = {}; for line in range(6, 10)
    intro oo hoo
    have noc : oo ≠ c := fun z => by rw [z, hc] at hoo; cases hoo
    refine ⟨6, 10, rfl, by decide, for_range (lo := 6) (n := 4) (fun i σ H' => ∃ (kvs : List (Key × V)) (v4 : Option V), σ = [some (.int n), some (.ref c), v2, some (.ref oo), v4, none, none] ∧
      H' oo = some (.dK kvs) ∧ Dm kN (RF C H') kvs (zeros.take i) ∧ Same H2 H') ⟨[], none, rfl, upd_same, .nil, Same.new hoo⟩ ?_ ?_⟩
    · rintro i σ H' hi ⟨kvs, v4, rfl, hq, dm, s5⟩
      rw [show (6 : Int) + (i : Int) = ((6 + i : Nat) : Int) by omega]
      have hl : kvs.length < sizeLine := by
        have h1 := dm.length
        rw [List.length_take] at h1
        exact Nat.lt_of_le_of_lt (show kvs.length ≤ 4 by omega) (by decide)
      refine fun x3 d3 hx3 hd3 _ => ⟨x3, d3, 0, 1, rfl, upd_same, by decide, lt_big (k := 1) (by decide) (by decide), fun H3 hF3 kp3 => ⟨rfl, ?_⟩⟩
      have t3 : Same H' H3 := Same.made hx3 hd3 kp3
      refine ⟨_, rfl, _, rfl, oo, _, rfl, DPut.k (k := kN (6 + i)) (t3 _ _ hq) hl, _, _, rfl, upd_same, ?_, Same.upd (s5.trans t3) hoo⟩
      rw [← zeros_take i hi]
      have sx : SX oo H3 (L2.upd H3 oo (.dK (putK kvs (kN (6 + i)) (.ref x3)))) := (SX.refl oo H3).put _
      refine ((dm.mono (RF.same t3)).mono (RF.sxK (t3 _ _ hq) sx)).put kN_inj _ ⟨x3, rfl, ?_⟩
      rw [zero_eq] at hF3
      exact hF3.sxK (t3 _ _ hq) sx
    rintro σ H4 ⟨kv4, v4, rfl, hq4, dm4, s4⟩
    have hc4 := s4 _ _ hc
    refine ⟨c, .dT kc, hc4, True.intro, fun od => ?_⟩
    have hb_c : (L2.upd H4 c (.frz od (.dT kc))) c = some (.frz od (.dT kc)) := upd_same
    have hb_oo : (L2.upd H4 c (.frz od (.dT kc))) oo = some (.dK kv4) := by rw [upd_ne noc]; exact hq4
    have hb_F : ∀ v f, RF C H4 v f → RF C (L2.upd H4 c (.frz od (.dT kc))) v f := fun v f ⟨a, e, dx, h⟩ => ⟨a, e, dx, by rw [upd_ne (ne_of h hc4 (fun z => nomatch z))]; exact h⟩
    have hb_H : ∀ b o, b ≠ c → H4 b = some o → (L2.upd H4 c (.frz od (.dT kc))) b = some o := fun b o nn e => by rw [upd_ne nn]; exact e
    generalize L2.upd H4 c (.frz od (.dT kc)) = Hb at *
    have dmb : Dm kP (RF C Hb) kc (tab n 3) := (dmc.mono (RF.same s4)).mono hb_F
    have dmo : Dm kN (RF C Hb) kv4 zeros := dm4.mono hb_F
    refine ⟨_, rfl, c, od, kc, rfl, hb_c, for_itemsT (d := c) (o := od) (kvs := kc) (fun i σ H' => ∃ (v4 v5 v6 : Option V) (kvs : List (Key × V)), σ = [some (.int n), some (.ref c), v2, some (.ref oo), v4, v5, v6] ∧
      H' oo = some (.dK kvs) ∧ Dm kN (RF C H') kvs (((tab n 3).take i).foldl oddStep zeros) ∧ SX oo Hb H') ⟨v4, none, none, kv4, rfl, hb_oo, dmo, SX.refl oo Hb⟩
      (fun i σ H' _ ⟨_, _, _, _, _, _, _, s5⟩ => s5 c _ noc.symm hb_c) ?_ ?_⟩
    · rintro i ky v q T' σ H' hi ⟨v4, v5, v6, kvs, rfl, hq, dm, s5⟩ hqt hT'
      obtain ⟨⟨⟨m, g⟩, fr⟩, hti, rfl, a3, rfl, hF3⟩ := dmb.at_ hi
      obtain ⟨g3, okF⟩ := ok3 _ (List.mem_of_getElem? hti)
      have g3 : g ≤ 3 := g3
      have okF : Fb 64 fr := okF
      have okA := okRun_take (tab n 3) zeros i okR (Nat.le_of_lt (List.getElem?_eq_some_iff.mp hti).1)
      generalize hacc : ((tab n 3).take i).foldl oddStep zeros = acc at dm okA
      unfold okO at okA
      rw [Bool.and_eq_true, Bool.and_eq_true, decide_eq_true_eq] at okA
      obtain ⟨okl, okf, okk⟩ := okA
      have hqt : H' q = some (.tup [.int (m : Nat), .int (g : Nat)]) := hqt
      have hF3 : FracAt C H' a3 fr := hF3.sxK hb_oo s5
      refine ⟨T', _, rfl, SqT.of upd_same, rfl, _, _, rfl, _, _, rfl, rfl, ?_⟩
      have s0 : Same H' (L2.upd H' T' (.tup [.ref q, .ref a3])) := Same.new hT'
      generalize L2.upd H' T' (.tup [.ref q, .ref a3]) = H1' at s0 ⊢
      refine ⟨_, rfl, q, _, _, _, rfl, rfl, SqT.of (s0 _ _ hqt), atI_nat (j := 1) rfl, g, rfl, by omega, ?_⟩
      obtain ⟨fz, ez⟩ : ∃ fz, get? acc (9 - g) = some fz := by
        have z := List.all_eq_true.mp okk (9 - g) (by
          have : g = 0 ∨ g = 1 ∨ g = 2 ∨ g = 3 := by omega
          rcases this with rfl | rfl | rfl | rfl <;> decide)
        exact Option.isSome_iff_exists.mp z
      rcases dm.get kN_inj (9 - g) with ⟨vz, fz', e1, e2, az, rfl, hFz⟩ | ⟨e1, e2⟩
      · obtain rfl : fz = fz' := Option.some.inj (ez.symm.trans e2)
        have hFz1 : FracAt C H1' az fz := hFz.same s0
        obtain ⟨dz, hz⟩ := id hFz1
        have hq1 := s0 _ _ hq
        have hl : kvs.length < sizeLine := by rw [dm.length]; exact Nat.lt_of_le_of_lt okl (by decide)
        refine ⟨_, rfl, _, rfl, oo, .ref az, rfl, .inl ⟨kvs, kN (9 - g), .inl hq1, rfl, e1.symm⟩, az, dz, _, rfl, hz, ff_no _ (by decide +kernel) (by decide +kernel), _, rfl, az, a3, fz, fr, rfl, hFz1, hF3.same s0, (getD_fb okf e2).mono (by decide), okF.mono (by decide), fun H2' x2 hx2 hF2 t2 => ?_⟩
        refine ⟨_, rfl, _, rfl, oo, _, rfl, DPut.k (k := kN (9 - g)) (t2 _ _ hq1) hl, ?_⟩
        have u2 := s0.trans t2
        have sxf : SX oo H' (L2.upd H2' oo (.dK (putK kvs (kN (9 - g)) (.ref x2)))) := (SX.of u2).put _
        refine ⟨_, _, _, _, rfl, upd_same, ?_, s5.trans sxf⟩
        rw [foldl_take_succ _ _ hti, hacc]
        have e : oddStep acc ((m, g), fr) = SL.put acc (9 - g) (plus fz fr) := by
          unfold oddStep
          show SL.put acc (9 - g) (plus ((get? acc (9 - g)).getD Uw67.zero) fr) = _
          rw [e2]; rfl
        rw [e]
        exact (dm.mono (RF.sxK hq sxf)).put kN_inj _ ⟨x2, rfl, hF2.sxK (t2 _ _ hq1) ((SX.refl oo H2').put _)⟩
      · rw [ez] at e2; cases e2
    · rintro σ H' ⟨v4, v5, v6, kvs, rfl, hq, dm, s5⟩
      rw [dmc.length, List.take_length] at dm
      have dm : Dm kN (RF C H') kvs (lineOdds n) := dm
      rw [lineOdds_eq n hn] at dm
      have hcc := s5 c _ noc.symm hb_c
      refine ⟨hcc, _, rfl, ?_⟩
      have hoH : H oo = none := s2.free hoo
      refine k _ oo kvs hoH (by rw [upd_ne noc]; exact hq) (dm.mono fun v f ⟨a, e, dx, h⟩ => ⟨a, e, dx, by rw [upd_ne (ne_of h hcc (fun z => nomatch z))]; exact h⟩) fun b o e => ?_
      have nbc : b ≠ c := ne_of_none e hcn
      rw [upd_ne nbc]
      exact s5 b o (ne_of_none e hoH) (hb_H b o nbc (s4 _ _ (s2 _ _ e)))
end
end SL
set_option Elab.async false
set_option linter.all false
set_option maxRecDepth 100000
set_option maxHeartbeats 4000000
namespace SL
open PySem PySem.Spec PyProof.Rows L2
open Uw67 (Frac frac plus times)
/-! ### the text by places: bundle -/
abbrev sBI : Stmt := inClass (top 57) 0
abbrev sBegins : Stmt := inClass (top 57) 1
abbrev sLine : Stmt := inClass (top 57) 2
abbrev sOdds : Stmt := inClass (top 57) 3
abbrev sCast : Stmt := inClass (top 57) 4
abbrev sChance : Stmt := inClass (top 57) 5
abbrev sBecomes : Stmt := inClass (top 57) 6
abbrev sMoving : Stmt := inClass (top 57) 7
abbrev sCame : Stmt := inClass (top 57) 8
abbrev sTurned : Stmt := inClass (top 57) 9
abbrev sFamily : Stmt := inClass (top 57) 10
abbrev sCores : Stmt := inClass (top 57) 11
abbrev sPairs : Stmt := inClass (top 57) 12
/-! ### a Bundle on the heap; what a call hands back -/
def iV (l : List Int) : List V := l.map V.int
theorem nV_iV (l : List Nat) : nV l = iV (Uw67.ints l) := by
  unfold nV iV Uw67.ints
  rw [List.map_map]
  rfl
def bf (n : Nat) : List (Str × V) := putF "stalks" (.int (n : Nat)) []
theorem bf_s (n : Nat) : (bf n).lookup ("stalks" : Str) = some (.int (n : Nat)) := by
  unfold bf
  rw [lookup_putF, if_pos rfl]
theorem bf_no (n : Nat) {m : Str} (h : ¬ m = "stalks") : (bf n).lookup m = none := by
  unfold bf
  rw [lookup_putF, if_neg h]
  rfl
def BunAt (B : Addr) (H : Hp) (a : Addr) (n : Nat) : Prop := ∃ dx, H a = some (.ins B dx (bf n))
theorem BunAt.same {B : Addr} {H H' : Hp} {a : Addr} {n : Nat} (h : BunAt B H a n) (s : Same H H') : BunAt B H' a n := let ⟨dx, e⟩ := h; ⟨dx, s _ _ e⟩
/-- the answer stands in a new list, the bundle has n' stalks, all else is as it was -/
def Ans (B : Addr) (H : Hp) (a : Addr) (n' : Nat) (out : List Int) (Q : VK) : Prop := ∀ (H' : Hp) (p : Addr), H p = none → H' p = some (.lst (iV out)) → BunAt B H' a n' → SX a H H' → Q (.ref p) H'
theorem Ans.same {B : Addr} {H : Hp} {a : Addr} {n : Nat} {out : List Int} {Q : VK} (k : Ans B H a n out Q) (hb : BunAt B H a n) {H' : Hp} {p : Addr} (hp : H p = none) (e : H' p = some (.lst (iV out))) (s : Same H H') : Q (.ref p) H' :=
  k H' p hp e (hb.same s) (SX.of s)
structure TxB (K : PySem.W.Frag) (mg : Str → Option Value) (B : Addr) : Prop where
  cl : Cls K B
  nS : NoAttr K B "stalks"
  first : ConI mg "STALKS_AT_FIRST" 49
  few : ConI mg "FEWEST_STALKS" 21
  most : ConI mg "MOST_STALKS" 97
  hex : ConI mg "LAST_HEXAGRAM" 63
  set : ConI mg "LAST_SET_OF_LINES" 63
  out : ConI mg "OUT_OF_RANGE" (-1)
  cut : ConI mg "NO_SUCH_CUT" (-2)
  whole : ConT K mg "WHOLE" [.int 7, .int 9]
  moving : ConT K mg "MOVING" [.int 6, .int 9]
def spBI (B : Addr) : Sp := fun vs H Q _ => ∃ (x dx : Addr), vs = [.ref x] ∧ H x = some (.ins B dx []) ∧ ∀ H' : Hp, BunAt B H' x 49 → (∀ c o, H c = some o → c ≠ x → H' c = some o) → Q .non H'
def spBegins (B : Addr) : Sp := fun vs H Q _ => ∃ (a : Addr) (n k : Nat), vs = [.ref a, .int k] ∧ BunAt B H a n ∧ Ans B H a (Uw67.step n (.begins k)).1 (Uw67.step n (.begins k)).2 Q
def spLine (K : PySem.W.Frag) (B : Addr) : Sp := fun vs H Q _ => ∃ (a l : Addr) (n c1 c2 c3 : Nat), vs = [.ref a, .ref l] ∧ BunAt B H a n ∧ SqL K H l (nV [c1, c2, c3]) ∧ Ans B H a n (Uw67.step n (.line c1 c2 c3)).2 Q
def spOdds (B : Addr) : Sp := fun vs H Q _ => ∃ (a : Addr) (n : Nat), vs = [.ref a] ∧ BunAt B H a n ∧ n ∈ ns ∧ Ans B H a n (Uw67.step n .odds).2 Q
/-! ### what the changes tell -/
theorem changes_eq : ∀ (cs : List Nat) (m i : Nat), Uw67.changes m i cs = if (takenList m cs).length < cs.length then .error (i + (takenList m cs).length) else .ok (takenList m cs)
  | [], m, i => rfl
  | c :: r, m, i => by
    unfold Uw67.changes takenList
    by_cases h : c < 1 ∨ m ≤ c
    · rw [if_pos h, if_pos (show c = 0 ∨ m ≤ c by omega)]
      rfl
    · rw [if_neg h, if_neg (show ¬ (c = 0 ∨ m ≤ c) by omega), changes_eq r]
      by_cases q : (takenList (m - Uw67.takes m c) r).length < r.length
      · rw [if_pos q, if_pos (by rw [List.length_cons, List.length_cons]; omega)]
        show Except.error _ = Except.error _
        rw [List.length_cons]
        congr 1
        omega
      · rw [if_neg q, if_neg (by rw [List.length_cons, List.length_cons]; omega)]
        rfl
section
variable {P : Program} {w : World} {K : PySem.W.Frag} {mg : Str → Option Value} {base : Heap}
theorem scBI : FnScope ["self"] ["self"] (defScope sBI) := ⟨rfl, rfl, rfl, by decide +kernel, rfl, by decide +kernel, by decide +kernel⟩
theorem ok_bi {f B : Addr} {fd : FuncData} (F : Fun K "__init__" "Bundle.__init__" sBI f fd) (T : TxB K mg B) : FnOk P w K mg base CX0 1 f fd ["self"] (spBI B) := by
  refine F.ok scBI (fun vs H Q E h => ?_) (fun cdv A outer s H vs Q E hr h => ?_)
  · obtain ⟨x, dx, rfl, _⟩ := h; rfl
  · obtain ⟨x, dx, rfl, hx, k⟩ := h
    refine ⟨_, pss_one (ps_fld (pv 0) (pe_ciK T.first) rfl), ?_⟩
    refine ⟨_, rfl, x, B, dx, _, rfl, hx, T.cl, T.nS, (by show 0 < 1000; decide), ?_⟩
    exact k _ ⟨dx, upd_same⟩ fun c o e hc => by rw [upd_ne hc]; exact e
theorem scBegins : FnScope ["self", "stalks"] ["self", "stalks"] (defScope sBegins) := ⟨rfl, rfl, rfl, by decide +kernel, rfl, by decide +kernel, by decide +kernel⟩
theorem ok_begins {f B : Addr} {fd : FuncData} (F : Fun K "begins" "Bundle.begins" sBegins f fd) (T : TxB K mg B) : FnOk P w K mg base CX0 1 f fd ["self", "stalks"] (spBegins B) := by
  refine F.ok scBegins (fun vs H Q E h => ?_) (fun cdv A outer s H vs Q E hr h => ?_)
  · obtain ⟨a, n, k, rfl, _⟩ := h; rfl
  · obtain ⟨a, n, j, rfl, hB, k⟩ := h
    refine ⟨_, (pss_cons (ps_if (PW.pt (pw_or (pt_cmpR op_lt (pv 1) (pe_ciK T.few) (nomark _)) (pw_or (pt_cmpR op_gt (pv 1) (pe_ciK T.most) (nomark _)) (pw_or1 (pt_cmpR op_ne (pe_op op_mod (pv 1) pe_int) pe_int (nomark _))))))
        (pss_one (ps_ret (pe_lst (pa_cons (pe_ciK T.out) pa_nil)))) pss_nil) <|
      pss_cons (ps_fld (pv 0) (pv 1) rfl) <| pss_one (ps_ret (pe_lst (pa_cons pe_int pa_nil)))), ?_⟩
    have bad : (j < 21 ∨ 97 < j ∨ j % 4 ≠ 1) → (1 ≤ sizeLine ∧ ∀ p, H p = none → Q (.ref p) (L2.upd H p (.lst [.int (-1)]))) := fun h => by
      refine ⟨by decide, fun p hp => ?_⟩
      rw [show Uw67.step n (.begins j) = (n, [-1]) by show (if _ then _ else _) = _; rw [if_pos h]] at k
      exact Ans.same k hB hp upd_same (Same.new hp)
    refine ⟨_, rfl, _, _, rfl, rfl, _, rfl, ite2 (fun z => ?_) (fun z => ?_)⟩
    · have z' : (j : Int) < 21 := of_decide_eq_true z
      exact bad (.inl (by omega))
    · have z1 : ¬ (j : Int) < 21 := fun q => z (decide_eq_true q)
      refine ⟨_, rfl, _, _, rfl, rfl, _, rfl, ite2 (fun z => ?_) (fun z => ?_)⟩
      · have z' : (97 : Int) < j := of_decide_eq_true z
        exact bad (.inr (.inl (by omega)))
      · have z2 : ¬ (97 : Int) < j := fun q => z (decide_eq_true q)
        refine ⟨_, rfl, _, _, rfl, rfl, (by show (0 : Int) < 4; decide), rfl, _, rfl, ite2 (fun z => ?_) (fun z => ?_)⟩
        · have z' : ¬ V.int ((j : Int) % 4) = V.int 1 := fun q => by
            rw [decide_eq_true q] at z; cases z
          exact bad (.inr (.inr fun q => z' (by rw [show ((j : Int) % 4) = 1 by omega])))
        · have z' : V.int ((j : Int) % 4) = V.int 1 := by
            by_cases q : V.int ((j : Int) % 4) = V.int 1
            · exact q
            · rw [decide_eq_false q] at z; exact absurd rfl z
          injection z' with z'
          obtain ⟨dx, hx⟩ := id hB
          refine ⟨_, rfl, _, rfl, a, B, dx, _, rfl, hx, T.cl, T.nS, (by show 1 < 1000; decide), (by show 1 ≤ sizeLine; decide), fun p hp => ?_⟩
          rw [show Uw67.step n (.begins j) = (j, [0]) by show (if _ then _ else _) = _; rw [if_neg (by omega)]] at k
          have npa : a ≠ p := fun q => by rw [← q, upd_same] at hp; cases hp
          have hp' : H p = none := by rw [upd_ne npa.symm] at hp; exact hp
          refine k _ p hp' upd_same ⟨dx, ?_⟩ fun b o nb e => ?_
          · rw [upd_ne npa, upd_same]
            show some (HO.ins B dx (if ("stalks" : Str) = "stalks" then [(("stalks" : Str), V.int (j : Nat))] else _)) = _
            rw [if_pos rfl]
            rfl
          · rw [upd_ne (ne_of_none e hp'), upd_ne nb]; exact e
theorem scLine : FnScope ["self", "cuts", "taken"] ["self", "cuts"] (defScope sLine) := ⟨rfl, rfl, rfl, by decide +kernel, rfl, by decide +kernel, by decide +kernel⟩
theorem ok_line {f B : Addr} {fd : FuncData} (F : Fun K "line" "Bundle.line" sLine f fd) (X : Txt K mg) (T : TxB K mg B) (GC : GF P w K mg base 3 "taken_by_cuts" ["stalks", "cuts"] (spCuts K)) (GT : GF P w K mg base 2 "line_told" ["taken"] (spTold K)) :
    FnOk P w K mg base CX0 4 f fd ["self", "cuts"] (spLine K B) := by
  refine F.ok scLine (fun vs H Q E h => ?_) (fun cdv A outer s H vs Q E hr h => ?_)
  · obtain ⟨a, l, n, c1, c2, c3, rfl, _⟩ := h; rfl
  · obtain ⟨a, l, n, c1, c2, c3, rfl, hB, hS, k⟩ := h
    have hr2 : Room 2 _ := hr.mono (by decide)
    refine ⟨_, (pss_cons (ps_set (i := 2) scLine.nd rfl (Or.inl rfl) (pe_gf GC hr rfl (pa_cons (pe_fld (pv 0) rfl) (pa_cons (pv 1) pa_nil)))) <|
      pss_cons (ps_if (pt_cmpR op_lt (pe_callB call_len rfl X.len PySem.boot_len (pa_cons (pv 2) pa_nil)) (pe_callB call_len rfl X.len PySem.boot_len (pa_cons (pv 1) pa_nil)) (nomark _))
        (pss_one (ps_ret (pe_lst (pa_cons (pe_ciK T.cut) (pa_cons (pe_callB call_len rfl X.len PySem.boot_len (pa_cons (pv 2) pa_nil)) pa_nil))))) pss_nil) <|
      pss_one (ps_ret (pe_op op_cat (pe_lst (pa_cons (pe_gf GT hr2 rfl (pa_cons (pv 2) pa_nil)) pa_nil)) (pv 2)))), ?_⟩
    obtain ⟨dx, hx⟩ := id hB
    refine ⟨_, rfl, a, B, dx, _, _, rfl, hx, T.cl, T.nS, bf_s n, _, rfl, n, l, [c1, c2, c3], rfl, hS, (by show 3 ≤ 1000; decide), fun H1 p hp hq s1 => ?_⟩
    have ch := changes_eq [c1, c2, c3] n 0
    have tl := taken_len [c1, c2, c3] n
    have t9 := taken_le [c1, c2, c3] n
    generalize takenList n [c1, c2, c3] = ts at hq ch tl t9
    refine ⟨_, rfl, _, ts.length, rfl, .inl ⟨_, SqL.of hq, (nV_length _).symm⟩, _, rfl, _, 3, rfl, .inl ⟨_, s1.seq hS, rfl⟩, _, _, rfl, rfl, _, rfl, ite2 (fun z => ?_) (fun z => ?_)⟩
    · have z' : (ts.length : Int) < 3 := of_decide_eq_true z
      have z2 : ts.length < [c1, c2, c3].length := by show ts.length < 3; omega
      rw [if_pos z2] at ch
      refine ⟨_, rfl, _, ts.length, rfl, .inl ⟨_, SqL.of hq, (nV_length _).symm⟩, (by show 2 ≤ sizeLine; decide), fun p2 hp2 => ?_⟩
      have e : (Uw67.step n (.line c1 c2 c3)).2 = [-2, (ts.length : Int)] := by
        show (match Uw67.changes n 0 [c1, c2, c3] with | .error i => _ | .ok t => _) = _
        rw [ch]
        show [(-2 : Int), ((0 + ts.length : Nat) : Int)] = _
        rw [Nat.zero_add]
      rw [e] at k
      exact Ans.same k hB (s1.free hp2) upd_same (s1.trans (Same.new hp2))
    · have z' : ¬ (ts.length : Int) < 3 := fun q => z (decide_eq_true q)
      have z2 : ¬ ts.length < [c1, c2, c3].length := by show ¬ ts.length < 3; omega
      rw [if_neg z2] at ch
      have tl3 : ts.length ≤ 3 := tl
      refine ⟨_, rfl, p, ts, rfl, SqL.of hq, by omega, t9, fun H2 s2 => ⟨(by show 1 ≤ sizeLine; decide), fun p2 hp2 => ⟨_, rfl, p2, p, _, nV ts, rfl, rfl, upd_same, ?_, ?_, fun p3 hp3 => ?_⟩⟩⟩
      · rw [upd_ne (ne_of_none (s2 _ _ hq) hp2)]
        exact s2 _ _ hq
      · rw [nV_length]
        exact Nat.le_trans (show 1 + ts.length ≤ 4 by omega) (by decide)
      · have e : (Uw67.step n (.line c1 c2 c3)).2 = (Uw67.lineOf ts : Int) :: Uw67.ints ts := by
          show (match Uw67.changes n 0 [c1, c2, c3] with | .error i => _ | .ok t => _) = _
          rw [ch]
        rw [e] at k
        have s3 : Same H (L2.upd H2 p2 (.lst [.int (Uw67.lineOf ts)])) := (s1.trans s2).trans (Same.new hp2)
        refine Ans.same k hB (s3.free hp3) ?_ (s3.trans (Same.new hp3))
        rw [upd_same, nV_iV]
        rfl
end
end SL
set_option Elab.async false
set_option linter.all false
set_option maxRecDepth 100000
set_option maxHeartbeats 4000000
namespace SL
open PySem PySem.Spec PyProof.Rows L2
open Uw67 (Frac frac plus times)
theorem oddsTab_get (n : Nat) : ∀ i, i < 4 → get? (oddsTab n) (6 + i) = some (Uw67.odds n (6 + i))
  | 0, _ => rfl
  | 1, _ => rfl
  | 2, _ => rfl
  | 3, _ => rfl
  | i + 4, h => absurd h (by omega)
theorem oddsTab_at {n x : Nat} (h1 : 6 ≤ x) (h2 : x ≤ 9) : get? (oddsTab n) x = some (Uw67.odds n x) := by
  have e := oddsTab_get n (x - 6) (by omega)
  rw [show 6 + (x - 6) = x by omega] at e
  exact e
theorem odds_fb {n x : Nat} (hn : n ∈ ns) (h1 : 6 ≤ x) (h2 : x ≤ 9) : Fb 64 (Uw67.odds n x) := by
  obtain ⟨_, _, okR⟩ := okN_parts hn
  have q := okRun_take (tab n 3) zeros (tab n 3).length okR (Nat.le_refl _)
  rw [List.take_length] at q
  have q : okO (lineOdds n) = true := q
  rw [lineOdds_eq n hn] at q
  unfold okO at q
  rw [Bool.and_eq_true, Bool.and_eq_true] at q
  exact getD_fb (m := oddsTab n) q.2.1 (oddsTab_at h1 h2)
/-- odds[x] -/
theorem odds_at {C : Addr} {H : Hp} {kvs : List (Key × V)} {n x : Nat} (dm : Dm kN (RF C H) kvs (oddsTab n)) (h1 : 6 ≤ x) (h2 : x ≤ 9) : ∃ a, valV kvs (kN x) = some (.ref a) ∧ FracAt C H a (Uw67.odds n x) := by
  rcases dm.get kN_inj x with ⟨v, f, e1, e2, a, rfl, hF⟩ | ⟨e1, e2⟩
  · rw [oddsTab_at h1 h2] at e2
    obtain rfl := Option.some.inj e2
    exact ⟨a, e1, hF⟩
  · rw [oddsTab_at h1 h2] at e2; cases e2
theorem iV_append (a b : List Int) : iV (a ++ b) = iV a ++ iV b := List.map_append ..
def oddsOut (n i : Nat) : List Int := 0 :: (([6, 7, 8, 9].take i).flatMap fun x => Uw67.fracOut (Uw67.odds n x))
theorem oddsOut_succ (n : Nat) : ∀ i, i < 4 → oddsOut n (i + 1) = oddsOut n i ++ Uw67.fracOut (Uw67.odds n (6 + i))
  | 0, _ => rfl
  | 1, _ => rfl
  | 2, _ => rfl
  | 3, _ => rfl
  | i + 4, h => absurd h (by omega)
theorem oddsOut_length (n : Nat) : ∀ i, i ≤ 4 → (oddsOut n i).length = 1 + 2 * i
  | 0, _ => rfl
  | 1, _ => rfl
  | 2, _ => rfl
  | 3, _ => rfl
  | 4, _ => rfl
  | i + 5, h => absurd h (by omega)
section
variable {X : Cx} {a : Expr} {ta : TE}
theorem pt_truthK {K : PySem.W.Frag} (ha : PE X a ta) (he : ∀ whole, isTrue a X.env whole = (do let v ← whole; standAt a.pos; holding [v] (truthy v))) (hK : X.K = K := by rfl) :
    PT X a (fun σ H Q => ta σ H fun x H' => ∃ k, TruV K x H' k ∧ Q k H') := by
  subst hK
  exact pt_truth ha he
end
section
variable {P : Program} {w : World} {K : PySem.W.Frag} {mg : Str → Option Value} {base : Heap}
theorem scOdds : FnScope ["self", "answer", "odds", "line"] ["self"] (defScope sOdds) := ⟨rfl, rfl, rfl, by decide +kernel, rfl, by decide +kernel, by decide +kernel⟩
theorem ok_odds {f B C : Addr} {fd : FuncData} (F : Fun K "odds" "Bundle.odds" sOdds f fd) (X : Txt K mg) (T : TxB K mg B) (TF : TxF K C) (GL : GF P w K mg base 6 "line_odds" ["stalks"] (spLod C)) (GO : GM P w K mg base C 1 "told" ["self"] (spFO C)) :
    FnOk P w K mg base CX0 7 f fd ["self"] (spOdds B) := by
  refine F.ok scOdds (fun vs H Q E h => ?_) (fun cdv A outer s H vs Q E hr h => ?_)
  · obtain ⟨a, n, rfl, _⟩ := h; rfl
  · obtain ⟨a, n, rfl, hB, hn, k⟩ := h
    have hr1 : Room 1 _ := hr.mono (by decide)
    have hu := hu_of hr
    refine ⟨_, (pss_cons (ps_set (i := 1) scOdds.nd rfl (Or.inl rfl) (pe_lst (pa_cons pe_int pa_nil))) <|
      pss_cons (ps_set (i := 2) scOdds.nd rfl (Or.inl rfl) (pe_gf GL hr rfl (pa_cons (pe_fld (pv 0) rfl) pa_nil))) <|
      pss_cons (ps_for PassesOwn.never rfl (pi_range2 rfl X.range (pa_cons pe_int (pa_cons pe_int pa_nil))) (pg_name (i := 3) scOdds.nd rfl (Or.inl rfl)) <|
        pss_one (ps_expr (pe_bm PySem.F.plainAttrs_list PySem.F.slot_list_extend PySem.F.type_list_extend mt_extend (pv 1) (pa_cons (pe_gm0 GO hr1 (pe_dget hu (pv 2) (pv 3) (fun _ _ => rfl))) pa_nil)))) <|
      pss_one (ps_ret (pv 1))), ?_⟩
    refine ⟨(by show 1 ≤ sizeLine; decide), fun an han => ?_⟩
    obtain ⟨dx, hx⟩ := id hB
    have s0 : Same H (L2.upd H an (.lst [.int 0])) := Same.new han
    refine ⟨_, rfl, a, B, dx, _, _, rfl, s0 _ _ hx, T.cl, T.nS, bf_s n, n, rfl, hn, fun H2 od kvs hod hq dm s1 => ?_⟩
    have h2a := s1 _ _ (show (L2.upd H an (.lst [.int 0])) an = some (.lst [.int 0]) from upd_same)
    have noa : od ≠ an := ne_of hq h2a (fun z => nomatch z)
    refine ⟨6, 10, rfl, by decide, for_range (lo := 6) (n := 4) (fun i σ H' => ∃ v3 : Option V, σ = [some (.ref a), some (.ref an), some (.ref od), v3] ∧ H' an = some (.lst (iV (oddsOut n i))) ∧ SX an H2 H')
      ⟨none, rfl, h2a, SX.refl an H2⟩ ?_ ?_⟩
    · rintro i σ H' hi ⟨v3, rfl, hl, s5⟩
      rw [show (6 : Int) + (i : Int) = ((6 + i : Nat) : Int) by omega]
      obtain ⟨az, ez, hFz⟩ := odds_at dm (x := 6 + i) (by omega) (by omega)
      have h5o := s5 od _ noa hq
      have hFz5 : FracAt C H' az (Uw67.odds n (6 + i)) := by
        obtain ⟨dz, e⟩ := hFz
        exact ⟨dz, s5 _ _ (ne_of e h2a (fun z => nomatch z)) e⟩
      obtain ⟨dz, hz⟩ := id hFz5
      refine ⟨_, rfl, .inl ⟨rfl, _, SqL.of hl⟩, _, rfl, _, rfl, od, .ref az, rfl, .inl ⟨kvs, kN (6 + i), .inl h5o, rfl, ez.symm⟩, az, dz, _, rfl, hz, ff_no _ (by decide +kernel) (by decide +kernel), az, _, rfl, hFz5, fun H3 b hb hb3 t3 => ?_⟩
      have h3l := t3 _ _ hl
      have nba : an ≠ b := ne_of_none hl hb
      refine ⟨an, b, _, _, rfl, rfl, h3l, hb3, ?_, some (.int ((6 + i : Nat) : Int)), rfl, ?_, (s5.trans (SX.of t3)).put _⟩
      · rw [show (iV (oddsOut n i)).length = (oddsOut n i).length from List.length_map .., oddsOut_length n i (by omega)]
        exact Nat.le_trans (show 1 + 2 * i + 2 ≤ 20 by omega) (by decide)
      · rw [upd_same, oddsOut_succ n i hi, iV_append, nV_iV]
        rfl
    · rintro σ H' ⟨v3, rfl, hl, s5⟩
      refine ⟨_, rfl, ?_⟩
      refine k.same hB (p := an) han hl fun b o e => s5 b o (ne_of_none e han) (s1 _ _ (s0 _ _ e))
/-! ### cast -/
def spCast (K : PySem.W.Frag) (B : Addr) : Sp := fun vs H Q _ => ∃ (a l : Addr) (n : Nat) (cs : List Nat), vs = [.ref a, .ref l] ∧ BunAt B H a n ∧ SqL K H l (nV cs) ∧ cs.length = 18 ∧ Ans B H a n (Uw67.step n (.cast cs)).2 Q
theorem cutV_nat (xs : List V) (a b : Nat) : cutV xs (some (a : Int)) (some (b : Int)) = (xs.drop (min a xs.length)).take (min b xs.length - min a xs.length) := by
  unfold cutV
  rw [HT.sIx_nat, HT.sIx_nat]
theorem nV_drop (l : List Nat) (i : Nat) : (nV l).drop i = nV (l.drop i) := by
  unfold nV
  rw [List.map_drop]
theorem nV_take (l : List Nat) (i : Nat) : (nV l).take i = nV (l.take i) := by
  unfold nV
  rw [List.map_take]
theorem lineOf_range {ts : List Nat} (h : ts.length ≤ 3) : 6 ≤ Uw67.lineOf ts ∧ Uw67.lineOf ts ≤ 9 := by
  unfold Uw67.lineOf
  have := List.length_filter_le Uw67.isGreat ts
  omega
theorem castBy_succ (n k i : Nat) (l : List Nat) : Uw67.castBy n (k + 1) i l = (Uw67.changes n i (l.take 3)).bind fun t => (Uw67.castBy n k (i + 3) (l.drop 3)).map fun r => Uw67.lineOf t :: r := rfl
theorem inWhole {x : Nat} (h1 : 6 ≤ x) (h2 : x ≤ 9) : inV (.int (x : Nat)) [.int 7, .int 9] = Uw67.isWhole x := by
  have q : x = 6 ∨ x = 7 ∨ x = 8 ∨ x = 9 := by omega
  rcases q with rfl | rfl | rfl | rfl <;> decide
theorem inMoving {x : Nat} (h1 : 6 ≤ x) (h2 : x ≤ 9) : inV (.int (x : Nat)) [.int 6, .int 9] = Uw67.isMoving x := by
  have q : x = 6 ∨ x = 7 ∨ x = 8 ∨ x = 9 := by omega
  rcases q with rfl | rfl | rfl | rfl <;> decide
theorem setOf_congr {p q : Nat → Bool} {ls : List Nat} (h : ∀ x ∈ ls, p x = q x) : setOf p ls = setOf q ls := by
  unfold setOf
  congr 1
  exact List.map_congr_left fun x hx => by rw [h x hx]
theorem scCast : FnScope ["self", "cuts", "lines", "first", "cuts_of_line", "taken", "hexagram", "moving"] ["self", "cuts"] (defScope sCast) := ⟨rfl, rfl, rfl, by decide +kernel, rfl, by decide +kernel, by decide +kernel⟩
theorem ok_cast {f B : Addr} {fd : FuncData} (F : Fun K "cast" "Bundle.cast" sCast f fd) (X : Txt K mg) (T : TxB K mg B) (GC : GF P w K mg base 3 "taken_by_cuts" ["stalks", "cuts"] (spCuts K)) (GT : GF P w K mg base 2 "line_told" ["taken"] (spTold K))
    (GS : GF P w K mg base 1 "set_of_lines" ["lines", "kinds"] (spSet K)) : FnOk P w K mg base CX0 4 f fd ["self", "cuts"] (spCast K B) := by
  refine F.ok scCast (fun vs H Q E h => ?_) (fun cdv A outer s H vs Q E hr h => ?_)
  · obtain ⟨a, l, n, cs, rfl, _⟩ := h; rfl
  · obtain ⟨a, l, n, cs, rfl, hB, hS, h18, k⟩ := h
    have hr1 : Room 1 _ := hr.mono (by decide)
    have hr2 : Room 2 _ := hr.mono (by decide)
    have h18v : (nV cs).length = 18 := by rw [nV_length]; exact h18
    refine ⟨_, (pss_cons (ps_set (i := 2) scCast.nd rfl (Or.inl rfl) (pe_lst pa_nil)) <|
      pss_cons (ps_for PassesOwn.never rfl (pi_range3 rfl X.range (pa_cons pe_int (pa_cons (pe_callB call_len rfl X.len PySem.boot_len (pa_cons (pv 1) pa_nil)) (pa_cons (pe_ciK X.chg) pa_nil)))) (pg_name (i := 3) scCast.nd rfl (Or.inl rfl)) <|
        pss_cons (ps_set (i := 4) scCast.nd rfl (Or.inl rfl) (pe_slice sl_list (pv 1) (po_some (pv 3)) (po_some (pe_op op_add (pv 3) (pe_ciK X.chg))))) <|
        pss_cons (ps_set (i := 5) scCast.nd rfl (Or.inl rfl) (pe_gf GC hr rfl (pa_cons (pe_fld (pv 0) rfl) (pa_cons (pv 4) pa_nil)))) <|
        pss_cons (ps_if (pt_cmpR op_lt (pe_callB call_len rfl X.len PySem.boot_len (pa_cons (pv 5) pa_nil)) (pe_callB call_len rfl X.len PySem.boot_len (pa_cons (pv 4) pa_nil)) (nomark _))
          (pss_one (ps_ret (pe_lst (pa_cons (pe_ciK T.cut) (pa_cons (pe_op op_add (pv 3) (pe_callB call_len rfl X.len PySem.boot_len (pa_cons (pv 5) pa_nil))) pa_nil))))) pss_nil) <|
        pss_one (ps_expr (pe_bm PySem.F.plainAttrs_list PySem.F.slot_list_append PySem.F.type_list_append mt_append (pv 2) (pa_cons (pe_gf GT hr2 rfl (pa_cons (pv 5) pa_nil)) pa_nil)))) <|
      pss_cons (ps_set (i := 6) scCast.nd rfl (Or.inl rfl) (pe_gf GS hr1 rfl (pa_cons (pv 2) (pa_cons (pe_ctK T.whole) pa_nil)))) <|
      pss_cons (ps_set (i := 7) scCast.nd rfl (Or.inl rfl) (pe_gf GS hr1 rfl (pa_cons (pv 2) (pa_cons (pe_ctK T.moving) pa_nil)))) <|
      pss_one (ps_ret (pe_lst (pa_cons (pv 6) (pa_cons (pv 7) (pa_cons (pe_op (opE op_xor) (pv 6) (pv 7)) pa_nil)))))), ?_⟩
    refine ⟨(by show 0 ≤ sizeLine; exact Nat.zero_le _), fun ll hll => ?_⟩
    obtain ⟨dx, hx⟩ := id hB
    have s0 : Same H (L2.upd H ll (.lst [])) := Same.new hll
    refine ⟨_, rfl, _, 18, rfl, .inl ⟨_, s0.seq hS, h18v.symm⟩, 0, 18, 3, 6, rfl, ⟨by decide, by decide, by decide +kernel, by decide +kernel⟩, for_rangeC (lo := 0) (c := 3) (n := 6) (fun j σ H' => ∃ (v3 v4 v5 : Option V) (ts : List Nat), σ = [some (.ref a), some (.ref l), some (.ref ll), v3, v4, v5, none, none] ∧
      H' ll = some (.lst (nV ts)) ∧ ts.length = j ∧ (∀ x ∈ ts, 6 ≤ x ∧ x ≤ 9) ∧ Uw67.castBy n 6 0 cs = (Uw67.castBy n (6 - j) (3 * j) (cs.drop (3 * j))).map (fun r => ts ++ r) ∧ Same H H')
      ⟨none, none, none, [], rfl, upd_same, rfl, (fun _ h => nomatch h), ?_, s0⟩ ?_ ?_⟩
    · show Uw67.castBy n 6 0 cs = (Uw67.castBy n 6 0 cs).map (fun r => [] ++ r)
      cases Uw67.castBy n 6 0 cs <;> rfl
    · rintro j σ H' hj ⟨v3, v4, v5, ts, rfl, hl, tl, t69, ce, s5⟩
      rw [show (0 : Int) + (j : Nat) * 3 = ((3 * j : Nat) : Int) by omega]
      have cv : cutV (nV cs) (some ((3 * j : Nat) : Int)) (some (((3 * j : Nat) : Int) + 3)) = nV ((cs.drop (3 * j)).take 3) := by
        rw [show ((3 * j : Nat) : Int) + 3 = ((3 * j + 3 : Nat) : Int) by omega, cutV_nat, h18v, show min (3 * j) 18 = 3 * j by omega, show min (3 * j + 3) 18 - 3 * j = 3 by omega, nV_drop, nV_take]
      refine ⟨_, rfl, _, rfl, _, rfl, _, rfl, _, _, rfl, rfl, _, rfl, l, nV cs, rfl, s5.seq hS, fun p4 hp4 => ?_⟩
      rw [cv]
      have c3l : ((cs.drop (3 * j)).take 3).length = 3 := by rw [List.length_take, List.length_drop]; omega
      have t4 : Same H' (L2.upd H' p4 (.lst (nV ((cs.drop (3 * j)).take 3)))) := Same.new hp4
      have h4p : (L2.upd H' p4 (.lst (nV ((cs.drop (3 * j)).take 3)))) p4 = some (.lst (nV ((cs.drop (3 * j)).take 3))) := upd_same
      generalize L2.upd H' p4 (.lst (nV ((cs.drop (3 * j)).take 3))) = H4 at t4 h4p ⊢
      have u4 := s5.trans t4
      refine ⟨_, rfl, a, B, dx, _, _, rfl, u4 _ _ hx, T.cl, T.nS, bf_s n, _, rfl, n, p4, _, rfl, SqL.of h4p, by rw [c3l]; decide, fun H5 p5 hp5 hq5 t5 => ?_⟩
      have ch := changes_eq ((cs.drop (3 * j)).take 3) n (3 * j)
      have tlen := taken_len ((cs.drop (3 * j)).take 3) n
      have t9 := taken_le ((cs.drop (3 * j)).take 3) n
      rw [c3l] at tlen ch
      generalize takenList n ((cs.drop (3 * j)).take 3) = tk at hq5 ch tlen t9
      have u5 := u4.trans t5
      have c6 : 6 - j = (6 - (j + 1)) + 1 := by omega
      rw [c6, castBy_succ n (6 - (j + 1)) (3 * j)] at ce
      refine ⟨_, rfl, _, tk.length, rfl, .inl ⟨_, SqL.of hq5, (nV_length _).symm⟩, _, rfl, _, 3, rfl, .inl ⟨_, SqL.of (t5 _ _ h4p), by rw [nV_length, c3l]⟩, _, _, rfl, rfl, _, rfl, ite2 (fun z => ?_) (fun z => ?_)⟩
      · have z' : (tk.length : Int) < 3 := of_decide_eq_true z
        rw [if_pos (by omega)] at ch
        rw [ch] at ce
        refine ⟨_, rfl, _, rfl, _, tk.length, rfl, .inl ⟨_, SqL.of hq5, (nV_length _).symm⟩, _, _, rfl, rfl, (by show 2 ≤ sizeLine; decide), fun p6 hp6 => ?_⟩
        have e : (Uw67.step n (.cast cs)).2 = [-2, ((3 * j : Nat) : Int) + (tk.length : Nat)] := by
          show (match Uw67.castBy n 6 0 cs with | .error i => _ | .ok t => _) = _
          rw [ce]
          show [(-2 : Int), ((3 * j + tk.length : Nat) : Int)] = _
          rw [show ((3 * j + tk.length : Nat) : Int) = ((3 * j : Nat) : Int) + (tk.length : Nat) by omega]
        rw [e] at k
        exact k.same hB (u5.free hp6) upd_same (u5.trans (Same.new hp6))
      · have z' : ¬ (tk.length : Int) < 3 := fun q => z (decide_eq_true q)
        rw [if_neg (by omega)] at ch
        rw [ch] at ce
        have hl5 := t5 _ _ (t4 _ _ hl)
        refine ⟨_, rfl, .inl ⟨rfl, _, SqL.of hl5⟩, _, rfl, p5, tk, rfl, SqL.of hq5, by omega, t9, fun H6 t6 => ⟨ll, _, _, rfl, rfl, t6 _ _ hl5, ?_, some (.int ((3 * j : Nat) : Int)), some (.ref p4), some (.ref p5), ts ++ [Uw67.lineOf tk], rfl, ?_, ?_, ?_, ?_, Same.upd (u5.trans t6) hll⟩⟩
        · rw [nV_length, tl]
          exact Nat.lt_of_lt_of_le hj (by decide)
        · rw [upd_same]
          unfold nV
          rw [List.map_append]
          rfl
        · rw [List.length_append, tl]; rfl
        · intro x hx
          rcases List.mem_append.mp hx with q | q
          · exact t69 x q
          · rw [List.mem_singleton.mp q]; exact lineOf_range tlen
        · rw [ce, show 3 * (j + 1) = 3 * j + 3 by omega, ← List.drop_drop]
          show ((Uw67.castBy n (6 - (j + 1)) (3 * j + 3) (List.drop 3 (List.drop (3 * j) cs))).map fun r => Uw67.lineOf tk :: r).map (fun r => ts ++ r) = _
          cases Uw67.castBy n (6 - (j + 1)) (3 * j + 3) (List.drop 3 (List.drop (3 * j) cs)) with
          | error e => rfl
          | ok r =>
            show Except.ok (ts ++ Uw67.lineOf tk :: r) = Except.ok (ts ++ [Uw67.lineOf tk] ++ r)
            rw [List.append_assoc]
            rfl
    · rintro σ H' ⟨v3, v4, v5, ts, rfl, hl, tl, t69, ce, s5⟩
      have ce : Uw67.castBy n 6 0 cs = .ok (ts ++ []) := ce
      rw [List.append_nil] at ce
      refine ⟨_, rfl, fun aw haw => ⟨ll, aw, ts, _, rfl, SqL.of hl, haw, rfl, by omega, fun H6 s6 => ?_⟩⟩
      refine ⟨_, rfl, fun am ham => ⟨ll, am, ts, _, rfl, SqL.of (s6 _ _ hl), ham, rfl, by omega, fun H7 s7 => ?_⟩⟩
      rw [setOf_congr fun x hx => inWhole (t69 x hx).1 (t69 x hx).2, setOf_congr fun x hx => inMoving (t69 x hx).1 (t69 x hx).2]
      refine ⟨_, rfl, _, rfl, _, rfl, _, rfl, _, _, _, rfl, rfl, Bits.bitXor_pp (by omega) (by omega), (by show 3 ≤ sizeLine; decide), fun p8 hp8 => ?_⟩
      have e : (Uw67.step n (.cast cs)).2 = Uw67.ints [setOf Uw67.isWhole ts, setOf Uw67.isMoving ts, setOf Uw67.isWhole ts ^^^ setOf Uw67.isMoving ts] := by
        show (match Uw67.castBy n 6 0 cs with | .error i => _ | .ok t => _) = _
        rw [ce]
        rfl
      rw [e] at k
      have s8 := (s5.trans s6).trans s7
      exact k.same hB (s8.free hp8) upd_same (s8.trans (Same.new hp8))
end
end SL
set_option Elab.async false
set_option linter.all false
set_option maxRecDepth 100000
set_option maxHeartbeats 4000000
namespace SL
open PySem PySem.Spec PyProof.Rows L2
/-! ### list(reversed(xs)) -/
theorem rv_nolen : typeLookup (.type "list_reverseiterator") "__len__" = pure none := by
  rw [typeLookup_type, builtinLookup_eq_fast]
  kernel_rfl
theorem rv_hint : typeLookup (.type "list_reverseiterator") "__length_hint__" = pure (some (.builtin "list_reverseiterator.__length_hint__")) := by
  rw [typeLookup_type, builtinLookup_eq_fast]
  kernel_rfl
section
variable {prog : Program} {w : World} {A : Around} {E : Value → Shared → Prop} {s : Shared} {R : Result → Shared → Prop} {I l : Addr} {items : Array Value}
theorem hint_rev {Q : Bool → Shared → Prop} (hT : s.TypeIs (.ref I) "list_reverseiterator") (h : Q false s) : wpAny (model prog w) A (Builtin.List.listLengthHint (.ref I)) Q E s := by
  unfold Builtin.List.listLengthHint
  refine wpAny_bind (wpAny_specialOf hT rv_nolen ?_)
  show wpAny _ A (specialOf (Value.ref I) (Str.ofString "__length_hint__") >>= _) Q E s
  refine wpAny_bind (wpAny_specialOf hT rv_hint ?_)
  generalize hid : ("list_reverseiterator.__length_hint__" : String) = id0
  wp_delta
  rw [show splitId id0 = some ("list_reverseiterator", "__length_hint__") from by subst hid; decide +kernel]
  subst hid
  refine wpAny_bind (wpAny_isInstance (T := "list_reverseiterator") (b := true) hT (by rw [isSubtype_type]; kernel_rfl) ?_)
  exact wpAny_pure h
/-- what the items of the new list are -/
abbrev RevAt (items : Array Value) : Nat → Value → Prop := fun i v => items[items.size - 1 - i]? = some v
theorem extend_rev (hh : A.handled = none) (hne : l ≠ I) (hl : s.heap.IsList l items) (hit : s.heap.IsRevIter I l ((items.size : Int) - 1)) {S : Addr} (hSI : S ≠ I) (hSl : S ≠ l) {c0 : Nat}
    (hS : s.heap.get? S = some { cls := .type "list", data := .seq #[] c0 }) (hn : items.size ≤ sizeLine)
    (hR : ∀ h' tk acc c, (∀ b o, b ≠ S → b ≠ I → s.heap.get? b = some o → h'.get? b = some o) → h'.get? S = some { cls := .type "list", dict := none, data := .seq acc c, slots := #[] } → ItemsOf (RevAt items) acc items.size →
      R (.ok (.ret .none)) { s with heap := h', toks := tk }) :
    wpAny (model prog w) A.in1 (Builtin.List.listExtendWith (.ref S) (.ref I) .none)
      (fun fin s' => match fin with
        | .done f => R (.ok f) s'
        | .again c' => c'.quiet = true ∧ codeAny (model prog w) A c' R s') (fun e s' => R (.error e) s') s := by
  have W := (Walks.listRev (prog := prog) (w := w) (A := A.in1) hh I l hne items).toS
  have hSf : S ∉ [I, l] := by
    simp only [List.mem_cons, List.not_mem_nil, or_false, not_or]
    exact And.intro hSI hSl
  unfold Builtin.List.listExtendWith
  refine wpAny_bind (wpAny_typeOf (T := "list_reverseiterator") hit.typeIs ?_)
  have h1 : Builtin.List.listSameRef (.ref S) (.ref I) = false := by
    simp [Builtin.List.listSameRef, hSI]
  rw [if_neg (by rw [h1]; decide)]
  refine wpAny_bind (wpAny_pyIter_revIter hit ?_)
  refine wpAny_bind (wpAny_holding (hint_rev hit.typeIs ?_))
  rw [if_neg (by decide)]
  have hit0 : s.heap.IsRevIter I l ((items.size : Int) - 1 - ((0 : Nat) : Int)) := by
    rw [show (items.size : Int) - 1 - ((0 : Nat) : Int) = (items.size : Int) - 1 by omega]
    exact hit
  refine wpAny_pure ⟨plainId_quiet PySem.F.plain_extend_loop _, codeAny_extend_loopS W hn S hSf _ items.size 0 _ _ _ rfl (Nat.zero_le _) ⟨Nat.zero_le _, hit0, hl⟩ hS (ItemsOf.nil _) fun s' acc' c' hm hS' hacc => ?_⟩
  rw [Moved.eq_with hm]
  refine hR s'.heap s'.toks acc' c' (fun b o h2 h3 e => hm.heap b o (fun z => ?_) e) hS' hacc
  rcases List.mem_cons.mp z with z | z
  · exact h2 z
  · exact h3 (List.mem_singleton.mp z)
theorem init_rev (hh : A.handled = none) (hne : l ≠ I) (hl : s.heap.IsList l items) (hit : s.heap.IsRevIter I l ((items.size : Int) - 1)) {S : Addr} (hSI : S ≠ I) (hSl : S ≠ l)
    (hS : s.heap.get? S = some { cls := .type "list", data := .seq #[] }) (hn : items.size ≤ sizeLine)
    (hR : ∀ h' tk acc c, (∀ b o, b ≠ S → b ≠ I → s.heap.get? b = some o → h'.get? b = some o) → h'.get? S = some { cls := .type "list", dict := none, data := .seq acc c, slots := #[] } → ItemsOf (RevAt items) acc items.size →
      R (.ok (.ret .none)) { s with heap := h', toks := tk }) :
    wpAny (model prog w) A.in1 (Builtin.«list.__init__» ⟨[.ref S, .ref I], []⟩)
      (fun fin s' => match fin with
        | .done f => R (.ok f) s'
        | .again c' => c'.quiet = true ∧ codeAny (model prog w) A c' R s') (fun e s' => R (.error e) s') s := by
  show wpAny _ _ (do
    let old ← Builtin.List.listItems (.ref S)
    Builtin.List.listUpdate (.ref S) (fun _ => #[])
    letGo old.toList.reverse
    Builtin.List.listExtendWith (.ref S) (.ref I) .none) _ _ s
  refine wpAny_bind (listItems_at hS rfl ?_)
  refine wpAny_bind (listUpdate_at hS rfl ?_ (Nat.zero_le _) (Nat.zero_le _))
  have hS2 := Heap.get?_update_self (Obj.mapSeq (fun _ => (#[] : Array Value))) hS rfl
  have oth : ∀ b o, b ≠ S → s.heap.get? b = some o → (s.heap.update S (Obj.mapSeq (fun _ => (#[] : Array Value)))).get? b = some o := fun b o hb e =>
    (Heap.get?_update_other _ _ (Ne.symm hb)).trans e
  refine wpAny_bind (wpAny_letGo ?_)
  refine extend_rev (l := l) (items := items) hh hne (hl.at fun o e => oth l o (Ne.symm hSl) e) (hit.at fun o e => oth I o (Ne.symm hSI) e) hSI hSl hS2 hn fun h' tk acc c hk hS' ha => ?_
  exact hR h' tk acc c (fun b o h2 h3 e => hk b o h2 h3 (oth b o h2 e)) hS' ha
theorem call_list_rev {Q : Value → Shared → Prop} (hh : A.handled = none) (hne : l ≠ I) (hl : s.heap.IsList l items) (hit : s.heap.IsRevIter I l ((items.size : Int) - 1)) (hn : items.size ≤ sizeLine)
    (hQ : ∀ h' tk acc c, (∀ b o, b ≠ I → s.heap.get? b = some o → h'.get? b = some o) → h'.get? s.heap.objs.size = some { cls := .type "list", dict := none, data := .seq acc c, slots := #[] } → ItemsOf (RevAt items) acc items.size →
      Q (.ref s.heap.objs.size) { s with heap := h', toks := tk }) : wpAny (model prog w) A (call (.type "list") [.ref I]) Q E s := by
  refine callType_codes (Q₁ := fun obj s1 => obj = .ref s.heap.objs.size ∧ s1 = { s with heap := s.heap.push { cls := .type "list", data := .seq #[] } }) PySem.F.called_list (PySem.F.typeCall_list_1 _) PySem.F.entry_list_init
    (code_list_new _ (And.intro rfl rfl)) fun obj s1 h1 => ?_
  obtain ⟨rfl, rfl⟩ := h1
  have hS : (s.heap.push { cls := .type "list", data := .seq #[] }).get? s.heap.objs.size = some { cls := .type "list", data := .seq #[] } := Heap.get?_push_size _ rfl
  have hIl : I < s.heap.objs.size := by
    obtain ⟨o, e, _⟩ := hit
    exact Heap.lt_size e
  have hll : l < s.heap.objs.size := by
    obtain ⟨o, e, _⟩ := hl
    exact Heap.lt_size e
  refine ⟨⟨_, hS, rfl⟩, PySem.F.args_list_init_2 _ _, init_rev (A := A.in1) (l := l) (items := items) hh hne (hl.at fun o e => Heap.get?_push_of_some _ e) (hit.at fun o e => Heap.get?_push_of_some _ e) (Nat.ne_of_gt hIl) (Nat.ne_of_gt hll) hS hn fun h' tk acc c hk hS' ha => ?_⟩
  exact ⟨rfl, hQ h' tk acc c (fun b o h3 e => hk b o (Nat.ne_of_lt (Heap.lt_size e)) h3 (Heap.get?_push_of_some _ e)) hS' ha⟩
end
theorem items_rev {its : List Value} {acc : Array Value} (h : ItemsOf (RevAt its.toArray) acc its.toArray.size) : acc.toList = its.reverse := by
  obtain ⟨h1, h2⟩ := h
  have hl : acc.toList.length = its.length := by rw [Array.length_toList, h1, List.size_toArray]
  refine List.ext_getElem? fun j => ?_
  by_cases hj : j < its.length
  · have e1 : acc.toList[j]? = some (acc.toList[j]'(by omega)) := List.getElem?_eq_getElem (by omega)
    have e2 := h2 j _ (by rw [← Array.getElem?_toList]; exact e1)
    rw [e1, List.getElem?_reverse hj, ← e2]
    simp
  · rw [List.getElem?_eq_none (by omega), List.getElem?_eq_none (by rw [List.length_reverse]; omega)]
def tListRev (K : PySem.W.Frag) (ta : TA) : TE := fun σ H Q => ta σ H fun vs H1 => ∃ a xs, vs = [.ref a] ∧ SqL K H1 a xs ∧ ∀ p, H1 p = none → Q (.ref p) (upd H1 p (.lst xs.reverse))
theorem pe_listRev {X : Cx} {e : Expr} {ta : TA} {p1 p2 pos1 pos2 : Pos} (hc : X.calm = true) (hg1 : Gl X "list") (hm1 : X.mg "list" = none) (hg2 : Gl X "reversed") (hm2 : X.mg "reversed" = none) (ha : PA X [e] ta)
    (hs1 : starEach [.Call (.Name "reversed" p2) [e] [] pos2] X.env = [(false, eval (.Call (.Name "reversed" p2) [e] [] pos2) X.env)] := by rfl) (hs2 : starEach [e] X.env = [(false, eval e X.env)] := by rfl) :
    PE X (.Call (.Name "list" p1) [.Call (.Name "reversed" p2) [e] [] pos2] [] pos1) (tListRev X.K ta) := by
  intro pins s σ H Q I h
  refine Call_ (ld_blt I hg1 hm1 boot_list (PyProof.Rows.callWith_type1 ?_ hs1 rfl))
  rw [hs1]
  show wpAny _ _ (spliced ((false, eval (.Call (.Name "reversed" p2) [e] [] pos2) X.env) :: backTo pos1 [])) _ _ s
  refine Calls.spliced_cons (Call_ (ld_blt I hg2 hm2 boot_reversed5 (PyProof.Rows.callWith_type1 (thn (ha pos2 pins s σ H _ I h) fun us s1 ⟨vs, H1, I1, r1, q1⟩ => ?_) hs2 rfl)))
  obtain ⟨a, xs, e1, hq, q⟩ := q1
  subst e1
  cases r1 with
  | cons r rr =>
    cases rr
    cases r
    obtain ⟨its, rv, p', hz⟩ := I1.list hq
    have hl := rv.length
    have hal : a < s1.heap.objs.size := by
      obtain ⟨o, eo, _⟩ := p'.isList
      exact Heap.lt_size eo
    refine call_reversed_list p'.isList (Calls.spliced_nil ?_)
    have hll : (s1.heap.push (revObj a ((its.toArray.size : Int) - 1))).IsList a its.toArray := p'.isList.at fun o e => Heap.get?_push_of_some _ e
    refine call_list_rev (l := a) (items := its.toArray) (I1.ok.hd hc) (Nat.ne_of_lt hal) hll ⟨_, Heap.get?_push_size _ rfl, rfl, rfl⟩ (by rw [List.size_toArray]; omega) fun h' tk acc c hk hS hi => ?_
    have e2 := items_rev hi
    have esz : (s1.heap.push (revObj a ((its.toArray.size : Int) - 1))).objs.size = s1.heap.objs.size + 1 := size_push' _ _
    refine ⟨.ref _, upd H1 (s1.heap.push (revObj a ((its.toArray.size : Int) - 1))).objs.size (.lst xs.reverse), I1.laid (t' := tk) (fun b o eo => hk b o (Nat.ne_of_lt (Heap.lt_size eo)) (Heap.get?_push_of_some _ eo)) (by rw [esz]; exact Nat.le_succ _)
      ⟨by rw [List.length_reverse]; exact hz, its.reverse, c, rv.reverse, ?_⟩, rfl, q _ (I1.hok.fresh (by rw [esz]; exact Nat.le_succ _))⟩
    rw [← e2, Array.toArray_toList]
    exact hS
/-! ### sorted(d), the keys ints -/
theorem ints_of : ∀ {vs : List Value} {ns : List Int}, vs.length = ns.length → (∀ (j : Nat) (v : Value) (n : Int), vs[j]? = some v → ns[j]? = some n → ∃ t, v = .int n t) → IntsAre vs ns
  | [], [], _, _ => IntsAre.nil
  | v :: r, n :: ns, hl, h => by
    obtain ⟨t, rfl⟩ := h 0 v n rfl rfl
    exact IntsAre.cons _ _ (ints_of (by simpa using hl) fun j v' n' e1 e2 => h (j + 1) v' n' (by simpa using e1) (by simpa using e2))
  | [], _ :: _, hl, _ => by simp at hl
  | _ :: _, [], hl, _ => by simp at hl
def rSortedD : List V → Hp → VK → Prop := fun vs H Q => ∃ (a : Addr) (kvs : List (Key × V)) (ns : List Int), vs = [V.ref a] ∧ H a = some (.dK kvs) ∧ kvs.map (·.1) = ns.map Sum.inl ∧ ns.length < 64 ∧
  ∀ (ns' : List Int) (p : Addr), ns'.Perm ns → ns'.Pairwise (· ≤ ·) → H p = none → Q (.ref p) (upd H p (.lst (ns'.map V.int)))
theorem cr_sortedD {X : Cx} (hc : X.calm = true) : CallR X (.builtin "sorted") rSortedD := by
  intro pins s σ H vs us Q I r h
  obtain ⟨a, kvs, ns, rfl, ha, hk, h64, q⟩ := h
  obtain ⟨z, hd, xs, kv, dd⟩ := dk_of I.hok ha
  obtain ⟨ep, hat⟩ := dd.dictAt
  have l1 : kvs.length = xs.length := Paired.length kv
  have l2 : kvs.length = ns.length := by
    have := congrArg List.length hk
    simpa using this
  have ek : ∀ (j : Nat) (k : Key) (x : Value) (n : Int), xs[j]? = some (k, x) → ns[j]? = some n → k = Sum.inl n := by
    intro j k x n e1 e2
    have e3 : (kvs.map (·.1))[j]? = some (Sum.inl n) := by rw [hk, List.getElem?_map, e2]; rfl
    rw [List.getElem?_map] at e3
    cases e4 : kvs[j]? with
    | none => rw [e4] at e3; cases e3
    | some p =>
      rw [e4] at e3
      have e5 : p.1 = Sum.inl n := Option.some.inj e3
      obtain ⟨y, e6, e7⟩ := paired_get kv e4
      rw [e1] at e6
      obtain rfl := Option.some.inj e6
      rw [← e5]
      exact e7.1.symm
  rw [Vals.ref1 r]
  refine Calls.call_function_entry kind_sorted plain_sorted entry_sorted (args_sorted1 _) ?_
  unfold Builtin.«sorted»
  refine wpAny_bind (m := checkCount "sorted" 1 1 _) (wpAny_pure ?_)
  refine wpAny_bind (PySem.W.kdu_collect (A := X.A.in1) (PySem.W.kdl_dict (knd := mixKind X.prog X.w) (kvs := xs) (ep := ep) hd) (I.ok.hd hc) hat (by rw [← l1]; exact z) fun h' tk acc hk' hacc => ?_)
  have hl : acc.toList.length = ns.length := by rw [Array.length_toList, hacc.1]; omega
  have hI : IntsAre acc.toList ns := ints_of hl fun j v n e1 e2 => by
    obtain ⟨k, x, e3, e4⟩ := hacc.2 j v (by rw [← Array.getElem?_toList]; exact e1)
    obtain rfl := ek j k x n e3 e2
    rcases keyIs_shape (show keyIs (Sum.inl n) v = true from e4) with ⟨i, t, e5, e6⟩ | ⟨i, t, e5, e6⟩
    · cases e5
      exact ⟨t, e6⟩
    · cases e5
  refine wpAny_bind (wpAny_newList ?_ (by rw [hl]; exact small64 h64))
  have hoL : (h'.push (seqObj "list" acc.toList.toArray 0)).get? h'.objs.size = some (seqObj "list" acc.toList.toArray 0) := Heap.get?_push_size _ rfl
  refine wpAny_bind (wpAny_holding (wpAny_call_entry slot_list_sort ⟨_, hoL, rfl⟩ entry_list_sort (list_sort_tree hoL hI (by rw [hl]; exact h64) fun out ns' a1 a2 a3 => ⟨_, rfl, ?_⟩) (args_list_sort _)))
  refine wpAny_pure ⟨_, rfl, ?_⟩
  obtain ⟨ee, he⟩ := sortedHeap_at (vs := acc.toList) (out := out) hoL
  have I1 : L2.Inv X pins σ H { s with heap := h', toks := tk } := I.kept hk'
  refine ⟨.ref _, upd H h'.objs.size (.lst (ns'.map V.int)), I1.laid (t' := tk) (fun b o e => ?_) (Nat.le_refl _) ⟨by rw [List.length_map, a2.length_eq]; exact small64 h64, out.toList, ee, vals_of_ints a1, he⟩, rfl, q ns' _ a2 a3 (I1.hok.fresh (Nat.le_refl _))⟩
  have hlt : b < h'.objs.size := Heap.lt_size e
  rw [sortedHeap_old (Nat.ne_of_lt hlt) (by rw [size_push']; exact Nat.lt_succ_of_lt hlt)]
  exact Heap.get?_push_of_some _ e
/-! ### a comprehension over enumerate(xs) -/
theorem lc_enum {K : PySem.W.Frag} {a : Addr} {xs : List V} {g : TG} {tt : TT} {te : TE} {vs : List Nat} {σ : L2.St} {H1 : Hp} {D : Addr} {Qd : Hp → Prop} (Pv : Nat → Hp → Prop) (h0 : Pv 0 (upd H1 D (.lst [])))
    (hl : ∀ i H, i ≤ xs.length → Pv i H → SqL K H a xs)
    (hs : ∀ i x T H, xs[i]? = some x → Pv i H → H T = none → g (.ref T) (wipe σ vs) (upd H T (.tup [.int (i : Nat), x])) fun σ2 H2 => wipe σ2 vs = wipe σ vs ∧ tt σ2 H2 fun b H3 =>
      if b = true then te σ2 H3 fun y H4 => ∃ acc, H4 D = some (.lst acc) ∧ acc.length < sizeLine ∧ Pv (i + 1) (upd H4 D (.lst (acc ++ [y]))) else Pv (i + 1) H3) (hd : ∀ H, Pv xs.length H → Qd H) :
    ∃ W : Nat → Nat → Hp → Prop, (∃ m, W 0 m (upd H1 D (.lst []))) ∧ ∀ i m H, W i m H →
      ((Ite K a).stop i H ∧ Qd H) ∨ ((Ite K a).go i H ∧ ∃ Nx : Hp → Prop, (∀ H', Nx H' → ∃ m', m' < m ∧ W (i + 1) m' H') ∧ ∀ x H', (Ite K a).yld i H x H' → g x (wipe σ vs) H' fun σ2 H2 => wipe σ2 vs = wipe σ vs ∧ tt σ2 H2 fun b H3 =>
        if b = true then te σ2 H3 fun y H4 => ∃ acc, H4 D = some (.lst acc) ∧ acc.length < sizeLine ∧ Nx (upd H4 D (.lst (acc ++ [y]))) else Nx H3) := by
  refine ⟨fun i m H => m = xs.length - i ∧ i ≤ xs.length ∧ Pv i H, ⟨xs.length, by simp, Nat.zero_le _, h0⟩, ?_⟩
  rintro i m H ⟨rfl, hi, p⟩
  have q := hl i H hi p
  by_cases hlt : i < xs.length
  · refine .inr ⟨⟨xs, xs[i], q, by simp [hlt]⟩, Pv (i + 1), fun H' p' => ⟨xs.length - (i + 1), by omega, rfl, hlt, p'⟩, fun x H' y => ?_⟩
    obtain ⟨T, z, ex, hT, eH, hz⟩ := y
    subst ex eH
    exact hs i z T H (hz xs q) p hT
  · have e : i = xs.length := by omega
    subst e
    exact .inl ⟨⟨xs, q, Nat.le_refl _⟩, hd H p⟩
theorem pg_tupK {X : Cx} {K : PySem.W.Frag} {es : List Expr} {k : Nat} {t : TGs} {n : Nat} {pos : Pos} (hc : X.calm = true) (h : PGs X es t) (hK : X.K = K) (hn : (assignEach es X.env).length = n) (hst : (assignEach es X.env).findIdx? (·.1) = none) :
    PG X (.Tuple es k pos) (gTup K n t) := by
  subst hK
  exact pg_tup hc h hn hst
theorem ix_listK {X : Cx} {K : PySem.W.Frag} (hK : X.K = K := by rfl) : IxR X (rIxL K) := by
  subst hK
  exact ix_list
end SL
set_option Elab.async false
set_option linter.all false
set_option maxRecDepth 100000
set_option maxHeartbeats 4000000
namespace SL
open PySem PySem.Spec PyProof.Rows L2
/-! ### the text by places: hexagrams -/
abbrev sLof : Stmt := top 5
abbrev sHof : Stmt := top 6
abbrev sUp : Stmt := top 7
abbrev sOpp : Stmt := top 8
abbrev sExc : Stmt := top 9
abbrev sCore : Stmt := top 10
abbrev sPart : Stmt := top 11
abbrev sFam : Stmt := top 12
abbrev sCrs : Stmt := top 13
abbrev sFwp : Stmt := top 14
structure TxH (K : PySem.W.Frag) (mg : Str → Option Value) : Prop where
  sum : mg "sum" = none
  lst : mg "list" = none
  rev : mg "reversed" = none
  srt : mg "sorted" = none
  half : ConI mg "LINES_OF_A_HALF" 3
  hex : ConI mg "LAST_HEXAGRAM" 63
  places : ConT K mg "PLACES_OF_THE_CORE" [.int 1, .int 2, .int 3, .int 2, .int 3, .int 4]
/-- a number of a number alone; new things may be laid -/
def spNum (f : Nat → Nat) : Sp := fun vs H Q _ => ∃ h : Nat, vs = [.int h] ∧ h ≤ 63 ∧ ∀ H' : Hp, Same H H' → Q (.int (f h : Nat)) H'
def spLof : Sp := fun vs H Q _ => ∃ h : Nat, vs = [.int h] ∧ ∀ (H' : Hp) (p : Addr), H p = none → H' p = some (.lst (nV (Uw67.linesOf h))) → Same H H' → Q (.ref p) H'
def spHof (K : PySem.W.Frag) : Sp := fun vs H Q _ => ∃ (a : Addr) (ls : List Nat), vs = [.ref a] ∧ SqL K H a (nV ls) ∧ ls.length ≤ 6 ∧ (∀ x ∈ ls, x ≤ 1) ∧ ∀ H' : Hp, Same H H' → Q (.int (Uw67.ofLines ls : Nat)) H'
theorem nV_snoc (l : List Nat) (x : Nat) : nV (l ++ [x]) = nV l ++ [.int (x : Nat)] := by
  unfold nV
  rw [List.map_append]
  rfl
theorem linesOf_at {h i : Nat} (hi : i < 6) : (Uw67.linesOf h)[i]? = some (Uw67.bit h i) := by
  unfold Uw67.linesOf
  rw [List.getElem?_map, List.getElem?_range hi]
  rfl
theorem linesOf_len (h : Nat) : (Uw67.linesOf h).length = 6 := by
  unfold Uw67.linesOf
  rw [List.length_map, List.length_range]
theorem bit_le (h i : Nat) : Uw67.bit h i ≤ 1 := by
  unfold Uw67.bit
  omega
theorem linesOf_le {h x : Nat} (hx : x ∈ Uw67.linesOf h) : x ≤ 1 := by
  obtain ⟨i, _, rfl⟩ := List.mem_map.mp hx
  exact bit_le h i
theorem take_snoc {α : Type} {l : List α} {i : Nat} {x : α} (h : l[i]? = some x) : l.take (i + 1) = l.take i ++ [x] := by
  rw [List.take_add_one, h]
  rfl
theorem opp_lines : ∀ h, h ≤ 63 → Uw67.ofLines ((Uw67.linesOf h).map (1 - ·)) = Uw67.opposite h := by
  have q : ∀ h, h < 64 → Uw67.ofLines ((Uw67.linesOf h).map (1 - ·)) = Uw67.opposite h := by decide +kernel
  exact fun h hh => q h (by omega)
theorem exc_lines : ∀ h, h ≤ 63 → Uw67.ofLines ((Uw67.linesOf h).drop 3 ++ (Uw67.linesOf h).take 3) = Uw67.exchanged h := by
  have q : ∀ h, h < 64 → Uw67.ofLines ((Uw67.linesOf h).drop 3 ++ (Uw67.linesOf h).take 3) = Uw67.exchanged h := by decide +kernel
  exact fun h hh => q h (by omega)
theorem cutV_to (xs : List V) (b : Nat) (h : b ≤ xs.length) : cutV xs none (some (b : Int)) = xs.take b := by
  unfold cutV
  rw [HT.sIx_nat, HT.sIx_none, show min b xs.length = b by omega]
  rfl
theorem cutV_frm (xs : List V) (a : Nat) (h : a ≤ xs.length) : cutV xs (some (a : Int)) none = xs.drop a := by
  unfold cutV
  rw [HT.sIx_nat, HT.sIx_none, show min a xs.length = a by omega, List.take_of_length_le (by rw [List.length_drop]; exact Nat.le_refl _)]
section
variable {P : Program} {w : World} {K : PySem.W.Frag} {mg : Str → Option Value} {base : Heap}
theorem scLof : FnScope ["hexagram", "place"] ["hexagram"] (defScope sLof) := ⟨rfl, rfl, rfl, by decide +kernel, rfl, by decide +kernel, by decide +kernel⟩
theorem ok_lof {f : Addr} {fd : FuncData} (F : Fun K "lines_of" "lines_of" sLof f fd) (T : Txt K mg) : FnOk P w K mg base CX0 1 f fd ["hexagram"] spLof := by
  refine F.ok scLof (fun vs H Q E h => ?_) (fun cdv A outer s H vs Q E hr h => ?_)
  · obtain ⟨h, rfl, _⟩ := h; rfl
  · obtain ⟨h, rfl, k⟩ := h
    refine ⟨_, pss_one (ps_ret (pe_lc (own := [("place", 1)]) rfl scLof.nd (pi_range1 rfl T.range (pa_cons (pe_ciK T.lns) pa_nil)) (blkOk_by (N := ["hexagram", "place"]) (sc := defScope sLof) (by decide +kernel))
      (fun s H C cl fp => pg_name (i := 1) scLof.nd rfl (Or.inl rfl)) (fun s H C cl fp => pts_nil) (fun s H C cl fp => pe_op (opE op_and) (pe_op op_shr (pv 0) (pv 1)) pe_int))), ?_⟩
    refine ⟨6, rfl, by decide, by decide, fun D hD => lc_range (lo := 0) (n := 6) (fun i H' => H' D = some (.lst (nV ((Uw67.linesOf h).take i))) ∧ Same H H') ⟨upd_same, Same.new hD⟩ ?_ ?_⟩
    · rintro i H' hi ⟨hl, s5⟩
      rw [show (0 : Int) + (i : Int) = ((i : Nat) : Int) by omega]
      have hi0 : (0 : Int) ≤ (i : Int) := by omega
      refine ⟨rfl, _, rfl, _, rfl, _, _, rfl, rfl, hi0, _, _, _, rfl, rfl, bit_int h i, _, hl, ?_, ?_, Same.upd s5 hD⟩
      · rw [nV_length]
        exact Nat.lt_of_le_of_lt (Nat.le_trans (List.length_take_le ..) (Nat.le_of_lt hi)) (by decide)
      · rw [upd_same, take_snoc (linesOf_at hi), nV_snoc]
    · rintro H' ⟨hl, s5⟩
      rw [List.take_of_length_le (by rw [linesOf_len]; exact Nat.le_refl _)] at hl
      exact k H' D hD hl s5
theorem scHof : FnScope ["lines", "place", "line"] ["lines"] (defScope sHof) := ⟨rfl, rfl, rfl, by decide +kernel, rfl, by decide +kernel, by decide +kernel⟩
theorem ok_hof {f : Addr} {fd : FuncData} (F : Fun K "hexagram_of" "hexagram_of" sHof f fd) (T : Txt K mg) (TH : TxH K mg) : FnOk P w K mg base CX0 1 f fd ["lines"] (spHof K) := by
  refine F.ok scHof (fun vs H Q E h => ?_) (fun cdv A outer s H vs Q E hr h => ?_)
  · obtain ⟨a, ls, rfl, _⟩ := h; rfl
  · obtain ⟨a, ls, rfl, hS, h6, h1, k⟩ := h
    refine ⟨_, pss_one (ps_ret (pe_callB (cr_sum rfl) rfl TH.sum boot_sum (pa_cons (pe_lc (own := [("place", 1), ("line", 2)]) rfl scHof.nd (pi_enum rfl T.enum (pa_cons (pv 0) pa_nil)) (blkOk_by (N := ["lines", "place", "line"]) (sc := defScope sHof) (by decide +kernel))
      (fun s H C cl fp => pg_tupK (K := K) (n := 2) rfl (pgs_cons (pg_name (i := 1) scHof.nd rfl (Or.inl rfl) (Or.inr rfl)) (pgs_cons (pg_name (i := 2) scHof.nd rfl (Or.inl rfl) (Or.inr rfl)) pgs_nil rfl) rfl) rfl rfl rfl) (fun s H C cl fp => pts_nil) (fun s H C cl fp => pe_op (opEC op_shl) (pv 2) (pv 1))) pa_nil))), ?_⟩
    refine ⟨_, rfl, a, _, rfl, hS, fun D hD => lc_enum (K := K) (a := a) (xs := nV ls) (fun i H' => ∃ zs : List Int, H' D = some (.lst (zs.map V.int)) ∧ zs.length = i ∧ zs.sum = ((Uw67.ofLines (ls.take i) : Nat) : Int) ∧ Same H H')
      ⟨[], upd_same, rfl, rfl, Same.new hD⟩ (fun i H' _ ⟨_, _, _, _, s5⟩ => s5.seq hS) ?_ ?_⟩
    · rintro i y T' H' hi ⟨zs, hl, zl, zsum, s5⟩ hT'
      obtain ⟨b, hb, rfl⟩ := nV_get hi
      have hil : i < ls.length := (List.getElem?_eq_some_iff.mp hb).1
      have hb1 : b ≤ 1 := h1 b (List.mem_of_getElem? hb)
      have s6 : Same H' (L2.upd H' T' (.tup [.int (i : Nat), .int (b : Nat)])) := Same.new hT'
      have nTD : D ≠ T' := ne_of_none hl hT'
      refine ⟨T', _, rfl, SqT.of upd_same, rfl, _, _, rfl, _, _, rfl, rfl, rfl, _, rfl, _, rfl, _, _, ((b * 2 ^ i : Nat) : Int), rfl, rfl, ⟨by omega, by omega, ?_⟩, ?_, _, s6 _ _ hl, ?_, zs ++ [((b * 2 ^ i : Nat) : Int)], ?_, ?_, ?_, Same.upd (s5.trans s6) hD⟩
      · rw [Int.natAbs_natCast]
        exact Nat.lt_of_le_of_lt hb1 (by decide)
      · dsimp only
        rw [Int.toNat_natCast, Int.natCast_mul]
        simp
      · rw [List.length_map, zl]
        exact Nat.lt_of_lt_of_le hil (Nat.le_trans h6 (by decide))
      · rw [upd_same, List.map_append]
        rfl
      · rw [List.length_append, zl]
        rfl
      · rw [List.sum_append, zsum, take_snoc hb, ofLines_snoc, List.length_take, show min i ls.length = i by omega]
        simp
    · rintro H' ⟨zs, hl, zl, zsum, s5⟩
      rw [nV_length, List.take_length] at zsum
      refine ⟨D, zs, rfl, SqL.of hl, ?_⟩
      rw [zsum]
      exact k H' s5
theorem scUp : FnScope ["hexagram"] ["hexagram"] (defScope sUp) := ⟨rfl, rfl, rfl, by decide +kernel, rfl, by decide +kernel, by decide +kernel⟩
theorem ok_up {f : Addr} {fd : FuncData} (F : Fun K "upside_down" "upside_down" sUp f fd) (TH : TxH K mg) (GL : GF P w K mg base 1 "lines_of" ["hexagram"] spLof) (GH : GF P w K mg base 1 "hexagram_of" ["lines"] (spHof K)) :
    FnOk P w K mg base CX0 2 f fd ["hexagram"] (spNum Uw67.upside) := by
  refine F.ok scUp (fun vs H Q E h => ?_) (fun cdv A outer s H vs Q E hr h => ?_)
  · obtain ⟨h, rfl, _⟩ := h; rfl
  · obtain ⟨h, rfl, h63, k⟩ := h
    refine ⟨_, pss_one (ps_ret (pe_gf GH hr rfl (pa_cons (pe_listRev rfl rfl TH.lst rfl TH.rev (pa_cons (pe_gf GL hr rfl (pa_cons (pv 0) pa_nil)) pa_nil)) pa_nil))), ?_⟩
    refine ⟨_, rfl, h, rfl, fun H1 p hp hq s1 => ⟨p, _, rfl, SqL.of hq, fun p2 hp2 => ⟨p2, (Uw67.linesOf h).reverse, rfl, SqL.of ?_, ?_, ?_, fun H2 s2 => ?_⟩⟩⟩
    · rw [upd_same]
      unfold nV
      rw [List.map_reverse]
    · rw [List.length_reverse, linesOf_len]
      exact Nat.le_refl _
    · exact fun x hx => linesOf_le (List.mem_reverse.mp hx)
    · exact k H2 ((s1.trans (Same.new hp2)).trans s2)
theorem scOpp : FnScope ["hexagram", "line"] ["hexagram"] (defScope sOpp) := ⟨rfl, rfl, rfl, by decide +kernel, rfl, by decide +kernel, by decide +kernel⟩
theorem ok_opp {f : Addr} {fd : FuncData} (F : Fun K "opposite" "opposite" sOpp f fd) (GL : GF P w K mg base 1 "lines_of" ["hexagram"] spLof) (GH : GF P w K mg base 1 "hexagram_of" ["lines"] (spHof K)) :
    FnOk P w K mg base CX0 2 f fd ["hexagram"] (spNum Uw67.opposite) := by
  refine F.ok scOpp (fun vs H Q E h => ?_) (fun cdv A outer s H vs Q E hr h => ?_)
  · obtain ⟨h, rfl, _⟩ := h; rfl
  · obtain ⟨h, rfl, h63, k⟩ := h
    refine ⟨_, pss_one (ps_ret (pe_gf GH hr rfl (pa_cons (pe_lc (own := [("line", 1)]) rfl scOpp.nd (pi_list (pe_gf GL hr rfl (pa_cons (pv 0) pa_nil))) (blkOk_by (N := ["hexagram", "line"]) (sc := defScope sOpp) (by decide +kernel))
      (fun s H C cl fp => pg_name (i := 1) scOpp.nd rfl (Or.inl rfl)) (fun s H C cl fp => pts_nil) (fun s H C cl fp => pe_op (opE op_sub) pe_int (pv 1))) pa_nil))), ?_⟩
    refine ⟨_, rfl, h, rfl, fun H1 p hp hq s1 => ⟨p, rfl, ⟨_, SqL.of hq⟩, fun D hD => lc_list (K := K) (a := p) (xs := nV (Uw67.linesOf h)) (fun i H' => H' D = some (.lst (nV (((Uw67.linesOf h).map (1 - ·)).take i))) ∧ Same H1 H') ⟨upd_same, Same.new hD⟩ (fun i H' _ ⟨_, s5⟩ => SqL.of (s5 _ _ hq)) ?_ ?_⟩⟩
    · rintro i y H' hi ⟨hl, s5⟩
      obtain ⟨b, hb, rfl⟩ := nV_get hi
      have hil : i < (Uw67.linesOf h).length := (List.getElem?_eq_some_iff.mp hb).1
      have hb1 : b ≤ 1 := linesOf_le (List.mem_of_getElem? hb)
      have hm : ((Uw67.linesOf h).map (1 - ·))[i]? = some (1 - b) := by rw [List.getElem?_map, hb]; rfl
      rw [linesOf_len] at hil
      refine ⟨rfl, _, rfl, _, _, ((1 - b : Nat) : Int), rfl, rfl, by omega, _, hl, ?_, ?_, Same.upd s5 hD⟩
      · rw [nV_length]
        exact Nat.lt_of_le_of_lt (Nat.le_trans (List.length_take_le ..) (Nat.le_of_lt hil)) (by decide)
      · rw [upd_same, take_snoc hm, nV_snoc]
    · rintro H' ⟨hl, s5⟩
      rw [nV_length, List.take_of_length_le (by rw [List.length_map]; exact Nat.le_refl _)] at hl
      refine ⟨D, _, rfl, SqL.of hl, ?_, ?_, fun H2 s2 => ?_⟩
      · rw [List.length_map, linesOf_len]
        exact Nat.le_refl _
      · intro x hx
        obtain ⟨y, _, rfl⟩ := List.mem_map.mp hx
        show 1 - y ≤ 1
        omega
      · rw [opp_lines h h63]
        exact k H2 ((s1.trans s5).trans s2)
theorem scExc : FnScope ["hexagram", "lines"] ["hexagram"] (defScope sExc) := ⟨rfl, rfl, rfl, by decide +kernel, rfl, by decide +kernel, by decide +kernel⟩
theorem ok_exc {f : Addr} {fd : FuncData} (F : Fun K "exchanged" "exchanged" sExc f fd) (TH : TxH K mg) (GL : GF P w K mg base 1 "lines_of" ["hexagram"] spLof) (GH : GF P w K mg base 1 "hexagram_of" ["lines"] (spHof K)) :
    FnOk P w K mg base CX0 2 f fd ["hexagram"] (spNum Uw67.exchanged) := by
  refine F.ok scExc (fun vs H Q E h => ?_) (fun cdv A outer s H vs Q E hr h => ?_)
  · obtain ⟨h, rfl, _⟩ := h; rfl
  · obtain ⟨h, rfl, h63, k⟩ := h
    refine ⟨_, (pss_cons (ps_set (i := 1) scExc.nd rfl (Or.inl rfl) (pe_gf GL hr rfl (pa_cons (pv 0) pa_nil))) <|
      pss_one (ps_ret (pe_gf GH hr rfl (pa_cons (pe_op op_cat (pe_slice sl_list (pv 1) (po_some (pe_ciK TH.half)) po_none) (pe_slice sl_list (pv 1) po_none (po_some (pe_ciK TH.half)))) pa_nil)))), ?_⟩
    refine ⟨_, rfl, h, rfl, fun H1 p hp hq s1 => ?_⟩
    have hlen : (nV (Uw67.linesOf h)).length = 6 := by rw [nV_length, linesOf_len]
    refine ⟨_, rfl, 3, rfl, p, _, rfl, SqL.of hq, fun p2 hp2 => ?_⟩
    have s2 : Same H1 (L2.upd H1 p2 (.lst (cutV (nV (Uw67.linesOf h)) (some 3) none))) := Same.new hp2
    refine ⟨_, rfl, 3, rfl, p, _, rfl, SqL.of (s2 _ _ hq), fun p3 hp3 => ?_⟩
    have s3 := s2.trans (Same.new (o := .lst (cutV (nV (Uw67.linesOf h)) none (some 3))) hp3)
    have e1 : cutV (nV (Uw67.linesOf h)) (some 3) none = nV ((Uw67.linesOf h).drop 3) := by
      rw [show (3 : Int) = ((3 : Nat) : Int) from rfl, cutV_frm _ 3 (by omega)]
      unfold nV
      rw [List.map_drop]
    have e2 : cutV (nV (Uw67.linesOf h)) none (some 3) = nV ((Uw67.linesOf h).take 3) := by
      rw [show (3 : Int) = ((3 : Nat) : Int) from rfl, cutV_to _ 3 (by omega)]
      unfold nV
      rw [List.map_take]
    refine ⟨p2, p3, _, _, rfl, rfl, (Same.new hp3) _ _ upd_same, upd_same, ?_, fun p4 hp4 => ?_⟩
    · rw [e1, e2, nV_length, nV_length, List.length_drop, List.length_take, linesOf_len]
      decide
    · refine ⟨p4, (Uw67.linesOf h).drop 3 ++ (Uw67.linesOf h).take 3, rfl, SqL.of ?_, ?_, ?_, fun H5 s5 => ?_⟩
      · rw [upd_same, e1, e2]
        unfold nV
        rw [List.map_append]
      · rw [List.length_append, List.length_drop, List.length_take, linesOf_len]
        decide
      · intro x hx
        rcases List.mem_append.mp hx with z | z
        · exact linesOf_le (List.mem_of_mem_drop z)
        · exact linesOf_le (List.mem_of_mem_take z)
      · rw [exc_lines h h63]
        exact k H5 (((s1.trans s3).trans (Same.new hp4)).trans s5)
theorem scCore : FnScope ["hexagram", "lines", "place"] ["hexagram"] (defScope sCore) := ⟨rfl, rfl, rfl, by decide +kernel, rfl, by decide +kernel, by decide +kernel⟩
theorem ok_core {f : Addr} {fd : FuncData} (F : Fun K "core" "core" sCore f fd) (TH : TxH K mg) (GL : GF P w K mg base 1 "lines_of" ["hexagram"] spLof) (GH : GF P w K mg base 1 "hexagram_of" ["lines"] (spHof K)) :
    FnOk P w K mg base CX0 2 f fd ["hexagram"] (spNum Uw67.core) := by
  refine F.ok scCore (fun vs H Q E h => ?_) (fun cdv A outer s H vs Q E hr h => ?_)
  · obtain ⟨h, rfl, _⟩ := h; rfl
  · obtain ⟨h, rfl, h63, k⟩ := h
    refine ⟨_, (pss_cons (ps_set (i := 1) scCore.nd rfl (Or.inr rfl) (pe_gf GL hr rfl (pa_cons (pv 0) pa_nil))) <|
      pss_one (ps_ret (pe_gf GH hr rfl (pa_cons (pe_lc (own := [("place", 2)]) rfl scCore.nd (pi_tup (pe_ctK TH.places)) (blkOk_by (N := ["hexagram", "lines", "place"]) (sc := defScope sCore) (by decide +kernel))
        (fun s H C cl fp => pg_name (i := 2) scCore.nd rfl (Or.inl rfl)) (fun s H C cl fp => pts_nil) (fun s H C cl fp => pe_ix (ix_listK (K := K)) (pv 1) (pv 2) (fun _ _ => rfl))) pa_nil)))), ?_⟩
    refine ⟨_, rfl, h, rfl, fun H1 p hp hq s1 => ?_⟩
    refine fun at_ hat => ⟨at_, rfl, ⟨_, hat _⟩, fun D hD => lc_tup (K := K) (a := at_) (xs := nV [1, 2, 3, 2, 3, 4]) (fun i H' => H' D = some (.lst (nV (([1, 2, 3, 2, 3, 4].map (Uw67.bit h)).take i))) ∧ Same H1 H') ⟨upd_same, Same.new hD⟩ (fun i H' _ _ => hat H') ?_ ?_⟩
    · rintro i y H' hi ⟨hl, s5⟩
      obtain ⟨b, hb, rfl⟩ := nV_get hi
      have hil : i < 6 := (List.getElem?_eq_some_iff.mp hb).1
      have hb4 : b < 6 := by
        have := List.mem_of_getElem? hb
        have z : ∀ x ∈ [1, 2, 3, 2, 3, 4], x < 6 := by decide
        exact z b this
      have hm : ([1, 2, 3, 2, 3, 4].map (Uw67.bit h))[i]? = some (Uw67.bit h b) := by rw [List.getElem?_map, hb]; rfl
      have hat2 : atI (nV (Uw67.linesOf h)) ((b : Nat) : Int) = some (.int (Uw67.bit h b : Nat)) := atI_nat (by
        unfold nV
        rw [List.getElem?_map, linesOf_at hb4]
        rfl)
      refine ⟨rfl, _, rfl, _, rfl, p, _, _, _, rfl, rfl, SqL.of (s5 _ _ hq), hat2, _, hl, ?_, ?_, Same.upd s5 hD⟩
      · rw [nV_length]
        exact Nat.lt_of_le_of_lt (Nat.le_trans (List.length_take_le ..) (Nat.le_of_lt hil)) (by decide)
      · rw [upd_same, take_snoc hm, nV_snoc]
    · rintro H' ⟨hl, s5⟩
      refine ⟨D, [1, 2, 3, 2, 3, 4].map (Uw67.bit h), rfl, SqL.of hl, (by show 6 ≤ 6; decide), ?_, fun H2 s2 => ?_⟩
      · intro x hx
        obtain ⟨y, _, rfl⟩ := List.mem_map.mp hx
        exact bit_le h y
      · exact k H2 ((s1.trans s5).trans s2)
theorem scPart : FnScope ["hexagram", "turned"] ["hexagram"] (defScope sPart) := ⟨rfl, rfl, rfl, by decide +kernel, rfl, by decide +kernel, by decide +kernel⟩
theorem ok_part {f : Addr} {fd : FuncData} (F : Fun K "partner" "partner" sPart f fd) (GU : GF P w K mg base 2 "upside_down" ["hexagram"] (spNum Uw67.upside)) (GO : GF P w K mg base 2 "opposite" ["hexagram"] (spNum Uw67.opposite)) :
    FnOk P w K mg base CX0 3 f fd ["hexagram"] (spNum Uw67.partner) := by
  refine F.ok scPart (fun vs H Q E h => ?_) (fun cdv A outer s H vs Q E hr h => ?_)
  · obtain ⟨h, rfl, _⟩ := h; rfl
  · obtain ⟨h, rfl, h63, k⟩ := h
    refine ⟨_, (pss_cons (ps_set (i := 1) scPart.nd rfl (Or.inl rfl) (pe_gf GU hr rfl (pa_cons (pv 0) pa_nil))) <|
      pss_one (ps_ret (pe_ifExp (pt_cmpR op_eq (pv 1) (pv 0) (nomark _)) (pe_gf GO hr rfl (pa_cons (pv 0) pa_nil)) (pv 1)))), ?_⟩
    refine ⟨_, rfl, h, rfl, h63, fun H1 s1 => ?_⟩
    unfold Uw67.partner at k
    refine ⟨_, rfl, _, rfl, rfl, _, rfl, ite2 (fun z => ?_) (fun z => ?_)⟩
    · have z' : V.int (Uw67.upside h : Nat) = V.int (h : Nat) := of_decide_eq_true z
      injection z' with z'
      have z2 : Uw67.upside h = h := by omega
      refine ⟨_, rfl, h, rfl, h63, fun H2 s2 => ?_⟩
      rw [if_pos z2] at k
      exact k H2 (s1.trans s2)
    · have z2 : ¬ Uw67.upside h = h := fun q => z (decide_eq_true (by rw [q]))
      rw [if_neg z2] at k
      exact ⟨_, rfl, k H1 s1⟩
end
end SL
set_option Elab.async false
set_option linter.all false
set_option maxRecDepth 100000
set_option maxHeartbeats 4000000
namespace SL
open PySem PySem.Spec PyProof.Rows L2
/-! ### a dict that holds True under numbers -/
def famD (ms : List Nat) : List (Key × V) := ms.map fun m => (kN m, V.bl true)
theorem famD_len (ms : List Nat) : (famD ms).length = ms.length := List.length_map ..
theorem famD_val (r : Nat) : ∀ ms : List Nat, (valV (famD ms) (kN r)).isSome = ms.contains r
  | [] => rfl
  | m :: ms => by
    have ih := famD_val r ms
    show (valV ((kN m, V.bl true) :: famD ms) (kN r)).isSome = _
    by_cases e : m = r
    · rw [valV_pos (by rw [e]), e]
      simp
    · rw [valV_neg fun z => e (kN_inj _ _ z), ih]
      simp [List.contains_cons, Ne.symm e, fun z : r = m => e z.symm]
theorem famD_put {ms : List Nat} {r : Nat} (h : ms.contains r = false) : putK (famD ms) (kN r) (.bl true) = famD (ms ++ [r]) := by
  have e : valV (famD ms) (kN r) = none := by
    have q := famD_val r ms
    rw [h] at q
    cases c : valV (famD ms) (kN r) with
    | none => rfl
    | some v => rw [c] at q; cases q
  rw [putK_new _ e]
  unfold famD
  rw [List.map_append]
  rfl
theorem inV_nV (r : Nat) (l : List Nat) : inV (.int (r : Nat)) (nV l) = l.contains r := by
  unfold inV nV
  rw [List.any_map]
  induction l with
  | nil => rfl
  | cons x l ih =>
    rw [List.any_cons, List.contains_cons, ih]
    congr 1
    show ((x : Int) == (r : Int)) = (r == x)
    by_cases e : r = x
    · rw [e]; simp
    · rw [beq_eq_false_iff_ne.mpr e]
      exact beq_eq_false_iff_ne.mpr (by omega)
theorem flat_nV : ∀ l : List Nat, (nV l).all flatV = true
  | [] => rfl
  | x :: l => by
    show (flatV (.int (x : Nat)) && (nV l).all flatV) = true
    rw [flat_nV l]
    rfl
/-! ### family_of -/
def famPut (p : List Nat × List Nat) (r : Nat) : List Nat × List Nat := if p.1.contains r = true then p else (p.1 ++ [r], p.2 ++ [r])
def turns (m : Nat) : List Nat := [Uw67.upside m, Uw67.opposite m, Uw67.exchanged m]
def famStep (p : List Nat × List Nat) : List Nat × List Nat := (turns (p.2.getLastD 0)).foldl famPut (p.1, p.2.dropLast)
def famRun (h : Nat) : Nat → List Nat × List Nat
  | 0 => ([h], [h])
  | k + 1 => famStep (famRun h k)
def famN (h : Nat) : Nat := (Uw67.family h).length
def famOk (h : Nat) : Bool :=
  ((List.range (famN h)).all fun k => !(famRun h k).2.isEmpty && (decide ((famRun h k).2.getLastD 0 ≤ 63) && (decide ((famRun h k).1.length ≤ 50) && decide ((famRun h k).2.length ≤ 50)))) &&
  ((famRun h (famN h)).2.isEmpty && (decide ((famRun h (famN h)).1.length < 64) && ((famRun h (famN h)).1.isPerm (Uw67.family h) && decide ((Uw67.family h).Pairwise (· ≤ ·)))))
theorem fam_ok : ∀ h, h < 64 → famOk h = true := by decide +kernel
theorem fam_facts {h : Nat} (hh : h ≤ 63) : (∀ k, k < famN h → (famRun h k).2 ≠ [] ∧ (famRun h k).2.getLastD 0 ≤ 63 ∧ (famRun h k).1.length ≤ 50 ∧ (famRun h k).2.length ≤ 50) ∧ (famRun h (famN h)).2 = [] ∧ (famRun h (famN h)).1.length < 64 ∧
    (famRun h (famN h)).1.Perm (Uw67.family h) ∧ (Uw67.family h).Pairwise (· ≤ ·) := by
  have q := fam_ok h (by omega)
  unfold famOk at q
  rw [Bool.and_eq_true, Bool.and_eq_true, Bool.and_eq_true, Bool.and_eq_true] at q
  obtain ⟨q1, q2, q3, q4, q5⟩ := q
  refine ⟨fun k hk => ?_, List.isEmpty_iff.mp q2, of_decide_eq_true q3, List.isPerm_iff.mp q4, of_decide_eq_true q5⟩
  have z := List.all_eq_true.mp q1 k (List.mem_range.mpr hk)
  rw [Bool.and_eq_true, Bool.and_eq_true, Bool.and_eq_true] at z
  obtain ⟨z1, z2, z3, z4⟩ := z
  refine ⟨fun e => ?_, of_decide_eq_true z2, of_decide_eq_true z3, of_decide_eq_true z4⟩
  rw [e] at z1
  cases z1
theorem famPut_len (p : List Nat × List Nat) (r : Nat) : (famPut p r).1.length ≤ p.1.length + 1 ∧ (famPut p r).2.length ≤ p.2.length + 1 := by
  unfold famPut
  split
  · omega
  · simp
theorem famFold_len : ∀ (l : List Nat) (p : List Nat × List Nat), (l.foldl famPut p).1.length ≤ p.1.length + l.length ∧ (l.foldl famPut p).2.length ≤ p.2.length + l.length
  | [], p => by simp
  | r :: l, p => by
    have a := famPut_len p r
    have b := famFold_len l (famPut p r)
    simp only [List.foldl_cons, List.length_cons]
    omega
def spFam : Sp := fun vs H Q _ => ∃ h : Nat, vs = [.int h] ∧ h ≤ 63 ∧ ∀ (H' : Hp) (p : Addr), H p = none → H' p = some (.lst (nV (Uw67.family h))) → Same H H' → Q (.ref p) H'
theorem nV_last {l : List Nat} (h : l ≠ []) : (nV l)[(nV l).length - 1]? = some (.int (l.getLastD 0 : Nat)) := by
  rw [nV_length]
  unfold nV
  rw [List.getElem?_map, ← List.getLast?_eq_getElem?]
  cases l with
  | nil => exact absurd rfl h
  | cons a l => simp [List.getLast?_cons]
theorem nV_dropLast (l : List Nat) : (nV l).dropLast = nV l.dropLast := by
  unfold nV
  rw [List.map_dropLast]
section
variable {P : Program} {w : World} {K : PySem.W.Frag} {mg : Str → Option Value} {base : Heap}
theorem scFam : FnScope ["hexagram", "members", "to_turn", "member", "reached"] ["hexagram"] (defScope sFam) := ⟨rfl, rfl, rfl, by decide +kernel, rfl, by decide +kernel, by decide +kernel⟩
theorem ok_fam {f : Addr} {fd : FuncData} (F : Fun K "family_of" "family_of" sFam f fd) (TH : TxH K mg) (GU : GF P w K mg base 2 "upside_down" ["hexagram"] (spNum Uw67.upside)) (GO : GF P w K mg base 2 "opposite" ["hexagram"] (spNum Uw67.opposite))
    (GE : GF P w K mg base 2 "exchanged" ["hexagram"] (spNum Uw67.exchanged)) : FnOk P w K mg base CX0 3 f fd ["hexagram"] spFam := by
  refine F.ok scFam (fun vs H Q E h => ?_) (fun cdv A outer s H vs Q E hr h => ?_)
  · obtain ⟨h, rfl, _⟩ := h; rfl
  · obtain ⟨h, rfl, h63, k⟩ := h
    have hu := hu_of hr
    obtain ⟨fk, fe, fl, fp, fs⟩ := fam_facts h63
    refine ⟨_, (pss_cons (ps_set (i := 1) scFam.nd rfl (Or.inl rfl) (pe_disp (pps_cons (pv 0) pe_bl pps_nil) rfl rfl (by decide) (by decide))) <|
      pss_cons (ps_set (i := 2) scFam.nd rfl (Or.inl rfl) (pe_lst (pa_cons (pv 0) pa_nil))) <|
      pss_cons (ps_while PassesOwn.never (pt_truth (pv 2) (fun _ => rfl)) <|
        pss_cons (ps_set (i := 3) scFam.nd rfl (Or.inl rfl) (pe_bm0 PySem.F.plainAttrs_list PySem.F.slot_list_pop PySem.F.type_list_pop mt_pop (pv 2))) <|
        pss_one (ps_for PassesOwn.never rfl (pi_tup (pe_tup (pa_cons (pe_gf GU hr rfl (pa_cons (pv 3) pa_nil)) (pa_cons (pe_gf GO hr rfl (pa_cons (pv 3) pa_nil)) (pa_cons (pe_gf GE hr rfl (pa_cons (pv 3) pa_nil)) pa_nil))))) (pg_name (i := 4) scFam.nd rfl (Or.inl rfl)) <|
          pss_one (ps_if (pt_cmp (pc_dnotin hu (pv 4) (pv 1))) (pss_cons (ps_dput hu (pv 1) (pv 4) pe_bl rfl) <|
            pss_one (ps_expr (pe_bm PySem.F.plainAttrs_list PySem.F.slot_list_append PySem.F.type_list_append mt_append (pv 2) (pa_cons (pv 4) pa_nil)))) pss_nil))) <|
      pss_one (ps_ret (pe_callB (cr_sortedD rfl) rfl TH.srt boot_sorted (pa_cons (pv 1) pa_nil)))), ?_⟩
    intro d hd
    refine ⟨_, rfl, upd_same, [(kN h, .bl true)], rfl, (by show 1 ≤ 15; decide), ?_⟩
    refine ⟨_, rfl, (by show 1 ≤ sizeLine; decide), fun st hst => ?_⟩
    have hst0 : H st = none := by
      have e : st ≠ d := fun z => by rw [z, upd_same] at hst; cases hst
      rw [upd_ne e, upd_ne e] at hst
      exact hst
    have nds : d ≠ st := fun z => by rw [← z, upd_same] at hst; cases hst
    refine ⟨fun m σ H' => ∃ (k : Nat) (v3 v4 : Option V), k ≤ famN h ∧ m = famN h - k ∧ σ = [some (.int h), some (.ref d), some (.ref st), v3, v4] ∧ H' d = some (.dK (famD (famRun h k).1)) ∧ H' st = some (.lst (nV (famRun h k).2)) ∧ Same H H',
      ⟨famN h, 0, none, none, Nat.zero_le _, rfl, rfl, ?_, ?_, ?_⟩, ?_⟩
    · rw [upd_ne nds, upd_same]
      rfl
    · rw [upd_same]
      rfl
    · exact Same.upd (Same.upd (Same.new hd) hd) hst0
    rintro m σ H' ⟨i, v3, v4, hi, rfl, rfl, hD, hS, s5⟩
    refine ⟨_, rfl, _, .inl ⟨_, SqL.of hS, rfl⟩, ?_⟩
    rcases Nat.lt_or_ge i (famN h) with hlt | hge
    · obtain ⟨ne, lm, l1, l2⟩ := fk i hlt
      have er : famRun h (i + 1) = famStep (famRun h i) := rfl
      generalize famRun h i = p at hD hS ne lm l1 l2 er ⊢
      have et : (!(nV p.2).isEmpty) = true := by
        cases c : p.2 with
        | nil => exact absurd c ne
        | cons x y => rfl
      rw [et]
      refine iteT ⟨fun σ' H2 => ∃ (v3 v4 : Option V), σ' = [some (.int h), some (.ref d), some (.ref st), v3, v4] ∧ H2 d = some (.dK (famD (famStep p).1)) ∧ H2 st = some (.lst (nV (famStep p).2)) ∧ Same H H2,
        fun σ' H2 ⟨v3, v4, e1, e2, e3, e4⟩ => ⟨famN h - (i + 1), by omega, i + 1, v3, v4, hlt, rfl, e1, by rw [er]; exact e2, by rw [er]; exact e3, e4⟩, ?_⟩
      refine ⟨_, rfl, .inl ⟨rfl, _, SqL.of hS⟩, st, _, _, rfl, rfl, hS, nV_last ne, ?_⟩
      rw [nV_dropLast]
      unfold famStep
      generalize p.2.getLastD 0 = mm at lm ⊢
      have s6 : Same H (L2.upd H' st (.lst (nV p.2.dropLast))) := Same.upd s5 hst0
      have hD6 : (L2.upd H' st (.lst (nV p.2.dropLast))) d = some (.dK (famD p.1)) := by rw [upd_ne nds]; exact hD
      have hS6 : (L2.upd H' st (.lst (nV p.2.dropLast))) st = some (.lst (nV p.2.dropLast)) := upd_same
      generalize L2.upd H' st (.lst (nV p.2.dropLast)) = H6 at s6 hD6 hS6 ⊢
      have ldl : p.2.dropLast.length ≤ 50 := by rw [List.length_dropLast]; omega
      refine ⟨_, rfl, mm, rfl, lm, fun H7 s7 => ⟨_, rfl, mm, rfl, lm, fun H8 s8 => ⟨_, rfl, mm, rfl, lm, fun H9 s9 => ⟨(by show 3 ≤ sizeLine; decide), fun t ht => ?_⟩⟩⟩⟩
      have sT : Same H6 (L2.upd H9 t (.tup (nV (turns mm)))) := ((s7.trans s8).trans s9).trans (Same.new ht)
      have hTt : (L2.upd H9 t (.tup (nV (turns mm)))) t = some (.tup (nV (turns mm))) := upd_same
      refine ⟨t, rfl, ⟨_, SqT.of hTt⟩, for_tup (K := K) (a := t) (xs := nV (turns mm)) (fun j σ H2 => ∃ v4 : Option V, σ = [some (.int h), some (.ref d), some (.ref st), some (.int mm), v4] ∧
        H2 d = some (.dK (famD (((turns mm).take j).foldl famPut (p.1, p.2.dropLast)).1)) ∧ H2 st = some (.lst (nV (((turns mm).take j).foldl famPut (p.1, p.2.dropLast)).2)) ∧ H2 t = some (.tup (nV (turns mm))) ∧ Same H H2)
        ⟨v4, rfl, sT _ _ hD6, sT _ _ hS6, hTt, s6.trans sT⟩ (fun j σ H2 _ ⟨_, _, _, _, e, _⟩ => SqT.of e) ?_ ?_⟩
      · rintro j y σ H2 hj ⟨v4, rfl, hD2, hS2, hT2, s10⟩
        obtain ⟨r, hr', rfl⟩ := nV_get hj
        have hj3 : j < 3 := (List.getElem?_eq_some_iff.mp hr').1
        have ef : ((turns mm).take (j + 1)).foldl famPut (p.1, p.2.dropLast) = famPut (((turns mm).take j).foldl famPut (p.1, p.2.dropLast)) r := by rw [take_snoc hr', List.foldl_append]; rfl
        have bl := famFold_len ((turns mm).take j) (p.1, p.2.dropLast)
        have tl : ((turns mm).take j).length ≤ 3 := Nat.le_trans (List.length_take_le ..) (Nat.le_of_lt hj3)
        rw [ef]
        generalize ((turns mm).take j).foldl famPut (p.1, p.2.dropLast) = q at hD2 hS2 bl ⊢
        have bl1 : q.1.length ≤ 60 := by have := bl.1; simp only at this; omega
        have bl2 : q.2.length ≤ 60 := by have := bl.2; simp only at this; omega
        refine ⟨_, rfl, _, rfl, d, _, rfl, DGet.k (k := kN r) hD2, _, rfl, ?_⟩
        rw [famD_val]
        unfold famPut
        cases c : q.1.contains r with
        | true => exact iteF ⟨some (.int r), rfl, hD2, hS2, hT2, s10⟩
        | false =>
          refine iteT ⟨_, rfl, _, rfl, d, _, rfl, DPut.k (k := kN r) hD2 ?_, ?_⟩
          · rw [famD_len]
            exact Nat.lt_of_le_of_lt bl1 (by decide)
          rw [famD_put c]
          have hS3 : (L2.upd H2 d (.dK (famD (q.1 ++ [r])))) st = some (.lst (nV q.2)) := by rw [upd_ne nds.symm]; exact hS2
          refine ⟨_, rfl, .inl ⟨rfl, _, SqL.of hS3⟩, _, rfl, st, _, _, rfl, rfl, hS3, ?_, some (.int r), rfl, ?_, ?_, ?_, ?_⟩
          · rw [nV_length]
            exact Nat.lt_of_le_of_lt bl2 (by decide)
          · rw [upd_ne nds, upd_same]
            rfl
          · rw [upd_same, ← nV_snoc]
            rfl
          · rw [upd_ne (ne_of hT2 hS2 (fun z => nomatch z)), upd_ne (ne_of hT2 hD2 (fun z => nomatch z))]
            exact hT2
          · exact Same.upd (Same.upd s10 hd) hst0
      · rintro σ H2 ⟨v4, rfl, hD2, hS2, hT2, s10⟩
        exact ⟨some (.int mm), v4, rfl, hD2, hS2, s10⟩
    · obtain rfl : i = famN h := by omega
      rw [fe] at hS ⊢
      refine iteF ⟨_, rfl, d, _, (famRun h (famN h)).1.map fun n : Nat => (n : Int), rfl, hD, ?_, by rw [List.length_map]; exact fl, fun ns' p pe pw hp => ?_⟩
      · unfold famD
        rw [List.map_map, List.map_map]
        rfl
      · have e : ns' = (Uw67.family h).map fun n : Nat => (n : Int) := by
          refine List.Perm.eq_of_pairwise (le := (· ≤ ·)) (fun a b _ _ h1 h2 => by omega) pw ?_ (pe.trans (fp.map _))
          rw [List.pairwise_map]
          exact fs.imp fun h1 => by omega
        subst e
        refine k _ p (s5.free hp) ?_ (s5.trans (Same.new hp))
        rw [upd_same]
        unfold nV
        rw [List.map_map]
        rfl
/-! ### cores_from -/
def coreN (h : Nat) : Nat → Nat
  | 0 => h
  | k + 1 => Uw67.core (coreN h k)
def metN (h k : Nat) : List Nat := (List.range k).map (coreN h)
def corN (h : Nat) : Nat := (Uw67.cores h).1.length
def corOk (h : Nat) : Bool :=
  ((List.range (corN h)).all fun k => !(metN h k).contains (coreN h k) && decide (coreN h k ≤ 63)) && ((metN h (corN h)).contains (coreN h (corN h)) && (decide ((Uw67.cores h).1 = metN h (corN h)) && (decide (0 < corN h) && (decide (corN h ≤ 64) &&
  (decide ((Uw67.cores h).2 < corN h) && (decide (coreN h (Uw67.cores h).2 = coreN h (corN h)) && (List.range (Uw67.cores h).2).all fun m => decide (coreN h m ≠ coreN h (corN h))))))))
theorem cor_ok : ∀ h, h < 64 → corOk h = true := by decide +kernel
structure CorF (h : Nat) : Prop where
  go : ∀ k, k < corN h → (metN h k).contains (coreN h k) = false ∧ coreN h k ≤ 63
  stop : (metN h (corN h)).contains (coreN h (corN h)) = true
  eq : (Uw67.cores h).1 = metN h (corN h)
  pos : 0 < corN h
  le : corN h ≤ 64
  ix : (Uw67.cores h).2 < corN h
  at_ : coreN h (Uw67.cores h).2 = coreN h (corN h)
  no : ∀ m, m < (Uw67.cores h).2 → coreN h m ≠ coreN h (corN h)
theorem cor_facts {h : Nat} (hh : h ≤ 63) : CorF h := by
  have q := cor_ok h (by omega)
  unfold corOk at q
  rw [Bool.and_eq_true, Bool.and_eq_true, Bool.and_eq_true, Bool.and_eq_true, Bool.and_eq_true, Bool.and_eq_true, Bool.and_eq_true] at q
  obtain ⟨q1, q2, q3, q4, q5, q6, q7, q8⟩ := q
  refine ⟨fun k hk => ?_, q2, of_decide_eq_true q3, of_decide_eq_true q4, of_decide_eq_true q5, of_decide_eq_true q6, of_decide_eq_true q7, fun m hm => ?_⟩
  · have z := List.all_eq_true.mp q1 k (List.mem_range.mpr hk)
    rw [Bool.and_eq_true] at z
    refine ⟨?_, of_decide_eq_true z.2⟩
    simpa using z.1
  · exact of_decide_eq_true (List.all_eq_true.mp q8 m (List.mem_range.mpr hm))
theorem metN_succ (h k : Nat) : metN h (k + 1) = metN h k ++ [coreN h k] := by
  unfold metN
  rw [List.range_succ, List.map_append]
  rfl
theorem metN_len (h k : Nat) : (metN h k).length = k := by
  unfold metN
  rw [List.length_map, List.length_range]
def spCrs : Sp := fun vs H Q _ => ∃ h : Nat, vs = [.int h] ∧ h ≤ 63 ∧ ∀ (H' : Hp) (p : Addr), H p = none → H' p = some (.lst (nV (metN h (corN h)))) → Same H H' → Q (.ref p) H'
theorem scCrs : FnScope ["hexagram", "met", "reached"] ["hexagram"] (defScope sCrs) := ⟨rfl, rfl, rfl, by decide +kernel, rfl, by decide +kernel, by decide +kernel⟩
theorem ok_crs {f : Addr} {fd : FuncData} (F : Fun K "cores_from" "cores_from" sCrs f fd) (GC : GF P w K mg base 2 "core" ["hexagram"] (spNum Uw67.core)) : FnOk P w K mg base CX0 3 f fd ["hexagram"] spCrs := by
  refine F.ok scCrs (fun vs H Q E h => ?_) (fun cdv A outer s H vs Q E hr h => ?_)
  · obtain ⟨h, rfl, _⟩ := h; rfl
  · obtain ⟨h, rfl, h63, k⟩ := h
    have cf := cor_facts h63
    refine ⟨_, (pss_cons (ps_set (i := 1) scCrs.nd rfl (Or.inl rfl) (pe_lst pa_nil)) <|
      pss_cons (ps_set (i := 2) scCrs.nd rfl (Or.inl rfl) (pv 0)) <|
      pss_cons (ps_while PassesOwn.never (pt_cmpR op_notIn_seq (pv 2) (pv 1) (by with_unfolding_all rfl)) <|
        pss_cons (ps_expr (pe_bm PySem.F.plainAttrs_list PySem.F.slot_list_append PySem.F.type_list_append mt_append (pv 1) (pa_cons (pv 2) pa_nil))) <|
        pss_one (ps_set (i := 2) scCrs.nd rfl (Or.inl rfl) (pe_gf GC hr rfl (pa_cons (pv 2) pa_nil)))) <|
      pss_one (ps_ret (pv 1))), ?_⟩
    refine ⟨Nat.zero_le _, fun p hp => ⟨_, rfl, ?_⟩⟩
    refine ⟨fun m σ H' => ∃ i : Nat, i ≤ corN h ∧ m = corN h - i ∧ σ = [some (.int h), some (.ref p), some (.int (coreN h i : Nat))] ∧ H' p = some (.lst (nV (metN h i))) ∧ Same H H', ⟨corN h, 0, Nat.zero_le _, rfl, rfl, upd_same, Same.new hp⟩, ?_⟩
    rintro m σ H' ⟨i, hi, rfl, rfl, hq, s5⟩
    refine ⟨_, rfl, _, rfl, p, _, rfl, .inl (SqL.of hq), rfl, flat_nV _, _, rfl, ?_⟩
    show if (!inV (.int (coreN h i : Nat)) (nV (metN h i))) = true then _ else _
    rw [inV_nV]
    rcases Nat.lt_or_ge i (corN h) with hlt | hge
    · obtain ⟨c, c63⟩ := cf.go i hlt
      rw [c]
      refine iteT ⟨fun σ' H2 => σ' = [some (.int h), some (.ref p), some (.int (coreN h (i + 1) : Nat))] ∧ H2 p = some (.lst (nV (metN h (i + 1)))) ∧ Same H H2, fun σ' H2 ⟨e1, e2, e3⟩ => ⟨corN h - (i + 1), by omega, i + 1, hlt, rfl, e1, e2, e3⟩, ?_⟩
      refine ⟨_, rfl, .inl ⟨rfl, _, SqL.of hq⟩, _, rfl, p, _, _, rfl, rfl, hq, ?_, ?_⟩
      · rw [nV_length, metN_len]
        exact Nat.lt_of_lt_of_le hlt (Nat.le_trans cf.le (by decide))
      · refine ⟨_, rfl, coreN h i, rfl, c63, fun H2 s2 => ⟨rfl, ?_, ?_⟩⟩
        · rw [metN_succ, nV_snoc]
          exact s2 _ _ upd_same
        · exact (Same.upd s5 hp).trans s2
    · obtain rfl : i = corN h := by omega
      rw [cf.stop]
      exact iteF ⟨_, rfl, k H' p hp hq s5⟩
/-! ### first_wrong_place -/
def badAt (l : List Nat) (i : Nat) : Bool := let h := l.getD i 64
  decide (63 < h) || ((l.take i).contains h || (i % 2 == 1 && h != Uw67.partner (l.getD (i - 1) 0)))
theorem wrong_some {l : List Nat} {i : Nat} (hi : i < l.length) (hb : badAt l i = true) (hn : ∀ j, j < i → badAt l j = false) : Uw67.wrongAt l = some i := by
  show (List.range l.length).find? (badAt l) = some i
  rw [List.find?_range_eq_some]
  refine ⟨hb, List.mem_range.mpr hi, fun j hj => ?_⟩
  rw [hn j hj]
  rfl
theorem wrong_none {l : List Nat} (hn : ∀ j, j < l.length → badAt l j = false) : Uw67.wrongAt l = none := by
  show (List.range l.length).find? (badAt l) = none
  rw [List.find?_range_eq_none]
  intro j hj
  rw [hn j hj]
  rfl
def spFwp (K : PySem.W.Frag) : Sp := fun vs H Q _ => ∃ (a : Addr) (l : List Nat), vs = [.ref a] ∧ SqL K H a (nV l) ∧ l.length ≤ 1000 ∧ ∀ H' : Hp, Same H H' → Q (.int ((Uw67.wrongAt l).getD l.length : Nat)) H'
theorem scFwp : FnScope ["order", "ahead", "place", "number"] ["order"] (defScope sFwp) := ⟨rfl, rfl, rfl, by decide +kernel, rfl, by decide +kernel, by decide +kernel⟩
theorem ok_fwp {f : Addr} {fd : FuncData} (F : Fun K "first_wrong_place" "first_wrong_place" sFwp f fd) (T : Txt K mg) (TH : TxH K mg) (GP : GF P w K mg base 3 "partner" ["hexagram"] (spNum Uw67.partner)) : FnOk P w K mg base CX0 4 f fd ["order"] (spFwp K) := by
  refine F.ok scFwp (fun vs H Q E h => ?_) (fun cdv A outer s H vs Q E hr h => ?_)
  · obtain ⟨a, l, rfl, _⟩ := h; rfl
  · obtain ⟨a, l, rfl, hS, hlen, k⟩ := h
    have hu := hu_of hr
    refine ⟨_, (pss_cons (ps_set (i := 1) scFwp.nd rfl (Or.inl rfl) pe_dnewK) <|
      pss_cons (ps_for PassesOwn.never rfl (pi_enum rfl T.enum (pa_cons (pv 0) pa_nil)) (pg_tup rfl (pgs_cons (pg_name (i := 2) scFwp.nd rfl (Or.inl rfl)) (pgs_cons (pg_name (i := 3) scFwp.nd rfl (Or.inl rfl)) pgs_nil))) <|
        pss_cons (ps_if (PW.pt (pw_or (pt_cmpR op_gt (pv 3) (pe_ciK TH.hex) (nomark _)) (pw_or1 (pt_cmp (pc_din hu (pv 3) (pv 1)))))) (pss_one (ps_ret (pv 2))) pss_nil) <|
        pss_cons (ps_if (PW.pt (pw_and (pt_cmpR op_eq (pe_op op_mod (pv 2) pe_int) pe_int (nomark _)) (pw_and1 (pt_cmpR op_ne (pv 3) (pe_gf GP hr rfl (pa_cons (pe_ix ix_list (pv 0) (pe_op (opE op_sub) (pv 2) pe_int) (fun _ _ => rfl)) pa_nil)) (nomark _))))) (pss_one (ps_ret (pv 2))) pss_nil) <|
        pss_one (ps_dput hu (pv 1) (pv 3) pe_bl rfl)) <|
      pss_one (ps_ret (pe_callB call_len rfl T.len PySem.boot_len (pa_cons (pv 0) pa_nil)))), ?_⟩
    intro d hd
    have s0 : Same H (L2.upd H d (.dK [])) := Same.new hd
    refine ⟨_, rfl, a, _, rfl, s0.seq hS, for_enum (K := K) (a := a) (xs := nV l) (fun i σ H' => ∃ v2 v3 : Option V, σ = [some (.ref a), some (.ref d), v2, v3] ∧ H' d = some (.dK (famD (l.take i))) ∧ (∀ j, j < i → badAt l j = false) ∧ Same H H')
      ⟨none, none, rfl, upd_same, fun j hj => absurd hj (Nat.not_lt_zero j), s0⟩ (fun i σ H' _ ⟨_, _, _, _, _, s5⟩ => s5.seq hS) ?_ ?_⟩
    · rintro i y T' σ H' hi ⟨v2, v3, rfl, hD, hn, s5⟩ hT'
      obtain ⟨x, hx, rfl⟩ := nV_get hi
      have hil : i < l.length := (List.getElem?_eq_some_iff.mp hx).1
      have gx : l.getD i 64 = x := by rw [List.getD_eq_getElem?_getD, hx]; rfl
      have s6 : Same H (L2.upd H' T' (.tup [.int (i : Nat), .int (x : Nat)])) := s5.trans (Same.new hT')
      have hD6 := (Same.new (o := .tup [.int (i : Nat), .int (x : Nat)]) hT') _ _ hD
      have bad : badAt l i = (decide (63 < x) || ((l.take i).contains x || (i % 2 == 1 && x != Uw67.partner (l.getD (i - 1) 0)))) := by
        unfold badAt
        rw [gx]
      have wr : badAt l i = true → ∀ H2, Same H H2 → Q (.int (i : Nat)) H2 := fun hb H2 s2 => by
        have e := wrong_some hil hb hn
        rw [e] at k
        exact k H2 s2
      refine ⟨T', _, rfl, SqT.of upd_same, rfl, _, _, rfl, _, _, rfl, rfl, ?_⟩
      generalize L2.upd H' T' (.tup [.int (i : Nat), .int (x : Nat)]) = H6 at s6 hD6 ⊢
      refine ⟨_, rfl, _, _, rfl, rfl, _, rfl, ite2 (fun z => ?_) (fun z => ?_)⟩
      · have z' : (63 : Int) < (x : Nat) := of_decide_eq_true z
        refine ⟨_, rfl, wr ?_ _ s6⟩
        rw [bad, decide_eq_true (by omega), Bool.true_or]
      have z1 : ¬ (63 : Int) < (x : Nat) := fun q => z (decide_eq_true q)
      have x63 : ¬ 63 < x := by omega
      rw [decide_eq_false x63, Bool.false_or] at bad
      refine ⟨_, rfl, _, rfl, d, _, rfl, DGet.k (k := kN x) hD6, _, rfl, ?_⟩
      rw [famD_val]
      cases c : (l.take i).contains x with
      | true =>
        rw [c, Bool.true_or] at bad
        exact iteT ⟨_, rfl, wr bad _ s6⟩
      | false =>
        rw [c, Bool.false_or] at bad
        refine iteF ?_
        -- what comes behind the tests
        have fin : badAt l i = false → ∀ H7 : Hp, Same H H7 → H7 d = some (.dK (famD (l.take i))) → ∃ (v : V), some (V.int (x : Nat)) = some v ∧ ∃ H8, DPut H7 d v (.bl true) H8 ∧ ∃ v2 v3 : Option V, ([some (.ref a), some (.ref d), some (.int (i : Nat)), some (.int (x : Nat))] : L2.St) = [some (.ref a), some (.ref d), v2, v3] ∧
            H8 d = some (.dK (famD (l.take (i + 1)))) ∧ (∀ j, j < i + 1 → badAt l j = false) ∧ Same H H8 := by
          intro hb H7 s7 hD7
          refine ⟨_, rfl, _, DPut.k (k := kN x) hD7 ?_, _, _, rfl, ?_, ?_, Same.upd s7 hd⟩
          · rw [famD_len]
            exact Nat.lt_of_le_of_lt (Nat.le_trans (List.length_take_le' ..) hlen) (by decide)
          · rw [upd_same, famD_put c, take_snoc hx]
          · intro j hj
            rcases Nat.lt_or_ge j i with q | q
            · exact hn j q
            · rw [show j = i by omega]; exact hb
        refine ⟨_, rfl, _, _, rfl, rfl, (by show (0 : Int) < 2; decide), rfl, _, rfl, ite2 (fun z => ?_) (fun z => ?_)⟩
        · have z' : V.int ((i : Int) % 2) = V.int 1 := of_decide_eq_true z
          injection z' with z'
          have i1 : 1 ≤ i := by omega
          have im : (i % 2 == 1) = true := by rw [show i % 2 = 1 by omega]; rfl
          rw [im, Bool.true_and] at bad
          have hp1 : i - 1 < l.length := by omega
          have hyy : l[i - 1]? = some (l.getD (i - 1) 0) := by
            rw [List.getD_eq_getElem?_getD, List.getElem?_eq_getElem hp1]
            rfl
          have y63 : l.getD (i - 1) 0 ≤ 63 := by
            have q := hn (i - 1) (by omega)
            unfold badAt at q
            rw [Bool.or_eq_false_iff] at q
            have q1 := of_decide_eq_false q.1
            rw [List.getD_eq_getElem?_getD, hyy] at q1
            have q1 : ¬ 63 < l.getD (i - 1) 0 := q1
            omega
          generalize l.getD (i - 1) 0 = yy at bad hyy y63
          have hat : atI (nV l) (((i - 1 : Nat) : Nat) : Int) = some (.int (yy : Nat)) := atI_nat (by
            unfold nV
            rw [List.getElem?_map, hyy]
            rfl)
          refine ⟨_, rfl, _, rfl, _, rfl, _, _, ((i - 1 : Nat) : Int), rfl, rfl, by omega, a, _, _, _, rfl, rfl, s6.seq hS, hat, yy, rfl, y63, fun H7 s7 => ?_⟩
          refine ⟨rfl, _, rfl, ?_⟩
          by_cases q : x = Uw67.partner yy
          · have e : (!decide (V.int (x : Nat) = V.int (Uw67.partner yy : Nat))) = false := by rw [q]; simp
            have hb : badAt l i = false := by rw [bad, q]; simp
            rw [e]
            obtain ⟨v, e8, H8, dp, r⟩ := fin hb H7 (s6.trans s7) (s7 _ _ hD6)
            cases e8
            exact iteF ⟨_, rfl, _, rfl, d, H8, rfl, dp, r⟩
          · have e : (!decide (V.int (x : Nat) = V.int (Uw67.partner yy : Nat))) = true := by
              rw [decide_eq_false]
              · rfl
              · intro z2
                injection z2 with z2
                exact q (by omega)
            have hb : badAt l i = true := by rw [bad]; simpa using q
            rw [e]
            exact iteT ⟨_, rfl, wr hb _ (s6.trans s7)⟩
        · have z2 : ¬ i % 2 = 1 := fun q => z (decide_eq_true (by show V.int ((i : Int) % 2) = V.int 1; rw [show ((i : Int) % 2) = 1 by omega]))
          have im : (i % 2 == 1) = false := beq_eq_false_iff_ne.mpr z2
          rw [im, Bool.false_and] at bad
          obtain ⟨v, e8, H8, dp, r⟩ := fin bad _ s6 hD6
          cases e8
          exact ⟨_, rfl, _, rfl, d, H8, rfl, dp, r⟩
    · rintro σ H' ⟨v2, v3, rfl, hD, hn, s5⟩
      rw [nV_length] at hn
      refine ⟨_, rfl, _, l.length, rfl, .inl ⟨_, s5.seq hS, (nV_length _).symm⟩, ?_⟩
      rw [wrong_none hn] at k
      exact k H' s5
end
end SL
set_option Elab.async false
set_option linter.all false
set_option maxRecDepth 100000
set_option maxHeartbeats 4000000
namespace SL
open PySem PySem.Spec PyProof.Rows L2
open Uw67 (Frac frac plus times)
def spChance (B : Addr) : Sp := fun vs H Q _ => ∃ (a : Addr) (n h m : Nat), vs = [.ref a, .int h, .int m] ∧ BunAt B H a n ∧ n ∈ ns ∧ Ans B H a n (Uw67.step n (.chance h m)).2 Q
def spBecomes (B : Addr) : Sp := fun vs H Q _ => ∃ (a : Addr) (n h : Nat), vs = [.ref a, .int h] ∧ BunAt B H a n ∧ n ∈ ns ∧ Ans B H a n (Uw67.step n (.becomes h)).2 Q
theorem kind_range (a b : Nat) : 6 ≤ Uw67.kind a b ∧ Uw67.kind a b ≤ 9 := by
  unfold Uw67.kind
  split <;> split <;> decide
theorem table_at {n x : Nat} (h1 : 6 ≤ x) (h2 : x ≤ 9) : (Uw67.table n).getD (x - 6) Uw67.zero = Uw67.odds n x := by
  have q : x = 6 ∨ x = 7 ∨ x = 8 ∨ x = 9 := by omega
  rcases q with rfl | rfl | rfl | rfl <;> rfl
def chanceL (n h m : Nat) : List Frac := (List.range 6).map fun i => Uw67.odds n (Uw67.kind (Uw67.bit h i) (Uw67.bit m i))
theorem chance_eq (n h m : Nat) : Uw67.chance n h m = Uw67.product (chanceL n h m) := by
  unfold Uw67.chance Uw67.chanceBy chanceL
  congr 1
  exact List.map_congr_left fun i _ => table_at (kind_range _ _).1 (kind_range _ _).2
theorem range_map_get {α : Type} (f : Nat → α) {n i : Nat} (h : i < n) : ((List.range n).map f)[i]? = some (f i) := by
  rw [List.getElem?_map, List.getElem?_range h]
  rfl
theorem Fracs.snoc {C : Addr} {H : Hp} {as : List Addr} {fs : List Frac} {a : Addr} {f : Frac} (h : Fracs C H as fs) (q : FracAt C H a f) : Fracs C H (as ++ [a]) (fs ++ [f]) := Paired.snoc h q
theorem FracAt.sxL {C x : Addr} {H H' : Hp} {a : Addr} {f : Frac} {xs : List V} (h : FracAt C H a f) (hx : H x = some (.lst xs)) (s : SX x H H') : FracAt C H' a f := by
  obtain ⟨dx, e⟩ := h
  exact ⟨dx, s _ _ (ne_of e hx (fun z => nomatch z)) e⟩
theorem Fracs.sxL {C x : Addr} {H H' : Hp} {as : List Addr} {fs : List Frac} {xs : List V} (h : Fracs C H as fs) (hx : H x = some (.lst xs)) (s : SX x H H') : Fracs C H' as fs := Paired.mapP h fun _ _ z => z.sxL hx s
theorem eqF {i j : Int} {A B : Prop} (h : i ≠ j) (b : B) : if decide (V.int i = V.int j) = true then A else B := by
  rw [if_neg]
  · exact b
  · intro z
    have z' : V.int i = V.int j := of_decide_eq_true z
    injection z' with z'
    exact h z'
theorem eqT {i j : Int} {A B : Prop} (h : i = j) (a : A) : if decide (V.int i = V.int j) = true then A else B := by
  rw [if_pos]
  · exact a
  · exact decide_eq_true (by rw [h])
/-- the odds of a line from n stalks, in a dict -/
def OddsAt (C : Addr) (H : Hp) (od : Addr) (n : Nat) : Prop := ∃ kvs, H od = some (.dK kvs) ∧ Dm kN (RF C H) kvs (oddsTab n)
theorem OddsAt.same {C : Addr} {H H' : Hp} {od : Addr} {n : Nat} (h : OddsAt C H od n) (s : Same H H') : OddsAt C H' od n := let ⟨kvs, e, dm⟩ := h; ⟨kvs, s _ _ e, dm.mono (RF.same s)⟩
theorem chanceL_fb {n h m : Nat} (hn : n ∈ ns) : ∀ f ∈ chanceL n h m, Fb 64 f := fun f hf => by
  obtain ⟨i, hi, rfl⟩ := List.mem_map.mp hf
  exact odds_fb hn (kind_range _ _).1 (kind_range _ _).2
theorem chanceL_len (n h m : Nat) : (chanceL n h m).length = 6 := by
  unfold chanceL
  rw [List.length_map, List.length_range]
theorem chance_fb {n h m : Nat} (hn : n ∈ ns) : Fb 1500 (Uw67.chance n h m) := by
  rw [chance_eq]
  have q := prod_fb (chanceL n h m) 6 (fun f hf => (chanceL_fb hn f hf).mono (by decide)) (by rw [chanceL_len]; exact Nat.le_refl _)
  rw [List.take_of_length_le (by rw [chanceL_len]; exact Nat.le_refl _)] at q
  exact q.mono (by decide)
def spChOf (C : Addr) : Sp := fun vs H Q _ => ∃ (od : Addr) (h m n : Nat), vs = [.ref od, .int h, .int m] ∧ OddsAt C H od n ∧ n ∈ ns ∧ ∀ (H' : Hp) (x : Addr), H x = none → FracAt C H' x (Uw67.chance n h m) → Same H H' → Q (.ref x) H'
def spChBec (C : Addr) : Sp := fun vs H Q _ => ∃ (od : Addr) (h n : Nat), vs = [.ref od, .int h] ∧ OddsAt C H od n ∧ n ∈ ns ∧ ∀ (H' : Hp) (x : Addr), H x = none → FracAt C H' x (Uw67.becomes n h) → Same H H' → Q (.ref x) H'
def spChMov (C : Addr) : Sp := fun vs H Q _ => ∃ (od : Addr) (c n : Nat), vs = [.ref od, .int c] ∧ OddsAt C H od n ∧ n ∈ ns ∧ c ≤ 6 ∧ ∀ (H' : Hp) (x : Addr), H x = none → FracAt C H' x (Uw67.moving n c) → Same H H' → Q (.ref x) H'
def spLik (C : Addr) : Sp := fun vs H Q _ => ∃ (od : Addr) (h n : Nat), vs = [.ref od, .int h] ∧ OddsAt C H od n ∧ n ∈ ns ∧ ∀ H' : Hp, Same H H' → Q (.int ((Uw67.came n h).1 : Nat)) H'
def becomesL (n h : Nat) : List Frac := (Uw67.linesOf h).map fun b => Uw67.behind n b
theorem becomes_eq (n h : Nat) : Uw67.becomes n h = Uw67.product (becomesL n h) := by
  unfold Uw67.becomes becomesL Uw67.linesOf
  rw [List.map_map]
  rfl
/-! how many ways there are -/
theorem ways_next : ∀ i, i < 6 → Uw67.choose 6 i * (6 - i) / (i + 1) = Uw67.choose 6 (i + 1) := by decide
theorem ways_le : ∀ i, i < 7 → Uw67.choose 6 i ≤ 20 := by decide
def movF (n : Nat) : Frac := plus (Uw67.odds n 6) (Uw67.odds n 9)
def resF (n : Nat) : Frac := plus (Uw67.odds n 7) (Uw67.odds n 8)
def movL (n c : Nat) : List Frac := frac (Uw67.choose 6 c) 1 :: (List.replicate c (movF n) ++ List.replicate (6 - c) (resF n))
set_option maxRecDepth 100000 in
theorem mov_all : ∀ n ∈ ns, ∀ c, c < 7 → Uw67.product (movL n c) = Uw67.moving n c := by decide +kernel
/-! the likeliest -/
def likStep (n h : Nat) (b : Nat × Frac) (g : Nat) : Nat × Frac := if Uw67.less b.2 (Uw67.chance n g (g ^^^ h)) = true then (g, Uw67.chance n g (g ^^^ h)) else b
theorem frac_zero {a b : Nat} (hb : 0 < b) (h : (frac a b).u = 0) : frac a b = Uw67.zero := by
  have h' : a / Nat.gcd a b = 0 := h
  have g0 : 0 < Nat.gcd a b := Nat.gcd_pos_of_pos_right a hb
  have a0 : a = 0 := by
    rcases Nat.eq_zero_or_pos a with z | z
    · exact z
    · have : 0 < a / Nat.gcd a b := Nat.div_pos (Nat.le_of_dvd z (Nat.gcd_dvd_left a b)) g0
      omega
  subst a0
  show (⟨0 / Nat.gcd 0 b, b / Nat.gcd 0 b⟩ : Frac) = ⟨0, 1⟩
  rw [Nat.gcd_zero_left, Nat.zero_div, Nat.div_self hb]
theorem chance_zero {n h m : Nat} (hn : n ∈ ns) (z : (Uw67.chance n h m).u = 0) : Uw67.chance n h m = Uw67.zero := by
  rw [chance_eq] at z ⊢
  have hl : 5 < (chanceL n h m).length := by rw [chanceL_len]; decide
  have e : chanceL n h m = (chanceL n h m).take 5 ++ [(chanceL n h m)[5]] := by
    have q := take_snoc (List.getElem?_eq_getElem hl)
    rw [List.take_of_length_le (by rw [chanceL_len]; exact Nat.le_refl _)] at q
    exact q
  have fb := prod_fb (chanceL n h m) 5 (fun f hf => (chanceL_fb hn f hf).mono (by decide)) (Nat.le_of_lt hl)
  have f5 := chanceL_fb (h := h) (m := m) hn _ (List.getElem_mem hl)
  rw [e, prod_snoc] at z ⊢
  exact frac_zero (Nat.mul_pos fb.p f5.p) z
theorem came_fold (n h : Nat) : Uw67.came n h = (List.range 64).foldl (likStep n h) (0, Uw67.chance n 0 (0 ^^^ h)) := by
  unfold Uw67.came likStep Uw67.chance
  rfl
theorem lik_came {n : Nat} (h : Nat) (hn : n ∈ ns) : (List.range 64).foldl (likStep n h) (0, Uw67.zero) = Uw67.came n h := by
  rw [came_fold]
  rw [show List.range 64 = 0 :: (List.range 63).map Nat.succ from List.range_succ_eq_map, List.foldl_cons, List.foldl_cons]
  congr 1
  unfold likStep
  have e2 : (if Uw67.less (Uw67.chance n 0 (0 ^^^ h)) (Uw67.chance n 0 (0 ^^^ h)) = true then (0, Uw67.chance n 0 (0 ^^^ h)) else (0, Uw67.chance n 0 (0 ^^^ h))) = ((0, Uw67.chance n 0 (0 ^^^ h)) : Nat × Frac) := by split <;> rfl
  show (if Uw67.less Uw67.zero (Uw67.chance n 0 (0 ^^^ h)) = true then _ else _) = (if Uw67.less (Uw67.chance n 0 (0 ^^^ h)) (Uw67.chance n 0 (0 ^^^ h)) = true then _ else _)
  rw [e2]
  by_cases c : Uw67.less Uw67.zero (Uw67.chance n 0 (0 ^^^ h)) = true
  · rw [if_pos c]
  · rw [if_neg c]
    have z : (Uw67.chance n 0 (0 ^^^ h)).u = 0 := by
      unfold Uw67.less at c
      have c' : ¬ (0 * (Uw67.chance n 0 (0 ^^^ h)).l < (Uw67.chance n 0 (0 ^^^ h)).u * 1) := fun q => c (decide_eq_true q)
      omega
    rw [chance_zero hn z]
theorem lik_self {n h : Nat} : ∀ (l : List Nat) (b : Nat × Frac), b.2 = Uw67.chance n b.1 (b.1 ^^^ h) → (l.foldl (likStep n h) b).2 = Uw67.chance n (l.foldl (likStep n h) b).1 ((l.foldl (likStep n h) b).1 ^^^ h)
  | [], b, e => e
  | g :: l, b, e => by
    rw [List.foldl_cons]
    refine lik_self l _ ?_
    unfold likStep
    split
    · rfl
    · exact e
theorem came_self (n h : Nat) : (Uw67.came n h).2 = Uw67.chance n (Uw67.came n h).1 ((Uw67.came n h).1 ^^^ h) := by
  rw [came_fold]
  generalize List.range 64 = l
  exact lik_self l _ rfl
theorem lik_fb {n h : Nat} (hn : n ∈ ns) : ∀ (l : List Nat) (b : Nat × Frac), Fb 1500 b.2 → Fb 1500 (l.foldl (likStep n h) b).2
  | [], b, e => e
  | g :: l, b, e => by
    rw [List.foldl_cons]
    refine lik_fb hn l _ ?_
    unfold likStep
    split
    · exact chance_fb hn
    · exact e
end SL
set_option Elab.async false
set_option linter.all false
set_option maxRecDepth 100000
set_option maxHeartbeats 4000000
namespace SL
open PySem PySem.Spec PyProof.Rows L2
open Uw67 (Frac frac plus times)
section
variable {P : Program} {w : World} {K : PySem.W.Frag} {mg : Str → Option Value} {base : Heap}
theorem scChOf : FnScope ["odds", "hexagram", "moving", "place"] ["odds", "hexagram", "moving"] (defScope sChOf) := ⟨rfl, rfl, rfl, by decide +kernel, rfl, by decide +kernel, by decide +kernel⟩
theorem ok_chof {f C : Addr} {fd : FuncData} (F : Fun K "chance_of" "chance_of" sChOf f fd) (X : Txt K mg) (GA : GF P w K mg base 1 "line_at" ["hexagram", "moving", "place"] spAt)
    (GR : GF P w K mg base 5 "product_of" ["fractions"] (spProd K C)) : FnOk P w K mg base CX0 6 f fd ["odds", "hexagram", "moving"] (spChOf C) := by
  refine F.ok scChOf (fun vs H Q E h => ?_) (fun cdv A outer s H vs Q E hr h => ?_)
  · obtain ⟨od, h, m, n, rfl, _⟩ := h; rfl
  · obtain ⟨od, h, m, n, rfl, ⟨kvs, hq, dm⟩, hn, k⟩ := h
    have hr1 : Room 1 _ := hr.mono (by decide)
    have hu := hu_of hr
    refine ⟨_, pss_one (ps_ret (pe_gf GR hr rfl (pa_cons (pe_lc (own := [("place", 3)]) rfl scChOf.nd (pi_range1 rfl X.range (pa_cons (pe_ciK X.lns) pa_nil)) (blkOk_by (N := ["odds", "hexagram", "moving", "place"]) (sc := defScope sChOf) (by decide +kernel))
        (fun s H C cl fp => pg_name (i := 3) scChOf.nd rfl (Or.inl rfl)) (fun s H C cl fp => pts_nil) (fun s H C cl fp => pe_dget hu (pv 0) (pe_gf GA hr1 rfl (pa_cons (pv 1) (pa_cons (pv 2) (pa_cons (pv 3) pa_nil)))) (fun _ _ => rfl))) pa_nil))), ?_⟩
    refine ⟨6, rfl, by decide, by decide, fun D hD => lc_range (lo := 0) (n := 6) (fun i H' => ∃ as, H' D = some (.lst (as.map V.ref)) ∧ Fracs C H' as ((chanceL n h m).take i) ∧ Same H H' ∧ as.length = i) ⟨[], upd_same, .nil, Same.new hD, rfl⟩ ?_ ?_⟩
    · rintro i H' hi ⟨as, hl, hFs, s5, al⟩
      have kr := kind_range (Uw67.bit h i) (Uw67.bit m i)
      obtain ⟨az, ez, hFz⟩ := odds_at dm kr.1 kr.2
      rw [show (0 : Int) + (i : Int) = ((i : Nat) : Int) by omega]
      refine ⟨rfl, _, rfl, _, rfl, _, rfl, _, rfl, h, m, i, rfl, od, .ref az, rfl, .inl ⟨kvs, kN _, .inl (s5 _ _ hq), rfl, ez.symm⟩, _, hl, ?_, as ++ [az], ?_, ?_, Same.upd s5 hD, ?_⟩
      · rw [List.length_map, al]
        exact Nat.lt_trans hi (by decide)
      · rw [upd_same, List.map_append]
        rfl
      · rw [take_snoc (show (chanceL n h m)[i]? = some (Uw67.odds n (Uw67.kind (Uw67.bit h i) (Uw67.bit m i))) from range_map_get _ hi)]
        exact ((hFs.sxL hl ((SX.refl D H').put _)).snoc ((hFz.same s5).sxL hl ((SX.refl D H').put _)))
      · rw [List.length_append, al]; rfl
    · rintro H' ⟨as, hl, hFs, s5, al⟩
      rw [List.take_of_length_le (by rw [chanceL_len]; exact Nat.le_refl _)] at hFs
      refine ⟨D, as, chanceL n h m, rfl, SqL.of hl, hFs, fun f hf => (chanceL_fb hn f hf).mono (by decide), by rw [chanceL_len]; decide, fun H2 x hx hFx s2 => ?_⟩
      rw [← chance_eq] at hFx
      exact k H2 x (s5.free hx) hFx (s5.trans s2)
theorem scChBec : FnScope ["odds", "hexagram", "whole", "broken", "line"] ["odds", "hexagram"] (defScope sChBec) := ⟨rfl, rfl, rfl, by decide +kernel, rfl, by decide +kernel, by decide +kernel⟩
theorem ok_chbec {f C : Addr} {fd : FuncData} (F : Fun K "chance_of_becoming" "chance_of_becoming" sChBec f fd) (GP : GM P w K mg base C 4 "plus" ["self", "other"] (spFP C plus)) (GL : GF P w K mg base 1 "lines_of" ["hexagram"] spLof)
    (GR : GF P w K mg base 5 "product_of" ["fractions"] (spProd K C)) : FnOk P w K mg base CX0 6 f fd ["odds", "hexagram"] (spChBec C) := by
  refine F.ok scChBec (fun vs H Q E h => ?_) (fun cdv A outer s H vs Q E hr h => ?_)
  · obtain ⟨od, h, n, rfl, _⟩ := h; rfl
  · obtain ⟨od, h, n, rfl, ⟨kvs, hq, dm⟩, hn, k⟩ := h
    have hr1 : Room 1 _ := hr.mono (by decide)
    have hr4 : Room 4 _ := hr.mono (by decide)
    have hu := hu_of hr
    refine ⟨_, (pss_cons (ps_set (i := 2) scChBec.nd rfl (Or.inr rfl) (pe_gm GP hr4 (pe_dget hu (pv 0) pe_int (fun _ _ => rfl)) (pa_cons (pe_dget hu (pv 0) pe_int (fun _ _ => rfl)) pa_nil))) <|
      pss_cons (ps_set (i := 3) scChBec.nd rfl (Or.inr rfl) (pe_gm GP hr4 (pe_dget hu (pv 0) pe_int (fun _ _ => rfl)) (pa_cons (pe_dget hu (pv 0) pe_int (fun _ _ => rfl)) pa_nil))) <|
      pss_one (ps_ret (pe_gf GR hr rfl (pa_cons (pe_lc (own := [("line", 4)]) rfl scChBec.nd (pi_list (pe_gf GL hr1 rfl (pa_cons (pv 1) pa_nil))) (blkOk_by (N := ["odds", "hexagram", "whole", "broken", "line"]) (sc := defScope sChBec) (by decide +kernel))
        (fun s H C cl fp => pg_name (i := 4) scChBec.nd rfl (Or.inl rfl)) (fun s H C cl fp => pts_nil) (fun s H C cl fp => pe_ifExp (pt_cmpR op_eq (pv 4) pe_int (nomark _)) (pv 2) (pv 3))) pa_nil)))), ?_⟩
    obtain ⟨a6, e6, hF6⟩ := odds_at dm (x := 6) (by decide) (by decide)
    obtain ⟨a7, e7, hF7⟩ := odds_at dm (x := 7) (by decide) (by decide)
    obtain ⟨a8, e8, hF8⟩ := odds_at dm (x := 8) (by decide) (by decide)
    obtain ⟨a9, e9, hF9⟩ := odds_at dm (x := 9) (by decide) (by decide)
    have b6 : Fb 64 (Uw67.odds n 6) := odds_fb hn (by decide) (by decide)
    have b7 : Fb 64 (Uw67.odds n 7) := odds_fb hn (by decide) (by decide)
    have b8 : Fb 64 (Uw67.odds n 8) := odds_fb hn (by decide) (by decide)
    have b9 : Fb 64 (Uw67.odds n 9) := odds_fb hn (by decide) (by decide)
    obtain ⟨d7, h7⟩ := id hF7
    refine ⟨_, rfl, od, .ref a7, rfl, .inl ⟨kvs, kN 7, .inl hq, rfl, e7.symm⟩, a7, d7, _, rfl, h7, ff_no _ (by decide +kernel) (by decide +kernel), _, rfl, od, .ref a6, rfl, .inl ⟨kvs, kN 6, .inl hq, rfl, e6.symm⟩,
      a7, a6, _, _, rfl, hF7, hF6, b7.mono (by decide), b6.mono (by decide), fun H2 xw hxw hFw s2 => ?_⟩
    obtain ⟨d8, h8⟩ := id (hF8.same s2)
    have hq2 := s2 _ _ hq
    refine ⟨_, rfl, od, .ref a8, rfl, .inl ⟨kvs, kN 8, .inl hq2, rfl, e8.symm⟩, a8, d8, _, rfl, h8, ff_no _ (by decide +kernel) (by decide +kernel), _, rfl, od, .ref a9, rfl, .inl ⟨kvs, kN 9, .inl hq2, rfl, e9.symm⟩,
      a8, a9, _, _, rfl, hF8.same s2, hF9.same s2, b8.mono (by decide), b9.mono (by decide), fun H3 xb hxb hFb s3 => ?_⟩
    have s13 := s2.trans s3
    refine ⟨_, rfl, h, rfl, fun H4 p hp hq4 s4 => ?_⟩
    have hFw4 := (hFw.same s3).same s4
    have hFb4 := hFb.same s4
    refine ⟨p, rfl, ⟨_, SqL.of hq4⟩, fun D hD => lc_list (K := K) (a := p) (xs := nV (Uw67.linesOf h)) (fun i H' => ∃ as, H' D = some (.lst (as.map V.ref)) ∧ Fracs C H' as ((becomesL n h).take i) ∧ Same H4 H' ∧ as.length = i) ⟨[], upd_same, .nil, Same.new hD, rfl⟩ (fun i H' _ ⟨_, _, _, s5, _⟩ => SqL.of (s5 _ _ hq4)) ?_ ?_⟩
    · rintro i y H' hi ⟨as, hl, hFs, s5, al⟩
      obtain ⟨b, hb, rfl⟩ := nV_get hi
      have hil : i < 6 := by
        have q := (List.getElem?_eq_some_iff.mp hb).1
        rw [linesOf_len] at q
        exact q
      have hm : (becomesL n h)[i]? = some (Uw67.behind n b) := by
        unfold becomesL
        rw [List.getElem?_map, hb]
        rfl
      have hb1 : b ≤ 1 := linesOf_le (List.mem_of_getElem? hb)
      have fin : ∀ az, FracAt C H4 az (Uw67.behind n b) → ∃ acc, H' D = some (.lst acc) ∧ acc.length < sizeLine ∧ ∃ as', (L2.upd H' D (.lst (acc ++ [.ref az]))) D = some (.lst (as'.map V.ref)) ∧
          Fracs C (L2.upd H' D (.lst (acc ++ [.ref az]))) as' ((becomesL n h).take (i + 1)) ∧ Same H4 (L2.upd H' D (.lst (acc ++ [.ref az]))) ∧ as'.length = i + 1 := by
        intro az hFz
        refine ⟨_, hl, ?_, as ++ [az], ?_, ?_, Same.upd s5 hD, ?_⟩
        · rw [List.length_map, al]
          exact Nat.lt_trans hil (by decide)
        · rw [upd_same, List.map_append]
          rfl
        · rw [take_snoc hm]
          exact ((hFs.sxL hl ((SX.refl D H').put _)).snoc ((hFz.same s5).sxL hl ((SX.refl D H').put _)))
        · rw [List.length_append, al]; rfl
      refine ⟨rfl, _, rfl, rfl, _, rfl, ?_⟩
      unfold Uw67.behind at fin
      by_cases q : b = 1
      · rw [if_pos q] at fin
        refine eqT (by omega) ⟨_, rfl, fin xw hFw4⟩
      · rw [if_neg q] at fin
        refine eqF (by omega) ⟨_, rfl, fin xb hFb4⟩
    · rintro H' ⟨as, hl, hFs, s5, al⟩
      have cl : (becomesL n h).length = 6 := by unfold becomesL; rw [List.length_map, linesOf_len]
      rw [List.take_of_length_le (by rw [nV_length, linesOf_len, cl]; exact Nat.le_refl _)] at hFs
      have sA := (s13.trans s4).trans s5
      refine ⟨D, as, becomesL n h, rfl, SqL.of hl, hFs, fun f hf => ?_, by rw [cl]; decide, fun H6 x hx hFx s6 => ?_⟩
      · obtain ⟨b, _, rfl⟩ := List.mem_map.mp hf
        unfold Uw67.behind
        split
        · exact (plus_fb b7 b6).mono (by decide)
        · exact (plus_fb b8 b9).mono (by decide)
      · rw [← becomes_eq] at hFx
        exact k H6 x (sA.free hx) hFx (sA.trans s6)
end
end SL
set_option Elab.async false
set_option linter.all false
set_option maxRecDepth 100000
set_option maxHeartbeats 4000000
namespace SL
open PySem PySem.Spec PyProof.Rows L2
open Uw67 (Frac frac plus times)
theorem rep_ref (a : Addr) : ∀ c : Nat, (List.replicate c [V.ref a]).flatten = (List.replicate c a).map V.ref
  | 0 => rfl
  | c + 1 => by
    rw [List.replicate_succ, List.replicate_succ, List.flatten_cons, rep_ref a c]
    rfl
theorem Fracs.rep {C : Addr} {H : Hp} {a : Addr} {f : Frac} (h : FracAt C H a f) : ∀ c : Nat, Fracs C H (List.replicate c a) (List.replicate c f)
  | 0 => .nil
  | c + 1 => by
    rw [List.replicate_succ, List.replicate_succ]
    exact .cons h (Fracs.rep h c)
theorem Fracs.append {C : Addr} {H : Hp} {as bs : List Addr} {fs gs : List Frac} (h : Fracs C H as fs) (q : Fracs C H bs gs) : Fracs C H (as ++ bs) (fs ++ gs) := by
  unfold Fracs at *
  induction h with
  | nil => exact q
  | cons r t ih => exact .cons r ih
theorem movL_fb {n c : Nat} (hn : n ∈ ns) (hc : c ≤ 6) : ∀ f ∈ movL n c, Fb 200 f := fun f hf => by
  have b6 : Fb 64 (Uw67.odds n 6) := odds_fb hn (by decide) (by decide)
  have b7 : Fb 64 (Uw67.odds n 7) := odds_fb hn (by decide) (by decide)
  have b8 : Fb 64 (Uw67.odds n 8) := odds_fb hn (by decide) (by decide)
  have b9 : Fb 64 (Uw67.odds n 9) := odds_fb hn (by decide) (by decide)
  unfold movL at hf
  rcases List.mem_cons.mp hf with e | e
  · rw [e]
    have q := ways_le c (by omega)
    exact (frac_fb (k := 5) (Nat.lt_of_le_of_lt q (by decide)) (by decide) (by decide)).mono (by decide)
  · rcases List.mem_append.mp e with e | e
    · rw [(List.mem_replicate.mp e).2]
      exact (plus_fb b6 b9).mono (by decide)
    · rw [(List.mem_replicate.mp e).2]
      exact (plus_fb b7 b8).mono (by decide)
section
variable {P : Program} {w : World} {K : PySem.W.Frag} {mg : Str → Option Value} {base : Heap}
theorem scChMov : FnScope ["odds", "count", "moves", "rests", "ways", "chosen"] ["odds", "count"] (defScope sChMov) := ⟨rfl, rfl, rfl, by decide +kernel, rfl, by decide +kernel, by decide +kernel⟩
theorem ok_chmov {f C : Addr} {fd : FuncData} (F : Fun K "chance_of_moving" "chance_of_moving" sChMov f fd) (X : Txt K mg) (G : GC P w K mg base C 2 "Fraction" ["self", "above", "below"] (spFI C)) (GP : GM P w K mg base C 4 "plus" ["self", "other"] (spFP C plus))
    (GR : GF P w K mg base 5 "product_of" ["fractions"] (spProd K C)) : FnOk P w K mg base CX0 6 f fd ["odds", "count"] (spChMov C) := by
  refine F.ok scChMov (fun vs H Q E h => ?_) (fun cdv A outer s H vs Q E hr h => ?_)
  · obtain ⟨od, c, n, rfl, _⟩ := h; rfl
  · obtain ⟨od, c, n, rfl, ⟨kvs, hq, dm⟩, hn, hc, k⟩ := h
    have hr3 : Room 3 _ := hr.mono (by decide)
    have hr4 : Room 4 _ := hr.mono (by decide)
    have hu := hu_of hr
    refine ⟨_, (pss_cons (ps_set (i := 2) scChMov.nd rfl (Or.inl rfl) (pe_gm GP hr4 (pe_dget hu (pv 0) pe_int (fun _ _ => rfl)) (pa_cons (pe_dget hu (pv 0) pe_int (fun _ _ => rfl)) pa_nil))) <|
      pss_cons (ps_set (i := 3) scChMov.nd rfl (Or.inl rfl) (pe_gm GP hr4 (pe_dget hu (pv 0) pe_int (fun _ _ => rfl)) (pa_cons (pe_dget hu (pv 0) pe_int (fun _ _ => rfl)) pa_nil))) <|
      pss_cons (ps_set (i := 4) scChMov.nd rfl (Or.inl rfl) pe_int) <|
      pss_cons (ps_for PassesOwn.never rfl (pi_range1 rfl X.range (pa_cons (pv 1) pa_nil)) (pg_name (i := 5) scChMov.nd rfl (Or.inl rfl)) <|
        pss_one (ps_set (i := 4) scChMov.nd rfl (Or.inl rfl) (pe_op (opEC op_fdiv) (pe_op (opEC op_mul) (pv 4) (pe_op (opE op_sub) (pe_ciK X.lns) (pv 5))) (pe_op (opE op_add) (pv 5) pe_int)))) <|
      pss_one (ps_ret (pe_gf GR hr rfl (pa_cons (pe_op op_cat (pe_op op_cat (pe_lst (pa_cons (pe_gc G hr3 rfl (pa_cons (pv 4) (pa_cons pe_int pa_nil))) pa_nil)) (pe_op op_rep (pe_lst (pa_cons (pv 2) pa_nil)) (pv 1)))
        (pe_op op_rep (pe_lst (pa_cons (pv 3) pa_nil)) (pe_op (opE op_sub) (pe_ciK X.lns) (pv 1)))) pa_nil)))), ?_⟩
    obtain ⟨a6, e6, hF6⟩ := odds_at dm (x := 6) (by decide) (by decide)
    obtain ⟨a7, e7, hF7⟩ := odds_at dm (x := 7) (by decide) (by decide)
    obtain ⟨a8, e8, hF8⟩ := odds_at dm (x := 8) (by decide) (by decide)
    obtain ⟨a9, e9, hF9⟩ := odds_at dm (x := 9) (by decide) (by decide)
    have b6 : Fb 64 (Uw67.odds n 6) := odds_fb hn (by decide) (by decide)
    have b7 : Fb 64 (Uw67.odds n 7) := odds_fb hn (by decide) (by decide)
    have b8 : Fb 64 (Uw67.odds n 8) := odds_fb hn (by decide) (by decide)
    have b9 : Fb 64 (Uw67.odds n 9) := odds_fb hn (by decide) (by decide)
    obtain ⟨d6, h6⟩ := id hF6
    refine ⟨_, rfl, od, .ref a6, rfl, .inl ⟨kvs, kN 6, .inl hq, rfl, e6.symm⟩, a6, d6, _, rfl, h6, ff_no _ (by decide +kernel) (by decide +kernel), _, rfl, od, .ref a9, rfl, .inl ⟨kvs, kN 9, .inl hq, rfl, e9.symm⟩,
      a6, a9, _, _, rfl, hF6, hF9, b6.mono (by decide), b9.mono (by decide), fun H2 xm hxm hFm s2 => ?_⟩
    obtain ⟨d7, h7⟩ := id (hF7.same s2)
    have hq2 := s2 _ _ hq
    refine ⟨_, rfl, od, .ref a7, rfl, .inl ⟨kvs, kN 7, .inl hq2, rfl, e7.symm⟩, a7, d7, _, rfl, h7, ff_no _ (by decide +kernel) (by decide +kernel), _, rfl, od, .ref a8, rfl, .inl ⟨kvs, kN 8, .inl hq2, rfl, e8.symm⟩,
      a7, a8, _, _, rfl, hF7.same s2, hF8.same s2, b7.mono (by decide), b8.mono (by decide), fun H3 xr hxr hFr s3 => ?_⟩
    have hFm3 := hFm.same s3
    have s13 := s2.trans s3
    refine ⟨_, rfl, (c : Int), rfl, by omega, by omega, for_range (lo := 0) (n := (c : Int).toNat) (fun i σ H' => H' = H3 ∧ ∃ v5 : Option V, σ = [some (.ref od), some (.int c), some (.ref xm), some (.ref xr), some (.int (Uw67.choose 6 i : Nat)), v5]) ⟨rfl, none, rfl⟩ ?_ ?_⟩
    · rintro i σ H' hi ⟨rfl, v5, rfl⟩
      have hi6 : i < 6 := by omega
      have wl := ways_le i (by omega)
      have wn := ways_next i hi6
      rw [show (0 : Int) + (i : Int) = ((i : Nat) : Int) by omega]
      refine ⟨_, rfl, _, rfl, _, _, ((6 - i : Nat) : Int), rfl, rfl, by omega, _, _, ((Uw67.choose 6 i * (6 - i) : Nat) : Int), rfl, rfl, .inl ⟨by omega, by omega⟩, (Int.natCast_mul _ _).symm, _, rfl, _, _, ((i + 1 : Nat) : Int), rfl, rfl, rfl, _, _, ((Uw67.choose 6 (i + 1) : Nat) : Int), rfl, rfl, ⟨by omega, by omega⟩, ?_, rfl, some (.int (i : Nat)), rfl⟩
      rw [← wn]
      rfl
    · rintro σ H' ⟨rfl, v5, rfl⟩
      rw [Int.toNat_natCast]
      have wl := ways_le c (by omega)
      -- [Fraction(ways, 1)]
      refine ⟨_, rfl, fun x0 dx0 hx0 hd0 _ => ⟨x0, dx0, Uw67.choose 6 c, 1, rfl, upd_same, by decide, lt_big (k := 1) (by decide) (by decide), fun H4 hF0 kp => ⟨rfl, ?_⟩⟩⟩
      have s4 : Same H' H4 := Same.made hx0 hd0 kp
      refine ⟨(by show 1 ≤ sizeLine; decide), fun l1 hl1 => ?_⟩
      have s5 : Same H4 (L2.upd H4 l1 (.lst [.ref x0])) := Same.new hl1
      have q1 : (L2.upd H4 l1 (.lst [.ref x0])) l1 = some (.lst [.ref x0]) := upd_same
      generalize L2.upd H4 l1 (.lst [.ref x0]) = H5 at s5 q1 ⊢
      -- [moves] * count
      refine ⟨_, rfl, (by show 1 ≤ sizeLine; decide), fun l2 hl2 => ?_⟩
      have s6 : Same H5 (L2.upd H5 l2 (.lst [.ref xm])) := Same.new hl2
      have q2 : (L2.upd H5 l2 (.lst [.ref xm])) l2 = some (.lst [.ref xm]) := upd_same
      generalize L2.upd H5 l2 (.lst [.ref xm]) = H6 at s6 q2 ⊢
      refine ⟨_, rfl, l2, _, _, rfl, rfl, q2, by omega, by omega, (by show 1 * (c : Int).toNat ≤ sizeLine; exact Nat.le_trans (show 1 * (c : Int).toNat ≤ 6 by omega) (by decide)), fun l3 hl3 => ?_⟩
      rw [Int.toNat_natCast, rep_ref]
      have s7 : Same H6 (L2.upd H6 l3 (.lst ((List.replicate c xm).map V.ref))) := Same.new hl3
      have q3 : (L2.upd H6 l3 (.lst ((List.replicate c xm).map V.ref))) l3 = some (.lst ((List.replicate c xm).map V.ref)) := upd_same
      generalize L2.upd H6 l3 (.lst ((List.replicate c xm).map V.ref)) = H7 at s7 q3 ⊢
      refine ⟨l1, l3, _, _, rfl, rfl, s7 _ _ (s6 _ _ q1), q3, ?_, fun l4 hl4 => ?_⟩
      · rw [List.length_map, List.length_replicate]
        exact Nat.le_trans (show 1 + c ≤ 7 by omega) (by decide)
      have s8 : Same H7 (L2.upd H7 l4 (.lst ([.ref x0] ++ (List.replicate c xm).map V.ref))) := Same.new hl4
      have q4 : (L2.upd H7 l4 (.lst ([.ref x0] ++ (List.replicate c xm).map V.ref))) l4 = some (.lst ([.ref x0] ++ (List.replicate c xm).map V.ref)) := upd_same
      generalize L2.upd H7 l4 (.lst ([.ref x0] ++ (List.replicate c xm).map V.ref)) = H8 at s8 q4 ⊢
      -- [rests] * (6 - count)
      refine ⟨_, rfl, (by show 1 ≤ sizeLine; decide), fun l5 hl5 => ?_⟩
      have s9 : Same H8 (L2.upd H8 l5 (.lst [.ref xr])) := Same.new hl5
      have q5 : (L2.upd H8 l5 (.lst [.ref xr])) l5 = some (.lst [.ref xr]) := upd_same
      generalize L2.upd H8 l5 (.lst [.ref xr]) = H9 at s9 q5 ⊢
      refine ⟨_, rfl, _, _, ((6 - c : Nat) : Int), rfl, rfl, by omega, l5, _, _, rfl, rfl, q5, by omega, by omega, (by show 1 * ((6 - c : Nat) : Int).toNat ≤ sizeLine; exact Nat.le_trans (show 1 * ((6 - c : Nat) : Int).toNat ≤ 6 by omega) (by decide)), fun l6 hl6 => ?_⟩
      rw [Int.toNat_natCast, rep_ref]
      have s10 : Same H9 (L2.upd H9 l6 (.lst ((List.replicate (6 - c) xr).map V.ref))) := Same.new hl6
      have q6 : (L2.upd H9 l6 (.lst ((List.replicate (6 - c) xr).map V.ref))) l6 = some (.lst ((List.replicate (6 - c) xr).map V.ref)) := upd_same
      generalize L2.upd H9 l6 (.lst ((List.replicate (6 - c) xr).map V.ref)) = H10 at s10 q6 ⊢
      refine ⟨l4, l6, _, _, rfl, rfl, s10 _ _ (s9 _ _ q4), q6, ?_, fun l7 hl7 => ?_⟩
      · rw [List.length_append, List.length_map, List.length_map, List.length_replicate, List.length_replicate]
        exact Nat.le_trans (show 1 + c + (6 - c) ≤ 7 by omega) (by decide)
      have ea : ([.ref x0] ++ (List.replicate c xm).map V.ref) ++ (List.replicate (6 - c) xr).map V.ref = (x0 :: (List.replicate c xm ++ List.replicate (6 - c) xr)).map V.ref := by
        rw [List.map_cons, List.map_append]
        rfl
      rw [ea]
      have s11 : Same H10 (L2.upd H10 l7 (.lst ((x0 :: (List.replicate c xm ++ List.replicate (6 - c) xr)).map V.ref))) := Same.new hl7
      have sA : Same H4 (L2.upd H10 l7 (.lst ((x0 :: (List.replicate c xm ++ List.replicate (6 - c) xr)).map V.ref))) := (((((s5.trans s6).trans s7).trans s8).trans s9).trans s10).trans s11
      have sB := s4.trans sA
      refine ⟨l7, x0 :: (List.replicate c xm ++ List.replicate (6 - c) xr), movL n c, rfl, SqL.of upd_same, .cons (hF0.same sA) (Fracs.append (Fracs.rep (hFm3.same sB) c) (Fracs.rep (hFr.same sB) (6 - c))), movL_fb hn hc, ?_, fun H12 x hx hFx s12 => ?_⟩
      · unfold movL
        rw [List.length_cons, List.length_append, List.length_replicate, List.length_replicate]
        omega
      · rw [mov_all n hn c (by omega)] at hFx
        have sC := s13.trans sB
        exact k H12 x (sC.free hx) hFx (sC.trans s12)
theorem scLik : FnScope ["odds", "hexagram", "likeliest", "greatest", "origin", "chance"] ["odds", "hexagram"] (defScope sLik) := ⟨rfl, rfl, rfl, by decide +kernel, rfl, by decide +kernel, by decide +kernel⟩
theorem ok_lik {f C : Addr} {fd : FuncData} (F : Fun K "likeliest_origin" "likeliest_origin" sLik f fd) (X : Txt K mg) (TH : TxH K mg) (G : GC P w K mg base C 2 "Fraction" ["self", "above", "below"] (spFI C)) (GX : GM P w K mg base C 1 "exceeds" ["self", "other"] (spFX C))
    (GCh : GF P w K mg base 6 "chance_of" ["odds", "hexagram", "moving"] (spChOf C)) : FnOk P w K mg base CX0 7 f fd ["odds", "hexagram"] (spLik C) := by
  refine F.ok scLik (fun vs H Q E h => ?_) (fun cdv A outer s H vs Q E hr h => ?_)
  · obtain ⟨od, h, n, rfl, _⟩ := h; rfl
  · obtain ⟨od, h, n, rfl, hO, hn, k⟩ := h
    have hr1 : Room 1 _ := hr.mono (by decide)
    have hr3 : Room 3 _ := hr.mono (by decide)
    refine ⟨_, (pss_cons (ps_set (i := 2) scLik.nd rfl (Or.inl rfl) pe_int) <|
      pss_cons (ps_set (i := 3) scLik.nd rfl (Or.inl rfl) (pe_gc G hr3 rfl (pa_cons pe_int (pa_cons pe_int pa_nil)))) <|
      pss_cons (ps_for PassesOwn.never rfl (pi_range1 rfl X.range (pa_cons (pe_op (opE op_add) (pe_ciK TH.hex) pe_int) pa_nil)) (pg_name (i := 4) scLik.nd rfl (Or.inl rfl)) <|
        pss_cons (ps_set (i := 5) scLik.nd rfl (Or.inl rfl) (pe_gf GCh hr rfl (pa_cons (pv 0) (pa_cons (pv 4) (pa_cons (pe_op (opE op_xor) (pv 4) (pv 1)) pa_nil))))) <|
        pss_one (ps_if (pt_truth (pe_gm GX hr1 (pv 5) (pa_cons (pv 3) pa_nil)) (fun _ => rfl)) (pss_cons (ps_set (i := 2) scLik.nd rfl (Or.inl rfl) (pv 4)) <| pss_one (ps_set (i := 3) scLik.nd rfl (Or.inl rfl) (pv 5))) pss_nil)) <|
      pss_one (ps_ret (pv 2))), ?_⟩
    refine fun x0 dx0 hx0 hd0 _ => ⟨x0, dx0, 0, 1, rfl, upd_same, by decide, lt_big (k := 1) (by decide) (by decide), fun H1 hF0 kp => ⟨rfl, ?_⟩⟩
    have s1 : Same H H1 := Same.made hx0 hd0 kp
    have hF0 : FracAt C H1 x0 Uw67.zero := hF0
    refine ⟨_, _, 64, rfl, rfl, rfl, 64, rfl, by decide, by decide, for_range (lo := 0) (n := 64) (fun i σ H' => ∃ (g : Addr) (v4 v5 : Option V), σ = [some (.ref od), some (.int h), some (.int (((List.range i).foldl (likStep n h) (0, Uw67.zero)).1 : Nat)), some (.ref g), v4, v5] ∧
      FracAt C H' g ((List.range i).foldl (likStep n h) (0, Uw67.zero)).2 ∧ Same H H') ⟨x0, none, none, rfl, hF0, s1⟩ ?_ ?_⟩
    · rintro i σ H' hi ⟨g, v4, v5, rfl, hFg, s5⟩
      rw [show (0 : Int) + (i : Int) = ((i : Nat) : Int) by omega]
      have fb := lik_fb (h := h) hn (List.range i) (0, Uw67.zero) ⟨by decide, by decide, by decide⟩
      have es : (List.range (i + 1)).foldl (likStep n h) (0, Uw67.zero) = likStep n h ((List.range i).foldl (likStep n h) (0, Uw67.zero)) i := by
        rw [List.range_succ, List.foldl_append]
        rfl
      rw [es]
      generalize (List.range i).foldl (likStep n h) (0, Uw67.zero) = b at hFg fb ⊢
      refine ⟨_, rfl, _, rfl, _, rfl, _, rfl, _, _, ((i ^^^ h : Nat) : Int), rfl, rfl, Bits.bitXor_pp (by omega) (by omega), od, i, i ^^^ h, n, rfl, hO.same s5, hn, fun H2 x hx hFx s2 => ?_⟩
      have hFg2 := hFg.same s2
      obtain ⟨dx, hxx⟩ := id hFx
      refine ⟨_, rfl, x, dx, _, rfl, hxx, ff_no _ (by decide +kernel) (by decide +kernel), _, rfl, x, g, _, _, rfl, hFx, hFg2, chance_fb hn, fb, _, rfl, ?_⟩
      unfold likStep
      refine ite2 (fun z => ?_) (fun z => ?_)
      · rw [if_pos z]
        exact ⟨_, rfl, _, rfl, x, some (.int (i : Nat)), some (.ref x), rfl, hFx, s5.trans s2⟩
      · rw [if_neg z]
        exact ⟨g, some (.int (i : Nat)), some (.ref x), rfl, hFg2, s5.trans s2⟩
    · rintro σ H' ⟨g, v4, v5, rfl, hFg, s5⟩
      refine ⟨_, rfl, ?_⟩
      rw [lik_came h hn]
      exact k H' s5
end
end SL
set_option Elab.async false
set_option linter.all false
set_option maxRecDepth 100000
set_option maxHeartbeats 4000000
namespace SL
open PySem PySem.Spec PyProof.Rows L2
open Uw67 (Frac frac plus times)
def spMoving (B : Addr) : Sp := fun vs H Q _ => ∃ (a : Addr) (n c : Nat), vs = [.ref a, .int c] ∧ BunAt B H a n ∧ n ∈ ns ∧ Ans B H a n (Uw67.step n (.moving c)).2 Q
def spCame (B : Addr) : Sp := fun vs H Q _ => ∃ (a : Addr) (n h : Nat), vs = [.ref a, .int h] ∧ BunAt B H a n ∧ n ∈ ns ∧ Ans B H a n (Uw67.step n (.came h)).2 Q
def spTurned (B : Addr) : Sp := fun vs H Q _ => ∃ (a : Addr) (n h : Nat), vs = [.ref a, .int h] ∧ BunAt B H a n ∧ Ans B H a n (Uw67.step n (.turned h)).2 Q
def spFamily (B : Addr) : Sp := fun vs H Q _ => ∃ (a : Addr) (n h : Nat), vs = [.ref a, .int h] ∧ BunAt B H a n ∧ Ans B H a n (Uw67.step n (.family h)).2 Q
def spCores (B : Addr) : Sp := fun vs H Q _ => ∃ (a : Addr) (n h : Nat), vs = [.ref a, .int h] ∧ BunAt B H a n ∧ Ans B H a n (Uw67.step n (.cores h)).2 Q
def spPairs (K : PySem.W.Frag) (B : Addr) : Sp := fun vs H Q _ => ∃ (a l : Addr) (n : Nat) (os : List Nat), vs = [.ref a, .ref l] ∧ BunAt B H a n ∧ SqL K H l (nV os) ∧ os.length = 64 ∧ Ans B H a n (Uw67.step n (.pairs os)).2 Q
theorem hex_bad {n h : Nat} {f : Unit → List Int} (z : 63 < h) : (Uw67.onHex n h f).2 = [-1] := by
  show (if 63 < h then [-1] else _) = _
  rw [if_pos z]
theorem hex_ok {n h : Nat} {f : Unit → List Int} (z : ¬ 63 < h) : (Uw67.onHex n h f).2 = f () := by
  show (if 63 < h then [-1] else _) = _
  rw [if_neg z]
section
variable {P : Program} {w : World} {K : PySem.W.Frag} {mg : Str → Option Value} {base : Heap}
/-- [OUT_OF_RANGE] -/
theorem out_of {B : Addr} {H : Hp} {a : Addr} {n : Nat} {out : List Int} {Q : VK} (k : Ans B H a n out Q) (hB : BunAt B H a n) (e : out = [-1]) : 1 ≤ sizeLine ∧ ∀ p, H p = none → Q (.ref p) (L2.upd H p (.lst [.int (-1)])) := by
  subst e
  exact ⟨by decide, fun p hp => k.same hB hp upd_same (Same.new hp)⟩
/-- [z] + fraction.told() -/
theorem told_frac {C B : Addr} {H H2 : Hp} {a p0 x : Addr} {n : Nat} {f : Frac} {z : Int} {Q : VK} (k : Ans B H a n (z :: Uw67.fracOut f) Q) (hB : BunAt B H a n) (s : Same H H2) (h0 : H2 p0 = some (.lst [.int z])) (hFx : FracAt C H2 x f) :
    ∃ a dx fs, (V.ref x) = .ref a ∧ H2 a = some (.ins C dx fs) ∧ fs.lookup ("told" : Str) = none ∧
      spFO C (V.ref x :: ([] ++ [])) H2 (fun y H3 => ∃ l b xs zs, (.ref p0 : V) = .ref l ∧ y = .ref b ∧ H3 l = some (.lst xs) ∧ H3 b = some (.lst zs) ∧ xs.length + zs.length ≤ sizeLine ∧ ∀ p, H3 p = none → Q (.ref p) (L2.upd H3 p (.lst (xs ++ zs)))) E0 := by
  obtain ⟨dx, hxx⟩ := id hFx
  refine ⟨x, dx, _, rfl, hxx, ff_no _ (by decide +kernel) (by decide +kernel), x, _, rfl, hFx, fun H3 b hb3 hb3' s3 => ?_⟩
  refine ⟨p0, b, _, _, rfl, rfl, s3 _ _ h0, hb3', (by show 3 ≤ sizeLine; decide), fun p hp => ?_⟩
  have s4 := s.trans s3
  refine k.same hB (s4.free hp) ?_ (s4.trans (Same.new hp))
  rw [upd_same]
  rfl
theorem scChance : FnScope ["self", "hexagram", "moving"] ["self", "hexagram", "moving"] (defScope sChance) := ⟨rfl, rfl, rfl, by decide +kernel, rfl, by decide +kernel, by decide +kernel⟩
theorem ok_chance {f B C : Addr} {fd : FuncData} (F : Fun K "chance" "Bundle.chance" sChance f fd) (T : TxB K mg B) (GL : GF P w K mg base 6 "line_odds" ["stalks"] (spLod C)) (GCh : GF P w K mg base 6 "chance_of" ["odds", "hexagram", "moving"] (spChOf C))
    (GO : GM P w K mg base C 1 "told" ["self"] (spFO C)) : FnOk P w K mg base CX0 7 f fd ["self", "hexagram", "moving"] (spChance B) := by
  refine F.ok scChance (fun vs H Q E h => ?_) (fun cdv A outer s H vs Q E hr h => ?_)
  · obtain ⟨a, n, h, m, rfl, _⟩ := h; rfl
  · obtain ⟨a, n, h, m, rfl, hB, hn, k⟩ := h
    have hr1 : Room 1 _ := hr.mono (by decide)
    refine ⟨_, (pss_cons (ps_if (PW.pt (pw_or (pt_cmpR op_gt (pv 1) (pe_ciK T.hex) (nomark _)) (pw_or1 (pt_cmpR op_gt (pv 2) (pe_ciK T.set) (nomark _))))) (pss_one (ps_ret (pe_lst (pa_cons (pe_ciK T.out) pa_nil)))) pss_nil) <|
      pss_one (ps_ret (pe_op op_cat (pe_lst (pa_cons pe_int pa_nil)) (pe_gm0 GO hr1 (pe_gf GCh hr rfl (pa_cons (pe_gf GL hr rfl (pa_cons (pe_fld (pv 0) rfl) pa_nil)) (pa_cons (pv 1) (pa_cons (pv 2) pa_nil)))))))), ?_⟩
    refine ⟨_, rfl, _, _, rfl, rfl, _, rfl, ite2 (fun z => ?_) (fun z => ?_)⟩
    · have z' : (63 : Int) < h := of_decide_eq_true z
      exact out_of k hB (hex_bad (by omega))
    · have z1 : ¬ (63 : Int) < h := fun q => z (decide_eq_true q)
      rw [show (Uw67.step n (.chance h m)).2 = (if 63 < m then [-1] else 0 :: Uw67.fracOut (Uw67.chance n h m)) from hex_ok (by omega)] at k
      refine ⟨_, rfl, _, _, rfl, rfl, _, rfl, ite2 (fun z => ?_) (fun z => ?_)⟩
      · have z' : (63 : Int) < m := of_decide_eq_true z
        exact out_of k hB (if_pos (by omega))
      · have z2 : ¬ (63 : Int) < m := fun q => z (decide_eq_true q)
        rw [if_neg (by omega)] at k
        obtain ⟨dx, hx⟩ := id hB
        refine ⟨(by show 1 ≤ sizeLine; decide), fun p0 hp0 => ?_⟩
        have s0 : Same H (L2.upd H p0 (.lst [.int 0])) := Same.new hp0
        refine ⟨_, rfl, a, B, dx, _, _, rfl, s0 _ _ hx, T.cl, T.nS, bf_s n, n, rfl, hn, fun H1 od kvs hod hq dm s1 => ?_⟩
        refine ⟨_, rfl, _, rfl, od, h, m, n, rfl, ⟨kvs, hq, dm⟩, hn, fun H2 x hx2 hFx s2 => ?_⟩
        exact told_frac k hB ((s0.trans s1).trans s2) (s2 _ _ (s1 _ _ upd_same)) hFx
theorem scBecomes : FnScope ["self", "hexagram"] ["self", "hexagram"] (defScope sBecomes) := ⟨rfl, rfl, rfl, by decide +kernel, rfl, by decide +kernel, by decide +kernel⟩
theorem ok_becomes {f B C : Addr} {fd : FuncData} (F : Fun K "becomes" "Bundle.becomes" sBecomes f fd) (T : TxB K mg B) (GL : GF P w K mg base 6 "line_odds" ["stalks"] (spLod C)) (GCh : GF P w K mg base 6 "chance_of_becoming" ["odds", "hexagram"] (spChBec C))
    (GO : GM P w K mg base C 1 "told" ["self"] (spFO C)) : FnOk P w K mg base CX0 7 f fd ["self", "hexagram"] (spBecomes B) := by
  refine F.ok scBecomes (fun vs H Q E h => ?_) (fun cdv A outer s H vs Q E hr h => ?_)
  · obtain ⟨a, n, h, rfl, _⟩ := h; rfl
  · obtain ⟨a, n, h, rfl, hB, hn, k⟩ := h
    have hr1 : Room 1 _ := hr.mono (by decide)
    refine ⟨_, (pss_cons (ps_if (pt_cmpR op_gt (pv 1) (pe_ciK T.hex) (nomark _)) (pss_one (ps_ret (pe_lst (pa_cons (pe_ciK T.out) pa_nil)))) pss_nil) <|
      pss_one (ps_ret (pe_op op_cat (pe_lst (pa_cons pe_int pa_nil)) (pe_gm0 GO hr1 (pe_gf GCh hr rfl (pa_cons (pe_gf GL hr rfl (pa_cons (pe_fld (pv 0) rfl) pa_nil)) (pa_cons (pv 1) pa_nil))))))), ?_⟩
    refine ⟨_, rfl, _, _, rfl, rfl, _, rfl, ite2 (fun z => ?_) (fun z => ?_)⟩
    · have z' : (63 : Int) < h := of_decide_eq_true z
      exact out_of k hB (hex_bad (by omega))
    · have z1 : ¬ (63 : Int) < h := fun q => z (decide_eq_true q)
      rw [show (Uw67.step n (.becomes h)).2 = 0 :: Uw67.fracOut (Uw67.becomes n h) from hex_ok (by omega)] at k
      obtain ⟨dx, hx⟩ := id hB
      refine ⟨(by show 1 ≤ sizeLine; decide), fun p0 hp0 => ?_⟩
      have s0 : Same H (L2.upd H p0 (.lst [.int 0])) := Same.new hp0
      refine ⟨_, rfl, a, B, dx, _, _, rfl, s0 _ _ hx, T.cl, T.nS, bf_s n, n, rfl, hn, fun H1 od kvs hod hq dm s1 => ?_⟩
      refine ⟨_, rfl, od, h, n, rfl, ⟨kvs, hq, dm⟩, hn, fun H2 x hx2 hFx s2 => ?_⟩
      exact told_frac k hB ((s0.trans s1).trans s2) (s2 _ _ (s1 _ _ upd_same)) hFx
theorem scMoving : FnScope ["self", "count"] ["self", "count"] (defScope sMoving) := ⟨rfl, rfl, rfl, by decide +kernel, rfl, by decide +kernel, by decide +kernel⟩
theorem ok_moving {f B C : Addr} {fd : FuncData} (F : Fun K "moving" "Bundle.moving" sMoving f fd) (X : Txt K mg) (T : TxB K mg B) (GL : GF P w K mg base 6 "line_odds" ["stalks"] (spLod C)) (GCh : GF P w K mg base 6 "chance_of_moving" ["odds", "count"] (spChMov C))
    (GO : GM P w K mg base C 1 "told" ["self"] (spFO C)) : FnOk P w K mg base CX0 7 f fd ["self", "count"] (spMoving B) := by
  refine F.ok scMoving (fun vs H Q E h => ?_) (fun cdv A outer s H vs Q E hr h => ?_)
  · obtain ⟨a, n, c, rfl, _⟩ := h; rfl
  · obtain ⟨a, n, c, rfl, hB, hn, k⟩ := h
    have hr1 : Room 1 _ := hr.mono (by decide)
    refine ⟨_, (pss_cons (ps_if (pt_cmpR op_gt (pv 1) (pe_ciK X.lns) (nomark _)) (pss_one (ps_ret (pe_lst (pa_cons (pe_ciK T.out) pa_nil)))) pss_nil) <|
      pss_one (ps_ret (pe_op op_cat (pe_lst (pa_cons pe_int pa_nil)) (pe_gm0 GO hr1 (pe_gf GCh hr rfl (pa_cons (pe_gf GL hr rfl (pa_cons (pe_fld (pv 0) rfl) pa_nil)) (pa_cons (pv 1) pa_nil))))))), ?_⟩
    have k : Ans B H a n (if 6 < c then [-1] else 0 :: Uw67.fracOut (Uw67.moving n c)) Q := k
    refine ⟨_, rfl, _, _, rfl, rfl, _, rfl, ite2 (fun z => ?_) (fun z => ?_)⟩
    · have z' : (6 : Int) < c := of_decide_eq_true z
      exact out_of k hB (if_pos (by omega))
    · have z1 : ¬ (6 : Int) < c := fun q => z (decide_eq_true q)
      rw [if_neg (by omega)] at k
      obtain ⟨dx, hx⟩ := id hB
      refine ⟨(by show 1 ≤ sizeLine; decide), fun p0 hp0 => ?_⟩
      have s0 : Same H (L2.upd H p0 (.lst [.int 0])) := Same.new hp0
      refine ⟨_, rfl, a, B, dx, _, _, rfl, s0 _ _ hx, T.cl, T.nS, bf_s n, n, rfl, hn, fun H1 od kvs hod hq dm s1 => ?_⟩
      refine ⟨_, rfl, od, c, n, rfl, ⟨kvs, hq, dm⟩, hn, by omega, fun H2 x hx2 hFx s2 => ?_⟩
      exact told_frac k hB ((s0.trans s1).trans s2) (s2 _ _ (s1 _ _ upd_same)) hFx
theorem scCame : FnScope ["self", "hexagram", "odds", "origin"] ["self", "hexagram"] (defScope sCame) := ⟨rfl, rfl, rfl, by decide +kernel, rfl, by decide +kernel, by decide +kernel⟩
theorem ok_came {f B C : Addr} {fd : FuncData} (F : Fun K "came" "Bundle.came" sCame f fd) (T : TxB K mg B) (GL : GF P w K mg base 6 "line_odds" ["stalks"] (spLod C)) (GK : GF P w K mg base 7 "likeliest_origin" ["odds", "hexagram"] (spLik C))
    (GCh : GF P w K mg base 6 "chance_of" ["odds", "hexagram", "moving"] (spChOf C)) (GO : GM P w K mg base C 1 "told" ["self"] (spFO C)) : FnOk P w K mg base CX0 8 f fd ["self", "hexagram"] (spCame B) := by
  refine F.ok scCame (fun vs H Q E h => ?_) (fun cdv A outer s H vs Q E hr h => ?_)
  · obtain ⟨a, n, h, rfl, _⟩ := h; rfl
  · obtain ⟨a, n, h, rfl, hB, hn, k⟩ := h
    have hr1 : Room 1 _ := hr.mono (by decide)
    have hr6 : Room 6 _ := hr.mono (by decide)
    refine ⟨_, (pss_cons (ps_if (pt_cmpR op_gt (pv 1) (pe_ciK T.hex) (nomark _)) (pss_one (ps_ret (pe_lst (pa_cons (pe_ciK T.out) pa_nil)))) pss_nil) <|
      pss_cons (ps_set (i := 2) scCame.nd rfl (Or.inl rfl) (pe_gf GL hr6 rfl (pa_cons (pe_fld (pv 0) rfl) pa_nil))) <|
      pss_cons (ps_set (i := 3) scCame.nd rfl (Or.inl rfl) (pe_gf GK hr rfl (pa_cons (pv 2) (pa_cons (pv 1) pa_nil)))) <|
      pss_one (ps_ret (pe_op op_cat (pe_lst (pa_cons (pv 3) pa_nil)) (pe_gm0 GO hr1 (pe_gf GCh hr6 rfl (pa_cons (pv 2) (pa_cons (pv 3) (pa_cons (pe_op (opE op_xor) (pv 3) (pv 1)) pa_nil)))))))), ?_⟩
    refine ⟨_, rfl, _, _, rfl, rfl, _, rfl, ite2 (fun z => ?_) (fun z => ?_)⟩
    · have z' : (63 : Int) < h := of_decide_eq_true z
      exact out_of k hB (hex_bad (by omega))
    · have z1 : ¬ (63 : Int) < h := fun q => z (decide_eq_true q)
      rw [show (Uw67.step n (.came h)).2 = ((Uw67.came n h).1 : Int) :: Uw67.fracOut (Uw67.came n h).2 from hex_ok (by omega), came_self] at k
      obtain ⟨dx, hx⟩ := id hB
      refine ⟨_, rfl, a, B, dx, _, _, rfl, hx, T.cl, T.nS, bf_s n, n, rfl, hn, fun H1 od kvs hod hq dm s1 => ?_⟩
      have hO : OddsAt C H1 od n := ⟨kvs, hq, dm⟩
      refine ⟨_, rfl, _, rfl, od, h, n, rfl, hO, hn, fun H2 s2 => ?_⟩
      generalize (Uw67.came n h).1 = g at k ⊢
      refine ⟨_, rfl, (by show 1 ≤ sizeLine; decide), fun p0 hp0 => ?_⟩
      have s3 : Same H2 (L2.upd H2 p0 (.lst [.int (g : Nat)])) := Same.new hp0
      refine ⟨_, rfl, _, rfl, _, rfl, _, rfl, _, _, ((g ^^^ h : Nat) : Int), rfl, rfl, Bits.bitXor_pp (by omega) (by omega), od, g, g ^^^ h, n, rfl, (hO.same s2).same s3, hn, fun H4 x hx2 hFx s4 => ?_⟩
      exact told_frac k hB (((s1.trans s2).trans s3).trans s4) (s4 _ _ upd_same) hFx
theorem scTurned : FnScope ["self", "hexagram"] ["self", "hexagram"] (defScope sTurned) := ⟨rfl, rfl, rfl, by decide +kernel, rfl, by decide +kernel, by decide +kernel⟩
theorem ok_turned {f B : Addr} {fd : FuncData} (F : Fun K "turned" "Bundle.turned" sTurned f fd) (T : TxB K mg B) (GU : GF P w K mg base 2 "upside_down" ["hexagram"] (spNum Uw67.upside)) (GO : GF P w K mg base 2 "opposite" ["hexagram"] (spNum Uw67.opposite))
    (GE : GF P w K mg base 2 "exchanged" ["hexagram"] (spNum Uw67.exchanged)) (GC : GF P w K mg base 2 "core" ["hexagram"] (spNum Uw67.core)) : FnOk P w K mg base CX0 3 f fd ["self", "hexagram"] (spTurned B) := by
  refine F.ok scTurned (fun vs H Q E h => ?_) (fun cdv A outer s H vs Q E hr h => ?_)
  · obtain ⟨a, n, h, rfl, _⟩ := h; rfl
  · obtain ⟨a, n, h, rfl, hB, k⟩ := h
    refine ⟨_, (pss_cons (ps_if (pt_cmpR op_gt (pv 1) (pe_ciK T.hex) (nomark _)) (pss_one (ps_ret (pe_lst (pa_cons (pe_ciK T.out) pa_nil)))) pss_nil) <|
      pss_one (ps_ret (pe_lst (pa_cons (pe_gf GU hr rfl (pa_cons (pv 1) pa_nil)) (pa_cons (pe_gf GO hr rfl (pa_cons (pv 1) pa_nil)) (pa_cons (pe_gf GE hr rfl (pa_cons (pv 1) pa_nil)) (pa_cons (pe_gf GC hr rfl (pa_cons (pv 1) pa_nil)) pa_nil))))))), ?_⟩
    refine ⟨_, rfl, _, _, rfl, rfl, _, rfl, ite2 (fun z => ?_) (fun z => ?_)⟩
    · have z' : (63 : Int) < h := of_decide_eq_true z
      exact out_of k hB (hex_bad (by omega))
    · have z1 : ¬ (63 : Int) < h := fun q => z (decide_eq_true q)
      have h63 : h ≤ 63 := by omega
      rw [show (Uw67.step n (.turned h)).2 = Uw67.ints [Uw67.upside h, Uw67.opposite h, Uw67.exchanged h, Uw67.core h] from hex_ok (by omega)] at k
      refine ⟨_, rfl, h, rfl, h63, fun H1 s1 => ⟨_, rfl, h, rfl, h63, fun H2 s2 => ⟨_, rfl, h, rfl, h63, fun H3 s3 => ⟨_, rfl, h, rfl, h63, fun H4 s4 => ⟨(by show 4 ≤ sizeLine; decide), fun p hp => ?_⟩⟩⟩⟩⟩
      have sA := ((s1.trans s2).trans s3).trans s4
      exact k.same hB (sA.free hp) upd_same (sA.trans (Same.new hp))
theorem scFamily : FnScope ["self", "hexagram", "members"] ["self", "hexagram"] (defScope sFamily) := ⟨rfl, rfl, rfl, by decide +kernel, rfl, by decide +kernel, by decide +kernel⟩
theorem family_len {h : Nat} (hh : h ≤ 63) : (Uw67.family h).length < 64 := by
  obtain ⟨_, _, a, b, _⟩ := fam_facts hh
  rw [← b.length_eq]
  exact a
theorem ok_family {f B : Addr} {fd : FuncData} (F : Fun K "family" "Bundle.family" sFamily f fd) (X : Txt K mg) (T : TxB K mg B) (GF' : GF P w K mg base 3 "family_of" ["hexagram"] spFam) : FnOk P w K mg base CX0 4 f fd ["self", "hexagram"] (spFamily B) := by
  refine F.ok scFamily (fun vs H Q E h => ?_) (fun cdv A outer s H vs Q E hr h => ?_)
  · obtain ⟨a, n, h, rfl, _⟩ := h; rfl
  · obtain ⟨a, n, h, rfl, hB, k⟩ := h
    refine ⟨_, (pss_cons (ps_if (pt_cmpR op_gt (pv 1) (pe_ciK T.hex) (nomark _)) (pss_one (ps_ret (pe_lst (pa_cons (pe_ciK T.out) pa_nil)))) pss_nil) <|
      pss_cons (ps_set (i := 2) scFamily.nd rfl (Or.inl rfl) (pe_gf GF' hr rfl (pa_cons (pv 1) pa_nil))) <|
      pss_one (ps_ret (pe_op op_cat (pe_lst (pa_cons (pe_callB call_len rfl X.len PySem.boot_len (pa_cons (pv 2) pa_nil)) pa_nil)) (pv 2)))), ?_⟩
    refine ⟨_, rfl, _, _, rfl, rfl, _, rfl, ite2 (fun z => ?_) (fun z => ?_)⟩
    · have z' : (63 : Int) < h := of_decide_eq_true z
      exact out_of k hB (hex_bad (by omega))
    · have z1 : ¬ (63 : Int) < h := fun q => z (decide_eq_true q)
      have h63 : h ≤ 63 := by omega
      have fl := family_len h63
      rw [show (Uw67.step n (.family h)).2 = Uw67.counted (Uw67.family h) from hex_ok (by omega)] at k
      refine ⟨_, rfl, h, rfl, h63, fun H1 p hp hq s1 => ?_⟩
      generalize Uw67.family h = ms at k fl hq
      refine ⟨_, rfl, _, ms.length, rfl, .inl ⟨_, SqL.of hq, (nV_length _).symm⟩, (by show 1 ≤ sizeLine; decide), fun p2 hp2 => ⟨_, rfl, p2, p, _, nV ms, rfl, rfl, upd_same, (Same.new hp2) _ _ hq, ?_, fun p3 hp3 => ?_⟩⟩
      · rw [nV_length]
        exact Nat.le_trans (show 1 + ms.length ≤ 64 by omega) (by decide)
      · have s3 : Same H (L2.upd H1 p2 (.lst [.int (ms.length : Nat)])) := s1.trans (Same.new hp2)
        refine k.same hB (s3.free hp3) ?_ (s3.trans (Same.new hp3))
        rw [upd_same, nV_iV]
        rfl
theorem scCores : FnScope ["self", "hexagram", "met"] ["self", "hexagram"] (defScope sCores) := ⟨rfl, rfl, rfl, by decide +kernel, rfl, by decide +kernel, by decide +kernel⟩
theorem metN_at {h k j : Nat} (hj : j < k) : (metN h k)[j]? = some (coreN h j) := by
  unfold metN
  rw [List.getElem?_map, List.getElem?_range hj]
  rfl
theorem nV_of {l : List Nat} {j x : Nat} (h : l[j]? = some x) : (nV l)[j]? = some (.int (x : Nat)) := by
  unfold nV
  rw [List.getElem?_map, h]
  rfl
theorem atI_m1 {xs : List V} {x : V} (h : xs[xs.length - 1]? = some x) (h0 : 0 < xs.length) : atI xs (-1) = some x := by
  unfold atI ixN
  rw [if_neg (by decide), if_pos (by omega), show ((-1 : Int) + (xs.length : Int)).toNat = xs.length - 1 by omega]
  exact h
theorem ok_cores {f B : Addr} {fd : FuncData} (F : Fun K "cores" "Bundle.cores" sCores f fd) (X : Txt K mg) (T : TxB K mg B) (GS : GF P w K mg base 3 "cores_from" ["hexagram"] spCrs) (GC : GF P w K mg base 2 "core" ["hexagram"] (spNum Uw67.core)) :
    FnOk P w K mg base CX0 4 f fd ["self", "hexagram"] (spCores B) := by
  refine F.ok scCores (fun vs H Q E h => ?_) (fun cdv A outer s H vs Q E hr h => ?_)
  · obtain ⟨a, n, h, rfl, _⟩ := h; rfl
  · obtain ⟨a, n, h, rfl, hB, k⟩ := h
    have hr2 : Room 2 _ := hr.mono (by decide)
    refine ⟨_, (pss_cons (ps_if (pt_cmpR op_gt (pv 1) (pe_ciK T.hex) (nomark _)) (pss_one (ps_ret (pe_lst (pa_cons (pe_ciK T.out) pa_nil)))) pss_nil) <|
      pss_cons (ps_set (i := 2) scCores.nd rfl (Or.inl rfl) (pe_gf GS hr rfl (pa_cons (pv 1) pa_nil))) <|
      pss_one (ps_ret (pe_op op_cat (pe_op op_cat (pe_lst (pa_cons (pe_callB call_len rfl X.len PySem.boot_len (pa_cons (pv 2) pa_nil)) pa_nil)) (pv 2))
        (pe_lst (pa_cons (pe_bm PySem.F.plainAttrs_list PySem.F.slot_list_index PySem.F.type_list_index mt_index (pv 2) (pa_cons (pe_gf GC hr2 rfl (pa_cons (pe_ix ix_list (pv 2) (pe_un un_neg pe_int) (fun _ _ => rfl)) pa_nil)) pa_nil)) pa_nil))))), ?_⟩
    refine ⟨_, rfl, _, _, rfl, rfl, _, rfl, ite2 (fun z => ?_) (fun z => ?_)⟩
    · have z' : (63 : Int) < h := of_decide_eq_true z
      exact out_of k hB (hex_bad (by omega))
    · have z1 : ¬ (63 : Int) < h := fun q => z (decide_eq_true q)
      have h63 : h ≤ 63 := by omega
      have cf := cor_facts h63
      rw [show (Uw67.step n (.cores h)).2 = Uw67.counted (Uw67.cores h).1 ++ [((Uw67.cores h).2 : Int)] from hex_ok (by omega), cf.eq] at k
      refine ⟨_, rfl, h, rfl, h63, fun H1 p hp hq s1 => ?_⟩
      have ml := metN_len h (corN h)
      have vl : (nV (metN h (corN h))).length = corN h := by rw [nV_length, ml]
      refine ⟨_, rfl, _, corN h, rfl, .inl ⟨_, SqL.of hq, vl.symm⟩, (by show 1 ≤ sizeLine; decide), fun p2 hp2 => ?_⟩
      have s2 : Same H1 (L2.upd H1 p2 (.lst [.int (corN h : Nat)])) := Same.new hp2
      have q2 : (L2.upd H1 p2 (.lst [.int (corN h : Nat)])) p2 = some (.lst [.int (corN h : Nat)]) := upd_same
      generalize L2.upd H1 p2 (.lst [.int (corN h : Nat)]) = H2 at s2 q2 ⊢
      refine ⟨_, rfl, p2, p, _, _, rfl, rfl, q2, s2 _ _ hq, ?_, fun p3 hp3 => ?_⟩
      · rw [vl]
        exact Nat.le_trans (show 1 + corN h ≤ 65 by have := cf.le; omega) (by decide)
      have s3 : Same H2 (L2.upd H2 p3 (.lst ([.int (corN h : Nat)] ++ nV (metN h (corN h))))) := Same.new hp3
      have q3 : (L2.upd H2 p3 (.lst ([.int (corN h : Nat)] ++ nV (metN h (corN h))))) p3 = some (.lst ([.int (corN h : Nat)] ++ nV (metN h (corN h)))) := upd_same
      generalize L2.upd H2 p3 (.lst ([.int (corN h : Nat)] ++ nV (metN h (corN h)))) = H3 at s3 q3 ⊢
      have q4 := s3 _ _ (s2 _ _ hq)
      have pos := cf.pos
      have hlast : (nV (metN h (corN h)))[(nV (metN h (corN h))).length - 1]? = some (.int (coreN h (corN h - 1) : Nat)) := by
        rw [vl]
        exact nV_of (metN_at (by omega))
      have hnext : Uw67.core (coreN h (corN h - 1)) = coreN h (corN h) := by
        obtain ⟨m, e⟩ : ∃ m, corN h = m + 1 := ⟨corN h - 1, by omega⟩
        rw [e]
        rfl
      refine ⟨_, rfl, .inl ⟨rfl, _, SqL.of q4⟩, _, rfl, _, rfl, p, _, _, _, rfl, rfl, SqL.of q4, atI_m1 hlast (by omega), coreN h (corN h - 1), rfl, (cf.go (corN h - 1) (by omega)).2, fun H5 s5 => ?_⟩
      rw [hnext]
      have q5 := s5 _ _ q4
      refine ⟨p, _, _, (Uw67.cores h).2, _, rfl, rfl, SqL.of q5, rfl, flat_nV _, nV_of (metN_at cf.ix), ?_, ?_, (by show 1 ≤ sizeLine; decide), fun p6 hp6 => ?_⟩
      · rw [cf.at_]
        show ((coreN h (corN h) : Int) == (coreN h (corN h) : Int)) = true
        exact beq_self_eq_true _
      · intro m z' hm hz
        have ne := cf.no m hm
        rw [nV_of (metN_at (Nat.lt_trans hm cf.ix))] at hz
        obtain rfl := Option.some.inj hz
        show ((coreN h m : Int) == (coreN h (corN h) : Int)) = false
        exact beq_eq_false_iff_ne.mpr (by omega)
      have s6 : Same H5 (L2.upd H5 p6 (.lst [.int ((Uw67.cores h).2 : Nat)])) := Same.new hp6
      have sA := (((s1.trans s2).trans s3).trans s5).trans s6
      refine ⟨p3, p6, _, _, rfl, rfl, s6 _ _ (s5 _ _ q3), upd_same, ?_, fun p7 hp7 => ?_⟩
      · rw [List.length_append, vl]
        exact Nat.le_trans (show 1 + corN h + 1 ≤ 66 by have := cf.le; omega) (by decide)
      · refine k.same hB (sA.free hp7) ?_ (sA.trans (Same.new hp7))
        rw [upd_same, nV_iV, iV_append]
        unfold Uw67.counted
        rw [ml]
        rfl
theorem scPairs : FnScope ["self", "order", "wrong"] ["self", "order"] (defScope sPairs) := ⟨rfl, rfl, rfl, by decide +kernel, rfl, by decide +kernel, by decide +kernel⟩
theorem wrong_lt {l : List Nat} {i : Nat} (h : Uw67.wrongAt l = some i) : i < l.length := by
  have h' : (List.range l.length).find? (badAt l) = some i := h
  rw [List.find?_range_eq_some] at h'
  exact List.mem_range.mp h'.2.1
theorem ok_pairs {f B : Addr} {fd : FuncData} (F : Fun K "pairs" "Bundle.pairs" sPairs f fd) (X : Txt K mg) (GW : GF P w K mg base 4 "first_wrong_place" ["order"] (spFwp K)) : FnOk P w K mg base CX0 5 f fd ["self", "order"] (spPairs K B) := by
  refine F.ok scPairs (fun vs H Q E h => ?_) (fun cdv A outer s H vs Q E hr h => ?_)
  · obtain ⟨a, l, n, os, rfl, _⟩ := h; rfl
  · obtain ⟨a, l, n, os, rfl, hB, hS, h64, k⟩ := h
    refine ⟨_, (pss_cons (ps_set (i := 2) scPairs.nd rfl (Or.inl rfl) (pe_gf GW hr rfl (pa_cons (pv 1) pa_nil))) <|
      pss_cons (ps_if (pt_cmpR op_lt (pv 2) (pe_callB call_len rfl X.len PySem.boot_len (pa_cons (pv 1) pa_nil)) (nomark _)) (pss_one (ps_ret (pe_lst (pa_cons pe_int (pa_cons (pv 2) pa_nil))))) pss_nil) <|
      pss_one (ps_ret (pe_lst (pa_cons pe_int pa_nil)))), ?_⟩
    have k : Ans B H a n (match Uw67.wrongAt os with | none => [1] | some i => [0, (i : Int)]) Q := k
    refine ⟨_, rfl, l, os, rfl, hS, by rw [h64]; decide, fun H1 s1 => ?_⟩
    refine ⟨_, rfl, _, rfl, _, os.length, rfl, .inl ⟨_, s1.seq hS, (nV_length _).symm⟩, _, _, rfl, rfl, _, rfl, ?_⟩
    cases e : Uw67.wrongAt os with
    | none =>
      rw [e] at k
      refine ite2 (fun z => ?_) (fun z => ?_)
      · have z' : ((os.length : Nat) : Int) < ((os.length : Nat) : Int) := of_decide_eq_true z
        exact absurd z' (Int.lt_irrefl _)
      · exact ⟨(by show 1 ≤ sizeLine; decide), fun p hp => k.same hB (s1.free hp) upd_same (s1.trans (Same.new hp))⟩
    | some i =>
      rw [e] at k
      have hi := wrong_lt e
      refine ite2 (fun z => ?_) (fun z => ?_)
      · exact ⟨_, rfl, (by show 2 ≤ sizeLine; decide), fun p hp => k.same hB (s1.free hp) upd_same (s1.trans (Same.new hp))⟩
      · exact absurd (decide_eq_true (show ((i : Nat) : Int) < ((os.length : Nat) : Int) by omega)) z
end
end SL
set_option Elab.async false
set_option linter.all false
set_option maxRecDepth 100000
set_option maxHeartbeats 4000000
namespace SL
open PySem PySem.Spec PyProof.Rows L2
abbrev sAns : Stmt := top 60
theorem pe_gc0 {X : Cx} {k : Nat} {C : Addr} {ps : List Str} {sp : Sp} {x : Str} {p pos : Pos} (G : GC X.prog X.w X.K X.mg X.base C k x ps sp) (hr : Room (k + 1) X.A) (hg : Gl X x) (hdb : (x == ("__debug__" : Str)) = false := by decide) :
    PE X (.Call (.Name x p) [] [] pos) (tMake C sp [] E0 tNil) := by
  obtain ⟨f, fd, F, M, hm, hb⟩ := G
  exact pe_make0 M F hr hg hm hb .nil pass0 hdb
/-! ### the calls one behind another -/
theorem playU_snoc : ∀ (ks : List Uw67.Call) (n : Nat) (c : Uw67.Call), playU n (ks ++ [c]) = playU n ks ++ [(Uw67.step (stateU n ks) c).2]
  | [], n, c => rfl
  | k :: r, n, c => by
    show (Uw67.step n k).2 :: playU (Uw67.step n k).1 (r ++ [c]) = _
    rw [playU_snoc r]
    rfl
theorem stateU_snoc : ∀ (ks : List Uw67.Call) (n : Nat) (c : Uw67.Call), stateU n (ks ++ [c]) = (Uw67.step (stateU n ks) c).1
  | [], n, c => rfl
  | k :: r, n, c => by
    show stateU (Uw67.step n k).1 (r ++ [c]) = _
    rw [stateU_snoc r]
    rfl
theorem stateU_ns : ∀ (ks : List Uw67.Call) {n : Nat}, n ∈ ns → stateU n ks ∈ ns
  | [], n, h => h
  | k :: r, n, h => stateU_ns r (step_ns h k)
theorem told_append (a b : List (List Int)) : PyFlat.told (a ++ b) = PyFlat.told a ++ PyFlat.told b := List.flatMap_append
theorem told_one (x : List Int) : PyFlat.told [x] = (x.length : Int) :: x := by
  unfold PyFlat.told
  rw [List.flatMap_cons, List.flatMap_nil, List.append_nil]
theorem playU_append : ∀ (a b : List Uw67.Call) (n : Nat), playU n (a ++ b) = playU n a ++ playU (stateU n a) b
  | [], b, n => rfl
  | k :: r, b, n => by
    show (Uw67.step n k).2 :: playU (Uw67.step n k).1 (r ++ b) = _
    rw [playU_append r]
    rfl
theorem tok_pos (c : Uw67.Call) : 0 < (tokN c).length := by cases c <;> exact Nat.succ_pos _
def spEnd (K : PySem.W.Frag) : Sp := fun vs H Q _ => ∃ (a : Addr) (i : Nat) (L t : List Nat) (c : Uw67.Call), vs = [.ref a, .int i] ∧ SqL K H a (nV L) ∧ L.drop i = tokN c ++ t ∧ okCall c ∧ ∀ H' : Hp, Same H H' → Q (.int ((i + (tokN c).length : Nat) : Int)) H'
def spAof (K : PySem.W.Frag) (B : Addr) : Sp := fun vs H Q _ => ∃ (b l : Addr) (n : Nat) (c : Uw67.Call), vs = [.ref b, .ref l] ∧ BunAt B H b n ∧ n ∈ ns ∧ SqL K H l (nV (tokN c)) ∧ okCall c ∧ Ans B H b (Uw67.step n c).1 (Uw67.step n c).2 Q
def spAnswers (K : PySem.W.Frag) : Sp := fun vs H Q _ => ∃ (a : Addr) (ks : List Uw67.Call), vs = [.ref a] ∧ SqL K H a (nV (ks.flatMap tokN)) ∧ (∀ c ∈ ks, okCall c) ∧ ks.length ≤ 40 ∧ (PyFlat.told (playU 49 ks)).length ≤ 10000000 ∧
  ∀ (H' : Hp) (p : Addr), H' p = some (.lst (iV (PyFlat.told (playU 49 ks)))) → Q (.ref p) H'
section
variable {P : Program} {w : World} {K : PySem.W.Frag} {mg : Str → Option Value} {base : Heap}
theorem scAns : FnScope ["calls", "bundle", "given", "start", "end", "answer"] ["calls"] (defScope sAns) := ⟨rfl, rfl, rfl, by decide +kernel, rfl, by decide +kernel, by decide +kernel⟩
theorem ok_answers {f B : Addr} {fd : FuncData} (F : Fun K "answers" "answers" sAns f fd) (T : Txt K mg) (GBI : GC P w K mg base B 1 "Bundle" ["self"] (spBI B)) (GE : GF P w K mg base 1 "end_of_call" ["calls", "start"] (spEnd K))
    (GA : GF P w K mg base 9 "answer_of" ["bundle", "call"] (spAof K B)) : FnOk P w K mg base CX0 10 f fd ["calls"] (spAnswers K) := by
  refine F.ok scAns (fun vs H Q E h => ?_) (fun cdv A outer s H vs Q E hr h => ?_)
  · obtain ⟨a, ks, rfl, _⟩ := h; rfl
  · obtain ⟨a, ks, rfl, hS, hok, h40, hsz, k⟩ := h
    have hr1 : Room 1 _ := hr.mono (by decide)
    have hr2 : Room 2 _ := hr.mono (by decide)
    refine ⟨_, (pss_cons (ps_set (i := 1) scAns.nd rfl (Or.inl rfl) (pe_gc0 GBI hr2 rfl)) <|
      pss_cons (ps_set (i := 2) scAns.nd rfl (Or.inl rfl) (pe_lst pa_nil)) <|
      pss_cons (ps_set (i := 3) scAns.nd rfl (Or.inl rfl) pe_int) <|
      pss_cons (ps_while PassesOwn.never (pt_cmpR op_lt (pv 3) (pe_callB call_len rfl T.len PySem.boot_len (pa_cons (pv 0) pa_nil)) (nomark _)) <|
        pss_cons (ps_set (i := 4) scAns.nd rfl (Or.inl rfl) (pe_gf GE hr1 rfl (pa_cons (pv 0) (pa_cons (pv 3) pa_nil)))) <|
        pss_cons (ps_set (i := 5) scAns.nd rfl (Or.inl rfl) (pe_gf GA hr rfl (pa_cons (pv 1) (pa_cons (pe_slice sl_list (pv 0) (po_some (pv 3)) (po_some (pv 4))) pa_nil)))) <|
        pss_cons (ps_expr (pe_bm PySem.F.plainAttrs_list PySem.F.slot_list_append PySem.F.type_list_append mt_append (pv 2) (pa_cons (pe_callB call_len rfl T.len PySem.boot_len (pa_cons (pv 5) pa_nil)) pa_nil))) <|
        pss_cons (ps_expr (pe_bm PySem.F.plainAttrs_list PySem.F.slot_list_extend PySem.F.type_list_extend mt_extend (pv 2) (pa_cons (pv 5) pa_nil))) <|
        pss_one (ps_set (i := 3) scAns.nd rfl (Or.inl rfl) (pv 4))) <|
      pss_one (ps_ret (pv 2))), ?_⟩
    -- bundle = Bundle(); given = []
    refine fun b dx hb hdx _ => ⟨b, dx, rfl, upd_same, fun H1 hB1 kp => ⟨rfl, ?_⟩⟩
    have s1 : Same H H1 := Same.made hb hdx kp
    refine ⟨Nat.zero_le _, fun g hg => ?_⟩
    have hgH : H g = none := s1.free hg
    obtain ⟨d1, h1b⟩ := id hB1
    have nbg : b ≠ g := ne_of_none h1b hg
    have s2 : Same H1 (L2.upd H1 g (.lst [])) := Same.new hg
    -- while start < len(calls)
    refine while_by (fun σ H' => ∃ (done rest : List Uw67.Call) (v4 v5 : Option V), ks = done ++ rest ∧ σ = [some (.ref a), some (.ref b), some (.ref g), some (.int (((done.flatMap tokN).length : Nat) : Int)), v4, v5] ∧
      H' g = some (.lst (iV (PyFlat.told (playU 49 done)))) ∧ BunAt B H' b (stateU 49 done) ∧ Same H H') (fun σ _ => (ks.flatMap tokN).length - slotN σ 3)
      ⟨[], ks, none, none, rfl, rfl, upd_same, hB1.same s2, s1.trans s2⟩ ?_ ?_
    · rintro σ H' ⟨done, rest, v4, v5, e1, rfl, hq, hB, s5⟩
      have eL : ks.flatMap tokN = done.flatMap tokN ++ rest.flatMap tokN := by rw [e1, List.flatMap_append]
      have hS5 := s5.seq hS
      refine ⟨_, rfl, _, rfl, _, (ks.flatMap tokN).length, rfl, .inl ⟨_, hS5, (nV_length _).symm⟩, _, _, rfl, rfl, _, rfl, ?_⟩
      cases rest with
      | nil =>
        rw [List.flatMap_nil, List.append_nil] at eL
        rw [List.append_nil] at e1
        refine ite2 (fun z => ?_) (fun z => ?_)
        · have z' : (((done.flatMap tokN).length : Nat) : Int) < (((ks.flatMap tokN).length : Nat) : Int) := of_decide_eq_true z
          rw [eL] at z'
          exact absurd z' (Int.lt_irrefl _)
        · refine ⟨_, rfl, k H' g ?_⟩
          rw [e1]; exact hq
      | cons c rest =>
        rw [List.flatMap_cons] at eL
        have eD : (ks.flatMap tokN).drop (done.flatMap tokN).length = tokN c ++ rest.flatMap tokN := by rw [eL, List.drop_left]
        have elen : (ks.flatMap tokN).length = (done.flatMap tokN).length + ((tokN c).length + (rest.flatMap tokN).length) := by rw [eL, List.length_append, List.length_append]
        have cpos := tok_pos c
        have hokc : okCall c := hok c (by rw [e1]; simp)
        refine ite2 (fun z => ?_) (fun z => ?_)
        · refine ⟨_, rfl, _, rfl, a, (done.flatMap tokN).length, ks.flatMap tokN, rest.flatMap tokN, c, rfl, hS5, eD, hokc, ?_⟩
          intro HE sE
          have hq := sE _ _ hq
          have hB := hB.same sE
          have s5 := s5.trans sE
          have hS5 := s5.seq hS
          refine ⟨_, rfl, _, rfl, _, rfl, _, rfl, _, rfl, _, rfl, a, nV (ks.flatMap tokN), rfl, hS5, fun p hp => ?_⟩
          have cv : cutV (nV (ks.flatMap tokN)) (some (((done.flatMap tokN).length : Nat) : Int)) (some (((done.flatMap tokN).length + (tokN c).length : Nat) : Int)) = nV (tokN c) := by
            rw [cutV_nat, nV_length, show min (done.flatMap tokN).length (ks.flatMap tokN).length = (done.flatMap tokN).length by omega,
              show min ((done.flatMap tokN).length + (tokN c).length) (ks.flatMap tokN).length - (done.flatMap tokN).length = (tokN c).length by omega, nV_drop, eD, nV_take, List.take_left]
          rw [cv]
          have t1 : Same HE (L2.upd HE p (.lst (nV (tokN c)))) := Same.new hp
          refine ⟨b, p, stateU 49 done, c, rfl, hB.same t1, stateU_ns done (by decide), SqL.of upd_same, hokc, fun H2 q hqn hq2 hB2 sx => ?_⟩
          have hgb : g ≠ b := nbg.symm
          have h2g := sx g _ hgb (t1 _ _ hq)
          have u2 : Same H H2 := fun x o e => sx x o (ne_of_none e hb) (t1 _ _ (s5 _ _ e))
          have htl : (PyFlat.told (playU 49 (done ++ [c]))).length ≤ 10000000 := by
            have e2 : ks = (done ++ [c]) ++ rest := by rw [e1, List.append_assoc]; rfl
            rw [e2, playU_append, told_append, List.length_append] at hsz
            omega
          rw [playU_snoc, told_append, told_one, List.length_append, List.length_cons] at htl
          have ngq : g ≠ q := ne_of_none (t1 _ _ hq) hqn
          have big : (10000000 : Nat) ≤ sizeLine := by decide
          refine ⟨_, rfl, .inl ⟨rfl, _, SqL.of h2g⟩, _, rfl, _, (Uw67.step (stateU 49 done) c).2.length, rfl, .inl ⟨_, SqL.of hq2, (List.length_map ..).symm⟩, g, _, _, rfl, rfl, h2g, ?_, ?_⟩
          · rw [show (iV (PyFlat.told (playU 49 done))).length = (PyFlat.told (playU 49 done)).length from List.length_map ..]
            omega
          · have h3q : (L2.upd H2 g (.lst (iV (PyFlat.told (playU 49 done)) ++ [.int ((Uw67.step (stateU 49 done) c).2.length : Nat)]))) q = some (.lst (iV (Uw67.step (stateU 49 done) c).2)) := by rw [upd_ne ngq.symm]; exact hq2
            refine ⟨_, rfl, .inl ⟨rfl, _, SqL.of upd_same⟩, _, rfl, g, q, _, _, rfl, rfl, upd_same, h3q, ?_, ?_⟩
            · rw [List.length_append, show (iV (PyFlat.told (playU 49 done))).length = (PyFlat.told (playU 49 done)).length from List.length_map .., show (iV (Uw67.step (stateU 49 done) c).2).length = (Uw67.step (stateU 49 done) c).2.length from List.length_map ..]
              show (PyFlat.told (playU 49 done)).length + 1 + _ ≤ _
              omega
            · obtain ⟨d2, h2b⟩ := hB2
              have el2 : ((done ++ [c]).flatMap tokN).length = (done.flatMap tokN).length + (tokN c).length := by
                rw [List.flatMap_append, List.length_append, List.flatMap_cons, List.flatMap_nil, List.append_nil]
              refine ⟨_, rfl, ⟨done ++ [c], rest, some (.int (((done.flatMap tokN).length + (tokN c).length : Nat) : Int)), some (.ref q), ?_, ?_, ?_, ⟨d2, ?_⟩, ?_⟩, ?_⟩
              · rw [e1, List.append_assoc]; rfl
              · rw [el2]; rfl
              · rw [upd_same, playU_snoc, told_append, told_one, iV_append]
                show some (HO.lst (iV (PyFlat.told (playU 49 done)) ++ [V.int ((Uw67.step (stateU 49 done) c).2.length : Nat)] ++ iV (Uw67.step (stateU 49 done) c).2)) = _
                rw [List.append_assoc]
                rfl
              · rw [upd_ne nbg, upd_ne nbg, stateU_snoc]; exact h2b
              · exact Same.upd (Same.upd u2 hgH) hgH
              · show (ks.flatMap tokN).length - (((done.flatMap tokN).length + (tokN c).length : Nat) : Int).toNat < (ks.flatMap tokN).length - (((done.flatMap tokN).length : Nat) : Int).toNat
                omega
        · exact absurd (decide_eq_true (show (((done.flatMap tokN).length : Nat) : Int) < (((ks.flatMap tokN).length : Nat) : Int) by omega)) z
    · rintro σ H' Q1 Q2 hq ⟨v, e, v2, e2, x, n, h1, h2, i, j, h3, h4, c, hc, q⟩
      exact ⟨v, e, v2, e2, x, n, h1, h2, i, j, h3, h4, c, hc, hq _ _ q⟩
end
end SL
set_option Elab.async false
set_option linter.all false
set_option maxRecDepth 100000
set_option maxHeartbeats 4000000
namespace SL
open PySem PySem.Spec PyProof.Rows L2
abbrev sEnd : Stmt := top 58
abbrev sAof : Stmt := top 59
def nbehind : List (Int × Int) := [(0, 1), (1, 3), (2, 0), (4, 2), (5, 1), (6, 1), (7, 1), (8, 1), (9, 1), (10, 1)]
structure TxE (K : PySem.W.Frag) (mg : Str → Option Value) : Prop where
  begins : ConI mg "BEGINS" 0
  line : ConI mg "LINE" 1
  odds : ConI mg "ODDS" 2
  cast : ConI mg "CAST" 3
  chance : ConI mg "CHANCE" 4
  becomes : ConI mg "BECOMES" 5
  moving : ConI mg "MOVING_LINES" 6
  came : ConI mg "CAME" 7
  turned : ConI mg "TURNED" 8
  family : ConI mg "FAMILY" 9
  cores : ConI mg "CORES" 10
  pairs : ConI mg "PAIRS" 11
  nb : ConD K mg "NUMBERS_BEHIND" nbehind
theorem drop_get {L l : List Nat} {i : Nat} (h : L.drop i = l) (j : Nat) : L[i + j]? = l[j]? := by rw [← h, List.getElem?_drop]
section
variable {P : Program} {w : World} {K : PySem.W.Frag} {mg : Str → Option Value} {base : Heap}
theorem scEnd : FnScope ["calls", "start"] ["calls", "start"] (defScope sEnd) := ⟨rfl, rfl, rfl, by decide +kernel, rfl, by decide +kernel, by decide +kernel⟩
theorem ok_end {f : Addr} {fd : FuncData} (F : Fun K "end_of_call" "end_of_call" sEnd f fd) (T : TxE K mg) : FnOk P w K mg base CX0 1 f fd ["calls", "start"] (spEnd K) := by
  refine F.ok scEnd (fun vs H Q E h => ?_) (fun cdv A outer s H vs Q E hr h => ?_)
  · obtain ⟨a, i, L, t, c, rfl, _⟩ := h; rfl
  · obtain ⟨a, i, L, t, c, rfl, hS, hd, hok, k⟩ := h
    refine ⟨_, (pss_cons (ps_if (pt_cmpR op_in_seq (pe_ix ix_list (pv 0) (pv 1) (fun _ _ => rfl)) (pe_tup (pa_cons (pe_ciK T.cast) (pa_cons (pe_ciK T.pairs) pa_nil))) (by with_unfolding_all rfl))
        (pss_one (ps_ret (pe_op op_add (pe_op op_add (pv 1) pe_int) (pe_ix ix_list (pv 0) (pe_op (opE op_add) (pv 1) pe_int) (fun _ _ => rfl))))) pss_nil) <|
      pss_one (ps_ret (pe_op op_add (pe_op op_add (pv 1) pe_int) (pe_md T.nb rfl (pe_ix ix_list (pv 0) (pv 1) (fun _ _ => rfl)) (fun _ _ => rfl))))), ?_⟩
    -- a call by its number
    obtain ⟨x, r, er⟩ : ∃ x r, tokN c = x :: r := by
      cases c <;> exact ⟨_, _, rfl⟩
    have g0 : atI (nV L) ((i : Nat) : Int) = some (.int (x : Nat)) := by
      have q := drop_get hd 0
      rw [er] at q
      exact atI_nat (nV_of q)
    refine ⟨_, rfl, _, rfl, a, _, _, _, rfl, rfl, hS, g0, (by show 2 ≤ sizeLine; decide), fun tt htt => ⟨tt, _, rfl, .inr (SqT.of upd_same), rfl, rfl, _, rfl, ?_⟩⟩
    show if inV (.int (x : Nat)) (nV [3, 11]) = true then _ else _
    rw [inV_nV]
    have sT : Same H (L2.upd H tt (.tup (nV [3, 11]))) := Same.new htt
    have hS2 := sT.seq hS
    have kk := k _ sT
    have two : (∃ l : List Nat, (x = 3 ∨ x = 11) ∧ r = l.length :: l) ∨ (∃ n : Nat, ¬ (x = 3 ∨ x = 11) ∧ r.length = n ∧ lookI nbehind (x : Int) = some (n : Int)) := by
      cases c with
      | cast l => cases er; exact .inl ⟨l, .inl rfl, rfl⟩
      | pairs l => cases er; exact .inl ⟨l, .inr rfl, rfl⟩
      | _ => cases er; exact .inr ⟨_, by decide, rfl, rfl⟩
    rcases two with ⟨l, hx, hl⟩ | ⟨n, hx, hn, hl⟩
    · have e : ([3, 11] : List Nat).contains x = true := by
        rcases hx with z | z <;> rw [z] <;> decide
      rw [e]
      have g1 : atI (nV L) (((i + 1 : Nat) : Nat) : Int) = some (.int ((l.length : Nat) : Int)) := by
        have q := drop_get hd 1
        rw [er, hl] at q
        exact atI_nat (nV_of q)
      refine iteT ⟨_, rfl, _, _, rfl, rfl, _, rfl, _, rfl, _, _, ((i + 1 : Nat) : Int), rfl, rfl, rfl, a, _, _, _, rfl, rfl, hS2, g1, _, _, rfl, rfl, ?_⟩
      rw [er, hl, List.length_cons, List.length_cons, show ((i + (l.length + 1 + 1) : Nat) : Int) = (i : Int) + 2 + (l.length : Nat) by omega] at kk
      exact kk
    · have e : ([3, 11] : List Nat).contains x = false := by
        have h1 : ¬ x = 3 := fun z => hx (.inl z)
        have h2 : ¬ x = 11 := fun z => hx (.inr z)
        simp [h1, h2]
      rw [e]
      refine iteF ⟨_, rfl, _, _, rfl, rfl, _, rfl, _, rfl, a, _, _, _, rfl, rfl, hS2, g0, _, _, rfl, hl, _, _, rfl, rfl, ?_⟩
      rw [er, List.length_cons, hn, show ((i + (n + 1) : Nat) : Int) = (i : Int) + 1 + (n : Nat) by omega] at kk
      exact kk
theorem scAof : FnScope ["bundle", "call"] ["bundle", "call"] (defScope sAof) := ⟨rfl, rfl, rfl, by decide +kernel, rfl, by decide +kernel, by decide +kernel⟩
theorem Ans.ofSame {B : Addr} {H H0 : Hp} {a : Addr} {n : Nat} {out : List Int} {Q : VK} (k : Ans B H a n out Q) (s : Same H H0) : Ans B H0 a n out Q := fun H' p hp e hb sx => k H' p (s.free hp) e hb ((SX.of s).trans sx)
theorem ok_aof {f B : Addr} {fd : FuncData} (F : Fun K "answer_of" "answer_of" sAof f fd) (T : TxE K mg) (GBeg : GM P w K mg base B 1 "begins" ["self", "stalks"] (spBegins B)) (GLin : GM P w K mg base B 4 "line" ["self", "cuts"] (spLine K B))
    (GOdd : GM P w K mg base B 7 "odds" ["self"] (spOdds B)) (GCas : GM P w K mg base B 4 "cast" ["self", "cuts"] (spCast K B)) (GCha : GM P w K mg base B 7 "chance" ["self", "hexagram", "moving"] (spChance B))
    (GBec : GM P w K mg base B 7 "becomes" ["self", "hexagram"] (spBecomes B)) (GMov : GM P w K mg base B 7 "moving" ["self", "count"] (spMoving B)) (GCam : GM P w K mg base B 8 "came" ["self", "hexagram"] (spCame B))
    (GTur : GM P w K mg base B 3 "turned" ["self", "hexagram"] (spTurned B)) (GFam : GM P w K mg base B 4 "family" ["self", "hexagram"] (spFamily B)) (GCor : GM P w K mg base B 4 "cores" ["self", "hexagram"] (spCores B))
    (GPai : GM P w K mg base B 5 "pairs" ["self", "order"] (spPairs K B)) : FnOk P w K mg base CX0 9 f fd ["bundle", "call"] (spAof K B) := by
  refine F.ok scAof (fun vs H Q E h => ?_) (fun cdv A outer s H vs Q E hr h => ?_)
  · obtain ⟨b, l, n, c, rfl, _⟩ := h; rfl
  · obtain ⟨b, l, n, c, rfl, hB, hn, hS, hok, k⟩ := h
    have hr1 : Room 1 _ := hr.mono (by decide)
    have hr3 : Room 3 _ := hr.mono (by decide)
    have hr4 : Room 4 _ := hr.mono (by decide)
    have hr5 : Room 5 _ := hr.mono (by decide)
    have hr7 : Room 7 _ := hr.mono (by decide)
    refine ⟨_, (pss_cons (ps_if (pt_cmpR op_eq (pe_ix ix_list (pv 1) pe_int (fun _ _ => rfl)) (pe_ciK T.begins) (nomark _)) (pss_one (ps_ret (pe_gm GBeg hr1 (pv 0) (pa_cons (pe_ix ix_list (pv 1) pe_int (fun _ _ => rfl)) pa_nil)))) pss_nil) <|
      pss_cons (ps_if (pt_cmpR op_eq (pe_ix ix_list (pv 1) pe_int (fun _ _ => rfl)) (pe_ciK T.line) (nomark _)) (pss_one (ps_ret (pe_gm GLin hr4 (pv 0) (pa_cons (pe_slice sl_list (pv 1) (po_some pe_int) po_none) pa_nil)))) pss_nil) <|
      pss_cons (ps_if (pt_cmpR op_eq (pe_ix ix_list (pv 1) pe_int (fun _ _ => rfl)) (pe_ciK T.odds) (nomark _)) (pss_one (ps_ret (pe_gm0 GOdd hr7 (pv 0)))) pss_nil) <|
      pss_cons (ps_if (pt_cmpR op_eq (pe_ix ix_list (pv 1) pe_int (fun _ _ => rfl)) (pe_ciK T.cast) (nomark _)) (pss_one (ps_ret (pe_gm GCas hr4 (pv 0) (pa_cons (pe_slice sl_list (pv 1) (po_some pe_int) po_none) pa_nil)))) pss_nil) <|
      pss_cons (ps_if (pt_cmpR op_eq (pe_ix ix_list (pv 1) pe_int (fun _ _ => rfl)) (pe_ciK T.chance) (nomark _)) (pss_one (ps_ret (pe_gm GCha hr7 (pv 0) (pa_cons (pe_ix ix_list (pv 1) pe_int (fun _ _ => rfl)) (pa_cons (pe_ix ix_list (pv 1) pe_int (fun _ _ => rfl)) pa_nil))))) pss_nil) <|
      pss_cons (ps_if (pt_cmpR op_eq (pe_ix ix_list (pv 1) pe_int (fun _ _ => rfl)) (pe_ciK T.becomes) (nomark _)) (pss_one (ps_ret (pe_gm GBec hr7 (pv 0) (pa_cons (pe_ix ix_list (pv 1) pe_int (fun _ _ => rfl)) pa_nil)))) pss_nil) <|
      pss_cons (ps_if (pt_cmpR op_eq (pe_ix ix_list (pv 1) pe_int (fun _ _ => rfl)) (pe_ciK T.moving) (nomark _)) (pss_one (ps_ret (pe_gm GMov hr7 (pv 0) (pa_cons (pe_ix ix_list (pv 1) pe_int (fun _ _ => rfl)) pa_nil)))) pss_nil) <|
      pss_cons (ps_if (pt_cmpR op_eq (pe_ix ix_list (pv 1) pe_int (fun _ _ => rfl)) (pe_ciK T.came) (nomark _)) (pss_one (ps_ret (pe_gm GCam hr (pv 0) (pa_cons (pe_ix ix_list (pv 1) pe_int (fun _ _ => rfl)) pa_nil)))) pss_nil) <|
      pss_cons (ps_if (pt_cmpR op_eq (pe_ix ix_list (pv 1) pe_int (fun _ _ => rfl)) (pe_ciK T.turned) (nomark _)) (pss_one (ps_ret (pe_gm GTur hr3 (pv 0) (pa_cons (pe_ix ix_list (pv 1) pe_int (fun _ _ => rfl)) pa_nil)))) pss_nil) <|
      pss_cons (ps_if (pt_cmpR op_eq (pe_ix ix_list (pv 1) pe_int (fun _ _ => rfl)) (pe_ciK T.family) (nomark _)) (pss_one (ps_ret (pe_gm GFam hr4 (pv 0) (pa_cons (pe_ix ix_list (pv 1) pe_int (fun _ _ => rfl)) pa_nil)))) pss_nil) <|
      pss_cons (ps_if (pt_cmpR op_eq (pe_ix ix_list (pv 1) pe_int (fun _ _ => rfl)) (pe_ciK T.cores) (nomark _)) (pss_one (ps_ret (pe_gm GCor hr4 (pv 0) (pa_cons (pe_ix ix_list (pv 1) pe_int (fun _ _ => rfl)) pa_nil)))) pss_nil) <|
      pss_one (ps_ret (pe_gm GPai hr5 (pv 0) (pa_cons (pe_slice sl_list (pv 1) (po_some pe_int) po_none) pa_nil)))), ?_⟩
    obtain ⟨dx, hx⟩ := id hB
    have at_ : ∀ {j x : Nat}, (tokN c)[j]? = some x → atI (nV (tokN c)) ((j : Nat) : Int) = some (.int (x : Nat)) := fun e => atI_nat (nV_of e)
    cases c with
    | begins m =>
      refine ⟨_, rfl, l, _, _, _, rfl, rfl, hS, at_ (j := 0) rfl, rfl, _, rfl, eqT rfl ?_⟩
      exact ⟨_, rfl, b, dx, _, rfl, hx, bf_no n (by decide +kernel), _, rfl, l, _, _, _, rfl, rfl, hS, at_ (j := 1) rfl, b, n, m, rfl, hB, k⟩
    | line c1 c2 c3 =>
      iterate 1 refine ⟨_, rfl, l, _, _, _, rfl, rfl, hS, at_ (j := 0) rfl, rfl, _, rfl, eqF (by decide) ?_⟩
      refine ⟨_, rfl, l, _, _, _, rfl, rfl, hS, at_ (j := 0) rfl, rfl, _, rfl, eqT rfl ?_⟩
      refine ⟨_, rfl, b, dx, _, rfl, hx, bf_no n (by decide +kernel), _, rfl, 1, rfl, l, _, rfl, hS, fun p hp => ?_⟩
      rw [show cutV (nV (tokN (.line c1 c2 c3))) (some 1) none = nV [c1, c2, c3] from cutV_frm _ 1 (by show 1 ≤ 4; decide)]
      have s1 : Same H (L2.upd H p (.lst (nV [c1, c2, c3]))) := Same.new hp
      exact ⟨b, p, n, c1, c2, c3, rfl, hB.same s1, SqL.of upd_same, k.ofSame s1⟩
    | odds =>
      iterate 2 refine ⟨_, rfl, l, _, _, _, rfl, rfl, hS, at_ (j := 0) rfl, rfl, _, rfl, eqF (by decide) ?_⟩
      refine ⟨_, rfl, l, _, _, _, rfl, rfl, hS, at_ (j := 0) rfl, rfl, _, rfl, eqT rfl ?_⟩
      exact ⟨_, rfl, b, dx, _, rfl, hx, bf_no n (by decide +kernel), b, n, rfl, hB, hn, k⟩
    | cast cs =>
      iterate 3 refine ⟨_, rfl, l, _, _, _, rfl, rfl, hS, at_ (j := 0) rfl, rfl, _, rfl, eqF (by decide) ?_⟩
      refine ⟨_, rfl, l, _, _, _, rfl, rfl, hS, at_ (j := 0) rfl, rfl, _, rfl, eqT rfl ?_⟩
      refine ⟨_, rfl, b, dx, _, rfl, hx, bf_no n (by decide +kernel), _, rfl, 2, rfl, l, _, rfl, hS, fun p hp => ?_⟩
      rw [show cutV (nV (tokN (.cast cs))) (some 2) none = nV cs from cutV_frm _ 2 (by show 2 ≤ (nV cs).length + 1 + 1; omega)]
      have s1 : Same H (L2.upd H p (.lst (nV cs))) := Same.new hp
      exact ⟨b, p, n, cs, rfl, hB.same s1, SqL.of upd_same, hok, k.ofSame s1⟩
    | chance h m =>
      iterate 4 refine ⟨_, rfl, l, _, _, _, rfl, rfl, hS, at_ (j := 0) rfl, rfl, _, rfl, eqF (by decide) ?_⟩
      refine ⟨_, rfl, l, _, _, _, rfl, rfl, hS, at_ (j := 0) rfl, rfl, _, rfl, eqT rfl ?_⟩
      exact ⟨_, rfl, b, dx, _, rfl, hx, bf_no n (by decide +kernel), _, rfl, l, _, _, _, rfl, rfl, hS, at_ (j := 1) rfl, _, rfl, l, _, _, _, rfl, rfl, hS, at_ (j := 2) rfl, b, n, h, m, rfl, hB, hn, k⟩
    | becomes h =>
      iterate 5 refine ⟨_, rfl, l, _, _, _, rfl, rfl, hS, at_ (j := 0) rfl, rfl, _, rfl, eqF (by decide) ?_⟩
      refine ⟨_, rfl, l, _, _, _, rfl, rfl, hS, at_ (j := 0) rfl, rfl, _, rfl, eqT rfl ?_⟩
      exact ⟨_, rfl, b, dx, _, rfl, hx, bf_no n (by decide +kernel), _, rfl, l, _, _, _, rfl, rfl, hS, at_ (j := 1) rfl, b, n, h, rfl, hB, hn, k⟩
    | moving h =>
      iterate 6 refine ⟨_, rfl, l, _, _, _, rfl, rfl, hS, at_ (j := 0) rfl, rfl, _, rfl, eqF (by decide) ?_⟩
      refine ⟨_, rfl, l, _, _, _, rfl, rfl, hS, at_ (j := 0) rfl, rfl, _, rfl, eqT rfl ?_⟩
      exact ⟨_, rfl, b, dx, _, rfl, hx, bf_no n (by decide +kernel), _, rfl, l, _, _, _, rfl, rfl, hS, at_ (j := 1) rfl, b, n, h, rfl, hB, hn, k⟩
    | came h =>
      iterate 7 refine ⟨_, rfl, l, _, _, _, rfl, rfl, hS, at_ (j := 0) rfl, rfl, _, rfl, eqF (by decide) ?_⟩
      refine ⟨_, rfl, l, _, _, _, rfl, rfl, hS, at_ (j := 0) rfl, rfl, _, rfl, eqT rfl ?_⟩
      exact ⟨_, rfl, b, dx, _, rfl, hx, bf_no n (by decide +kernel), _, rfl, l, _, _, _, rfl, rfl, hS, at_ (j := 1) rfl, b, n, h, rfl, hB, hn, k⟩
    | turned h =>
      iterate 8 refine ⟨_, rfl, l, _, _, _, rfl, rfl, hS, at_ (j := 0) rfl, rfl, _, rfl, eqF (by decide) ?_⟩
      refine ⟨_, rfl, l, _, _, _, rfl, rfl, hS, at_ (j := 0) rfl, rfl, _, rfl, eqT rfl ?_⟩
      exact ⟨_, rfl, b, dx, _, rfl, hx, bf_no n (by decide +kernel), _, rfl, l, _, _, _, rfl, rfl, hS, at_ (j := 1) rfl, b, n, h, rfl, hB, k⟩
    | family h =>
      iterate 9 refine ⟨_, rfl, l, _, _, _, rfl, rfl, hS, at_ (j := 0) rfl, rfl, _, rfl, eqF (by decide) ?_⟩
      refine ⟨_, rfl, l, _, _, _, rfl, rfl, hS, at_ (j := 0) rfl, rfl, _, rfl, eqT rfl ?_⟩
      exact ⟨_, rfl, b, dx, _, rfl, hx, bf_no n (by decide +kernel), _, rfl, l, _, _, _, rfl, rfl, hS, at_ (j := 1) rfl, b, n, h, rfl, hB, k⟩
    | cores h =>
      iterate 10 refine ⟨_, rfl, l, _, _, _, rfl, rfl, hS, at_ (j := 0) rfl, rfl, _, rfl, eqF (by decide) ?_⟩
      refine ⟨_, rfl, l, _, _, _, rfl, rfl, hS, at_ (j := 0) rfl, rfl, _, rfl, eqT rfl ?_⟩
      exact ⟨_, rfl, b, dx, _, rfl, hx, bf_no n (by decide +kernel), _, rfl, l, _, _, _, rfl, rfl, hS, at_ (j := 1) rfl, b, n, h, rfl, hB, k⟩
    | pairs cs =>
      iterate 11 refine ⟨_, rfl, l, _, _, _, rfl, rfl, hS, at_ (j := 0) rfl, rfl, _, rfl, eqF (by decide) ?_⟩
      refine ⟨_, rfl, b, dx, _, rfl, hx, bf_no n (by decide +kernel), _, rfl, 2, rfl, l, _, rfl, hS, fun p hp => ?_⟩
      rw [show cutV (nV (tokN (.pairs cs))) (some 2) none = nV cs from cutV_frm _ 2 (by show 2 ≤ (nV cs).length + 1 + 1; omega)]
      have s1 : Same H (L2.upd H p (.lst (nV cs))) := Same.new hp
      exact ⟨b, p, n, cs, rfl, hB.same s1, SqL.of upd_same, hok, k.ofSame s1⟩
end
end SL
set_option Elab.async false
set_option linter.all false
set_option maxRecDepth 100000
set_option maxHeartbeats 4000000
namespace SL
open PySem PySem.Spec PyProof.Rows L2
theorem request {K : PySem.W.Frag} {H : Hp} {l : Addr} {ns : List Int} (hs : SqL K H l (ns.map V.int)) (h : PyUw67.answers_asked ns = true) :
    spAnswers K [.ref l] H (fun v H' => Dw K H' v (PySem.Challenge.fr_stalklines_s01_answers.enc (PyUw67.answers ns))) fun _ _ _ => False := by
  obtain ⟨ks, e1, e2, e3, e4, e5⟩ := asked_calls h
  refine ⟨l, ks, rfl, ?_, e2, e3, by rw [← e4]; exact e5, fun H' p hp => ?_⟩
  · rw [nV_iV, ← e1]; exact hs
  · rw [← e4] at hp
    exact .lst (SqL.of hp) (dw_ints _)
end SL
namespace SL
open PySem PySem.Spec PyProof.Rows L2
theorem all_mk {P : Program} {w : World} {K : PySem.W.Frag} {h : Heap} {mg : Str → Option Value} {fa : Addr} (X : K.In h) (G : h.Ns mainGlobals mg) (hfa : mg "answers" = some (.ref fa))
    {fLof : Addr} {odLof anLof : Option Addr} {slLof : Array (Option Value)} {ocLof kVLof dcLof pmLof cdLof ctLof : Value}
    {fHof : Addr} {odHof anHof : Option Addr} {slHof : Array (Option Value)} {ocHof kVHof dcHof pmHof cdHof ctHof : Value}
    {fUp : Addr} {odUp anUp : Option Addr} {slUp : Array (Option Value)} {ocUp kVUp dcUp pmUp cdUp ctUp : Value}
    {fOpp : Addr} {odOpp anOpp : Option Addr} {slOpp : Array (Option Value)} {ocOpp kVOpp dcOpp pmOpp cdOpp ctOpp : Value}
    {fExc : Addr} {odExc anExc : Option Addr} {slExc : Array (Option Value)} {ocExc kVExc dcExc pmExc cdExc ctExc : Value}
    {fCore : Addr} {odCore anCore : Option Addr} {slCore : Array (Option Value)} {ocCore kVCore dcCore pmCore cdCore ctCore : Value}
    {fPart : Addr} {odPart anPart : Option Addr} {slPart : Array (Option Value)} {ocPart kVPart dcPart pmPart cdPart ctPart : Value}
    {fFam : Addr} {odFam anFam : Option Addr} {slFam : Array (Option Value)} {ocFam kVFam dcFam pmFam cdFam ctFam : Value}
    {fCrs : Addr} {odCrs anCrs : Option Addr} {slCrs : Array (Option Value)} {ocCrs kVCrs dcCrs pmCrs cdCrs ctCrs : Value}
    {fFwp : Addr} {odFwp anFwp : Option Addr} {slFwp : Array (Option Value)} {ocFwp kVFwp dcFwp pmFwp cdFwp ctFwp : Value}
    {fLeft : Addr} {odLeft anLeft : Option Addr} {slLeft : Array (Option Value)} {ocLeft kVLeft dcLeft pmLeft cdLeft ctLeft : Value}
    {fCut : Addr} {odCut anCut : Option Addr} {slCut : Array (Option Value)} {ocCut kVCut dcCut pmCut cdCut ctCut : Value}
    {fCuts : Addr} {odCuts anCuts : Option Addr} {slCuts : Array (Option Value)} {ocCuts kVCuts dcCuts pmCuts cdCuts ctCuts : Value}
    {fLog : Addr} {odLog anLog : Option Addr} {slLog : Array (Option Value)} {ocLog kVLog dcLog pmLog cdLog ctLog : Value}
    {fTold : Addr} {odTold anTold : Option Addr} {slTold : Array (Option Value)} {ocTold kVTold dcTold pmTold cdTold ctTold : Value}
    {fSet : Addr} {odSet anSet : Option Addr} {slSet : Array (Option Value)} {ocSet kVSet dcSet pmSet cdSet ctSet : Value}
    {fAt : Addr} {odAt anAt : Option Addr} {slAt : Array (Option Value)} {ocAt kVAt dcAt pmAt cdAt ctAt : Value}
    {fGcd : Addr} {odGcd anGcd : Option Addr} {slGcd : Array (Option Value)} {ocGcd kVGcd dcGcd pmGcd cdGcd ctGcd : Value}
    {fProd : Addr} {odProd anProd : Option Addr} {slProd : Array (Option Value)} {ocProd kVProd dcProd pmProd cdProd ctProd : Value}
    {fCby : Addr} {odCby anCby : Option Addr} {slCby : Array (Option Value)} {ocCby kVCby dcCby pmCby cdCby ctCby : Value}
    {fAft : Addr} {odAft anAft : Option Addr} {slAft : Array (Option Value)} {ocAft kVAft dcAft pmAft cdAft ctAft : Value}
    {fLod : Addr} {odLod anLod : Option Addr} {slLod : Array (Option Value)} {ocLod kVLod dcLod pmLod cdLod ctLod : Value}
    {fChOf : Addr} {odChOf anChOf : Option Addr} {slChOf : Array (Option Value)} {ocChOf kVChOf dcChOf pmChOf cdChOf ctChOf : Value}
    {fChBec : Addr} {odChBec anChBec : Option Addr} {slChBec : Array (Option Value)} {ocChBec kVChBec dcChBec pmChBec cdChBec ctChBec : Value}
    {fChMov : Addr} {odChMov anChMov : Option Addr} {slChMov : Array (Option Value)} {ocChMov kVChMov dcChMov pmChMov cdChMov ctChMov : Value}
    {fLik : Addr} {odLik anLik : Option Addr} {slLik : Array (Option Value)} {ocLik kVLik dcLik pmLik cdLik ctLik : Value}
    {fEnd : Addr} {odEnd anEnd : Option Addr} {slEnd : Array (Option Value)} {ocEnd kVEnd dcEnd pmEnd cdEnd ctEnd : Value}
    {fAof : Addr} {odAof anAof : Option Addr} {slAof : Array (Option Value)} {ocAof kVAof dcAof pmAof cdAof ctAof : Value}
    {fAns : Addr} {odAns anAns : Option Addr} {slAns : Array (Option Value)} {ocAns kVAns dcAns pmAns cdAns ctAns : Value}
    {C : Addr}
    {fFI : Addr} {odFI anFI : Option Addr} {slFI : Array (Option Value)} {ocFI kVFI dcFI pmFI cdFI ctFI : Value}
    {fFP : Addr} {odFP anFP : Option Addr} {slFP : Array (Option Value)} {ocFP kVFP dcFP pmFP cdFP ctFP : Value}
    {fFT : Addr} {odFT anFT : Option Addr} {slFT : Array (Option Value)} {ocFT kVFT dcFT pmFT cdFT ctFT : Value}
    {fFX : Addr} {odFX anFX : Option Addr} {slFX : Array (Option Value)} {ocFX kVFX dcFX pmFX cdFX ctFX : Value}
    {fFO : Addr} {odFO anFO : Option Addr} {slFO : Array (Option Value)} {ocFO kVFO dcFO pmFO cdFO ctFO : Value}
    {B : Addr}
    {fBI : Addr} {odBI anBI : Option Addr} {slBI : Array (Option Value)} {ocBI kVBI dcBI pmBI cdBI ctBI : Value}
    {fBeg : Addr} {odBeg anBeg : Option Addr} {slBeg : Array (Option Value)} {ocBeg kVBeg dcBeg pmBeg cdBeg ctBeg : Value}
    {fLin : Addr} {odLin anLin : Option Addr} {slLin : Array (Option Value)} {ocLin kVLin dcLin pmLin cdLin ctLin : Value}
    {fOdd : Addr} {odOdd anOdd : Option Addr} {slOdd : Array (Option Value)} {ocOdd kVOdd dcOdd pmOdd cdOdd ctOdd : Value}
    {fCas : Addr} {odCas anCas : Option Addr} {slCas : Array (Option Value)} {ocCas kVCas dcCas pmCas cdCas ctCas : Value}
    {fCha : Addr} {odCha anCha : Option Addr} {slCha : Array (Option Value)} {ocCha kVCha dcCha pmCha cdCha ctCha : Value}
    {fBec : Addr} {odBec anBec : Option Addr} {slBec : Array (Option Value)} {ocBec kVBec dcBec pmBec cdBec ctBec : Value}
    {fBMov : Addr} {odBMov anBMov : Option Addr} {slBMov : Array (Option Value)} {ocBMov kVBMov dcBMov pmBMov cdBMov ctBMov : Value}
    {fBCam : Addr} {odBCam anBCam : Option Addr} {slBCam : Array (Option Value)} {ocBCam kVBCam dcBCam pmBCam cdBCam ctBCam : Value}
    {fBTur : Addr} {odBTur anBTur : Option Addr} {slBTur : Array (Option Value)} {ocBTur kVBTur dcBTur pmBTur cdBTur ctBTur : Value}
    {fBFam : Addr} {odBFam anBFam : Option Addr} {slBFam : Array (Option Value)} {ocBFam kVBFam dcBFam pmBFam cdBFam ctBFam : Value}
    {fBCor : Addr} {odBCor anBCor : Option Addr} {slBCor : Array (Option Value)} {ocBCor kVBCor dcBCor pmBCor cdBCor ctBCor : Value}
    {fBPai : Addr} {odBPai anBPai : Option Addr} {slBPai : Array (Option Value)} {ocBPai kVBPai dcBPai pmBPai cdBPai ctBPai : Value}
    {tCHANGES_OF_A_LINE : Tok}
    {tLINES_OF_A_HEXAGRAM : Tok}
    {tLINES_OF_A_HALF : Tok}
    {tSTALKS_AT_FIRST : Tok}
    {tFEWEST_STALKS : Tok}
    {tMOST_STALKS : Tok}
    {tLAST_HEXAGRAM : Tok}
    {tLAST_SET_OF_LINES : Tok}
    {tOUT_OF_RANGE : Tok}
    {tNO_SUCH_CUT : Tok}
    {tBEGINS : Tok}
    {tLINE : Tok}
    {tODDS : Tok}
    {tCAST : Tok}
    {tCHANCE : Tok}
    {tBECOMES : Tok}
    {tMOVING_LINES : Tok}
    {tCAME : Tok}
    {tTURNED : Tok}
    {tFAMILY : Tok}
    {tCORES : Tok}
    {tPAIRS : Tok}
    {uGREAT : Addr} {udGREAT : Option Addr} {uiGREAT : Array Value} {unGREAT : Nat} {usGREAT : Array (Option Value)}
    {uWHOLE : Addr} {udWHOLE : Option Addr} {uiWHOLE : Array Value} {unWHOLE : Nat} {usWHOLE : Array (Option Value)}
    {uMOVING : Addr} {udMOVING : Option Addr} {uiMOVING : Array Value} {unMOVING : Nat} {usMOVING : Array (Option Value)}
    {uPLACES_OF_THE_CORE : Addr} {udPLACES_OF_THE_CORE : Option Addr} {uiPLACES_OF_THE_CORE : Array Value} {unPLACES_OF_THE_CORE : Nat} {usPLACES_OF_THE_CORE : Array (Option Value)}
    {uNUMBERS_BEHIND : Addr} {ueNUMBERS_BEHIND : Array DictEntry} {unNUMBERS_BEHIND : Nat}
    (aLof : PySem.W.nsIn K mainGlobals "lines_of" = some (some (.ref fLof)))
    (lLof : K.lookup fLof = some ⟨ocLof, odLof, .func (PySem.W.fnOf "lines_of" "lines_of" (defArgs sLof) (defBody sLof) (defScope sLof) .none kVLof dcLof pmLof anLof cdLof ctLof), slLof⟩)
    (cLof : PySem.W.codeIn K cdLof "lines_of" = true)
    (kLof : PySem.W.keepIn K (.ref fLof) = true)
    (aHof : PySem.W.nsIn K mainGlobals "hexagram_of" = some (some (.ref fHof)))
    (lHof : K.lookup fHof = some ⟨ocHof, odHof, .func (PySem.W.fnOf "hexagram_of" "hexagram_of" (defArgs sHof) (defBody sHof) (defScope sHof) .none kVHof dcHof pmHof anHof cdHof ctHof), slHof⟩)
    (cHof : PySem.W.codeIn K cdHof "hexagram_of" = true)
    (kHof : PySem.W.keepIn K (.ref fHof) = true)
    (aUp : PySem.W.nsIn K mainGlobals "upside_down" = some (some (.ref fUp)))
    (lUp : K.lookup fUp = some ⟨ocUp, odUp, .func (PySem.W.fnOf "upside_down" "upside_down" (defArgs sUp) (defBody sUp) (defScope sUp) .none kVUp dcUp pmUp anUp cdUp ctUp), slUp⟩)
    (cUp : PySem.W.codeIn K cdUp "upside_down" = true)
    (kUp : PySem.W.keepIn K (.ref fUp) = true)
    (aOpp : PySem.W.nsIn K mainGlobals "opposite" = some (some (.ref fOpp)))
    (lOpp : K.lookup fOpp = some ⟨ocOpp, odOpp, .func (PySem.W.fnOf "opposite" "opposite" (defArgs sOpp) (defBody sOpp) (defScope sOpp) .none kVOpp dcOpp pmOpp anOpp cdOpp ctOpp), slOpp⟩)
    (cOpp : PySem.W.codeIn K cdOpp "opposite" = true)
    (kOpp : PySem.W.keepIn K (.ref fOpp) = true)
    (aExc : PySem.W.nsIn K mainGlobals "exchanged" = some (some (.ref fExc)))
    (lExc : K.lookup fExc = some ⟨ocExc, odExc, .func (PySem.W.fnOf "exchanged" "exchanged" (defArgs sExc) (defBody sExc) (defScope sExc) .none kVExc dcExc pmExc anExc cdExc ctExc), slExc⟩)
    (cExc : PySem.W.codeIn K cdExc "exchanged" = true)
    (kExc : PySem.W.keepIn K (.ref fExc) = true)
    (aCore : PySem.W.nsIn K mainGlobals "core" = some (some (.ref fCore)))
    (lCore : K.lookup fCore = some ⟨ocCore, odCore, .func (PySem.W.fnOf "core" "core" (defArgs sCore) (defBody sCore) (defScope sCore) .none kVCore dcCore pmCore anCore cdCore ctCore), slCore⟩)
    (cCore : PySem.W.codeIn K cdCore "core" = true)
    (kCore : PySem.W.keepIn K (.ref fCore) = true)
    (aPart : PySem.W.nsIn K mainGlobals "partner" = some (some (.ref fPart)))
    (lPart : K.lookup fPart = some ⟨ocPart, odPart, .func (PySem.W.fnOf "partner" "partner" (defArgs sPart) (defBody sPart) (defScope sPart) .none kVPart dcPart pmPart anPart cdPart ctPart), slPart⟩)
    (cPart : PySem.W.codeIn K cdPart "partner" = true)
    (kPart : PySem.W.keepIn K (.ref fPart) = true)
    (aFam : PySem.W.nsIn K mainGlobals "family_of" = some (some (.ref fFam)))
    (lFam : K.lookup fFam = some ⟨ocFam, odFam, .func (PySem.W.fnOf "family_of" "family_of" (defArgs sFam) (defBody sFam) (defScope sFam) .none kVFam dcFam pmFam anFam cdFam ctFam), slFam⟩)
    (cFam : PySem.W.codeIn K cdFam "family_of" = true)
    (kFam : PySem.W.keepIn K (.ref fFam) = true)
    (aCrs : PySem.W.nsIn K mainGlobals "cores_from" = some (some (.ref fCrs)))
    (lCrs : K.lookup fCrs = some ⟨ocCrs, odCrs, .func (PySem.W.fnOf "cores_from" "cores_from" (defArgs sCrs) (defBody sCrs) (defScope sCrs) .none kVCrs dcCrs pmCrs anCrs cdCrs ctCrs), slCrs⟩)
    (cCrs : PySem.W.codeIn K cdCrs "cores_from" = true)
    (kCrs : PySem.W.keepIn K (.ref fCrs) = true)
    (aFwp : PySem.W.nsIn K mainGlobals "first_wrong_place" = some (some (.ref fFwp)))
    (lFwp : K.lookup fFwp = some ⟨ocFwp, odFwp, .func (PySem.W.fnOf "first_wrong_place" "first_wrong_place" (defArgs sFwp) (defBody sFwp) (defScope sFwp) .none kVFwp dcFwp pmFwp anFwp cdFwp ctFwp), slFwp⟩)
    (cFwp : PySem.W.codeIn K cdFwp "first_wrong_place" = true)
    (kFwp : PySem.W.keepIn K (.ref fFwp) = true)
    (aLeft : PySem.W.nsIn K mainGlobals "left_over" = some (some (.ref fLeft)))
    (lLeft : K.lookup fLeft = some ⟨ocLeft, odLeft, .func (PySem.W.fnOf "left_over" "left_over" (defArgs sLeft) (defBody sLeft) (defScope sLeft) .none kVLeft dcLeft pmLeft anLeft cdLeft ctLeft), slLeft⟩)
    (cLeft : PySem.W.codeIn K cdLeft "left_over" = true)
    (kLeft : PySem.W.keepIn K (.ref fLeft) = true)
    (aCut : PySem.W.nsIn K mainGlobals "taken_by_cut" = some (some (.ref fCut)))
    (lCut : K.lookup fCut = some ⟨ocCut, odCut, .func (PySem.W.fnOf "taken_by_cut" "taken_by_cut" (defArgs sCut) (defBody sCut) (defScope sCut) .none kVCut dcCut pmCut anCut cdCut ctCut), slCut⟩)
    (cCut : PySem.W.codeIn K cdCut "taken_by_cut" = true)
    (kCut : PySem.W.keepIn K (.ref fCut) = true)
    (aCuts : PySem.W.nsIn K mainGlobals "taken_by_cuts" = some (some (.ref fCuts)))
    (lCuts : K.lookup fCuts = some ⟨ocCuts, odCuts, .func (PySem.W.fnOf "taken_by_cuts" "taken_by_cuts" (defArgs sCuts) (defBody sCuts) (defScope sCuts) .none kVCuts dcCuts pmCuts anCuts cdCuts ctCuts), slCuts⟩)
    (cCuts : PySem.W.codeIn K cdCuts "taken_by_cuts" = true)
    (kCuts : PySem.W.keepIn K (.ref fCuts) = true)
    (aLog : PySem.W.nsIn K mainGlobals "line_of_greats" = some (some (.ref fLog)))
    (lLog : K.lookup fLog = some ⟨ocLog, odLog, .func (PySem.W.fnOf "line_of_greats" "line_of_greats" (defArgs sLog) (defBody sLog) (defScope sLog) .none kVLog dcLog pmLog anLog cdLog ctLog), slLog⟩)
    (cLog : PySem.W.codeIn K cdLog "line_of_greats" = true)
    (kLog : PySem.W.keepIn K (.ref fLog) = true)
    (aTold : PySem.W.nsIn K mainGlobals "line_told" = some (some (.ref fTold)))
    (lTold : K.lookup fTold = some ⟨ocTold, odTold, .func (PySem.W.fnOf "line_told" "line_told" (defArgs sTold) (defBody sTold) (defScope sTold) .none kVTold dcTold pmTold anTold cdTold ctTold), slTold⟩)
    (cTold : PySem.W.codeIn K cdTold "line_told" = true)
    (kTold : PySem.W.keepIn K (.ref fTold) = true)
    (aSet : PySem.W.nsIn K mainGlobals "set_of_lines" = some (some (.ref fSet)))
    (lSet : K.lookup fSet = some ⟨ocSet, odSet, .func (PySem.W.fnOf "set_of_lines" "set_of_lines" (defArgs sSet) (defBody sSet) (defScope sSet) .none kVSet dcSet pmSet anSet cdSet ctSet), slSet⟩)
    (cSet : PySem.W.codeIn K cdSet "set_of_lines" = true)
    (kSet : PySem.W.keepIn K (.ref fSet) = true)
    (aAt : PySem.W.nsIn K mainGlobals "line_at" = some (some (.ref fAt)))
    (lAt : K.lookup fAt = some ⟨ocAt, odAt, .func (PySem.W.fnOf "line_at" "line_at" (defArgs sAt) (defBody sAt) (defScope sAt) .none kVAt dcAt pmAt anAt cdAt ctAt), slAt⟩)
    (cAt : PySem.W.codeIn K cdAt "line_at" = true)
    (kAt : PySem.W.keepIn K (.ref fAt) = true)
    (aGcd : PySem.W.nsIn K mainGlobals "common_divisor" = some (some (.ref fGcd)))
    (lGcd : K.lookup fGcd = some ⟨ocGcd, odGcd, .func (PySem.W.fnOf "common_divisor" "common_divisor" (defArgs sGcd) (defBody sGcd) (defScope sGcd) .none kVGcd dcGcd pmGcd anGcd cdGcd ctGcd), slGcd⟩)
    (cGcd : PySem.W.codeIn K cdGcd "common_divisor" = true)
    (kGcd : PySem.W.keepIn K (.ref fGcd) = true)
    (aProd : PySem.W.nsIn K mainGlobals "product_of" = some (some (.ref fProd)))
    (lProd : K.lookup fProd = some ⟨ocProd, odProd, .func (PySem.W.fnOf "product_of" "product_of" (defArgs sProd) (defBody sProd) (defScope sProd) .none kVProd dcProd pmProd anProd cdProd ctProd), slProd⟩)
    (cProd : PySem.W.codeIn K cdProd "product_of" = true)
    (kProd : PySem.W.keepIn K (.ref fProd) = true)
    (aCby : PySem.W.nsIn K mainGlobals "cuts_by_taken" = some (some (.ref fCby)))
    (lCby : K.lookup fCby = some ⟨ocCby, odCby, .func (PySem.W.fnOf "cuts_by_taken" "cuts_by_taken" (defArgs sCby) (defBody sCby) (defScope sCby) .none kVCby dcCby pmCby anCby cdCby ctCby), slCby⟩)
    (cCby : PySem.W.codeIn K cdCby "cuts_by_taken" = true)
    (kCby : PySem.W.keepIn K (.ref fCby) = true)
    (aAft : PySem.W.nsIn K mainGlobals "after_change" = some (some (.ref fAft)))
    (lAft : K.lookup fAft = some ⟨ocAft, odAft, .func (PySem.W.fnOf "after_change" "after_change" (defArgs sAft) (defBody sAft) (defScope sAft) .none kVAft dcAft pmAft anAft cdAft ctAft), slAft⟩)
    (cAft : PySem.W.codeIn K cdAft "after_change" = true)
    (kAft : PySem.W.keepIn K (.ref fAft) = true)
    (aLod : PySem.W.nsIn K mainGlobals "line_odds" = some (some (.ref fLod)))
    (lLod : K.lookup fLod = some ⟨ocLod, odLod, .func (PySem.W.fnOf "line_odds" "line_odds" (defArgs sLod) (defBody sLod) (defScope sLod) .none kVLod dcLod pmLod anLod cdLod ctLod), slLod⟩)
    (cLod : PySem.W.codeIn K cdLod "line_odds" = true)
    (kLod : PySem.W.keepIn K (.ref fLod) = true)
    (aChOf : PySem.W.nsIn K mainGlobals "chance_of" = some (some (.ref fChOf)))
    (lChOf : K.lookup fChOf = some ⟨ocChOf, odChOf, .func (PySem.W.fnOf "chance_of" "chance_of" (defArgs sChOf) (defBody sChOf) (defScope sChOf) .none kVChOf dcChOf pmChOf anChOf cdChOf ctChOf), slChOf⟩)
    (cChOf : PySem.W.codeIn K cdChOf "chance_of" = true)
    (kChOf : PySem.W.keepIn K (.ref fChOf) = true)
    (aChBec : PySem.W.nsIn K mainGlobals "chance_of_becoming" = some (some (.ref fChBec)))
    (lChBec : K.lookup fChBec = some ⟨ocChBec, odChBec, .func (PySem.W.fnOf "chance_of_becoming" "chance_of_becoming" (defArgs sChBec) (defBody sChBec) (defScope sChBec) .none kVChBec dcChBec pmChBec anChBec cdChBec ctChBec), slChBec⟩)
    (cChBec : PySem.W.codeIn K cdChBec "chance_of_becoming" = true)
    (kChBec : PySem.W.keepIn K (.ref fChBec) = true)
    (aChMov : PySem.W.nsIn K mainGlobals "chance_of_moving" = some (some (.ref fChMov)))
    (lChMov : K.lookup fChMov = some ⟨ocChMov, odChMov, .func (PySem.W.fnOf "chance_of_moving" "chance_of_moving" (defArgs sChMov) (defBody sChMov) (defScope sChMov) .none kVChMov dcChMov pmChMov anChMov cdChMov ctChMov), slChMov⟩)
    (cChMov : PySem.W.codeIn K cdChMov "chance_of_moving" = true)
    (kChMov : PySem.W.keepIn K (.ref fChMov) = true)
    (aLik : PySem.W.nsIn K mainGlobals "likeliest_origin" = some (some (.ref fLik)))
    (lLik : K.lookup fLik = some ⟨ocLik, odLik, .func (PySem.W.fnOf "likeliest_origin" "likeliest_origin" (defArgs sLik) (defBody sLik) (defScope sLik) .none kVLik dcLik pmLik anLik cdLik ctLik), slLik⟩)
    (cLik : PySem.W.codeIn K cdLik "likeliest_origin" = true)
    (kLik : PySem.W.keepIn K (.ref fLik) = true)
    (aEnd : PySem.W.nsIn K mainGlobals "end_of_call" = some (some (.ref fEnd)))
    (lEnd : K.lookup fEnd = some ⟨ocEnd, odEnd, .func (PySem.W.fnOf "end_of_call" "end_of_call" (defArgs sEnd) (defBody sEnd) (defScope sEnd) .none kVEnd dcEnd pmEnd anEnd cdEnd ctEnd), slEnd⟩)
    (cEnd : PySem.W.codeIn K cdEnd "end_of_call" = true)
    (kEnd : PySem.W.keepIn K (.ref fEnd) = true)
    (aAof : PySem.W.nsIn K mainGlobals "answer_of" = some (some (.ref fAof)))
    (lAof : K.lookup fAof = some ⟨ocAof, odAof, .func (PySem.W.fnOf "answer_of" "answer_of" (defArgs sAof) (defBody sAof) (defScope sAof) .none kVAof dcAof pmAof anAof cdAof ctAof), slAof⟩)
    (cAof : PySem.W.codeIn K cdAof "answer_of" = true)
    (kAof : PySem.W.keepIn K (.ref fAof) = true)
    (aAns : PySem.W.nsIn K mainGlobals "answers" = some (some (.ref fAns)))
    (lAns : K.lookup fAns = some ⟨ocAns, odAns, .func (PySem.W.fnOf "answers" "answers" (defArgs sAns) (defBody sAns) (defScope sAns) .none kVAns dcAns pmAns anAns cdAns ctAns), slAns⟩)
    (cAns : PySem.W.codeIn K cdAns "answers" = true)
    (kAns : PySem.W.keepIn K (.ref fAns) = true)
    (nC : PySem.W.nsIn K mainGlobals "Fraction" = some (some (.ref C)))
    (aFI : PySem.W.findIn K (.ref C) "__init__" = some (some (.ref fFI)))
    (iFI : PySem.W.isFn K (.ref fFI) = true)
    (lFI : K.lookup fFI = some ⟨ocFI, odFI, .func (PySem.W.fnOf "__init__" "Fraction.__init__" (defArgs sFI) (defBody sFI) (defScope sFI) .none kVFI dcFI pmFI anFI cdFI ctFI), slFI⟩)
    (cFI : PySem.W.codeIn K cdFI "Fraction.__init__" = true)
    (kFI : PySem.W.keepIn K (.ref fFI) = true)
    (aFP : PySem.W.findIn K (.ref C) "plus" = some (some (.ref fFP)))
    (iFP : PySem.W.isFn K (.ref fFP) = true)
    (lFP : K.lookup fFP = some ⟨ocFP, odFP, .func (PySem.W.fnOf "plus" "Fraction.plus" (defArgs sFP) (defBody sFP) (defScope sFP) .none kVFP dcFP pmFP anFP cdFP ctFP), slFP⟩)
    (cFP : PySem.W.codeIn K cdFP "Fraction.plus" = true)
    (kFP : PySem.W.keepIn K (.ref fFP) = true)
    (aFT : PySem.W.findIn K (.ref C) "times" = some (some (.ref fFT)))
    (iFT : PySem.W.isFn K (.ref fFT) = true)
    (lFT : K.lookup fFT = some ⟨ocFT, odFT, .func (PySem.W.fnOf "times" "Fraction.times" (defArgs sFT) (defBody sFT) (defScope sFT) .none kVFT dcFT pmFT anFT cdFT ctFT), slFT⟩)
    (cFT : PySem.W.codeIn K cdFT "Fraction.times" = true)
    (kFT : PySem.W.keepIn K (.ref fFT) = true)
    (aFX : PySem.W.findIn K (.ref C) "exceeds" = some (some (.ref fFX)))
    (iFX : PySem.W.isFn K (.ref fFX) = true)
    (lFX : K.lookup fFX = some ⟨ocFX, odFX, .func (PySem.W.fnOf "exceeds" "Fraction.exceeds" (defArgs sFX) (defBody sFX) (defScope sFX) .none kVFX dcFX pmFX anFX cdFX ctFX), slFX⟩)
    (cFX : PySem.W.codeIn K cdFX "Fraction.exceeds" = true)
    (kFX : PySem.W.keepIn K (.ref fFX) = true)
    (aFO : PySem.W.findIn K (.ref C) "told" = some (some (.ref fFO)))
    (iFO : PySem.W.isFn K (.ref fFO) = true)
    (lFO : K.lookup fFO = some ⟨ocFO, odFO, .func (PySem.W.fnOf "told" "Fraction.told" (defArgs sFO) (defBody sFO) (defScope sFO) .none kVFO dcFO pmFO anFO cdFO ctFO), slFO⟩)
    (cFO : PySem.W.codeIn K cdFO "Fraction.told" = true)
    (kFO : PySem.W.keepIn K (.ref fFO) = true)
    (pgC : PySem.W.plainGet K C Str.empty = true)
    (hdC : PySem.W.hasDictIn K C = true)
    (poC : PySem.W.plainOver K C = true)
    (saC : PySem.W.findIn K (.ref C) "__setattr__" = some (some (.builtin "object.__setattr__")))
    (mkC : PySem.W.makesIn K C = true)
    (kcC : PySem.W.keepIn K (.ref C) = true)
    (noCabove : PySem.W.findIn K (.ref C) "above" = some none)
    (noCbelow : PySem.W.findIn K (.ref C) "below" = some none)
    (nB : PySem.W.nsIn K mainGlobals "Bundle" = some (some (.ref B)))
    (aBI : PySem.W.findIn K (.ref B) "__init__" = some (some (.ref fBI)))
    (iBI : PySem.W.isFn K (.ref fBI) = true)
    (lBI : K.lookup fBI = some ⟨ocBI, odBI, .func (PySem.W.fnOf "__init__" "Bundle.__init__" (defArgs sBI) (defBody sBI) (defScope sBI) .none kVBI dcBI pmBI anBI cdBI ctBI), slBI⟩)
    (cBI : PySem.W.codeIn K cdBI "Bundle.__init__" = true)
    (kBI : PySem.W.keepIn K (.ref fBI) = true)
    (aBeg : PySem.W.findIn K (.ref B) "begins" = some (some (.ref fBeg)))
    (iBeg : PySem.W.isFn K (.ref fBeg) = true)
    (lBeg : K.lookup fBeg = some ⟨ocBeg, odBeg, .func (PySem.W.fnOf "begins" "Bundle.begins" (defArgs sBegins) (defBody sBegins) (defScope sBegins) .none kVBeg dcBeg pmBeg anBeg cdBeg ctBeg), slBeg⟩)
    (cBeg : PySem.W.codeIn K cdBeg "Bundle.begins" = true)
    (kBeg : PySem.W.keepIn K (.ref fBeg) = true)
    (aLin : PySem.W.findIn K (.ref B) "line" = some (some (.ref fLin)))
    (iLin : PySem.W.isFn K (.ref fLin) = true)
    (lLin : K.lookup fLin = some ⟨ocLin, odLin, .func (PySem.W.fnOf "line" "Bundle.line" (defArgs sLine) (defBody sLine) (defScope sLine) .none kVLin dcLin pmLin anLin cdLin ctLin), slLin⟩)
    (cLin : PySem.W.codeIn K cdLin "Bundle.line" = true)
    (kLin : PySem.W.keepIn K (.ref fLin) = true)
    (aOdd : PySem.W.findIn K (.ref B) "odds" = some (some (.ref fOdd)))
    (iOdd : PySem.W.isFn K (.ref fOdd) = true)
    (lOdd : K.lookup fOdd = some ⟨ocOdd, odOdd, .func (PySem.W.fnOf "odds" "Bundle.odds" (defArgs sOdds) (defBody sOdds) (defScope sOdds) .none kVOdd dcOdd pmOdd anOdd cdOdd ctOdd), slOdd⟩)
    (cOdd : PySem.W.codeIn K cdOdd "Bundle.odds" = true)
    (kOdd : PySem.W.keepIn K (.ref fOdd) = true)
    (aCas : PySem.W.findIn K (.ref B) "cast" = some (some (.ref fCas)))
    (iCas : PySem.W.isFn K (.ref fCas) = true)
    (lCas : K.lookup fCas = some ⟨ocCas, odCas, .func (PySem.W.fnOf "cast" "Bundle.cast" (defArgs sCast) (defBody sCast) (defScope sCast) .none kVCas dcCas pmCas anCas cdCas ctCas), slCas⟩)
    (cCas : PySem.W.codeIn K cdCas "Bundle.cast" = true)
    (kCas : PySem.W.keepIn K (.ref fCas) = true)
    (aCha : PySem.W.findIn K (.ref B) "chance" = some (some (.ref fCha)))
    (iCha : PySem.W.isFn K (.ref fCha) = true)
    (lCha : K.lookup fCha = some ⟨ocCha, odCha, .func (PySem.W.fnOf "chance" "Bundle.chance" (defArgs sChance) (defBody sChance) (defScope sChance) .none kVCha dcCha pmCha anCha cdCha ctCha), slCha⟩)
    (cCha : PySem.W.codeIn K cdCha "Bundle.chance" = true)
    (kCha : PySem.W.keepIn K (.ref fCha) = true)
    (aBec : PySem.W.findIn K (.ref B) "becomes" = some (some (.ref fBec)))
    (iBec : PySem.W.isFn K (.ref fBec) = true)
    (lBec : K.lookup fBec = some ⟨ocBec, odBec, .func (PySem.W.fnOf "becomes" "Bundle.becomes" (defArgs sBecomes) (defBody sBecomes) (defScope sBecomes) .none kVBec dcBec pmBec anBec cdBec ctBec), slBec⟩)
    (cBec : PySem.W.codeIn K cdBec "Bundle.becomes" = true)
    (kBec : PySem.W.keepIn K (.ref fBec) = true)
    (aBMov : PySem.W.findIn K (.ref B) "moving" = some (some (.ref fBMov)))
    (iBMov : PySem.W.isFn K (.ref fBMov) = true)
    (lBMov : K.lookup fBMov = some ⟨ocBMov, odBMov, .func (PySem.W.fnOf "moving" "Bundle.moving" (defArgs sMoving) (defBody sMoving) (defScope sMoving) .none kVBMov dcBMov pmBMov anBMov cdBMov ctBMov), slBMov⟩)
    (cBMov : PySem.W.codeIn K cdBMov "Bundle.moving" = true)
    (kBMov : PySem.W.keepIn K (.ref fBMov) = true)
    (aBCam : PySem.W.findIn K (.ref B) "came" = some (some (.ref fBCam)))
    (iBCam : PySem.W.isFn K (.ref fBCam) = true)
    (lBCam : K.lookup fBCam = some ⟨ocBCam, odBCam, .func (PySem.W.fnOf "came" "Bundle.came" (defArgs sCame) (defBody sCame) (defScope sCame) .none kVBCam dcBCam pmBCam anBCam cdBCam ctBCam), slBCam⟩)
    (cBCam : PySem.W.codeIn K cdBCam "Bundle.came" = true)
    (kBCam : PySem.W.keepIn K (.ref fBCam) = true)
    (aBTur : PySem.W.findIn K (.ref B) "turned" = some (some (.ref fBTur)))
    (iBTur : PySem.W.isFn K (.ref fBTur) = true)
    (lBTur : K.lookup fBTur = some ⟨ocBTur, odBTur, .func (PySem.W.fnOf "turned" "Bundle.turned" (defArgs sTurned) (defBody sTurned) (defScope sTurned) .none kVBTur dcBTur pmBTur anBTur cdBTur ctBTur), slBTur⟩)
    (cBTur : PySem.W.codeIn K cdBTur "Bundle.turned" = true)
    (kBTur : PySem.W.keepIn K (.ref fBTur) = true)
    (aBFam : PySem.W.findIn K (.ref B) "family" = some (some (.ref fBFam)))
    (iBFam : PySem.W.isFn K (.ref fBFam) = true)
    (lBFam : K.lookup fBFam = some ⟨ocBFam, odBFam, .func (PySem.W.fnOf "family" "Bundle.family" (defArgs sFamily) (defBody sFamily) (defScope sFamily) .none kVBFam dcBFam pmBFam anBFam cdBFam ctBFam), slBFam⟩)
    (cBFam : PySem.W.codeIn K cdBFam "Bundle.family" = true)
    (kBFam : PySem.W.keepIn K (.ref fBFam) = true)
    (aBCor : PySem.W.findIn K (.ref B) "cores" = some (some (.ref fBCor)))
    (iBCor : PySem.W.isFn K (.ref fBCor) = true)
    (lBCor : K.lookup fBCor = some ⟨ocBCor, odBCor, .func (PySem.W.fnOf "cores" "Bundle.cores" (defArgs sCores) (defBody sCores) (defScope sCores) .none kVBCor dcBCor pmBCor anBCor cdBCor ctBCor), slBCor⟩)
    (cBCor : PySem.W.codeIn K cdBCor "Bundle.cores" = true)
    (kBCor : PySem.W.keepIn K (.ref fBCor) = true)
    (aBPai : PySem.W.findIn K (.ref B) "pairs" = some (some (.ref fBPai)))
    (iBPai : PySem.W.isFn K (.ref fBPai) = true)
    (lBPai : K.lookup fBPai = some ⟨ocBPai, odBPai, .func (PySem.W.fnOf "pairs" "Bundle.pairs" (defArgs sPairs) (defBody sPairs) (defScope sPairs) .none kVBPai dcBPai pmBPai anBPai cdBPai ctBPai), slBPai⟩)
    (cBPai : PySem.W.codeIn K cdBPai "Bundle.pairs" = true)
    (kBPai : PySem.W.keepIn K (.ref fBPai) = true)
    (pgB : PySem.W.plainGet K B Str.empty = true)
    (hdB : PySem.W.hasDictIn K B = true)
    (poB : PySem.W.plainOver K B = true)
    (saB : PySem.W.findIn K (.ref B) "__setattr__" = some (some (.builtin "object.__setattr__")))
    (mkB : PySem.W.makesIn K B = true)
    (kcB : PySem.W.keepIn K (.ref B) = true)
    (noBstalks : PySem.W.findIn K (.ref B) "stalks" = some none)
    (vCHANGES_OF_A_LINE : PySem.W.nsIn K mainGlobals "CHANGES_OF_A_LINE" = some (some (.int (3) tCHANGES_OF_A_LINE)))
    (vLINES_OF_A_HEXAGRAM : PySem.W.nsIn K mainGlobals "LINES_OF_A_HEXAGRAM" = some (some (.int (6) tLINES_OF_A_HEXAGRAM)))
    (vLINES_OF_A_HALF : PySem.W.nsIn K mainGlobals "LINES_OF_A_HALF" = some (some (.int (3) tLINES_OF_A_HALF)))
    (vSTALKS_AT_FIRST : PySem.W.nsIn K mainGlobals "STALKS_AT_FIRST" = some (some (.int (49) tSTALKS_AT_FIRST)))
    (vFEWEST_STALKS : PySem.W.nsIn K mainGlobals "FEWEST_STALKS" = some (some (.int (21) tFEWEST_STALKS)))
    (vMOST_STALKS : PySem.W.nsIn K mainGlobals "MOST_STALKS" = some (some (.int (97) tMOST_STALKS)))
    (vLAST_HEXAGRAM : PySem.W.nsIn K mainGlobals "LAST_HEXAGRAM" = some (some (.int (63) tLAST_HEXAGRAM)))
    (vLAST_SET_OF_LINES : PySem.W.nsIn K mainGlobals "LAST_SET_OF_LINES" = some (some (.int (63) tLAST_SET_OF_LINES)))
    (vOUT_OF_RANGE : PySem.W.nsIn K mainGlobals "OUT_OF_RANGE" = some (some (.int (-1) tOUT_OF_RANGE)))
    (vNO_SUCH_CUT : PySem.W.nsIn K mainGlobals "NO_SUCH_CUT" = some (some (.int (-2) tNO_SUCH_CUT)))
    (vBEGINS : PySem.W.nsIn K mainGlobals "BEGINS" = some (some (.int (0) tBEGINS)))
    (vLINE : PySem.W.nsIn K mainGlobals "LINE" = some (some (.int (1) tLINE)))
    (vODDS : PySem.W.nsIn K mainGlobals "ODDS" = some (some (.int (2) tODDS)))
    (vCAST : PySem.W.nsIn K mainGlobals "CAST" = some (some (.int (3) tCAST)))
    (vCHANCE : PySem.W.nsIn K mainGlobals "CHANCE" = some (some (.int (4) tCHANCE)))
    (vBECOMES : PySem.W.nsIn K mainGlobals "BECOMES" = some (some (.int (5) tBECOMES)))
    (vMOVING_LINES : PySem.W.nsIn K mainGlobals "MOVING_LINES" = some (some (.int (6) tMOVING_LINES)))
    (vCAME : PySem.W.nsIn K mainGlobals "CAME" = some (some (.int (7) tCAME)))
    (vTURNED : PySem.W.nsIn K mainGlobals "TURNED" = some (some (.int (8) tTURNED)))
    (vFAMILY : PySem.W.nsIn K mainGlobals "FAMILY" = some (some (.int (9) tFAMILY)))
    (vCORES : PySem.W.nsIn K mainGlobals "CORES" = some (some (.int (10) tCORES)))
    (vPAIRS : PySem.W.nsIn K mainGlobals "PAIRS" = some (some (.int (11) tPAIRS)))
    (vGREAT : PySem.W.nsIn K mainGlobals "GREAT" = some (some (.ref uGREAT)))
    (wGREAT : K.lookup uGREAT = some ⟨.type "tuple", udGREAT, .seq uiGREAT unGREAT, usGREAT⟩)
    (xGREAT : Vals [.int 8, .int 9] uiGREAT.toList ∧ uiGREAT.size ≤ sizeLine)
    (vWHOLE : PySem.W.nsIn K mainGlobals "WHOLE" = some (some (.ref uWHOLE)))
    (wWHOLE : K.lookup uWHOLE = some ⟨.type "tuple", udWHOLE, .seq uiWHOLE unWHOLE, usWHOLE⟩)
    (xWHOLE : Vals [.int 7, .int 9] uiWHOLE.toList ∧ uiWHOLE.size ≤ sizeLine)
    (vMOVING : PySem.W.nsIn K mainGlobals "MOVING" = some (some (.ref uMOVING)))
    (wMOVING : K.lookup uMOVING = some ⟨.type "tuple", udMOVING, .seq uiMOVING unMOVING, usMOVING⟩)
    (xMOVING : Vals [.int 6, .int 9] uiMOVING.toList ∧ uiMOVING.size ≤ sizeLine)
    (vPLACES_OF_THE_CORE : PySem.W.nsIn K mainGlobals "PLACES_OF_THE_CORE" = some (some (.ref uPLACES_OF_THE_CORE)))
    (wPLACES_OF_THE_CORE : K.lookup uPLACES_OF_THE_CORE = some ⟨.type "tuple", udPLACES_OF_THE_CORE, .seq uiPLACES_OF_THE_CORE unPLACES_OF_THE_CORE, usPLACES_OF_THE_CORE⟩)
    (xPLACES_OF_THE_CORE : Vals [.int 1, .int 2, .int 3, .int 2, .int 3, .int 4] uiPLACES_OF_THE_CORE.toList ∧ uiPLACES_OF_THE_CORE.size ≤ sizeLine)
    (vNUMBERS_BEHIND : PySem.W.nsIn K mainGlobals "NUMBERS_BEHIND" = some (some (.ref uNUMBERS_BEHIND)))
    (wNUMBERS_BEHIND : K.lookup uNUMBERS_BEHIND = some ⟨.type "dict", none, .dict ueNUMBERS_BEHIND unNUMBERS_BEHIND, #[]⟩)
    (xNUMBERS_BEHIND : Paired EntI ueNUMBERS_BEHIND.toList nbehind)
    (zlen : PySem.W.nsIn K mainGlobals "len" = some none)
    (zrange : PySem.W.nsIn K mainGlobals "range" = some none)
    (zenumerate : PySem.W.nsIn K mainGlobals "enumerate" = some none)
    (zsum : PySem.W.nsIn K mainGlobals "sum" = some none)
    (zlist : PySem.W.nsIn K mainGlobals "list" = some none)
    (zreversed : PySem.W.nsIn K mainGlobals "reversed" = some none)
    (zsorted : PySem.W.nsIn K mainGlobals "sorted" = some none)
    : ∃ fd : FuncData, (∀ (s : Shared) (us : List Value), us.length = (["calls"] : List Str).length → BindsTo s fd ⟨us, []⟩ ((["calls"] : List Str).zip us)) ∧ ∀ base : Heap, K.In base → base.Ns mainGlobals mg → FnOk P w K mg base CX0 10 fa fd ["calls"] (spAnswers K) := by
  have e := hfa.symm.trans (PySem.W.mg_of X G aAns)
  cases e
  have FLof := fun_mk (st := sLof) lLof cLof kLof
  have bLof := FLof.binds (ps := ["hexagram"]) fun _ _ _ _ _ _ us hl => match us, hl with | [_], _ => rfl
  have mLof := PySem.W.mg_of X G aLof
  have FHof := fun_mk (st := sHof) lHof cHof kHof
  have bHof := FHof.binds (ps := ["lines"]) fun _ _ _ _ _ _ us hl => match us, hl with | [_], _ => rfl
  have mHof := PySem.W.mg_of X G aHof
  have FUp := fun_mk (st := sUp) lUp cUp kUp
  have bUp := FUp.binds (ps := ["hexagram"]) fun _ _ _ _ _ _ us hl => match us, hl with | [_], _ => rfl
  have mUp := PySem.W.mg_of X G aUp
  have FOpp := fun_mk (st := sOpp) lOpp cOpp kOpp
  have bOpp := FOpp.binds (ps := ["hexagram"]) fun _ _ _ _ _ _ us hl => match us, hl with | [_], _ => rfl
  have mOpp := PySem.W.mg_of X G aOpp
  have FExc := fun_mk (st := sExc) lExc cExc kExc
  have bExc := FExc.binds (ps := ["hexagram"]) fun _ _ _ _ _ _ us hl => match us, hl with | [_], _ => rfl
  have mExc := PySem.W.mg_of X G aExc
  have FCore := fun_mk (st := sCore) lCore cCore kCore
  have bCore := FCore.binds (ps := ["hexagram"]) fun _ _ _ _ _ _ us hl => match us, hl with | [_], _ => rfl
  have mCore := PySem.W.mg_of X G aCore
  have FPart := fun_mk (st := sPart) lPart cPart kPart
  have bPart := FPart.binds (ps := ["hexagram"]) fun _ _ _ _ _ _ us hl => match us, hl with | [_], _ => rfl
  have mPart := PySem.W.mg_of X G aPart
  have FFam := fun_mk (st := sFam) lFam cFam kFam
  have bFam := FFam.binds (ps := ["hexagram"]) fun _ _ _ _ _ _ us hl => match us, hl with | [_], _ => rfl
  have mFam := PySem.W.mg_of X G aFam
  have FCrs := fun_mk (st := sCrs) lCrs cCrs kCrs
  have bCrs := FCrs.binds (ps := ["hexagram"]) fun _ _ _ _ _ _ us hl => match us, hl with | [_], _ => rfl
  have mCrs := PySem.W.mg_of X G aCrs
  have FFwp := fun_mk (st := sFwp) lFwp cFwp kFwp
  have bFwp := FFwp.binds (ps := ["order"]) fun _ _ _ _ _ _ us hl => match us, hl with | [_], _ => rfl
  have mFwp := PySem.W.mg_of X G aFwp
  have FLeft := fun_mk (st := sLeft) lLeft cLeft kLeft
  have bLeft := FLeft.binds (ps := ["heap"]) fun _ _ _ _ _ _ us hl => match us, hl with | [_], _ => rfl
  have mLeft := PySem.W.mg_of X G aLeft
  have FCut := fun_mk (st := sCut) lCut cCut kCut
  have bCut := FCut.binds (ps := ["in_hand", "cut"]) fun _ _ _ _ _ _ us hl => match us, hl with | [_, _], _ => rfl
  have mCut := PySem.W.mg_of X G aCut
  have FCuts := fun_mk (st := sCuts) lCuts cCuts kCuts
  have bCuts := FCuts.binds (ps := ["stalks", "cuts"]) fun _ _ _ _ _ _ us hl => match us, hl with | [_, _], _ => rfl
  have mCuts := PySem.W.mg_of X G aCuts
  have FLog := fun_mk (st := sLog) lLog cLog kLog
  have bLog := FLog.binds (ps := ["greats"]) fun _ _ _ _ _ _ us hl => match us, hl with | [_], _ => rfl
  have mLog := PySem.W.mg_of X G aLog
  have FTold := fun_mk (st := sTold) lTold cTold kTold
  have bTold := FTold.binds (ps := ["taken"]) fun _ _ _ _ _ _ us hl => match us, hl with | [_], _ => rfl
  have mTold := PySem.W.mg_of X G aTold
  have FSet := fun_mk (st := sSet) lSet cSet kSet
  have bSet := FSet.binds (ps := ["lines", "kinds"]) fun _ _ _ _ _ _ us hl => match us, hl with | [_, _], _ => rfl
  have mSet := PySem.W.mg_of X G aSet
  have FAt := fun_mk (st := sAt) lAt cAt kAt
  have bAt := FAt.binds (ps := ["hexagram", "moving", "place"]) fun _ _ _ _ _ _ us hl => match us, hl with | [_, _, _], _ => rfl
  have mAt := PySem.W.mg_of X G aAt
  have FGcd := fun_mk (st := sGcd) lGcd cGcd kGcd
  have bGcd := FGcd.binds (ps := ["one", "other"]) fun _ _ _ _ _ _ us hl => match us, hl with | [_, _], _ => rfl
  have mGcd := PySem.W.mg_of X G aGcd
  have FProd := fun_mk (st := sProd) lProd cProd kProd
  have bProd := FProd.binds (ps := ["fractions"]) fun _ _ _ _ _ _ us hl => match us, hl with | [_], _ => rfl
  have mProd := PySem.W.mg_of X G aProd
  have FCby := fun_mk (st := sCby) lCby cCby kCby
  have bCby := FCby.binds (ps := ["in_hand"]) fun _ _ _ _ _ _ us hl => match us, hl with | [_], _ => rfl
  have mCby := PySem.W.mg_of X G aCby
  have FAft := fun_mk (st := sAft) lAft cAft kAft
  have bAft := FAft.binds (ps := ["chances"]) fun _ _ _ _ _ _ us hl => match us, hl with | [_], _ => rfl
  have mAft := PySem.W.mg_of X G aAft
  have FLod := fun_mk (st := sLod) lLod cLod kLod
  have bLod := FLod.binds (ps := ["stalks"]) fun _ _ _ _ _ _ us hl => match us, hl with | [_], _ => rfl
  have mLod := PySem.W.mg_of X G aLod
  have FChOf := fun_mk (st := sChOf) lChOf cChOf kChOf
  have bChOf := FChOf.binds (ps := ["odds", "hexagram", "moving"]) fun _ _ _ _ _ _ us hl => match us, hl with | [_, _, _], _ => rfl
  have mChOf := PySem.W.mg_of X G aChOf
  have FChBec := fun_mk (st := sChBec) lChBec cChBec kChBec
  have bChBec := FChBec.binds (ps := ["odds", "hexagram"]) fun _ _ _ _ _ _ us hl => match us, hl with | [_, _], _ => rfl
  have mChBec := PySem.W.mg_of X G aChBec
  have FChMov := fun_mk (st := sChMov) lChMov cChMov kChMov
  have bChMov := FChMov.binds (ps := ["odds", "count"]) fun _ _ _ _ _ _ us hl => match us, hl with | [_, _], _ => rfl
  have mChMov := PySem.W.mg_of X G aChMov
  have FLik := fun_mk (st := sLik) lLik cLik kLik
  have bLik := FLik.binds (ps := ["odds", "hexagram"]) fun _ _ _ _ _ _ us hl => match us, hl with | [_, _], _ => rfl
  have mLik := PySem.W.mg_of X G aLik
  have FEnd := fun_mk (st := sEnd) lEnd cEnd kEnd
  have bEnd := FEnd.binds (ps := ["calls", "start"]) fun _ _ _ _ _ _ us hl => match us, hl with | [_, _], _ => rfl
  have mEnd := PySem.W.mg_of X G aEnd
  have FAof := fun_mk (st := sAof) lAof cAof kAof
  have bAof := FAof.binds (ps := ["bundle", "call"]) fun _ _ _ _ _ _ us hl => match us, hl with | [_, _], _ => rfl
  have mAof := PySem.W.mg_of X G aAof
  have FAns := fun_mk (st := sAns) lAns cAns kAns
  have bAns := FAns.binds (ps := ["calls"]) fun _ _ _ _ _ _ us hl => match us, hl with | [_], _ => rfl
  have mAns := PySem.W.mg_of X G aAns
  have clC : Cls K C := ⟨pgC, hdC, poC, saC⟩
  have mgC := PySem.W.mg_of X G nC
  have FFI := fun_mk (st := sFI) lFI cFI kFI
  have bFI := FFI.binds (ps := ["self", "above", "below"]) fun _ _ _ _ _ _ us hl => match us, hl with | [_, _, _], _ => rfl
  have FFP := fun_mk (st := sFP) lFP cFP kFP
  have bFP := FFP.binds (ps := ["self", "other"]) fun _ _ _ _ _ _ us hl => match us, hl with | [_, _], _ => rfl
  have FFT := fun_mk (st := sFT) lFT cFT kFT
  have bFT := FFT.binds (ps := ["self", "other"]) fun _ _ _ _ _ _ us hl => match us, hl with | [_, _], _ => rfl
  have FFX := fun_mk (st := sFX) lFX cFX kFX
  have bFX := FFX.binds (ps := ["self", "other"]) fun _ _ _ _ _ _ us hl => match us, hl with | [_, _], _ => rfl
  have FFO := fun_mk (st := sFO) lFO cFO kFO
  have bFO := FFO.binds (ps := ["self"]) fun _ _ _ _ _ _ us hl => match us, hl with | [_], _ => rfl
  have clB : Cls K B := ⟨pgB, hdB, poB, saB⟩
  have mgB := PySem.W.mg_of X G nB
  have FBI := fun_mk (st := sBI) lBI cBI kBI
  have bBI := FBI.binds (ps := ["self"]) fun _ _ _ _ _ _ us hl => match us, hl with | [_], _ => rfl
  have FBeg := fun_mk (st := sBegins) lBeg cBeg kBeg
  have bBeg := FBeg.binds (ps := ["self", "stalks"]) fun _ _ _ _ _ _ us hl => match us, hl with | [_, _], _ => rfl
  have FLin := fun_mk (st := sLine) lLin cLin kLin
  have bLin := FLin.binds (ps := ["self", "cuts"]) fun _ _ _ _ _ _ us hl => match us, hl with | [_, _], _ => rfl
  have FOdd := fun_mk (st := sOdds) lOdd cOdd kOdd
  have bOdd := FOdd.binds (ps := ["self"]) fun _ _ _ _ _ _ us hl => match us, hl with | [_], _ => rfl
  have FCas := fun_mk (st := sCast) lCas cCas kCas
  have bCas := FCas.binds (ps := ["self", "cuts"]) fun _ _ _ _ _ _ us hl => match us, hl with | [_, _], _ => rfl
  have FCha := fun_mk (st := sChance) lCha cCha kCha
  have bCha := FCha.binds (ps := ["self", "hexagram", "moving"]) fun _ _ _ _ _ _ us hl => match us, hl with | [_, _, _], _ => rfl
  have FBec := fun_mk (st := sBecomes) lBec cBec kBec
  have bBec := FBec.binds (ps := ["self", "hexagram"]) fun _ _ _ _ _ _ us hl => match us, hl with | [_, _], _ => rfl
  have FBMov := fun_mk (st := sMoving) lBMov cBMov kBMov
  have bBMov := FBMov.binds (ps := ["self", "count"]) fun _ _ _ _ _ _ us hl => match us, hl with | [_, _], _ => rfl
  have FBCam := fun_mk (st := sCame) lBCam cBCam kBCam
  have bBCam := FBCam.binds (ps := ["self", "hexagram"]) fun _ _ _ _ _ _ us hl => match us, hl with | [_, _], _ => rfl
  have FBTur := fun_mk (st := sTurned) lBTur cBTur kBTur
  have bBTur := FBTur.binds (ps := ["self", "hexagram"]) fun _ _ _ _ _ _ us hl => match us, hl with | [_, _], _ => rfl
  have FBFam := fun_mk (st := sFamily) lBFam cBFam kBFam
  have bBFam := FBFam.binds (ps := ["self", "hexagram"]) fun _ _ _ _ _ _ us hl => match us, hl with | [_, _], _ => rfl
  have FBCor := fun_mk (st := sCores) lBCor cBCor kBCor
  have bBCor := FBCor.binds (ps := ["self", "hexagram"]) fun _ _ _ _ _ _ us hl => match us, hl with | [_, _], _ => rfl
  have FBPai := fun_mk (st := sPairs) lBPai cBPai kBPai
  have bBPai := FBPai.binds (ps := ["self", "order"]) fun _ _ _ _ _ _ us hl => match us, hl with | [_, _], _ => rfl
  have T : Txt K mg := ⟨PySem.W.mg_none_of X G zlen, PySem.W.mg_none_of X G zrange, PySem.W.mg_none_of X G zenumerate, ⟨_, _, _, _, PySem.W.mg_of X G vGREAT, wGREAT, rfl, rfl, xGREAT.2, xGREAT.1⟩, ⟨_, PySem.W.mg_of X G vCHANGES_OF_A_LINE⟩, ⟨_, PySem.W.mg_of X G vLINES_OF_A_HEXAGRAM⟩⟩
  have TH : TxH K mg := ⟨PySem.W.mg_none_of X G zsum, PySem.W.mg_none_of X G zlist, PySem.W.mg_none_of X G zreversed, PySem.W.mg_none_of X G zsorted, ⟨_, PySem.W.mg_of X G vLINES_OF_A_HALF⟩, ⟨_, PySem.W.mg_of X G vLAST_HEXAGRAM⟩, ⟨_, _, _, _, PySem.W.mg_of X G vPLACES_OF_THE_CORE, wPLACES_OF_THE_CORE, rfl, rfl, xPLACES_OF_THE_CORE.2, xPLACES_OF_THE_CORE.1⟩⟩
  have TF : TxF K C := ⟨clC, noCabove, noCbelow⟩
  have TB : TxB K mg B := ⟨clB, noBstalks, ⟨_, PySem.W.mg_of X G vSTALKS_AT_FIRST⟩, ⟨_, PySem.W.mg_of X G vFEWEST_STALKS⟩, ⟨_, PySem.W.mg_of X G vMOST_STALKS⟩, ⟨_, PySem.W.mg_of X G vLAST_HEXAGRAM⟩, ⟨_, PySem.W.mg_of X G vLAST_SET_OF_LINES⟩, ⟨_, PySem.W.mg_of X G vOUT_OF_RANGE⟩, ⟨_, PySem.W.mg_of X G vNO_SUCH_CUT⟩, ⟨_, _, _, _, PySem.W.mg_of X G vWHOLE, wWHOLE, rfl, rfl, xWHOLE.2, xWHOLE.1⟩, ⟨_, _, _, _, PySem.W.mg_of X G vMOVING, wMOVING, rfl, rfl, xMOVING.2, xMOVING.1⟩⟩
  have TE : TxE K mg := ⟨⟨_, PySem.W.mg_of X G vBEGINS⟩, ⟨_, PySem.W.mg_of X G vLINE⟩, ⟨_, PySem.W.mg_of X G vODDS⟩, ⟨_, PySem.W.mg_of X G vCAST⟩, ⟨_, PySem.W.mg_of X G vCHANCE⟩, ⟨_, PySem.W.mg_of X G vBECOMES⟩, ⟨_, PySem.W.mg_of X G vMOVING_LINES⟩, ⟨_, PySem.W.mg_of X G vCAME⟩, ⟨_, PySem.W.mg_of X G vTURNED⟩, ⟨_, PySem.W.mg_of X G vFAMILY⟩, ⟨_, PySem.W.mg_of X G vCORES⟩, ⟨_, PySem.W.mg_of X G vPAIRS⟩, ⟨_, _, _, _, PySem.W.mg_of X G vNUMBERS_BEHIND, wNUMBERS_BEHIND, ⟨rfl, rfl, rfl⟩, rfl, xNUMBERS_BEHIND⟩⟩
  refine ⟨PySem.W.fnOf "answers" "answers" (defArgs sAns) (defBody sAns) (defScope sAns) .none kVAns dcAns pmAns anAns cdAns ctAns, fun s us hu => match us, hu with | [_], _ => .of_eq rfl, fun base _ _ => ?_⟩
  have GLof : GF P w K mg base 1 "lines_of" ["hexagram"] _ := ⟨_, _, ok_lof FLof T, mLof, kLof, bLof⟩
  have GHof : GF P w K mg base 1 "hexagram_of" ["lines"] _ := ⟨_, _, ok_hof FHof T TH, mHof, kHof, bHof⟩
  have GUp : GF P w K mg base 2 "upside_down" ["hexagram"] _ := ⟨_, _, ok_up FUp TH GLof GHof, mUp, kUp, bUp⟩
  have GOpp : GF P w K mg base 2 "opposite" ["hexagram"] _ := ⟨_, _, ok_opp FOpp GLof GHof, mOpp, kOpp, bOpp⟩
  have GExc : GF P w K mg base 2 "exchanged" ["hexagram"] _ := ⟨_, _, ok_exc FExc TH GLof GHof, mExc, kExc, bExc⟩
  have GCore : GF P w K mg base 2 "core" ["hexagram"] _ := ⟨_, _, ok_core FCore TH GLof GHof, mCore, kCore, bCore⟩
  have GPart : GF P w K mg base 3 "partner" ["hexagram"] _ := ⟨_, _, ok_part FPart GUp GOpp, mPart, kPart, bPart⟩
  have GFam : GF P w K mg base 3 "family_of" ["hexagram"] _ := ⟨_, _, ok_fam FFam TH GUp GOpp GExc, mFam, kFam, bFam⟩
  have GCrs : GF P w K mg base 3 "cores_from" ["hexagram"] _ := ⟨_, _, ok_crs FCrs GCore, mCrs, kCrs, bCrs⟩
  have GFwp : GF P w K mg base 4 "first_wrong_place" ["order"] _ := ⟨_, _, ok_fwp FFwp T TH GPart, mFwp, kFwp, bFwp⟩
  have GLeft : GF P w K mg base 1 "left_over" ["heap"] _ := ⟨_, _, ok_left FLeft, mLeft, kLeft, bLeft⟩
  have GCut : GF P w K mg base 2 "taken_by_cut" ["in_hand", "cut"] _ := ⟨_, _, ok_cut FCut GLeft, mCut, kCut, bCut⟩
  have GCuts : GF P w K mg base 3 "taken_by_cuts" ["stalks", "cuts"] _ := ⟨_, _, ok_cuts FCuts GCut, mCuts, kCuts, bCuts⟩
  have GLog : GF P w K mg base 1 "line_of_greats" ["greats"] _ := ⟨_, _, ok_log FLog, mLog, kLog, bLog⟩
  have GTold : GF P w K mg base 2 "line_told" ["taken"] _ := ⟨_, _, ok_told FTold T GLog, mTold, kTold, bTold⟩
  have GSet : GF P w K mg base 1 "set_of_lines" ["lines", "kinds"] _ := ⟨_, _, ok_set FSet T, mSet, kSet, bSet⟩
  have GAt : GF P w K mg base 1 "line_at" ["hexagram", "moving", "place"] _ := ⟨_, _, ok_at FAt, mAt, kAt, bAt⟩
  have GGcd : GF P w K mg base 1 "common_divisor" ["one", "other"] _ := ⟨_, _, ok_gcd FGcd, mGcd, kGcd, bGcd⟩
  have GFI : GC P w K mg base C 2 "Fraction" ["self", "above", "below"] _ := ⟨_, _, ok_fi FFI TF GGcd, ⟨mkC, aFI, iFI, kcC⟩, mgC, bFI⟩
  have GFP : GM P w K mg base C 4 "plus" ["self", "other"] _ := ⟨_, _, ok_fp FFP TF GFI, clC, ⟨aFP, iFP, kFP⟩, bFP⟩
  have GFT : GM P w K mg base C 4 "times" ["self", "other"] _ := ⟨_, _, ok_ft FFT TF GFI, clC, ⟨aFT, iFT, kFT⟩, bFT⟩
  have GFX : GM P w K mg base C 1 "exceeds" ["self", "other"] _ := ⟨_, _, ok_fx FFX TF, clC, ⟨aFX, iFX, kFX⟩, bFX⟩
  have GFO : GM P w K mg base C 1 "told" ["self"] _ := ⟨_, _, ok_fo FFO TF, clC, ⟨aFO, iFO, kFO⟩, bFO⟩
  have GProd : GF P w K mg base 5 "product_of" ["fractions"] _ := ⟨_, _, ok_prod FProd GFI GFT, mProd, kProd, bProd⟩
  have GCby : GF P w K mg base 3 "cuts_by_taken" ["in_hand"] _ := ⟨_, _, ok_cby FCby T GCut, mCby, kCby, bCby⟩
  have GAft : GF P w K mg base 5 "after_change" ["chances"] _ := ⟨_, _, ok_aft FAft T GCby GFI GFP GFT, mAft, kAft, bAft⟩
  have GLod : GF P w K mg base 6 "line_odds" ["stalks"] _ := ⟨_, _, ok_lod FLod T GAft GFI GFP GLog, mLod, kLod, bLod⟩
  have GChOf : GF P w K mg base 6 "chance_of" ["odds", "hexagram", "moving"] _ := ⟨_, _, ok_chof FChOf T GAt GProd, mChOf, kChOf, bChOf⟩
  have GChBec : GF P w K mg base 6 "chance_of_becoming" ["odds", "hexagram"] _ := ⟨_, _, ok_chbec FChBec GFP GLof GProd, mChBec, kChBec, bChBec⟩
  have GChMov : GF P w K mg base 6 "chance_of_moving" ["odds", "count"] _ := ⟨_, _, ok_chmov FChMov T GFI GFP GProd, mChMov, kChMov, bChMov⟩
  have GLik : GF P w K mg base 7 "likeliest_origin" ["odds", "hexagram"] _ := ⟨_, _, ok_lik FLik T TH GFI GFX GChOf, mLik, kLik, bLik⟩
  have GBI : GC P w K mg base B 1 "Bundle" ["self"] _ := ⟨_, _, ok_bi FBI TB, ⟨mkB, aBI, iBI, kcB⟩, mgB, bBI⟩
  have GBeg : GM P w K mg base B 1 "begins" ["self", "stalks"] _ := ⟨_, _, ok_begins FBeg TB, clB, ⟨aBeg, iBeg, kBeg⟩, bBeg⟩
  have GLin : GM P w K mg base B 4 "line" ["self", "cuts"] _ := ⟨_, _, ok_line FLin T TB GCuts GTold, clB, ⟨aLin, iLin, kLin⟩, bLin⟩
  have GOdd : GM P w K mg base B 7 "odds" ["self"] _ := ⟨_, _, ok_odds FOdd T TB TF GLod GFO, clB, ⟨aOdd, iOdd, kOdd⟩, bOdd⟩
  have GCas : GM P w K mg base B 4 "cast" ["self", "cuts"] _ := ⟨_, _, ok_cast FCas T TB GCuts GTold GSet, clB, ⟨aCas, iCas, kCas⟩, bCas⟩
  have GCha : GM P w K mg base B 7 "chance" ["self", "hexagram", "moving"] _ := ⟨_, _, ok_chance FCha TB GLod GChOf GFO, clB, ⟨aCha, iCha, kCha⟩, bCha⟩
  have GBec : GM P w K mg base B 7 "becomes" ["self", "hexagram"] _ := ⟨_, _, ok_becomes FBec TB GLod GChBec GFO, clB, ⟨aBec, iBec, kBec⟩, bBec⟩
  have GBMov : GM P w K mg base B 7 "moving" ["self", "count"] _ := ⟨_, _, ok_moving FBMov T TB GLod GChMov GFO, clB, ⟨aBMov, iBMov, kBMov⟩, bBMov⟩
  have GBCam : GM P w K mg base B 8 "came" ["self", "hexagram"] _ := ⟨_, _, ok_came FBCam TB GLod GLik GChOf GFO, clB, ⟨aBCam, iBCam, kBCam⟩, bBCam⟩
  have GBTur : GM P w K mg base B 3 "turned" ["self", "hexagram"] _ := ⟨_, _, ok_turned FBTur TB GUp GOpp GExc GCore, clB, ⟨aBTur, iBTur, kBTur⟩, bBTur⟩
  have GBFam : GM P w K mg base B 4 "family" ["self", "hexagram"] _ := ⟨_, _, ok_family FBFam T TB GFam, clB, ⟨aBFam, iBFam, kBFam⟩, bBFam⟩
  have GBCor : GM P w K mg base B 4 "cores" ["self", "hexagram"] _ := ⟨_, _, ok_cores FBCor T TB GCrs GCore, clB, ⟨aBCor, iBCor, kBCor⟩, bBCor⟩
  have GBPai : GM P w K mg base B 5 "pairs" ["self", "order"] _ := ⟨_, _, ok_pairs (B := B) FBPai T GFwp, clB, ⟨aBPai, iBPai, kBPai⟩, bBPai⟩
  have GEnd : GF P w K mg base 1 "end_of_call" ["calls", "start"] _ := ⟨_, _, ok_end FEnd TE, mEnd, kEnd, bEnd⟩
  have GAof : GF P w K mg base 9 "answer_of" ["bundle", "call"] _ := ⟨_, _, ok_aof FAof TE GBeg GLin GOdd GCas GCha GBec GBMov GBCam GBTur GBFam GBCor GBPai, mAof, kAof, bAof⟩
  exact ok_answers FAns T GBI GEnd GAof
end SL
open PySem PySem.W PyProof.Rows
theorem PySem.W.Fast.tw9184802773136246081 : True := True.intro
theorem PySem.W.Fast.tw17774592328796507381 : True := True.intro
theorem PySem.W.Fast.tw15534716458535255362 : True := True.intro
theorem PySem.W.Fast.tw7211599671187994052 : True := True.intro
theorem PySem.W.Fast.tw9803900956480428939 : True := True.intro
theorem PySem.W.Fast.tw4395429933949211803 : True := True.intro
theorem PySem.W.Fast.tw5697226955203402285 : True := True.intro
theorem PySem.W.Fast.tw8279278214852771770 : True := True.intro
theorem PySem.W.Fast.tw8448500138814041905 : True := True.intro
set_option maxRecDepth 100000 in
set_option maxHeartbeats 0 in
theorem PySem.Challenge.cw_stalklines_s01_answers_holds : PySem.Challenge.rw_stalklines_s01_answers.Holds := by
  w_on; k_headS; (case hw => exact ⟨[.list [.int 2]], by decide +kernel, by decide +kernel⟩)
  k_fillS
  refine L2.walk_specK (r := PySem.Challenge.rw_stalklines_s01_answers) (k := 10) (CX := L2.CX0) (ps := ["calls"]) (sp := SL.spAnswers) (by decide +kernel) rfl rfl ⟨rfl, by decide, by decide⟩ (fun w h Y => PySem.W.kIn_of Y) ?F ?S (fun _ _ _ _ z => z)
  case F =>
    intro w mg fa h Y KX G hmg
    refine' SL.all_mk KX G hmg ?aLof ?lLof ?cLof ?kLof ?aHof ?lHof ?cHof ?kHof ?aUp ?lUp ?cUp ?kUp ?aOpp ?lOpp ?cOpp ?kOpp ?aExc ?lExc ?cExc ?kExc ?aCore ?lCore ?cCore ?kCore ?aPart ?lPart ?cPart ?kPart ?aFam ?lFam ?cFam ?kFam ?aCrs ?lCrs ?cCrs ?kCrs ?aFwp ?lFwp ?cFwp ?kFwp ?aLeft ?lLeft ?cLeft ?kLeft ?aCut ?lCut ?cCut ?kCut ?aCuts ?lCuts ?cCuts ?kCuts ?aLog ?lLog ?cLog ?kLog ?aTold ?lTold ?cTold ?kTold ?aSet ?lSet ?cSet ?kSet ?aAt ?lAt ?cAt ?kAt ?aGcd ?lGcd ?cGcd ?kGcd ?aProd ?lProd ?cProd ?kProd ?aCby ?lCby ?cCby ?kCby ?aAft ?lAft ?cAft ?kAft ?aLod ?lLod ?cLod ?kLod ?aChOf ?lChOf ?cChOf ?kChOf ?aChBec ?lChBec ?cChBec ?kChBec ?aChMov ?lChMov ?cChMov ?kChMov ?aLik ?lLik ?cLik ?kLik ?aEnd ?lEnd ?cEnd ?kEnd ?aAof ?lAof ?cAof ?kAof ?aAns ?lAns ?cAns ?kAns ?nC ?aFI ?iFI ?lFI ?cFI ?kFI ?aFP ?iFP ?lFP ?cFP ?kFP ?aFT ?iFT ?lFT ?cFT ?kFT ?aFX ?iFX ?lFX ?cFX ?kFX ?aFO ?iFO ?lFO ?cFO ?kFO ?pgC ?hdC ?poC ?saC ?mkC ?kcC ?noCabove ?noCbelow ?nB ?aBI ?iBI ?lBI ?cBI ?kBI ?aBeg ?iBeg ?lBeg ?cBeg ?kBeg ?aLin ?iLin ?lLin ?cLin ?kLin ?aOdd ?iOdd ?lOdd ?cOdd ?kOdd ?aCas ?iCas ?lCas ?cCas ?kCas ?aCha ?iCha ?lCha ?cCha ?kCha ?aBec ?iBec ?lBec ?cBec ?kBec ?aBMov ?iBMov ?lBMov ?cBMov ?kBMov ?aBCam ?iBCam ?lBCam ?cBCam ?kBCam ?aBTur ?iBTur ?lBTur ?cBTur ?kBTur ?aBFam ?iBFam ?lBFam ?cBFam ?kBFam ?aBCor ?iBCor ?lBCor ?cBCor ?kBCor ?aBPai ?iBPai ?lBPai ?cBPai ?kBPai ?pgB ?hdB ?poB ?saB ?mkB ?kcB ?noBstalks ?vCHANGES_OF_A_LINE ?vLINES_OF_A_HEXAGRAM ?vLINES_OF_A_HALF ?vSTALKS_AT_FIRST ?vFEWEST_STALKS ?vMOST_STALKS ?vLAST_HEXAGRAM ?vLAST_SET_OF_LINES ?vOUT_OF_RANGE ?vNO_SUCH_CUT ?vBEGINS ?vLINE ?vODDS ?vCAST ?vCHANCE ?vBECOMES ?vMOVING_LINES ?vCAME ?vTURNED ?vFAMILY ?vCORES ?vPAIRS ?vGREAT ?wGREAT ?xGREAT ?vWHOLE ?wWHOLE ?xWHOLE ?vMOVING ?wMOVING ?xMOVING ?vPLACES_OF_THE_CORE ?wPLACES_OF_THE_CORE ?xPLACES_OF_THE_CORE ?vNUMBERS_BEHIND ?wNUMBERS_BEHIND ?xNUMBERS_BEHIND ?zlen ?zrange ?zenumerate ?zsum ?zlist ?zreversed ?zsorted
    (case aLof => k_is)
    (case lLof => k_is)
    (case cLof => k_is)
    (case kLof => k_is)
    (case aHof => k_is)
    (case lHof => k_is)
    (case cHof => k_is)
    (case kHof => k_is)
    (case aUp => k_is)
    (case lUp => k_is)
    (case cUp => k_is)
    (case kUp => k_is)
    (case aOpp => k_is)
    (case lOpp => k_is)
    (case cOpp => k_is)
    (case kOpp => k_is)
    (case aExc => k_is)
    (case lExc => k_is)
    (case cExc => k_is)
    (case kExc => k_is)
    (case aCore => k_is)
    (case lCore => k_is)
    (case cCore => k_is)
    (case kCore => k_is)
    (case aPart => k_is)
    (case lPart => k_is)
    (case cPart => k_is)
    (case kPart => k_is)
    (case aFam => k_is)
    (case lFam => k_is)
    (case cFam => k_is)
    (case kFam => k_is)
    (case aCrs => k_is)
    (case lCrs => k_is)
    (case cCrs => k_is)
    (case kCrs => k_is)
    (case aFwp => k_is)
    (case lFwp => k_is)
    (case cFwp => k_is)
    (case kFwp => k_is)
    (case aLeft => k_is)
    (case lLeft => k_is)
    (case cLeft => k_is)
    (case kLeft => k_is)
    (case aCut => k_is)
    (case lCut => k_is)
    (case cCut => k_is)
    (case kCut => k_is)
    (case aCuts => k_is)
    (case lCuts => k_is)
    (case cCuts => k_is)
    (case kCuts => k_is)
    (case aLog => k_is)
    (case lLog => k_is)
    (case cLog => k_is)
    (case kLog => k_is)
    (case aTold => k_is)
    (case lTold => k_is)
    (case cTold => k_is)
    (case kTold => k_is)
    (case aSet => k_is)
    (case lSet => k_is)
    (case cSet => k_is)
    (case kSet => k_is)
    (case aAt => k_is)
    (case lAt => k_is)
    (case cAt => k_is)
    (case kAt => k_is)
    (case aGcd => k_is)
    (case lGcd => k_is)
    (case cGcd => k_is)
    (case kGcd => k_is)
    (case aProd => k_is)
    (case lProd => k_is)
    (case cProd => k_is)
    (case kProd => k_is)
    (case aCby => k_is)
    (case lCby => k_is)
    (case cCby => k_is)
    (case kCby => k_is)
    (case aAft => k_is)
    (case lAft => k_is)
    (case cAft => k_is)
    (case kAft => k_is)
    (case aLod => k_is)
    (case lLod => k_is)
    (case cLod => k_is)
    (case kLod => k_is)
    (case aChOf => k_is)
    (case lChOf => k_is)
    (case cChOf => k_is)
    (case kChOf => k_is)
    (case aChBec => k_is)
    (case lChBec => k_is)
    (case cChBec => k_is)
    (case kChBec => k_is)
    (case aChMov => k_is)
    (case lChMov => k_is)
    (case cChMov => k_is)
    (case kChMov => k_is)
    (case aLik => k_is)
    (case lLik => k_is)
    (case cLik => k_is)
    (case kLik => k_is)
    (case aEnd => k_is)
    (case lEnd => k_is)
    (case cEnd => k_is)
    (case kEnd => k_is)
    (case aAof => k_is)
    (case lAof => k_is)
    (case cAof => k_is)
    (case kAof => k_is)
    (case aAns => k_is)
    (case lAns => k_is)
    (case cAns => k_is)
    (case kAns => k_is)
    (case nC => k_is)
    (case aFI => k_is)
    (case iFI => k_is)
    (case lFI => k_is)
    (case cFI => k_is)
    (case kFI => k_is)
    (case aFP => k_is)
    (case iFP => k_is)
    (case lFP => k_is)
    (case cFP => k_is)
    (case kFP => k_is)
    (case aFT => k_is)
    (case iFT => k_is)
    (case lFT => k_is)
    (case cFT => k_is)
    (case kFT => k_is)
    (case aFX => k_is)
    (case iFX => k_is)
    (case lFX => k_is)
    (case cFX => k_is)
    (case kFX => k_is)
    (case aFO => k_is)
    (case iFO => k_is)
    (case lFO => k_is)
    (case cFO => k_is)
    (case kFO => k_is)
    (case pgC => k_is)
    (case hdC => k_is)
    (case poC => k_is)
    (case saC => k_is)
    (case mkC => k_is)
    (case kcC => k_is)
    (case noCabove => k_is)
    (case noCbelow => k_is)
    (case nB => k_is)
    (case aBI => k_is)
    (case iBI => k_is)
    (case lBI => k_is)
    (case cBI => k_is)
    (case kBI => k_is)
    (case aBeg => k_is)
    (case iBeg => k_is)
    (case lBeg => k_is)
    (case cBeg => k_is)
    (case kBeg => k_is)
    (case aLin => k_is)
    (case iLin => k_is)
    (case lLin => k_is)
    (case cLin => k_is)
    (case kLin => k_is)
    (case aOdd => k_is)
    (case iOdd => k_is)
    (case lOdd => k_is)
    (case cOdd => k_is)
    (case kOdd => k_is)
    (case aCas => k_is)
    (case iCas => k_is)
    (case lCas => k_is)
    (case cCas => k_is)
    (case kCas => k_is)
    (case aCha => k_is)
    (case iCha => k_is)
    (case lCha => k_is)
    (case cCha => k_is)
    (case kCha => k_is)
    (case aBec => k_is)
    (case iBec => k_is)
    (case lBec => k_is)
    (case cBec => k_is)
    (case kBec => k_is)
    (case aBMov => k_is)
    (case iBMov => k_is)
    (case lBMov => k_is)
    (case cBMov => k_is)
    (case kBMov => k_is)
    (case aBCam => k_is)
    (case iBCam => k_is)
    (case lBCam => k_is)
    (case cBCam => k_is)
    (case kBCam => k_is)
    (case aBTur => k_is)
    (case iBTur => k_is)
    (case lBTur => k_is)
    (case cBTur => k_is)
    (case kBTur => k_is)
    (case aBFam => k_is)
    (case iBFam => k_is)
    (case lBFam => k_is)
    (case cBFam => k_is)
    (case kBFam => k_is)
    (case aBCor => k_is)
    (case iBCor => k_is)
    (case lBCor => k_is)
    (case cBCor => k_is)
    (case kBCor => k_is)
    (case aBPai => k_is)
    (case iBPai => k_is)
    (case lBPai => k_is)
    (case cBPai => k_is)
    (case kBPai => k_is)
    (case pgB => k_is)
    (case hdB => k_is)
    (case poB => k_is)
    (case saB => k_is)
    (case mkB => k_is)
    (case kcB => k_is)
    (case noBstalks => k_is)
    (case vCHANGES_OF_A_LINE => k_is)
    (case vLINES_OF_A_HEXAGRAM => k_is)
    (case vLINES_OF_A_HALF => k_is)
    (case vSTALKS_AT_FIRST => k_is)
    (case vFEWEST_STALKS => k_is)
    (case vMOST_STALKS => k_is)
    (case vLAST_HEXAGRAM => k_is)
    (case vLAST_SET_OF_LINES => k_is)
    (case vOUT_OF_RANGE => k_is)
    (case vNO_SUCH_CUT => k_is)
    (case vBEGINS => k_is)
    (case vLINE => k_is)
    (case vODDS => k_is)
    (case vCAST => k_is)
    (case vCHANCE => k_is)
    (case vBECOMES => k_is)
    (case vMOVING_LINES => k_is)
    (case vCAME => k_is)
    (case vTURNED => k_is)
    (case vFAMILY => k_is)
    (case vCORES => k_is)
    (case vPAIRS => k_is)
    (case vGREAT => k_is)
    (case wGREAT => k_is)
    (case xGREAT => exact ⟨.cons ⟨_, rfl⟩ (.cons ⟨_, rfl⟩ (.nil)), by decide⟩)
    (case vWHOLE => k_is)
    (case wWHOLE => k_is)
    (case xWHOLE => exact ⟨.cons ⟨_, rfl⟩ (.cons ⟨_, rfl⟩ (.nil)), by decide⟩)
    (case vMOVING => k_is)
    (case wMOVING => k_is)
    (case xMOVING => exact ⟨.cons ⟨_, rfl⟩ (.cons ⟨_, rfl⟩ (.nil)), by decide⟩)
    (case vPLACES_OF_THE_CORE => k_is)
    (case wPLACES_OF_THE_CORE => k_is)
    (case xPLACES_OF_THE_CORE => exact ⟨.cons ⟨_, rfl⟩ (.cons ⟨_, rfl⟩ (.cons ⟨_, rfl⟩ (.cons ⟨_, rfl⟩ (.cons ⟨_, rfl⟩ (.cons ⟨_, rfl⟩ (.nil)))))), by decide⟩)
    (case vNUMBERS_BEHIND => k_is)
    (case wNUMBERS_BEHIND => k_is)
    (case xNUMBERS_BEHIND => exact .cons ⟨by decide +kernel, ⟨_, rfl⟩, ⟨_, rfl⟩⟩ (.cons ⟨by decide +kernel, ⟨_, rfl⟩, ⟨_, rfl⟩⟩ (.cons ⟨by decide +kernel, ⟨_, rfl⟩, ⟨_, rfl⟩⟩ (.cons ⟨by decide +kernel, ⟨_, rfl⟩, ⟨_, rfl⟩⟩ (.cons ⟨by decide +kernel, ⟨_, rfl⟩, ⟨_, rfl⟩⟩ (.cons ⟨by decide +kernel, ⟨_, rfl⟩, ⟨_, rfl⟩⟩ (.cons ⟨by decide +kernel, ⟨_, rfl⟩, ⟨_, rfl⟩⟩ (.cons ⟨by decide +kernel, ⟨_, rfl⟩, ⟨_, rfl⟩⟩ (.cons ⟨by decide +kernel, ⟨_, rfl⟩, ⟨_, rfl⟩⟩ (.cons ⟨by decide +kernel, ⟨_, rfl⟩, ⟨_, rfl⟩⟩ (.nil)))))))))))
    (case zlen => k_is)
    (case zrange => k_is)
    (case zenumerate => k_is)
    (case zsum => k_is)
    (case zlist => k_is)
    (case zreversed => k_is)
    (case zsorted => k_is)
  case S =>
    intro K H xs a hO hwi hask hx
    cases hx with
    | cons h1 h2 =>
      cases h2
      cases h1 with
      | lst hs ha =>
        have e := L2.ints_dw a.1 _ ha
        subst e
        exact SL.request hs hask
