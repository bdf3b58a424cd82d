import PyProof.Rows.All
import Wide.All
import OpenK.AllK
import Wide.FinOn
import PyProof.EqAt
import PyProof.EqKinds
import PyProof.TupleCall
import KE.BitLaws
import Open.SpecLaws
import KE.OsHead
import KE.OsGo
import PySem.Challenge.RW_campuswires_s10_join
section
set_option Elab.async false
set_option linter.all false
set_option maxRecDepth 100000
namespace L2
open PySem PySem.Spec PyProof.Rows
/-- a key: an int or a str -/
abbrev Key := Sum Int Str
def keyIs : Key → Value → Bool
  | .inl k, v => Value.isInt k v
  | .inr x, v => Value.isStrOf x v
def keyH (w : World) : Key → Int
  | .inl k => hashInt k
  | .inr x => hashStr w x
theorem keyIs_shape : ∀ {k : Key} {v : Value}, keyIs k v = true → (∃ i t, k = Sum.inl i ∧ v = Value.int i t) ∨ (∃ x t, k = Sum.inr x ∧ v = Value.str x t)
  | .inl i, v, h => by
    obtain ⟨t, e⟩ := Value.isInt_shape (k := i) (v := v) h
    exact .inl ⟨i, t, rfl, e⟩
  | .inr x, v, h => by
    obtain ⟨t, e⟩ := Value.isStrOf_shape (x := x) (v := v) h
    exact .inr ⟨x, t, rfl, e⟩
theorem key_ll (a b : Int) : decide ((Sum.inl a : Key) = Sum.inl b) = (a == b) := by
  by_cases e : a = b
  · subst e; simp
  · have h : ¬ (Sum.inl a : Key) = Sum.inl b := fun q => e (Sum.inl.inj q)
    rw [decide_eq_false h]
    exact (beq_eq_false_iff_ne.mpr e).symm
theorem key_rr (a b : Str) : decide ((Sum.inr a : Key) = Sum.inr b) = decide (a = b) := by
  by_cases e : a = b
  · subst e; simp
  · have h : ¬ (Sum.inr a : Key) = Sum.inr b := fun q => e (Sum.inr.inj q)
    rw [decide_eq_false h, decide_eq_false e]
theorem key_lr (a : Int) (b : Str) : decide ((Sum.inl a : Key) = Sum.inr b) = false := decide_eq_false (fun q => nomatch q)
theorem key_rl (a : Str) (b : Int) : decide ((Sum.inr a : Key) = Sum.inl b) = false := decide_eq_false (fun q => nomatch q)
def mixKind (prog : Program) (w : World) : PySem.KeyKind prog w Key where
  is := keyIs
  hash := keyH w
  inj := fun v a b ha hb => by
    rcases keyIs_shape ha with ⟨i, t, rfl, rfl⟩ | ⟨x, t, rfl, rfl⟩
    · rcases keyIs_shape hb with ⟨j, u, rfl, e⟩ | ⟨y, u, rfl, e⟩
      · injection e with e1 _; rw [e1]
      · exact nomatch e
    · rcases keyIs_shape hb with ⟨j, u, rfl, e⟩ | ⟨y, u, rfl, e⟩
      · exact nomatch e
      · injection e with e1 _; rw [e1]
  byValue := fun k v h => by
    rcases keyIs_shape h with ⟨i, t, rfl, rfl⟩ | ⟨x, t, rfl, rfl⟩ <;> rfl
  pyHash := fun hv h => by
    rcases keyIs_shape hv with ⟨i, t, rfl, rfl⟩ | ⟨x, t, rfl, rfl⟩
    · exact wpAny_pyHash_int h
    · exact wpAny_pyHash_str h
  eqBool := fun hu hv h => by
    rcases keyIs_shape hu with ⟨i, t, rfl, rfl⟩ | ⟨x, t, rfl, rfl⟩
    · rcases keyIs_shape hv with ⟨j, u, rfl, rfl⟩ | ⟨y, u, rfl, rfl⟩
      · rw [key_ll] at h; exact wpAny_eqBool_int h
      · rw [key_lr] at h; exact SeqAt.EqAt.int_str i t y u _ _ _ _ h
    · rcases keyIs_shape hv with ⟨j, u, rfl, rfl⟩ | ⟨y, u, rfl, rfl⟩
      · rw [key_rl] at h; exact SeqAt.EqAt.str_int x t j u _ _ _ _ h
      · rw [key_rr] at h; exact wpAny_eqBool_str h
  «strs» := fun k x t v h => by
    rcases keyIs_shape h with ⟨i, u, rfl, e⟩ | ⟨y, u, rfl, e⟩
    · exact nomatch e
    · injection e with e1 _
      subst e1
      cases v <;> rfl
end L2
namespace L2
open PySem PySem.Spec PyProof.Rows
/-- a value, without the heap -/
inductive V where
  | non | bl (b : Bool) | int (i : Int) | str (x : Str) | byt (b : Array UInt8) | flt (b : UInt64) | ref (a : Addr) | ty (n : String)
  deriving DecidableEq
def RelV : V → Value → Prop
  | .non, u => u = Value.none
  | .bl b, u => u = Value.bool b
  | .int i, u => ∃ t, u = Value.int i t
  | .str x, u => ∃ t, u = Value.str x t
  | .byt b, u => ∃ t, u = Value.bytes b t
  | .flt b, u => ∃ t, u = Value.float b t
  | .ref a, u => u = Value.ref a
  | .ty n, u => u = Value.type n
abbrev Vals : List V → List Value → Prop := Paired RelV
theorem Vals.length {xs : List V} {us : List Value} (r : Vals xs us) : xs.length = us.length := Paired.length r
theorem Vals.get : ∀ {xs : List V} {us : List Value} {i : Nat} {x : V}, Vals xs us → xs[i]? = some x → ∃ u, us[i]? = some u ∧ RelV x u
  | _, _, _, _, .nil, e => by simp at e
  | _, _, 0, _, .cons r _, e => by simp at e; subst e; exact ⟨_, rfl, r⟩
  | _, _, i + 1, x, .cons _ t, e => by
    obtain ⟨u, h1, h2⟩ := Vals.get (i := i) (x := x) t (by simpa using e)
    exact ⟨u, by simpa using h1, h2⟩
theorem Vals.set {x : V} {u : Value} (r : RelV x u) : ∀ {xs : List V} {us : List Value} (i : Nat), Vals xs us → Vals (xs.set i x) (us.set i u)
  | _, _, _, .nil => .nil
  | _, _, 0, .cons _ t => .cons r t
  | _, _, i + 1, .cons q t => .cons q (Vals.set r i t)
theorem Vals.append : ∀ {xs ys : List V} {us ws : List Value}, Vals xs us → Vals ys ws → Vals (xs ++ ys) (us ++ ws)
  | _, _, _, _, .nil, s => s
  | _, _, _, _, .cons r t, s => .cons r (Vals.append t s)
theorem Vals.take : ∀ {xs : List V} {us : List Value} (n : Nat), Vals xs us → Vals (xs.take n) (us.take n)
  | _, _, 0, _ => .nil
  | _, _, _ + 1, .nil => .nil
  | _, _, n + 1, .cons r t => .cons r (Vals.take n t)
theorem Vals.drop : ∀ {xs : List V} {us : List Value} (n : Nat), Vals xs us → Vals (xs.drop n) (us.drop n)
  | _, _, 0, r => r
  | _, _, _ + 1, .nil => .nil
  | _, _, n + 1, .cons _ t => Vals.drop n t
def RelO : Option V → Option Value → Prop
  | some v, some u => RelV v u
  | none, none => True
  | _, _ => False
def KV {κ : Type} : List (κ × V) → List (κ × Value) → Prop := Paired fun (p : κ × V) (q : κ × Value) => p.1 = q.1 ∧ RelV p.2 q.2
/-- a key of a dict (00_mix): an int or a text -/
def kV : Key → V
  | .inl i => .int i
  | .inr x => .str x
/-- what stands at a tracked address -/
inductive HO where
  /-- a list -/
  | lst (xs : List V)
  /-- a tuple (never changes) -/
  | tup (xs : List V)
  /-- a dict whose keys are ints and texts; one whose keys are tuples of ints and texts (the empty one is both) -/
  | dK (kvs : List (Key × V)) | dT (kvs : List (List Key × V))
  /-- a set of ints: its members, its size -/
  | set (S : Int → Bool) (n : Nat)
  /-- an instance of the class at C, its dict at dx, its attributes -/
  | ins (C dx : Addr) (fs : List (Str × V))
  /-- the dict of the instance at x -/
  | own (x : Addr)
  /-- the dict of an exception -/
  | xd (fs : List (Str × V))
  /-- a bound method, f of x -/
  | met (f x : Addr)
  /-- a range object lo, lo + 1, .. below hi -/
  | rng (lo hi : Int)
  /-- a thing that is known to the object (the script; a dict while a loop walks it): read, never written while it is so -/
  | frz (o : Obj) (u : HO)
  /-- a code object's table -/
  | tbl (ps : Array Value)
  /-- any other thing, by what is true of its one object (a def of one's own: SetO a S n := HO.ext fun h => ..) -/
  | ext (φ : Heap → Prop)
abbrev Hp := Addr → Option HO
def upd (H : Hp) (a : Addr) (o : HO) : Hp := fun b => if b = a then some o else H b
theorem upd_same {H : Hp} {a : Addr} {o : HO} : upd H a o a = some o := by unfold upd; rw [if_pos rfl]
theorem upd_ne {H : Hp} {a b : Addr} {o : HO} (h : b ≠ a) : upd H a o b = H b := by unfold upd; rw [if_neg h]
theorem ne_of_none {H : Hp} {a b : Addr} {o : HO} (h : H a = some o) (h' : H b = none) : a ≠ b := by
  intro e; subst e; rw [h] at h'; cases h'
section
variable (P : Program) (w : World)
def ObjOk (H : Hp) (h : Heap) (a : Addr) : HO → Prop
  | .lst xs => xs.length ≤ sizeLine ∧ ∃ (its : List Value) (n : Nat), Vals xs its ∧ h.get? a = some { cls := .type "list", data := .seq its.toArray n }
  | .tup xs => xs.length ≤ sizeLine ∧ ∃ its : List Value, Vals xs its ∧ IsTup h a its.toArray
  | .dK kvs => kvs.length ≤ sizeLine ∧ (a == sysModules) = false ∧ ∃ vs, KV kvs vs ∧ h.DictOf (mixKind P w) a vs
  | .dT kvs => kvs.length ≤ sizeLine ∧ (a == sysModules) = false ∧ ∃ xs : List (List Key × Addr × Value),
      Paired (fun (p : List Key × V) (q : List Key × Addr × Value) => p.1 = q.1 ∧ H q.2.1 = some (.tup (p.1.map kV)) ∧ RelV p.2 q.2.2) kvs xs ∧
      ∃ o es ep, h.get? a = some o ∧ o.ExactDict ∧ o.data = .dict es ep ∧ es.toList = xs.map (entryOfKey (tupleKind (mixKind P w))) ∧ (xs.map (·.1)).Nodup
  | .set S n => h.SetOf (intKind P w) a S n
  | .ins C dx fs => H dx = some (.own a) ∧ fs.length ≤ 1000 ∧ dx ≠ a ∧ h.get? a = some (PySem.W.instObj C dx) ∧
      ∃ mA, h.Ns1 dx mA ∧ (∀ f, RelO (fs.lookup f) (mA f)) ∧ PySem.Within mA (fs.map (·.1))
  | .own _ => ∃ o, h.get? a = some o
  | .xd fs => ∃ mA, h.Ns1 a mA ∧ ∀ f, RelO (fs.lookup f) (mA f)
  | .rng lo hi => ∃ t u v, h.get? a = some { cls := .type "range", data := .fields #[.int lo t, .int hi u, .int 1 v] }
  | .frz o u => h.get? a = some o ∧ ObjOk H h a u
  | .tbl ps => h.get? a = some { cls := .none, data := .fields ps }
  | .met f x => h.get? a = some (PySem.W.methodObj (.ref f) (.ref x))
  | .ext φ => φ h ∧ (∃ o, h.get? a = some o) ∧ ∀ h1 h2 : Heap, φ h1 → (∀ o, h1.get? a = some o → h2.get? a = some o) → φ h2
/-- the abstract heap is held -/
def HOk (H : Hp) (h : Heap) : Prop := ∀ a o, H a = some o → ObjOk P w H h a o
end
section
variable {P : Program} {w : World} {H H' : Hp} {h h' : Heap} {a : Addr} {o : HO}
theorem ObjOk.lt (x : ObjOk P w H h a o) : a < h.objs.size := by
  cases o with
  | lst xs => obtain ⟨_, _, _, _, e⟩ := x; exact Heap.lt_size e
  | tup xs => obtain ⟨_, _, _, p⟩ := x; exact p.lt
  | dK kvs => obtain ⟨_, _, _, _, o, _, _, e, _⟩ := x; exact Heap.lt_size e
  | dT kvs => obtain ⟨_, _, _, _, o, _, _, e, _⟩ := x; exact Heap.lt_size e
  | set S n => obtain ⟨o, _, _, _, e, _⟩ := x; exact Heap.lt_size e
  | ins C dx fs => obtain ⟨_, _, _, e, _⟩ := x; exact Heap.lt_size e
  | own y => obtain ⟨_, e⟩ := x; exact Heap.lt_size e
  | xd fs => obtain ⟨_, ⟨_, _, _, e, _⟩, _⟩ := x; exact Heap.lt_size e
  | rng lo hi => obtain ⟨_, _, _, e⟩ := x; exact Heap.lt_size e
  | frz ob u => obtain ⟨e, _⟩ := x; exact Heap.lt_size e
  | tbl ps => exact Heap.lt_size (show h.get? a = some _ from x)
  | met f y => exact Heap.lt_size (show h.get? a = some _ from x)
  | ext φ => obtain ⟨_, ⟨_, e⟩, _⟩ := x; exact Heap.lt_size e
theorem Paired.mapP {α β : Type} {F G : α → β → Prop} : ∀ {l₁ : List α} {l₂ : List β}, Paired F l₁ l₂ → (∀ a b, F a b → G a b) → Paired G l₁ l₂
  | _, _, .nil, _ => .nil
  | _, _, .cons r t, f => .cons (f _ _ r) (Paired.mapP t f)
/-- what an object's description leans on: its own object, its own dict, the tuples -/
theorem ObjOk.stay (x : ObjOk P w H h a o) (k : ∀ b u, (b = a ∨ H b = some (.own a)) → h.get? b = some u → h'.get? b = some u)
    (ho : ∀ b, H b = some (.own a) → H' b = some (.own a)) (ht : ∀ b xs, H b = some (.tup xs) → H' b = some (.tup xs)) : ObjOk P w H' h' a o := by
  induction o with
  | lst xs => obtain ⟨z, its, n, r, e⟩ := x; exact ⟨z, its, n, r, k _ _ (.inl rfl) e⟩
  | tup xs => obtain ⟨z, its, r, ob, e, c⟩ := x; exact ⟨z, its, r, ob, k _ _ (.inl rfl) e, c⟩
  | dK kvs => obtain ⟨z, y, vs, r, ob, es, ep, e, c⟩ := x; exact ⟨z, y, vs, r, ob, es, ep, k _ _ (.inl rfl) e, c⟩
  | dT kvs =>
    obtain ⟨z, y, xs, r, ob, es, ep, e, c⟩ := x
    exact ⟨z, y, xs, Paired.mapP r fun p q z => ⟨z.1, ht _ _ z.2.1, z.2.2⟩, ob, es, ep, k _ _ (.inl rfl) e, c⟩
  | set S n => obtain ⟨ob, es, ep, t, e, c⟩ := x; exact ⟨ob, es, ep, t, k _ _ (.inl rfl) e, c⟩
  | ins C dx fs =>
    obtain ⟨d, z, ne, e, mA, ⟨od, es, ep, e2, c⟩, r⟩ := x
    exact ⟨ho _ d, z, ne, k _ _ (.inl rfl) e, mA, ⟨od, es, ep, k _ _ (.inr d) e2, c⟩, r⟩
  | own y => obtain ⟨ob, e⟩ := x; exact ⟨ob, k _ _ (.inl rfl) e⟩
  | xd fs => obtain ⟨mA, ⟨od, es, ep, e, c⟩, r⟩ := x; exact ⟨mA, ⟨od, es, ep, k _ _ (.inl rfl) e, c⟩, r⟩
  | rng lo hi => obtain ⟨t, u, v, e⟩ := x; exact ⟨t, u, v, k _ _ (.inl rfl) e⟩
  | frz ob u ih => obtain ⟨e, q⟩ := x; exact ⟨k _ _ (.inl rfl) e, ih q⟩
  | tbl ps =>
    have e : h.get? a = some { cls := .none, data := .fields ps } := x
    show h'.get? a = some { cls := .none, data := .fields ps }
    exact k a _ (.inl rfl) e
  | met f y =>
    have e : h.get? a = some (PySem.W.methodObj (.ref f) (.ref y)) := x
    show h'.get? a = some (PySem.W.methodObj (.ref f) (.ref y))
    exact k a _ (.inl rfl) e
  | ext φ => obtain ⟨p, ⟨o, e⟩, st⟩ := x; exact ⟨st _ _ p fun o q => k _ _ (.inl rfl) q, ⟨o, k _ _ (.inl rfl) e⟩, st⟩
theorem HOk.lt (x : HOk P w H h) (e : H a = some o) : a < h.objs.size := (x a o e).lt
theorem HOk.fresh (x : HOk P w H h) (e : h.objs.size ≤ a) : H a = none := by
  cases q : H a with
  | none => rfl
  | some u => exact absurd (Nat.lt_of_lt_of_le (x.lt q) e) (Nat.lt_irrefl _)
/-- every object of the heap is kept -/
theorem HOk.kept (x : HOk P w H h) (k : ∀ b u, h.get? b = some u → h'.get? b = some u) : HOk P w H h' := fun a o e =>
  (x a o e).stay (fun b u _ q => k b u q) (fun _ q => q) fun _ _ q => q
/-- a new object is laid and tracked -/
theorem HOk.laid (x : HOk P w H h) (k : ∀ b u, h.get? b = some u → h'.get? b = some u) (hp : h.objs.size ≤ a) (new : ObjOk P w (upd H a o) h' a o) : HOk P w (upd H a o) h' := fun b u e => by
  have hn := x.fresh hp
  by_cases hb : b = a
  · subst hb; rw [upd_same] at e; cases e; exact new
  · rw [upd_ne hb] at e
    exact (x b u e).stay (fun c v _ q => k c v q) (fun c q => by rw [upd_ne (ne_of_none q hn)]; exact q) fun c xs q => by rw [upd_ne (ne_of_none q hn)]; exact q
end
/-- what may be read as u: it is u, or a known u -/
def Rd (H : Hp) (a : Addr) (u : HO) : Prop := H a = some u ∨ ∃ o, H a = some (.frz o u)
theorem Rd.of {H : Hp} {a : Addr} {u : HO} (h : H a = some u) : Rd H a u := .inl h
theorem Rd.ok {P : Program} {w : World} {H : Hp} {h : Heap} {a : Addr} {u : HO} (r : Rd H a u) (x : HOk P w H h) : ObjOk P w H h a u := by
  rcases r with r | ⟨o, r⟩
  · exact x a u r
  · obtain ⟨_, q⟩ := x a _ r
    exact q
/-- what may be written -/
def Mut : Option HO → Prop
  | some (.lst _) => True
  | some (.dK _) => True
  | some (.dT _) => True
  | some (.set _ _) => True
  | some (.ins _ _ _) => True
  | some (.ext _) => True
  | _ => False
section
variable {P : Program} {w : World} {H : Hp} {h h' : Heap} {x e : Addr} {o' : HO}
/-- the object at e is changed: x itself, or the dict of the instance x -/
theorem HOk.write (ok : HOk P w H h) (mu : Mut (H x)) (he : e = x ∨ H e = some (.own x)) (k : ∀ b u, b ≠ e → h.get? b = some u → h'.get? b = some u) (heo : ∃ u, h'.get? e = some u)
    (new : ObjOk P w (upd H x o') h' x o') : HOk P w (upd H x o') h' := fun b u q => by
  have nown : ∀ c y, H c = some (.own y) → c ≠ x := fun c y r z => by subst z; rw [r] at mu; exact mu
  have ntup : ∀ c xs, H c = some (.tup xs) → c ≠ x := fun c xs r z => by subst z; rw [r] at mu; exact mu
  by_cases hb : b = x
  · subst hb; rw [upd_same] at q; cases q; exact new
  · rw [upd_ne hb] at q
    by_cases hbe : b = e
    · have q' : H b = some (.own x) := by
        rcases he with z | z
        · exact absurd (hbe.trans z) hb
        · rw [hbe]; exact z
      rw [q] at q'; cases q'
      obtain ⟨v, hv⟩ := heo
      exact ⟨v, by rw [hbe]; exact hv⟩
    · refine (ok b u q).stay (fun c v hc r => k c v ?_ r) (fun c r => by rw [upd_ne (nown c b r)]; exact r) fun c xs r => by rw [upd_ne (ntup c xs r)]; exact r
      rcases hc with rfl | hc
      · exact hbe
      · rintro rfl
        rcases he with z | z
        · exact nown c b hc z
        · rw [hc] at z; cases z; exact hb rfl
end
structure Un (fs ex : List Addr) (H H' : Hp) (h h' : Heap) : Prop where
  keep : ∀ b o, h.get? b = some o → H b = none → b ∉ fs → b ∉ ex → h'.get? b = some o
  slot : ∀ b o, h.get? b = some o → H b = none → b ∈ fs → b ∉ ex → ∃ sl, h'.get? b = some { o with slots := sl }
  free : ∀ b o, h.get? b = some o → H b = none → b ∉ ex → H' b = none
  there : ∀ b o, h.get? b = some o → b ∉ ex → ∃ o', h'.get? b = some o'
  tups : ∀ b xs, H b = some (.tup xs) → H' b = some (.tup xs)
  frzs : ∀ b o u, H b = some (.frz o u) → H' b = some (.frz o u)
  tbls : ∀ b ps, H b = some (.tbl ps) → ∃ more, H' b = some (.tbl (ps ++ more))
section
variable {fs fs' ex ex' : List Addr} {H H1 H2 : Hp} {h h1 h2 h' : Heap} {a x e : Addr} {o : HO}
theorem Un.any (u : Un fs ex H H1 h h1) {b : Addr} {ob : Obj} (q : h.get? b = some ob) (n : H b = none) (hx : b ∉ ex) : ∃ sl, h1.get? b = some { ob with slots := sl } := by
  by_cases hb : b ∈ fs
  · exact u.slot b ob q n hb hx
  · exact ⟨ob.slots, u.keep b ob q n hb hx⟩
theorem Un.trans (a : Un fs ex H H1 h h1) (b : Un fs ex H1 H2 h1 h2) : Un fs ex H H2 h h2 where
  keep := fun c ob q n hc hx => b.keep c ob (a.keep c ob q n hc hx) (a.free c ob q n hx) hc hx
  slot := fun c ob q n hc hx => by
    obtain ⟨sl, e1⟩ := a.slot c ob q n hc hx
    obtain ⟨sl', e2⟩ := b.slot c _ e1 (a.free c ob q n hx) hc hx
    exact ⟨sl', e2⟩
  free := fun c ob q n hx => by
    obtain ⟨o', e1⟩ := a.there c ob q hx
    exact b.free c o' e1 (a.free c ob q n hx) hx
  there := fun c ob q hx => by
    obtain ⟨o', e1⟩ := a.there c ob q hx
    exact b.there c o' e1 hx
  tups := fun c xs q => b.tups c xs (a.tups c xs q)
  frzs := fun c ob xs q => b.frzs c ob xs (a.frzs c ob xs q)
  tbls := fun c ps q => by
    obtain ⟨m1, e1⟩ := a.tbls c ps q
    obtain ⟨m2, e2⟩ := b.tbls c _ e1
    exact ⟨m1 ++ m2, by rw [e2, Array.append_assoc]⟩
theorem Un.kept (k : ∀ b u, h.get? b = some u → h'.get? b = some u) : Un fs ex H H h h' :=
  ⟨fun b ob q _ _ _ => k b ob q, fun b ob q _ _ _ => ⟨ob.slots, k b ob q⟩, fun _ _ _ n _ => n, fun b ob q _ => ⟨ob, k b ob q⟩, fun _ _ q => q, fun _ _ _ q => q, fun _ ps q => ⟨#[], by rw [q]; simp⟩⟩
theorem Un.refl : Un fs ex H H h h := Un.kept fun _ _ q => q
theorem Un.laid (k : ∀ b u, h.get? b = some u → h'.get? b = some u) (hp : h.objs.size ≤ a) (hn : H a = none) : Un fs ex H (upd H a o) h h' where
  keep := fun b u q _ _ _ => k b u q
  slot := fun b u q _ _ _ => ⟨u.slots, k b u q⟩
  free := fun b u q n _ => by rw [upd_ne (Nat.ne_of_lt (Nat.lt_of_lt_of_le (Heap.lt_size q) hp))]; exact n
  there := fun b u q _ => ⟨u, k b u q⟩
  tups := fun b xs q => by rw [upd_ne (ne_of_none q hn)]; exact q
  frzs := fun b u xs q => by rw [upd_ne (ne_of_none q hn)]; exact q
  tbls := fun b ps q => ⟨#[], by rw [upd_ne (ne_of_none q hn), q]; simp⟩
theorem Un.write (mu : Mut (H x)) (he : e = x ∨ H e = some (.own x)) (k : ∀ b u, b ≠ e → h.get? b = some u → h'.get? b = some u) (heo : ∃ u, h'.get? e = some u) : Un fs ex H (upd H x o) h h' := by
  have hx : ∀ b, H b = none → b ≠ x := fun b n z => by subst z; rw [n] at mu; exact mu
  have hb : ∀ b, H b = none → b ≠ e := fun b n z => by
    subst z
    rcases he with r | r
    · exact hx b n r
    · rw [n] at r; cases r
  have hm : ∀ b u, H b = some u → ¬ Mut (some u) → b ≠ x := fun b u q nm z => by subst z; rw [q] at mu; exact nm mu
  refine ⟨fun b u q n _ _ => k b u (hb b n) q, fun b u q n _ _ => ⟨u.slots, k b u (hb b n) q⟩, fun b u q n _ => by rw [upd_ne (hx b n)]; exact n, fun b u q _ => ?_,
    fun b xs q => by rw [upd_ne (hm b _ q fun z => z)]; exact q, fun b u xs q => by rw [upd_ne (hm b _ q fun z => z)]; exact q, fun b ps q => ⟨#[], by rw [upd_ne (hm b _ q fun z => z), q]; simp⟩⟩
  by_cases hbe : b = e
  · subst hbe; exact heo
  · exact ⟨u, k b u hbe q⟩
theorem Un.mono (u : Un fs ex H H1 h h1) (hs : ∀ b ∈ fs, b ∈ fs') (hx : ∀ b ∈ ex, b ∈ ex') : Un fs' ex' H H1 h h1 :=
  ⟨fun b ob q n hb he => u.keep b ob q n (fun z => hb (hs b z)) fun z => he (hx b z), fun _ _ q n _ he => u.any q n fun z => he (hx _ z), fun b ob q n he => u.free b ob q n fun z => he (hx b z), fun b ob q he => u.there b ob q fun z => he (hx b z), u.tups, u.frzs, u.tbls⟩
end
def trk (h : Heap) (H : Hp) : List Addr := (List.range h.objs.size).filter fun a => (H a).isSome
def hidT (h : Heap) (H : Hp) : Heap := PySem.W.hideAll h (trk h H)
theorem hidT_size (h : Heap) (H : Hp) : (hidT h H).objs.size = h.objs.size := PySem.W.hideAll_size _ _
theorem hidT_get {h : Heap} {H : Hp} {b : Addr} {o : Obj} (e : h.get? b = some o) (n : H b = none) : (hidT h H).get? b = some o :=
  PySem.W.hideAll_get _ e fun hm => by
    have q : (H b).isSome = true := (List.mem_filter.mp hm).2
    rw [n] at q; simp at q
theorem of_hidT {h : Heap} {H : Hp} {b : Addr} {o : Obj} (e : (hidT h H).get? b = some o) : h.get? b = some o ∧ H b = none := by
  have e' : h.get? b = some o := PySem.W.of_hideAll (trk h H) e
  refine ⟨e', ?_⟩
  cases q : H b with
  | none => rfl
  | some x =>
    have hm : b ∈ trk h H := List.mem_filter.mpr ⟨List.mem_range.mpr (Heap.lt_size e'), by simp [q]⟩
    have z : (hidT h H).get? b = none := PySem.W.hideAll_none (trk h H) hm
    rw [z] at e; cases e
def allNews (g h : Heap) (L : Addr) : List (Addr × Obj) := (List.range h.objs.size).filterMap fun a => if a = L ∨ (g.get? a).isSome = true then none else (h.get? a).map fun o => (a, o)
def rest (g h : Heap) (L d : Addr) : List (Addr × Obj) := (allNews g h L).filter fun p => decide (p.1 ≠ d)
end L2
namespace L2
open PySem PySem.Spec PyProof.Rows
/-- the module's facts, over the base: the heap at the law's entry without what is tracked there -/
structure Mod (K : PySem.W.Frag) (mg : Str → Option Value) (base : Heap) : Prop where
  kin : K.In base
  glob : base.Ns mainGlobals mg
  blt : ∃ mb, base.Ns builtinsNs mb ∧ ∀ x : Str, x ≠ "__name__" → mb x = bootBuiltins x
  nolimit : base.NoLimit
/-- the context: a def's body (or a comprehension's block) running. base: fixed through the whole law; s₀, H₀: the entry; outer: the frames whose slots others may change (a def's callers); stack: all frames that run;
   ex: iterators that were made ahead of the entry and are walked here (a comprehension's); fn: the names whose cells were made at the entry (a def: all; a comprehension's block: its own); calm: not within an except suite; pn: pins that every state bears; xe: what is wanted of an exception that leaves the code -/
structure Cx where
  prog : Program
  w : World
  K : PySem.W.Frag
  mg : Str → Option Value
  base : Heap
  A : Around
  N : List Str
  s_0 : Shared
  H_0 : Hp
  env : Env
  outer : List Env
  stack : List Env
  ex : List Addr
  fn : Str → Bool
  calm : Bool
  pn : List (Addr × Obj)
  xe : Value → Shared → Prop
/-- the callers' frames -/
def frs (l : List Env) : List Addr := l.filterMap (·.frame)
abbrev Cx.fs (X : Cx) : List Addr := frs X.outer
def Vis (sc : Scope) (x : Str) : Prop := sc.names.lookup x = some .local ∨ sc.names.lookup x = some .cell ∨ sc.names.lookup x = some .free
def Loc (sc : Scope) (x : Str) : Prop := sc.names.lookup x = some .local ∨ sc.names.lookup x = some .cell
def Look (env : Env) (h : Heap) (m : Str → Option Value) (x : Str) (u : Value) : Prop :=
  (env.kindOf x = some .local ∧ m x = some u) ∨ ((env.kindOf x = some .cell ∨ env.kindOf x = some .free) ∧ ∃ c, env.cells.lookup x = some c ∧ h.IsCell c (some u))
structure Cx.Ok (X : Cx) : Prop where
  mod : Mod X.K X.mg X.base
  kind : X.env.scope.kind = .function
  glob : X.env.globals = mainGlobals
  blt : X.env.builtins = builtinsNs
  above : X.s_0.heap.objs.size ≤ X.env.locals
  inj : ∀ x y c, X.env.cells.lookup x = some c → X.env.cells.lookup y = some c → x = y
  has : ∀ x, (X.env.kindOf x = some .cell ∨ X.env.kindOf x = some .free) → ∃ c, X.env.cells.lookup x = some c
  cab : ∀ x c, X.fn x = true → X.env.cells.lookup x = some c → X.s_0.heap.objs.size ≤ c
  hd : X.calm = true → X.A.handled = none
  frames : X.A.frames = some X.stack
  stk : X.stack = X.outer ∨ (X.stack = X.env :: X.outer ∧ X.env.frame = some X.env.locals)
  exf : ∀ b ∈ X.ex, b ≠ X.env.locals ∧ ∀ x c, X.env.cells.lookup x = some c → c ≠ b
  bs : ∀ b o, X.base.get? b = some o → X.s_0.heap.get? b = some o ∧ X.H_0 b = none
  bsz : X.base.objs.size ≤ X.s_0.heap.objs.size
  noex : ∀ b o, X.base.get? b = some o → b ∉ X.ex
  exfs : ∀ b ∈ X.ex, b ∉ X.fs
  funs : X.s_0.heap.FunFrames X.base X.outer
  frf : ∀ b ∈ X.fs, X.H_0 b = none
structure Inv (X : Cx) (pins : List (Addr × Obj)) (σ : List (Option V)) (H : Hp) (s : Shared) : Prop where
  ok : X.Ok
  os : s.os = X.s_0.os
  bare : AllBare s.gens
  base : Un X.fs X.ex X.H_0 H X.s_0.heap s.heap
  loc : ∃ m, s.heap.Ns X.env.locals m ∧ ∀ (i : Nat) (x : Str) (v : V), X.N[i]? = some x → σ[i]? = some (some v) → Vis X.env.scope x → ∃ u, RelV v u ∧ Look X.env s.heap m x u
  cell : ∀ x c, X.env.cells.lookup x = some c → ∃ v, s.heap.IsCell c v
  free : H X.env.locals = none
  freeC : ∀ x c, X.env.cells.lookup x = some c → H c = none
  pin : ∀ p ∈ X.pn ++ pins, s.heap.get? p.1 = some p.2 ∧ H p.1 = none ∧ p.1 ≠ X.env.locals ∧ p.1 ∉ X.fs ∧ ∀ v, p.2.data ≠ .cell v
  hok : HOk X.prog X.w H s.heap
  len : σ.length = X.N.length
section
variable {X : Cx} {pins : List (Addr × Obj)} {σ : List (Option V)} {H H' : Hp} {s : Shared} {h' : Heap}
theorem Cx.Ok.nofr (ok : X.Ok) {b : Addr} {o : Obj} (e : X.base.get? b = some o) : b ∉ X.fs := fun hb => by
  have := (ok.funs.mem hb).1
  rw [e] at this; cases this
theorem Inv.bs (I : Inv X pins σ H s) : ∀ b o, X.base.get? b = some o → s.heap.get? b = some o ∧ H b = none := fun b o e =>
  ⟨I.base.keep b o (I.ok.bs b o e).1 (I.ok.bs b o e).2 (I.ok.nofr e) (I.ok.noex b o e), I.base.free b o (I.ok.bs b o e).1 (I.ok.bs b o e).2 (I.ok.noex b o e)⟩
theorem Inv.bk (I : Inv X pins σ H s) : ∀ b o, X.base.get? b = some o → s.heap.get? b = some o := fun b o e => (I.bs b o e).1
theorem Inv.mod (I : Inv X pins σ H s) : Mod X.K X.mg X.base := I.ok.mod
theorem Inv.kIn (I : Inv X pins σ H s) : X.K.In s.heap := I.ok.mod.kin.keeps I.bk
theorem Inv.nolimit (I : Inv X pins σ H s) : s.heap.NoLimit := I.ok.mod.nolimit.keeps I.bk
theorem Inv.lt (I : Inv X pins σ H s) : X.env.locals < s.heap.objs.size := let ⟨_, hn, _⟩ := I.loc; hn.lt
theorem Inv.sz (I : Inv X pins σ H s) : X.s_0.heap.objs.size ≤ s.heap.objs.size := Nat.le_trans I.ok.above (Nat.le_of_lt I.lt)
theorem Inv.nofs (I : Inv X pins σ H s) {a : Addr} (h : s.heap.objs.size ≤ a) : a ∉ X.fs := fun hb => by
  obtain ⟨_, o, ho, _⟩ := I.ok.funs.mem hb
  exact absurd (Nat.lt_of_lt_of_le (Heap.lt_size ho) (Nat.le_trans I.sz h)) (Nat.lt_irrefl _)
theorem Inv.cne (I : Inv X pins σ H s) : ∀ x c, X.env.cells.lookup x = some c → c ≠ X.env.locals := fun x c e z => by
  obtain ⟨v, o, ho, hd⟩ := I.cell x c e
  obtain ⟨m, ⟨o', es, ep, ho', hd', _⟩, _⟩ := I.loc
  rw [z, ho'] at ho; cases ho; rw [hd'] at hd; cases hd
theorem Inv.funs (I : Inv X pins σ H s) : s.heap.FunFrames X.base X.outer := by
  have all : ∀ (l : List Env), (∀ b ∈ frs l, b ∈ X.fs) → X.s_0.heap.FunFrames X.base l → s.heap.FunFrames X.base l := by
    intro l
    induction l with
    | nil => intro _ _; trivial
    | cons env r ih =>
      intro hs hl
      obtain ⟨hk, ⟨L, o, hf, hn, ho, hd⟩, hr⟩ := hl
      have hL : L ∈ X.fs := hs L (by unfold frs; rw [List.filterMap_cons, hf]; exact List.mem_cons_self)
      obtain ⟨sl, e⟩ := I.base.slot L o ho (I.ok.frf L hL) hL fun z => I.ok.exfs L z hL
      exact ⟨hk, ⟨L, _, hf, hn, e, hd⟩, ih (fun b hb => hs b (by unfold frs; rw [List.filterMap_cons, hf]; exact List.mem_cons_of_mem _ hb)) hr⟩
  exact all X.outer (fun _ hb => hb) I.ok.funs
/-- the frames that run, for a call -/
theorem Inv.stack (I : Inv X pins σ H s) : s.heap.FunFrames X.base X.stack := by
  rcases I.ok.stk with e | ⟨e, hf⟩
  · rw [e]; exact I.funs
  · rw [e]
    obtain ⟨m, hn, _⟩ := I.loc
    refine .cons (by rw [I.ok.kind]; decide) hf hn ?_ I.funs
    exact Heap.get?_none_of_le (Nat.le_trans I.ok.bsz I.ok.above)
theorem Inv.stkSub (I : Inv X pins σ H s) : ∀ b ∈ frs X.stack, b ∈ X.env.locals :: X.fs := fun b hb => by
  rcases I.ok.stk with e | ⟨e, hf⟩
  · rw [e] at hb; exact List.mem_cons_of_mem _ hb
  · rw [e] at hb
    unfold frs at hb
    rw [List.filterMap_cons, hf] at hb
    exact hb
theorem Inv.stkFree (I : Inv X pins σ H s) : ∀ b ∈ frs X.stack, H b = none := fun b hb => by
  rcases List.mem_cons.mp (I.stkSub b hb) with e | hb
  · rw [e]; exact I.free
  · obtain ⟨_, o, ho, _⟩ := I.ok.funs.mem hb
    exact I.base.free b o ho (I.ok.frf b hb) fun z => I.ok.exfs b z hb
/-- THE STEP: the untracked objects but the frame and the records at ch are kept (the callers' frames up to slots), the frame's map is kept, the new abstract heap is held -/
theorem Inv.step {g' : Array GenState} {t' : Nat} {d' : Drawn} {ch : List Addr} (I : Inv X pins σ H s)
    (hch : ∀ b ∈ ch, (b ∈ X.ex ∨ X.s_0.heap.objs.size ≤ b) ∧ b ≠ X.env.locals ∧ (∀ x c, X.env.cells.lookup x = some c → c ≠ b) ∧ ∀ p ∈ X.pn ++ pins, p.1 ≠ b)
    (keep : ∀ b o, b ≠ X.env.locals → b ∉ X.fs → b ∉ ch → s.heap.get? b = some o → H b = none → h'.get? b = some o)
    (slot : ∀ b o, b ≠ X.env.locals → b ∈ X.fs → b ∉ ch → s.heap.get? b = some o → H b = none → ∃ sl, h'.get? b = some { o with slots := sl }) (free : ∀ b o, b ∉ ch → s.heap.get? b = some o → H b = none → H' b = none)
    (there : ∀ b o, b ∉ ch → s.heap.get? b = some o → ∃ o', h'.get? b = some o')
    (tups : ∀ b xs, H b = some (.tup xs) → H' b = some (.tup xs)) (frzs : ∀ b o u, H b = some (.frz o u) → H' b = some (.frz o u)) (tbls : ∀ b ps, H b = some (.tbl ps) → ∃ more, H' b = some (.tbl (ps ++ more)))
    (ns : ∀ m, s.heap.Ns X.env.locals m → h'.Ns X.env.locals m) (hok : HOk X.prog X.w H' h') (hg : AllBare g') :
    Inv X pins σ H' { s with heap := h', gens := g', drawn := d', toks := t' } := by
  have neL : ∀ b o, X.s_0.heap.get? b = some o → b ≠ X.env.locals := fun b o e => Nat.ne_of_lt (Nat.lt_of_lt_of_le (Heap.lt_size e) I.ok.above)
  have neC : ∀ b o, X.s_0.heap.get? b = some o → b ∉ X.ex → b ∉ ch := fun b o e hx hb => by
    rcases (hch b hb).1 with z | z
    · exact hx z
    · exact absurd (Nat.lt_of_lt_of_le (Heap.lt_size e) z) (Nat.lt_irrefl _)
  have cellK : ∀ x c, X.env.cells.lookup x = some c → ∀ v, s.heap.IsCell c v → h'.IsCell c v := fun x c e v ⟨o, ho, hd⟩ => by
    have nch : c ∉ ch := fun z => (hch c z).2.2.1 x c e rfl
    by_cases hc : c ∈ X.fs
    · obtain ⟨sl, q⟩ := slot c o (I.cne x c e) hc nch ho (I.freeC x c e)
      exact ⟨_, q, hd⟩
    · exact ⟨o, keep c o (I.cne x c e) hc nch ho (I.freeC x c e), hd⟩
  refine ⟨I.ok, I.os, hg, ⟨fun b o e n hb hx => ?_, fun b o e n hb hx => ?_, fun b o e n hx => ?_, fun b o e hx => ?_, fun b xs e => tups b xs (I.base.tups b xs e), fun b o xs e => frzs b o xs (I.base.frzs b o xs e), fun b ps e => ?_⟩, ?_, fun x c e => ?_, ?_, fun x c e => ?_, fun p hp => ?_, hok, I.len⟩
  · exact keep b o (neL b o e) hb (neC b o e hx) (I.base.keep b o e n hb hx) (I.base.free b o e n hx)
  · obtain ⟨sl, e1⟩ := I.base.slot b o e n hb hx
    obtain ⟨sl', e2⟩ := slot b _ (neL b o e) hb (neC b o e hx) e1 (I.base.free b o e n hx)
    exact ⟨sl', e2⟩
  · obtain ⟨o', e1⟩ := I.base.there b o e hx
    exact free b o' (neC b o e hx) e1 (I.base.free b o e n hx)
  · obtain ⟨o', e1⟩ := I.base.there b o e hx
    exact there b o' (neC b o e hx) e1
  · obtain ⟨m1, e1⟩ := I.base.tbls b ps e
    obtain ⟨m2, e2⟩ := tbls b _ e1
    exact ⟨m1 ++ m2, by rw [e2, Array.append_assoc]⟩
  · obtain ⟨m, hn, hl⟩ := I.loc
    refine ⟨m, ns m hn, fun i x v e1 e2 e3 => ?_⟩
    obtain ⟨u, r, l⟩ := hl i x v e1 e2 e3
    refine ⟨u, r, ?_⟩
    rcases l with l | ⟨k, c, e, z⟩
    · exact .inl l
    · exact .inr ⟨k, c, e, cellK x c e _ z⟩
  · obtain ⟨v, z⟩ := I.cell x c e
    exact ⟨v, cellK x c e v z⟩
  · obtain ⟨m, ⟨o, _, _, ho, _⟩, _⟩ := I.loc
    exact free _ o (fun z => (hch _ z).2.1 rfl) ho I.free
  · obtain ⟨v, o, ho, hd⟩ := I.cell x c e
    exact free c o (fun z => (hch c z).2.2.1 x c e rfl) ho (I.freeC x c e)
  · obtain ⟨e, n, ne, nf, d⟩ := I.pin p hp
    have nch : p.1 ∉ ch := fun z => (hch p.1 z).2.2.2 p hp rfl
    exact ⟨keep p.1 p.2 ne nf nch e n, free p.1 p.2 nch e n, ne, nf, d⟩
/-- .. where the frame's own object is kept too -/
theorem Inv.un {t' : Nat} (I : Inv X pins σ H s) (u : Un X.fs [] H H' s.heap h') (hok : HOk X.prog X.w H' h') : Inv X pins σ H' { s with heap := h', toks := t' } := by
  obtain ⟨m, ⟨o, es, ep, ho, r⟩, _⟩ := id I.loc
  obtain ⟨sl, hL⟩ := u.any ho I.free (by simp)
  exact I.step (g' := s.gens) (d' := s.drawn) (ch := []) (fun _ z => nomatch z) (fun b o _ hb _ e n => u.keep b o e n hb (by simp)) (fun b o _ hb _ e n => u.slot b o e n hb (by simp)) (fun b o _ e n => u.free b o e n (by simp)) (fun b o _ e => u.there b o e (by simp)) u.tups u.frzs u.tbls (fun m' hm => by
    obtain ⟨o', es', ep', ho', r'⟩ := hm
    rw [ho] at ho'; cases ho'
    exact ⟨_, es', ep', hL, r'⟩) hok I.bare
/-- behind a call (or a comprehension's block): the slots of this frame may have changed too, the records at ch may have turned -/
theorem Inv.call {g' : Array GenState} {t' : Nat} {d' : Drawn} {ch : List Addr} (I : Inv X pins σ H s) (u : Un (frs X.stack) ch H H' s.heap h') (hok : HOk X.prog X.w H' h') (hg : AllBare g')
    (hch : ∀ b ∈ ch, (b ∈ X.ex ∨ X.s_0.heap.objs.size ≤ b) ∧ b ≠ X.env.locals ∧ (∀ x c, X.env.cells.lookup x = some c → c ≠ b) ∧ ∀ p ∈ X.pn ++ pins, p.1 ≠ b) :
    Inv X pins σ H' { s with heap := h', gens := g', drawn := d', toks := t' } := by
  obtain ⟨m, ⟨o, es, ep, ho, r⟩, _⟩ := id I.loc
  obtain ⟨sl, hL⟩ := u.any ho I.free fun z => (hch _ z).2.1 rfl
  exact I.step (ch := ch) hch (fun b o hL hb hc e n => u.keep b o e n (fun z => (List.mem_cons.mp (I.stkSub b z)).elim hL hb) hc) (fun b o _ _ hc e n => u.any e n hc) (fun b o hc e n => u.free b o e n hc) (fun b o hc e => u.there b o e hc) u.tups u.frzs u.tbls (fun m' hm => by
    obtain ⟨o', es', ep', ho', r'⟩ := hm
    rw [ho] at ho'; cases ho'
    exact ⟨_, es', ep', hL, r'⟩) hok hg
/-- an untracked record of ours (an iterator) has turned -/
theorem Inv.turned {t' : Nat} {it : Addr} (I : Inv X pins σ H s) (k : ∀ b o, b ≠ it → s.heap.get? b = some o → h'.get? b = some o) (hn : H it = none) (hL : it ≠ X.env.locals)
    (h1 : it ∈ X.ex ∨ X.s_0.heap.objs.size ≤ it) (h2 : ∀ x c, X.env.cells.lookup x = some c → c ≠ it) (h3 : ∀ p ∈ X.pn ++ pins, p.1 ≠ it) : Inv X pins σ H { s with heap := h', toks := t' } := by
  have nit : ∀ b u, H b = some u → b ≠ it := fun b u e z => by rw [z, hn] at e; cases e
  refine I.step (g' := s.gens) (d' := s.drawn) (ch := [it]) (fun b hb => ?_) (fun b o _ _ hc e _ => k b o (fun z => hc (by simp [z])) e) (fun b o _ _ hc e _ => ⟨o.slots, k b o (fun z => hc (by simp [z])) e⟩) (fun _ _ _ _ n => n)
    (fun b o hc e => ⟨o, k b o (fun z => hc (by simp [z])) e⟩) (fun _ _ e => e) (fun _ _ _ e => e) (fun b ps e => ⟨#[], by rw [e]; simp⟩) (fun m hm => ?_) (fun b u e => ?_) I.bare
  · have e : b = it := by simpa using hb
    subst e
    exact ⟨h1, hL, h2, h3⟩
  · obtain ⟨o, es, ep, ho, r⟩ := hm
    exact ⟨o, es, ep, k _ o (Ne.symm hL) ho, r⟩
  · refine (I.hok b u e).stay (fun c v hc q => k c v ?_ q) (fun _ q => q) fun _ _ q => q
    rcases hc with z | z
    · rw [z]; exact nit b u e
    · exact nit c _ z
theorem Inv.tok (I : Inv X pins σ H s) (t : Nat) : Inv X pins σ H { s with toks := t } := I.un (h' := s.heap) (t' := t) Un.refl I.hok
/-- all objects kept -/
theorem Inv.kept {t' : Nat} (I : Inv X pins σ H s) (k : ∀ b u, s.heap.get? b = some u → h'.get? b = some u) : Inv X pins σ H { s with heap := h', toks := t' } := I.un (Un.kept k) (I.hok.kept k)
/-- a new object laid and tracked -/
theorem Inv.laid {a : Addr} {o : HO} {t' : Nat} (I : Inv X pins σ H s) (k : ∀ b u, s.heap.get? b = some u → h'.get? b = some u) (hp : s.heap.objs.size ≤ a) (new : ObjOk X.prog X.w (upd H a o) h' a o) :
    Inv X pins σ (upd H a o) { s with heap := h', toks := t' } := I.un (Un.laid k hp (I.hok.fresh hp)) (I.hok.laid k hp new)
/-- an object written -/
theorem Inv.write {x e : Addr} {o : HO} {t' : Nat} (I : Inv X pins σ H s) (mu : Mut (H x)) (he : e = x ∨ H e = some (.own x)) (k : ∀ b u, b ≠ e → s.heap.get? b = some u → h'.get? b = some u) (heo : ∃ u, h'.get? e = some u)
    (new : ObjOk X.prog X.w (upd H x o) h' x o) : Inv X pins σ (upd H x o) { s with heap := h', toks := t' } := I.un (Un.write mu he k heo) (I.hok.write mu he k heo new)
/-- forgetting slots, pins -/
theorem Inv.weak {σ' : List (Option V)} (I : Inv X pins σ H s) (hl : σ'.length = σ.length) (w : ∀ (i : Nat) v, σ'[i]? = some (some v) → σ[i]? = some (some v)) : Inv X pins σ' H s :=
  ⟨I.ok, I.os, I.bare, I.base, let ⟨m, hn, hl'⟩ := I.loc; ⟨m, hn, fun i x v e1 e2 e3 => hl' i x v e1 (w i v e2) e3⟩, I.cell, I.free, I.freeC, I.pin, I.hok, hl.trans I.len⟩
theorem Inv.pins_of {pins' : List (Addr × Obj)} (I : Inv X pins σ H s) (h : ∀ p ∈ pins', s.heap.get? p.1 = some p.2 ∧ H p.1 = none ∧ p.1 ≠ X.env.locals ∧ p.1 ∉ X.fs ∧ ∀ v, p.2.data ≠ .cell v) : Inv X pins' σ H s :=
  ⟨I.ok, I.os, I.bare, I.base, I.loc, I.cell, I.free, I.freeC, fun p hp => (List.mem_append.mp hp).elim (fun z => I.pin p (List.mem_append_left _ z)) (h p), I.hok, I.len⟩
theorem nodup_ix {N : List Str} (hN : N.Nodup) {i j : Nat} {x : Str} (a : N[i]? = some x) (b : N[j]? = some x) : i = j := by
  obtain ⟨h1, e1⟩ := List.getElem?_eq_some_iff.mp a
  obtain ⟨h2, e2⟩ := List.getElem?_eq_some_iff.mp b
  exact (List.getElem_inj hN).mp (e1.trans e2.symm)
/-- a name is stored; what changed -/
theorem store_ok2 {M : Model} {A : Around} {E : Value → Shared → Prop} {i : Nat} {x : Str} {v : V} {u : Value} {Q : Unit → Shared → Prop} (I : Inv X pins σ H s) (hN : X.N.Nodup) (hi : X.N[i]? = some x) (hx : Loc X.env.scope x) (r : RelV v u)
    (h : ∀ s', Inv X pins (σ.set i (some v)) H s' → (∃ a, Heap.SameBut a s.heap s'.heap ∧ (a = X.env.locals ∨ X.env.cells.lookup x = some a)) → Q () s') (hf : X.fn x = true ∨ X.env.scope.names.lookup x = some .local := by first | exact .inl rfl | exact .inr rfl | assumption) : wpAny M A (storeName X.env x u) Q E s := by
  obtain ⟨m, hn, hl⟩ := id I.loc
  have hcls : (X.env.scope.kind == .class || (X.env.scope.kind == .module && X.env.locals != X.env.globals)) = false := by rw [I.ok.kind]; rfl
  have hiσ : i < σ.length := by rw [I.len]; exact (List.getElem?_eq_some_iff.mp hi).1
  have cne := I.cne
  have tracked : ∀ {a : Addr} {h' : Heap}, (∃ o, s.heap.get? a = some o ∧ H a = none) → Heap.SameBut a s.heap h' → HOk X.prog X.w H h' := fun {a h'} ha hs b ob e => by
    obtain ⟨_, _, hfree⟩ := ha
    refine (I.hok b ob e).stay (fun c w' hc q => (hs.2 c ?_).trans q) (fun _ q => q) fun _ _ q => q
    rintro rfl
    rcases hc with rfl | hc
    · rw [hfree] at e; cases e
    · rw [hfree] at hc; cases hc
  rcases hx with hk | hk
  · refine wpAny_storeName_local hk hn (fun h' hn' hs => ?_) hcls
    obtain ⟨oL, _, _, hoL, _⟩ := id hn
    refine h _ ⟨I.ok, I.os, I.bare, ⟨fun b o e n hb hx => ?_, fun b o e n hb hx => ?_, I.base.free, fun b o e hx => ?_, I.base.tups, I.base.frzs, I.base.tbls⟩, ⟨_, hn', fun j y v' e1 e2 e3 => ?_⟩, fun y c e => ?_, I.free, I.freeC, fun p hp => ?_, tracked ⟨oL, hoL, I.free⟩ hs, by simpa using I.len⟩ ⟨_, hs, .inl rfl⟩
    · exact (hs.2 b (Nat.ne_of_lt (Nat.lt_of_lt_of_le (Heap.lt_size e) I.ok.above))).trans (I.base.keep b o e n hb hx)
    · obtain ⟨sl, e1⟩ := I.base.slot b o e n hb hx
      exact ⟨sl, (hs.2 b (Nat.ne_of_lt (Nat.lt_of_lt_of_le (Heap.lt_size e) I.ok.above))).trans e1⟩
    · obtain ⟨o', e1⟩ := I.base.there b o e hx
      exact ⟨o', (hs.2 b (Nat.ne_of_lt (Nat.lt_of_lt_of_le (Heap.lt_size e) I.ok.above))).trans e1⟩
    · by_cases hj : j = i
      · subst hj
        rw [hi] at e1; cases e1
        rw [List.getElem?_set_self hiσ] at e2
        cases e2
        exact ⟨u, r, .inl ⟨hk, by simp⟩⟩
      · rw [List.getElem?_set_ne (Ne.symm hj)] at e2
        obtain ⟨u', r', q⟩ := hl j y v' e1 e2 e3
        refine ⟨u', r', ?_⟩
        rcases q with ⟨k, e⟩ | ⟨k, c, e, z⟩
        · refine .inl ⟨k, ?_⟩
          have : y ≠ x := fun e => hj (nodup_ix hN e1 (e ▸ hi))
          simp [this, e]
        · exact .inr ⟨k, c, e, z.sameBut hs (cne y c e)⟩
    · obtain ⟨w', z⟩ := I.cell y c e
      exact ⟨w', z.sameBut hs (cne y c e)⟩
    · obtain ⟨e, n, ne, nf, d⟩ := I.pin p hp
      exact ⟨(hs.2 p.1 ne).trans e, n, ne, nf, d⟩
  · have hfn : X.fn x = true := by
      rcases hf with z | z
      · exact z
      · rw [z] at hk; cases hk
    obtain ⟨c, hc⟩ := I.ok.has x (.inl hk)
    obtain ⟨w', z⟩ := I.cell x c hc
    refine wpAny_storeName_cell I.ok.kind hk hc z (fun h' hc' hs => ?_)
    obtain ⟨oc, hoc, hocd⟩ := id z
    refine h { s with heap := h' } ⟨I.ok, I.os, I.bare, ⟨fun b o e n hb hx => ?_, fun b o e n hb hx => ?_, I.base.free, fun b o e hx => ?_, I.base.tups, I.base.frzs, I.base.tbls⟩, ⟨m, hn.sameBut hs (Ne.symm (cne x c hc)), fun j y v' e1 e2 e3 => ?_⟩, fun y c' e => ?_, I.free, I.freeC, fun p hp => ?_, tracked ⟨oc, hoc, I.freeC x c hc⟩ hs, by simpa using I.len⟩ ⟨c, hs, .inr hc⟩
    · exact (hs.2 b (Nat.ne_of_lt (Nat.lt_of_lt_of_le (Heap.lt_size e) (I.ok.cab x c hfn hc)))).trans (I.base.keep b o e n hb hx)
    · obtain ⟨sl, e1⟩ := I.base.slot b o e n hb hx
      exact ⟨sl, (hs.2 b (Nat.ne_of_lt (Nat.lt_of_lt_of_le (Heap.lt_size e) (I.ok.cab x c hfn hc)))).trans e1⟩
    · obtain ⟨o', e1⟩ := I.base.there b o e hx
      exact ⟨o', (hs.2 b (Nat.ne_of_lt (Nat.lt_of_lt_of_le (Heap.lt_size e) (I.ok.cab x c hfn hc)))).trans e1⟩
    · by_cases hj : j = i
      · subst hj
        rw [hi] at e1; cases e1
        rw [List.getElem?_set_self hiσ] at e2
        cases e2
        exact ⟨u, r, .inr ⟨.inl hk, c, hc, hc'⟩⟩
      · rw [List.getElem?_set_ne (Ne.symm hj)] at e2
        obtain ⟨u', r', q⟩ := hl j y v' e1 e2 e3
        refine ⟨u', r', ?_⟩
        rcases q with q | ⟨k, c', e, z'⟩
        · exact .inl q
        · refine .inr ⟨k, c', e, z'.sameBut hs ?_⟩
          rintro rfl
          exact hj (nodup_ix hN e1 (I.ok.inj _ _ _ e hc ▸ hi))
    · by_cases hcc : c' = c
      · subst hcc; exact ⟨_, hc'⟩
      · obtain ⟨w2, z2⟩ := I.cell y c' e
        exact ⟨w2, z2.sameBut hs hcc⟩
    · obtain ⟨e, n, ne, nf, d⟩ := I.pin p hp
      refine ⟨(hs.2 p.1 ?_).trans e, n, ne, nf, d⟩
      intro q
      rw [q, hoc] at e
      have q' : oc = p.2 := Option.some.inj e
      exact d w' (by rw [← q']; exact hocd)
theorem store_ok {M : Model} {A : Around} {E : Value → Shared → Prop} {i : Nat} {x : Str} {v : V} {u : Value} {Q : Unit → Shared → Prop} (I : Inv X pins σ H s) (hN : X.N.Nodup) (hi : X.N[i]? = some x) (hx : Loc X.env.scope x) (r : RelV v u)
    (h : ∀ s', Inv X pins (σ.set i (some v)) H s' → Q () s') (hf : X.fn x = true ∨ X.env.scope.names.lookup x = some .local := by first | exact .inl rfl | exact .inr rfl | assumption) : wpAny M A (storeName X.env x u) Q E s :=
  store_ok2 I hN hi hx r (fun s' I' _ => h s' I') hf
/-- behind a call or a block, the state as it is -/
theorem Inv.call' {s' : Shared} {ch : List Addr} (I : Inv X pins σ H s) (ho : s'.os = s.os) (u : Un (frs X.stack) ch H H' s.heap s'.heap) (hok : HOk X.prog X.w H' s'.heap) (hg : AllBare s'.gens)
    (hch : ∀ b ∈ ch, (b ∈ X.ex ∨ X.s_0.heap.objs.size ≤ b) ∧ b ≠ X.env.locals ∧ (∀ x c, X.env.cells.lookup x = some c → c ≠ b) ∧ ∀ p ∈ X.pn ++ pins, p.1 ≠ b) : Inv X pins σ H' s' := by
  obtain ⟨h', g', d', t', o'⟩ := s'
  have e : o' = s.os := ho
  subst e
  exact I.call (g' := g') (t' := t') (d' := d') u hok hg hch
end
/-- an exception: its class, its own dict's address (where it has one), the abstract heap behind it -/
abbrev XK := Value → Option Addr → Hp → Prop
abbrev St := List (Option V)
abbrev VK := V → Hp → Prop
/-- an expression's reading; a test's; an argument list's -/
abbrev TE := St → Hp → VK → Prop
abbrev TT := St → Hp → (Bool → Hp → Prop) → Prop
abbrev TA := St → Hp → (List V → Hp → Prop) → Prop
/-- what is wanted behind a statement -/
structure Ends where
  nx : St → Hp → Prop
  rt : VK
  bk : St → Hp → Prop := fun _ _ => False
  ct : St → Hp → Prop := fun _ _ => False
abbrev TS := Ends → St → Hp → Prop
def EP (X : Cx) (pins : List (Addr × Obj)) (σ : St) (Q : VK) (u : Value) (s' : Shared) : Prop := ∃ v H', Inv X pins σ H' s' ∧ RelV v u ∧ Q v H'
def TP (X : Cx) (pins : List (Addr × Obj)) (σ : St) (Q : Bool → Hp → Prop) (b : Bool) (s' : Shared) : Prop := ∃ H', Inv X pins σ H' s' ∧ Q b H'
def AP (X : Cx) (pins : List (Addr × Obj)) (σ : St) (Q : List V → Hp → Prop) (us : List Value) (s' : Shared) : Prop := ∃ vs H', Inv X pins σ H' s' ∧ Vals vs us ∧ Q vs H'
def SP (X : Cx) (pins : List (Addr × Obj)) (D : Ends) (f : Flow) (s' : Shared) : Prop :=
  match f with
  | .next => ∃ σ' H', Inv X pins σ' H' s' ∧ D.nx σ' H'
  | .brk => ∃ σ' H', Inv X pins σ' H' s' ∧ D.bk σ' H'
  | .cont => ∃ σ' H', Inv X pins σ' H' s' ∧ D.ct σ' H'
  | .ret u => ∃ v σ' H', Inv X pins σ' H' s' ∧ RelV v u ∧ D.rt v H'
def PE (X : Cx) (e : Expr) (t : TE) : Prop :=
  ∀ (pins : List (Addr × Obj)) (s : Shared) (σ : St) (H : Hp) (Q : VK), Inv X pins σ H s → t σ H Q → wpAny (model X.prog X.w) X.A (eval e X.env) (EP X pins σ Q) X.xe s
def PT (X : Cx) (e : Expr) (t : TT) : Prop :=
  ∀ (pins : List (Addr × Obj)) (s : Shared) (σ : St) (H : Hp) (Q : Bool → Hp → Prop), Inv X pins σ H s → t σ H Q → wpAny (model X.prog X.w) X.A (isTrue e X.env (eval e X.env)) (TP X pins σ Q) X.xe s
/-- a test whatever its 'whole' is (and, or) -/
def PW (X : Cx) (e : Expr) (t : TT) : Prop :=
  ∀ (whole : Sem Value) (pins : List (Addr × Obj)) (s : Shared) (σ : St) (H : Hp) (Q : Bool → Hp → Prop), Inv X pins σ H s → t σ H Q → wpAny (model X.prog X.w) X.A (isTrue e X.env whole) (TP X pins σ Q) X.xe s
theorem PW.pt {X : Cx} {e : Expr} {t : TT} (h : PW X e t) : PT X e t := h _
/-- an argument list (no star), from the left -/
def PA (X : Cx) (es : List Expr) (t : TA) : Prop :=
  ∀ (pos : Pos) (pins : List (Addr × Obj)) (s : Shared) (σ : St) (H : Hp) (Q : List V → Hp → Prop), Inv X pins σ H s → t σ H Q → wpAny (model X.prog X.w) X.A (spliced (backTo pos (starEach es X.env))) (AP X pins σ Q) X.xe s
def PS (X : Cx) (st : Stmt) (t : TS) : Prop :=
  ∀ (pins : List (Addr × Obj)) (s : Shared) (σ : St) (H : Hp) (D : Ends), Inv X pins σ H s → t D σ H → wpAny (model X.prog X.w) X.A (exec st X.env) (SP X pins D) X.xe s
def PSs (X : Cx) (st : List Stmt) (t : TS) : Prop :=
  ∀ (pins : List (Addr × Obj)) (s : Shared) (σ : St) (H : Hp) (D : Ends), Inv X pins σ H s → t D σ H → wpAny (model X.prog X.w) X.A (execs st X.env) (SP X pins D) X.xe s
/-- weaken the end -/
theorem thn {α : Type} {t : Sem α} {Q Q' : α → Shared → Prop} {M : Model} {A : Around} {E : Value → Shared → Prop} {s : Shared} (h : wpAny M A t Q E s) (hQ : ∀ a s, Q a s → Q' a s) : wpAny M A t Q' E s := wpAny_mono h hQ fun _ _ x => x
end L2
namespace L2
open PySem PySem.Spec PyProof.Rows
section
variable {X : Cx}
def tVar (i : Nat) : TE := fun σ H Q => ∃ v, σ[i]? = some (some v) ∧ Q v H
def tC (v : V) : TE := fun _ H Q => Q v H
theorem pe_var {i : Nat} {x : Str} {pos : Pos} (hN : X.N[i]? = some x) (hv : Vis X.env.scope x) (hd : (x == ("__debug__" : Str)) = false := by decide) (hcd : (x == ("__classdict__" : Str)) = false := by decide) : PE X (.Name x pos) (tVar i) := by
  intro pins s σ H Q I h
  obtain ⟨v, e, h⟩ := h
  obtain ⟨m, hn, hl⟩ := I.loc
  obtain ⟨u, r, l⟩ := hl i x v hN e hv
  have fin : EP X pins σ Q u s := ⟨v, H, I, r, h⟩
  rcases l with ⟨hk, hm⟩ | ⟨hk, c, hc, hcell⟩
  · exact wpAny_Name (wpAny_loadName_local I.ok.kind hk hn hm fin) hd
  · rcases hk with hk | hk
    · exact wpAny_Name (wpAny_loadName_cell I.ok.kind hk hc hcell fin) hd
    · exact wpAny_Name (wpAny_loadName_free I.ok.kind hk hc hcell fin hcd) hd
theorem pe_int {i j pos} : PE X (.Constant (.int i) j pos) (tC (.int i)) := fun _ _ _ H _ I h => wpAny_Constant_int ⟨.int i, H, I.tok _, ⟨_, rfl⟩, h⟩
theorem pe_bl {b j pos} : PE X (.Constant (.bool b) j pos) (tC (.bl b)) := fun _ _ _ H _ I h => Constant_bool ⟨.bl b, H, I, rfl, h⟩
/-- a global name of the def -/
def Gl (X : Cx) (x : Str) : Prop := X.env.kindOf x = some .globalImplicit
theorem ld_glob {E : Value → Shared → Prop} {pins : List (Addr × Obj)} {s : Shared} {σ : St} {H : Hp} {x : Str} {u : Value} {pos : Pos} {Q : Value → Shared → Prop} (I : Inv X pins σ H s) (hg : Gl X x) (hm : X.mg x = some u) (h : Q u s)
    (hd : (x == ("__debug__" : Str)) = false := by decide) : wpAny (model X.prog X.w) X.A (eval (.Name x pos) X.env) Q E s :=
  Calls.Name_function_global I.ok.kind hg (Calls.loadGlobal_global (by rw [I.ok.glob]; exact I.mod.glob.keeps I.bk) hm h) hd
theorem ld_blt {E : Value → Shared → Prop} {pins : List (Addr × Obj)} {s : Shared} {σ : St} {H : Hp} {x : Str} {u : Value} {pos : Pos} {Q : Value → Shared → Prop} (I : Inv X pins σ H s) (hg : Gl X x) (hm : X.mg x = none) (hv : bootBuiltins x = some u) (h : Q u s)
    (hn : x ≠ "__name__" := by decide) (hd : (x == ("__debug__" : Str)) = false := by decide) : wpAny (model X.prog X.w) X.A (eval (.Name x pos) X.env) Q E s := by
  obtain ⟨mb, h1, h2⟩ := I.mod.blt
  exact Calls.Name_function_global I.ok.kind hg (Calls.loadGlobal_builtin (by rw [I.ok.glob]; exact I.mod.glob.keeps I.bk) hm (by rw [I.ok.blt]; exact h1.keeps I.bk) ((h2 x hn).trans hv) h) hd
/-- a module's constant, a class, a function, as a value -/
theorem pe_glob {x : Str} {v : V} {u : Value} {pos : Pos} (hg : Gl X x) (hm : X.mg x = some u) (r : RelV v u) (hd : (x == ("__debug__" : Str)) = false := by decide) : PE X (.Name x pos) (tC v) :=
  fun _ _ _ H _ I h => ld_glob I hg hm ⟨v, H, I, r, h⟩ hd
variable {a b : Expr} {ta tb : TE} {pos : Pos}
variable {tA tB' : TT} {rest : List Expr}
def tAnd (t u : TT) : TT := fun σ H Q => t σ H fun c H1 => if c = true then u σ H1 Q else Q false H1
def tOr (t u : TT) : TT := fun σ H Q => t σ H fun c H1 => if c = true then Q true H1 else u σ H1 Q
def tNot (t : TT) : TT := fun σ H Q => t σ H fun c H1 => Q (!c) H1
theorem pw_and1 (ha : PT X a tA) : PW X (.BoolOp .And [a] pos) tA := by
  intro wh pins s σ H Q I h
  refine isTrue_and (thn (ha pins s σ H Q I h) fun c s1 e => ?_)
  cases c with
  | true => exact isTrue_and_nil e
  | false => exact e
theorem pw_or1 (ha : PT X a tA) : PW X (.BoolOp .Or [a] pos) tA := by
  intro wh pins s σ H Q I h
  refine isTrue_or (thn (ha pins s σ H Q I h) fun c s1 e => ?_)
  cases c with
  | false => exact isTrue_or_nil e
  | true => exact e
theorem pw_and (ha : PT X a tA) (hb : PW X (.BoolOp .And (b :: rest) pos) tB') : PW X (.BoolOp .And (a :: b :: rest) pos) (tAnd tA tB') := by
  intro wh pins s σ H Q I h
  refine isTrue_and (thn (ha pins s σ H _ I h) fun c s1 ⟨H1, I1, q1⟩ => ?_)
  cases c with
  | true => exact hb wh pins s1 σ H1 Q I1 q1
  | false => exact ⟨H1, I1, q1⟩
theorem pw_or (ha : PT X a tA) (hb : PW X (.BoolOp .Or (b :: rest) pos) tB') : PW X (.BoolOp .Or (a :: b :: rest) pos) (tOr tA tB') := by
  intro wh pins s σ H Q I h
  refine isTrue_or (thn (ha pins s σ H _ I h) fun c s1 ⟨H1, I1, q1⟩ => ?_)
  cases c with
  | true => exact ⟨H1, I1, q1⟩
  | false => exact hb wh pins s1 σ H1 Q I1 q1
theorem pt_not (ha : PT X a tA) : PT X (.UnaryOp .Not a pos) (tNot tA) := by
  intro pins s σ H Q I h
  exact isTrue_not (ha pins s σ H (fun c H1 => Q (!c) H1) I h)
end
end L2
namespace L2
open PySem PySem.Spec PyProof.Rows
def SqL (K : PySem.W.Frag) (H : Hp) (a : Addr) (xs : List V) : Prop :=
  Rd H a (.lst xs) ∨
    ∃ (o : Obj) (its : Array Value) (n : Nat), K.lookup a = some o ∧ o.cls = .type "list" ∧ o.dict = none ∧ o.data = .seq its n ∧ its.size ≤ sizeLine ∧ Vals xs its.toList
def SqT (K : PySem.W.Frag) (H : Hp) (a : Addr) (xs : List V) : Prop :=
  Rd H a (.tup xs) ∨
    ∃ (o : Obj) (its : Array Value) (n : Nat), K.lookup a = some o ∧ o.cls = .type "tuple" ∧ o.data = .seq its n ∧ its.size ≤ sizeLine ∧ Vals xs its.toList
def absV : Value → Option V
  | .none => some .non
  | .bool b => some (.bl b)
  | .int i _ => some (.int i)
  | .str x _ => some (.str x)
  | .bytes b _ => some (.byt b)
  | .float b _ => some (.flt b)
  | .ref a => some (.ref a)
  | .type n => some (.ty n)
  | _ => none
theorem RelV.abs {x : V} {u : Value} (r : RelV x u) : absV u = some x := by
  cases x with
  | non => cases r; rfl
  | bl _ => cases r; rfl
  | int _ => obtain ⟨t, rfl⟩ := r; rfl
  | str _ => obtain ⟨t, rfl⟩ := r; rfl
  | byt _ => obtain ⟨t, rfl⟩ := r; rfl
  | flt _ => obtain ⟨t, rfl⟩ := r; rfl
  | ref _ => cases r; rfl
  | ty _ => cases r; rfl
theorem RelV.inj {x y : V} {u : Value} (r : RelV x u) (q : RelV y u) : x = y := Option.some.inj (r.abs.symm.trans q.abs)
theorem Vals.inj : ∀ {xs ys : List V} {us : List Value}, Vals xs us → Vals ys us → xs = ys
  | _, _, _, .nil, .nil => rfl
  | _, _, _, .cons r t, .cons r' t' => by rw [r.inj r', Vals.inj t t']
section
variable {X : Cx} {pins : List (Addr × Obj)} {σ : St} {H : Hp} {s : Shared} {a : Addr} {xs ys : List V}
theorem SqL.of {K : PySem.W.Frag} (h : H a = some (.lst xs)) : SqL K H a xs := .inl (.inl h)
theorem SqT.of {K : PySem.W.Frag} (h : H a = some (.tup xs)) : SqT K H a xs := .inl (.inl h)
theorem Inv.list (I : Inv X pins σ H s) (h : SqL X.K H a xs) : ∃ its : List Value, Vals xs its ∧ PlainL s.heap a its.toArray ∧ xs.length ≤ sizeLine := by
  rcases h with h | ⟨o, its, n, hk, hc, hd, hs, hz, r⟩
  · obtain ⟨z, its, n, r, e⟩ := h.ok I.hok
    exact ⟨its, r, ⟨_, n, e, rfl, rfl, rfl⟩, z⟩
  · refine ⟨its.toList, r, ⟨o, n, I.kIn a o hk, hc, hd, by simpa using hs⟩, ?_⟩
    have e := r.length
    simp only [Array.length_toList] at e
    omega
theorem Inv.tuple (I : Inv X pins σ H s) (h : SqT X.K H a xs) : ∃ its : List Value, Vals xs its ∧ IsTup s.heap a its.toArray ∧ xs.length ≤ sizeLine := by
  rcases h with h | ⟨o, its, n, hk, hc, hs, hz, r⟩
  · obtain ⟨z, its, r, p⟩ := h.ok I.hok
    exact ⟨its, r, p, z⟩
  · refine ⟨its.toList, r, ⟨o, I.kIn a o hk, hc, n, by simpa using hs⟩, ?_⟩
    have e := r.length
    simp only [Array.length_toList] at e
    omega
theorem Inv.list_inj (I : Inv X pins σ H s) (h : SqL X.K H a xs) (h' : SqL X.K H a ys) : xs = ys := by
  obtain ⟨its, r, ⟨o, n, e, _, _, d⟩, _⟩ := I.list h
  obtain ⟨its', r', ⟨o', n', e', _, _, d'⟩, _⟩ := I.list h'
  rw [e] at e'; cases e'
  rw [d] at d'
  injection d' with d1 _
  have : its = its' := by simpa using congrArg Array.toList d1
  subst this
  exact r.inj r'
theorem Inv.tuple_inj (I : Inv X pins σ H s) (h : SqT X.K H a xs) (h' : SqT X.K H a ys) : xs = ys := by
  obtain ⟨its, r, ⟨o, e, _, n, d⟩, _⟩ := I.tuple h
  obtain ⟨its', r', ⟨o', e', _, n', d'⟩, _⟩ := I.tuple h'
  rw [e] at e'; cases e'
  rw [d] at d'
  injection d' with d1 _
  have : its = its' := by simpa using congrArg Array.toList d1
  subst this
  exact r.inj r'
end
abbrev Cx.wish (X : Cx) (E : Value → Shared → Prop) : Cx := { X with xe := E }
/-- no exception leaves -/
abbrev Cx.nox (X : Cx) : Cx := X.wish fun _ _ => False
theorem Cx.Ok.wish {X : Cx} (ok : X.Ok) (E : Value → Shared → Prop) : (X.wish E).Ok :=
  ⟨ok.mod, ok.kind, ok.glob, ok.blt, ok.above, ok.inj, ok.has, ok.cab, ok.hd, ok.frames, ok.stk, ok.exf, ok.bs, ok.bsz, ok.noex, ok.exfs, ok.funs, ok.frf⟩
theorem Cx.Ok.unwish {X : Cx} {E : Value → Shared → Prop} (ok : (X.wish E).Ok) : X.Ok :=
  ⟨ok.mod, ok.kind, ok.glob, ok.blt, ok.above, ok.inj, ok.has, ok.cab, ok.hd, ok.frames, ok.stk, ok.exf, ok.bs, ok.bsz, ok.noex, ok.exfs, ok.funs, ok.frf⟩
section
variable {X : Cx} {pins : List (Addr × Obj)} {σ : St} {H : Hp} {s : Shared} {E : Value → Shared → Prop}
theorem Inv.wish (I : Inv X pins σ H s) (E : Value → Shared → Prop) : Inv (X.wish E) pins σ H s := ⟨I.ok.wish E, I.os, I.bare, I.base, I.loc, I.cell, I.free, I.freeC, I.pin, I.hok, I.len⟩
theorem Inv.unwish (I : Inv (X.wish E) pins σ H s) : Inv X pins σ H s := ⟨I.ok.unwish, I.os, I.bare, I.base, I.loc, I.cell, I.free, I.freeC, I.pin, I.hok, I.len⟩
theorem SP.unwish {D : Ends} {f : Flow} {s' : Shared} (h : SP (X.wish E) pins D f s') : SP X pins D f s' := by
  cases f with
  | next => obtain ⟨σ', H', I, q⟩ := h; exact ⟨σ', H', I.unwish, q⟩
  | brk => obtain ⟨σ', H', I, q⟩ := h; exact ⟨σ', H', I.unwish, q⟩
  | cont => obtain ⟨σ', H', I, q⟩ := h; exact ⟨σ', H', I.unwish, q⟩
  | ret u => obtain ⟨v, σ', H', I, r, q⟩ := h; exact ⟨v, σ', H', I.unwish, r, q⟩
theorem PE.nox {e : Expr} {t : TE} (h : PE X.nox e t) : PE X e t := fun pins s σ H Q I hw =>
  wpAny_mono (h pins s σ H Q (I.wish _) hw) (fun _ _ ⟨v, H', I', r, q⟩ => ⟨v, H', I'.unwish, r, q⟩) fun _ _ z => False.elim z
theorem PT.nox {e : Expr} {t : TT} (h : PT X.nox e t) : PT X e t := fun pins s σ H Q I hw =>
  wpAny_mono (h pins s σ H Q (I.wish _) hw) (fun _ _ ⟨H', I', q⟩ => ⟨H', I'.unwish, q⟩) fun _ _ z => False.elim z
theorem PSs.nox {st : List Stmt} {t : TS} (h : PSs X.nox st t) : PSs X st t := fun pins s σ H D I hw =>
  wpAny_mono (h pins s σ H D (I.wish _) hw) (fun _ _ q => q.unwish) fun _ _ z => False.elim z
end
section
variable {X : Cx} {st : Stmt} {rest : List Stmt} {t u : TS} {e : Expr} {te : TE} {pos : Pos}
def tNext : TS := fun D σ H => D.nx σ H
def tSeq (t u : TS) : TS := fun D σ H => t { D with nx := u D } σ H
theorem pss_nil : PSs X [] tNext := fun _ _ σ H _ I h => wpAny_execs_nil ⟨σ, H, I, h⟩
theorem pss_cons (h1 : PS X st t) (h2 : PSs X rest u) : PSs X (st :: rest) (tSeq t u) := by
  intro pins s σ H D I h
  refine wpAny_execs_cons (thn (h1 pins s σ H { D with nx := u D } I h) fun f s1 q => ?_)
  cases f with
  | next =>
    obtain ⟨σ', H', I', q⟩ := q
    exact h2 pins s1 σ' H' D I' q
  | ret v => exact q
  | brk => exact q
  | cont => exact q
theorem pss_one (h1 : PS X st t) : PSs X [st] t := by
  intro pins s σ H D I h
  refine wpAny_execs_cons (thn (h1 pins s σ H D I h) fun f s1 q => ?_)
  cases f with
  | next => exact wpAny_execs_nil q
  | ret v => exact q
  | brk => exact q
  | cont => exact q
/-- in a def's body nothing is shown -/
theorem Inv.quiet {pins : List (Addr × Obj)} {σ : St} {H : Hp} {s : Shared} (I : Inv X pins σ H s) : interactive X.env = false := by simp [interactive, I.ok.kind]
/-- an expression whose value is dropped -/
def tDrop (te : TE) : TS := fun D σ H => te σ H fun _ H1 => D.nx σ H1
theorem ps_expr (he : PE X e te) (hs : swapsWith e none pos.line X.env = pure false := by rfl) : PS X (.Expr e pos) (tDrop te) := by
  intro pins s σ H D I h
  exact wpAny_Expr_any (thn (he pins s σ H _ I h) fun v s1 ⟨x, H1, I1, r1, q1⟩ => ⟨σ, H1, I1, q1⟩) I.quiet hs
def tRet (te : TE) : TS := fun D σ H => te σ H D.rt
theorem ps_ret (he : PE X e te) : PS X (.Return (some e) pos) (tRet te) := by
  intro pins s σ H D I h
  exact wpAny_Return_some (thn (he pins s σ H _ I h) fun v s1 ⟨x, H1, I1, r1, q1⟩ => ⟨x, σ, H1, I1, r1, q1⟩)
def tIfS (c : TT) (t u : TS) : TS := fun D σ H => c σ H fun b H1 => if b = true then t D σ H1 else u D σ H1
theorem ps_if {c : Expr} {a b : List Stmt} {tc : TT} (hc : PT X c tc) (ha : PSs X a t) (hb : PSs X b u) : PS X (.If c a b pos) (tIfS tc t u) := by
  intro pins s σ H D I h
  refine wpAny_If (thn (hc pins s σ H _ I h) fun d s1 ⟨H1, I1, q1⟩ => ?_)
  cases d with
  | true => exact ha pins s1 σ H1 D I1 q1
  | false => exact hb pins s1 σ H1 D I1 q1
end
abbrev TG := V → St → Hp → (St → Hp → Prop) → Prop
abbrev TGs := List V → St → Hp → (St → Hp → Prop) → Prop
def PG (X : Cx) (target : Expr) (t : TG) : Prop :=
  ∀ (pins : List (Addr × Obj)) (s : Shared) (σ : St) (H : Hp) (v : V) (u : Value) (Q : St → Hp → Prop), Inv X pins σ H s → RelV v u → t v σ H Q →
    wpAny (model X.prog X.w) X.A (assign target X.env u) (fun _ s' => ∃ σ' H', Inv X pins σ' H' s' ∧ Q σ' H') X.xe s
/-- several targets, one after another -/
def PGs (X : Cx) (ts : List Expr) (t : TGs) : Prop :=
  ∀ (pins : List (Addr × Obj)) (s : Shared) (σ : St) (H : Hp) (vs : List V) (us : List Value) (Q : St → Hp → Prop), Inv X pins σ H s → Vals vs us → t vs σ H Q →
    wpAny (model X.prog X.w) X.A (assignInOrder ((assignEach ts X.env).map (·.2)) us) (fun _ s' => ∃ σ' H', Inv X pins σ' H' s' ∧ Q σ' H') X.xe s
/-- o[i] = v, by values -/
abbrev TSet := V → V → V → Hp → (Hp → Prop) → Prop
def PSet (X : Cx) (t : TSet) : Prop :=
  ∀ (pins : List (Addr × Obj)) (s : Shared) (σ : St) (H : Hp) (o i v : V) (ov iv u : Value) (Q : Hp → Prop), Inv X pins σ H s → RelV o ov → RelV i iv → RelV v u → t o i v H Q →
    wpAny (model X.prog X.w) X.A (setItem ov iv u) (fun _ s' => ∃ H', Inv X pins σ H' s' ∧ Q H') X.xe s
/-- a op= b, by values -/
abbrev TIp := V → V → Hp → VK → Prop
def PIp (X : Cx) (op : Operator) (t : TIp) : Prop :=
  ∀ (pins : List (Addr × Obj)) (s : Shared) (σ : St) (H : Hp) (x y : V) (v u : Value) (Q : VK), Inv X pins σ H s → RelV x v → RelV y u → t x y H Q →
    wpAny (model X.prog X.w) X.A (inplaceOp op v u) (EP X pins σ Q) X.xe s
section
variable {X : Cx} {pos : Pos}
def gName (i : Nat) : TG := fun v σ H Q => Q (σ.set i (some v)) H
theorem pg_name {i : Nat} {x : Str} (hN : X.N.Nodup) (hi : X.N[i]? = some x) (hx : Loc X.env.scope x) (hf : X.fn x = true ∨ X.env.scope.names.lookup x = some .local := by first | exact .inl rfl | exact .inr rfl | assumption) : PG X (.Name x pos) (gName i) := by
  intro pins s σ H v u Q I r h
  exact wpAny_assign_Name (store_ok I hN hi hx r (fun s' I' => ⟨_, H, I', h⟩) hf)
def gNil : TGs := fun vs σ H Q => vs = [] ∧ Q σ H
def gCons (t : TG) (u : TGs) : TGs := fun vs σ H Q => ∃ v r, vs = v :: r ∧ t v σ H fun σ' H' => u r σ' H' Q
theorem pgs_nil : PGs X [] gNil := by
  intro pins s σ H vs us Q I r h
  obtain ⟨e, h⟩ := h
  subst e
  cases r
  exact assignInOrder_nil ⟨σ, H, I, h⟩
theorem pgs_cons {e : Expr} {es : List Expr} {t : TG} {u : TGs} (h1 : PG X e t) (h2 : PGs X es u)
    (hs : (assignEach (e :: es) X.env).map (·.2) = assign e X.env :: (assignEach es X.env).map (·.2) := by rfl) : PGs X (e :: es) (gCons t u) := by
  intro pins s σ H vs us Q I r h
  obtain ⟨v, vr, e1, h⟩ := h
  subst e1
  cases r with
  | cons r rr =>
    rw [hs]
    refine assignInOrder_cons (thn (h1 pins s σ H _ _ _ I r h) fun _ s1 ⟨σ1, H1, I1, q1⟩ => ?_)
    exact h2 pins s1 σ1 H1 _ _ Q I1 rr q1
/-- (a, b, ..) = a tuple of that length -/
def gTup (K : PySem.W.Frag) (n : Nat) (t : TGs) : TG := fun v σ H Q => ∃ a xs, v = .ref a ∧ SqT K H a xs ∧ xs.length = n ∧ t xs σ H Q
theorem pg_tup {es : List Expr} {k : Nat} {t : TGs} {n : Nat} (hc : X.calm = true) (h : PGs X es t)
    (hn : (assignEach es X.env).length = n := by rfl) (hst : (assignEach es X.env).findIdx? (·.1) = none := by rfl) : PG X (.Tuple es k pos) (gTup X.K n t) := by
  intro pins s σ H v u Q I r hw
  obtain ⟨a, xs, e1, hq, hl, hw⟩ := hw
  subst e1
  cases r
  obtain ⟨its, rv, ht, hz⟩ := I.tuple hq
  refine assign_Tuple_tuple (I.ok.hd hc) ht (by simp [hn, ← hl, rv.length]) hst fun h' hx => ?_
  have I1 : Inv X pins σ H { s with heap := h' } := I.kept (t' := s.toks) fun b o e => hx b o (Nat.ne_of_lt (Heap.lt_size e)) e
  exact h pins _ σ H xs _ Q I1 (by simpa using rv) hw
/-- o[i] = .. -/
def gSub (to ti : TE) (t : TSet) : TG := fun v σ H Q => to σ H fun o H1 => ti σ H1 fun i H2 => t o i v H2 fun H3 => Q σ H3
theorem pg_sub {o i : Expr} {to ti : TE} {t : TSet} (ho : PE X o to) (hi : PE X i ti) (hs : PSet X t)
    (ha : ∀ v, assign (.Subscript o i pos) X.env v = (do
      let ov ← holding [v] (eval o X.env)
      let iv ← holding [v, ov] (eval i X.env)
      standAt pos
      holding [v, ov, iv] (setItem ov iv v)
      release [v, ov, iv] []) := by intro _; rfl) : PG X (.Subscript o i pos) (gSub to ti t) := by
  intro pins s σ H v u Q I r h
  rw [ha]
  refine wpAny_bind (wpAny_holding (thn (ho pins s σ H _ I h) fun ov s1 ⟨x, H1, I1, r1, q1⟩ => ?_))
  refine wpAny_bind (wpAny_holding (thn (hi pins s1 σ H1 _ I1 q1) fun iv s2 ⟨y, H2, I2, r2, q2⟩ => ?_))
  refine wpAny_bind (wpAny_standAt (wpAny_bind (wpAny_holding (thn (hs pins s2 σ H2 x y v ov iv u _ I2 r1 r2 r q2) fun _ s3 ⟨H3, I3, q3⟩ => ?_))))
  exact wpAny_release ⟨σ, H3, I3, q3⟩
/-- target = value -/
def tAsg (te : TE) (g : TG) : TS := fun D σ H => te σ H fun x H1 => g x σ H1 D.nx
theorem ps_asg {tg e : Expr} {te : TE} {g : TG} (he : PE X e te) (hg : PG X tg g) (hs : swapsWithSole [tg] e pos.line X.env = pure false := by rfl) (hw : swappedStores [tg] e X.env = pure none := by rfl)
    (h1 : (assignEach [tg] X.env).map (·.2) = [assign tg X.env] := by rfl) : PS X (.Assign [tg] e pos) (tAsg te g) := by
  intro pins s σ H D I h
  refine wpAny_Assign_stores (thn (he pins s σ H _ I h) fun v s1 ⟨x, H1, I1, r1, q1⟩ => ?_) hs hw
  rw [h1]
  exact thn (hg pins s1 σ H1 x v _ I1 r1 q1) fun _ s2 q => q
/-- name = value -/
theorem ps_set {i : Nat} {x : Str} {e : Expr} {te : TE} {pos' : Pos} (hN : X.N.Nodup) (hi : X.N[i]? = some x) (hx : Loc X.env.scope x) (he : PE X e te) (hs : swapsWith e (some (.Name x pos')) pos.line X.env = pure false := by rfl) (hf : X.fn x = true ∨ X.env.scope.names.lookup x = some .local := by first | exact .inl rfl | exact .inr rfl | assumption) :
    PS X (.Assign [.Name x pos'] e pos) (tAsg te (gName i)) := by
  intro pins s σ H D I h
  refine wpAny_Assign_Name (thn (he pins s σ H _ I h) fun v s1 ⟨y, H1, I1, r1, q1⟩ => ?_) hs
  exact store_ok I1 hN hi hx r1 (fun s2 I2 => ⟨_, H1, I2, q1⟩) hf
/-- name op= e -/
def tAug (i : Nat) (te : TE) (ti : TIp) : TS := fun D σ H => ∃ x, σ[i]? = some (some x) ∧ te σ H fun y H1 => ti x y H1 fun z H2 => D.nx (σ.set i (some z)) H2
theorem ps_aug {i : Nat} {x : Str} {e : Expr} {te : TE} {op : Operator} {ti : TIp} {pos' : Pos} (hN : X.N.Nodup) (hi : X.N[i]? = some x) (hx : Loc X.env.scope x) (he : PE X e te) (ho : PIp X op ti) (hf : X.fn x = true ∨ X.env.scope.names.lookup x = some .local := by first | exact .inl rfl | exact .inr rfl | assumption) :
    PS X (.AugAssign (.Name x pos') op e pos) (tAug i te ti) := by
  intro pins s σ H D I h
  obtain ⟨v, e1, h⟩ := h
  obtain ⟨m, hn, hl⟩ := I.loc
  have vis : Vis X.env.scope x := by rcases hx with k | k; exact .inl k; exact .inr (.inl k)
  obtain ⟨u, r, l⟩ := hl i x v hi e1 vis
  refine wpAny_AugAssign_Name ?_
  have go : wpAny (model X.prog X.w) X.A (eval e X.env) (fun w s₂ => wpAny (model X.prog X.w) X.A (inplaceOp op u w) (fun r s₃ => wpAny (model X.prog X.w) X.A (storeName X.env x r) (fun _ => SP X pins D .next) X.xe s₃) X.xe s₂) X.xe s := by
    refine thn (he pins s σ H _ I h) fun w s1 ⟨y, H1, I1, r1, q1⟩ => ?_
    refine thn (ho pins s1 σ H1 v y u w _ I1 r r1 q1) fun z s2 ⟨zv, H2, I2, r2, q2⟩ => ?_
    exact store_ok I2 hN hi hx r2 (fun s3 I3 => ⟨_, H2, I3, q2⟩) hf
  rcases l with ⟨hk, hm⟩ | ⟨hk, c, hc, hcell⟩
  · exact wpAny_loadName_local I.ok.kind hk hn hm go
  · rcases hk with hk | hk
    · exact wpAny_loadName_cell I.ok.kind hk hc hcell go
    · rcases hx with k | k
      · have : X.env.scope.names.lookup x = some .free := hk
        rw [k] at this; cases this
      · have : X.env.scope.names.lookup x = some .free := hk
        rw [k] at this; cases this
end
section
variable {X : Cx} {pos : Pos}
end
/-- at turn i: it yields x (the heap may grow), or it stops -/
structure It where
  go : Nat → Hp → Prop
  yld : Nat → Hp → V → Hp → Prop
  stop : Nat → Hp → Prop
/-- the iterator's own objects may turn: they are not the frame's, not pinned, younger than the entry (or a comprehension's own) -/
def FpOk (X : Cx) (pins : List (Addr × Obj)) (H : Hp) (b : Addr) : Prop :=
  H b = none ∧ b ≠ X.env.locals ∧ b ∉ X.fs ∧ (b ∈ X.ex ∨ X.s_0.heap.objs.size ≤ b) ∧ (∀ x c, X.env.cells.lookup x = some c → c ≠ b) ∧ ∀ p ∈ X.pn ++ pins, p.1 ≠ b
theorem Inv.fpOk {X : Cx} {pins : List (Addr × Obj)} {σ : St} {H H' : Hp} {s : Shared} {b : Addr} (I : Inv X pins σ H s) (hb : s.heap.objs.size ≤ b) (hn : H' b = none) : FpOk X pins H' b := by
  refine ⟨hn, Nat.ne_of_gt (Nat.lt_of_lt_of_le I.lt hb), I.nofs hb, .inr (Nat.le_trans I.sz hb), fun x c e z => ?_, fun p hp z => ?_⟩
  · obtain ⟨v, q⟩ := I.cell x c e
    exact absurd (Nat.lt_of_lt_of_le q.lt (by rw [z]; exact hb)) (Nat.lt_irrefl _)
  · exact absurd (Nat.lt_of_lt_of_le (Heap.lt_size (I.pin p hp).1) (by rw [z]; exact hb)) (Nat.lt_irrefl _)
structure Turn (P : Program) (w : World) (K : PySem.W.Frag) (tg : Expr) (J : It) (fp : List Addr) (it : Addr) (tn : Nat → Heap → Prop) : Prop where
  mem : it ∈ fp
  obj : ∀ i h, tn i h → ∀ b ∈ fp, ∃ o, h.get? b = some o ∧ ∀ v, o.data ≠ .cell v
  keep : ∀ i h h', tn i h → (∀ b ∈ fp, ∀ o, h.get? b = some o → h'.get? b = some o) → tn i h'
  item : ∀ (X : Cx), X.prog = P → X.w = w → X.K = K → X.calm = true → ∀ (i : Nat) (pins : List (Addr × Obj)) (s : Shared) (σ : St) (H : Hp) (E : Value → Shared → Prop), Inv X pins σ H s → (∀ b ∈ fp, FpOk X pins H b) → tn i s.heap → J.go i H →
    wpAny (model P w) X.A (pyNext (.ref it)) (fun r s1 => ∃ u, r = some u ∧
      wpAny (model P w) X.A (letOwnedTupleGo tg (.ref it) u) (fun _ s2 => ∃ x H', Inv X pins σ H' s2 ∧ RelV x u ∧ J.yld i H x H' ∧ tn (i + 1) s2.heap ∧ ∀ b ∈ fp, H' b = none) E s1) E s
  done : ∀ (X : Cx), X.prog = P → X.w = w → X.K = K → X.calm = true → ∀ (i : Nat) (pins : List (Addr × Obj)) (s : Shared) (σ : St) (H : Hp) (E : Value → Shared → Prop), Inv X pins σ H s → (∀ b ∈ fp, FpOk X pins H b) → tn i s.heap → J.stop i H →
    wpAny (model P w) X.A (pyNext (.ref it)) (fun r s1 => r = none ∧ Inv X pins σ H s1) E s
  self : ∀ (A : Around) (i : Nat) (s : Shared) (Q : Value → Shared → Prop) (E : Value → Shared → Prop), tn i s.heap → Q (.ref it) s → wpAny (model P w) A (pyIter (.ref it)) Q E s
abbrev TI := St → Hp → (It → Hp → Prop) → Prop
/-- an iterator has come -/
def PIE (X : Cx) (pins : List (Addr × Obj)) (σ : St) (tg : Expr) (R : It → Hp → Prop) (itv : Value) (s2 : Shared) : Prop :=
  ∃ (it : Addr) (fp : List Addr) (tn : Nat → Heap → Prop) (J : It) (H' : Hp), itv = .ref it ∧ Inv X pins σ H' s2 ∧ Turn X.prog X.w X.K tg J fp it tn ∧ tn 0 s2.heap ∧ (∀ b ∈ fp, FpOk X pins H' b) ∧ R J H'
def PI (X : Cx) (tg iter : Expr) (wi : TI) : Prop :=
  ∀ (pins : List (Addr × Obj)) (s : Shared) (σ : St) (H : Hp) (R : It → Hp → Prop), Inv X pins σ H s → wi σ H R →
    wpAny (model X.prog X.w) X.A (eval iter X.env) (fun v s1 => wpAny (model X.prog X.w) X.A (pyIter v) (PIE X pins σ tg R) X.xe s1) X.xe s
/-- the step ahead of the store is nothing for an iterator that keeps no tuple -/
theorem go_of {M : Model} {A : Around} {E : Value → Shared → Prop} {s : Shared} {tg : Expr} {it : Addr} {u : Value} {o : Obj} {n : String} {vs : Array Value} {Q : Unit → Shared → Prop} (ho : s.heap.get? it = some o) (hc : o.cls = .type n) (hd : o.data = .fields vs)
    (hn : ["enumerate", "zip", "dict_itemiterator", "dict_reverseitemiterator", "odict_iterator", "itertools.zip_longest", "itertools.pairwise"].contains n = false) (hQ : Q () s) : wpAny M A (letOwnedTupleGo tg (.ref it) u) Q E s := by
  unfold letOwnedTupleGo
  cases tg <;> first
    | exact wpAny_pure hQ
    | (cases u <;> first
        | exact wpAny_pure hQ
        | (refine wpAny_bind (wpAny_load ho ?_)
           rw [hc, hd]
           show wpAny M A (if (["enumerate", "zip", "dict_itemiterator", "dict_reverseitemiterator", "odict_iterator", "itertools.zip_longest", "itertools.pairwise"].contains n && vs[0]? == some (rawInt _)) = true then _ else _) Q E s
           rw [if_neg (by intro h; rw [hn, Bool.false_and] at h; cases h)]
           exact wpAny_pure hQ))
/-- the list at a, as it stands at each turn (a loop may append to it) -/
def Itl (K : PySem.W.Frag) (a : Addr) : It :=
  ⟨fun i H => ∃ xs x, SqL K H a xs ∧ xs[i]? = some x, fun i H x H' => H' = H ∧ ∀ xs, SqL K H a xs → xs[i]? = some x, fun i H => ∃ xs, SqL K H a xs ∧ xs.length ≤ i⟩
def Itt (K : PySem.W.Frag) (a : Addr) : It :=
  ⟨fun i H => ∃ xs x, SqT K H a xs ∧ xs[i]? = some x, fun i H x H' => H' = H ∧ ∀ xs, SqT K H a xs → xs[i]? = some x, fun i H => ∃ xs, SqT K H a xs ∧ xs.length ≤ i⟩
/-- lo, lo + 1, .. (n of them) -/
def Itr (lo : Int) (n : Nat) : It := ⟨fun i _ => i < n, fun i H x H' => H' = H ∧ x = .int (lo + i), fun i _ => n ≤ i⟩
theorem turn_list {P : Program} {w : World} {K : PySem.W.Frag} {tg : Expr} (a it : Addr) : Turn P w K tg (Itl K a) [it] it (fun i h => h.IsListIter it a i) where
  mem := by simp
  obj := fun i h st b hb => by
    have e : b = it := by simpa using hb
    subst e
    obtain ⟨o, e, c, d⟩ := st
    exact ⟨o, e, fun v z => by rw [d] at z; cases z⟩
  keep := fun i h h' st k => st.at fun o e => k it (by simp) o e
  item := by
    intro X hP hw hK hc i pins s σ H E I hf st hg
    subst hP hw hK
    obtain ⟨xs, x, hq, hx⟩ := hg
    obtain ⟨its, rv, p, hz⟩ := I.list hq
    obtain ⟨u, hu, ru⟩ := rv.get hx
    obtain ⟨f0, f1, f2, f3, f4, f5⟩ := hf it (by simp)
    refine wpAny_pyNext_list_item st p.isList (x := u) (by simpa using hu) fun h' st' sb => ?_
    have I1 : Inv X pins σ H { s with heap := h' } := I.turned (t' := s.toks) (fun b o hb e => (sb.2 b hb).trans e) f0 f1 f3 f4 f5
    obtain ⟨o, e, c, d⟩ := id st'
    exact ⟨u, rfl, go_of (s := { s with heap := h' }) e c d (by decide) ⟨x, H, I1, ru, ⟨rfl, fun ys hy => by rw [I.list_inj hy hq]; exact hx⟩, st', fun b hb => (hf b hb).1⟩⟩
  done := by
    intro X hP hw hK hc i pins s σ H E I hf st hg
    subst hP hw hK
    obtain ⟨xs, hq, hx⟩ := hg
    obtain ⟨its, rv, p, hz⟩ := I.list hq
    obtain ⟨f0, f1, f2, f3, f4, f5⟩ := hf it (by simp)
    have hl := rv.length
    exact wpAny_pyNext_list_end (I.ok.hd hc) st p.isList (by simp; omega) fun h' eb => ⟨rfl, I.turned (t' := s.toks) (fun b o hb e => eb b o hb e) f0 f1 f3 f4 f5⟩
  self := fun _ _ _ _ _ st h => wpAny_pyIter_listiter st h
theorem turn_tuple {P : Program} {w : World} {K : PySem.W.Frag} {tg : Expr} (a it : Addr) : Turn P w K tg (Itt K a) [it] it (fun i h => h.IsTupleIter it a i) where
  mem := by simp
  obj := fun i h st b hb => by
    have e : b = it := by simpa using hb
    subst e
    obtain ⟨o, e, c, d⟩ := st
    exact ⟨o, e, fun v z => by rw [d] at z; cases z⟩
  keep := fun i h h' st k => st.at fun o e => k it (by simp) o e
  item := by
    intro X hP hw hK hc i pins s σ H E I hf st hg
    subst hP hw hK
    obtain ⟨xs, x, hq, hx⟩ := hg
    obtain ⟨its, rv, p, hz⟩ := I.tuple hq
    obtain ⟨u, hu, ru⟩ := rv.get hx
    obtain ⟨f0, f1, f2, f3, f4, f5⟩ := hf it (by simp)
    refine wpAny_pyNext_tuple_item st (show s.heap.IsTuple a its.toArray from p) (x := u) (by simpa using hu) fun h' st' sb => ?_
    have I1 : Inv X pins σ H { s with heap := h' } := I.turned (t' := s.toks) (fun b o hb e => (sb.2 b hb).trans e) f0 f1 f3 f4 f5
    obtain ⟨o, e, c, d⟩ := id st'
    exact ⟨u, rfl, go_of (s := { s with heap := h' }) e c d (by decide) ⟨x, H, I1, ru, ⟨rfl, fun ys hy => by rw [I.tuple_inj hy hq]; exact hx⟩, st', fun b hb => (hf b hb).1⟩⟩
  done := by
    intro X hP hw hK hc i pins s σ H E I hf st hg
    subst hP hw hK
    obtain ⟨xs, hq, hx⟩ := hg
    obtain ⟨its, rv, p, hz⟩ := I.tuple hq
    obtain ⟨f0, f1, f2, f3, f4, f5⟩ := hf it (by simp)
    have hl := rv.length
    exact wpAny_pyNext_tuple_end (I.ok.hd hc) st (show s.heap.IsTuple a its.toArray from p) (by simp; omega) fun h' eb => ⟨rfl, I.turned (t' := s.toks) (fun b o hb e => eb b o hb e) f0 f1 f3 f4 f5⟩
  self := fun _ _ _ _ _ st h => wpAny_pyIter_tupleiter st h
theorem turn_range {P : Program} {w : World} {K : PySem.W.Frag} {tg : Expr} (it : Addr) (lo : Int) (n : Nat) : Turn P w K tg (Itr lo n) [it] it (fun i h => IsRangeIter h it (lo + (i : Nat) * 1) ((n : Int) - (i : Nat)) 1) where
  mem := by simp
  obj := fun i h st b hb => by
    have e : b = it := by simpa using hb
    subst e
    exact ⟨_, st, fun v z => by
      have z' : Data.fields _ = Data.cell v := z
      cases z'⟩
  keep := fun i h h' st k => k it (by simp) _ st
  item := by
    intro X hP hw hK hc i pins s σ H E I hf st hg
    subst hP hw hK
    obtain ⟨f0, f1, f2, f3, f4, f5⟩ := hf it (by simp)
    have W := Walks.range (prog := X.prog) (w := X.w) (I.ok.hd hc) it lo 1 n
    refine W.item i s _ _ hg st fun v h' tk hv st' kk => ?_
    obtain ⟨t, rfl⟩ := hv
    have I1 : Inv X pins σ H { s with heap := h', toks := tk } := I.turned (fun b o hb e => kk b o (by simpa using hb) e) f0 f1 f3 f4 f5
    refine ⟨_, rfl, go_of (s := { s with heap := h', toks := tk }) (n := "range_iterator") st' rfl rfl (by decide) ⟨.int (lo + i), H, I1, ⟨t, ?_⟩, ⟨rfl, rfl⟩, st', fun b hb => (hf b hb).1⟩⟩
    rw [Int.mul_one]
  done := by
    intro X hP hw hK hc i pins s σ H E I hf st hg
    subst hP hw hK
    obtain ⟨f0, f1, f2, f3, f4, f5⟩ := hf it (by simp)
    exact wpAny_pyNext_range_end (I.ok.hd hc) st (by have : n ≤ i := hg; omega) fun h' eb => ⟨rfl, I.turned (t' := s.toks) (fun b o hb e => eb b o hb e) f0 f1 f3 f4 f5⟩
  self := fun _ _ _ _ _ st h => wpAny_pyIter_rangeiter st h
end L2
namespace L2
open PySem PySem.Spec PyProof.Rows
section
variable {X : Cx} {tg : Expr}
def iList (K : PySem.W.Frag) (tl : TE) : TI := fun σ H R => tl σ H fun x H1 => ∃ a, x = .ref a ∧ (∃ xs, SqL K H1 a xs) ∧ R (Itl K a) H1
def iTup (K : PySem.W.Frag) (tl : TE) : TI := fun σ H R => tl σ H fun x H1 => ∃ a, x = .ref a ∧ (∃ xs, SqT K H1 a xs) ∧ R (Itt K a) H1
theorem pi_list {l : Expr} {tl : TE} (hl : PE X l tl) : PI X tg l (iList X.K tl) := by
  intro pins s σ H R I h
  refine thn (hl pins s σ H _ I h) fun v s1 ⟨x, H1, I1, r1, q1⟩ => ?_
  obtain ⟨a, e, ⟨xs, hq⟩, q⟩ := q1
  subst e
  cases r1
  obtain ⟨its, rv, p, hz⟩ := I1.list hq
  refine wpAny_pyIter_list p.isList ?_
  refine ⟨s1.heap.objs.size, [s1.heap.objs.size], _, _, H1, rfl, I1.kept (t' := s1.toks) fun b o e => Heap.get?_push_of_some _ e, turn_list a _, ⟨_, Heap.get?_push_size _ rfl, rfl, rfl⟩, fun b hb => ?_, q⟩
  have e : b = s1.heap.objs.size := by simpa using hb
  subst e
  exact I1.fpOk (Nat.le_refl _) (I1.hok.fresh (Nat.le_refl _))
theorem pi_tup {l : Expr} {tl : TE} (hl : PE X l tl) : PI X tg l (iTup X.K tl) := by
  intro pins s σ H R I h
  refine thn (hl pins s σ H _ I h) fun v s1 ⟨x, H1, I1, r1, q1⟩ => ?_
  obtain ⟨a, e, ⟨xs, hq⟩, q⟩ := q1
  subst e
  cases r1
  obtain ⟨its, rv, p, hz⟩ := I1.tuple hq
  refine wpAny_pyIter_tuple (show s1.heap.IsTuple a its.toArray from p) ?_
  refine ⟨s1.heap.objs.size, [s1.heap.objs.size], _, _, H1, rfl, I1.kept (t' := s1.toks) fun b o e => Heap.get?_push_of_some _ e, turn_tuple a _, ⟨_, Heap.get?_push_size _ rfl, rfl, rfl⟩, fun b hb => ?_, q⟩
  have e : b = s1.heap.objs.size := by simpa using hb
  subst e
  exact I1.fpOk (Nat.le_refl _) (I1.hok.fresh (Nat.le_refl _))
/-- a range object just made, walked -/
theorem range_it {pins : List (Addr × Obj)} {σ : St} {H : Hp} {s : Shared} {R : It → Hp → Prop} {E : Value → Shared → Prop} {lo hi : Int} {t u v : Tok} {tk : Nat} (I : Inv X pins σ H s) (h1 : -(2 ^ 62) ≤ lo) (h2 : lo < 2 ^ 62) (h3 : -(2 ^ 62) ≤ hi) (h4 : hi < 2 ^ 62)
    (q : R (Itr lo (hi - lo).toNat) H) : wpAny (model X.prog X.w) X.A (pyIter (.ref s.heap.objs.size)) (PIE X pins σ tg R) E { s with heap := s.heap.push { cls := .type "range", data := .fields #[.int lo t, .int hi u, .int 1 v] }, toks := tk } := by
  refine wpAny_pyIter_range (IsRange.new ..) (small_one h1 h2 h3 h4) ?_
  have I1 : Inv X pins σ H { s with heap := s.heap.push { cls := .type "range", data := .fields #[.int lo t, .int hi u, .int 1 v] }, toks := tk } := I.kept fun b o e => Heap.get?_push_of_some _ e
  refine ⟨(s.heap.push { cls := .type "range", data := .fields #[.int lo t, .int hi u, .int 1 v] }).objs.size, [(s.heap.push { cls := .type "range", data := .fields #[.int lo t, .int hi u, .int 1 v] }).objs.size], _, _, H, rfl,
    I1.kept (t' := tk) fun b o e => Heap.get?_push_of_some _ e, turn_range _ lo (hi - lo).toNat, ?_, fun b hb => ?_, q⟩
  · have e1 : lo + ((0 : Nat) : Int) * 1 = lo := by simp
    have e2 : (((hi - lo).toNat : Nat) : Int) - ((0 : Nat) : Int) = Builtin.Range.rangeSize lo hi 1 := by rw [rangeSize_one]; split <;> omega
    show IsRangeIter _ _ (lo + ((0 : Nat) : Int) * 1) ((((hi - lo).toNat : Nat) : Int) - ((0 : Nat) : Int)) 1
    rw [e1, e2]
    exact Heap.get?_push_size _ rfl
  · have e : b = (s.heap.push { cls := .type "range", data := .fields #[.int lo t, .int hi u, .int 1 v] }).objs.size := by simpa using hb
    subst e
    exact I1.fpOk (Nat.le_refl _) (I1.hok.fresh (Nat.le_refl _))
def iRng1 (ta : TA) : TI := fun σ H R => ta σ H fun vs H1 => ∃ j : Int, vs = [.int j] ∧ -(2 ^ 62) ≤ j ∧ j < 2 ^ 62 ∧ R (Itr 0 j.toNat) H1
theorem pi_range1 {a : Expr} {ta : TA} {p pos : Pos} (hg : Gl X "range") (hm : X.mg "range" = none) (ha : PA X [a] ta) (hs : starEach [a] X.env = [(false, eval a X.env)] := by rfl) : PI X tg (.Call (.Name "range" p) [a] [] pos) (iRng1 ta) := by
  intro pins s σ H R I h
  refine Call_ (ld_blt I hg hm boot_range (PyProof.Rows.callWith_type1 (thn (ha pos pins s σ H _ I h) fun us s1 ⟨vs, H1, I1, r1, q1⟩ => ?_) hs rfl))
  obtain ⟨j, e, q1, q2, q⟩ := q1
  subst e
  cases r1 with
  | cons r rr =>
    cases rr
    obtain ⟨t, rfl⟩ := r
    exact call_range_1 (range_it I1 (by omega) (by omega) q1 q2 (by simpa using q))
/-- W: the invariant by the turn and a measure; N: what the body is to reach -/
def tFor (wi : TI) (g : TG) (tb : TS) : TS := fun D σ H => wi σ H fun J H1 => ∃ W : Nat → Nat → St → Hp → Prop, (∃ m, W 0 m σ H1) ∧ ∀ i m σ H, W i m σ H →
  (J.stop i H ∧ D.nx σ H) ∨ (J.go i H ∧ ∃ N : St → Hp → Prop, (∀ σ' H', N σ' H' → ∃ m', m' < m ∧ W (i + 1) m' σ' H') ∧ ∀ x H', J.yld i H x H' → g x σ H' fun σ2 H2 => tb { D with nx := N, ct := N, bk := D.nx } σ2 H2)
/-- the records at fp as they stand -/
def pinsAt (fp : List Addr) (h : Heap) : List (Addr × Obj) := fp.filterMap fun b => (h.get? b).map fun o => (b, o)
theorem mem_pinsAt {fp : List Addr} {h : Heap} {b : Addr} {o : Obj} (hb : b ∈ fp) (e : h.get? b = some o) : (b, o) ∈ pinsAt fp h := List.mem_filterMap.mpr ⟨b, hb, by rw [e]; rfl⟩
theorem of_pinsAt {fp : List Addr} {h : Heap} {p : Addr × Obj} (hp : p ∈ pinsAt fp h) : p.1 ∈ fp ∧ h.get? p.1 = some p.2 := by
  obtain ⟨b, hb, e⟩ := List.mem_filterMap.mp hp
  cases q : h.get? b with
  | none => rw [q] at e; cases e
  | some o =>
    rw [q] at e
    have e' : (b, o) = p := Option.some.inj e
    subst e'
    exact ⟨hb, q⟩
theorem Inv.pinned {pins : List (Addr × Obj)} {σ : St} {H : Hp} {s : Shared} {fp : List Addr} (I : Inv X pins σ H s) (hf : ∀ b ∈ fp, FpOk X pins H b) (ho : ∀ b ∈ fp, ∃ o, s.heap.get? b = some o ∧ ∀ v, o.data ≠ .cell v) : Inv X (pins ++ pinsAt fp s.heap) σ H s :=
  I.pins_of fun p hp => (List.mem_append.mp hp).elim (fun z => I.pin p (List.mem_append_right _ z)) fun z => by
    obtain ⟨hb, e⟩ := of_pinsAt z
    obtain ⟨f0, f1, f2, _⟩ := hf p.1 hb
    obtain ⟨o, e', d⟩ := ho p.1 hb
    rw [e] at e'; cases e'
    exact ⟨e, f0, f1, f2, d⟩
theorem Inv.unpinned {pins pl : List (Addr × Obj)} {σ : St} {H : Hp} {s : Shared} (I : Inv X (pins ++ pl) σ H s) : Inv X pins σ H s := I.pins_of fun p hp => I.pin p (List.mem_append_right _ (List.mem_append_left _ hp))
theorem ps_for {iter : Expr} {body : List Stmt} {wi : TI} {g : TG} {tb : TS} {pos : Pos} (hp : PassesOwn (model X.prog X.w) X.A X.env X.xe) (hc : X.calm = true) (hi : PI X tg iter wi) (hg : PG X tg g) (hb : PSs X body tb)
    (hs : ∀ x, foldedSetIterable iter X.env x = pure x := by intro _; rfl) : PS X (.For tg iter body [] pos) (tFor wi g tb) := by
  intro pins s σ H D I h
  refine wpAny_For (thn (hi pins s σ H _ I h) fun v s1 h1 => thn h1 fun itv s2 h2 => ?_) hs
  obtain ⟨it, fp, tn, J, H2, e, I2, T, st2, f2, W, ⟨m0, w0⟩, turn⟩ := h2
  subst e
  -- what stays true of the iterator's objects through the loop
  have stat : ∀ {H' : Hp}, (∀ b ∈ fp, H' b = none) → ∀ b ∈ fp, FpOk X pins H' b := fun hn b hb => ⟨hn b hb, (f2 b hb).2⟩
  refine codeAny_forLoop_any (fun n s' => ∃ i σ' H', Inv X pins σ' H' s' ∧ tn i s'.heap ∧ (∀ b ∈ fp, H' b = none) ∧ W i n σ' H') ?_ m0 ⟨0, σ, H2, I2, st2, fun b hb => (f2 b hb).1, w0⟩
  rintro n s3 ⟨i, σ3, H3, I3, st3, fr3, w3⟩
  rcases turn i n σ3 H3 w3 with ⟨stop, qn⟩ | ⟨go, N, hN, step⟩
  · refine wpAny_passesOwn hp (thn (T.done X rfl rfl rfl hc i pins s3 σ3 H3 X.xe I3 (stat fr3) st3 stop) fun r s4 ⟨hr, I4⟩ => ?_)
    subst hr
    exact wpAny_execs_nil ⟨σ3, H3, I4, qn⟩
  · refine wpAny_passesOwn hp (thn (T.item X rfl rfl rfl hc i pins s3 σ3 H3 X.xe I3 (stat fr3) st3 go) fun r s4 ⟨u, hr, h4⟩ => ?_)
    subst hr
    refine wpAny_passesOwn hp (thn h4 fun _ s5 ⟨x, H5, I5, r5, y5, st5, fr5⟩ => ?_)
    have I5' := I5.pinned (stat fr5) (T.obj _ _ st5)
    refine wpAny_passesOwn hp (thn (hg _ s5 σ3 H5 x u _ I5' r5 (step x H5 y5)) fun _ s6 ⟨σ6, H6, I6, q6⟩ => ?_)
    refine wpAny_passesOwn hp (thn (hb _ s6 σ6 H6 _ I6 q6) fun f s7 q7 => ?_)
    have again : ∀ {σ7 : St} {H7 : Hp}, Inv X (pins ++ pinsAt fp s5.heap) σ7 H7 s7 → N σ7 H7 → ∃ m, m < n ∧ ∃ i σ' H', Inv X pins σ' H' s7 ∧ tn i s7.heap ∧ (∀ b ∈ fp, H' b = none) ∧ W i m σ' H' := fun {σ7 H7} I7 n7 => by
      obtain ⟨m', hm, w7⟩ := hN σ7 H7 n7
      refine ⟨m', hm, i + 1, σ7, H7, I7.unpinned, T.keep _ _ _ st5 fun b hb o e => (I7.pin (b, o) (List.mem_append_right _ (List.mem_append_right _ (mem_pinsAt hb e)))).1, fun b hb => ?_, w7⟩
      obtain ⟨o, e, d⟩ := T.obj _ _ st5 b hb
      exact (I7.pin (b, o) (List.mem_append_right _ (List.mem_append_right _ (mem_pinsAt hb e)))).2.1
    cases f with
    | next => obtain ⟨σ7, H7, I7, n7⟩ := q7; exact again I7 n7
    | cont => obtain ⟨σ7, H7, I7, n7⟩ := q7; exact again I7 n7
    | brk => obtain ⟨σ7, H7, I7, q7⟩ := q7; exact ⟨σ7, H7, I7.unpinned, q7⟩
    | ret v => obtain ⟨x7, σ7, H7, I7, r7, q7⟩ := q7; exact ⟨x7, σ7, H7, I7.unpinned, r7, q7⟩
end
/-- over a list that the body leaves as it is -/
theorem for_list {K : PySem.W.Frag} {a : Addr} {xs : List V} {g : TG} {tb : TS} {D : Ends} {σ : St} {H : Hp} (Pv : Nat → St → Hp → Prop) (h0 : Pv 0 σ H) (hl : ∀ i σ H, i ≤ xs.length → Pv i σ H → SqL K H a xs)
    (hs : ∀ i x σ H, xs[i]? = some x → Pv i σ H → g x σ H fun σ2 H2 => tb { D with nx := Pv (i + 1), ct := Pv (i + 1), bk := D.nx } σ2 H2) (hd : ∀ σ H, Pv xs.length σ H → D.nx σ H) :
    ∃ W : Nat → Nat → St → Hp → Prop, (∃ m, W 0 m σ H) ∧ ∀ i m σ H, W i m σ H →
      ((Itl K a).stop i H ∧ D.nx σ H) ∨ ((Itl K a).go i H ∧ ∃ N : St → Hp → Prop, (∀ σ' H', N σ' H' → ∃ m', m' < m ∧ W (i + 1) m' σ' H') ∧ ∀ x H', (Itl K a).yld i H x H' → g x σ H' fun σ2 H2 => tb { D with nx := N, ct := N, bk := D.nx } σ2 H2) := by
  refine ⟨fun i m σ H => m = xs.length - i ∧ i ≤ xs.length ∧ Pv i σ H, ⟨xs.length, by simp, Nat.zero_le _, h0⟩, ?_⟩
  rintro i m σ H ⟨rfl, hi, p⟩
  have q := hl i σ H hi p
  by_cases hlt : i < xs.length
  · refine .inr ⟨⟨xs, xs[i], q, by simp [hlt]⟩, Pv (i + 1), fun σ' H' p' => ⟨xs.length - (i + 1), by omega, rfl, hlt, p'⟩, fun x H' y => ?_⟩
    obtain ⟨e, y⟩ := y
    subst e
    exact hs i x σ _ (y xs q) p
  · have e : i = xs.length := by omega
    subst e
    exact .inl ⟨⟨xs, q, Nat.le_refl _⟩, hd σ H p⟩
theorem for_range {lo : Int} {n : Nat} {g : TG} {tb : TS} {D : Ends} {σ : St} {H : Hp} (Pv : Nat → St → Hp → Prop) (h0 : Pv 0 σ H)
    (hs : ∀ i σ H, i < n → Pv i σ H → g (.int (lo + i)) σ H fun σ2 H2 => tb { D with nx := Pv (i + 1), ct := Pv (i + 1), bk := D.nx } σ2 H2) (hd : ∀ σ H, Pv n σ H → D.nx σ H) :
    ∃ W : Nat → Nat → St → Hp → Prop, (∃ m, W 0 m σ H) ∧ ∀ i m σ H, W i m σ H →
      ((Itr lo n).stop i H ∧ D.nx σ H) ∨ ((Itr lo n).go i H ∧ ∃ N : St → Hp → Prop, (∀ σ' H', N σ' H' → ∃ m', m' < m ∧ W (i + 1) m' σ' H') ∧ ∀ x H', (Itr lo n).yld i H x H' → g x σ H' fun σ2 H2 => tb { D with nx := N, ct := N, bk := D.nx } σ2 H2) := by
  refine ⟨fun i m σ H => m = n - i ∧ i ≤ n ∧ Pv i σ H, ⟨n, by simp, Nat.zero_le _, h0⟩, ?_⟩
  rintro i m σ H ⟨rfl, hi, p⟩
  by_cases hlt : i < n
  · refine .inr ⟨hlt, Pv (i + 1), fun σ' H' p' => ⟨n - (i + 1), by omega, rfl, hlt, p'⟩, fun x H' y => ?_⟩
    obtain ⟨e, y⟩ := y
    subst e y
    exact hs i σ _ hlt p
  · have e : i = n := by omega
    subst e
    exact .inl ⟨Nat.le_refl _, hd σ H p⟩
end L2
namespace L2
open PySem PySem.Spec PyProof.Rows
abbrev R2 := V → V → Hp → VK → Prop
/-- a two-place operation on values: f is binaryOp op, inplaceOp op or compareOp op -/
def OpR (X : Cx) (f : Value → Value → Sem Value) (r : R2) : Prop :=
  ∀ (pins : List (Addr × Obj)) (s : Shared) (σ : St) (H : Hp) (x y : V) (v u : Value) (Q : VK), Inv X pins σ H s → RelV x v → RelV y u → r x y H Q →
    wpAny (model X.prog X.w) X.A (f v u) (EP X pins σ Q) X.xe s
/-- a one-place operation -/
def UnR (X : Cx) (f : Value → Sem Value) (r : V → Hp → VK → Prop) : Prop :=
  ∀ (pins : List (Addr × Obj)) (s : Shared) (σ : St) (H : Hp) (x : V) (v : Value) (Q : VK), Inv X pins σ H s → RelV x v → r x H Q →
    wpAny (model X.prog X.w) X.A (f v) (EP X pins σ Q) X.xe s
/-- a call of a value that is known (a builtin, a type) with values -/
def CallR (X : Cx) (f : Value) (r : List V → Hp → VK → Prop) : Prop :=
  ∀ (pins : List (Addr × Obj)) (s : Shared) (σ : St) (H : Hp) (xs : List V) (us : List Value) (Q : VK), Inv X pins σ H s → Vals xs us → r xs H Q →
    wpAny (model X.prog X.w) X.A (call f us) (EP X pins σ Q) X.xe s
/-- a value's truth -/
def TruR (X : Cx) (r : V → Hp → (Bool → Hp → Prop) → Prop) : Prop :=
  ∀ (pins : List (Addr × Obj)) (s : Shared) (σ : St) (H : Hp) (x : V) (v : Value) (Q : Bool → Hp → Prop), Inv X pins σ H s → RelV x v → r x H Q →
    wpAny (model X.prog X.w) X.A (truthy v) (TP X pins σ Q) X.xe s
def tOp (r : R2) (ta tb : TE) : TE := fun σ H Q => ta σ H fun x H1 => tb σ H1 fun y H2 => r x y H2 Q
def tUn (r : V → Hp → VK → Prop) (ta : TE) : TE := fun σ H Q => ta σ H fun x H1 => r x H1 Q
/-- ints in, under C, and a value out -/
def rI (C : Int → Int → Prop) (g : Int → Int → V) : R2 := fun x y H Q => ∃ i j, x = .int i ∧ y = .int j ∧ C i j ∧ Q (g i j) H
def rI0 (g : Int → Int → V) : R2 := fun x y H Q => ∃ i j, x = .int i ∧ y = .int j ∧ Q (g i j) H
def rU (g : Int → V) : V → Hp → VK → Prop := fun x H Q => ∃ i, x = .int i ∧ Q (g i) H
section
variable {X : Cx} {a b c : Expr} {ta tb tc : TE} {pos : Pos}
theorem binT (ha : PE X a ta) (hb : PE X b tb) {pins : List (Addr × Obj)} {s : Shared} {σ : St} {H : Hp} {R : V → V → Hp → Prop} (I : Inv X pins σ H s)
    (h : ta σ H fun x H1 => tb σ H1 fun y H2 => R x y H2) {Q : Value → Shared → Prop} {f : Value → Value → Sem Value}
    (hf : ∀ v u s2 x y H2, Inv X pins σ H2 s2 → RelV x v → RelV y u → R x y H2 → wpAny (model X.prog X.w) X.A (f v u) Q X.xe s2) :
    wpAny (model X.prog X.w) X.A (eval a X.env) (fun v s₁ => wpAny (model X.prog X.w) X.A (eval b X.env) (fun u s₂ => wpAny (model X.prog X.w) X.A (f v u) Q X.xe s₂) X.xe s₁) X.xe s := by
  refine thn (ha pins s σ H _ I h) fun v s1 ⟨x, H1, I1, r1, q1⟩ => ?_
  refine thn (hb pins s1 σ H1 _ I1 q1) fun u s2 ⟨y, H2, I2, r2, q2⟩ => ?_
  exact hf v u s2 x y H2 I2 r1 r2 q2
theorem pe_op {op : Operator} {r : R2} (ho : OpR X (binaryOp op) r) (ha : PE X a ta) (hb : PE X b tb) : PE X (.BinOp a op b pos) (tOp r ta tb) := by
  intro pins s σ H Q I h
  exact wpAny_BinOp (binT ha hb I h fun v u s2 x y H2 I2 rx ry q => ho pins s2 σ H2 x y v u Q I2 rx ry q)
theorem pe_un {op : UnaryOp} {r : V → Hp → VK → Prop} (ho : UnR X (unaryOp op) r) (ha : PE X a ta) : PE X (.UnaryOp op a pos) (tUn r ta) := by
  intro pins s σ H Q I h
  exact UnaryOp_ (thn (ha pins s σ H _ I h) fun v s1 ⟨x, H1, I1, r1, q1⟩ => ho pins s1 σ H1 x v Q I1 r1 q1)
theorem opI {f : Value → Value → Sem Value} {C : Int → Int → Prop} {g : Int → Int → Int}
    (rule : ∀ (i j : Int) (t u : Tok) (s : Shared) (Q : Value → Shared → Prop) (E : Value → Shared → Prop), C i j → Q (.int (g i j) s.toks) { s with toks := s.toks + 1 } → wpAny (model X.prog X.w) X.A (f (.int i t) (.int j u)) Q E s) :
    OpR X f (rI C fun i j => .int (g i j)) := by
  intro pins s σ H x y v u Q I rx ry h
  obtain ⟨i, j, rfl, rfl, hc, q⟩ := h
  obtain ⟨t, rfl⟩ := rx
  obtain ⟨t', rfl⟩ := ry
  exact rule i j t t' s _ _ hc ⟨.int (g i j), H, I.tok _, ⟨_, rfl⟩, q⟩
theorem opI0 {f : Value → Value → Sem Value} {g : Int → Int → Int}
    (rule : ∀ (i j : Int) (t u : Tok) (s : Shared) (Q : Value → Shared → Prop) (E : Value → Shared → Prop), Q (.int (g i j) s.toks) { s with toks := s.toks + 1 } → wpAny (model X.prog X.w) X.A (f (.int i t) (.int j u)) Q E s) :
    OpR X f (rI0 fun i j => .int (g i j)) := by
  intro pins s σ H x y v u Q I rx ry h
  obtain ⟨i, j, rfl, rfl, q⟩ := h
  obtain ⟨t, rfl⟩ := rx
  obtain ⟨t', rfl⟩ := ry
  exact rule i j t t' s _ _ ⟨.int (g i j), H, I.tok _, ⟨_, rfl⟩, q⟩
theorem opB0 {f : Value → Value → Sem Value} {g : Int → Int → Bool}
    (rule : ∀ (i j : Int) (t u : Tok) (s : Shared) (Q : Value → Shared → Prop) (E : Value → Shared → Prop), Q (.bool (g i j)) s → wpAny (model X.prog X.w) X.A (f (.int i t) (.int j u)) Q E s) :
    OpR X f (rI0 fun i j => .bl (g i j)) := by
  intro pins s σ H x y v u Q I rx ry h
  obtain ⟨i, j, rfl, rfl, q⟩ := h
  obtain ⟨t, rfl⟩ := rx
  obtain ⟨t', rfl⟩ := ry
  exact rule i j t t' s _ _ ⟨.bl (g i j), H, I, rfl, q⟩
def CDiv (i j : Int) : Prop := 0 < j ∧ j < 1073741824
def CMul (i j : Int) : Prop := (-(2 ^ 64) < i ∧ i < 2 ^ 64) ∨ (-(2 ^ 64) < j ∧ j < 2 ^ 64)
theorem CMul.ok {i j : Int} (h : CMul i j) : IntMulOk i j := by
  rcases h with ⟨h1, h2⟩ | ⟨h1, h2⟩
  · exact .of_left (intBits_le_64 h1 h2)
  · exact .of_right (intBits_le_64 h1 h2)
theorem op_add : OpR X (binaryOp .Add) (rI0 fun i j => .int (i + j)) := opI0 fun _ _ _ _ _ _ _ q => add_int q
theorem op_sub : OpR X (binaryOp .Sub) (rI0 fun i j => .int (i - j)) := opI0 fun _ _ _ _ _ _ _ q => sub_int q
theorem op_mul : OpR X (binaryOp .Mult) (rI CMul fun i j => .int (i * j)) := opI fun _ _ _ _ _ _ _ hc q => mul_int q hc.ok
/-- // by a positive divisor -/
theorem op_fdiv : OpR X (binaryOp .FloorDiv) (rI CDiv fun i j => .int (i / j)) := opI fun i j _ _ _ _ _ hc q => by
  have h1 : (0 : Int) < j := hc.1
  have h2 : j < 1073741824 := hc.2
  exact floordiv_int (by omega) (by rw [Int.fdiv_eq_ediv_of_nonneg i (by omega)]; exact q) (.inl (PyProof.noPylong_small (by omega)))
/-- % by a positive divisor of any size -/
theorem op_mod : OpR X (binaryOp .Mod) (rI (fun _ j => 0 < j) fun i j => .int (i % j)) := opI fun i j _ _ _ _ _ hc q => by
  have h1 : (0 : Int) < j := hc
  exact mod_int' (by omega) (by rw [Int.fmod_eq_emod_of_nonneg i (by omega)]; exact q)
theorem iop_add : OpR X (inplaceOp .Add) (rI0 fun i j => .int (i + j)) := opI0 fun _ _ _ _ _ _ _ q => iadd_int q
theorem unI {f : Value → Sem Value} {g : Int → Int}
    (rule : ∀ (i : Int) (t : Tok) (s : Shared) (Q : Value → Shared → Prop) (E : Value → Shared → Prop), Q (.int (g i) s.toks) { s with toks := s.toks + 1 } → wpAny (model X.prog X.w) X.A (f (.int i t)) Q E s) :
    UnR X f (rU fun i => .int (g i)) := by
  intro pins s σ H x v Q I rx h
  obtain ⟨i, rfl, q⟩ := h
  obtain ⟨t, rfl⟩ := rx
  exact rule i t s _ _ ⟨.int (g i), H, I.tok _, ⟨_, rfl⟩, q⟩
theorem un_neg : UnR X (unaryOp .USub) (rU fun i => .int (-i)) := unI fun _ _ _ _ _ q => neg_int q
end
/-- the scalars that == tells apart as data does -/
def scal : V → V → Bool
  | .non, .non => true | .non, .int _ => true | .int _, .non => true | .non, .bl _ => true | .bl _, .non => true | .non, .str _ => true | .str _, .non => true
  | .int _, .int _ => true | .bl _, .bl _ => true | .str _, .str _ => true | .byt _, .byt _ => true
  | .int _, .str _ => true | .str _, .int _ => true | .bl _, .str _ => true | .str _, .bl _ => true
  | _, _ => false
def rEq : R2 := fun x y H Q => scal x y = true ∧ Q (.bl (decide (x = y))) H
def rNe : R2 := fun x y H Q => scal x y = true ∧ Q (.bl (!decide (x = y))) H
theorem dec_int {i j : Int} : decide (V.int i = V.int j) = (i == j) := by
  rw [Bool.eq_iff_iff]
  simp
theorem dec_bl {i j : Bool} : decide (V.bl i = V.bl j) = (i == j) := by
  rw [Bool.eq_iff_iff]
  simp
theorem dec_str {i j : Str} : decide (V.str i = V.str j) = (i == j) := by
  rw [Bool.eq_iff_iff]
  simp
theorem dec_byt {i j : Array UInt8} : decide (V.byt i = V.byt j) = (i.toList == j.toList) := by
  rw [Bool.eq_iff_iff]
  cases i
  cases j
  simp
section
variable {X : Cx} {a b c : Expr} {ta tb tc : TE} {pos : Pos}
theorem fin_bl {pins : List (Addr × Obj)} {σ : St} {H : Hp} {s : Shared} {Q : VK} {k k' : Bool} (I : Inv X pins σ H s) (q : Q (.bl k) H) (e : k = k') : EP X pins σ Q (.bool k') s := by
  subst e
  exact ⟨.bl k, H, I, rfl, q⟩
theorem op_eq : OpR X (compareOp .Eq) rEq := by
  intro pins s σ H x y v u Q I rx ry h
  obtain ⟨hs, q⟩ := h
  cases x with
  | non =>
    cases rx
    cases y with
    | non => cases ry; exact PySem.EqNone.eq_none_none (fin_bl I q (by simp))
    | bl j => cases ry; exact PySem.EqNone.eq_none_bool (fin_bl I q (by simp))
    | int j => obtain ⟨t', rfl⟩ := ry; exact PySem.EqNone.eq_none_int (fin_bl I q (by simp))
    | str j => obtain ⟨t', rfl⟩ := ry; exact PySem.EqNone.eq_none_str (fin_bl I q (by simp))
    | _ => exact absurd (show false = true from hs) Bool.false_ne_true
  | bl i =>
    cases rx
    cases y with
    | non => cases ry; exact PySem.EqNone.eq_bool_none (fin_bl I q (by simp))
    | bl j => cases ry; exact eq_bool (fin_bl I q dec_bl)
    | str j => obtain ⟨t', rfl⟩ := ry; exact PySem.EqMixed.eq_bool_str (fin_bl I q (by simp))
    | _ => exact absurd (show false = true from hs) Bool.false_ne_true
  | int i =>
    obtain ⟨t, rfl⟩ := rx
    cases y with
    | non => cases ry; exact PySem.EqNone.eq_int_none (fin_bl I q (by simp))
    | int j => obtain ⟨t', rfl⟩ := ry; exact eq_int (fin_bl I q dec_int)
    | str j => obtain ⟨t', rfl⟩ := ry; exact PySem.EqMixed.eq_int_str (fin_bl I q (by simp))
    | _ => exact absurd (show false = true from hs) Bool.false_ne_true
  | str i =>
    obtain ⟨t, rfl⟩ := rx
    cases y with
    | non => cases ry; exact PySem.EqNone.eq_str_none (fin_bl I q (by simp))
    | bl j => cases ry; exact PySem.EqMixed.eq_str_bool (fin_bl I q (by simp))
    | int j => obtain ⟨t', rfl⟩ := ry; exact PySem.EqMixed.eq_str_int (fin_bl I q (by simp))
    | str j => obtain ⟨t', rfl⟩ := ry; exact eq_str (fin_bl I q dec_str)
    | _ => exact absurd (show false = true from hs) Bool.false_ne_true
  | byt i =>
    obtain ⟨t, rfl⟩ := rx
    cases y with
    | byt j => obtain ⟨t', rfl⟩ := ry; exact PySem.W.eq_bytes (fin_bl I q dec_byt)
    | _ => exact absurd (show false = true from hs) Bool.false_ne_true
  | _ => cases y <;> exact absurd (show false = true from hs) Bool.false_ne_true
theorem op_ne : OpR X (compareOp .NotEq) rNe := by
  intro pins s σ H x y v u Q I rx ry h
  obtain ⟨hs, q⟩ := h
  cases x with
  | non =>
    cases rx
    cases y with
    | non => cases ry; exact PySem.EqNone.ne_none_none (fin_bl I q (by simp))
    | bl j => cases ry; exact PySem.EqNone.ne_none_bool (fin_bl I q (by simp))
    | int j => obtain ⟨t', rfl⟩ := ry; exact PySem.EqNone.ne_none_int (fin_bl I q (by simp))
    | str j => obtain ⟨t', rfl⟩ := ry; exact PySem.EqNone.ne_none_str (fin_bl I q (by simp))
    | _ => exact absurd (show false = true from hs) Bool.false_ne_true
  | bl i =>
    cases rx
    cases y with
    | non => cases ry; exact PySem.EqNone.ne_bool_none (fin_bl I q (by simp))
    | bl j => cases ry; exact ne_bool (fin_bl I q (congrArg not dec_bl))
    | str j => obtain ⟨t', rfl⟩ := ry; exact PySem.EqMixed.ne_bool_str (fin_bl I q (by simp))
    | _ => exact absurd (show false = true from hs) Bool.false_ne_true
  | int i =>
    obtain ⟨t, rfl⟩ := rx
    cases y with
    | non => cases ry; exact PySem.EqNone.ne_int_none (fin_bl I q (by simp))
    | int j => obtain ⟨t', rfl⟩ := ry; exact ne_int (fin_bl I q (congrArg not dec_int))
    | str j => obtain ⟨t', rfl⟩ := ry; exact PySem.EqMixed.ne_int_str (fin_bl I q (by simp))
    | _ => exact absurd (show false = true from hs) Bool.false_ne_true
  | str i =>
    obtain ⟨t, rfl⟩ := rx
    cases y with
    | non => cases ry; exact PySem.EqNone.ne_str_none (fin_bl I q (by simp))
    | bl j => cases ry; exact PySem.EqMixed.ne_str_bool (fin_bl I q (by simp))
    | int j => obtain ⟨t', rfl⟩ := ry; exact PySem.EqMixed.ne_str_int (fin_bl I q (by simp))
    | str j => obtain ⟨t', rfl⟩ := ry; exact ne_str (fin_bl I q (congrArg not dec_str))
    | _ => exact absurd (show false = true from hs) Bool.false_ne_true
  | byt i =>
    obtain ⟨t, rfl⟩ := rx
    cases y with
    | byt j => obtain ⟨t', rfl⟩ := ry; exact PySem.W.ne_bytes (fin_bl I q (congrArg not dec_byt))
    | _ => exact absurd (show false = true from hs) Bool.false_ne_true
  | _ => cases y <;> exact absurd (show false = true from hs) Bool.false_ne_true
theorem op_lt : OpR X (compareOp .Lt) (rI0 fun i j => .bl (decide (i < j))) := opB0 fun _ _ _ _ _ _ _ q => lt_int q
theorem op_le : OpR X (compareOp .LtE) (rI0 fun i j => .bl (decide (i ≤ j))) := opB0 fun _ _ _ _ _ _ _ q => le_int q
theorem op_gt : OpR X (compareOp .Gt) (rI0 fun i j => .bl (decide (j < i))) := opB0 fun _ _ _ _ _ _ _ q => gt_int q
theorem op_ge : OpR X (compareOp .GtE) (rI0 fun i j => .bl (decide (j ≤ i))) := opB0 fun _ _ _ _ _ _ _ q => ge_int q
/-- two rules for one operation: by cases -/
theorem OpR.or {f : Value → Value → Sem Value} {r r' : R2} (h : OpR X f r) (h' : OpR X f r') : OpR X f (fun x y H Q => r x y H Q ∨ r' x y H Q) := by
  intro pins s σ H x y v u Q I rx ry q
  rcases q with q | q
  · exact h pins s σ H x y v u Q I rx ry q
  · exact h' pins s σ H x y v u Q I rx ry q
theorem nomark (b : Expr) {op : CmpOp} (h : op ≠ .In := by decide) (h2 : op ≠ .NotIn := by decide) : behindInMarks op b = false := by
  have e1 : (op == CmpOp.In) = false := by cases op <;> first | rfl | exact absurd rfl h
  have e2 : (op == CmpOp.NotIn) = false := by cases op <;> first | rfl | exact absurd rfl h2
  cases b <;> simp [behindInMarks, e1, e2]
/-- a comparison as a value; hm: nomark b, or (for in, not in) by with_unfolding_all rfl -/
theorem pe_cmpR {op : CmpOp} {r : R2} (ho : OpR X (compareOp op) r) (ha : PE X a ta) (hb : PE X b tb) (hm : behindInMarks op b = false) : PE X (.Compare a [op] [b] pos) (tOp r ta tb) := by
  intro pins s σ H Q I h
  exact wpAny_Compare1 (binT ha hb I h fun v u s2 x y H2 I2 rx ry q => ho pins s2 σ H2 x y v u Q I2 rx ry q) hm
/-- a reading of a value as a test -/
def tTest (t : TE) : TT := fun σ H Q => t σ H fun x H' => ∃ k, x = .bl k ∧ Q k H'
theorem pt_cmpR {op : CmpOp} {r : R2} (ho : OpR X (compareOp op) r) (ha : PE X a ta) (hb : PE X b tb) (hm : behindInMarks op b = false) : PT X (.Compare a [op] [b] pos) (tTest (tOp r ta tb)) := by
  intro pins s σ H Q I h
  refine wpAny_isTrue_Compare1 (thn (ha pins s σ H _ I h) fun v s1 ⟨x, H1, I1, r1, q1⟩ => thn (hb pins s1 σ H1 _ I1 q1) fun u s2 ⟨y, H2, I2, r2, q2⟩ =>
    thn (ho pins s2 σ H2 x y v u _ I2 r1 r2 q2) fun c s3 ⟨z, H3, I3, r3, k, e, q3⟩ => ?_) hm
  subst e
  cases r3
  exact wpAny_truthy_bool ⟨H3, I3, q3⟩
/-- a value's truth by the abstract heap -/
def TruV (K : PySem.W.Frag) (x : V) (H : Hp) (k : Bool) : Prop :=
  match x with
  | .non => k = false
  | .bl b => k = b
  | .int i => k = (i != 0)
  | .str y => y.length ≤ sizeLine ∧ k = ((y.length : Int) != 0)
  | .byt y => y.size ≤ sizeLine ∧ k = ((y.size : Int) != 0)
  | .ref p => (∃ xs, SqL K H p xs ∧ k = !xs.isEmpty) ∨ (∃ xs, SqT K H p xs ∧ k = !xs.isEmpty) ∨ ∃ kvs, H p = some (.dK kvs) ∧ k = !kvs.isEmpty
  | _ => False
theorem isEmpty_kv {κ : Type} {kvs : List (κ × V)} {vs : List (κ × Value)} (r : KV kvs vs) : (!vs.isEmpty) = !kvs.isEmpty := by
  cases r <;> rfl
theorem isEmpty_of {xs : List V} {its : List Value} (r : Vals xs its) : (!its.toArray.isEmpty) = !xs.isEmpty := by
  cases r <;> simp
theorem line63 : (sizeLine : Nat) < 2 ^ 63 := by rw [sizeLine_eq]; decide
theorem tru_ok : TruR X (fun x H Q => ∃ k, TruV X.K x H k ∧ Q k H) := by
  intro pins s σ H x v Q I rx h
  obtain ⟨k, e, q⟩ := h
  have hl := line63
  have hs : sizeLine = 16777216 := sizeLine_eq
  cases x with
  | non =>
    cases rx
    have e' : k = false := e
    subst e'
    exact truthy_none ⟨H, I, q⟩
  | bl b =>
    cases rx
    have e' : k = b := e
    subst e'
    exact wpAny_truthy_bool ⟨H, I, q⟩
  | int i =>
    obtain ⟨t, rfl⟩ := rx
    have e' : k = (i != 0) := e
    subst e'
    exact PySem.P.truthy_int ⟨H, I, q⟩
  | str y =>
    obtain ⟨t, rfl⟩ := rx
    obtain ⟨hy, e'⟩ : y.length ≤ sizeLine ∧ k = ((y.length : Int) != 0) := e
    subst e'
    exact PySem.P.truthy_str (by omega) ⟨H, I.tok _, q⟩
  | byt y =>
    obtain ⟨t, rfl⟩ := rx
    obtain ⟨hy, e'⟩ : y.size ≤ sizeLine ∧ k = ((y.size : Int) != 0) := e
    subst e'
    exact PySem.W.truthy_bytes (by omega) ⟨H, I.tok _, q⟩
  | ref p =>
    cases rx
    have e' : (∃ xs, SqL X.K H p xs ∧ k = !xs.isEmpty) ∨ (∃ xs, SqT X.K H p xs ∧ k = !xs.isEmpty) ∨ ∃ kvs, H p = some (.dK kvs) ∧ k = !kvs.isEmpty := e
    rcases e' with ⟨xs, hx, e'⟩ | ⟨xs, hx, e'⟩ | ⟨kvs, hx, e'⟩
    · subst e'
      obtain ⟨its, r, pl, hz⟩ := I.list hx
      have hlen := r.length
      exact wpAny_truthy_list pl.isList (by simp only [List.size_toArray]; omega) ⟨H, I.tok _, by rw [isEmpty_of r]; exact q⟩
    · subst e'
      obtain ⟨its, r, pl, hz⟩ := I.tuple hx
      have hlen := r.length
      exact truthy_tuple pl (by simp only [List.size_toArray]; omega) ⟨H, I.tok _, by rw [isEmpty_of r]; exact q⟩
    · subst e'
      obtain ⟨hz, hS, vs, r, m⟩ : kvs.length ≤ sizeLine ∧ (p == sysModules) = false ∧ ∃ vs, KV kvs vs ∧ s.heap.DictOf (mixKind X.prog X.w) p vs := I.hok p _ hx
      have hlen : kvs.length = vs.length := Paired.length r
      exact wpAny_truthy_dict hS m (by omega) ⟨H, I.tok _, by rw [isEmpty_kv r]; exact q⟩
  | _ => exact (show False from e).elim
/-- any expression whose test is its value's truth (a name, a call, a subscript, a field ..: he by fun _ => rfl) -/
theorem pt_truth (ha : PE X a ta) (he : ∀ whole, isTrue a X.env whole = (do let v ← whole; standAt a.pos; holding [v] (truthy v))) :
    PT X a (fun σ H Q => ta σ H fun x H' => ∃ k, TruV X.K x H' k ∧ Q k H') := by
  intro pins s σ H Q I h
  exact isTrue_plain (thn (ha pins s σ H _ I h) fun v s1 ⟨x, H1, I1, r1, q1⟩ => tru_ok pins s1 σ H1 x v Q I1 r1 q1) (he _)
theorem vals1 {x : V} {us : List Value} (r : Vals [x] us) : ∃ u, us = [u] ∧ RelV x u := by
  cases r with
  | cons r1 r2 => cases r2; exact ⟨_, rfl, r1⟩
end
end L2
namespace L2
open PySem PySem.Spec PyProof.Rows
structure ObjM (h : Heap) (x dx C : Addr) (mA : Str → Option Value) : Prop where
  obj : h.get? x = some (PySem.W.instObj C dx)
  ns : h.Ns1 dx mA
  ne : dx ≠ x
theorem lookIn_ns {h : Heap} {dx : Addr} {mA : Str → Option Value} (n : h.Ns1 dx mA) : ∃ od, h.get? dx = some od ∧ ∀ name, PySem.W.lookIn name od = some (mA name) := by
  obtain ⟨o, es, ep, ho, hd, hk, _, hm⟩ := n
  refine ⟨o, ho, fun name => ?_⟩
  have e := hm name
  unfold nsFind findBy at e
  rw [← Array.find?_toList] at e
  unfold PySem.W.lookIn
  rw [hd]
  dsimp only
  split
  · rename_i y q
    rw [q] at e
    exact congrArg some e
  · rename_i q
    rw [q] at e
    have a : es.toList.any (·.refKey) = false := by
      rw [List.any_eq_false]
      intro y hy
      obtain ⟨z, t, hkey⟩ := hk y (Array.mem_toList_iff.mp hy)
      simp [DictEntry.refKey, hkey]
    have a' : ¬ es.toList.any (·.refKey) = true := by rw [a]; exact Bool.false_ne_true
    rw [if_neg a']
    exact congrArg some e
theorem ObjM.look {h : Heap} {x dx C : Addr} {mA : Str → Option Value} (I : ObjM h x dx C mA) : ∃ od, PySem.W.InstAt h x (PySem.W.instObj C dx) C (some od) ∧ ∀ name, PySem.W.lookIn name od = some (mA name) :=
  let ⟨od, ho, hl⟩ := lookIn_ns I.ns
  ⟨od, ⟨I.obj, rfl, rfl, ho⟩, hl⟩
section
variable {prog : Program} {w : World} {A : Around} {E : Value → Shared → Prop} {s : Shared} {K : PySem.W.Frag} {x dx C f : Addr} {mA : Str → Option Value} {name : Str} {v : Value}
end
section
variable {P : Program} {w : World} {H H' : Hp} {h h' : Heap} {a C dx : Addr} {fs fs' : List (Str × V)}
end
structure Cls (K : PySem.W.Frag) (C : Addr) : Prop where
  pg : PySem.W.plainGet K C Str.empty = true
  hd : PySem.W.hasDictIn K C = true
  po : PySem.W.plainOver K C = true
  sa : PySem.W.findIn K (.ref C) "__setattr__" = some (some (.builtin "object.__setattr__"))
theorem Cls.get {K : PySem.W.Frag} {C : Addr} (c : Cls K C) (f : Str) : PySem.W.plainGet K C f = true := c.pg
section
variable {X : Cx} {pins : List (Addr × Obj)} {σ : St} {H : Hp} {s : Shared} {a C dx : Addr} {fs : List (Str × V)} {f : Str} {v : V} {A : Around} {E : Value → Shared → Prop}
/-- a new instance, tracked, without attributes -/
theorem Inv.made (I : Inv X pins σ H s) : Inv X pins σ (upd (upd H s.heap.objs.size (.own (s.heap.objs.size + 1))) (s.heap.objs.size + 1) (.ins C s.heap.objs.size []))
    { s with heap := (s.heap.push PySem.W.emptyDict).push (PySem.W.instObj C s.heap.objs.size) } := by
  have e1 : (s.heap.push PySem.W.emptyDict).get? s.heap.objs.size = some PySem.W.emptyDict := Heap.get?_push_size s.heap rfl
  have e2 : ((s.heap.push PySem.W.emptyDict).push (PySem.W.instObj C s.heap.objs.size)).get? (s.heap.objs.size + 1) = some (PySem.W.instObj C s.heap.objs.size) := by
    have := Heap.get?_push_size (s.heap.push PySem.W.emptyDict) (o := PySem.W.instObj C s.heap.objs.size) rfl
    rwa [Heap.size_push] at this
  have e3 : (s.heap.push PySem.W.emptyDict).Ns s.heap.objs.size (fun _ => none) := ⟨PySem.W.emptyDict, #[], _, e1, rfl, (fun e he => absurd he (by simp)), fun _ => rfl⟩
  have I1 := I.laid (a := s.heap.objs.size) (o := .own (s.heap.objs.size + 1)) (h' := s.heap.push PySem.W.emptyDict) (t' := s.toks) (fun b u q => Heap.get?_push_of_some _ q) (Nat.le_refl _) ⟨_, e1⟩
  refine I1.laid (a := s.heap.objs.size + 1) (o := .ins C s.heap.objs.size []) (t' := s.toks) (fun b u q => Heap.get?_push_of_some _ q) (Nat.le_of_eq (Heap.size_push _ _)) ?_
  have ne : s.heap.objs.size ≠ s.heap.objs.size + 1 := Nat.ne_of_lt (Nat.lt_succ_self _)
  refine ⟨by rw [upd_ne ne, upd_same], Nat.zero_le _, ne, e2, fun _ => none, (Heap.Ns1.of_empty e3).at fun o q => Heap.get?_push_of_some _ q, fun _ => True.intro, fun y hy => absurd rfl hy⟩
end
section
variable {X : Cx} {o e value : Expr} {f : Str} {pos pos' tpos : Pos} {ta tv : TE}
end
section
variable {X : Cx} {pins : List (Addr × Obj)} {σ : St} {H : Hp} {s : Shared} {A : Around} {E : Value → Shared → Prop} {Q : Value → Shared → Prop} {c : Value} {b : Bool}
end
end L2
namespace L2
open PySem PySem.Spec PyProof.Rows
structure Room (k : Nat) (A : Around) : Prop where
  hd : A.handled = none
  dp : A.depth + 3 * k + 5 < recursionLimit
  un : A.units + 16 * k + 200 < cLine
theorem Room.mono {j k : Nat} {A : Around} (r : Room k A) (h : j ≤ k) : Room j A := ⟨r.hd, by have := r.dp; omega, by have := r.un; omega⟩
theorem Room.deeper {k : Nat} {A : Around} (r : Room (k + 1) A) (env : Env) : Room k (A.deeper env) :=
  ⟨r.hd, by have := r.dp; show A.depth + 1 + 3 * k + 5 < _; omega, by have := r.un; show A.units + 3 + 16 * k + 200 < _; omega⟩
theorem Room.in1 {k : Nat} {A : Around} (r : Room (k + 1) A) : Room k A.in1 :=
  ⟨r.hd, by have := r.dp; show A.depth + 3 * k + 5 < _; omega, by have := r.un; show A.units + 1 + 16 * k + 200 < _; omega⟩
theorem Room.depth {k : Nat} {A : Around} (r : Room k A) : A.depth < recursionLimit := by have := r.dp; omega
theorem Room.units {k : Nat} {A : Around} (r : Room k A) : A.units + 64 < cLine := by have := r.un; omega
def tNil : TA := fun _ H Q => Q [] H
def tCons (ta : TE) (tr : TA) : TA := fun σ H Q => ta σ H fun x H1 => tr σ H1 fun xs H2 => Q (x :: xs) H2
section
variable {X : Cx} {e : Expr} {es : List Expr} {te : TE} {t : TA} {pos : Pos}
theorem pa_nil : PA X [] tNil := fun _ _ _ _ H Q I h => Calls.spliced_nil ⟨[], H, I, .nil, h⟩
theorem pa_cons (ha : PE X e te) (hr : PA X es t) (hs : starEach (e :: es) X.env = (false, eval e X.env) :: starEach es X.env := by rfl) : PA X (e :: es) (tCons te t) := by
  intro pos pins s σ H Q I h
  rw [hs]
  show wpAny _ _ (spliced ((false, eval e X.env) :: backTo pos (starEach es X.env))) _ _ s
  refine Calls.spliced_cons (thn (ha pins s σ H _ I h) fun u s1 ⟨x, H1, I1, r1, q1⟩ => ?_)
  exact thn (hr pos pins s1 σ H1 _ I1 q1) fun us s2 ⟨xs, H2, I2, r2, q2⟩ => ⟨x :: xs, H2, I2, .cons r1 r2, q2⟩
/-- a tuple, a list of written items -/
def tTup (t : TA) : TE := fun σ H Q => t σ H fun xs H1 => xs.length ≤ sizeLine ∧ ∀ p, H1 p = none → Q (.ref p) (upd H1 p (.tup xs))
def tLst (t : TA) : TE := fun σ H Q => t σ H fun xs H1 => xs.length ≤ sizeLine ∧ ∀ p, H1 p = none → Q (.ref p) (upd H1 p (.lst xs))
theorem pe_tup {x1} (h : PA X es t) : PE X (.Tuple es x1 pos) (tTup t) := by
  intro pins s σ H Q I hq
  refine wpAny_Tuple_spliced (thn (h pos pins s σ H _ I hq) fun us s1 ⟨xs, H1, I1, r, z, q⟩ => ⟨by rw [← r.length]; exact z, ?_⟩)
  have hf : H1 s1.heap.objs.size = none := I1.hok.fresh (Nat.le_refl _)
  refine ⟨.ref s1.heap.objs.size, upd H1 s1.heap.objs.size (.tup xs), I1.laid (t' := s1.toks) (fun b u e => Heap.get?_push_of_some _ e) (Nat.le_refl _) ?_, rfl, q _ hf⟩
  exact ⟨z, us, r, ⟨_, Heap.get?_push_size _ rfl, rfl, _, rfl⟩⟩
theorem pe_lst (h : PA X es t) : PE X (.List es pos) (tLst t) := by
  intro pins s σ H Q I hq
  refine wpAny_List_spliced (thn (h pos pins s σ H _ I hq) fun us s1 ⟨xs, H1, I1, r, z, q⟩ => ⟨by rw [← r.length]; exact z, ?_⟩)
  have hf : H1 s1.heap.objs.size = none := I1.hok.fresh (Nat.le_refl _)
  refine ⟨.ref s1.heap.objs.size, upd H1 s1.heap.objs.size (.lst xs), I1.laid (t' := s1.toks) (fun b u e => Heap.get?_push_of_some _ e) (Nat.le_refl _) ?_, rfl, q _ hf⟩
  exact ⟨z, us, 0, r, Heap.get?_push_size _ rfl⟩
end
/-- a def's promise: the bound arguments in the parameters' order, the heap, the wanted end, the wanted exception -/
abbrev Sp := List V → Hp → VK → XK → Prop
/-- how an exception lies behind a call (file 08 gives it): the callers' frames, abstract heap and state ahead of the call, the wish, the exception, the state -/
abbrev CXT := List Env → Hp → Shared → XK → Value → Shared → Prop
/-- the state at a call -/
structure Env0 (P : Program) (w : World) (K : PySem.W.Frag) (mg : Str → Option Value) (base : Heap) (A : Around) (outer : List Env) (s : Shared) (H : Hp) : Prop where
  frames : A.frames = some outer
  mod : Mod K mg base
  bs : ∀ b o, base.get? b = some o → s.heap.get? b = some o ∧ H b = none
  bsz : base.objs.size ≤ s.heap.objs.size
  funs : s.heap.FunFrames base outer
  frf : ∀ b ∈ frs outer, H b = none
  hok : HOk P w H s.heap
  bare : AllBare s.gens
/-- a call's end -/
def CE (outer : List Env) (P : Program) (w : World) (H : Hp) (s : Shared) (Q : VK) (u : Value) (s' : Shared) : Prop :=
  ∃ v H', s'.os = s.os ∧ AllBare s'.gens ∧ Un (frs outer) [] H H' s.heap s'.heap ∧ HOk P w H' s'.heap ∧ RelV v u ∧ Q v H'
def CR (CX : CXT) (outer : List Env) (P : Program) (w : World) (H : Hp) (s : Shared) (Q : VK) (E : XK) (r : Result) (s' : Shared) : Prop :=
  match r with
  | .ok (.ret u) => CE outer P w H s Q u s'
  | .ok _ => False
  | .error e => CX outer H s E e s'
structure FnOk (P : Program) (w : World) (K : PySem.W.Frag) (mg : Str → Option Value) (base : Heap) (CX : CXT) (k : Nat) (f : Addr) (fd : FuncData) (ps : List Str) (sp : Sp) : Prop where
  len : ∀ vs H Q E, sp vs H Q E → vs.length = ps.length
  run : ∀ (A : Around) (outer : List Env) (s : Shared) (H : Hp) (args : Args) (us : List Value) (vs : List V) (Q : VK) (E : XK), Room k A → Env0 P w K mg base A outer s H → BindsTo s fd args (ps.zip us) → Vals vs us → sp vs H Q E →
    codeAny (model P w) A (.call (.ref f) args) (CR CX outer P w H s Q E) s
theorem FnOk.mono {P : Program} {w : World} {K : PySem.W.Frag} {mg : Str → Option Value} {base : Heap} {CX : CXT} {j k : Nat} {f : Addr} {fd : FuncData} {ps : List Str} {sp : Sp} (F : FnOk P w K mg base CX j f fd ps sp) (h : j ≤ k) :
    FnOk P w K mg base CX k f fd ps sp := ⟨F.len, fun A outer s H args us vs Q E hr => F.run A outer s H args us vs Q E (hr.mono h)⟩
theorem Env0.in1 {P : Program} {w : World} {K : PySem.W.Frag} {mg : Str → Option Value} {base : Heap} {A : Around} {outer : List Env} {s : Shared} {H : Hp} (e : Env0 P w K mg base A outer s H) :
    Env0 P w K mg base A.in1 outer s H := ⟨e.frames, e.mod, e.bs, e.bsz, e.funs, e.frf, e.hok, e.bare⟩
section
variable {X : Cx} {pins : List (Addr × Obj)} {σ : St} {H : Hp} {s s' : Shared}
/-- from a body: what a callee wants -/
theorem Inv.env0 (I : Inv X pins σ H s) : Env0 X.prog X.w X.K X.mg X.base X.A X.stack s H :=
  ⟨I.ok.frames, I.ok.mod, I.bs, Nat.le_trans I.ok.bsz I.sz, I.stack, I.stkFree, I.hok, I.bare⟩
/-- behind a call -/
theorem Inv.after {Q : VK} {u : Value} (I : Inv X pins σ H s) (h : CE X.stack X.prog X.w H s Q u s') : EP X pins σ Q u s' := by
  obtain ⟨v, H', os, bare, un, hok, r, q⟩ := h
  obtain ⟨hh, g, d, t, os'⟩ := s'
  obtain rfl : os' = s.os := os
  exact ⟨v, H', I.call (h' := hh) (g' := g) (d' := d) (t' := t) (ch := []) un hok bare (fun b z => absurd z (by simp)), r, q⟩
end
/-- f(..): the written arguments, then the defaults dvs; E: what is wanted of an exception -/
def tCall (sp : Sp) (dvs : List V) (E : XK) (t : TA) : TE := fun σ H Q => t σ H fun vs H1 => sp (vs ++ dvs) H1 Q E
/-- how the parameters are bound: us the positional arguments, kw the keywords' values by name, ds the defaults that fill up -/
def Binds (K : PySem.W.Frag) (fd : FuncData) (ps : List Str) (ds : List Value) : Prop :=
  ∀ (s : Shared) (us : List Value), K.In s.heap → (us ++ ds).length = ps.length → BindsTo s fd ⟨us, []⟩ (ps.zip (us ++ ds))
/-- every parameter is given -/
theorem Binds.all {K : PySem.W.Frag} {fd : FuncData} {ps : List Str} (h : ∀ us : List Value, us.length = ps.length → bindArgs fd ⟨us, []⟩ = pure (ps.zip us)) : Binds K fd ps [] := fun s us _ hl => by
  rw [List.append_nil] at hl ⊢
  exact .of_eq (h us hl)
/-- an exception of a callee reaches what this body wants of exceptions -/
def Passes (CX : CXT) (X : Cx) (E : XK) : Prop := ∀ (pins : List (Addr × Obj)) (σ : St) (H : Hp) (s : Shared) (e : Value) (s' : Shared), Inv X pins σ H s → CX X.stack H s E e s' → X.xe e s'
section
variable {X : Cx} {CX : CXT} {k : Nat} {f C : Addr} {fd : FuncData} {ps : List Str} {sp : Sp} {dvs : List V} {ds : List Value} {E : XK} {x m : Str} {p pos apos : Pos} {e o : Expr} {es : List Expr} {ta : TE} {t : TA}
/-- the callee runs -/
theorem run_fn {pins : List (Addr × Obj)} {σ : St} {H : Hp} {s : Shared} {Q : VK} {us : List Value} {vs : List V} (F : FnOk X.prog X.w X.K X.mg X.base CX k f fd ps sp) (hr : Room k X.A) (hb : Binds X.K fd ps ds) (hd : Vals dvs ds) (hx : Passes CX X E)
    (I : Inv X pins σ H s) (r : Vals vs us) (h : sp (vs ++ dvs) H Q E) : wpAny (model X.prog X.w) X.A (call (.ref f) us) (EP X pins σ Q) X.xe s := by
  have r2 : Vals (vs ++ dvs) (us ++ ds) := r.append hd
  have hl : (us ++ ds).length = ps.length := by rw [← r2.length]; exact F.len _ _ _ _ h
  refine wpAny_call (codeAny_mono (F.run X.A X.stack s H ⟨us, []⟩ (us ++ ds) (vs ++ dvs) Q E hr I.env0 (hb s us I.kIn hl) r2 h) fun r s' hq => ?_)
  cases r with
  | error e => exact hx pins σ H s e s' I hq
  | ok fl =>
    cases fl with
    | ret u => exact I.after hq
    | next => exact False.elim hq
    | brk => exact False.elim hq
    | cont => exact False.elim hq
theorem pe_call (F : FnOk X.prog X.w X.K X.mg X.base CX k f fd ps sp) (hr : Room k X.A) (hg : Gl X x) (hm : X.mg x = some (.ref f)) (hk : PySem.W.keepIn X.K (.ref f) = true) (hb : Binds X.K fd ps ds) (hd : Vals dvs ds) (hx : Passes CX X E)
    (ha : PA X (e :: es) t) (hdb : (x == ("__debug__" : Str)) = false := by decide) (he : starEach (e :: es) X.env = (false, eval e X.env) :: starEach es X.env := by rfl) (hpl : (backTo pos (starEach es X.env)).any (·.1) = false := by rfl) :
    PE X (.Call (.Name x p) (e :: es) [] pos) (tCall sp dvs E t) := by
  intro pins s σ H Q I h
  refine wpAny_Call_Name_kw (ld_glob I hg hm ?_ hdb)
  refine PySem.W.callWith_K (h₀ := X.base) I.ok.mod.kin hk (thn (ha pos pins s σ H _ I h) fun us s1 ⟨vs, H1, I1, r, q⟩ => ⟨I1.kIn, ?_⟩) he hpl
  exact run_fn F hr hb hd hx I1 r q
end
section
variable {X : Cx} {CX : CXT} {k : Nat} {f C : Addr} {fd : FuncData} {ps ks : List Str} {sp : Sp} {E : XK} {x m : Str} {p pos apos kpos : Pos} {e o : Expr} {es : List Expr} {kws : List Keyword} {te ta : TE} {t tk : TA} {nm : Option Str}
variable {g : List Value → List Value → List Value} {gV : List V → List V → List V}
end
/-- names: the parameters first -/
structure FnScope (N P : List Str) (sc : Scope) : Prop where
  kind : sc.kind = .function
  co : sc.isCoroutine = false
  gen : sc.isGenerator = false
  nd : N.Nodup
  pre : N.take P.length = P
  par : ∀ x ∈ P, sc.names.lookup x = some .local ∨ sc.names.lookup x = some .cell
  nofree : ∀ y ∈ sc.names, y.2 ≠ .free
theorem bindL_out {kindOf : Str → Option NameKind} {x : Str} : ∀ {binds : List (Str × Value)} {m : Str → Option Value}, (∀ v, (x, v) ∉ binds) → bindL kindOf binds m x = m x
  | [], _, _ => rfl
  | (n, v) :: r, m, h => by
    unfold bindL
    rw [bindL_out fun w hw => h w (List.mem_cons_of_mem _ hw)]
    split
    · have : x ≠ n := by rintro rfl; exact h v List.mem_cons_self
      simp [this]
    · rfl
theorem bindC_out {kindOf : Str → Option NameKind} {x : Str} : ∀ {binds : List (Str × Value)} {m : Str → Option Value}, (∀ v, (x, v) ∉ binds) → bindC kindOf binds m x = m x
  | [], _, _ => rfl
  | (n, v) :: r, m, h => by
    unfold bindC
    rw [bindC_out fun w hw => h w (List.mem_cons_of_mem _ hw)]
    split
    · rfl
    · have : x ≠ n := by rintro rfl; exact h v List.mem_cons_self
      simp [this]
theorem bindL_get {kindOf : Str → Option NameKind} {x : Str} {v : Value} : ∀ {P : List Str} {vs : List Value} {i : Nat} {m : Str → Option Value}, P.Nodup → P[i]? = some x → vs[i]? = some v → kindOf x = some .local →
    bindL kindOf (P.zip vs) m x = some v
  | [], _, _, _, _, h, _, _ => by simp at h
  | _ :: _, [], _, _, _, _, h, _ => by simp at h
  | p :: P, w :: vs, 0, m, nd, h1, h2, hk => by
    simp at h1 h2; subst h1; subst h2
    show bindL kindOf ((p, w) :: P.zip vs) m p = _
    unfold bindL
    rw [bindL_out fun v hv => (List.nodup_cons.mp nd).1 (List.of_mem_zip hv).1, if_pos hk]
    simp
  | p :: P, w :: vs, i + 1, m, nd, h1, h2, hk => by
    show bindL kindOf ((p, w) :: P.zip vs) m x = _
    unfold bindL
    exact bindL_get (i := i) (List.nodup_cons.mp nd).2 (by simpa using h1) (by simpa using h2) hk
theorem bindC_get {kindOf : Str → Option NameKind} {x : Str} {v : Value} : ∀ {P : List Str} {vs : List Value} {i : Nat} {m : Str → Option Value}, P.Nodup → P[i]? = some x → vs[i]? = some v → kindOf x ≠ some .local →
    bindC kindOf (P.zip vs) m x = some v
  | [], _, _, _, _, h, _, _ => by simp at h
  | _ :: _, [], _, _, _, _, h, _ => by simp at h
  | p :: P, w :: vs, 0, m, nd, h1, h2, hk => by
    simp at h1 h2; subst h1; subst h2
    show bindC kindOf ((p, w) :: P.zip vs) m p = _
    unfold bindC
    rw [bindC_out fun v hv => (List.nodup_cons.mp nd).1 (List.of_mem_zip hv).1, if_neg hk]
    simp
  | p :: P, w :: vs, i + 1, m, nd, h1, h2, hk => by
    show bindC kindOf ((p, w) :: P.zip vs) m x = _
    unfold bindC
    exact bindC_get (i := i) (List.nodup_cons.mp nd).2 (by simpa using h1) (by simpa using h2) hk
/-- the names' values at the entry -/
def start (N : List Str) (vs : List V) : St := vs.map some ++ List.replicate (N.length - vs.length) none
/-- the context of a def's body, at its entry; an exception leaves the frame, then lies as CX says -/
def cxOf (CX : CXT) (P : Program) (w : World) (K : PySem.W.Frag) (mg : Str → Option Value) (base : Heap) (N : List Str) (qual : Str) (scope : Scope) (f : Addr) (cd : Value) (A : Around) (outer : List Env) (s : Shared) (H : Hp) (E : XK) : Cx where
  prog := P
  w := w
  K := K
  mg := mg
  base := base
  A := A.deeper (envOfC qual scope s.heap.objs.size f cd)
  N := N
  s_0 := s
  H_0 := H
  env := envOfC qual scope s.heap.objs.size f cd
  outer := outer
  stack := envOfC qual scope s.heap.objs.size f cd :: outer
  ex := []
  calm := true
  fn := fun _ => true
  pn := []
  xe := fun e s' => wpAny (model P w) (A.deeper (envOfC qual scope s.heap.objs.size f cd)) (leaving (envOfC qual scope s.heap.objs.size f cd) e) (fun _ s'' => CX outer H s E e s'') (fun e' s'' => CX outer H s E e' s'') s'
theorem cell_has {sc : Scope} {n : Nat} {x : Str} (h : sc.names.lookup x = some .cell) : ∃ c, (cellsFrom n sc.names []).lookup x = some c := by
  have q := PySem.W.cellsFrom_some sc.names n [] (.inl h)
  exact Option.isSome_iff_exists.mp q
theorem inv_start {CX : CXT} {P : Program} {w : World} {K : PySem.W.Frag} {mg : Str → Option Value} {base : Heap} {N ps : List Str} {qual : Str} {scope : Scope} {f : Addr} {cd : Value} {A : Around} {outer : List Env} {s s1 : Shared} {H : Hp} {E : XK} {us : List Value} {vs : List V}
    (S : FnScope N ps scope) (hd : A.handled = none) (e0 : Env0 P w K mg base A outer s H) (hl : vs.length = ps.length) (r : Vals vs us)
    (x : InCallC s s.heap.objs.size (bindL (envOfC qual scope s.heap.objs.size f cd).kindOf (ps.zip us) fun _ => none) (cellsFrom (s.heap.objs.size + 1) scope.names []) (bindC (envOfC qual scope s.heap.objs.size f cd).kindOf (ps.zip us) fun _ => none) s1) :
    Inv (cxOf CX P w K mg base N qual scope f cd A outer s H E) [] (start N vs) H s1 := by
  have hpl : ps.length ≤ N.length := by have := congrArg List.length S.pre; rw [List.length_take] at this; omega
  obtain ⟨h1, tk, rfl, hk⟩ := x.done
  have noA : ∀ b : Addr, b ∉ (cxOf CX P w K mg base N qual scope f cd A outer s H E).ex := fun b z => absurd (show b ∈ ([] : List Addr) from z) (by simp)
  refine ⟨⟨e0.mod, S.kind, rfl, rfl, Nat.le_refl _, fun y z c h1 h2 => ?_, fun y hy => ?_, fun y c _ h => ?_, fun _ => hd, Around.frames_deeper e0.frames, .inr ⟨rfl, rfl⟩, fun b z => absurd z (noA b), e0.bs, e0.bsz, fun b _ _ => noA b, fun b z => absurd z (noA b), e0.funs, e0.frf⟩,
    rfl, e0.bare, Un.kept hk, ⟨_, x.toInCall.ns, fun i y v h1 h2 h3 => ?_⟩, fun y c h => ⟨_, x.cell y c h⟩, e0.hok.fresh (Nat.le_refl _), fun y c h => ?_, fun p hp => absurd (show p ∈ ([] : List (Addr × Obj)) from hp) (by simp), e0.hok.kept hk, ?_⟩
  · exact name_of_addr x.apart (PySem.mem_of_lookup h1) (PySem.mem_of_lookup h2)
  · have hy : scope.names.lookup y = some .cell ∨ scope.names.lookup y = some .free := hy
    rcases hy with hy | hy
    · exact cell_has hy
    · exact absurd rfl (S.nofree _ (PySem.mem_of_lookup hy))
  · exact Nat.le_of_lt (x.above y c (PySem.mem_of_lookup h))
  · have hi : i < vs.length := by
      unfold start at h2
      by_cases hi : i < vs.length
      · exact hi
      · rw [List.getElem?_append_right (by simpa using hi)] at h2
        rw [List.getElem?_replicate] at h2
        split at h2 <;> cases h2
    have ha : vs[i]? = some v := by
      unfold start at h2
      rw [List.getElem?_append_left (by simpa using hi), List.getElem?_map] at h2
      cases e : vs[i]? with
      | none => rw [e] at h2; cases h2
      | some a => rw [e] at h2; cases h2; rfl
    obtain ⟨u, hu, rv⟩ := r.get ha
    have hp : ps[i]? = some y := by
      rw [← S.pre, List.getElem?_take_of_lt (by omega)]; exact h1
    have ndP : ps.Nodup := by rw [← S.pre]; exact S.nd.sublist (List.take_sublist _ _)
    refine ⟨u, rv, ?_⟩
    rcases S.par y (List.mem_of_getElem? hp) with k | k
    · exact .inl ⟨k, bindL_get ndP hp hu k⟩
    · obtain ⟨c, e⟩ := cell_has (n := s.heap.objs.size + 1) k
      refine .inr ⟨.inl k, c, e, ?_⟩
      have q := x.cell y c e
      rw [bindC_get ndP hp hu (by show scope.names.lookup y ≠ _; rw [k]; decide)] at q
      exact q
  · exact e0.hok.fresh (Nat.le_of_lt (x.above y c (PySem.mem_of_lookup h)))
  · unfold start
    show _ = N.length
    rw [List.length_append, List.length_map, List.length_replicate]
    omega
/-- THE RULE: a def (or a method) of the text, by its body. The body's reading t is chosen for each entry; it is run at the parameters' values -/
theorem fn_of {CX : CXT} {P : Program} {w : World} {K : PySem.W.Frag} {mg : Str → Option Value} {base : Heap} {k : Nat} {f : Addr} {name qual : Str} {params : Arguments} {body : List Stmt} {scope : Scope} {dV kV doc pm cdv ct oc : Value} {an od : Option Addr}
    {osl : Array (Option Value)} {N ps : List Str} {sp : Sp} (lk : K.lookup f = some ⟨oc, od, .func (PySem.W.fnOf name qual params body scope dV kV doc pm an cdv ct), osl⟩) (hcd : PySem.W.codeIn K cdv qual = true) (S : FnScope N ps scope)
    (len : ∀ vs H Q E, sp vs H Q E → vs.length = ps.length)
    (hbody : ∀ (A : Around) (outer : List Env) (s : Shared) (H : Hp) (vs : List V) (Q : VK) (E : XK), Room k (A.deeper (envOfC qual scope s.heap.objs.size f cdv)) → sp vs H Q E →
      ∃ t, PSs (cxOf CX P w K mg base N qual scope f cdv A outer s H E) body t ∧ t { nx := fun _ H' => Q .non H', rt := Q } (start N vs) H) :
    FnOk P w K mg base CX (k + 1) f (PySem.W.fnOf name qual params body scope dV kV doc pm an cdv ct) ps sp := by
  refine ⟨len, fun A outer s H args us vs Q E hr e0 hb r hsp => ?_⟩
  have hl := len _ _ _ _ hsp
  have KX : K.In s.heap := e0.mod.kin.keeps fun b o e => (e0.bs b o e).1
  have lim : s.heap.NoLimit := e0.mod.nolimit.keeps fun b o e => (e0.bs b o e).1
  have hkind : ∀ y ∈ ps.zip us, scope.names.lookup y.1 = some .local ∨ (scope.names.lookup y.1 = some .cell ∧ ((cellsFrom (s.heap.objs.size + 1) scope.names []).lookup y.1).isSome = true) := fun ⟨n, v⟩ hy => by
    rcases S.par n (List.of_mem_zip hy).1 with q | q
    · exact .inl q
    · exact .inr ⟨q, PySem.W.cellsFrom_some _ _ _ (.inl q)⟩
  refine codeAny_call_function hr.depth (KX _ _ lk) rfl S.co S.gen rfl (PySem.W.codeRec_of KX hcd) (hb _ _ _ _ ?_)
  refine wpAny_newFunctionEnv_cells S.kind hkind fun env he s1 x => ?_
  subst he
  refine ⟨lim.keeps x.toInCall.keep, codeAny_func ?_⟩
  obtain ⟨t, ht, hq⟩ := hbody A outer s H vs Q E (hr.deeper _) hsp
  have I : Inv (cxOf CX P w K mg base N qual scope f cdv A outer s H E) [] (start N vs) H s1 := inv_start S hr.hd e0 hl r x
  refine wpAny_mono (ht [] s1 (start N vs) H _ I hq) (fun fl s' hs => ?_) fun e s' hs => hs
  have fin : ∀ {σ' : St} {H' : Hp} {v : V} {u : Value}, Inv (cxOf CX P w K mg base N qual scope f cdv A outer s H E) [] σ' H' s' → RelV v u → Q v H' → CE outer P w H s Q u s' :=
    fun {σ' H' v u} J rv q => ⟨v, H', J.os, J.bare, J.base, J.hok, rv, q⟩
  cases fl with
  | ret u =>
    obtain ⟨v, σ', H', J, rv, q⟩ := hs
    exact fin J rv q
  | next =>
    obtain ⟨σ', H', J, q⟩ := hs
    exact fin (v := V.non) (u := Value.none) J rfl q
  | brk =>
    obtain ⟨_, _, _, q⟩ := hs
    exact False.elim q
  | cont =>
    obtain ⟨_, _, _, q⟩ := hs
    exact False.elim q
end L2
namespace L2
open PySem PySem.Spec PyProof.Rows
section
variable {X : Cx} {x : Str} {p pos : Pos} {e : Expr} {es : List Expr} {t : TA} {id T : String} {r : List V → Hp → VK → Prop}
def tCB (r : List V → Hp → VK → Prop) (t : TA) : TE := fun σ H Q => t σ H fun vs H1 => r vs H1 Q
/-- f(e, ..), f a built-in function -/
theorem pe_callB (hc : CallR X (.builtin id) r) (hg : Gl X x) (hm : X.mg x = none) (hv : bootBuiltins x = some (.builtin id)) (ha : PA X (e :: es) t) (hn : x ≠ "__name__" := by decide) (hdb : (x == ("__debug__" : Str)) = false := by decide)
    (he : starEach (e :: es) X.env = (false, eval e X.env) :: starEach es X.env := by rfl) (hpl : (backTo pos (starEach es X.env)).any (·.1) = false := by rfl) : PE X (.Call (.Name x p) (e :: es) [] pos) (tCB r t) := by
  intro pins s σ H Q I h
  refine wpAny_Call_Name_kw (ld_blt I hg hm hv ?_ hn hdb)
  exact PyProof.Rows.callWith_builtin1 (thn (ha pos pins s σ H _ I h) fun us s1 ⟨vs, H1, I1, r1, q1⟩ => hc pins s1 σ H1 vs us Q I1 r1 q1) he hpl
end
end L2
namespace HT
open PySem PyProof.Rows
section
open PySem.SeqAt
open PySem.AutoSeq1 (wpAny_loadPart')
open PySem.MeetsSeq PySem.MeetsSeq2 PySem.MeetsSeq3
end
section
variable {prog : Program} {w : World} {A : Around} {E : Value → Shared → Prop} {s : Shared}
/-- a slice's bound as a place among n (d where it is left out) -/
def sIx (n d : Nat) : Option Int → Nat
  | none => d
  | some v => if v < 0 then (v + (n : Int)).toNat else min v.toNat n
end
end HT
namespace L2
open PySem PySem.Spec PyProof.Rows
abbrev TO := St → Hp → (Option Int → Hp → Prop) → Prop
/-- a slice's part (left out, or an int) -/
def PO (X : Cx) (e : Option Expr) (t : TO) : Prop :=
  ∀ (pins : List (Addr × Obj)) (s : Shared) (σ : St) (H : Hp) (Q : Option Int → Hp → Prop), Inv X pins σ H s → t σ H Q →
    wpAny (model X.prog X.w) X.A (evalPart e X.env) (fun u s' => ∃ o H', Inv X pins σ H' s' ∧ IsPart u o ∧ Q o H') X.xe s
def tNoPart : TO := fun _ H Q => Q none H
def tPart (t : TE) : TO := fun σ H Q => t σ H fun x H1 => ∃ i, x = .int i ∧ Q (some i) H1
section
variable {X : Cx} {e : Expr} {te : TE} {lo hi : Option Expr} {tl th : TO} {pos p2 : Pos}
theorem po_none : PO X none tNoPart := by
  intro pins s σ H Q I h
  rw [evalPart_none]
  exact wpAny_pure ⟨none, H, I, .none, h⟩
theorem po_some (h : PE X e te) : PO X (some e) (tPart te) := by
  intro pins s σ H Q I hw
  rw [evalPart_some]
  refine thn (h pins s σ H _ I hw) fun u s1 ⟨x, H1, I1, r1, q1⟩ => ?_
  obtain ⟨i, rfl, q⟩ := q1
  obtain ⟨t, rfl⟩ := r1
  exact ⟨some i, H1, I1, .int i t, q⟩
/-- what a slice of a value is, by values: the slice object stands at sl -/
def SlR (X : Cx) (r : V → Option Int → Option Int → Hp → VK → Prop) : Prop :=
  ∀ (pins : List (Addr × Obj)) (s : Shared) (σ : St) (H : Hp) (x : V) (v vl vu : Value) (lo hi : Option Int) (sl : Addr) (Q : VK), Inv X pins σ H s → RelV x v → s.heap.IsSliceOf sl vl vu .none → IsPart vl lo → IsPart vu hi → r x lo hi H Q →
    ∃ T id, typeLookup (.type T) "__getitem__" = pure (some (.builtin id)) ∧ s.TypeIs v T ∧ wpAny (model X.prog X.w) X.A (getItem v (.ref sl)) (EP X pins σ Q) X.xe s
theorem SlR.or {r r' : V → Option Int → Option Int → Hp → VK → Prop} (h : SlR X r) (h' : SlR X r') : SlR X (fun x lo hi H Q => r x lo hi H Q ∨ r' x lo hi H Q) := by
  intro pins s σ H x v vl vu lo hi sl Q I rx hs pl pu q
  rcases q with q | q
  · exact h pins s σ H x v vl vu lo hi sl Q I rx hs pl pu q
  · exact h' pins s σ H x v vl vu lo hi sl Q I rx hs pl pu q
def tSl (r : V → Option Int → Option Int → Hp → VK → Prop) (te : TE) (tl th : TO) : TE := fun σ H Q => te σ H fun x H1 => tl σ H1 fun l H2 => th σ H2 fun u H3 => r x l u H3 Q
/-- a[lo:hi], any a -/
theorem pe_slice {r : V → Option Int → Option Int → Hp → VK → Prop} (hr : SlR X r) (he : PE X e te) (hl : PO X lo tl) (hu : PO X hi th) : PE X (.Subscript e (.Slice lo hi none p2) pos) (tSl r te tl th) := by
  intro pins s σ H Q I h
  refine Subscript_ (thn (he pins s σ H _ I h) fun v s1 ⟨x, H1, I1, r1, q1⟩ => ?_)
  refine wpAny_Slice (thn (hl pins s1 σ H1 _ I1 q1) fun vl s2 ⟨l, H2, I2, pl, q2⟩ => thn (hu pins s2 σ H2 _ I2 q2) fun vu s3 ⟨u, H3, I3, pu, q3⟩ => ?_)
  rw [evalPart_none]
  refine wpAny_pure ?_
  have I4 : Inv X pins σ H3 { s3 with heap := s3.heap.push { cls := .type "slice", data := .fields #[vl, vu, .none] } } := I3.kept (t' := s3.toks) fun b ob q => Heap.get?_push_of_some _ q
  obtain ⟨T, id, hT, ht, hg⟩ := hr pins { s3 with heap := s3.heap.push { cls := .type "slice", data := .fields #[vl, vu, .none] } } σ H3 x v vl vu l u s3.heap.objs.size Q I4 r1 (Heap.IsSliceOf.new ..) pl pu q3
  show wpAny (model X.prog X.w) X.A (subscriptTail e (.Slice lo hi none p2) v (.ref s3.heap.objs.size)) (EP X pins σ Q) X.xe { s3 with heap := s3.heap.push { cls := .type "slice", data := .fields #[vl, vu, .none] } }
  exact tail_any (ops := [.ref s3.heap.objs.size, v]) ht hT hg (by with_unfolding_all rfl)
/-- the items of xs[lo:hi] -/
def cutV (xs : List V) (lo hi : Option Int) : List V := (xs.drop (HT.sIx xs.length 0 lo)).take (HT.sIx xs.length xs.length hi - HT.sIx xs.length 0 lo)
theorem cutV_length (xs : List V) (lo hi : Option Int) : (cutV xs lo hi).length ≤ xs.length := by
  unfold cutV
  rw [List.length_take, List.length_drop]
  omega
end
end L2
namespace L2
open PySem PySem.Spec PyProof.Rows
/-- the place that an index of any sign means -/
def ixN (n : Nat) (i : Int) : Option Nat := if 0 ≤ i then (if i < n then some i.toNat else none) else if -(n : Int) ≤ i then some (i + n).toNat else none
def atI {α : Type} (xs : List α) (i : Int) : Option α := (ixN xs.length i).bind fun j => xs[j]?
theorem ixN_seq {n : Nat} {i : Int} {j : Nat} (h : ixN n i = some j) : seqIndex? i n = some j ∧ j < n ∧ -(n : Int) ≤ i ∧ i < n := by
  unfold ixN at h
  by_cases h0 : 0 ≤ i
  · rw [if_pos h0] at h
    by_cases h1 : i < n
    · rw [if_pos h1] at h
      have e : i.toNat = j := Option.some.inj h
      exact ⟨by rw [seqIndex_of h0 h1, e], by omega, by omega, h1⟩
    · rw [if_neg h1] at h; cases h
  · rw [if_neg h0] at h
    by_cases h1 : -(n : Int) ≤ i
    · rw [if_pos h1] at h
      have e : (i + n).toNat = j := Option.some.inj h
      exact ⟨by rw [seqIndex_neg (by omega) h1, e], by omega, h1, by omega⟩
    · rw [if_neg h1] at h; cases h
theorem atI_get {α : Type} {xs : List α} {i : Int} {v : α} (h : atI xs i = some v) : ∃ j, seqIndex? i xs.length = some j ∧ xs[j]? = some v ∧ j < xs.length ∧ -(xs.length : Int) ≤ i ∧ i < xs.length := by
  unfold atI at h
  cases e : ixN xs.length i with
  | none => rw [e] at h; cases h
  | some j =>
    rw [e] at h
    obtain ⟨h1, h2, h3, h4⟩ := ixN_seq e
    exact ⟨j, h1, h, h2, h3, h4⟩
theorem atI_nat {α : Type} {xs : List α} {j : Nat} {v : α} (h : xs[j]? = some v) : atI xs (j : Int) = some v := by
  have hj : j < xs.length := (List.getElem?_eq_some_iff.mp h).1
  have e : ixN xs.length (j : Int) = some j := by
    unfold ixN
    rw [if_pos (by omega), if_pos (by omega)]; simp
  unfold atI; rw [e]; exact h
/-- what stands as an index of a plain subscript -/
def PlainIx (b : Expr) : Prop := ∀ o i, subscripted b false o i = operate [o, i] (getItem o i)
/-- a subscript by values -/
def IxR (X : Cx) (r : R2) : Prop :=
  ∀ (value slice : Expr) (pins : List (Addr × Obj)) (s : Shared) (σ : St) (H : Hp) (x y : V) (v u : Value) (Q : VK), Inv X pins σ H s → RelV x v → RelV y u → r x y H Q →
    subscripted slice false v u = operate [v, u] (getItem v u) → wpAny (model X.prog X.w) X.A (subscriptTail value slice v u) (EP X pins σ Q) X.xe s
/-- a call of a builtin's method by values: the receiver, the arguments -/
def MtR (X : Cx) (id : String) (r : V → List V → Hp → VK → Prop) : Prop :=
  ∀ (pins : List (Addr × Obj)) (s : Shared) (σ : St) (H : Hp) (x : V) (xs : List V) (v : Value) (us : List Value) (Q : VK), Inv X pins σ H s → RelV x v → Vals xs us → r x xs H Q →
    wpAny (model X.prog X.w) X.A (call (.builtin id) (v :: us)) (EP X pins σ Q) X.xe s
section
variable {X : Cx} {a b : Expr} {ta tb : TE} {pos : Pos}
theorem IxR.or {r r' : R2} (h : IxR X r) (h' : IxR X r') : IxR X (fun x y H Q => r x y H Q ∨ r' x y H Q) := by
  intro value slice pins s σ H x y v u Q I rx ry q hs
  rcases q with q | q
  · exact h value slice pins s σ H x y v u Q I rx ry q hs
  · exact h' value slice pins s σ H x y v u Q I rx ry q hs
theorem MtR.or {id : String} {r r' : V → List V → Hp → VK → Prop} (h : MtR X id r) (h' : MtR X id r') : MtR X id (fun x xs H Q => r x xs H Q ∨ r' x xs H Q) := by
  intro pins s σ H x xs v us Q I rx rs q
  rcases q with q | q
  · exact h pins s σ H x xs v us Q I rx rs q
  · exact h' pins s σ H x xs v us Q I rx rs q
/-- a[b] -/
theorem pe_ix {r : R2} (hr : IxR X r) (ha : PE X a ta) (hb : PE X b tb) (hs : PlainIx b) : PE X (.Subscript a b pos) (tOp r ta tb) := by
  intro pins s σ H Q I h
  exact Subscript_ (binT ha hb I h fun v u s2 x y H2 I2 rx ry q => hr a b pins s2 σ H2 x y v u Q I2 rx ry q (hs _ _))
def rIxL (K : PySem.W.Frag) : R2 := fun x y H Q => ∃ p xs i v, x = .ref p ∧ y = .int i ∧ SqL K H p xs ∧ atI xs i = some v ∧ Q v H
theorem ix_list : IxR X (rIxL X.K) := by
  intro value slice pins s σ H x y v u Q I rx ry h hs
  obtain ⟨p, xs, i, z, rfl, rfl, hq, he, q⟩ := h
  cases rx
  obtain ⟨t, rfl⟩ := ry
  obtain ⟨its, r, pl, hz⟩ := I.list hq
  obtain ⟨j, h1, h2, h3, h4, h5⟩ := atI_get he
  obtain ⟨w, ew, rw'⟩ := r.get h2
  have hl := r.length
  have hn := line63
  have fin : EP X pins σ Q w s := ⟨z, H, I, rw', q⟩
  by_cases h0 : 0 ≤ i
  · have hj : i.toNat = j := by
      rw [seqIndex_of h0 h5] at h1
      exact Option.some.inj h1
    exact item_listR pl.isList h0 (by omega) (by rw [hj]; simpa using ew) fin hs
  · have hj : (i + (its.toArray.size : Int)).toNat = j := by
      rw [seqIndex_neg (by omega) h4] at h1
      rw [List.size_toArray, ← hl]
      exact Option.some.inj h1
    exact subscriptTail_builtinR (x := w) pl.isList.typeIs slot_list_getitem.lookup
      (wpAny_getItem_list_neg (Q := fun r s' => r = w ∧ EP X pins σ Q r s') pl.isList (by omega) (by rw [List.size_toArray] <;> omega) (by omega) (by rw [hj]; simpa using ew) ⟨rfl, fin⟩) hs
/-- the list's object behind a store -/
theorem mapSeq_set (its : List Value) (n j : Nat) (u : Value) : Obj.mapSeq (·.setIfInBounds j u) { cls := .type "list", data := .seq its.toArray n } = { cls := .type "list", data := .seq (its.set j u).toArray n } := by
  simp [Obj.mapSeq]
theorem Inv.lst {pins : List (Addr × Obj)} {σ : St} {H : Hp} {s : Shared} {p : Addr} {xs : List V} (I : Inv X pins σ H s) (h : H p = some (.lst xs)) :
    ∃ (its : List Value) (n : Nat), Vals xs its ∧ s.heap.get? p = some { cls := .type "list", data := .seq its.toArray n } ∧ xs.length ≤ sizeLine := by
  obtain ⟨z, its, n, r, e⟩ := I.hok p _ h
  exact ⟨its, n, r, e, z⟩
/-- the list at p is written by an update of its object -/
theorem Inv.lstUpd {pins : List (Addr × Obj)} {σ : St} {H : Hp} {s : Shared} {p : Addr} {xs ys : List V} {its its' : List Value} {n n' : Nat} {f : Obj → Obj} (I : Inv X pins σ H s) (h : H p = some (.lst xs))
    (ho : s.heap.get? p = some { cls := .type "list", data := .seq its.toArray n }) (hf : f { cls := .type "list", data := .seq its.toArray n } = { cls := .type "list", data := .seq its'.toArray n' }) (r : Vals ys its') (hz : ys.length ≤ sizeLine) (t : Nat) :
    Inv X pins σ (upd H p (.lst ys)) { s with heap := s.heap.update p f, toks := t } := by
  have e : (s.heap.update p f).get? p = some { cls := .type "list", data := .seq its'.toArray n' } := by
    rw [Heap.get?_update_self f ho (by rw [hf] <;> rfl), hf]
  refine I.write (x := p) (e := p) (by rw [h]; trivial) (.inl rfl) (fun b u hb q => (Heap.get?_update_other _ _ (Ne.symm hb)).trans q) ⟨_, e⟩ ?_
  exact ⟨hz, its', n', r, e⟩
def rSetL : V → V → V → Hp → (Hp → Prop) → Prop := fun o i v H Q => ∃ p xs k j, o = .ref p ∧ i = .int k ∧ H p = some (.lst xs) ∧ ixN xs.length k = some j ∧ Q (upd H p (.lst (xs.set j v)))
theorem set_list : PSet X rSetL := by
  intro pins s σ H o i v ov iv u Q I ro ri rv h
  obtain ⟨p, xs, k, j, rfl, rfl, hp, hj, q⟩ := h
  cases ro
  obtain ⟨t, rfl⟩ := ri
  obtain ⟨its, n, r, ho, hz⟩ := I.lst hp
  obtain ⟨h1, h2, h3, h4⟩ := ixN_seq hj
  have hl := r.length
  have hn := line63
  have I' : Inv X pins σ (upd H p (.lst (xs.set j v))) { s with heap := s.heap.update p (Obj.mapSeq (·.setIfInBounds j u)) } :=
    I.lstUpd hp ho (mapSeq_set its n j u) (r.set rv j) (by rw [List.length_set]; exact hz) s.toks
  by_cases h0 : 0 ≤ k
  · have hk : k.toNat = j := by
      rw [seqIndex_of h0 h4] at h1
      exact Option.some.inj h1
    exact PySem.W.ki_setAt ho h0 (by omega) (by rw [List.size_toArray, ← hl]; exact h4) (by rw [hk]; exact ⟨_, I', q⟩)
  · have hk : (k + (its.toArray.size : Int)).toNat = j := by
      rw [seqIndex_neg (by omega) h3] at h1
      rw [List.size_toArray, ← hl]
      exact Option.some.inj h1
    exact PySem.W.ki_setBack ho (by omega) (by rw [List.size_toArray, ← hl]; exact h3) (by omega) (by rw [hk]; exact ⟨_, I', q⟩)
theorem slice_bounds (lo hi : Option Int) (n : Nat) : (sliceBounds lo hi none n).1 = ((HT.sIx n 0 lo : Nat) : Int) ∧ (sliceBounds lo hi none n).2.1 = ((HT.sIx n n hi : Nat) : Int) ∧ (sliceBounds lo hi none n).2.2 = 1 := by
  refine ⟨?_, ?_, rfl⟩
  · cases lo with
    | none => simp [sliceBounds, HT.sIx]
    | some i =>
      simp only [sliceBounds, HT.sIx, Option.getD_none, show (1 : Int) > 0 by decide, if_true]
      by_cases h : i < 0
      · simp only [h, if_true] <;> omega
      · simp only [h, if_false] <;> omega
  · cases hi with
    | none => simp [sliceBounds, HT.sIx]
    | some i =>
      simp only [sliceBounds, HT.sIx, Option.getD_none, show (1 : Int) > 0 by decide, if_true]
      by_cases h : i < 0
      · simp only [h, if_true] <;> omega
      · simp only [h, if_false] <;> omega
theorem slicePick_cut (its : List Value) (lo hi : Option Int) : slicePick its.toArray lo hi none = ((its.drop (HT.sIx its.length 0 lo)).take (HT.sIx its.length its.length hi - HT.sIx its.length 0 lo)).toArray := by
  obtain ⟨h1, h2, h3⟩ := slice_bounds lo hi its.toArray.size
  unfold slicePick
  rw [h1, h2, h3]
  simp only [sliceRange_one, pick_run, List.size_toArray] <;> rfl
/-- xs[lo:hi] of a list: a new list -/
def rSlL (K : PySem.W.Frag) : V → Option Int → Option Int → Hp → VK → Prop := fun x lo hi H Q => ∃ a xs, x = .ref a ∧ SqL K H a xs ∧ ∀ p, H p = none → Q (.ref p) (upd H p (.lst (cutV xs lo hi)))
theorem sl_list : SlR X (rSlL X.K) := by
  intro pins s σ H x v vl vu lo hi sl Q I rx hs pl pu h
  obtain ⟨a, xs, rfl, hx, q⟩ := h
  cases rx
  obtain ⟨its, r, ht, hz⟩ := I.list hx
  have hlen := r.length
  refine ⟨"list", _, slot_list_getitem.lookup, ht.isList.typeIs, ?_⟩
  refine wpAny_getItem_list_slice ht.isList hs pl pu .none (by simp) ?_ (by rw [List.size_toArray] <;> omega)
  rw [slicePick_cut, ← hlen]
  refine ⟨.ref s.heap.objs.size, _, I.laid (t' := s.toks) (o := .lst (cutV xs lo hi)) (fun b ob q => Heap.get?_push_of_some _ q) (Nat.le_refl _) ?_, rfl, q _ (I.hok.fresh (Nat.le_refl _))⟩
  exact ⟨Nat.le_trans (cutV_length xs lo hi) hz, _, 0, (r.drop (HT.sIx xs.length 0 lo)).take (HT.sIx xs.length xs.length hi - HT.sIx xs.length 0 lo), Heap.get?_push_size _ rfl⟩
def flatV : V → Bool
  | .non => true
  | .bl _ => true
  | .int _ => true
  | .str _ => true
  | _ => false
/-- == of flat values -/
def eqV : V → V → Bool
  | .non, .non => true
  | .bl a, .bl b => a == b
  | .bl a, .int b => (if a then 1 else 0) == b
  | .int a, .bl b => a == (if b then 1 else 0)
  | .int a, .int b => a == b
  | .str a, .str b => a == b
  | _, _ => false
theorem eqAt_V {A : Around} {s : Shared} {y x : V} {u v : Value} (ry : RelV y u) (rx : RelV x v) (fy : flatV y = true) (fx : flatV x = true) : SeqAt.EqAt A s u v (eqV y x) := by
  cases y with
  | non =>
    cases ry
    cases x with
    | non => cases rx; exact SeqAt.EqAt.same _
    | bl b => cases rx; exact SeqAt.EqAt.none_bool b
    | int b => obtain ⟨t, rfl⟩ := rx; exact SeqAt.EqAt.none_int b t
    | str b => obtain ⟨t, rfl⟩ := rx; exact SeqAt.EqAt.none_str b t
    | _ => exact absurd (show false = true from fx) Bool.false_ne_true
  | bl a =>
    cases ry
    cases x with
    | non => cases rx; exact SeqAt.EqAt.bool_none a
    | bl b => cases rx; exact SeqAt.EqAt.bool_bool a b
    | int b => obtain ⟨t, rfl⟩ := rx; exact SeqAt.EqAt.bool_int a b t
    | str b => obtain ⟨t, rfl⟩ := rx; exact SeqAt.EqAt.bool_str a b t
    | _ => exact absurd (show false = true from fx) Bool.false_ne_true
  | int a =>
    obtain ⟨t', rfl⟩ := ry
    cases x with
    | non => cases rx; exact SeqAt.EqAt.int_none a t'
    | bl b => cases rx; exact SeqAt.EqAt.int_bool a t' b
    | int b => obtain ⟨t, rfl⟩ := rx; exact SeqAt.EqAt.int_int a t' b t
    | str b => obtain ⟨t, rfl⟩ := rx; exact SeqAt.EqAt.int_str a t' b t
    | _ => exact absurd (show false = true from fx) Bool.false_ne_true
  | str a =>
    obtain ⟨t', rfl⟩ := ry
    cases x with
    | non => cases rx; exact SeqAt.EqAt.str_none a t'
    | bl b => cases rx; exact SeqAt.EqAt.str_bool a t' b
    | int b => obtain ⟨t, rfl⟩ := rx; exact SeqAt.EqAt.str_int a t' b t
    | str b => obtain ⟨t, rfl⟩ := rx; exact SeqAt.EqAt.str_str a t' b t
    | _ => exact absurd (show false = true from fx) Bool.false_ne_true
  | _ => exact absurd (show false = true from fy) Bool.false_ne_true
/-- the items' answers, read off the values (a value's own answer does not lean on its token) -/
def eqU (x : V) (u : Value) : Bool := match u with
  | .none => eqV .non x
  | .bool b => eqV (.bl b) x
  | .int i _ => eqV (.int i) x
  | .str z _ => eqV (.str z) x
  | _ => false
theorem eqU_of {x y : V} {u : Value} (r : RelV y u) (f : flatV y = true) : eqU x u = eqV y x := by
  cases y with
  | non => cases r; rfl
  | bl b => cases r; rfl
  | int i => obtain ⟨t, rfl⟩ := r; rfl
  | str z => obtain ⟨t, rfl⟩ := r; rfl
  | _ => exact absurd (show false = true from f) Bool.false_ne_true
theorem any_eqU {x : V} : ∀ {xs : List V} {us : List Value}, Vals xs us → xs.all flatV = true → us.any (eqU x) = xs.any fun y => eqV y x
  | _, _, .nil, _ => rfl
  | y :: xs, u :: us, .cons r t, f => by
    rw [List.all_cons, Bool.and_eq_true] at f
    rw [List.any_cons, List.any_cons, eqU_of r f.1, any_eqU t f.2]
theorem mem_eqAt {A : Around} {s : Shared} {x : V} {v : Value} (rx : RelV x v) (fx : flatV x = true) : ∀ {xs : List V} {us : List Value}, Vals xs us → xs.all flatV = true → ∀ u ∈ us, SeqAt.EqAt A s u v (eqU x u)
  | _, _, .nil, _ => fun u hu => by cases hu
  | y :: xs, u :: us, .cons r t, f => fun u' hu => by
    rw [List.all_cons, Bool.and_eq_true] at f
    rcases List.mem_cons.mp hu with rfl | hu
    · rw [eqU_of r f.1]; exact eqAt_V r rx f.1 fx
    · exact mem_eqAt rx fx t f.2 u' hu
def inV (x : V) (xs : List V) : Bool := xs.any fun y => eqV y x
/-- x in a list or tuple of flat items -/
def rIn (K : PySem.W.Frag) (neg : Bool) : R2 := fun x y H Q => ∃ p xs, y = .ref p ∧ (SqL K H p xs ∨ SqT K H p xs) ∧ flatV x = true ∧ xs.all flatV = true ∧ Q (.bl (if neg then !inV x xs else inV x xs)) H
theorem op_in_seq : OpR X (compareOp .In) (rIn X.K false) := by
  intro pins s σ H x y v u Q I rx ry h
  obtain ⟨p, xs, rfl, hq, fx, fs, q⟩ := h
  cases ry
  rcases hq with hq | hq
  · obtain ⟨its, r, pl, hz⟩ := I.list hq
    refine SeqAt.in_listAt (eqU x) pl.isList (fun w hw => mem_eqAt rx fx r fs w (by simpa using hw)) ⟨.bl _, H, I, rfl, ?_⟩
    rw [show its.toArray.any (eqU x) = its.any (eqU x) by simp, any_eqU r fs]
    exact q
  · obtain ⟨its, r, pl, hz⟩ := I.tuple hq
    refine SeqAt.in_tupleAt (eqU x) pl (fun w hw => mem_eqAt rx fx r fs w (by simpa using hw)) ⟨.bl _, H, I, rfl, ?_⟩
    rw [show its.toArray.any (eqU x) = its.any (eqU x) by simp, any_eqU r fs]
    exact q
theorem call_len_seq : CallR X (.builtin "len") (fun xs H Q => ∃ p ys, xs = [.ref p] ∧ (SqL X.K H p ys ∨ SqT X.K H p ys) ∧ Q (.int ys.length) H) := by
  intro pins s σ H xs us Q I r h
  obtain ⟨p, ys, rfl, hq, q⟩ := h
  obtain ⟨u, rfl, rx⟩ := vals1 r
  cases rx
  have hn := line63
  rcases hq with hq | hq
  · obtain ⟨its, r', pl, hz⟩ := I.list hq
    have hlen := r'.length
    exact Calls.call_len_list pl.isList (by simp only [List.size_toArray] <;> omega) ⟨.int ys.length, H, I.tok _, ⟨s.toks + 1, by rw [List.size_toArray, hlen]⟩, q⟩
  · obtain ⟨its, r', pl, hz⟩ := I.tuple hq
    have hlen := r'.length
    exact len_tuple pl (by simp only [List.size_toArray] <;> omega) ⟨.int ys.length, H, I.tok _, ⟨s.toks + 1, by rw [List.size_toArray, hlen]⟩, q⟩
theorem CallR.or {f : Value} {r r' : List V → Hp → VK → Prop} (h : CallR X f r) (h' : CallR X f r') : CallR X f (fun xs H Q => r xs H Q ∨ r' xs H Q) := by
  intro pins s σ H xs us Q I rs q
  rcases q with q | q
  · exact h pins s σ H xs us Q I rs q
  · exact h' pins s σ H xs us Q I rs q
/-- the value is of that builtin type -/
def tyV (K : PySem.W.Frag) (T : String) (x : V) (H : Hp) : Prop := match x with
  | .str _ => T = "str"
  | .int _ => T = "int"
  | .ref p => (T = "list" ∧ ∃ xs, SqL K H p xs) ∨ (T = "tuple" ∧ ∃ o, K.lookup p = some o ∧ o.cls = .type "tuple" ∧ o.dict = none) ∨
      (T = "dict" ∧ ((∃ kvs, H p = some (.dK kvs)) ∨ ∃ kvs, H p = some (.dT kvs))) ∨ (T = "set" ∧ ∃ S n, H p = some (.set S n))
  | _ => False
theorem tyV_is {pins : List (Addr × Obj)} {σ : St} {H : Hp} {s : Shared} {T : String} {x : V} {v : Value} (I : Inv X pins σ H s) (r : RelV x v) (ty : tyV X.K T x H) :
    s.TypeIs v T ∧ ∀ a, v = .ref a → ∃ ob, s.heap.get? a = some ob ∧ ob.dict = none := by
  cases x with
  | str z =>
    obtain ⟨t, rfl⟩ := r
    cases (show T = "str" from ty)
    exact ⟨typeIs_str s z t, fun _ e => nomatch e⟩
  | int i =>
    obtain ⟨t, rfl⟩ := r
    cases (show T = "int" from ty)
    exact ⟨typeIs_int s i t, fun _ e => nomatch e⟩
  | ref p =>
    cases r
    rcases ty with ⟨rfl, xs, hq⟩ | ⟨rfl, o, hk, hc, hd⟩ | ⟨rfl, hk⟩ | ⟨rfl, S, n, hk⟩
    · obtain ⟨its, _, pl, _⟩ := I.list hq
      refine ⟨pl.isList.typeIs, fun a e => ?_⟩
      cases e
      obtain ⟨o, n, e, c, hd, _⟩ := pl
      exact ⟨o, e, hd⟩
    · refine ⟨⟨o, I.kIn p o hk, hc⟩, fun a e => ?_⟩
      cases e
      exact ⟨o, I.kIn _ o hk, hd⟩
    · have z : ∃ o, s.heap.get? p = some o ∧ o.ExactDict := by
        rcases hk with ⟨kvs, hk⟩ | ⟨kvs, hk⟩
        · obtain ⟨_, _, _, _, o, _, _, e, ex, _⟩ := I.hok p _ hk
          exact ⟨o, e, ex⟩
        · obtain ⟨_, _, _, _, o, _, _, e, ex, _⟩ := I.hok p _ hk
          exact ⟨o, e, ex⟩
      obtain ⟨o, e, ex⟩ := z
      refine ⟨⟨o, e, ex.1⟩, fun a e2 => ?_⟩
      cases e2
      exact ⟨o, e, ex.2.1⟩
    · obtain ⟨o, _, _, _, e, ex, _⟩ := I.hok p _ hk
      refine ⟨⟨o, e, ex.1⟩, fun a e2 => ?_⟩
      cases e2
      exact ⟨o, e, ex.2.1⟩
  | _ => exact False.elim ty
def tBM (K : PySem.W.Frag) (T : String) (r : V → List V → Hp → VK → Prop) (to : TE) (t : TA) : TE := fun σ H Q => to σ H fun x H1 => tyV K T x H1 ∧ t σ H1 fun xs H2 => r x xs H2 Q
variable {o e : Expr} {es : List Expr} {to : TE} {t : TA} {name : Str} {apos cpos : Pos} {T id : String} {r : V → List V → Hp → VK → Prop}
theorem pe_bm (pa : PlainAttrs T) (slot : Slot T name id) (hty : typeOf (.builtin id) = pure (.type "method_descriptor")) (hm : MtR X id r) (ho : PE X o to) (ha : PA X (e :: es) t)
    (hbase : attributeBase o name X.env (eval o X.env) = eval o X.env := by rfl)
    (hfew : ((backTo cpos (starEach (e :: es) X.env)).all (fun x => !x.1) && (backToKw cpos (keywordEach [] X.env)).all (fun x => x.1.isSome)
      && decide ((e :: es).length + ([] : List Keyword).length + (if ([] : List Keyword).isEmpty then 0 else 1) < 30)) = true := by rfl)
    (hline : (apos.endLine == cpos.line) = true := by rfl) (hs : starEach (e :: es) X.env = (false, eval e X.env) :: starEach es X.env := by rfl) (hplain : (backTo cpos (starEach es X.env)).any (·.1) = false := by rfl) :
    PE X (.Call (.Attribute o name apos) (e :: es) [] cpos) (tBM X.K T r to t) := by
  intro pins s σ H Q I h
  refine wpAny_Call_method_late hbase hfew hline rfl (thn (ho pins s σ H _ I h) fun v s1 ⟨x, H1, I1, r1, ty, q1⟩ => ?_)
  obtain ⟨h1, h2⟩ := tyV_is I1 r1 ty
  refine ⟨T, id, pa, slot, hty, h1, h2, ?_⟩
  have hA := ha cpos pins s1 σ H1 _ I1 q1
  rw [hs] at hA ⊢
  refine Calls.callWith_builtin (by show (false || (backTo cpos (starEach es X.env)).any (·.1)) = false; rw [hplain] <;> rfl) (Calls.evalArgs_plain ?_)
  exact thn hA fun us s2 ⟨vs, H2, I2, r2, q2⟩ => hm pins s2 σ H2 x vs v us Q I2 r1 r2 q2
end
end L2
namespace L2
open PySem PySem.Spec PyProof.Rows
def MtM (X : Cx) (id : String) (r : V → List V → Hp → VK → Prop) : Prop :=
  ∀ (pins : List (Addr × Obj)) (s : Shared) (σ : St) (H : Hp) (x : V) (xs : List V) (v : Value) (us : List Value) (Q : VK), Inv X pins σ H s → RelV x v → Vals xs us → r x xs H Q →
    wpAny (model X.prog X.w) X.A (call (.builtin id) (v :: us)) (EP X pins σ Q) X.xe s
theorem Vals.one : ∀ {x : V} {us : List Value}, Vals [x] us → ∃ u, us = [u] ∧ RelV x u
  | _, _, .cons r .nil => ⟨_, rfl, r⟩
theorem Vals.two : ∀ {x y : V} {us : List Value}, Vals [x, y] us → ∃ u v, us = [u, v] ∧ RelV x u ∧ RelV y v
  | _, _, _, .cons r (.cons q .nil) => ⟨_, _, rfl, r, q⟩
theorem Vals.zero : ∀ {us : List Value}, Vals [] us → us = []
  | _, .nil => rfl
theorem Vals.dropLast {xs : List V} {us : List Value} (h : Vals xs us) : Vals xs.dropLast us.dropLast := by
  induction h with
  | nil => exact .nil
  | cons r t ih =>
    cases t with
    | nil => exact .nil
    | cons q t' => exact .cons r ih
theorem Vals.reverse {xs : List V} {us : List Value} (h : Vals xs us) : Vals xs.reverse us.reverse := by
  induction h with
  | nil => exact .nil
  | cons r t ih => rw [List.reverse_cons, List.reverse_cons]; exact Vals.append ih (.cons r .nil)
theorem Vals.rep {xs : List V} {us : List Value} (h : Vals xs us) : ∀ k : Nat, Vals (List.replicate k xs).flatten (List.replicate k us).flatten
  | 0 => .nil
  | k + 1 => by
    rw [List.replicate_succ, List.replicate_succ, List.flatten_cons, List.flatten_cons]
    exact Vals.append h (Vals.rep h k)
theorem foldl_rep (its : List Value) : ∀ (k : Nat) (acc : List Value),
    List.foldl (fun x1 x2 => x1 ++ x2) acc.toArray (List.replicate k its.toArray) = (acc ++ (List.replicate k its).flatten).toArray
  | 0, acc => by simp
  | k + 1, acc => by
    have e : acc.toArray ++ its.toArray = (acc ++ its).toArray := by simp
    have e2 : (acc ++ its) ++ (List.replicate k its).flatten = acc ++ (List.replicate (k + 1) its).flatten := by
      rw [List.replicate_succ, List.flatten_cons, List.append_assoc]
    rw [← e2, ← foldl_rep its k (acc ++ its), ← e, List.replicate_succ, List.foldl_cons]
section
variable {X : Cx} {pins : List (Addr × Obj)} {σ : St} {H : Hp} {s : Shared} {l b : Addr} {xs ys zs : List V}
theorem Inv.lset {its its' : List Value} {n : Nat} {f : Array Value → Array Value} {t' : Nat} (I : Inv X pins σ H s) (hH : H l = some (.lst xs))
    (e : s.heap.get? l = some { cls := .type "list", data := .seq its.toArray n }) (hf : f its.toArray = its'.toArray) (hv : Vals ys its') (hz : ys.length ≤ sizeLine) :
    Inv X pins σ (upd H l (.lst ys)) { s with heap := s.heap.update l (Obj.mapSeq f), toks := t' } := by
  have q := PySem.IsL.update e f
  rw [hf] at q
  refine I.write (x := l) (e := l) (by rw [hH]; exact trivial) (.inl rfl) (fun b' u hb hu => (Heap.get?_update_other s.heap (Obj.mapSeq f) (Ne.symm hb)).trans hu) ⟨_, q⟩ ?_
  exact ⟨hz, its', _, hv, q⟩
theorem Inv.lnew {its : List Value} {t' : Nat} (I : Inv X pins σ H s) (hv : Vals ys its) (hz : ys.length ≤ sizeLine) :
    Inv X pins σ (upd H s.heap.objs.size (.lst ys)) { s with heap := s.heap.push { cls := .type "list", data := .seq its.toArray }, toks := t' } :=
  I.laid (fun _ _ q => Heap.get?_push_of_some _ q) (Nat.le_refl _) ⟨hz, its, 0, hv, Heap.get?_push_size _ rfl⟩
theorem Inv.fresh (I : Inv X pins σ H s) : H s.heap.objs.size = none := I.hok.fresh (Nat.le_refl _)
theorem Inv.lstM (I : Inv X pins σ H s) (hH : H l = some (.lst xs)) : xs.length ≤ sizeLine ∧ ∃ (its : List Value) (n : Nat), Vals xs its ∧ xs.length = its.length ∧ s.heap.get? l = some { cls := .type "list", data := .seq its.toArray n } := by
  obtain ⟨z, its, n, r, e⟩ := I.hok l _ hH
  exact ⟨z, its, n, r, r.length, e⟩
theorem notLongL {n : Nat} (h : n ≤ sizeLine) : Builtin.List.listTooLong n = false := by
  unfold Builtin.List.listTooLong
  exact decide_eq_false (by omega)
end
section
variable {X : Cx}
def rAppend : V → List V → Hp → VK → Prop := fun x vs H Q => ∃ l xs y, x = .ref l ∧ vs = [y] ∧ H l = some (.lst xs) ∧ xs.length < sizeLine ∧ Q .non (upd H l (.lst (xs ++ [y])))
theorem mt_append : MtM X "list.append" rAppend := by
  intro pins s σ H x vs v us Q I rx rv h
  obtain ⟨l, xs, y, rfl, rfl, hH, hz, q⟩ := h
  cases rx
  obtain ⟨u, rfl, ru⟩ := rv.one
  obtain ⟨z, its, n, r, hl, e⟩ := I.lstM hH
  refine call_meets F.slot_list_append ⟨_, e, rfl⟩ F.entry_list_append (F.args_list_append_2 _ _) (PySem.list_append l its.toArray n u (by rw [List.size_toArray]; omega)) ⟨e, ?_⟩
  refine ⟨.non, _, I.lset (its' := its ++ [u]) hH e (by simp) (r.append (.cons ru .nil)) ?_, rfl, q⟩
  rw [List.length_append, List.length_singleton]
  omega
/-- a list times an int (a negative one is nothing) -/
def rRep : R2 := fun x y H Q => ∃ l k xs, x = .ref l ∧ y = .int k ∧ H l = some (.lst xs) ∧ -(2 ^ 63) ≤ k ∧ k < 2 ^ 63 ∧ xs.length * k.toNat ≤ sizeLine ∧
  ∀ p, H p = none → Q (.ref p) (upd H p (.lst (List.replicate k.toNat xs).flatten))
theorem len_rep {α : Type} (xs : List α) (k : Nat) : (List.replicate k xs).flatten.length = k * xs.length := by
  induction k with
  | zero => simp
  | succ k ih => rw [List.replicate_succ, List.flatten_cons, List.length_append, ih, Nat.succ_mul, Nat.add_comm]
theorem op_rep : OpR X (binaryOp .Mult) rRep := by
  intro pins s σ H x y v u Q I rx ry h
  obtain ⟨l, k, xs, rfl, rfl, hH, h1, h2, hz, q⟩ := h
  cases rx
  obtain ⟨t, rfl⟩ := ry
  obtain ⟨z, its, n, r, hl, e⟩ := I.lstM hH
  have hlen : its.toArray.size * k.toNat ≤ sizeLine := by rw [List.size_toArray, ← hl]; exact hz
  have hcap : ¬ its.toArray.size * k.toNat > (2 ^ 63 - 1) / 8 := by
    have : (sizeLine : Nat) ≤ (2 ^ 63 - 1) / 8 := by decide
    omega
  have hfit : ¬ (!Builtin.List.listFitsIndex k) = true := by
    rw [fitsIndex_both h1 h2]
    exact Bool.false_ne_true
  have hlong : ¬ Builtin.List.listTooLong (its.toArray.size * k.toNat) = true := by
    rw [notLongL hlen]
    exact Bool.false_ne_true
  have hnew : List.foldl (fun x1 x2 => x1 ++ x2) #[] (List.replicate (if its.toArray.isEmpty = true then 0 else k.toNat) its.toArray) = (List.replicate k.toNat its).flatten.toArray := by
    have f0 : ∀ m : Nat, List.foldl (fun x1 x2 => x1 ++ x2) #[] (List.replicate m its.toArray) = (List.replicate m its).flatten.toArray := fun m => by
      have := foldl_rep its m []
      rw [List.nil_append] at this
      exact this
    rw [f0]
    cases its with
    | nil => simp
    | cons a r' => rw [if_neg (by simp)]
  refine wpAny_binaryOp_repeat_ref (T := "list") (U := "int") (by decide) ⟨_, e, rfl⟩ (fun s' => typeIs_int s' k t) noFill_list_mul F.fills_int_mul F.slot_int_rmul repeat_list F.slot_int_index.lookup
    (call_meets F.slot_int_rmul (typeIs_int s k t) F.entry_int_rmul (F.args_int_rmul_2 _ _) (int___rmul___int_list k t l its.toArray n)
      ⟨e, rfl, ⟨_, e, rfl⟩, call_meets F.slot_list_mul ⟨_, e, rfl⟩ F.entry_list_mul (F.args_list_mul_2 _ _) (AutoListH.list___mul___list_int_3 l its.toArray n k t hfit hcap hlong) ⟨e, ?_⟩⟩)
  rw [hnew]
  exact ⟨.ref _, _, I.lnew (t' := s.toks) (r.rep k.toNat) (by rw [len_rep, Nat.mul_comm]; exact hz), rfl, q _ I.fresh⟩
end
section
variable {prog : Program} {w : World} {A : Around} {E : Value → Shared → Prop} {s : Shared}
set_option maxRecDepth 100000 in
end
section
variable {X : Cx}
end
end L2
namespace L2
open PySem PySem.Spec PyProof.Rows
theorem Vals.ints : ∀ {ns : List Int} {us : List Value}, Vals (ns.map V.int) us → IntsAre us ns
  | [], us, h => by
    rw [List.map_nil] at h
    cases h
    exact IntsAre.nil
  | n :: ns, us, h => by
    rw [List.map_cons] at h
    cases h with
    | cons r t =>
      obtain ⟨k, rfl⟩ := r
      exact IntsAre.cons n k (Vals.ints t)
theorem Vals.strs : ∀ {xs : List Str} {us : List Value}, Vals (xs.map V.str) us → StrsAre us xs
  | [], us, h => by
    rw [List.map_nil] at h
    cases h
    exact StrsAre.nil
  | x :: xs, us, h => by
    rw [List.map_cons] at h
    cases h with
    | cons r t =>
      obtain ⟨k, rfl⟩ := r
      exact StrsAre.cons x k (Vals.strs t)
theorem Vals.bls : ∀ {bs : List Bool} {us : List Value}, Vals (bs.map V.bl) us → us = bs.map Value.bool
  | [], us, h => by
    rw [List.map_nil] at h
    cases h
    rfl
  | b :: bs, us, h => by
    rw [List.map_cons] at h
    cases h with
    | cons r t =>
      cases r
      rw [Vals.bls t, List.map_cons]
theorem Vals.ref1 {a : Addr} {us : List Value} (r : Vals [V.ref a] us) : us = [Value.ref a] := by
  cases r with
  | cons r t =>
    cases t
    cases r
    rfl
section
variable {prog : Program} {w : World} {A : Around} {E : Value → Shared → Prop} {s : Shared} {l : Addr} {its : List Value} {ns : List Int} {Q : Value → Shared → Prop}
theorem min_raw (hh : A.handled = none) (hl : s.heap.IsList l its.toArray) (hi : IntsAre its ns) (hne : 0 < ns.length)
    (h : ∀ h' tk M t', (∀ b o, s.heap.get? b = some o → h'.get? b = some o) → M ∈ ns → (∀ a, a ∈ ns → M ≤ a) → Q (.int M t') { s with heap := h', toks := tk }) : wpAny (model prog w) A (call (.builtin "min") [.ref l]) Q E s := by
  obtain ⟨xs, e⟩ := hi.allInts.items
  have hn : numsOf (intItems xs).toList = ns := by rw [← e]; exact hi.numsOf
  rw [nums_intItems] at hn
  subst hn
  rw [e] at hl
  have hsz : 0 < xs.size := by simpa using hne
  refine PySem.min_intList hh hl hsz fun v h' tk hv hk => ?_
  obtain ⟨t, rfl⟩ := intItems_at hv
  obtain ⟨h1, h2⟩ := argBest_lt (numAt xs) (xs.size - 1)
  refine h h' tk _ t hk ?_ fun a ha => ?_
  · rw [numAt_eq]; exact PySem.getD_mem (by rw [List.length_map, Array.length_toList]; omega)
  · obtain ⟨j, hj, rfl⟩ := mem_getD ha
    rw [List.length_map, Array.length_toList] at hj
    rw [← numAt_eq]; exact h2 j (by omega)
end
section
variable {X : Cx}
def rMin (K : PySem.W.Frag) : List V → Hp → VK → Prop := fun vs H Q => ∃ (a : Addr) (ns : List Int), vs = [V.ref a] ∧ SqL K H a (ns.map V.int) ∧ 0 < ns.length ∧ ∀ m, m ∈ ns → (∀ y, y ∈ ns → m ≤ y) → Q (.int m) H
theorem cr_min (hc : X.calm = true) : CallR X (.builtin "min") (rMin X.K) := by
  intro pins s σ H vs us Q I r h
  obtain ⟨a, ns, rfl, hs, hne, q⟩ := h
  obtain ⟨its, rv, hl, _⟩ := I.list hs
  rw [Vals.ref1 r]
  exact min_raw (I.ok.hd hc) hl.isList rv.ints hne fun h' tk m t' hk h1 h2 => ⟨.int _, H, I.kept hk, ⟨_, rfl⟩, q m h1 h2⟩
end
section
variable {X : Cx}
end
section
variable {X : Cx}
end
theorem iter_any {prog : Program} {w : World} {A : Around} {E : Value → Shared → Prop} {s : Shared} {l : Addr} {items : Array Value} {Q : Value → Shared → Prop} (hl : s.heap.IsList l items)
    (h : ∀ s₂ : Shared, s₂ = { s with heap := s.heap.push { cls := .type "list_iterator", data := .fields #[.ref l, .int 0 0] } } →
      (s₂.heap.IsListIter s.heap.objs.size l 0 ∧ s₂.heap.IsList l items) → l ≠ s.heap.objs.size → Q (.ref s.heap.objs.size) s₂) : wpAny (model prog w) A (pyIter (.ref l)) Q E s := by
  have hlt : l < s.heap.objs.size := by obtain ⟨_, e, _⟩ := hl; exact Heap.lt_size e
  exact wpAny_pyIter_list hl (h _ rfl ⟨⟨_, Heap.get?_push_size _ rfl, rfl, rfl⟩, hl.push _⟩ (Nat.ne_of_lt hlt))
theorem truth_bools {prog : Program} {w : World} {A : Around} {bs : List Bool} {its : List Value} (e : its = bs.map Value.bool) :
    TruthOf prog w A (fun i v => its.toArray[i]? = some v) (fun i => bs.getD i false) := fun i v s Q E hv hq => by
  have hv' : its[i]? = some v := by simpa using hv
  rw [e, List.getElem?_map] at hv'
  obtain ⟨b, hb, rfl⟩ := Option.map_eq_some_iff.mp hv'
  have hg : bs.getD i false = b := by rw [List.getD_eq_getElem?_getD, hb] <;> rfl
  have hq' : Q (bs.getD i false) s := hq
  rw [hg] at hq'
  exact wpAny_truthy_bool hq'
theorem any_range : ∀ bs : List Bool, (List.range bs.length).any (fun i => bs.getD i false) = bs.any id
  | [] => rfl
  | b :: bs => by
    rw [List.length_cons, List.range_succ_eq_map, List.any_cons, List.any_map, List.any_cons, ← any_range bs]
    all_goals rfl
theorem all_range : ∀ bs : List Bool, (List.range bs.length).all (fun i => bs.getD i false) = bs.all id
  | [] => rfl
  | b :: bs => by
    rw [List.length_cons, List.range_succ_eq_map, List.all_cons, List.all_map, List.all_cons, ← all_range bs]
    all_goals rfl
section
variable {X : Cx}
def rAny (K : PySem.W.Frag) : List V → Hp → VK → Prop := fun vs H Q => ∃ (a : Addr) (bs : List Bool), vs = [V.ref a] ∧ SqL K H a (bs.map V.bl) ∧ Q (.bl (bs.any id)) H
def rAll (K : PySem.W.Frag) : List V → Hp → VK → Prop := fun vs H Q => ∃ (a : Addr) (bs : List Bool), vs = [V.ref a] ∧ SqL K H a (bs.map V.bl) ∧ Q (.bl (bs.all id)) H
theorem cr_any (hc : X.calm = true) : CallR X (.builtin "any") (rAny X.K) := by
  intro pins s σ H vs us Q I r h
  obtain ⟨a, bs, rfl, hs, q⟩ := h
  obtain ⟨its, rv, hl, _⟩ := I.list hs
  rw [Vals.ref1 r]
  have hb := rv.bls
  refine call_any_walk (iter_any hl.isList fun s₂ e2 st hne => ?_)
  subst e2
  refine ⟨_, _, _, _, _, _, _, rfl, Walks.list (A := X.A.in1) (I.ok.hd hc) _ a hne its.toArray, st, truth_bools hb, fun h' tk hk => ?_⟩
  refine ⟨.bl _, H, I.kept fun b o eo => hk b o (fun hmem => ?_) (Heap.get?_push_of_some _ eo), ?_, q⟩
  · rcases List.mem_cons.mp hmem with e1 | hmem
    · exact absurd (e1 ▸ Heap.lt_size eo) (Nat.lt_irrefl _)
    · cases hmem
  · show Value.bool _ = Value.bool _
    rw [← any_range, hb, List.size_toArray, List.length_map]
theorem cr_all (hc : X.calm = true) : CallR X (.builtin "all") (rAll X.K) := by
  intro pins s σ H vs us Q I r h
  obtain ⟨a, bs, rfl, hs, q⟩ := h
  obtain ⟨its, rv, hl, _⟩ := I.list hs
  rw [Vals.ref1 r]
  have hb := rv.bls
  refine call_all_walk (iter_any hl.isList fun s₂ e2 st hne => ?_)
  subst e2
  refine ⟨_, _, _, _, _, _, _, rfl, Walks.list (A := X.A.in1) (I.ok.hd hc) _ a hne its.toArray, st, truth_bools hb, fun h' tk hk => ?_⟩
  refine ⟨.bl _, H, I.kept fun b o eo => hk b o (fun hmem => ?_) (Heap.get?_push_of_some _ eo), ?_, q⟩
  · rcases List.mem_cons.mp hmem with e1 | hmem
    · exact absurd (e1 ▸ Heap.lt_size eo) (Nat.lt_irrefl _)
    · cases hmem
  · show Value.bool _ = Value.bool _
    rw [← all_range, hb, List.size_toArray, List.length_map]
end
mutual
inductive Dp (K : PySem.W.Frag) (H : Hp) : V → PyData → Prop
  | non : Dp K H .non .none
  | bl (b : Bool) : Dp K H (.bl b) (.bool b)
  | int (i : Int) : Dp K H (.int i) (.int i)
  | str (x : Str) : Dp K H (.str x) (.str x)
  | lst {a : Addr} {xs : List V} {ds : List PyData} : SqL K H a xs → DpAll K H xs ds → Dp K H (.ref a) (.list ds)
  | tup {a : Addr} {xs : List V} {ds : List PyData} : SqT K H a xs → DpAll K H xs ds → Dp K H (.ref a) (.tuple ds)
inductive DpAll (K : PySem.W.Frag) (H : Hp) : List V → List PyData → Prop
  | nil : DpAll K H [] []
  | cons {v : V} {vs : List V} {d : PyData} {ds : List PyData} : Dp K H v d → DpAll K H vs ds → DpAll K H (v :: vs) (d :: ds)
end
section
variable {X : Cx} {pins : List (Addr × Obj)} {σ : St} {H : Hp} {s : Shared}
mutual
theorem Dp.reads (I : Inv X pins σ H s) : ∀ (d : PyData) (v : V) (u : Value), Dp X.K H v d → RelV v u → ∃ as, Reads s.heap u d as
  | .none, _, _, h, r => by
    cases h
    cases r
    exact ⟨_, Reads.none⟩
  | .bool b, _, _, h, r => by
    cases h
    cases r
    exact ⟨_, Reads.bool b⟩
  | .int i, _, _, h, r => by
    cases h
    obtain ⟨t, rfl⟩ := r
    exact ⟨_, Reads.int i t⟩
  | .str x, _, _, h, r => by
    cases h
    obtain ⟨t, rfl⟩ := r
    exact ⟨_, Reads.str x t⟩
  | .list ds, _, _, h, r => by
    cases h with
    | lst hs ha =>
      cases r
      obtain ⟨its, rv, ⟨o, n, ho, hc, _, hd⟩, _⟩ := I.list hs
      obtain ⟨as, hr⟩ := Dp.readsAll I ds _ its ha rv
      exact ⟨_, Reads.list ho hc hd hr⟩
  | .tuple ds, _, _, h, r => by
    cases h with
    | tup hs ha =>
      cases r
      obtain ⟨its, rv, ⟨o, ho, hc, n, hd⟩, _⟩ := I.tuple hs
      obtain ⟨as, hr⟩ := Dp.readsAll I ds _ its ha rv
      exact ⟨_, Reads.tuple ho hc hd hr⟩
  | .dict _, _, _, h, _ => by cases h
theorem Dp.readsAll (I : Inv X pins σ H s) : ∀ (ds : List PyData) (vs : List V) (us : List Value), DpAll X.K H vs ds → Vals vs us → ∃ as, ReadsAll s.heap us ds as
  | [], _, _, h, r => by
    cases h
    cases r
    exact ⟨_, ReadsAll.nil⟩
  | d :: ds, _, _, h, r => by
    cases h with
    | cons h1 h2 =>
      cases r with
      | cons r1 r2 =>
        obtain ⟨as, q1⟩ := Dp.reads I d _ _ h1 r1
        obtain ⟨bs, q2⟩ := Dp.readsAll I ds _ _ h2 r2
        exact ⟨_, ReadsAll.cons q1 q2⟩
end
end
section
variable {X : Cx}
def rEqD (K : PySem.W.Frag) : R2 := fun x y H Q => ∃ d e, Dp K H x d ∧ Dp K H y e ∧ SeqAt.shaped d = true ∧ SeqAt.shaped e = true ∧ Q (.bl (PyData.eqv d e)) H
theorem op_eqD (hu : X.A.units + 64 < cLine) : OpR X (compareOp .Eq) (rEqD X.K) := by
  intro pins s σ H x y v u Q I rx ry h
  obtain ⟨d, e, hd, he, sd, se, q⟩ := h
  obtain ⟨as, r1⟩ := Dp.reads I d x v hd rx
  obtain ⟨bs, r2⟩ := Dp.reads I e y u he ry
  exact SeqAt.compareEq_shaped r1 r2 sd se hu ⟨.bl _, H, I, rfl, q⟩
end
end L2
namespace L2
open PySem PySem.Spec PyProof.Rows
abbrev CellAt (h : Heap) (c : Addr) (v : Option Value) : Prop := h.IsCell c v
def relS (scope sc : Scope) : Scope :=
  { scope with names := scope.names.map fun (n, k) => if (k == .free && sc.kind == .function && sc.names.lookup n == some .cell) then (n, .cell) else (n, k) }
def cloFrom (cells : List (Str × Addr)) : List (Str × NameKind) → List (Str × Addr) → List (Str × Addr)
  | [], acc => acc
  | (n, k) :: r, acc => if k == .free then cloFrom cells r ((n, (cells.lookup n).getD 0) :: acc) else cloFrom cells r acc
theorem closure_loop (env : Env) (f : Str × NameKind → List (Str × Addr) → Sem (ForInStep (List (Str × Addr))))
    (hf : ∀ n k c, f (n, k) c = if k == .free then (do let a ← cellOf env n; pure (.yield ((n, a) :: c))) else pure (.yield c)) :
    ∀ (names : List (Str × NameKind)) (acc : List (Str × Addr)), (∀ y ∈ names, y.2 = .free → ∃ c, env.cells.lookup y.1 = some c) → forIn names acc f = pure (cloFrom env.cells names acc)
  | [], acc, _ => by rw [List.forIn_nil]; rfl
  | (n, k) :: r, acc, h => by
    rw [List.forIn_cons, hf]
    have ih := fun acc => closure_loop env f hf r acc fun y hy => h y (List.mem_cons_of_mem _ hy)
    unfold cloFrom
    by_cases hk : (k == NameKind.free) = true
    · rw [if_pos hk, if_pos hk]
      obtain ⟨c, hc⟩ := h (n, k) List.mem_cons_self (by simpa using hk)
      have e : cellOf env n = pure c := by unfold cellOf; rw [hc]
      rw [e]
      have e2 : (env.cells.lookup n).getD 0 = c := by rw [hc]; rfl
      rw [e2]
      exact ih _
    · rw [if_neg hk, if_neg hk]
      exact ih _
theorem closure_ok {scope : Scope} {env : Env} (h : ∀ y ∈ scope.names, y.2 = .free → ∃ c, env.cells.lookup y.1 = some c) : closureFor scope env = pure (cloFrom env.cells scope.names []) := by
  simp only [closureFor]
  rw [closure_loop env _ (fun n k c => rfl) scope.names [] h]
  rfl
theorem mem_lookup {α : Type} : ∀ {l : List (Str × α)} {n : Str} {c : α}, (n, c) ∈ l → ∃ c', l.lookup n = some c'
  | (k, v) :: r, n, c, h => by
    rw [List.lookup_cons]
    cases hb : n == k with
    | true => exact ⟨_, rfl⟩
    | false =>
      rcases List.mem_cons.mp h with e | h
      · cases e; simp at hb
      · exact mem_lookup h
theorem cloFrom_mem {cells : List (Str × Addr)} : ∀ {names : List (Str × NameKind)} {acc : List (Str × Addr)} {n : Str} {c : Addr}, (n, c) ∈ cloFrom cells names acc → (n, c) ∈ acc ∨ ((n, .free) ∈ names ∧ c = (cells.lookup n).getD 0)
  | [], _, _, _, h => .inl h
  | (m, k) :: r, acc, n, c, h => by
    unfold cloFrom at h
    split at h
    · rename_i hk
      have hk : k = .free := by simpa using hk
      rcases cloFrom_mem h with h | ⟨h1, h2⟩
      · rcases List.mem_cons.mp h with e | h
        · cases e; exact .inr ⟨hk ▸ List.mem_cons_self, rfl⟩
        · exact .inl h
      · exact .inr ⟨List.mem_cons_of_mem _ h1, h2⟩
    · rcases cloFrom_mem h with h | ⟨h1, h2⟩
      · exact .inl h
      · exact .inr ⟨List.mem_cons_of_mem _ h1, h2⟩
theorem cloFrom_acc {cells : List (Str × Addr)} : ∀ {names : List (Str × NameKind)} {acc : List (Str × Addr)} {p : Str × Addr}, p ∈ acc → p ∈ cloFrom cells names acc
  | [], _, _, h => h
  | (m, k) :: r, acc, p, h => by
    unfold cloFrom
    split
    · exact cloFrom_acc (List.mem_cons_of_mem _ h)
    · exact cloFrom_acc h
theorem cloFrom_has {cells : List (Str × Addr)} : ∀ {names : List (Str × NameKind)} {acc : List (Str × Addr)} {n : Str}, (n, .free) ∈ names → (n, (cells.lookup n).getD 0) ∈ cloFrom cells names acc
  | (m, k) :: r, acc, n, h => by
    unfold cloFrom
    rcases List.mem_cons.mp h with e | h
    · cases e
      exact cloFrom_acc List.mem_cons_self
    · split
      · exact cloFrom_has h
      · exact cloFrom_has h
theorem cells_mem : ∀ {names : List (Str × NameKind)} {h : Heap} {acc : List (Str × Addr)} {x : Str} {c : Addr}, (x, c) ∈ cellsFrom h.objs.size names acc →
    (x, c) ∈ acc ∨ ((x, .cell) ∈ names ∧ h.objs.size ≤ c ∧ CellAt (pushCells h names) c none)
  | [], _, _, _, _, h => .inl h
  | (n, k) :: r, h, acc, x, c, hm => by
    unfold cellsFrom at hm
    unfold pushCells
    split at hm
    · rename_i hk
      rw [if_pos hk]
      have hk : k = .cell := by simpa using hk
      rw [← Heap.size_push h { cls := .type "cell", data := .cell none }] at hm
      rcases cells_mem hm with hm | ⟨h1, h2, h3⟩
      · rcases List.mem_cons.mp hm with e | hm
        · cases e
          exact .inr ⟨hk ▸ List.mem_cons_self, Nat.le_refl _, _, pushCells_keeps r _ _ _ (Heap.get?_push_size _ rfl), rfl⟩
        · exact .inl hm
      · rw [Heap.size_push] at h2
        exact .inr ⟨List.mem_cons_of_mem _ h1, Nat.le_of_succ_le h2, h3⟩
    · rename_i hk
      rw [if_neg hk]
      rcases cells_mem hm with hm | ⟨h1, h2, h3⟩
      · exact .inl hm
      · exact .inr ⟨List.mem_cons_of_mem _ h1, h2, h3⟩
theorem cells_acc : ∀ {names : List (Str × NameKind)} {n : Nat} {acc : List (Str × Addr)} {p : Str × Addr}, p ∈ acc → p ∈ cellsFrom n names acc
  | [], _, _, _, h => h
  | (m, k) :: r, n, acc, p, h => by
    unfold cellsFrom
    split
    · exact cells_acc (List.mem_cons_of_mem _ h)
    · exact cells_acc h
theorem cells_has : ∀ {names : List (Str × NameKind)} {n : Nat} {acc : List (Str × Addr)} {x : Str}, (x, .cell) ∈ names → ∃ c, (x, c) ∈ cellsFrom n names acc
  | (m, k) :: r, n, acc, x, h => by
    unfold cellsFrom
    rcases List.mem_cons.mp h with e | h
    · cases e
      exact ⟨n, cells_acc List.mem_cons_self⟩
    · split
      · exact cells_has h
      · exact cells_has h
theorem cells_inj : ∀ {names : List (Str × NameKind)} {h : Heap} {acc : List (Str × Addr)} {x y : Str} {c : Addr}, (∀ p ∈ acc, p.2 < h.objs.size) → (∀ x y c, (x, c) ∈ acc → (y, c) ∈ acc → x = y) →
    (x, c) ∈ cellsFrom h.objs.size names acc → (y, c) ∈ cellsFrom h.objs.size names acc → x = y
  | [], _, _, _, _, _, _, hi, h1, h2 => hi _ _ _ h1 h2
  | (n, k) :: r, h, acc, x, y, c, hl, hi, h1, h2 => by
    unfold cellsFrom at h1 h2
    split at h1
    · rename_i hk
      rw [if_pos hk] at h2
      rw [← Heap.size_push h { cls := .type "cell", data := .cell none }] at h1 h2
      refine cells_inj (h := h.push _) (fun p hp => ?_) (fun x y c a b => ?_) h1 h2
      · rw [Heap.size_push]
        rcases List.mem_cons.mp hp with rfl | hp
        · exact Nat.lt_succ_self _
        · exact Nat.lt_succ_of_lt (hl p hp)
      · rcases List.mem_cons.mp a with e | a <;> rcases List.mem_cons.mp b with e' | b
        · cases e; cases e'; rfl
        · cases e; exact absurd (hl _ b) (Nat.lt_irrefl _)
        · cases e'; exact absurd (hl _ a) (Nat.lt_irrefl _)
        · exact hi _ _ _ a b
    · rename_i hk
      rw [if_neg hk] at h2
      exact cells_inj hl hi h1 h2
theorem newEnv_comp {M : Model} {A : Around} {E : Value → Shared → Prop} {s : Shared} {scope : Scope} {globals : Addr} {closure : List (Str × Addr)} {qual : Str} {func : Option Addr} {code : Value} {around : Env} {builtins : Addr} {Q : Env → Shared → Prop}
    (h : Q (newEnv scope s.heap.objs.size globals (cellsFrom (s.heap.objs.size + 1) scope.names closure) qual func code (some around) builtins)
      { s with heap := pushCells (s.heap.push { cls := .type "dict", data := .dict #[] }) scope.names }) :
    wpAny M A (newFunctionEnv scope globals closure [] qual func code (some around) builtins) Q E s := by
  simp only [newFunctionEnv, Option.isSome_some, if_true]
  refine wpAny_bind (wpAny_alloc ?_)
  refine wpAny_bind (wpAny_layCells _ (fun n k c => rfl) scope.names closure _ _ ?_)
  rw [show ({ s with heap := s.heap.push { cls := .type "dict", data := .dict #[] } } : Shared).heap.objs.size = s.heap.objs.size + 1 from Heap.size_push ..]
  rw [List.forIn_nil]
  exact wpAny_bind (wpAny_pure (wpAny_pure h))
/-- every name of the written scope, in the scope that runs -/
theorem lookup_relS {sc : Scope} : ∀ {names : List (Str × NameKind)} {x : Str} {k : NameKind},
    (names.map fun (n, k) => if (k == NameKind.free && sc.kind == .function && sc.names.lookup n == some .cell) then (n, NameKind.cell) else (n, k)).lookup x = some k →
    ∃ k', names.lookup x = some k' ∧ (k = k' ∨ (k' = .free ∧ k = .cell))
  | [], _, _, h => by simp at h
  | (n, k₀) :: r, x, k, h => by
    have ih := @lookup_relS sc r x k
    have h' : List.lookup x ((if (k₀ == NameKind.free && sc.kind == .function && sc.names.lookup n == some .cell) = true then (n, NameKind.cell) else (n, k₀)) :: (r.map _)) = some k := h
    cases hx : x == n with
    | true =>
      simp only [List.lookup_cons, hx]
      by_cases hc : (k₀ == NameKind.free && sc.kind == .function && sc.names.lookup n == some .cell) = true
      · rw [if_pos hc] at h'
        simp only [List.lookup_cons, hx] at h'
        cases h'
        simp only [Bool.and_eq_true, beq_iff_eq] at hc
        exact ⟨k₀, rfl, .inr ⟨hc.1.1, rfl⟩⟩
      · rw [if_neg hc] at h'
        simp only [List.lookup_cons, hx] at h'
        cases h'
        exact ⟨_, rfl, .inl rfl⟩
    | false =>
      simp only [List.lookup_cons, hx]
      by_cases hc : (k₀ == NameKind.free && sc.kind == .function && sc.names.lookup n == some .cell) = true
      · rw [if_pos hc] at h'
        simp only [List.lookup_cons, hx] at h'
        exact ih h'
      · rw [if_neg hc] at h'
        simp only [List.lookup_cons, hx] at h'
        exact ih h'
/-- the names of a comprehension's block: its own (with their places in N), or captured -/
structure BlkOk (N : List Str) (sc scope : Scope) (own : List (Str × Nat)) : Prop where
  kind : scope.kind = .function
  uniq : ∀ y ∈ scope.names, scope.names.lookup y.1 = some y.2
  ix : ∀ p ∈ own, N[p.2]? = some p.1
  free : ∀ y ∈ scope.names, y.2 = .free → sc.names.lookup y.1 = some .cell ∨ sc.names.lookup y.1 = some .free
  own : ∀ y ∈ scope.names, y.2 = .local ∨ y.2 = .cell → y.1 ∈ own.map (·.1) ∨ y.1 ∉ N
/-- the slots of the block's own names forgotten -/
def wipe (σ : St) : List Nat → St
  | [] => σ
  | v :: vs => (wipe σ vs).set v none
theorem wipe_length (σ : St) : ∀ vs : List Nat, (wipe σ vs).length = σ.length
  | [] => rfl
  | v :: vs => by unfold wipe; rw [List.length_set, wipe_length σ vs]
theorem wipe_some {σ : St} {i : Nat} {x : V} : ∀ {vs : List Nat}, (wipe σ vs)[i]? = some (some x) → σ[i]? = some (some x) ∧ i ∉ vs
  | [], h => ⟨h, by simp⟩
  | v :: vs, h => by
    unfold wipe at h
    by_cases hi : v = i
    · subst hi
      by_cases hv : v < (wipe σ vs).length
      · rw [List.getElem?_set_self hv] at h; cases h
      · rw [List.getElem?_eq_none (by simpa using hv)] at h; cases h
    · rw [List.getElem?_set_ne hi] at h
      obtain ⟨h1, h2⟩ := wipe_some h
      exact ⟨h1, by simp only [List.mem_cons, not_or]; exact ⟨fun e => hi e.symm, h2⟩⟩
/-- the context of a block that starts at s, its iterator's objects at fp -/
abbrev Cx.blk (X : Cx) (s : Shared) (H : Hp) (scope : Scope) (cenv : Env) (fp : List Addr) : Cx := { X with s_0 := s, H_0 := H, env := cenv, outer := X.stack, ex := fp, fn := fun x => scope.names.lookup x == some .cell, pn := [], xe := fun _ _ => False }
section
variable {X : Cx} {pins : List (Addr × Obj)} {σ : St} {H : Hp} {s : Shared}
theorem block_start {scope : Scope} {own : List (Str × Nat)} {fp : List Addr} (I : Inv X pins σ H s) (ok : BlkOk X.N X.env.scope scope own) (hN : X.N.Nodup) (hfp : ∀ b ∈ fp, FpOk X pins H b ∧ b < s.heap.objs.size) :
    Inv (X.blk s H scope (compEnvC scope (cellsFrom (s.heap.objs.size + 1) scope.names (cloFrom X.env.cells scope.names [])) s.heap.objs.size X.env) fp) [] (wipe σ (own.map (·.2))) H { s with heap := pushCells (s.heap.push { cls := .type "dict", data := .dict #[] }) scope.names } := by
  have hfree : ∀ y ∈ scope.names, y.2 = .free → ∃ c, X.env.cells.lookup y.1 = some c := fun y hy e => by
    rcases ok.free y hy e with k | k
    · exact I.ok.has _ (.inl k)
    · exact I.ok.has _ (.inr k)
  generalize hcenv : compEnvC scope (cellsFrom (s.heap.objs.size + 1) scope.names (cloFrom X.env.cells scope.names [])) s.heap.objs.size X.env = cenv
  have kp : ∀ b o, s.heap.get? b = some o → (pushCells (s.heap.push { cls := .type "dict", data := .dict #[] }) scope.names).get? b = some o := fun b o e => pushCells_keeps _ _ _ _ (Heap.get?_push_of_some _ e)
  have hL : cenv.locals = s.heap.objs.size := by rw [← hcenv]; rfl
  have hcl : cenv.cells = cellsFrom (s.heap.objs.size + 1) scope.names (cloFrom X.env.cells scope.names []) := by rw [← hcenv]; rfl
  have hsc : cenv.scope = relS scope X.env.scope := by rw [← hcenv]; rfl
  rw [← Heap.size_push s.heap { cls := .type "dict", data := .dict #[] }] at hcl
  have cm : ∀ {y c}, (y, c) ∈ cloFrom X.env.cells scope.names [] → X.env.cells.lookup y = some c ∧ c < s.heap.objs.size := fun {y c} hm => by
    rcases cloFrom_mem hm with hm | ⟨h1, rfl⟩
    · cases hm
    · obtain ⟨c, hc⟩ := hfree _ h1 rfl
      rw [hc]
      obtain ⟨w, z⟩ := I.cell _ _ hc
      exact ⟨rfl, z.lt⟩
  have mem : ∀ {y c}, cenv.cells.lookup y = some c → (X.env.cells.lookup y = some c ∧ c < s.heap.objs.size) ∨ (s.heap.objs.size + 1 ≤ c ∧ CellAt (pushCells (s.heap.push { cls := .type "dict", data := .dict #[] }) scope.names) c none) := fun {y c} e => by
    rw [hcl] at e
    rcases cells_mem (PySem.mem_of_lookup e) with hm | ⟨_, h2, h3⟩
    · exact .inl (cm hm)
    · rw [Heap.size_push] at h2; exact .inr ⟨h2, h3⟩
  have look : ∀ {y}, scope.names.lookup y = some .free → ∃ c, cenv.cells.lookup y = some c ∧ X.env.cells.lookup y = some c := fun {y} hl => by
    have hy : (y, NameKind.free) ∈ scope.names := PySem.mem_of_lookup hl
    obtain ⟨c', e'⟩ := mem_lookup (cells_acc (names := scope.names) (n := (s.heap.push { cls := .type "dict", data := .dict #[] }).objs.size) (cloFrom_has (cells := X.env.cells) (acc := []) hy))
    rw [← hcl] at e'
    refine ⟨c', e', ?_⟩
    rw [hcl] at e'
    rcases cells_mem (PySem.mem_of_lookup e') with hm | ⟨h1, _, _⟩
    · exact (cm hm).1
    · have := ok.uniq _ h1
      rw [hl] at this; cases this
  have okB : (X.blk s H scope cenv fp).Ok := by
    refine ⟨I.ok.mod, by show cenv.scope.kind = _; rw [hsc]; exact ok.kind, by show cenv.globals = _; rw [← hcenv]; exact I.ok.glob, by show cenv.builtins = _; rw [← hcenv]; exact I.ok.blt, by show s.heap.objs.size ≤ cenv.locals; rw [hL]; exact Nat.le_refl _,
      fun y z c e1 e2 => ?_, fun y hy => ?_, fun y c z e => ?_, I.ok.hd, I.ok.frames, .inl rfl, fun b hb => ⟨?_, fun y c e z => ?_⟩, I.bs, Nat.le_trans I.ok.bsz I.sz, fun b o e hb => ?_, fun b hb z => ?_, I.stack, I.stkFree⟩
    · have e1 : cenv.cells.lookup y = some c := e1
      have e2 : cenv.cells.lookup z = some c := e2
      rw [hcl] at e1 e2
      refine cells_inj (fun p hp => ?_) (fun y z c a b => I.ok.inj y z c (cm a).1 (cm b).1) (PySem.mem_of_lookup e1) (PySem.mem_of_lookup e2)
      rw [Heap.size_push]
      exact Nat.lt_succ_of_lt (cm (y := p.1) (c := p.2) hp).2
    · show ∃ c, cenv.cells.lookup y = some c
      have key : ∀ k, cenv.kindOf y = some k → (k = .cell ∨ k = .free) → ∃ c, cenv.cells.lookup y = some c := fun k hk hk' => by
        unfold Env.kindOf at hk
        rw [hsc] at hk
        obtain ⟨k', e, r⟩ := lookup_relS hk
        have : k' = .cell ∨ k' = .free := by
          rcases r with rfl | ⟨rfl, _⟩
          · exact hk'
          · exact .inr rfl
        rcases this with rfl | rfl
        · obtain ⟨c, hm⟩ := cells_has (n := (s.heap.push { cls := .type "dict", data := .dict #[] }).objs.size) (acc := cloFrom X.env.cells scope.names []) (PySem.mem_of_lookup e)
          obtain ⟨c', e'⟩ := mem_lookup hm
          exact ⟨c', by rw [hcl]; exact e'⟩
        · obtain ⟨c, h1, _⟩ := look e
          exact ⟨c, h1⟩
      rcases hy with hy | hy
      · exact key _ hy (.inl rfl)
      · exact key _ hy (.inr rfl)
    · have z : (scope.names.lookup y == some NameKind.cell) = true := z
      have z : scope.names.lookup y = some .cell := by simpa using z
      have e : cenv.cells.lookup y = some c := e
      rw [hcl] at e
      rcases cells_mem (PySem.mem_of_lookup e) with hm | ⟨_, h2, _⟩
      · rcases cloFrom_mem hm with hm | ⟨h1, _⟩
        · cases hm
        · have q := ok.uniq _ h1
          rw [z] at q; cases q
      · rw [Heap.size_push] at h2
        exact Nat.le_of_succ_le h2
    · show b ≠ cenv.locals
      rw [hL]; exact Nat.ne_of_lt (hfp b hb).2
    · have e : cenv.cells.lookup y = some c := e
      rcases mem e with ⟨h1, _⟩ | ⟨h1, _⟩
      · exact (hfp b hb).1.2.2.2.2.1 y c h1 z
      · have h2 : s.heap.objs.size + 1 ≤ b := by rw [← z]; exact h1
        exact absurd (Nat.lt_of_lt_of_le (hfp b hb).2 (Nat.le_of_succ_le h2)) (Nat.lt_irrefl _)
    · rcases (hfp b hb).1.2.2.2.1 with z | z
      · exact I.ok.noex b o e z
      · exact absurd (Nat.lt_of_lt_of_le (Heap.lt_size e) (Nat.le_trans I.ok.bsz z)) (Nat.lt_irrefl _)
    · rcases List.mem_cons.mp (I.stkSub b z) with z | z
      · exact (hfp b hb).1.2.1 z
      · exact (hfp b hb).1.2.2.1 z
  refine ⟨okB, rfl, I.bare, Un.kept kp, ⟨fun _ => none, ?_, fun i y av e1 e2 e3 => ?_⟩, fun y c e => ?_, ?_, fun y c e => ?_, fun p hp => ?_, I.hok.kept kp, by rw [wipe_length]; exact I.len⟩
  · show Heap.Ns _ cenv.locals _
    rw [hL]
    exact Heap.Ns.keeps (Heap.Ns.new ..) fun b o e => pushCells_keeps _ _ _ _ e
  · obtain ⟨e2, hne⟩ := wipe_some e2
    have hfr : scope.names.lookup y = some .free ∧ (cenv.kindOf y = some .cell ∨ cenv.kindOf y = some .free) := by
      have key : ∀ k, cenv.scope.names.lookup y = some k → k = .local ∨ k = .cell ∨ k = .free → scope.names.lookup y = some .free ∧ (cenv.kindOf y = some .cell ∨ cenv.kindOf y = some .free) := fun k hk hk' => by
        have hk0 := hk
        rw [hsc] at hk
        obtain ⟨k', e, r⟩ := lookup_relS hk
        have no : ¬ (k' = .local ∨ k' = .cell) := fun hh => by
          rcases ok.own _ (PySem.mem_of_lookup e) hh with e' | e'
          · obtain ⟨p, hp, hpy⟩ := List.mem_map.mp e'
            have e3 := ok.ix p hp
            have : p.1 = y := hpy
            rw [this] at e3
            exact hne (List.mem_map.mpr ⟨p, hp, nodup_ix hN e3 e1⟩)
          · exact e' (List.mem_of_getElem? e1)
        rcases r with rfl | ⟨rfl, rfl⟩
        · rcases hk' with rfl | rfl | rfl
          · exact absurd (.inl rfl) no
          · exact absurd (.inr rfl) no
          · exact ⟨e, .inr hk0⟩
        · exact ⟨e, .inl hk0⟩
      have e3 : Vis cenv.scope y := e3
      rcases e3 with e3 | e3 | e3
      · exact key _ e3 (.inl rfl)
      · exact key _ e3 (.inr (.inl rfl))
      · exact key _ e3 (.inr (.inr rfl))
    obtain ⟨m, hn, hl⟩ := I.loc
    have hvis : Vis X.env.scope y := (ok.free _ (PySem.mem_of_lookup hfr.1) rfl).elim (fun k => .inr (.inl k)) (fun k => .inr (.inr k))
    obtain ⟨w, r, q⟩ := hl i y av e1 e2 hvis
    refine ⟨w, r, .inr ⟨hfr.2, ?_⟩⟩
    obtain ⟨c, h1, h2⟩ := look hfr.1
    rcases q with ⟨k, _⟩ | ⟨_, c', e', z⟩
    · have k : X.env.scope.names.lookup y = some .local := k
      rcases ok.free _ (PySem.mem_of_lookup hfr.1) rfl with k' | k' <;> rw [show X.env.scope.names.lookup y = _ from k'] at k <;> cases k
    · rw [h2] at e'; cases e'
      exact ⟨c, h1, z.keeps kp⟩
  · have e : cenv.cells.lookup y = some c := e
    rcases mem e with ⟨h1, _⟩ | ⟨_, z⟩
    · obtain ⟨w, z⟩ := I.cell y c h1
      exact ⟨w, z.keeps kp⟩
    · exact ⟨_, z⟩
  · show H cenv.locals = none
    rw [hL]; exact I.hok.fresh (Nat.le_refl _)
  · have e : cenv.cells.lookup y = some c := e
    rcases mem e with ⟨h1, _⟩ | ⟨h1, _⟩
    · exact I.freeC y c h1
    · exact I.hok.fresh (Nat.le_of_succ_le h1)
  · exact absurd (show p ∈ ([] : List (Addr × Obj)) ++ [] from hp) (by simp)
/-- an item appended to a tracked list -/
theorem app_ok {E : Value → Shared → Prop} {D : Addr} {xs : List V} {y : V} {v : Value} {Q : Value → Shared → Prop} (I : Inv X pins σ H s) (hD : H D = some (.lst xs)) (hz : xs.length < sizeLine) (r : RelV y v)
    (h : ∀ s', Inv X pins σ (upd H D (.lst (xs ++ [y]))) s' → Q .none s') : wpAny (model X.prog X.w) X.A (call (.builtin "list.append") [.ref D, v]) Q E s := by
  obtain ⟨hz', its, n, ri, e⟩ := I.hok D _ hD
  have hl := ri.length
  refine append_at (hsz := by rw [List.size_toArray]; omega) e fun h' sb ho' => ?_
  refine h { s with heap := h' } (I.write (t' := s.toks) (by rw [hD]; trivial) (.inl rfl) (fun b u hb q => (sb.2 b hb).trans q) ⟨_, ho'⟩ ⟨by rw [List.length_append]; exact hz, its ++ [v], n + 1, ri.append (.cons r .nil), ?_⟩)
  rw [ho']
  simp
/-- a clause's tests -/
def PTs (X : Cx) (ifs : List Expr) (t : TT) : Prop :=
  ∀ (pins : List (Addr × Obj)) (s : Shared) (σ : St) (H : Hp) (Q : Bool → Hp → Prop), Inv X pins σ H s → t σ H Q →
    wpAny (model X.prog X.w) X.A (forIn ifs true fun c r => if r = true then do let ok ← isTrue c X.env (eval c X.env); pure (ForInStep.yield ok) else pure (ForInStep.yield r)) (TP X pins σ Q) X.xe s
def tYes : TT := fun _ H Q => Q true H
theorem pts_nil : PTs X [] tYes := fun _ _ _ H _ I h => wpAny_tests_nil ⟨H, I, h⟩
theorem pts_one {c : Expr} {t : TT} (h : PT X c t) : PTs X [c] t := fun pins s σ H Q I hw => wpAny_tests_one (h pins s σ H Q I hw)
end
theorem thnF {α : Type} {t : Sem α} {Q Q' : α → Shared → Prop} {M : Model} {A : Around} {E : Value → Shared → Prop} {s : Shared} (h : wpAny M A t Q (fun _ _ => False) s) (hQ : ∀ a s, Q a s → Q' a s) : wpAny M A t Q' E s := wpAny_mono h hQ fun _ _ z => False.elim z
/-- the loop of a list comprehension's block, the target of any form (codeAny_compLoop_tests asks a target that no tuple goes to; statement and proof follow it, PyProof/CompMap.lean:41-61, with the step letOwnedTupleGo kept) -/
theorem compLoop_any {prog : Program} {w : World} {A : Around} {R : Result → Shared → Prop} {s : Shared} {elt target iter : Expr} {ifs : List Expr} {scope : Scope} {pos : Pos} {it acc : Value} {env : Env} (I : Nat → Shared → Prop)
    (turn : ∀ n s, I n s → wpAny (model prog w) A (pyNext it) (fun r s₁ => match r with
      | none => R (.ok .next) s₁
      | some v => wpAny (model prog w) A (letOwnedTupleGo target it v) (fun _ s₁' => wpAny (model prog w) A (assign target env v) (fun _ s₂ =>
          wpAny (model prog w) A (forIn ifs true fun c r => if r = true then do let ok ← isTrue c env (eval c env); pure (ForInStep.yield ok) else pure (ForInStep.yield r)) (fun ok s₃ =>
            if ok = true then wpAny (model prog w) A (eval elt env) (fun x s₄ =>
              wpAny (model prog w) A (call (.builtin "list.append") [acc, x]) (fun _ s₅ => ∃ m, m < n ∧ I m s₅) (notedBy (model prog w) A env fun e s' => R (.error e) s') s₄) (notedBy (model prog w) A env fun e s' => R (.error e) s') s₃
            else ∃ m, m < n ∧ I m s₃) (notedBy (model prog w) A env fun e s' => R (.error e) s') s₂) (notedBy (model prog w) A env fun e s' => R (.error e) s') s₁') (notedBy (model prog w) A env fun e s' => R (.error e) s') s₁) (notedBy (model prog w) A env fun e s' => R (.error e) s') s)
    (n : Nat) (h : I n s) :
    codeAny (model prog w) A (.compLoop (.ListComp elt [⟨target, iter, ifs, 0⟩] scope pos) 0 it acc env) R s := by
  refine codeAny_loop rfl I (fun n s hI => ?_) n h
  show wpAny _ A ((compTurn (.ListComp elt [⟨target, iter, ifs, 0⟩] scope pos) 0 it acc env).onRaise (fun x => do noteFrame x env; theTreesLotGoes x)) _ _ s
  refine wpAny_noted ?_
  rw [compTurn_list]
  refine wpAny_bind (wpAny_standAt (wpAny_bind (wpAny_mono (turn n s hI) (fun r s₁ h₁ => ?_) fun _ _ h' => h')))
  cases r with
  | none => exact wpAny_pure h₁
  | some v =>
    refine wpAny_bind (wpAny_mono h₁ (fun _ s₁' h₁' => ?_) fun _ _ h' => h')
    refine wpAny_bind (wpAny_mono h₁' (fun _ s₂ h₂ => wpAny_bind (wpAny_mono h₂ (fun ok s₃ h₃ => ?_) fun _ _ h' => h')) fun _ _ h' => h')
    cases ok with
    | false => exact wpAny_pure ⟨rfl, h₃⟩
    | true =>
      exact wpAny_bind (wpAny_bind (wpAny_mono h₃ (fun x s₄ h₄ => wpAny_bind (wpAny_mono h₄ (fun _ s₅ h₅ => wpAny_pure (wpAny_pure ⟨rfl, h₅⟩)) fun _ _ h' => h')) fun _ _ h' => h'))
section
variable {X : Cx}
/-- [elt for target in iter if ..]: D the new list; W by the turn and a measure, Nx what a turn is to reach -/
def tLc (wi : TI) (g : TG) (tt : TT) (te : TE) (vs : List Nat) : TE := fun σ H Q => wi σ H fun J H1 => ∀ D, H1 D = none → ∃ W : Nat → Nat → Hp → Prop, (∃ m, W 0 m (upd H1 D (.lst []))) ∧ ∀ i m H, W i m H →
  (J.stop i H ∧ Q (.ref D) H) ∨ (J.go i H ∧ ∃ Nx : Hp → Prop, (∀ H', Nx H' → ∃ m', m' < m ∧ W (i + 1) m' H') ∧ ∀ x H', J.yld i H x H' → g x (wipe σ vs) H' fun σ2 H2 => wipe σ2 vs = wipe σ vs ∧ tt σ2 H2 fun b H3 =>
    if b = true then te σ2 H3 fun y H4 => ∃ acc, H4 D = some (.lst acc) ∧ acc.length < sizeLine ∧ Nx (upd H4 D (.lst (acc ++ [y]))) else Nx H3)
theorem lc_core {pins : List (Addr × Obj)} {s : Shared} {σ : St} {H : Hp} {Q : VK} {elt tg iter : Expr} {ifs : List Expr} {scope : Scope} {own : List (Str × Nat)} {pos pos' : Pos} {wi : TI} {g : TG} {tt : TT} {te : TE} {use : Option (Value → Sem Unit)} {Qf : Value → Shared → Prop}
    (hc : X.calm = true) (hN : X.N.Nodup) (I : Inv X pins σ H s) (hi : PI X tg iter wi) (ok : BlkOk X.N X.env.scope scope own)
    (hg : ∀ (s : Shared) (H : Hp) (C : Addr) (cl : List (Str × Addr)) (fp : List Addr), PG (X.blk s H scope (compEnvC scope cl C X.env) fp) tg g) (ht : ∀ (s : Shared) (H : Hp) (C : Addr) (cl : List (Str × Addr)) (fp : List Addr), PTs (X.blk s H scope (compEnvC scope cl C X.env) fp) ifs tt)
    (he : ∀ (s : Shared) (H : Hp) (C : Addr) (cl : List (Str × Addr)) (fp : List Addr), PE (X.blk s H scope (compEnvC scope cl C X.env) fp) elt te) (hs : ∀ x, foldedSetIterable iter X.env x = pure x)
    (h : tLc wi g tt te (own.map (·.2)) σ H Q)
    (hRR : ∀ D C s' m H', Inv X pins σ H' s' → Q (.ref D) H' → s'.heap.Ns C m → FpOk X pins H' C → compPost (model X.prog X.w) X.A X.xe use Qf (.ref D) C (.ok .next) s') :
    wpAny (model X.prog X.w) X.A (comprehension (.ListComp elt [⟨tg, iter, ifs, 0⟩] scope pos) scope X.env pos' (newList []) false (eval iter X.env) use) Qf X.xe s := by
  have hfree : ∀ y ∈ scope.names, y.2 = .free → ∃ c, X.env.cells.lookup y.1 = some c := fun y hy e => by
    rcases ok.free y hy e with k | k
    · exact I.ok.has _ (.inl k)
    · exact I.ok.has _ (.inr k)
  refine wpAny_comprehension_free (use := use) rfl hs (closure_ok hfree) ok.kind (fun y hy e => by rw [ok.uniq y hy, e])
    (thn (hi pins s σ H _ I h) fun xv s1 hx => thn hx fun itv s2 h2 => ?_)
  obtain ⟨it, fp, tn, J, H2, e, I2, T, st2, f2, q⟩ := h2
  subst e
  refine wpAny_newObj_type (newEnv_comp ?_) (by show 0 ≤ sizeLine; decide)
  generalize hD : s2.heap.objs.size = D
  have hDn : H2 D = none := I2.hok.fresh (Nat.le_of_eq hD)
  obtain ⟨W, ⟨m0, w0⟩, turn⟩ := q D hDn
  -- the new list
  generalize hs3 : ({ s2 with heap := s2.heap.push { cls := .type "list", data := .seq ([] : List Value).toArray } } : Shared) = s3
  have I3 : Inv X pins σ (upd H2 D (.lst [])) s3 := by
    rw [← hs3]
    refine I2.laid (t' := s2.toks) (fun b o e => Heap.get?_push_of_some _ e) (Nat.le_of_eq hD) ⟨Nat.zero_le _, [], 0, .nil, ?_⟩
    rw [← hD]
    exact Heap.get?_push_size _ rfl
  have h3 : s3.heap = s2.heap.push { cls := .type "list", data := .seq ([] : List Value).toArray } := by rw [← hs3]
  have sz : ∀ b ∈ fp, b < s2.heap.objs.size := fun b hb => by
    obtain ⟨o, e, _⟩ := T.obj _ _ st2 b hb
    exact Heap.lt_size e
  have f3 : ∀ b ∈ fp, FpOk X pins (upd H2 D (.lst [])) b ∧ b < s3.heap.objs.size := fun b hb => by
    have hlt := sz b hb
    refine ⟨⟨?_, (f2 b hb).2⟩, by rw [h3, Heap.size_push]; exact Nat.lt_succ_of_lt hlt⟩
    rw [upd_ne (by rw [← hD]; exact Nat.ne_of_lt hlt)]
    exact (f2 b hb).1
  have st3 : tn 0 s3.heap := T.keep _ _ _ st2 fun b _ o e => by rw [h3]; exact Heap.get?_push_of_some _ e
  have I4 := block_start I3 ok hN f3
  have pg := hg s3 (upd H2 D (.lst [])) s3.heap.objs.size (cellsFrom (s3.heap.objs.size + 1) scope.names (cloFrom X.env.cells scope.names [])) fp
  have pt := ht s3 (upd H2 D (.lst [])) s3.heap.objs.size (cellsFrom (s3.heap.objs.size + 1) scope.names (cloFrom X.env.cells scope.names [])) fp
  have pe := he s3 (upd H2 D (.lst [])) s3.heap.objs.size (cellsFrom (s3.heap.objs.size + 1) scope.names (cloFrom X.env.cells scope.names [])) fp
  show codeAny _ _ (.compStart (.ListComp elt [⟨tg, iter, ifs, 0⟩] scope pos) 0 (.ref it) (.ref D) (compEnvC scope (cellsFrom (s3.heap.objs.size + 1) scope.names (cloFrom X.env.cells scope.names [])) s3.heap.objs.size X.env)) (compPost (model X.prog X.w) X.A X.xe use Qf (.ref D) s3.heap.objs.size) { s3 with heap := pushCells (s3.heap.push { cls := .type "dict", data := .dict #[] }) scope.names }
  have nfp : ∀ b ∈ fp, (upd H2 D (.lst [])) b = none := fun b hb => (f3 b hb).1.1
  generalize hce : compEnvC scope (cellsFrom (s3.heap.objs.size + 1) scope.names (cloFrom X.env.cells scope.names [])) s3.heap.objs.size X.env = ce at I4 pg pt pe ⊢
  have cL : ce.locals = s3.heap.objs.size := by subst hce; rfl
  generalize hH3 : upd H2 D (.lst []) = H3 at I3 I4 pg pt pe w0 nfp f3
  generalize hs4 : ({ s3 with heap := pushCells (s3.heap.push { cls := .type "dict", data := .dict #[] }) scope.names } : Shared) = s4 at I4 ⊢
  have st4 : tn 0 s4.heap := T.keep _ _ _ st3 fun b _ o e => by rw [← hs4]; exact pushCells_keeps _ _ _ _ (Heap.get?_push_of_some _ e)
  have stat : ∀ {σ' : St} {H' : Hp} {s' : Shared}, Inv (X.blk s3 H3 scope ce fp) [] σ' H' s' → (∀ b ∈ fp, H' b = none) → ∀ b ∈ fp, FpOk (X.blk s3 H3 scope ce fp) [] H' b := fun {σ' H' s'} I' hn b hb =>
    ⟨hn b hb, (I'.ok.exf b hb).1, I'.ok.exfs b hb, .inl hb, fun x c e => (I'.ok.exf b hb).2 x c e, fun p hp => absurd (show p ∈ ([] : List (Addr × Obj)) ++ [] from hp) (by simp)⟩
  have loop : codeAny (model X.prog X.w) X.A (.compLoop (.ListComp elt [⟨tg, iter, ifs, 0⟩] scope pos) 0 (.ref it) (.ref D) ce) (compPost (model X.prog X.w) X.A X.xe use Qf (.ref D) s3.heap.objs.size) s4 := by
    refine compLoop_any (fun n s' => ∃ i H', Inv (X.blk s3 H3 scope ce fp) [] (wipe σ (own.map (·.2))) H' s' ∧ tn i s'.heap ∧ (∀ b ∈ fp, H' b = none) ∧ W i n H') ?_ m0 ⟨0, H3, I4, st4, nfp, w0⟩
    rintro n s5 ⟨i, H5, I5, st5, n5, w5⟩
    rcases turn i n H5 w5 with ⟨stop, qq⟩ | ⟨go, Nx, hNx, step⟩
    · have td := T.done (X.blk s3 H3 scope ce fp) rfl rfl rfl hc i [] s5 _ H5 (fun _ _ => False) I5 (stat I5 n5) st5 stop
      refine thnF td fun r s6 ⟨hr, I6⟩ => ?_
      subst hr
      -- back in the def's context
      have I7 : Inv X pins σ H5 s6 := I3.call' (ch := fp) I6.os I6.base I6.hok I6.bare fun b hb => ⟨(f3 b hb).1.2.2.2.1, (f3 b hb).1.2.1, (f3 b hb).1.2.2.2.2.1, (f3 b hb).1.2.2.2.2.2⟩
      have nC : H5 s3.heap.objs.size = none := by
        have z : H5 ce.locals = none := I6.free
        rw [cL] at z
        exact z
      obtain ⟨m, hn, _⟩ := I6.loc
      have hn : s6.heap.Ns ce.locals m := hn
      rw [cL] at hn
      exact hRR D s3.heap.objs.size s6 m H5 I7 qq hn (I3.fpOk (Nat.le_refl _) nC)
    · have ti := T.item (X.blk s3 H3 scope ce fp) rfl rfl rfl hc i [] s5 _ H5 (fun _ _ => False) I5 (stat I5 n5) st5 go
      refine thnF ti fun r s6 ⟨u, hr, h6⟩ => ?_
      subst hr
      refine thnF h6 fun _ s7 ⟨x, H7, I7, r7, y7, st7, n7⟩ => ?_
      have I7' := I7.pinned (stat I7 n7) (T.obj _ _ st7)
      refine thnF (pg _ s7 _ H7 x u _ I7' r7 (step x H7 y7)) fun _ s8 ⟨σ8, H8, I8, hw8, q8⟩ => ?_
      refine thnF (pt _ s8 σ8 H8 _ I8 q8) fun b s9 ⟨H9, I9, q9⟩ => ?_
      -- the turn's end
      have fin : ∀ {s' : Shared} {H' : Hp}, Inv (X.blk s3 H3 scope ce fp) ([] ++ pinsAt fp s7.heap) σ8 H' s' → Nx H' → ∃ m, m < n ∧ ∃ i H', Inv (X.blk s3 H3 scope ce fp) [] (wipe σ (own.map (·.2))) H' s' ∧ tn i s'.heap ∧ (∀ b ∈ fp, H' b = none) ∧ W i m H' := fun {s' H'} I' nx => by
        obtain ⟨m', hm, w'⟩ := hNx H' nx
        have pin' : ∀ b ∈ fp, ∀ o, s7.heap.get? b = some o → s'.heap.get? b = some o ∧ H' b = none := fun b hb o e =>
          let z := I'.pin (b, o) (List.mem_append_right _ (List.mem_append_right _ (mem_pinsAt hb e)))
          ⟨z.1, z.2.1⟩
        have hl : (wipe σ (own.map (·.2))).length = σ8.length := by rw [← hw8, wipe_length]
        refine ⟨m', hm, i + 1, H', (I'.unpinned (pins := [])).weak hl (fun j v e => ?_), T.keep _ _ _ st7 fun b hb o e => (pin' b hb o e).1, fun b hb => ?_, w'⟩
        · rw [← hw8] at e
          exact (wipe_some e).1
        · obtain ⟨o, e, _⟩ := T.obj _ _ st7 b hb
          exact (pin' b hb o e).2
      cases b with
      | false =>
        simp only [Bool.false_eq_true, if_false] at q9 ⊢
        exact fin I9 q9
      | true =>
        simp only [if_true] at q9 ⊢
        refine thnF (pe _ s9 σ8 H9 _ I9 q9) fun z s10 ⟨yv, H10, I10, r10, acc, hD10, hz10, nx⟩ => ?_
        exact app_ok (X := X.blk s3 H3 scope ce fp) I10 hD10 hz10 r10 fun s11 I11 => fin I11 nx
  exact codeAny_compStart_list loop (T.self X.A 0 _ _ _ st4 loop)
/-- as a value -/
theorem pe_lc {elt tg iter : Expr} {ifs : List Expr} {scope : Scope} {own : List (Str × Nat)} {pos : Pos} {wi : TI} {g : TG} {tt : TT} {te : TE} (hc : X.calm = true) (hN : X.N.Nodup) (hi : PI X tg iter wi) (ok : BlkOk X.N X.env.scope scope own)
    (hg : ∀ (s : Shared) (H : Hp) (C : Addr) (cl : List (Str × Addr)) (fp : List Addr), PG (X.blk s H scope (compEnvC scope cl C X.env) fp) tg g) (ht : ∀ (s : Shared) (H : Hp) (C : Addr) (cl : List (Str × Addr)) (fp : List Addr), PTs (X.blk s H scope (compEnvC scope cl C X.env) fp) ifs tt)
    (he : ∀ (s : Shared) (H : Hp) (C : Addr) (cl : List (Str × Addr)) (fp : List Addr), PE (X.blk s H scope (compEnvC scope cl C X.env) fp) elt te) (hs : ∀ x, foldedSetIterable iter X.env x = pure x := by intro _; rfl) :
    PE X (.ListComp elt [⟨tg, iter, ifs, 0⟩] scope pos) (tLc wi g tt te (own.map (·.2))) := by
  intro pins s σ H Q I h
  rw [eval_ListComp]
  refine lc_core hc hN I hi ok hg ht he hs h fun D C s' m H' I' q hn f => ⟨m, hn, fun h'' sb => ?_⟩
  obtain ⟨f0, f1, f2, f3, f4, f5⟩ := f
  exact ⟨.ref D, H', I'.turned (t' := s'.toks) (fun b o hb e => (sb.2 b hb).trans e) f0 f1 f3 f4 f5, rfl, q⟩
end
/-- over a list that the block leaves as it is -/
theorem lc_list {K : PySem.W.Frag} {a : Addr} {xs : List V} {g : TG} {tt : TT} {te : TE} {vs : List Nat} {σ : St} {H1 : Hp} {D : Addr} {Qd : Hp → Prop} (Pv : Nat → Hp → Prop) (h0 : Pv 0 (upd H1 D (.lst []))) (hl : ∀ i H, i ≤ xs.length → Pv i H → SqL K H a xs)
    (hs : ∀ i x H, xs[i]? = some x → Pv i H → g x (wipe σ vs) H fun σ2 H2 => wipe σ2 vs = wipe σ vs ∧ tt σ2 H2 fun b H3 =>
      if b = true then te σ2 H3 fun y H4 => ∃ acc, H4 D = some (.lst acc) ∧ acc.length < sizeLine ∧ Pv (i + 1) (upd H4 D (.lst (acc ++ [y]))) else Pv (i + 1) H3) (hd : ∀ H, Pv xs.length H → Qd H) :
    ∃ W : Nat → Nat → Hp → Prop, (∃ m, W 0 m (upd H1 D (.lst []))) ∧ ∀ i m H, W i m H →
      ((Itl K a).stop i H ∧ Qd H) ∨ ((Itl K a).go i H ∧ ∃ Nx : Hp → Prop, (∀ H', Nx H' → ∃ m', m' < m ∧ W (i + 1) m' H') ∧ ∀ x H', (Itl K a).yld i H x H' → g x (wipe σ vs) H' fun σ2 H2 => wipe σ2 vs = wipe σ vs ∧ tt σ2 H2 fun b H3 =>
        if b = true then te σ2 H3 fun y H4 => ∃ acc, H4 D = some (.lst acc) ∧ acc.length < sizeLine ∧ Nx (upd H4 D (.lst (acc ++ [y]))) else Nx H3) := by
  refine ⟨fun i m H => m = xs.length - i ∧ i ≤ xs.length ∧ Pv i H, ⟨xs.length, by simp, Nat.zero_le _, h0⟩, ?_⟩
  rintro i m H ⟨rfl, hi, p⟩
  have q := hl i H hi p
  by_cases hlt : i < xs.length
  · refine .inr ⟨⟨xs, xs[i], q, by simp [hlt]⟩, Pv (i + 1), fun H' p' => ⟨xs.length - (i + 1), by omega, rfl, hlt, p'⟩, fun x H' y => ?_⟩
    obtain ⟨e, y⟩ := y
    subst e
    exact hs i x _ (y xs q) p
  · have e : i = xs.length := by omega
    subst e
    exact .inl ⟨⟨xs, q, Nat.le_refl _⟩, hd H p⟩
/-- over a tuple -/
theorem lc_tup {K : PySem.W.Frag} {a : Addr} {xs : List V} {g : TG} {tt : TT} {te : TE} {vs : List Nat} {σ : St} {H1 : Hp} {D : Addr} {Qd : Hp → Prop} (Pv : Nat → Hp → Prop) (h0 : Pv 0 (upd H1 D (.lst []))) (hl : ∀ i H, i ≤ xs.length → Pv i H → SqT K H a xs)
    (hs : ∀ i x H, xs[i]? = some x → Pv i H → g x (wipe σ vs) H fun σ2 H2 => wipe σ2 vs = wipe σ vs ∧ tt σ2 H2 fun b H3 =>
      if b = true then te σ2 H3 fun y H4 => ∃ acc, H4 D = some (.lst acc) ∧ acc.length < sizeLine ∧ Pv (i + 1) (upd H4 D (.lst (acc ++ [y]))) else Pv (i + 1) H3) (hd : ∀ H, Pv xs.length H → Qd H) :
    ∃ W : Nat → Nat → Hp → Prop, (∃ m, W 0 m (upd H1 D (.lst []))) ∧ ∀ i m H, W i m H →
      ((Itt K a).stop i H ∧ Qd H) ∨ ((Itt K a).go i H ∧ ∃ Nx : Hp → Prop, (∀ H', Nx H' → ∃ m', m' < m ∧ W (i + 1) m' H') ∧ ∀ x H', (Itt K a).yld i H x H' → g x (wipe σ vs) H' fun σ2 H2 => wipe σ2 vs = wipe σ vs ∧ tt σ2 H2 fun b H3 =>
        if b = true then te σ2 H3 fun y H4 => ∃ acc, H4 D = some (.lst acc) ∧ acc.length < sizeLine ∧ Nx (upd H4 D (.lst (acc ++ [y]))) else Nx H3) := by
  refine ⟨fun i m H => m = xs.length - i ∧ i ≤ xs.length ∧ Pv i H, ⟨xs.length, by simp, Nat.zero_le _, h0⟩, ?_⟩
  rintro i m H ⟨rfl, hi, p⟩
  have q := hl i H hi p
  by_cases hlt : i < xs.length
  · refine .inr ⟨⟨xs, xs[i], q, by simp [hlt]⟩, Pv (i + 1), fun H' p' => ⟨xs.length - (i + 1), by omega, rfl, hlt, p'⟩, fun x H' y => ?_⟩
    obtain ⟨e, y⟩ := y
    subst e
    exact hs i x _ (y xs q) p
  · have e : i = xs.length := by omega
    subst e
    exact .inl ⟨⟨xs, q, Nat.le_refl _⟩, hd H p⟩
def blkC (N : List Str) (sc scope : Scope) (own : List (Str × Nat)) : Bool :=
  (match scope.kind with | .function => true | _ => false) && (scope.names.all fun y => decide (scope.names.lookup y.1 = some y.2)) && (own.all fun p => decide (N[p.2]? = some p.1)) &&
    (scope.names.all fun y => match y.2 with
      | .free => (match sc.names.lookup y.1 with | some .cell => true | some .free => true | _ => false)
      | .local => decide (y.1 ∈ own.map (·.1)) || decide (y.1 ∉ N)
      | .cell => decide (y.1 ∈ own.map (·.1)) || decide (y.1 ∉ N)
      | _ => true)
theorem blkOk_by {N : List Str} {sc scope : Scope} {own : List (Str × Nat)} (h : blkC N sc scope own = true) : BlkOk N sc scope own := by
  unfold blkC at h
  simp only [Bool.and_eq_true, List.all_eq_true, decide_eq_true_eq] at h
  obtain ⟨⟨⟨h1, h2⟩, h3⟩, h4⟩ := h
  refine ⟨?_, h2, h3, fun y hy e => ?_, fun y hy e => ?_⟩
  · split at h1
    · assumption
    · cases h1
  · have q := h4 y hy
    simp only [e] at q
    split at q <;> first | exact .inl (by assumption) | exact .inr (by assumption) | cases q
  · have q := h4 y hy
    rcases e with e | e <;> (simp only [e, Bool.or_eq_true, decide_eq_true_eq] at q; exact q)
end L2
namespace L2
open PySem PySem.Spec PyProof.Rows
section
variable {prog : Program} {w : World} {A : Around} {R : Result → Shared → Prop} {s : Shared} {elt t0 i0 t1 i1 : Expr} {ifs0 ifs1 : List Expr} {scope : Scope} {pos : Pos} {it acc : Value} {env : Env}
end
section
variable {X : Cx}
end
end L2
namespace L2
open PySem PySem.Spec PyProof.Rows
section
variable {κ : Type} [DecidableEq κ]
def valV (kvs : List (κ × V)) (k : κ) : Option V := (kvs.find? fun kv => decide (kv.1 = k)).map (·.2)
/-- in its place, or at the end -/
def putK (kvs : List (κ × V)) (k : κ) (v : V) : List (κ × V) :=
  if (kvs.any fun kv => decide (kv.1 = k)) = true then kvs.map (fun kv => if kv.1 = k then (kv.1, v) else kv) else kvs ++ [(k, v)]
def dropK (kvs : List (κ × V)) (k : κ) : List (κ × V) := kvs.filter fun kv => decide (kv.1 ≠ k)
theorem valV_pos {p : κ × V} {r : List (κ × V)} {k : κ} (e : p.1 = k) : valV (p :: r) k = some p.2 := by simp [valV, List.find?_cons, e]
theorem valV_neg {p : κ × V} {r : List (κ × V)} {k : κ} (e : ¬ p.1 = k) : valV (p :: r) k = valV r k := by simp [valV, List.find?_cons, e]
theorem valV_any (k : κ) : ∀ kvs : List (κ × V), (kvs.any fun kv => decide (kv.1 = k)) = (valV kvs k).isSome
  | [] => rfl
  | p :: r => by
    rw [List.any_cons]
    by_cases e : p.1 = k
    · simp only [valV_pos e, decide_eq_true e, Bool.true_or, Option.isSome_some]
    · rw [valV_neg e, decide_eq_false e, Bool.false_or]; exact valV_any k r
theorem RelO.isSome_eq {o : Option V} {u : Option Value} (r : RelO o u) : o.isSome = u.isSome := by
  cases o with
  | none => cases u with
    | none => rfl
    | some _ => exact (show False from r).elim
  | some _ => cases u with
    | none => exact (show False from r).elim
    | some _ => rfl
theorem RelO.getD {o : Option V} {u : Option Value} {d : V} {d' : Value} (r : RelO o u) (rd : RelV d d') : RelV (o.getD d) (u.getD d') := by
  cases o with
  | none => cases u with
    | none => exact rd
    | some _ => exact (show False from r).elim
  | some _ => cases u with
    | none => exact (show False from r).elim
    | some _ => exact r
/-- raw tables of the same keys -/
theorem KV.val {kvs : List (κ × V)} {vs : List (κ × Value)} (r : KV kvs vs) (k : κ) : RelO (valV kvs k) (valueAt vs k) := by
  unfold KV at r
  induction r with
  | nil => exact True.intro
  | @cons p q ps qs h t ih =>
    obtain ⟨h1, h2⟩ := h
    by_cases e : p.1 = k
    · have e' : q.1 = k := h1.symm.trans e
      have b : valueAt (q :: qs) k = some q.2 := by simp [valueAt, List.find?_cons, e']
      rw [valV_pos e, b]; exact h2
    · have e' : ¬ q.1 = k := fun z => e (h1.trans z)
      have b : valueAt (q :: qs) k = valueAt qs k := by simp [valueAt, List.find?_cons, e']
      rw [valV_neg e, b]; exact ih
theorem KV.any {kvs : List (κ × V)} {vs : List (κ × Value)} (r : KV kvs vs) (k : κ) : (kvs.any fun kv => decide (kv.1 = k)) = vs.any fun kv => decide (kv.1 = k) := by
  unfold KV at r
  induction r with
  | nil => rfl
  | cons h t ih => rw [List.any_cons, List.any_cons, ih, h.1]
theorem KV.repl {kvs : List (κ × V)} {vs : List (κ × Value)} (r : KV kvs vs) (k : κ) {y : V} {u : Value} (ry : RelV y u) :
    KV (kvs.map fun kv => if kv.1 = k then (kv.1, y) else kv) (vs.map fun kv => if kv.1 = k then (kv.1, u) else kv) := by
  unfold KV at r ⊢
  induction r with
  | nil => exact .nil
  | @cons p q ps qs h t ih =>
    rw [List.map_cons, List.map_cons]
    refine .cons ?_ ih
    obtain ⟨h1, h2⟩ := h
    by_cases e : p.1 = k
    · rw [if_pos e, if_pos (h1.symm.trans e)]; exact ⟨h1, ry⟩
    · rw [if_neg e, if_neg (fun z => e (h1.trans z))]; exact ⟨h1, h2⟩
theorem KV.put {kvs : List (κ × V)} {vs : List (κ × Value)} (r : KV kvs vs) (k : κ) {y : V} {u : Value} (ry : RelV y u) : KV (putK kvs k y) (stored vs k u) := by
  unfold putK stored
  rw [r.any k]
  by_cases e : (vs.any fun kv => decide (kv.1 = k)) = true
  · rw [if_pos e, if_pos e]; exact r.repl k ry
  · rw [if_neg e, if_neg e]; exact Paired.snoc r ⟨rfl, ry⟩
theorem KV.drop {kvs : List (κ × V)} {vs : List (κ × Value)} (r : KV kvs vs) (k : κ) : KV (dropK kvs k) (without vs k) := by
  unfold KV at r ⊢
  unfold dropK without
  induction r with
  | nil => exact .nil
  | @cons p q ps qs h t ih =>
    obtain ⟨h1, h2⟩ := h
    rw [List.filter_cons, List.filter_cons]
    by_cases e : p.1 = k
    · have a : ¬ decide (p.1 ≠ k) = true := by simp [e]
      have b : ¬ decide (q.1 ≠ k) = true := by simp [h1.symm.trans e]
      rw [if_neg a, if_neg b]; exact ih
    · have e' : ¬ q.1 = k := fun z => e (h1.trans z)
      have a : decide (p.1 ≠ k) = true := by simp [e]
      have b : decide (q.1 ≠ k) = true := by simp [e']
      rw [if_pos a, if_pos b]; exact .cons ⟨h1, h2⟩ ih
theorem KV.keys {kvs : List (κ × V)} {vs : List (κ × Value)} (r : KV kvs vs) : kvs.map (·.1) = vs.map (·.1) := by
  unfold KV at r
  induction r with
  | nil => rfl
  | cons h t ih => rw [List.map_cons, List.map_cons, ih, h.1]
theorem KV.length {kvs : List (κ × V)} {vs : List (κ × Value)} (r : KV kvs vs) : kvs.length = vs.length := Paired.length r
end
/-- raw entries of a dict with tuple keys -/
abbrev KT (H : Hp) : List (List Key × V) → List (List Key × Addr × Value) → Prop := Paired fun p q => p.1 = q.1 ∧ H q.2.1 = some (.tup (p.1.map kV)) ∧ RelV p.2 q.2.2
theorem KT.val {H : Hp} {kvs : List (List Key × V)} {xs : List (List Key × Addr × Value)} (r : KT H kvs xs) (k : List Key) : RelO (valV kvs k) ((atKey xs k).map (·.2)) := by
  induction r with
  | nil => exact True.intro
  | @cons p q ps qs h t ih =>
    obtain ⟨h1, _, h2⟩ := h
    by_cases e : p.1 = k
    · have e' : q.1 = k := h1.symm.trans e
      have b : atKey (q :: qs) k = some q.2 := by simp [atKey, List.find?_cons, e']
      rw [valV_pos e, b]; exact h2
    · have e' : ¬ q.1 = k := fun z => e (h1.trans z)
      have b : atKey (q :: qs) k = atKey qs k := by simp [atKey, List.find?_cons, e']
      rw [valV_neg e, b]; exact ih
theorem KT.repl {H : Hp} {kvs : List (List Key × V)} {xs : List (List Key × Addr × Value)} (r : KT H kvs xs) (k : List Key) {y : V} {u : Value} (ry : RelV y u) :
    KT H (kvs.map fun kv => if kv.1 = k then (kv.1, y) else kv) (xs.map (putAt k u)) := by
  induction r with
  | nil => exact .nil
  | @cons p q ps qs h t ih =>
    rw [List.map_cons, List.map_cons]
    refine .cons ?_ ih
    obtain ⟨h1, h2, h3⟩ := h
    unfold putAt
    by_cases e : p.1 = k
    · rw [if_pos e, if_pos (h1.symm.trans e)]; exact ⟨h1, h2, ry⟩
    · rw [if_neg e, if_neg (fun z => e (h1.trans z))]; exact ⟨h1, h2, h3⟩
theorem KT.put {H : Hp} {kvs : List (List Key × V)} {xs : List (List Key × Addr × Value)} (r : KT H kvs xs) (k : List Key) {b : Addr} {y : V} {u : Value} (hb : H b = some (.tup (k.map kV))) (ry : RelV y u) :
    KT H (putK kvs k y) (storedH xs k b u) := by
  have e : (kvs.any fun kv => decide (kv.1 = k)) = (atKey xs k).isSome := by
    rw [valV_any, (r.val k).isSome_eq, Option.isSome_map]
  unfold putK storedH
  rw [e]
  by_cases q : (atKey xs k).isSome = true
  · rw [if_pos q, if_pos q]; exact r.repl k ry
  · rw [if_neg q, if_neg q]; exact Paired.snoc r ⟨rfl, hb, ry⟩
theorem KT.keeps {H H' : Hp} {kvs : List (List Key × V)} {xs : List (List Key × Addr × Value)} (r : KT H kvs xs) (ht : ∀ b ys, H b = some (.tup ys) → H' b = some (.tup ys)) : KT H' kvs xs :=
  Paired.mapP r fun _ _ z => ⟨z.1, ht _ _ z.2.1, z.2.2⟩
section
variable {P : Program} {w : World} {H : Hp} {h : Heap} {a : Addr}
end
/-- what the dict at a holds at the key y -/
def DGet (H : Hp) (a : Addr) (y : V) (r : Option V) : Prop :=
  (∃ kvs k, Rd H a (.dK kvs) ∧ y = kV k ∧ r = valV kvs k) ∨ ∃ kvs k b, Rd H a (.dT kvs) ∧ y = .ref b ∧ H b = some (.tup (k.map kV)) ∧ r = valV kvs k
/-- the heap behind a[y] = v -/
def DPut (H : Hp) (a : Addr) (y v : V) (H' : Hp) : Prop :=
  (∃ kvs k, H a = some (.dK kvs) ∧ y = kV k ∧ kvs.length < sizeLine ∧ H' = upd H a (.dK (putK kvs k v))) ∨
  ∃ kvs k b, H a = some (.dT kvs) ∧ y = .ref b ∧ H b = some (.tup (k.map kV)) ∧ kvs.length < sizeLine ∧ H' = upd H a (.dT (putK kvs k v))
theorem DGet.k {H : Hp} {a : Addr} {kvs : List (Key × V)} {k : Key} (e : H a = some (.dK kvs)) : DGet H a (kV k) (valV kvs k) := .inl ⟨kvs, k, .inl e, rfl, rfl⟩
theorem DGet.t {H : Hp} {a b : Addr} {kvs : List (List Key × V)} {k : List Key} (e : H a = some (.dT kvs)) (eb : H b = some (.tup (k.map kV))) : DGet H a (.ref b) (valV kvs k) := .inr ⟨kvs, k, b, .inl e, rfl, eb, rfl⟩
theorem DPut.k {H : Hp} {a : Addr} {kvs : List (Key × V)} {k : Key} {v : V} (e : H a = some (.dK kvs)) (hl : kvs.length < sizeLine) : DPut H a (kV k) v (upd H a (.dK (putK kvs k v))) := .inl ⟨kvs, k, e, rfl, hl, rfl⟩
theorem DPut.t {H : Hp} {a b : Addr} {kvs : List (List Key × V)} {k : List Key} {v : V} (e : H a = some (.dT kvs)) (eb : H b = some (.tup (k.map kV))) (hl : kvs.length < sizeLine) :
    DPut H a (.ref b) v (upd H a (.dT (putK kvs k v))) := .inr ⟨kvs, k, b, e, rfl, eb, hl, rfl⟩
section
variable {X : Cx} {pins : List (Addr × Obj)} {σ : St} {H : Hp} {s : Shared} {a : Addr} {y v : V} {u r : Value} {o : Option V} {A : Around} {E : Value → Shared → Prop}
end
section
variable {X : Cx} {pins : List (Addr × Obj)} {σ : St} {H : Hp} {s : Shared} {a : Addr} {kvs : List (Key × V)} {k : Key} {u : Value} {A : Around} {E : Value → Shared → Prop}
end
section
variable {X : Cx} {o i e value : Expr} {pos pos' tpos : Pos} {td ty tv : TE}
end
section
variable {X : Cx} {pos : Pos}
end
section
variable {X : Cx} {pins : List (Addr × Obj)} {σ : St} {H : Hp} {s : Shared} {a : Addr} {y d : V} {u r : Value} {o : Option V} {A : Around} {E : Value → Shared → Prop}
end
section
variable {X : Cx} {o e f : Expr} {apos cpos : Pos} {td ty tx : TE}
end
section
variable {X : Cx} {pins : List (Addr × Obj)} {σ : St} {H : Hp} {s : Shared} {a : Addr} {kvs : List (Key × V)} {A : Around} {E : Value → Shared → Prop}
end
section
variable {X : Cx} {pins : List (Addr × Obj)} {σ : St} {H : Hp} {s : Shared} {a : Addr} {y : V} {u : Value} {A : Around} {E : Value → Shared → Prop}
end
end L2
namespace L2
open PySem PySem.Spec PyProof.Rows
section
variable {prog : Program} {w : World} {A : Around} {E : Value → Shared → Prop}
end
section
variable {X : Cx}
end
end L2
namespace L2
open PySem PySem.Spec PyProof.Rows
theorem boot_reversed5 : bootBuiltins "reversed" = some (.type "reversed") := by decide +kernel
section
variable {X : Cx} {pins : List (Addr × Obj)} {σ : St} {H : Hp} {s : Shared} {h' : Heap}
/-- .. and one new object is laid -/
theorem Inv.turnedNew {t' : Nat} {ch : List Addr} {T : Addr} {ob : HO} (I : Inv X pins σ H s) (k : ∀ b o, b ∉ ch → s.heap.get? b = some o → h'.get? b = some o) (hf : ∀ b ∈ ch, FpOk X pins H b) (hT : s.heap.objs.size ≤ T)
    (new : ObjOk X.prog X.w (upd H T ob) h' T ob) : Inv X pins σ (upd H T ob) { s with heap := h', toks := t' } := by
  have hn : H T = none := I.hok.fresh hT
  have nit : ∀ b u, H b = some u → b ∉ ch := fun b u e z => by
    have q := (hf b z).1
    rw [q] at e; cases e
  refine I.step (g' := s.gens) (d' := s.drawn) (ch := ch) (fun b hb => ⟨(hf b hb).2.2.2.1, (hf b hb).2.1, (hf b hb).2.2.2.2.1, (hf b hb).2.2.2.2.2⟩) (fun b o _ _ hc e _ => k b o hc e) (fun b o _ _ hc e _ => ⟨o.slots, k b o hc e⟩)
    (fun b o _ e n => ?_) (fun b o hc e => ⟨o, k b o hc e⟩) (fun b xs e => ?_) (fun b o u e => ?_) (fun b ps e => ⟨#[], ?_⟩) (fun m hm => ?_) (fun b u e => ?_) I.bare
  · rw [upd_ne (Nat.ne_of_lt (Nat.lt_of_lt_of_le (Heap.lt_size e) hT))]; exact n
  · rw [upd_ne (ne_of_none e hn)]; exact e
  · rw [upd_ne (ne_of_none e hn)]; exact e
  · rw [upd_ne (ne_of_none e hn), e]; simp
  · obtain ⟨o, es, ep, ho, r⟩ := hm
    exact ⟨o, es, ep, k _ o (fun z => (hf _ z).2.1 rfl) ho, r⟩
  · by_cases hb : b = T
    · subst hb
      rw [upd_same] at e
      cases e
      exact new
    · rw [upd_ne hb] at e
      refine (I.hok b u e).stay (fun c v hc q => k c v ?_ q) (fun c q => by rw [upd_ne (ne_of_none q hn)]; exact q) fun c xs q => by rw [upd_ne (ne_of_none q hn)]; exact q
      rcases hc with z | z
      · rw [z]; exact nit b u e
      · exact nit c _ z
end
section
variable {X : Cx}
end
/-- range(i, j, c): small bounds, n items -/
def RgC (i j c : Int) (n : Nat) : Prop := c ≠ 0 ∧ c.natAbs < 1073741824 ∧ Builtin.Range.small i j c = true ∧ Builtin.Range.rangeSize i j c = n
theorem RgC.neg {i j : Int} (ha : -(2 ^ 62) ≤ i) (ha' : i < 2 ^ 62) (hb : -(2 ^ 62) ≤ j) (hb' : j < 2 ^ 62) : RgC i j (-1) (i - j).toNat :=
  ⟨by decide, by decide, PySem.W.small_down ha ha' hb hb', PySem.W.rangeSize_downNat i j⟩
section
variable {X : Cx} {tg : Expr}
end
section
variable {X : Cx} {tg : Expr}
end
section
variable {prog : Program} {w : World} {A : Around} {E : Value → Shared → Prop} {s : Shared}
end
theorem paired_get {α β : Type} {G : α → β → Prop} {l₁ : List α} {l₂ : List β} (h : Paired G l₁ l₂) : ∀ {i : Nat} {a : α}, l₁[i]? = some a → ∃ b, l₂[i]? = some b ∧ G a b := by
  induction h with
  | nil => intro i a e; simp at e
  | @cons a b l₁ l₂ r t ih =>
    intro i a' e
    cases i with
    | zero =>
      simp only [List.getElem?_cons_zero, Option.some.injEq] at e
      subst e
      exact ⟨b, rfl, r⟩
    | succ j =>
      simp only [List.getElem?_cons_succ] at e ⊢
      exact ih e
section
variable {X : Cx} {pins : List (Addr × Obj)} {σ : St} {H : Hp} {s : Shared} {d : Addr} {o : Obj}
end
section
variable {P : Program} {w : World} {K : PySem.W.Frag} {tg : Expr} {d : Addr} {o : Obj} {es : Array DictEntry} {ep : Nat}
end
section
variable {X : Cx} {tg e : Expr} {td : TE} {apos cpos : Pos}
end
/-- the list at a as it stands at each turn, each item in a new pair -/
def Ite (K : PySem.W.Frag) (a : Addr) : It :=
  ⟨fun i H => ∃ (xs : List V) (x : V), SqL K H a xs ∧ xs[i]? = some x, fun i H v H' => ∃ T x, v = .ref T ∧ H T = none ∧ H' = upd H T (.tup [.int (i : Nat), x]) ∧ ∀ xs, SqL K H a xs → xs[i]? = some x, fun i H => ∃ xs : List V, SqL K H a xs ∧ xs.length ≤ i⟩
theorem turn_enum {P : Program} {w : World} {K : PySem.W.Frag} {elts : List Expr} {kk : Nat} {tpos : Pos} (a e it : Addr) :
    Turn P w K (.Tuple elts kk tpos) (Ite K a) [e, it] e (fun i h => (∃ old, IsEnum h e it ((i : Nat) : Int) old) ∧ h.IsListIter it a i ∧ e ≠ it) where
  mem := by simp
  obj := fun i h st b hb => by
    obtain ⟨⟨old, he⟩, ⟨o, ho, hc, hd⟩, _⟩ := st
    have e' : b = e ∨ b = it := by simpa using hb
    rcases e' with z | z
    · rw [z]; exact ⟨_, he, fun v q => nomatch q⟩
    · rw [z]; exact ⟨o, ho, fun v q => by rw [hd] at q; cases q⟩
  keep := fun i h h' st k => let ⟨⟨old, he⟩, hi, hne⟩ := st; ⟨⟨old, k e (by simp) _ he⟩, hi.at fun o q => k it (by simp) o q, hne⟩
  item := by
    intro X hP hw hK hc i pins s σ H E I hf st hg
    subst hP hw hK
    obtain ⟨⟨old, he⟩, hit, hne⟩ := st
    obtain ⟨xs, x, hq, hx⟩ := hg
    obtain ⟨its, rv, p, hz⟩ := I.list hq
    obtain ⟨u, hu, ru⟩ := rv.get hx
    have hel : e < s.heap.objs.size := Heap.lt_size he
    have hil : it < s.heap.objs.size := by obtain ⟨_, q, _⟩ := hit; exact Heap.lt_size q
    refine wpAny_pyNext_enum_item he hit p.isList (x := u) (by simpa using hu) hne fun h' ho hit' hT hsz hk => ?_
    refine ⟨_, rfl, wpAny_letOwnedTupleGo_enum (s := { s with heap := h', toks := s.toks + 1 }) ho fun h'' he' sb => ?_⟩
    have hT2 : h''.get? s.heap.objs.size = some { cls := .type "tuple", data := .seq #[.int i s.toks, u] } := (sb.2 _ (Nat.ne_of_gt hel)).trans hT
    have new : ObjOk X.prog X.w (upd H s.heap.objs.size (.tup [.int (i : Nat), x])) h'' s.heap.objs.size (.tup [.int (i : Nat), x]) :=
      ⟨by show 2 ≤ sizeLine; decide, [.int i s.toks, u], .cons ⟨_, rfl⟩ (.cons ru .nil), ⟨_, hT2, rfl, _, rfl⟩⟩
    have I1 : Inv X pins σ (upd H s.heap.objs.size (.tup [.int (i : Nat), x])) { s with heap := h'', toks := s.toks + 1 } :=
      I.turnedNew (ch := [e, it]) (fun b ob hb q => (sb.2 b (fun z => hb (by simp [z]))).trans (hk b ob (fun z => hb (by simp [z])) (fun z => hb (by simp [z])) q)) hf (Nat.le_refl _) new
    refine ⟨.ref s.heap.objs.size, _, I1, rfl, ⟨_, x, rfl, I.hok.fresh (Nat.le_refl _), rfl, fun ys hy => by rw [I.list_inj hy hq]; exact hx⟩, ⟨⟨u, ?_⟩, hit'.at fun o q => (sb.2 it (Ne.symm hne)).trans q, hne⟩, fun b hb => ?_⟩
    · have e1 : ((i + 1 : Nat) : Int) = (i : Int) + 1 := by omega
      rw [e1]; exact he'
    · have hb' : b < s.heap.objs.size := by
        have e' : b = e ∨ b = it := by simpa using hb
        rcases e' with z | z
        · rw [z]; exact hel
        · rw [z]; exact hil
      rw [upd_ne (Nat.ne_of_lt hb')]
      exact (hf b hb).1
  done := by
    intro X hP hw hK hc i pins s σ H E I hf st hg
    subst hP hw hK
    obtain ⟨⟨old, he⟩, hit, hne⟩ := st
    obtain ⟨xs, hq, hx⟩ := hg
    obtain ⟨its, rv, p, hz⟩ := I.list hq
    obtain ⟨f0, f1, f2, f3, f4, f5⟩ := hf it (by simp)
    have hl := rv.length
    exact wpAny_pyNext_enum_end (I.ok.hd hc) he hit p.isList (by simp; omega) fun h' eb => ⟨rfl, I.turned (t' := s.toks) (fun b o hb q => eb b o hb q) f0 f1 f3 f4 f5⟩
  self := fun A i s Q E st h => let ⟨⟨_, he⟩, _⟩ := st; wpAny_pyIter_enum he h
def iEnum (K : PySem.W.Frag) (ta : TA) : TI := fun σ H R => ta σ H fun vs H1 => ∃ a xs, vs = [.ref a] ∧ SqL K H1 a xs ∧ R (Ite K a) H1
theorem pi_enum {X : Cx} {e : Expr} {ta : TA} {p pos tpos : Pos} {elts : List Expr} {kk : Nat} (hg : Gl X "enumerate") (hm : X.mg "enumerate" = none) (ha : PA X [e] ta) (hs : starEach [e] X.env = [(false, eval e X.env)] := by rfl) :
    PI X (.Tuple elts kk tpos) (.Call (.Name "enumerate" p) [e] [] pos) (iEnum X.K ta) := by
  intro pins s σ H R I h
  refine Call_ (ld_blt I hg hm boot_enumerate (PyProof.Rows.callWith_type1 (thn (ha pos pins s σ H _ I h) fun us s1 ⟨vs, H1, I1, r1, q1⟩ => ?_) hs rfl))
  obtain ⟨a, xs, ex, hq, q⟩ := q1
  subst ex
  cases r1 with
  | cons r rr =>
    cases rr
    cases r
    obtain ⟨its, rv, p', hz⟩ := I1.list hq
    refine call_enumerate_list p'.isList fun h' he hit hsz hk => wpAny_pyIter_enum he ?_
    have I2 : Inv X pins σ H1 { s1 with heap := h' } := I1.kept (t' := s1.toks) hk
    refine ⟨s1.heap.objs.size + 1, [s1.heap.objs.size + 1, s1.heap.objs.size], _, _, H1, rfl, I2, turn_enum a (s1.heap.objs.size + 1) s1.heap.objs.size, ⟨⟨.none, he⟩, hit, Nat.succ_ne_self _⟩, fun b hb => ?_, q⟩
    have e' : b = s1.heap.objs.size + 1 ∨ b = s1.heap.objs.size := by simpa using hb
    have hle : s1.heap.objs.size ≤ b := by
      rcases e' with z | z
      · rw [z]; exact Nat.le_add_right _ _
      · rw [z]; exact Nat.le_refl _
    exact I1.fpOk hle (I1.hok.fresh hle)
end L2
section 
namespace Bits
open PySem PyProof.Rows
end Bits
end 
section 
namespace TL
open PySem PySem.Builtin PySem.Builtin.Str PySem.StrLaws
abbrev tl (x : Str) : List Nat := x.cps.toList
/-- S stands at the head of l -/
def pre (S l : List Nat) : Bool := l.take S.length == S
/-- what stands before the first S, and behind it -/
def par (S : List Nat) : List Nat → List Nat → Option (List Nat × List Nat)
  | _, [] => none
  | acc, c :: r => if pre S (c :: r) = true then some (acc, (c :: r).drop S.length) else par S (acc ++ [c]) r
end TL
end 
namespace L2
open PySem PySem.Spec PyProof.Rows
section
variable {X : Cx} {pins : List (Addr × Obj)} {σ : St} {H : Hp} {s : Shared} {Q : VK}
end
section
variable {X : Cx}
end
section
variable {X : Cx} {o e : Expr} {to te : TE}
end
end L2
namespace L2
open PySem PySem.Spec PyProof.Rows
section
variable {X : Cx}
end
theorem IsPart.raw {v : Value} {o : Option Int} (p : IsPart v o) : ∃ l : Option (Int × Tok), v = partValue l ∧ l.map (·.1) = o := by
  cases p with
  | none => exact ⟨none, rfl, rfl⟩
  | int i t => exact ⟨some (i, t), rfl, rfl⟩
end L2
namespace Att
open PySem PySem.W PySem.Calls PyProof.Rows
section
variable {prog : Program} {w : World} {A : Around} {E : Value → Shared → Prop} {s : Shared} {K : Frag}
end
end Att
namespace L2
open PySem PySem.Spec PyProof.Rows
end L2
namespace L2
open PySem PySem.Spec PyProof.Rows
end L2
namespace L2
open PySem PySem.Spec PyProof.Rows
def defArgs (s : Stmt) : Arguments := match s with
  | .FunctionDef _ a _ _ _ _ _ _ _ _ => a
  | _ => { posonlyargs := [], args := [], vararg := none, kwonlyargs := [], kw_defaults := [], kwarg := none, defaults := [] }
def defBody (s : Stmt) : List Stmt := match s with
  | .FunctionDef _ _ b _ _ _ _ _ _ _ => b
  | _ => []
def defScope (s : Stmt) : Scope := match s with
  | .FunctionDef _ _ _ _ _ _ sc _ _ _ => sc
  | _ => { kind := .function, names := [], isGenerator := false, isCoroutine := false }
abbrev CX0 : CXT := fun _ _ _ _ _ _ => False
abbrev E0 : XK := fun _ _ _ => False
theorem pass0 {X : Cx} : Passes CX0 X E0 := fun _ _ _ _ _ _ _ h => h.elim
structure Fun (K : PySem.W.Frag) (x qual : Str) (st : Stmt) (f : Addr) (fd : FuncData) : Prop where
  ex : ∃ (oc : Value) (od : Option Addr) (kV doc pm : Value) (an : Option Addr) (cdv ct : Value) (osl : Array (Option Value)),
    fd = PySem.W.fnOf x qual (defArgs st) (defBody st) (defScope st) .none kV doc pm an cdv ct ∧ K.lookup f = some ⟨oc, od, .func fd, osl⟩ ∧ PySem.W.codeIn K cdv qual = true
  kp : PySem.W.keepIn K (.ref f) = true
section
variable {P : Program} {w : World} {K : PySem.W.Frag} {mg : Str → Option Value} {base : Heap}
/-- THE RULE for a def: its body as a term of rules, and the reading of that term -/
theorem Fun.ok {x qual : Str} {st : Stmt} {f : Addr} {fd : FuncData} {N ps : List Str} {k : Nat} {sp : Sp} (F : Fun K x qual st f fd) (S : FnScope N ps (defScope st)) (len : ∀ vs H Q E, sp vs H Q E → vs.length = ps.length)
    (hbody : ∀ (cdv : Value) (A : Around) (outer : List Env) (s : Shared) (H : Hp) (vs : List V) (Q : VK) (E : XK), Room k (A.deeper (envOfC qual (defScope st) s.heap.objs.size f cdv)) → sp vs H Q E →
      ∃ t, PSs (cxOf CX0 P w K mg base N qual (defScope st) f cdv A outer s H E).nox (defBody st) t ∧ t { nx := fun _ H' => Q .non H', rt := Q } (start N vs) H) : FnOk P w K mg base CX0 (k + 1) f fd ps sp := by
  obtain ⟨oc, od, kV, doc, pm, an, cdv, ct, osl, rfl, lk, hcd⟩ := F.ex
  refine fn_of lk hcd S len fun A outer s H vs Q E hr hsp => ?_
  obtain ⟨t, h, q⟩ := hbody cdv A outer s H vs Q E hr hsp
  exact ⟨t, h.nox, q⟩
/-- how its arguments bind (no defaults): h is «fun _ _ _ _ _ _ us hl => match us, hl with | [_, _], _ => rfl», one _ a parameter -/
theorem Fun.binds {x qual : Str} {st : Stmt} {f : Addr} {fd : FuncData} {ps : List Str} (F : Fun K x qual st f fd)
    (h : ∀ (kV doc pm : Value) (an : Option Addr) (cdv ct : Value) (us : List Value), us.length = ps.length → bindArgs (PySem.W.fnOf x qual (defArgs st) (defBody st) (defScope st) .none kV doc pm an cdv ct) ⟨us, []⟩ = pure (ps.zip us)) : Binds K fd ps [] := by
  obtain ⟨oc, od, kV, doc, pm, an, cdv, ct, osl, rfl, lk, hcd⟩ := F.ex
  exact .all (h kV doc pm an cdv ct)
theorem fun_mk {x qual : Str} {st : Stmt} {f : Addr} {oc : Value} {od an : Option Addr} {osl : Array (Option Value)} {kV doc pm cdv ct : Value} (l : K.lookup f = some ⟨oc, od, .func (PySem.W.fnOf x qual (defArgs st) (defBody st) (defScope st) .none kV doc pm an cdv ct), osl⟩)
    (c : PySem.W.codeIn K cdv qual = true) (k : PySem.W.keepIn K (.ref f) = true) : Fun K x qual st f (PySem.W.fnOf x qual (defArgs st) (defBody st) (defScope st) .none kV doc pm an cdv ct) := ⟨⟨oc, od, kV, doc, pm, an, cdv, ct, osl, rfl, l, c⟩, k⟩
end
section
variable {X : Cx}
theorem pv (i : Nat) {x : Str} {pos : Pos} (hN : X.N[i]? = some x := by rfl) (hv : Vis X.env.scope x := by first | exact Or.inl rfl | exact Or.inr (Or.inl rfl) | exact Or.inr (Or.inr rfl)) (hd : (x == ("__debug__" : Str)) = false := by decide)
    (hcd : (x == ("__classdict__" : Str)) = false := by decide) : PE X (.Name x pos) (tVar i) := pe_var hN hv hd hcd
end
theorem iteF {A B : Prop} (h : B) : if false = true then A else B := by
  rw [if_neg Bool.false_ne_true]
  exact h
theorem iteT {A B : Prop} (h : A) : if true = true then A else B := by
  rw [if_pos rfl]
  exact h
/-- all that was tracked is as it was -/
def Same (H H' : Hp) : Prop := ∀ b o, H b = some o → H' b = some o
theorem Same.refl (H : Hp) : Same H H := fun _ _ h => h
theorem Same.trans {H H1 H2 : Hp} (a : Same H H1) (b : Same H1 H2) : Same H H2 := fun c o h => b c o (a c o h)
theorem Same.free {H H' : Hp} (e : Same H H') {l : Addr} (h : H' l = Option.none) : H l = Option.none := by
  cases q : H l with
  | none => rfl
  | some o =>
    rw [e l o q] at h
    cases h
theorem Same.seq {K : PySem.W.Frag} {H H' : Hp} {a : Addr} {xs : List V} (e : Same H H') (h : SqL K H a xs) : SqL K H' a xs := by
  rcases h with (h | ⟨o, h⟩) | h
  · exact .inl (.inl (e _ _ h))
  · exact .inl (.inr ⟨o, e _ _ h⟩)
  · exact .inr h
section
variable {κ : Type} [DecidableEq κ]
end
/-- a new instance and its __init__ leave all that was tracked as it was -/
theorem Same.made {H H1 : Hp} {x dx C : Addr} (nx : H x = Option.none) (nd : H dx = Option.none) (k : ∀ b o, (upd (upd H dx (.own x)) x (.ins C dx [])) b = some o → b ≠ x → H1 b = some o) : Same H H1 := fun b o e =>
  k b o (by rw [upd_ne (ne_of_none e nx), upd_ne (ne_of_none e nd)]; exact e) (ne_of_none e nx)
end L2
end
section
set_option Elab.async false
set_option linter.all false
set_option maxRecDepth 100000
set_option maxHeartbeats 2000000
namespace L2
open PySem PySem.Spec PyProof.Rows
open PySem.W (WData Codec OpenSpec Well WellAll ReadsW ReadsAllW)
mutual
/-- x stands for the datum d, lists and tuples all the way -/
inductive Dw (K : PySem.W.Frag) (H : Hp) : V → WData → Prop
  | non : Dw K H .non .none
  | bl (b : Bool) : Dw K H (.bl b) (.bool b)
  | int (i : Int) : Dw K H (.int i) (.int i)
  | str (x : Str) : Dw K H (.str x) (.str x)
  | byt (b : Array UInt8) : Dw K H (.byt b) (.bytes b.toList)
  | lst {a : Addr} {xs : List V} {ds : List WData} : SqL K H a xs → DwAll K H xs ds → Dw K H (.ref a) (.list ds)
  | tup {a : Addr} {xs : List V} {ds : List WData} : SqT K H a xs → DwAll K H xs ds → Dw K H (.ref a) (.tuple ds)
inductive DwAll (K : PySem.W.Frag) (H : Hp) : List V → List WData → Prop
  | nil : DwAll K H [] []
  | cons {v : V} {vs : List V} {d : WData} {ds : List WData} : Dw K H v d → DwAll K H vs ds → DwAll K H (v :: vs) (d :: ds)
end
theorem dw_ints {K : PySem.W.Frag} {H : Hp} : ∀ ns : List Int, DwAll K H (ns.map V.int) (ns.map WData.int)
  | [] => .nil
  | n :: r => .cons (.int n) (dw_ints r)
theorem ints_dw {K : PySem.W.Frag} {H : Hp} : ∀ (ns : List Int) (xs : List V), DwAll K H xs (ns.map WData.int) → xs = ns.map V.int
  | [], xs, h => by
    cases h
    rfl
  | n :: r, xs, h => by
    cases h with
    | cons h1 h2 =>
      cases h1
      rw [ints_dw r _ h2] <;> rfl
section
variable {P : Program} {w : World} {K : PySem.W.Frag} {H : Hp} {h : Heap} {R : PySem.W.WRecords} {cl : Str → Option Addr}
theorem sqL_at {a : Addr} {xs : List V} (hok : HOk P w H h) (KX : K.In h) (q : SqL K H a xs) : ∃ (its : List Value) (o : Obj) (n : Nat), Vals xs its ∧ h.get? a = some o ∧ o.cls = .type "list" ∧ o.data = .seq its.toArray n := by
  rcases q with q | ⟨o, its, n, e, hc, _, hd, _, hv⟩
  · obtain ⟨_, its, n, hv, e⟩ := (show ObjOk P w H h a (.lst xs) from q.ok hok)
    exact ⟨its, _, n, hv, e, rfl, rfl⟩
  · exact ⟨its.toList, o, n, hv, KX _ _ e, hc, by simp [hd]⟩
theorem sqT_at {a : Addr} {xs : List V} (hok : HOk P w H h) (KX : K.In h) (q : SqT K H a xs) : ∃ (its : List Value) (o : Obj) (n : Nat), Vals xs its ∧ h.get? a = some o ∧ o.cls = .type "tuple" ∧ o.data = .seq its.toArray n := by
  rcases q with q | ⟨o, its, n, e, hc, hd, _, hv⟩
  · obtain ⟨_, its, hv, o, e, hc, n, hd⟩ := (show ObjOk P w H h a (.tup xs) from q.ok hok)
    exact ⟨its, o, n, hv, e, hc, hd⟩
  · exact ⟨its.toList, o, n, hv, KX _ _ e, hc, by simp [hd]⟩
mutual
theorem Dw.reads (hok : HOk P w H h) (KX : K.In h) : ∀ (d : WData) (v : V) (u : Value), Dw K H v d → RelV v u → ∃ as, ReadsW R cl h u d as
  | .none, _, _, x, r => by
    cases x
    cases r
    exact ⟨_, ReadsW.none⟩
  | .bool b, _, _, x, r => by
    cases x
    cases r
    exact ⟨_, ReadsW.bool b⟩
  | .int i, _, _, x, r => by
    cases x
    obtain ⟨t, rfl⟩ := r
    exact ⟨_, ReadsW.int i t⟩
  | .str s, _, _, x, r => by
    cases x
    obtain ⟨t, rfl⟩ := r
    exact ⟨_, ReadsW.str s t⟩
  | .bytes b, _, _, x, r => by
    cases x
    obtain ⟨t, rfl⟩ := r
    exact ⟨_, ReadsW.bytes _ t⟩
  | .list ds, _, _, x, r => by
    cases x with
    | lst hs ha =>
      cases r
      obtain ⟨its, o, n, rv, ho, hc, hd⟩ := sqL_at hok KX hs
      obtain ⟨as, hr⟩ := Dw.readsAll hok KX ds _ its ha rv
      exact ⟨_, ReadsW.list ho hc hd hr⟩
  | .tuple ds, _, _, x, r => by
    cases x with
    | tup hs ha =>
      cases r
      obtain ⟨its, o, n, rv, ho, hc, hd⟩ := sqT_at hok KX hs
      obtain ⟨as, hr⟩ := Dw.readsAll hok KX ds _ its ha rv
      exact ⟨_, ReadsW.tuple ho hc hd hr⟩
  | .float _, _, _, x, _ => by cases x
  | .dict _, _, _, x, _ => by cases x
  | .bytearray _, _, _, x, _ => by cases x
  | .set _, _, _, x, _ => by cases x
  | .frozenset _, _, _, x, _ => by cases x
  | .obj _ _, _, _, x, _ => by cases x
theorem Dw.readsAll (hok : HOk P w H h) (KX : K.In h) : ∀ (ds : List WData) (vs : List V) (us : List Value), DwAll K H vs ds → Vals vs us → ∃ as, ReadsAllW R cl h us ds as
  | [], _, _, x, r => by
    cases x
    cases r
    exact ⟨_, ReadsAllW.nil⟩
  | d :: ds, _, _, x, r => by
    cases x with
    | cons h1 h2 =>
      cases r with
      | cons r1 r2 =>
        obtain ⟨as, q1⟩ := Dw.reads hok KX d _ _ h1 r1
        obtain ⟨bs, q2⟩ := Dw.readsAll hok KX ds _ _ h2 r2
        exact ⟨_, ReadsAllW.cons q1 q2⟩
end
end
mutual
/-- data that a codec tells -/
def plW : WData → Bool
  | .none => true
  | .bool _ => true
  | .int _ => true
  | .str _ => true
  | .bytes _ => true
  | .list xs => plWs xs
  | .tuple xs => plWs xs
  | _ => false
def plWs : List WData → Bool
  | [] => true
  | x :: r => plW x && plWs r
end
theorem plWs_map {α : Type} {f : α → WData} (h : ∀ a, plW (f a) = true) : ∀ l : List α, plWs (l.map f) = true
  | [] => rfl
  | x :: r => by
    show (plW (f x) && plWs (r.map f)) = true
    rw [h x, plWs_map h r] <;> rfl
theorem pl_enc : ∀ (c : Codec) (a : c.denote), plW (c.enc a) = true
  | .unit, _ => rfl
  | .bool, _ => rfl
  | .int _ _, _ => rfl
  | .nat _ _, _ => rfl
  | .u8, _ => rfl
  | .bytes _ _, _ => rfl
  | .text _ _ _ _, _ => rfl
  | .list _ _ c, a => plWs_map (fun x => pl_enc c x) a
  | .pair c d, a => by
    show (plW (c.enc a.1) && (plW (d.enc a.2) && true)) = true
    rw [pl_enc c a.1, pl_enc d a.2] <;> rfl
  | .triple c d e, a => by
    show (plW (c.enc a.1) && (plW (d.enc a.2.1) && (plW (e.enc a.2.2) && true))) = true
    rw [pl_enc c a.1, pl_enc d a.2.1, pl_enc e a.2.2] <;> rfl
  | .option c, none => rfl
  | .option c, some x => pl_enc c x
theorem pl_encAll : ∀ (cs : List Codec) (a : Codec.denoteAll cs), plWs (Codec.encAll cs a) = true
  | [], _ => rfl
  | c :: cs, a => by
    show (plW (c.enc a.1) && plWs (Codec.encAll cs a.2)) = true
    rw [pl_enc c a.1, pl_encAll cs a.2] <;> rfl
theorem weight_mem : ∀ {xs : List WData} {d : WData}, d ∈ xs → d.weight ≤ WData.weightAll xs
  | [], d, h => absurd h (by simp)
  | x :: r, d, h => by
    show d.weight ≤ x.weight + 1 + WData.weightAll r
    rcases List.mem_cons.mp h with e | m
    · rw [e]
      omega
    · have z := weight_mem m
      omega
def toV : Value → V
  | .none => .non
  | .bool b => .bl b
  | .int i _ => .int i
  | .str x _ => .str x
  | .bytes b _ => .byt b
  | .ref a => .ref a
  | _ => .non
/-- a value of the arguments, its objects among A -/
def OkU (A : List Addr) : Value → Prop
  | .none => True
  | .bool _ => True
  | .int _ _ => True
  | .str _ _ => True
  | .bytes _ _ => True
  | .ref a => a ∈ A
  | _ => False
theorem OkU.mono {A B : List Addr} (h : ∀ a ∈ A, a ∈ B) : ∀ {u : Value}, OkU A u → OkU B u := fun {u} x => by
  cases u with
  | ref a => exact h a x
  | none => trivial
  | bool b => trivial
  | int i t => trivial
  | str s t => trivial
  | bytes b t => trivial
  | _ => exact False.elim x
theorem relV_toV {A : List Addr} {u : Value} (x : OkU A u) : RelV (toV u) u := by
  cases u with
  | ref a => rfl
  | none => rfl
  | bool b => rfl
  | int i t => exact ⟨t, rfl⟩
  | str s t => exact ⟨t, rfl⟩
  | bytes b t => exact ⟨t, rfl⟩
  | _ => exact False.elim x
theorem vals_toV {A : List Addr} : ∀ {vs : List Value}, (∀ u ∈ vs, OkU A u) → Vals (vs.map toV) vs
  | [], _ => .nil
  | u :: r, h => .cons (relV_toV (h u (List.mem_cons_self ..))) (vals_toV fun x hx => h x (List.mem_cons_of_mem _ hx))
/-- an object of the arguments -/
def ArgOb (h : Heap) (A : List Addr) (a : Addr) : Prop := ∃ vs : List Value, vs.length ≤ sizeLine ∧ (∀ u ∈ vs, OkU A u) ∧
  (h.get? a = some { cls := .type "list", data := .seq vs.toArray } ∨ h.get? a = some { cls := .type "tuple", data := .seq vs.toArray })
theorem ArgOb.mono {h : Heap} {A B : List Addr} {a : Addr} (k : ∀ a ∈ A, a ∈ B) (x : ArgOb h A a) : ArgOb h B a := by
  obtain ⟨vs, h1, h2, h3⟩ := x
  exact ⟨vs, h1, fun u hu => (h2 u hu).mono k, h3⟩
theorem wellAll_len {P : Params} {h : Heap} : ∀ {vs : List Value} {ds : List WData}, WellAll P h vs ds → vs.length = ds.length
  | _, _, .nil => rfl
  | _, _, .cons _ b => by
    show _ + 1 = _ + 1
    rw [wellAll_len b]
theorem well_list {P : Params} {h : Heap} {v : Value} {ds : List WData} (x : Well P h v (.list ds)) : ∃ (a : Addr) (vs : List Value), v = .ref a ∧ h.get? a = some { cls := .type "list", data := .seq vs.toArray } ∧ WellAll P h vs ds := by
  cases x with
  | list ho hall => exact ⟨_, _, rfl, ho, hall⟩
theorem well_tuple {P : Params} {h : Heap} {v : Value} {ds : List WData} (x : Well P h v (.tuple ds)) : ∃ (a : Addr) (vs : List Value), v = .ref a ∧ h.get? a = some { cls := .type "tuple", data := .seq vs.toArray } ∧ WellAll P h vs ds := by
  cases x with
  | tuple ho hall => exact ⟨_, _, rfl, ho, hall⟩
theorem well_cons {P : Params} {h : Heap} {us : List Value} {d : WData} {ds : List WData} (x : WellAll P h us (d :: ds)) : ∃ (v : Value) (vs : List Value), us = v :: vs ∧ Well P h v d ∧ WellAll P h vs ds := by
  cases x with
  | cons a b => exact ⟨_, _, rfl, a, b⟩
theorem line_of {n : Nat} (h : n ≤ 1048576) : n ≤ sizeLine := Nat.le_trans h (by decide)
section
variable {P : Params} {h : Heap}
mutual
theorem area_one : ∀ (d : WData) (v : Value), Well P h v d → plW d = true → d.weight ≤ 1048576 → ∃ A : List Addr, OkU A v ∧ ∀ a ∈ A, ArgOb h A a
  | .none, _, x, _, _ => by
    cases x
    exact ⟨[], trivial, fun a m => absurd m (by simp)⟩
  | .bool b, _, x, _, _ => by
    cases x
    exact ⟨[], trivial, fun a m => absurd m (by simp)⟩
  | .int i, _, x, _, _ => by
    cases x
    exact ⟨[], trivial, fun a m => absurd m (by simp)⟩
  | .str s, _, x, _, _ => by
    cases x
    exact ⟨[], trivial, fun a m => absurd m (by simp)⟩
  | .bytes b, _, x, _, _ => by
    cases x
    exact ⟨[], trivial, fun a m => absurd m (by simp)⟩
  | .list ds, _, x, p, z => by
    obtain ⟨a, vs, rfl, ho, hall⟩ := well_list x
    have z2 : WData.weightAll ds ≤ 1048576 := z
    obtain ⟨A, h1, h2⟩ := area_all ds _ hall p fun d hd => Nat.le_trans (weight_mem hd) z2
    have k : ∀ b ∈ A, b ∈ a :: A := fun b hb => List.mem_cons_of_mem _ hb
    refine ⟨a :: A, List.mem_cons_self .., fun b hb => ?_⟩
    rcases List.mem_cons.mp hb with e | m
    · rw [e]
      exact ⟨vs, line_of (by rw [wellAll_len hall]; exact Nat.le_trans (PySem.W.length_le_weightAllW ds) z2), fun u hu => (h1 u hu).mono k, .inl ho⟩
    · exact (h2 b m).mono k
  | .tuple ds, _, x, p, z => by
    obtain ⟨a, vs, rfl, ho, hall⟩ := well_tuple x
    have z2 : WData.weightAll ds ≤ 1048576 := z
    obtain ⟨A, h1, h2⟩ := area_all ds _ hall p fun d hd => Nat.le_trans (weight_mem hd) z2
    have k : ∀ b ∈ A, b ∈ a :: A := fun b hb => List.mem_cons_of_mem _ hb
    refine ⟨a :: A, List.mem_cons_self .., fun b hb => ?_⟩
    rcases List.mem_cons.mp hb with e | m
    · rw [e]
      exact ⟨vs, line_of (by rw [wellAll_len hall]; exact Nat.le_trans (PySem.W.length_le_weightAllW ds) z2), fun u hu => (h1 u hu).mono k, .inr ho⟩
    · exact (h2 b m).mono k
  | .float _, _, _, p, _ => Bool.noConfusion (show false = true from p)
  | .dict _, _, _, p, _ => Bool.noConfusion (show false = true from p)
  | .bytearray _, _, _, p, _ => Bool.noConfusion (show false = true from p)
  | .set _, _, _, p, _ => Bool.noConfusion (show false = true from p)
  | .frozenset _, _, _, p, _ => Bool.noConfusion (show false = true from p)
  | .obj _ _, _, _, p, _ => Bool.noConfusion (show false = true from p)
theorem area_all : ∀ (ds : List WData) (vs : List Value), WellAll P h vs ds → plWs ds = true → (∀ d ∈ ds, d.weight ≤ 1048576) → ∃ A : List Addr, (∀ u ∈ vs, OkU A u) ∧ ∀ a ∈ A, ArgOb h A a
  | [], _, x, _, _ => by
    cases x
    exact ⟨[], fun u m => absurd m (by simp), fun a m => absurd m (by simp)⟩
  | d :: ds, _, x, p, z => by
    obtain ⟨v, vs, rfl, x1, x2⟩ := well_cons x
    have q : plW d = true ∧ plWs ds = true := Bool.and_eq_true_iff.mp p
    obtain ⟨A, a1, a2⟩ := area_one d v x1 q.1 (z d (List.mem_cons_self ..))
    obtain ⟨B, b1, b2⟩ := area_all ds vs x2 q.2 fun e he => z e (List.mem_cons_of_mem _ he)
    have kA : ∀ b ∈ A, b ∈ A ++ B := fun b hb => List.mem_append.mpr (.inl hb)
    have kB : ∀ b ∈ B, b ∈ A ++ B := fun b hb => List.mem_append.mpr (.inr hb)
    refine ⟨A ++ B, fun u hu => ?_, fun b hb => ?_⟩
    · rcases List.mem_cons.mp hu with e | m
      · rw [e]
        exact a1.mono kA
      · exact (b1 u m).mono kB
    · rcases List.mem_append.mp hb with m | m
      · exact (a2 b m).mono kA
      · exact (b2 b m).mono kB
end
end
/-- what is tracked of an argument's object -/
def hoOf (o : Obj) : Option HO := match o.data with
  | .seq vs _ => if (o.cls == Value.type "list") = true then some (.frz o (.lst (vs.toList.map toV))) else some (.frz o (.tup (vs.toList.map toV)))
  | _ => none
def argH (K : PySem.W.Frag) (h : Heap) (A : List Addr) : Hp := fun b => if b ∈ A then (if (K.lookup b).isNone = true then (h.get? b).bind hoOf else none) else none
/-- nothing is tracked but what is known to the object -/
def OnlyF (H : Hp) : Prop := ∀ b, H b = none ∨ ∃ o u, H b = some (.frz o u)
theorem hoOf_lst (vs : List Value) : hoOf { cls := .type "list", data := .seq vs.toArray } = some (.frz { cls := .type "list", data := .seq vs.toArray } (.lst (vs.map toV))) := by
  show (if (Value.type "list" == Value.type "list") = true then some (HO.frz { cls := .type "list", data := .seq vs.toArray } (.lst (vs.toArray.toList.map toV))) else some (HO.frz { cls := .type "list", data := .seq vs.toArray } (.tup (vs.toArray.toList.map toV)))) = _
  rw [if_pos (beq_self_eq_true _)]
theorem hoOf_tup (vs : List Value) : hoOf { cls := .type "tuple", data := .seq vs.toArray } = some (.frz { cls := .type "tuple", data := .seq vs.toArray } (.tup (vs.map toV))) := by
  show (if (Value.type "tuple" == Value.type "list") = true then some (HO.frz { cls := .type "tuple", data := .seq vs.toArray } (.lst (vs.toArray.toList.map toV))) else some (HO.frz { cls := .type "tuple", data := .seq vs.toArray } (.tup (vs.toArray.toList.map toV)))) = _
  rw [if_neg (by decide)]
section
variable {P : Program} {w : World} {K : PySem.W.Frag} {h : Heap} {A : List Addr}
theorem argH_at {b : Addr} {o : Obj} (hb : b ∈ A) (hk : K.lookup b = none) (e : h.get? b = some o) : argH K h A b = hoOf o := by
  unfold argH
  rw [if_pos hb, hk, if_pos (show (none : Option Obj).isNone = true from rfl), e] <;> rfl
theorem of_argH {b : Addr} {u : HO} (q : argH K h A b = some u) : b ∈ A ∧ K.lookup b = none := by
  unfold argH at q
  by_cases hb : b ∈ A
  · rw [if_pos hb] at q
    cases hk : K.lookup b with
    | none => exact ⟨hb, rfl⟩
    | some o =>
      rw [hk, if_neg (by simp)] at q
      cases q
  · rw [if_neg hb] at q
    cases q
/-- what stands tracked -/
theorem argH_is (ar : ∀ a ∈ A, ArgOb h A a) {b : Addr} {u : HO} (q : argH K h A b = some u) : K.lookup b = none ∧ ∃ vs : List Value, vs.length ≤ sizeLine ∧ (∀ u ∈ vs, OkU A u) ∧
    ((h.get? b = some { cls := .type "list", data := .seq vs.toArray } ∧ u = .frz { cls := .type "list", data := .seq vs.toArray } (.lst (vs.map toV))) ∨
     (h.get? b = some { cls := .type "tuple", data := .seq vs.toArray } ∧ u = .frz { cls := .type "tuple", data := .seq vs.toArray } (.tup (vs.map toV)))) := by
  obtain ⟨hb, hk⟩ := of_argH q
  obtain ⟨vs, h1, h2, h3⟩ := ar b hb
  refine ⟨hk, vs, h1, h2, ?_⟩
  rcases h3 with e | e
  · rw [argH_at hb hk e, hoOf_lst] at q
    exact .inl ⟨e, (Option.some.inj q).symm⟩
  · rw [argH_at hb hk e, hoOf_tup] at q
    exact .inr ⟨e, (Option.some.inj q).symm⟩
theorem argH_only (ar : ∀ a ∈ A, ArgOb h A a) : OnlyF (argH K h A) := fun b => by
  cases q : argH K h A b with
  | none => exact .inl rfl
  | some u =>
    obtain ⟨_, vs, _, _, ⟨_, e⟩ | ⟨_, e⟩⟩ := argH_is ar q
    · exact .inr ⟨_, _, by rw [e]⟩
    · exact .inr ⟨_, _, by rw [e]⟩
theorem argH_ok (ar : ∀ a ∈ A, ArgOb h A a) : HOk P w (argH K h A) h := fun b u q => by
  obtain ⟨_, vs, h1, h2, ⟨e, rfl⟩ | ⟨e, rfl⟩⟩ := argH_is ar q
  · exact ⟨e, by rw [List.length_map]; exact h1, vs, _, vals_toV h2, e⟩
  · exact ⟨e, by rw [List.length_map]; exact h1, vs, vals_toV h2, _, e, rfl, _, rfl⟩
theorem seq_inj {c c' : Value} {vs us : List Value} (e : (some { cls := c, data := .seq vs.toArray } : Option Obj) = some { cls := c', data := .seq us.toArray }) : c = c' ∧ vs = us := by
  have e1 := Option.some.inj e
  have e2 : c = c' := congrArg Obj.cls e1
  have e3 : Data.seq vs.toArray = Data.seq us.toArray := congrArg Obj.data e1
  injection e3 with e4
  refine ⟨e2, ?_⟩
  have e5 := congrArg Array.toList e4
  simpa using e5
/-- a list argument -/
theorem argL (KX : K.In h) (ar : ∀ a ∈ A, ArgOb h A a) {a : Addr} {vs : List Value} (ha : a ∈ A) (e : h.get? a = some { cls := .type "list", data := .seq vs.toArray }) : (∀ u ∈ vs, OkU A u) ∧ SqL K (argH K h A) a (vs.map toV) := by
  obtain ⟨us, h1, h2, h3⟩ := ar a ha
  have hu : us = vs := by
    rcases h3 with q | q
    · rw [e] at q
      exact (seq_inj q).2.symm
    · rw [e] at q
      exact absurd (Value.type.inj (seq_inj q).1) (by decide)
  subst hu
  refine ⟨h2, ?_⟩
  cases hk : K.lookup a with
  | none => exact .inl (.inr ⟨_, by rw [argH_at ha hk e, hoOf_lst]⟩)
  | some o =>
    have e2 := KX a o hk
    rw [e] at e2
    obtain rfl := Option.some.inj e2
    exact .inr ⟨_, us.toArray, _, hk, rfl, rfl, rfl, by rw [List.size_toArray]; exact h1, by simpa using vals_toV h2⟩
theorem argT (KX : K.In h) (ar : ∀ a ∈ A, ArgOb h A a) {a : Addr} {vs : List Value} (ha : a ∈ A) (e : h.get? a = some { cls := .type "tuple", data := .seq vs.toArray }) : (∀ u ∈ vs, OkU A u) ∧ SqT K (argH K h A) a (vs.map toV) := by
  obtain ⟨us, h1, h2, h3⟩ := ar a ha
  have hu : us = vs := by
    rcases h3 with q | q
    · rw [e] at q
      exact absurd (Value.type.inj (seq_inj q).1) (by decide)
    · rw [e] at q
      exact (seq_inj q).2.symm
  subst hu
  refine ⟨h2, ?_⟩
  cases hk : K.lookup a with
  | none => exact .inl (.inr ⟨_, by rw [argH_at ha hk e, hoOf_tup]⟩)
  | some o =>
    have e2 := KX a o hk
    rw [e] at e2
    obtain rfl := Option.some.inj e2
    exact .inr ⟨_, us.toArray, _, hk, rfl, rfl, by rw [List.size_toArray]; exact h1, by simpa using vals_toV h2⟩
mutual
theorem dw_one {Pm : Params} (KX : K.In h) (ar : ∀ a ∈ A, ArgOb h A a) : ∀ (d : WData) (v : Value), Well Pm h v d → plW d = true → OkU A v → Dw K (argH K h A) (toV v) d
  | .none, _, x, _, _ => by
    cases x
    exact .non
  | .bool b, _, x, _, _ => by
    cases x
    exact .bl b
  | .int i, _, x, _, _ => by
    cases x
    exact .int i
  | .str s, _, x, _, _ => by
    cases x
    exact .str s
  | .bytes b, _, x, _, _ => by
    cases x
    have z := Dw.byt (K := K) (H := argH K h A) b.toArray
    exact z
  | .list ds, _, x, p, hu => by
    obtain ⟨a, vs, rfl, ho, hall⟩ := well_list x
    obtain ⟨h2, hs⟩ := argL KX ar hu ho
    exact .lst hs (dw_all KX ar ds _ hall p h2)
  | .tuple ds, _, x, p, hu => by
    obtain ⟨a, vs, rfl, ho, hall⟩ := well_tuple x
    obtain ⟨h2, hs⟩ := argT KX ar hu ho
    exact .tup hs (dw_all KX ar ds _ hall p h2)
  | .float _, _, _, p, _ => Bool.noConfusion (show false = true from p)
  | .dict _, _, _, p, _ => Bool.noConfusion (show false = true from p)
  | .bytearray _, _, _, p, _ => Bool.noConfusion (show false = true from p)
  | .set _, _, _, p, _ => Bool.noConfusion (show false = true from p)
  | .frozenset _, _, _, p, _ => Bool.noConfusion (show false = true from p)
  | .obj _ _, _, _, p, _ => Bool.noConfusion (show false = true from p)
theorem dw_all {Pm : Params} (KX : K.In h) (ar : ∀ a ∈ A, ArgOb h A a) : ∀ (ds : List WData) (vs : List Value), WellAll Pm h vs ds → plWs ds = true → (∀ u ∈ vs, OkU A u) → DwAll K (argH K h A) (vs.map toV) ds
  | [], _, x, _, _ => by
    cases x
    exact .nil
  | d :: ds, _, x, p, hu => by
    obtain ⟨v, vs, rfl, x1, x2⟩ := well_cons x
    have q : plW d = true ∧ plWs ds = true := Bool.and_eq_true_iff.mp p
    exact .cons (dw_one KX ar d v x1 q.1 (hu _ (List.mem_cons_self ..))) (dw_all KX ar ds vs x2 q.2 fun u m => hu u (List.mem_cons_of_mem _ m))
end
end
theorem spec_call {P : Program} {w : World} {K : PySem.W.Frag} {mg mb : Str → Option Value} {CX : CXT} {k : Nat} {fa : Addr} {fd : FuncData} {ps : List Str} {sp : Sp} {s₁ : Shared} {vals : List Value} {ds : List WData} {R : PySem.W.WRecords} {cl : Str → Option Addr} {d0 : WData}
    (KX : K.In s₁.heap) (hns : s₁.heap.Ns mainGlobals mg) (hb : s₁.heap.Ns builtinsNs mb) (hbb : ∀ x : Str, x ≠ "__name__" → mb x = bootBuiltins x) (hlim : s₁.heap.NoLimit) (hg : s₁.gens = #[])
    (hwl : WellAll w.params s₁.heap vals ds) (hpl : plWs ds = true) (hwt : ∀ d ∈ ds, d.weight ≤ 1048576) (hr : Room k callerA)
    (F : ∀ base : Heap, K.In base → base.Ns mainGlobals mg → FnOk P w K mg base CX k fa fd ps sp) (hbind : ∀ (s : Shared) (us : List Value), us.length = ps.length → BindsTo s fd ⟨us, []⟩ (ps.zip us)) (hlen : ds.length = ps.length)
    (hsp : ∀ (H : Hp) (xs : List V), OnlyF H → DwAll K H xs ds → sp xs H (fun v H' => Dw K H' v d0) fun _ _ _ => False)
    (hCX : ∀ H e s', CX [] H s₁ (fun _ _ _ => False) e s' → False) :
    codeAny (model P w) callerA (.call (.ref fa) ⟨vals, []⟩) (fun r s' => ∃ u as, r = .ok (.ret u) ∧ ReadsW R cl s'.heap u d0 as ∧ OldK s₁.heap s'.heap ∧ s'.os = s₁.os ∧ AllBare s'.gens) s₁ := by
  obtain ⟨A, ho, ar⟩ := area_all ds vals hwl hpl hwt
  have hO : OnlyF (argH K s₁.heap A) := argH_only ar
  have hok : HOk P w (argH K s₁.heap A) s₁.heap := argH_ok ar
  have hS := dw_all KX ar ds vals hwl hpl ho
  have hV := vals_toV ho
  have hK : ∀ b u, argH K s₁.heap A b = some u → K.lookup b = none := fun b u q => (argH_is ar q).1
  have noA : ∀ {b : Addr} {o : Obj} {es : Array DictEntry} {ep : Nat}, s₁.heap.get? b = some o → o.data = .dict es ep → argH K s₁.heap A b = none := fun {b o es ep} e d => by
    cases q : argH K s₁.heap A b with
    | none => rfl
    | some u =>
      obtain ⟨_, vs, _, _, ⟨e2, _⟩ | ⟨e2, _⟩⟩ := argH_is ar q
      · rw [e2] at e
        cases e
        have d' : Data.seq vs.toArray _ = Data.dict es ep := d
        cases d'
      · rw [e2] at e
        cases e
        have d' : Data.seq vs.toArray _ = Data.dict es ep := d
        cases d'
  generalize argH K s₁.heap A = H at hO hok hS hK noA
  have base_of : ∀ {b : Addr} {o : Obj}, s₁.heap.get? b = some o → H b = none → (hidT s₁.heap H).get? b = some o := fun e n => hidT_get e n
  have nsK : ∀ {b : Addr} {m : Str → Option Value}, s₁.heap.Ns b m → (hidT s₁.heap H).Ns b m := fun {b m} ⟨o, es, ep, e, d, r⟩ => ⟨o, es, ep, base_of e (noA e d), d, r⟩
  have nK : ∀ b o, K.lookup b = some o → H b = none := fun b o e => by
    cases q : H b with
    | none => rfl
    | some u =>
      rw [hK b u q] at e
      cases e
  have hKb : K.In (hidT s₁.heap H) := fun b o e => base_of (KX b o e) (nK b o e)
  have hM : Mod K mg (hidT s₁.heap H) := ⟨hKb, nsK hns, ⟨mb, nsK hb, hbb⟩, let ⟨mc, h1, h2⟩ := hlim; ⟨mc, nsK h1, h2⟩⟩
  have e0 : Env0 P w K mg (hidT s₁.heap H) callerA [] s₁ H := ⟨rfl, hM, fun b o e => of_hidT e, Nat.le_of_eq (hidT_size _ _), trivial, fun b hb => absurd (show b ∈ ([] : List Addr) from hb) (by simp), hok, .of_eq hg⟩
  have hl : vals.length = ps.length := by rw [wellAll_len hwl]; exact hlen
  refine codeAny_mono ((F _ hKb (nsK hns)).run callerA [] s₁ H ⟨vals, []⟩ vals (vals.map toV) _ _ hr e0 (hbind s₁ vals hl) hV (hsp H _ hO hS)) fun r s' x => ?_
  cases r with
  | error e => exact (hCX H e s' x).elim
  | ok fl =>
    cases fl with
    | next => exact False.elim x
    | brk => exact False.elim x
    | cont => exact False.elim x
    | ret u =>
      obtain ⟨v, H', os, bare, un, hok', r', q⟩ := x
      have kept : ∀ b o, s₁.heap.get? b = some o → s'.heap.get? b = some o := fun b o e => by
        cases q2 : H b with
        | none => exact un.keep b o e q2 (by intro z; exact absurd (show b ∈ ([] : List Addr) from z) (by simp)) (by simp)
        | some u2 =>
          rcases hO b with z | ⟨ob, u3, z⟩
          · rw [q2] at z
            cases z
          · have z2 := un.frzs b ob _ z
            obtain ⟨e1, _⟩ := hok b _ z
            obtain ⟨e2, _⟩ := hok' b _ z2
            rw [e] at e1
            cases e1
            exact e2
      have KX' : K.In s'.heap := fun b o e => kept b o (KX b o e)
      obtain ⟨as, hrd⟩ := Dw.reads (R := R) (cl := cl) hok' KX' d0 v u q r'
      exact ⟨u, as, rfl, hrd, OldK.of_keep kept, os, bare⟩
theorem layable_weight {ds : List WData} (h : WData.layableAll ds = true) : ∀ d ∈ ds, d.weight ≤ 1048576 := fun d hd =>
  (PySem.W.layableW_iff.mp (List.all_eq_true.mp h d hd)).2.2
theorem encAll_len : ∀ (cs : List Codec) (a : Codec.denoteAll cs), (Codec.encAll cs a).length = cs.length
  | [], _ => rfl
  | c :: cs, a => by
    show (Codec.encAll cs a.2).length + 1 = cs.length + 1
    rw [encAll_len cs a.2]
/-- the goal that k_headS leaves (case hc), from the promise of the row's def: whatever the arguments that the codecs let and the row asks for, the def gives what stands for enc (f ..) -/
theorem walk_spec {r : OpenSpec} {k : Nat} {q : Program} {loose : List Str} {XP : (Str → Option Value) → Heap → Prop} {YP : World → Heap → Prop} {d : DefRec} {K : Params → PySem.W.Frag} {CX : World → CXT} {ps : List Str} {sp : World → Sp}
    (hwell : r.wellSaid = true) (hdf : d.params.defaults = []) (hlen : r.args.length = ps.length) (hr : Room k callerA)
    (hY : ∀ (w : World) (h : Heap), YP w h → (K w.params).In h)
    (F : ∀ (w : World) (mg : Str → Option Value) (fa : Addr) (h : Heap), YP w h → (K w.params).In h → h.Ns mainGlobals mg → mg d.name = some (.ref fa) →
      ∃ fd : FuncData, (∀ (s : Shared) (us : List Value), us.length = ps.length → BindsTo s fd ⟨us, []⟩ (ps.zip us)) ∧
        ∀ base : Heap, (K w.params).In base → base.Ns mainGlobals mg → FnOk r.prog w (K w.params) mg base (CX w) k fa fd ps (sp w))
    (hsp : ∀ (w : World) (H : Hp) (xs : List V) (a : Codec.denoteAll r.args), OnlyF H → Codec.withinAll r.args a = true → Codec.app r.args r.asked a = true → DwAll (K w.params) H xs (Codec.encAll r.args a) →
      sp w xs H (fun v H' => Dw (K w.params) H' v (r.ret.enc (Codec.app r.args r.f a))) fun _ _ _ => False)
    (hCX : ∀ (w : World) (H : Hp) (s : Shared) (e : Value) (s' : Shared), CX w [] H s (fun _ _ _ => False) e s' → False) :
    PySem.W.WalkOS q loose XP YP r d [] (fun f vs => PySem.call f vs) := by
  intro w s_0 s₁ mg mb G Y fa o pm cd doc dV kV ho hd hcd hD hmg hg args vals as hpre hlay hrd hwl hlo
  obtain ⟨a, e1, e2⟩ := PySem.W.os_pre_some hpre
  obtain ⟨e3, hwi⟩ := Codec.encAll_of_decAll r.args args a e1
  subst e3
  have KX := hY w _ Y
  obtain ⟨fd, hb, hF⟩ := F w mg fa _ Y KX G.T.g hmg
  refine PySem.W.enter_call (codeAny_mono (spec_call (R := []) (cl := classAt s_0.heap) (d0 := r.ret.enc (Codec.app r.args r.f a)) KX G.T.g G.T.b G.T.builtins G.T.nolimit hg hwl (pl_encAll _ _) (layable_weight hlay) hr hF hb (by rw [encAll_len]; exact hlen)
    (fun H xs hO hS => hsp w H xs a hO hwi e2 hS) fun H e s' => hCX w H s₁ e s') fun r' s' hq => ?_)
  obtain ⟨u, as', rfl, h1, h2, h3, h4⟩ := hq
  exact ⟨.inl ⟨u, _, as', rfl, fun _ => rfl, h1, (OpenSpec.post_iff hwell hwi _ _).mpr rfl, fun z => Bool.noConfusion (show false = true from z)⟩, h2, h3, h4⟩
/-- the same where the promise hangs on the written part alone -/
theorem walk_specK {r : OpenSpec} {k : Nat} {q : Program} {loose : List Str} {XP : (Str → Option Value) → Heap → Prop} {YP : World → Heap → Prop} {d : DefRec} {K : Params → PySem.W.Frag} {CX : CXT} {ps : List Str} {sp : PySem.W.Frag → Sp}
    (hwell : r.wellSaid = true) (hdf : d.params.defaults = []) (hlen : r.args.length = ps.length) (hr : Room k callerA)
    (hY : ∀ (w : World) (h : Heap), YP w h → (K w.params).In h)
    (F : ∀ (w : World) (mg : Str → Option Value) (fa : Addr) (h : Heap), YP w h → (K w.params).In h → h.Ns mainGlobals mg → mg d.name = some (.ref fa) →
      ∃ fd : FuncData, (∀ (s : Shared) (us : List Value), us.length = ps.length → BindsTo s fd ⟨us, []⟩ (ps.zip us)) ∧
        ∀ base : Heap, (K w.params).In base → base.Ns mainGlobals mg → FnOk r.prog w (K w.params) mg base CX k fa fd ps (sp (K w.params)))
    (hsp : ∀ (K : PySem.W.Frag) (H : Hp) (xs : List V) (a : Codec.denoteAll r.args), OnlyF H → Codec.withinAll r.args a = true → Codec.app r.args r.asked a = true → DwAll K H xs (Codec.encAll r.args a) →
      sp K xs H (fun v H' => Dw K H' v (r.ret.enc (Codec.app r.args r.f a))) fun _ _ _ => False)
    (hCX : ∀ (H : Hp) (s : Shared) (e : Value) (s' : Shared), CX [] H s (fun _ _ _ => False) e s' → False) :
    PySem.W.WalkOS q loose XP YP r d [] (fun f vs => PySem.call f vs) :=
  walk_spec (K := K) (CX := fun _ => CX) (sp := fun w => sp (K w.params)) hwell hdf hlen hr hY F (fun w H xs a h1 h2 h3 h4 => hsp (K w.params) H xs a h1 h2 h3 h4) fun _ H s e s' => hCX H s e s'
end L2
end
section
set_option Elab.async false
namespace M
open Vbcnaa
def isB (n : Int) : Bool := decide (0 ≤ n) && decide (n ≤ 255)
theorem isB_iff {n : Int} : isB n = true ↔ 0 ≤ n ∧ n ≤ 255 := by
  unfold isB
  rw [Bool.and_eq_true, decide_eq_true_eq, decide_eq_true_eq]
theorem bytesOf_cons (x : Int) (l : List Int) : bytesOf (x :: l) = (if x < 0 ∨ 255 < x then 256 else x.toNat) :: bytesOf l := rfl
theorem bytesOf_length (l : List Int) : (bytesOf l).length = l.length := List.length_map ..
theorem areBytes_cons (x : Nat) (l : List Nat) : areBytes (x :: l) = (isByte x && areBytes l) := rfl
theorem isByte_of (x : Int) : isByte (if x < 0 ∨ 255 < x then 256 else x.toNat) = isB x := by
  unfold isByte isB
  by_cases h : x < 0 ∨ 255 < x
  · rw [if_pos h]
    rcases h with h | h
    · rw [decide_eq_false (show ¬ 0 ≤ x by omega)]
      rfl
    · rw [decide_eq_false (show ¬ x ≤ 255 by omega), Bool.and_false]
      rfl
  · rw [if_neg h, decide_eq_true (show 0 ≤ x by omega), decide_eq_true (show x ≤ 255 by omega), decide_eq_true (show x.toNat < 256 by omega)]
    rfl
theorem areBytes_bytesOf : ∀ l : List Int, areBytes (bytesOf l) = l.all isB
  | [] => rfl
  | x :: l => by
    rw [bytesOf_cons, areBytes_cons, isByte_of, areBytes_bytesOf l, List.all_cons]
theorem ints_bytesOf : ∀ {l : List Int}, l.all isB = true → Vbcnaa.ints (bytesOf l) = l
  | [], _ => rfl
  | x :: l, h => by
    rw [List.all_cons, Bool.and_eq_true] at h
    have hx := isB_iff.mp h.1
    rw [bytesOf_cons, if_neg (by omega)]
    show ((x.toNat : Nat) : Int) :: Vbcnaa.ints (bytesOf l) = x :: l
    rw [ints_bytesOf h.2, Int.toNat_of_nonneg hx.1]
theorem areBytes_iff {l : List Nat} : areBytes l = true ↔ ∀ b ∈ l, b < 256 := by
  unfold areBytes isByte
  rw [List.all_eq_true]
  exact ⟨fun h b hb => of_decide_eq_true (h b hb), fun h b hb => decide_eq_true (h b hb)⟩
theorem bytes_lt {l : List Int} (h : l.all isB = true) : ∀ b ∈ bytesOf l, b < 256 := areBytes_iff.mp (by rw [areBytes_bytesOf]; exact h)
theorem all_snoc (l : List Int) (x : Int) : (l ++ [x]).all isB = (l.all isB && isB x) := by
  rw [List.all_append, List.all_cons, List.all_nil, Bool.and_true]
theorem all_take_false {l : List Int} {i : Nat} {x : Int} (h : l[i]? = some x) (hx : isB x = false) : l.all isB = false := by
  rw [Bool.eq_false_iff]
  intro q
  have := (List.all_eq_true.mp q) x (List.mem_of_getElem? h)
  rw [hx] at this
  cases this
theorem take_snoc {α : Type} : ∀ {l : List α} {i : Nat} {x : α}, l[i]? = some x → l.take (i + 1) = l.take i ++ [x]
  | [], i, x, h => by simp at h
  | a :: l, 0, x, h => by
    have e : a = x := Option.some.inj h
    subst e
    rfl
  | a :: l, i + 1, x, h => by
    have ih := take_snoc (l := l) (i := i) (x := x) h
    show a :: l.take (i + 1) = a :: l.take i ++ [x]
    rw [ih]
    rfl
theorem fold1_le {s : Nat} (h : s < 4294967296) : fold1 s ≤ 131070 := by
  unfold fold1
  omega
theorem fold1_le2 {s : Nat} (h : s ≤ 131070) : fold1 s ≤ 65535 := by
  unfold fold1
  omega
theorem folded_le {s : Nat} (h : s < 4294967296) : folded s ≤ 65535 := by
  unfold folded
  have h1 := fold1_le2 (fold1_le h)
  exact fold1_le2 (by omega)
/-- the bytes at even places times 256, those at odd places: what the loop by places adds up -/
def alt : List Nat → Nat
  | a :: b :: l => 256 * a + b + alt l
  | [a] => 256 * a
  | [] => 0
theorem foldl_add : ∀ (l : List Nat) (s : Nat), l.foldl (fun s w => s + w) s = s + l.foldl (fun s w => s + w) 0
  | [], s => rfl
  | x :: l, s => by
    show l.foldl (fun s w => s + w) (s + x) = s + l.foldl (fun s w => s + w) (0 + x)
    rw [foldl_add l (s + x), foldl_add l (0 + x)]
    omega
theorem addAll_cons (x : Nat) (l : List Nat) : addAll (x :: l) = x + addAll l := by
  unfold addAll
  show l.foldl (fun s w => s + w) (0 + x) = _
  rw [foldl_add l (0 + x), Nat.zero_add]
theorem alt_eq : ∀ l : List Nat, addAll (words l) = alt l
  | a :: b :: l => by
    show addAll ((256 * a + b) :: words l) = 256 * a + b + alt l
    rw [addAll_cons, alt_eq l]
  | [a] => by
    show addAll [256 * a] = 256 * a
    rw [addAll_cons]
    rfl
  | [] => rfl
theorem alt_le : ∀ (l : List Nat), (∀ b ∈ l, b < 256) → alt l ≤ 65535 * l.length
  | a :: b :: l, h => by
    have h1 := h a (by simp)
    have h2 := h b (by simp)
    have ih := alt_le l fun c hc => h c (by simp [hc])
    show 256 * a + b + alt l ≤ 65535 * (l.length + 1 + 1)
    omega
  | [a], h => by
    have h1 := h a (by simp)
    show 256 * a ≤ 65535 * 1
    omega
  | [], _ => by
    show 0 ≤ _
    omega
theorem sum16_eq (l : List Nat) : sum16 l = 65535 - folded (alt l) := by
  unfold sum16
  rw [alt_eq]
end M

end
section
set_option Elab.async false
set_option linter.all false
set_option maxRecDepth 100000
namespace M
open Vbcnaa
theorem ints_length (l : List Nat) : (Vbcnaa.ints l).length = l.length := List.length_map ..
theorem ints_append (a b : List Nat) : Vbcnaa.ints (a ++ b) = Vbcnaa.ints a ++ Vbcnaa.ints b := List.map_append ..
theorem ints_take (n : Nat) (a : List Nat) : Vbcnaa.ints (a.take n) = (Vbcnaa.ints a).take n := List.map_take ..
theorem ints_drop (n : Nat) (a : List Nat) : Vbcnaa.ints (a.drop n) = (Vbcnaa.ints a).drop n := List.map_drop ..
theorem be_length : ∀ (k n : Nat), (be k n).length = k
  | 0, _ => rfl
  | k + 1, n => by
    show (be k (n / 256) ++ [n % 256]).length = k + 1
    rw [List.length_append, be_length k]
    rfl
/-- in so many bytes, the lowest first -/
def leB : Nat → Nat → List Nat
  | 0, _ => []
  | k + 1, n => (n % 256) :: leB k (n / 256)
theorem leB_length : ∀ (k n : Nat), (leB k n).length = k
  | 0, _ => rfl
  | k + 1, n => congrArg (· + 1) (leB_length k (n / 256))
theorem leB_reverse : ∀ (k n : Nat), (leB k n).reverse = be k n
  | 0, _ => rfl
  | k + 1, n => by
    show ((n % 256) :: leB k (n / 256)).reverse = be k (n / 256) ++ [n % 256]
    rw [List.reverse_cons, leB_reverse k]
theorem leB_snoc : ∀ (k n : Nat), leB (k + 1) n = leB k n ++ [n / 256 ^ k % 256]
  | 0, n => by
    show [n % 256] = [n / 256 ^ 0 % 256]
    rw [Nat.pow_zero, Nat.div_one]
  | k + 1, n => by
    show (n % 256) :: leB (k + 1) (n / 256) = (n % 256) :: (leB k (n / 256) ++ [n / 256 ^ (k + 1) % 256])
    rw [leB_snoc k (n / 256), Nat.div_div_eq_div_mul, Nat.pow_succ, Nat.mul_comm]
/-- a row's number -/
def numI (l : List Int) : Int := l.foldl (fun n b => n * 256 + b) 0
theorem numI_snoc (l : List Int) (x : Int) : numI (l ++ [x]) = numI l * 256 + x := by
  unfold numI
  rw [List.foldl_append]
  rfl
theorem numI_foldl : ∀ (l : List Nat) (s : Nat), (Vbcnaa.ints l).foldl (fun n b => n * 256 + b) (s : Int) = ((l.foldl (fun n b => 256 * n + b) s : Nat) : Int)
  | [], _ => rfl
  | x :: l, s => by
    show (Vbcnaa.ints l).foldl (fun n b => n * 256 + b) ((s : Int) * 256 + (x : Int)) = ((l.foldl (fun n b => 256 * n + b) (256 * s + x) : Nat) : Int)
    rw [← numI_foldl l (256 * s + x)]
    congr 1
    omega
theorem numI_ints (l : List Nat) : numI (Vbcnaa.ints l) = ((num l : Nat) : Int) := numI_foldl l 0
theorem numI_field (l : List Nat) (a k : Nat) : numI (((Vbcnaa.ints l).drop a).take k) = ((field l a k : Nat) : Int) := by
  rw [← ints_drop, ← ints_take, numI_ints]
  rfl
theorem getD_field (l : List Nat) (a : Nat) : (Vbcnaa.ints l).getD a 0 = ((field l a 1 : Nat) : Int) := by
  unfold field
  rw [List.getD_eq_getElem?_getD]
  unfold Vbcnaa.ints
  rw [List.getElem?_map]
  cases e : l[a]? with
  | none =>
    have : l.length ≤ a := List.getElem?_eq_none_iff.mp e
    rw [List.drop_of_length_le this]
    rfl
  | some x =>
    have h : a < l.length := (List.getElem?_eq_some_iff.mp e).1
    have hx : l[a] = x := (List.getElem?_eq_some_iff.mp e).2
    rw [List.drop_eq_getElem_cons h, hx]
    show (x : Int) = ((256 * 0 + x : Nat) : Int)
    omega
/-- what the sum's loop adds up -/
def altI : List Int → Int
  | a :: b :: l => 256 * a + b + altI l
  | [a] => 256 * a
  | [] => 0
theorem altI_snoc : ∀ (l : List Int) (x : Int), altI (l ++ [x]) = altI l + (if l.length % 2 = 0 then x * 256 else x)
  | a :: b :: l, x => by
    show 256 * a + b + altI (l ++ [x]) = 256 * a + b + altI l + (if (l.length + 1 + 1) % 2 = 0 then x * 256 else x)
    rw [altI_snoc l x, show (l.length + 1 + 1) % 2 = l.length % 2 by omega]
    omega
  | [a], x => by
    show 256 * a + x + 0 = 256 * a + (if 1 % 2 = 0 then x * 256 else x)
    rw [if_neg (by omega)]
    omega
  | [], x => by
    show 256 * x = 0 + (if 0 % 2 = 0 then x * 256 else x)
    rw [if_pos rfl]
    omega
theorem altI_ints : ∀ l : List Nat, altI (Vbcnaa.ints l) = ((alt l : Nat) : Int)
  | a :: b :: l => by
    show 256 * (a : Int) + (b : Int) + altI (Vbcnaa.ints l) = ((256 * a + b + alt l : Nat) : Int)
    rw [altI_ints l]
    omega
  | [a] => by
    show 256 * (a : Int) = ((256 * a : Nat) : Int)
    omega
  | [] => rfl
def foldI (s : Int) : Int := s % 65536 + s / 65536
theorem foldI_nat (n : Nat) : foldI (n : Int) = ((fold1 n : Nat) : Int) := by
  unfold foldI fold1
  omega
theorem fold3 (n : Nat) : foldI (foldI (foldI (n : Int))) = ((folded n : Nat) : Int) := by
  rw [foldI_nat, foldI_nat, foldI_nat]
  rfl
theorem sumI {l : List Nat} (hb : ∀ b ∈ l, b < 256) (hl : l.length ≤ 20000) : 65535 - foldI (foldI (foldI (altI (Vbcnaa.ints l)))) = ((sum16 l : Nat) : Int) := by
  rw [altI_ints, fold3, sum16_eq]
  have h1 := alt_le l hb
  have h2 := folded_le (s := alt l) (by omega)
  omega
/-- a refusal's number, or 0 -/
def code {α : Type} (x : Except Int α) : Int := match x with
  | .error e => e
  | .ok _ => 0
theorem bytesOf_ints {l : List Nat} (h : ∀ b ∈ l, b < 256) : bytesOf (Vbcnaa.ints l) = l := by
  induction l with
  | nil => rfl
  | cons x l ih =>
    have hx := h x (by simp)
    show (if (x : Int) < 0 ∨ 255 < (x : Int) then 256 else (x : Int).toNat) :: bytesOf (Vbcnaa.ints l) = x :: l
    rw [ih fun b hb => h b (by simp [hb]), if_neg (by omega), Int.toNat_natCast]
/-- a row that is all bytes is one of numbers from 0 on -/
theorem ints_of {l : List Int} (h : l.all isB = true) : ∃ bs : List Nat, l = Vbcnaa.ints bs ∧ ∀ b ∈ bs, b < 256 := ⟨bytesOf l, (ints_bytesOf h).symm, bytes_lt h⟩
theorem areBytes_of {l : List Nat} (h : ∀ b ∈ l, b < 256) : areBytes l = true := areBytes_iff.mpr h
end M
namespace M
open Vbcnaa
/-- may a packet with these numbers be -/
def mayBe (k m o n : Int) : Bool := !(decide (k = 1) && (!decide (m = 0) || !decide (o = 0))) && (!(decide (m = 1) && (decide (n = 0) || !decide (n % 8 = 0))) && decide (8 * o + n ≤ 8000))
/-- a packet's nine numbers -/
abbrev pnums (l : List Int) : List Int := [l.getD 1 0, numI ((l.drop 4).take 2), numI ((l.drop 6).take 2) / 16384, numI ((l.drop 6).take 2) / 8192 % 2, numI ((l.drop 6).take 2) % 8192, l.getD 8 0, l.getD 9 0, numI ((l.drop 12).take 4), numI ((l.drop 16).take 4)]
theorem field_lt {l : List Nat} (h : ∀ b ∈ l, b < 256) (a k : Nat) : field l a k < 256 ^ k := by
  have key : ∀ (m : List Nat) (s : Nat), (∀ b ∈ m, b < 256) → m.foldl (fun n b => 256 * n + b) s < (s + 1) * 256 ^ m.length := by
    intro m
    induction m with
    | nil => intro s _; show s < (s + 1) * 1; omega
    | cons x m ih =>
      intro s hm
      have hx := hm x (by simp)
      have := ih (256 * s + x) fun b hb => hm b (by simp [hb])
      show m.foldl (fun n b => 256 * n + b) (256 * s + x) < (s + 1) * 256 ^ (m.length + 1)
      refine Nat.lt_of_lt_of_le this ?_
      rw [Nat.pow_succ, Nat.mul_comm (256 ^ m.length) 256, ← Nat.mul_assoc]
      exact Nat.mul_le_mul_right _ (by omega)
  have h2 := key ((l.drop a).take k) 0 fun b hb => h b (List.mem_of_mem_drop (List.mem_of_mem_take hb))
  have h3 : ((l.drop a).take k).length ≤ k := by rw [List.length_take]; omega
  unfold field num
  refine Nat.lt_of_lt_of_le h2 ?_
  rw [Nat.zero_add, Nat.one_mul]
  exact Nat.pow_le_pow_right (by omega) h3
/-- the packet that the bytes tell -/
abbrev packetOf (b : List Nat) : Packet := { tos := field b 1 1, id := field b 4 2, keep := field b 6 2 / 16384, more := field b 6 2 / 8192 % 2, offset := field b 6 2 % 8192, hops := field b 8 1, proto := field b 9 1, src := field b 12 4, dst := field b 16 4, body := b.drop 20 }
theorem pnums_ints (b : List Nat) : pnums (Vbcnaa.ints b) = Vbcnaa.ints [field b 1 1, field b 4 2, field b 6 2 / 16384, field b 6 2 / 8192 % 2, field b 6 2 % 8192, field b 8 1, field b 9 1, field b 12 4, field b 16 4] := by
  unfold pnums
  simp only [numI_field, getD_field]
  rfl
theorem mayBe_good {p : Packet} (h : p.keep ≤ 1 ) (h2 : p.more ≤ 1) : mayBe (p.keep : Int) (p.more : Int) (p.offset : Int) (p.body.length : Int) = goodPiece p := by
  unfold mayBe goodPiece DATA
  rw [Bool.eq_iff_iff]
  simp only [Bool.and_eq_true, Bool.or_eq_true, Bool.not_eq_true', Bool.and_eq_false_iff, Bool.or_eq_false_iff, decide_eq_true_eq, decide_eq_false_iff_not, beq_iff_eq, Bool.not_eq_false', Bool.not_eq_eq_eq_not, Bool.not_true, Bool.not_false]
  omega
end M
namespace M
open Vbcnaa
theorem num_snoc (l : List Nat) (x : Nat) : num (l ++ [x]) = 256 * num l + x := by
  unfold num
  rw [List.foldl_append]
  rfl
theorem be_num : ∀ (k : Nat) (l : List Nat), l.length = k → (∀ b ∈ l, b < 256) → be k (num l) = l
  | 0, l, h, _ => by
    rw [List.length_eq_zero_iff.mp h]
    rfl
  | k + 1, l, h, hb => by
    obtain ⟨m, x, rfl⟩ : ∃ m x, l = m ++ [x] := ⟨l.dropLast, l.getLast (by intro z; rw [z] at h; cases h), (List.dropLast_concat_getLast _).symm⟩
    have hm : m.length = k := by
      rw [List.length_append] at h
      have : ([x] : List Nat).length = 1 := rfl
      omega
    have hx : x < 256 := hb x (by simp)
    rw [num_snoc]
    show be k ((256 * num m + x) / 256) ++ [(256 * num m + x) % 256] = m ++ [x]
    rw [show (256 * num m + x) / 256 = num m by omega, show (256 * num m + x) % 256 = x by omega, be_num k m hm fun b h => hb b (by simp [h])]
abbrev sl (b : List Nat) (a k : Nat) : List Nat := (b.drop a).take k
theorem sl_lt {b : List Nat} (h : ∀ x ∈ b, x < 256) (a k : Nat) : ∀ x ∈ sl b a k, x < 256 := fun x hx => h x (List.mem_of_mem_drop (List.mem_of_mem_take hx))
theorem sl_app (b : List Nat) (a k m : Nat) : sl b a k ++ sl b (a + k) m = sl b a (k + m) := by
  unfold sl
  rw [← List.drop_drop, List.take_add]
theorem be_field {b : List Nat} {a k : Nat} (h : ∀ x ∈ b, x < 256) (hl : a + k ≤ b.length) : be k (field b a k) = sl b a k := by
  refine be_num k _ ?_ (sl_lt h a k)
  rw [List.length_take, List.length_drop]
  omega
theorem sl_one {b : List Nat} {a : Nat} (hl : a < b.length) : [field b a 1] = sl b a 1 := by
  unfold field sl
  rw [List.drop_eq_getElem_cons hl]
  show [256 * 0 + b[a]] = [b[a]]
  rw [Nat.mul_zero, Nat.zero_add]
theorem head_eq {b : List Nat} (h : ∀ x ∈ b, x < 256) (hl : 20 ≤ b.length) (h0 : field b 0 1 = 69) (h2 : field b 2 2 = b.length) : headWith (packetOf b) 0 = sl b 0 10 ++ ([0, 0] ++ sl b 12 8) := by
  unfold headWith packetOf
  simp only [List.length_drop]
  rw [show 20 + (b.length - 20) = field b 2 2 by omega, show field b 6 2 / 16384 * 16384 + field b 6 2 / 8192 % 2 * 8192 + field b 6 2 % 8192 = field b 6 2 by omega]
  rw [be_field h (a := 2) (by omega), be_field h (a := 4) (by omega), be_field h (a := 6) (by omega), be_field h (a := 12) (by omega), be_field h (a := 16) (by omega)]
  rw [← h0]
  have e1 : ([field b 0 1, field b 1 1] : List Nat) = sl b 0 2 := by
    rw [← sl_app b 0 1 1, ← sl_one (a := 0) (by omega), ← sl_one (a := 0 + 1) (by omega)]
    rfl
  have e8 : ([field b 8 1, field b 9 1] : List Nat) = sl b 8 2 := by
    rw [← sl_app b 8 1 1, ← sl_one (a := 8) (by omega), ← sl_one (a := 8 + 1) (by omega)]
    rfl
  rw [e1, e8]
  have hz : be 2 0 = [0, 0] := rfl
  rw [hz, sl_app b 12 4 4]
  simp only [← List.append_assoc]
  rw [sl_app b 0 2 2, sl_app b 0 4 2, sl_app b 0 6 2, sl_app b 0 8 2]
theorem readP1 {b : List Int} (h : (decide ((20 : Int) ≤ (b.length : Int)) && decide ((b.length : Int) ≤ 8020) && b.all isB) = false) : readPacket (bytesOf b) = .error (-1) := by
  unfold readPacket
  rw [if_pos]
  rw [areBytes_bytesOf, bytesOf_length]
  unfold DATA
  simp only [Bool.and_eq_false_iff, decide_eq_false_iff_not] at h
  rcases h with (h | h) | h
  · right; left; omega
  · right; right; omega
  · left; exact h
theorem readP_in {b : List Nat} (h : ∀ x ∈ b, x < 256) (h1 : 20 ≤ b.length) (h2 : b.length ≤ 8020) : readPacket b = if field b 0 1 ≠ 69 then .error (-2) else if field b 2 2 ≠ b.length then .error (-3) else
    if field b 10 2 ≠ sum16 (headWith (packetOf b) 0) then .error (-4) else if 32768 ≤ field b 6 2 ∨ goodPiece (packetOf b) = false then .error (-5) else .ok (packetOf b) := by
  unfold readPacket
  rw [if_neg]
  rw [areBytes_of h]
  unfold DATA
  intro z
  rcases z with z | z
  · cases z
  · omega
theorem headSum {b : List Nat} (h : ∀ x ∈ b, x < 256) (hl : 20 ≤ b.length) (h0 : field b 0 1 = 69) (h2 : field b 2 2 = b.length) :
    65535 - foldI (foldI (foldI (altI (((Vbcnaa.ints b).drop 0).take 10 ++ [0, 0] ++ ((Vbcnaa.ints b).drop 12).take 8)))) = ((sum16 (headWith (packetOf b) 0) : Nat) : Int) := by
  have e : ((Vbcnaa.ints b).drop 0).take 10 ++ [0, 0] ++ ((Vbcnaa.ints b).drop 12).take 8 = Vbcnaa.ints (sl b 0 10 ++ ([0, 0] ++ sl b 12 8)) := by
    rw [← List.append_assoc, ints_append, ints_append, ints_take, ints_drop, ints_take, ints_drop]
    rfl
  rw [e, head_eq h hl h0 h2]
  refine sumI (fun x hx => ?_) ?_
  · rw [List.mem_append, List.mem_append] at hx
    rcases hx with hx | hx | hx
    · exact sl_lt h _ _ x hx
    · simp at hx; omega
    · exact sl_lt h _ _ x hx
  · simp only [List.length_append, List.length_take, List.length_drop, List.length_cons, List.length_nil]
    omega
end M
namespace M
open Vbcnaa
theorem readP_ok {b : List Int} (h : code (readPacket (bytesOf b)) = 0) : ∃ bs : List Nat, b = Vbcnaa.ints bs ∧ (∀ x ∈ bs, x < 256) ∧ 20 ≤ bs.length ∧ bs.length ≤ 8020 ∧ readPacket bs = .ok (packetOf bs) := by
  by_cases h1 : (decide ((20 : Int) ≤ (b.length : Int)) && decide ((b.length : Int) ≤ 8020) && b.all isB) = false
  · rw [readP1 h1] at h
    cases h
  · rw [Bool.not_eq_false, Bool.and_eq_true, Bool.and_eq_true, decide_eq_true_eq, decide_eq_true_eq] at h1
    obtain ⟨⟨h2, h3⟩, h4⟩ := h1
    obtain ⟨bs, rfl, hb⟩ := ints_of h4
    rw [ints_length] at h2 h3
    refine ⟨bs, rfl, hb, by omega, by omega, ?_⟩
    rw [bytesOf_ints hb] at h
    rw [readP_in hb (by omega) (by omega)] at h ⊢
    split at h
    · cases h
    · split at h
      · cases h
      · split at h
        · cases h
        · split at h
          · cases h
          · rename_i a1 a2 a3 a4
            rw [if_neg a1, if_neg a2, if_neg a3, if_neg a4]
end M
namespace M
open Vbcnaa
theorem ints_inj : ∀ {a b : List Nat}, Vbcnaa.ints a = Vbcnaa.ints b → a = b
  | [], [], _ => rfl
  | [], _ :: _, h => by cases h
  | _ :: _, [], h => by cases h
  | x :: a, y :: b, h => by
    have h1 : (x : Int) = (y : Int) := (List.cons.inj h).1
    rw [ints_inj (List.cons.inj h).2, Int.ofNat_inj.mp h1]
end M
namespace M
open Vbcnaa
end M
namespace M
open Vbcnaa
def tagI (n : Int) : List Int := [n / 8192, n / 4096 % 2, n % 4096]
theorem tagI_length (n : Int) : (tagI n).length = 3 := rfl
end M
namespace M
open Vbcnaa
end M
namespace M
open Vbcnaa
end M
namespace M
open Vbcnaa
theorem ints_reverse (l : List Nat) : (Vbcnaa.ints l).reverse = Vbcnaa.ints l.reverse := (List.map_reverse ..).symm
end M
namespace M
open Vbcnaa
theorem be_lt : ∀ (k n : Nat), ∀ x ∈ be k n, x < 256
  | 0, _, x, h => by cases h
  | k + 1, n, x, h => by
    rcases List.mem_append.mp (show x ∈ be k (n / 256) ++ [n % 256] from h) with h | h
    · exact be_lt k _ x h
    · rw [List.mem_singleton.mp h]
      exact Nat.mod_lt _ (by omega)
theorem app_lt {a b : List Nat} (ha : ∀ x ∈ a, x < 256) (hb : ∀ x ∈ b, x < 256) : ∀ x ∈ a ++ b, x < 256 := fun x h => (List.mem_append.mp h).elim (ha x) (hb x)
theorem two_lt {a b : Nat} (ha : a < 256) (hb : b < 256) : ∀ x ∈ [a, b], x < 256 := fun x h => by
  rcases List.mem_cons.mp h with h | h
  · omega
  · rw [List.mem_singleton.mp h]
    exact hb
theorem sum16_le (l : List Nat) : sum16 l ≤ 65535 := by
  unfold sum16
  omega
end M
namespace M
open Vbcnaa
end M
namespace M
theorem qhead_length : Vbcnaa.QHEAD.length = 7 := rfl
end M
namespace M
open Vbcnaa
theorem hd1_length (a b q c e n : Nat) : ([69, a] ++ be 2 (20 + n) ++ be 2 b ++ be 2 q ++ [c, e] : List Nat).length = 10 := by
  simp only [List.length_append, be_length]
  rfl
/-- a head's first ten bytes -/
def hd1 (a b q c e n : Nat) : List Nat := [69, a] ++ be 2 (20 + n) ++ be 2 b ++ be 2 q ++ [c, e]
theorem hd1_len (a b q c e n : Nat) : (hd1 a b q c e n).length = 10 := hd1_length a b q c e n
theorem hd1_lt {a b q c e n : Nat} (ha : a < 256) (hc : c < 256) (he : e < 256) : ∀ x ∈ hd1 a b q c e n, x < 256 := by
  unfold hd1
  exact app_lt (app_lt (app_lt (app_lt (two_lt (by omega) ha) (be_lt _ _)) (be_lt _ _)) (be_lt _ _)) (two_lt hc he)
theorem pwrite {a b q c e n f g : Nat} (ha : a < 256) (hc : c < 256) (he : e < 256) : 65535 - foldI (foldI (foldI (altI (Vbcnaa.ints (hd1 a b q c e n) ++ [0, 0] ++ Vbcnaa.ints (be 4 f ++ be 4 g))))) = ((sum16 (hd1 a b q c e n ++ ([0, 0] ++ (be 4 f ++ be 4 g))) : Nat) : Int) := by
  have e0 : Vbcnaa.ints (hd1 a b q c e n) ++ [0, 0] ++ Vbcnaa.ints (be 4 f ++ be 4 g) = Vbcnaa.ints (hd1 a b q c e n ++ ([0, 0] ++ (be 4 f ++ be 4 g))) := by
    rw [List.append_assoc, ints_append, ints_append]
    rfl
  rw [e0]
  refine sumI (app_lt (hd1_lt ha hc he) (app_lt (two_lt (by omega) (by omega)) (app_lt (be_lt _ _) (be_lt _ _)))) ?_
  rw [List.length_append, hd1_len, List.length_append, List.length_append, be_length, be_length]
  show 10 + (2 + (4 + 4)) ≤ 20000
  omega
theorem packet_eq (a b k m o c e f g : Nat) (bs : List Nat) : packetBytes { tos := a, id := b, keep := k, more := m, offset := o, hops := c, proto := e, src := f, dst := g, body := bs } =
    hd1 a b (k * 16384 + m * 8192 + o) c e bs.length ++ (be 2 (sum16 (hd1 a b (k * 16384 + m * 8192 + o) c e bs.length ++ ([0, 0] ++ (be 4 f ++ be 4 g)))) ++ ((be 4 f ++ be 4 g) ++ bs)) := by
  have h : ∀ s : Nat, headWith { tos := a, id := b, keep := k, more := m, offset := o, hops := c, proto := e, src := f, dst := g, body := bs } s = hd1 a b (k * 16384 + m * 8192 + o) c e bs.length ++ (be 2 s ++ (be 4 f ++ be 4 g)) := fun s => by
    unfold headWith hd1
    simp only [List.append_assoc]
  unfold packetBytes
  rw [h, h, show be 2 0 = [0, 0] from rfl]
  simp only [List.append_assoc]
theorem packet_length (p : Packet) : (packetBytes p).length = 20 + p.body.length := by
  obtain ⟨a, b, k, m, o, c, e, f, g, bs⟩ := p
  rw [packet_eq]
  simp only [List.length_append, hd1_len, be_length]
  omega
end M
namespace M
open Vbcnaa
end M
namespace M
open Vbcnaa
end M
namespace M
open Vbcnaa
end M
namespace M
open Vbcnaa
theorem ints_replicate (n x : Nat) : Vbcnaa.ints (List.replicate n x) = List.replicate n (x : Int) := List.map_replicate ..
end M
namespace M
open Vbcnaa
end M
namespace M
open Vbcnaa
end M
namespace M
open Vbcnaa
end M
namespace M
open Vbcnaa
abbrev fI (f : Field) : List Int := (f.code : Int) :: Vbcnaa.ints f.value
end M
namespace M
open Vbcnaa
end M
namespace M
open Vbcnaa
abbrev moreI (r : List Int) : Int := numI ((r.drop 6).take 2) / 8192 % 2
abbrev lastI (r : List Int) : Bool := decide (moreI r = 0)
abbrev startI (r : List Int) : Int := 8 * (numI ((r.drop 6).take 2) % 8192)
abbrev endI (r : List Int) : Int := startI r + ((r.drop 20).length : Int)
abbrev sharedI (r : List Int) : List Int := [r.getD 1 0, numI ((r.drop 4).take 2), numI ((r.drop 6).take 2) / 16384, r.getD 9 0, numI ((r.drop 12).take 4), numI ((r.drop 16).take 4)]
def pendI (l : List (List Int)) : Int := ((l.filter lastI).map endI).getD 0 0
abbrev fitsI (e : Int) (r : List Int) : Bool := if lastI r = true then decide (endI r = e) else decide (endI r ≤ e)
/-- a row laid over another from place s on -/
def putL {α : Type} (p : List α) (s : Nat) (b : List α) : List α := p.take s ++ b ++ p.drop (s + b.length)
theorem putL_length {α : Type} {p b : List α} {s : Nat} (h : s + b.length ≤ p.length) : (putL p s b).length = p.length := by
  unfold putL
  simp only [List.length_append, List.length_take, List.length_drop]
  omega
theorem putL_nil {α : Type} (p : List α) (s : Nat) : putL p s [] = p := by
  unfold putL
  rw [List.append_nil, List.length_nil, Nat.add_zero, List.take_append_drop]
theorem putL_get {α : Type} {p b : List α} {s : Nat} (h : s + b.length ≤ p.length) (i : Nat) : (putL p s b)[i]? = if s ≤ i ∧ i < s + b.length then b[i - s]? else p[i]? := by
  unfold putL
  have hs : (p.take s).length = s := by rw [List.length_take]; omega
  by_cases h1 : i < s
  · rw [if_neg (by omega), List.append_assoc, List.getElem?_append_left (by omega), List.getElem?_take, if_pos h1]
  · by_cases h2 : i < s + b.length
    · rw [if_pos ⟨by omega, h2⟩, List.getElem?_append_left (by rw [List.length_append]; omega), List.getElem?_append_right (by omega), hs]
    · rw [if_neg (by omega), List.getElem?_append_right (by rw [List.length_append]; omega), List.length_append, hs, List.getElem?_drop]
      congr 1
      omega
theorem putL_snoc {α : Type} {p b : List α} {s i : Nat} {z : α} (h : s + b.length ≤ p.length) (hz : b[i]? = some z) : putL p s (b.take (i + 1)) = (putL p s (b.take i)).set (s + i) z := by
  have hi : i < b.length := (List.getElem?_eq_some_iff.mp hz).1
  have l1 : (b.take i).length = i := by rw [List.length_take]; omega
  have l2 : (b.take (i + 1)).length = i + 1 := by rw [List.length_take]; omega
  apply List.ext_getElem?
  intro k
  rw [putL_get (by omega), List.getElem?_set, putL_length (by omega), putL_get (by omega), l1, l2]
  by_cases hk : s + i = k
  · subst hk
    rw [if_pos (by omega), if_pos rfl, if_pos (by omega), List.getElem?_take, if_pos (by omega), show s + i - s = i by omega, hz]
  · rw [if_neg hk]
    by_cases h1 : s ≤ k ∧ k < s + i
    · rw [if_pos (by omega), if_pos h1, List.getElem?_take, List.getElem?_take, if_pos (by omega), if_pos (by omega)]
    · rw [if_neg h1, if_neg (by omega)]
/-- all pieces laid over one another, from the first on -/
def fillI (e : Nat) (l : List (List Int)) : List Int := l.foldl (fun p r => putL p (startI r).toNat (r.drop 20)) (List.replicate e 256)
theorem fillI_snoc (e : Nat) (l : List (List Int)) (r : List Int) : fillI e (l ++ [r]) = putL (fillI e l) (startI r).toNat (r.drop 20) := by
  unfold fillI
  rw [List.foldl_append]
  rfl
theorem fillI_length (e : Nat) : ∀ l : List (List Int), (∀ r ∈ l, (startI r).toNat + (r.drop 20).length ≤ e) → (fillI e l).length = e := by
  intro l
  have key : ∀ (l : List (List Int)) (p : List Int), p.length = e → (∀ r ∈ l, (startI r).toNat + (r.drop 20).length ≤ e) → (l.foldl (fun p r => putL p (startI r).toNat (r.drop 20)) p).length = e := by
    intro l
    induction l with
    | nil => intro p hp _; exact hp
    | cons r l ih =>
      intro p hp h
      exact ih _ ((putL_length (by rw [hp]; exact h r (by simp))).trans hp) fun x hx => h x (by simp [hx])
  exact key l _ (List.length_replicate ..)
/-- the same for packets -/
def fillN (e : Nat) (ps : List Packet) : List Nat := ps.foldl (fun p q => putL p (8 * q.offset) q.body) (List.replicate e 256)
theorem putL_ints (p : List Nat) (s : Nat) (b : List Nat) : putL (Vbcnaa.ints p) s (Vbcnaa.ints b) = Vbcnaa.ints (putL p s b) := by
  unfold putL
  rw [ints_append, ints_append, ints_take, ints_drop, ints_length]
theorem start_ints (b : List Nat) : startI (Vbcnaa.ints b) = ((8 * (packetOf b).offset : Nat) : Int) := by
  unfold startI
  rw [numI_field]
  show 8 * (((field b 6 2 : Nat) : Int) % 8192) = ((8 * (field b 6 2 % 8192) : Nat) : Int)
  omega
theorem fill_ints (e : Nat) (l : List (List Nat)) : fillI e (l.map Vbcnaa.ints) = Vbcnaa.ints (fillN e (l.map packetOf)) := by
  have key : ∀ (l : List (List Nat)) (p : List Nat), (l.map Vbcnaa.ints).foldl (fun p r => putL p (startI r).toNat (r.drop 20)) (Vbcnaa.ints p) = Vbcnaa.ints ((l.map packetOf).foldl (fun p q => putL p (8 * q.offset) q.body) p) := by
    intro l
    induction l with
    | nil => intro p; rfl
    | cons b l ih =>
      intro p
      show (l.map Vbcnaa.ints).foldl _ (putL (Vbcnaa.ints p) (startI (Vbcnaa.ints b)).toNat ((Vbcnaa.ints b).drop 20)) = _
      rw [start_ints, Int.toNat_natCast, ← ints_drop, putL_ints, ih]
      rfl
  unfold fillI fillN
  rw [← key l, ints_replicate]
  rfl
theorem says_iff {i : Nat} {q : Packet} {y : Nat} : saysAt i q = some y ↔ (8 * q.offset ≤ i ∧ q.body[i - 8 * q.offset]? = some y) := by
  unfold saysAt
  by_cases h : i < 8 * q.offset
  · rw [if_pos h]
    constructor
    · intro z
      cases z
    · intro z
      omega
  · rw [if_neg h]
    exact ⟨fun z => ⟨by omega, z⟩, fun z => z.2⟩
theorem snoc_ind {α : Type} {P : List α → Prop} (h0 : P []) (h1 : ∀ l x, P l → P (l ++ [x])) (l : List α) : P l := by
  have key : ∀ m : List α, P m.reverse := by
    intro m
    induction m with
    | nil => exact h0
    | cons x m ih =>
      rw [List.reverse_cons]
      exact h1 _ _ ih
  have := key l.reverse
  rw [List.reverse_reverse] at this
  exact this
/-- what stands at a place: what the last piece that has it says -/
theorem fillN_get (e : Nat) : ∀ (ps : List Packet), (∀ q ∈ ps, endOf q ≤ e) → (fillN e ps).length = e ∧ ∀ i, i < e → (fillN e ps)[i]? = some ((ps.filterMap (saysAt i)).getLast?.getD 256) := by
  refine snoc_ind (fun _ => ?_) (fun ps q ih h => ?_)
  · refine ⟨List.length_replicate .., fun i hi => ?_⟩
    show (List.replicate e 256)[i]? = some 256
    rw [List.getElem?_replicate, if_pos hi]
  · obtain ⟨l1, g1⟩ := ih fun x hx => h x (by simp [hx])
    have hq : endOf q ≤ e := h q (by simp)
    unfold endOf at hq
    have e1 : fillN e (ps ++ [q]) = putL (fillN e ps) (8 * q.offset) q.body := by
      unfold fillN
      rw [List.foldl_append]
      rfl
    rw [e1]
    refine ⟨(putL_length (by omega)).trans l1, fun i hi => ?_⟩
    rw [putL_get (by omega), List.filterMap_append]
    by_cases hs : 8 * q.offset ≤ i ∧ i < 8 * q.offset + q.body.length
    · rw [if_pos hs]
      have hb := List.getElem?_eq_getElem (l := q.body) (i := i - 8 * q.offset) (by omega)
      have hsay : saysAt i q = some (q.body[i - 8 * q.offset]'(by omega)) := says_iff.mpr ⟨hs.1, hb⟩
      rw [hb]
      have : [q].filterMap (saysAt i) = [q.body[i - 8 * q.offset]'(by omega)] := by simp [hsay]
      rw [this, List.getLast?_concat]
      rfl
    · rw [if_neg hs, g1 i hi]
      have hsay : saysAt i q = none := by
        cases z : saysAt i q with
        | none => rfl
        | some y =>
          obtain ⟨z1, z2⟩ := says_iff.mp z
          have := (List.getElem?_eq_some_iff.mp z2).1
          omega
      have : [q].filterMap (saysAt i) = [] := by simp [hsay]
      rw [this, List.append_nil]
end M
namespace M
open Vbcnaa
theorem getLast_mem' {α : Type} {l : List α} {x : α} (h : l.getLast? = some x) : x ∈ l := List.mem_of_getLast? h
/-- all pieces lie in the whole just where no place is told in two ways -/
theorem lies_iff {e : Nat} {ps : List Packet} (h : ∀ q ∈ ps, endOf q ≤ e) : (∀ q ∈ ps, ((fillN e ps).drop (8 * q.offset)).take q.body.length = q.body) ↔ ∀ i, i < e → placeOf ps i ≠ none := by
  obtain ⟨hl, hg⟩ := fillN_get e ps h
  constructor
  · intro hq i hi
    have key : ∀ y, y ∈ ps.filterMap (saysAt i) → (fillN e ps)[i]? = some y := by
      intro y hy
      obtain ⟨q, hqm, hs⟩ := List.mem_filterMap.mp hy
      obtain ⟨s1, s2⟩ := says_iff.mp hs
      have s3 := (List.getElem?_eq_some_iff.mp s2).1
      have := congrArg (fun l : List Nat => l[i - 8 * q.offset]?) (hq q hqm)
      simp only [List.getElem?_take, List.getElem?_drop] at this
      rw [if_pos s3, show 8 * q.offset + (i - 8 * q.offset) = i by omega, s2] at this
      exact this
    unfold placeOf
    cases e1 : ps.filterMap (saysAt i) with
    | nil =>
      intro z
      cases z
    | cons x r =>
      rw [e1] at key
      have hx := key x (by simp)
      have : r.all (fun y => y == x) = true := by
        rw [List.all_eq_true]
        intro y hy
        have := key y (by simp [hy])
        rw [hx] at this
        rw [Option.some.inj this]
        exact beq_self_eq_true y
      simp only [this, if_true]
      intro z
      cases z
  · intro hp q hqm
    have hqe : endOf q ≤ e := h q hqm
    unfold endOf at hqe
    apply List.ext_getElem?
    intro k
    rw [List.getElem?_take, List.getElem?_drop]
    by_cases hk : k < q.body.length
    · rw [if_pos hk, hg _ (by omega)]
      have hb := List.getElem?_eq_getElem hk
      have hsay : saysAt (8 * q.offset + k) q = some q.body[k] := says_iff.mpr ⟨by omega, by rw [show 8 * q.offset + k - 8 * q.offset = k by omega]; exact hb⟩
      have hm : q.body[k] ∈ ps.filterMap (saysAt (8 * q.offset + k)) := List.mem_filterMap.mpr ⟨q, hqm, hsay⟩
      have hne := hp (8 * q.offset + k) (by omega)
      unfold placeOf at hne
      cases e1 : ps.filterMap (saysAt (8 * q.offset + k)) with
      | nil =>
        rw [e1] at hm
        cases hm
      | cons x r =>
        rw [e1] at hm hne
        simp only [] at hne
        have hall : r.all (fun y => y == x) = true := by
          cases z : r.all (fun y => y == x) with
          | true => rfl
          | false =>
            rw [z] at hne
            exact absurd rfl hne
        have each : ∀ y, y ∈ x :: r → y = x := by
          intro y hy
          rcases List.mem_cons.mp hy with hy | hy
          · exact hy
          · exact beq_iff_eq.mp (List.all_eq_true.mp hall y hy)
        rw [hb, each _ hm]
        cases gl : (x :: r).getLast? with
        | none =>
          rw [List.getLast?_eq_none_iff] at gl
          cases gl
        | some y =>
          show some y = some x
          rw [each y (getLast_mem' gl)]
    · rw [if_neg hk, List.getElem?_eq_none (by omega)]
theorem place_fill {e : Nat} {ps : List Packet} (h : ∀ q ∈ ps, endOf q ≤ e) {i : Nat} (hi : i < e) (hp : placeOf ps i ≠ none) : (placeOf ps i = some none ∧ ps.filterMap (saysAt i) = []) ∨ ∃ x, placeOf ps i = some (some x) ∧ (fillN e ps)[i]? = some x ∧ x ∈ ps.filterMap (saysAt i) := by
  obtain ⟨hl, hg⟩ := fillN_get e ps h
  have hg' := hg i hi
  unfold placeOf at hp ⊢
  cases e1 : ps.filterMap (saysAt i) with
  | nil => exact .inl ⟨rfl, rfl⟩
  | cons x r =>
    rw [e1] at hp hg'
    simp only [] at hp
    have hall : r.all (fun y => y == x) = true := by
      cases z : r.all (fun y => y == x) with
      | true => rfl
      | false =>
        rw [z] at hp
        exact absurd rfl hp
    refine .inr ⟨x, by simp only [hall, if_true], ?_, by simp⟩
    rw [hg']
    cases gl : (x :: r).getLast? with
    | none =>
      rw [List.getLast?_eq_none_iff] at gl
      cases gl
    | some y =>
      show some y = some x
      rcases List.mem_cons.mp (getLast_mem' gl) with hy | hy
      · rw [hy]
      · rw [beq_iff_eq.mp (List.all_eq_true.mp hall y hy)]
/-- a hole is a place where 256 stands -/
theorem hole_iff {e : Nat} {ps : List Packet} (h : ∀ q ∈ ps, endOf q ≤ e) (hb : ∀ q ∈ ps, ∀ x ∈ q.body, x < 256) (hp : ∀ i, i < e → placeOf ps i ≠ none) : 256 ∈ fillN e ps ↔ ∃ i, i < e ∧ placeOf ps i = some none := by
  obtain ⟨hl, hg⟩ := fillN_get e ps h
  constructor
  · intro hm
    obtain ⟨i, hi, e1⟩ := List.mem_iff_getElem.mp hm
    have hi' : i < e := by omega
    refine ⟨i, hi', ?_⟩
    rcases place_fill h hi' (hp i hi') with z | ⟨x, _, z2, z3⟩
    · exact z.1
    · obtain ⟨q, hq, hs⟩ := List.mem_filterMap.mp z3
      have hx := hb q hq x (List.mem_of_getElem? (says_iff.mp hs).2)
      rw [List.getElem?_eq_getElem hi, e1] at z2
      have := Option.some.inj z2
      omega
  · rintro ⟨i, hi, hn⟩
    rcases place_fill h hi (hp i hi) with z | ⟨x, z1, _, _⟩
    · have := hg i hi
      rw [z.2] at this
      exact List.mem_of_getElem? this
    · rw [hn] at z1
      cases z1
theorem places_fill {e : Nat} {ps : List Packet} (h : ∀ q ∈ ps, endOf q ≤ e) (hp : ∀ i, i < e → placeOf ps i ≠ none) (hh : ¬ ∃ i, i < e ∧ placeOf ps i = some none) : ((List.range e).map (placeOf ps)).map (fun x => (x.getD none).getD 0) = fillN e ps := by
  obtain ⟨hl, hg⟩ := fillN_get e ps h
  apply List.ext_getElem?
  intro i
  rw [List.getElem?_map, List.getElem?_map]
  by_cases hi : i < e
  · rw [List.getElem?_range hi]
    rcases place_fill h hi (hp i hi) with z | ⟨x, z1, z2, _⟩
    · exact absurd ⟨i, hi, z.1⟩ hh
    · rw [z2]
      show some (((placeOf ps i).getD none).getD 0) = some x
      rw [z1]
      rfl
  · rw [List.getElem?_eq_none (by rw [List.length_range]; omega), List.getElem?_eq_none (by omega)]
    rfl
theorem any_none {e : Nat} {ps : List Packet} : ((List.range e).map (placeOf ps)).any (fun x => x.isNone) = true ↔ ¬ ∀ i, i < e → placeOf ps i ≠ none := by
  rw [List.any_map, List.any_eq_true]
  constructor
  · rintro ⟨i, hi, hn⟩ hall
    have := hall i (List.mem_range.mp hi)
    simp only [Function.comp] at hn
    cases z : placeOf ps i with
    | none => exact this z
    | some y =>
      rw [z] at hn
      cases hn
  · intro hn
    refine Classical.byContradiction fun hc => hn fun i hi hz => hc ⟨i, List.mem_range.mpr hi, ?_⟩
    simp only [Function.comp]
    rw [hz]
    rfl
theorem any_hole {e : Nat} {ps : List Packet} : ((List.range e).map (placeOf ps)).any (fun x => x == some none) = true ↔ ∃ i, i < e ∧ placeOf ps i = some none := by
  rw [List.any_map, List.any_eq_true]
  constructor
  · rintro ⟨i, hi, hn⟩
    simp only [Function.comp] at hn
    exact ⟨i, List.mem_range.mp hi, eq_of_beq hn⟩
  · rintro ⟨i, hi, hn⟩
    refine ⟨i, List.mem_range.mpr hi, ?_⟩
    simp only [Function.comp]
    rw [hn]
    rfl
end M
namespace M
open Vbcnaa
def minI : List Int → Int
  | [] => 0
  | x :: l => l.foldl min x
theorem foldl_min : ∀ (l : List Int) (x : Int), l.foldl min x ≤ x ∧ (∀ y ∈ l, l.foldl min x ≤ y) ∧ (l.foldl min x = x ∨ l.foldl min x ∈ l)
  | [], x => ⟨Int.le_refl _, fun y h => (by cases h), .inl rfl⟩
  | a :: l, x => by
    obtain ⟨h1, h2, h3⟩ := foldl_min l (min x a)
    show l.foldl min (min x a) ≤ x ∧ (∀ y ∈ a :: l, l.foldl min (min x a) ≤ y) ∧ (l.foldl min (min x a) = x ∨ l.foldl min (min x a) ∈ a :: l)
    have ha : min x a ≤ x := Int.min_le_left ..
    have hb : min x a ≤ a := Int.min_le_right ..
    refine ⟨by omega, fun y hy => ?_, ?_⟩
    · rcases List.mem_cons.mp hy with hy | hy
      · subst hy
        omega
      · exact h2 y hy
    · rcases h3 with h3 | h3
      · by_cases hx : x ≤ a
        · rw [Int.min_eq_left hx] at h3 ⊢
          exact .inl h3
        · rw [Int.min_eq_right (by omega)] at h3 ⊢
          right
          rw [h3]
          simp
      · right
        exact List.mem_cons_of_mem _ h3
theorem minI_eq {l : List Int} {m : Int} (h1 : m ∈ l) (h2 : ∀ y ∈ l, m ≤ y) : m = minI l := by
  cases l with
  | nil => cases h1
  | cons x l =>
    obtain ⟨g1, g2, g3⟩ := foldl_min l x
    show m = l.foldl min x
    have hm : l.foldl min x ≤ m := by
      rcases List.mem_cons.mp h1 with h1 | h1
      · rw [h1]
        exact g1
      · exact g2 m h1
    have hm2 : m ≤ l.foldl min x := by
      rcases g3 with g3 | g3
      · rw [g3]
        exact h2 x (by simp)
      · exact h2 _ (by simp [g3])
    omega
theorem min_hops (q : List Nat) (l : List (List Nat)) : minI (((q :: l).map Vbcnaa.ints).map fun r => r.getD 8 0) = (((((q :: l).map packetOf).foldl (fun h p => min h p.hops) (packetOf q).hops : Nat)) : Int) := by
  have key : ∀ (l : List (List Nat)) (h : Nat), ((l.map Vbcnaa.ints).map fun r => r.getD 8 0).foldl min (h : Int) = (((l.map packetOf).foldl (fun h p => min h p.hops) h : Nat) : Int) := by
    intro l
    induction l with
    | nil => intro h; rfl
    | cons b l ih =>
      intro h
      show ((l.map Vbcnaa.ints).map fun r => r.getD 8 0).foldl min (min (h : Int) ((Vbcnaa.ints b).getD 8 0)) = _
      rw [getD_field, show min (h : Int) ((field b 8 1 : Nat) : Int) = ((min h (field b 8 1) : Nat) : Int) by omega, ih]
      rfl
  show ((l.map Vbcnaa.ints).map fun r => r.getD 8 0).foldl min ((Vbcnaa.ints q).getD 8 0) = (((l.map packetOf).foldl (fun h p => min h p.hops) (min (packetOf q).hops (packetOf q).hops) : Nat) : Int)
  rw [getD_field, key, Nat.min_self]
theorem allRead_ok : ∀ {l : List (List Int)}, (∀ r ∈ l, code (readPacket (bytesOf r)) = 0) → ∃ bss : List (List Nat), l = bss.map Vbcnaa.ints ∧ (∀ b ∈ bss, (∀ x ∈ b, x < 256) ∧ 20 ≤ b.length ∧ b.length ≤ 8020 ∧ readPacket b = .ok (packetOf b)) ∧ allRead (l.map bytesOf) = some (bss.map packetOf)
  | [], _ => ⟨[], rfl, fun b h => (by cases h), rfl⟩
  | r :: l, h => by
    obtain ⟨bs, e, hb, l1, l2, hr⟩ := readP_ok (h r (by simp))
    obtain ⟨bss, e2, hbs, ha⟩ := allRead_ok (l := l) fun x hx => h x (by simp [hx])
    refine ⟨bs :: bss, by rw [e, e2]; rfl, fun b hm => ?_, ?_⟩
    · rcases List.mem_cons.mp hm with hm | hm
      · subst hm
        exact ⟨hb, l1, l2, hr⟩
      · exact hbs b hm
    · show (match readPacket (bytesOf r), allRead (l.map bytesOf) with | .ok p, some r => some (p :: r) | _, _ => none) = _
      rw [e, bytesOf_ints hb, hr, ha]
      rfl
theorem allRead_none : ∀ {l : List (List Int)} {r : List Int}, r ∈ l → code (readPacket (bytesOf r)) ≠ 0 → allRead (l.map bytesOf) = none
  | x :: l, r, hm, hc => by
    show (match readPacket (bytesOf x), allRead (l.map bytesOf) with | .ok p, some r => some (p :: r) | _, _ => none) = _
    rcases List.mem_cons.mp hm with hm | hm
    · subst hm
      cases e : readPacket (bytesOf r) with
      | error z => rfl
      | ok p =>
        rw [e] at hc
        exact absurd rfl hc
    · rw [allRead_none hm hc]
      cases readPacket (bytesOf x) <;> rfl
theorem shared_iff (a b : List Nat) : sharedI (Vbcnaa.ints a) = sharedI (Vbcnaa.ints b) ↔ alike (packetOf b) (packetOf a) = true := by
  have h : ∀ c : List Nat, sharedI (Vbcnaa.ints c) = Vbcnaa.ints [field c 1 1, field c 4 2, field c 6 2 / 16384, field c 9 1, field c 12 4, field c 16 4] := fun c => by
    unfold sharedI
    simp only [numI_field, getD_field]
    rfl
  rw [h, h]
  unfold alike
  rw [decide_eq_true_eq]
  constructor
  · intro z
    have z' := ints_inj z
    simp only [List.cons.injEq, and_true] at z'
    obtain ⟨a1, a2, a3, a4, a5, a6⟩ := z'
    exact ⟨a1.symm, a2.symm, a3.symm, a4.symm, a5.symm, a6.symm⟩
  · rintro ⟨a1, a2, a3, a4, a5, a6⟩
    have b1 : field b 1 1 = field a 1 1 := a1
    have b2 : field b 4 2 = field a 4 2 := a2
    have b3 : field b 6 2 / 16384 = field a 6 2 / 16384 := a3
    have b4 : field b 9 1 = field a 9 1 := a4
    have b5 : field b 12 4 = field a 12 4 := a5
    have b6 : field b 16 4 = field a 16 4 := a6
    rw [b1, b2, b3, b4, b5, b6]
theorem last_ints (b : List Nat) : lastI (Vbcnaa.ints b) = ((packetOf b).more == 0) := by
  unfold lastI moreI
  rw [numI_field]
  show decide (((field b 6 2 : Nat) : Int) / 8192 % 2 = 0) = (field b 6 2 / 8192 % 2 == 0)
  rw [Bool.eq_iff_iff, decide_eq_true_eq, beq_iff_eq]
  omega
theorem end_ints (b : List Nat) : endI (Vbcnaa.ints b) = ((endOf (packetOf b) : Nat) : Int) := by
  unfold endI
  rw [start_ints, ← ints_drop, ints_length]
  show _ = ((8 * (packetOf b).offset + (b.drop 20).length : Nat) : Int)
  omega
theorem fits_ints (e : Nat) (b : List Nat) : fitsI (e : Int) (Vbcnaa.ints b) = !(decide (e < endOf (packetOf b)) || ((packetOf b).more == 0 && endOf (packetOf b) != e)) := by
  unfold fitsI
  rw [last_ints, end_ints]
  cases hm : (packetOf b).more == 0 with
  | true =>
    rw [if_pos rfl, Bool.true_and, Bool.eq_iff_iff]
    simp only [decide_eq_true_eq, Bool.not_eq_true', Bool.or_eq_false_iff, decide_eq_false_iff_not, bne_eq_false_iff_eq]
    omega
  | false =>
    rw [if_neg Bool.false_ne_true, Bool.false_and, Bool.or_false, Bool.eq_iff_iff]
    simp only [decide_eq_true_eq, Bool.not_eq_true', decide_eq_false_iff_not]
    omega
theorem find_pend {bss : List (List Nat)} {z : Packet} (h : (bss.map packetOf).find? (fun q => q.more == 0) = some z) : pendI (bss.map Vbcnaa.ints) = ((endOf z : Nat) : Int) := by
  unfold pendI
  induction bss with
  | nil => cases h
  | cons b l ih =>
    rw [List.map_cons, List.find?_cons] at h
    rw [List.map_cons, List.filter_cons, last_ints]
    cases hm : (packetOf b).more == 0 with
    | true =>
      rw [hm] at h
      cases h
      rw [if_pos rfl]
      show endI (Vbcnaa.ints b) = _
      exact end_ints b
    | false =>
      rw [hm] at h
      rw [if_neg Bool.false_ne_true]
      exact ih h
theorem find_none {bss : List (List Nat)} : ((bss.map Vbcnaa.ints).map lastI).any id = ((bss.map packetOf).find? (fun q => q.more == 0)).isSome := by
  induction bss with
  | nil => rfl
  | cons b l ih =>
    rw [List.map_cons, List.map_cons, List.map_cons, List.any_cons, List.find?_cons, last_ints, ih]
    cases hm : (packetOf b).more == 0 <;> rfl
/-- join's number, step by step -/
theorem join_code {bs : List (List Nat)} {p : Packet} {r : List Packet} (hne : bs ≠ []) (hle : bs.length ≤ 256) (h : allRead bs = some (p :: r)) : code (join bs) = if r.all (alike p) = false then -3 else
    match (p :: r).find? (fun q => q.more == 0) with
    | none => -4
    | some z => if (p :: r).any (fun q => decide (endOf z < endOf q) || (q.more == 0 && endOf q != endOf z)) = true then -5 else
      if ((List.range (endOf z)).map (placeOf (p :: r))).any (fun x => x.isNone) = true then -6 else if ((List.range (endOf z)).map (placeOf (p :: r))).any (fun x => x == some none) = true then -7 else 0 := by
  unfold join
  rw [if_neg (by intro z; rcases z with z | z; exact hne z; omega), h]
  simp only []
  split
  · rfl
  · cases (p :: r).find? (fun q => q.more == 0) with
    | none => rfl
    | some z =>
      simp only []
      split
      · rfl
      · split
        · rfl
        · split <;> rfl
end M
namespace M
open Vbcnaa
/-- join's refusal, or 0 -/
def jcode (l : List (List Int)) : Int := if l = [] then -8 else code (join (l.map bytesOf))
theorem alike_both (b0 : List Nat) (bss : List (List Nat)) : (((b0 :: bss).map Vbcnaa.ints).map fun r => decide (sharedI r = sharedI (Vbcnaa.ints b0))).all id = (bss.map packetOf).all (alike (packetOf b0)) := by
  rw [List.map_cons, List.map_cons, List.all_cons]
  show (decide (sharedI (Vbcnaa.ints b0) = sharedI (Vbcnaa.ints b0)) && _) = _
  rw [decide_eq_true rfl, Bool.true_and]
  induction bss with
  | nil => rfl
  | cons b l ih =>
    rw [List.map_cons, List.map_cons, List.map_cons, List.all_cons, List.all_cons, ih]
    congr 1
    show decide (sharedI (Vbcnaa.ints b) = sharedI (Vbcnaa.ints b0)) = alike (packetOf b0) (packetOf b)
    rw [Bool.eq_iff_iff, decide_eq_true_eq]
    exact shared_iff b b0
theorem alike_all (b0 : List Nat) (bss : List (List Nat)) (h : (((b0 :: bss).map Vbcnaa.ints).map fun r => decide (sharedI r = sharedI (Vbcnaa.ints b0))).all id = false) : (bss.map packetOf).all (alike (packetOf b0)) = false := (alike_both b0 bss).symm.trans h
theorem alike_all' (b0 : List Nat) (bss : List (List Nat)) (h : (((b0 :: bss).map Vbcnaa.ints).map fun r => decide (sharedI r = sharedI (Vbcnaa.ints b0))).all id = true) : (bss.map packetOf).all (alike (packetOf b0)) = true := (alike_both b0 bss).symm.trans h
theorem fits_all {e : Nat} {l : List (List Nat)} : ((l.map Vbcnaa.ints).map (fitsI (e : Int))).all id = !((l.map packetOf).any fun q => decide (e < endOf q) || (q.more == 0 && endOf q != e)) := by
  induction l with
  | nil => rfl
  | cons b l ih =>
    rw [List.map_cons, List.map_cons, List.map_cons, List.all_cons, List.any_cons, ih, Bool.not_or]
    congr 1
    exact fits_ints e b
theorem lies_all {e : Nat} {l : List (List Nat)} (h : ∀ q ∈ l.map packetOf, endOf q ≤ e) : ((l.map Vbcnaa.ints).map fun r => decide (((Vbcnaa.ints (fillN e (l.map packetOf))).drop (startI r).toNat).take ((endI r).toNat - (startI r).toNat) = r.drop 20)).all id = true ↔ ∀ q ∈ l.map packetOf, ((fillN e (l.map packetOf)).drop (8 * q.offset)).take q.body.length = q.body := by
  have key : ∀ b : List Nat, (((Vbcnaa.ints (fillN e (l.map packetOf))).drop (startI (Vbcnaa.ints b)).toNat).take ((endI (Vbcnaa.ints b)).toNat - (startI (Vbcnaa.ints b)).toNat) = (Vbcnaa.ints b).drop 20) ↔ ((fillN e (l.map packetOf)).drop (8 * (packetOf b).offset)).take (packetOf b).body.length = (packetOf b).body := fun b => by
    rw [start_ints, end_ints, Int.toNat_natCast, Int.toNat_natCast]
    have e1 : endOf (packetOf b) - 8 * (packetOf b).offset = (packetOf b).body.length := by
      unfold endOf
      omega
    rw [e1, ← ints_drop, ← ints_take, ← ints_drop]
    exact ⟨fun z => ints_inj z, fun z => congrArg Vbcnaa.ints z⟩
  rw [List.all_map, List.all_map, List.all_eq_true]
  constructor
  · intro hh q hq
    obtain ⟨b, hb, rfl⟩ := List.mem_map.mp hq
    exact (key b).mp (of_decide_eq_true (hh b hb))
  · intro hh b hb
    exact decide_eq_true ((key b).mpr (hh (packetOf b) (List.mem_map.mpr ⟨b, hb, rfl⟩)))
theorem any256 {l : List Nat} : ((Vbcnaa.ints l).any fun y => y == 256) = true ↔ 256 ∈ l := by
  rw [List.any_eq_true]
  constructor
  · rintro ⟨y, hy, e⟩
    obtain ⟨x, hx, rfl⟩ := List.mem_map.mp hy
    have : (x : Int) = 256 := eq_of_beq e
    have : x = 256 := by omega
    rw [← this]
    exact hx
  · intro h
    exact ⟨((256 : Nat) : Int), List.mem_map.mpr ⟨256, h, rfl⟩, rfl⟩
end M
namespace M
open Vbcnaa
/-- a packet that is read ends by 8000 -/
theorem piece_end8 {b : List Nat} (h : ∀ x ∈ b, x < 256) (h1 : 20 ≤ b.length) (h2 : b.length ≤ 8020) (hr : readPacket b = .ok (packetOf b)) : endOf (packetOf b) ≤ 8000 := by
  rw [readP_in h h1 h2] at hr
  split at hr
  · cases hr
  · split at hr
    · cases hr
    · split at hr
      · cases hr
      · split at hr
        · cases hr
        · rename_i a4
          have hg : goodPiece (packetOf b) = true := by
            cases q : goodPiece (packetOf b) with
            | true => rfl
            | false => exact absurd (.inr q) a4
          unfold goodPiece DATA at hg
          rw [Bool.and_eq_true, Bool.and_eq_true, decide_eq_true_eq] at hg
          exact hg.2.2
/-- the packet put together -/
abbrev whole (b0 : List Nat) (bss : List (List Nat)) (e : Nat) : Packet := { tos := field b0 1 1, id := field b0 4 2, keep := field b0 6 2 / 16384, more := 0, offset := 0, hops := ((b0 :: bss).map packetOf).foldl (fun h p => min h p.hops) (packetOf b0).hops, proto := field b0 9 1, src := field b0 12 4, dst := field b0 16 4, body := fillN e ((b0 :: bss).map packetOf) }
theorem foldl_hops : ∀ (l : List Packet) (h : Nat), l.foldl (fun h p => min h p.hops) h ≤ h
  | [], h => Nat.le_refl _
  | p :: l, h => by
    have := foldl_hops l (min h p.hops)
    show l.foldl (fun h p => min h p.hops) (min h p.hops) ≤ h
    omega
theorem join_is : ∀ l : List (List Int), l ≠ [] → PyVbcnaa.join l = said (join (l.map bytesOf)) row
  | [], h => absurd rfl h
  | _ :: _, _ => rfl
theorem join_bad {l : List (List Int)} (h : ¬ jcode l = 0) : PyVbcnaa.join l = [jcode l] := by
  unfold jcode at h ⊢
  by_cases hl : l = []
  · subst hl
    rfl
  · rw [if_neg hl] at h ⊢
    rw [join_is l hl]
    cases e : join (l.map bytesOf) with
    | error z => rfl
    | ok p =>
      rw [e] at h
      exact absurd rfl h
theorem join_ok {l : List (List Int)} (h : jcode l = 0) : ∃ (b0 : List Nat) (bss : List (List Nat)), l = (b0 :: bss).map Vbcnaa.ints ∧ ((((∀ r ∈ (b0 :: bss).map Vbcnaa.ints, 20 ≤ r.length) ∧ ((b0 :: bss).map Vbcnaa.ints).length ≤ 1000 ∧ (((b0 :: bss).map Vbcnaa.ints).map lastI).any id = true) ∧ (∀ r ∈ (b0 :: bss).map Vbcnaa.ints, endI r ≤ pendI ((b0 :: bss).map Vbcnaa.ints)) ∧ pendI ((b0 :: bss).map Vbcnaa.ints) ≤ 1000000) ∧ (∀ x ∈ b0, x < 256) ∧ pendI ((b0 :: bss).map Vbcnaa.ints) ≤ 8000 ∧ (∀ q ∈ (b0 :: bss).map packetOf, endOf q ≤ (pendI ((b0 :: bss).map Vbcnaa.ints)).toNat)) ∧
    PyVbcnaa.join l = 0 :: row (packetBytes (whole b0 bss (pendI ((b0 :: bss).map Vbcnaa.ints)).toNat)) ∧ (packetBytes (whole b0 bss (pendI ((b0 :: bss).map Vbcnaa.ints)).toNat)).length ≤ 8020 := by
  unfold jcode at h
  by_cases hl : l = []
  · rw [if_pos hl] at h
    cases h
  · rw [if_neg hl] at h
    have hne2 : l.map bytesOf ≠ [] := fun z => hl (List.map_eq_nil_iff.mp z)
    have hle : (l.map bytesOf).length ≤ 256 := by
      refine Classical.byContradiction fun hc => ?_
      unfold join at h
      rw [if_pos (.inr (by omega))] at h
      cases h
    have hread : ∀ r ∈ l, code (readPacket (bytesOf r)) = 0 := fun r hr => Classical.byContradiction fun hc => by
      unfold join at h
      rw [if_neg (by intro z; rcases z with z | z; exact hne2 z; omega), allRead_none hr hc] at h
      cases h
    obtain ⟨bss, rfl, hbs, har⟩ := allRead_ok hread
    cases bss with
    | nil => exact absurd rfl hl
    | cons b0 bss =>
      have hj := join_code hne2 hle har
      rw [hj] at h
      split at h
      · cases h
      · rename_i a3
        cases ef : (packetOf b0 :: bss.map packetOf).find? (fun q => q.more == 0) with
        | none =>
          rw [ef] at h
          cases h
        | some z =>
          rw [ef] at h
          simp only [] at h
          split at h
          · cases h
          · rename_i a5
            split at h
            · cases h
            · rename_i a6
              split at h
              · cases h
              · rename_i a7
                have hpe : pendI ((b0 :: bss).map Vbcnaa.ints) = ((endOf z : Nat) : Int) := find_pend ef
                have a5' : ((b0 :: bss).map packetOf).any (fun q => decide (endOf z < endOf q) || (q.more == 0 && endOf q != endOf z)) = false := by
                  rw [Bool.eq_false_iff]
                  exact a5
                have hends : ∀ q ∈ (b0 :: bss).map packetOf, endOf q ≤ endOf z := fun q hq => by
                  have := List.any_eq_false.mp a5' q hq
                  rw [Bool.not_eq_true, Bool.or_eq_false_iff, decide_eq_false_iff_not] at this
                  omega
                have hzm : z ∈ (b0 :: bss).map packetOf := List.mem_of_find?_eq_some ef
                have hz8 : endOf z ≤ 8000 := by
                  obtain ⟨b, hb, rfl⟩ := List.mem_map.mp hzm
                  obtain ⟨c1, c2, c3, c4⟩ := hbs b hb
                  exact piece_end8 c1 c2 c3 c4
                have hany : (((b0 :: bss).map Vbcnaa.ints).map lastI).any id = true := by
                  rw [find_none]
                  show ((packetOf b0 :: bss.map packetOf).find? (fun q => q.more == 0)).isSome = true
                  rw [ef]
                  rfl
                have hall : ∀ i, i < endOf z → placeOf ((b0 :: bss).map packetOf) i ≠ none := Classical.byContradiction fun hc => a6 (any_none.mpr hc)
                have hhole : ¬ ∃ i, i < endOf z ∧ placeOf ((b0 :: bss).map packetOf) i = some none := fun hc => a7 (any_hole.mpr hc)
                have hfl := (fillN_get (endOf z) _ hends).1
                refine ⟨b0, bss, rfl, ?_, ?_, ?_⟩
                · rw [hpe, Int.toNat_natCast]
                  refine ⟨⟨⟨fun r hr => ?_, ?_, hany⟩, fun r hr => ?_, by omega⟩, (hbs b0 (by simp)).1, by omega, hends⟩
                  · obtain ⟨b, hb, rfl⟩ := List.mem_map.mp hr
                    rw [ints_length]
                    exact (hbs b hb).2.1
                  · rw [List.length_map] at hle
                    omega
                  · obtain ⟨b, hb, rfl⟩ := List.mem_map.mp hr
                    rw [end_ints]
                    have := hends (packetOf b) (List.mem_map.mpr ⟨b, hb, rfl⟩)
                    omega
                · rw [hpe, Int.toNat_natCast, join_is _ hl]
                  unfold join
                  rw [if_neg (by intro z; rcases z with z | z; exact hne2 z; omega), har]
                  simp only [List.map_cons]
                  rw [if_neg a3, ef]
                  simp only []
                  rw [if_neg a5, if_neg a6, if_neg a7]
                  have hpf := places_fill hends hall hhole
                  simp only [List.map_cons] at hpf
                  rw [hpf]
                  rfl
                · rw [hpe, Int.toNat_natCast, packet_length]
                  show 20 + (fillN (endOf z) ((b0 :: bss).map packetOf)).length ≤ 8020
                  rw [hfl]
                  omega
end M

end
section
set_option Elab.async false
set_option linter.all false
set_option maxRecDepth 100000
namespace M
open Vbcnaa
end M
namespace M
open Vbcnaa
end M
namespace M
open Vbcnaa
end M
namespace M
open Vbcnaa
end M

end
section
set_option Elab.async false
set_option linter.all false
set_option maxRecDepth 100000
namespace B
open PySem PySem.Spec PyProof.Rows L2
theorem vI_get {l : List Int} {i : Nat} {x : V} (h : (l.map V.int)[i]? = some x) : ∃ n : Int, l[i]? = some n ∧ x = V.int n := by
  rw [List.getElem?_map] at h
  cases e : l[i]? with
  | none =>
    rw [e] at h
    cases h
  | some n =>
    rw [e] at h
    exact ⟨n, rfl, (Option.some.inj h).symm⟩
structure Cb (P : Program) (w : World) (K : PySem.W.Frag) (mg : Str → Option Value) (base : Heap) (k : Nat) (x : Str) (ps : List Str) (sp : Sp) : Prop where
  ex : ∃ (f : Addr) (fd : FuncData), FnOk P w K mg base CX0 k f fd ps sp ∧ mg x = some (.ref f) ∧ PySem.W.keepIn K (.ref f) = true ∧ Binds K fd ps []
structure FnI (K : PySem.W.Frag) (mg : Str → Option Value) (x : Str) (st : Stmt) (ps : List Str) (f : Addr) (fd : FuncData) : Prop where
  fn : Fun K x x st f fd
  bi : Binds K fd ps []
  mg : mg x = some (.ref f)
theorem FnI.cb {P : Program} {w : World} {K : PySem.W.Frag} {mg : Str → Option Value} {base : Heap} {k : Nat} {x : Str} {st : Stmt} {ps : List Str} {f : Addr} {fd : FuncData} {sp : Sp} (I : FnI K mg x st ps f fd) (h : FnOk P w K mg base CX0 k f fd ps sp) : Cb P w K mg base k x ps sp :=
  ⟨f, fd, h, I.mg, I.fn.kp, I.bi⟩
/-- every parameter is given, at the row's own call -/
theorem bindsTo {K : PySem.W.Frag} {x qual : Str} {st : Stmt} {f : Addr} {fd : FuncData} {ps : List Str} (F : Fun K x qual st f fd)
    (h : ∀ (kV doc pm : Value) (an : Option Addr) (cdv ct : Value) (us : List Value), us.length = ps.length → bindArgs (PySem.W.fnOf x qual (defArgs st) (defBody st) (defScope st) .none kV doc pm an cdv ct) ⟨us, []⟩ = pure (ps.zip us)) :
    ∀ (s : Shared) (us : List Value), us.length = ps.length → BindsTo s fd ⟨us, []⟩ (ps.zip us) := by
  obtain ⟨oc, od, kV, doc, pm, an, cdv, ct, osl, rfl, lk, hcd⟩ := F.ex
  exact fun s us hu => .of_eq (h kV doc pm an cdv ct us hu)
section
variable {X : Cx}
theorem pe_cb {k : Nat} {x : Str} {ps : List Str} {sp : Sp} {p pos : Pos} {e : Expr} {es : List Expr} {t : TA} (C : Cb X.prog X.w X.K X.mg X.base k x ps sp) (hr : Room k X.A) (hg : Gl X x) (ha : PA X (e :: es) t)
    (hdb : (x == ("__debug__" : Str)) = false := by decide) (he : starEach (e :: es) X.env = (false, eval e X.env) :: starEach es X.env := by rfl) (hpl : (backTo pos (starEach es X.env)).any (·.1) = false := by rfl) :
    PE X (.Call (.Name x p) (e :: es) [] pos) (tCall sp [] E0 t) := by
  obtain ⟨f, fd, F, hm, hk, hb⟩ := C.ex
  exact pe_call F hr hg hm hk hb .nil pass0 ha hdb he hpl
def rCatS (K : PySem.W.Frag) : R2 := fun x y H Q => ∃ l b xs zs, x = .ref l ∧ y = .ref b ∧ SqL K H l xs ∧ SqL K H b zs ∧ xs.length + zs.length ≤ sizeLine ∧ ∀ p, H p = none → Q (.ref p) (upd H p (.lst (xs ++ zs)))
theorem op_catS : OpR X (binaryOp .Add) (rCatS X.K) := by
  intro pins s σ H x y v u Q I rx ry h
  obtain ⟨l, b, xs, zs, rfl, rfl, hl, hb, hz, q⟩ := h
  cases rx
  cases ry
  obtain ⟨its, r, pl, hzl⟩ := I.list hl
  obtain ⟨its2, r2, pl2, hzb⟩ := I.list hb
  have h1 := r.length
  have h2 := r2.length
  obtain ⟨⟨cls, dd, data, sl⟩, n, ho, hc, hdd, hd⟩ := pl
  obtain ⟨⟨cls2, dd2, data2, sl2⟩, n2, ho2, hc2, hdd2, hd2⟩ := pl2
  simp only at hc hd hc2 hd2
  subst hc hd hc2 hd2
  have e : its.toArray ++ its2.toArray = (its ++ its2).toArray := by simp
  refine concat_meets ⟨_, ho, rfl⟩ ⟨_, ho2, rfl⟩ noFill_list_add seq_list_add PySem.F.slot_list_add PySem.F.entry_list_add (PySem.F.args_list_add_2 _ _) (list_addW l b its.toArray its2.toArray n n2 dd dd2 sl sl2 (by simp only [List.size_toArray]; omega)) ⟨ho, ho2, ?_⟩
  rw [e]
  exact ⟨.ref _, _, I.lnew (t' := s.toks) (r.append r2) (by rw [List.length_append]; omega), rfl, q _ I.fresh⟩
end
section
variable {K : PySem.W.Frag} {g : TG} {tb : TS} {D : Ends} {σ : L2.St} {H : Hp}
/-- for i, x in enumerate(xs) -/
theorem for_enum {a : Addr} {xs : List V} (Pv : Nat → L2.St → Hp → Prop) (h0 : Pv 0 σ H) (hl : ∀ i σ H, i ≤ xs.length → Pv i σ H → SqL K H a xs)
    (hs : ∀ i x σ H T, xs[i]? = some x → Pv i σ H → H T = none → g (.ref T) σ (upd H T (.tup [.int (i : Nat), x])) fun σ2 H2 => tb { D with nx := Pv (i + 1), ct := Pv (i + 1), bk := D.nx } σ2 H2) (hd : ∀ σ H, Pv xs.length σ H → D.nx σ H) :
    ∃ W : Nat → Nat → L2.St → Hp → Prop, (∃ m, W 0 m σ H) ∧ ∀ i m σ H, W i m σ H →
      ((Ite K a).stop i H ∧ D.nx σ H) ∨ ((Ite K a).go i H ∧ ∃ N : L2.St → Hp → Prop, (∀ σ' H', N σ' H' → ∃ m', m' < m ∧ W (i + 1) m' σ' H') ∧ ∀ x H', (Ite K a).yld i H x H' → g x σ H' fun σ2 H2 => tb { D with nx := N, ct := N, bk := D.nx } σ2 H2) := by
  refine ⟨fun i m σ H => m = xs.length - i ∧ i ≤ xs.length ∧ Pv i σ H, ⟨xs.length, by simp, Nat.zero_le _, h0⟩, ?_⟩
  rintro i m σ H ⟨rfl, hi, p⟩
  have q := hl i σ H hi p
  by_cases hlt : i < xs.length
  · refine .inr ⟨⟨xs, xs[i], q, by simp [hlt]⟩, Pv (i + 1), fun σ' H' p' => ⟨xs.length - (i + 1), by omega, rfl, hlt, p'⟩, fun x H' y => ?_⟩
    obtain ⟨T, z, e1, hT, e2, y⟩ := y
    subst e1
    subst e2
    exact hs i z σ H T (y xs q) p hT
  · have e : i = xs.length := by omega
    subst e
    exact .inl ⟨⟨xs, q, Nat.le_refl _⟩, hd σ H p⟩
end
theorem same_upd {H : Hp} {p : Addr} {o : HO} (h : H p = none) : Same H (upd H p o) := fun b u e => by
  rw [upd_ne (ne_of_none e h)]
  exact e
end B

end
section
set_option Elab.async false
set_option linter.all false
set_option maxRecDepth 100000
namespace E
open PySem PySem.Spec PyProof.Rows L2 B
/-- plain data: what a slot holds -/
inductive D where
  | non
  | int (i : Int)
  | bl (b : Bool)
  | l (ns : List Int)
  | t (ns : List Int)
  | ll (nss : List (List Int))
  | tt (nss : List (List Int))
  | lb (bs : List Bool)
  | own (ns : List Int)
  | ownll (nss : List (List Int))
  | ownv (vs : List V)
abbrev En := List (Option D)
def isOwn : D → Bool
  | .own _ => true
  | .ownll _ => true
  | .ownv _ => true
  | _ => false
variable {K : PySem.W.Frag}
def IsL (K : PySem.W.Frag) (H : Hp) (v : V) (ns : List Int) : Prop := ∃ a, v = .ref a ∧ SqL K H a (ns.map V.int)
def IsT (K : PySem.W.Frag) (H : Hp) (v : V) (ns : List Int) : Prop := ∃ a, v = .ref a ∧ SqT K H a (ns.map V.int)
def Is (K : PySem.W.Frag) (H : Hp) : D → V → Prop
  | .non, v => v = .non
  | .int i, v => v = .int i
  | .bl b, v => v = .bl b
  | .l ns, v => IsL K H v ns
  | .t ns, v => IsT K H v ns
  | .ll nss, v => ∃ a vs, v = .ref a ∧ SqL K H a vs ∧ Paired (IsL K H) vs nss
  | .tt nss, v => ∃ a vs, v = .ref a ∧ SqT K H a vs ∧ Paired (IsT K H) vs nss
  | .lb bs, v => ∃ a, v = .ref a ∧ SqL K H a (bs.map V.bl)
  | .own _, _ => False
  | .ownll _, _ => False
  | .ownv _, _ => False
theorem sameT {H H' : Hp} {a : Addr} {xs : List V} (e : Same H H') (h : SqT K H a xs) : SqT K H' a xs := by
  rcases h with (h | ⟨o, h⟩) | h
  · exact .inl (.inl (e _ _ h))
  · exact .inl (.inr ⟨o, e _ _ h⟩)
  · exact .inr h
theorem IsL.up {H H' : Hp} {v : V} {ns : List Int} (e : Same H H') (h : IsL K H v ns) : IsL K H' v ns := by
  obtain ⟨a, h1, h2⟩ := h
  exact ⟨a, h1, e.seq h2⟩
theorem IsT.up {H H' : Hp} {v : V} {ns : List Int} (e : Same H H') (h : IsT K H v ns) : IsT K H' v ns := by
  obtain ⟨a, h1, h2⟩ := h
  exact ⟨a, h1, sameT e h2⟩
theorem pmap {α β : Type} {F G : α → β → Prop} (f : ∀ a b, F a b → G a b) : ∀ {xs : List α} {ys : List β}, Paired F xs ys → Paired G xs ys
  | _, _, .nil => .nil
  | _, _, .cons h t => .cons (f _ _ h) (pmap f t)
theorem Is.up {H H' : Hp} {d : D} {v : V} (e : Same H H') (h : Is K H d v) : Is K H' d v := by
  cases d with
  | non => exact h
  | int i => exact h
  | bl b => exact h
  | l ns => exact IsL.up e h
  | t ns => exact IsT.up e h
  | ll nss =>
    obtain ⟨a, vs, h1, h2, h3⟩ := h
    exact ⟨a, vs, h1, e.seq h2, pmap (fun _ _ q => IsL.up e q) h3⟩
  | tt nss =>
    obtain ⟨a, vs, h1, h2, h3⟩ := h
    exact ⟨a, vs, h1, sameT e h2, pmap (fun _ _ q => IsT.up e q) h3⟩
  | lb bs =>
    obtain ⟨a, h1, h2⟩ := h
    exact ⟨a, h1, e.seq h2⟩
  | own _ => exact h
  | ownll _ => exact h
  | ownv _ => exact h
/-- a new list: not of H, written in H' -/
def NewL (H H' : Hp) (v : V) (ns : List Int) : Prop := ∃ q, v = .ref q ∧ H q = none ∧ H' q = some (.lst (ns.map V.int))
def IsN (K : PySem.W.Frag) (H H' : Hp) : D → V → Prop
  | .l ns, v => NewL H H' v ns
  | .ll nss, v => ∃ p vs, v = .ref p ∧ H p = none ∧ H' p = some (.lst vs) ∧ Paired (NewL H H') vs nss
  | .lb bs, v => ∃ p, v = .ref p ∧ H p = none ∧ H' p = some (.lst (bs.map V.bl))
  | d, v => Is K H' d v
theorem NewL.isL {H H' : Hp} {v : V} {ns : List Int} (h : NewL H H' v ns) : IsL K H' v ns := by
  obtain ⟨q, h1, _, h2⟩ := h
  exact ⟨q, h1, SqL.of h2⟩
theorem NewL.mono {H0 H H' : Hp} {v : V} {ns : List Int} (e : Same H0 H) (h : NewL H H' v ns) : NewL H0 H' v ns := by
  obtain ⟨q, h1, h3, h2⟩ := h
  exact ⟨q, h1, e.free h3, h2⟩
theorem IsN.is {H H' : Hp} {d : D} {v : V} (h : IsN K H H' d v) : Is K H' d v := by
  cases d with
  | l ns => exact NewL.isL h
  | ll nss =>
    obtain ⟨p, vs, h1, _, h2, h3⟩ := h
    exact ⟨p, vs, h1, SqL.of h2, pmap (fun _ _ q => NewL.isL q) h3⟩
  | lb bs =>
    obtain ⟨p, h1, _, h2⟩ := h
    exact ⟨p, h1, SqL.of h2⟩
  | _ => exact h
theorem IsN.mono {H0 H H' : Hp} {d : D} {v : V} (e : Same H0 H) (h : IsN K H H' d v) : IsN K H0 H' d v := by
  cases d with
  | l ns => exact NewL.mono e h
  | ll nss =>
    obtain ⟨p, vs, h1, h0, h2, h3⟩ := h
    exact ⟨p, vs, h1, e.free h0, h2, pmap (fun _ _ q => NewL.mono e q) h3⟩
  | lb bs =>
    obtain ⟨p, h1, h0, h2⟩ := h
    exact ⟨p, h1, e.free h0, h2⟩
  | _ => exact h
/-- what a slot says: Hb the heap of the entry, Hf what no one writes any more, H the heap -/
def Slot (K : PySem.W.Frag) (Hb Hf H : Hp) : D → V → Prop
  | .own ns, v => ∃ p, v = .ref p ∧ Hf p = none ∧ H p = some (.lst (ns.map V.int))
  | .ownll nss, v => ∃ p vs, v = .ref p ∧ Hf p = none ∧ H p = some (.lst vs) ∧ Paired (NewL Hb Hf) vs nss
  | .ownv vs, v => ∃ p, v = .ref p ∧ Hf p = none ∧ H p = some (.lst vs)
  | d, v => Is K Hf d v
theorem Slot.of {Hb Hf H : Hp} {d : D} {v : V} (o : isOwn d = false) (h : Is K Hf d v) : Slot K Hb Hf H d v := by
  cases d with
  | own _ => cases o
  | ownll _ => cases o
  | ownv _ => cases o
  | _ => exact h
theorem Slot.to {Hb Hf H : Hp} {d : D} {v : V} (o : isOwn d = false) (h : Slot K Hb Hf H d v) : Is K Hf d v := by
  cases d with
  | own _ => cases o
  | ownll _ => cases o
  | ownv _ => cases o
  | _ => exact h
theorem Slot.up {Hb Hf H Hf' H' : Hp} {d : D} {v : V} (ef : Same Hf Hf') (e : Same H H') (hn : ∀ p, v = .ref p → isOwn d = true → Hf p = none → Hf' p = none) (h : Slot K Hb Hf H d v) : Slot K Hb Hf' H' d v := by
  cases d with
  | own ns =>
    obtain ⟨p, h1, h2, h3⟩ := h
    exact ⟨p, h1, hn p h1 rfl h2, e _ _ h3⟩
  | ownll nss =>
    obtain ⟨p, vs, h1, h2, h3, h4⟩ := h
    exact ⟨p, vs, h1, hn p h1 rfl h2, e _ _ h3, pmap (fun _ _ q => by
      obtain ⟨r, a, b, c⟩ := q
      exact ⟨r, a, b, ef _ _ c⟩) h4⟩
  | ownv vs =>
    obtain ⟨p, h1, h2, h3⟩ := h
    exact ⟨p, h1, hn p h1 rfl h2, e _ _ h3⟩
  | _ => exact Slot.of rfl (Is.up ef (Slot.to (Hb := Hb) (H := H) rfl h))
structure Ok (K : PySem.W.Frag) (ds : En) (σ : L2.St) (Hb H0 H : Hp) : Prop where
  len : σ.length = ds.length
  b0 : Same Hb H0
  ex : ∃ Hf, Same H0 Hf ∧ Same Hf H ∧ (∀ (i : Nat) (d : D), ds[i]? = some (some d) → ∃ v, σ[i]? = some (some v) ∧ Slot K Hb Hf H d v) ∧
    ∀ (i j : Nat) (d d' : D) (v : V), ds[i]? = some (some d) → ds[j]? = some (some d') → isOwn d = true → isOwn d' = true → σ[i]? = some (some v) → σ[j]? = some (some v) → i = j
section
variable {ds : En} {σ : L2.St} {Hb H0 H H' : Hp}
theorem Ok.up (O : Ok K ds σ Hb H0 H) (e : Same H H') : Ok K ds σ Hb H0 H' := by
  obtain ⟨Hf, a, b, c, d⟩ := O.ex
  refine ⟨O.len, O.b0, Hf, a, b.trans e, fun i x h => ?_, d⟩
  obtain ⟨v, h1, h2⟩ := c i x h
  exact ⟨v, h1, h2.up (Same.refl _) e fun _ _ _ q => q⟩
theorem Ok.same0 (O : Ok K ds σ Hb H0 H) : Same H0 H := by
  obtain ⟨Hf, a, b, _⟩ := O.ex
  exact a.trans b
theorem Ok.same (O : Ok K ds σ Hb H0 H) : Same Hb H := O.b0.trans O.same0
/-- less is known -/
def Le : En → En → Prop
  | [], [] => True
  | none :: a, _ :: b => Le a b
  | some d :: a, some d' :: b => d = d' ∧ Le a b
  | _, _ => False
theorem Le.len : ∀ {a b : En}, Le a b → a.length = b.length
  | [], [], _ => rfl
  | none :: a, _ :: b, h => congrArg (· + 1) (Le.len (a := a) (b := b) h)
  | some d :: a, some d' :: b, h => congrArg (· + 1) (Le.len (a := a) (b := b) h.2)
  | [], _ :: _, h => h.elim
  | some _ :: _, none :: _, h => h.elim
  | none :: _, [], h => h.elim
  | some _ :: _, [], h => h.elim
theorem Le.get : ∀ {a b : En}, Le a b → ∀ {i : Nat} {d : D}, a[i]? = some (some d) → b[i]? = some (some d)
  | [], [], _, i, d, e => by simp at e
  | none :: a, _ :: b, h, 0, d, e => by simp at e
  | none :: a, _ :: b, h, i + 1, d, e => by
    have := Le.get (a := a) (b := b) h (i := i) (d := d) (by simpa using e)
    simpa using this
  | some x :: a, some y :: b, h, 0, d, e => by
    have e1 : x = d := by simpa using e
    have e2 : x = y := h.1
    subst e1 e2
    rfl
  | some x :: a, some y :: b, h, i + 1, d, e => by
    have := Le.get (a := a) (b := b) h.2 (i := i) (d := d) (by simpa using e)
    simpa using this
  | [], _ :: _, h, _, _, _ => h.elim
  | some _ :: _, none :: _, h, _, _, _ => h.elim
  | none :: _, [], h, _, _, _ => h.elim
  | some _ :: _, [], h, _, _, _ => h.elim
theorem Le.refl : ∀ a : En, Le a a
  | [] => trivial
  | none :: a => Le.refl a
  | some _ :: a => ⟨rfl, Le.refl a⟩
theorem Ok.le {ds' : En} (O : Ok K ds σ Hb H0 H) (h : Le ds' ds) : Ok K ds' σ Hb H0 H := by
  obtain ⟨Hf, a, b, c, d⟩ := O.ex
  exact ⟨O.len.trans h.len.symm, O.b0, Hf, a, b, fun i x e => c i x (h.get e), fun i j x y v e1 e2 => d i j x y v (h.get e1) (h.get e2)⟩
/-- the owned addresses -/
def Owned (ds : En) (σ : L2.St) (p : Addr) : Prop := ∃ (i : Nat) (d : D), ds[i]? = some (some d) ∧ isOwn d = true ∧ σ[i]? = some (some (.ref p))
open Classical in
/-- all but what is owned -/
noncomputable def cool (ds : En) (σ : L2.St) (H : Hp) : Hp := fun b => if Owned ds σ b then none else H b
theorem cool_own {p : Addr} (h : Owned ds σ p) : cool ds σ H p = none := by
  unfold cool
  rw [if_pos h]
theorem cool_not {p : Addr} (h : ¬ Owned ds σ p) : cool ds σ H p = H p := by
  unfold cool
  rw [if_neg h]
theorem cool_same : Same (cool ds σ H) H := fun b o e => by
  unfold cool at e
  split at e
  · cases e
  · exact e
theorem Slot.own_at {Hf : Hp} {d : D} {p : Addr} (o : isOwn d = true) (h : Slot K Hb Hf H d (.ref p)) : Hf p = none ∧ ∃ xs, H p = some (.lst xs) := by
  cases d with
  | own ns =>
    obtain ⟨q, h1, h2, h3⟩ := h
    cases h1
    exact ⟨h2, _, h3⟩
  | ownll nss =>
    obtain ⟨q, vs, h1, h2, h3, _⟩ := h
    cases h1
    exact ⟨h2, _, h3⟩
  | ownv vs =>
    obtain ⟨q, h1, h2, h3⟩ := h
    cases h1
    exact ⟨h2, _, h3⟩
  | _ => cases o
/-- all that is not owned is as good as never written any more -/
theorem Ok.cooled (O : Ok K ds σ Hb H0 H) (e : Same H H') : Same H0 (cool ds σ H') ∧ Ok K ds σ Hb (cool ds σ H') H' ∧ ∀ p, H p = none → cool ds σ H' p = H' p := by
  obtain ⟨Hf, a, b, c, d⟩ := O.ex
  have no : ∀ p, Owned ds σ p → Hf p = none ∧ ∃ xs, H p = some (.lst xs) := fun p ⟨i, x, h1, h2, h3⟩ => by
    obtain ⟨v, g1, g2⟩ := c i x h1
    rw [h3] at g1
    cases g1
    exact g2.own_at h2
  have sf : Same Hf (cool ds σ H') := fun q o h => by
    rw [cool_not fun z => by rw [(no q z).1] at h; cases h]
    exact e _ _ (b _ _ h)
  refine ⟨a.trans sf, ⟨O.len, O.b0.trans (a.trans sf), _, Same.refl _, cool_same, fun i x h => ?_, d⟩, fun p hp => cool_not fun z => ?_⟩
  · obtain ⟨v, h1, h2⟩ := c i x h
    refine ⟨v, h1, h2.up sf e fun p hv ho _ => cool_own ⟨i, x, h, ho, by rw [h1, hv]⟩⟩
  · obtain ⟨_, xs, q⟩ := no p z
    rw [hp] at q
    cases q
/-- a slot gets a value that no one writes -/
theorem Ok.put {j : Nat} {d : D} {v : V} (O : Ok K ds σ Hb H0 H) (o : isOwn d = false) (h : Is K H0 d v) : Ok K (ds.set j (some d)) (σ.set j (some v)) Hb H0 H := by
  obtain ⟨Hf, a, b, c, e⟩ := O.ex
  refine ⟨by rw [List.length_set, List.length_set]; exact O.len, O.b0, Hf, a, b, fun i x q => ?_, fun i k x y u q1 q2 o1 o2 s1 s2 => ?_⟩
  · by_cases hi : j = i
    · subst hi
      rw [List.getElem?_set] at q
      by_cases hl : j < ds.length
      · rw [if_pos rfl, if_pos hl] at q
        cases q
        exact ⟨v, by rw [List.getElem?_set, if_pos rfl, if_pos (by rw [O.len]; exact hl)], Slot.of o (Is.up a h)⟩
      · rw [if_pos rfl, if_neg hl] at q
        cases q
    · rw [List.getElem?_set_ne hi] at q
      obtain ⟨u, g1, g2⟩ := c i x q
      exact ⟨u, by rw [List.getElem?_set_ne hi]; exact g1, g2⟩
  · have ni : ∀ {m : Nat} {z : D}, (ds.set j (some d))[m]? = some (some z) → isOwn z = true → j ≠ m := fun {m z} q oz hm => by
      subst hm
      rw [List.getElem?_set, if_pos rfl] at q
      by_cases hl : j < ds.length
      · rw [if_pos hl] at q
        cases q
        rw [o] at oz
        cases oz
      · rw [if_neg hl] at q
        cases q
    have n1 := ni q1 o1
    have n2 := ni q2 o2
    rw [List.getElem?_set_ne n1] at q1 s1
    rw [List.getElem?_set_ne n2] at q2 s2
    exact e i k x y u q1 q2 o1 o2 s1 s2
/-- a slot gets a list of its own: p new since H -/
theorem Ok.putOwn {j : Nat} {d : D} {p : Addr} {Hn : Hp} (O : Ok K ds σ Hb H0 H) (e : Same H Hn) (hp : H p = none) (o : isOwn d = true) (h : ∀ Hf, Same H0 Hf → Hf p = none → Slot K Hb Hf Hn d (.ref p)) : Ok K (ds.set j (some d)) (σ.set j (some (.ref p))) Hb H0 Hn := by
  obtain ⟨Hf, a, b, c, f⟩ := O.ex
  have hfp : Hf p = none := b.free hp
  have old : ∀ (i : Nat) (x : D) (u : V), ds[i]? = some (some x) → isOwn x = true → σ[i]? = some (some u) → u ≠ .ref p := fun i x u g1 g2 g3 z => by
    subst z
    obtain ⟨w, k1, k2⟩ := c i x g1
    rw [g3] at k1
    cases k1
    obtain ⟨_, xs, q⟩ := k2.own_at g2
    rw [hp] at q
    cases q
  refine ⟨by rw [List.length_set, List.length_set]; exact O.len, O.b0, Hf, a, b.trans e, fun i x q => ?_, fun i k x y u q1 q2 o1 o2 s1 s2 => ?_⟩
  · by_cases hi : j = i
    · subst hi
      rw [List.getElem?_set] at q
      by_cases hl : j < ds.length
      · rw [if_pos rfl, if_pos hl] at q
        cases q
        exact ⟨_, by rw [List.getElem?_set, if_pos rfl, if_pos (by rw [O.len]; exact hl)], h Hf a hfp⟩
      · rw [if_pos rfl, if_neg hl] at q
        cases q
    · rw [List.getElem?_set_ne hi] at q
      obtain ⟨u, g1, g2⟩ := c i x q
      exact ⟨u, by rw [List.getElem?_set_ne hi]; exact g1, g2.up (Same.refl _) e fun _ _ _ z => z⟩
  · by_cases h1 : j = i
    · by_cases h2 : j = k
      · exact h1.symm.trans h2
      · subst h1
        rw [List.getElem?_set_ne h2] at q2 s2
        rw [List.getElem?_set, if_pos rfl] at s1
        split at s1
        · cases s1
          exact absurd rfl (old k y _ q2 o2 s2)
        · cases s1
    · by_cases h2 : j = k
      · subst h2
        rw [List.getElem?_set_ne h1] at q1 s1
        rw [List.getElem?_set, if_pos rfl] at s2
        split at s2
        · cases s2
          exact absurd rfl (old i x _ q1 o1 s1)
        · cases s2
      · rw [List.getElem?_set_ne h1] at q1 s1
        rw [List.getElem?_set_ne h2] at q2 s2
        exact f i k x y u q1 q2 o1 o2 s1 s2
/-- the list of one's own in slot i is written -/
theorem Ok.write {i : Nat} {d d' : D} {p : Addr} {xs : List V} (O : Ok K ds σ Hb H0 H) (h : ds[i]? = some (some d)) (o : isOwn d = true) (o' : isOwn d' = true) (hv : σ[i]? = some (some (.ref p)))
    (hn : ∀ Hf, Same H0 Hf → Same Hf H → Hf p = none → Slot K Hb Hf H d (.ref p) → Slot K Hb Hf (upd H p (.lst xs)) d' (.ref p)) : Ok K (ds.set i (some d')) σ Hb H0 (upd H p (.lst xs)) := by
  obtain ⟨Hf, a, b, c, f⟩ := O.ex
  have hs : Slot K Hb Hf H d (.ref p) := by
    obtain ⟨v, g1, g2⟩ := c i d h
    rw [hv] at g1
    cases g1
    exact g2
  have hfp : Hf p = none := (hs.own_at o).1
  have hl : i < ds.length := (List.getElem?_eq_some_iff.mp h).1
  have owns : ∀ (m : Nat) (z : D), (ds.set i (some d'))[m]? = some (some z) → isOwn z = true → ∃ y, ds[m]? = some (some y) ∧ isOwn y = true := fun m z q oz => by
    by_cases hm : i = m
    · subst hm
      exact ⟨d, h, o⟩
    · rw [List.getElem?_set_ne hm] at q
      exact ⟨z, q, oz⟩
  refine ⟨by rw [List.length_set]; exact O.len, O.b0, Hf, a, fun q u e => by rw [upd_ne (ne_of_none e hfp)]; exact b _ _ e, fun m x q => ?_, fun m k x y u q1 q2 o1 o2 s1 s2 => ?_⟩
  · by_cases hm : i = m
    · subst hm
      rw [List.getElem?_set, if_pos rfl, if_pos hl] at q
      cases q
      exact ⟨_, hv, hn Hf a b hfp hs⟩
    · rw [List.getElem?_set_ne hm] at q
      obtain ⟨v, g1, g2⟩ := c m x q
      refine ⟨v, g1, ?_⟩
      have np : isOwn x = true → v ≠ .ref p := fun ox z => by
        subst z
        exact hm (f i m d x _ h q o ox hv g1)
      cases x with
      | own ns =>
        obtain ⟨r, k1, k2, k3⟩ := g2
        refine ⟨r, k1, k2, ?_⟩
        rw [upd_ne fun z => np rfl (by rw [k1, z])]
        exact k3
      | ownll ns =>
        obtain ⟨r, vs, k1, k2, k3, k4⟩ := g2
        refine ⟨r, vs, k1, k2, ?_, k4⟩
        rw [upd_ne fun z => np rfl (by rw [k1, z])]
        exact k3
      | ownv ns =>
        obtain ⟨r, k1, k2, k3⟩ := g2
        refine ⟨r, k1, k2, ?_⟩
        rw [upd_ne fun z => np rfl (by rw [k1, z])]
        exact k3
      | _ => exact g2
  · obtain ⟨x', g1, g2⟩ := owns m x q1 o1
    obtain ⟨y', g3, g4⟩ := owns k y q2 o2
    exact f m k x' y' u g1 g3 g2 g4 s1 s2
end
def Ev (K : PySem.W.Frag) (t : TE) (ds : En) (d : D) : Prop := ∀ (σ : L2.St) (Hb H0 H : Hp) (Q : VK), Ok K ds σ Hb H0 H → (∀ v H', Same H H' → Is K H' d v → Q v H') → t σ H Q
def EvN (K : PySem.W.Frag) (t : TE) (ds : En) (d : D) : Prop := ∀ (σ : L2.St) (Hb H0 H : Hp) (Q : VK), Ok K ds σ Hb H0 H → (∀ v H', Same H H' → IsN K H H' d v → Q v H') → t σ H Q
/-- a value that no one writes -/
def EvF (K : PySem.W.Frag) (t : TE) (ds : En) (d : D) : Prop := ∀ (σ : L2.St) (Hb H0 H : Hp) (Q : VK), Ok K ds σ Hb H0 H → (∀ v H' H0', Same H H' → Same H0 H0' → Is K H0' d v → Ok K ds σ Hb H0' H' → Q v H') → t σ H Q
def EvT (K : PySem.W.Frag) (t : TT) (ds : En) (c : Bool) : Prop := ∀ (σ : L2.St) (Hb H0 H : Hp) (Q : Bool → Hp → Prop), Ok K ds σ Hb H0 H → (∀ H', Same H H' → Q c H') → t σ H Q
def EvA (K : PySem.W.Frag) (t : TA) (ds : En) (as : List D) : Prop := ∀ (σ : L2.St) (Hb H0 H : Hp) (Q : List V → Hp → Prop), Ok K ds σ Hb H0 H → (∀ vs H', Same H H' → Paired (Is K H') as vs → Q vs H') → t σ H Q
def EvI (K : PySem.W.Frag) (t : TA) (ds : En) (ns : List Int) : Prop := ∀ (σ : L2.St) (Hb H0 H : Hp) (Q : List V → Hp → Prop), Ok K ds σ Hb H0 H → (∀ H', Same H H' → Q (ns.map V.int) H') → t σ H Q
section
variable {ds : En} {t ta tb tc : TE} {d : D} {i j k : Int} {xs ys : List Int}
theorem EvN.ev (h : EvN K t ds d) : Ev K t ds d := fun σ Hb H0 H Q O q => h σ Hb H0 H Q O fun v H' e n => q v H' e n.is
theorem Ev.to {d' : D} (h : Ev K t ds d) (e : d = d') : Ev K t ds d' := e ▸ h
theorem EvN.to {d' : D} (h : EvN K t ds d) (e : d = d') : EvN K t ds d' := e ▸ h
theorem EvT.to {t : TT} {c c' : Bool} (h : EvT K t ds c) (e : c = c') : EvT K t ds c' := e ▸ h
/-- values that are no objects -/
def scalar : D → Bool
  | .int _ => true
  | .bl _ => true
  | .non => true
  | _ => false
theorem Is.sc {H H' : Hp} {v : V} (s : scalar d = true) (h : Is K H d v) : Is K H' d v := by
  cases d with
  | int _ => exact h
  | bl _ => exact h
  | non => exact h
  | _ => cases s
theorem Ev.n (h : Ev K t ds d) (s : scalar d = true := by rfl) : EvN K t ds d := fun σ Hb H0 H Q O q => h σ Hb H0 H Q O fun v H' e n => q v H' e (by
  cases d with
  | int _ => exact n
  | bl _ => exact n
  | non => exact n
  | _ => cases s)
theorem Ev.f (h : Ev K t ds d) (s : scalar d = true := by rfl) : EvF K t ds d := fun σ Hb H0 H Q O q => h σ Hb H0 H Q O fun v H' e n => q v H' H0 e (Same.refl _) (Is.sc s n) (O.up e)
def isTup : D → Bool
  | .t _ => true
  | .tt _ => true
  | _ => false
theorem IsN.cool {σ : L2.St} {H H' : Hp} {v : V} (hd : isOwn d = false) (ht : isTup d = false) (hc : ∀ p, H p = none → cool ds σ H' p = H' p) (n : IsN K H H' d v) : Is K (E.cool ds σ H') d v := by
  have nl : ∀ v ns, NewL H H' v ns → IsL K (E.cool ds σ H') v ns := fun v ns ⟨q, a, b, c⟩ => ⟨q, a, SqL.of ((hc q b).trans c)⟩
  cases d with
  | l ns => exact nl _ _ n
  | ll nss =>
    obtain ⟨p, vs, a, b, c, e⟩ := n
    exact ⟨p, vs, a, SqL.of ((hc p b).trans c), pmap nl e⟩
  | lb bs =>
    obtain ⟨p, a, b, c⟩ := n
    exact ⟨p, a, SqL.of ((hc p b).trans c)⟩
  | int _ => exact n
  | bl _ => exact n
  | non => exact n
  | t _ => cases ht
  | tt _ => cases ht
  | own _ => cases hd
  | ownll _ => cases hd
  | ownv _ => cases hd
theorem EvN.f (h : EvN K t ds d) (hd : isOwn d = false := by rfl) (ht : isTup d = false := by rfl) : EvF K t ds d := fun σ Hb H0 H Q O q => h σ Hb H0 H Q O fun v H' e n => by
  obtain ⟨c1, c2, c3⟩ := O.cooled e
  exact q v H' _ e c1 (IsN.cool hd ht c3 n) c2
theorem EvF.ev (h : EvF K t ds d) : Ev K t ds d := fun σ Hb H0 H Q O q => h σ Hb H0 H Q O fun v H' H0' e e0 n O' => q v H' e (n.up O'.same0)
theorem evf_var {i : Nat} (h : ds[i]? = some (some d) := by rfl) (o : isOwn d = false := by rfl) : EvF K (tVar i) ds d := fun σ Hb H0 H Q O q => by
  have O' := O
  obtain ⟨Hf, a, b, c, e⟩ := O.ex
  obtain ⟨v, g1, g2⟩ := c i d h
  obtain ⟨c1, c2, c3⟩ := O'.cooled (Same.refl H)
  refine ⟨v, g1, q v H Hf (Same.refl _) a (g2.to o) ⟨O.len, O.b0.trans a, Hf, Same.refl _, b, c, e⟩⟩
theorem ev_var {i : Nat} (h : ds[i]? = some (some d) := by rfl) (o : isOwn d = false := by rfl) : Ev K (tVar i) ds d := (evf_var h o).ev
theorem ev_own {i : Nat} (h : ds[i]? = some (some (.own xs)) := by rfl) : Ev K (tVar i) ds (.l xs) := fun σ Hb H0 H Q O q => by
  obtain ⟨Hf, a, b, c, e⟩ := O.ex
  obtain ⟨v, g1, p, g2, g3, g4⟩ := c i _ h
  exact ⟨v, g1, q v H (Same.refl _) ⟨p, g2, SqL.of g4⟩⟩
theorem ev_int : Ev K (tC (.int i)) ds (.int i) := fun σ Hb H0 H Q O q => q _ H (Same.refl _) rfl
theorem ev_bl {b : Bool} : Ev K (tC (.bl b)) ds (.bl b) := fun σ Hb H0 H Q O q => q _ H (Same.refl _) rfl
/-- a constant of the module -/
def tGlob (K : PySem.W.Frag) (d : D) : TE := fun _ H Q => ∀ v, (∀ H', Is K H' d v) → Q v H
def Glob (K : PySem.W.Frag) (mg : Str → Option Value) (x : Str) (d : D) : Prop := ∃ v u, mg x = some u ∧ RelV v u ∧ ∀ H', Is K H' d v
theorem pe_gd {X : Cx} {x : Str} {pos : Pos} (hg : Gl X x) (h : Glob X.K X.mg x d) (hd : (x == ("__debug__" : Str)) = false := by decide) : PE X (.Name x pos) (tGlob X.K d) := by
  obtain ⟨v, u, h1, h2, h3⟩ := h
  exact fun pins s σ H Q I q => pe_glob hg h1 h2 hd pins s σ H Q I (q v h3)
theorem ev_glob : Ev K (tGlob K d) ds d := fun σ Hb H0 H Q O q v h => q v H (Same.refl _) (h H)
theorem ev_i0 {g : Int → Int → Int} (ha : Ev K ta ds (.int i)) (hb : Ev K tb ds (.int j)) : Ev K (tOp (rI0 fun i j => .int (g i j)) ta tb) ds (.int (g i j)) := fun σ Hb H0 H Q O q =>
  ha σ Hb H0 H _ O fun v H1 e1 n1 => hb σ Hb H0 H1 _ (O.up e1) fun u H2 e2 n2 => ⟨i, j, n1, n2, q _ H2 (e1.trans e2) rfl⟩
theorem ev_b0 {g : Int → Int → Bool} (ha : Ev K ta ds (.int i)) (hb : Ev K tb ds (.int j)) : Ev K (tOp (rI0 fun i j => .bl (g i j)) ta tb) ds (.bl (g i j)) := fun σ Hb H0 H Q O q =>
  ha σ Hb H0 H _ O fun v H1 e1 n1 => hb σ Hb H0 H1 _ (O.up e1) fun u H2 e2 n2 => ⟨i, j, n1, n2, q _ H2 (e1.trans e2) rfl⟩
theorem ev_ic {C : Int → Int → Prop} {g : Int → Int → Int} (ha : Ev K ta ds (.int i)) (hb : Ev K tb ds (.int j)) (hc : C i j) : Ev K (tOp (rI C fun i j => .int (g i j)) ta tb) ds (.int (g i j)) := fun σ Hb H0 H Q O q =>
  ha σ Hb H0 H _ O fun v H1 e1 n1 => hb σ Hb H0 H1 _ (O.up e1) fun u H2 e2 n2 => ⟨i, j, n1, n2, hc, q _ H2 (e1.trans e2) rfl⟩
theorem ev_add (ha : Ev K ta ds (.int i)) (hb : Ev K tb ds (.int j)) : Ev K (tOp (rI0 fun i j => .int (i + j)) ta tb) ds (.int (i + j)) := ev_i0 ha hb
theorem ev_sub (ha : Ev K ta ds (.int i)) (hb : Ev K tb ds (.int j)) : Ev K (tOp (rI0 fun i j => .int (i - j)) ta tb) ds (.int (i - j)) := ev_i0 ha hb
/-- one factor is small -/
def Small (i : Int) : Prop := -(2 ^ 64) < i ∧ i < 2 ^ 64
theorem ev_mulL (ha : Ev K ta ds (.int i)) (hb : Ev K tb ds (.int j)) (h : Small i := by exact ⟨by decide, by decide⟩) : Ev K (tOp (rI CMul fun i j => .int (i * j)) ta tb) ds (.int (i * j)) := ev_ic ha hb (.inl h)
theorem ev_mulR (ha : Ev K ta ds (.int i)) (hb : Ev K tb ds (.int j)) (h : Small j := by exact ⟨by decide, by decide⟩) : Ev K (tOp (rI CMul fun i j => .int (i * j)) ta tb) ds (.int (i * j)) := ev_ic ha hb (.inr h)
theorem ev_fdiv (ha : Ev K ta ds (.int i)) (hb : Ev K tb ds (.int j)) (h : CDiv i j := by exact ⟨by decide, by decide⟩) : Ev K (tOp (rI CDiv fun i j => .int (i / j)) ta tb) ds (.int (i / j)) := ev_ic ha hb h
theorem ev_mod (ha : Ev K ta ds (.int i)) (hb : Ev K tb ds (.int j)) (h : 0 < j := by decide) : Ev K (tOp (rI (fun _ j => 0 < j) fun i j => .int (i % j)) ta tb) ds (.int (i % j)) := ev_ic ha hb h
theorem ev_neg (ha : Ev K ta ds (.int i)) : Ev K (tUn (rU fun i => .int (-i)) ta) ds (.int (-i)) := fun σ Hb H0 H Q O q =>
  ha σ Hb H0 H _ O fun v H1 e1 n1 => ⟨i, n1, q _ H1 e1 rfl⟩
theorem ev_lt (ha : Ev K ta ds (.int i)) (hb : Ev K tb ds (.int j)) : Ev K (tOp (rI0 fun i j => .bl (decide (i < j))) ta tb) ds (.bl (decide (i < j))) := ev_b0 (g := fun i j => decide (i < j)) ha hb
theorem ev_le (ha : Ev K ta ds (.int i)) (hb : Ev K tb ds (.int j)) : Ev K (tOp (rI0 fun i j => .bl (decide (i ≤ j))) ta tb) ds (.bl (decide (i ≤ j))) := ev_b0 (g := fun i j => decide (i ≤ j)) ha hb
theorem ev_gt (ha : Ev K ta ds (.int i)) (hb : Ev K tb ds (.int j)) : Ev K (tOp (rI0 fun i j => .bl (decide (j < i))) ta tb) ds (.bl (decide (j < i))) := ev_b0 (g := fun i j => decide (j < i)) ha hb
theorem ev_ge (ha : Ev K ta ds (.int i)) (hb : Ev K tb ds (.int j)) : Ev K (tOp (rI0 fun i j => .bl (decide (j ≤ i))) ta tb) ds (.bl (decide (j ≤ i))) := ev_b0 (g := fun i j => decide (j ≤ i)) ha hb
theorem decV {i j : Int} : decide (V.int i = V.int j) = decide (i = j) := by
  by_cases h : i = j
  · subst h
    rw [decide_eq_true rfl, decide_eq_true rfl]
  · rw [decide_eq_false h, decide_eq_false fun z => h (V.int.inj z)]
theorem ev_eq (ha : Ev K ta ds (.int i)) (hb : Ev K tb ds (.int j)) : Ev K (tOp rEq ta tb) ds (.bl (decide (i = j))) := fun σ Hb H0 H Q O q =>
  ha σ Hb H0 H _ O fun v H1 e1 n1 => hb σ Hb H0 H1 _ (O.up e1) fun u H2 e2 n2 => by
    cases n1
    cases n2
    refine ⟨rfl, ?_⟩
    rw [decV]
    exact q _ H2 (e1.trans e2) rfl
theorem ev_ne (ha : Ev K ta ds (.int i)) (hb : Ev K tb ds (.int j)) : Ev K (tOp rNe ta tb) ds (.bl (!decide (i = j))) := fun σ Hb H0 H Q O q =>
  ha σ Hb H0 H _ O fun v H1 e1 n1 => hb σ Hb H0 H1 _ (O.up e1) fun u H2 e2 n2 => by
    cases n1
    cases n2
    refine ⟨rfl, ?_⟩
    rw [decV]
    exact q _ H2 (e1.trans e2) rfl
theorem evt_cmp {c : Bool} (h : Ev K t ds (.bl c)) : EvT K (tTest t) ds c := fun σ Hb H0 H Q O q =>
  h σ Hb H0 H _ O fun v H1 e1 n1 => ⟨c, n1, q H1 e1⟩
theorem evt_truth {c : Bool} (h : Ev K t ds (.bl c)) : EvT K (fun σ H Q => t σ H fun x H' => ∃ k, TruV K x H' k ∧ Q k H') ds c := fun σ Hb H0 H Q O q =>
  h σ Hb H0 H _ O fun v H1 e1 n1 => by
    cases n1
    exact ⟨c, rfl, q H1 e1⟩
theorem evt_and {t u : TT} {a b : Bool} (ha : EvT K t ds a) (hb : a = true → EvT K u ds b) : EvT K (tAnd t u) ds (a && b) := fun σ Hb H0 H Q O q =>
  ha σ Hb H0 H _ O fun H1 e1 => by
    cases a with
    | true => exact iteT (hb rfl σ Hb H0 H1 _ (O.up e1) fun H2 e2 => q H2 (e1.trans e2))
    | false => exact iteF (q H1 e1)
theorem evt_or {t u : TT} {a b : Bool} (ha : EvT K t ds a) (hb : a = false → EvT K u ds b) : EvT K (tOr t u) ds (a || b) := fun σ Hb H0 H Q O q =>
  ha σ Hb H0 H _ O fun H1 e1 => by
    cases a with
    | false => exact iteF (hb rfl σ Hb H0 H1 _ (O.up e1) fun H2 e2 => q H2 (e1.trans e2))
    | true => exact iteT (q H1 e1)
theorem evt_not {t : TT} {a : Bool} (ha : EvT K t ds a) : EvT K (tNot t) ds (!a) := fun σ Hb H0 H Q O q =>
  ha σ Hb H0 H _ O fun H1 e1 => q H1 e1
theorem eva_nil : EvA K tNil ds [] := fun σ Hb H0 H Q O q => q [] H (Same.refl _) .nil
theorem eva_cons {u : TA} {as : List D} (ha : Ev K ta ds d) (hb : EvA K u ds as) : EvA K (tCons ta u) ds (d :: as) := fun σ Hb H0 H Q O q =>
  ha σ Hb H0 H _ O fun v H1 e1 n1 => hb σ Hb H0 H1 _ (O.up e1) fun vs H2 e2 n2 => q (v :: vs) H2 (e1.trans e2) (.cons (n1.up e2) n2)
theorem evi_nil : EvI K tNil ds [] := fun σ Hb H0 H Q O q => q H (Same.refl _)
theorem evi_cons {u : TA} (ha : Ev K ta ds (.int i)) (hb : EvI K u ds xs) : EvI K (tCons ta u) ds (i :: xs) := fun σ Hb H0 H Q O q =>
  ha σ Hb H0 H _ O fun v H1 e1 n1 => hb σ Hb H0 H1 _ (O.up e1) fun H2 e2 => by
    cases n1
    exact q H2 (e1.trans e2)
theorem newL {H H1 : Hp} {p : Addr} (e : Same H H1) (hp : H1 p = none) : Same H (upd H1 p (.lst (xs.map V.int))) ∧ NewL H (upd H1 p (.lst (xs.map V.int))) (.ref p) xs :=
  ⟨e.trans (same_upd hp), p, rfl, e.free hp, upd_same⟩
theorem evn_lst {u : TA} (h : EvI K u ds xs) (hl : xs.length ≤ 16777216 := by (try simp only [List.length_cons, List.length_nil]) <;> omega) : EvN K (tLst u) ds (.l xs) := fun σ Hb H0 H Q O q =>
  h σ Hb H0 H _ O fun H1 e1 => ⟨by rw [List.length_map, sizeLine_eq]; exact hl, fun p hp => q _ _ (newL e1 hp).1 (newL e1 hp).2⟩
theorem evn_cat (ha : Ev K ta ds (.l xs)) (hb : Ev K tb ds (.l ys)) (hl : xs.length + ys.length ≤ 16777216) : EvN K (tOp (rCatS K) ta tb) ds (.l (xs ++ ys)) := fun σ Hb H0 H Q O q =>
  ha σ Hb H0 H _ O fun v H1 e1 n1 => hb σ Hb H0 H1 _ (O.up e1) fun u H2 e2 n2 => by
    obtain ⟨a, rfl, s1⟩ := n1
    obtain ⟨b, rfl, s2⟩ := n2
    refine ⟨a, b, _, _, rfl, rfl, e2.seq s1, s2, by rw [List.length_map, List.length_map, sizeLine_eq]; exact hl, fun p hp => ?_⟩
    rw [← List.map_append]
    exact q _ _ (newL (e1.trans e2) hp).1 (newL (e1.trans e2) hp).2
theorem sIx_nn {n d : Nat} {i : Int} (h : 0 ≤ i) : HT.sIx n d (some i) = min i.toNat n := by
  show (if i < 0 then (i + (n : Int)).toNat else min i.toNat n) = _
  rw [if_neg (by omega)]
theorem cut_map (lo hi : Option Int) : cutV (xs.map V.int) lo hi = ((xs.drop (HT.sIx xs.length 0 lo)).take (HT.sIx xs.length xs.length hi - HT.sIx xs.length 0 lo)).map V.int := by
  unfold cutV
  rw [List.length_map, List.map_take, List.map_drop]
theorem cut_ab {a b : Int} (ha : 0 ≤ a) (hb : 0 ≤ b) : cutV (xs.map V.int) (some a) (some b) = ((xs.drop a.toNat).take (b.toNat - a.toNat)).map V.int := by
  rw [cut_map, sIx_nn ha, sIx_nn hb]
  congr 1
  by_cases h : a.toNat ≤ xs.length
  · rw [Nat.min_eq_left h]
    apply List.ext_getElem?
    intro m
    rw [List.getElem?_take, List.getElem?_take, List.getElem?_drop]
    by_cases h1 : m < min b.toNat xs.length - a.toNat
    · rw [if_pos h1, if_pos (by omega)]
    · rw [if_neg h1]
      by_cases h2 : m < b.toNat - a.toNat
      · rw [if_pos h2, List.getElem?_eq_none (by omega)]
      · rw [if_neg h2]
  · rw [List.drop_of_length_le (by omega), List.drop_of_length_le (by omega), List.take_nil, List.take_nil]
theorem cut_a {a : Int} (ha : 0 ≤ a) : cutV (xs.map V.int) (some a) none = (xs.drop a.toNat).map V.int := by
  rw [cut_map, sIx_nn ha]
  congr 1
  show (xs.drop (min a.toNat xs.length)).take (xs.length - min a.toNat xs.length) = _
  by_cases h : a.toNat ≤ xs.length
  · rw [Nat.min_eq_left h]
    exact List.take_of_length_le (by rw [List.length_drop]; exact Nat.le_refl _)
  · rw [List.drop_of_length_le (by omega), List.drop_of_length_le (by omega), List.take_nil]
theorem evn_sl {te : TE} (hx : Ev K te ds (.l xs)) (ha : Ev K ta ds (.int i)) (hb : Ev K tb ds (.int j)) (h1 : 0 ≤ i := by first | decide | omega) (h2 : 0 ≤ j := by first | decide | omega) :
    EvN K (tSl (rSlL K) te (tPart ta) (tPart tb)) ds (.l ((xs.drop i.toNat).take (j.toNat - i.toNat))) := fun σ Hb H0 H Q O q =>
  hx σ Hb H0 H _ O fun v H1 e1 n1 => ha σ Hb H0 H1 _ (O.up e1) fun u H2 e2 n2 => ⟨i, n2, hb σ Hb H0 H2 _ ((O.up e1).up e2) fun w H3 e3 n3 => ⟨j, n3, by
    obtain ⟨a, rfl, s1⟩ := n1
    refine ⟨a, _, rfl, (e2.trans e3).seq s1, fun p hp => ?_⟩
    rw [cut_ab h1 h2]
    exact q _ _ (newL ((e1.trans e2).trans e3) hp).1 (newL ((e1.trans e2).trans e3) hp).2⟩⟩
theorem evn_slA {te : TE} (hx : Ev K te ds (.l xs)) (ha : Ev K ta ds (.int i)) (h1 : 0 ≤ i := by first | decide | omega) :
    EvN K (tSl (rSlL K) te (tPart ta) tNoPart) ds (.l (xs.drop i.toNat)) := fun σ Hb H0 H Q O q =>
  hx σ Hb H0 H _ O fun v H1 e1 n1 => ha σ Hb H0 H1 _ (O.up e1) fun u H2 e2 n2 => ⟨i, n2, by
    obtain ⟨a, rfl, s1⟩ := n1
    refine ⟨a, _, rfl, e2.seq s1, fun p hp => ?_⟩
    rw [cut_a h1]
    exact q _ _ (newL (e1.trans e2) hp).1 (newL (e1.trans e2) hp).2⟩
theorem at_nn {α : Type} {l : List α} {x : α} (h0 : 0 ≤ i) (h : l[i.toNat]? = some x) : atI l i = some x := by
  have := atI_nat h
  rw [Int.toNat_of_nonneg h0] at this
  exact this
theorem at_map {x : Int} (h : xs[i.toNat]? = some x) : (xs.map V.int)[i.toNat]? = some (V.int x) := by
  rw [List.getElem?_map, h]
  rfl
theorem ev_ix {x : Int} (hx : Ev K ta ds (.l xs)) (hi : Ev K tb ds (.int i)) (h : xs[i.toNat]? = some x := by rfl) (h0 : 0 ≤ i := by first | decide | omega) : Ev K (tOp (rIxL K) ta tb) ds (.int x) := fun σ Hb H0 H Q O q =>
  hx σ Hb H0 H _ O fun v H1 e1 n1 => hi σ Hb H0 H1 _ (O.up e1) fun u H2 e2 n2 => by
    obtain ⟨a, rfl, s1⟩ := n1
    exact ⟨a, _, i, _, rfl, n2, e2.seq s1, at_nn h0 (at_map h), q _ H2 (e1.trans e2) rfl⟩
theorem pget {α β : Type} {F : α → β → Prop} : ∀ {l : List α} {r : List β} {m : Nat} {y : β}, Paired F l r → r[m]? = some y → ∃ x, l[m]? = some x ∧ F x y
  | _, _, m, y, .nil, h => by simp at h
  | _, _, 0, y, .cons f _, h => by
    cases h
    exact ⟨_, rfl, f⟩
  | _, _, m + 1, y, .cons _ t, h => by
    obtain ⟨x, a, b⟩ := pget (m := m) t (by simpa using h)
    exact ⟨x, by simpa using a, b⟩
theorem plen {α β : Type} {F : α → β → Prop} : ∀ {l : List α} {r : List β}, Paired F l r → l.length = r.length
  | _, _, .nil => rfl
  | _, _, .cons _ t => congrArg (· + 1) (plen t)
theorem ev_ixll {nss : List (List Int)} (hx : Ev K ta ds (.ll nss)) (hi : Ev K tb ds (.int i)) (h : nss[i.toNat]? = some xs) (h0 : 0 ≤ i := by first | decide | omega) : Ev K (tOp (rIxL K) ta tb) ds (.l xs) := fun σ Hb H0 H Q O q =>
  hx σ Hb H0 H _ O fun v H1 e1 n1 => hi σ Hb H0 H1 _ (O.up e1) fun u H2 e2 n2 => by
    obtain ⟨a, vs, rfl, s1, pr⟩ := n1
    obtain ⟨x, g1, g2⟩ := pget pr h
    exact ⟨a, _, i, _, rfl, n2, e2.seq s1, at_nn h0 g1, q _ H2 (e1.trans e2) (IsL.up e2 g2)⟩
abbrev rLen (K : PySem.W.Frag) : List V → Hp → VK → Prop := fun xs H Q => ∃ p ys, xs = [.ref p] ∧ (SqL K H p ys ∨ SqT K H p ys) ∧ Q (.int ys.length) H
theorem ev_len (hx : Ev K ta ds (.l xs)) : Ev K (tCB (rLen K) (tCons ta tNil)) ds (.int xs.length) := fun σ Hb H0 H Q O q =>
  hx σ Hb H0 H _ O fun v H1 e1 n1 => by
    obtain ⟨a, rfl, s1⟩ := n1
    refine ⟨a, _, rfl, .inl s1, ?_⟩
    rw [List.length_map]
    exact q _ H1 e1 rfl
theorem ev_lenll {nss : List (List Int)} (hx : Ev K ta ds (.ll nss)) : Ev K (tCB (rLen K) (tCons ta tNil)) ds (.int nss.length) := fun σ Hb H0 H Q O q =>
  hx σ Hb H0 H _ O fun v H1 e1 n1 => by
    obtain ⟨a, vs, rfl, s1, pr⟩ := n1
    refine ⟨a, _, rfl, .inl s1, ?_⟩
    rw [plen pr]
    exact q _ H1 e1 rfl
def spF (K : PySem.W.Frag) (f : List D → D → Prop) : Sp := fun vs H Q _ => ∃ as d, Paired (Is K H) as vs ∧ f as d ∧ ∀ v H', Same H H' → IsN K H H' d v → Q v H'
theorem evn_call {f : List D → D → Prop} {u : TA} {as : List D} {E' : XK} (h : EvA K u ds as) (hf : f as d) : EvN K (tCall (spF K f) [] E' u) ds d := fun σ Hb H0 H Q O q =>
  h σ Hb H0 H _ O fun vs H1 e1 n1 => ⟨as, d, by rw [List.append_nil]; exact n1, hf, fun v H' e' n' => q v H' (e1.trans e') (IsN.mono e1 n')⟩
end
def Stm (K : PySem.W.Frag) (t : TS) (ds : En) (res : D) (N : En → Prop) : Prop := ∀ (σ : L2.St) (Hb H0 H : Hp) (Dn : Ends), Ok K ds σ Hb H0 H → (∀ ds' σ' H', N ds' → Ok K ds' σ' Hb H0 H' → Dn.nx σ' H') → (∀ v H', Same Hb H' → IsN K Hb H' res v → Dn.rt v H') → t Dn σ H
section
variable {ds ds' : En} {t u : TS} {te : TE} {d res : D} {N N' : En → Prop}
theorem Ok.low {σ : L2.St} {Hb H0 H0' H : Hp} (O : Ok K ds σ Hb H0' H) (e : Same H0 H0') (eb : Same Hb H0) : Ok K ds σ Hb H0 H := by
  obtain ⟨Hf, a, b, c, d⟩ := O.ex
  exact ⟨O.len, eb, Hf, e.trans a, b, c, d⟩
theorem st_seq (h1 : Stm K t ds res N') (h2 : ∀ ds', N' ds' → Stm K u ds' res N) : Stm K (tSeq t u) ds res N := fun σ Hb H0 H Dn O nx rt =>
  h1 σ Hb H0 H { Dn with nx := u Dn } O (fun ds' σ' H' n O' => h2 ds' n σ' Hb H0 H' Dn O' nx rt) rt
theorem st_then (h1 : Stm K t ds res (· = ds')) (h2 : Stm K u ds' res N) : Stm K (tSeq t u) ds res N := st_seq h1 fun _ e => e ▸ h2
theorem st_mono (h : Stm K t ds res N') (f : ∀ ds', N' ds' → N ds') : Stm K t ds res N := fun σ Hb H0 H Dn O nx rt => h σ Hb H0 H Dn O (fun ds' σ' H' n O' => nx ds' σ' H' (f ds' n) O') rt
theorem st_next (h : N ds) : Stm K tNext ds res N := fun σ Hb H0 H Dn O nx rt => nx ds σ H h O
theorem st_le (l : Le ds' ds) (h : Stm K t ds' res N) : Stm K t ds res N := fun σ Hb H0 H Dn O nx rt => h σ Hb H0 H Dn (O.le l) nx rt
theorem st_ret (h : EvN K te ds res) : Stm K (tRet te) ds res N := fun σ Hb H0 H Dn O nx rt =>
  h σ Hb H0 H _ O fun v H' e n => rt v H' (O.same.trans e) (IsN.mono O.same n)
theorem st_retOwn {i : Nat} {xs : List Int} (h : ds[i]? = some (some (.own xs)) := by rfl) : Stm K (tRet (tVar i)) ds (.l xs) N := fun σ Hb H0 H Dn O nx rt => by
  have O' := O
  obtain ⟨Hf, a, b, c, e⟩ := O.ex
  obtain ⟨v, g1, p, g2, g3, g4⟩ := c i _ h
  exact ⟨v, g1, rt v H O'.same ⟨p, g2, (O.b0.trans a).free g3, g4⟩⟩
theorem st_set {j : Nat} (h : EvF K te ds d) (o : isOwn d = false := by rfl) : Stm K (tAsg te (gName j)) ds res (· = ds.set j (some d)) := fun σ Hb H0 H Dn O nx rt =>
  h σ Hb H0 H _ O fun v H' H0' e e0 n O' => nx _ _ H' rfl ((O'.put o n).low e0 O.b0)
theorem st_own {j : Nat} {xs : List Int} (h : EvN K te ds (.l xs)) : Stm K (tAsg te (gName j)) ds res (· = ds.set j (some (.own xs))) := fun σ Hb H0 H Dn O nx rt =>
  h σ Hb H0 H _ O fun v H' e n => by
    obtain ⟨q, rfl, hq, hq'⟩ := n
    exact nx _ _ H' rfl (O.putOwn e hq rfl fun Hf _ hf => ⟨q, rfl, hf, hq'⟩)
theorem st_if {c : TT} {b : Bool} (hc : EvT K c ds b) (h1 : b = true → Stm K t ds res N) (h2 : b = false → Stm K u ds res N) : Stm K (tIfS c t u) ds res N := fun σ Hb H0 H Dn O nx rt =>
  hc σ Hb H0 H _ O fun H1 e1 => by
    cases b with
    | true => exact iteT (h1 rfl σ Hb H0 H1 Dn (O.up e1) nx rt)
    | false => exact iteF (h2 rfl σ Hb H0 H1 Dn (O.up e1) nx rt)
/-- if c: return .. -/
theorem st_guard {c : TT} {b : Bool} {r : TS} (hc : EvT K c ds b) (h1 : b = true → Stm K t ds res fun _ => False) (h2 : b = false → Stm K r ds res N) : Stm K (tSeq (tIfS c t tNext) r) ds res N :=
  st_seq (N' := fun x => b = false ∧ x = ds) (st_if hc (fun hb => st_mono (h1 hb) fun _ z => z.elim) fun hb => st_next ⟨hb, rfl⟩) fun _ ⟨hb, e⟩ => e ▸ h2 hb
theorem st_aug {j : Nat} {i k : Int} {g : Int → Int → Int} (h : ds[j]? = some (some (.int i)) := by rfl) (he : Ev K te ds (.int k)) : Stm K (tAug j te (rI0 fun i j => .int (g i j))) ds res (· = ds.set j (some (.int (g i k)))) := fun σ Hb H0 H Dn O nx rt => by
  have O' := O
  obtain ⟨Hf, a, b, c, e⟩ := O.ex
  obtain ⟨v, g1, g2⟩ := c j _ h
  refine ⟨v, g1, he σ Hb H0 H _ O' fun w H1 e1 n1 => ⟨i, k, g2, n1, nx _ _ H1 rfl ((O'.up e1).put rfl ?_)⟩⟩
  exact rfl
theorem st_append {j : Nat} {xs : List Int} {x : Int} (h : ds[j]? = some (some (.own xs))) (he : Ev K te ds (.int x)) (hl : xs.length < 16777216) :
    Stm K (tDrop (tBM K "list" rAppend (tVar j) (tCons te tNil))) ds res (· = ds.set j (some (.own (xs ++ [x])))) := fun σ Hb H0 H Dn O nx rt => by
  have O' := O
  obtain ⟨Hf, a, b, c, e⟩ := O.ex
  obtain ⟨v, g1, p, rfl, g3, g4⟩ := c j _ h
  refine ⟨_, g1, .inl ⟨rfl, _, SqL.of g4⟩, he σ Hb H0 H _ O' fun w H1 e1 n1 => ?_⟩
  cases n1
  have g5 := e1 _ _ g4
  refine ⟨p, _, _, rfl, rfl, g5, by rw [List.length_map, sizeLine_eq]; exact hl, nx _ _ _ rfl ((O'.up e1).write h rfl rfl g1 fun Hf' _ s1 s2 _ => ⟨p, rfl, s2, ?_⟩)⟩
  rw [upd_same, List.map_append]
  rfl
theorem st_setitem {j : Nat} {xs : List Int} {x k : Int} {ti : TE} (h : ds[j]? = some (some (.own xs))) (he : Ev K te ds (.int x)) (hi : Ev K ti ds (.int k)) (h0 : 0 ≤ k) (hk : k < xs.length) :
    Stm K (tAsg te (gSub (tVar j) ti rSetL)) ds res (· = ds.set j (some (.own (xs.set k.toNat x)))) := fun σ Hb H0 H Dn O nx rt =>
  he σ Hb H0 H _ O fun w H1 e1 n1 => by
    have O1 := O.up e1
    have O' := O1
    obtain ⟨Hf, a, b, c, e⟩ := O1.ex
    obtain ⟨v, g1, p, rfl, g3, g4⟩ := c j _ h
    refine ⟨_, g1, hi σ Hb H0 H1 _ O' fun w2 H2 e2 n2 => ?_⟩
    cases n1
    cases n2
    have g5 := e2 _ _ g4
    refine ⟨p, _, k, k.toNat, rfl, rfl, g5, ?_, nx _ _ _ rfl ((O'.up e2).write h rfl rfl g1 fun Hf' _ s1 s2 _ => ⟨p, rfl, s2, ?_⟩)⟩
    · unfold ixN
      rw [if_pos h0, List.length_map, if_pos hk]
    · rw [upd_same, List.map_set]
theorem paired_get {H : Hp} : ∀ {as : List D} {vs : List V}, Paired (Is K H) as vs → ∀ {i : Nat} {d : D}, as[i]? = some d → ∃ v, vs[i]? = some v ∧ Is K H d v
  | _, _, .nil, i, d, h => by simp at h
  | _, _, .cons f _, 0, d, h => by
    cases h
    exact ⟨_, rfl, f⟩
  | _, _, .cons _ t, i + 1, d, h => by
    obtain ⟨x, a, b⟩ := paired_get t (i := i) (by simpa using h)
    exact ⟨x, by simpa using a, b⟩
theorem Is.noown {H : Hp} {v : V} (h : Is K H d v) : isOwn d = false := by
  cases d <;> first | rfl | exact h.elim
theorem ok_start {N : List Str} {vs : List V} {as : List D} {H : Hp} (h : Paired (Is K H) as vs) : Ok K (as.map some ++ List.replicate (N.length - as.length) none) (L2.start N vs) H H H := by
  have hl := plen h
  refine ⟨?_, Same.refl _, H, Same.refl _, Same.refl _, fun i d q => ?_, fun i j x y v q1 q2 o1 o2 s1 s2 => ?_⟩
  · unfold L2.start
    rw [List.length_append, List.length_append, List.length_map, List.length_map, List.length_replicate, List.length_replicate, hl]
  · by_cases hi : i < as.length
    · rw [List.getElem?_append_left (by rw [List.length_map]; exact hi), List.getElem?_map] at q
      cases e : as[i]? with
      | none =>
        rw [e] at q
        cases q
      | some z =>
        rw [e] at q
        cases q
        obtain ⟨v, g1, g2⟩ := paired_get h e
        refine ⟨v, ?_, Slot.of g2.noown g2⟩
        unfold L2.start
        rw [List.getElem?_append_left (by rw [List.length_map]; omega), List.getElem?_map, g1]
        rfl
    · rw [List.getElem?_append_right (by rw [List.length_map]; omega), List.getElem?_replicate] at q
      split at q <;> cases q
  · exfalso
    by_cases hi : i < as.length
    · rw [List.getElem?_append_left (by rw [List.length_map]; exact hi), List.getElem?_map] at q1
      cases e : as[i]? with
      | none =>
        rw [e] at q1
        cases q1
      | some z =>
        rw [e] at q1
        cases q1
        obtain ⟨v, g1, g2⟩ := paired_get h e
        rw [g2.noown] at o1
        cases o1
    · rw [List.getElem?_append_right (by rw [List.length_map]; omega), List.getElem?_replicate] at q1
      split at q1 <;> cases q1
/-- THE RULE for a def in plain data -/
theorem fn_ok {P : Program} {w : World} {mg : Str → Option Value} {base : Heap} {x qual : Str} {st : Stmt} {a : Addr} {fd : FuncData} {N ps : List Str} {k : Nat} {f : List D → D → Prop} (F : Fun K x qual st a fd) (S : FnScope N ps (defScope st)) (len : ∀ as d, f as d → as.length = ps.length)
    (hbody : ∀ (cdv : Value) (A : Around) (outer : List Env) (s : Shared) (H : Hp) (E' : XK) (as : List D) (d : D), Room k (A.deeper (envOfC qual (defScope st) s.heap.objs.size a cdv)) → f as d →
      ∃ t, PSs (cxOf CX0 P w K mg base N qual (defScope st) a cdv A outer s H E').nox (defBody st) t ∧ Stm K t (as.map some ++ List.replicate (N.length - as.length) none) d fun _ => False) : FnOk P w K mg base CX0 (k + 1) a fd ps (spF K f) := by
  refine F.ok S (fun vs H Q E' h => ?_) (fun cdv A outer s H vs Q E' hr h => ?_)
  · obtain ⟨as, d, pr, hf, _⟩ := h
    rw [← plen pr]
    exact len as d hf
  · obtain ⟨as, d, pr, hf, q⟩ := h
    obtain ⟨t, h1, h2⟩ := hbody cdv A outer s H E' as d hr hf
    exact ⟨t, h1, h2 _ H H H _ (ok_start pr) (fun _ _ _ z => z.elim) q⟩
end
section
variable {ds : En} {tb : TS} {tl : TE} {res : D} {j : Nat}
/-- for x in a list of ints -/
theorem st_for {ns : List Int} (dsf : Nat → En) (P : Nat → Prop) (hl : EvF K tl ds (.l ns)) (h0 : P 0 ∧ Le (dsf 0) ds)
    (hs : ∀ i z, ns[i]? = some z → P i → Stm K tb ((dsf i).set j (some (.int z))) res fun x => P (i + 1) ∧ Le (dsf (i + 1)) x) :
    Stm K (tFor (iList K tl) (gName j) tb) ds res fun x => P ns.length ∧ x = dsf ns.length := fun σ Hb H0 H Dn O nx rt =>
  hl σ Hb H0 H _ O fun v H1 H01 e1 e01 n1 O1 => by
    obtain ⟨a, rfl, s1⟩ := n1
    refine ⟨a, rfl, ⟨_, O1.same0.seq s1⟩, for_list (K := K) (a := a) (xs := ns.map V.int) (fun i σ' H' => P i ∧ Ok K (dsf i) σ' Hb H01 H') ⟨h0.1, O1.le h0.2⟩ (fun i σ' H' _ p => p.2.same0.seq s1) (fun i x σ' H' hx p => ?_) fun σ' H' p => ?_⟩
    · obtain ⟨z, hz, rfl⟩ := vI_get hx
      exact hs i z hz p.1 _ Hb H01 H' _ (p.2.put (j := j) rfl rfl) (fun ds' σ2 H2 n O2 => ⟨n.1, O2.le n.2⟩) rt
    · rw [List.length_map] at p
      exact nx _ _ _ ⟨p.1, rfl⟩ (p.2.low e01 O.b0)
/-- for x in a list of lists -/
theorem st_forll {nss : List (List Int)} (dsf : Nat → En) (P : Nat → Prop) (hl : EvF K tl ds (.ll nss)) (h0 : P 0 ∧ Le (dsf 0) ds)
    (hs : ∀ i z, nss[i]? = some z → P i → Stm K tb ((dsf i).set j (some (.l z))) res fun x => P (i + 1) ∧ Le (dsf (i + 1)) x) :
    Stm K (tFor (iList K tl) (gName j) tb) ds res fun x => P nss.length ∧ x = dsf nss.length := fun σ Hb H0 H Dn O nx rt =>
  hl σ Hb H0 H _ O fun v H1 H01 e1 e01 n1 O1 => by
    obtain ⟨a, vs, rfl, s1, pr⟩ := n1
    have hlen := plen pr
    refine ⟨a, rfl, ⟨_, O1.same0.seq s1⟩, for_list (K := K) (a := a) (xs := vs) (fun i σ' H' => P i ∧ Ok K (dsf i) σ' Hb H01 H') ⟨h0.1, O1.le h0.2⟩ (fun i σ' H' _ p => p.2.same0.seq s1) (fun i x σ' H' hx p => ?_) fun σ' H' p => ?_⟩
    · have hi : i < nss.length := by rw [← hlen]; exact (List.getElem?_eq_some_iff.mp hx).1
      obtain ⟨x', g1, g2⟩ := pget pr (List.getElem?_eq_getElem hi)
      rw [hx] at g1
      cases g1
      exact hs i _ (List.getElem?_eq_getElem hi) p.1 _ Hb H01 H' _ (p.2.put (j := j) (d := .l _) rfl g2) (fun ds' σ2 H2 n O2 => ⟨n.1, O2.le n.2⟩) rt
    · rw [hlen] at p
      exact nx _ _ _ ⟨p.1, rfl⟩ (p.2.low e01 O.b0)
/-- for x in range(n) -/
theorem st_range {ta : TE} {m : Int} (dsf : Nat → En) (P : Nat → Prop) (hl : Ev K ta ds (.int m)) (hm : m < 2 ^ 62) (hm0 : -(2 ^ 62) ≤ m) (h0 : P 0 ∧ Le (dsf 0) ds)
    (hs : ∀ i : Nat, i < m.toNat → P i → Stm K tb ((dsf i).set j (some (.int (i : Int)))) res fun x => P (i + 1) ∧ Le (dsf (i + 1)) x) :
    Stm K (tFor (iRng1 (tCons ta tNil)) (gName j) tb) ds res fun x => P m.toNat ∧ x = dsf m.toNat := fun σ Hb H0 H Dn O nx rt =>
  hl σ Hb H0 H _ O fun v H1 e1 n1 => by
    cases n1
    have O1 := O.up e1
    refine ⟨m, rfl, hm0, hm, for_range (lo := 0) (n := m.toNat) (fun i σ' H' => P i ∧ Ok K (dsf i) σ' Hb H0 H') ⟨h0.1, O1.le h0.2⟩ (fun i σ' H' hi p => ?_) fun σ' H' p => nx _ _ _ ⟨p.1, rfl⟩ p.2⟩
    have e : (0 : Int) + (i : Int) = (i : Int) := by omega
    rw [e]
    exact hs i hi p.1 _ Hb H0 H' _ (p.2.put (j := j) rfl rfl) (fun ds' σ2 H2 n O2 => ⟨n.1, O2.le n.2⟩) rt
/-- for i, x in enumerate(xs) -/
theorem st_enum {ns : List Int} {j' : Nat} (dsf : Nat → En) (P : Nat → Prop) (hl : EvF K tl ds (.l ns)) (h0 : P 0 ∧ Le (dsf 0) ds)
    (hs : ∀ (i : Nat) (z : Int), ns[i]? = some z → P i → Stm K tb (((dsf i).set j (some (.int (i : Int)))).set j' (some (.int z))) res fun x => P (i + 1) ∧ Le (dsf (i + 1)) x) :
    Stm K (tFor (iEnum K (tCons tl tNil)) (gTup K 2 (gCons (gName j) (gCons (gName j') gNil))) tb) ds res fun x => P ns.length ∧ x = dsf ns.length := fun σ Hb H0 H Dn O nx rt =>
  hl σ Hb H0 H _ O fun v H1 H01 e1 e01 n1 O1 => by
    obtain ⟨a, rfl, s1⟩ := n1
    refine ⟨a, _, rfl, O1.same0.seq s1, for_enum (K := K) (a := a) (xs := ns.map V.int) (fun i σ' H' => P i ∧ Ok K (dsf i) σ' Hb H01 H') ⟨h0.1, O1.le h0.2⟩ (fun i σ' H' _ p => p.2.same0.seq s1) (fun i x σ' H' T hx p hT => ?_) fun σ' H' p => ?_⟩
    · obtain ⟨z, hz, rfl⟩ := vI_get hx
      refine ⟨T, _, rfl, SqT.of upd_same, rfl, _, _, rfl, _, _, rfl, rfl, ?_⟩
      exact hs i z hz p.1 _ Hb H01 _ _ (((p.2.up (same_upd hT)).put (j := j) (d := .int (i : Int)) (v := .int (i : Int)) rfl rfl).put (j := j') (d := .int z) (v := .int z) rfl rfl) (fun ds' σ2 H2 n O2 => ⟨n.1, O2.le n.2⟩) rt
    · rw [List.length_map] at p
      exact nx _ _ _ ⟨p.1, rfl⟩ (p.2.low e01 O.b0)
end
end E

end
section
set_option Elab.async false
set_option linter.all false
set_option maxRecDepth 100000
namespace E
open PySem PySem.Spec PyProof.Rows L2 B
variable {K : PySem.W.Frag}
section
variable {ds : En} {t ta tb tc : TE} {d : D} {i j k : Int} {xs ys : List Int}
theorem ev_ixb (hx : Ev K ta ds (.l xs)) (hi : Ev K tb ds (.int i)) (h : i.toNat < xs.length) (h0 : 0 ≤ i := by first | decide | omega) : Ev K (tOp (rIxL K) ta tb) ds (.int (xs.getD i.toNat 0)) :=
  ev_ix hx hi (by rw [List.getD_eq_getElem?_getD, List.getElem?_eq_getElem h]; rfl) h0
end
def ld (ns : List Int) : PyData := .list (ns.map PyData.int)
theorem dp_all {H : Hp} : ∀ ns : List Int, DpAll K H (ns.map V.int) (ns.map PyData.int)
  | [] => .nil
  | n :: ns => .cons (.int n) (dp_all ns)
theorem dp_l {H : Hp} {a : Addr} {ns : List Int} (h : SqL K H a (ns.map V.int)) : Dp K H (.ref a) (ld ns) := .lst h (dp_all ns)
theorem lay_all : ∀ ns : List Int, PyData.canLayAll0 (ns.map PyData.int) = true
  | [] => by simp [PyData.canLayAll0]
  | n :: ns => by
    rw [List.map_cons, PyData.canLayAll0, lay_all ns, Bool.and_true, PyData.canLay0]
theorem deep_all : ∀ ns : List Int, PyData.depthAll (ns.map PyData.int) = 0
  | [] => by simp [PyData.depthAll]
  | n :: ns => by
    rw [List.map_cons, PyData.depthAll, deep_all ns, PyData.depth]
    rfl
theorem shaped_ld (ns : List Int) : SeqAt.shaped (ld ns) = true := by
  unfold SeqAt.shaped ld
  rw [PyData.canLay0, lay_all, PyData.depth, deep_all]
  rfl
theorem eqv_all : ∀ a b : List Int, PyData.eqvAll (a.map PyData.int) (b.map PyData.int) = decide (a = b)
  | [], [] => by simp [PyData.eqvAll]
  | [], _ :: _ => by simp [PyData.eqvAll]
  | _ :: _, [] => by simp [PyData.eqvAll]
  | x :: a, y :: b => by
    rw [List.map_cons, List.map_cons, PyData.eqvAll, eqv_all a b, PyData.eqv]
    by_cases h : x = y
    · subst h
      by_cases h2 : a = b
      · subst h2
        simp
      · rw [decide_eq_false h2, decide_eq_false fun z => h2 (List.cons.inj z).2, Bool.and_false]
    · rw [decide_eq_false fun z => h (List.cons.inj z).1, beq_eq_false_iff_ne.mpr h, Bool.false_and]
theorem eqv_ld (a b : List Int) : PyData.eqv (ld a) (ld b) = decide (a = b) := by
  unfold ld
  rw [PyData.eqv, eqv_all]
section
variable {ds : En} {ta tb : TE} {xs ys : List Int}
theorem ev_eqL (ha : Ev K ta ds (.l xs)) (hb : Ev K tb ds (.l ys)) : Ev K (tOp (rEqD K) ta tb) ds (.bl (decide (xs = ys))) := fun σ Hb H0 H Q O q =>
  ha σ Hb H0 H _ O fun v H1 e1 n1 => hb σ Hb H0 H1 _ (O.up e1) fun u H2 e2 n2 => by
    obtain ⟨a, rfl, s1⟩ := n1
    obtain ⟨b, rfl, s2⟩ := n2
    refine ⟨_, _, dp_l (e2.seq s1), dp_l s2, shaped_ld _, shaped_ld _, ?_⟩
    rw [eqv_ld]
    exact q _ H2 (e1.trans e2) rfl
end
section
variable {ds : En} {ta tb : TE} {xs : List Int} {i j k c : Int}
theorem flat_ints : ∀ ns : List Int, (ns.map V.int).all flatV = true
  | [] => rfl
  | n :: ns => by
    rw [List.map_cons, List.all_cons, flat_ints ns]
    rfl
theorem inV_ints (x : Int) : ∀ ns : List Int, inV (.int x) (ns.map V.int) = ns.any fun y => y == x
  | [] => rfl
  | n :: ns => by
    have := inV_ints x ns
    unfold inV at this ⊢
    rw [List.map_cons, List.any_cons, List.any_cons, this]
    rfl
theorem ev_inL (ha : Ev K ta ds (.int i)) (hb : Ev K tb ds (.l xs)) : Ev K (tOp (rIn K false) ta tb) ds (.bl (xs.any fun y => y == i)) := fun σ Hb H0 H Q O q =>
  ha σ Hb H0 H _ O fun v H1 e1 n1 => hb σ Hb H0 H1 _ (O.up e1) fun u H2 e2 n2 => by
    cases n1
    obtain ⟨b, rfl, s2⟩ := n2
    refine ⟨b, _, rfl, .inl s2, rfl, flat_ints xs, ?_⟩
    rw [if_neg Bool.false_ne_true, inV_ints]
    exact q _ H2 (e1.trans e2) rfl
theorem rep_one {α : Type} (x : α) : ∀ n : Nat, (List.replicate n [x]).flatten = List.replicate n x
  | 0 => rfl
  | n + 1 => by
    rw [List.replicate_succ, List.flatten_cons, rep_one x n]
    rfl
theorem evn_rep (ha : EvN K ta ds (.l [c])) (hb : Ev K tb ds (.int k)) (h1 : -(2 ^ 63) ≤ k) (h2 : k ≤ 16777216) : EvN K (tOp rRep ta tb) ds (.l (List.replicate k.toNat c)) := fun σ Hb H0 H Q O q =>
  ha σ Hb H0 H _ O fun v H1 e1 n1 => hb σ Hb H0 H1 _ (O.up e1) fun u H2 e2 n2 => by
    obtain ⟨p, rfl, _, hp⟩ := n1
    cases n2
    refine ⟨p, k, _, rfl, rfl, e2 _ _ hp, h1, by omega, ?_, fun r hr => ?_⟩
    · rw [sizeLine_eq]
      show 1 * k.toNat ≤ 16777216
      omega
    · have e : (List.replicate k.toNat (([c] : List Int).map V.int)).flatten = (List.replicate k.toNat c).map V.int := by
        rw [List.map_replicate]
        exact rep_one _ _
      rw [e]
      exact q _ _ (newL (e1.trans e2) hr).1 (newL (e1.trans e2) hr).2
end
theorem boot_min5 : bootBuiltins "min" = some (.builtin "min") := by decide +kernel
theorem boot_all5 : bootBuiltins "all" = some (.builtin "all") := by decide +kernel
theorem boot_any5 : bootBuiltins "any" = some (.builtin "any") := by decide +kernel
theorem boot_list5 : bootBuiltins "list" = some (.type "list") := by decide +kernel
theorem bl_eq {a b : Bool} (h : a = b) : D.bl a = D.bl b := congrArg D.bl h
theorem i_eq {a b : Int} (h : a = b) : D.int a = D.int b := congrArg D.int h
theorem l_eq {a b : List Int} (h : a = b) : D.l a = D.l b := congrArg D.l h
end E

end
section
set_option Elab.async false
set_option linter.all false
set_option maxRecDepth 100000
namespace Z
open PySem
section
variable {prog : Program} {w : World} {A : Around} {E : Value → Shared → Prop} {s : Shared}
end
abbrev q1 (h : Heap) (a : Addr) : Heap := h.push { cls := .type "list_iterator", data := .fields #[.ref a, .int 0 0] }
abbrev q2 (h : Heap) (a b : Addr) : Heap := (q1 h a).push { cls := .type "tuple_iterator", data := .fields #[.ref b, .int 0 0] }
section
variable {prog : Program} {w : World} {A : Around} {E : Value → Shared → Prop} {s : Shared}
end
end Z
namespace L2
open PySem PySem.Spec PyProof.Rows
end L2
namespace E
open PySem PySem.Spec PyProof.Rows L2 B
variable {K : PySem.W.Frag}
end E

end
section
set_option Elab.async false
set_option linter.all false
set_option maxRecDepth 100000
namespace Z
open PySem
theorem lri_nolen : typeLookup (.type "list_reverseiterator") "__len__" = pure none := by rw [typeLookup_type, builtinLookup_eq_fast]; kernel_rfl
theorem lri_hint : typeLookup (.type "list_reverseiterator") "__length_hint__" = pure (some (.builtin "list_reverseiterator.__length_hint__")) := by rw [typeLookup_type, builtinLookup_eq_fast]; kernel_rfl
section
variable {prog : Program} {w : World} {A : Around} {E : Value → Shared → Prop} {s : Shared}
theorem hint_rev {c l : Addr} {i : Int} {Q : Bool → Shared → Prop} (hc : s.heap.IsRevIter c l i) (k : Q false s) : wpAny (model prog w) A (Builtin.List.listLengthHint (.ref c)) Q E s := by
  unfold Builtin.List.listLengthHint
  refine wpAny_bind (wpAny_specialOf hc.typeIs lri_nolen ?_)
  show wpAny _ _ (specialOf (Value.ref c) (Str.ofString "__length_hint__") >>= _) _ _ _
  refine wpAny_bind (wpAny_specialOf hc.typeIs lri_hint ?_)
  generalize e : ("list_reverseiterator.__length_hint__" : String) = y
  wp_delta
  rw [show splitId y = some ("list_reverseiterator", "__length_hint__") from by subst e; decide +kernel]
  subst e
  refine wpAny_bind (wpAny_isInstance (T := "list_reverseiterator") (b := true) hc.typeIs (by rw [isSubtype_type]; kernel_rfl) ?_)
  refine wpAny_ite_split (fun q => absurd q (by decide)) (fun _ => ?_)
  refine wpAny_ite_split (fun _ => ?_) (fun q => absurd (by decide +kernel) q)
  refine wpAny_ite_split (fun q => absurd q (by decide +kernel)) (fun _ => ?_)
  exact wpAny_pure k
/-- the iterator's items go to the list's end -/
theorem ext_rev {R : Result → Shared → Prop} {S c l : Addr} {its : Array Value} (hh : A.handled = none) (hl : s.heap.IsList l its) (hc : s.heap.IsRevIter c l ((its.size : Int) - 1)) (hn : its.size ≤ sizeLine) (hSc : S ≠ c) (hSl : S ≠ l) (hlc : l ≠ c) (res : Value) (m : Nat) (hS : s.heap.get? S = some { cls := .type "list", data := .seq #[] m })
    (k : ∀ g tk acc n, (∀ b o, b ≠ S → b ≠ c → s.heap.get? b = some o → g.get? b = some o) → g.get? S = some { cls := .type "list", dict := none, data := .seq acc n, slots := #[] } → ItemsOf (fun i v => its[its.size - 1 - i]? = some v) acc its.size → R (.ok (.ret res)) { s with heap := g, toks := tk }) :
    wpAny (model prog w) A.in1 (Builtin.List.listExtendWith (.ref S) (.ref c) res) (fun fin s' => match fin with | .done f => R (.ok f) s' | .again y => y.quiet = true ∧ codeAny (model prog w) A y R s') (fun e s' => R (.error e) s') s := by
  have nf : S ∉ [c, l] := fun q => by
    rcases List.mem_cons.mp q with q | q
    · exact hSc q
    · exact hSl (List.mem_singleton.mp q)
  have W := (Walks.listRev (prog := prog) (w := w) (A := A.in1) hh c l hlc its).toS
  have e0 : ((its.size : Nat) : Int) - 1 - ((0 : Nat) : Int) = (its.size : Int) - 1 := by omega
  have go : ∀ (g : Heap) (n tk : Nat), (∀ b o, b ≠ S → s.heap.get? b = some o → g.get? b = some o) → g.get? S = some { cls := .type "list", data := .seq #[] n } → codeAny (model prog w) A (.builtin "list.extend.loop" ⟨[.ref S, .ref c, res], []⟩) R { s with heap := g, toks := tk } := by
    intro g n tk kp hg
    refine codeAny_extend_loopS W hn S nf res its.size 0 _ #[] n rfl (Nat.zero_le _) ⟨Nat.zero_le _, ?_, hl.at fun o e => kp l o (Ne.symm hSl) e⟩ hg (ItemsOf.nil _) fun s' acc n' mv hS' ok => ?_
    · rw [e0]
      exact hc.at fun o e => kp c o (Ne.symm hSc) e
    · rw [Moved.eq_with mv]
      refine k s'.heap s'.toks acc n' (fun b o nb nc e => mv.heap b o (fun q => ?_) (kp b o nb e)) hS' ok
      rcases List.mem_cons.mp q with q | q
      · exact nb q
      · exact nc (List.mem_singleton.mp q)
  unfold Builtin.List.listExtendWith
  refine wpAny_bind (wpAny_typeOf hc.typeIs ?_)
  have d1 : Builtin.List.listSameRef (.ref S) (.ref c) = false := by simp [Builtin.List.listSameRef, hSc]
  have d2 : (Value.type "list_reverseiterator" == Value.type "list") = false := by decide
  have d3 : (Value.type "list_reverseiterator" == Value.type "tuple") = false := by decide
  simp only [d1, d2, d3, Bool.false_eq_true, Bool.or_false, if_false]
  refine wpAny_bind (wpAny_pyIter_revIter hc ?_)
  refine wpAny_bind (wpAny_holding (hint_rev hc ?_))
  refine wpAny_ite_split (fun _ => ?_) (fun _ => wpAny_pure ⟨plainId_quiet F.plain_extend_loop _, go s.heap m s.toks (fun _ _ _ e => e) hS⟩)
  refine wpAny_bind (wpAny_rule ?_); refine wpAny_bind ?_
  show wpAny _ _ (updateSeq S (·.push .none) >>= fun _ => updateSeq S (·.pop)) _ _ _; refine wpAny_bind (wpAny_updateSeq hS rfl ?_)
  have t1 := Heap.get?_update_self (Obj.mapSeq (·.push Value.none)) hS rfl
  refine wpAny_updateSeq (hz := by seq_fits) t1 rfl ?_
  have t2 := Heap.get?_update_self (Obj.mapSeq (·.pop)) t1 rfl
  exact wpAny_pure ⟨plainId_quiet F.plain_extend_loop _, go _ _ s.toks (fun b o nb e => (Heap.get?_update_other _ _ (Ne.symm nb)).trans ((Heap.get?_update_other _ _ (Ne.symm nb)).trans e)) t2⟩
theorem init_rev {R : Result → Shared → Prop} {S c l : Addr} {its : Array Value} (hh : A.handled = none) (hl : s.heap.IsList l its) (hc : s.heap.IsRevIter c l ((its.size : Int) - 1)) (hn : its.size ≤ sizeLine) (hSc : S ≠ c) (hSl : S ≠ l) (hlc : l ≠ c) (hS : s.heap.get? S = some { cls := .type "list", data := .seq #[] })
    (k : ∀ g tk acc n, (∀ b o, b ≠ S → b ≠ c → s.heap.get? b = some o → g.get? b = some o) → g.get? S = some { cls := .type "list", dict := none, data := .seq acc n, slots := #[] } → ItemsOf (fun i v => its[its.size - 1 - i]? = some v) acc its.size → R (.ok (.ret .none)) { s with heap := g, toks := tk }) :
    wpAny (model prog w) A.in1 (Builtin.«list.__init__» ⟨[.ref S, .ref c], []⟩) (fun fin s' => match fin with | .done f => R (.ok f) s' | .again y => y.quiet = true ∧ codeAny (model prog w) A y R s') (fun e s' => R (.error e) s') s := by
  show wpAny _ _ (do let old ← Builtin.List.listItems (.ref S); Builtin.List.listUpdate (.ref S) (fun _ => #[]); letGo old.toList.reverse; Builtin.List.listExtendWith (.ref S) (.ref c) .none) _ _ s
  refine wpAny_bind ?_
  unfold Builtin.List.listItems
  refine wpAny_bind (wpAny_seqItems hS rfl (wpAny_pure ?_)); show wpAny _ _ (updateSeq S (fun _ => #[]) >>= fun _ => letGo (#[] : Array Value).toList.reverse >>= fun _ => Builtin.List.listExtendWith (.ref S) (.ref c) .none) _ _ s
  refine wpAny_bind (wpAny_updateSeq hS rfl ?_)
  have t1 := Heap.get?_update_self (Obj.mapSeq (fun _ => (#[] : Array Value))) hS rfl
  have kp : ∀ b o, b ≠ S → s.heap.get? b = some o → (s.heap.update S (Obj.mapSeq (fun _ => (#[] : Array Value)))).get? b = some o := fun b o nb e => (Heap.get?_update_other _ _ (Ne.symm nb)).trans e
  refine wpAny_bind (wpAny_letGo ?_)
  exact ext_rev hh (hl.at fun o e => kp l o (Ne.symm hSl) e) (hc.at fun o e => kp c o (Ne.symm hSc) e) hn hSc hSl hlc .none _ t1 fun g tk acc n k1 k2 k3 => k g tk acc n (fun b o n1 n2 e => k1 b o n1 n2 (kp b o n1 e)) k2 k3
/-- list(an iterator from a list's end) -/
theorem call_list_rev {c l : Addr} {its : Array Value} {Q : Value → Shared → Prop} (hh : A.handled = none) (hl : s.heap.IsList l its) (hc : s.heap.IsRevIter c l ((its.size : Int) - 1)) (hn : its.size ≤ sizeLine) (hlc : l ≠ c)
    (k : ∀ g tk acc n, (∀ b o, b ≠ c → s.heap.get? b = some o → g.get? b = some o) → g.get? s.heap.objs.size = some { cls := .type "list", dict := none, data := .seq acc n, slots := #[] } → ItemsOf (fun i v => its[its.size - 1 - i]? = some v) acc its.size → Q (.ref s.heap.objs.size) { s with heap := g, toks := tk }) :
    wpAny (model prog w) A (call (.type "list") [.ref c]) Q E s := by
  have lc : c < s.heap.objs.size := by obtain ⟨_, e, _⟩ := hc; exact Heap.lt_size e
  have ll : l < s.heap.objs.size := by obtain ⟨_, e, _⟩ := hl; exact Heap.lt_size e
  refine callType_codes (Q₁ := fun obj s1 => obj = .ref s.heap.objs.size ∧ s1 = { s with heap := s.heap.push { cls := .type "list", data := .seq #[] } }) F.called_list (F.typeCall_list_1 _) F.entry_list_init (code_list_new _ ⟨rfl, rfl⟩) fun obj s1 h1 => ?_
  obtain ⟨rfl, rfl⟩ := h1
  have hS : (s.heap.push { cls := .type "list", data := .seq #[] }).get? s.heap.objs.size = some { cls := .type "list", data := .seq #[] } := Heap.get?_push_size _ rfl
  refine ⟨⟨_, hS, rfl⟩, F.args_list_init_2 _ _, init_rev (A := A.in1) hh (hl.push _) (hc.at fun o e => Heap.get?_push_of_some _ e) hn (Nat.ne_of_gt lc) (Nat.ne_of_gt ll) hlc hS fun g tk acc n k1 k2 k3 => ?_⟩
  exact ⟨rfl, k g tk acc n (fun b o nb e => k1 b o (Nat.ne_of_lt (Heap.lt_size e)) nb (Heap.get?_push_of_some _ e)) k2 k3⟩
end
end Z
namespace E
open PySem PySem.Spec PyProof.Rows L2 B
theorem vals_rev {xs : List V} {its : List Value} {acc : Array Value} (r : Vals xs its) (h : ItemsOf (fun i v => its.toArray[its.toArray.size - 1 - i]? = some v) acc its.toArray.size) : Vals xs.reverse acc.toList := by
  have e : acc.toList = its.reverse := by
    apply List.ext_getElem?
    intro m
    have h1 : acc.size = its.length := by
      have := h.1
      simpa using this
    have h2 := h.2
    by_cases hm : m < its.length
    · have q : acc[m]? = some (acc[m]'(by omega)) := Array.getElem?_eq_getElem (by omega)
      have q2 := h2 m _ q
      rw [Array.getElem?_toList, q, List.getElem?_reverse hm]
      simp only [List.size_toArray] at q2
      rw [← Array.getElem?_toList] at q2
      exact q2.symm
    · rw [Array.getElem?_toList, Array.getElem?_eq_none (by omega), List.getElem?_eq_none (by rw [List.length_reverse]; omega)]
  rw [e]
  exact r.reverse
def tRev (K : PySem.W.Frag) (te : TE) : TE := fun σ H Q => te σ H fun x H1 => ∃ a xs, x = .ref a ∧ SqL K H1 a xs ∧ ∀ p, H1 p = none → Q (.ref p) (upd H1 p (.lst xs.reverse))
theorem pe_lrev {X : Cx} {e : Expr} {te : TE} {p pos p2 pos2 : Pos} (hc : X.calm = true) (hg : Gl X "list") (hm : X.mg "list" = none) (hg2 : Gl X "reversed") (hm2 : X.mg "reversed" = none) (he : PE X e te)
    (hs : starEach [.Call (.Name "reversed" p2) [e] [] pos2] X.env = [(false, eval (.Call (.Name "reversed" p2) [e] [] pos2) X.env)] := by rfl) (hs2 : starEach [e] X.env = [(false, eval e X.env)] := by rfl) :
    PE X (.Call (.Name "list" p) [.Call (.Name "reversed" p2) [e] [] pos2] [] pos) (tRev X.K te) := by
  intro pins s σ H Q I h
  refine wpAny_Call_Name_kw (ld_blt I hg hm boot_list5 ?_)
  refine PyProof.Rows.callWith_type1 ?_ hs rfl
  rw [hs]
  show wpAny _ _ (spliced ((false, eval (.Call (.Name "reversed" p2) [e] [] pos2) X.env) :: backTo pos (starEach [] X.env))) _ _ s
  refine Calls.spliced_cons (Call_ (ld_blt I hg2 hm2 boot_reversed5 (PyProof.Rows.callWith_type1 (thn (pa_cons he pa_nil hs2 pos2 pins s σ H (fun vs H1 => match vs with | [x] => ∃ a xs, x = .ref a ∧ SqL X.K H1 a xs ∧ ∀ p, H1 p = none → Q (.ref p) (upd H1 p (.lst xs.reverse)) | _ => False) I h) fun us s1 ⟨vs, H1, I1, r1, q1⟩ => ?_) hs2 rfl)))
  match vs, q1, r1 with
  | [x], q1, r1 =>
  obtain ⟨a, xs, rfl, hq, q⟩ := q1
  obtain ⟨u, rfl, ru⟩ := vals1 r1
  cases ru
  obtain ⟨its, rv, pl, hz⟩ := I1.list hq
  have hlen := rv.length
  have la : a < s1.heap.objs.size := pl.lt
  refine call_reversed_list pl.isList ?_
  refine Calls.spliced_nil ?_
  refine Z.call_list_rev (I1.ok.hd hc) (pl.isList.push _) ⟨_, Heap.get?_push_size _ rfl, rfl, rfl⟩ (by rw [List.size_toArray]; omega) (Nat.ne_of_lt la) fun g tk acc n k1 k2 k3 => ?_
  have sz : (s1.heap.push (revObj a ((its.toArray.size : Int) - 1))).objs.size = s1.heap.objs.size + 1 := Heap.size_push ..
  refine ⟨.ref _, _, I1.laid (t' := tk) (o := .lst xs.reverse) (fun b ob eb => k1 b ob (Nat.ne_of_lt (Heap.lt_size eb)) (Heap.get?_push_of_some _ eb)) (by show s1.heap.objs.size ≤ _; rw [sz]; omega) ?_, rfl, q _ (I1.hok.fresh (by rw [sz]; omega))⟩
  exact ⟨by rw [List.length_reverse]; exact hz, acc.toList, n, vals_rev rv k3, by rw [k2]⟩
theorem evn_lrev {K : PySem.W.Frag} {ds : En} {te : TE} {xs : List Int} (h : Ev K te ds (.l xs)) : EvN K (tRev K te) ds (.l xs.reverse) := fun σ Hb H0 H Q O q =>
  h σ Hb H0 H _ O fun v H1 e1 n1 => by
    obtain ⟨a, rfl, s1⟩ := n1
    refine ⟨a, _, rfl, s1, fun p hp => ?_⟩
    rw [← List.map_reverse]
    exact q _ _ (newL e1 hp).1 (newL e1 hp).2
end E

end
section
set_option Elab.async false
set_option linter.all false
set_option maxRecDepth 100000
namespace E
open PySem PySem.Spec PyProof.Rows L2 B
variable {K : PySem.W.Frag}
section
variable {ds : En} {te ti : TE} {res : D} {N : En → Prop}
end
section
variable {ds : En} {tb : TS} {res : D} {j : Nat}
end
end E
namespace E
open PySem PySem.Spec PyProof.Rows L2 B
variable {K : PySem.W.Frag}
section
variable {ds : En} {σ : L2.St} {Hb H0 H : Hp}
theorem set_last {α : Type} (l : List α) (x y : α) : (l ++ [x]).set l.length y = l ++ [y] := by
  induction l with
  | nil => rfl
  | cons a l ih =>
    show a :: (l ++ [x]).set l.length y = a :: (l ++ [y])
    rw [ih]
theorem get_last {α : Type} (l : List α) (x : α) : (l ++ [x])[l.length]? = some x := by simp
theorem Ok.wipe {j : Nat} (O : Ok K ds σ Hb H0 H) : Ok K (ds.set j none) (σ.set j none) Hb H0 H := by
  obtain ⟨Hf, a, b, c, e⟩ := O.ex
  have key : ∀ {i : Nat} {d : D}, (ds.set j none)[i]? = some (some d) → j ≠ i ∧ ds[i]? = some (some d) := fun {i d} q => by
    have hj : j ≠ i := fun z => by
      subst z
      rw [List.getElem?_set, if_pos rfl] at q
      split at q <;> cases q
    rw [List.getElem?_set_ne hj] at q
    exact ⟨hj, q⟩
  refine ⟨by rw [List.length_set, List.length_set]; exact O.len, O.b0, Hf, a, b, fun i d q => ?_, fun i k d d' v q1 q2 o1 o2 s1 s2 => ?_⟩
  · obtain ⟨hj, q⟩ := key q
    obtain ⟨v, g1, g2⟩ := c i d q
    exact ⟨v, by rw [List.getElem?_set_ne hj]; exact g1, g2⟩
  · obtain ⟨h1, q1⟩ := key q1
    obtain ⟨h2, q2⟩ := key q2
    rw [List.getElem?_set_ne h1] at s1
    rw [List.getElem?_set_ne h2] at s2
    exact e i k d d' v q1 q2 o1 o2 s1 s2
theorem Ok.init {x : Option D} {y : Option V} (O : Ok K (ds ++ [x]) (σ ++ [y]) Hb H0 H) : Ok K ds σ Hb H0 H := by
  have hl : σ.length = ds.length := by
    have := O.len
    rw [List.length_append, List.length_append] at this
    exact Nat.add_right_cancel this
  obtain ⟨Hf, a, b, c, e⟩ := O.ex
  have up : ∀ {i : Nat} {d : D}, ds[i]? = some (some d) → i < ds.length := fun q => (List.getElem?_eq_some_iff.mp q).1
  have s' : ∀ {i : Nat}, i < ds.length → (σ ++ [y])[i]? = σ[i]? := fun h => List.getElem?_append_left (by omega)
  have d' : ∀ {i : Nat}, i < ds.length → (ds ++ [x])[i]? = ds[i]? := fun h => List.getElem?_append_left h
  refine ⟨hl, O.b0, Hf, a, b, fun i d q => ?_, fun i k d d2 v q1 q2 o1 o2 s1 s2 => ?_⟩
  · obtain ⟨v, g1, g2⟩ := c i d (by rw [d' (up q)]; exact q)
    exact ⟨v, by rw [← s' (up q)]; exact g1, g2⟩
  · exact e i k d d2 v (by rw [d' (up q1)]; exact q1) (by rw [d' (up q2)]; exact q2) o1 o2 (by rw [s' (up q1)]; exact s1) (by rw [s' (up q2)]; exact s2)
theorem Ok.more (O : Ok K ds σ Hb H0 H) : Ok K (ds ++ [none]) (σ ++ [none]) Hb H0 H := by
  obtain ⟨Hf, a, b, c, e⟩ := O.ex
  have hl := O.len
  have key : ∀ {i : Nat} {d : D}, (ds ++ [none])[i]? = some (some d) → i < ds.length ∧ ds[i]? = some (some d) := fun {i d} q => by
    by_cases h : i < ds.length
    · rw [List.getElem?_append_left h] at q
      exact ⟨h, q⟩
    · rw [List.getElem?_append_right (by omega)] at q
      cases hi : i - ds.length with
      | zero =>
        rw [hi] at q
        cases q
      | succ m =>
        rw [hi] at q
        cases q
  have s' : ∀ {i : Nat}, i < ds.length → (σ ++ [none])[i]? = σ[i]? := fun h => List.getElem?_append_left (by omega)
  refine ⟨by rw [List.length_append, List.length_append, hl]; rfl, O.b0, Hf, a, b, fun i d q => ?_, fun i k d d2 v q1 q2 o1 o2 s1 s2 => ?_⟩
  · obtain ⟨h, q⟩ := key q
    obtain ⟨v, g1, g2⟩ := c i d q
    exact ⟨v, by rw [s' h]; exact g1, g2⟩
  · obtain ⟨h1, q1⟩ := key q1
    obtain ⟨h2, q2⟩ := key q2
    rw [s' h1] at s1
    rw [s' h2] at s2
    exact e i k d d2 v q1 q2 o1 o2 s1 s2
/-- a list of one's own beside the slots -/
theorem Ok.beside {p : Addr} (O : Ok K ds σ Hb H0 H) (hp : H p = none) : Ok K (ds ++ [some (.ownv [])]) (σ ++ [some (.ref p)]) Hb H0 (upd H p (.lst [])) := by
  have O2 := O.more.putOwn (j := ds.length) (d := .ownv []) (Hn := upd H p (.lst [])) (same_upd hp) hp rfl (fun Hf _ hf => ⟨p, rfl, hf, upd_same⟩)
  have e : (σ ++ [none]).set ds.length (some (.ref p)) = σ ++ [some (.ref p)] := by
    rw [← O.len]
    exact set_last _ _ _
  rw [set_last, e] at O2
  exact O2
end
def vOf : D → V
  | .int i => .int i
  | .bl b => .bl b
  | _ => .non
theorem Is.vOf {H : Hp} {d : D} {v : V} (s : scalar d = true) (h : Is K H d v) : v = E.vOf d := by
  cases d with
  | int _ => exact h
  | bl _ => exact h
  | non => exact h
  | _ => cases s
section
variable {ds : En} {tl te : TE} {tt : TT} {j : Nat} {dl : D} {items : List D} {p : D → Bool} {r : D → D}
theorem lc_turn {σ : L2.St} {Hb H01 H H' : Hp} {D' : Addr} {i : Nat} {z : D} {x : V} (hz : items[i]? = some z) (iz : Is K H01 z x) (ht : EvT K tt (ds.set j (some z)) (p z)) (he : p z = true → Ev K te (ds.set j (some z)) (r z)) (hsc : scalar (r z) = true) (hlen : items.length < 16777216) (hD : H D' = none)
    (sm : Same H H') (O : Ok K ((ds.set j none) ++ [some (.ownv ((((items.take i).filter p).map r).map vOf))]) ((σ.set j none) ++ [some (.ref D')]) Hb H01 H') :
    (gName j) x (wipe σ [j]) H' fun σ2 H2 => wipe σ2 [j] = wipe σ [j] ∧ tt σ2 H2 fun b H3 =>
      if b = true then te σ2 H3 fun y H4 => ∃ acc, H4 D' = some (.lst acc) ∧ acc.length < sizeLine ∧ (Same H (upd H4 D' (.lst (acc ++ [y]))) ∧ Ok K ((ds.set j none) ++ [some (.ownv ((((items.take (i + 1)).filter p).map r).map vOf))]) ((σ.set j none) ++ [some (.ref D')]) Hb H01 (upd H4 D' (.lst (acc ++ [y]))))
      else (Same H H3 ∧ Ok K ((ds.set j none) ++ [some (.ownv ((((items.take (i + 1)).filter p).map r).map vOf))]) ((σ.set j none) ++ [some (.ref D')]) Hb H01 H3) := by
  refine ⟨?_, ?_⟩
  · show ((σ.set j none).set j (some x)).set j none = σ.set j none
    rw [List.set_set, List.set_set]
  · have O2 := O.init.put (j := j) iz.noown iz
    rw [List.set_set] at O2
    have hi : i < items.length := (List.getElem?_eq_some_iff.mp hz).1
    refine ht _ Hb H01 H' _ O2 fun H3 e3 => ?_
    have et := M.take_snoc hz
    cases hp : p z with
    | true =>
      refine iteT (he hp _ Hb H01 H3 _ (O2.up e3) fun y H4 e4 n4 => ?_)
      have ey := Is.vOf hsc n4
      have O4 := (O.up e3).up e4
      have gl : ((ds.set j none) ++ [some (D.ownv ((((items.take i).filter p).map r).map vOf))])[(ds.set j none).length]? = some (some (D.ownv ((((items.take i).filter p).map r).map vOf))) := get_last _ _
      have sl : ((σ.set j none) ++ [some (V.ref D')])[(ds.set j none).length]? = some (some (V.ref D')) := by
        have hle := O.init.len
        rw [← hle]
        exact get_last _ _
      obtain ⟨Hf, a, b, c, e⟩ := O4.ex
      obtain ⟨v, g1, q, g2, g3, g4⟩ := c _ _ gl
      rw [sl] at g1
      cases g1
      cases g2
      refine ⟨_, g4, ?_, fun b' o' hb' => ?_, ?_⟩
      · rw [List.length_map, List.length_map, sizeLine_eq]
        have := List.length_filter_le p (items.take i)
        rw [List.length_take] at this
        omega
      · rw [upd_ne (ne_of_none hb' hD)]
        exact e4 _ _ (e3 _ _ (sm _ _ hb'))
      · have O5 := O4.write (xs := (((items.take i).filter p).map r).map vOf ++ [y]) (d' := .ownv ((((items.take i).filter p).map r).map vOf ++ [y])) gl rfl rfl sl (fun Hg _ s1 s2 _ => ⟨D', rfl, s2, upd_same⟩)
        rw [set_last] at O5
        rw [et, List.filter_append, List.map_append, List.map_append]
        have ef : [z].filter p = [z] := by simp [hp]
        rw [ef, ← show [y] = ([z].map r).map vOf by rw [ey]; rfl]
        exact O5
    | false =>
      refine iteF ⟨sm.trans e3, ?_⟩
      rw [et, List.filter_append, List.map_append, List.map_append]
      have ef : [z].filter p = [] := by simp [hp]
      rw [ef, List.map_nil, List.map_nil, List.append_nil]
      exact O.up e3
/-- [elt for x in a list if test] -/
theorem lc_list_ev (hl : EvF K tl ds dl) (hdl : ∀ v H, Is K H dl v → ∃ a xs, v = .ref a ∧ SqL K H a xs ∧ Paired (Is K H) items xs) (ht : ∀ z, z ∈ items → EvT K tt (ds.set j (some z)) (p z)) (he : ∀ z, z ∈ items → p z = true → Ev K te (ds.set j (some z)) (r z)) (hsc : ∀ z, z ∈ items → scalar (r z) = true) (hlen : items.length < 16777216)
    {σ : L2.St} {Hb H0 H : Hp} {Q : VK} (O : Ok K ds σ Hb H0 H) (q : ∀ a H', Same H H' → H a = none → H' a = some (.lst (((items.filter p).map r).map vOf)) → Q (.ref a) H') : tLc (iList K tl) (gName j) tt te [j] σ H Q :=
  hl σ Hb H0 H _ O fun v H1 H01 e1 e01 n1 O1 => by
    obtain ⟨a, xs, rfl, s1, pr⟩ := hdl v H01 n1
    have hxl := plen pr
    refine ⟨a, rfl, ⟨_, O1.same0.seq s1⟩, fun D' hD => lc_list (K := K) (a := a) (xs := xs) (fun i H' => Same H H' ∧ Ok K ((ds.set j none) ++ [some (.ownv ((((items.take i).filter p).map r).map vOf))]) ((σ.set j none) ++ [some (.ref D')]) Hb H01 H') ⟨e1.trans (same_upd hD), O1.wipe.beside hD⟩ (fun i H' _ pv => pv.2.same0.seq s1) (fun i x H' hx pv => ?_) fun H' pv => ?_⟩
    · have hi : i < items.length := by rw [hxl]; exact (List.getElem?_eq_some_iff.mp hx).1
      have hz := List.getElem?_eq_getElem hi
      obtain ⟨x', g1, g2⟩ := paired_get pr hz
      rw [hx] at g1
      cases g1
      have hm := List.getElem_mem hi
      exact lc_turn hz g2 (ht _ hm) (he _ hm) (hsc _ hm) hlen (e1.free hD) pv.1 pv.2
    · rw [← hxl, List.take_length] at pv
      obtain ⟨Hf, a', b', c', _⟩ := pv.2.ex
      have gl : ((ds.set j none) ++ [some (D.ownv (((items.filter p).map r).map vOf))])[(ds.set j none).length]? = some (some (D.ownv (((items.filter p).map r).map vOf))) := get_last _ _
      have sl : ((σ.set j none) ++ [some (V.ref D')])[(ds.set j none).length]? = some (some (V.ref D')) := by
        rw [← pv.2.init.len]
        exact get_last _ _
      obtain ⟨v, g1, q', g2, g3, g4⟩ := c' _ _ gl
      rw [sl] at g1
      cases g1
      cases g2
      exact q D' H' pv.1 (e1.free hD) g4
theorem lc_tup_ev (hl : EvF K tl ds dl) (hdl : ∀ v H, Is K H dl v → ∃ a xs, v = .ref a ∧ SqT K H a xs ∧ Paired (Is K H) items xs) (ht : ∀ z, z ∈ items → EvT K tt (ds.set j (some z)) (p z)) (he : ∀ z, z ∈ items → p z = true → Ev K te (ds.set j (some z)) (r z)) (hsc : ∀ z, z ∈ items → scalar (r z) = true) (hlen : items.length < 16777216)
    {σ : L2.St} {Hb H0 H : Hp} {Q : VK} (O : Ok K ds σ Hb H0 H) (q : ∀ a H', Same H H' → H a = none → H' a = some (.lst (((items.filter p).map r).map vOf)) → Q (.ref a) H') : tLc (iTup K tl) (gName j) tt te [j] σ H Q :=
  hl σ Hb H0 H _ O fun v H1 H01 e1 e01 n1 O1 => by
    obtain ⟨a, xs, rfl, s1, pr⟩ := hdl v H01 n1
    have hxl := plen pr
    refine ⟨a, rfl, ⟨_, sameT O1.same0 s1⟩, fun D' hD => lc_tup (K := K) (a := a) (xs := xs) (fun i H' => Same H H' ∧ Ok K ((ds.set j none) ++ [some (.ownv ((((items.take i).filter p).map r).map vOf))]) ((σ.set j none) ++ [some (.ref D')]) Hb H01 H') ⟨e1.trans (same_upd hD), O1.wipe.beside hD⟩ (fun i H' _ pv => sameT pv.2.same0 s1) (fun i x H' hx pv => ?_) fun H' pv => ?_⟩
    · have hi : i < items.length := by rw [hxl]; exact (List.getElem?_eq_some_iff.mp hx).1
      have hz := List.getElem?_eq_getElem hi
      obtain ⟨x', g1, g2⟩ := paired_get pr hz
      rw [hx] at g1
      cases g1
      have hm := List.getElem_mem hi
      exact lc_turn hz g2 (ht _ hm) (he _ hm) (hsc _ hm) hlen (e1.free hD) pv.1 pv.2
    · rw [← hxl, List.take_length] at pv
      obtain ⟨Hf, a', b', c', _⟩ := pv.2.ex
      have gl : ((ds.set j none) ++ [some (D.ownv (((items.filter p).map r).map vOf))])[(ds.set j none).length]? = some (some (D.ownv (((items.filter p).map r).map vOf))) := get_last _ _
      have sl : ((σ.set j none) ++ [some (V.ref D')])[(ds.set j none).length]? = some (some (V.ref D')) := by
        rw [← pv.2.init.len]
        exact get_last _ _
      obtain ⟨v, g1, q', g2, g3, g4⟩ := c' _ _ gl
      rw [sl] at g1
      cases g1
      cases g2
      exact q D' H' pv.1 (e1.free hD) g4
end
section
variable {ds : En} {tl te : TE} {tt : TT} {j : Nat} {nss : List (List Int)} {ns : List Int}
theorem dl_ll (v : V) (H : Hp) (h : Is K H (.ll nss) v) : ∃ a xs, v = .ref a ∧ SqL K H a xs ∧ Paired (Is K H) (nss.map D.l) xs := by
  obtain ⟨a, vs, h1, h2, h3⟩ := h
  refine ⟨a, vs, h1, h2, ?_⟩
  clear h1 h2
  induction h3 with
  | nil => exact .nil
  | cons f t ih => exact .cons f ih
theorem pair_ints (H : Hp) : ∀ ns : List Int, Paired (Is K H) (ns.map D.int) (ns.map V.int)
  | [] => .nil
  | n :: ns => .cons rfl (pair_ints H ns)
theorem dl_t (v : V) (H : Hp) (h : Is K H (.t ns) v) : ∃ a xs, v = .ref a ∧ SqT K H a xs ∧ Paired (Is K H) (ns.map D.int) xs := by
  obtain ⟨a, h1, h2⟩ := h
  exact ⟨a, _, h1, h2, pair_ints H ns⟩
def lOf : D → List Int
  | .l z => z
  | _ => []
def iOf : D → Int
  | .int z => z
  | _ => 0
theorem evt_yes : EvT K tYes ds true := fun σ Hb H0 H Q O q => q H (Same.refl _)
theorem memL {z : D} (h : z ∈ nss.map D.l) : ∃ x, x ∈ nss ∧ z = .l x := by
  obtain ⟨x, h1, h2⟩ := List.mem_map.mp h
  exact ⟨x, h1, h2.symm⟩
theorem memI {z : D} (h : z ∈ ns.map D.int) : ∃ x, x ∈ ns ∧ z = .int x := by
  obtain ⟨x, h1, h2⟩ := List.mem_map.mp h
  exact ⟨x, h1, h2.symm⟩
theorem filt_true {α : Type} (l : List α) : l.filter (fun _ => true) = l := by simp
/-- [bool for x in a list of lists] -/
theorem evn_lcB (f : List Int → Bool) (hl : EvF K tl ds (.ll nss)) (he : ∀ z, z ∈ nss → Ev K te (ds.set j (some (.l z))) (.bl (f z))) (hlen : nss.length < 16777216) : EvN K (tLc (iList K tl) (gName j) tYes te [j]) ds (.lb (nss.map f)) := fun σ Hb H0 H Q O q =>
  lc_list_ev (p := fun _ => true) (r := fun z => .bl (f (lOf z))) hl dl_ll (fun z hz => evt_yes) (fun z hz _ => by obtain ⟨x, hx, rfl⟩ := memL hz; exact he x hx) (fun z hz => rfl) (by rw [List.length_map]; exact hlen) O fun a H' sm hn ha => q _ H' sm ⟨a, rfl, hn, by
    rw [ha, filt_true, List.map_map, List.map_map, List.map_map]
    rfl⟩
theorem evn_lcI (f : List Int → Int) (hl : EvF K tl ds (.ll nss)) (he : ∀ z, z ∈ nss → Ev K te (ds.set j (some (.l z))) (.int (f z))) (hlen : nss.length < 16777216) : EvN K (tLc (iList K tl) (gName j) tYes te [j]) ds (.l (nss.map f)) := fun σ Hb H0 H Q O q =>
  lc_list_ev (p := fun _ => true) (r := fun z => .int (f (lOf z))) hl dl_ll (fun z hz => evt_yes) (fun z hz _ => by obtain ⟨x, hx, rfl⟩ := memL hz; exact he x hx) (fun z hz => rfl) (by rw [List.length_map]; exact hlen) O fun a H' sm hn ha => q _ H' sm ⟨a, rfl, hn, by
    rw [ha, filt_true, List.map_map, List.map_map, List.map_map]
    rfl⟩
theorem filt_map {α β : Type} (g : α → β) (p : β → Bool) : ∀ l : List α, (l.map g).filter p = (l.filter fun x => p (g x)).map g
  | [] => rfl
  | x :: l => by
    have ih := filt_map g p l
    rw [List.map_cons, List.filter_cons, List.filter_cons]
    split
    · rw [ih]
      rfl
    · exact ih
theorem evn_lcF (p : List Int → Bool) (f : List Int → Int) (hl : EvF K tl ds (.ll nss)) (ht : ∀ z, z ∈ nss → EvT K tt (ds.set j (some (.l z))) (p z)) (he : ∀ z, z ∈ nss → p z = true → Ev K te (ds.set j (some (.l z))) (.int (f z))) (hlen : nss.length < 16777216) : EvN K (tLc (iList K tl) (gName j) tt te [j]) ds (.l ((nss.filter p).map f)) := fun σ Hb H0 H Q O q =>
  lc_list_ev (p := fun z => p (lOf z)) (r := fun z => .int (f (lOf z))) hl dl_ll (fun z hz => by obtain ⟨x, hx, rfl⟩ := memL hz; exact ht x hx) (fun z hz hp => by obtain ⟨x, hx, rfl⟩ := memL hz; exact he x hx hp) (fun z hz => rfl) (by rw [List.length_map]; exact hlen) O fun a H' sm hn ha => q _ H' sm ⟨a, rfl, hn, by
    rw [ha, filt_map, List.map_map, List.map_map, List.map_map]
    rfl⟩
theorem evn_lcT (f : Int → Int) (hl : EvF K tl ds (.t ns)) (he : ∀ z, z ∈ ns → Ev K te (ds.set j (some (.int z))) (.int (f z))) (hlen : ns.length < 16777216) : EvN K (tLc (iTup K tl) (gName j) tYes te [j]) ds (.l (ns.map f)) := fun σ Hb H0 H Q O q =>
  lc_tup_ev (p := fun _ => true) (r := fun z => .int (f (iOf z))) hl dl_t (fun z hz => evt_yes) (fun z hz _ => by obtain ⟨x, hx, rfl⟩ := memI hz; exact he x hx) (fun z hz => rfl) (by rw [List.length_map]; exact hlen) O fun a H' sm hn ha => q _ H' sm ⟨a, rfl, hn, by
    rw [ha, filt_true, List.map_map, List.map_map, List.map_map]
    rfl⟩
theorem ev_all {ta : TE} {bs : List Bool} (h : EvN K ta ds (.lb bs)) : Ev K (tCB (rAll K) (tCons ta tNil)) ds (.bl (bs.all id)) := fun σ Hb H0 H Q O q =>
  h σ Hb H0 H _ O fun v H1 e1 n1 => by
    obtain ⟨p, rfl, _, hp⟩ := n1
    exact ⟨p, bs, rfl, SqL.of hp, q _ H1 e1 rfl⟩
theorem ev_any {ta : TE} {bs : List Bool} (h : EvN K ta ds (.lb bs)) : Ev K (tCB (rAny K) (tCons ta tNil)) ds (.bl (bs.any id)) := fun σ Hb H0 H Q O q =>
  h σ Hb H0 H _ O fun v H1 e1 n1 => by
    obtain ⟨p, rfl, _, hp⟩ := n1
    exact ⟨p, bs, rfl, SqL.of hp, q _ H1 e1 rfl⟩
/-- a tuple that is written here: no one writes it -/
theorem evf_tup {u : TA} (h : EvI K u ds ns) (hl : ns.length ≤ 16777216 := by (try simp only [List.length_cons, List.length_nil]) <;> omega) : EvF K (tTup u) ds (.t ns) := fun σ Hb H0 H Q O q =>
  h σ Hb H0 H _ O fun H1 e1 => ⟨by rw [List.length_map, sizeLine_eq]; exact hl, fun p hp => by
    have e2 := e1.trans (same_upd (o := .tup (ns.map V.int)) hp)
    obtain ⟨c1, c2, c3⟩ := O.cooled e2
    exact q _ _ _ e2 c1 ⟨p, rfl, SqT.of ((c3 p (e1.free hp)).trans upd_same)⟩ c2⟩
end
end E
namespace E
open PySem PySem.Spec PyProof.Rows L2 B PySem.W
variable {K : PySem.W.Frag}
theorem EvF.to {ds : En} {t : TE} {d d' : D} (h : EvF K t ds d) (e : d = d') : EvF K t ds d' := e ▸ h
/-- min(a list) -/
theorem ev_minL {ds : En} {ta : TE} {xs : List Int} (h : Ev K ta ds (.l xs)) (hn : 0 < xs.length) : Ev K (tCB (rMin K) (tCons ta tNil)) ds (.int (M.minI xs)) := fun σ Hb H0 H Q O q =>
  h σ Hb H0 H _ O fun v H1 e1 n1 => by
    obtain ⟨a, rfl, s1⟩ := n1
    exact ⟨a, xs, rfl, s1, hn, fun m h1 h2 => by
      rw [M.minI_eq h1 h2]
      exact q _ H1 e1 rfl⟩
theorem pe_gdK {X : Cx} {mg : Str → Option Value} {x : Str} {pos : Pos} {d : D} (hg : Gl X x) (h : Glob K mg x d) (hK : X.K = K := by rfl) (hm : X.mg = mg := by rfl) (hd : (x == ("__debug__" : Str)) = false := by decide) : PE X (.Name x pos) (tGlob K d) := by
  subst hK
  subst hm
  exact pe_gd hg h hd
theorem pt_truthK {X : Cx} {a : Expr} {ta : TE} (hK : X.K = K) (ha : PE X a ta) (he : ∀ whole, isTrue a X.env whole = (do let v ← whole; standAt a.pos; holding [v] (truthy v))) : PT X a (fun σ H Q => ta σ H fun x H' => ∃ k, TruV K x H' k ∧ Q k H') := by
  subst hK
  exact pt_truth ha he
theorem ix_listK {X : Cx} (hK : X.K = K) : IxR X (rIxL K) := by
  subst hK
  exact ix_list
theorem op_eqDK {X : Cx} (hK : X.K = K) (hu : X.A.units + 64 < cLine) : OpR X (compareOp .Eq) (rEqD K) := by
  subst hK
  exact op_eqD hu
/-- the request's list of lists -/
theorem dw_ll {H : Hp} : ∀ (l : List (List Int)) (xs : List V), DwAll K H xs (l.map fun r => WData.list (r.map WData.int)) → Paired (IsL K H) xs l
  | [], xs, h => by
    cases h
    exact .nil
  | r :: l, xs, h => by
    cases h with
    | cons h1 h2 =>
      cases h1 with
      | lst hs ha =>
        have e := L2.ints_dw r _ ha
        subst e
        exact .cons ⟨_, rfl, hs⟩ (dw_ll l _ h2)
end E
namespace E
open PySem PySem.Spec PyProof.Rows L2 B
variable {K : PySem.W.Frag}
/-- a list of new lists of fields, each at its own place -/
inductive Laid (Hb Hf H : Hp) : List Addr → List Vbcnaa.Field → Prop
  | nil : Laid Hb Hf H [] []
  | snoc {qs : List Addr} {gs : List Vbcnaa.Field} {q : Addr} {g : Vbcnaa.Field} : Laid Hb Hf H qs gs → q ∉ qs → Hf q = none → Hb q = none → H q = some (.lst ((M.fI g).map V.int)) → Laid Hb Hf H (qs ++ [q]) (gs ++ [g])
section
variable {Hb Hf H H' : Hp} {qs : List Addr} {gs : List Vbcnaa.Field}
theorem Laid.up (e : ∀ q ∈ qs, H' q = H q) (h : Laid Hb Hf H qs gs) : Laid Hb Hf H' qs gs := by
  induction h with
  | nil => exact .nil
  | snoc h1 h2 h3 h4 h5 ih => exact .snoc (ih fun q hq => e q (by simp [hq])) h2 h3 h4 ((e _ (by simp)).trans h5)
theorem Laid.at (h : Laid Hb Hf H qs gs) : ∀ q ∈ qs, ∃ o, H q = some o := by
  induction h with
  | nil => intro q hq; cases hq
  | snoc h1 h2 h3 h4 h5 ih =>
    intro q hq
    rcases List.mem_append.mp hq with hq | hq
    · exact ih q hq
    · rw [List.mem_singleton.mp hq]
      exact ⟨_, h5⟩
theorem Laid.len (h : Laid Hb Hf H qs gs) : qs.length = gs.length := by
  induction h with
  | nil => rfl
  | snoc h1 h2 h3 h4 h5 ih => rw [List.length_append, List.length_append, ih]; rfl
end
end E

end
set_option Elab.async false
set_option linter.all false
set_option maxRecDepth 100000
set_option maxHeartbeats 2000000
namespace Q
open PySem PySem.Spec PyProof.Rows L2 B E
open PySem.W (Codec)
def top (i : Nat) : Stmt := PySem.Challenge.pw_campuswires_s10_join.main.body.getD i (.Pass ⟨0, 0, 0, 0⟩)
abbrev s_is_row_of_bytes : Stmt := top 1
theorem sc_is_row_of_bytes : FnScope ["b", "shortest", "longest", "number"] ["b", "shortest", "longest"] (defScope s_is_row_of_bytes) := ⟨rfl, rfl, rfl, by decide +kernel, rfl, by decide +kernel, by decide +kernel⟩
abbrev s_number_at : Stmt := top 4
theorem sc_number_at : FnScope ["b", "place", "count", "number", "byte"] ["b", "place", "count"] (defScope s_number_at) := ⟨rfl, rfl, rfl, by decide +kernel, rfl, by decide +kernel, by decide +kernel⟩
abbrev s_folded : Stmt := top 6
theorem sc_folded : FnScope ["s", "turn"] ["s"] (defScope s_folded) := ⟨rfl, rfl, rfl, by decide +kernel, rfl, by decide +kernel, by decide +kernel⟩
abbrev s_row_sum : Stmt := top 5
theorem sc_row_sum : FnScope ["b", "s", "place", "byte"] ["b"] (defScope s_row_sum) := ⟨rfl, rfl, rfl, by decide +kernel, rfl, by decide +kernel, by decide +kernel⟩
abbrev s_packet_may_be : Stmt := top 20
theorem sc_packet_may_be : FnScope ["numbers", "body_length"] ["numbers", "body_length"] (defScope s_packet_may_be) := ⟨rfl, rfl, rfl, by decide +kernel, rfl, by decide +kernel, by decide +kernel⟩
abbrev s_packet_numbers : Stmt := top 23
theorem sc_packet_numbers : FnScope ["b", "choices", "first"] ["b"] (defScope s_packet_numbers) := ⟨rfl, rfl, rfl, by decide +kernel, rfl, by decide +kernel, by decide +kernel⟩
abbrev s_packet_refusal : Stmt := top 22
theorem sc_packet_refusal : FnScope ["b"] ["b"] (defScope s_packet_refusal) := ⟨rfl, rfl, rfl, by decide +kernel, rfl, by decide +kernel, by decide +kernel⟩
abbrev s_shared_numbers : Stmt := top 29
theorem sc_shared_numbers : FnScope ["piece", "numbers", "place"] ["piece"] (defScope s_shared_numbers) := ⟨rfl, rfl, rfl, by decide +kernel, rfl, by decide +kernel, by decide +kernel⟩
abbrev s_is_last : Stmt := top 30
theorem sc_is_last : FnScope ["piece"] ["piece"] (defScope s_is_last) := ⟨rfl, rfl, rfl, by decide +kernel, rfl, by decide +kernel, by decide +kernel⟩
abbrev s_piece_start : Stmt := top 33
theorem sc_piece_start : FnScope ["piece"] ["piece"] (defScope s_piece_start) := ⟨rfl, rfl, rfl, by decide +kernel, rfl, by decide +kernel, by decide +kernel⟩
abbrev s_packet_body : Stmt := top 24
theorem sc_packet_body : FnScope ["b"] ["b"] (defScope s_packet_body) := ⟨rfl, rfl, rfl, by decide +kernel, rfl, by decide +kernel, by decide +kernel⟩
abbrev s_piece_end : Stmt := top 34
theorem sc_piece_end : FnScope ["piece"] ["piece"] (defScope s_piece_end) := ⟨rfl, rfl, rfl, by decide +kernel, rfl, by decide +kernel, by decide +kernel⟩
abbrev s_packet_end : Stmt := top 31
theorem sc_packet_end : FnScope ["pieces", "piece"] ["pieces"] (defScope s_packet_end) := ⟨rfl, rfl, rfl, by decide +kernel, rfl, by decide +kernel, by decide +kernel⟩
abbrev s_fits_end : Stmt := top 32
theorem sc_fits_end : FnScope ["piece", "end"] ["piece", "end"] (defScope s_fits_end) := ⟨rfl, rfl, rfl, by decide +kernel, rfl, by decide +kernel, by decide +kernel⟩
abbrev s_filled_places : Stmt := top 35
theorem sc_filled_places : FnScope ["pieces", "places", "piece", "start", "step", "byte"] ["pieces"] (defScope s_filled_places) := ⟨rfl, rfl, rfl, by decide +kernel, rfl, by decide +kernel, by decide +kernel⟩
abbrev s_lies_in : Stmt := top 36
theorem sc_lies_in : FnScope ["piece", "places"] ["piece", "places"] (defScope s_lies_in) := ⟨rfl, rfl, rfl, by decide +kernel, rfl, by decide +kernel, by decide +kernel⟩
abbrev s_pieces_refusal : Stmt := top 28
theorem sc_pieces_refusal : FnScope ["pieces", "end", "places", "piece"] ["pieces"] (defScope s_pieces_refusal) := ⟨rfl, rfl, rfl, by decide +kernel, rfl, by decide +kernel, by decide +kernel⟩
abbrev s_behind_length : Stmt := top 40
theorem sc_behind_length : FnScope ["row"] ["row"] (defScope s_behind_length) := ⟨rfl, rfl, rfl, by decide +kernel, rfl, by decide +kernel, by decide +kernel⟩
abbrev s_in_bytes_lowest_first : Stmt := top 3
theorem sc_in_bytes_lowest_first : FnScope ["number", "count", "row", "rest", "place"] ["number", "count"] (defScope s_in_bytes_lowest_first) := ⟨rfl, rfl, rfl, by decide +kernel, rfl, by decide +kernel, by decide +kernel⟩
abbrev s_in_bytes : Stmt := top 2
theorem sc_in_bytes : FnScope ["number", "count"] ["number", "count"] (defScope s_in_bytes) := ⟨rfl, rfl, rfl, by decide +kernel, rfl, by decide +kernel, by decide +kernel⟩
abbrev s_packet_in_bytes : Stmt := top 21
theorem sc_packet_in_bytes : FnScope ["numbers", "body", "choices", "before_sum", "behind_sum", "told"] ["numbers", "body"] (defScope s_packet_in_bytes) := ⟨rfl, rfl, rfl, by decide +kernel, rfl, by decide +kernel, by decide +kernel⟩
abbrev s_put_together : Stmt := top 37
theorem sc_put_together : FnScope ["pieces", "numbers", "piece"] ["pieces"] (defScope s_put_together) := ⟨rfl, rfl, rfl, by decide +kernel, rfl, by decide +kernel, by decide +kernel⟩
abbrev s_join : Stmt := top 39
theorem sc_join : FnScope ["pieces", "refusal"] ["pieces"] (defScope s_join) := ⟨rfl, rfl, rfl, by decide +kernel, rfl, by decide +kernel, by decide +kernel⟩
structure Txt (K : PySem.W.Frag) (mg : Str → Option Value) : Prop where
  tt : True
  c_OFFSET : Glob K mg "OFFSET" (.int 4)
  c_MORE : Glob K mg "MORE" (.int 3)
  c_KEEP : Glob K mg "KEEP" (.int 2)
  c_LONGEST_PACKET_BODY : Glob K mg "LONGEST_PACKET_BODY" (.int 8000)
  c_HEAD_LENGTH : Glob K mg "HEAD_LENGTH" (.int 20)
  c_FIRST_BYTE : Glob K mg "FIRST_BYTE" (.int 69)
  c_TO : Glob K mg "TO" (.int 8)
  c_SENDER : Glob K mg "SENDER" (.int 7)
  c_PROTO : Glob K mg "PROTO" (.int 6)
  c_IDENT : Glob K mg "IDENT" (.int 1)
  c_TOS : Glob K mg "TOS" (.int 0)
  c_NO_BYTE : Glob K mg "NO_BYTE" (.int 256)
  c_MOST_PIECES : Glob K mg "MOST_PIECES" (.int 256)
  c_HOPS : Glob K mg "HOPS" (.int 5)
  b_len : mg "len" = none
  b_range : mg "range" = none
  b_enumerate : mg "enumerate" = none
  b_all : mg "all" = none
  b_any : mg "any" = none
  b_list : mg "list" = none
  b_reversed : mg "reversed" = none
  b_min : mg "min" = none
section
variable {P : Program} {w : World} {K : PySem.W.Frag} {mg : Str → Option Value} {base : Heap}
def f_is_row_of_bytes : List D → D → Prop := fun zas zd => ∃ (ns : List Int) (s m : Int), zas = [.l ns, .int s, .int m] ∧ zd = .bl (decide (s ≤ (ns.length : Int)) && decide ((ns.length : Int) ≤ m) && ns.all M.isB)
theorem cv_is_row_of_bytes {K : PySem.W.Frag} {ds : En} {t0 t1 t2 : TE} {ns : List Int} {s m : Int} (h0 : Ev K t0 ds (.l ns)) (h1 : Ev K t1 ds (.int s)) (h2 : Ev K t2 ds (.int m)) : EvN K (tCall (spF K f_is_row_of_bytes) [] E0 (tCons t0 (tCons t1 (tCons t2 tNil)))) ds (.bl (decide (s ≤ (ns.length : Int)) && decide ((ns.length : Int) ≤ m) && ns.all M.isB)) := evn_call (eva_cons h0 (eva_cons h1 (eva_cons h2 eva_nil))) ⟨_, _, _, rfl, rfl⟩
theorem ok_is_row_of_bytes {f : Addr} {fd : FuncData} (F : Fun K "is_row_of_bytes" "is_row_of_bytes" s_is_row_of_bytes f fd) (T : Txt K mg) : FnOk P w K mg base CX0 1 f fd ["b", "shortest", "longest"] (spF K f_is_row_of_bytes) := by
  refine fn_ok F sc_is_row_of_bytes (fun as d h => by obtain ⟨_, _, _, rfl, _⟩ := h; rfl) (fun cdv A outer s H E' as d hr h => ?_)
  obtain ⟨ns, s, m, rfl, rfl⟩ := h
  refine ⟨_, (pss_cons (ps_if (PW.pt (pw_or (pt_cmpR op_lt (pe_callB call_len_seq (by rfl) T.b_len PySem.boot_len (pa_cons (pv 0) pa_nil)) (pv 1) (nomark _)) (pw_or1 (pt_cmpR op_gt (pe_callB call_len_seq (by rfl) T.b_len PySem.boot_len (pa_cons (pv 0) pa_nil)) (pv 2) (nomark _))))) (pss_one (ps_ret pe_bl)) pss_nil) (pss_cons (ps_for PassesOwn.never rfl (pi_list (pv 0)) (pg_name (i := 3) sc_is_row_of_bytes.nd rfl (by first | exact Or.inl rfl | exact Or.inr rfl)) (pss_one (ps_if (PW.pt (pw_or (pt_cmpR op_lt (pv 3) pe_int (nomark _)) (pw_or1 (pt_cmpR op_gt (pv 3) pe_int (nomark _))))) (pss_one (ps_ret pe_bl)) pss_nil))) (pss_one (ps_ret pe_bl)))), ?_⟩
  show Stm K _ [some (.l ns), some (.int s), some (.int m), none] _ _
  refine st_guard (evt_or (evt_cmp (ev_lt (ev_len ev_var) ev_var)) (fun hv => (evt_cmp (ev_gt (ev_len ev_var) ev_var)))) (fun h1 => ?_) (fun h1 => ?_)
  · refine st_ret (EvN.to (Ev.n ev_bl) (bl_eq ?_))
    rw [Bool.or_eq_true, decide_eq_true_eq, decide_eq_true_eq] at h1
    rcases h1 with h1 | h1
    · rw [decide_eq_false (by omega : ¬ s ≤ (ns.length : Int)), Bool.false_and, Bool.false_and]
    · rw [decide_eq_false (by omega : ¬ (ns.length : Int) ≤ m), Bool.and_false, Bool.false_and]
  · rw [Bool.or_eq_false_iff, decide_eq_false_iff_not, decide_eq_false_iff_not] at h1
    rw [decide_eq_true (by omega : s ≤ (ns.length : Int)), decide_eq_true (by omega : (ns.length : Int) ≤ m), Bool.true_and, Bool.true_and]
    refine st_seq (st_for (fun _ => [some (.l ns), some (.int s), some (.int m), none]) (fun i => (ns.take i).all M.isB = true) evf_var ⟨rfl, rfl, rfl, rfl, trivial⟩ (fun i z hz hi => ?_)) (fun ds1 h3 => ?_)
    · refine st_if (evt_or (evt_cmp (ev_lt ev_var ev_int)) (fun hv => (evt_cmp (ev_gt ev_var ev_int)))) (fun h4 => ?_) (fun h4 => ?_)
      · refine st_ret (EvN.to (Ev.n ev_bl) (bl_eq ?_))
        rw [Bool.or_eq_true, decide_eq_true_eq, decide_eq_true_eq] at h4
        rw [M.all_take_false hz (by rw [Bool.eq_false_iff]; intro q; have := M.isB_iff.mp q; omega)]
      · rw [Bool.or_eq_false_iff, decide_eq_false_iff_not, decide_eq_false_iff_not] at h4
        refine st_next ⟨?_, rfl, rfl, rfl, trivial⟩
        rw [M.take_snoc hz, M.all_snoc, hi, M.isB_iff.mpr (by omega)]
        rfl
    · obtain ⟨h3, rfl⟩ := h3
      rw [List.take_length] at h3
      rw [h3]
      exact st_ret (Ev.n ev_bl)
def f_number_at : List D → D → Prop := fun zas zd => ∃ (ns : List Int) (p c : Int), zas = [.l ns, .int p, .int c] ∧ (0 ≤ p ∧ 0 ≤ c) ∧ zd = .int (M.numI ((ns.drop p.toNat).take c.toNat))
theorem cv_number_at {K : PySem.W.Frag} {ds : En} {t0 t1 t2 : TE} {ns : List Int} {p c : Int} (h0 : Ev K t0 ds (.l ns)) (h1 : Ev K t1 ds (.int p)) (h2 : Ev K t2 ds (.int c)) (hp : 0 ≤ p ∧ 0 ≤ c := by first | assumption | rfl | decide | omega | ((try simp only [List.length_append, List.length_cons, List.length_nil, List.length_take, List.length_drop, List.length_map, List.length_replicate, List.length_set, M.ints_length, M.be_length, M.leB_length, M.bytesOf_length, M.tagI_length, M.qhead_length, M.hd1_len, M.packet_length]) <;> omega)) : EvN K (tCall (spF K f_number_at) [] E0 (tCons t0 (tCons t1 (tCons t2 tNil)))) ds (.int (M.numI ((ns.drop p.toNat).take c.toNat))) := evn_call (eva_cons h0 (eva_cons h1 (eva_cons h2 eva_nil))) ⟨_, _, _, rfl, hp, rfl⟩
theorem ok_number_at {f : Addr} {fd : FuncData} (F : Fun K "number_at" "number_at" s_number_at f fd) (T : Txt K mg) : FnOk P w K mg base CX0 1 f fd ["b", "place", "count"] (spF K f_number_at) := by
  refine fn_ok F sc_number_at (fun as d h => by obtain ⟨_, _, _, rfl, _⟩ := h; rfl) (fun cdv A outer s H E' as d hr h => ?_)
  obtain ⟨ns, p, c, rfl, hp, rfl⟩ := h
  refine ⟨_, (pss_cons (ps_set (i := 3) sc_number_at.nd rfl (by first | exact Or.inl rfl | exact Or.inr rfl) pe_int) (pss_cons (ps_for PassesOwn.never rfl (pi_list (pe_slice sl_list (pv 0) (po_some (pv 1)) (po_some (pe_op op_add (pv 1) (pv 2))))) (pg_name (i := 4) sc_number_at.nd rfl (by first | exact Or.inl rfl | exact Or.inr rfl)) (pss_one (ps_set (i := 3) sc_number_at.nd rfl (by first | exact Or.inl rfl | exact Or.inr rfl) (pe_op op_add (pe_op op_mul (pv 3) pe_int) (pv 4))))) (pss_one (ps_ret (pv 3))))), ?_⟩
  show Stm K _ [some (.l ns), some (.int p), some (.int c), none, none] _ _
  obtain ⟨hp1, hp2⟩ := hp
  refine st_then (st_set (Ev.f ev_int)) ?_
  refine st_seq (st_for (fun i => [some (.l ns), some (.int p), some (.int c), some (.int (M.numI (((ns.drop p.toNat).take ((p + c).toNat - p.toNat)).take i))), none]) (fun _ => True) (EvN.f (evn_sl ev_var ev_var (ev_add ev_var ev_var))) ⟨trivial, rfl, rfl, rfl, rfl, trivial⟩ (fun i z hz hi => ?_)) (fun ds1 h3 => ?_)
  · refine st_mono (st_set (Ev.f (ev_add (ev_mulR ev_var ev_int) ev_var))) (fun _ e => e ▸ ⟨trivial, rfl, rfl, rfl, ?_, trivial⟩)
    rw [M.take_snoc hz, M.numI_snoc]
  · obtain ⟨h3, rfl⟩ := h3
    refine st_ret (EvN.to (Ev.n ev_var) (i_eq ?_))
    rw [List.take_length, show (p + c).toNat - p.toNat = c.toNat by omega]
def f_folded : List D → D → Prop := fun zas zd => ∃ (n : Int), zas = [.int n] ∧ zd = .int (M.foldI (M.foldI (M.foldI n)))
theorem cv_folded {K : PySem.W.Frag} {ds : En} {t0 : TE} {n : Int} (h0 : Ev K t0 ds (.int n)) : EvN K (tCall (spF K f_folded) [] E0 (tCons t0 tNil)) ds (.int (M.foldI (M.foldI (M.foldI n)))) := evn_call (eva_cons h0 eva_nil) ⟨_, rfl, rfl⟩
theorem ok_folded {f : Addr} {fd : FuncData} (F : Fun K "folded" "folded" s_folded f fd) (T : Txt K mg) : FnOk P w K mg base CX0 1 f fd ["s"] (spF K f_folded) := by
  refine fn_ok F sc_folded (fun as d h => by obtain ⟨_, rfl, _⟩ := h; rfl) (fun cdv A outer s H E' as d hr h => ?_)
  obtain ⟨n, rfl, rfl⟩ := h
  refine ⟨_, (pss_cons (ps_for PassesOwn.never rfl (pi_range1 rfl T.b_range (pa_cons pe_int pa_nil)) (pg_name (i := 1) sc_folded.nd rfl (by first | exact Or.inl rfl | exact Or.inr rfl)) (pss_one (ps_set (i := 0) sc_folded.nd rfl (by first | exact Or.inl rfl | exact Or.inr rfl) (pe_op op_add (pe_op op_mod (pv 0) pe_int) (pe_op op_fdiv (pv 0) pe_int))))) (pss_one (ps_ret (pv 0)))), ?_⟩
  show Stm K _ [some (.int n), none] _ _
  refine st_seq (st_range (fun i => [some (.int (Nat.repeat M.foldI i n)), none]) (fun _ => True) ev_int (by decide) (by decide) ⟨trivial, rfl, trivial⟩ (fun i hi _ => ?_)) (fun ds1 h3 => ?_)
  · exact st_mono (st_set (Ev.f (ev_add (ev_mod ev_var ev_int) (ev_fdiv ev_var ev_int)))) (fun _ e => e ▸ ⟨trivial, rfl, trivial⟩)
  · obtain ⟨h3, rfl⟩ := h3
    exact st_ret (Ev.n ev_var)
def f_row_sum : List D → D → Prop := fun zas zd => ∃ (ns : List Int), zas = [.l ns] ∧ zd = .int (65535 - M.foldI (M.foldI (M.foldI (M.altI ns))))
theorem cv_row_sum {K : PySem.W.Frag} {ds : En} {t0 : TE} {ns : List Int} (h0 : Ev K t0 ds (.l ns)) : EvN K (tCall (spF K f_row_sum) [] E0 (tCons t0 tNil)) ds (.int (65535 - M.foldI (M.foldI (M.foldI (M.altI ns))))) := evn_call (eva_cons h0 eva_nil) ⟨_, rfl, rfl⟩
theorem ok_row_sum {f : Addr} {fd : FuncData} (F : Fun K "row_sum" "row_sum" s_row_sum f fd) (T : Txt K mg) (C_folded : Cb P w K mg base 1 "folded" ["s"] (spF K f_folded)) : FnOk P w K mg base CX0 2 f fd ["b"] (spF K f_row_sum) := by
  refine fn_ok F sc_row_sum (fun as d h => by obtain ⟨_, rfl, _⟩ := h; rfl) (fun cdv A outer s H E' as d hr h => ?_)
  obtain ⟨ns, rfl, rfl⟩ := h
  refine ⟨_, (pss_cons (ps_set (i := 1) sc_row_sum.nd rfl (by first | exact Or.inl rfl | exact Or.inr rfl) pe_int) (pss_cons (ps_for PassesOwn.never rfl (pi_enum rfl T.b_enumerate (pa_cons (pv 0) pa_nil)) (pg_tup rfl (pgs_cons (pg_name (i := 2) sc_row_sum.nd rfl (by first | exact Or.inl rfl | exact Or.inr rfl)) (pgs_cons (pg_name (i := 3) sc_row_sum.nd rfl (by first | exact Or.inl rfl | exact Or.inr rfl)) pgs_nil))) (pss_one (ps_if (pt_cmpR op_eq (pe_op op_mod (pv 2) pe_int) pe_int (nomark _)) (pss_one (ps_aug (i := 1) sc_row_sum.nd rfl (by first | exact Or.inl rfl | exact Or.inr rfl) (pe_op op_mul (pv 3) pe_int) iop_add)) (pss_one (ps_aug (i := 1) sc_row_sum.nd rfl (by first | exact Or.inl rfl | exact Or.inr rfl) (pv 3) iop_add))))) (pss_one (ps_ret (pe_op op_sub pe_int (pe_cb C_folded (hr.mono (by decide)) rfl (pa_cons (pv 1) pa_nil))))))), ?_⟩
  show Stm K _ [some (.l ns), none, none, none] _ _
  refine st_then (st_set (Ev.f ev_int)) ?_
  refine st_seq (st_enum (fun i => [some (.l ns), some (.int (M.altI (ns.take i))), none, none]) (fun _ => True) evf_var ⟨trivial, rfl, rfl, trivial⟩ (fun i z hz hi => ?_)) (fun ds1 h3 => ?_)
  · have hi : i < ns.length := (List.getElem?_eq_some_iff.mp hz).1
    have ht : (ns.take i).length = i := by rw [List.length_take]; omega
    have e1 := M.altI_snoc (ns.take i) z
    rw [ht, ← M.take_snoc hz] at e1
    refine st_if (evt_cmp (ev_eq (ev_mod ev_var ev_int) ev_int)) (fun h4 => ?_) (fun h4 => ?_)
    · rw [decide_eq_true_eq] at h4
      rw [if_pos (by omega)] at e1
      exact st_mono (st_aug (g := fun i j => i + j) rfl (ev_mulR ev_var ev_int)) (fun _ e => e ▸ ⟨trivial, rfl, congrArg D.int e1, trivial⟩)
    · rw [decide_eq_false_iff_not] at h4
      rw [if_neg (by omega)] at e1
      exact st_mono (st_aug (g := fun i j => i + j) rfl ev_var) (fun _ e => e ▸ ⟨trivial, rfl, congrArg D.int e1, trivial⟩)
  · obtain ⟨h3, rfl⟩ := h3
    refine st_ret (EvN.to (Ev.n (ev_sub ev_int (EvN.ev (cv_folded ev_var)))) (i_eq ?_))
    rw [List.take_length]
def f_packet_may_be : List D → D → Prop := fun zas zd => ∃ (a b k m o c e f g : Int) (n : Int), zas = [.l [a, b, k, m, o, c, e, f, g], .int n] ∧ zd = .bl (M.mayBe k m o n)
theorem cv_packet_may_be {K : PySem.W.Frag} {ds : En} {t0 t1 : TE} {a b k m o c e f g : Int} {n : Int} (h0 : Ev K t0 ds (.l [a, b, k, m, o, c, e, f, g])) (h1 : Ev K t1 ds (.int n)) : EvN K (tCall (spF K f_packet_may_be) [] E0 (tCons t0 (tCons t1 tNil))) ds (.bl (M.mayBe k m o n)) := evn_call (eva_cons h0 (eva_cons h1 eva_nil)) ⟨_, _, _, _, _, _, _, _, _, _, rfl, rfl⟩
theorem ok_packet_may_be {f : Addr} {fd : FuncData} (F : Fun K "packet_may_be" "packet_may_be" s_packet_may_be f fd) (T : Txt K mg) : FnOk P w K mg base CX0 1 f fd ["numbers", "body_length"] (spF K f_packet_may_be) := by
  refine fn_ok F sc_packet_may_be (fun as d h => by obtain ⟨_, _, _, _, _, _, _, _, _, _, rfl, _⟩ := h; rfl) (fun cdv A outer s H E' as d hr h => ?_)
  obtain ⟨a, b, k, m, o, c, e, f, g, n, rfl, rfl⟩ := h
  refine ⟨_, (pss_cons (ps_if (PW.pt (pw_and (pt_cmpR op_eq (pe_ix ix_list (pv 0) (pe_gd rfl T.c_KEEP) (fun _ _ => rfl)) pe_int (nomark _)) (pw_and1 (PW.pt (pw_or (pt_cmpR op_ne (pe_ix ix_list (pv 0) (pe_gd rfl T.c_MORE) (fun _ _ => rfl)) pe_int (nomark _)) (pw_or1 (pt_cmpR op_ne (pe_ix ix_list (pv 0) (pe_gd rfl T.c_OFFSET) (fun _ _ => rfl)) pe_int (nomark _)))))))) (pss_one (ps_ret pe_bl)) pss_nil) (pss_cons (ps_if (PW.pt (pw_and (pt_cmpR op_eq (pe_ix ix_list (pv 0) (pe_gd rfl T.c_MORE) (fun _ _ => rfl)) pe_int (nomark _)) (pw_and1 (PW.pt (pw_or (pt_cmpR op_eq (pv 1) pe_int (nomark _)) (pw_or1 (pt_cmpR op_ne (pe_op op_mod (pv 1) pe_int) pe_int (nomark _)))))))) (pss_one (ps_ret pe_bl)) pss_nil) (pss_one (ps_ret (pe_cmpR op_le (pe_op op_add (pe_op op_mul pe_int (pe_ix ix_list (pv 0) (pe_gd rfl T.c_OFFSET) (fun _ _ => rfl))) (pv 1)) (pe_gd rfl T.c_LONGEST_PACKET_BODY) (nomark _)))))), ?_⟩
  show Stm K _ [some (.l [a, b, k, m, o, c, e, f, g]), some (.int n)] _ _
  unfold M.mayBe
  refine st_guard (evt_and (evt_cmp (ev_eq (ev_ix ev_var ev_glob) ev_int)) (fun hv => (evt_or (evt_cmp (ev_ne (ev_ix ev_var ev_glob) ev_int)) (fun hv => (evt_cmp (ev_ne (ev_ix ev_var ev_glob) ev_int)))))) (fun h1 => ?_) (fun h1 => ?_)
  · refine st_ret (EvN.to (Ev.n ev_bl) (bl_eq ?_))
    rw [h1]
    rfl
  · rw [h1]
    refine st_guard (evt_and (evt_cmp (ev_eq (ev_ix ev_var ev_glob) ev_int)) (fun hv => (evt_or (evt_cmp (ev_eq ev_var ev_int)) (fun hv => (evt_cmp (ev_ne (ev_mod ev_var ev_int) ev_int)))))) (fun h2 => ?_) (fun h2 => ?_)
    · refine st_ret (EvN.to (Ev.n ev_bl) (bl_eq ?_))
      rw [h2]
      rfl
    · rw [h2]
      exact st_ret (Ev.n (ev_le (ev_add (ev_mulL ev_int (ev_ix ev_var ev_glob)) ev_var) ev_glob))
def f_packet_numbers : List D → D → Prop := fun zas zd => ∃ (ns : List Int), zas = [.l ns] ∧ (20 ≤ ns.length) ∧ zd = .l (M.pnums ns)
theorem cv_packet_numbers {K : PySem.W.Frag} {ds : En} {t0 : TE} {ns : List Int} (h0 : Ev K t0 ds (.l ns)) (hp : 20 ≤ ns.length := by first | assumption | rfl | decide | omega | ((try simp only [List.length_append, List.length_cons, List.length_nil, List.length_take, List.length_drop, List.length_map, List.length_replicate, List.length_set, M.ints_length, M.be_length, M.leB_length, M.bytesOf_length, M.tagI_length, M.qhead_length, M.hd1_len, M.packet_length]) <;> omega)) : EvN K (tCall (spF K f_packet_numbers) [] E0 (tCons t0 tNil)) ds (.l (M.pnums ns)) := evn_call (eva_cons h0 eva_nil) ⟨_, rfl, hp, rfl⟩
theorem ok_packet_numbers {f : Addr} {fd : FuncData} (F : Fun K "packet_numbers" "packet_numbers" s_packet_numbers f fd) (T : Txt K mg) (C_number_at : Cb P w K mg base 1 "number_at" ["b", "place", "count"] (spF K f_number_at)) : FnOk P w K mg base CX0 2 f fd ["b"] (spF K f_packet_numbers) := by
  refine fn_ok F sc_packet_numbers (fun as d h => by obtain ⟨_, rfl, _⟩ := h; rfl) (fun cdv A outer s H E' as d hr h => ?_)
  obtain ⟨ns, rfl, hp, rfl⟩ := h
  refine ⟨_, (pss_cons (ps_set (i := 1) sc_packet_numbers.nd rfl (by first | exact Or.inl rfl | exact Or.inr rfl) (pe_cb C_number_at (hr.mono (by decide)) rfl (pa_cons (pv 0) (pa_cons pe_int (pa_cons pe_int pa_nil))))) (pss_cons (ps_set (i := 2) sc_packet_numbers.nd rfl (by first | exact Or.inl rfl | exact Or.inr rfl) (pe_lst (pa_cons (pe_ix ix_list (pv 0) pe_int (fun _ _ => rfl)) (pa_cons (pe_cb C_number_at (hr.mono (by decide)) rfl (pa_cons (pv 0) (pa_cons pe_int (pa_cons pe_int pa_nil)))) (pa_cons (pe_op op_fdiv (pv 1) pe_int) (pa_cons (pe_op op_mod (pe_op op_fdiv (pv 1) pe_int) pe_int) (pa_cons (pe_op op_mod (pv 1) pe_int) pa_nil))))))) (pss_one (ps_ret (pe_op op_catS (pv 2) (pe_lst (pa_cons (pe_ix ix_list (pv 0) pe_int (fun _ _ => rfl)) (pa_cons (pe_ix ix_list (pv 0) pe_int (fun _ _ => rfl)) (pa_cons (pe_cb C_number_at (hr.mono (by decide)) rfl (pa_cons (pv 0) (pa_cons pe_int (pa_cons pe_int pa_nil)))) (pa_cons (pe_cb C_number_at (hr.mono (by decide)) rfl (pa_cons (pv 0) (pa_cons pe_int (pa_cons pe_int pa_nil)))) pa_nil)))))))))), ?_⟩
  show Stm K _ [some (.l ns), none, none] _ _
  refine st_then (st_set (Ev.f (EvN.ev (cv_number_at ev_var ev_int ev_int)))) ?_
  refine st_then (st_set (EvN.f (evn_lst (evi_cons (ev_ixb ev_var ev_int (by first | assumption | rfl | decide | omega | ((try simp only [List.length_append, List.length_cons, List.length_nil, List.length_take, List.length_drop, List.length_map, List.length_replicate, List.length_set, M.ints_length, M.be_length, M.leB_length, M.bytesOf_length, M.tagI_length, M.qhead_length, M.hd1_len, M.packet_length]) <;> omega))) (evi_cons (EvN.ev (cv_number_at ev_var ev_int ev_int)) (evi_cons (ev_fdiv ev_var ev_int) (evi_cons (ev_mod (ev_fdiv ev_var ev_int) ev_int) (evi_cons (ev_mod ev_var ev_int) evi_nil)))))))) ?_
  exact st_ret (EvN.to (evn_cat ev_var (EvN.ev (evn_lst (evi_cons (ev_ixb ev_var ev_int (by first | assumption | rfl | decide | omega | ((try simp only [List.length_append, List.length_cons, List.length_nil, List.length_take, List.length_drop, List.length_map, List.length_replicate, List.length_set, M.ints_length, M.be_length, M.leB_length, M.bytesOf_length, M.tagI_length, M.qhead_length, M.hd1_len, M.packet_length]) <;> omega))) (evi_cons (ev_ixb ev_var ev_int (by first | assumption | rfl | decide | omega | ((try simp only [List.length_append, List.length_cons, List.length_nil, List.length_take, List.length_drop, List.length_map, List.length_replicate, List.length_set, M.ints_length, M.be_length, M.leB_length, M.bytesOf_length, M.tagI_length, M.qhead_length, M.hd1_len, M.packet_length]) <;> omega))) (evi_cons (EvN.ev (cv_number_at ev_var ev_int ev_int)) (evi_cons (EvN.ev (cv_number_at ev_var ev_int ev_int)) evi_nil)))))) (by (try simp only [List.length_append, List.length_cons, List.length_nil, List.length_take, List.length_drop, List.length_map, List.length_replicate, List.length_set, M.ints_length, M.be_length, M.leB_length, M.bytesOf_length, M.tagI_length, M.qhead_length, M.hd1_len, M.packet_length]) <;> omega)) rfl)
def f_packet_refusal : List D → D → Prop := fun zas zd => ∃ (ns : List Int), zas = [.l ns] ∧ zd = .int (M.code (Vbcnaa.readPacket (Vbcnaa.bytesOf ns)))
theorem cv_packet_refusal {K : PySem.W.Frag} {ds : En} {t0 : TE} {ns : List Int} (h0 : Ev K t0 ds (.l ns)) : EvN K (tCall (spF K f_packet_refusal) [] E0 (tCons t0 tNil)) ds (.int (M.code (Vbcnaa.readPacket (Vbcnaa.bytesOf ns)))) := evn_call (eva_cons h0 eva_nil) ⟨_, rfl, rfl⟩
theorem ok_packet_refusal {f : Addr} {fd : FuncData} (F : Fun K "packet_refusal" "packet_refusal" s_packet_refusal f fd) (T : Txt K mg) (C_is_row_of_bytes : Cb P w K mg base 1 "is_row_of_bytes" ["b", "shortest", "longest"] (spF K f_is_row_of_bytes)) (C_number_at : Cb P w K mg base 1 "number_at" ["b", "place", "count"] (spF K f_number_at)) (C_row_sum : Cb P w K mg base 2 "row_sum" ["b"] (spF K f_row_sum)) (C_packet_may_be : Cb P w K mg base 1 "packet_may_be" ["numbers", "body_length"] (spF K f_packet_may_be)) (C_packet_numbers : Cb P w K mg base 2 "packet_numbers" ["b"] (spF K f_packet_numbers)) : FnOk P w K mg base CX0 3 f fd ["b"] (spF K f_packet_refusal) := by
  refine fn_ok F sc_packet_refusal (fun as d h => by obtain ⟨_, rfl, _⟩ := h; rfl) (fun cdv A outer s H E' as d hr h => ?_)
  obtain ⟨ns, rfl, rfl⟩ := h
  refine ⟨_, (pss_cons (ps_if (pt_not (pt_truth (pe_cb C_is_row_of_bytes (hr.mono (by decide)) rfl (pa_cons (pv 0) (pa_cons (pe_gd rfl T.c_HEAD_LENGTH) (pa_cons (pe_op op_add (pe_gd rfl T.c_HEAD_LENGTH) (pe_gd rfl T.c_LONGEST_PACKET_BODY)) pa_nil)))) (fun _ => rfl))) (pss_one (ps_ret (pe_un un_neg pe_int))) pss_nil) (pss_cons (ps_if (pt_cmpR op_ne (pe_ix ix_list (pv 0) pe_int (fun _ _ => rfl)) (pe_gd rfl T.c_FIRST_BYTE) (nomark _)) (pss_one (ps_ret (pe_un un_neg pe_int))) pss_nil) (pss_cons (ps_if (pt_cmpR op_ne (pe_cb C_number_at (hr.mono (by decide)) rfl (pa_cons (pv 0) (pa_cons pe_int (pa_cons pe_int pa_nil)))) (pe_callB call_len_seq (by rfl) T.b_len PySem.boot_len (pa_cons (pv 0) pa_nil)) (nomark _)) (pss_one (ps_ret (pe_un un_neg pe_int))) pss_nil) (pss_cons (ps_if (pt_cmpR op_ne (pe_cb C_number_at (hr.mono (by decide)) rfl (pa_cons (pv 0) (pa_cons pe_int (pa_cons pe_int pa_nil)))) (pe_cb C_row_sum (hr.mono (by decide)) rfl (pa_cons (pe_op op_catS (pe_op op_catS (pe_slice sl_list (pv 0) (po_some pe_int) (po_some pe_int)) (pe_lst (pa_cons pe_int (pa_cons pe_int pa_nil)))) (pe_slice sl_list (pv 0) (po_some pe_int) (po_some (pe_gd rfl T.c_HEAD_LENGTH)))) pa_nil)) (nomark _)) (pss_one (ps_ret (pe_un un_neg pe_int))) pss_nil) (pss_cons (ps_if (PW.pt (pw_or (pt_cmpR op_ge (pe_cb C_number_at (hr.mono (by decide)) rfl (pa_cons (pv 0) (pa_cons pe_int (pa_cons pe_int pa_nil)))) pe_int (nomark _)) (pw_or1 (pt_not (pt_truth (pe_cb C_packet_may_be (hr.mono (by decide)) rfl (pa_cons (pe_cb C_packet_numbers (hr.mono (by decide)) rfl (pa_cons (pv 0) pa_nil)) (pa_cons (pe_op op_sub (pe_callB call_len_seq (by rfl) T.b_len PySem.boot_len (pa_cons (pv 0) pa_nil)) (pe_gd rfl T.c_HEAD_LENGTH)) pa_nil))) (fun _ => rfl)))))) (pss_one (ps_ret (pe_un un_neg pe_int))) pss_nil) (pss_one (ps_ret pe_int))))))), ?_⟩
  show Stm K _ [some (.l ns)] _ _
  refine st_guard (evt_not (evt_truth (EvN.ev (cv_is_row_of_bytes ev_var ev_glob (ev_add ev_glob ev_glob))))) (fun h1 => ?_) (fun h1 => ?_)
  · rw [Bool.not_eq_true'] at h1
    refine st_ret (EvN.to (Ev.n (ev_neg ev_int)) (i_eq ?_))
    rw [M.readP1 h1]
    rfl
  · rw [Bool.not_eq_false', Bool.and_eq_true, Bool.and_eq_true, decide_eq_true_eq, decide_eq_true_eq] at h1
    obtain ⟨⟨h2, h3⟩, h4⟩ := h1
    obtain ⟨bs, rfl, hb⟩ := M.ints_of h4
    rw [M.ints_length] at h2 h3
    have hl : (Vbcnaa.ints bs).length = bs.length := M.ints_length bs
    rw [M.bytesOf_ints hb, M.readP_in hb (by omega) (by omega)]
    refine st_guard (evt_cmp (ev_ne (ev_ixb ev_var ev_int (by first | assumption | rfl | decide | omega | ((try simp only [List.length_append, List.length_cons, List.length_nil, List.length_take, List.length_drop, List.length_map, List.length_replicate, List.length_set, M.ints_length, M.be_length, M.leB_length, M.bytesOf_length, M.tagI_length, M.qhead_length, M.hd1_len, M.packet_length]) <;> omega))) ev_glob)) (fun h5 => ?_) (fun h5 => ?_)
    · rw [Bool.not_eq_true', decide_eq_false_iff_not, M.getD_field] at h5
      rw [if_pos (by intro z; exact h5 (congrArg Nat.cast z))]
      exact st_ret (Ev.n (ev_neg ev_int))
    · rw [Bool.not_eq_false', decide_eq_true_eq, M.getD_field] at h5
      have h5' : Vbcnaa.field bs 0 1 = 69 := Int.ofNat_inj.mp h5
      rw [if_neg (fun z => z h5')]
      refine st_guard (evt_cmp (ev_ne (EvN.ev (cv_number_at ev_var ev_int ev_int)) (ev_len ev_var))) (fun h6 => ?_) (fun h6 => ?_)
      · rw [Bool.not_eq_true', decide_eq_false_iff_not, M.numI_field, hl] at h6
        rw [if_pos (by intro z; exact h6 (congrArg Nat.cast z))]
        exact st_ret (Ev.n (ev_neg ev_int))
      · rw [Bool.not_eq_false', decide_eq_true_eq, M.numI_field, hl] at h6
        have h6' : Vbcnaa.field bs 2 2 = bs.length := Int.ofNat_inj.mp h6
        rw [if_neg (fun z => z h6')]
        refine st_guard (evt_cmp (ev_ne (EvN.ev (cv_number_at ev_var ev_int ev_int)) (EvN.ev (cv_row_sum (EvN.ev (evn_cat (EvN.ev (evn_cat (EvN.ev (evn_sl ev_var ev_int ev_int)) (EvN.ev (evn_lst (evi_cons ev_int (evi_cons ev_int evi_nil)))) (by (try simp only [List.length_append, List.length_cons, List.length_nil, List.length_take, List.length_drop, List.length_map, List.length_replicate, List.length_set, M.ints_length, M.be_length, M.leB_length, M.bytesOf_length, M.tagI_length, M.qhead_length, M.hd1_len, M.packet_length]) <;> omega))) (EvN.ev (evn_sl ev_var ev_int ev_glob)) (by (try simp only [List.length_append, List.length_cons, List.length_nil, List.length_take, List.length_drop, List.length_map, List.length_replicate, List.length_set, M.ints_length, M.be_length, M.leB_length, M.bytesOf_length, M.tagI_length, M.qhead_length, M.hd1_len, M.packet_length]) <;> omega))))))) (fun h7 => ?_) (fun h7 => ?_)
        · rw [Bool.not_eq_true', decide_eq_false_iff_not, M.numI_field] at h7
          rw [if_pos (by intro z; exact h7 (((congrArg Nat.cast z)).trans (M.headSum hb (by omega) h5' h6').symm))]
          exact st_ret (Ev.n (ev_neg ev_int))
        · rw [Bool.not_eq_false', decide_eq_true_eq, M.numI_field] at h7
          have h7' : Vbcnaa.field bs 10 2 = Vbcnaa.sum16 (Vbcnaa.headWith (M.packetOf bs) 0) := Int.ofNat_inj.mp (h7.trans (M.headSum hb (by omega) h5' h6'))
          rw [if_neg (fun z => z h7')]
          have hf := M.field_lt hb 6 2
          have key : ¬ 32768 ≤ Vbcnaa.field bs 6 2 → M.mayBe (M.numI (((Vbcnaa.ints bs).drop 6).take 2) / 16384) (M.numI (((Vbcnaa.ints bs).drop 6).take 2) / 8192 % 2) (M.numI (((Vbcnaa.ints bs).drop 6).take 2) % 8192) ((Vbcnaa.ints bs).length - 20) = Vbcnaa.goodPiece (M.packetOf bs) := fun hlt => by
            have hg := M.mayBe_good (p := M.packetOf bs) (by show Vbcnaa.field bs 6 2 / 16384 ≤ 1; omega) (by show Vbcnaa.field bs 6 2 / 8192 % 2 ≤ 1; omega)
            rw [← hg, M.numI_field, hl]
            have e : ((bs.drop 20).length : Int) = (bs.length : Int) - 20 := by rw [List.length_drop]; omega
            show _ = M.mayBe _ _ _ ((bs.drop 20).length : Int)
            rw [e]
            rfl
          refine st_guard (evt_or (evt_cmp (ev_ge (EvN.ev (cv_number_at ev_var ev_int ev_int)) ev_int)) (fun hv => (evt_not (evt_truth (EvN.ev (cv_packet_may_be (EvN.ev (cv_packet_numbers ev_var)) (ev_sub (ev_len ev_var) ev_glob))))))) (fun h8 => ?_) (fun h8 => ?_)
          · rw [Bool.or_eq_true, decide_eq_true_eq, Bool.not_eq_true', M.numI_field] at h8
            change 32768 ≤ ((Vbcnaa.field bs 6 2 : Nat) : Int) ∨ _ at h8
            rw [if_pos]
            · exact st_ret (Ev.n (ev_neg ev_int))
            · rcases h8 with h8 | h8
              · exact .inl (by omega)
              · by_cases hlt : 32768 ≤ Vbcnaa.field bs 6 2
                · exact .inl hlt
                · exact .inr ((key hlt).symm.trans h8)
          · rw [Bool.or_eq_false_iff, decide_eq_false_iff_not, Bool.not_eq_false', M.numI_field] at h8
            change ¬ 32768 ≤ ((Vbcnaa.field bs 6 2 : Nat) : Int) ∧ _ at h8
            rw [if_neg]
            · exact st_ret (Ev.n ev_int)
            · intro z
              have hlt : ¬ 32768 ≤ Vbcnaa.field bs 6 2 := by omega
              rcases z with z | z
              · exact hlt z
              · have q := (key hlt).symm.trans h8.2
                rw [z] at q
                cases q
def f_shared_numbers : List D → D → Prop := fun zas zd => ∃ (ns : List Int), zas = [.l ns] ∧ (20 ≤ ns.length) ∧ zd = .l (M.sharedI ns)
theorem cv_shared_numbers {K : PySem.W.Frag} {ds : En} {t0 : TE} {ns : List Int} (h0 : Ev K t0 ds (.l ns)) (hp : 20 ≤ ns.length := by first | assumption | rfl | decide | omega | ((try simp only [List.length_append, List.length_cons, List.length_nil, List.length_take, List.length_drop, List.length_map, List.length_replicate, List.length_set, M.ints_length, M.be_length, M.leB_length, M.bytesOf_length, M.tagI_length, M.qhead_length, M.hd1_len, M.packet_length]) <;> omega)) : EvN K (tCall (spF K f_shared_numbers) [] E0 (tCons t0 tNil)) ds (.l (M.sharedI ns)) := evn_call (eva_cons h0 eva_nil) ⟨_, rfl, hp, rfl⟩
theorem ok_shared_numbers {f : Addr} {fd : FuncData} (F : Fun K "shared_numbers" "shared_numbers" s_shared_numbers f fd) (T : Txt K mg) (C_packet_numbers : Cb P w K mg base 2 "packet_numbers" ["b"] (spF K f_packet_numbers)) : FnOk P w K mg base CX0 3 f fd ["piece"] (spF K f_shared_numbers) := by
  refine fn_ok F sc_shared_numbers (fun as d h => by obtain ⟨_, rfl, _⟩ := h; rfl) (fun cdv A outer s H E' as d hr h => ?_)
  obtain ⟨ns, rfl, hp, rfl⟩ := h
  refine ⟨_, (pss_cons (ps_set (i := 1) sc_shared_numbers.nd rfl (by first | exact Or.inl rfl | exact Or.inr rfl) (pe_cb C_packet_numbers (hr.mono (by decide)) rfl (pa_cons (pv 0) pa_nil))) (pss_one (ps_ret (pe_lc (own := [("place", 2)]) rfl sc_shared_numbers.nd (pi_tup (pe_tup (pa_cons (pe_gd rfl T.c_TOS) (pa_cons (pe_gd rfl T.c_IDENT) (pa_cons (pe_gd rfl T.c_KEEP) (pa_cons (pe_gd rfl T.c_PROTO) (pa_cons (pe_gd rfl T.c_SENDER) (pa_cons (pe_gd rfl T.c_TO) pa_nil)))))))) (blkOk_by (by show blkC ["piece", "numbers", "place"] (defScope s_shared_numbers) _ [("place", 2)] = true; decide +kernel)) (fun _ _ _ _ _ => (pg_name (i := 2) sc_shared_numbers.nd rfl (Or.inl rfl))) (fun _ _ _ _ _ => by exact pts_nil) (fun _ _ _ _ _ => by exact (pe_ix (ix_listK (K := K) rfl) (pv 1) (pv 2) (fun _ _ => rfl))))))), ?_⟩
  show Stm K _ [some (.l ns), none, none] _ _
  refine st_then (st_set (EvN.f (cv_packet_numbers ev_var))) ?_
  refine st_ret (EvN.to (evn_lcT (j := 2) (ns := [0, 1, 2, 6, 7, 8]) (fun z => (M.pnums ns).getD z.toNat 0) (evf_tup (evi_cons ev_glob (evi_cons ev_glob (evi_cons ev_glob (evi_cons ev_glob (evi_cons ev_glob (evi_cons ev_glob evi_nil))))))) (fun z hz => ?_) (by decide)) rfl)
  have h9 : 0 ≤ z ∧ z.toNat < 9 := by
    simp only [List.mem_cons, List.not_mem_nil, or_false] at hz
    omega
  exact ev_ixb ev_var ev_var h9.2 h9.1
def f_is_last : List D → D → Prop := fun zas zd => ∃ (ns : List Int), zas = [.l ns] ∧ (20 ≤ ns.length) ∧ zd = .bl (M.lastI ns)
theorem cv_is_last {K : PySem.W.Frag} {ds : En} {t0 : TE} {ns : List Int} (h0 : Ev K t0 ds (.l ns)) (hp : 20 ≤ ns.length := by first | assumption | rfl | decide | omega | ((try simp only [List.length_append, List.length_cons, List.length_nil, List.length_take, List.length_drop, List.length_map, List.length_replicate, List.length_set, M.ints_length, M.be_length, M.leB_length, M.bytesOf_length, M.tagI_length, M.qhead_length, M.hd1_len, M.packet_length]) <;> omega)) : EvN K (tCall (spF K f_is_last) [] E0 (tCons t0 tNil)) ds (.bl (M.lastI ns)) := evn_call (eva_cons h0 eva_nil) ⟨_, rfl, hp, rfl⟩
theorem ok_is_last {f : Addr} {fd : FuncData} (F : Fun K "is_last" "is_last" s_is_last f fd) (T : Txt K mg) (C_packet_numbers : Cb P w K mg base 2 "packet_numbers" ["b"] (spF K f_packet_numbers)) : FnOk P w K mg base CX0 3 f fd ["piece"] (spF K f_is_last) := by
  refine fn_ok F sc_is_last (fun as d h => by obtain ⟨_, rfl, _⟩ := h; rfl) (fun cdv A outer s H E' as d hr h => ?_)
  obtain ⟨ns, rfl, hp, rfl⟩ := h
  refine ⟨_, (pss_one (ps_ret (pe_cmpR op_eq (pe_ix ix_list (pe_cb C_packet_numbers (hr.mono (by decide)) rfl (pa_cons (pv 0) pa_nil)) (pe_gd rfl T.c_MORE) (fun _ _ => rfl)) pe_int (nomark _)))), ?_⟩
  show Stm K _ [some (.l ns)] _ _
  exact st_ret (EvN.to (Ev.n (ev_eq (ev_ix (EvN.ev (cv_packet_numbers ev_var)) ev_glob) ev_int)) rfl)
def f_piece_start : List D → D → Prop := fun zas zd => ∃ (ns : List Int), zas = [.l ns] ∧ (20 ≤ ns.length) ∧ zd = .int (M.startI ns)
theorem cv_piece_start {K : PySem.W.Frag} {ds : En} {t0 : TE} {ns : List Int} (h0 : Ev K t0 ds (.l ns)) (hp : 20 ≤ ns.length := by first | assumption | rfl | decide | omega | ((try simp only [List.length_append, List.length_cons, List.length_nil, List.length_take, List.length_drop, List.length_map, List.length_replicate, List.length_set, M.ints_length, M.be_length, M.leB_length, M.bytesOf_length, M.tagI_length, M.qhead_length, M.hd1_len, M.packet_length]) <;> omega)) : EvN K (tCall (spF K f_piece_start) [] E0 (tCons t0 tNil)) ds (.int (M.startI ns)) := evn_call (eva_cons h0 eva_nil) ⟨_, rfl, hp, rfl⟩
theorem ok_piece_start {f : Addr} {fd : FuncData} (F : Fun K "piece_start" "piece_start" s_piece_start f fd) (T : Txt K mg) (C_packet_numbers : Cb P w K mg base 2 "packet_numbers" ["b"] (spF K f_packet_numbers)) : FnOk P w K mg base CX0 3 f fd ["piece"] (spF K f_piece_start) := by
  refine fn_ok F sc_piece_start (fun as d h => by obtain ⟨_, rfl, _⟩ := h; rfl) (fun cdv A outer s H E' as d hr h => ?_)
  obtain ⟨ns, rfl, hp, rfl⟩ := h
  refine ⟨_, (pss_one (ps_ret (pe_op op_mul pe_int (pe_ix ix_list (pe_cb C_packet_numbers (hr.mono (by decide)) rfl (pa_cons (pv 0) pa_nil)) (pe_gd rfl T.c_OFFSET) (fun _ _ => rfl))))), ?_⟩
  show Stm K _ [some (.l ns)] _ _
  exact st_ret (EvN.to (Ev.n (ev_mulL ev_int (ev_ix (EvN.ev (cv_packet_numbers ev_var)) ev_glob))) rfl)
def f_packet_body : List D → D → Prop := fun zas zd => ∃ (ns : List Int), zas = [.l ns] ∧ zd = .l (ns.drop 20)
theorem cv_packet_body {K : PySem.W.Frag} {ds : En} {t0 : TE} {ns : List Int} (h0 : Ev K t0 ds (.l ns)) : EvN K (tCall (spF K f_packet_body) [] E0 (tCons t0 tNil)) ds (.l (ns.drop 20)) := evn_call (eva_cons h0 eva_nil) ⟨_, rfl, rfl⟩
theorem ok_packet_body {f : Addr} {fd : FuncData} (F : Fun K "packet_body" "packet_body" s_packet_body f fd) (T : Txt K mg) : FnOk P w K mg base CX0 1 f fd ["b"] (spF K f_packet_body) := by
  refine fn_ok F sc_packet_body (fun as d h => by obtain ⟨_, rfl, _⟩ := h; rfl) (fun cdv A outer s H E' as d hr h => ?_)
  obtain ⟨ns, rfl, rfl⟩ := h
  refine ⟨_, (pss_one (ps_ret (pe_slice sl_list (pv 0) (po_some (pe_gd rfl T.c_HEAD_LENGTH)) po_none))), ?_⟩
  show Stm K _ [some (.l ns)] _ _
  exact st_ret (evn_slA ev_var ev_glob)
def f_piece_end : List D → D → Prop := fun zas zd => ∃ (ns : List Int), zas = [.l ns] ∧ (20 ≤ ns.length) ∧ zd = .int (M.endI ns)
theorem cv_piece_end {K : PySem.W.Frag} {ds : En} {t0 : TE} {ns : List Int} (h0 : Ev K t0 ds (.l ns)) (hp : 20 ≤ ns.length := by first | assumption | rfl | decide | omega | ((try simp only [List.length_append, List.length_cons, List.length_nil, List.length_take, List.length_drop, List.length_map, List.length_replicate, List.length_set, M.ints_length, M.be_length, M.leB_length, M.bytesOf_length, M.tagI_length, M.qhead_length, M.hd1_len, M.packet_length]) <;> omega)) : EvN K (tCall (spF K f_piece_end) [] E0 (tCons t0 tNil)) ds (.int (M.endI ns)) := evn_call (eva_cons h0 eva_nil) ⟨_, rfl, hp, rfl⟩
theorem ok_piece_end {f : Addr} {fd : FuncData} (F : Fun K "piece_end" "piece_end" s_piece_end f fd) (T : Txt K mg) (C_piece_start : Cb P w K mg base 3 "piece_start" ["piece"] (spF K f_piece_start)) (C_packet_body : Cb P w K mg base 1 "packet_body" ["b"] (spF K f_packet_body)) : FnOk P w K mg base CX0 4 f fd ["piece"] (spF K f_piece_end) := by
  refine fn_ok F sc_piece_end (fun as d h => by obtain ⟨_, rfl, _⟩ := h; rfl) (fun cdv A outer s H E' as d hr h => ?_)
  obtain ⟨ns, rfl, hp, rfl⟩ := h
  refine ⟨_, (pss_one (ps_ret (pe_op op_add (pe_cb C_piece_start (hr.mono (by decide)) rfl (pa_cons (pv 0) pa_nil)) (pe_callB call_len_seq (by rfl) T.b_len PySem.boot_len (pa_cons (pe_cb C_packet_body (hr.mono (by decide)) rfl (pa_cons (pv 0) pa_nil)) pa_nil))))), ?_⟩
  show Stm K _ [some (.l ns)] _ _
  exact st_ret (EvN.to (Ev.n (ev_add (EvN.ev (cv_piece_start ev_var)) (ev_len (EvN.ev (cv_packet_body ev_var))))) rfl)
def f_packet_end : List D → D → Prop := fun zas zd => ∃ (nss : List (List Int)), zas = [.ll nss] ∧ ((∀ r ∈ nss, 20 ≤ r.length) ∧ nss.length ≤ 1000 ∧ (nss.map M.lastI).any id = true) ∧ zd = .int (M.pendI nss)
theorem cv_packet_end {K : PySem.W.Frag} {ds : En} {t0 : TE} {nss : List (List Int)} (h0 : Ev K t0 ds (.ll nss)) (hp : (∀ r ∈ nss, 20 ≤ r.length) ∧ nss.length ≤ 1000 ∧ (nss.map M.lastI).any id = true := by first | assumption | rfl | decide | omega | ((try simp only [List.length_append, List.length_cons, List.length_nil, List.length_take, List.length_drop, List.length_map, List.length_replicate, List.length_set, M.ints_length, M.be_length, M.leB_length, M.bytesOf_length, M.tagI_length, M.qhead_length, M.hd1_len, M.packet_length]) <;> omega)) : EvN K (tCall (spF K f_packet_end) [] E0 (tCons t0 tNil)) ds (.int (M.pendI nss)) := evn_call (eva_cons h0 eva_nil) ⟨_, rfl, hp, rfl⟩
theorem ok_packet_end {f : Addr} {fd : FuncData} (F : Fun K "packet_end" "packet_end" s_packet_end f fd) (T : Txt K mg) (C_is_last : Cb P w K mg base 3 "is_last" ["piece"] (spF K f_is_last)) (C_piece_end : Cb P w K mg base 4 "piece_end" ["piece"] (spF K f_piece_end)) : FnOk P w K mg base CX0 5 f fd ["pieces"] (spF K f_packet_end) := by
  refine fn_ok F sc_packet_end (fun as d h => by obtain ⟨_, rfl, _⟩ := h; rfl) (fun cdv A outer s H E' as d hr h => ?_)
  obtain ⟨nss, rfl, hp, rfl⟩ := h
  refine ⟨_, (pss_one (ps_ret (pe_ix ix_list (pe_lc (own := [("piece", 1)]) rfl sc_packet_end.nd (pi_list (pv 0)) (blkOk_by (by show blkC ["pieces", "piece"] (defScope s_packet_end) _ [("piece", 1)] = true; decide +kernel)) (fun _ _ _ _ _ => (pg_name (i := 1) sc_packet_end.nd rfl (Or.inl rfl))) (fun _ _ _ _ _ => by exact (pts_one (pt_truthK (K := K) rfl (pe_cb C_is_last (hr.mono (by decide)) (by rfl) (pa_cons (pv 1) pa_nil)) (fun _ => rfl)))) (fun _ _ _ _ _ => by exact (pe_cb C_piece_end (hr.mono (by decide)) (by rfl) (pa_cons (pv 1) pa_nil)))) pe_int (fun _ _ => rfl)))), ?_⟩
  show Stm K _ [some (.ll nss), none] _ _
  obtain ⟨h1, h2, h3⟩ := hp
  have hn : 0 < ((nss.filter M.lastI).map M.endI).length := by
    rw [List.length_map]
    rw [List.any_map, List.any_eq_true] at h3
    obtain ⟨x, hx, hl⟩ := h3
    exact List.length_pos_of_mem (List.mem_filter.mpr ⟨hx, hl⟩)
  exact st_ret (EvN.to (Ev.n (ev_ixb (EvN.ev (evn_lcF (j := 1) M.lastI M.endI evf_var (fun z hz => evt_truth (EvN.ev (cv_is_last ev_var (h1 z hz)))) (fun z hz _ => EvN.ev (cv_piece_end ev_var (h1 z hz))) (by omega))) ev_int hn)) rfl)
def f_fits_end : List D → D → Prop := fun zas zd => ∃ (ns : List Int) (e : Int), zas = [.l ns, .int e] ∧ (20 ≤ ns.length) ∧ zd = .bl (M.fitsI e ns)
theorem cv_fits_end {K : PySem.W.Frag} {ds : En} {t0 t1 : TE} {ns : List Int} {e : Int} (h0 : Ev K t0 ds (.l ns)) (h1 : Ev K t1 ds (.int e)) (hp : 20 ≤ ns.length := by first | assumption | rfl | decide | omega | ((try simp only [List.length_append, List.length_cons, List.length_nil, List.length_take, List.length_drop, List.length_map, List.length_replicate, List.length_set, M.ints_length, M.be_length, M.leB_length, M.bytesOf_length, M.tagI_length, M.qhead_length, M.hd1_len, M.packet_length]) <;> omega)) : EvN K (tCall (spF K f_fits_end) [] E0 (tCons t0 (tCons t1 tNil))) ds (.bl (M.fitsI e ns)) := evn_call (eva_cons h0 (eva_cons h1 eva_nil)) ⟨_, _, rfl, hp, rfl⟩
theorem ok_fits_end {f : Addr} {fd : FuncData} (F : Fun K "fits_end" "fits_end" s_fits_end f fd) (T : Txt K mg) (C_is_last : Cb P w K mg base 3 "is_last" ["piece"] (spF K f_is_last)) (C_piece_end : Cb P w K mg base 4 "piece_end" ["piece"] (spF K f_piece_end)) : FnOk P w K mg base CX0 5 f fd ["piece", "end"] (spF K f_fits_end) := by
  refine fn_ok F sc_fits_end (fun as d h => by obtain ⟨_, _, rfl, _⟩ := h; rfl) (fun cdv A outer s H E' as d hr h => ?_)
  obtain ⟨ns, e, rfl, hp, rfl⟩ := h
  refine ⟨_, (pss_cons (ps_if (pt_truth (pe_cb C_is_last (hr.mono (by decide)) rfl (pa_cons (pv 0) pa_nil)) (fun _ => rfl)) (pss_one (ps_ret (pe_cmpR op_eq (pe_cb C_piece_end (hr.mono (by decide)) rfl (pa_cons (pv 0) pa_nil)) (pv 1) (nomark _)))) pss_nil) (pss_one (ps_ret (pe_cmpR op_le (pe_cb C_piece_end (hr.mono (by decide)) rfl (pa_cons (pv 0) pa_nil)) (pv 1) (nomark _))))), ?_⟩
  show Stm K _ [some (.l ns), some (.int e)] _ _
  unfold M.fitsI
  refine st_guard (evt_truth (EvN.ev (cv_is_last ev_var))) (fun h1 => ?_) (fun h1 => ?_)
  · rw [if_pos h1]
    exact st_ret (Ev.n (ev_eq (EvN.ev (cv_piece_end ev_var)) ev_var))
  · rw [if_neg (by rw [h1]; exact Bool.false_ne_true)]
    exact st_ret (Ev.n (ev_le (EvN.ev (cv_piece_end ev_var)) ev_var))
def f_filled_places : List D → D → Prop := fun zas zd => ∃ (nss : List (List Int)), zas = [.ll nss] ∧ (((∀ r ∈ nss, 20 ≤ r.length) ∧ nss.length ≤ 1000 ∧ (nss.map M.lastI).any id = true) ∧ (∀ r ∈ nss, M.endI r ≤ M.pendI nss) ∧ M.pendI nss ≤ 1000000) ∧ zd = .l (M.fillI (M.pendI nss).toNat nss)
theorem cv_filled_places {K : PySem.W.Frag} {ds : En} {t0 : TE} {nss : List (List Int)} (h0 : Ev K t0 ds (.ll nss)) (hp : ((∀ r ∈ nss, 20 ≤ r.length) ∧ nss.length ≤ 1000 ∧ (nss.map M.lastI).any id = true) ∧ (∀ r ∈ nss, M.endI r ≤ M.pendI nss) ∧ M.pendI nss ≤ 1000000 := by first | assumption | rfl | decide | omega | ((try simp only [List.length_append, List.length_cons, List.length_nil, List.length_take, List.length_drop, List.length_map, List.length_replicate, List.length_set, M.ints_length, M.be_length, M.leB_length, M.bytesOf_length, M.tagI_length, M.qhead_length, M.hd1_len, M.packet_length]) <;> omega)) : EvN K (tCall (spF K f_filled_places) [] E0 (tCons t0 tNil)) ds (.l (M.fillI (M.pendI nss).toNat nss)) := evn_call (eva_cons h0 eva_nil) ⟨_, rfl, hp, rfl⟩
theorem ok_filled_places {f : Addr} {fd : FuncData} (F : Fun K "filled_places" "filled_places" s_filled_places f fd) (T : Txt K mg) (C_packet_end : Cb P w K mg base 5 "packet_end" ["pieces"] (spF K f_packet_end)) (C_piece_start : Cb P w K mg base 3 "piece_start" ["piece"] (spF K f_piece_start)) (C_packet_body : Cb P w K mg base 1 "packet_body" ["b"] (spF K f_packet_body)) : FnOk P w K mg base CX0 6 f fd ["pieces"] (spF K f_filled_places) := by
  refine fn_ok F sc_filled_places (fun as d h => by obtain ⟨_, rfl, _⟩ := h; rfl) (fun cdv A outer s H E' as d hr h => ?_)
  obtain ⟨nss, rfl, hp, rfl⟩ := h
  refine ⟨_, (pss_cons (ps_set (i := 1) sc_filled_places.nd rfl (by first | exact Or.inl rfl | exact Or.inr rfl) (pe_op op_rep (pe_lst (pa_cons (pe_gd rfl T.c_NO_BYTE) pa_nil)) (pe_cb C_packet_end (hr.mono (by decide)) rfl (pa_cons (pv 0) pa_nil)))) (pss_cons (ps_for PassesOwn.never rfl (pi_list (pv 0)) (pg_name (i := 2) sc_filled_places.nd rfl (by first | exact Or.inl rfl | exact Or.inr rfl)) (pss_cons (ps_set (i := 3) sc_filled_places.nd rfl (by first | exact Or.inl rfl | exact Or.inr rfl) (pe_cb C_piece_start (hr.mono (by decide)) rfl (pa_cons (pv 2) pa_nil))) (pss_one (ps_for PassesOwn.never rfl (pi_enum rfl T.b_enumerate (pa_cons (pe_cb C_packet_body (hr.mono (by decide)) rfl (pa_cons (pv 2) pa_nil)) pa_nil)) (pg_tup rfl (pgs_cons (pg_name (i := 4) sc_filled_places.nd rfl (by first | exact Or.inl rfl | exact Or.inr rfl)) (pgs_cons (pg_name (i := 5) sc_filled_places.nd rfl (by first | exact Or.inl rfl | exact Or.inr rfl)) pgs_nil))) (pss_one (ps_asg (pv 5) (pg_sub (pv 1) (pe_op op_add (pv 3) (pv 4)) set_list))))))) (pss_one (ps_ret (pv 1))))), ?_⟩
  show Stm K _ [some (.ll nss), none, none, none, none, none] _ _
  obtain ⟨h1, h2, h3⟩ := hp
  have hs0 : ∀ r : List Int, 0 ≤ M.startI r := fun r => by
    show 0 ≤ 8 * (M.numI ((r.drop 6).take 2) % 8192)
    omega
  have he : ∀ r ∈ nss, (M.startI r).toNat + (r.drop 20).length ≤ (M.pendI nss).toNat := fun r hr => by
    have a1 := h2 r hr
    have a2 := hs0 r
    have a3 : M.endI r = M.startI r + ((r.drop 20).length : Int) := rfl
    omega
  have hp0 : 0 ≤ M.pendI nss := by
    obtain ⟨_, _, h4⟩ := h1
    rw [List.any_map, List.any_eq_true] at h4
    obtain ⟨x, hx, _⟩ := h4
    have a1 := h2 x hx
    have a2 := hs0 x
    have a3 : M.endI x = M.startI x + ((x.drop 20).length : Int) := rfl
    omega
  refine st_then (st_own (evn_rep (evn_lst (evi_cons ev_glob evi_nil)) (EvN.ev (cv_packet_end ev_var h1)) (by omega) (by omega))) ?_
  generalize hE : (M.pendI nss).toNat = E0 at he
  refine st_seq (st_forll (fun i => [none, some (.own (M.fillI E0 (nss.take i))), none, none, none, none]) (fun _ => True) evf_var (by exact ⟨trivial, rfl, trivial⟩) (fun i z hz _ => ?_)) (fun ds1 h5 => ?_)
  · have hzm := List.mem_of_getElem? hz
    have hz20 := h1.1 z hzm
    have hze := he z hzm
    have hzs := hs0 z
    have hfl : (M.fillI E0 (nss.take i)).length = E0 := M.fillI_length E0 _ fun r hr => he r (List.mem_of_mem_take hr)
    refine st_then (st_set (Ev.f (EvN.ev (cv_piece_start ev_var)))) ?_
    refine st_seq (st_enum (ns := z.drop 20) (fun k => [none, some (.own (M.putL (M.fillI E0 (nss.take i)) (M.startI z).toNat ((z.drop 20).take k))), none, some (.int (M.startI z)), none, none]) (fun _ => True) (EvN.f (cv_packet_body ev_var)) (by exact ⟨trivial, congrArg D.own (by rw [List.take_zero, M.putL_nil]), rfl, trivial⟩) (fun k y hy _ => ?_)) (fun ds2 h6 => ?_)
    · have hkl : k < (z.drop 20).length := (List.getElem?_eq_some_iff.mp hy).1
      have hpl : (M.putL (M.fillI E0 (nss.take i)) (M.startI z).toNat ((z.drop 20).take k)).length = E0 := (M.putL_length (by rw [hfl, List.length_take]; omega)).trans hfl
      refine st_mono (st_setitem rfl ev_var (ev_add ev_var ev_var) (by omega) (by rw [hpl]; omega)) (fun x hx => hx ▸ ⟨trivial, congrArg D.own ?_, rfl, trivial⟩)
      rw [M.putL_snoc (by rw [hfl]; exact hze) hy, show (M.startI z + (k : Int)).toNat = (M.startI z).toNat + k by omega]
    · obtain ⟨_, rfl⟩ := h6
      rw [List.take_length, ← M.fillI_snoc, ← M.take_snoc hz]
      exact st_next ⟨trivial, rfl, trivial⟩
  · obtain ⟨_, rfl⟩ := h5
    rw [List.take_length]
    exact st_retOwn
def f_lies_in : List D → D → Prop := fun zas zd => ∃ (ns ps : List Int), zas = [.l ns, .l ps] ∧ (20 ≤ ns.length) ∧ zd = .bl (decide ((ps.drop (M.startI ns).toNat).take ((M.endI ns).toNat - (M.startI ns).toNat) = ns.drop 20))
theorem cv_lies_in {K : PySem.W.Frag} {ds : En} {t0 t1 : TE} {ns ps : List Int} (h0 : Ev K t0 ds (.l ns)) (h1 : Ev K t1 ds (.l ps)) (hp : 20 ≤ ns.length := by first | assumption | rfl | decide | omega | ((try simp only [List.length_append, List.length_cons, List.length_nil, List.length_take, List.length_drop, List.length_map, List.length_replicate, List.length_set, M.ints_length, M.be_length, M.leB_length, M.bytesOf_length, M.tagI_length, M.qhead_length, M.hd1_len, M.packet_length]) <;> omega)) : EvN K (tCall (spF K f_lies_in) [] E0 (tCons t0 (tCons t1 tNil))) ds (.bl (decide ((ps.drop (M.startI ns).toNat).take ((M.endI ns).toNat - (M.startI ns).toNat) = ns.drop 20))) := evn_call (eva_cons h0 (eva_cons h1 eva_nil)) ⟨_, _, rfl, hp, rfl⟩
theorem ok_lies_in {f : Addr} {fd : FuncData} (F : Fun K "lies_in" "lies_in" s_lies_in f fd) (T : Txt K mg) (C_piece_start : Cb P w K mg base 3 "piece_start" ["piece"] (spF K f_piece_start)) (C_piece_end : Cb P w K mg base 4 "piece_end" ["piece"] (spF K f_piece_end)) (C_packet_body : Cb P w K mg base 1 "packet_body" ["b"] (spF K f_packet_body)) : FnOk P w K mg base CX0 5 f fd ["piece", "places"] (spF K f_lies_in) := by
  refine fn_ok F sc_lies_in (fun as d h => by obtain ⟨_, _, rfl, _⟩ := h; rfl) (fun cdv A outer s H E' as d hr h => ?_)
  obtain ⟨ns, ps, rfl, hp, rfl⟩ := h
  refine ⟨_, (pss_one (ps_ret (pe_cmpR (op_eqD hr.units) (pe_slice sl_list (pv 1) (po_some (pe_cb C_piece_start (hr.mono (by decide)) rfl (pa_cons (pv 0) pa_nil))) (po_some (pe_cb C_piece_end (hr.mono (by decide)) rfl (pa_cons (pv 0) pa_nil)))) (pe_cb C_packet_body (hr.mono (by decide)) rfl (pa_cons (pv 0) pa_nil)) (nomark _)))), ?_⟩
  show Stm K _ [some (.l ns), some (.l ps)] _ _
  have hs : 0 ≤ M.startI ns := by
    show 0 ≤ 8 * (M.numI ((ns.drop 6).take 2) % 8192)
    omega
  have he : 0 ≤ M.endI ns := by
    show 0 ≤ M.startI ns + ((ns.drop 20).length : Int)
    omega
  exact st_ret (EvN.to (Ev.n (ev_eqL (EvN.ev (evn_sl ev_var (EvN.ev (cv_piece_start ev_var)) (EvN.ev (cv_piece_end ev_var)))) (EvN.ev (cv_packet_body ev_var)))) rfl)
def f_pieces_refusal : List D → D → Prop := fun zas zd => ∃ (nss : List (List Int)), zas = [.ll nss] ∧ zd = .int (M.jcode nss)
theorem cv_pieces_refusal {K : PySem.W.Frag} {ds : En} {t0 : TE} {nss : List (List Int)} (h0 : Ev K t0 ds (.ll nss)) : EvN K (tCall (spF K f_pieces_refusal) [] E0 (tCons t0 tNil)) ds (.int (M.jcode nss)) := evn_call (eva_cons h0 eva_nil) ⟨_, rfl, rfl⟩
theorem ok_pieces_refusal {f : Addr} {fd : FuncData} (F : Fun K "pieces_refusal" "pieces_refusal" s_pieces_refusal f fd) (T : Txt K mg) (C_packet_refusal : Cb P w K mg base 3 "packet_refusal" ["b"] (spF K f_packet_refusal)) (C_shared_numbers : Cb P w K mg base 3 "shared_numbers" ["piece"] (spF K f_shared_numbers)) (C_is_last : Cb P w K mg base 3 "is_last" ["piece"] (spF K f_is_last)) (C_packet_end : Cb P w K mg base 5 "packet_end" ["pieces"] (spF K f_packet_end)) (C_fits_end : Cb P w K mg base 5 "fits_end" ["piece", "end"] (spF K f_fits_end)) (C_filled_places : Cb P w K mg base 6 "filled_places" ["pieces"] (spF K f_filled_places)) (C_lies_in : Cb P w K mg base 5 "lies_in" ["piece", "places"] (spF K f_lies_in)) : FnOk P w K mg base CX0 7 f fd ["pieces"] (spF K f_pieces_refusal) := by
  refine fn_ok F sc_pieces_refusal (fun as d h => by obtain ⟨_, rfl, _⟩ := h; rfl) (fun cdv A outer s H E' as d hr h => ?_)
  obtain ⟨nss, rfl, rfl⟩ := h
  refine ⟨_, (pss_cons (ps_if (pt_cmpR op_eq (pe_callB call_len_seq (by rfl) T.b_len PySem.boot_len (pa_cons (pv 0) pa_nil)) pe_int (nomark _)) (pss_one (ps_ret (pe_un un_neg pe_int))) pss_nil) (pss_cons (ps_if (pt_cmpR op_gt (pe_callB call_len_seq (by rfl) T.b_len PySem.boot_len (pa_cons (pv 0) pa_nil)) (pe_gd rfl T.c_MOST_PIECES) (nomark _)) (pss_one (ps_ret (pe_un un_neg pe_int))) pss_nil) (pss_cons (ps_if (pt_not (pt_truth (pe_callB (cr_all rfl) (by rfl) T.b_all boot_all5 (pa_cons (pe_lc (own := [("piece", 3)]) rfl sc_pieces_refusal.nd (pi_list (pv 0)) (blkOk_by (by show blkC ["pieces", "end", "places", "piece"] (defScope s_pieces_refusal) _ [("piece", 3)] = true; decide +kernel)) (fun _ _ _ _ _ => (pg_name (i := 3) sc_pieces_refusal.nd rfl (Or.inl rfl))) (fun _ _ _ _ _ => by exact pts_nil) (fun _ _ _ _ _ => by exact (pe_cmpR op_eq (pe_cb C_packet_refusal (hr.mono (by decide)) (by rfl) (pa_cons (pv 3) pa_nil)) pe_int (nomark _)))) pa_nil)) (fun _ => rfl))) (pss_one (ps_ret (pe_un un_neg pe_int))) pss_nil) (pss_cons (ps_if (pt_not (pt_truth (pe_callB (cr_all rfl) (by rfl) T.b_all boot_all5 (pa_cons (pe_lc (own := [("piece", 3)]) rfl sc_pieces_refusal.nd (pi_list (pv 0)) (blkOk_by (by show blkC ["pieces", "end", "places", "piece"] (defScope s_pieces_refusal) _ [("piece", 3)] = true; decide +kernel)) (fun _ _ _ _ _ => (pg_name (i := 3) sc_pieces_refusal.nd rfl (Or.inl rfl))) (fun _ _ _ _ _ => by exact pts_nil) (fun _ _ _ _ _ => by exact (pe_cmpR (op_eqDK (K := K) rfl hr.units) (pe_cb C_shared_numbers (hr.mono (by decide)) (by rfl) (pa_cons (pv 3) pa_nil)) (pe_cb C_shared_numbers (hr.mono (by decide)) (by rfl) (pa_cons (pe_ix (ix_listK (K := K) rfl) (pv 0) pe_int (fun _ _ => rfl)) pa_nil)) (nomark _)))) pa_nil)) (fun _ => rfl))) (pss_one (ps_ret (pe_un un_neg pe_int))) pss_nil) (pss_cons (ps_if (pt_not (pt_truth (pe_callB (cr_any rfl) (by rfl) T.b_any boot_any5 (pa_cons (pe_lc (own := [("piece", 3)]) rfl sc_pieces_refusal.nd (pi_list (pv 0)) (blkOk_by (by show blkC ["pieces", "end", "places", "piece"] (defScope s_pieces_refusal) _ [("piece", 3)] = true; decide +kernel)) (fun _ _ _ _ _ => (pg_name (i := 3) sc_pieces_refusal.nd rfl (Or.inl rfl))) (fun _ _ _ _ _ => by exact pts_nil) (fun _ _ _ _ _ => by exact (pe_cb C_is_last (hr.mono (by decide)) (by rfl) (pa_cons (pv 3) pa_nil)))) pa_nil)) (fun _ => rfl))) (pss_one (ps_ret (pe_un un_neg pe_int))) pss_nil) (pss_cons (ps_set (i := 1) sc_pieces_refusal.nd rfl (by first | exact Or.inl rfl | exact Or.inr rfl) (pe_cb C_packet_end (hr.mono (by decide)) rfl (pa_cons (pv 0) pa_nil))) (pss_cons (ps_if (pt_not (pt_truth (pe_callB (cr_all rfl) (by rfl) T.b_all boot_all5 (pa_cons (pe_lc (own := [("piece", 3)]) rfl sc_pieces_refusal.nd (pi_list (pv 0)) (blkOk_by (by show blkC ["pieces", "end", "places", "piece"] (defScope s_pieces_refusal) _ [("piece", 3)] = true; decide +kernel)) (fun _ _ _ _ _ => (pg_name (i := 3) sc_pieces_refusal.nd rfl (Or.inl rfl))) (fun _ _ _ _ _ => by exact pts_nil) (fun _ _ _ _ _ => by exact (pe_cb C_fits_end (hr.mono (by decide)) (by rfl) (pa_cons (pv 3) (pa_cons (pv 1) pa_nil))))) pa_nil)) (fun _ => rfl))) (pss_one (ps_ret (pe_un un_neg pe_int))) pss_nil) (pss_cons (ps_set (i := 2) sc_pieces_refusal.nd rfl (by first | exact Or.inl rfl | exact Or.inr rfl) (pe_cb C_filled_places (hr.mono (by decide)) rfl (pa_cons (pv 0) pa_nil))) (pss_cons (ps_if (pt_not (pt_truth (pe_callB (cr_all rfl) (by rfl) T.b_all boot_all5 (pa_cons (pe_lc (own := [("piece", 3)]) rfl sc_pieces_refusal.nd (pi_list (pv 0)) (blkOk_by (by show blkC ["pieces", "end", "places", "piece"] (defScope s_pieces_refusal) _ [("piece", 3)] = true; decide +kernel)) (fun _ _ _ _ _ => (pg_name (i := 3) sc_pieces_refusal.nd rfl (Or.inl rfl))) (fun _ _ _ _ _ => by exact pts_nil) (fun _ _ _ _ _ => by exact (pe_cb C_lies_in (hr.mono (by decide)) (by rfl) (pa_cons (pv 3) (pa_cons (pv 2) pa_nil))))) pa_nil)) (fun _ => rfl))) (pss_one (ps_ret (pe_un un_neg pe_int))) pss_nil) (pss_cons (ps_if (pt_cmpR op_in_seq (pe_gd rfl T.c_NO_BYTE) (pv 2) (by with_unfolding_all rfl)) (pss_one (ps_ret (pe_un un_neg pe_int))) pss_nil) (pss_one (ps_ret pe_int)))))))))))), ?_⟩
  show Stm K _ [some (.ll nss), none, none, none] _ _
  unfold M.jcode
  refine st_guard (evt_cmp (ev_eq (ev_lenll ev_var) ev_int)) (fun h1 => ?_) (fun h1 => ?_)
  · rw [decide_eq_true_eq] at h1
    rw [if_pos (List.length_eq_zero_iff.mp (by omega))]
    exact st_ret (Ev.n (ev_neg ev_int))
  · rw [decide_eq_false_iff_not] at h1
    have hne : nss ≠ [] := fun z => h1 (by rw [z]; rfl)
    rw [if_neg hne]
    refine st_guard (evt_cmp (ev_gt (ev_lenll ev_var) ev_glob)) (fun h2 => ?_) (fun h2 => ?_)
    · rw [decide_eq_true_eq] at h2
      unfold Vbcnaa.join
      rw [if_pos (.inr (by rw [List.length_map]; omega))]
      exact st_ret (EvN.to (Ev.n (ev_neg ev_int)) rfl)
    · rw [decide_eq_false_iff_not] at h2
      have hp1 : nss.length ≤ 1000 := by omega
      have hle : (nss.map Vbcnaa.bytesOf).length ≤ 256 := by rw [List.length_map]; omega
      have hne2 : nss.map Vbcnaa.bytesOf ≠ [] := fun z => hne (List.map_eq_nil_iff.mp z)
      refine st_guard (evt_not (evt_truth (ev_all (evn_lcB (j := 3) (fun r => decide (M.code (Vbcnaa.readPacket (Vbcnaa.bytesOf r)) = 0)) evf_var (fun z hz => ev_eq (EvN.ev (cv_packet_refusal ev_var)) ev_int) (by omega))))) (fun h3 => ?_) (fun h3 => ?_)
      · rw [Bool.not_eq_true', List.all_map] at h3
        have hx : ∃ r, r ∈ nss ∧ M.code (Vbcnaa.readPacket (Vbcnaa.bytesOf r)) ≠ 0 := by
          refine Classical.byContradiction fun hc => ?_
          have : nss.all (id ∘ fun r => decide (M.code (Vbcnaa.readPacket (Vbcnaa.bytesOf r)) = 0)) = true := by
            rw [List.all_eq_true]
            intro r hr
            show decide _ = true
            rw [decide_eq_true_eq]
            exact Classical.byContradiction fun q => hc ⟨r, hr, q⟩
          rw [this] at h3
          cases h3
        obtain ⟨r, hr, hc⟩ := hx
        unfold Vbcnaa.join
        rw [if_neg (by intro z; rcases z with z | z; exact hne2 z; omega), M.allRead_none hr hc]
        exact st_ret (EvN.to (Ev.n (ev_neg ev_int)) rfl)
      · rw [Bool.not_eq_false', List.all_map, List.all_eq_true] at h3
        obtain ⟨bss, rfl, hbs, har⟩ := M.allRead_ok (l := nss) fun r hr => of_decide_eq_true (h3 r hr)
        cases bss with
        | nil => exact absurd rfl hne
        | cons b0 bss =>
        have hb20 : ∀ r ∈ (b0 :: bss).map Vbcnaa.ints, 20 ≤ r.length := fun r hr => by
          obtain ⟨b, hb, rfl⟩ := List.mem_map.mp hr
          rw [M.ints_length]
          exact (hbs b hb).2.1
        rw [M.join_code hne2 hle har]
        have h0 : ((b0 :: bss).map Vbcnaa.ints)[(0 : Int).toNat]? = some (Vbcnaa.ints b0) := rfl
        refine st_guard (evt_not (evt_truth (ev_all (evn_lcB (j := 3) (fun r => decide (M.sharedI r = M.sharedI (Vbcnaa.ints b0))) evf_var (fun z hz => ev_eqL (EvN.ev (cv_shared_numbers ev_var (hb20 z hz))) (EvN.ev (cv_shared_numbers (ev_ixll ev_var ev_int h0) (hb20 _ (by simp))))) (by omega))))) (fun h4 => ?_) (fun h4 => ?_)
        · rw [Bool.not_eq_true'] at h4
          rw [if_pos (M.alike_all b0 bss h4)]
          exact st_ret (Ev.n (ev_neg ev_int))
        · rw [Bool.not_eq_false'] at h4
          rw [if_neg (by rw [M.alike_all' b0 bss h4]; decide)]
          have hfn := M.find_none (bss := b0 :: bss)
          refine st_guard (evt_not (evt_truth (ev_any (evn_lcB (j := 3) M.lastI evf_var (fun z hz => EvN.ev (cv_is_last ev_var (hb20 z hz))) (by omega))))) (fun h5 => ?_) (fun h5 => ?_)
          · rw [Bool.not_eq_true', hfn] at h5
            rw [show (M.packetOf b0 :: bss.map M.packetOf) = (b0 :: bss).map M.packetOf from rfl]
            cases ef : ((b0 :: bss).map M.packetOf).find? (fun q => q.more == 0) with
            | some z =>
              rw [ef] at h5
              cases h5
            | none => exact st_ret (Ev.n (ev_neg ev_int))
          · rw [Bool.not_eq_false'] at h5
            rw [show (M.packetOf b0 :: bss.map M.packetOf) = (b0 :: bss).map M.packetOf from rfl]
            have h5' := h5
            rw [hfn] at h5'
            cases ef : ((b0 :: bss).map M.packetOf).find? (fun q => q.more == 0) with
            | none =>
              rw [ef] at h5'
              cases h5'
            | some z =>
            simp only []
            have hpe := M.find_pend ef
            have hpend : (∀ r ∈ (b0 :: bss).map Vbcnaa.ints, 20 ≤ r.length) ∧ ((b0 :: bss).map Vbcnaa.ints).length ≤ 1000 ∧ (((b0 :: bss).map Vbcnaa.ints).map M.lastI).any id = true := ⟨hb20, hp1, h5⟩
            refine st_then (st_set (Ev.f (EvN.ev (cv_packet_end ev_var hpend)))) ?_
            refine st_guard (evt_not (evt_truth (ev_all (evn_lcB (j := 3) (M.fitsI (M.pendI ((b0 :: bss).map Vbcnaa.ints))) evf_var (fun z hz => EvN.ev (cv_fits_end ev_var ev_var (hb20 z hz))) (by omega))))) (fun h6 => ?_) (fun h6 => ?_)
            · rw [Bool.not_eq_true', hpe, M.fits_all] at h6
              rw [if_pos (by cases q : ((b0 :: bss).map M.packetOf).any (fun q => decide (Vbcnaa.endOf z < Vbcnaa.endOf q) || (q.more == 0 && Vbcnaa.endOf q != Vbcnaa.endOf z)) with | true => rfl | false => rw [q] at h6; cases h6)]
              exact st_ret (Ev.n (ev_neg ev_int))
            · rw [Bool.not_eq_false', hpe, M.fits_all, Bool.not_eq_true'] at h6
              rw [if_neg (by rw [h6]; decide)]
              have hends : ∀ q ∈ (b0 :: bss).map M.packetOf, Vbcnaa.endOf q ≤ Vbcnaa.endOf z := fun q hq => by
                have := List.any_eq_false.mp h6 q hq
                rw [Bool.not_eq_true, Bool.or_eq_false_iff, decide_eq_false_iff_not] at this
                omega
              have hzm : z ∈ (b0 :: bss).map M.packetOf := List.mem_of_find?_eq_some ef
              have hz8 : Vbcnaa.endOf z ≤ 1000000 := by
                obtain ⟨b, hb, rfl⟩ := List.mem_map.mp hzm
                obtain ⟨c1, c2, c3, _⟩ := hbs b hb
                have := M.field_lt c1 6 2
                show 8 * (Vbcnaa.field b 6 2 % 8192) + (b.drop 20).length ≤ 1000000
                rw [List.length_drop]
                omega
              have hbytes : ∀ q ∈ (b0 :: bss).map M.packetOf, ∀ x ∈ q.body, x < 256 := fun q hq x hx => by
                obtain ⟨b, hb, rfl⟩ := List.mem_map.mp hq
                exact (hbs b hb).1 x (List.mem_of_mem_drop hx)
              have hfp : ((∀ r ∈ (b0 :: bss).map Vbcnaa.ints, 20 ≤ r.length) ∧ ((b0 :: bss).map Vbcnaa.ints).length ≤ 1000 ∧ (((b0 :: bss).map Vbcnaa.ints).map M.lastI).any id = true) ∧ (∀ r ∈ (b0 :: bss).map Vbcnaa.ints, M.endI r ≤ M.pendI ((b0 :: bss).map Vbcnaa.ints)) ∧ M.pendI ((b0 :: bss).map Vbcnaa.ints) ≤ 1000000 := by
                refine ⟨hpend, fun r hr => ?_, by rw [hpe]; omega⟩
                obtain ⟨b, hb, rfl⟩ := List.mem_map.mp hr
                rw [hpe, M.end_ints]
                have := hends (M.packetOf b) (List.mem_map.mpr ⟨b, hb, rfl⟩)
                omega
              refine st_then (st_set (EvN.f (cv_filled_places ev_var hfp))) ?_
              rw [hpe, Int.toNat_natCast, M.fill_ints]
              refine st_guard (evt_not (evt_truth (ev_all (evn_lcB (j := 3) (fun r => decide (((Vbcnaa.ints (M.fillN (Vbcnaa.endOf z) ((b0 :: bss).map M.packetOf))).drop (M.startI r).toNat).take ((M.endI r).toNat - (M.startI r).toNat) = r.drop 20)) evf_var (fun y hy => EvN.ev (cv_lies_in ev_var ev_var (hb20 y hy))) (by omega))))) (fun h7 => ?_) (fun h7 => ?_)
              · rw [Bool.not_eq_true'] at h7
                rw [if_pos (M.any_none.mpr fun hall => by
                  have := (M.lies_all hends).mpr ((M.lies_iff hends).mpr hall)
                  rw [this] at h7
                  cases h7)]
                exact st_ret (Ev.n (ev_neg ev_int))
              · rw [Bool.not_eq_false'] at h7
                have hall := (M.lies_iff hends).mp ((M.lies_all hends).mp h7)
                rw [if_neg (fun q => M.any_none.mp q hall)]
                have hh := M.hole_iff hends hbytes hall
                refine st_guard (evt_cmp (ev_inL ev_glob ev_var)) (fun h8 => ?_) (fun h8 => ?_)
                · rw [if_pos (M.any_hole.mpr (hh.mp (M.any256.mp h8)))]
                  exact st_ret (Ev.n (ev_neg ev_int))
                · rw [if_neg (fun q => by rw [M.any256.mpr (hh.mpr (M.any_hole.mp q))] at h8; cases h8)]
                  exact st_ret (Ev.n ev_int)
def f_behind_length : List D → D → Prop := fun zas zd => ∃ (ns : List Int), zas = [.l ns] ∧ (ns.length ≤ 1000000) ∧ zd = .l ((ns.length : Int) :: ns)
theorem cv_behind_length {K : PySem.W.Frag} {ds : En} {t0 : TE} {ns : List Int} (h0 : Ev K t0 ds (.l ns)) (hp : ns.length ≤ 1000000 := by first | assumption | rfl | decide | omega | ((try simp only [List.length_append, List.length_cons, List.length_nil, List.length_take, List.length_drop, List.length_map, List.length_replicate, List.length_set, M.ints_length, M.be_length, M.leB_length, M.bytesOf_length, M.tagI_length, M.qhead_length, M.hd1_len, M.packet_length]) <;> omega)) : EvN K (tCall (spF K f_behind_length) [] E0 (tCons t0 tNil)) ds (.l ((ns.length : Int) :: ns)) := evn_call (eva_cons h0 eva_nil) ⟨_, rfl, hp, rfl⟩
theorem ok_behind_length {f : Addr} {fd : FuncData} (F : Fun K "behind_length" "behind_length" s_behind_length f fd) (T : Txt K mg) : FnOk P w K mg base CX0 1 f fd ["row"] (spF K f_behind_length) := by
  refine fn_ok F sc_behind_length (fun as d h => by obtain ⟨_, rfl, _⟩ := h; rfl) (fun cdv A outer s H E' as d hr h => ?_)
  obtain ⟨ns, rfl, hp, rfl⟩ := h
  refine ⟨_, (pss_one (ps_ret (pe_op op_catS (pe_lst (pa_cons (pe_callB call_len_seq (by rfl) T.b_len PySem.boot_len (pa_cons (pv 0) pa_nil)) pa_nil)) (pv 0)))), ?_⟩
  show Stm K _ [some (.l ns)] _ _
  exact st_ret (evn_cat (EvN.ev (evn_lst (evi_cons (ev_len ev_var) evi_nil))) ev_var (by (try simp only [List.length_append, List.length_cons, List.length_nil, List.length_take, List.length_drop, List.length_map, List.length_replicate, List.length_set, M.ints_length, M.be_length, M.leB_length, M.bytesOf_length, M.tagI_length, M.qhead_length, M.hd1_len, M.packet_length]) <;> omega))
def f_in_bytes_lowest_first : List D → D → Prop := fun zas zd => ∃ (n k : Int), zas = [.int n, .int k] ∧ (0 ≤ n ∧ 0 ≤ k ∧ k ≤ 1000) ∧ zd = .l (Vbcnaa.ints (M.leB k.toNat n.toNat))
theorem cv_in_bytes_lowest_first {K : PySem.W.Frag} {ds : En} {t0 t1 : TE} {n k : Int} (h0 : Ev K t0 ds (.int n)) (h1 : Ev K t1 ds (.int k)) (hp : 0 ≤ n ∧ 0 ≤ k ∧ k ≤ 1000 := by first | assumption | rfl | decide | omega | ((try simp only [List.length_append, List.length_cons, List.length_nil, List.length_take, List.length_drop, List.length_map, List.length_replicate, List.length_set, M.ints_length, M.be_length, M.leB_length, M.bytesOf_length, M.tagI_length, M.qhead_length, M.hd1_len, M.packet_length]) <;> omega)) : EvN K (tCall (spF K f_in_bytes_lowest_first) [] E0 (tCons t0 (tCons t1 tNil))) ds (.l (Vbcnaa.ints (M.leB k.toNat n.toNat))) := evn_call (eva_cons h0 (eva_cons h1 eva_nil)) ⟨_, _, rfl, hp, rfl⟩
theorem ok_in_bytes_lowest_first {f : Addr} {fd : FuncData} (F : Fun K "in_bytes_lowest_first" "in_bytes_lowest_first" s_in_bytes_lowest_first f fd) (T : Txt K mg) : FnOk P w K mg base CX0 1 f fd ["number", "count"] (spF K f_in_bytes_lowest_first) := by
  refine fn_ok F sc_in_bytes_lowest_first (fun as d h => by obtain ⟨_, _, rfl, _⟩ := h; rfl) (fun cdv A outer s H E' as d hr h => ?_)
  obtain ⟨n, k, rfl, hp, rfl⟩ := h
  refine ⟨_, (pss_cons (ps_set (i := 2) sc_in_bytes_lowest_first.nd rfl (by first | exact Or.inl rfl | exact Or.inr rfl) (pe_lst pa_nil)) (pss_cons (ps_set (i := 3) sc_in_bytes_lowest_first.nd rfl (by first | exact Or.inl rfl | exact Or.inr rfl) (pv 0)) (pss_cons (ps_for PassesOwn.never rfl (pi_range1 rfl T.b_range (pa_cons (pv 1) pa_nil)) (pg_name (i := 4) sc_in_bytes_lowest_first.nd rfl (by first | exact Or.inl rfl | exact Or.inr rfl)) (pss_cons (ps_expr (pe_bm PySem.F.plainAttrs_list PySem.F.slot_list_append PySem.F.type_list_append mt_append (pv 2) (pa_cons (pe_op op_mod (pv 3) pe_int) pa_nil))) (pss_one (ps_set (i := 3) sc_in_bytes_lowest_first.nd rfl (by first | exact Or.inl rfl | exact Or.inr rfl) (pe_op op_fdiv (pv 3) pe_int))))) (pss_one (ps_ret (pv 2)))))), ?_⟩
  show Stm K _ [some (.int n), some (.int k), none, none, none] _ _
  obtain ⟨hp1, hp2, hp3⟩ := hp
  refine st_then (st_own (evn_lst evi_nil)) ?_
  refine st_then (st_set evf_var) ?_
  refine st_seq (st_range (fun i => [some (.int n), some (.int k), some (.own (Vbcnaa.ints (M.leB i n.toNat))), some (.int ((n.toNat / 256 ^ i : Nat) : Int)), none]) (fun _ => True) ev_var (by omega) (by omega) ⟨trivial, rfl, rfl, rfl, congrArg D.int (by rw [Nat.pow_zero, Nat.div_one]; omega), trivial⟩ (fun i hi _ => ?_)) (fun ds1 h3 => ?_)
  · refine st_then (st_append rfl (ev_mod ev_var ev_int) (by rw [M.ints_length, M.leB_length]; omega)) ?_
    refine st_mono (st_set (Ev.f (ev_fdiv ev_var ev_int))) (fun _ e => e ▸ ⟨trivial, rfl, rfl, congrArg D.own ?_, congrArg D.int ?_, trivial⟩)
    · rw [M.leB_snoc, M.ints_append]
      congr 1
    · rw [Nat.pow_succ, ← Nat.div_div_eq_div_mul]
      omega
  · obtain ⟨h3, rfl⟩ := h3
    exact st_retOwn
def f_in_bytes : List D → D → Prop := fun zas zd => ∃ (n k : Int), zas = [.int n, .int k] ∧ (0 ≤ n ∧ 0 ≤ k ∧ k ≤ 1000) ∧ zd = .l (Vbcnaa.ints (Vbcnaa.be k.toNat n.toNat))
theorem cv_in_bytes {K : PySem.W.Frag} {ds : En} {t0 t1 : TE} {n k : Int} (h0 : Ev K t0 ds (.int n)) (h1 : Ev K t1 ds (.int k)) (hp : 0 ≤ n ∧ 0 ≤ k ∧ k ≤ 1000 := by first | assumption | rfl | decide | omega | ((try simp only [List.length_append, List.length_cons, List.length_nil, List.length_take, List.length_drop, List.length_map, List.length_replicate, List.length_set, M.ints_length, M.be_length, M.leB_length, M.bytesOf_length, M.tagI_length, M.qhead_length, M.hd1_len, M.packet_length]) <;> omega)) : EvN K (tCall (spF K f_in_bytes) [] E0 (tCons t0 (tCons t1 tNil))) ds (.l (Vbcnaa.ints (Vbcnaa.be k.toNat n.toNat))) := evn_call (eva_cons h0 (eva_cons h1 eva_nil)) ⟨_, _, rfl, hp, rfl⟩
theorem ok_in_bytes {f : Addr} {fd : FuncData} (F : Fun K "in_bytes" "in_bytes" s_in_bytes f fd) (T : Txt K mg) (C_in_bytes_lowest_first : Cb P w K mg base 1 "in_bytes_lowest_first" ["number", "count"] (spF K f_in_bytes_lowest_first)) : FnOk P w K mg base CX0 2 f fd ["number", "count"] (spF K f_in_bytes) := by
  refine fn_ok F sc_in_bytes (fun as d h => by obtain ⟨_, _, rfl, _⟩ := h; rfl) (fun cdv A outer s H E' as d hr h => ?_)
  obtain ⟨n, k, rfl, hp, rfl⟩ := h
  refine ⟨_, (pss_one (ps_ret (pe_lrev rfl (by rfl) T.b_list (by rfl) T.b_reversed (pe_cb C_in_bytes_lowest_first (hr.mono (by decide)) rfl (pa_cons (pv 0) (pa_cons (pv 1) pa_nil)))))), ?_⟩
  show Stm K _ [some (.int n), some (.int k)] _ _
  refine st_ret (EvN.to (evn_lrev (EvN.ev (cv_in_bytes_lowest_first ev_var ev_var))) (l_eq ?_))
  rw [M.ints_reverse, M.leB_reverse]
def f_packet_in_bytes : List D → D → Prop := fun zas zd => ∃ (a b k m o c e f g : Nat) (bs : List Nat), zas = [.l [(a : Int), (b : Int), (k : Int), (m : Int), (o : Int), (c : Int), (e : Int), (f : Int), (g : Int)], .l (Vbcnaa.ints bs)] ∧ (a < 256 ∧ c < 256 ∧ e < 256 ∧ bs.length ≤ 8020) ∧ zd = .l (Vbcnaa.ints (Vbcnaa.packetBytes { tos := a, id := b, keep := k, more := m, offset := o, hops := c, proto := e, src := f, dst := g, body := bs }))
theorem cv_packet_in_bytes {K : PySem.W.Frag} {ds : En} {t0 t1 : TE} {a b k m o c e f g : Nat} {bs : List Nat} (h0 : Ev K t0 ds (.l [(a : Int), (b : Int), (k : Int), (m : Int), (o : Int), (c : Int), (e : Int), (f : Int), (g : Int)])) (h1 : Ev K t1 ds (.l (Vbcnaa.ints bs))) (hp : a < 256 ∧ c < 256 ∧ e < 256 ∧ bs.length ≤ 8020 := by first | assumption | rfl | decide | omega | ((try simp only [List.length_append, List.length_cons, List.length_nil, List.length_take, List.length_drop, List.length_map, List.length_replicate, List.length_set, M.ints_length, M.be_length, M.leB_length, M.bytesOf_length, M.tagI_length, M.qhead_length, M.hd1_len, M.packet_length]) <;> omega)) : EvN K (tCall (spF K f_packet_in_bytes) [] E0 (tCons t0 (tCons t1 tNil))) ds (.l (Vbcnaa.ints (Vbcnaa.packetBytes { tos := a, id := b, keep := k, more := m, offset := o, hops := c, proto := e, src := f, dst := g, body := bs }))) := evn_call (eva_cons h0 (eva_cons h1 eva_nil)) ⟨_, _, _, _, _, _, _, _, _, _, rfl, hp, rfl⟩
theorem ok_packet_in_bytes {f : Addr} {fd : FuncData} (F : Fun K "packet_in_bytes" "packet_in_bytes" s_packet_in_bytes f fd) (T : Txt K mg) (C_in_bytes : Cb P w K mg base 2 "in_bytes" ["number", "count"] (spF K f_in_bytes)) (C_row_sum : Cb P w K mg base 2 "row_sum" ["b"] (spF K f_row_sum)) : FnOk P w K mg base CX0 3 f fd ["numbers", "body"] (spF K f_packet_in_bytes) := by
  refine fn_ok F sc_packet_in_bytes (fun as d h => by obtain ⟨_, _, _, _, _, _, _, _, _, _, rfl, _⟩ := h; rfl) (fun cdv A outer s H E' as d hr h => ?_)
  obtain ⟨a, b, k, m, o, c, e, f, g, bs, rfl, hp, rfl⟩ := h
  refine ⟨_, (pss_cons (ps_set (i := 2) sc_packet_in_bytes.nd rfl (by first | exact Or.inl rfl | exact Or.inr rfl) (pe_op op_add (pe_op op_add (pe_op op_mul (pe_ix ix_list (pv 0) (pe_gd rfl T.c_KEEP) (fun _ _ => rfl)) pe_int) (pe_op op_mul (pe_ix ix_list (pv 0) (pe_gd rfl T.c_MORE) (fun _ _ => rfl)) pe_int)) (pe_ix ix_list (pv 0) (pe_gd rfl T.c_OFFSET) (fun _ _ => rfl)))) (pss_cons (ps_set (i := 3) sc_packet_in_bytes.nd rfl (by first | exact Or.inl rfl | exact Or.inr rfl) (pe_op op_catS (pe_op op_catS (pe_lst (pa_cons (pe_gd rfl T.c_FIRST_BYTE) (pa_cons (pe_ix ix_list (pv 0) (pe_gd rfl T.c_TOS) (fun _ _ => rfl)) pa_nil))) (pe_cb C_in_bytes (hr.mono (by decide)) rfl (pa_cons (pe_op op_add (pe_gd rfl T.c_HEAD_LENGTH) (pe_callB call_len_seq (by rfl) T.b_len PySem.boot_len (pa_cons (pv 1) pa_nil))) (pa_cons pe_int pa_nil)))) (pe_cb C_in_bytes (hr.mono (by decide)) rfl (pa_cons (pe_ix ix_list (pv 0) (pe_gd rfl T.c_IDENT) (fun _ _ => rfl)) (pa_cons pe_int pa_nil))))) (pss_cons (ps_set (i := 3) sc_packet_in_bytes.nd rfl (by first | exact Or.inl rfl | exact Or.inr rfl) (pe_op op_catS (pe_op op_catS (pv 3) (pe_cb C_in_bytes (hr.mono (by decide)) rfl (pa_cons (pv 2) (pa_cons pe_int pa_nil)))) (pe_lst (pa_cons (pe_ix ix_list (pv 0) (pe_gd rfl T.c_HOPS) (fun _ _ => rfl)) (pa_cons (pe_ix ix_list (pv 0) (pe_gd rfl T.c_PROTO) (fun _ _ => rfl)) pa_nil))))) (pss_cons (ps_set (i := 4) sc_packet_in_bytes.nd rfl (by first | exact Or.inl rfl | exact Or.inr rfl) (pe_op op_catS (pe_cb C_in_bytes (hr.mono (by decide)) rfl (pa_cons (pe_ix ix_list (pv 0) (pe_gd rfl T.c_SENDER) (fun _ _ => rfl)) (pa_cons pe_int pa_nil))) (pe_cb C_in_bytes (hr.mono (by decide)) rfl (pa_cons (pe_ix ix_list (pv 0) (pe_gd rfl T.c_TO) (fun _ _ => rfl)) (pa_cons pe_int pa_nil))))) (pss_cons (ps_set (i := 5) sc_packet_in_bytes.nd rfl (by first | exact Or.inl rfl | exact Or.inr rfl) (pe_cb C_row_sum (hr.mono (by decide)) rfl (pa_cons (pe_op op_catS (pe_op op_catS (pv 3) (pe_lst (pa_cons pe_int (pa_cons pe_int pa_nil)))) (pv 4)) pa_nil))) (pss_one (ps_ret (pe_op op_catS (pe_op op_catS (pe_op op_catS (pv 3) (pe_cb C_in_bytes (hr.mono (by decide)) rfl (pa_cons (pv 5) (pa_cons pe_int pa_nil)))) (pv 4)) (pv 1))))))))), ?_⟩
  show Stm K _ [some (.l [(a : Int), (b : Int), (k : Int), (m : Int), (o : Int), (c : Int), (e : Int), (f : Int), (g : Int)]), some (.l (Vbcnaa.ints bs)), none, none, none, none] _ _
  obtain ⟨ha, hc, he, hl⟩ := hp
  have hl' : (Vbcnaa.ints bs).length = bs.length := M.ints_length bs
  refine st_then (st_set (Ev.f (ev_add (ev_add (ev_mulR (ev_ix ev_var ev_glob) ev_int) (ev_mulR (ev_ix ev_var ev_glob) ev_int)) (ev_ix ev_var ev_glob)))) ?_
  refine st_then (st_set (EvN.f (evn_cat (EvN.ev (evn_cat (EvN.ev (evn_lst (evi_cons ev_glob (evi_cons (ev_ix ev_var ev_glob) evi_nil)))) (EvN.ev (cv_in_bytes (ev_add ev_glob (ev_len ev_var)) ev_int)) (by (try simp only [List.length_append, List.length_cons, List.length_nil, List.length_take, List.length_drop, List.length_map, List.length_replicate, List.length_set, M.ints_length, M.be_length, M.leB_length, M.bytesOf_length, M.tagI_length, M.qhead_length, M.hd1_len, M.packet_length]) <;> omega))) (EvN.ev (cv_in_bytes (ev_ix ev_var ev_glob) ev_int)) (by (try simp only [List.length_append, List.length_cons, List.length_nil, List.length_take, List.length_drop, List.length_map, List.length_replicate, List.length_set, M.ints_length, M.be_length, M.leB_length, M.bytesOf_length, M.tagI_length, M.qhead_length, M.hd1_len, M.packet_length]) <;> omega)))) ?_
  refine st_then (st_set (EvN.f (evn_cat (EvN.ev (evn_cat ev_var (EvN.ev (cv_in_bytes ev_var ev_int)) (by (try simp only [List.length_append, List.length_cons, List.length_nil, List.length_take, List.length_drop, List.length_map, List.length_replicate, List.length_set, M.ints_length, M.be_length, M.leB_length, M.bytesOf_length, M.tagI_length, M.qhead_length, M.hd1_len, M.packet_length]) <;> omega))) (EvN.ev (evn_lst (evi_cons (ev_ix ev_var ev_glob) (evi_cons (ev_ix ev_var ev_glob) evi_nil)))) (by (try simp only [List.length_append, List.length_cons, List.length_nil, List.length_take, List.length_drop, List.length_map, List.length_replicate, List.length_set, M.ints_length, M.be_length, M.leB_length, M.bytesOf_length, M.tagI_length, M.qhead_length, M.hd1_len, M.packet_length]) <;> omega)))) ?_
  refine st_then (st_set (EvN.f (evn_cat (EvN.ev (cv_in_bytes (ev_ix ev_var ev_glob) ev_int)) (EvN.ev (cv_in_bytes (ev_ix ev_var ev_glob) ev_int)) (by (try simp only [List.length_append, List.length_cons, List.length_nil, List.length_take, List.length_drop, List.length_map, List.length_replicate, List.length_set, M.ints_length, M.be_length, M.leB_length, M.bytesOf_length, M.tagI_length, M.qhead_length, M.hd1_len, M.packet_length]) <;> omega)))) ?_
  have e1 : ((20 : Int) + ((Vbcnaa.ints bs).length : Int)).toNat = 20 + bs.length := by rw [hl']; omega
  have e2 : ((k : Int) * 16384 + (m : Int) * 8192 + (o : Int)).toNat = k * 16384 + m * 8192 + o := by omega
  refine st_le (ds' := [some (.l [(a : Int), (b : Int), (k : Int), (m : Int), (o : Int), (c : Int), (e : Int), (f : Int), (g : Int)]), some (.l (Vbcnaa.ints bs)), none, some (.l (Vbcnaa.ints (M.hd1 a b (k * 16384 + m * 8192 + o) c e bs.length))), some (.l (Vbcnaa.ints (Vbcnaa.be 4 f ++ Vbcnaa.be 4 g))), none]) ⟨rfl, rfl, ?_, ?_, trivial⟩ ?_
  · rw [e1, e2]
    unfold M.hd1
    simp only [Int.toNat_natCast, M.ints_append, List.append_assoc]
    rfl
  · simp only [Int.toNat_natCast, M.ints_append]
    rfl
  · refine st_then (st_set (Ev.f (EvN.ev (cv_row_sum (EvN.ev (evn_cat (EvN.ev (evn_cat ev_var (EvN.ev (evn_lst (evi_cons ev_int (evi_cons ev_int evi_nil)))) (by (try simp only [List.length_append, List.length_cons, List.length_nil, List.length_take, List.length_drop, List.length_map, List.length_replicate, List.length_set, M.ints_length, M.be_length, M.leB_length, M.bytesOf_length, M.tagI_length, M.qhead_length, M.hd1_len, M.packet_length]) <;> omega))) ev_var (by (try simp only [List.length_append, List.length_cons, List.length_nil, List.length_take, List.length_drop, List.length_map, List.length_replicate, List.length_set, M.ints_length, M.be_length, M.leB_length, M.bytesOf_length, M.tagI_length, M.qhead_length, M.hd1_len, M.packet_length]) <;> omega))))))) ?_
    have hs := M.pwrite (a := a) (b := b) (q := k * 16384 + m * 8192 + o) (c := c) (e := e) (n := bs.length) (f := f) (g := g) ha hc he
    have h16 := M.sum16_le (M.hd1 a b (k * 16384 + m * 8192 + o) c e bs.length ++ ([0, 0] ++ (Vbcnaa.be 4 f ++ Vbcnaa.be 4 g)))
    refine st_le (ds' := [some (.l [(a : Int), (b : Int), (k : Int), (m : Int), (o : Int), (c : Int), (e : Int), (f : Int), (g : Int)]), some (.l (Vbcnaa.ints bs)), none, some (.l (Vbcnaa.ints (M.hd1 a b (k * 16384 + m * 8192 + o) c e bs.length))), some (.l (Vbcnaa.ints (Vbcnaa.be 4 f ++ Vbcnaa.be 4 g))), some (.int ((Vbcnaa.sum16 (M.hd1 a b (k * 16384 + m * 8192 + o) c e bs.length ++ ([0, 0] ++ (Vbcnaa.be 4 f ++ Vbcnaa.be 4 g))) : Nat) : Int))]) ⟨rfl, rfl, rfl, rfl, congrArg D.int hs.symm, trivial⟩ ?_
    refine st_ret (EvN.to (evn_cat (EvN.ev (evn_cat (EvN.ev (evn_cat ev_var (EvN.ev (cv_in_bytes ev_var ev_int)) (by (try simp only [List.length_append, List.length_cons, List.length_nil, List.length_take, List.length_drop, List.length_map, List.length_replicate, List.length_set, M.ints_length, M.be_length, M.leB_length, M.bytesOf_length, M.tagI_length, M.qhead_length, M.hd1_len, M.packet_length]) <;> omega))) ev_var (by (try simp only [List.length_append, List.length_cons, List.length_nil, List.length_take, List.length_drop, List.length_map, List.length_replicate, List.length_set, M.ints_length, M.be_length, M.leB_length, M.bytesOf_length, M.tagI_length, M.qhead_length, M.hd1_len, M.packet_length]) <;> omega))) ev_var (by (try simp only [List.length_append, List.length_cons, List.length_nil, List.length_take, List.length_drop, List.length_map, List.length_replicate, List.length_set, M.ints_length, M.be_length, M.leB_length, M.bytesOf_length, M.tagI_length, M.qhead_length, M.hd1_len, M.packet_length]) <;> omega)) (l_eq ?_))
    rw [M.packet_eq]
    simp only [Int.toNat_natCast, M.ints_append, List.append_assoc]
    rfl
def f_put_together : List D → D → Prop := fun zas zd => ∃ (b0 : List Nat) (bss : List (List Nat)), zas = [.ll ((b0 :: bss).map Vbcnaa.ints)] ∧ ((((∀ r ∈ (b0 :: bss).map Vbcnaa.ints, 20 ≤ r.length) ∧ ((b0 :: bss).map Vbcnaa.ints).length ≤ 1000 ∧ (((b0 :: bss).map Vbcnaa.ints).map M.lastI).any id = true) ∧ (∀ r ∈ (b0 :: bss).map Vbcnaa.ints, M.endI r ≤ M.pendI ((b0 :: bss).map Vbcnaa.ints)) ∧ M.pendI ((b0 :: bss).map Vbcnaa.ints) ≤ 1000000) ∧ (∀ x ∈ b0, x < 256) ∧ M.pendI ((b0 :: bss).map Vbcnaa.ints) ≤ 8000 ∧ (∀ q ∈ (b0 :: bss).map M.packetOf, Vbcnaa.endOf q ≤ (M.pendI ((b0 :: bss).map Vbcnaa.ints)).toNat)) ∧ zd = .l (Vbcnaa.ints (Vbcnaa.packetBytes (M.whole b0 bss (M.pendI ((b0 :: bss).map Vbcnaa.ints)).toNat)))
theorem cv_put_together {K : PySem.W.Frag} {ds : En} {t0 : TE} {b0 : List Nat} {bss : List (List Nat)} (h0 : Ev K t0 ds (.ll ((b0 :: bss).map Vbcnaa.ints))) (hp : (((∀ r ∈ (b0 :: bss).map Vbcnaa.ints, 20 ≤ r.length) ∧ ((b0 :: bss).map Vbcnaa.ints).length ≤ 1000 ∧ (((b0 :: bss).map Vbcnaa.ints).map M.lastI).any id = true) ∧ (∀ r ∈ (b0 :: bss).map Vbcnaa.ints, M.endI r ≤ M.pendI ((b0 :: bss).map Vbcnaa.ints)) ∧ M.pendI ((b0 :: bss).map Vbcnaa.ints) ≤ 1000000) ∧ (∀ x ∈ b0, x < 256) ∧ M.pendI ((b0 :: bss).map Vbcnaa.ints) ≤ 8000 ∧ (∀ q ∈ (b0 :: bss).map M.packetOf, Vbcnaa.endOf q ≤ (M.pendI ((b0 :: bss).map Vbcnaa.ints)).toNat) := by first | assumption | rfl | decide | omega | ((try simp only [List.length_append, List.length_cons, List.length_nil, List.length_take, List.length_drop, List.length_map, List.length_replicate, List.length_set, M.ints_length, M.be_length, M.leB_length, M.bytesOf_length, M.tagI_length, M.qhead_length, M.hd1_len, M.packet_length]) <;> omega)) : EvN K (tCall (spF K f_put_together) [] E0 (tCons t0 tNil)) ds (.l (Vbcnaa.ints (Vbcnaa.packetBytes (M.whole b0 bss (M.pendI ((b0 :: bss).map Vbcnaa.ints)).toNat)))) := evn_call (eva_cons h0 eva_nil) ⟨_, _, rfl, hp, rfl⟩
theorem ok_put_together {f : Addr} {fd : FuncData} (F : Fun K "put_together" "put_together" s_put_together f fd) (T : Txt K mg) (C_packet_numbers : Cb P w K mg base 2 "packet_numbers" ["b"] (spF K f_packet_numbers)) (C_packet_in_bytes : Cb P w K mg base 3 "packet_in_bytes" ["numbers", "body"] (spF K f_packet_in_bytes)) (C_filled_places : Cb P w K mg base 6 "filled_places" ["pieces"] (spF K f_filled_places)) : FnOk P w K mg base CX0 7 f fd ["pieces"] (spF K f_put_together) := by
  refine fn_ok F sc_put_together (fun as d h => by obtain ⟨_, _, rfl, _⟩ := h; rfl) (fun cdv A outer s H E' as d hr h => ?_)
  obtain ⟨b0, bss, rfl, hp, rfl⟩ := h
  refine ⟨_, (pss_cons (ps_set (i := 1) sc_put_together.nd rfl (by first | exact Or.inl rfl | exact Or.inr rfl) (pe_cb C_packet_numbers (hr.mono (by decide)) rfl (pa_cons (pe_ix ix_list (pv 0) pe_int (fun _ _ => rfl)) pa_nil))) (pss_cons (ps_asg pe_int (pg_sub (pv 1) (pe_gd rfl T.c_MORE) set_list)) (pss_cons (ps_asg pe_int (pg_sub (pv 1) (pe_gd rfl T.c_OFFSET) set_list)) (pss_cons (ps_asg (pe_callB (cr_min rfl) (by rfl) T.b_min boot_min5 (pa_cons (pe_lc (own := [("piece", 2)]) rfl sc_put_together.nd (pi_list (pv 0)) (blkOk_by (by show blkC ["pieces", "numbers", "piece"] (defScope s_put_together) _ [("piece", 2)] = true; decide +kernel)) (fun _ _ _ _ _ => (pg_name (i := 2) sc_put_together.nd rfl (Or.inl rfl))) (fun _ _ _ _ _ => by exact pts_nil) (fun _ _ _ _ _ => by exact (pe_ix (ix_listK (K := K) rfl) (pe_cb C_packet_numbers (hr.mono (by decide)) (by rfl) (pa_cons (pv 2) pa_nil)) (pe_gdK (by rfl) T.c_HOPS) (fun _ _ => rfl)))) pa_nil)) (pg_sub (pv 1) (pe_gd rfl T.c_HOPS) set_list)) (pss_one (ps_ret (pe_cb C_packet_in_bytes (hr.mono (by decide)) rfl (pa_cons (pv 1) (pa_cons (pe_cb C_filled_places (hr.mono (by decide)) rfl (pa_cons (pv 0) pa_nil)) pa_nil))))))))), ?_⟩
  show Stm K _ [some (.ll ((b0 :: bss).map Vbcnaa.ints)), none, none] _ _
  obtain ⟨hfp, hb, h8, hends⟩ := hp
  have h20 := hfp.1.1
  have h0 : ((b0 :: bss).map Vbcnaa.ints)[(0 : Int).toNat]? = some (Vbcnaa.ints b0) := rfl
  have h200 : 20 ≤ (Vbcnaa.ints b0).length := h20 _ (by simp)
  refine st_then (st_own (cv_packet_numbers (ev_ixll ev_var ev_int h0) h200)) ?_
  refine st_then (st_setitem (k := 3) rfl ev_int ev_glob (by decide) (by show (3 : Int) < ((9 : Nat) : Int); decide)) ?_
  refine st_then (st_setitem (k := 4) rfl ev_int ev_glob (by decide) (by show (4 : Int) < ((9 : Nat) : Int); decide)) ?_
  refine st_then (st_setitem (k := 5) rfl (ev_minL (EvN.ev (evn_lcI (j := 2) (fun r => r.getD 8 0) evf_var (fun z hz => ev_ix (EvN.ev (cv_packet_numbers ev_var (h20 z hz))) ev_glob) (by have := hfp.1.2.1; omega))) (by rw [List.length_map, List.length_map]; show 0 < bss.length + 1; omega)) ev_glob (by decide) (by show (5 : Int) < ((9 : Nat) : Int); decide)) ?_
  have hmin := M.min_hops b0 bss
  refine st_le (ds' := [some (.ll ((b0 :: bss).map Vbcnaa.ints)), some (.own [((Vbcnaa.field b0 1 1 : Nat) : Int), ((Vbcnaa.field b0 4 2 : Nat) : Int), ((Vbcnaa.field b0 6 2 / 16384 : Nat) : Int), ((0 : Nat) : Int), ((0 : Nat) : Int), ((((b0 :: bss).map M.packetOf).foldl (fun h p => min h p.hops) (M.packetOf b0).hops : Nat) : Int), ((Vbcnaa.field b0 9 1 : Nat) : Int), ((Vbcnaa.field b0 12 4 : Nat) : Int), ((Vbcnaa.field b0 16 4 : Nat) : Int)]), none]) ⟨rfl, congrArg D.own ?_, trivial⟩ ?_
  · rw [hmin, M.pnums_ints]
    rfl
  · have ef : M.fillI (M.pendI ((b0 :: bss).map Vbcnaa.ints)).toNat ((b0 :: bss).map Vbcnaa.ints) = Vbcnaa.ints (M.fillN (M.pendI ((b0 :: bss).map Vbcnaa.ints)).toNat ((b0 :: bss).map M.packetOf)) := M.fill_ints _ _
    have f1 := M.field_lt hb 1 1
    have f9 := M.field_lt hb 9 1
    have f8 := M.field_lt hb 8 1
    have hml : ((b0 :: bss).map M.packetOf).foldl (fun h p => min h p.hops) (M.packetOf b0).hops ≤ Vbcnaa.field b0 8 1 := M.foldl_hops _ _
    have hfl := (M.fillN_get (M.pendI ((b0 :: bss).map Vbcnaa.ints)).toNat _ hends).1
    exact st_ret (cv_packet_in_bytes ev_own (Ev.to (EvN.ev (cv_filled_places ev_var hfp)) (l_eq ef)) ⟨f1, by omega, f9, by rw [hfl]; omega⟩)
def f_join : List D → D → Prop := fun zas zd => ∃ (nss : List (List Int)), zas = [.ll nss] ∧ zd = .l (PyVbcnaa.join nss)
theorem cv_join {K : PySem.W.Frag} {ds : En} {t0 : TE} {nss : List (List Int)} (h0 : Ev K t0 ds (.ll nss)) : EvN K (tCall (spF K f_join) [] E0 (tCons t0 tNil)) ds (.l (PyVbcnaa.join nss)) := evn_call (eva_cons h0 eva_nil) ⟨_, rfl, rfl⟩
theorem ok_join {f : Addr} {fd : FuncData} (F : Fun K "join" "join" s_join f fd) (T : Txt K mg) (C_pieces_refusal : Cb P w K mg base 7 "pieces_refusal" ["pieces"] (spF K f_pieces_refusal)) (C_behind_length : Cb P w K mg base 1 "behind_length" ["row"] (spF K f_behind_length)) (C_put_together : Cb P w K mg base 7 "put_together" ["pieces"] (spF K f_put_together)) : FnOk P w K mg base CX0 8 f fd ["pieces"] (spF K f_join) := by
  refine fn_ok F sc_join (fun as d h => by obtain ⟨_, rfl, _⟩ := h; rfl) (fun cdv A outer s H E' as d hr h => ?_)
  obtain ⟨nss, rfl, rfl⟩ := h
  refine ⟨_, (pss_cons (ps_set (i := 1) sc_join.nd rfl (by first | exact Or.inl rfl | exact Or.inr rfl) (pe_cb C_pieces_refusal (hr.mono (by decide)) rfl (pa_cons (pv 0) pa_nil))) (pss_cons (ps_if (pt_cmpR op_ne (pv 1) pe_int (nomark _)) (pss_one (ps_ret (pe_lst (pa_cons (pv 1) pa_nil)))) pss_nil) (pss_one (ps_ret (pe_op op_catS (pe_lst (pa_cons pe_int pa_nil)) (pe_cb C_behind_length (hr.mono (by decide)) rfl (pa_cons (pe_cb C_put_together (hr.mono (by decide)) rfl (pa_cons (pv 0) pa_nil)) pa_nil))))))), ?_⟩
  show Stm K _ [some (.ll nss), none] _ _
  refine st_then (st_set (Ev.f (EvN.ev (cv_pieces_refusal ev_var)))) ?_
  refine st_guard (evt_cmp (ev_ne ev_var ev_int)) (fun h1 => ?_) (fun h1 => ?_)
  · rw [Bool.not_eq_true', decide_eq_false_iff_not] at h1
    refine st_ret (EvN.to (evn_lst (evi_cons ev_var evi_nil)) (l_eq ?_))
    exact (M.join_bad h1).symm
  · rw [Bool.not_eq_false', decide_eq_true_eq] at h1
    obtain ⟨b0, bss, rfl, hq, hd, hlen⟩ := M.join_ok h1
    refine st_ret (EvN.to (evn_cat (EvN.ev (evn_lst (evi_cons ev_int evi_nil))) (EvN.ev (cv_behind_length (EvN.ev (cv_put_together ev_var hq)) (by rw [M.ints_length]; omega))) (by simp only [List.length_cons, List.length_nil, M.ints_length]; omega)) (l_eq ?_))
    rw [hd]
    unfold Vbcnaa.row
    rw [M.ints_length]
    rfl
end
theorem all_mk {P : Program} {w : World} {K : PySem.W.Frag} {h : Heap} {mg : Str → Option Value} {fa : Addr} (X : K.In h) (G : h.Ns mainGlobals mg) (hfa : mg "join" = some (.ref fa)) {tk0 : Tok} (g0 : PySem.W.nsIn K mainGlobals "OFFSET" = some (some (.int (4) tk0))) {tk1 : Tok} (g1 : PySem.W.nsIn K mainGlobals "MORE" = some (some (.int (3) tk1))) {tk2 : Tok} (g2 : PySem.W.nsIn K mainGlobals "KEEP" = some (some (.int (2) tk2))) {tk3 : Tok} (g3 : PySem.W.nsIn K mainGlobals "LONGEST_PACKET_BODY" = some (some (.int (8000) tk3))) {tk4 : Tok} (g4 : PySem.W.nsIn K mainGlobals "HEAD_LENGTH" = some (some (.int (20) tk4))) {tk5 : Tok} (g5 : PySem.W.nsIn K mainGlobals "FIRST_BYTE" = some (some (.int (69) tk5))) {tk6 : Tok} (g6 : PySem.W.nsIn K mainGlobals "TO" = some (some (.int (8) tk6))) {tk7 : Tok} (g7 : PySem.W.nsIn K mainGlobals "SENDER" = some (some (.int (7) tk7))) {tk8 : Tok} (g8 : PySem.W.nsIn K mainGlobals "PROTO" = some (some (.int (6) tk8))) {tk9 : Tok} (g9 : PySem.W.nsIn K mainGlobals "IDENT" = some (some (.int (1) tk9))) {tk10 : Tok} (g10 : PySem.W.nsIn K mainGlobals "TOS" = some (some (.int (0) tk10))) {tk11 : Tok} (g11 : PySem.W.nsIn K mainGlobals "NO_BYTE" = some (some (.int (256) tk11))) {tk12 : Tok} (g12 : PySem.W.nsIn K mainGlobals "MOST_PIECES" = some (some (.int (256) tk12))) {tk13 : Tok} (g13 : PySem.W.nsIn K mainGlobals "HOPS" = some (some (.int (5) tk13))) (b0 : PySem.W.nsIn K mainGlobals "len" = some none) (b1 : PySem.W.nsIn K mainGlobals "range" = some none) (b2 : PySem.W.nsIn K mainGlobals "enumerate" = some none) (b3 : PySem.W.nsIn K mainGlobals "all" = some none) (b4 : PySem.W.nsIn K mainGlobals "any" = some none) (b5 : PySem.W.nsIn K mainGlobals "list" = some none) (b6 : PySem.W.nsIn K mainGlobals "reversed" = some none) (b7 : PySem.W.nsIn K mainGlobals "min" = some none)
    {f0 : Addr} {od0 an0 : Option Addr} {sl0 : Array (Option Value)} {oc0 kV0 dc0 pm0 cd0 ct0 : Value} (a0 : PySem.W.nsIn K mainGlobals "is_row_of_bytes" = some (some (.ref f0))) (l0 : K.lookup f0 = some ⟨oc0, od0, .func (PySem.W.fnOf "is_row_of_bytes" "is_row_of_bytes" (defArgs s_is_row_of_bytes) (defBody s_is_row_of_bytes) (defScope s_is_row_of_bytes) .none kV0 dc0 pm0 an0 cd0 ct0), sl0⟩) (c0 : PySem.W.codeIn K cd0 "is_row_of_bytes" = true) (k0 : PySem.W.keepIn K (.ref f0) = true)
    {f1 : Addr} {od1 an1 : Option Addr} {sl1 : Array (Option Value)} {oc1 kV1 dc1 pm1 cd1 ct1 : Value} (a1 : PySem.W.nsIn K mainGlobals "number_at" = some (some (.ref f1))) (l1 : K.lookup f1 = some ⟨oc1, od1, .func (PySem.W.fnOf "number_at" "number_at" (defArgs s_number_at) (defBody s_number_at) (defScope s_number_at) .none kV1 dc1 pm1 an1 cd1 ct1), sl1⟩) (c1 : PySem.W.codeIn K cd1 "number_at" = true) (k1 : PySem.W.keepIn K (.ref f1) = true)
    {f2 : Addr} {od2 an2 : Option Addr} {sl2 : Array (Option Value)} {oc2 kV2 dc2 pm2 cd2 ct2 : Value} (a2 : PySem.W.nsIn K mainGlobals "folded" = some (some (.ref f2))) (l2 : K.lookup f2 = some ⟨oc2, od2, .func (PySem.W.fnOf "folded" "folded" (defArgs s_folded) (defBody s_folded) (defScope s_folded) .none kV2 dc2 pm2 an2 cd2 ct2), sl2⟩) (c2 : PySem.W.codeIn K cd2 "folded" = true) (k2 : PySem.W.keepIn K (.ref f2) = true)
    {f3 : Addr} {od3 an3 : Option Addr} {sl3 : Array (Option Value)} {oc3 kV3 dc3 pm3 cd3 ct3 : Value} (a3 : PySem.W.nsIn K mainGlobals "row_sum" = some (some (.ref f3))) (l3 : K.lookup f3 = some ⟨oc3, od3, .func (PySem.W.fnOf "row_sum" "row_sum" (defArgs s_row_sum) (defBody s_row_sum) (defScope s_row_sum) .none kV3 dc3 pm3 an3 cd3 ct3), sl3⟩) (c3 : PySem.W.codeIn K cd3 "row_sum" = true) (k3 : PySem.W.keepIn K (.ref f3) = true)
    {f4 : Addr} {od4 an4 : Option Addr} {sl4 : Array (Option Value)} {oc4 kV4 dc4 pm4 cd4 ct4 : Value} (a4 : PySem.W.nsIn K mainGlobals "packet_may_be" = some (some (.ref f4))) (l4 : K.lookup f4 = some ⟨oc4, od4, .func (PySem.W.fnOf "packet_may_be" "packet_may_be" (defArgs s_packet_may_be) (defBody s_packet_may_be) (defScope s_packet_may_be) .none kV4 dc4 pm4 an4 cd4 ct4), sl4⟩) (c4 : PySem.W.codeIn K cd4 "packet_may_be" = true) (k4 : PySem.W.keepIn K (.ref f4) = true)
    {f5 : Addr} {od5 an5 : Option Addr} {sl5 : Array (Option Value)} {oc5 kV5 dc5 pm5 cd5 ct5 : Value} (a5 : PySem.W.nsIn K mainGlobals "packet_numbers" = some (some (.ref f5))) (l5 : K.lookup f5 = some ⟨oc5, od5, .func (PySem.W.fnOf "packet_numbers" "packet_numbers" (defArgs s_packet_numbers) (defBody s_packet_numbers) (defScope s_packet_numbers) .none kV5 dc5 pm5 an5 cd5 ct5), sl5⟩) (c5 : PySem.W.codeIn K cd5 "packet_numbers" = true) (k5 : PySem.W.keepIn K (.ref f5) = true)
    {f6 : Addr} {od6 an6 : Option Addr} {sl6 : Array (Option Value)} {oc6 kV6 dc6 pm6 cd6 ct6 : Value} (a6 : PySem.W.nsIn K mainGlobals "packet_refusal" = some (some (.ref f6))) (l6 : K.lookup f6 = some ⟨oc6, od6, .func (PySem.W.fnOf "packet_refusal" "packet_refusal" (defArgs s_packet_refusal) (defBody s_packet_refusal) (defScope s_packet_refusal) .none kV6 dc6 pm6 an6 cd6 ct6), sl6⟩) (c6 : PySem.W.codeIn K cd6 "packet_refusal" = true) (k6 : PySem.W.keepIn K (.ref f6) = true)
    {f7 : Addr} {od7 an7 : Option Addr} {sl7 : Array (Option Value)} {oc7 kV7 dc7 pm7 cd7 ct7 : Value} (a7 : PySem.W.nsIn K mainGlobals "shared_numbers" = some (some (.ref f7))) (l7 : K.lookup f7 = some ⟨oc7, od7, .func (PySem.W.fnOf "shared_numbers" "shared_numbers" (defArgs s_shared_numbers) (defBody s_shared_numbers) (defScope s_shared_numbers) .none kV7 dc7 pm7 an7 cd7 ct7), sl7⟩) (c7 : PySem.W.codeIn K cd7 "shared_numbers" = true) (k7 : PySem.W.keepIn K (.ref f7) = true)
    {f8 : Addr} {od8 an8 : Option Addr} {sl8 : Array (Option Value)} {oc8 kV8 dc8 pm8 cd8 ct8 : Value} (a8 : PySem.W.nsIn K mainGlobals "is_last" = some (some (.ref f8))) (l8 : K.lookup f8 = some ⟨oc8, od8, .func (PySem.W.fnOf "is_last" "is_last" (defArgs s_is_last) (defBody s_is_last) (defScope s_is_last) .none kV8 dc8 pm8 an8 cd8 ct8), sl8⟩) (c8 : PySem.W.codeIn K cd8 "is_last" = true) (k8 : PySem.W.keepIn K (.ref f8) = true)
    {f9 : Addr} {od9 an9 : Option Addr} {sl9 : Array (Option Value)} {oc9 kV9 dc9 pm9 cd9 ct9 : Value} (a9 : PySem.W.nsIn K mainGlobals "piece_start" = some (some (.ref f9))) (l9 : K.lookup f9 = some ⟨oc9, od9, .func (PySem.W.fnOf "piece_start" "piece_start" (defArgs s_piece_start) (defBody s_piece_start) (defScope s_piece_start) .none kV9 dc9 pm9 an9 cd9 ct9), sl9⟩) (c9 : PySem.W.codeIn K cd9 "piece_start" = true) (k9 : PySem.W.keepIn K (.ref f9) = true)
    {f10 : Addr} {od10 an10 : Option Addr} {sl10 : Array (Option Value)} {oc10 kV10 dc10 pm10 cd10 ct10 : Value} (a10 : PySem.W.nsIn K mainGlobals "packet_body" = some (some (.ref f10))) (l10 : K.lookup f10 = some ⟨oc10, od10, .func (PySem.W.fnOf "packet_body" "packet_body" (defArgs s_packet_body) (defBody s_packet_body) (defScope s_packet_body) .none kV10 dc10 pm10 an10 cd10 ct10), sl10⟩) (c10 : PySem.W.codeIn K cd10 "packet_body" = true) (k10 : PySem.W.keepIn K (.ref f10) = true)
    {f11 : Addr} {od11 an11 : Option Addr} {sl11 : Array (Option Value)} {oc11 kV11 dc11 pm11 cd11 ct11 : Value} (a11 : PySem.W.nsIn K mainGlobals "piece_end" = some (some (.ref f11))) (l11 : K.lookup f11 = some ⟨oc11, od11, .func (PySem.W.fnOf "piece_end" "piece_end" (defArgs s_piece_end) (defBody s_piece_end) (defScope s_piece_end) .none kV11 dc11 pm11 an11 cd11 ct11), sl11⟩) (c11 : PySem.W.codeIn K cd11 "piece_end" = true) (k11 : PySem.W.keepIn K (.ref f11) = true)
    {f12 : Addr} {od12 an12 : Option Addr} {sl12 : Array (Option Value)} {oc12 kV12 dc12 pm12 cd12 ct12 : Value} (a12 : PySem.W.nsIn K mainGlobals "packet_end" = some (some (.ref f12))) (l12 : K.lookup f12 = some ⟨oc12, od12, .func (PySem.W.fnOf "packet_end" "packet_end" (defArgs s_packet_end) (defBody s_packet_end) (defScope s_packet_end) .none kV12 dc12 pm12 an12 cd12 ct12), sl12⟩) (c12 : PySem.W.codeIn K cd12 "packet_end" = true) (k12 : PySem.W.keepIn K (.ref f12) = true)
    {f13 : Addr} {od13 an13 : Option Addr} {sl13 : Array (Option Value)} {oc13 kV13 dc13 pm13 cd13 ct13 : Value} (a13 : PySem.W.nsIn K mainGlobals "fits_end" = some (some (.ref f13))) (l13 : K.lookup f13 = some ⟨oc13, od13, .func (PySem.W.fnOf "fits_end" "fits_end" (defArgs s_fits_end) (defBody s_fits_end) (defScope s_fits_end) .none kV13 dc13 pm13 an13 cd13 ct13), sl13⟩) (c13 : PySem.W.codeIn K cd13 "fits_end" = true) (k13 : PySem.W.keepIn K (.ref f13) = true)
    {f14 : Addr} {od14 an14 : Option Addr} {sl14 : Array (Option Value)} {oc14 kV14 dc14 pm14 cd14 ct14 : Value} (a14 : PySem.W.nsIn K mainGlobals "filled_places" = some (some (.ref f14))) (l14 : K.lookup f14 = some ⟨oc14, od14, .func (PySem.W.fnOf "filled_places" "filled_places" (defArgs s_filled_places) (defBody s_filled_places) (defScope s_filled_places) .none kV14 dc14 pm14 an14 cd14 ct14), sl14⟩) (c14 : PySem.W.codeIn K cd14 "filled_places" = true) (k14 : PySem.W.keepIn K (.ref f14) = true)
    {f15 : Addr} {od15 an15 : Option Addr} {sl15 : Array (Option Value)} {oc15 kV15 dc15 pm15 cd15 ct15 : Value} (a15 : PySem.W.nsIn K mainGlobals "lies_in" = some (some (.ref f15))) (l15 : K.lookup f15 = some ⟨oc15, od15, .func (PySem.W.fnOf "lies_in" "lies_in" (defArgs s_lies_in) (defBody s_lies_in) (defScope s_lies_in) .none kV15 dc15 pm15 an15 cd15 ct15), sl15⟩) (c15 : PySem.W.codeIn K cd15 "lies_in" = true) (k15 : PySem.W.keepIn K (.ref f15) = true)
    {f16 : Addr} {od16 an16 : Option Addr} {sl16 : Array (Option Value)} {oc16 kV16 dc16 pm16 cd16 ct16 : Value} (a16 : PySem.W.nsIn K mainGlobals "pieces_refusal" = some (some (.ref f16))) (l16 : K.lookup f16 = some ⟨oc16, od16, .func (PySem.W.fnOf "pieces_refusal" "pieces_refusal" (defArgs s_pieces_refusal) (defBody s_pieces_refusal) (defScope s_pieces_refusal) .none kV16 dc16 pm16 an16 cd16 ct16), sl16⟩) (c16 : PySem.W.codeIn K cd16 "pieces_refusal" = true) (k16 : PySem.W.keepIn K (.ref f16) = true)
    {f17 : Addr} {od17 an17 : Option Addr} {sl17 : Array (Option Value)} {oc17 kV17 dc17 pm17 cd17 ct17 : Value} (a17 : PySem.W.nsIn K mainGlobals "behind_length" = some (some (.ref f17))) (l17 : K.lookup f17 = some ⟨oc17, od17, .func (PySem.W.fnOf "behind_length" "behind_length" (defArgs s_behind_length) (defBody s_behind_length) (defScope s_behind_length) .none kV17 dc17 pm17 an17 cd17 ct17), sl17⟩) (c17 : PySem.W.codeIn K cd17 "behind_length" = true) (k17 : PySem.W.keepIn K (.ref f17) = true)
    {f18 : Addr} {od18 an18 : Option Addr} {sl18 : Array (Option Value)} {oc18 kV18 dc18 pm18 cd18 ct18 : Value} (a18 : PySem.W.nsIn K mainGlobals "in_bytes_lowest_first" = some (some (.ref f18))) (l18 : K.lookup f18 = some ⟨oc18, od18, .func (PySem.W.fnOf "in_bytes_lowest_first" "in_bytes_lowest_first" (defArgs s_in_bytes_lowest_first) (defBody s_in_bytes_lowest_first) (defScope s_in_bytes_lowest_first) .none kV18 dc18 pm18 an18 cd18 ct18), sl18⟩) (c18 : PySem.W.codeIn K cd18 "in_bytes_lowest_first" = true) (k18 : PySem.W.keepIn K (.ref f18) = true)
    {f19 : Addr} {od19 an19 : Option Addr} {sl19 : Array (Option Value)} {oc19 kV19 dc19 pm19 cd19 ct19 : Value} (a19 : PySem.W.nsIn K mainGlobals "in_bytes" = some (some (.ref f19))) (l19 : K.lookup f19 = some ⟨oc19, od19, .func (PySem.W.fnOf "in_bytes" "in_bytes" (defArgs s_in_bytes) (defBody s_in_bytes) (defScope s_in_bytes) .none kV19 dc19 pm19 an19 cd19 ct19), sl19⟩) (c19 : PySem.W.codeIn K cd19 "in_bytes" = true) (k19 : PySem.W.keepIn K (.ref f19) = true)
    {f20 : Addr} {od20 an20 : Option Addr} {sl20 : Array (Option Value)} {oc20 kV20 dc20 pm20 cd20 ct20 : Value} (a20 : PySem.W.nsIn K mainGlobals "packet_in_bytes" = some (some (.ref f20))) (l20 : K.lookup f20 = some ⟨oc20, od20, .func (PySem.W.fnOf "packet_in_bytes" "packet_in_bytes" (defArgs s_packet_in_bytes) (defBody s_packet_in_bytes) (defScope s_packet_in_bytes) .none kV20 dc20 pm20 an20 cd20 ct20), sl20⟩) (c20 : PySem.W.codeIn K cd20 "packet_in_bytes" = true) (k20 : PySem.W.keepIn K (.ref f20) = true)
    {f21 : Addr} {od21 an21 : Option Addr} {sl21 : Array (Option Value)} {oc21 kV21 dc21 pm21 cd21 ct21 : Value} (a21 : PySem.W.nsIn K mainGlobals "put_together" = some (some (.ref f21))) (l21 : K.lookup f21 = some ⟨oc21, od21, .func (PySem.W.fnOf "put_together" "put_together" (defArgs s_put_together) (defBody s_put_together) (defScope s_put_together) .none kV21 dc21 pm21 an21 cd21 ct21), sl21⟩) (c21 : PySem.W.codeIn K cd21 "put_together" = true) (k21 : PySem.W.keepIn K (.ref f21) = true)
    {f22 : Addr} {od22 an22 : Option Addr} {sl22 : Array (Option Value)} {oc22 kV22 dc22 pm22 cd22 ct22 : Value} (a22 : PySem.W.nsIn K mainGlobals "join" = some (some (.ref f22))) (l22 : K.lookup f22 = some ⟨oc22, od22, .func (PySem.W.fnOf "join" "join" (defArgs s_join) (defBody s_join) (defScope s_join) .none kV22 dc22 pm22 an22 cd22 ct22), sl22⟩) (c22 : PySem.W.codeIn K cd22 "join" = true) (k22 : PySem.W.keepIn K (.ref f22) = true) :
    ∃ fd : FuncData, (∀ (s : Shared) (us : List Value), us.length = (["pieces"] : List Str).length → BindsTo s fd ⟨us, []⟩ ((["pieces"] : List Str).zip us)) ∧ ∀ base : Heap, K.In base → base.Ns mainGlobals mg → FnOk P w K mg base CX0 8 fa fd ["pieces"] (spF K f_join) := by
  have e : f22 = fa := Value.ref.inj (Option.some.inj ((PySem.W.mg_of X G a22).symm.trans hfa))
  subst e
  have T : Txt K mg := ⟨trivial, ⟨.int (4), _, PySem.W.mg_of X G g0, ⟨_, rfl⟩, fun _ => rfl⟩, ⟨.int (3), _, PySem.W.mg_of X G g1, ⟨_, rfl⟩, fun _ => rfl⟩, ⟨.int (2), _, PySem.W.mg_of X G g2, ⟨_, rfl⟩, fun _ => rfl⟩, ⟨.int (8000), _, PySem.W.mg_of X G g3, ⟨_, rfl⟩, fun _ => rfl⟩, ⟨.int (20), _, PySem.W.mg_of X G g4, ⟨_, rfl⟩, fun _ => rfl⟩, ⟨.int (69), _, PySem.W.mg_of X G g5, ⟨_, rfl⟩, fun _ => rfl⟩, ⟨.int (8), _, PySem.W.mg_of X G g6, ⟨_, rfl⟩, fun _ => rfl⟩, ⟨.int (7), _, PySem.W.mg_of X G g7, ⟨_, rfl⟩, fun _ => rfl⟩, ⟨.int (6), _, PySem.W.mg_of X G g8, ⟨_, rfl⟩, fun _ => rfl⟩, ⟨.int (1), _, PySem.W.mg_of X G g9, ⟨_, rfl⟩, fun _ => rfl⟩, ⟨.int (0), _, PySem.W.mg_of X G g10, ⟨_, rfl⟩, fun _ => rfl⟩, ⟨.int (256), _, PySem.W.mg_of X G g11, ⟨_, rfl⟩, fun _ => rfl⟩, ⟨.int (256), _, PySem.W.mg_of X G g12, ⟨_, rfl⟩, fun _ => rfl⟩, ⟨.int (5), _, PySem.W.mg_of X G g13, ⟨_, rfl⟩, fun _ => rfl⟩, PySem.W.mg_none_of X G b0, PySem.W.mg_none_of X G b1, PySem.W.mg_none_of X G b2, PySem.W.mg_none_of X G b3, PySem.W.mg_none_of X G b4, PySem.W.mg_none_of X G b5, PySem.W.mg_none_of X G b6, PySem.W.mg_none_of X G b7⟩
  have F0 := fun_mk (st := s_is_row_of_bytes) l0 c0 k0
  have bb0 := F0.binds (ps := ["b", "shortest", "longest"]) fun _ _ _ _ _ _ us hl => match us, hl with | [_, _, _], _ => rfl
  have I0 : FnI K mg "is_row_of_bytes" s_is_row_of_bytes ["b", "shortest", "longest"] f0 _ := ⟨F0, bb0, PySem.W.mg_of X G a0⟩
  have F1 := fun_mk (st := s_number_at) l1 c1 k1
  have bb1 := F1.binds (ps := ["b", "place", "count"]) fun _ _ _ _ _ _ us hl => match us, hl with | [_, _, _], _ => rfl
  have I1 : FnI K mg "number_at" s_number_at ["b", "place", "count"] f1 _ := ⟨F1, bb1, PySem.W.mg_of X G a1⟩
  have F2 := fun_mk (st := s_folded) l2 c2 k2
  have bb2 := F2.binds (ps := ["s"]) fun _ _ _ _ _ _ us hl => match us, hl with | [_], _ => rfl
  have I2 : FnI K mg "folded" s_folded ["s"] f2 _ := ⟨F2, bb2, PySem.W.mg_of X G a2⟩
  have F3 := fun_mk (st := s_row_sum) l3 c3 k3
  have bb3 := F3.binds (ps := ["b"]) fun _ _ _ _ _ _ us hl => match us, hl with | [_], _ => rfl
  have I3 : FnI K mg "row_sum" s_row_sum ["b"] f3 _ := ⟨F3, bb3, PySem.W.mg_of X G a3⟩
  have F4 := fun_mk (st := s_packet_may_be) l4 c4 k4
  have bb4 := F4.binds (ps := ["numbers", "body_length"]) fun _ _ _ _ _ _ us hl => match us, hl with | [_, _], _ => rfl
  have I4 : FnI K mg "packet_may_be" s_packet_may_be ["numbers", "body_length"] f4 _ := ⟨F4, bb4, PySem.W.mg_of X G a4⟩
  have F5 := fun_mk (st := s_packet_numbers) l5 c5 k5
  have bb5 := F5.binds (ps := ["b"]) fun _ _ _ _ _ _ us hl => match us, hl with | [_], _ => rfl
  have I5 : FnI K mg "packet_numbers" s_packet_numbers ["b"] f5 _ := ⟨F5, bb5, PySem.W.mg_of X G a5⟩
  have F6 := fun_mk (st := s_packet_refusal) l6 c6 k6
  have bb6 := F6.binds (ps := ["b"]) fun _ _ _ _ _ _ us hl => match us, hl with | [_], _ => rfl
  have I6 : FnI K mg "packet_refusal" s_packet_refusal ["b"] f6 _ := ⟨F6, bb6, PySem.W.mg_of X G a6⟩
  have F7 := fun_mk (st := s_shared_numbers) l7 c7 k7
  have bb7 := F7.binds (ps := ["piece"]) fun _ _ _ _ _ _ us hl => match us, hl with | [_], _ => rfl
  have I7 : FnI K mg "shared_numbers" s_shared_numbers ["piece"] f7 _ := ⟨F7, bb7, PySem.W.mg_of X G a7⟩
  have F8 := fun_mk (st := s_is_last) l8 c8 k8
  have bb8 := F8.binds (ps := ["piece"]) fun _ _ _ _ _ _ us hl => match us, hl with | [_], _ => rfl
  have I8 : FnI K mg "is_last" s_is_last ["piece"] f8 _ := ⟨F8, bb8, PySem.W.mg_of X G a8⟩
  have F9 := fun_mk (st := s_piece_start) l9 c9 k9
  have bb9 := F9.binds (ps := ["piece"]) fun _ _ _ _ _ _ us hl => match us, hl with | [_], _ => rfl
  have I9 : FnI K mg "piece_start" s_piece_start ["piece"] f9 _ := ⟨F9, bb9, PySem.W.mg_of X G a9⟩
  have F10 := fun_mk (st := s_packet_body) l10 c10 k10
  have bb10 := F10.binds (ps := ["b"]) fun _ _ _ _ _ _ us hl => match us, hl with | [_], _ => rfl
  have I10 : FnI K mg "packet_body" s_packet_body ["b"] f10 _ := ⟨F10, bb10, PySem.W.mg_of X G a10⟩
  have F11 := fun_mk (st := s_piece_end) l11 c11 k11
  have bb11 := F11.binds (ps := ["piece"]) fun _ _ _ _ _ _ us hl => match us, hl with | [_], _ => rfl
  have I11 : FnI K mg "piece_end" s_piece_end ["piece"] f11 _ := ⟨F11, bb11, PySem.W.mg_of X G a11⟩
  have F12 := fun_mk (st := s_packet_end) l12 c12 k12
  have bb12 := F12.binds (ps := ["pieces"]) fun _ _ _ _ _ _ us hl => match us, hl with | [_], _ => rfl
  have I12 : FnI K mg "packet_end" s_packet_end ["pieces"] f12 _ := ⟨F12, bb12, PySem.W.mg_of X G a12⟩
  have F13 := fun_mk (st := s_fits_end) l13 c13 k13
  have bb13 := F13.binds (ps := ["piece", "end"]) fun _ _ _ _ _ _ us hl => match us, hl with | [_, _], _ => rfl
  have I13 : FnI K mg "fits_end" s_fits_end ["piece", "end"] f13 _ := ⟨F13, bb13, PySem.W.mg_of X G a13⟩
  have F14 := fun_mk (st := s_filled_places) l14 c14 k14
  have bb14 := F14.binds (ps := ["pieces"]) fun _ _ _ _ _ _ us hl => match us, hl with | [_], _ => rfl
  have I14 : FnI K mg "filled_places" s_filled_places ["pieces"] f14 _ := ⟨F14, bb14, PySem.W.mg_of X G a14⟩
  have F15 := fun_mk (st := s_lies_in) l15 c15 k15
  have bb15 := F15.binds (ps := ["piece", "places"]) fun _ _ _ _ _ _ us hl => match us, hl with | [_, _], _ => rfl
  have I15 : FnI K mg "lies_in" s_lies_in ["piece", "places"] f15 _ := ⟨F15, bb15, PySem.W.mg_of X G a15⟩
  have F16 := fun_mk (st := s_pieces_refusal) l16 c16 k16
  have bb16 := F16.binds (ps := ["pieces"]) fun _ _ _ _ _ _ us hl => match us, hl with | [_], _ => rfl
  have I16 : FnI K mg "pieces_refusal" s_pieces_refusal ["pieces"] f16 _ := ⟨F16, bb16, PySem.W.mg_of X G a16⟩
  have F17 := fun_mk (st := s_behind_length) l17 c17 k17
  have bb17 := F17.binds (ps := ["row"]) fun _ _ _ _ _ _ us hl => match us, hl with | [_], _ => rfl
  have I17 : FnI K mg "behind_length" s_behind_length ["row"] f17 _ := ⟨F17, bb17, PySem.W.mg_of X G a17⟩
  have F18 := fun_mk (st := s_in_bytes_lowest_first) l18 c18 k18
  have bb18 := F18.binds (ps := ["number", "count"]) fun _ _ _ _ _ _ us hl => match us, hl with | [_, _], _ => rfl
  have I18 : FnI K mg "in_bytes_lowest_first" s_in_bytes_lowest_first ["number", "count"] f18 _ := ⟨F18, bb18, PySem.W.mg_of X G a18⟩
  have F19 := fun_mk (st := s_in_bytes) l19 c19 k19
  have bb19 := F19.binds (ps := ["number", "count"]) fun _ _ _ _ _ _ us hl => match us, hl with | [_, _], _ => rfl
  have I19 : FnI K mg "in_bytes" s_in_bytes ["number", "count"] f19 _ := ⟨F19, bb19, PySem.W.mg_of X G a19⟩
  have F20 := fun_mk (st := s_packet_in_bytes) l20 c20 k20
  have bb20 := F20.binds (ps := ["numbers", "body"]) fun _ _ _ _ _ _ us hl => match us, hl with | [_, _], _ => rfl
  have I20 : FnI K mg "packet_in_bytes" s_packet_in_bytes ["numbers", "body"] f20 _ := ⟨F20, bb20, PySem.W.mg_of X G a20⟩
  have F21 := fun_mk (st := s_put_together) l21 c21 k21
  have bb21 := F21.binds (ps := ["pieces"]) fun _ _ _ _ _ _ us hl => match us, hl with | [_], _ => rfl
  have I21 : FnI K mg "put_together" s_put_together ["pieces"] f21 _ := ⟨F21, bb21, PySem.W.mg_of X G a21⟩
  have F22 := fun_mk (st := s_join) l22 c22 k22
  have bb22 := F22.binds (ps := ["pieces"]) fun _ _ _ _ _ _ us hl => match us, hl with | [_], _ => rfl
  have I22 : FnI K mg "join" s_join ["pieces"] f22 _ := ⟨F22, bb22, PySem.W.mg_of X G a22⟩
  refine ⟨_, bindsTo F22 fun _ _ _ _ _ _ us hl => match us, hl with | [_], _ => rfl, fun base kb nb => ?_⟩
  have C0 : Cb P w K mg base 1 "is_row_of_bytes" ["b", "shortest", "longest"] (spF K f_is_row_of_bytes) := I0.cb (ok_is_row_of_bytes F0 T )
  have C1 : Cb P w K mg base 1 "number_at" ["b", "place", "count"] (spF K f_number_at) := I1.cb (ok_number_at F1 T )
  have C2 : Cb P w K mg base 1 "folded" ["s"] (spF K f_folded) := I2.cb (ok_folded F2 T )
  have C3 : Cb P w K mg base 2 "row_sum" ["b"] (spF K f_row_sum) := I3.cb (ok_row_sum F3 T C2)
  have C4 : Cb P w K mg base 1 "packet_may_be" ["numbers", "body_length"] (spF K f_packet_may_be) := I4.cb (ok_packet_may_be F4 T )
  have C5 : Cb P w K mg base 2 "packet_numbers" ["b"] (spF K f_packet_numbers) := I5.cb (ok_packet_numbers F5 T C1)
  have C6 : Cb P w K mg base 3 "packet_refusal" ["b"] (spF K f_packet_refusal) := I6.cb (ok_packet_refusal F6 T C0 C1 C3 C4 C5)
  have C7 : Cb P w K mg base 3 "shared_numbers" ["piece"] (spF K f_shared_numbers) := I7.cb (ok_shared_numbers F7 T C5)
  have C8 : Cb P w K mg base 3 "is_last" ["piece"] (spF K f_is_last) := I8.cb (ok_is_last F8 T C5)
  have C9 : Cb P w K mg base 3 "piece_start" ["piece"] (spF K f_piece_start) := I9.cb (ok_piece_start F9 T C5)
  have C10 : Cb P w K mg base 1 "packet_body" ["b"] (spF K f_packet_body) := I10.cb (ok_packet_body F10 T )
  have C11 : Cb P w K mg base 4 "piece_end" ["piece"] (spF K f_piece_end) := I11.cb (ok_piece_end F11 T C9 C10)
  have C12 : Cb P w K mg base 5 "packet_end" ["pieces"] (spF K f_packet_end) := I12.cb (ok_packet_end F12 T C8 C11)
  have C13 : Cb P w K mg base 5 "fits_end" ["piece", "end"] (spF K f_fits_end) := I13.cb (ok_fits_end F13 T C8 C11)
  have C14 : Cb P w K mg base 6 "filled_places" ["pieces"] (spF K f_filled_places) := I14.cb (ok_filled_places F14 T C12 C9 C10)
  have C15 : Cb P w K mg base 5 "lies_in" ["piece", "places"] (spF K f_lies_in) := I15.cb (ok_lies_in F15 T C9 C11 C10)
  have C16 : Cb P w K mg base 7 "pieces_refusal" ["pieces"] (spF K f_pieces_refusal) := I16.cb (ok_pieces_refusal F16 T C6 C7 C8 C12 C13 C14 C15)
  have C17 : Cb P w K mg base 1 "behind_length" ["row"] (spF K f_behind_length) := I17.cb (ok_behind_length F17 T )
  have C18 : Cb P w K mg base 1 "in_bytes_lowest_first" ["number", "count"] (spF K f_in_bytes_lowest_first) := I18.cb (ok_in_bytes_lowest_first F18 T )
  have C19 : Cb P w K mg base 2 "in_bytes" ["number", "count"] (spF K f_in_bytes) := I19.cb (ok_in_bytes F19 T C18)
  have C20 : Cb P w K mg base 3 "packet_in_bytes" ["numbers", "body"] (spF K f_packet_in_bytes) := I20.cb (ok_packet_in_bytes F20 T C19 C3)
  have C21 : Cb P w K mg base 7 "put_together" ["pieces"] (spF K f_put_together) := I21.cb (ok_put_together F21 T C5 C20 C14)
  exact ok_join F22 T C16 C17 C21
end Q
open PySem PySem.W PyProof.Rows
set_option maxRecDepth 100000 in
set_option maxHeartbeats 0 in
theorem PySem.Challenge.cw_campuswires_s10_join_holds : PySem.Challenge.rw_campuswires_s10_join.Holds := by
  w_on; k_headS; (case hw => exact ⟨[.list []], by decide +kernel, by decide +kernel⟩)
  k_fillS
  refine L2.walk_specK (r := PySem.Challenge.rw_campuswires_s10_join) (k := 8) (CX := L2.CX0) (ps := ["pieces"]) (sp := fun K => E.spF K Q.f_join) (by decide +kernel) rfl rfl ⟨rfl, by decide, by decide⟩ (fun w h Y => PySem.W.kIn_of Y) ?F ?S (fun _ _ _ _ z => z)
  case F =>
    intro w mg fa h Y KX G hmg
    refine' Q.all_mk KX G hmg ?zzg0 ?zzg1 ?zzg2 ?zzg3 ?zzg4 ?zzg5 ?zzg6 ?zzg7 ?zzg8 ?zzg9 ?zzg10 ?zzg11 ?zzg12 ?zzg13 ?zzb0 ?zzb1 ?zzb2 ?zzb3 ?zzb4 ?zzb5 ?zzb6 ?zzb7 ?zza0 ?zzl0 ?zzc0 ?zzk0 ?zza1 ?zzl1 ?zzc1 ?zzk1 ?zza2 ?zzl2 ?zzc2 ?zzk2 ?zza3 ?zzl3 ?zzc3 ?zzk3 ?zza4 ?zzl4 ?zzc4 ?zzk4 ?zza5 ?zzl5 ?zzc5 ?zzk5 ?zza6 ?zzl6 ?zzc6 ?zzk6 ?zza7 ?zzl7 ?zzc7 ?zzk7 ?zza8 ?zzl8 ?zzc8 ?zzk8 ?zza9 ?zzl9 ?zzc9 ?zzk9 ?zza10 ?zzl10 ?zzc10 ?zzk10 ?zza11 ?zzl11 ?zzc11 ?zzk11 ?zza12 ?zzl12 ?zzc12 ?zzk12 ?zza13 ?zzl13 ?zzc13 ?zzk13 ?zza14 ?zzl14 ?zzc14 ?zzk14 ?zza15 ?zzl15 ?zzc15 ?zzk15 ?zza16 ?zzl16 ?zzc16 ?zzk16 ?zza17 ?zzl17 ?zzc17 ?zzk17 ?zza18 ?zzl18 ?zzc18 ?zzk18 ?zza19 ?zzl19 ?zzc19 ?zzk19 ?zza20 ?zzl20 ?zzc20 ?zzk20 ?zza21 ?zzl21 ?zzc21 ?zzk21 ?zza22 ?zzl22 ?zzc22 ?zzk22
    (case zzg0 => k_is)
    (case zzg1 => k_is)
    (case zzg2 => k_is)
    (case zzg3 => k_is)
    (case zzg4 => k_is)
    (case zzg5 => k_is)
    (case zzg6 => k_is)
    (case zzg7 => k_is)
    (case zzg8 => k_is)
    (case zzg9 => k_is)
    (case zzg10 => k_is)
    (case zzg11 => k_is)
    (case zzg12 => k_is)
    (case zzg13 => k_is)
    (case zzb0 => k_is)
    (case zzb1 => k_is)
    (case zzb2 => k_is)
    (case zzb3 => k_is)
    (case zzb4 => k_is)
    (case zzb5 => k_is)
    (case zzb6 => k_is)
    (case zzb7 => k_is)
    (case zza0 => k_is)
    (case zzl0 => k_is)
    (case zzc0 => k_is)
    (case zzk0 => k_is)
    (case zza1 => k_is)
    (case zzl1 => k_is)
    (case zzc1 => k_is)
    (case zzk1 => k_is)
    (case zza2 => k_is)
    (case zzl2 => k_is)
    (case zzc2 => k_is)
    (case zzk2 => k_is)
    (case zza3 => k_is)
    (case zzl3 => k_is)
    (case zzc3 => k_is)
    (case zzk3 => k_is)
    (case zza4 => k_is)
    (case zzl4 => k_is)
    (case zzc4 => k_is)
    (case zzk4 => k_is)
    (case zza5 => k_is)
    (case zzl5 => k_is)
    (case zzc5 => k_is)
    (case zzk5 => k_is)
    (case zza6 => k_is)
    (case zzl6 => k_is)
    (case zzc6 => k_is)
    (case zzk6 => k_is)
    (case zza7 => k_is)
    (case zzl7 => k_is)
    (case zzc7 => k_is)
    (case zzk7 => k_is)
    (case zza8 => k_is)
    (case zzl8 => k_is)
    (case zzc8 => k_is)
    (case zzk8 => k_is)
    (case zza9 => k_is)
    (case zzl9 => k_is)
    (case zzc9 => k_is)
    (case zzk9 => k_is)
    (case zza10 => k_is)
    (case zzl10 => k_is)
    (case zzc10 => k_is)
    (case zzk10 => k_is)
    (case zza11 => k_is)
    (case zzl11 => k_is)
    (case zzc11 => k_is)
    (case zzk11 => k_is)
    (case zza12 => k_is)
    (case zzl12 => k_is)
    (case zzc12 => k_is)
    (case zzk12 => k_is)
    (case zza13 => k_is)
    (case zzl13 => k_is)
    (case zzc13 => k_is)
    (case zzk13 => k_is)
    (case zza14 => k_is)
    (case zzl14 => k_is)
    (case zzc14 => k_is)
    (case zzk14 => k_is)
    (case zza15 => k_is)
    (case zzl15 => k_is)
    (case zzc15 => k_is)
    (case zzk15 => k_is)
    (case zza16 => k_is)
    (case zzl16 => k_is)
    (case zzc16 => k_is)
    (case zzk16 => k_is)
    (case zza17 => k_is)
    (case zzl17 => k_is)
    (case zzc17 => k_is)
    (case zzk17 => k_is)
    (case zza18 => k_is)
    (case zzl18 => k_is)
    (case zzc18 => k_is)
    (case zzk18 => k_is)
    (case zza19 => k_is)
    (case zzl19 => k_is)
    (case zzc19 => k_is)
    (case zzk19 => k_is)
    (case zza20 => k_is)
    (case zzl20 => k_is)
    (case zzc20 => k_is)
    (case zzk20 => k_is)
    (case zza21 => k_is)
    (case zzl21 => k_is)
    (case zzc21 => k_is)
    (case zzk21 => k_is)
    (case zza22 => k_is)
    (case zzl22 => k_is)
    (case zzc22 => k_is)
    (case zzk22 => k_is)
  case S =>
    intro K H xs a hO hwi hask hx
    cases hx with | cons h0 hx =>
    cases h0 with | lst hs0 ha0 =>
    cases hx
    refine ⟨[E.D.ll a.1], _, (.cons ⟨_, _, rfl, hs0, E.dw_ll a.1 _ ha0⟩ .nil), ⟨a.1, rfl, rfl⟩, fun v H' _ n => ?_⟩
    obtain ⟨p, rfl, _, hp⟩ := n
    exact .lst (L2.SqL.of hp) (L2.dw_ints _)
#print axioms PySem.Challenge.cw_campuswires_s10_join_holds
