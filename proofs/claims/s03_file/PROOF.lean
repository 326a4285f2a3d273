import PyProof.Rows.All
import Wide.All
import OpenK.AllK
import Wide.FinOn
import PyProof.EqAt
import PyProof.EqKinds
import PyProof.TupleCall
import KE.BitLaws
import Open.SpecLaws
import KE.OsHead
import KE.OsGo
import PySem.Challenge.RW_discimages_s03_file
-- CHANGE: your row's module here, as the last of these rows
set_option Elab.async false
set_option linter.all false
set_option maxRecDepth 100000
namespace L2
open PySem PySem.Spec PyProof.Rows
abbrev Key := Sum Int Str
def keyIs : Key → Value → Bool
  | .inl k, v => Value.isInt k v
  | .inr x, v => Value.isStrOf x v
def keyH (w : World) : Key → Int
  | .inl k => hashInt k
  | .inr x => hashStr w x
theorem keyIs_shape : ∀ {k : Key} {v : Value}, keyIs k v = true → (∃ i t, k = Sum.inl i ∧ v = Value.int i t) ∨ (∃ x t, k = Sum.inr x ∧ v = Value.str x t)
  | .inl i, v, h => by
    obtain ⟨t, e⟩ := Value.isInt_shape (k := i) (v := v) h
    exact .inl ⟨i, t, rfl, e⟩
  | .inr x, v, h => by
    obtain ⟨t, e⟩ := Value.isStrOf_shape (x := x) (v := v) h
    exact .inr ⟨x, t, rfl, e⟩
theorem key_ll (a b : Int) : decide ((Sum.inl a : Key) = Sum.inl b) = (a == b) := by
  by_cases e : a = b
  · subst e; simp
  · have h : ¬ (Sum.inl a : Key) = Sum.inl b := fun q => e (Sum.inl.inj q)
    rw [decide_eq_false h]
    exact (beq_eq_false_iff_ne.mpr e).symm
theorem key_rr (a b : Str) : decide ((Sum.inr a : Key) = Sum.inr b) = decide (a = b) := by
  by_cases e : a = b
  · subst e; simp
  · have h : ¬ (Sum.inr a : Key) = Sum.inr b := fun q => e (Sum.inr.inj q)
    rw [decide_eq_false h, decide_eq_false e]
theorem key_lr (a : Int) (b : Str) : decide ((Sum.inl a : Key) = Sum.inr b) = false := decide_eq_false (fun q => nomatch q)
theorem key_rl (a : Str) (b : Int) : decide ((Sum.inr a : Key) = Sum.inl b) = false := decide_eq_false (fun q => nomatch q)
def mixKind (prog : Program) (w : World) : PySem.KeyKind prog w Key where
  is := keyIs
  hash := keyH w
  inj := fun v a b ha hb => by
    rcases keyIs_shape ha with ⟨i, t, rfl, rfl⟩ | ⟨x, t, rfl, rfl⟩
    · rcases keyIs_shape hb with ⟨j, u, rfl, e⟩ | ⟨y, u, rfl, e⟩
      · injection e with e1 _; rw [e1]
      · exact nomatch e
    · rcases keyIs_shape hb with ⟨j, u, rfl, e⟩ | ⟨y, u, rfl, e⟩
      · exact nomatch e
      · injection e with e1 _; rw [e1]
  byValue := fun k v h => by
    rcases keyIs_shape h with ⟨i, t, rfl, rfl⟩ | ⟨x, t, rfl, rfl⟩ <;> rfl
  pyHash := fun hv h => by
    rcases keyIs_shape hv with ⟨i, t, rfl, rfl⟩ | ⟨x, t, rfl, rfl⟩
    · exact wpAny_pyHash_int h
    · exact wpAny_pyHash_str h
  eqBool := fun hu hv h => by
    rcases keyIs_shape hu with ⟨i, t, rfl, rfl⟩ | ⟨x, t, rfl, rfl⟩
    · rcases keyIs_shape hv with ⟨j, u, rfl, rfl⟩ | ⟨y, u, rfl, rfl⟩
      · rw [key_ll] at h; exact wpAny_eqBool_int h
      · rw [key_lr] at h; exact SeqAt.EqAt.int_str i t y u _ _ _ _ h
    · rcases keyIs_shape hv with ⟨j, u, rfl, rfl⟩ | ⟨y, u, rfl, rfl⟩
      · rw [key_rl] at h; exact SeqAt.EqAt.str_int x t j u _ _ _ _ h
      · rw [key_rr] at h; exact wpAny_eqBool_str h
  «strs» := fun k x t v h => by
    rcases keyIs_shape h with ⟨i, u, rfl, e⟩ | ⟨y, u, rfl, e⟩
    · exact nomatch e
    · injection e with e1 _
      subst e1
      cases v <;> rfl
end L2
namespace L2
open PySem PySem.Spec PyProof.Rows
inductive V where
  | non | bl (b : Bool) | int (i : Int) | str (x : Str) | byt (b : Array UInt8) | flt (b : UInt64) | ref (a : Addr) | ty (n : String)
  deriving DecidableEq
def RelV : V → Value → Prop
  | .non, u => u = Value.none
  | .bl b, u => u = Value.bool b
  | .int i, u => ∃ t, u = Value.int i t
  | .str x, u => ∃ t, u = Value.str x t
  | .byt b, u => ∃ t, u = Value.bytes b t
  | .flt b, u => ∃ t, u = Value.float b t
  | .ref a, u => u = Value.ref a
  | .ty n, u => u = Value.type n
abbrev Vals : List V → List Value → Prop := Paired RelV
theorem Vals.length {xs : List V} {us : List Value} (r : Vals xs us) : xs.length = us.length := Paired.length r
theorem Vals.get : ∀ {xs : List V} {us : List Value} {i : Nat} {x : V}, Vals xs us → xs[i]? = some x → ∃ u, us[i]? = some u ∧ RelV x u
  | _, _, _, _, .nil, e => by simp at e
  | _, _, 0, _, .cons r _, e => by simp at e; subst e; exact ⟨_, rfl, r⟩
  | _, _, i + 1, x, .cons _ t, e => by
    obtain ⟨u, h1, h2⟩ := Vals.get (i := i) (x := x) t (by simpa using e)
    exact ⟨u, by simpa using h1, h2⟩
theorem Vals.append : ∀ {xs ys : List V} {us ws : List Value}, Vals xs us → Vals ys ws → Vals (xs ++ ys) (us ++ ws)
  | _, _, _, _, .nil, s => s
  | _, _, _, _, .cons r t, s => .cons r (Vals.append t s)
theorem Vals.take : ∀ {xs : List V} {us : List Value} (n : Nat), Vals xs us → Vals (xs.take n) (us.take n)
  | _, _, 0, _ => .nil
  | _, _, _ + 1, .nil => .nil
  | _, _, n + 1, .cons r t => .cons r (Vals.take n t)
theorem Vals.drop : ∀ {xs : List V} {us : List Value} (n : Nat), Vals xs us → Vals (xs.drop n) (us.drop n)
  | _, _, 0, r => r
  | _, _, _ + 1, .nil => .nil
  | _, _, n + 1, .cons _ t => Vals.drop n t
def RelO : Option V → Option Value → Prop
  | some v, some u => RelV v u
  | none, none => True
  | _, _ => False
def KV {κ : Type} : List (κ × V) → List (κ × Value) → Prop := Paired fun (p : κ × V) (q : κ × Value) => p.1 = q.1 ∧ RelV p.2 q.2
def kV : Key → V
  | .inl i => .int i
  | .inr x => .str x
inductive HO where
  /-- a list -/
  | lst (xs : List V)
  /-- a tuple (never changes) -/
  | tup (xs : List V)
  /-- a dict whose keys are ints and texts; one whose keys are tuples of ints and texts (the empty one is both) -/
  | dK (kvs : List (Key × V)) | dT (kvs : List (List Key × V))
  /-- a set of ints: its members, its size -/
  | set (S : Int → Bool) (n : Nat)
  /-- an instance of the class at C, its dict at dx, its attributes -/
  | ins (C dx : Addr) (fs : List (Str × V))
  /-- the dict of the instance at x -/
  | own (x : Addr)
  /-- the dict of an exception -/
  | xd (fs : List (Str × V))
  /-- a bound method, f of x -/
  | met (f x : Addr)
  /-- a range object lo, lo + 1, .. below hi -/
  | rng (lo hi : Int)
  /-- a thing that is known to the object (the script; a dict while a loop walks it): read, never written while it is so -/
  | frz (o : Obj) (u : HO)
  /-- a code object's table -/
  | tbl (ps : Array Value)
  /-- any other thing, by what is true of its one object (a def of one's own: SetO a S n := HO.ext fun h => ..) -/
  | ext (φ : Heap → Prop)
abbrev Hp := Addr → Option HO
def upd (H : Hp) (a : Addr) (o : HO) : Hp := fun b => if b = a then some o else H b
theorem upd_same {H : Hp} {a : Addr} {o : HO} : upd H a o a = some o := by unfold upd; rw [if_pos rfl]
theorem upd_ne {H : Hp} {a b : Addr} {o : HO} (h : b ≠ a) : upd H a o b = H b := by unfold upd; rw [if_neg h]
theorem ne_of {H : Hp} {a b : Addr} {o u : HO} (h : H a = some o) (h' : H b = some u) (d : o ≠ u) : a ≠ b := by
  intro e; subst e; rw [h] at h'; exact d (Option.some.inj h')
theorem ne_of_none {H : Hp} {a b : Addr} {o : HO} (h : H a = some o) (h' : H b = none) : a ≠ b := by
  intro e; subst e; rw [h] at h'; cases h'
section
variable (P : Program) (w : World)
def ObjOk (H : Hp) (h : Heap) (a : Addr) : HO → Prop
  | .lst xs => xs.length ≤ sizeLine ∧ ∃ (its : List Value) (n : Nat), Vals xs its ∧ h.get? a = some { cls := .type "list", data := .seq its.toArray n }
  | .tup xs => xs.length ≤ sizeLine ∧ ∃ its : List Value, Vals xs its ∧ IsTup h a its.toArray
  | .dK kvs => kvs.length ≤ sizeLine ∧ (a == sysModules) = false ∧ ∃ vs, KV kvs vs ∧ h.DictOf (mixKind P w) a vs
  | .dT kvs => kvs.length ≤ sizeLine ∧ (a == sysModules) = false ∧ ∃ xs : List (List Key × Addr × Value),
      Paired (fun (p : List Key × V) (q : List Key × Addr × Value) => p.1 = q.1 ∧ H q.2.1 = some (.tup (p.1.map kV)) ∧ RelV p.2 q.2.2) kvs xs ∧
      ∃ o es ep, h.get? a = some o ∧ o.ExactDict ∧ o.data = .dict es ep ∧ es.toList = xs.map (entryOfKey (tupleKind (mixKind P w))) ∧ (xs.map (·.1)).Nodup
  | .set S n => h.SetOf (intKind P w) a S n
  | .ins C dx fs => H dx = some (.own a) ∧ fs.length ≤ 1000 ∧ dx ≠ a ∧ h.get? a = some (PySem.W.instObj C dx) ∧
      ∃ mA, h.Ns1 dx mA ∧ (∀ f, RelO (fs.lookup f) (mA f)) ∧ PySem.Within mA (fs.map (·.1))
  | .own _ => ∃ o, h.get? a = some o
  | .xd fs => ∃ mA, h.Ns1 a mA ∧ ∀ f, RelO (fs.lookup f) (mA f)
  | .rng lo hi => ∃ t u v, h.get? a = some { cls := .type "range", data := .fields #[.int lo t, .int hi u, .int 1 v] }
  | .frz o u => h.get? a = some o ∧ ObjOk H h a u
  | .tbl ps => h.get? a = some { cls := .none, data := .fields ps }
  | .met f x => h.get? a = some (PySem.W.methodObj (.ref f) (.ref x))
  | .ext φ => φ h ∧ (∃ o, h.get? a = some o) ∧ ∀ h1 h2 : Heap, φ h1 → (∀ o, h1.get? a = some o → h2.get? a = some o) → φ h2
def HOk (H : Hp) (h : Heap) : Prop := ∀ a o, H a = some o → ObjOk P w H h a o
end
section
variable {P : Program} {w : World} {H H' : Hp} {h h' : Heap} {a : Addr} {o : HO}
theorem ObjOk.lt (x : ObjOk P w H h a o) : a < h.objs.size := by
  cases o with
  | lst xs => obtain ⟨_, _, _, _, e⟩ := x; exact Heap.lt_size e
  | tup xs => obtain ⟨_, _, _, p⟩ := x; exact p.lt
  | dK kvs => obtain ⟨_, _, _, _, o, _, _, e, _⟩ := x; exact Heap.lt_size e
  | dT kvs => obtain ⟨_, _, _, _, o, _, _, e, _⟩ := x; exact Heap.lt_size e
  | set S n => obtain ⟨o, _, _, _, e, _⟩ := x; exact Heap.lt_size e
  | ins C dx fs => obtain ⟨_, _, _, e, _⟩ := x; exact Heap.lt_size e
  | own y => obtain ⟨_, e⟩ := x; exact Heap.lt_size e
  | xd fs => obtain ⟨_, ⟨_, _, _, e, _⟩, _⟩ := x; exact Heap.lt_size e
  | rng lo hi => obtain ⟨_, _, _, e⟩ := x; exact Heap.lt_size e
  | frz ob u => obtain ⟨e, _⟩ := x; exact Heap.lt_size e
  | tbl ps => exact Heap.lt_size (show h.get? a = some _ from x)
  | met f y => exact Heap.lt_size (show h.get? a = some _ from x)
  | ext φ => obtain ⟨_, ⟨_, e⟩, _⟩ := x; exact Heap.lt_size e
theorem Paired.mapP {α β : Type} {F G : α → β → Prop} : ∀ {l₁ : List α} {l₂ : List β}, Paired F l₁ l₂ → (∀ a b, F a b → G a b) → Paired G l₁ l₂
  | _, _, .nil, _ => .nil
  | _, _, .cons r t, f => .cons (f _ _ r) (Paired.mapP t f)
theorem ObjOk.stay (x : ObjOk P w H h a o) (k : ∀ b u, (b = a ∨ H b = some (.own a)) → h.get? b = some u → h'.get? b = some u)
    (ho : ∀ b, H b = some (.own a) → H' b = some (.own a)) (ht : ∀ b xs, H b = some (.tup xs) → H' b = some (.tup xs)) : ObjOk P w H' h' a o := by
  induction o with
  | lst xs => obtain ⟨z, its, n, r, e⟩ := x; exact ⟨z, its, n, r, k _ _ (.inl rfl) e⟩
  | tup xs => obtain ⟨z, its, r, ob, e, c⟩ := x; exact ⟨z, its, r, ob, k _ _ (.inl rfl) e, c⟩
  | dK kvs => obtain ⟨z, y, vs, r, ob, es, ep, e, c⟩ := x; exact ⟨z, y, vs, r, ob, es, ep, k _ _ (.inl rfl) e, c⟩
  | dT kvs =>
    obtain ⟨z, y, xs, r, ob, es, ep, e, c⟩ := x
    exact ⟨z, y, xs, Paired.mapP r fun p q z => ⟨z.1, ht _ _ z.2.1, z.2.2⟩, ob, es, ep, k _ _ (.inl rfl) e, c⟩
  | set S n => obtain ⟨ob, es, ep, t, e, c⟩ := x; exact ⟨ob, es, ep, t, k _ _ (.inl rfl) e, c⟩
  | ins C dx fs =>
    obtain ⟨d, z, ne, e, mA, ⟨od, es, ep, e2, c⟩, r⟩ := x
    exact ⟨ho _ d, z, ne, k _ _ (.inl rfl) e, mA, ⟨od, es, ep, k _ _ (.inr d) e2, c⟩, r⟩
  | own y => obtain ⟨ob, e⟩ := x; exact ⟨ob, k _ _ (.inl rfl) e⟩
  | xd fs => obtain ⟨mA, ⟨od, es, ep, e, c⟩, r⟩ := x; exact ⟨mA, ⟨od, es, ep, k _ _ (.inl rfl) e, c⟩, r⟩
  | rng lo hi => obtain ⟨t, u, v, e⟩ := x; exact ⟨t, u, v, k _ _ (.inl rfl) e⟩
  | frz ob u ih => obtain ⟨e, q⟩ := x; exact ⟨k _ _ (.inl rfl) e, ih q⟩
  | tbl ps =>
    have e : h.get? a = some { cls := .none, data := .fields ps } := x
    show h'.get? a = some { cls := .none, data := .fields ps }
    exact k a _ (.inl rfl) e
  | met f y =>
    have e : h.get? a = some (PySem.W.methodObj (.ref f) (.ref y)) := x
    show h'.get? a = some (PySem.W.methodObj (.ref f) (.ref y))
    exact k a _ (.inl rfl) e
  | ext φ => obtain ⟨p, ⟨o, e⟩, st⟩ := x; exact ⟨st _ _ p fun o q => k _ _ (.inl rfl) q, ⟨o, k _ _ (.inl rfl) e⟩, st⟩
theorem HOk.lt (x : HOk P w H h) (e : H a = some o) : a < h.objs.size := (x a o e).lt
theorem HOk.fresh (x : HOk P w H h) (e : h.objs.size ≤ a) : H a = none := by
  cases q : H a with
  | none => rfl
  | some u => exact absurd (Nat.lt_of_lt_of_le (x.lt q) e) (Nat.lt_irrefl _)
theorem HOk.kept (x : HOk P w H h) (k : ∀ b u, h.get? b = some u → h'.get? b = some u) : HOk P w H h' := fun a o e =>
  (x a o e).stay (fun b u _ q => k b u q) (fun _ q => q) fun _ _ q => q
theorem HOk.laid (x : HOk P w H h) (k : ∀ b u, h.get? b = some u → h'.get? b = some u) (hp : h.objs.size ≤ a) (new : ObjOk P w (upd H a o) h' a o) : HOk P w (upd H a o) h' := fun b u e => by
  have hn := x.fresh hp
  by_cases hb : b = a
  · subst hb; rw [upd_same] at e; cases e; exact new
  · rw [upd_ne hb] at e
    exact (x b u e).stay (fun c v _ q => k c v q) (fun c q => by rw [upd_ne (ne_of_none q hn)]; exact q) fun c xs q => by rw [upd_ne (ne_of_none q hn)]; exact q
end
def Rd (H : Hp) (a : Addr) (u : HO) : Prop := H a = some u ∨ ∃ o, H a = some (.frz o u)
theorem Rd.ok {P : Program} {w : World} {H : Hp} {h : Heap} {a : Addr} {u : HO} (r : Rd H a u) (x : HOk P w H h) : ObjOk P w H h a u := by
  rcases r with r | ⟨o, r⟩
  · exact x a u r
  · obtain ⟨_, q⟩ := x a _ r
    exact q
def Mut : Option HO → Prop
  | some (.lst _) => True
  | some (.dK _) => True
  | some (.dT _) => True
  | some (.set _ _) => True
  | some (.ins _ _ _) => True
  | some (.ext _) => True
  | _ => False
section
variable {P : Program} {w : World} {H : Hp} {h h' : Heap} {x e : Addr} {o' : HO}
theorem HOk.write (ok : HOk P w H h) (mu : Mut (H x)) (he : e = x ∨ H e = some (.own x)) (k : ∀ b u, b ≠ e → h.get? b = some u → h'.get? b = some u) (heo : ∃ u, h'.get? e = some u)
    (new : ObjOk P w (upd H x o') h' x o') : HOk P w (upd H x o') h' := fun b u q => by
  have nown : ∀ c y, H c = some (.own y) → c ≠ x := fun c y r z => by subst z; rw [r] at mu; exact mu
  have ntup : ∀ c xs, H c = some (.tup xs) → c ≠ x := fun c xs r z => by subst z; rw [r] at mu; exact mu
  by_cases hb : b = x
  · subst hb; rw [upd_same] at q; cases q; exact new
  · rw [upd_ne hb] at q
    by_cases hbe : b = e
    · have q' : H b = some (.own x) := by
        rcases he with z | z
        · exact absurd (hbe.trans z) hb
        · rw [hbe]; exact z
      rw [q] at q'; cases q'
      obtain ⟨v, hv⟩ := heo
      exact ⟨v, by rw [hbe]; exact hv⟩
    · refine (ok b u q).stay (fun c v hc r => k c v ?_ r) (fun c r => by rw [upd_ne (nown c b r)]; exact r) fun c xs r => by rw [upd_ne (ntup c xs r)]; exact r
      rcases hc with rfl | hc
      · exact hbe
      · rintro rfl
        rcases he with z | z
        · exact nown c b hc z
        · rw [hc] at z; cases z; exact hb rfl
end
structure Un (fs ex : List Addr) (H H' : Hp) (h h' : Heap) : Prop where
  keep : ∀ b o, h.get? b = some o → H b = none → b ∉ fs → b ∉ ex → h'.get? b = some o
  slot : ∀ b o, h.get? b = some o → H b = none → b ∈ fs → b ∉ ex → ∃ sl, h'.get? b = some { o with slots := sl }
  free : ∀ b o, h.get? b = some o → H b = none → b ∉ ex → H' b = none
  there : ∀ b o, h.get? b = some o → b ∉ ex → ∃ o', h'.get? b = some o'
  tups : ∀ b xs, H b = some (.tup xs) → H' b = some (.tup xs)
  frzs : ∀ b o u, H b = some (.frz o u) → H' b = some (.frz o u)
  tbls : ∀ b ps, H b = some (.tbl ps) → ∃ more, H' b = some (.tbl (ps ++ more))
section
variable {fs fs' ex ex' : List Addr} {H H1 H2 : Hp} {h h1 h2 h' : Heap} {a x e : Addr} {o : HO}
theorem Un.any (u : Un fs ex H H1 h h1) {b : Addr} {ob : Obj} (q : h.get? b = some ob) (n : H b = none) (hx : b ∉ ex) : ∃ sl, h1.get? b = some { ob with slots := sl } := by
  by_cases hb : b ∈ fs
  · exact u.slot b ob q n hb hx
  · exact ⟨ob.slots, u.keep b ob q n hb hx⟩
theorem Un.kept (k : ∀ b u, h.get? b = some u → h'.get? b = some u) : Un fs ex H H h h' :=
  ⟨fun b ob q _ _ _ => k b ob q, fun b ob q _ _ _ => ⟨ob.slots, k b ob q⟩, fun _ _ _ n _ => n, fun b ob q _ => ⟨ob, k b ob q⟩, fun _ _ q => q, fun _ _ _ q => q, fun _ ps q => ⟨#[], by rw [q]; simp⟩⟩
theorem Un.refl : Un fs ex H H h h := Un.kept fun _ _ q => q
theorem Un.laid (k : ∀ b u, h.get? b = some u → h'.get? b = some u) (hp : h.objs.size ≤ a) (hn : H a = none) : Un fs ex H (upd H a o) h h' where
  keep := fun b u q _ _ _ => k b u q
  slot := fun b u q _ _ _ => ⟨u.slots, k b u q⟩
  free := fun b u q n _ => by rw [upd_ne (Nat.ne_of_lt (Nat.lt_of_lt_of_le (Heap.lt_size q) hp))]; exact n
  there := fun b u q _ => ⟨u, k b u q⟩
  tups := fun b xs q => by rw [upd_ne (ne_of_none q hn)]; exact q
  frzs := fun b u xs q => by rw [upd_ne (ne_of_none q hn)]; exact q
  tbls := fun b ps q => ⟨#[], by rw [upd_ne (ne_of_none q hn), q]; simp⟩
theorem Un.write (mu : Mut (H x)) (he : e = x ∨ H e = some (.own x)) (k : ∀ b u, b ≠ e → h.get? b = some u → h'.get? b = some u) (heo : ∃ u, h'.get? e = some u) : Un fs ex H (upd H x o) h h' := by
  have hx : ∀ b, H b = none → b ≠ x := fun b n z => by subst z; rw [n] at mu; exact mu
  have hb : ∀ b, H b = none → b ≠ e := fun b n z => by
    subst z
    rcases he with r | r
    · exact hx b n r
    · rw [n] at r; cases r
  have hm : ∀ b u, H b = some u → ¬ Mut (some u) → b ≠ x := fun b u q nm z => by subst z; rw [q] at mu; exact nm mu
  refine ⟨fun b u q n _ _ => k b u (hb b n) q, fun b u q n _ _ => ⟨u.slots, k b u (hb b n) q⟩, fun b u q n _ => by rw [upd_ne (hx b n)]; exact n, fun b u q _ => ?_,
    fun b xs q => by rw [upd_ne (hm b _ q fun z => z)]; exact q, fun b u xs q => by rw [upd_ne (hm b _ q fun z => z)]; exact q, fun b ps q => ⟨#[], by rw [upd_ne (hm b _ q fun z => z), q]; simp⟩⟩
  by_cases hbe : b = e
  · subst hbe; exact heo
  · exact ⟨u, k b u hbe q⟩
end
def trk (h : Heap) (H : Hp) : List Addr := (List.range h.objs.size).filter fun a => (H a).isSome
def hidT (h : Heap) (H : Hp) : Heap := PySem.W.hideAll h (trk h H)
theorem hidT_size (h : Heap) (H : Hp) : (hidT h H).objs.size = h.objs.size := PySem.W.hideAll_size _ _
theorem hidT_get {h : Heap} {H : Hp} {b : Addr} {o : Obj} (e : h.get? b = some o) (n : H b = none) : (hidT h H).get? b = some o :=
  PySem.W.hideAll_get _ e fun hm => by
    have q : (H b).isSome = true := (List.mem_filter.mp hm).2
    rw [n] at q; simp at q
theorem of_hidT {h : Heap} {H : Hp} {b : Addr} {o : Obj} (e : (hidT h H).get? b = some o) : h.get? b = some o ∧ H b = none := by
  have e' : h.get? b = some o := PySem.W.of_hideAll (trk h H) e
  refine ⟨e', ?_⟩
  cases q : H b with
  | none => rfl
  | some x =>
    have hm : b ∈ trk h H := List.mem_filter.mpr ⟨List.mem_range.mpr (Heap.lt_size e'), by simp [q]⟩
    have z : (hidT h H).get? b = none := PySem.W.hideAll_none (trk h H) hm
    rw [z] at e; cases e
def allNews (g h : Heap) (L : Addr) : List (Addr × Obj) := (List.range h.objs.size).filterMap fun a => if a = L ∨ (g.get? a).isSome = true then none else (h.get? a).map fun o => (a, o)
def rest (g h : Heap) (L d : Addr) : List (Addr × Obj) := (allNews g h L).filter fun p => decide (p.1 ≠ d)
end L2
namespace L2
open PySem PySem.Spec PyProof.Rows
structure Mod (K : PySem.W.Frag) (mg : Str → Option Value) (base : Heap) : Prop where
  kin : K.In base
  glob : base.Ns mainGlobals mg
  blt : ∃ mb, base.Ns builtinsNs mb ∧ ∀ x : Str, x ≠ "__name__" → mb x = bootBuiltins x
  nolimit : base.NoLimit
structure Cx where
  prog : Program
  w : World
  K : PySem.W.Frag
  mg : Str → Option Value
  base : Heap
  A : Around
  N : List Str
  s_0 : Shared
  H_0 : Hp
  env : Env
  outer : List Env
  stack : List Env
  ex : List Addr
  fn : Str → Bool
  calm : Bool
  pn : List (Addr × Obj)
  xe : Value → Shared → Prop
def frs (l : List Env) : List Addr := l.filterMap (·.frame)
abbrev Cx.fs (X : Cx) : List Addr := frs X.outer
def Vis (sc : Scope) (x : Str) : Prop := sc.names.lookup x = some .local ∨ sc.names.lookup x = some .cell ∨ sc.names.lookup x = some .free
def Loc (sc : Scope) (x : Str) : Prop := sc.names.lookup x = some .local ∨ sc.names.lookup x = some .cell
def Look (env : Env) (h : Heap) (m : Str → Option Value) (x : Str) (u : Value) : Prop :=
  (env.kindOf x = some .local ∧ m x = some u) ∨ ((env.kindOf x = some .cell ∨ env.kindOf x = some .free) ∧ ∃ c, env.cells.lookup x = some c ∧ h.IsCell c (some u))
structure Cx.Ok (X : Cx) : Prop where
  mod : Mod X.K X.mg X.base
  kind : X.env.scope.kind = .function
  glob : X.env.globals = mainGlobals
  blt : X.env.builtins = builtinsNs
  above : X.s_0.heap.objs.size ≤ X.env.locals
  inj : ∀ x y c, X.env.cells.lookup x = some c → X.env.cells.lookup y = some c → x = y
  has : ∀ x, (X.env.kindOf x = some .cell ∨ X.env.kindOf x = some .free) → ∃ c, X.env.cells.lookup x = some c
  cab : ∀ x c, X.fn x = true → X.env.cells.lookup x = some c → X.s_0.heap.objs.size ≤ c
  hd : X.calm = true → X.A.handled = none
  frames : X.A.frames = some X.stack
  stk : X.stack = X.outer ∨ (X.stack = X.env :: X.outer ∧ X.env.frame = some X.env.locals)
  exf : ∀ b ∈ X.ex, b ≠ X.env.locals ∧ ∀ x c, X.env.cells.lookup x = some c → c ≠ b
  bs : ∀ b o, X.base.get? b = some o → X.s_0.heap.get? b = some o ∧ X.H_0 b = none
  bsz : X.base.objs.size ≤ X.s_0.heap.objs.size
  noex : ∀ b o, X.base.get? b = some o → b ∉ X.ex
  exfs : ∀ b ∈ X.ex, b ∉ X.fs
  funs : X.s_0.heap.FunFrames X.base X.outer
  frf : ∀ b ∈ X.fs, X.H_0 b = none
structure Inv (X : Cx) (pins : List (Addr × Obj)) (σ : List (Option V)) (H : Hp) (s : Shared) : Prop where
  ok : X.Ok
  os : s.os = X.s_0.os
  bare : AllBare s.gens
  base : Un X.fs X.ex X.H_0 H X.s_0.heap s.heap
  loc : ∃ m, s.heap.Ns X.env.locals m ∧ ∀ (i : Nat) (x : Str) (v : V), X.N[i]? = some x → σ[i]? = some (some v) → Vis X.env.scope x → ∃ u, RelV v u ∧ Look X.env s.heap m x u
  cell : ∀ x c, X.env.cells.lookup x = some c → ∃ v, s.heap.IsCell c v
  free : H X.env.locals = none
  freeC : ∀ x c, X.env.cells.lookup x = some c → H c = none
  pin : ∀ p ∈ X.pn ++ pins, s.heap.get? p.1 = some p.2 ∧ H p.1 = none ∧ p.1 ≠ X.env.locals ∧ p.1 ∉ X.fs ∧ ∀ v, p.2.data ≠ .cell v
  hok : HOk X.prog X.w H s.heap
  len : σ.length = X.N.length
section
variable {X : Cx} {pins : List (Addr × Obj)} {σ : List (Option V)} {H H' : Hp} {s : Shared} {h' : Heap}
theorem Cx.Ok.nofr (ok : X.Ok) {b : Addr} {o : Obj} (e : X.base.get? b = some o) : b ∉ X.fs := fun hb => by
  have := (ok.funs.mem hb).1
  rw [e] at this; cases this
theorem Inv.bs (I : Inv X pins σ H s) : ∀ b o, X.base.get? b = some o → s.heap.get? b = some o ∧ H b = none := fun b o e =>
  ⟨I.base.keep b o (I.ok.bs b o e).1 (I.ok.bs b o e).2 (I.ok.nofr e) (I.ok.noex b o e), I.base.free b o (I.ok.bs b o e).1 (I.ok.bs b o e).2 (I.ok.noex b o e)⟩
theorem Inv.bk (I : Inv X pins σ H s) : ∀ b o, X.base.get? b = some o → s.heap.get? b = some o := fun b o e => (I.bs b o e).1
theorem Inv.mod (I : Inv X pins σ H s) : Mod X.K X.mg X.base := I.ok.mod
theorem Inv.kIn (I : Inv X pins σ H s) : X.K.In s.heap := I.ok.mod.kin.keeps I.bk
theorem Inv.fr (I : Inv X pins σ H s) : ∃ m, Fr X.base X.env.locals s.heap m :=
  let ⟨m, hn, _⟩ := I.loc
  ⟨m, hn, I.bk, Nat.le_trans I.ok.bsz I.ok.above⟩
theorem Inv.lt (I : Inv X pins σ H s) : X.env.locals < s.heap.objs.size := let ⟨_, hn, _⟩ := I.loc; hn.lt
theorem Inv.sz (I : Inv X pins σ H s) : X.s_0.heap.objs.size ≤ s.heap.objs.size := Nat.le_trans I.ok.above (Nat.le_of_lt I.lt)
theorem Inv.nofs (I : Inv X pins σ H s) {a : Addr} (h : s.heap.objs.size ≤ a) : a ∉ X.fs := fun hb => by
  obtain ⟨_, o, ho, _⟩ := I.ok.funs.mem hb
  exact absurd (Nat.lt_of_lt_of_le (Heap.lt_size ho) (Nat.le_trans I.sz h)) (Nat.lt_irrefl _)
theorem Inv.cne (I : Inv X pins σ H s) : ∀ x c, X.env.cells.lookup x = some c → c ≠ X.env.locals := fun x c e z => by
  obtain ⟨v, o, ho, hd⟩ := I.cell x c e
  obtain ⟨m, ⟨o', es, ep, ho', hd', _⟩, _⟩ := I.loc
  rw [z, ho'] at ho; cases ho; rw [hd'] at hd; cases hd
theorem Inv.funs (I : Inv X pins σ H s) : s.heap.FunFrames X.base X.outer := by
  have all : ∀ (l : List Env), (∀ b ∈ frs l, b ∈ X.fs) → X.s_0.heap.FunFrames X.base l → s.heap.FunFrames X.base l := by
    intro l
    induction l with
    | nil => intro _ _; trivial
    | cons env r ih =>
      intro hs hl
      obtain ⟨hk, ⟨L, o, hf, hn, ho, hd⟩, hr⟩ := hl
      have hL : L ∈ X.fs := hs L (by unfold frs; rw [List.filterMap_cons, hf]; exact List.mem_cons_self)
      obtain ⟨sl, e⟩ := I.base.slot L o ho (I.ok.frf L hL) hL fun z => I.ok.exfs L z hL
      exact ⟨hk, ⟨L, _, hf, hn, e, hd⟩, ih (fun b hb => hs b (by unfold frs; rw [List.filterMap_cons, hf]; exact List.mem_cons_of_mem _ hb)) hr⟩
  exact all X.outer (fun _ hb => hb) I.ok.funs
theorem Inv.stack (I : Inv X pins σ H s) : s.heap.FunFrames X.base X.stack := by
  rcases I.ok.stk with e | ⟨e, hf⟩
  · rw [e]; exact I.funs
  · rw [e]
    obtain ⟨m, hn, _⟩ := I.loc
    refine .cons (by rw [I.ok.kind]; decide) hf hn ?_ I.funs
    exact Heap.get?_none_of_le (Nat.le_trans I.ok.bsz I.ok.above)
theorem Inv.stkSub (I : Inv X pins σ H s) : ∀ b ∈ frs X.stack, b ∈ X.env.locals :: X.fs := fun b hb => by
  rcases I.ok.stk with e | ⟨e, hf⟩
  · rw [e] at hb; exact List.mem_cons_of_mem _ hb
  · rw [e] at hb
    unfold frs at hb
    rw [List.filterMap_cons, hf] at hb
    exact hb
theorem Inv.stkFree (I : Inv X pins σ H s) : ∀ b ∈ frs X.stack, H b = none := fun b hb => by
  rcases List.mem_cons.mp (I.stkSub b hb) with e | hb
  · rw [e]; exact I.free
  · obtain ⟨_, o, ho, _⟩ := I.ok.funs.mem hb
    exact I.base.free b o ho (I.ok.frf b hb) fun z => I.ok.exfs b z hb
theorem Inv.step {g' : Array GenState} {t' : Nat} {d' : Drawn} {ch : List Addr} (I : Inv X pins σ H s)
    (hch : ∀ b ∈ ch, (b ∈ X.ex ∨ X.s_0.heap.objs.size ≤ b) ∧ b ≠ X.env.locals ∧ (∀ x c, X.env.cells.lookup x = some c → c ≠ b) ∧ ∀ p ∈ X.pn ++ pins, p.1 ≠ b)
    (keep : ∀ b o, b ≠ X.env.locals → b ∉ X.fs → b ∉ ch → s.heap.get? b = some o → H b = none → h'.get? b = some o)
    (slot : ∀ b o, b ≠ X.env.locals → b ∈ X.fs → b ∉ ch → s.heap.get? b = some o → H b = none → ∃ sl, h'.get? b = some { o with slots := sl }) (free : ∀ b o, b ∉ ch → s.heap.get? b = some o → H b = none → H' b = none)
    (there : ∀ b o, b ∉ ch → s.heap.get? b = some o → ∃ o', h'.get? b = some o')
    (tups : ∀ b xs, H b = some (.tup xs) → H' b = some (.tup xs)) (frzs : ∀ b o u, H b = some (.frz o u) → H' b = some (.frz o u)) (tbls : ∀ b ps, H b = some (.tbl ps) → ∃ more, H' b = some (.tbl (ps ++ more)))
    (ns : ∀ m, s.heap.Ns X.env.locals m → h'.Ns X.env.locals m) (hok : HOk X.prog X.w H' h') (hg : AllBare g') :
    Inv X pins σ H' { s with heap := h', gens := g', drawn := d', toks := t' } := by
  have neL : ∀ b o, X.s_0.heap.get? b = some o → b ≠ X.env.locals := fun b o e => Nat.ne_of_lt (Nat.lt_of_lt_of_le (Heap.lt_size e) I.ok.above)
  have neC : ∀ b o, X.s_0.heap.get? b = some o → b ∉ X.ex → b ∉ ch := fun b o e hx hb => by
    rcases (hch b hb).1 with z | z
    · exact hx z
    · exact absurd (Nat.lt_of_lt_of_le (Heap.lt_size e) z) (Nat.lt_irrefl _)
  have cellK : ∀ x c, X.env.cells.lookup x = some c → ∀ v, s.heap.IsCell c v → h'.IsCell c v := fun x c e v ⟨o, ho, hd⟩ => by
    have nch : c ∉ ch := fun z => (hch c z).2.2.1 x c e rfl
    by_cases hc : c ∈ X.fs
    · obtain ⟨sl, q⟩ := slot c o (I.cne x c e) hc nch ho (I.freeC x c e)
      exact ⟨_, q, hd⟩
    · exact ⟨o, keep c o (I.cne x c e) hc nch ho (I.freeC x c e), hd⟩
  refine ⟨I.ok, I.os, hg, ⟨fun b o e n hb hx => ?_, fun b o e n hb hx => ?_, fun b o e n hx => ?_, fun b o e hx => ?_, fun b xs e => tups b xs (I.base.tups b xs e), fun b o xs e => frzs b o xs (I.base.frzs b o xs e), fun b ps e => ?_⟩, ?_, fun x c e => ?_, ?_, fun x c e => ?_, fun p hp => ?_, hok, I.len⟩
  · exact keep b o (neL b o e) hb (neC b o e hx) (I.base.keep b o e n hb hx) (I.base.free b o e n hx)
  · obtain ⟨sl, e1⟩ := I.base.slot b o e n hb hx
    obtain ⟨sl', e2⟩ := slot b _ (neL b o e) hb (neC b o e hx) e1 (I.base.free b o e n hx)
    exact ⟨sl', e2⟩
  · obtain ⟨o', e1⟩ := I.base.there b o e hx
    exact free b o' (neC b o e hx) e1 (I.base.free b o e n hx)
  · obtain ⟨o', e1⟩ := I.base.there b o e hx
    exact there b o' (neC b o e hx) e1
  · obtain ⟨m1, e1⟩ := I.base.tbls b ps e
    obtain ⟨m2, e2⟩ := tbls b _ e1
    exact ⟨m1 ++ m2, by rw [e2, Array.append_assoc]⟩
  · obtain ⟨m, hn, hl⟩ := I.loc
    refine ⟨m, ns m hn, fun i x v e1 e2 e3 => ?_⟩
    obtain ⟨u, r, l⟩ := hl i x v e1 e2 e3
    refine ⟨u, r, ?_⟩
    rcases l with l | ⟨k, c, e, z⟩
    · exact .inl l
    · exact .inr ⟨k, c, e, cellK x c e _ z⟩
  · obtain ⟨v, z⟩ := I.cell x c e
    exact ⟨v, cellK x c e v z⟩
  · obtain ⟨m, ⟨o, _, _, ho, _⟩, _⟩ := I.loc
    exact free _ o (fun z => (hch _ z).2.1 rfl) ho I.free
  · obtain ⟨v, o, ho, hd⟩ := I.cell x c e
    exact free c o (fun z => (hch c z).2.2.1 x c e rfl) ho (I.freeC x c e)
  · obtain ⟨e, n, ne, nf, d⟩ := I.pin p hp
    have nch : p.1 ∉ ch := fun z => (hch p.1 z).2.2.2 p hp rfl
    exact ⟨keep p.1 p.2 ne nf nch e n, free p.1 p.2 nch e n, ne, nf, d⟩
theorem Inv.un {t' : Nat} (I : Inv X pins σ H s) (u : Un X.fs [] H H' s.heap h') (hok : HOk X.prog X.w H' h') : Inv X pins σ H' { s with heap := h', toks := t' } := by
  obtain ⟨m, ⟨o, es, ep, ho, r⟩, _⟩ := id I.loc
  obtain ⟨sl, hL⟩ := u.any ho I.free (by simp)
  exact I.step (g' := s.gens) (d' := s.drawn) (ch := []) (fun _ z => nomatch z) (fun b o _ hb _ e n => u.keep b o e n hb (by simp)) (fun b o _ hb _ e n => u.slot b o e n hb (by simp)) (fun b o _ e n => u.free b o e n (by simp)) (fun b o _ e => u.there b o e (by simp)) u.tups u.frzs u.tbls (fun m' hm => by
    obtain ⟨o', es', ep', ho', r'⟩ := hm
    rw [ho] at ho'; cases ho'
    exact ⟨_, es', ep', hL, r'⟩) hok I.bare
theorem Inv.call {g' : Array GenState} {t' : Nat} {d' : Drawn} {ch : List Addr} (I : Inv X pins σ H s) (u : Un (frs X.stack) ch H H' s.heap h') (hok : HOk X.prog X.w H' h') (hg : AllBare g')
    (hch : ∀ b ∈ ch, (b ∈ X.ex ∨ X.s_0.heap.objs.size ≤ b) ∧ b ≠ X.env.locals ∧ (∀ x c, X.env.cells.lookup x = some c → c ≠ b) ∧ ∀ p ∈ X.pn ++ pins, p.1 ≠ b) :
    Inv X pins σ H' { s with heap := h', gens := g', drawn := d', toks := t' } := by
  obtain ⟨m, ⟨o, es, ep, ho, r⟩, _⟩ := id I.loc
  obtain ⟨sl, hL⟩ := u.any ho I.free fun z => (hch _ z).2.1 rfl
  exact I.step (ch := ch) hch (fun b o hL hb hc e n => u.keep b o e n (fun z => (List.mem_cons.mp (I.stkSub b z)).elim hL hb) hc) (fun b o _ _ hc e n => u.any e n hc) (fun b o hc e n => u.free b o e n hc) (fun b o hc e => u.there b o e hc) u.tups u.frzs u.tbls (fun m' hm => by
    obtain ⟨o', es', ep', ho', r'⟩ := hm
    rw [ho] at ho'; cases ho'
    exact ⟨_, es', ep', hL, r'⟩) hok hg
theorem Inv.turned {t' : Nat} {it : Addr} (I : Inv X pins σ H s) (k : ∀ b o, b ≠ it → s.heap.get? b = some o → h'.get? b = some o) (hn : H it = none) (hL : it ≠ X.env.locals)
    (h1 : it ∈ X.ex ∨ X.s_0.heap.objs.size ≤ it) (h2 : ∀ x c, X.env.cells.lookup x = some c → c ≠ it) (h3 : ∀ p ∈ X.pn ++ pins, p.1 ≠ it) : Inv X pins σ H { s with heap := h', toks := t' } := by
  have nit : ∀ b u, H b = some u → b ≠ it := fun b u e z => by rw [z, hn] at e; cases e
  refine I.step (g' := s.gens) (d' := s.drawn) (ch := [it]) (fun b hb => ?_) (fun b o _ _ hc e _ => k b o (fun z => hc (by simp [z])) e) (fun b o _ _ hc e _ => ⟨o.slots, k b o (fun z => hc (by simp [z])) e⟩) (fun _ _ _ _ n => n)
    (fun b o hc e => ⟨o, k b o (fun z => hc (by simp [z])) e⟩) (fun _ _ e => e) (fun _ _ _ e => e) (fun b ps e => ⟨#[], by rw [e]; simp⟩) (fun m hm => ?_) (fun b u e => ?_) I.bare
  · have e : b = it := by simpa using hb
    subst e
    exact ⟨h1, hL, h2, h3⟩
  · obtain ⟨o, es, ep, ho, r⟩ := hm
    exact ⟨o, es, ep, k _ o (Ne.symm hL) ho, r⟩
  · refine (I.hok b u e).stay (fun c v hc q => k c v ?_ q) (fun _ q => q) fun _ _ q => q
    rcases hc with z | z
    · rw [z]; exact nit b u e
    · exact nit c _ z
theorem Inv.tok (I : Inv X pins σ H s) (t : Nat) : Inv X pins σ H { s with toks := t } := I.un (h' := s.heap) (t' := t) Un.refl I.hok
theorem Inv.kept {t' : Nat} (I : Inv X pins σ H s) (k : ∀ b u, s.heap.get? b = some u → h'.get? b = some u) : Inv X pins σ H { s with heap := h', toks := t' } := I.un (Un.kept k) (I.hok.kept k)
theorem Inv.laid {a : Addr} {o : HO} {t' : Nat} (I : Inv X pins σ H s) (k : ∀ b u, s.heap.get? b = some u → h'.get? b = some u) (hp : s.heap.objs.size ≤ a) (new : ObjOk X.prog X.w (upd H a o) h' a o) :
    Inv X pins σ (upd H a o) { s with heap := h', toks := t' } := I.un (Un.laid k hp (I.hok.fresh hp)) (I.hok.laid k hp new)
theorem Inv.write {x e : Addr} {o : HO} {t' : Nat} (I : Inv X pins σ H s) (mu : Mut (H x)) (he : e = x ∨ H e = some (.own x)) (k : ∀ b u, b ≠ e → s.heap.get? b = some u → h'.get? b = some u) (heo : ∃ u, h'.get? e = some u)
    (new : ObjOk X.prog X.w (upd H x o) h' x o) : Inv X pins σ (upd H x o) { s with heap := h', toks := t' } := I.un (Un.write mu he k heo) (I.hok.write mu he k heo new)
theorem Inv.weak {σ' : List (Option V)} (I : Inv X pins σ H s) (hl : σ'.length = σ.length) (w : ∀ (i : Nat) v, σ'[i]? = some (some v) → σ[i]? = some (some v)) : Inv X pins σ' H s :=
  ⟨I.ok, I.os, I.bare, I.base, let ⟨m, hn, hl'⟩ := I.loc; ⟨m, hn, fun i x v e1 e2 e3 => hl' i x v e1 (w i v e2) e3⟩, I.cell, I.free, I.freeC, I.pin, I.hok, hl.trans I.len⟩
theorem Inv.pins_of {pins' : List (Addr × Obj)} (I : Inv X pins σ H s) (h : ∀ p ∈ pins', s.heap.get? p.1 = some p.2 ∧ H p.1 = none ∧ p.1 ≠ X.env.locals ∧ p.1 ∉ X.fs ∧ ∀ v, p.2.data ≠ .cell v) : Inv X pins' σ H s :=
  ⟨I.ok, I.os, I.bare, I.base, I.loc, I.cell, I.free, I.freeC, fun p hp => (List.mem_append.mp hp).elim (fun z => I.pin p (List.mem_append_left _ z)) (h p), I.hok, I.len⟩
theorem nodup_ix {N : List Str} (hN : N.Nodup) {i j : Nat} {x : Str} (a : N[i]? = some x) (b : N[j]? = some x) : i = j := by
  obtain ⟨h1, e1⟩ := List.getElem?_eq_some_iff.mp a
  obtain ⟨h2, e2⟩ := List.getElem?_eq_some_iff.mp b
  exact (List.getElem_inj hN).mp (e1.trans e2.symm)
theorem store_ok2 {M : Model} {A : Around} {E : Value → Shared → Prop} {i : Nat} {x : Str} {v : V} {u : Value} {Q : Unit → Shared → Prop} (I : Inv X pins σ H s) (hN : X.N.Nodup) (hi : X.N[i]? = some x) (hx : Loc X.env.scope x) (r : RelV v u)
    (h : ∀ s', Inv X pins (σ.set i (some v)) H s' → (∃ a, Heap.SameBut a s.heap s'.heap ∧ (a = X.env.locals ∨ X.env.cells.lookup x = some a)) → Q () s') (hf : X.fn x = true ∨ X.env.scope.names.lookup x = some .local := by first | exact .inl rfl | exact .inr rfl | assumption) : wpAny M A (storeName X.env x u) Q E s := by
  obtain ⟨m, hn, hl⟩ := id I.loc
  have hcls : (X.env.scope.kind == .class || (X.env.scope.kind == .module && X.env.locals != X.env.globals)) = false := by rw [I.ok.kind]; rfl
  have hiσ : i < σ.length := by rw [I.len]; exact (List.getElem?_eq_some_iff.mp hi).1
  have cne := I.cne
  have tracked : ∀ {a : Addr} {h' : Heap}, (∃ o, s.heap.get? a = some o ∧ H a = none) → Heap.SameBut a s.heap h' → HOk X.prog X.w H h' := fun {a h'} ha hs b ob e => by
    obtain ⟨_, _, hfree⟩ := ha
    refine (I.hok b ob e).stay (fun c w' hc q => (hs.2 c ?_).trans q) (fun _ q => q) fun _ _ q => q
    rintro rfl
    rcases hc with rfl | hc
    · rw [hfree] at e; cases e
    · rw [hfree] at hc; cases hc
  rcases hx with hk | hk
  · refine wpAny_storeName_local hk hn (fun h' hn' hs => ?_) hcls
    obtain ⟨oL, _, _, hoL, _⟩ := id hn
    refine h _ ⟨I.ok, I.os, I.bare, ⟨fun b o e n hb hx => ?_, fun b o e n hb hx => ?_, I.base.free, fun b o e hx => ?_, I.base.tups, I.base.frzs, I.base.tbls⟩, ⟨_, hn', fun j y v' e1 e2 e3 => ?_⟩, fun y c e => ?_, I.free, I.freeC, fun p hp => ?_, tracked ⟨oL, hoL, I.free⟩ hs, by simpa using I.len⟩ ⟨_, hs, .inl rfl⟩
    · exact (hs.2 b (Nat.ne_of_lt (Nat.lt_of_lt_of_le (Heap.lt_size e) I.ok.above))).trans (I.base.keep b o e n hb hx)
    · obtain ⟨sl, e1⟩ := I.base.slot b o e n hb hx
      exact ⟨sl, (hs.2 b (Nat.ne_of_lt (Nat.lt_of_lt_of_le (Heap.lt_size e) I.ok.above))).trans e1⟩
    · obtain ⟨o', e1⟩ := I.base.there b o e hx
      exact ⟨o', (hs.2 b (Nat.ne_of_lt (Nat.lt_of_lt_of_le (Heap.lt_size e) I.ok.above))).trans e1⟩
    · by_cases hj : j = i
      · subst hj
        rw [hi] at e1; cases e1
        rw [List.getElem?_set_self hiσ] at e2
        cases e2
        exact ⟨u, r, .inl ⟨hk, by simp⟩⟩
      · rw [List.getElem?_set_ne (Ne.symm hj)] at e2
        obtain ⟨u', r', q⟩ := hl j y v' e1 e2 e3
        refine ⟨u', r', ?_⟩
        rcases q with ⟨k, e⟩ | ⟨k, c, e, z⟩
        · refine .inl ⟨k, ?_⟩
          have : y ≠ x := fun e => hj (nodup_ix hN e1 (e ▸ hi))
          simp [this, e]
        · exact .inr ⟨k, c, e, z.sameBut hs (cne y c e)⟩
    · obtain ⟨w', z⟩ := I.cell y c e
      exact ⟨w', z.sameBut hs (cne y c e)⟩
    · obtain ⟨e, n, ne, nf, d⟩ := I.pin p hp
      exact ⟨(hs.2 p.1 ne).trans e, n, ne, nf, d⟩
  · have hfn : X.fn x = true := by
      rcases hf with z | z
      · exact z
      · rw [z] at hk; cases hk
    obtain ⟨c, hc⟩ := I.ok.has x (.inl hk)
    obtain ⟨w', z⟩ := I.cell x c hc
    refine wpAny_storeName_cell I.ok.kind hk hc z (fun h' hc' hs => ?_)
    obtain ⟨oc, hoc, hocd⟩ := id z
    refine h { s with heap := h' } ⟨I.ok, I.os, I.bare, ⟨fun b o e n hb hx => ?_, fun b o e n hb hx => ?_, I.base.free, fun b o e hx => ?_, I.base.tups, I.base.frzs, I.base.tbls⟩, ⟨m, hn.sameBut hs (Ne.symm (cne x c hc)), fun j y v' e1 e2 e3 => ?_⟩, fun y c' e => ?_, I.free, I.freeC, fun p hp => ?_, tracked ⟨oc, hoc, I.freeC x c hc⟩ hs, by simpa using I.len⟩ ⟨c, hs, .inr hc⟩
    · exact (hs.2 b (Nat.ne_of_lt (Nat.lt_of_lt_of_le (Heap.lt_size e) (I.ok.cab x c hfn hc)))).trans (I.base.keep b o e n hb hx)
    · obtain ⟨sl, e1⟩ := I.base.slot b o e n hb hx
      exact ⟨sl, (hs.2 b (Nat.ne_of_lt (Nat.lt_of_lt_of_le (Heap.lt_size e) (I.ok.cab x c hfn hc)))).trans e1⟩
    · obtain ⟨o', e1⟩ := I.base.there b o e hx
      exact ⟨o', (hs.2 b (Nat.ne_of_lt (Nat.lt_of_lt_of_le (Heap.lt_size e) (I.ok.cab x c hfn hc)))).trans e1⟩
    · by_cases hj : j = i
      · subst hj
        rw [hi] at e1; cases e1
        rw [List.getElem?_set_self hiσ] at e2
        cases e2
        exact ⟨u, r, .inr ⟨.inl hk, c, hc, hc'⟩⟩
      · rw [List.getElem?_set_ne (Ne.symm hj)] at e2
        obtain ⟨u', r', q⟩ := hl j y v' e1 e2 e3
        refine ⟨u', r', ?_⟩
        rcases q with q | ⟨k, c', e, z'⟩
        · exact .inl q
        · refine .inr ⟨k, c', e, z'.sameBut hs ?_⟩
          rintro rfl
          exact hj (nodup_ix hN e1 (I.ok.inj _ _ _ e hc ▸ hi))
    · by_cases hcc : c' = c
      · subst hcc; exact ⟨_, hc'⟩
      · obtain ⟨w2, z2⟩ := I.cell y c' e
        exact ⟨w2, z2.sameBut hs hcc⟩
    · obtain ⟨e, n, ne, nf, d⟩ := I.pin p hp
      refine ⟨(hs.2 p.1 ?_).trans e, n, ne, nf, d⟩
      intro q
      rw [q, hoc] at e
      have q' : oc = p.2 := Option.some.inj e
      exact d w' (by rw [← q']; exact hocd)
theorem store_ok {M : Model} {A : Around} {E : Value → Shared → Prop} {i : Nat} {x : Str} {v : V} {u : Value} {Q : Unit → Shared → Prop} (I : Inv X pins σ H s) (hN : X.N.Nodup) (hi : X.N[i]? = some x) (hx : Loc X.env.scope x) (r : RelV v u)
    (h : ∀ s', Inv X pins (σ.set i (some v)) H s' → Q () s') (hf : X.fn x = true ∨ X.env.scope.names.lookup x = some .local := by first | exact .inl rfl | exact .inr rfl | assumption) : wpAny M A (storeName X.env x u) Q E s :=
  store_ok2 I hN hi hx r (fun s' I' _ => h s' I') hf
theorem Inv.call' {s' : Shared} {ch : List Addr} (I : Inv X pins σ H s) (ho : s'.os = s.os) (u : Un (frs X.stack) ch H H' s.heap s'.heap) (hok : HOk X.prog X.w H' s'.heap) (hg : AllBare s'.gens)
    (hch : ∀ b ∈ ch, (b ∈ X.ex ∨ X.s_0.heap.objs.size ≤ b) ∧ b ≠ X.env.locals ∧ (∀ x c, X.env.cells.lookup x = some c → c ≠ b) ∧ ∀ p ∈ X.pn ++ pins, p.1 ≠ b) : Inv X pins σ H' s' := by
  obtain ⟨h', g', d', t', o'⟩ := s'
  have e : o' = s.os := ho
  subst e
  exact I.call (g' := g') (t' := t') (d' := d') u hok hg hch
end
abbrev XK := Value → Option Addr → Hp → Prop
abbrev St := List (Option V)
abbrev VK := V → Hp → Prop
abbrev TE := St → Hp → VK → Prop
abbrev TT := St → Hp → (Bool → Hp → Prop) → Prop
abbrev TA := St → Hp → (List V → Hp → Prop) → Prop
structure Ends where
  nx : St → Hp → Prop
  rt : VK
  bk : St → Hp → Prop := fun _ _ => False
  ct : St → Hp → Prop := fun _ _ => False
abbrev TS := Ends → St → Hp → Prop
def EP (X : Cx) (pins : List (Addr × Obj)) (σ : St) (Q : VK) (u : Value) (s' : Shared) : Prop := ∃ v H', Inv X pins σ H' s' ∧ RelV v u ∧ Q v H'
def TP (X : Cx) (pins : List (Addr × Obj)) (σ : St) (Q : Bool → Hp → Prop) (b : Bool) (s' : Shared) : Prop := ∃ H', Inv X pins σ H' s' ∧ Q b H'
def AP (X : Cx) (pins : List (Addr × Obj)) (σ : St) (Q : List V → Hp → Prop) (us : List Value) (s' : Shared) : Prop := ∃ vs H', Inv X pins σ H' s' ∧ Vals vs us ∧ Q vs H'
def SP (X : Cx) (pins : List (Addr × Obj)) (D : Ends) (f : Flow) (s' : Shared) : Prop :=
  match f with
  | .next => ∃ σ' H', Inv X pins σ' H' s' ∧ D.nx σ' H'
  | .brk => ∃ σ' H', Inv X pins σ' H' s' ∧ D.bk σ' H'
  | .cont => ∃ σ' H', Inv X pins σ' H' s' ∧ D.ct σ' H'
  | .ret u => ∃ v σ' H', Inv X pins σ' H' s' ∧ RelV v u ∧ D.rt v H'
def PE (X : Cx) (e : Expr) (t : TE) : Prop :=
  ∀ (pins : List (Addr × Obj)) (s : Shared) (σ : St) (H : Hp) (Q : VK), Inv X pins σ H s → t σ H Q → wpAny (model X.prog X.w) X.A (eval e X.env) (EP X pins σ Q) X.xe s
def PT (X : Cx) (e : Expr) (t : TT) : Prop :=
  ∀ (pins : List (Addr × Obj)) (s : Shared) (σ : St) (H : Hp) (Q : Bool → Hp → Prop), Inv X pins σ H s → t σ H Q → wpAny (model X.prog X.w) X.A (isTrue e X.env (eval e X.env)) (TP X pins σ Q) X.xe s
def PW (X : Cx) (e : Expr) (t : TT) : Prop :=
  ∀ (whole : Sem Value) (pins : List (Addr × Obj)) (s : Shared) (σ : St) (H : Hp) (Q : Bool → Hp → Prop), Inv X pins σ H s → t σ H Q → wpAny (model X.prog X.w) X.A (isTrue e X.env whole) (TP X pins σ Q) X.xe s
theorem PW.pt {X : Cx} {e : Expr} {t : TT} (h : PW X e t) : PT X e t := h _
def PA (X : Cx) (es : List Expr) (t : TA) : Prop :=
  ∀ (pos : Pos) (pins : List (Addr × Obj)) (s : Shared) (σ : St) (H : Hp) (Q : List V → Hp → Prop), Inv X pins σ H s → t σ H Q → wpAny (model X.prog X.w) X.A (spliced (backTo pos (starEach es X.env))) (AP X pins σ Q) X.xe s
def PS (X : Cx) (st : Stmt) (t : TS) : Prop :=
  ∀ (pins : List (Addr × Obj)) (s : Shared) (σ : St) (H : Hp) (D : Ends), Inv X pins σ H s → t D σ H → wpAny (model X.prog X.w) X.A (exec st X.env) (SP X pins D) X.xe s
def PSs (X : Cx) (st : List Stmt) (t : TS) : Prop :=
  ∀ (pins : List (Addr × Obj)) (s : Shared) (σ : St) (H : Hp) (D : Ends), Inv X pins σ H s → t D σ H → wpAny (model X.prog X.w) X.A (execs st X.env) (SP X pins D) X.xe s
theorem thn {α : Type} {t : Sem α} {Q Q' : α → Shared → Prop} {M : Model} {A : Around} {E : Value → Shared → Prop} {s : Shared} (h : wpAny M A t Q E s) (hQ : ∀ a s, Q a s → Q' a s) : wpAny M A t Q' E s := wpAny_mono h hQ fun _ _ x => x
end L2
namespace L2
open PySem PySem.Spec PyProof.Rows
section
variable {X : Cx}
theorem bin {a b : Expr} {ta tb : TE} (ha : PE X a ta) (hb : PE X b tb) {pins : List (Addr × Obj)} {s : Shared} {σ : St} {H : Hp} {R : V → V → Hp → Prop} (I : Inv X pins σ H s) (h : ta σ H fun x H1 => tb σ H1 fun y H2 => R x y H2)
    {α : Type} {Q : α → Shared → Prop} {f : Value → Value → Sem α}
    (hf : ∀ v u s2 x y H2, Inv X pins σ H2 s2 → RelV x v → RelV y u → R x y H2 → wpAny (model X.prog X.w) X.A (f v u) Q X.xe s2) :
    wpAny (model X.prog X.w) X.A (eval a X.env) (fun v s₁ => wpAny (model X.prog X.w) X.A (eval b X.env) (fun u s₂ => wpAny (model X.prog X.w) X.A (f v u) Q X.xe s₂) X.xe s₁) X.xe s := by
  refine thn (ha pins s σ H _ I h) fun v s1 ⟨x, H1, I1, r1, q1⟩ => ?_
  refine thn (hb pins s1 σ H1 _ I1 q1) fun u s2 ⟨y, H2, I2, r2, q2⟩ => ?_
  exact hf v u s2 x y H2 I2 r1 r2 q2
def tVar (i : Nat) : TE := fun σ H Q => ∃ v, σ[i]? = some (some v) ∧ Q v H
def tC (v : V) : TE := fun _ H Q => Q v H
theorem pe_var {i : Nat} {x : Str} {pos : Pos} (hN : X.N[i]? = some x) (hv : Vis X.env.scope x) (hd : (x == ("__debug__" : Str)) = false := by decide) (hcd : (x == ("__classdict__" : Str)) = false := by decide) : PE X (.Name x pos) (tVar i) := by
  intro pins s σ H Q I h
  obtain ⟨v, e, h⟩ := h
  obtain ⟨m, hn, hl⟩ := I.loc
  obtain ⟨u, r, l⟩ := hl i x v hN e hv
  have fin : EP X pins σ Q u s := ⟨v, H, I, r, h⟩
  rcases l with ⟨hk, hm⟩ | ⟨hk, c, hc, hcell⟩
  · exact wpAny_Name (wpAny_loadName_local I.ok.kind hk hn hm fin) hd
  · rcases hk with hk | hk
    · exact wpAny_Name (wpAny_loadName_cell I.ok.kind hk hc hcell fin) hd
    · exact wpAny_Name (wpAny_loadName_free I.ok.kind hk hc hcell fin hcd) hd
theorem pe_int {i j pos} : PE X (.Constant (.int i) j pos) (tC (.int i)) := fun _ _ _ H _ I h => wpAny_Constant_int ⟨.int i, H, I.tok _, ⟨_, rfl⟩, h⟩
theorem pe_bl {b j pos} : PE X (.Constant (.bool b) j pos) (tC (.bl b)) := fun _ _ _ H _ I h => Constant_bool ⟨.bl b, H, I, rfl, h⟩
def Gl (X : Cx) (x : Str) : Prop := X.env.kindOf x = some .globalImplicit
theorem ld_glob {E : Value → Shared → Prop} {pins : List (Addr × Obj)} {s : Shared} {σ : St} {H : Hp} {x : Str} {u : Value} {pos : Pos} {Q : Value → Shared → Prop} (I : Inv X pins σ H s) (hg : Gl X x) (hm : X.mg x = some u) (h : Q u s)
    (hd : (x == ("__debug__" : Str)) = false := by decide) : wpAny (model X.prog X.w) X.A (eval (.Name x pos) X.env) Q E s :=
  Calls.Name_function_global I.ok.kind hg (Calls.loadGlobal_global (by rw [I.ok.glob]; exact I.mod.glob.keeps I.bk) hm h) hd
theorem ld_blt {E : Value → Shared → Prop} {pins : List (Addr × Obj)} {s : Shared} {σ : St} {H : Hp} {x : Str} {u : Value} {pos : Pos} {Q : Value → Shared → Prop} (I : Inv X pins σ H s) (hg : Gl X x) (hm : X.mg x = none) (hv : bootBuiltins x = some u) (h : Q u s)
    (hn : x ≠ "__name__" := by decide) (hd : (x == ("__debug__" : Str)) = false := by decide) : wpAny (model X.prog X.w) X.A (eval (.Name x pos) X.env) Q E s := by
  obtain ⟨mb, h1, h2⟩ := I.mod.blt
  exact Calls.Name_function_global I.ok.kind hg (Calls.loadGlobal_builtin (by rw [I.ok.glob]; exact I.mod.glob.keeps I.bk) hm (by rw [I.ok.blt]; exact h1.keeps I.bk) ((h2 x hn).trans hv) h) hd
theorem pe_glob {x : Str} {v : V} {u : Value} {pos : Pos} (hg : Gl X x) (hm : X.mg x = some u) (r : RelV v u) (hd : (x == ("__debug__" : Str)) = false := by decide) : PE X (.Name x pos) (tC v) :=
  fun _ _ _ H _ I h => ld_glob I hg hm ⟨v, H, I, r, h⟩ hd
variable {a b : Expr} {ta tb : TE} {pos : Pos}
def PC (X : Cx) (op : CmpOp) (a b : Expr) (t : TE) : Prop :=
  ∀ (pins : List (Addr × Obj)) (s : Shared) (σ : St) (H : Hp) (Q : VK), Inv X pins σ H s → t σ H Q →
    wpAny (model X.prog X.w) X.A (eval a X.env) (fun v s₁ => wpAny (model X.prog X.w) X.A (eval b X.env) (fun u s₂ => wpAny (model X.prog X.w) X.A (compareOp op v u) (EP X pins σ Q) X.xe s₂) X.xe s₁) X.xe s
def tB (t : TE) : TT := fun σ H Q => t σ H fun x H1 => ∃ c, x = .bl c ∧ Q c H1
theorem pt_cmp {op : CmpOp} {t : TE} (h : PC X op a b t) (h1 : behindInMarks op b = false := by first | exact nobehind _ (by decide) (by decide) | rfl) : PT X (.Compare a [op] [b] pos) (tB t) := by
  intro pins s σ H Q I hw
  refine wpAny_isTrue_Compare1 (thn (h pins s σ H _ I hw) fun v s1 h1 => thn h1 fun u s2 h2 => thn h2 fun c s3 ⟨x, H1, I1, r1, q1⟩ => ?_) h1
  obtain ⟨d, rfl, q⟩ := q1
  cases r1
  exact wpAny_truthy_bool ⟨H1, I1, q⟩
theorem pt_val {e : Expr} {t : TE} (h : PE X e t) (he : ∀ whole, isTrue e X.env whole = (do let v ← whole; standAt e.pos; holding [v] (truthy v)) := by intro _; rfl) : PT X e (tB t) := by
  intro pins s σ H Q I hw
  refine isTrue_plain (thn (h pins s σ H _ I hw) fun v s1 ⟨x, H1, I1, r1, q1⟩ => ?_) (he _)
  obtain ⟨d, rfl, q⟩ := q1
  cases r1
  exact wpAny_truthy_bool ⟨H1, I1, q⟩
variable {tA tB' : TT} {rest : List Expr}
def tAnd (t u : TT) : TT := fun σ H Q => t σ H fun c H1 => if c = true then u σ H1 Q else Q false H1
def tOr (t u : TT) : TT := fun σ H Q => t σ H fun c H1 => if c = true then Q true H1 else u σ H1 Q
def tNot (t : TT) : TT := fun σ H Q => t σ H fun c H1 => Q (!c) H1
theorem pw_and1 (ha : PT X a tA) : PW X (.BoolOp .And [a] pos) tA := by
  intro wh pins s σ H Q I h
  refine isTrue_and (thn (ha pins s σ H Q I h) fun c s1 e => ?_)
  cases c with
  | true => exact isTrue_and_nil e
  | false => exact e
theorem pw_or1 (ha : PT X a tA) : PW X (.BoolOp .Or [a] pos) tA := by
  intro wh pins s σ H Q I h
  refine isTrue_or (thn (ha pins s σ H Q I h) fun c s1 e => ?_)
  cases c with
  | false => exact isTrue_or_nil e
  | true => exact e
theorem pw_and (ha : PT X a tA) (hb : PW X (.BoolOp .And (b :: rest) pos) tB') : PW X (.BoolOp .And (a :: b :: rest) pos) (tAnd tA tB') := by
  intro wh pins s σ H Q I h
  refine isTrue_and (thn (ha pins s σ H _ I h) fun c s1 ⟨H1, I1, q1⟩ => ?_)
  cases c with
  | true => exact hb wh pins s1 σ H1 Q I1 q1
  | false => exact ⟨H1, I1, q1⟩
theorem pw_or (ha : PT X a tA) (hb : PW X (.BoolOp .Or (b :: rest) pos) tB') : PW X (.BoolOp .Or (a :: b :: rest) pos) (tOr tA tB') := by
  intro wh pins s σ H Q I h
  refine isTrue_or (thn (ha pins s σ H _ I h) fun c s1 ⟨H1, I1, q1⟩ => ?_)
  cases c with
  | true => exact ⟨H1, I1, q1⟩
  | false => exact hb wh pins s1 σ H1 Q I1 q1
theorem pt_not (ha : PT X a tA) : PT X (.UnaryOp .Not a pos) (tNot tA) := by
  intro pins s σ H Q I h
  exact isTrue_not (ha pins s σ H (fun c H1 => Q (!c) H1) I h)
def tAndV (ta tb : TE) : TE := fun σ H Q => ta σ H fun x H1 => ∃ c, x = .bl c ∧ if c = true then tb σ H1 Q else Q (.bl false) H1
def tOrV (ta tb : TE) : TE := fun σ H Q => ta σ H fun x H1 => ∃ c, x = .bl c ∧ if c = true then Q (.bl true) H1 else tb σ H1 Q
def tNotV (ta : TE) : TE := fun σ H Q => ta σ H fun x H1 => ∃ c, x = .bl c ∧ Q (.bl (!c)) H1
theorem pe_one {op} {t : TE} (h : PE X a t) : PE X (.BoolOp op [a] pos) t := fun pins s σ H Q I hw => BoolOp_one (h pins s σ H Q I hw)
theorem pe_and (ha : PE X a ta) (hb : PE X (.BoolOp .And (b :: rest) pos) tb) : PE X (.BoolOp .And (a :: b :: rest) pos) (tAndV ta tb) := by
  intro pins s σ H Q I h
  refine BoolOp_and (thn (ha pins s σ H _ I h) fun v s1 ⟨x, H1, I1, r1, q1⟩ => ?_)
  obtain ⟨c, rfl, q1⟩ := q1
  cases r1
  refine wpAny_truthy_bool ?_
  cases c with
  | true => exact hb pins s1 σ H1 Q I1 q1
  | false => exact ⟨.bl false, H1, I1, rfl, q1⟩
theorem pe_or (ha : PE X a ta) (hb : PE X (.BoolOp .Or (b :: rest) pos) tb) : PE X (.BoolOp .Or (a :: b :: rest) pos) (tOrV ta tb) := by
  intro pins s σ H Q I h
  refine BoolOp_or (thn (ha pins s σ H _ I h) fun v s1 ⟨x, H1, I1, r1, q1⟩ => ?_)
  obtain ⟨c, rfl, q1⟩ := q1
  cases r1
  refine wpAny_truthy_bool ?_
  cases c with
  | false => exact hb pins s1 σ H1 Q I1 q1
  | true => exact ⟨.bl true, H1, I1, rfl, q1⟩
def tIf (t : TT) (ta tb : TE) : TE := fun σ H Q => t σ H fun c H1 => if c = true then ta σ H1 Q else tb σ H1 Q
theorem pe_ifExp {c : Expr} (hc : PT X c tA) (ha : PE X a ta) (hb : PE X b tb) : PE X (.IfExp c a b pos) (tIf tA ta tb) := by
  intro pins s σ H Q I h
  refine wpAny_IfExp (thn (hc pins s σ H _ I h) fun d s1 ⟨H1, I1, q1⟩ => ?_)
  cases d with
  | true => exact ha pins s1 σ H1 Q I1 q1
  | false => exact hb pins s1 σ H1 Q I1 q1
end
end L2
namespace L2
open PySem PySem.Spec PyProof.Rows
def SqL (K : PySem.W.Frag) (H : Hp) (a : Addr) (xs : List V) : Prop :=
  Rd H a (.lst xs) ∨
    ∃ (o : Obj) (its : Array Value) (n : Nat), K.lookup a = some o ∧ o.cls = .type "list" ∧ o.dict = none ∧ o.data = .seq its n ∧ its.size ≤ sizeLine ∧ Vals xs its.toList
def SqT (K : PySem.W.Frag) (H : Hp) (a : Addr) (xs : List V) : Prop :=
  Rd H a (.tup xs) ∨
    ∃ (o : Obj) (its : Array Value) (n : Nat), K.lookup a = some o ∧ o.cls = .type "tuple" ∧ o.data = .seq its n ∧ its.size ≤ sizeLine ∧ Vals xs its.toList
def absV : Value → Option V
  | .none => some .non
  | .bool b => some (.bl b)
  | .int i _ => some (.int i)
  | .str x _ => some (.str x)
  | .bytes b _ => some (.byt b)
  | .float b _ => some (.flt b)
  | .ref a => some (.ref a)
  | .type n => some (.ty n)
  | _ => none
theorem RelV.abs {x : V} {u : Value} (r : RelV x u) : absV u = some x := by
  cases x with
  | non => cases r; rfl
  | bl _ => cases r; rfl
  | int _ => obtain ⟨t, rfl⟩ := r; rfl
  | str _ => obtain ⟨t, rfl⟩ := r; rfl
  | byt _ => obtain ⟨t, rfl⟩ := r; rfl
  | flt _ => obtain ⟨t, rfl⟩ := r; rfl
  | ref _ => cases r; rfl
  | ty _ => cases r; rfl
theorem RelV.inj {x y : V} {u : Value} (r : RelV x u) (q : RelV y u) : x = y := Option.some.inj (r.abs.symm.trans q.abs)
theorem Vals.inj : ∀ {xs ys : List V} {us : List Value}, Vals xs us → Vals ys us → xs = ys
  | _, _, _, .nil, .nil => rfl
  | _, _, _, .cons r t, .cons r' t' => by rw [r.inj r', Vals.inj t t']
section
variable {X : Cx} {pins : List (Addr × Obj)} {σ : St} {H : Hp} {s : Shared} {a : Addr} {xs ys : List V}
theorem SqL.of {K : PySem.W.Frag} (h : H a = some (.lst xs)) : SqL K H a xs := .inl (.inl h)
theorem SqT.of {K : PySem.W.Frag} (h : H a = some (.tup xs)) : SqT K H a xs := .inl (.inl h)
theorem Inv.list (I : Inv X pins σ H s) (h : SqL X.K H a xs) : ∃ its : List Value, Vals xs its ∧ PlainL s.heap a its.toArray ∧ xs.length ≤ sizeLine := by
  rcases h with h | ⟨o, its, n, hk, hc, hd, hs, hz, r⟩
  · obtain ⟨z, its, n, r, e⟩ := h.ok I.hok
    exact ⟨its, r, ⟨_, n, e, rfl, rfl, rfl⟩, z⟩
  · refine ⟨its.toList, r, ⟨o, n, I.kIn a o hk, hc, hd, by simpa using hs⟩, ?_⟩
    have e := r.length
    simp only [Array.length_toList] at e
    omega
theorem Inv.tuple (I : Inv X pins σ H s) (h : SqT X.K H a xs) : ∃ its : List Value, Vals xs its ∧ IsTup s.heap a its.toArray ∧ xs.length ≤ sizeLine := by
  rcases h with h | ⟨o, its, n, hk, hc, hs, hz, r⟩
  · obtain ⟨z, its, r, p⟩ := h.ok I.hok
    exact ⟨its, r, p, z⟩
  · refine ⟨its.toList, r, ⟨o, I.kIn a o hk, hc, n, by simpa using hs⟩, ?_⟩
    have e := r.length
    simp only [Array.length_toList] at e
    omega
theorem Inv.list_inj (I : Inv X pins σ H s) (h : SqL X.K H a xs) (h' : SqL X.K H a ys) : xs = ys := by
  obtain ⟨its, r, ⟨o, n, e, _, _, d⟩, _⟩ := I.list h
  obtain ⟨its', r', ⟨o', n', e', _, _, d'⟩, _⟩ := I.list h'
  rw [e] at e'; cases e'
  rw [d] at d'
  injection d' with d1 _
  have : its = its' := by simpa using congrArg Array.toList d1
  subst this
  exact r.inj r'
end
abbrev Cx.wish (X : Cx) (E : Value → Shared → Prop) : Cx := { X with xe := E }
abbrev Cx.nox (X : Cx) : Cx := X.wish fun _ _ => False
theorem Cx.Ok.wish {X : Cx} (ok : X.Ok) (E : Value → Shared → Prop) : (X.wish E).Ok :=
  ⟨ok.mod, ok.kind, ok.glob, ok.blt, ok.above, ok.inj, ok.has, ok.cab, ok.hd, ok.frames, ok.stk, ok.exf, ok.bs, ok.bsz, ok.noex, ok.exfs, ok.funs, ok.frf⟩
theorem Cx.Ok.unwish {X : Cx} {E : Value → Shared → Prop} (ok : (X.wish E).Ok) : X.Ok :=
  ⟨ok.mod, ok.kind, ok.glob, ok.blt, ok.above, ok.inj, ok.has, ok.cab, ok.hd, ok.frames, ok.stk, ok.exf, ok.bs, ok.bsz, ok.noex, ok.exfs, ok.funs, ok.frf⟩
section
variable {X : Cx} {pins : List (Addr × Obj)} {σ : St} {H : Hp} {s : Shared} {E : Value → Shared → Prop}
theorem Inv.wish (I : Inv X pins σ H s) (E : Value → Shared → Prop) : Inv (X.wish E) pins σ H s := ⟨I.ok.wish E, I.os, I.bare, I.base, I.loc, I.cell, I.free, I.freeC, I.pin, I.hok, I.len⟩
theorem Inv.unwish (I : Inv (X.wish E) pins σ H s) : Inv X pins σ H s := ⟨I.ok.unwish, I.os, I.bare, I.base, I.loc, I.cell, I.free, I.freeC, I.pin, I.hok, I.len⟩
theorem SP.unwish {D : Ends} {f : Flow} {s' : Shared} (h : SP (X.wish E) pins D f s') : SP X pins D f s' := by
  cases f with
  | next => obtain ⟨σ', H', I, q⟩ := h; exact ⟨σ', H', I.unwish, q⟩
  | brk => obtain ⟨σ', H', I, q⟩ := h; exact ⟨σ', H', I.unwish, q⟩
  | cont => obtain ⟨σ', H', I, q⟩ := h; exact ⟨σ', H', I.unwish, q⟩
  | ret u => obtain ⟨v, σ', H', I, r, q⟩ := h; exact ⟨v, σ', H', I.unwish, r, q⟩
theorem PSs.nox {st : List Stmt} {t : TS} (h : PSs X.nox st t) : PSs X st t := fun pins s σ H D I hw =>
  wpAny_mono (h pins s σ H D (I.wish _) hw) (fun _ _ q => q.unwish) fun _ _ z => False.elim z
end
section
variable {X : Cx} {st : Stmt} {rest : List Stmt} {t u : TS} {e : Expr} {te : TE} {pos : Pos}
def tNext : TS := fun D σ H => D.nx σ H
def tSeq (t u : TS) : TS := fun D σ H => t { D with nx := u D } σ H
theorem pss_nil : PSs X [] tNext := fun _ _ σ H _ I h => wpAny_execs_nil ⟨σ, H, I, h⟩
theorem pss_cons (h1 : PS X st t) (h2 : PSs X rest u) : PSs X (st :: rest) (tSeq t u) := by
  intro pins s σ H D I h
  refine wpAny_execs_cons (thn (h1 pins s σ H { D with nx := u D } I h) fun f s1 q => ?_)
  cases f with
  | next =>
    obtain ⟨σ', H', I', q⟩ := q
    exact h2 pins s1 σ' H' D I' q
  | ret v => exact q
  | brk => exact q
  | cont => exact q
theorem pss_one (h1 : PS X st t) : PSs X [st] t := by
  intro pins s σ H D I h
  refine wpAny_execs_cons (thn (h1 pins s σ H D I h) fun f s1 q => ?_)
  cases f with
  | next => exact wpAny_execs_nil q
  | ret v => exact q
  | brk => exact q
  | cont => exact q
theorem Inv.quiet {pins : List (Addr × Obj)} {σ : St} {H : Hp} {s : Shared} (I : Inv X pins σ H s) : interactive X.env = false := by simp [interactive, I.ok.kind]
def tDrop (te : TE) : TS := fun D σ H => te σ H fun _ H1 => D.nx σ H1
theorem ps_expr (he : PE X e te) (hs : swapsWith e none pos.line X.env = pure false := by rfl) : PS X (.Expr e pos) (tDrop te) := by
  intro pins s σ H D I h
  exact wpAny_Expr_any (thn (he pins s σ H _ I h) fun v s1 ⟨x, H1, I1, r1, q1⟩ => ⟨σ, H1, I1, q1⟩) I.quiet hs
def tRet (te : TE) : TS := fun D σ H => te σ H D.rt
theorem ps_ret (he : PE X e te) : PS X (.Return (some e) pos) (tRet te) := by
  intro pins s σ H D I h
  exact wpAny_Return_some (thn (he pins s σ H _ I h) fun v s1 ⟨x, H1, I1, r1, q1⟩ => ⟨x, σ, H1, I1, r1, q1⟩)
def tIfS (c : TT) (t u : TS) : TS := fun D σ H => c σ H fun b H1 => if b = true then t D σ H1 else u D σ H1
theorem ps_if {c : Expr} {a b : List Stmt} {tc : TT} (hc : PT X c tc) (ha : PSs X a t) (hb : PSs X b u) : PS X (.If c a b pos) (tIfS tc t u) := by
  intro pins s σ H D I h
  refine wpAny_If (thn (hc pins s σ H _ I h) fun d s1 ⟨H1, I1, q1⟩ => ?_)
  cases d with
  | true => exact ha pins s1 σ H1 D I1 q1
  | false => exact hb pins s1 σ H1 D I1 q1
end
abbrev TG := V → St → Hp → (St → Hp → Prop) → Prop
def PG (X : Cx) (target : Expr) (t : TG) : Prop :=
  ∀ (pins : List (Addr × Obj)) (s : Shared) (σ : St) (H : Hp) (v : V) (u : Value) (Q : St → Hp → Prop), Inv X pins σ H s → RelV v u → t v σ H Q →
    wpAny (model X.prog X.w) X.A (assign target X.env u) (fun _ s' => ∃ σ' H', Inv X pins σ' H' s' ∧ Q σ' H') X.xe s
section
variable {X : Cx} {pos : Pos}
def gName (i : Nat) : TG := fun v σ H Q => Q (σ.set i (some v)) H
theorem pg_name {i : Nat} {x : Str} (hN : X.N.Nodup) (hi : X.N[i]? = some x) (hx : Loc X.env.scope x) (hf : X.fn x = true ∨ X.env.scope.names.lookup x = some .local := by first | exact .inl rfl | exact .inr rfl | assumption) : PG X (.Name x pos) (gName i) := by
  intro pins s σ H v u Q I r h
  exact wpAny_assign_Name (store_ok I hN hi hx r (fun s' I' => ⟨_, H, I', h⟩) hf)
def tAsg (te : TE) (g : TG) : TS := fun D σ H => te σ H fun x H1 => g x σ H1 D.nx
theorem ps_set {i : Nat} {x : Str} {e : Expr} {te : TE} {pos' : Pos} (hN : X.N.Nodup) (hi : X.N[i]? = some x) (hx : Loc X.env.scope x) (he : PE X e te) (hs : swapsWith e (some (.Name x pos')) pos.line X.env = pure false := by rfl) (hf : X.fn x = true ∨ X.env.scope.names.lookup x = some .local := by first | exact .inl rfl | exact .inr rfl | assumption) :
    PS X (.Assign [.Name x pos'] e pos) (tAsg te (gName i)) := by
  intro pins s σ H D I h
  refine wpAny_Assign_Name (thn (he pins s σ H _ I h) fun v s1 ⟨y, H1, I1, r1, q1⟩ => ?_) hs
  exact store_ok I1 hN hi hx r1 (fun s2 I2 => ⟨_, H1, I2, q1⟩) hf
end
section
variable {X : Cx} {pos : Pos}
def tWhile (c : TT) (tb : TS) : TS := fun D σ H => ∃ W : Nat → St → Hp → Prop, (∃ m, W m σ H) ∧ ∀ m σ H, W m σ H →
  c σ H fun b H1 => if b = true then ∃ N : St → Hp → Prop, (∀ σ' H', N σ' H' → ∃ m', m' < m ∧ W m' σ' H') ∧ tb { D with nx := N, ct := N, bk := D.nx } σ H1 else D.nx σ H1
theorem ps_while {c : Expr} {body : List Stmt} {tc : TT} {tb : TS} (hp : PassesOwn (model X.prog X.w) X.A X.env X.xe) (hc : PT X c tc) (hb : PSs X body tb) : PS X (.While c body [] pos) (tWhile tc tb) := by
  intro pins s σ H D I h
  obtain ⟨W, ⟨m0, w0⟩, turn⟩ := h
  refine wpAny_While (codeAny_whileLoop (fun n s' => ∃ σ' H', Inv X pins σ' H' s' ∧ W n σ' H') ?_ m0 ⟨σ, H, I, w0⟩)
  rintro n s1 ⟨σ1, H1, I1, w1⟩
  refine wpAny_passesOwn hp (thn (hc pins s1 σ1 H1 _ I1 (turn n σ1 H1 w1)) fun b s2 ⟨H2, I2, q2⟩ => ?_)
  cases b with
  | true =>
    obtain ⟨N, hN, q2⟩ := q2
    rw [if_pos rfl]
    refine wpAny_passesOwn hp (thn (hb pins s2 σ1 H2 _ I2 q2) fun f s3 q3 => ?_)
    cases f with
    | next =>
      obtain ⟨σ3, H3, I3, n3⟩ := q3
      obtain ⟨m', hm, w3⟩ := hN σ3 H3 n3
      exact ⟨m', hm, σ3, H3, I3, w3⟩
    | cont =>
      obtain ⟨σ3, H3, I3, n3⟩ := q3
      obtain ⟨m', hm, w3⟩ := hN σ3 H3 n3
      exact ⟨m', hm, σ3, H3, I3, w3⟩
    | brk => exact q3
    | ret v => exact q3
  | false =>
    rw [if_neg Bool.false_ne_true]
    exact wpAny_execs_nil ⟨σ1, H2, I2, q2⟩
end
structure It where
  go : Nat → Hp → Prop
  yld : Nat → Hp → V → Hp → Prop
  stop : Nat → Hp → Prop
def FpOk (X : Cx) (pins : List (Addr × Obj)) (H : Hp) (b : Addr) : Prop :=
  H b = none ∧ b ≠ X.env.locals ∧ b ∉ X.fs ∧ (b ∈ X.ex ∨ X.s_0.heap.objs.size ≤ b) ∧ (∀ x c, X.env.cells.lookup x = some c → c ≠ b) ∧ ∀ p ∈ X.pn ++ pins, p.1 ≠ b
theorem Inv.fpOk {X : Cx} {pins : List (Addr × Obj)} {σ : St} {H H' : Hp} {s : Shared} {b : Addr} (I : Inv X pins σ H s) (hb : s.heap.objs.size ≤ b) (hn : H' b = none) : FpOk X pins H' b := by
  refine ⟨hn, Nat.ne_of_gt (Nat.lt_of_lt_of_le I.lt hb), I.nofs hb, .inr (Nat.le_trans I.sz hb), fun x c e z => ?_, fun p hp z => ?_⟩
  · obtain ⟨v, q⟩ := I.cell x c e
    exact absurd (Nat.lt_of_lt_of_le q.lt (by rw [z]; exact hb)) (Nat.lt_irrefl _)
  · exact absurd (Nat.lt_of_lt_of_le (Heap.lt_size (I.pin p hp).1) (by rw [z]; exact hb)) (Nat.lt_irrefl _)
structure Turn (P : Program) (w : World) (K : PySem.W.Frag) (tg : Expr) (J : It) (fp : List Addr) (it : Addr) (tn : Nat → Heap → Prop) : Prop where
  mem : it ∈ fp
  obj : ∀ i h, tn i h → ∀ b ∈ fp, ∃ o, h.get? b = some o ∧ ∀ v, o.data ≠ .cell v
  keep : ∀ i h h', tn i h → (∀ b ∈ fp, ∀ o, h.get? b = some o → h'.get? b = some o) → tn i h'
  item : ∀ (X : Cx), X.prog = P → X.w = w → X.K = K → X.calm = true → ∀ (i : Nat) (pins : List (Addr × Obj)) (s : Shared) (σ : St) (H : Hp) (E : Value → Shared → Prop), Inv X pins σ H s → (∀ b ∈ fp, FpOk X pins H b) → tn i s.heap → J.go i H →
    wpAny (model P w) X.A (pyNext (.ref it)) (fun r s1 => ∃ u, r = some u ∧
      wpAny (model P w) X.A (letOwnedTupleGo tg (.ref it) u) (fun _ s2 => ∃ x H', Inv X pins σ H' s2 ∧ RelV x u ∧ J.yld i H x H' ∧ tn (i + 1) s2.heap ∧ ∀ b ∈ fp, H' b = none) E s1) E s
  done : ∀ (X : Cx), X.prog = P → X.w = w → X.K = K → X.calm = true → ∀ (i : Nat) (pins : List (Addr × Obj)) (s : Shared) (σ : St) (H : Hp) (E : Value → Shared → Prop), Inv X pins σ H s → (∀ b ∈ fp, FpOk X pins H b) → tn i s.heap → J.stop i H →
    wpAny (model P w) X.A (pyNext (.ref it)) (fun r s1 => r = none ∧ Inv X pins σ H s1) E s
  self : ∀ (A : Around) (i : Nat) (s : Shared) (Q : Value → Shared → Prop) (E : Value → Shared → Prop), tn i s.heap → Q (.ref it) s → wpAny (model P w) A (pyIter (.ref it)) Q E s
abbrev TI := St → Hp → (It → Hp → Prop) → Prop
def PIE (X : Cx) (pins : List (Addr × Obj)) (σ : St) (tg : Expr) (R : It → Hp → Prop) (itv : Value) (s2 : Shared) : Prop :=
  ∃ (it : Addr) (fp : List Addr) (tn : Nat → Heap → Prop) (J : It) (H' : Hp), itv = .ref it ∧ Inv X pins σ H' s2 ∧ Turn X.prog X.w X.K tg J fp it tn ∧ tn 0 s2.heap ∧ (∀ b ∈ fp, FpOk X pins H' b) ∧ R J H'
def PI (X : Cx) (tg iter : Expr) (wi : TI) : Prop :=
  ∀ (pins : List (Addr × Obj)) (s : Shared) (σ : St) (H : Hp) (R : It → Hp → Prop), Inv X pins σ H s → wi σ H R →
    wpAny (model X.prog X.w) X.A (eval iter X.env) (fun v s1 => wpAny (model X.prog X.w) X.A (pyIter v) (PIE X pins σ tg R) X.xe s1) X.xe s
theorem go_of {M : Model} {A : Around} {E : Value → Shared → Prop} {s : Shared} {tg : Expr} {it : Addr} {u : Value} {o : Obj} {n : String} {vs : Array Value} {Q : Unit → Shared → Prop} (ho : s.heap.get? it = some o) (hc : o.cls = .type n) (hd : o.data = .fields vs)
    (hn : ["enumerate", "zip", "dict_itemiterator", "dict_reverseitemiterator", "odict_iterator", "itertools.zip_longest", "itertools.pairwise"].contains n = false) (hQ : Q () s) : wpAny M A (letOwnedTupleGo tg (.ref it) u) Q E s := by
  unfold letOwnedTupleGo
  cases tg <;> first
    | exact wpAny_pure hQ
    | (cases u <;> first
        | exact wpAny_pure hQ
        | (refine wpAny_bind (wpAny_load ho ?_)
           rw [hc, hd]
           show wpAny M A (if (["enumerate", "zip", "dict_itemiterator", "dict_reverseitemiterator", "odict_iterator", "itertools.zip_longest", "itertools.pairwise"].contains n && vs[0]? == some (rawInt _)) = true then _ else _) Q E s
           rw [if_neg (by intro h; rw [hn, Bool.false_and] at h; cases h)]
           exact wpAny_pure hQ))
def Itl (K : PySem.W.Frag) (a : Addr) : It :=
  ⟨fun i H => ∃ xs x, SqL K H a xs ∧ xs[i]? = some x, fun i H x H' => H' = H ∧ ∀ xs, SqL K H a xs → xs[i]? = some x, fun i H => ∃ xs, SqL K H a xs ∧ xs.length ≤ i⟩
def Itr (lo : Int) (n : Nat) : It := ⟨fun i _ => i < n, fun i H x H' => H' = H ∧ x = .int (lo + i), fun i _ => n ≤ i⟩
theorem turn_list {P : Program} {w : World} {K : PySem.W.Frag} {tg : Expr} (a it : Addr) : Turn P w K tg (Itl K a) [it] it (fun i h => h.IsListIter it a i) where
  mem := by simp
  obj := fun i h st b hb => by
    have e : b = it := by simpa using hb
    subst e
    obtain ⟨o, e, c, d⟩ := st
    exact ⟨o, e, fun v z => by rw [d] at z; cases z⟩
  keep := fun i h h' st k => st.at fun o e => k it (by simp) o e
  item := by
    intro X hP hw hK hc i pins s σ H E I hf st hg
    subst hP hw hK
    obtain ⟨xs, x, hq, hx⟩ := hg
    obtain ⟨its, rv, p, hz⟩ := I.list hq
    obtain ⟨u, hu, ru⟩ := rv.get hx
    obtain ⟨f0, f1, f2, f3, f4, f5⟩ := hf it (by simp)
    refine wpAny_pyNext_list_item st p.isList (x := u) (by simpa using hu) fun h' st' sb => ?_
    have I1 : Inv X pins σ H { s with heap := h' } := I.turned (t' := s.toks) (fun b o hb e => (sb.2 b hb).trans e) f0 f1 f3 f4 f5
    obtain ⟨o, e, c, d⟩ := id st'
    exact ⟨u, rfl, go_of (s := { s with heap := h' }) e c d (by decide) ⟨x, H, I1, ru, ⟨rfl, fun ys hy => by rw [I.list_inj hy hq]; exact hx⟩, st', fun b hb => (hf b hb).1⟩⟩
  done := by
    intro X hP hw hK hc i pins s σ H E I hf st hg
    subst hP hw hK
    obtain ⟨xs, hq, hx⟩ := hg
    obtain ⟨its, rv, p, hz⟩ := I.list hq
    obtain ⟨f0, f1, f2, f3, f4, f5⟩ := hf it (by simp)
    have hl := rv.length
    exact wpAny_pyNext_list_end (I.ok.hd hc) st p.isList (by simp; omega) fun h' eb => ⟨rfl, I.turned (t' := s.toks) (fun b o hb e => eb b o hb e) f0 f1 f3 f4 f5⟩
  self := fun _ _ _ _ _ st h => wpAny_pyIter_listiter st h
theorem turn_range {P : Program} {w : World} {K : PySem.W.Frag} {tg : Expr} (it : Addr) (lo : Int) (n : Nat) : Turn P w K tg (Itr lo n) [it] it (fun i h => IsRangeIter h it (lo + (i : Nat) * 1) ((n : Int) - (i : Nat)) 1) where
  mem := by simp
  obj := fun i h st b hb => by
    have e : b = it := by simpa using hb
    subst e
    exact ⟨_, st, fun v z => by
      have z' : Data.fields _ = Data.cell v := z
      cases z'⟩
  keep := fun i h h' st k => k it (by simp) _ st
  item := by
    intro X hP hw hK hc i pins s σ H E I hf st hg
    subst hP hw hK
    obtain ⟨f0, f1, f2, f3, f4, f5⟩ := hf it (by simp)
    have W := Walks.range (prog := X.prog) (w := X.w) (I.ok.hd hc) it lo 1 n
    refine W.item i s _ _ hg st fun v h' tk hv st' kk => ?_
    obtain ⟨t, rfl⟩ := hv
    have I1 : Inv X pins σ H { s with heap := h', toks := tk } := I.turned (fun b o hb e => kk b o (by simpa using hb) e) f0 f1 f3 f4 f5
    refine ⟨_, rfl, go_of (s := { s with heap := h', toks := tk }) (n := "range_iterator") st' rfl rfl (by decide) ⟨.int (lo + i), H, I1, ⟨t, ?_⟩, ⟨rfl, rfl⟩, st', fun b hb => (hf b hb).1⟩⟩
    rw [Int.mul_one]
  done := by
    intro X hP hw hK hc i pins s σ H E I hf st hg
    subst hP hw hK
    obtain ⟨f0, f1, f2, f3, f4, f5⟩ := hf it (by simp)
    exact wpAny_pyNext_range_end (I.ok.hd hc) st (by have : n ≤ i := hg; omega) fun h' eb => ⟨rfl, I.turned (t' := s.toks) (fun b o hb e => eb b o hb e) f0 f1 f3 f4 f5⟩
  self := fun _ _ _ _ _ st h => wpAny_pyIter_rangeiter st h
end L2
namespace L2
open PySem PySem.Spec PyProof.Rows
section
variable {X : Cx} {tg : Expr}
def iList (K : PySem.W.Frag) (tl : TE) : TI := fun σ H R => tl σ H fun x H1 => ∃ a, x = .ref a ∧ (∃ xs, SqL K H1 a xs) ∧ R (Itl K a) H1
theorem pi_list {l : Expr} {tl : TE} (hl : PE X l tl) : PI X tg l (iList X.K tl) := by
  intro pins s σ H R I h
  refine thn (hl pins s σ H _ I h) fun v s1 ⟨x, H1, I1, r1, q1⟩ => ?_
  obtain ⟨a, e, ⟨xs, hq⟩, q⟩ := q1
  subst e
  cases r1
  obtain ⟨its, rv, p, hz⟩ := I1.list hq
  refine wpAny_pyIter_list p.isList ?_
  refine ⟨s1.heap.objs.size, [s1.heap.objs.size], _, _, H1, rfl, I1.kept (t' := s1.toks) fun b o e => Heap.get?_push_of_some _ e, turn_list a _, ⟨_, Heap.get?_push_size _ rfl, rfl, rfl⟩, fun b hb => ?_, q⟩
  have e : b = s1.heap.objs.size := by simpa using hb
  subst e
  exact I1.fpOk (Nat.le_refl _) (I1.hok.fresh (Nat.le_refl _))
theorem range_it {pins : List (Addr × Obj)} {σ : St} {H : Hp} {s : Shared} {R : It → Hp → Prop} {E : Value → Shared → Prop} {lo hi : Int} {t u v : Tok} {tk : Nat} (I : Inv X pins σ H s) (h1 : -(2 ^ 62) ≤ lo) (h2 : lo < 2 ^ 62) (h3 : -(2 ^ 62) ≤ hi) (h4 : hi < 2 ^ 62)
    (q : R (Itr lo (hi - lo).toNat) H) : wpAny (model X.prog X.w) X.A (pyIter (.ref s.heap.objs.size)) (PIE X pins σ tg R) E { s with heap := s.heap.push { cls := .type "range", data := .fields #[.int lo t, .int hi u, .int 1 v] }, toks := tk } := by
  refine wpAny_pyIter_range (IsRange.new ..) (small_one h1 h2 h3 h4) ?_
  have I1 : Inv X pins σ H { s with heap := s.heap.push { cls := .type "range", data := .fields #[.int lo t, .int hi u, .int 1 v] }, toks := tk } := I.kept fun b o e => Heap.get?_push_of_some _ e
  refine ⟨(s.heap.push { cls := .type "range", data := .fields #[.int lo t, .int hi u, .int 1 v] }).objs.size, [(s.heap.push { cls := .type "range", data := .fields #[.int lo t, .int hi u, .int 1 v] }).objs.size], _, _, H, rfl,
    I1.kept (t' := tk) fun b o e => Heap.get?_push_of_some _ e, turn_range _ lo (hi - lo).toNat, ?_, fun b hb => ?_, q⟩
  · have e1 : lo + ((0 : Nat) : Int) * 1 = lo := by simp
    have e2 : (((hi - lo).toNat : Nat) : Int) - ((0 : Nat) : Int) = Builtin.Range.rangeSize lo hi 1 := by rw [rangeSize_one]; split <;> omega
    show IsRangeIter _ _ (lo + ((0 : Nat) : Int) * 1) ((((hi - lo).toNat : Nat) : Int) - ((0 : Nat) : Int)) 1
    rw [e1, e2]
    exact Heap.get?_push_size _ rfl
  · have e : b = (s.heap.push { cls := .type "range", data := .fields #[.int lo t, .int hi u, .int 1 v] }).objs.size := by simpa using hb
    subst e
    exact I1.fpOk (Nat.le_refl _) (I1.hok.fresh (Nat.le_refl _))
def iRng1 (ta : TA) : TI := fun σ H R => ta σ H fun vs H1 => ∃ j : Int, vs = [.int j] ∧ -(2 ^ 62) ≤ j ∧ j < 2 ^ 62 ∧ R (Itr 0 j.toNat) H1
def iRng2 (ta : TA) : TI := fun σ H R => ta σ H fun vs H1 => ∃ i j : Int, vs = [.int i, .int j] ∧ (-(2 ^ 62) ≤ i ∧ i < 2 ^ 62 ∧ -(2 ^ 62) ≤ j ∧ j < 2 ^ 62) ∧ R (Itr i (j - i).toNat) H1
theorem pi_range1 {a : Expr} {ta : TA} {p pos : Pos} (hg : Gl X "range") (hm : X.mg "range" = none) (ha : PA X [a] ta) (hs : starEach [a] X.env = [(false, eval a X.env)] := by rfl) : PI X tg (.Call (.Name "range" p) [a] [] pos) (iRng1 ta) := by
  intro pins s σ H R I h
  refine Call_ (ld_blt I hg hm boot_range (PyProof.Rows.callWith_type1 (thn (ha pos pins s σ H _ I h) fun us s1 ⟨vs, H1, I1, r1, q1⟩ => ?_) hs rfl))
  obtain ⟨j, e, q1, q2, q⟩ := q1
  subst e
  cases r1 with
  | cons r rr =>
    cases rr
    obtain ⟨t, rfl⟩ := r
    exact call_range_1 (range_it I1 (by omega) (by omega) q1 q2 (by simpa using q))
theorem pi_range2 {a b : Expr} {ta : TA} {p pos : Pos} (hg : Gl X "range") (hm : X.mg "range" = none) (ha : PA X [a, b] ta) (hs : starEach [a, b] X.env = [(false, eval a X.env), (false, eval b X.env)] := by rfl) (hs2 : starEach [b] X.env = [(false, eval b X.env)] := by rfl) :
    PI X tg (.Call (.Name "range" p) [a, b] [] pos) (iRng2 ta) := by
  intro pins s σ H R I h
  refine Call_ (ld_blt I hg hm boot_range (PyProof.Rows.callWith_type1 (thn (ha pos pins s σ H _ I h) fun us s1 ⟨vs, H1, I1, r1, q1⟩ => ?_) (by rw [hs, hs2]) (by rw [hs2]; rfl)))
  obtain ⟨i, j, e, ⟨q1, q2, q3, q4⟩, q⟩ := q1
  subst e
  cases r1 with
  | cons r rr =>
    cases rr with
    | cons r' rr =>
      cases rr
      obtain ⟨t, rfl⟩ := r
      obtain ⟨t', rfl⟩ := r'
      exact call_range_2 (range_it I1 q1 q2 q3 q4 q)
def tFor (wi : TI) (g : TG) (tb : TS) : TS := fun D σ H => wi σ H fun J H1 => ∃ W : Nat → Nat → St → Hp → Prop, (∃ m, W 0 m σ H1) ∧ ∀ i m σ H, W i m σ H →
  (J.stop i H ∧ D.nx σ H) ∨ (J.go i H ∧ ∃ N : St → Hp → Prop, (∀ σ' H', N σ' H' → ∃ m', m' < m ∧ W (i + 1) m' σ' H') ∧ ∀ x H', J.yld i H x H' → g x σ H' fun σ2 H2 => tb { D with nx := N, ct := N, bk := D.nx } σ2 H2)
def pinsAt (fp : List Addr) (h : Heap) : List (Addr × Obj) := fp.filterMap fun b => (h.get? b).map fun o => (b, o)
theorem mem_pinsAt {fp : List Addr} {h : Heap} {b : Addr} {o : Obj} (hb : b ∈ fp) (e : h.get? b = some o) : (b, o) ∈ pinsAt fp h := List.mem_filterMap.mpr ⟨b, hb, by rw [e]; rfl⟩
theorem of_pinsAt {fp : List Addr} {h : Heap} {p : Addr × Obj} (hp : p ∈ pinsAt fp h) : p.1 ∈ fp ∧ h.get? p.1 = some p.2 := by
  obtain ⟨b, hb, e⟩ := List.mem_filterMap.mp hp
  cases q : h.get? b with
  | none => rw [q] at e; cases e
  | some o =>
    rw [q] at e
    have e' : (b, o) = p := Option.some.inj e
    subst e'
    exact ⟨hb, q⟩
theorem Inv.pinned {pins : List (Addr × Obj)} {σ : St} {H : Hp} {s : Shared} {fp : List Addr} (I : Inv X pins σ H s) (hf : ∀ b ∈ fp, FpOk X pins H b) (ho : ∀ b ∈ fp, ∃ o, s.heap.get? b = some o ∧ ∀ v, o.data ≠ .cell v) : Inv X (pins ++ pinsAt fp s.heap) σ H s :=
  I.pins_of fun p hp => (List.mem_append.mp hp).elim (fun z => I.pin p (List.mem_append_right _ z)) fun z => by
    obtain ⟨hb, e⟩ := of_pinsAt z
    obtain ⟨f0, f1, f2, _⟩ := hf p.1 hb
    obtain ⟨o, e', d⟩ := ho p.1 hb
    rw [e] at e'; cases e'
    exact ⟨e, f0, f1, f2, d⟩
theorem Inv.unpinned {pins pl : List (Addr × Obj)} {σ : St} {H : Hp} {s : Shared} (I : Inv X (pins ++ pl) σ H s) : Inv X pins σ H s := I.pins_of fun p hp => I.pin p (List.mem_append_right _ (List.mem_append_left _ hp))
theorem ps_for {iter : Expr} {body : List Stmt} {wi : TI} {g : TG} {tb : TS} {pos : Pos} (hp : PassesOwn (model X.prog X.w) X.A X.env X.xe) (hc : X.calm = true) (hi : PI X tg iter wi) (hg : PG X tg g) (hb : PSs X body tb)
    (hs : ∀ x, foldedSetIterable iter X.env x = pure x := by intro _; rfl) : PS X (.For tg iter body [] pos) (tFor wi g tb) := by
  intro pins s σ H D I h
  refine wpAny_For (thn (hi pins s σ H _ I h) fun v s1 h1 => thn h1 fun itv s2 h2 => ?_) hs
  obtain ⟨it, fp, tn, J, H2, e, I2, T, st2, f2, W, ⟨m0, w0⟩, turn⟩ := h2
  subst e
  -- what stays true of the iterator's objects through the loop
  have stat : ∀ {H' : Hp}, (∀ b ∈ fp, H' b = none) → ∀ b ∈ fp, FpOk X pins H' b := fun hn b hb => ⟨hn b hb, (f2 b hb).2⟩
  refine codeAny_forLoop_any (fun n s' => ∃ i σ' H', Inv X pins σ' H' s' ∧ tn i s'.heap ∧ (∀ b ∈ fp, H' b = none) ∧ W i n σ' H') ?_ m0 ⟨0, σ, H2, I2, st2, fun b hb => (f2 b hb).1, w0⟩
  rintro n s3 ⟨i, σ3, H3, I3, st3, fr3, w3⟩
  rcases turn i n σ3 H3 w3 with ⟨stop, qn⟩ | ⟨go, N, hN, step⟩
  · refine wpAny_passesOwn hp (thn (T.done X rfl rfl rfl hc i pins s3 σ3 H3 X.xe I3 (stat fr3) st3 stop) fun r s4 ⟨hr, I4⟩ => ?_)
    subst hr
    exact wpAny_execs_nil ⟨σ3, H3, I4, qn⟩
  · refine wpAny_passesOwn hp (thn (T.item X rfl rfl rfl hc i pins s3 σ3 H3 X.xe I3 (stat fr3) st3 go) fun r s4 ⟨u, hr, h4⟩ => ?_)
    subst hr
    refine wpAny_passesOwn hp (thn h4 fun _ s5 ⟨x, H5, I5, r5, y5, st5, fr5⟩ => ?_)
    have I5' := I5.pinned (stat fr5) (T.obj _ _ st5)
    refine wpAny_passesOwn hp (thn (hg _ s5 σ3 H5 x u _ I5' r5 (step x H5 y5)) fun _ s6 ⟨σ6, H6, I6, q6⟩ => ?_)
    refine wpAny_passesOwn hp (thn (hb _ s6 σ6 H6 _ I6 q6) fun f s7 q7 => ?_)
    have again : ∀ {σ7 : St} {H7 : Hp}, Inv X (pins ++ pinsAt fp s5.heap) σ7 H7 s7 → N σ7 H7 → ∃ m, m < n ∧ ∃ i σ' H', Inv X pins σ' H' s7 ∧ tn i s7.heap ∧ (∀ b ∈ fp, H' b = none) ∧ W i m σ' H' := fun {σ7 H7} I7 n7 => by
      obtain ⟨m', hm, w7⟩ := hN σ7 H7 n7
      refine ⟨m', hm, i + 1, σ7, H7, I7.unpinned, T.keep _ _ _ st5 fun b hb o e => (I7.pin (b, o) (List.mem_append_right _ (List.mem_append_right _ (mem_pinsAt hb e)))).1, fun b hb => ?_, w7⟩
      obtain ⟨o, e, d⟩ := T.obj _ _ st5 b hb
      exact (I7.pin (b, o) (List.mem_append_right _ (List.mem_append_right _ (mem_pinsAt hb e)))).2.1
    cases f with
    | next => obtain ⟨σ7, H7, I7, n7⟩ := q7; exact again I7 n7
    | cont => obtain ⟨σ7, H7, I7, n7⟩ := q7; exact again I7 n7
    | brk => obtain ⟨σ7, H7, I7, q7⟩ := q7; exact ⟨σ7, H7, I7.unpinned, q7⟩
    | ret v => obtain ⟨x7, σ7, H7, I7, r7, q7⟩ := q7; exact ⟨x7, σ7, H7, I7.unpinned, r7, q7⟩
end
theorem for_list {K : PySem.W.Frag} {a : Addr} {xs : List V} {g : TG} {tb : TS} {D : Ends} {σ : St} {H : Hp} (Pv : Nat → St → Hp → Prop) (h0 : Pv 0 σ H) (hl : ∀ i σ H, i ≤ xs.length → Pv i σ H → SqL K H a xs)
    (hs : ∀ i x σ H, xs[i]? = some x → Pv i σ H → g x σ H fun σ2 H2 => tb { D with nx := Pv (i + 1), ct := Pv (i + 1), bk := D.nx } σ2 H2) (hd : ∀ σ H, Pv xs.length σ H → D.nx σ H) :
    ∃ W : Nat → Nat → St → Hp → Prop, (∃ m, W 0 m σ H) ∧ ∀ i m σ H, W i m σ H →
      ((Itl K a).stop i H ∧ D.nx σ H) ∨ ((Itl K a).go i H ∧ ∃ N : St → Hp → Prop, (∀ σ' H', N σ' H' → ∃ m', m' < m ∧ W (i + 1) m' σ' H') ∧ ∀ x H', (Itl K a).yld i H x H' → g x σ H' fun σ2 H2 => tb { D with nx := N, ct := N, bk := D.nx } σ2 H2) := by
  refine ⟨fun i m σ H => m = xs.length - i ∧ i ≤ xs.length ∧ Pv i σ H, ⟨xs.length, by simp, Nat.zero_le _, h0⟩, ?_⟩
  rintro i m σ H ⟨rfl, hi, p⟩
  have q := hl i σ H hi p
  by_cases hlt : i < xs.length
  · refine .inr ⟨⟨xs, xs[i], q, by simp [hlt]⟩, Pv (i + 1), fun σ' H' p' => ⟨xs.length - (i + 1), by omega, rfl, hlt, p'⟩, fun x H' y => ?_⟩
    obtain ⟨e, y⟩ := y
    subst e
    exact hs i x σ _ (y xs q) p
  · have e : i = xs.length := by omega
    subst e
    exact .inl ⟨⟨xs, q, Nat.le_refl _⟩, hd σ H p⟩
theorem for_range {lo : Int} {n : Nat} {g : TG} {tb : TS} {D : Ends} {σ : St} {H : Hp} (Pv : Nat → St → Hp → Prop) (h0 : Pv 0 σ H)
    (hs : ∀ i σ H, i < n → Pv i σ H → g (.int (lo + i)) σ H fun σ2 H2 => tb { D with nx := Pv (i + 1), ct := Pv (i + 1), bk := D.nx } σ2 H2) (hd : ∀ σ H, Pv n σ H → D.nx σ H) :
    ∃ W : Nat → Nat → St → Hp → Prop, (∃ m, W 0 m σ H) ∧ ∀ i m σ H, W i m σ H →
      ((Itr lo n).stop i H ∧ D.nx σ H) ∨ ((Itr lo n).go i H ∧ ∃ N : St → Hp → Prop, (∀ σ' H', N σ' H' → ∃ m', m' < m ∧ W (i + 1) m' σ' H') ∧ ∀ x H', (Itr lo n).yld i H x H' → g x σ H' fun σ2 H2 => tb { D with nx := N, ct := N, bk := D.nx } σ2 H2) := by
  refine ⟨fun i m σ H => m = n - i ∧ i ≤ n ∧ Pv i σ H, ⟨n, by simp, Nat.zero_le _, h0⟩, ?_⟩
  rintro i m σ H ⟨rfl, hi, p⟩
  by_cases hlt : i < n
  · refine .inr ⟨hlt, Pv (i + 1), fun σ' H' p' => ⟨n - (i + 1), by omega, rfl, hlt, p'⟩, fun x H' y => ?_⟩
    obtain ⟨e, y⟩ := y
    subst e y
    exact hs i σ _ hlt p
  · have e : i = n := by omega
    subst e
    exact .inl ⟨Nat.le_refl _, hd σ H p⟩
end L2
namespace L2
open PySem PySem.Spec PyProof.Rows
abbrev R2 := V → V → Hp → VK → Prop
def OpR (X : Cx) (f : Value → Value → Sem Value) (r : R2) : Prop :=
  ∀ (pins : List (Addr × Obj)) (s : Shared) (σ : St) (H : Hp) (x y : V) (v u : Value) (Q : VK), Inv X pins σ H s → RelV x v → RelV y u → r x y H Q →
    wpAny (model X.prog X.w) X.A (f v u) (EP X pins σ Q) X.xe s
def UnR (X : Cx) (f : Value → Sem Value) (r : V → Hp → VK → Prop) : Prop :=
  ∀ (pins : List (Addr × Obj)) (s : Shared) (σ : St) (H : Hp) (x : V) (v : Value) (Q : VK), Inv X pins σ H s → RelV x v → r x H Q →
    wpAny (model X.prog X.w) X.A (f v) (EP X pins σ Q) X.xe s
def CallR (X : Cx) (f : Value) (r : List V → Hp → VK → Prop) : Prop :=
  ∀ (pins : List (Addr × Obj)) (s : Shared) (σ : St) (H : Hp) (xs : List V) (us : List Value) (Q : VK), Inv X pins σ H s → Vals xs us → r xs H Q →
    wpAny (model X.prog X.w) X.A (call f us) (EP X pins σ Q) X.xe s
def tOp (r : R2) (ta tb : TE) : TE := fun σ H Q => ta σ H fun x H1 => tb σ H1 fun y H2 => r x y H2 Q
def tUn (r : V → Hp → VK → Prop) (ta : TE) : TE := fun σ H Q => ta σ H fun x H1 => r x H1 Q
def rI (C : Int → Int → Prop) (g : Int → Int → V) : R2 := fun x y H Q => ∃ i j, x = .int i ∧ y = .int j ∧ C i j ∧ Q (g i j) H
def rI0 (g : Int → Int → V) : R2 := fun x y H Q => ∃ i j, x = .int i ∧ y = .int j ∧ Q (g i j) H
def rU (g : Int → V) : V → Hp → VK → Prop := fun x H Q => ∃ i, x = .int i ∧ Q (g i) H
section
variable {X : Cx} {a b c : Expr} {ta tb tc : TE} {pos : Pos}
theorem binT (ha : PE X a ta) (hb : PE X b tb) {pins : List (Addr × Obj)} {s : Shared} {σ : St} {H : Hp} {R : V → V → Hp → Prop} (I : Inv X pins σ H s)
    (h : ta σ H fun x H1 => tb σ H1 fun y H2 => R x y H2) {Q : Value → Shared → Prop} {f : Value → Value → Sem Value}
    (hf : ∀ v u s2 x y H2, Inv X pins σ H2 s2 → RelV x v → RelV y u → R x y H2 → wpAny (model X.prog X.w) X.A (f v u) Q X.xe s2) :
    wpAny (model X.prog X.w) X.A (eval a X.env) (fun v s₁ => wpAny (model X.prog X.w) X.A (eval b X.env) (fun u s₂ => wpAny (model X.prog X.w) X.A (f v u) Q X.xe s₂) X.xe s₁) X.xe s := by
  refine thn (ha pins s σ H _ I h) fun v s1 ⟨x, H1, I1, r1, q1⟩ => ?_
  refine thn (hb pins s1 σ H1 _ I1 q1) fun u s2 ⟨y, H2, I2, r2, q2⟩ => ?_
  exact hf v u s2 x y H2 I2 r1 r2 q2
theorem pe_op {op : Operator} {r : R2} (ho : OpR X (binaryOp op) r) (ha : PE X a ta) (hb : PE X b tb) : PE X (.BinOp a op b pos) (tOp r ta tb) := by
  intro pins s σ H Q I h
  exact wpAny_BinOp (binT ha hb I h fun v u s2 x y H2 I2 rx ry q => ho pins s2 σ H2 x y v u Q I2 rx ry q)
theorem pe_un {op : UnaryOp} {r : V → Hp → VK → Prop} (ho : UnR X (unaryOp op) r) (ha : PE X a ta) : PE X (.UnaryOp op a pos) (tUn r ta) := by
  intro pins s σ H Q I h
  exact UnaryOp_ (thn (ha pins s σ H _ I h) fun v s1 ⟨x, H1, I1, r1, q1⟩ => ho pins s1 σ H1 x v Q I1 r1 q1)
theorem opI {f : Value → Value → Sem Value} {C : Int → Int → Prop} {g : Int → Int → Int}
    (rule : ∀ (i j : Int) (t u : Tok) (s : Shared) (Q : Value → Shared → Prop) (E : Value → Shared → Prop), C i j → Q (.int (g i j) s.toks) { s with toks := s.toks + 1 } → wpAny (model X.prog X.w) X.A (f (.int i t) (.int j u)) Q E s) :
    OpR X f (rI C fun i j => .int (g i j)) := by
  intro pins s σ H x y v u Q I rx ry h
  obtain ⟨i, j, rfl, rfl, hc, q⟩ := h
  obtain ⟨t, rfl⟩ := rx
  obtain ⟨t', rfl⟩ := ry
  exact rule i j t t' s _ _ hc ⟨.int (g i j), H, I.tok _, ⟨_, rfl⟩, q⟩
theorem opI0 {f : Value → Value → Sem Value} {g : Int → Int → Int}
    (rule : ∀ (i j : Int) (t u : Tok) (s : Shared) (Q : Value → Shared → Prop) (E : Value → Shared → Prop), Q (.int (g i j) s.toks) { s with toks := s.toks + 1 } → wpAny (model X.prog X.w) X.A (f (.int i t) (.int j u)) Q E s) :
    OpR X f (rI0 fun i j => .int (g i j)) := by
  intro pins s σ H x y v u Q I rx ry h
  obtain ⟨i, j, rfl, rfl, q⟩ := h
  obtain ⟨t, rfl⟩ := rx
  obtain ⟨t', rfl⟩ := ry
  exact rule i j t t' s _ _ ⟨.int (g i j), H, I.tok _, ⟨_, rfl⟩, q⟩
theorem opB0 {f : Value → Value → Sem Value} {g : Int → Int → Bool}
    (rule : ∀ (i j : Int) (t u : Tok) (s : Shared) (Q : Value → Shared → Prop) (E : Value → Shared → Prop), Q (.bool (g i j)) s → wpAny (model X.prog X.w) X.A (f (.int i t) (.int j u)) Q E s) :
    OpR X f (rI0 fun i j => .bl (g i j)) := by
  intro pins s σ H x y v u Q I rx ry h
  obtain ⟨i, j, rfl, rfl, q⟩ := h
  obtain ⟨t, rfl⟩ := rx
  obtain ⟨t', rfl⟩ := ry
  exact rule i j t t' s _ _ ⟨.bl (g i j), H, I, rfl, q⟩
def CDiv (i j : Int) : Prop := 0 < j ∧ j < 1073741824
def CMul (i j : Int) : Prop := (-(2 ^ 64) < i ∧ i < 2 ^ 64) ∨ (-(2 ^ 64) < j ∧ j < 2 ^ 64)
theorem CMul.ok {i j : Int} (h : CMul i j) : IntMulOk i j := by
  rcases h with ⟨h1, h2⟩ | ⟨h1, h2⟩
  · exact .of_left (intBits_le_64 h1 h2)
  · exact .of_right (intBits_le_64 h1 h2)
theorem op_add : OpR X (binaryOp .Add) (rI0 fun i j => .int (i + j)) := opI0 fun _ _ _ _ _ _ _ q => add_int q
theorem op_sub : OpR X (binaryOp .Sub) (rI0 fun i j => .int (i - j)) := opI0 fun _ _ _ _ _ _ _ q => sub_int q
theorem op_mul : OpR X (binaryOp .Mult) (rI CMul fun i j => .int (i * j)) := opI fun _ _ _ _ _ _ _ hc q => mul_int q hc.ok
theorem op_fdiv : OpR X (binaryOp .FloorDiv) (rI CDiv fun i j => .int (i / j)) := opI fun i j _ _ _ _ _ hc q => by
  have h1 : (0 : Int) < j := hc.1
  have h2 : j < 1073741824 := hc.2
  exact floordiv_int (by omega) (by rw [Int.fdiv_eq_ediv_of_nonneg i (by omega)]; exact q) (.inl (PyProof.noPylong_small (by omega)))
theorem op_mod : OpR X (binaryOp .Mod) (rI (fun _ j => 0 < j) fun i j => .int (i % j)) := opI fun i j _ _ _ _ _ hc q => by
  have h1 : (0 : Int) < j := hc
  exact mod_int' (by omega) (by rw [Int.fmod_eq_emod_of_nonneg i (by omega)]; exact q)
theorem unI {f : Value → Sem Value} {g : Int → Int}
    (rule : ∀ (i : Int) (t : Tok) (s : Shared) (Q : Value → Shared → Prop) (E : Value → Shared → Prop), Q (.int (g i) s.toks) { s with toks := s.toks + 1 } → wpAny (model X.prog X.w) X.A (f (.int i t)) Q E s) :
    UnR X f (rU fun i => .int (g i)) := by
  intro pins s σ H x v Q I rx h
  obtain ⟨i, rfl, q⟩ := h
  obtain ⟨t, rfl⟩ := rx
  exact rule i t s _ _ ⟨.int (g i), H, I.tok _, ⟨_, rfl⟩, q⟩
theorem un_neg : UnR X (unaryOp .USub) (rU fun i => .int (-i)) := unI fun _ _ _ _ _ q => neg_int q
end
section
variable {X : Cx} {a b c : Expr} {ta tb tc : TE} {pos : Pos}
theorem op_lt : OpR X (compareOp .Lt) (rI0 fun i j => .bl (decide (i < j))) := opB0 fun _ _ _ _ _ _ _ q => lt_int q
theorem op_le : OpR X (compareOp .LtE) (rI0 fun i j => .bl (decide (i ≤ j))) := opB0 fun _ _ _ _ _ _ _ q => le_int q
theorem op_gt : OpR X (compareOp .Gt) (rI0 fun i j => .bl (decide (j < i))) := opB0 fun _ _ _ _ _ _ _ q => gt_int q
theorem op_ge : OpR X (compareOp .GtE) (rI0 fun i j => .bl (decide (j ≤ i))) := opB0 fun _ _ _ _ _ _ _ q => ge_int q
theorem nomark (b : Expr) {op : CmpOp} (h : op ≠ .In := by decide) (h2 : op ≠ .NotIn := by decide) : behindInMarks op b = false := by
  have e1 : (op == CmpOp.In) = false := by cases op <;> first | rfl | exact absurd rfl h
  have e2 : (op == CmpOp.NotIn) = false := by cases op <;> first | rfl | exact absurd rfl h2
  cases b <;> simp [behindInMarks, e1, e2]
theorem pe_cmpR {op : CmpOp} {r : R2} (ho : OpR X (compareOp op) r) (ha : PE X a ta) (hb : PE X b tb) (hm : behindInMarks op b = false) : PE X (.Compare a [op] [b] pos) (tOp r ta tb) := by
  intro pins s σ H Q I h
  exact wpAny_Compare1 (binT ha hb I h fun v u s2 x y H2 I2 rx ry q => ho pins s2 σ H2 x y v u Q I2 rx ry q) hm
def tTest (t : TE) : TT := fun σ H Q => t σ H fun x H' => ∃ k, x = .bl k ∧ Q k H'
theorem pt_cmpR {op : CmpOp} {r : R2} (ho : OpR X (compareOp op) r) (ha : PE X a ta) (hb : PE X b tb) (hm : behindInMarks op b = false) : PT X (.Compare a [op] [b] pos) (tTest (tOp r ta tb)) := by
  intro pins s σ H Q I h
  refine wpAny_isTrue_Compare1 (thn (ha pins s σ H _ I h) fun v s1 ⟨x, H1, I1, r1, q1⟩ => thn (hb pins s1 σ H1 _ I1 q1) fun u s2 ⟨y, H2, I2, r2, q2⟩ =>
    thn (ho pins s2 σ H2 x y v u _ I2 r1 r2 q2) fun c s3 ⟨z, H3, I3, r3, k, e, q3⟩ => ?_) hm
  subst e
  cases r3
  exact wpAny_truthy_bool ⟨H3, I3, q3⟩
def tChain (r r' : R2) (ta tb tc : TE) : TE := fun σ H Q => ta σ H fun x H1 => tb σ H1 fun y H2 => r x y H2 fun z H3 => ∃ k, z = .bl k ∧
  (if k = true then tc σ H3 fun w' H4 => r' y w' H4 Q else Q (.bl false) H3)
theorem pe_chain {op op' : CmpOp} {r r' : R2} (ho : OpR X (compareOp op) r) (ho' : OpR X (compareOp op') r') (ha : PE X a ta) (hb : PE X b tb) (hc : PE X c tc)
    (hm : lastMarks [op, op'] [b, c] = false := by with_unfolding_all rfl) : PE X (.Compare a [op, op'] [b, c] pos) (tChain r r' ta tb tc) := by
  intro pins s σ H Q I h
  refine Compare_chain (thn (ha pins s σ H _ I h) fun v s1 ⟨x, H1, I1, r1, q1⟩ => chain_link (thn (hb pins s1 σ H1 _ I1 q1) fun u s2 ⟨y, H2, I2, r2, q2⟩ =>
    thn (ho pins s2 σ H2 x y v u _ I2 r1 r2 q2) fun d s3 ⟨z, H3, I3, r3, k, e, q3⟩ => ?_)) hm
  subst e
  cases r3
  refine wpAny_truthy_bool ?_
  cases k with
  | false => exact ite_ff ⟨.bl false, H3, I3, rfl, q3⟩
  | true => exact ite_tt (chain_last (thn (hc pins s3 σ H3 _ I3 q3) fun w' s4 ⟨z', H4, I4, r4, q4⟩ => ho' pins s4 σ H4 y z' u w' Q I4 r2 r4 q4))
theorem line63 : (sizeLine : Nat) < 2 ^ 63 := by rw [sizeLine_eq]; decide
theorem vals1 {x : V} {us : List Value} (r : Vals [x] us) : ∃ u, us = [u] ∧ RelV x u := by
  cases r with
  | cons r1 r2 => cases r2; exact ⟨_, rfl, r1⟩
theorem vals2 {x y : V} {us : List Value} (r : Vals [x, y] us) : ∃ u w', us = [u, w'] ∧ RelV x u ∧ RelV y w' := by
  cases r with
  | cons r1 r2 =>
    cases r2 with
    | cons r3 r4 => cases r4; exact ⟨_, _, rfl, r1, r3⟩
theorem call_max2 (hc : X.calm = true) : CallR X (.builtin "max") (fun xs H Q => ∃ i j, xs = [.int i, .int j] ∧ Q (.int (if j > i then j else i)) H) := by
  intro pins s σ H xs us Q I r h
  obtain ⟨i, j, rfl, q⟩ := h
  obtain ⟨u, w', rfl, ⟨t, rfl⟩, ⟨t', rfl⟩⟩ := vals2 r
  refine max_two_ints (I.ok.hd hc) fun h' tk k => ⟨_, H, I.kept k, ?_, q⟩
  by_cases hj : j > i
  · rw [if_pos hj, if_pos hj]; exact ⟨_, rfl⟩
  · rw [if_neg hj, if_neg hj]; exact ⟨_, rfl⟩
theorem call_min2 (hc : X.calm = true) : CallR X (.builtin "min") (fun xs H Q => ∃ i j, xs = [.int i, .int j] ∧ Q (.int (if j < i then j else i)) H) := by
  intro pins s σ H xs us Q I r h
  obtain ⟨i, j, rfl, q⟩ := h
  obtain ⟨u, w', rfl, ⟨t, rfl⟩, ⟨t', rfl⟩⟩ := vals2 r
  refine min_two_ints (I.ok.hd hc) fun h' tk k => ⟨_, H, I.kept k, ?_, q⟩
  by_cases hj : j < i
  · rw [if_pos hj, if_pos hj]; exact ⟨_, rfl⟩
  · rw [if_neg hj, if_neg hj]; exact ⟨_, rfl⟩
end
end L2
namespace L2
open PySem PySem.Spec PyProof.Rows
structure ObjM (h : Heap) (x dx C : Addr) (mA : Str → Option Value) : Prop where
  obj : h.get? x = some (PySem.W.instObj C dx)
  ns : h.Ns1 dx mA
  ne : dx ≠ x
theorem lookIn_ns {h : Heap} {dx : Addr} {mA : Str → Option Value} (n : h.Ns1 dx mA) : ∃ od, h.get? dx = some od ∧ ∀ name, PySem.W.lookIn name od = some (mA name) := by
  obtain ⟨o, es, ep, ho, hd, hk, _, hm⟩ := n
  refine ⟨o, ho, fun name => ?_⟩
  have e := hm name
  unfold nsFind findBy at e
  rw [← Array.find?_toList] at e
  unfold PySem.W.lookIn
  rw [hd]
  dsimp only
  split
  · rename_i y q
    rw [q] at e
    exact congrArg some e
  · rename_i q
    rw [q] at e
    have a : es.toList.any (·.refKey) = false := by
      rw [List.any_eq_false]
      intro y hy
      obtain ⟨z, t, hkey⟩ := hk y (Array.mem_toList_iff.mp hy)
      simp [DictEntry.refKey, hkey]
    have a' : ¬ es.toList.any (·.refKey) = true := by rw [a]; exact Bool.false_ne_true
    rw [if_neg a']
    exact congrArg some e
theorem ObjM.look {h : Heap} {x dx C : Addr} {mA : Str → Option Value} (I : ObjM h x dx C mA) : ∃ od, PySem.W.InstAt h x (PySem.W.instObj C dx) C (some od) ∧ ∀ name, PySem.W.lookIn name od = some (mA name) :=
  let ⟨od, ho, hl⟩ := lookIn_ns I.ns
  ⟨od, ⟨I.obj, rfl, rfl, ho⟩, hl⟩
section
variable {prog : Program} {w : World} {A : Around} {E : Value → Shared → Prop} {s : Shared} {K : PySem.W.Frag} {x dx C f : Addr} {mA : Str → Option Value} {name : Str} {v : Value}
theorem get_map {expr : Bool} {Q : Value → Shared → Prop} (X : K.In s.heap) (I : ObjM s.heap x dx C mA) (hg : PySem.W.plainGet K C name = true) (hh : PySem.W.hasDictIn K C = true)
    (ha : PySem.W.findIn K (.ref C) name = some none) (hv : mA name = some v) (hv' : PySem.W.handedIn v = true) (h : Q v { s with toks := s.toks + 1 }) :
    wpAny (model prog w) A (getAttr (.ref x) name expr) Q E s := by
  obtain ⟨od, J, hl⟩ := I.look
  exact PySem.W.get_value X J (PySem.W.plainGet_of hg).1 (PySem.W.findObj_own hh ha rfl (by rw [hl, hv])) hv' h
theorem set_map {ns : List Str} {Q : Unit → Shared → Prop} (X : K.In s.heap) (I : ObjM s.heap x dx C mA)
    (hs : PySem.W.findIn K (.ref C) "__setattr__" = some (some (.builtin "object.__setattr__"))) (hp : PySem.W.plainOver K C = true) (ht : PySem.W.takerIn K C name = some none) (hh : PySem.W.hasDictIn K C = true)
    (hw : PySem.Within mA ns) (hsz : ns.length ≤ sizeLine)
    (h : ∀ h', ObjM h' x dx C (fun y => if y = name then some v else mA y) → Heap.SameBut dx s.heap h' → Q () { s with heap := h', toks := s.toks + 2 }) :
    wpAny (model prog w) A (setAttr (.ref x) name v) Q E s := by
  obtain ⟨od, J, hl⟩ := I.look
  refine PySem.W.set_plain X J hs (PySem.W.osa_open (s := { s with toks := s.toks + 1 }) (r := none) X J hp ht fun b => ?_)
  obtain ⟨cd, hc, hd'⟩ := PySem.W.any_some hh
  have hx : s.heap.get? x = some ⟨.ref C, some dx, .plain, #[]⟩ := I.obj
  refine wpAny_bind (wpAny_pure (wpAny_bind (wpAny_bind (wpAny_loadPart hx (wpAny_bind (PySem.W.Looks.here (s := { s with toks := s.toks + 1 }) (PySem.W.looks_clsIn X hc) ?_))))))
  rw [hd']
  refine wpAny_pure (a := some dx) (wpAny_bind (wpAny_pure (wpAny_bind ?_)))
  refine wpAny_nsSet1 (s := { s with toks := s.toks + 1 }) I.ns fun h' hn2 hs2 => ?_
  obtain ⟨oD, esD, epD, hoD, hdD, hcD⟩ := hn2.count (PySem.Within.cons name v hw)
  refine wpAny_bind (wpAny_lookBehind hoD (by rw [hdD]; exact pastItsLine_dict (Nat.le_trans hcD (by rw [List.length_cons]; omega))) ?_)
  exact wpAny_pure (h _ ⟨(hs2.2 _ (Ne.symm I.ne)).trans I.obj, hn2, I.ne⟩ hs2)
theorem make_map {R : Result → Shared → Prop} {vs : List Value} {kw : List (Str × Value)} (X : K.In s.heap) (hm : PySem.W.makesIn K C = true)
    (hi : PySem.W.findIn K (.ref C) "__init__" = some (some (.ref f))) (hf : PySem.W.typeIn K (.ref f) = some (.type "function"))
    (h : codeAny (model prog w) (A.under (.builtin "type.__call__" ⟨.ref C :: vs, kw⟩)) (.call (.ref f) ⟨.ref (s.heap.objs.size + 1) :: vs, kw⟩) (PySem.W.InitBack (s.heap.objs.size + 1) R)
      { s with heap := (s.heap.push PySem.W.emptyDict).push (PySem.W.instObj C s.heap.objs.size) }) :
    codeAny (model prog w) A (.call (.ref C) ⟨vs, kw⟩) R s := by
  obtain ⟨hh, g, d, t, os⟩ := s
  exact PySem.W.make_core (PySem.W.makes_of X hm) (PySem.W.looks_findIn X hi) (fun self => PySem.W.bind_fn X self hf) (.inl rfl) h
end
def putF (f : Str) (v : V) : List (Str × V) → List (Str × V)
  | [] => [(f, v)]
  | (g, x) :: r => if g = f then (g, v) :: r else (g, x) :: putF f v r
theorem lookup_putF (f g : Str) (v : V) : ∀ fs : List (Str × V), (putF f v fs).lookup g = if g = f then some v else fs.lookup g
  | [] => by
    show List.lookup g [(f, v)] = _
    by_cases h : g = f
    · have hb : (g == f) = true := beq_iff_eq.mpr h
      simp only [List.lookup, hb, if_pos h]
    · have hb : (g == f) = false := beq_eq_false_iff_ne.mpr h
      simp only [List.lookup, hb, if_neg h]
  | (k, x) :: r => by
    have ih := lookup_putF f g v r
    rw [show putF f v ((k, x) :: r) = (if k = f then (k, v) :: r else (k, x) :: putF f v r) from rfl]
    by_cases hk : k = f
    · rw [if_pos hk]
      by_cases h : g = k
      · have hb : (g == k) = true := beq_iff_eq.mpr h
        simp only [List.lookup, hb, if_pos (h.trans hk)]
      · have hb : (g == k) = false := beq_eq_false_iff_ne.mpr h
        simp only [List.lookup, hb, if_neg (fun e : g = f => h (e.trans hk.symm))]
    · rw [if_neg hk]
      by_cases h : g = k
      · have hb : (g == k) = true := beq_iff_eq.mpr h
        simp only [List.lookup, hb, if_neg (fun e : g = f => hk (h.symm.trans e))]
      · have hb : (g == k) = false := beq_eq_false_iff_ne.mpr h
        simp only [List.lookup, hb]
        exact ih
theorem keys_putF (f : Str) (v : V) : ∀ fs : List (Str × V), f ∈ (putF f v fs).map (·.1) ∧ ∀ g, g ∈ fs.map (·.1) → g ∈ (putF f v fs).map (·.1)
  | [] => ⟨by simp [putF], fun g h => by simp at h⟩
  | (k, x) :: r => by
    obtain ⟨i1, i2⟩ := keys_putF f v r
    rw [show putF f v ((k, x) :: r) = (if k = f then (k, v) :: r else (k, x) :: putF f v r) from rfl]
    by_cases hk : k = f
    · rw [if_pos hk]
      subst hk
      exact ⟨by simp, fun g h => by simpa using h⟩
    · rw [if_neg hk]
      refine ⟨?_, fun g h => ?_⟩
      · rw [List.map_cons]
        exact List.mem_cons_of_mem _ i1
      · rw [List.map_cons] at h ⊢
        rcases List.mem_cons.mp h with e | e
        · exact List.mem_cons.mpr (.inl e)
        · exact List.mem_cons_of_mem _ (i2 g e)
theorem length_putF (f : Str) (v : V) : ∀ fs : List (Str × V), (putF f v fs).length ≤ fs.length + 1
  | [] => by simp [putF]
  | (k, x) :: r => by
    have ih := length_putF f v r
    rw [show putF f v ((k, x) :: r) = (if k = f then (k, v) :: r else (k, x) :: putF f v r) from rfl]
    by_cases hk : k = f
    · rw [if_pos hk, List.length_cons, List.length_cons]; omega
    · rw [if_neg hk, List.length_cons, List.length_cons]; omega
theorem RelO.some_of {v : V} {o : Option Value} (r : RelO (some v) o) : ∃ u, o = some u ∧ RelV v u := by
  cases o with
  | none => exact (show False from r).elim
  | some u => exact ⟨u, rfl, r⟩
theorem handed_of {v : V} {u : Value} (r : RelV v u) : PySem.W.handedIn u = true := by
  cases v with
  | non => cases (show u = Value.none from r); rfl
  | bl b => cases (show u = Value.bool b from r); rfl
  | int i => obtain ⟨t, e⟩ := (show ∃ t, u = Value.int i t from r); cases e; rfl
  | str x => obtain ⟨t, e⟩ := (show ∃ t, u = Value.str x t from r); cases e; rfl
  | byt b => obtain ⟨t, e⟩ := (show ∃ t, u = Value.bytes b t from r); cases e; rfl
  | flt b => obtain ⟨t, e⟩ := (show ∃ t, u = Value.float b t from r); cases e; rfl
  | ref a => cases (show u = Value.ref a from r); rfl
  | ty n => cases (show u = Value.type n from r); rfl
section
variable {P : Program} {w : World} {H H' : Hp} {h h' : Heap} {a C dx : Addr} {fs fs' : List (Str × V)}
theorem ins_get (hok : HOk P w H h) (e : H a = some (.ins C dx fs)) : ∃ mA, ObjM h a dx C mA ∧ (∀ f, RelO (fs.lookup f) (mA f)) ∧ PySem.Within mA (fs.map (·.1)) ∧ fs.length ≤ 1000 ∧ H dx = some (.own a) := by
  obtain ⟨d, z, ne, ob, mA, n, r, q⟩ := (show ObjOk P w H h a (.ins C dx fs) from hok a _ e)
  exact ⟨mA, ⟨ob, n, ne⟩, r, q, z, d⟩
end
structure Cls (K : PySem.W.Frag) (C : Addr) : Prop where
  pg : PySem.W.plainGet K C Str.empty = true
  hd : PySem.W.hasDictIn K C = true
  po : PySem.W.plainOver K C = true
  sa : PySem.W.findIn K (.ref C) "__setattr__" = some (some (.builtin "object.__setattr__"))
theorem Cls.get {K : PySem.W.Frag} {C : Addr} (c : Cls K C) (f : Str) : PySem.W.plainGet K C f = true := c.pg
def NoAttr (K : PySem.W.Frag) (C : Addr) (f : Str) : Prop := PySem.W.findIn K (.ref C) f = some none
theorem NoAttr.taker {K : PySem.W.Frag} {C : Addr} {f : Str} (n : NoAttr K C f) : PySem.W.takerIn K C f = some none := by
  unfold PySem.W.takerIn
  rw [show PySem.W.findIn K (.ref C) f = some none from n]
  rfl
section
variable {X : Cx} {pins : List (Addr × Obj)} {σ : St} {H : Hp} {s : Shared} {a C dx : Addr} {fs : List (Str × V)} {f : Str} {v : V} {A : Around} {E : Value → Shared → Prop}
theorem getattr_ok {b : Bool} {Q : Value → Shared → Prop} (I : Inv X pins σ H s) (e : H a = some (.ins C dx fs)) (c : Cls X.K C) (n : NoAttr X.K C f) (l : fs.lookup f = some v)
    (h : ∀ u s', Inv X pins σ H s' → RelV v u → Q u s') : wpAny (model X.prog X.w) A (getAttr (.ref a) f b) Q E s := by
  obtain ⟨mA, O, r, _, _, _⟩ := ins_get I.hok e
  obtain ⟨u, hu, ru⟩ := RelO.some_of (v := v) (o := mA f) (by rw [← l]; exact r f)
  exact get_map I.kIn O (c.get f) c.hd n hu (handed_of ru) (h u _ (I.tok _) ru)
theorem setattr_ok {y : V} {u : Value} {Q : Unit → Shared → Prop} (I : Inv X pins σ H s) (e : H a = some (.ins C dx fs)) (c : Cls X.K C) (n : NoAttr X.K C f) (hl : fs.length < 1000) (ry : RelV y u)
    (h : ∀ s', Inv X pins σ (upd H a (.ins C dx (putF f y fs))) s' → Q () s') : wpAny (model X.prog X.w) A (setAttr (.ref a) f u) Q E s := by
  obtain ⟨mA, O, r, wi, _, ho⟩ := ins_get I.hok e
  have hz : (fs.map (·.1)).length ≤ sizeLine := by rw [List.length_map, sizeLine_eq]; omega
  refine set_map I.kIn O c.sa c.po n.taker c.hd wi hz fun h' O' sb => h _ ?_
  have hd : ∃ o, h'.get? dx = some o := let ⟨o, _, _, e', _⟩ := O'.ns; ⟨o, e'⟩
  refine I.write (x := a) (e := dx) (by rw [e]; exact True.intro) (.inr ho) (fun b q hb z => (sb.2 b hb).trans z) hd ?_
  refine ⟨by rw [upd_ne O.ne]; exact ho, ?_, O.ne, O'.obj, _, O'.ns, fun g => ?_, fun g hg => ?_⟩
  · have := length_putF f y fs; omega
  · show RelO ((putF f y fs).lookup g) (if g = f then some u else mA g)
    rw [lookup_putF]
    by_cases q : g = f
    · rw [if_pos q, if_pos q]; exact ry
    · rw [if_neg q, if_neg q]; exact r g
  · by_cases q : g = f
    · rw [q]; exact (keys_putF f y fs).1
    · refine (keys_putF f y fs).2 g (wi g fun z => hg ?_)
      show (if g = f then some u else mA g) = none
      rw [if_neg q]; exact z
theorem Inv.made (I : Inv X pins σ H s) : Inv X pins σ (upd (upd H s.heap.objs.size (.own (s.heap.objs.size + 1))) (s.heap.objs.size + 1) (.ins C s.heap.objs.size []))
    { s with heap := (s.heap.push PySem.W.emptyDict).push (PySem.W.instObj C s.heap.objs.size) } := by
  have e1 : (s.heap.push PySem.W.emptyDict).get? s.heap.objs.size = some PySem.W.emptyDict := Heap.get?_push_size s.heap rfl
  have e2 : ((s.heap.push PySem.W.emptyDict).push (PySem.W.instObj C s.heap.objs.size)).get? (s.heap.objs.size + 1) = some (PySem.W.instObj C s.heap.objs.size) := by
    have := Heap.get?_push_size (s.heap.push PySem.W.emptyDict) (o := PySem.W.instObj C s.heap.objs.size) rfl
    rwa [Heap.size_push] at this
  have e3 : (s.heap.push PySem.W.emptyDict).Ns s.heap.objs.size (fun _ => none) := ⟨PySem.W.emptyDict, #[], _, e1, rfl, (fun e he => absurd he (by simp)), fun _ => rfl⟩
  have I1 := I.laid (a := s.heap.objs.size) (o := .own (s.heap.objs.size + 1)) (h' := s.heap.push PySem.W.emptyDict) (t' := s.toks) (fun b u q => Heap.get?_push_of_some _ q) (Nat.le_refl _) ⟨_, e1⟩
  refine I1.laid (a := s.heap.objs.size + 1) (o := .ins C s.heap.objs.size []) (t' := s.toks) (fun b u q => Heap.get?_push_of_some _ q) (Nat.le_of_eq (Heap.size_push _ _)) ?_
  have ne : s.heap.objs.size ≠ s.heap.objs.size + 1 := Nat.ne_of_lt (Nat.lt_succ_self _)
  refine ⟨by rw [upd_ne ne, upd_same], Nat.zero_le _, ne, e2, fun _ => none, (Heap.Ns1.of_empty e3).at fun o q => Heap.get?_push_of_some _ q, fun _ => True.intro, fun y hy => absurd rfl hy⟩
theorem attr_of {prog : Program} {w : World} {env : Env} {e : Expr} {f : Str} {pos : Pos} {s : Shared} {Q : Value → Shared → Prop} (hb : attributeBase e f env (eval e env) = eval e env)
    (h : wpAny (model prog w) A (eval e env) (fun o s₁ => wpAny (model prog w) A (getAttr o f true) Q E s₁) E s) : wpAny (model prog w) A (eval (.Attribute e f pos) env) Q E s :=
  Attribute_any_ h (by rw [arm_eval_Attribute, hb])
end
def tFld (K : PySem.W.Frag) (ta : TE) (f : Str) : TE := fun σ H Q => ta σ H fun x H1 => ∃ a C dx fs v, x = .ref a ∧ H1 a = some (.ins C dx fs) ∧ Cls K C ∧ NoAttr K C f ∧ fs.lookup f = some v ∧ Q v H1
def sFld (K : PySem.W.Frag) (ta tv : TE) (f : Str) : TS := fun D σ H => tv σ H fun y H1 => ta σ H1 fun x H2 => ∃ a C dx fs, x = .ref a ∧ H2 a = some (.ins C dx fs) ∧ Cls K C ∧ NoAttr K C f ∧ fs.length < 1000 ∧
  D.nx σ (upd H2 a (.ins C dx (putF f y fs)))
section
variable {X : Cx} {o e value : Expr} {f : Str} {pos pos' tpos : Pos} {ta tv : TE}
theorem pe_fld (he : PE X e ta) (hb : attributeBase e f X.env (eval e X.env) = eval e X.env) : PE X (.Attribute e f pos) (tFld X.K ta f) := by
  intro pins s σ H Q I h
  refine attr_of hb (thn (he pins s σ H _ I h) fun u s1 ⟨x, H1, I1, rx, a, C, dx, fs, v, ex, ea, c, n, l, q⟩ => ?_)
  subst ex
  obtain rfl : u = Value.ref a := rx
  exact getattr_ok I1 ea c n l fun u' s2 I2 ru => ⟨v, H1, I2, ru, q⟩
theorem ps_fld (ha : PE X o ta) (hv : PE X value tv) (hs : swapsWith value (some (.Attribute o f pos')) pos.line X.env = pure false) : PS X (.Assign [.Attribute o f pos'] value pos) (sFld X.K ta tv f) := by
  intro pins s σ H D I h
  refine plainObj_wpAny_Assign_Attribute (thn (hv pins s σ H _ I h) fun u s1 ⟨y, H1, I1, ry, q⟩ => thn (ha pins s1 σ H1 _ I1 q) fun ov s2 ⟨x, H2, I2, rx, a, C, dx, fs, ex, ea, c, n, l, q2⟩ => ?_) hs
  subst ex
  obtain rfl : ov = Value.ref a := rx
  exact setattr_ok I2 ea c n l ry fun s3 I3 => ⟨σ, _, I3, q2⟩
end
section
variable {X : Cx} {pins : List (Addr × Obj)} {σ : St} {H : Hp} {s : Shared} {A : Around} {E : Value → Shared → Prop} {Q : Value → Shared → Prop} {c : Value} {b : Bool}
end
end L2
namespace L2
open PySem PySem.Spec PyProof.Rows
structure Room (k : Nat) (A : Around) : Prop where
  hd : A.handled = none
  dp : A.depth + 3 * k + 5 < recursionLimit
  un : A.units + 16 * k + 200 < cLine
theorem Room.mono {j k : Nat} {A : Around} (r : Room k A) (h : j ≤ k) : Room j A := ⟨r.hd, by have := r.dp; omega, by have := r.un; omega⟩
theorem Room.deeper {k : Nat} {A : Around} (r : Room (k + 1) A) (env : Env) : Room k (A.deeper env) :=
  ⟨r.hd, by have := r.dp; show A.depth + 1 + 3 * k + 5 < _; omega, by have := r.un; show A.units + 3 + 16 * k + 200 < _; omega⟩
theorem make_depth {A : Around} {C : Addr} {us : List Value} {kw : List (Str × Value)} : (A.under (.builtin "type.__call__" ⟨.ref C :: us, kw⟩)).depth = A.depth + 1 := by
  first | rfl | simp [Around.under, Code.weight, Code.isCreation, Code.isGuard, Code.isCaller, Code.frames, Code.isFrame, guardIds]
theorem make_units {A : Around} {C : Addr} {us : List Value} {kw : List (Str × Value)} : (A.under (.builtin "type.__call__" ⟨.ref C :: us, kw⟩)).units = A.units + 1 := by
  first | rfl | simp [Around.under, Code.cUnits, Code.frames, Code.isFrame]
theorem Room.make {k : Nat} {A : Around} (r : Room (k + 1) A) (C : Addr) (us : List Value) (kw : List (Str × Value)) : Room k (A.under (.builtin "type.__call__" ⟨.ref C :: us, kw⟩)) :=
  ⟨r.hd, by have := r.dp; rw [make_depth]; omega, by have := r.un; rw [make_units]; omega⟩
theorem Room.depth {k : Nat} {A : Around} (r : Room k A) : A.depth < recursionLimit := by have := r.dp; omega
theorem Room.units {k : Nat} {A : Around} (r : Room k A) : A.units + 64 < cLine := by have := r.un; omega
theorem Room.units0 {k : Nat} {A : Around} (r : Room k A) : A.units < cLine := by have := r.un; omega
def tNil : TA := fun _ H Q => Q [] H
def tCons (ta : TE) (tr : TA) : TA := fun σ H Q => ta σ H fun x H1 => tr σ H1 fun xs H2 => Q (x :: xs) H2
section
variable {X : Cx} {e : Expr} {es : List Expr} {te : TE} {t : TA} {pos : Pos}
theorem pa_nil : PA X [] tNil := fun _ _ _ _ H Q I h => Calls.spliced_nil ⟨[], H, I, .nil, h⟩
theorem pa_cons (ha : PE X e te) (hr : PA X es t) (hs : starEach (e :: es) X.env = (false, eval e X.env) :: starEach es X.env := by rfl) : PA X (e :: es) (tCons te t) := by
  intro pos pins s σ H Q I h
  rw [hs]
  show wpAny _ _ (spliced ((false, eval e X.env) :: backTo pos (starEach es X.env))) _ _ s
  refine Calls.spliced_cons (thn (ha pins s σ H _ I h) fun u s1 ⟨x, H1, I1, r1, q1⟩ => ?_)
  exact thn (hr pos pins s1 σ H1 _ I1 q1) fun us s2 ⟨xs, H2, I2, r2, q2⟩ => ⟨x :: xs, H2, I2, .cons r1 r2, q2⟩
def tLst (t : TA) : TE := fun σ H Q => t σ H fun xs H1 => xs.length ≤ sizeLine ∧ ∀ p, H1 p = none → Q (.ref p) (upd H1 p (.lst xs))
theorem pe_lst (h : PA X es t) : PE X (.List es pos) (tLst t) := by
  intro pins s σ H Q I hq
  refine wpAny_List_spliced (thn (h pos pins s σ H _ I hq) fun us s1 ⟨xs, H1, I1, r, z, q⟩ => ⟨by rw [← r.length]; exact z, ?_⟩)
  have hf : H1 s1.heap.objs.size = none := I1.hok.fresh (Nat.le_refl _)
  refine ⟨.ref s1.heap.objs.size, upd H1 s1.heap.objs.size (.lst xs), I1.laid (t' := s1.toks) (fun b u e => Heap.get?_push_of_some _ e) (Nat.le_refl _) ?_, rfl, q _ hf⟩
  exact ⟨z, us, 0, r, Heap.get?_push_size _ rfl⟩
end
abbrev Sp := List V → Hp → VK → XK → Prop
abbrev CXT := List Env → Hp → Shared → XK → Value → Shared → Prop
structure Env0 (P : Program) (w : World) (K : PySem.W.Frag) (mg : Str → Option Value) (base : Heap) (A : Around) (outer : List Env) (s : Shared) (H : Hp) : Prop where
  frames : A.frames = some outer
  mod : Mod K mg base
  bs : ∀ b o, base.get? b = some o → s.heap.get? b = some o ∧ H b = none
  bsz : base.objs.size ≤ s.heap.objs.size
  funs : s.heap.FunFrames base outer
  frf : ∀ b ∈ frs outer, H b = none
  hok : HOk P w H s.heap
  bare : AllBare s.gens
def CE (outer : List Env) (P : Program) (w : World) (H : Hp) (s : Shared) (Q : VK) (u : Value) (s' : Shared) : Prop :=
  ∃ v H', s'.os = s.os ∧ AllBare s'.gens ∧ Un (frs outer) [] H H' s.heap s'.heap ∧ HOk P w H' s'.heap ∧ RelV v u ∧ Q v H'
def CR (CX : CXT) (outer : List Env) (P : Program) (w : World) (H : Hp) (s : Shared) (Q : VK) (E : XK) (r : Result) (s' : Shared) : Prop :=
  match r with
  | .ok (.ret u) => CE outer P w H s Q u s'
  | .ok _ => False
  | .error e => CX outer H s E e s'
structure FnOk (P : Program) (w : World) (K : PySem.W.Frag) (mg : Str → Option Value) (base : Heap) (CX : CXT) (k : Nat) (f : Addr) (fd : FuncData) (ps : List Str) (sp : Sp) : Prop where
  len : ∀ vs H Q E, sp vs H Q E → vs.length = ps.length
  run : ∀ (A : Around) (outer : List Env) (s : Shared) (H : Hp) (args : Args) (us : List Value) (vs : List V) (Q : VK) (E : XK), Room k A → Env0 P w K mg base A outer s H → BindsTo s fd args (ps.zip us) → Vals vs us → sp vs H Q E →
    codeAny (model P w) A (.call (.ref f) args) (CR CX outer P w H s Q E) s
theorem Env0.make {P : Program} {w : World} {K : PySem.W.Frag} {mg : Str → Option Value} {base : Heap} {A : Around} {outer : List Env} {s : Shared} {H : Hp} (e : Env0 P w K mg base A outer s H) (C : Addr) (us : List Value) (kw : List (Str × Value)) :
    Env0 P w K mg base (A.under (.builtin "type.__call__" ⟨.ref C :: us, kw⟩)) outer s H := ⟨by first | exact e.frames | (simpa [Around.under, Code.envs, Code.isFrame, pushEnvs] using e.frames), e.mod, e.bs, e.bsz, e.funs, e.frf, e.hok, e.bare⟩
section
variable {X : Cx} {pins : List (Addr × Obj)} {σ : St} {H : Hp} {s s' : Shared}
theorem Inv.env0 (I : Inv X pins σ H s) : Env0 X.prog X.w X.K X.mg X.base X.A X.stack s H :=
  ⟨I.ok.frames, I.ok.mod, I.bs, Nat.le_trans I.ok.bsz I.sz, I.stack, I.stkFree, I.hok, I.bare⟩
theorem Inv.after {Q : VK} {u : Value} (I : Inv X pins σ H s) (h : CE X.stack X.prog X.w H s Q u s') : EP X pins σ Q u s' := by
  obtain ⟨v, H', os, bare, un, hok, r, q⟩ := h
  obtain ⟨hh, g, d, t, os'⟩ := s'
  obtain rfl : os' = s.os := os
  exact ⟨v, H', I.call (h' := hh) (g' := g) (d' := d) (t' := t) (ch := []) un hok bare (fun b z => absurd z (by simp)), r, q⟩
end
def tCall (sp : Sp) (dvs : List V) (E : XK) (t : TA) : TE := fun σ H Q => t σ H fun vs H1 => sp (vs ++ dvs) H1 Q E
def Binds (K : PySem.W.Frag) (fd : FuncData) (ps : List Str) (ds : List Value) : Prop :=
  ∀ (s : Shared) (us : List Value), K.In s.heap → (us ++ ds).length = ps.length → BindsTo s fd ⟨us, []⟩ (ps.zip (us ++ ds))
theorem Binds.all {K : PySem.W.Frag} {fd : FuncData} {ps : List Str} (h : ∀ us : List Value, us.length = ps.length → bindArgs fd ⟨us, []⟩ = pure (ps.zip us)) : Binds K fd ps [] := fun s us _ hl => by
  rw [List.append_nil] at hl ⊢
  exact .of_eq (h us hl)
def Passes (CX : CXT) (X : Cx) (E : XK) : Prop := ∀ (pins : List (Addr × Obj)) (σ : St) (H : Hp) (s : Shared) (e : Value) (s' : Shared), Inv X pins σ H s → CX X.stack H s E e s' → X.xe e s'
section
variable {X : Cx} {CX : CXT} {k : Nat} {f C : Addr} {fd : FuncData} {ps : List Str} {sp : Sp} {dvs : List V} {ds : List Value} {E : XK} {x m : Str} {p pos apos : Pos} {e o : Expr} {es : List Expr} {ta : TE} {t : TA}
theorem run_fn {pins : List (Addr × Obj)} {σ : St} {H : Hp} {s : Shared} {Q : VK} {us : List Value} {vs : List V} (F : FnOk X.prog X.w X.K X.mg X.base CX k f fd ps sp) (hr : Room k X.A) (hb : Binds X.K fd ps ds) (hd : Vals dvs ds) (hx : Passes CX X E)
    (I : Inv X pins σ H s) (r : Vals vs us) (h : sp (vs ++ dvs) H Q E) : wpAny (model X.prog X.w) X.A (call (.ref f) us) (EP X pins σ Q) X.xe s := by
  have r2 : Vals (vs ++ dvs) (us ++ ds) := r.append hd
  have hl : (us ++ ds).length = ps.length := by rw [← r2.length]; exact F.len _ _ _ _ h
  refine wpAny_call (codeAny_mono (F.run X.A X.stack s H ⟨us, []⟩ (us ++ ds) (vs ++ dvs) Q E hr I.env0 (hb s us I.kIn hl) r2 h) fun r s' hq => ?_)
  cases r with
  | error e => exact hx pins σ H s e s' I hq
  | ok fl =>
    cases fl with
    | ret u => exact I.after hq
    | next => exact False.elim hq
    | brk => exact False.elim hq
    | cont => exact False.elim hq
theorem pe_call (F : FnOk X.prog X.w X.K X.mg X.base CX k f fd ps sp) (hr : Room k X.A) (hg : Gl X x) (hm : X.mg x = some (.ref f)) (hk : PySem.W.keepIn X.K (.ref f) = true) (hb : Binds X.K fd ps ds) (hd : Vals dvs ds) (hx : Passes CX X E)
    (ha : PA X (e :: es) t) (hdb : (x == ("__debug__" : Str)) = false := by decide) (he : starEach (e :: es) X.env = (false, eval e X.env) :: starEach es X.env := by rfl) (hpl : (backTo pos (starEach es X.env)).any (·.1) = false := by rfl) :
    PE X (.Call (.Name x p) (e :: es) [] pos) (tCall sp dvs E t) := by
  intro pins s σ H Q I h
  refine wpAny_Call_Name_kw (ld_glob I hg hm ?_ hdb)
  refine PySem.W.callWith_K (h₀ := X.base) I.ok.mod.kin hk (thn (ha pos pins s σ H _ I h) fun us s1 ⟨vs, H1, I1, r, q⟩ => ⟨I1.kIn, ?_⟩) he hpl
  exact run_fn F hr hb hd hx I1 r q
structure Mk (K : PySem.W.Frag) (C f : Addr) : Prop where
  makes : PySem.W.makesIn K C = true
  init : PySem.W.findIn K (.ref C) "__init__" = some (some (.ref f))
  fn : PySem.W.isFn K (.ref f) = true
  kp : PySem.W.keepIn K (.ref C) = true
theorem run_make {pins : List (Addr × Obj)} {σ : St} {H : Hp} {s : Shared} {Q : VK} {us : List Value} {vs : List V} (M : Mk X.K C f) (F : FnOk X.prog X.w X.K X.mg X.base CX k f fd ps sp) (hr : Room (k + 1) X.A) (hb : Binds X.K fd ps ds) (hd : Vals dvs ds)
    (hx : Passes CX X E) (I : Inv X pins σ H s) (r : Vals vs us)
    (h : ∀ x dx, H x = none → H dx = none → dx ≠ x → sp (.ref x :: (vs ++ dvs)) (upd (upd H dx (.own x)) x (.ins C dx [])) (fun v H2 => v = .non ∧ Q (.ref x) H2) E) :
    wpAny (model X.prog X.w) X.A (call (.ref C) us) (EP X pins σ Q) X.xe s := by
  have hq := h (s.heap.objs.size + 1) s.heap.objs.size (I.hok.fresh (Nat.le_succ _)) (I.hok.fresh (Nat.le_refl _)) (Nat.ne_of_lt (Nat.lt_succ_self _))
  have I2 := Inv.made (C := C) I
  have r2 : Vals (V.ref (s.heap.objs.size + 1) :: (vs ++ dvs)) (Value.ref (s.heap.objs.size + 1) :: (us ++ ds)) := .cons rfl (r.append hd)
  have hl : (Value.ref (s.heap.objs.size + 1) :: us ++ ds).length = ps.length := by
    have e := r2.length
    rw [F.len _ _ _ _ hq] at e
    exact e.symm
  refine wpAny_call (make_map (f := f) I.kIn M.makes M.init (beq_iff_eq.mp M.fn) (codeAny_mono (F.run _ X.stack _ _ ⟨Value.ref (s.heap.objs.size + 1) :: us, []⟩ (Value.ref (s.heap.objs.size + 1) :: (us ++ ds)) _ _ E (hr.make C us [])
    (I2.env0.make C us []) (hb _ (Value.ref (s.heap.objs.size + 1) :: us) I2.kIn hl) r2 hq) fun r s' hq' => ?_))
  cases r with
  | error e => exact hx pins σ _ _ e s' I2 hq'
  | ok fl =>
    cases fl with
    | ret u =>
      obtain ⟨v, H', I3, rv, ev, q3⟩ := I2.after hq'
      subst ev
      exact ⟨rv, ⟨V.ref (s.heap.objs.size + 1), H', I3, rfl, q3⟩⟩
    | next => exact False.elim hq'
    | brk => exact False.elim hq'
    | cont => exact False.elim hq'
end
section
variable {X : Cx} {CX : CXT} {k : Nat} {f C : Addr} {fd : FuncData} {ps ks : List Str} {sp : Sp} {E : XK} {x m : Str} {p pos apos kpos : Pos} {e o : Expr} {es : List Expr} {kws : List Keyword} {te ta : TE} {t tk : TA} {nm : Option Str}
variable {g : List Value → List Value → List Value} {gV : List V → List V → List V}
end
structure FnScope (N P : List Str) (sc : Scope) : Prop where
  kind : sc.kind = .function
  co : sc.isCoroutine = false
  gen : sc.isGenerator = false
  nd : N.Nodup
  pre : N.take P.length = P
  par : ∀ x ∈ P, sc.names.lookup x = some .local ∨ sc.names.lookup x = some .cell
  nofree : ∀ y ∈ sc.names, y.2 ≠ .free
theorem bindL_out {kindOf : Str → Option NameKind} {x : Str} : ∀ {binds : List (Str × Value)} {m : Str → Option Value}, (∀ v, (x, v) ∉ binds) → bindL kindOf binds m x = m x
  | [], _, _ => rfl
  | (n, v) :: r, m, h => by
    unfold bindL
    rw [bindL_out fun w hw => h w (List.mem_cons_of_mem _ hw)]
    split
    · have : x ≠ n := by rintro rfl; exact h v List.mem_cons_self
      simp [this]
    · rfl
theorem bindC_out {kindOf : Str → Option NameKind} {x : Str} : ∀ {binds : List (Str × Value)} {m : Str → Option Value}, (∀ v, (x, v) ∉ binds) → bindC kindOf binds m x = m x
  | [], _, _ => rfl
  | (n, v) :: r, m, h => by
    unfold bindC
    rw [bindC_out fun w hw => h w (List.mem_cons_of_mem _ hw)]
    split
    · rfl
    · have : x ≠ n := by rintro rfl; exact h v List.mem_cons_self
      simp [this]
theorem bindL_get {kindOf : Str → Option NameKind} {x : Str} {v : Value} : ∀ {P : List Str} {vs : List Value} {i : Nat} {m : Str → Option Value}, P.Nodup → P[i]? = some x → vs[i]? = some v → kindOf x = some .local →
    bindL kindOf (P.zip vs) m x = some v
  | [], _, _, _, _, h, _, _ => by simp at h
  | _ :: _, [], _, _, _, _, h, _ => by simp at h
  | p :: P, w :: vs, 0, m, nd, h1, h2, hk => by
    simp at h1 h2; subst h1; subst h2
    show bindL kindOf ((p, w) :: P.zip vs) m p = _
    unfold bindL
    rw [bindL_out fun v hv => (List.nodup_cons.mp nd).1 (List.of_mem_zip hv).1, if_pos hk]
    simp
  | p :: P, w :: vs, i + 1, m, nd, h1, h2, hk => by
    show bindL kindOf ((p, w) :: P.zip vs) m x = _
    unfold bindL
    exact bindL_get (i := i) (List.nodup_cons.mp nd).2 (by simpa using h1) (by simpa using h2) hk
theorem bindC_get {kindOf : Str → Option NameKind} {x : Str} {v : Value} : ∀ {P : List Str} {vs : List Value} {i : Nat} {m : Str → Option Value}, P.Nodup → P[i]? = some x → vs[i]? = some v → kindOf x ≠ some .local →
    bindC kindOf (P.zip vs) m x = some v
  | [], _, _, _, _, h, _, _ => by simp at h
  | _ :: _, [], _, _, _, _, h, _ => by simp at h
  | p :: P, w :: vs, 0, m, nd, h1, h2, hk => by
    simp at h1 h2; subst h1; subst h2
    show bindC kindOf ((p, w) :: P.zip vs) m p = _
    unfold bindC
    rw [bindC_out fun v hv => (List.nodup_cons.mp nd).1 (List.of_mem_zip hv).1, if_neg hk]
    simp
  | p :: P, w :: vs, i + 1, m, nd, h1, h2, hk => by
    show bindC kindOf ((p, w) :: P.zip vs) m x = _
    unfold bindC
    exact bindC_get (i := i) (List.nodup_cons.mp nd).2 (by simpa using h1) (by simpa using h2) hk
def start (N : List Str) (vs : List V) : St := vs.map some ++ List.replicate (N.length - vs.length) none
def cxOf (CX : CXT) (P : Program) (w : World) (K : PySem.W.Frag) (mg : Str → Option Value) (base : Heap) (N : List Str) (qual : Str) (scope : Scope) (f : Addr) (cd : Value) (A : Around) (outer : List Env) (s : Shared) (H : Hp) (E : XK) : Cx where
  prog := P
  w := w
  K := K
  mg := mg
  base := base
  A := A.deeper (envOfC qual scope s.heap.objs.size f cd)
  N := N
  s_0 := s
  H_0 := H
  env := envOfC qual scope s.heap.objs.size f cd
  outer := outer
  stack := envOfC qual scope s.heap.objs.size f cd :: outer
  ex := []
  calm := true
  fn := fun _ => true
  pn := []
  xe := fun e s' => wpAny (model P w) (A.deeper (envOfC qual scope s.heap.objs.size f cd)) (leaving (envOfC qual scope s.heap.objs.size f cd) e) (fun _ s'' => CX outer H s E e s'') (fun e' s'' => CX outer H s E e' s'') s'
theorem cell_has {sc : Scope} {n : Nat} {x : Str} (h : sc.names.lookup x = some .cell) : ∃ c, (cellsFrom n sc.names []).lookup x = some c := by
  have q := PySem.W.cellsFrom_some sc.names n [] (.inl h)
  exact Option.isSome_iff_exists.mp q
theorem inv_start {CX : CXT} {P : Program} {w : World} {K : PySem.W.Frag} {mg : Str → Option Value} {base : Heap} {N ps : List Str} {qual : Str} {scope : Scope} {f : Addr} {cd : Value} {A : Around} {outer : List Env} {s s1 : Shared} {H : Hp} {E : XK} {us : List Value} {vs : List V}
    (S : FnScope N ps scope) (hd : A.handled = none) (e0 : Env0 P w K mg base A outer s H) (hl : vs.length = ps.length) (r : Vals vs us)
    (x : InCallC s s.heap.objs.size (bindL (envOfC qual scope s.heap.objs.size f cd).kindOf (ps.zip us) fun _ => none) (cellsFrom (s.heap.objs.size + 1) scope.names []) (bindC (envOfC qual scope s.heap.objs.size f cd).kindOf (ps.zip us) fun _ => none) s1) :
    Inv (cxOf CX P w K mg base N qual scope f cd A outer s H E) [] (start N vs) H s1 := by
  have hpl : ps.length ≤ N.length := by have := congrArg List.length S.pre; rw [List.length_take] at this; omega
  obtain ⟨h1, tk, rfl, hk⟩ := x.done
  have noA : ∀ b : Addr, b ∉ (cxOf CX P w K mg base N qual scope f cd A outer s H E).ex := fun b z => absurd (show b ∈ ([] : List Addr) from z) (by simp)
  refine ⟨⟨e0.mod, S.kind, rfl, rfl, Nat.le_refl _, fun y z c h1 h2 => ?_, fun y hy => ?_, fun y c _ h => ?_, fun _ => hd, Around.frames_deeper e0.frames, .inr ⟨rfl, rfl⟩, fun b z => absurd z (noA b), e0.bs, e0.bsz, fun b _ _ => noA b, fun b z => absurd z (noA b), e0.funs, e0.frf⟩,
    rfl, e0.bare, Un.kept hk, ⟨_, x.toInCall.ns, fun i y v h1 h2 h3 => ?_⟩, fun y c h => ⟨_, x.cell y c h⟩, e0.hok.fresh (Nat.le_refl _), fun y c h => ?_, fun p hp => absurd (show p ∈ ([] : List (Addr × Obj)) from hp) (by simp), e0.hok.kept hk, ?_⟩
  · exact name_of_addr x.apart (PySem.mem_of_lookup h1) (PySem.mem_of_lookup h2)
  · have hy : scope.names.lookup y = some .cell ∨ scope.names.lookup y = some .free := hy
    rcases hy with hy | hy
    · exact cell_has hy
    · exact absurd rfl (S.nofree _ (PySem.mem_of_lookup hy))
  · exact Nat.le_of_lt (x.above y c (PySem.mem_of_lookup h))
  · have hi : i < vs.length := by
      unfold start at h2
      by_cases hi : i < vs.length
      · exact hi
      · rw [List.getElem?_append_right (by simpa using hi)] at h2
        rw [List.getElem?_replicate] at h2
        split at h2 <;> cases h2
    have ha : vs[i]? = some v := by
      unfold start at h2
      rw [List.getElem?_append_left (by simpa using hi), List.getElem?_map] at h2
      cases e : vs[i]? with
      | none => rw [e] at h2; cases h2
      | some a => rw [e] at h2; cases h2; rfl
    obtain ⟨u, hu, rv⟩ := r.get ha
    have hp : ps[i]? = some y := by
      rw [← S.pre, List.getElem?_take_of_lt (by omega)]; exact h1
    have ndP : ps.Nodup := by rw [← S.pre]; exact S.nd.sublist (List.take_sublist _ _)
    refine ⟨u, rv, ?_⟩
    rcases S.par y (List.mem_of_getElem? hp) with k | k
    · exact .inl ⟨k, bindL_get ndP hp hu k⟩
    · obtain ⟨c, e⟩ := cell_has (n := s.heap.objs.size + 1) k
      refine .inr ⟨.inl k, c, e, ?_⟩
      have q := x.cell y c e
      rw [bindC_get ndP hp hu (by show scope.names.lookup y ≠ _; rw [k]; decide)] at q
      exact q
  · exact e0.hok.fresh (Nat.le_of_lt (x.above y c (PySem.mem_of_lookup h)))
  · unfold start
    show _ = N.length
    rw [List.length_append, List.length_map, List.length_replicate]
    omega
theorem fn_of {CX : CXT} {P : Program} {w : World} {K : PySem.W.Frag} {mg : Str → Option Value} {base : Heap} {k : Nat} {f : Addr} {name qual : Str} {params : Arguments} {body : List Stmt} {scope : Scope} {dV kV doc pm cdv ct oc : Value} {an od : Option Addr}
    {osl : Array (Option Value)} {N ps : List Str} {sp : Sp} (lk : K.lookup f = some ⟨oc, od, .func (PySem.W.fnOf name qual params body scope dV kV doc pm an cdv ct), osl⟩) (hcd : PySem.W.codeIn K cdv qual = true) (S : FnScope N ps scope)
    (len : ∀ vs H Q E, sp vs H Q E → vs.length = ps.length)
    (hbody : ∀ (A : Around) (outer : List Env) (s : Shared) (H : Hp) (vs : List V) (Q : VK) (E : XK), Room k (A.deeper (envOfC qual scope s.heap.objs.size f cdv)) → sp vs H Q E →
      ∃ t, PSs (cxOf CX P w K mg base N qual scope f cdv A outer s H E) body t ∧ t { nx := fun _ H' => Q .non H', rt := Q } (start N vs) H) :
    FnOk P w K mg base CX (k + 1) f (PySem.W.fnOf name qual params body scope dV kV doc pm an cdv ct) ps sp := by
  refine ⟨len, fun A outer s H args us vs Q E hr e0 hb r hsp => ?_⟩
  have hl := len _ _ _ _ hsp
  have KX : K.In s.heap := e0.mod.kin.keeps fun b o e => (e0.bs b o e).1
  have lim : s.heap.NoLimit := e0.mod.nolimit.keeps fun b o e => (e0.bs b o e).1
  have hkind : ∀ y ∈ ps.zip us, scope.names.lookup y.1 = some .local ∨ (scope.names.lookup y.1 = some .cell ∧ ((cellsFrom (s.heap.objs.size + 1) scope.names []).lookup y.1).isSome = true) := fun ⟨n, v⟩ hy => by
    rcases S.par n (List.of_mem_zip hy).1 with q | q
    · exact .inl q
    · exact .inr ⟨q, PySem.W.cellsFrom_some _ _ _ (.inl q)⟩
  refine codeAny_call_function hr.depth (KX _ _ lk) rfl S.co S.gen rfl (PySem.W.codeRec_of KX hcd) (hb _ _ _ _ ?_)
  refine wpAny_newFunctionEnv_cells S.kind hkind fun env he s1 x => ?_
  subst he
  refine ⟨lim.keeps x.toInCall.keep, codeAny_func ?_⟩
  obtain ⟨t, ht, hq⟩ := hbody A outer s H vs Q E (hr.deeper _) hsp
  have I : Inv (cxOf CX P w K mg base N qual scope f cdv A outer s H E) [] (start N vs) H s1 := inv_start S hr.hd e0 hl r x
  refine wpAny_mono (ht [] s1 (start N vs) H _ I hq) (fun fl s' hs => ?_) fun e s' hs => hs
  have fin : ∀ {σ' : St} {H' : Hp} {v : V} {u : Value}, Inv (cxOf CX P w K mg base N qual scope f cdv A outer s H E) [] σ' H' s' → RelV v u → Q v H' → CE outer P w H s Q u s' :=
    fun {σ' H' v u} J rv q => ⟨v, H', J.os, J.bare, J.base, J.hok, rv, q⟩
  cases fl with
  | ret u =>
    obtain ⟨v, σ', H', J, rv, q⟩ := hs
    exact fin J rv q
  | next =>
    obtain ⟨σ', H', J, q⟩ := hs
    exact fin (v := V.non) (u := Value.none) J rfl q
  | brk =>
    obtain ⟨_, _, _, q⟩ := hs
    exact False.elim q
  | cont =>
    obtain ⟨_, _, _, q⟩ := hs
    exact False.elim q
end L2
namespace L2
open PySem PySem.Spec PyProof.Rows
section
variable {X : Cx} {x : Str} {p pos : Pos} {e : Expr} {es : List Expr} {t : TA} {id T : String} {r : List V → Hp → VK → Prop}
def tCB (r : List V → Hp → VK → Prop) (t : TA) : TE := fun σ H Q => t σ H fun vs H1 => r vs H1 Q
theorem pe_callB (hc : CallR X (.builtin id) r) (hg : Gl X x) (hm : X.mg x = none) (hv : bootBuiltins x = some (.builtin id)) (ha : PA X (e :: es) t) (hn : x ≠ "__name__" := by decide) (hdb : (x == ("__debug__" : Str)) = false := by decide)
    (he : starEach (e :: es) X.env = (false, eval e X.env) :: starEach es X.env := by rfl) (hpl : (backTo pos (starEach es X.env)).any (·.1) = false := by rfl) : PE X (.Call (.Name x p) (e :: es) [] pos) (tCB r t) := by
  intro pins s σ H Q I h
  refine wpAny_Call_Name_kw (ld_blt I hg hm hv ?_ hn hdb)
  exact PyProof.Rows.callWith_builtin1 (thn (ha pos pins s σ H _ I h) fun us s1 ⟨vs, H1, I1, r1, q1⟩ => hc pins s1 σ H1 vs us Q I1 r1 q1) he hpl
theorem pe_callTy (hc : CallR X (.type T) r) (hg : Gl X x) (hm : X.mg x = none) (hv : bootBuiltins x = some (.type T)) (ha : PA X (e :: es) t) (hn : x ≠ "__name__" := by decide) (hdb : (x == ("__debug__" : Str)) = false := by decide)
    (he : starEach (e :: es) X.env = (false, eval e X.env) :: starEach es X.env := by rfl) (hpl : (backTo pos (starEach es X.env)).any (·.1) = false := by rfl) : PE X (.Call (.Name x p) (e :: es) [] pos) (tCB r t) := by
  intro pins s σ H Q I h
  refine wpAny_Call_Name_kw (ld_blt I hg hm hv ?_ hn hdb)
  exact PyProof.Rows.callWith_type1 (thn (ha pos pins s σ H _ I h) fun us s1 ⟨vs, H1, I1, r1, q1⟩ => hc pins s1 σ H1 vs us Q I1 r1 q1) he hpl
end
end L2
namespace HT
open PySem PyProof.Rows
def lexLt : List Int → List Int → Bool
  | [], [] => false
  | [], _ :: _ => true
  | _ :: _, [] => false
  | x :: xs, y :: ys => if x = y then lexLt xs ys else decide (x < y)
theorem lexLt_cons (x y : Int) (xs ys : List Int) : lexLt (x :: xs) (y :: ys) = if x = y then lexLt xs ys else decide (x < y) := rfl
theorem eqAt_int (A : Around) (s : Shared) (a : Int) (t : Tok) (c : Int) (u : Tok) : ∃ e, SeqAt.EqAt A s (.int a t) (.int c u) e ∧ (e = true ↔ a = c) :=
  ⟨(a == c), SeqAt.EqAt.int_int a t c u, by simp⟩
theorem rcLt_int (A : Around) (s : Shared) (a : Int) (t : Tok) (c : Int) (u : Tok) (prog : Program) (w : World) (E : Value → Shared → Prop) (Q : Value → Shared → Prop) (h : Q (.bool (decide (a < c))) s) :
    wpAny (model prog w) A (richCompare .Lt (.int a t) (.int c u)) Q E s :=
  (PyProof.Rows.lt_int h : wpAny (model prog w) A (compareOp .Lt (.int a t) (.int c u)) Q E s)
section
open PySem.SeqAt
open PySem.AutoSeq1 (wpAny_loadPart')
open PySem.MeetsSeq PySem.MeetsSeq2 PySem.MeetsSeq3
end
section
variable {prog : Program} {w : World} {A : Around} {E : Value → Shared → Prop} {s : Shared}
def sIx (n d : Nat) : Option Int → Nat
  | none => d
  | some v => if v < 0 then (v + (n : Int)).toNat else min v.toNat n
theorem sIx_none (n d : Nat) : sIx n d none = d := rfl
theorem sIx_nat (n d k : Nat) : sIx n d (some (k : Int)) = min k n := by
  show (if (k : Int) < 0 then ((k : Int) + (n : Int)).toNat else min (k : Int).toNat n) = min k n
  rw [if_neg (by omega), Int.toNat_natCast]
end
end HT
namespace L2
open PySem PySem.Spec PyProof.Rows
abbrev TO := St → Hp → (Option Int → Hp → Prop) → Prop
def PO (X : Cx) (e : Option Expr) (t : TO) : Prop :=
  ∀ (pins : List (Addr × Obj)) (s : Shared) (σ : St) (H : Hp) (Q : Option Int → Hp → Prop), Inv X pins σ H s → t σ H Q →
    wpAny (model X.prog X.w) X.A (evalPart e X.env) (fun u s' => ∃ o H', Inv X pins σ H' s' ∧ IsPart u o ∧ Q o H') X.xe s
def tNoPart : TO := fun _ H Q => Q none H
def tPart (t : TE) : TO := fun σ H Q => t σ H fun x H1 => ∃ i, x = .int i ∧ Q (some i) H1
theorem intsAre_of {ns : List Int} : ∀ {us : List Value}, Vals (ns.map V.int) us → IntsAre us ns := by
  induction ns with
  | nil => intro us r; rw [List.map_nil] at r; cases r; exact .nil
  | cons n ns ih =>
    intro us r
    rw [List.map_cons] at r
    cases r with
    | cons r1 r2 =>
      obtain ⟨t, e⟩ := r1
      subst e
      exact .cons n t (ih r2)
section
variable {X : Cx} {e : Expr} {te : TE} {lo hi : Option Expr} {tl th : TO} {pos p2 : Pos}
theorem po_none : PO X none tNoPart := by
  intro pins s σ H Q I h
  rw [evalPart_none]
  exact wpAny_pure ⟨none, H, I, .none, h⟩
theorem po_some (h : PE X e te) : PO X (some e) (tPart te) := by
  intro pins s σ H Q I hw
  rw [evalPart_some]
  refine thn (h pins s σ H _ I hw) fun u s1 ⟨x, H1, I1, r1, q1⟩ => ?_
  obtain ⟨i, rfl, q⟩ := q1
  obtain ⟨t, rfl⟩ := r1
  exact ⟨some i, H1, I1, .int i t, q⟩
def SlR (X : Cx) (r : V → Option Int → Option Int → Hp → VK → Prop) : Prop :=
  ∀ (pins : List (Addr × Obj)) (s : Shared) (σ : St) (H : Hp) (x : V) (v vl vu : Value) (lo hi : Option Int) (sl : Addr) (Q : VK), Inv X pins σ H s → RelV x v → s.heap.IsSliceOf sl vl vu .none → IsPart vl lo → IsPart vu hi → r x lo hi H Q →
    ∃ T id, typeLookup (.type T) "__getitem__" = pure (some (.builtin id)) ∧ s.TypeIs v T ∧ wpAny (model X.prog X.w) X.A (getItem v (.ref sl)) (EP X pins σ Q) X.xe s
def tSl (r : V → Option Int → Option Int → Hp → VK → Prop) (te : TE) (tl th : TO) : TE := fun σ H Q => te σ H fun x H1 => tl σ H1 fun l H2 => th σ H2 fun u H3 => r x l u H3 Q
theorem pe_slice {r : V → Option Int → Option Int → Hp → VK → Prop} (hr : SlR X r) (he : PE X e te) (hl : PO X lo tl) (hu : PO X hi th) : PE X (.Subscript e (.Slice lo hi none p2) pos) (tSl r te tl th) := by
  intro pins s σ H Q I h
  refine Subscript_ (thn (he pins s σ H _ I h) fun v s1 ⟨x, H1, I1, r1, q1⟩ => ?_)
  refine wpAny_Slice (thn (hl pins s1 σ H1 _ I1 q1) fun vl s2 ⟨l, H2, I2, pl, q2⟩ => thn (hu pins s2 σ H2 _ I2 q2) fun vu s3 ⟨u, H3, I3, pu, q3⟩ => ?_)
  rw [evalPart_none]
  refine wpAny_pure ?_
  have I4 : Inv X pins σ H3 { s3 with heap := s3.heap.push { cls := .type "slice", data := .fields #[vl, vu, .none] } } := I3.kept (t' := s3.toks) fun b ob q => Heap.get?_push_of_some _ q
  obtain ⟨T, id, hT, ht, hg⟩ := hr pins { s3 with heap := s3.heap.push { cls := .type "slice", data := .fields #[vl, vu, .none] } } σ H3 x v vl vu l u s3.heap.objs.size Q I4 r1 (Heap.IsSliceOf.new ..) pl pu q3
  show wpAny (model X.prog X.w) X.A (subscriptTail e (.Slice lo hi none p2) v (.ref s3.heap.objs.size)) (EP X pins σ Q) X.xe { s3 with heap := s3.heap.push { cls := .type "slice", data := .fields #[vl, vu, .none] } }
  exact tail_any (ops := [.ref s3.heap.objs.size, v]) ht hT hg (by with_unfolding_all rfl)
def cutV (xs : List V) (lo hi : Option Int) : List V := (xs.drop (HT.sIx xs.length 0 lo)).take (HT.sIx xs.length xs.length hi - HT.sIx xs.length 0 lo)
theorem cutV_length (xs : List V) (lo hi : Option Int) : (cutV xs lo hi).length ≤ xs.length := by
  unfold cutV
  rw [List.length_take, List.length_drop]
  omega
end
end L2
namespace L2
open PySem PySem.Spec PyProof.Rows
def ixN (n : Nat) (i : Int) : Option Nat := if 0 ≤ i then (if i < n then some i.toNat else none) else if -(n : Int) ≤ i then some (i + n).toNat else none
def atI {α : Type} (xs : List α) (i : Int) : Option α := (ixN xs.length i).bind fun j => xs[j]?
theorem ixN_seq {n : Nat} {i : Int} {j : Nat} (h : ixN n i = some j) : seqIndex? i n = some j ∧ j < n ∧ -(n : Int) ≤ i ∧ i < n := by
  unfold ixN at h
  by_cases h0 : 0 ≤ i
  · rw [if_pos h0] at h
    by_cases h1 : i < n
    · rw [if_pos h1] at h
      have e : i.toNat = j := Option.some.inj h
      exact ⟨by rw [seqIndex_of h0 h1, e], by omega, by omega, h1⟩
    · rw [if_neg h1] at h; cases h
  · rw [if_neg h0] at h
    by_cases h1 : -(n : Int) ≤ i
    · rw [if_pos h1] at h
      have e : (i + n).toNat = j := Option.some.inj h
      exact ⟨by rw [seqIndex_neg (by omega) h1, e], by omega, h1, by omega⟩
    · rw [if_neg h1] at h; cases h
theorem atI_get {α : Type} {xs : List α} {i : Int} {v : α} (h : atI xs i = some v) : ∃ j, seqIndex? i xs.length = some j ∧ xs[j]? = some v ∧ j < xs.length ∧ -(xs.length : Int) ≤ i ∧ i < xs.length := by
  unfold atI at h
  cases e : ixN xs.length i with
  | none => rw [e] at h; cases h
  | some j =>
    rw [e] at h
    obtain ⟨h1, h2, h3, h4⟩ := ixN_seq e
    exact ⟨j, h1, h, h2, h3, h4⟩
theorem atI_nat {α : Type} {xs : List α} {j : Nat} {v : α} (h : xs[j]? = some v) : atI xs (j : Int) = some v := by
  have hj : j < xs.length := (List.getElem?_eq_some_iff.mp h).1
  have e : ixN xs.length (j : Int) = some j := by
    unfold ixN
    rw [if_pos (by omega), if_pos (by omega)]; simp
  unfold atI; rw [e]; exact h
theorem atI_last {α : Type} (xs : List α) (v : α) : atI (xs ++ [v]) (-1) = some v := by
  have hl : (xs ++ [v]).length = xs.length + 1 := by simp
  have e : ixN (xs ++ [v]).length (-1) = some xs.length := by
    unfold ixN
    rw [hl, if_neg (by decide), if_pos (by omega)]
    congr 1
    omega
  unfold atI
  rw [e]
  show (xs ++ [v])[xs.length]? = some v
  simp
def PlainIx (b : Expr) : Prop := ∀ o i, subscripted b false o i = operate [o, i] (getItem o i)
def IxR (X : Cx) (r : R2) : Prop :=
  ∀ (value slice : Expr) (pins : List (Addr × Obj)) (s : Shared) (σ : St) (H : Hp) (x y : V) (v u : Value) (Q : VK), Inv X pins σ H s → RelV x v → RelV y u → r x y H Q →
    subscripted slice false v u = operate [v, u] (getItem v u) → wpAny (model X.prog X.w) X.A (subscriptTail value slice v u) (EP X pins σ Q) X.xe s
def MtR (X : Cx) (id : String) (r : V → List V → Hp → VK → Prop) : Prop :=
  ∀ (pins : List (Addr × Obj)) (s : Shared) (σ : St) (H : Hp) (x : V) (xs : List V) (v : Value) (us : List Value) (Q : VK), Inv X pins σ H s → RelV x v → Vals xs us → r x xs H Q →
    wpAny (model X.prog X.w) X.A (call (.builtin id) (v :: us)) (EP X pins σ Q) X.xe s
section
variable {X : Cx} {a b : Expr} {ta tb : TE} {pos : Pos}
theorem pe_ix {r : R2} (hr : IxR X r) (ha : PE X a ta) (hb : PE X b tb) (hs : PlainIx b) : PE X (.Subscript a b pos) (tOp r ta tb) := by
  intro pins s σ H Q I h
  exact Subscript_ (binT ha hb I h fun v u s2 x y H2 I2 rx ry q => hr a b pins s2 σ H2 x y v u Q I2 rx ry q (hs _ _))
def rIxL (K : PySem.W.Frag) : R2 := fun x y H Q => ∃ p xs i v, x = .ref p ∧ y = .int i ∧ SqL K H p xs ∧ atI xs i = some v ∧ Q v H
theorem ix_list : IxR X (rIxL X.K) := by
  intro value slice pins s σ H x y v u Q I rx ry h hs
  obtain ⟨p, xs, i, z, rfl, rfl, hq, he, q⟩ := h
  cases rx
  obtain ⟨t, rfl⟩ := ry
  obtain ⟨its, r, pl, hz⟩ := I.list hq
  obtain ⟨j, h1, h2, h3, h4, h5⟩ := atI_get he
  obtain ⟨w, ew, rw'⟩ := r.get h2
  have hl := r.length
  have hn := line63
  have fin : EP X pins σ Q w s := ⟨z, H, I, rw', q⟩
  by_cases h0 : 0 ≤ i
  · have hj : i.toNat = j := by
      rw [seqIndex_of h0 h5] at h1
      exact Option.some.inj h1
    exact item_listR pl.isList h0 (by omega) (by rw [hj]; simpa using ew) fin hs
  · have hj : (i + (its.toArray.size : Int)).toNat = j := by
      rw [seqIndex_neg (by omega) h4] at h1
      rw [List.size_toArray, ← hl]
      exact Option.some.inj h1
    exact subscriptTail_builtinR (x := w) pl.isList.typeIs slot_list_getitem.lookup
      (wpAny_getItem_list_neg (Q := fun r s' => r = w ∧ EP X pins σ Q r s') pl.isList (by omega) (by rw [List.size_toArray] <;> omega) (by omega) (by rw [hj]; simpa using ew) ⟨rfl, fin⟩) hs
theorem slice_bounds (lo hi : Option Int) (n : Nat) : (sliceBounds lo hi none n).1 = ((HT.sIx n 0 lo : Nat) : Int) ∧ (sliceBounds lo hi none n).2.1 = ((HT.sIx n n hi : Nat) : Int) ∧ (sliceBounds lo hi none n).2.2 = 1 := by
  refine ⟨?_, ?_, rfl⟩
  · cases lo with
    | none => simp [sliceBounds, HT.sIx]
    | some i =>
      simp only [sliceBounds, HT.sIx, Option.getD_none, show (1 : Int) > 0 by decide, if_true]
      by_cases h : i < 0
      · simp only [h, if_true] <;> omega
      · simp only [h, if_false] <;> omega
  · cases hi with
    | none => simp [sliceBounds, HT.sIx]
    | some i =>
      simp only [sliceBounds, HT.sIx, Option.getD_none, show (1 : Int) > 0 by decide, if_true]
      by_cases h : i < 0
      · simp only [h, if_true] <;> omega
      · simp only [h, if_false] <;> omega
theorem slicePick_cut (its : List Value) (lo hi : Option Int) : slicePick its.toArray lo hi none = ((its.drop (HT.sIx its.length 0 lo)).take (HT.sIx its.length its.length hi - HT.sIx its.length 0 lo)).toArray := by
  obtain ⟨h1, h2, h3⟩ := slice_bounds lo hi its.toArray.size
  unfold slicePick
  rw [h1, h2, h3]
  simp only [sliceRange_one, pick_run, List.size_toArray] <;> rfl
def rSlL (K : PySem.W.Frag) : V → Option Int → Option Int → Hp → VK → Prop := fun x lo hi H Q => ∃ a xs, x = .ref a ∧ SqL K H a xs ∧ ∀ p, H p = none → Q (.ref p) (upd H p (.lst (cutV xs lo hi)))
theorem sl_list : SlR X (rSlL X.K) := by
  intro pins s σ H x v vl vu lo hi sl Q I rx hs pl pu h
  obtain ⟨a, xs, rfl, hx, q⟩ := h
  cases rx
  obtain ⟨its, r, ht, hz⟩ := I.list hx
  have hlen := r.length
  refine ⟨"list", _, slot_list_getitem.lookup, ht.isList.typeIs, ?_⟩
  refine wpAny_getItem_list_slice ht.isList hs pl pu .none (by simp) ?_ (by rw [List.size_toArray] <;> omega)
  rw [slicePick_cut, ← hlen]
  refine ⟨.ref s.heap.objs.size, _, I.laid (t' := s.toks) (o := .lst (cutV xs lo hi)) (fun b ob q => Heap.get?_push_of_some _ q) (Nat.le_refl _) ?_, rfl, q _ (I.hok.fresh (Nat.le_refl _))⟩
  exact ⟨Nat.le_trans (cutV_length xs lo hi) hz, _, 0, (r.drop (HT.sIx xs.length 0 lo)).take (HT.sIx xs.length xs.length hi - HT.sIx xs.length 0 lo), Heap.get?_push_size _ rfl⟩
def flatV : V → Bool
  | .non => true
  | .bl _ => true
  | .int _ => true
  | .str _ => true
  | _ => false
def eqV : V → V → Bool
  | .non, .non => true
  | .bl a, .bl b => a == b
  | .bl a, .int b => (if a then 1 else 0) == b
  | .int a, .bl b => a == (if b then 1 else 0)
  | .int a, .int b => a == b
  | .str a, .str b => a == b
  | _, _ => false
theorem eqAt_V {A : Around} {s : Shared} {y x : V} {u v : Value} (ry : RelV y u) (rx : RelV x v) (fy : flatV y = true) (fx : flatV x = true) : SeqAt.EqAt A s u v (eqV y x) := by
  cases y with
  | non =>
    cases ry
    cases x with
    | non => cases rx; exact SeqAt.EqAt.same _
    | bl b => cases rx; exact SeqAt.EqAt.none_bool b
    | int b => obtain ⟨t, rfl⟩ := rx; exact SeqAt.EqAt.none_int b t
    | str b => obtain ⟨t, rfl⟩ := rx; exact SeqAt.EqAt.none_str b t
    | _ => exact absurd (show false = true from fx) Bool.false_ne_true
  | bl a =>
    cases ry
    cases x with
    | non => cases rx; exact SeqAt.EqAt.bool_none a
    | bl b => cases rx; exact SeqAt.EqAt.bool_bool a b
    | int b => obtain ⟨t, rfl⟩ := rx; exact SeqAt.EqAt.bool_int a b t
    | str b => obtain ⟨t, rfl⟩ := rx; exact SeqAt.EqAt.bool_str a b t
    | _ => exact absurd (show false = true from fx) Bool.false_ne_true
  | int a =>
    obtain ⟨t', rfl⟩ := ry
    cases x with
    | non => cases rx; exact SeqAt.EqAt.int_none a t'
    | bl b => cases rx; exact SeqAt.EqAt.int_bool a t' b
    | int b => obtain ⟨t, rfl⟩ := rx; exact SeqAt.EqAt.int_int a t' b t
    | str b => obtain ⟨t, rfl⟩ := rx; exact SeqAt.EqAt.int_str a t' b t
    | _ => exact absurd (show false = true from fx) Bool.false_ne_true
  | str a =>
    obtain ⟨t', rfl⟩ := ry
    cases x with
    | non => cases rx; exact SeqAt.EqAt.str_none a t'
    | bl b => cases rx; exact SeqAt.EqAt.str_bool a t' b
    | int b => obtain ⟨t, rfl⟩ := rx; exact SeqAt.EqAt.str_int a t' b t
    | str b => obtain ⟨t, rfl⟩ := rx; exact SeqAt.EqAt.str_str a t' b t
    | _ => exact absurd (show false = true from fx) Bool.false_ne_true
  | _ => exact absurd (show false = true from fy) Bool.false_ne_true
def eqU (x : V) (u : Value) : Bool := match u with
  | .none => eqV .non x
  | .bool b => eqV (.bl b) x
  | .int i _ => eqV (.int i) x
  | .str z _ => eqV (.str z) x
  | _ => false
theorem eqU_of {x y : V} {u : Value} (r : RelV y u) (f : flatV y = true) : eqU x u = eqV y x := by
  cases y with
  | non => cases r; rfl
  | bl b => cases r; rfl
  | int i => obtain ⟨t, rfl⟩ := r; rfl
  | str z => obtain ⟨t, rfl⟩ := r; rfl
  | _ => exact absurd (show false = true from f) Bool.false_ne_true
theorem mem_eqAt {A : Around} {s : Shared} {x : V} {v : Value} (rx : RelV x v) (fx : flatV x = true) : ∀ {xs : List V} {us : List Value}, Vals xs us → xs.all flatV = true → ∀ u ∈ us, SeqAt.EqAt A s u v (eqU x u)
  | _, _, .nil, _ => fun u hu => by cases hu
  | y :: xs, u :: us, .cons r t, f => fun u' hu => by
    rw [List.all_cons, Bool.and_eq_true] at f
    rcases List.mem_cons.mp hu with rfl | hu
    · rw [eqU_of r f.1]; exact eqAt_V r rx f.1 fx
    · exact mem_eqAt rx fx t f.2 u' hu
theorem call_len_seq : CallR X (.builtin "len") (fun xs H Q => ∃ p ys, xs = [.ref p] ∧ (SqL X.K H p ys ∨ SqT X.K H p ys) ∧ Q (.int ys.length) H) := by
  intro pins s σ H xs us Q I r h
  obtain ⟨p, ys, rfl, hq, q⟩ := h
  obtain ⟨u, rfl, rx⟩ := vals1 r
  cases rx
  have hn := line63
  rcases hq with hq | hq
  · obtain ⟨its, r', pl, hz⟩ := I.list hq
    have hlen := r'.length
    exact Calls.call_len_list pl.isList (by simp only [List.size_toArray] <;> omega) ⟨.int ys.length, H, I.tok _, ⟨s.toks + 1, by rw [List.size_toArray, hlen]⟩, q⟩
  · obtain ⟨its, r', pl, hz⟩ := I.tuple hq
    have hlen := r'.length
    exact len_tuple pl (by simp only [List.size_toArray] <;> omega) ⟨.int ys.length, H, I.tok _, ⟨s.toks + 1, by rw [List.size_toArray, hlen]⟩, q⟩
theorem call_tuple_of : CallR X (.type "tuple") (fun xs H Q => ∃ p ys, xs = [.ref p] ∧ ((SqL X.K H p ys ∧ ∀ l, H l = none → Q (.ref l) (upd H l (.tup ys))) ∨ (SqT X.K H p ys ∧ Q (.ref p) H))) := by
  intro pins s σ H xs us Q I r h
  obtain ⟨p, ys, rfl, h⟩ := h
  obtain ⟨u, rfl, rx⟩ := vals1 r
  cases rx
  rcases h with ⟨hq, q⟩ | ⟨hq, q⟩
  · obtain ⟨its, r', pl, hz⟩ := I.list hq
    have hlen := r'.length
    refine call_tuple_list pl.isList (fun h' kp => ?_) (by simp only [List.size_toArray] <;> omega)
    have I1 : Inv X pins σ H { s with heap := h' } := I.kept (t' := s.toks) kp
    have I2 : Inv X pins σ (upd H h'.objs.size (.tup ys)) { s with heap := h'.push { cls := .type "tuple", data := .seq its.toArray } } :=
      I1.laid (t' := s.toks) (fun b o e => Heap.get?_push_of_some _ e) (Nat.le_refl _) (show ObjOk X.prog X.w _ _ _ (.tup ys) from ⟨hz, its, r', IsTup.new _ _⟩)
    exact ⟨.ref h'.objs.size, _, I2, rfl, q _ (I1.hok.fresh (Nat.le_refl _))⟩
  · obtain ⟨its, r', pl, hz⟩ := I.tuple hq
    exact call_tuple_same pl ⟨.ref p, H, I, rfl, q⟩
def tyV (K : PySem.W.Frag) (T : String) (x : V) (H : Hp) : Prop := match x with
  | .str _ => T = "str"
  | .int _ => T = "int"
  | .ref p => (T = "list" ∧ ∃ xs, SqL K H p xs) ∨ (T = "tuple" ∧ ∃ o, K.lookup p = some o ∧ o.cls = .type "tuple" ∧ o.dict = none) ∨
      (T = "dict" ∧ ((∃ kvs, H p = some (.dK kvs)) ∨ ∃ kvs, H p = some (.dT kvs))) ∨ (T = "set" ∧ ∃ S n, H p = some (.set S n))
  | _ => False
theorem tyV_is {pins : List (Addr × Obj)} {σ : St} {H : Hp} {s : Shared} {T : String} {x : V} {v : Value} (I : Inv X pins σ H s) (r : RelV x v) (ty : tyV X.K T x H) :
    s.TypeIs v T ∧ ∀ a, v = .ref a → ∃ ob, s.heap.get? a = some ob ∧ ob.dict = none := by
  cases x with
  | str z =>
    obtain ⟨t, rfl⟩ := r
    cases (show T = "str" from ty)
    exact ⟨typeIs_str s z t, fun _ e => nomatch e⟩
  | int i =>
    obtain ⟨t, rfl⟩ := r
    cases (show T = "int" from ty)
    exact ⟨typeIs_int s i t, fun _ e => nomatch e⟩
  | ref p =>
    cases r
    rcases ty with ⟨rfl, xs, hq⟩ | ⟨rfl, o, hk, hc, hd⟩ | ⟨rfl, hk⟩ | ⟨rfl, S, n, hk⟩
    · obtain ⟨its, _, pl, _⟩ := I.list hq
      refine ⟨pl.isList.typeIs, fun a e => ?_⟩
      cases e
      obtain ⟨o, n, e, c, hd, _⟩ := pl
      exact ⟨o, e, hd⟩
    · refine ⟨⟨o, I.kIn p o hk, hc⟩, fun a e => ?_⟩
      cases e
      exact ⟨o, I.kIn _ o hk, hd⟩
    · have z : ∃ o, s.heap.get? p = some o ∧ o.ExactDict := by
        rcases hk with ⟨kvs, hk⟩ | ⟨kvs, hk⟩
        · obtain ⟨_, _, _, _, o, _, _, e, ex, _⟩ := I.hok p _ hk
          exact ⟨o, e, ex⟩
        · obtain ⟨_, _, _, _, o, _, _, e, ex, _⟩ := I.hok p _ hk
          exact ⟨o, e, ex⟩
      obtain ⟨o, e, ex⟩ := z
      refine ⟨⟨o, e, ex.1⟩, fun a e2 => ?_⟩
      cases e2
      exact ⟨o, e, ex.2.1⟩
    · obtain ⟨o, _, _, _, e, ex, _⟩ := I.hok p _ hk
      refine ⟨⟨o, e, ex.1⟩, fun a e2 => ?_⟩
      cases e2
      exact ⟨o, e, ex.2.1⟩
  | _ => exact False.elim ty
def tBM0 (K : PySem.W.Frag) (T : String) (r : V → List V → Hp → VK → Prop) (to : TE) : TE := fun σ H Q => to σ H fun x H1 => tyV K T x H1 ∧ r x [] H1 Q
def tBM (K : PySem.W.Frag) (T : String) (r : V → List V → Hp → VK → Prop) (to : TE) (t : TA) : TE := fun σ H Q => to σ H fun x H1 => tyV K T x H1 ∧ t σ H1 fun xs H2 => r x xs H2 Q
variable {o e : Expr} {es : List Expr} {to : TE} {t : TA} {name : Str} {apos cpos : Pos} {T id : String} {r : V → List V → Hp → VK → Prop}
theorem pe_bm (pa : PlainAttrs T) (slot : Slot T name id) (hty : typeOf (.builtin id) = pure (.type "method_descriptor")) (hm : MtR X id r) (ho : PE X o to) (ha : PA X (e :: es) t)
    (hbase : attributeBase o name X.env (eval o X.env) = eval o X.env := by rfl)
    (hfew : ((backTo cpos (starEach (e :: es) X.env)).all (fun x => !x.1) && (backToKw cpos (keywordEach [] X.env)).all (fun x => x.1.isSome)
      && decide ((e :: es).length + ([] : List Keyword).length + (if ([] : List Keyword).isEmpty then 0 else 1) < 30)) = true := by rfl)
    (hline : (apos.endLine == cpos.line) = true := by rfl) (hs : starEach (e :: es) X.env = (false, eval e X.env) :: starEach es X.env := by rfl) (hplain : (backTo cpos (starEach es X.env)).any (·.1) = false := by rfl) :
    PE X (.Call (.Attribute o name apos) (e :: es) [] cpos) (tBM X.K T r to t) := by
  intro pins s σ H Q I h
  refine wpAny_Call_method_late hbase hfew hline rfl (thn (ho pins s σ H _ I h) fun v s1 ⟨x, H1, I1, r1, ty, q1⟩ => ?_)
  obtain ⟨h1, h2⟩ := tyV_is I1 r1 ty
  refine ⟨T, id, pa, slot, hty, h1, h2, ?_⟩
  have hA := ha cpos pins s1 σ H1 _ I1 q1
  rw [hs] at hA ⊢
  refine Calls.callWith_builtin (by show (false || (backTo cpos (starEach es X.env)).any (·.1)) = false; rw [hplain] <;> rfl) (Calls.evalArgs_plain ?_)
  exact thn hA fun us s2 ⟨vs, H2, I2, r2, q2⟩ => hm pins s2 σ H2 x vs v us Q I2 r1 r2 q2
end
end L2
namespace L2
open PySem PySem.Spec PyProof.Rows
def MtM (X : Cx) (id : String) (r : V → List V → Hp → VK → Prop) : Prop :=
  ∀ (pins : List (Addr × Obj)) (s : Shared) (σ : St) (H : Hp) (x : V) (xs : List V) (v : Value) (us : List Value) (Q : VK), Inv X pins σ H s → RelV x v → Vals xs us → r x xs H Q →
    wpAny (model X.prog X.w) X.A (call (.builtin id) (v :: us)) (EP X pins σ Q) X.xe s
theorem Vals.one : ∀ {x : V} {us : List Value}, Vals [x] us → ∃ u, us = [u] ∧ RelV x u
  | _, _, .cons r .nil => ⟨_, rfl, r⟩
theorem Vals.reverse {xs : List V} {us : List Value} (h : Vals xs us) : Vals xs.reverse us.reverse := by
  induction h with
  | nil => exact .nil
  | cons r t ih => rw [List.reverse_cons, List.reverse_cons]; exact Vals.append ih (.cons r .nil)
theorem Vals.rep {xs : List V} {us : List Value} (h : Vals xs us) : ∀ k : Nat, Vals (List.replicate k xs).flatten (List.replicate k us).flatten
  | 0 => .nil
  | k + 1 => by
    rw [List.replicate_succ, List.replicate_succ, List.flatten_cons, List.flatten_cons]
    exact Vals.append h (Vals.rep h k)
theorem foldl_rep (its : List Value) : ∀ (k : Nat) (acc : List Value),
    List.foldl (fun x1 x2 => x1 ++ x2) acc.toArray (List.replicate k its.toArray) = (acc ++ (List.replicate k its).flatten).toArray
  | 0, acc => by simp
  | k + 1, acc => by
    have e : acc.toArray ++ its.toArray = (acc ++ its).toArray := by simp
    have e2 : (acc ++ its) ++ (List.replicate k its).flatten = acc ++ (List.replicate (k + 1) its).flatten := by
      rw [List.replicate_succ, List.flatten_cons, List.append_assoc]
    rw [← e2, ← foldl_rep its k (acc ++ its), ← e, List.replicate_succ, List.foldl_cons]
section
variable {X : Cx} {pins : List (Addr × Obj)} {σ : St} {H : Hp} {s : Shared} {l b : Addr} {xs ys zs : List V}
theorem Inv.lset {its its' : List Value} {n : Nat} {f : Array Value → Array Value} {t' : Nat} (I : Inv X pins σ H s) (hH : H l = some (.lst xs))
    (e : s.heap.get? l = some { cls := .type "list", data := .seq its.toArray n }) (hf : f its.toArray = its'.toArray) (hv : Vals ys its') (hz : ys.length ≤ sizeLine) :
    Inv X pins σ (upd H l (.lst ys)) { s with heap := s.heap.update l (Obj.mapSeq f), toks := t' } := by
  have q := PySem.IsL.update e f
  rw [hf] at q
  refine I.write (x := l) (e := l) (by rw [hH]; exact trivial) (.inl rfl) (fun b' u hb hu => (Heap.get?_update_other s.heap (Obj.mapSeq f) (Ne.symm hb)).trans hu) ⟨_, q⟩ ?_
  exact ⟨hz, its', _, hv, q⟩
theorem Inv.lnew {its : List Value} {t' : Nat} (I : Inv X pins σ H s) (hv : Vals ys its) (hz : ys.length ≤ sizeLine) :
    Inv X pins σ (upd H s.heap.objs.size (.lst ys)) { s with heap := s.heap.push { cls := .type "list", data := .seq its.toArray }, toks := t' } :=
  I.laid (fun _ _ q => Heap.get?_push_of_some _ q) (Nat.le_refl _) ⟨hz, its, 0, hv, Heap.get?_push_size _ rfl⟩
theorem Inv.fresh (I : Inv X pins σ H s) : H s.heap.objs.size = none := I.hok.fresh (Nat.le_refl _)
theorem Inv.lstM (I : Inv X pins σ H s) (hH : H l = some (.lst xs)) : xs.length ≤ sizeLine ∧ ∃ (its : List Value) (n : Nat), Vals xs its ∧ xs.length = its.length ∧ s.heap.get? l = some { cls := .type "list", data := .seq its.toArray n } := by
  obtain ⟨z, its, n, r, e⟩ := I.hok l _ hH
  exact ⟨z, its, n, r, r.length, e⟩
theorem notLongL {n : Nat} (h : n ≤ sizeLine) : Builtin.List.listTooLong n = false := by
  unfold Builtin.List.listTooLong
  exact decide_eq_false (by omega)
end
section
variable {X : Cx}
def rAppend : V → List V → Hp → VK → Prop := fun x vs H Q => ∃ l xs y, x = .ref l ∧ vs = [y] ∧ H l = some (.lst xs) ∧ xs.length < sizeLine ∧ Q .non (upd H l (.lst (xs ++ [y])))
theorem mt_append : MtM X "list.append" rAppend := by
  intro pins s σ H x vs v us Q I rx rv h
  obtain ⟨l, xs, y, rfl, rfl, hH, hz, q⟩ := h
  cases rx
  obtain ⟨u, rfl, ru⟩ := rv.one
  obtain ⟨z, its, n, r, hl, e⟩ := I.lstM hH
  refine call_meets F.slot_list_append ⟨_, e, rfl⟩ F.entry_list_append (F.args_list_append_2 _ _) (PySem.list_append l its.toArray n u (by rw [List.size_toArray]; omega)) ⟨e, ?_⟩
  refine ⟨.non, _, I.lset (its' := its ++ [u]) hH e (by simp) (r.append (.cons ru .nil)) ?_, rfl, q⟩
  rw [List.length_append, List.length_singleton]
  omega
def rExtend : V → List V → Hp → VK → Prop := fun x vs H Q => ∃ l b xs zs, x = .ref l ∧ vs = [.ref b] ∧ H l = some (.lst xs) ∧ H b = some (.lst zs) ∧ xs.length + zs.length ≤ sizeLine ∧ Q .non (upd H l (.lst (xs ++ zs)))
theorem mt_extend : MtM X "list.extend" rExtend := by
  intro pins s σ H x vs v us Q I rx rv h
  obtain ⟨l, b, xs, zs, rfl, rfl, hH, hB, hz, q⟩ := h
  cases rx
  obtain ⟨u, rfl, ru⟩ := rv.one
  cases ru
  obtain ⟨z, its, n, r, hl, e⟩ := I.lstM hH
  obtain ⟨z2, its2, n2, r2, hl2, e2⟩ := I.lstM hB
  have hsz : its.toArray.size + its2.toArray.size ≤ sizeLine := by rw [List.size_toArray, List.size_toArray]; omega
  have hlong : ¬ (!its.toArray.isEmpty && Builtin.List.listTooLong (its.toArray.size + its2.toArray.size)) = true := by
    rw [notLongL hsz, Bool.and_false]
    exact Bool.false_ne_true
  refine call_meets F.slot_list_extend ⟨_, e, rfl⟩ F.entry_list_extend (F.args_list_extend_2 _ _)
    (AutoSeq1.list_extend_list_list_0 l its.toArray n b its2.toArray n2 hlong (by rw [List.size_toArray]; omega) (by omega)) ⟨e, e2, ?_⟩
  refine ⟨.non, _, I.lset (its' := its ++ its2) hH e (by simp) (r.append r2) ?_, rfl, q⟩
  rw [List.length_append]
  omega
def rPop : V → List V → Hp → VK → Prop := fun x vs H Q => ∃ l xs y, x = .ref l ∧ vs = [] ∧ H l = some (.lst xs) ∧ xs[xs.length - 1]? = some y ∧ Q y (upd H l (.lst xs.dropLast))
def rCat : R2 := fun x y H Q => ∃ l b xs zs, x = .ref l ∧ y = .ref b ∧ H l = some (.lst xs) ∧ H b = some (.lst zs) ∧ xs.length + zs.length ≤ sizeLine ∧ ∀ p, H p = none → Q (.ref p) (upd H p (.lst (xs ++ zs)))
theorem op_cat : OpR X (binaryOp .Add) rCat := by
  intro pins s σ H x y v u Q I rx ry h
  obtain ⟨l, b, xs, zs, rfl, rfl, hH, hB, hz, q⟩ := h
  cases rx
  cases ry
  obtain ⟨z, its, n, r, hl, e⟩ := I.lstM hH
  obtain ⟨z2, its2, n2, r2, hl2, e2⟩ := I.lstM hB
  refine PySem.P.add_list e e2 ?_ (by rw [List.size_toArray, List.size_toArray]; omega)
  have ea : its.toArray ++ its2.toArray = (its ++ its2).toArray := by simp
  rw [ea]
  exact ⟨.ref _, _, I.lnew (t' := s.toks) (r.append r2) (by rw [List.length_append]; omega), rfl, q _ I.fresh⟩
def rRep : R2 := fun x y H Q => ∃ l k xs, x = .ref l ∧ y = .int k ∧ H l = some (.lst xs) ∧ -(2 ^ 63) ≤ k ∧ k < 2 ^ 63 ∧ xs.length * k.toNat ≤ sizeLine ∧
  ∀ p, H p = none → Q (.ref p) (upd H p (.lst (List.replicate k.toNat xs).flatten))
theorem len_rep {α : Type} (xs : List α) (k : Nat) : (List.replicate k xs).flatten.length = k * xs.length := by
  induction k with
  | zero => simp
  | succ k ih => rw [List.replicate_succ, List.flatten_cons, List.length_append, ih, Nat.succ_mul, Nat.add_comm]
theorem op_rep : OpR X (binaryOp .Mult) rRep := by
  intro pins s σ H x y v u Q I rx ry h
  obtain ⟨l, k, xs, rfl, rfl, hH, h1, h2, hz, q⟩ := h
  cases rx
  obtain ⟨t, rfl⟩ := ry
  obtain ⟨z, its, n, r, hl, e⟩ := I.lstM hH
  have hlen : its.toArray.size * k.toNat ≤ sizeLine := by rw [List.size_toArray, ← hl]; exact hz
  have hcap : ¬ its.toArray.size * k.toNat > (2 ^ 63 - 1) / 8 := by
    have : (sizeLine : Nat) ≤ (2 ^ 63 - 1) / 8 := by decide
    omega
  have hfit : ¬ (!Builtin.List.listFitsIndex k) = true := by
    rw [fitsIndex_both h1 h2]
    exact Bool.false_ne_true
  have hlong : ¬ Builtin.List.listTooLong (its.toArray.size * k.toNat) = true := by
    rw [notLongL hlen]
    exact Bool.false_ne_true
  have hnew : List.foldl (fun x1 x2 => x1 ++ x2) #[] (List.replicate (if its.toArray.isEmpty = true then 0 else k.toNat) its.toArray) = (List.replicate k.toNat its).flatten.toArray := by
    have f0 : ∀ m : Nat, List.foldl (fun x1 x2 => x1 ++ x2) #[] (List.replicate m its.toArray) = (List.replicate m its).flatten.toArray := fun m => by
      have := foldl_rep its m []
      rw [List.nil_append] at this
      exact this
    rw [f0]
    cases its with
    | nil => simp
    | cons a r' => rw [if_neg (by simp)]
  refine wpAny_binaryOp_repeat_ref (T := "list") (U := "int") (by decide) ⟨_, e, rfl⟩ (fun s' => typeIs_int s' k t) noFill_list_mul F.fills_int_mul F.slot_int_rmul repeat_list F.slot_int_index.lookup
    (call_meets F.slot_int_rmul (typeIs_int s k t) F.entry_int_rmul (F.args_int_rmul_2 _ _) (int___rmul___int_list k t l its.toArray n)
      ⟨e, rfl, ⟨_, e, rfl⟩, call_meets F.slot_list_mul ⟨_, e, rfl⟩ F.entry_list_mul (F.args_list_mul_2 _ _) (AutoListH.list___mul___list_int_3 l its.toArray n k t hfit hcap hlong) ⟨e, ?_⟩⟩)
  rw [hnew]
  exact ⟨.ref _, _, I.lnew (t' := s.toks) (r.rep k.toNat) (by rw [len_rep, Nat.mul_comm]; exact hz), rfl, q _ I.fresh⟩
end
section
variable {prog : Program} {w : World} {A : Around} {E : Value → Shared → Prop} {s : Shared}
set_option maxRecDepth 100000 in
end
section
variable {X : Cx}
end
end L2
namespace L2
open PySem PySem.Spec PyProof.Rows
theorem vals_of_ints : ∀ {us : List Value} {ns : List Int}, IntsAre us ns → Vals (ns.map V.int) us
  | _, _, .nil => by rw [List.map_nil]; exact Paired.nil
  | _, _, .cons n t h => by rw [List.map_cons]; exact Paired.cons (show RelV (V.int n) (Value.int n t) from ⟨t, rfl⟩) (vals_of_ints h)
theorem Vals.bls : ∀ {bs : List Bool} {us : List Value}, Vals (bs.map V.bl) us → us = bs.map Value.bool
  | [], us, h => by
    rw [List.map_nil] at h
    cases h
    rfl
  | b :: bs, us, h => by
    rw [List.map_cons] at h
    cases h with
    | cons r t =>
      cases r
      rw [Vals.bls t, List.map_cons]
theorem Vals.ref1 {a : Addr} {us : List Value} (r : Vals [V.ref a] us) : us = [Value.ref a] := by
  cases r with
  | cons r t =>
    cases t
    cases r
    rfl
section
variable {prog : Program} {w : World} {A : Around} {E : Value → Shared → Prop} {s : Shared} {l : Addr} {its : List Value} {ns : List Int} {Q : Value → Shared → Prop}
end
section
variable {X : Cx}
end
section
variable {X : Cx}
end
section
variable {X : Cx}
end
theorem iter_any {prog : Program} {w : World} {A : Around} {E : Value → Shared → Prop} {s : Shared} {l : Addr} {items : Array Value} {Q : Value → Shared → Prop} (hl : s.heap.IsList l items)
    (h : ∀ s₂ : Shared, s₂ = { s with heap := s.heap.push { cls := .type "list_iterator", data := .fields #[.ref l, .int 0 0] } } →
      (s₂.heap.IsListIter s.heap.objs.size l 0 ∧ s₂.heap.IsList l items) → l ≠ s.heap.objs.size → Q (.ref s.heap.objs.size) s₂) : wpAny (model prog w) A (pyIter (.ref l)) Q E s := by
  have hlt : l < s.heap.objs.size := by obtain ⟨_, e, _⟩ := hl; exact Heap.lt_size e
  exact wpAny_pyIter_list hl (h _ rfl ⟨⟨_, Heap.get?_push_size _ rfl, rfl, rfl⟩, hl.push _⟩ (Nat.ne_of_lt hlt))
theorem truth_bools {prog : Program} {w : World} {A : Around} {bs : List Bool} {its : List Value} (e : its = bs.map Value.bool) :
    TruthOf prog w A (fun i v => its.toArray[i]? = some v) (fun i => bs.getD i false) := fun i v s Q E hv hq => by
  have hv' : its[i]? = some v := by simpa using hv
  rw [e, List.getElem?_map] at hv'
  obtain ⟨b, hb, rfl⟩ := Option.map_eq_some_iff.mp hv'
  have hg : bs.getD i false = b := by rw [List.getD_eq_getElem?_getD, hb] <;> rfl
  have hq' : Q (bs.getD i false) s := hq
  rw [hg] at hq'
  exact wpAny_truthy_bool hq'
theorem any_range : ∀ bs : List Bool, (List.range bs.length).any (fun i => bs.getD i false) = bs.any id
  | [] => rfl
  | b :: bs => by
    rw [List.length_cons, List.range_succ_eq_map, List.any_cons, List.any_map, List.any_cons, ← any_range bs]
    all_goals rfl
theorem all_range : ∀ bs : List Bool, (List.range bs.length).all (fun i => bs.getD i false) = bs.all id
  | [] => rfl
  | b :: bs => by
    rw [List.length_cons, List.range_succ_eq_map, List.all_cons, List.all_map, List.all_cons, ← all_range bs]
    all_goals rfl
section
variable {X : Cx}
def rAll (K : PySem.W.Frag) : List V → Hp → VK → Prop := fun vs H Q => ∃ (a : Addr) (bs : List Bool), vs = [V.ref a] ∧ SqL K H a (bs.map V.bl) ∧ Q (.bl (bs.all id)) H
theorem cr_all (hc : X.calm = true) : CallR X (.builtin "all") (rAll X.K) := by
  intro pins s σ H vs us Q I r h
  obtain ⟨a, bs, rfl, hs, q⟩ := h
  obtain ⟨its, rv, hl, _⟩ := I.list hs
  rw [Vals.ref1 r]
  have hb := rv.bls
  refine call_all_walk (iter_any hl.isList fun s₂ e2 st hne => ?_)
  subst e2
  refine ⟨_, _, _, _, _, _, _, rfl, Walks.list (A := X.A.in1) (I.ok.hd hc) _ a hne its.toArray, st, truth_bools hb, fun h' tk hk => ?_⟩
  refine ⟨.bl _, H, I.kept fun b o eo => hk b o (fun hmem => ?_) (Heap.get?_push_of_some _ eo), ?_, q⟩
  · rcases List.mem_cons.mp hmem with e1 | hmem
    · exact absurd (e1 ▸ Heap.lt_size eo) (Nat.lt_irrefl _)
    · cases hmem
  · show Value.bool _ = Value.bool _
    rw [← all_range, hb, List.size_toArray, List.length_map]
end
mutual
inductive Dp (K : PySem.W.Frag) (H : Hp) : V → PyData → Prop
  | non : Dp K H .non .none
  | bl (b : Bool) : Dp K H (.bl b) (.bool b)
  | int (i : Int) : Dp K H (.int i) (.int i)
  | str (x : Str) : Dp K H (.str x) (.str x)
  | lst {a : Addr} {xs : List V} {ds : List PyData} : SqL K H a xs → DpAll K H xs ds → Dp K H (.ref a) (.list ds)
  | tup {a : Addr} {xs : List V} {ds : List PyData} : SqT K H a xs → DpAll K H xs ds → Dp K H (.ref a) (.tuple ds)
inductive DpAll (K : PySem.W.Frag) (H : Hp) : List V → List PyData → Prop
  | nil : DpAll K H [] []
  | cons {v : V} {vs : List V} {d : PyData} {ds : List PyData} : Dp K H v d → DpAll K H vs ds → DpAll K H (v :: vs) (d :: ds)
end
section
variable {X : Cx} {pins : List (Addr × Obj)} {σ : St} {H : Hp} {s : Shared}
mutual
theorem Dp.reads (I : Inv X pins σ H s) : ∀ (d : PyData) (v : V) (u : Value), Dp X.K H v d → RelV v u → ∃ as, Reads s.heap u d as
  | .none, _, _, h, r => by
    cases h
    cases r
    exact ⟨_, Reads.none⟩
  | .bool b, _, _, h, r => by
    cases h
    cases r
    exact ⟨_, Reads.bool b⟩
  | .int i, _, _, h, r => by
    cases h
    obtain ⟨t, rfl⟩ := r
    exact ⟨_, Reads.int i t⟩
  | .str x, _, _, h, r => by
    cases h
    obtain ⟨t, rfl⟩ := r
    exact ⟨_, Reads.str x t⟩
  | .list ds, _, _, h, r => by
    cases h with
    | lst hs ha =>
      cases r
      obtain ⟨its, rv, ⟨o, n, ho, hc, _, hd⟩, _⟩ := I.list hs
      obtain ⟨as, hr⟩ := Dp.readsAll I ds _ its ha rv
      exact ⟨_, Reads.list ho hc hd hr⟩
  | .tuple ds, _, _, h, r => by
    cases h with
    | tup hs ha =>
      cases r
      obtain ⟨its, rv, ⟨o, ho, hc, n, hd⟩, _⟩ := I.tuple hs
      obtain ⟨as, hr⟩ := Dp.readsAll I ds _ its ha rv
      exact ⟨_, Reads.tuple ho hc hd hr⟩
  | .dict _, _, _, h, _ => by cases h
theorem Dp.readsAll (I : Inv X pins σ H s) : ∀ (ds : List PyData) (vs : List V) (us : List Value), DpAll X.K H vs ds → Vals vs us → ∃ as, ReadsAll s.heap us ds as
  | [], _, _, h, r => by
    cases h
    cases r
    exact ⟨_, ReadsAll.nil⟩
  | d :: ds, _, _, h, r => by
    cases h with
    | cons h1 h2 =>
      cases r with
      | cons r1 r2 =>
        obtain ⟨as, q1⟩ := Dp.reads I d _ _ h1 r1
        obtain ⟨bs, q2⟩ := Dp.readsAll I ds _ _ h2 r2
        exact ⟨_, ReadsAll.cons q1 q2⟩
end
end
section
variable {X : Cx}
def rEqD (K : PySem.W.Frag) : R2 := fun x y H Q => ∃ d e, Dp K H x d ∧ Dp K H y e ∧ SeqAt.shaped d = true ∧ SeqAt.shaped e = true ∧ Q (.bl (PyData.eqv d e)) H
def rNeD (K : PySem.W.Frag) : R2 := fun x y H Q => ∃ d e, Dp K H x d ∧ Dp K H y e ∧ SeqAt.shaped d = true ∧ SeqAt.shaped e = true ∧ Q (.bl (!PyData.eqv d e)) H
theorem op_eqD (hu : X.A.units + 64 < cLine) : OpR X (compareOp .Eq) (rEqD X.K) := by
  intro pins s σ H x y v u Q I rx ry h
  obtain ⟨d, e, hd, he, sd, se, q⟩ := h
  obtain ⟨as, r1⟩ := Dp.reads I d x v hd rx
  obtain ⟨bs, r2⟩ := Dp.reads I e y u he ry
  exact SeqAt.compareEq_shaped r1 r2 sd se hu ⟨.bl _, H, I, rfl, q⟩
theorem op_neD (hu : X.A.units + 64 < cLine) : OpR X (compareOp .NotEq) (rNeD X.K) := by
  intro pins s σ H x y v u Q I rx ry h
  obtain ⟨d, e, hd, he, sd, se, q⟩ := h
  obtain ⟨as, r1⟩ := Dp.reads I d x v hd rx
  obtain ⟨bs, r2⟩ := Dp.reads I e y u he ry
  exact SeqAt.compareNe_shaped r1 r2 sd se hu ⟨.bl _, H, I, rfl, q⟩
end
end L2
namespace L2
open PySem PySem.Spec PyProof.Rows
abbrev CellAt (h : Heap) (c : Addr) (v : Option Value) : Prop := h.IsCell c v
def relS (scope sc : Scope) : Scope :=
  { scope with names := scope.names.map fun (n, k) => if (k == .free && sc.kind == .function && sc.names.lookup n == some .cell) then (n, .cell) else (n, k) }
def cloFrom (cells : List (Str × Addr)) : List (Str × NameKind) → List (Str × Addr) → List (Str × Addr)
  | [], acc => acc
  | (n, k) :: r, acc => if k == .free then cloFrom cells r ((n, (cells.lookup n).getD 0) :: acc) else cloFrom cells r acc
theorem closure_loop (env : Env) (f : Str × NameKind → List (Str × Addr) → Sem (ForInStep (List (Str × Addr))))
    (hf : ∀ n k c, f (n, k) c = if k == .free then (do let a ← cellOf env n; pure (.yield ((n, a) :: c))) else pure (.yield c)) :
    ∀ (names : List (Str × NameKind)) (acc : List (Str × Addr)), (∀ y ∈ names, y.2 = .free → ∃ c, env.cells.lookup y.1 = some c) → forIn names acc f = pure (cloFrom env.cells names acc)
  | [], acc, _ => by rw [List.forIn_nil]; rfl
  | (n, k) :: r, acc, h => by
    rw [List.forIn_cons, hf]
    have ih := fun acc => closure_loop env f hf r acc fun y hy => h y (List.mem_cons_of_mem _ hy)
    unfold cloFrom
    by_cases hk : (k == NameKind.free) = true
    · rw [if_pos hk, if_pos hk]
      obtain ⟨c, hc⟩ := h (n, k) List.mem_cons_self (by simpa using hk)
      have e : cellOf env n = pure c := by unfold cellOf; rw [hc]
      rw [e]
      have e2 : (env.cells.lookup n).getD 0 = c := by rw [hc]; rfl
      rw [e2]
      exact ih _
    · rw [if_neg hk, if_neg hk]
      exact ih _
theorem closure_ok {scope : Scope} {env : Env} (h : ∀ y ∈ scope.names, y.2 = .free → ∃ c, env.cells.lookup y.1 = some c) : closureFor scope env = pure (cloFrom env.cells scope.names []) := by
  simp only [closureFor]
  rw [closure_loop env _ (fun n k c => rfl) scope.names [] h]
  rfl
theorem mem_lookup {α : Type} : ∀ {l : List (Str × α)} {n : Str} {c : α}, (n, c) ∈ l → ∃ c', l.lookup n = some c'
  | (k, v) :: r, n, c, h => by
    rw [List.lookup_cons]
    cases hb : n == k with
    | true => exact ⟨_, rfl⟩
    | false =>
      rcases List.mem_cons.mp h with e | h
      · cases e; simp at hb
      · exact mem_lookup h
theorem cloFrom_mem {cells : List (Str × Addr)} : ∀ {names : List (Str × NameKind)} {acc : List (Str × Addr)} {n : Str} {c : Addr}, (n, c) ∈ cloFrom cells names acc → (n, c) ∈ acc ∨ ((n, .free) ∈ names ∧ c = (cells.lookup n).getD 0)
  | [], _, _, _, h => .inl h
  | (m, k) :: r, acc, n, c, h => by
    unfold cloFrom at h
    split at h
    · rename_i hk
      have hk : k = .free := by simpa using hk
      rcases cloFrom_mem h with h | ⟨h1, h2⟩
      · rcases List.mem_cons.mp h with e | h
        · cases e; exact .inr ⟨hk ▸ List.mem_cons_self, rfl⟩
        · exact .inl h
      · exact .inr ⟨List.mem_cons_of_mem _ h1, h2⟩
    · rcases cloFrom_mem h with h | ⟨h1, h2⟩
      · exact .inl h
      · exact .inr ⟨List.mem_cons_of_mem _ h1, h2⟩
theorem cloFrom_acc {cells : List (Str × Addr)} : ∀ {names : List (Str × NameKind)} {acc : List (Str × Addr)} {p : Str × Addr}, p ∈ acc → p ∈ cloFrom cells names acc
  | [], _, _, h => h
  | (m, k) :: r, acc, p, h => by
    unfold cloFrom
    split
    · exact cloFrom_acc (List.mem_cons_of_mem _ h)
    · exact cloFrom_acc h
theorem cloFrom_has {cells : List (Str × Addr)} : ∀ {names : List (Str × NameKind)} {acc : List (Str × Addr)} {n : Str}, (n, .free) ∈ names → (n, (cells.lookup n).getD 0) ∈ cloFrom cells names acc
  | (m, k) :: r, acc, n, h => by
    unfold cloFrom
    rcases List.mem_cons.mp h with e | h
    · cases e
      exact cloFrom_acc List.mem_cons_self
    · split
      · exact cloFrom_has h
      · exact cloFrom_has h
theorem cells_mem : ∀ {names : List (Str × NameKind)} {h : Heap} {acc : List (Str × Addr)} {x : Str} {c : Addr}, (x, c) ∈ cellsFrom h.objs.size names acc →
    (x, c) ∈ acc ∨ ((x, .cell) ∈ names ∧ h.objs.size ≤ c ∧ CellAt (pushCells h names) c none)
  | [], _, _, _, _, h => .inl h
  | (n, k) :: r, h, acc, x, c, hm => by
    unfold cellsFrom at hm
    unfold pushCells
    split at hm
    · rename_i hk
      rw [if_pos hk]
      have hk : k = .cell := by simpa using hk
      rw [← Heap.size_push h { cls := .type "cell", data := .cell none }] at hm
      rcases cells_mem hm with hm | ⟨h1, h2, h3⟩
      · rcases List.mem_cons.mp hm with e | hm
        · cases e
          exact .inr ⟨hk ▸ List.mem_cons_self, Nat.le_refl _, _, pushCells_keeps r _ _ _ (Heap.get?_push_size _ rfl), rfl⟩
        · exact .inl hm
      · rw [Heap.size_push] at h2
        exact .inr ⟨List.mem_cons_of_mem _ h1, Nat.le_of_succ_le h2, h3⟩
    · rename_i hk
      rw [if_neg hk]
      rcases cells_mem hm with hm | ⟨h1, h2, h3⟩
      · exact .inl hm
      · exact .inr ⟨List.mem_cons_of_mem _ h1, h2, h3⟩
theorem cells_acc : ∀ {names : List (Str × NameKind)} {n : Nat} {acc : List (Str × Addr)} {p : Str × Addr}, p ∈ acc → p ∈ cellsFrom n names acc
  | [], _, _, _, h => h
  | (m, k) :: r, n, acc, p, h => by
    unfold cellsFrom
    split
    · exact cells_acc (List.mem_cons_of_mem _ h)
    · exact cells_acc h
theorem cells_has : ∀ {names : List (Str × NameKind)} {n : Nat} {acc : List (Str × Addr)} {x : Str}, (x, .cell) ∈ names → ∃ c, (x, c) ∈ cellsFrom n names acc
  | (m, k) :: r, n, acc, x, h => by
    unfold cellsFrom
    rcases List.mem_cons.mp h with e | h
    · cases e
      exact ⟨n, cells_acc List.mem_cons_self⟩
    · split
      · exact cells_has h
      · exact cells_has h
theorem cells_inj : ∀ {names : List (Str × NameKind)} {h : Heap} {acc : List (Str × Addr)} {x y : Str} {c : Addr}, (∀ p ∈ acc, p.2 < h.objs.size) → (∀ x y c, (x, c) ∈ acc → (y, c) ∈ acc → x = y) →
    (x, c) ∈ cellsFrom h.objs.size names acc → (y, c) ∈ cellsFrom h.objs.size names acc → x = y
  | [], _, _, _, _, _, _, hi, h1, h2 => hi _ _ _ h1 h2
  | (n, k) :: r, h, acc, x, y, c, hl, hi, h1, h2 => by
    unfold cellsFrom at h1 h2
    split at h1
    · rename_i hk
      rw [if_pos hk] at h2
      rw [← Heap.size_push h { cls := .type "cell", data := .cell none }] at h1 h2
      refine cells_inj (h := h.push _) (fun p hp => ?_) (fun x y c a b => ?_) h1 h2
      · rw [Heap.size_push]
        rcases List.mem_cons.mp hp with rfl | hp
        · exact Nat.lt_succ_self _
        · exact Nat.lt_succ_of_lt (hl p hp)
      · rcases List.mem_cons.mp a with e | a <;> rcases List.mem_cons.mp b with e' | b
        · cases e; cases e'; rfl
        · cases e; exact absurd (hl _ b) (Nat.lt_irrefl _)
        · cases e'; exact absurd (hl _ a) (Nat.lt_irrefl _)
        · exact hi _ _ _ a b
    · rename_i hk
      rw [if_neg hk] at h2
      exact cells_inj hl hi h1 h2
theorem newEnv_comp {M : Model} {A : Around} {E : Value → Shared → Prop} {s : Shared} {scope : Scope} {globals : Addr} {closure : List (Str × Addr)} {qual : Str} {func : Option Addr} {code : Value} {around : Env} {builtins : Addr} {Q : Env → Shared → Prop}
    (h : Q (newEnv scope s.heap.objs.size globals (cellsFrom (s.heap.objs.size + 1) scope.names closure) qual func code (some around) builtins)
      { s with heap := pushCells (s.heap.push { cls := .type "dict", data := .dict #[] }) scope.names }) :
    wpAny M A (newFunctionEnv scope globals closure [] qual func code (some around) builtins) Q E s := by
  simp only [newFunctionEnv, Option.isSome_some, if_true]
  refine wpAny_bind (wpAny_alloc ?_)
  refine wpAny_bind (wpAny_layCells _ (fun n k c => rfl) scope.names closure _ _ ?_)
  rw [show ({ s with heap := s.heap.push { cls := .type "dict", data := .dict #[] } } : Shared).heap.objs.size = s.heap.objs.size + 1 from Heap.size_push ..]
  rw [List.forIn_nil]
  exact wpAny_bind (wpAny_pure (wpAny_pure h))
theorem lookup_relS {sc : Scope} : ∀ {names : List (Str × NameKind)} {x : Str} {k : NameKind},
    (names.map fun (n, k) => if (k == NameKind.free && sc.kind == .function && sc.names.lookup n == some .cell) then (n, NameKind.cell) else (n, k)).lookup x = some k →
    ∃ k', names.lookup x = some k' ∧ (k = k' ∨ (k' = .free ∧ k = .cell))
  | [], _, _, h => by simp at h
  | (n, k₀) :: r, x, k, h => by
    have ih := @lookup_relS sc r x k
    have h' : List.lookup x ((if (k₀ == NameKind.free && sc.kind == .function && sc.names.lookup n == some .cell) = true then (n, NameKind.cell) else (n, k₀)) :: (r.map _)) = some k := h
    cases hx : x == n with
    | true =>
      simp only [List.lookup_cons, hx]
      by_cases hc : (k₀ == NameKind.free && sc.kind == .function && sc.names.lookup n == some .cell) = true
      · rw [if_pos hc] at h'
        simp only [List.lookup_cons, hx] at h'
        cases h'
        simp only [Bool.and_eq_true, beq_iff_eq] at hc
        exact ⟨k₀, rfl, .inr ⟨hc.1.1, rfl⟩⟩
      · rw [if_neg hc] at h'
        simp only [List.lookup_cons, hx] at h'
        cases h'
        exact ⟨_, rfl, .inl rfl⟩
    | false =>
      simp only [List.lookup_cons, hx]
      by_cases hc : (k₀ == NameKind.free && sc.kind == .function && sc.names.lookup n == some .cell) = true
      · rw [if_pos hc] at h'
        simp only [List.lookup_cons, hx] at h'
        exact ih h'
      · rw [if_neg hc] at h'
        simp only [List.lookup_cons, hx] at h'
        exact ih h'
structure BlkOk (N : List Str) (sc scope : Scope) (own : List (Str × Nat)) : Prop where
  kind : scope.kind = .function
  uniq : ∀ y ∈ scope.names, scope.names.lookup y.1 = some y.2
  ix : ∀ p ∈ own, N[p.2]? = some p.1
  free : ∀ y ∈ scope.names, y.2 = .free → sc.names.lookup y.1 = some .cell ∨ sc.names.lookup y.1 = some .free
  own : ∀ y ∈ scope.names, y.2 = .local ∨ y.2 = .cell → y.1 ∈ own.map (·.1) ∨ y.1 ∉ N
def wipe (σ : St) : List Nat → St
  | [] => σ
  | v :: vs => (wipe σ vs).set v none
theorem wipe_length (σ : St) : ∀ vs : List Nat, (wipe σ vs).length = σ.length
  | [] => rfl
  | v :: vs => by unfold wipe; rw [List.length_set, wipe_length σ vs]
theorem wipe_some {σ : St} {i : Nat} {x : V} : ∀ {vs : List Nat}, (wipe σ vs)[i]? = some (some x) → σ[i]? = some (some x) ∧ i ∉ vs
  | [], h => ⟨h, by simp⟩
  | v :: vs, h => by
    unfold wipe at h
    by_cases hi : v = i
    · subst hi
      by_cases hv : v < (wipe σ vs).length
      · rw [List.getElem?_set_self hv] at h; cases h
      · rw [List.getElem?_eq_none (by simpa using hv)] at h; cases h
    · rw [List.getElem?_set_ne hi] at h
      obtain ⟨h1, h2⟩ := wipe_some h
      exact ⟨h1, by simp only [List.mem_cons, not_or]; exact ⟨fun e => hi e.symm, h2⟩⟩
abbrev Cx.blk (X : Cx) (s : Shared) (H : Hp) (scope : Scope) (cenv : Env) (fp : List Addr) : Cx := { X with s_0 := s, H_0 := H, env := cenv, outer := X.stack, ex := fp, fn := fun x => scope.names.lookup x == some .cell, pn := [], xe := fun _ _ => False }
section
variable {X : Cx} {pins : List (Addr × Obj)} {σ : St} {H : Hp} {s : Shared}
theorem block_start {scope : Scope} {own : List (Str × Nat)} {fp : List Addr} (I : Inv X pins σ H s) (ok : BlkOk X.N X.env.scope scope own) (hN : X.N.Nodup) (hfp : ∀ b ∈ fp, FpOk X pins H b ∧ b < s.heap.objs.size) :
    Inv (X.blk s H scope (compEnvC scope (cellsFrom (s.heap.objs.size + 1) scope.names (cloFrom X.env.cells scope.names [])) s.heap.objs.size X.env) fp) [] (wipe σ (own.map (·.2))) H { s with heap := pushCells (s.heap.push { cls := .type "dict", data := .dict #[] }) scope.names } := by
  have hfree : ∀ y ∈ scope.names, y.2 = .free → ∃ c, X.env.cells.lookup y.1 = some c := fun y hy e => by
    rcases ok.free y hy e with k | k
    · exact I.ok.has _ (.inl k)
    · exact I.ok.has _ (.inr k)
  generalize hcenv : compEnvC scope (cellsFrom (s.heap.objs.size + 1) scope.names (cloFrom X.env.cells scope.names [])) s.heap.objs.size X.env = cenv
  have kp : ∀ b o, s.heap.get? b = some o → (pushCells (s.heap.push { cls := .type "dict", data := .dict #[] }) scope.names).get? b = some o := fun b o e => pushCells_keeps _ _ _ _ (Heap.get?_push_of_some _ e)
  have hL : cenv.locals = s.heap.objs.size := by rw [← hcenv]; rfl
  have hcl : cenv.cells = cellsFrom (s.heap.objs.size + 1) scope.names (cloFrom X.env.cells scope.names []) := by rw [← hcenv]; rfl
  have hsc : cenv.scope = relS scope X.env.scope := by rw [← hcenv]; rfl
  rw [← Heap.size_push s.heap { cls := .type "dict", data := .dict #[] }] at hcl
  have cm : ∀ {y c}, (y, c) ∈ cloFrom X.env.cells scope.names [] → X.env.cells.lookup y = some c ∧ c < s.heap.objs.size := fun {y c} hm => by
    rcases cloFrom_mem hm with hm | ⟨h1, rfl⟩
    · cases hm
    · obtain ⟨c, hc⟩ := hfree _ h1 rfl
      rw [hc]
      obtain ⟨w, z⟩ := I.cell _ _ hc
      exact ⟨rfl, z.lt⟩
  have mem : ∀ {y c}, cenv.cells.lookup y = some c → (X.env.cells.lookup y = some c ∧ c < s.heap.objs.size) ∨ (s.heap.objs.size + 1 ≤ c ∧ CellAt (pushCells (s.heap.push { cls := .type "dict", data := .dict #[] }) scope.names) c none) := fun {y c} e => by
    rw [hcl] at e
    rcases cells_mem (PySem.mem_of_lookup e) with hm | ⟨_, h2, h3⟩
    · exact .inl (cm hm)
    · rw [Heap.size_push] at h2; exact .inr ⟨h2, h3⟩
  have look : ∀ {y}, scope.names.lookup y = some .free → ∃ c, cenv.cells.lookup y = some c ∧ X.env.cells.lookup y = some c := fun {y} hl => by
    have hy : (y, NameKind.free) ∈ scope.names := PySem.mem_of_lookup hl
    obtain ⟨c', e'⟩ := mem_lookup (cells_acc (names := scope.names) (n := (s.heap.push { cls := .type "dict", data := .dict #[] }).objs.size) (cloFrom_has (cells := X.env.cells) (acc := []) hy))
    rw [← hcl] at e'
    refine ⟨c', e', ?_⟩
    rw [hcl] at e'
    rcases cells_mem (PySem.mem_of_lookup e') with hm | ⟨h1, _, _⟩
    · exact (cm hm).1
    · have := ok.uniq _ h1
      rw [hl] at this; cases this
  have okB : (X.blk s H scope cenv fp).Ok := by
    refine ⟨I.ok.mod, by show cenv.scope.kind = _; rw [hsc]; exact ok.kind, by show cenv.globals = _; rw [← hcenv]; exact I.ok.glob, by show cenv.builtins = _; rw [← hcenv]; exact I.ok.blt, by show s.heap.objs.size ≤ cenv.locals; rw [hL]; exact Nat.le_refl _,
      fun y z c e1 e2 => ?_, fun y hy => ?_, fun y c z e => ?_, I.ok.hd, I.ok.frames, .inl rfl, fun b hb => ⟨?_, fun y c e z => ?_⟩, I.bs, Nat.le_trans I.ok.bsz I.sz, fun b o e hb => ?_, fun b hb z => ?_, I.stack, I.stkFree⟩
    · have e1 : cenv.cells.lookup y = some c := e1
      have e2 : cenv.cells.lookup z = some c := e2
      rw [hcl] at e1 e2
      refine cells_inj (fun p hp => ?_) (fun y z c a b => I.ok.inj y z c (cm a).1 (cm b).1) (PySem.mem_of_lookup e1) (PySem.mem_of_lookup e2)
      rw [Heap.size_push]
      exact Nat.lt_succ_of_lt (cm (y := p.1) (c := p.2) hp).2
    · show ∃ c, cenv.cells.lookup y = some c
      have key : ∀ k, cenv.kindOf y = some k → (k = .cell ∨ k = .free) → ∃ c, cenv.cells.lookup y = some c := fun k hk hk' => by
        unfold Env.kindOf at hk
        rw [hsc] at hk
        obtain ⟨k', e, r⟩ := lookup_relS hk
        have : k' = .cell ∨ k' = .free := by
          rcases r with rfl | ⟨rfl, _⟩
          · exact hk'
          · exact .inr rfl
        rcases this with rfl | rfl
        · obtain ⟨c, hm⟩ := cells_has (n := (s.heap.push { cls := .type "dict", data := .dict #[] }).objs.size) (acc := cloFrom X.env.cells scope.names []) (PySem.mem_of_lookup e)
          obtain ⟨c', e'⟩ := mem_lookup hm
          exact ⟨c', by rw [hcl]; exact e'⟩
        · obtain ⟨c, h1, _⟩ := look e
          exact ⟨c, h1⟩
      rcases hy with hy | hy
      · exact key _ hy (.inl rfl)
      · exact key _ hy (.inr rfl)
    · have z : (scope.names.lookup y == some NameKind.cell) = true := z
      have z : scope.names.lookup y = some .cell := by simpa using z
      have e : cenv.cells.lookup y = some c := e
      rw [hcl] at e
      rcases cells_mem (PySem.mem_of_lookup e) with hm | ⟨_, h2, _⟩
      · rcases cloFrom_mem hm with hm | ⟨h1, _⟩
        · cases hm
        · have q := ok.uniq _ h1
          rw [z] at q; cases q
      · rw [Heap.size_push] at h2
        exact Nat.le_of_succ_le h2
    · show b ≠ cenv.locals
      rw [hL]; exact Nat.ne_of_lt (hfp b hb).2
    · have e : cenv.cells.lookup y = some c := e
      rcases mem e with ⟨h1, _⟩ | ⟨h1, _⟩
      · exact (hfp b hb).1.2.2.2.2.1 y c h1 z
      · have h2 : s.heap.objs.size + 1 ≤ b := by rw [← z]; exact h1
        exact absurd (Nat.lt_of_lt_of_le (hfp b hb).2 (Nat.le_of_succ_le h2)) (Nat.lt_irrefl _)
    · rcases (hfp b hb).1.2.2.2.1 with z | z
      · exact I.ok.noex b o e z
      · exact absurd (Nat.lt_of_lt_of_le (Heap.lt_size e) (Nat.le_trans I.ok.bsz z)) (Nat.lt_irrefl _)
    · rcases List.mem_cons.mp (I.stkSub b z) with z | z
      · exact (hfp b hb).1.2.1 z
      · exact (hfp b hb).1.2.2.1 z
  refine ⟨okB, rfl, I.bare, Un.kept kp, ⟨fun _ => none, ?_, fun i y av e1 e2 e3 => ?_⟩, fun y c e => ?_, ?_, fun y c e => ?_, fun p hp => ?_, I.hok.kept kp, by rw [wipe_length]; exact I.len⟩
  · show Heap.Ns _ cenv.locals _
    rw [hL]
    exact Heap.Ns.keeps (Heap.Ns.new ..) fun b o e => pushCells_keeps _ _ _ _ e
  · obtain ⟨e2, hne⟩ := wipe_some e2
    have hfr : scope.names.lookup y = some .free ∧ (cenv.kindOf y = some .cell ∨ cenv.kindOf y = some .free) := by
      have key : ∀ k, cenv.scope.names.lookup y = some k → k = .local ∨ k = .cell ∨ k = .free → scope.names.lookup y = some .free ∧ (cenv.kindOf y = some .cell ∨ cenv.kindOf y = some .free) := fun k hk hk' => by
        have hk0 := hk
        rw [hsc] at hk
        obtain ⟨k', e, r⟩ := lookup_relS hk
        have no : ¬ (k' = .local ∨ k' = .cell) := fun hh => by
          rcases ok.own _ (PySem.mem_of_lookup e) hh with e' | e'
          · obtain ⟨p, hp, hpy⟩ := List.mem_map.mp e'
            have e3 := ok.ix p hp
            have : p.1 = y := hpy
            rw [this] at e3
            exact hne (List.mem_map.mpr ⟨p, hp, nodup_ix hN e3 e1⟩)
          · exact e' (List.mem_of_getElem? e1)
        rcases r with rfl | ⟨rfl, rfl⟩
        · rcases hk' with rfl | rfl | rfl
          · exact absurd (.inl rfl) no
          · exact absurd (.inr rfl) no
          · exact ⟨e, .inr hk0⟩
        · exact ⟨e, .inl hk0⟩
      have e3 : Vis cenv.scope y := e3
      rcases e3 with e3 | e3 | e3
      · exact key _ e3 (.inl rfl)
      · exact key _ e3 (.inr (.inl rfl))
      · exact key _ e3 (.inr (.inr rfl))
    obtain ⟨m, hn, hl⟩ := I.loc
    have hvis : Vis X.env.scope y := (ok.free _ (PySem.mem_of_lookup hfr.1) rfl).elim (fun k => .inr (.inl k)) (fun k => .inr (.inr k))
    obtain ⟨w, r, q⟩ := hl i y av e1 e2 hvis
    refine ⟨w, r, .inr ⟨hfr.2, ?_⟩⟩
    obtain ⟨c, h1, h2⟩ := look hfr.1
    rcases q with ⟨k, _⟩ | ⟨_, c', e', z⟩
    · have k : X.env.scope.names.lookup y = some .local := k
      rcases ok.free _ (PySem.mem_of_lookup hfr.1) rfl with k' | k' <;> rw [show X.env.scope.names.lookup y = _ from k'] at k <;> cases k
    · rw [h2] at e'; cases e'
      exact ⟨c, h1, z.keeps kp⟩
  · have e : cenv.cells.lookup y = some c := e
    rcases mem e with ⟨h1, _⟩ | ⟨_, z⟩
    · obtain ⟨w, z⟩ := I.cell y c h1
      exact ⟨w, z.keeps kp⟩
    · exact ⟨_, z⟩
  · show H cenv.locals = none
    rw [hL]; exact I.hok.fresh (Nat.le_refl _)
  · have e : cenv.cells.lookup y = some c := e
    rcases mem e with ⟨h1, _⟩ | ⟨h1, _⟩
    · exact I.freeC y c h1
    · exact I.hok.fresh (Nat.le_of_succ_le h1)
  · exact absurd (show p ∈ ([] : List (Addr × Obj)) ++ [] from hp) (by simp)
theorem app_ok {E : Value → Shared → Prop} {D : Addr} {xs : List V} {y : V} {v : Value} {Q : Value → Shared → Prop} (I : Inv X pins σ H s) (hD : H D = some (.lst xs)) (hz : xs.length < sizeLine) (r : RelV y v)
    (h : ∀ s', Inv X pins σ (upd H D (.lst (xs ++ [y]))) s' → Q .none s') : wpAny (model X.prog X.w) X.A (call (.builtin "list.append") [.ref D, v]) Q E s := by
  obtain ⟨hz', its, n, ri, e⟩ := I.hok D _ hD
  have hl := ri.length
  refine append_at (hsz := by rw [List.size_toArray]; omega) e fun h' sb ho' => ?_
  refine h { s with heap := h' } (I.write (t' := s.toks) (by rw [hD]; trivial) (.inl rfl) (fun b u hb q => (sb.2 b hb).trans q) ⟨_, ho'⟩ ⟨by rw [List.length_append]; exact hz, its ++ [v], n + 1, ri.append (.cons r .nil), ?_⟩)
  rw [ho']
  simp
def PTs (X : Cx) (ifs : List Expr) (t : TT) : Prop :=
  ∀ (pins : List (Addr × Obj)) (s : Shared) (σ : St) (H : Hp) (Q : Bool → Hp → Prop), Inv X pins σ H s → t σ H Q →
    wpAny (model X.prog X.w) X.A (forIn ifs true fun c r => if r = true then do let ok ← isTrue c X.env (eval c X.env); pure (ForInStep.yield ok) else pure (ForInStep.yield r)) (TP X pins σ Q) X.xe s
def tYes : TT := fun _ H Q => Q true H
theorem pts_nil : PTs X [] tYes := fun _ _ _ H _ I h => wpAny_tests_nil ⟨H, I, h⟩
theorem pts_one {c : Expr} {t : TT} (h : PT X c t) : PTs X [c] t := fun pins s σ H Q I hw => wpAny_tests_one (h pins s σ H Q I hw)
end
theorem thnF {α : Type} {t : Sem α} {Q Q' : α → Shared → Prop} {M : Model} {A : Around} {E : Value → Shared → Prop} {s : Shared} (h : wpAny M A t Q (fun _ _ => False) s) (hQ : ∀ a s, Q a s → Q' a s) : wpAny M A t Q' E s := wpAny_mono h hQ fun _ _ z => False.elim z
theorem compLoop_any {prog : Program} {w : World} {A : Around} {R : Result → Shared → Prop} {s : Shared} {elt target iter : Expr} {ifs : List Expr} {scope : Scope} {pos : Pos} {it acc : Value} {env : Env} (I : Nat → Shared → Prop)
    (turn : ∀ n s, I n s → wpAny (model prog w) A (pyNext it) (fun r s₁ => match r with
      | none => R (.ok .next) s₁
      | some v => wpAny (model prog w) A (letOwnedTupleGo target it v) (fun _ s₁' => wpAny (model prog w) A (assign target env v) (fun _ s₂ =>
          wpAny (model prog w) A (forIn ifs true fun c r => if r = true then do let ok ← isTrue c env (eval c env); pure (ForInStep.yield ok) else pure (ForInStep.yield r)) (fun ok s₃ =>
            if ok = true then wpAny (model prog w) A (eval elt env) (fun x s₄ =>
              wpAny (model prog w) A (call (.builtin "list.append") [acc, x]) (fun _ s₅ => ∃ m, m < n ∧ I m s₅) (notedBy (model prog w) A env fun e s' => R (.error e) s') s₄) (notedBy (model prog w) A env fun e s' => R (.error e) s') s₃
            else ∃ m, m < n ∧ I m s₃) (notedBy (model prog w) A env fun e s' => R (.error e) s') s₂) (notedBy (model prog w) A env fun e s' => R (.error e) s') s₁') (notedBy (model prog w) A env fun e s' => R (.error e) s') s₁) (notedBy (model prog w) A env fun e s' => R (.error e) s') s)
    (n : Nat) (h : I n s) :
    codeAny (model prog w) A (.compLoop (.ListComp elt [⟨target, iter, ifs, 0⟩] scope pos) 0 it acc env) R s := by
  refine codeAny_loop rfl I (fun n s hI => ?_) n h
  show wpAny _ A ((compTurn (.ListComp elt [⟨target, iter, ifs, 0⟩] scope pos) 0 it acc env).onRaise (fun x => do noteFrame x env; theTreesLotGoes x)) _ _ s
  refine wpAny_noted ?_
  rw [compTurn_list]
  refine wpAny_bind (wpAny_standAt (wpAny_bind (wpAny_mono (turn n s hI) (fun r s₁ h₁ => ?_) fun _ _ h' => h')))
  cases r with
  | none => exact wpAny_pure h₁
  | some v =>
    refine wpAny_bind (wpAny_mono h₁ (fun _ s₁' h₁' => ?_) fun _ _ h' => h')
    refine wpAny_bind (wpAny_mono h₁' (fun _ s₂ h₂ => wpAny_bind (wpAny_mono h₂ (fun ok s₃ h₃ => ?_) fun _ _ h' => h')) fun _ _ h' => h')
    cases ok with
    | false => exact wpAny_pure ⟨rfl, h₃⟩
    | true =>
      exact wpAny_bind (wpAny_bind (wpAny_mono h₃ (fun x s₄ h₄ => wpAny_bind (wpAny_mono h₄ (fun _ s₅ h₅ => wpAny_pure (wpAny_pure ⟨rfl, h₅⟩)) fun _ _ h' => h')) fun _ _ h' => h'))
section
variable {X : Cx}
def tLc (wi : TI) (g : TG) (tt : TT) (te : TE) (vs : List Nat) : TE := fun σ H Q => wi σ H fun J H1 => ∀ D, H1 D = none → ∃ W : Nat → Nat → Hp → Prop, (∃ m, W 0 m (upd H1 D (.lst []))) ∧ ∀ i m H, W i m H →
  (J.stop i H ∧ Q (.ref D) H) ∨ (J.go i H ∧ ∃ Nx : Hp → Prop, (∀ H', Nx H' → ∃ m', m' < m ∧ W (i + 1) m' H') ∧ ∀ x H', J.yld i H x H' → g x (wipe σ vs) H' fun σ2 H2 => wipe σ2 vs = wipe σ vs ∧ tt σ2 H2 fun b H3 =>
    if b = true then te σ2 H3 fun y H4 => ∃ acc, H4 D = some (.lst acc) ∧ acc.length < sizeLine ∧ Nx (upd H4 D (.lst (acc ++ [y]))) else Nx H3)
theorem lc_core {pins : List (Addr × Obj)} {s : Shared} {σ : St} {H : Hp} {Q : VK} {elt tg iter : Expr} {ifs : List Expr} {scope : Scope} {own : List (Str × Nat)} {pos pos' : Pos} {wi : TI} {g : TG} {tt : TT} {te : TE} {use : Option (Value → Sem Unit)} {Qf : Value → Shared → Prop}
    (hc : X.calm = true) (hN : X.N.Nodup) (I : Inv X pins σ H s) (hi : PI X tg iter wi) (ok : BlkOk X.N X.env.scope scope own)
    (hg : ∀ (s : Shared) (H : Hp) (C : Addr) (cl : List (Str × Addr)) (fp : List Addr), PG (X.blk s H scope (compEnvC scope cl C X.env) fp) tg g) (ht : ∀ (s : Shared) (H : Hp) (C : Addr) (cl : List (Str × Addr)) (fp : List Addr), PTs (X.blk s H scope (compEnvC scope cl C X.env) fp) ifs tt)
    (he : ∀ (s : Shared) (H : Hp) (C : Addr) (cl : List (Str × Addr)) (fp : List Addr), PE (X.blk s H scope (compEnvC scope cl C X.env) fp) elt te) (hs : ∀ x, foldedSetIterable iter X.env x = pure x)
    (h : tLc wi g tt te (own.map (·.2)) σ H Q)
    (hRR : ∀ D C s' m H', Inv X pins σ H' s' → Q (.ref D) H' → s'.heap.Ns C m → FpOk X pins H' C → compPost (model X.prog X.w) X.A X.xe use Qf (.ref D) C (.ok .next) s') :
    wpAny (model X.prog X.w) X.A (comprehension (.ListComp elt [⟨tg, iter, ifs, 0⟩] scope pos) scope X.env pos' (newList []) false (eval iter X.env) use) Qf X.xe s := by
  have hfree : ∀ y ∈ scope.names, y.2 = .free → ∃ c, X.env.cells.lookup y.1 = some c := fun y hy e => by
    rcases ok.free y hy e with k | k
    · exact I.ok.has _ (.inl k)
    · exact I.ok.has _ (.inr k)
  refine wpAny_comprehension_free (use := use) rfl hs (closure_ok hfree) ok.kind (fun y hy e => by rw [ok.uniq y hy, e])
    (thn (hi pins s σ H _ I h) fun xv s1 hx => thn hx fun itv s2 h2 => ?_)
  obtain ⟨it, fp, tn, J, H2, e, I2, T, st2, f2, q⟩ := h2
  subst e
  refine wpAny_newObj_type (newEnv_comp ?_) (by show 0 ≤ sizeLine; decide)
  generalize hD : s2.heap.objs.size = D
  have hDn : H2 D = none := I2.hok.fresh (Nat.le_of_eq hD)
  obtain ⟨W, ⟨m0, w0⟩, turn⟩ := q D hDn
  -- the new list
  generalize hs3 : ({ s2 with heap := s2.heap.push { cls := .type "list", data := .seq ([] : List Value).toArray } } : Shared) = s3
  have I3 : Inv X pins σ (upd H2 D (.lst [])) s3 := by
    rw [← hs3]
    refine I2.laid (t' := s2.toks) (fun b o e => Heap.get?_push_of_some _ e) (Nat.le_of_eq hD) ⟨Nat.zero_le _, [], 0, .nil, ?_⟩
    rw [← hD]
    exact Heap.get?_push_size _ rfl
  have h3 : s3.heap = s2.heap.push { cls := .type "list", data := .seq ([] : List Value).toArray } := by rw [← hs3]
  have sz : ∀ b ∈ fp, b < s2.heap.objs.size := fun b hb => by
    obtain ⟨o, e, _⟩ := T.obj _ _ st2 b hb
    exact Heap.lt_size e
  have f3 : ∀ b ∈ fp, FpOk X pins (upd H2 D (.lst [])) b ∧ b < s3.heap.objs.size := fun b hb => by
    have hlt := sz b hb
    refine ⟨⟨?_, (f2 b hb).2⟩, by rw [h3, Heap.size_push]; exact Nat.lt_succ_of_lt hlt⟩
    rw [upd_ne (by rw [← hD]; exact Nat.ne_of_lt hlt)]
    exact (f2 b hb).1
  have st3 : tn 0 s3.heap := T.keep _ _ _ st2 fun b _ o e => by rw [h3]; exact Heap.get?_push_of_some _ e
  have I4 := block_start I3 ok hN f3
  have pg := hg s3 (upd H2 D (.lst [])) s3.heap.objs.size (cellsFrom (s3.heap.objs.size + 1) scope.names (cloFrom X.env.cells scope.names [])) fp
  have pt := ht s3 (upd H2 D (.lst [])) s3.heap.objs.size (cellsFrom (s3.heap.objs.size + 1) scope.names (cloFrom X.env.cells scope.names [])) fp
  have pe := he s3 (upd H2 D (.lst [])) s3.heap.objs.size (cellsFrom (s3.heap.objs.size + 1) scope.names (cloFrom X.env.cells scope.names [])) fp
  show codeAny _ _ (.compStart (.ListComp elt [⟨tg, iter, ifs, 0⟩] scope pos) 0 (.ref it) (.ref D) (compEnvC scope (cellsFrom (s3.heap.objs.size + 1) scope.names (cloFrom X.env.cells scope.names [])) s3.heap.objs.size X.env)) (compPost (model X.prog X.w) X.A X.xe use Qf (.ref D) s3.heap.objs.size) { s3 with heap := pushCells (s3.heap.push { cls := .type "dict", data := .dict #[] }) scope.names }
  have nfp : ∀ b ∈ fp, (upd H2 D (.lst [])) b = none := fun b hb => (f3 b hb).1.1
  generalize hce : compEnvC scope (cellsFrom (s3.heap.objs.size + 1) scope.names (cloFrom X.env.cells scope.names [])) s3.heap.objs.size X.env = ce at I4 pg pt pe ⊢
  have cL : ce.locals = s3.heap.objs.size := by subst hce; rfl
  generalize hH3 : upd H2 D (.lst []) = H3 at I3 I4 pg pt pe w0 nfp f3
  generalize hs4 : ({ s3 with heap := pushCells (s3.heap.push { cls := .type "dict", data := .dict #[] }) scope.names } : Shared) = s4 at I4 ⊢
  have st4 : tn 0 s4.heap := T.keep _ _ _ st3 fun b _ o e => by rw [← hs4]; exact pushCells_keeps _ _ _ _ (Heap.get?_push_of_some _ e)
  have stat : ∀ {σ' : St} {H' : Hp} {s' : Shared}, Inv (X.blk s3 H3 scope ce fp) [] σ' H' s' → (∀ b ∈ fp, H' b = none) → ∀ b ∈ fp, FpOk (X.blk s3 H3 scope ce fp) [] H' b := fun {σ' H' s'} I' hn b hb =>
    ⟨hn b hb, (I'.ok.exf b hb).1, I'.ok.exfs b hb, .inl hb, fun x c e => (I'.ok.exf b hb).2 x c e, fun p hp => absurd (show p ∈ ([] : List (Addr × Obj)) ++ [] from hp) (by simp)⟩
  have loop : codeAny (model X.prog X.w) X.A (.compLoop (.ListComp elt [⟨tg, iter, ifs, 0⟩] scope pos) 0 (.ref it) (.ref D) ce) (compPost (model X.prog X.w) X.A X.xe use Qf (.ref D) s3.heap.objs.size) s4 := by
    refine compLoop_any (fun n s' => ∃ i H', Inv (X.blk s3 H3 scope ce fp) [] (wipe σ (own.map (·.2))) H' s' ∧ tn i s'.heap ∧ (∀ b ∈ fp, H' b = none) ∧ W i n H') ?_ m0 ⟨0, H3, I4, st4, nfp, w0⟩
    rintro n s5 ⟨i, H5, I5, st5, n5, w5⟩
    rcases turn i n H5 w5 with ⟨stop, qq⟩ | ⟨go, Nx, hNx, step⟩
    · have td := T.done (X.blk s3 H3 scope ce fp) rfl rfl rfl hc i [] s5 _ H5 (fun _ _ => False) I5 (stat I5 n5) st5 stop
      refine thnF td fun r s6 ⟨hr, I6⟩ => ?_
      subst hr
      -- back in the def's context
      have I7 : Inv X pins σ H5 s6 := I3.call' (ch := fp) I6.os I6.base I6.hok I6.bare fun b hb => ⟨(f3 b hb).1.2.2.2.1, (f3 b hb).1.2.1, (f3 b hb).1.2.2.2.2.1, (f3 b hb).1.2.2.2.2.2⟩
      have nC : H5 s3.heap.objs.size = none := by
        have z : H5 ce.locals = none := I6.free
        rw [cL] at z
        exact z
      obtain ⟨m, hn, _⟩ := I6.loc
      have hn : s6.heap.Ns ce.locals m := hn
      rw [cL] at hn
      exact hRR D s3.heap.objs.size s6 m H5 I7 qq hn (I3.fpOk (Nat.le_refl _) nC)
    · have ti := T.item (X.blk s3 H3 scope ce fp) rfl rfl rfl hc i [] s5 _ H5 (fun _ _ => False) I5 (stat I5 n5) st5 go
      refine thnF ti fun r s6 ⟨u, hr, h6⟩ => ?_
      subst hr
      refine thnF h6 fun _ s7 ⟨x, H7, I7, r7, y7, st7, n7⟩ => ?_
      have I7' := I7.pinned (stat I7 n7) (T.obj _ _ st7)
      refine thnF (pg _ s7 _ H7 x u _ I7' r7 (step x H7 y7)) fun _ s8 ⟨σ8, H8, I8, hw8, q8⟩ => ?_
      refine thnF (pt _ s8 σ8 H8 _ I8 q8) fun b s9 ⟨H9, I9, q9⟩ => ?_
      -- the turn's end
      have fin : ∀ {s' : Shared} {H' : Hp}, Inv (X.blk s3 H3 scope ce fp) ([] ++ pinsAt fp s7.heap) σ8 H' s' → Nx H' → ∃ m, m < n ∧ ∃ i H', Inv (X.blk s3 H3 scope ce fp) [] (wipe σ (own.map (·.2))) H' s' ∧ tn i s'.heap ∧ (∀ b ∈ fp, H' b = none) ∧ W i m H' := fun {s' H'} I' nx => by
        obtain ⟨m', hm, w'⟩ := hNx H' nx
        have pin' : ∀ b ∈ fp, ∀ o, s7.heap.get? b = some o → s'.heap.get? b = some o ∧ H' b = none := fun b hb o e =>
          let z := I'.pin (b, o) (List.mem_append_right _ (List.mem_append_right _ (mem_pinsAt hb e)))
          ⟨z.1, z.2.1⟩
        have hl : (wipe σ (own.map (·.2))).length = σ8.length := by rw [← hw8, wipe_length]
        refine ⟨m', hm, i + 1, H', (I'.unpinned (pins := [])).weak hl (fun j v e => ?_), T.keep _ _ _ st7 fun b hb o e => (pin' b hb o e).1, fun b hb => ?_, w'⟩
        · rw [← hw8] at e
          exact (wipe_some e).1
        · obtain ⟨o, e, _⟩ := T.obj _ _ st7 b hb
          exact (pin' b hb o e).2
      cases b with
      | false =>
        simp only [Bool.false_eq_true, if_false] at q9 ⊢
        exact fin I9 q9
      | true =>
        simp only [if_true] at q9 ⊢
        refine thnF (pe _ s9 σ8 H9 _ I9 q9) fun z s10 ⟨yv, H10, I10, r10, acc, hD10, hz10, nx⟩ => ?_
        exact app_ok (X := X.blk s3 H3 scope ce fp) I10 hD10 hz10 r10 fun s11 I11 => fin I11 nx
  exact codeAny_compStart_list loop (T.self X.A 0 _ _ _ st4 loop)
theorem pe_lc {elt tg iter : Expr} {ifs : List Expr} {scope : Scope} {own : List (Str × Nat)} {pos : Pos} {wi : TI} {g : TG} {tt : TT} {te : TE} (hc : X.calm = true) (hN : X.N.Nodup) (hi : PI X tg iter wi) (ok : BlkOk X.N X.env.scope scope own)
    (hg : ∀ (s : Shared) (H : Hp) (C : Addr) (cl : List (Str × Addr)) (fp : List Addr), PG (X.blk s H scope (compEnvC scope cl C X.env) fp) tg g) (ht : ∀ (s : Shared) (H : Hp) (C : Addr) (cl : List (Str × Addr)) (fp : List Addr), PTs (X.blk s H scope (compEnvC scope cl C X.env) fp) ifs tt)
    (he : ∀ (s : Shared) (H : Hp) (C : Addr) (cl : List (Str × Addr)) (fp : List Addr), PE (X.blk s H scope (compEnvC scope cl C X.env) fp) elt te) (hs : ∀ x, foldedSetIterable iter X.env x = pure x := by intro _; rfl) :
    PE X (.ListComp elt [⟨tg, iter, ifs, 0⟩] scope pos) (tLc wi g tt te (own.map (·.2))) := by
  intro pins s σ H Q I h
  rw [eval_ListComp]
  refine lc_core hc hN I hi ok hg ht he hs h fun D C s' m H' I' q hn f => ⟨m, hn, fun h'' sb => ?_⟩
  obtain ⟨f0, f1, f2, f3, f4, f5⟩ := f
  exact ⟨.ref D, H', I'.turned (t' := s'.toks) (fun b o hb e => (sb.2 b hb).trans e) f0 f1 f3 f4 f5, rfl, q⟩
theorem ps_setLc {i : Nat} {y : Str} {py : Pos} {elt tg iter : Expr} {ifs : List Expr} {scope : Scope} {own : List (Str × Nat)} {pos spos : Pos} {wi : TI} {g : TG} {tt : TT} {te : TE} (hc : X.calm = true) (hN : X.N.Nodup) (hy : X.N[i]? = some y) (hyl : X.env.scope.names.lookup y = some .local)
    (hsw : swapsWith (.ListComp elt [⟨tg, iter, ifs, 0⟩] scope pos) (some (.Name y py)) spos.line X.env = pure true) (hi : PI X tg iter wi) (ok : BlkOk X.N X.env.scope scope own)
    (hg : ∀ (s : Shared) (H : Hp) (C : Addr) (cl : List (Str × Addr)) (fp : List Addr), PG (X.blk s H scope (compEnvC scope cl C X.env) fp) tg g) (ht : ∀ (s : Shared) (H : Hp) (C : Addr) (cl : List (Str × Addr)) (fp : List Addr), PTs (X.blk s H scope (compEnvC scope cl C X.env) fp) ifs tt)
    (he : ∀ (s : Shared) (H : Hp) (C : Addr) (cl : List (Str × Addr)) (fp : List Addr), PE (X.blk s H scope (compEnvC scope cl C X.env) fp) elt te) (hs : ∀ x, foldedSetIterable iter X.env x = pure x := by intro _; rfl) :
    PS X (.Assign [.Name y py] (.ListComp elt [⟨tg, iter, ifs, 0⟩] scope pos) spos) (tAsg (tLc wi g tt te (own.map (·.2))) (gName i)) := by
  intro pins s σ H D I h
  rw [exec_Assign_Name_used _ _ _ _ hsw]
  refine wpAny_bind (wpAny_standAt (wpAny_bind ?_))
  show wpAny _ X.A (do let _ ← comprehension (.ListComp elt [⟨tg, iter, ifs, 0⟩] scope pos) scope X.env (firstIterPos [⟨tg, iter, ifs, 0⟩] pos) (newList []) false (eval iter X.env) (some (assign (.Name y py) X.env))) _ _ s
  have h : tLc wi g tt te (own.map (·.2)) σ H (fun x H1 => gName i x σ H1 D.nx) := h
  refine wpAny_bind (thn (lc_core (Qf := fun _ s' => SP X pins D .next s') hc hN I hi ok hg ht he hs h fun L C s' m H' I' q hn f => ?_) fun _ s' hq => wpAny_pure (wpAny_pure hq))
  show wpAny _ _ (assign (.Name y py) X.env (.ref L)) _ _ _
  refine wpAny_assign_Name (store_ok2 (v := V.ref L) I' hN hy (.inl hyl) rfl (fun s2 I2 ⟨a, sb, ha⟩ => ?_) (.inr hyl))
  obtain ⟨f0, f1, f2, f3, f4, f5⟩ := f
  have haC : C ≠ a := by
    rcases ha with z | z
    · rw [z]; exact f1
    · exact fun e => f4 y a z e.symm
  refine ⟨m, hn.sameBut sb haC, fun h3 sb3 => ?_⟩
  exact ⟨_, H', I2.turned (t' := s2.toks) (fun b o hb e => (sb3.2 b hb).trans e) f0 f1 f3 f4 f5, q⟩
end
theorem lc_list {K : PySem.W.Frag} {a : Addr} {xs : List V} {g : TG} {tt : TT} {te : TE} {vs : List Nat} {σ : St} {H1 : Hp} {D : Addr} {Qd : Hp → Prop} (Pv : Nat → Hp → Prop) (h0 : Pv 0 (upd H1 D (.lst []))) (hl : ∀ i H, i ≤ xs.length → Pv i H → SqL K H a xs)
    (hs : ∀ i x H, xs[i]? = some x → Pv i H → g x (wipe σ vs) H fun σ2 H2 => wipe σ2 vs = wipe σ vs ∧ tt σ2 H2 fun b H3 =>
      if b = true then te σ2 H3 fun y H4 => ∃ acc, H4 D = some (.lst acc) ∧ acc.length < sizeLine ∧ Pv (i + 1) (upd H4 D (.lst (acc ++ [y]))) else Pv (i + 1) H3) (hd : ∀ H, Pv xs.length H → Qd H) :
    ∃ W : Nat → Nat → Hp → Prop, (∃ m, W 0 m (upd H1 D (.lst []))) ∧ ∀ i m H, W i m H →
      ((Itl K a).stop i H ∧ Qd H) ∨ ((Itl K a).go i H ∧ ∃ Nx : Hp → Prop, (∀ H', Nx H' → ∃ m', m' < m ∧ W (i + 1) m' H') ∧ ∀ x H', (Itl K a).yld i H x H' → g x (wipe σ vs) H' fun σ2 H2 => wipe σ2 vs = wipe σ vs ∧ tt σ2 H2 fun b H3 =>
        if b = true then te σ2 H3 fun y H4 => ∃ acc, H4 D = some (.lst acc) ∧ acc.length < sizeLine ∧ Nx (upd H4 D (.lst (acc ++ [y]))) else Nx H3) := by
  refine ⟨fun i m H => m = xs.length - i ∧ i ≤ xs.length ∧ Pv i H, ⟨xs.length, by simp, Nat.zero_le _, h0⟩, ?_⟩
  rintro i m H ⟨rfl, hi, p⟩
  have q := hl i H hi p
  by_cases hlt : i < xs.length
  · refine .inr ⟨⟨xs, xs[i], q, by simp [hlt]⟩, Pv (i + 1), fun H' p' => ⟨xs.length - (i + 1), by omega, rfl, hlt, p'⟩, fun x H' y => ?_⟩
    obtain ⟨e, y⟩ := y
    subst e
    exact hs i x _ (y xs q) p
  · have e : i = xs.length := by omega
    subst e
    exact .inl ⟨⟨xs, q, Nat.le_refl _⟩, hd H p⟩
def blkC (N : List Str) (sc scope : Scope) (own : List (Str × Nat)) : Bool :=
  (match scope.kind with | .function => true | _ => false) && (scope.names.all fun y => decide (scope.names.lookup y.1 = some y.2)) && (own.all fun p => decide (N[p.2]? = some p.1)) &&
    (scope.names.all fun y => match y.2 with
      | .free => (match sc.names.lookup y.1 with | some .cell => true | some .free => true | _ => false)
      | .local => decide (y.1 ∈ own.map (·.1)) || decide (y.1 ∉ N)
      | .cell => decide (y.1 ∈ own.map (·.1)) || decide (y.1 ∉ N)
      | _ => true)
theorem blkOk_by {N : List Str} {sc scope : Scope} {own : List (Str × Nat)} (h : blkC N sc scope own = true) : BlkOk N sc scope own := by
  unfold blkC at h
  simp only [Bool.and_eq_true, List.all_eq_true, decide_eq_true_eq] at h
  obtain ⟨⟨⟨h1, h2⟩, h3⟩, h4⟩ := h
  refine ⟨?_, h2, h3, fun y hy e => ?_, fun y hy e => ?_⟩
  · split at h1
    · assumption
    · cases h1
  · have q := h4 y hy
    simp only [e] at q
    split at q <;> first | exact .inl (by assumption) | exact .inr (by assumption) | cases q
  · have q := h4 y hy
    rcases e with e | e <;> (simp only [e, Bool.or_eq_true, decide_eq_true_eq] at q; exact q)
end L2
namespace L2
open PySem PySem.Spec PyProof.Rows
section
variable {prog : Program} {w : World} {A : Around} {R : Result → Shared → Prop} {s : Shared} {elt t0 i0 t1 i1 : Expr} {ifs0 ifs1 : List Expr} {scope : Scope} {pos : Pos} {it acc : Value} {env : Env}
end
section
variable {X : Cx}
end
end L2
namespace L2
open PySem PySem.Spec PyProof.Rows
section
variable {κ : Type} [DecidableEq κ]
end
section
variable {P : Program} {w : World} {H : Hp} {h : Heap} {a : Addr}
end
section
variable {X : Cx} {pins : List (Addr × Obj)} {σ : St} {H : Hp} {s : Shared} {a : Addr} {y v : V} {u r : Value} {o : Option V} {A : Around} {E : Value → Shared → Prop}
end
section
variable {X : Cx} {pins : List (Addr × Obj)} {σ : St} {H : Hp} {s : Shared} {a : Addr} {kvs : List (Key × V)} {k : Key} {u : Value} {A : Around} {E : Value → Shared → Prop}
end
section
variable {X : Cx} {o i e value : Expr} {pos pos' tpos : Pos} {td ty tv : TE}
end
section
variable {X : Cx} {pos : Pos}
end
structure M1 (X : Cx) (o : Expr) (m : Str) (apos : Pos) (e : Expr) (cpos : Pos) : Prop where
  base : attributeBase o m X.env (eval o X.env) = eval o X.env
  few : ((backTo cpos (starEach [e] X.env)).all (fun x => !x.1) && (backToKw cpos (keywordEach [] X.env)).all (fun x => x.1.isSome)
    && decide (([e] : List Expr).length + ([] : List Keyword).length + (if ([] : List Keyword).isEmpty then 0 else 1) < 30)) = true
  line : (apos.endLine == cpos.line) = true
  trees : backTo cpos (starEach [e] X.env) = [(false, eval e X.env)]
structure M2 (X : Cx) (o : Expr) (m : Str) (apos : Pos) (e f : Expr) (cpos : Pos) : Prop where
  base : attributeBase o m X.env (eval o X.env) = eval o X.env
  few : ((backTo cpos (starEach [e, f] X.env)).all (fun x => !x.1) && (backToKw cpos (keywordEach [] X.env)).all (fun x => x.1.isSome)
    && decide (([e, f] : List Expr).length + ([] : List Keyword).length + (if ([] : List Keyword).isEmpty then 0 else 1) < 30)) = true
  line : (apos.endLine == cpos.line) = true
  trees : backTo cpos (starEach [e, f] X.env) = [(false, eval e X.env), (false, eval f X.env)]
section
variable {X : Cx} {pins : List (Addr × Obj)} {σ : St} {H : Hp} {s : Shared} {a : Addr} {y d : V} {u r : Value} {o : Option V} {A : Around} {E : Value → Shared → Prop}
end
section
variable {X : Cx} {o e f : Expr} {apos cpos : Pos} {td ty tx : TE}
end
section
variable {X : Cx} {pins : List (Addr × Obj)} {σ : St} {H : Hp} {s : Shared} {a : Addr} {kvs : List (Key × V)} {A : Around} {E : Value → Shared → Prop}
end
section
variable {X : Cx} {pins : List (Addr × Obj)} {σ : St} {H : Hp} {s : Shared} {a : Addr} {y : V} {u : Value} {A : Around} {E : Value → Shared → Prop}
end
end L2
namespace L2
open PySem PySem.Spec PyProof.Rows
section
variable {prog : Program} {w : World} {A : Around} {E : Value → Shared → Prop}
end
section
variable {X : Cx}
end
end L2
namespace L2
open PySem PySem.Spec PyProof.Rows
theorem boot_reversed5 : bootBuiltins "reversed" = some (.type "reversed") := by decide +kernel
section
variable {X : Cx} {pins : List (Addr × Obj)} {σ : St} {H : Hp} {s : Shared} {h' : Heap}
end
section
variable {X : Cx}
theorem pi_one {tg : Expr} {pins : List (Addr × Obj)} {σ : St} {H : Hp} {s : Shared} {R : It → Hp → Prop} {J : It} {tn : Nat → Heap → Prop} {tk : Nat} (I : Inv X pins σ H s) (o : Obj)
    (T : Turn X.prog X.w X.K tg J [s.heap.objs.size] s.heap.objs.size tn) (st : tn 0 (s.heap.push o)) (q : R J H) : PIE X pins σ tg R (.ref s.heap.objs.size) { s with heap := s.heap.push o, toks := tk } := by
  refine ⟨s.heap.objs.size, [s.heap.objs.size], tn, J, H, rfl, I.kept fun b ob e => Heap.get?_push_of_some _ e, T, st, fun b hb => ?_, q⟩
  have e : b = s.heap.objs.size := by simpa using hb
  subst e
  exact I.fpOk (Nat.le_refl _) (I.hok.fresh (Nat.le_refl _))
end
def Itc (lo c : Int) (n : Nat) : It := ⟨fun i _ => i < n, fun i H x H' => H' = H ∧ x = .int (lo + (i : Nat) * c), fun i _ => n ≤ i⟩
theorem turn_rangeC {P : Program} {w : World} {K : PySem.W.Frag} {tg : Expr} (it : Addr) (lo c : Int) (n : Nat) : Turn P w K tg (Itc lo c n) [it] it (fun i h => IsRangeIter h it (lo + (i : Nat) * c) ((n : Int) - (i : Nat)) c) where
  mem := by simp
  obj := fun i h st b hb => by
    have e : b = it := by simpa using hb
    subst e
    exact ⟨_, st, fun v z => nomatch z⟩
  keep := fun i h h' st k => k it (by simp) _ st
  item := by
    intro X hP hw hK hc i pins s σ H E I hf st hg
    subst hP hw hK
    obtain ⟨f0, f1, f2, f3, f4, f5⟩ := hf it (by simp)
    have W := Walks.range (prog := X.prog) (w := X.w) (I.ok.hd hc) it lo c n
    refine W.item i s _ _ hg st fun v h' tk hv st' kk => ?_
    obtain ⟨t, rfl⟩ := hv
    have I1 : Inv X pins σ H { s with heap := h', toks := tk } := I.turned (fun b o hb e => kk b o (by simpa using hb) e) f0 f1 f3 f4 f5
    exact ⟨_, rfl, go_of (s := { s with heap := h', toks := tk }) (n := "range_iterator") st' rfl rfl (by decide) ⟨.int (lo + (i : Nat) * c), H, I1, ⟨t, rfl⟩, ⟨rfl, rfl⟩, st', fun b hb => (hf b hb).1⟩⟩
  done := by
    intro X hP hw hK hc i pins s σ H E I hf st hg
    subst hP hw hK
    obtain ⟨f0, f1, f2, f3, f4, f5⟩ := hf it (by simp)
    exact wpAny_pyNext_range_end (I.ok.hd hc) st (by have : n ≤ i := hg; omega) fun h' eb => ⟨rfl, I.turned (t' := s.toks) (fun b o hb e => eb b o hb e) f0 f1 f3 f4 f5⟩
  self := fun A i s Q E st h => wpAny_pyIter_rangeiter st h
def RgC (i j c : Int) (n : Nat) : Prop := c ≠ 0 ∧ c.natAbs < 1073741824 ∧ Builtin.Range.small i j c = true ∧ Builtin.Range.rangeSize i j c = n
def iRng3 (ta : TA) : TI := fun σ H R => ta σ H fun vs H1 => ∃ (i j c : Int) (n : Nat), vs = [.int i, .int j, .int c] ∧ RgC i j c n ∧ R (Itc i c n) H1
section
variable {X : Cx} {tg : Expr}
theorem pi_range3 {a b c : Expr} {ta : TA} {p pos : Pos} (hg : Gl X "range") (hm : X.mg "range" = none) (ha : PA X [a, b, c] ta)
    (hs : starEach [a, b, c] X.env = (false, eval a X.env) :: starEach [b, c] X.env := by rfl) (hpl : (backTo pos (starEach [b, c] X.env)).any (·.1) = false := by rfl) :
    PI X tg (.Call (.Name "range" p) [a, b, c] [] pos) (iRng3 ta) := by
  intro pins s σ H R I h
  refine Call_ (ld_blt I hg hm boot_range (PyProof.Rows.callWith_type1 (thn (ha pos pins s σ H _ I h) fun us s1 ⟨vs, H1, I1, r1, q1⟩ => ?_) hs hpl))
  obtain ⟨i, j, k, n, e, ⟨c0, c1, c2, c3⟩, q⟩ := q1
  subst e
  cases r1 with
  | cons r rr =>
    cases rr with
    | cons r' rr =>
      cases rr with
      | cons r'' rr =>
        cases rr
        obtain ⟨t, rfl⟩ := r
        obtain ⟨t', rfl⟩ := r'
        obtain ⟨t'', rfl⟩ := r''
        refine call_range_3 c0 ?_ (.inl (PyProof.noPylong_small c1))
        refine wpAny_pyIter_range (IsRange.new ..) c2 ?_
        have I2 : Inv X pins σ H1 { s1 with heap := s1.heap.push { cls := .type "range", data := .fields #[.int i t, .int j t', .int k t''] } } := I1.kept (t' := s1.toks) fun b o e => Heap.get?_push_of_some _ e
        refine pi_one (tk := s1.toks) I2 _ (turn_rangeC _ i k n) ?_ q
        have e1 : i + ((0 : Nat) : Int) * k = i := by simp
        have e2 : (n : Int) - ((0 : Nat) : Int) = Builtin.Range.rangeSize i j k := by rw [c3]; simp
        show IsRangeIter _ _ (i + ((0 : Nat) : Int) * k) ((n : Int) - ((0 : Nat) : Int)) k
        rw [e1, e2]
        exact Heap.get?_push_size _ rfl
end
theorem for_rangeC {lo c : Int} {n : Nat} {g : TG} {tb : TS} {D : Ends} {σ : St} {H : Hp} (Pv : Nat → St → Hp → Prop) (h0 : Pv 0 σ H)
    (hs : ∀ i σ H, i < n → Pv i σ H → g (.int (lo + (i : Nat) * c)) σ H fun σ2 H2 => tb { D with nx := Pv (i + 1), ct := Pv (i + 1), bk := D.nx } σ2 H2) (hd : ∀ σ H, Pv n σ H → D.nx σ H) :
    ∃ W : Nat → Nat → St → Hp → Prop, (∃ m, W 0 m σ H) ∧ ∀ i m σ H, W i m σ H →
      ((Itc lo c n).stop i H ∧ D.nx σ H) ∨ ((Itc lo c n).go i H ∧ ∃ N : St → Hp → Prop, (∀ σ' H', N σ' H' → ∃ m', m' < m ∧ W (i + 1) m' σ' H') ∧ ∀ x H', (Itc lo c n).yld i H x H' → g x σ H' fun σ2 H2 => tb { D with nx := N, ct := N, bk := D.nx } σ2 H2) := by
  refine ⟨fun i m σ H => m = n - i ∧ i ≤ n ∧ Pv i σ H, ⟨n, by simp, Nat.zero_le _, h0⟩, ?_⟩
  rintro i m σ H ⟨rfl, hi, p⟩
  by_cases hlt : i < n
  · refine .inr ⟨hlt, Pv (i + 1), fun σ' H' p' => ⟨n - (i + 1), by omega, rfl, hlt, p'⟩, fun x H' y => ?_⟩
    obtain ⟨e, y⟩ := y
    subst e y
    exact hs i σ _ hlt p
  · have e : i = n := by omega
    subst e
    exact .inl ⟨Nat.le_refl _, hd σ H p⟩
def Itv (K : PySem.W.Frag) (a : Addr) (n : Nat) : It :=
  ⟨fun i H => i < n ∧ ∃ (xs : List V) (x : V), SqL K H a xs ∧ xs[n - 1 - i]? = some x, fun i H x H' => H' = H ∧ ∀ xs, SqL K H a xs → xs[n - 1 - i]? = some x, fun i _ => n ≤ i⟩
def iRev (K : PySem.W.Frag) (ta : TA) : TI := fun σ H R => ta σ H fun vs H1 => ∃ (a : Addr) (xs : List V), vs = [.ref a] ∧ SqL K H1 a xs ∧ R (Itv K a xs.length) H1
section
variable {X : Cx} {tg : Expr}
end
def Its (x : Str) : It := ⟨fun i _ => i < x.cps.size, fun i H v H' => H' = H ∧ ∃ c, x.cps[i]? = some c ∧ v = .str ⟨#[c]⟩, fun i _ => x.cps.size ≤ i⟩
def iStr (te : TE) : TI := fun σ H R => te σ H fun v H1 => ∃ x, v = .str x ∧ R (Its x) H1
section
variable {prog : Program} {w : World} {A : Around} {E : Value → Shared → Prop} {s : Shared}
end
section
variable {X : Cx} {pins : List (Addr × Obj)} {σ : St} {H : Hp} {s : Shared} {d : Addr} {o : Obj}
end
section
variable {P : Program} {w : World} {K : PySem.W.Frag} {tg : Expr} {d : Addr} {o : Obj} {es : Array DictEntry} {ep : Nat}
end
section
variable {X : Cx} {tg e : Expr} {td : TE} {apos cpos : Pos}
end
end L2
section 
namespace Bits
open PySem PyProof.Rows
end Bits
end 
section 
namespace TL
open PySem PySem.Builtin PySem.Builtin.Str PySem.StrLaws
abbrev tl (x : Str) : List Nat := x.cps.toList
def pre (S l : List Nat) : Bool := l.take S.length == S
def par (S : List Nat) : List Nat → List Nat → Option (List Nat × List Nat)
  | _, [] => none
  | acc, c :: r => if pre S (c :: r) = true then some (acc, (c :: r).drop S.length) else par S (acc ++ [c]) r
end TL
end 
namespace L2
open PySem PySem.Spec PyProof.Rows
section
variable {X : Cx} {pins : List (Addr × Obj)} {σ : St} {H : Hp} {s : Shared} {Q : VK}
end
section
variable {X : Cx}
end
section
variable {X : Cx} {o e : Expr} {to te : TE}
end
end L2
namespace L2
open PySem PySem.Spec PyProof.Rows
section
variable {X : Cx}
end
end L2
namespace Att
open PySem PySem.W PySem.Calls PyProof.Rows
section
variable {prog : Program} {w : World} {A : Around} {E : Value → Shared → Prop} {s : Shared} {K : Frag}
end
end Att
namespace L2
open PySem PySem.Spec PyProof.Rows
end L2
namespace L2
open PySem PySem.Spec PyProof.Rows
end L2
namespace L2
open PySem PySem.Spec PyProof.Rows
def inClass (s : Stmt) (j : Nat) : Stmt := match s with
  | .ClassDef _ _ _ body _ _ _ _ _ _ _ => body.getD j (.Pass ⟨0, 0, 0, 0⟩)
  | _ => .Pass ⟨0, 0, 0, 0⟩
def defArgs (s : Stmt) : Arguments := match s with
  | .FunctionDef _ a _ _ _ _ _ _ _ _ => a
  | _ => { posonlyargs := [], args := [], vararg := none, kwonlyargs := [], kw_defaults := [], kwarg := none, defaults := [] }
def defBody (s : Stmt) : List Stmt := match s with
  | .FunctionDef _ _ b _ _ _ _ _ _ _ => b
  | _ => []
def defScope (s : Stmt) : Scope := match s with
  | .FunctionDef _ _ _ _ _ _ sc _ _ _ => sc
  | _ => { kind := .function, names := [], isGenerator := false, isCoroutine := false }
abbrev CX0 : CXT := fun _ _ _ _ _ _ => False
abbrev E0 : XK := fun _ _ _ => False
theorem pass0 {X : Cx} : Passes CX0 X E0 := fun _ _ _ _ _ _ _ h => h.elim
structure Fun (K : PySem.W.Frag) (x qual : Str) (st : Stmt) (f : Addr) (fd : FuncData) : Prop where
  ex : ∃ (oc : Value) (od : Option Addr) (kV doc pm : Value) (an : Option Addr) (cdv ct : Value) (osl : Array (Option Value)),
    fd = PySem.W.fnOf x qual (defArgs st) (defBody st) (defScope st) .none kV doc pm an cdv ct ∧ K.lookup f = some ⟨oc, od, .func fd, osl⟩ ∧ PySem.W.codeIn K cdv qual = true
  kp : PySem.W.keepIn K (.ref f) = true
section
variable {P : Program} {w : World} {K : PySem.W.Frag} {mg : Str → Option Value} {base : Heap}
theorem Fun.ok {x qual : Str} {st : Stmt} {f : Addr} {fd : FuncData} {N ps : List Str} {k : Nat} {sp : Sp} (F : Fun K x qual st f fd) (S : FnScope N ps (defScope st)) (len : ∀ vs H Q E, sp vs H Q E → vs.length = ps.length)
    (hbody : ∀ (cdv : Value) (A : Around) (outer : List Env) (s : Shared) (H : Hp) (vs : List V) (Q : VK) (E : XK), Room k (A.deeper (envOfC qual (defScope st) s.heap.objs.size f cdv)) → sp vs H Q E →
      ∃ t, PSs (cxOf CX0 P w K mg base N qual (defScope st) f cdv A outer s H E).nox (defBody st) t ∧ t { nx := fun _ H' => Q .non H', rt := Q } (start N vs) H) : FnOk P w K mg base CX0 (k + 1) f fd ps sp := by
  obtain ⟨oc, od, kV, doc, pm, an, cdv, ct, osl, rfl, lk, hcd⟩ := F.ex
  refine fn_of lk hcd S len fun A outer s H vs Q E hr hsp => ?_
  obtain ⟨t, h, q⟩ := hbody cdv A outer s H vs Q E hr hsp
  exact ⟨t, h.nox, q⟩
theorem Fun.binds {x qual : Str} {st : Stmt} {f : Addr} {fd : FuncData} {ps : List Str} (F : Fun K x qual st f fd)
    (h : ∀ (kV doc pm : Value) (an : Option Addr) (cdv ct : Value) (us : List Value), us.length = ps.length → bindArgs (PySem.W.fnOf x qual (defArgs st) (defBody st) (defScope st) .none kV doc pm an cdv ct) ⟨us, []⟩ = pure (ps.zip us)) : Binds K fd ps [] := by
  obtain ⟨oc, od, kV, doc, pm, an, cdv, ct, osl, rfl, lk, hcd⟩ := F.ex
  exact .all (h kV doc pm an cdv ct)
theorem fun_mk {x qual : Str} {st : Stmt} {f : Addr} {oc : Value} {od an : Option Addr} {osl : Array (Option Value)} {kV doc pm cdv ct : Value} (l : K.lookup f = some ⟨oc, od, .func (PySem.W.fnOf x qual (defArgs st) (defBody st) (defScope st) .none kV doc pm an cdv ct), osl⟩)
    (c : PySem.W.codeIn K cdv qual = true) (k : PySem.W.keepIn K (.ref f) = true) : Fun K x qual st f (PySem.W.fnOf x qual (defArgs st) (defBody st) (defScope st) .none kV doc pm an cdv ct) := ⟨⟨oc, od, kV, doc, pm, an, cdv, ct, osl, rfl, l, c⟩, k⟩
end
section
variable {X : Cx}
theorem pv (i : Nat) {x : Str} {pos : Pos} (hN : X.N[i]? = some x := by rfl) (hv : Vis X.env.scope x := by first | exact Or.inl rfl | exact Or.inr (Or.inl rfl) | exact Or.inr (Or.inr rfl)) (hd : (x == ("__debug__" : Str)) = false := by decide)
    (hcd : (x == ("__classdict__" : Str)) = false := by decide) : PE X (.Name x pos) (tVar i) := pe_var hN hv hd hcd
end
theorem ite2 {c A B : Prop} [Decidable c] (h1 : c → A) (h2 : ¬ c → B) : if c then A else B := by
  by_cases h : c
  · rw [if_pos h]
    exact h1 h
  · rw [if_neg h]
    exact h2 h
def Same (H H' : Hp) : Prop := ∀ b o, H b = some o → H' b = some o
theorem Same.refl (H : Hp) : Same H H := fun _ _ h => h
theorem Same.trans {H H1 H2 : Hp} (a : Same H H1) (b : Same H1 H2) : Same H H2 := fun c o h => b c o (a c o h)
theorem Same.free {H H' : Hp} (e : Same H H') {l : Addr} (h : H' l = Option.none) : H l = Option.none := by
  cases q : H l with
  | none => rfl
  | some o =>
    rw [e l o q] at h
    cases h
theorem Same.seq {K : PySem.W.Frag} {H H' : Hp} {a : Addr} {xs : List V} (e : Same H H') (h : SqL K H a xs) : SqL K H' a xs := by
  rcases h with (h | ⟨o, h⟩) | h
  · exact .inl (.inl (e _ _ h))
  · exact .inl (.inr ⟨o, e _ _ h⟩)
  · exact .inr h
section
variable {κ : Type} [DecidableEq κ]
end
theorem nd_ix {α : Type} {l : List α} (hN : l.Nodup) {i j : Nat} {x : α} (a : l[i]? = some x) (b : l[j]? = some x) : i = j := by
  obtain ⟨h1, e1⟩ := List.getElem?_eq_some_iff.mp a
  obtain ⟨h2, e2⟩ := List.getElem?_eq_some_iff.mp b
  exact (List.getElem_inj hN).mp (e1.trans e2.symm)
end L2
set_option Elab.async false
set_option linter.all false
set_option maxRecDepth 100000
namespace L2
open PySem PySem.Spec PyProof.Rows
open PySem.W (WData Codec OpenSpec Well WellAll ReadsW ReadsAllW)
mutual
inductive Dw (K : PySem.W.Frag) (H : Hp) : V → WData → Prop
  | non : Dw K H .non .none
  | bl (b : Bool) : Dw K H (.bl b) (.bool b)
  | int (i : Int) : Dw K H (.int i) (.int i)
  | str (x : Str) : Dw K H (.str x) (.str x)
  | byt (b : Array UInt8) : Dw K H (.byt b) (.bytes b.toList)
  | lst {a : Addr} {xs : List V} {ds : List WData} : SqL K H a xs → DwAll K H xs ds → Dw K H (.ref a) (.list ds)
  | tup {a : Addr} {xs : List V} {ds : List WData} : SqT K H a xs → DwAll K H xs ds → Dw K H (.ref a) (.tuple ds)
inductive DwAll (K : PySem.W.Frag) (H : Hp) : List V → List WData → Prop
  | nil : DwAll K H [] []
  | cons {v : V} {vs : List V} {d : WData} {ds : List WData} : Dw K H v d → DwAll K H vs ds → DwAll K H (v :: vs) (d :: ds)
end
theorem dw_ints {K : PySem.W.Frag} {H : Hp} : ∀ ns : List Int, DwAll K H (ns.map V.int) (ns.map WData.int)
  | [] => .nil
  | n :: r => .cons (.int n) (dw_ints r)
theorem ints_dw {K : PySem.W.Frag} {H : Hp} : ∀ (ns : List Int) (xs : List V), DwAll K H xs (ns.map WData.int) → xs = ns.map V.int
  | [], xs, h => by
    cases h
    rfl
  | n :: r, xs, h => by
    cases h with
    | cons h1 h2 =>
      cases h1
      rw [ints_dw r _ h2] <;> rfl
section
variable {P : Program} {w : World} {K : PySem.W.Frag} {H : Hp} {h : Heap} {R : PySem.W.WRecords} {cl : Str → Option Addr}
theorem sqL_at {a : Addr} {xs : List V} (hok : HOk P w H h) (KX : K.In h) (q : SqL K H a xs) : ∃ (its : List Value) (o : Obj) (n : Nat), Vals xs its ∧ h.get? a = some o ∧ o.cls = .type "list" ∧ o.data = .seq its.toArray n := by
  rcases q with q | ⟨o, its, n, e, hc, _, hd, _, hv⟩
  · obtain ⟨_, its, n, hv, e⟩ := (show ObjOk P w H h a (.lst xs) from q.ok hok)
    exact ⟨its, _, n, hv, e, rfl, rfl⟩
  · exact ⟨its.toList, o, n, hv, KX _ _ e, hc, by simp [hd]⟩
theorem sqT_at {a : Addr} {xs : List V} (hok : HOk P w H h) (KX : K.In h) (q : SqT K H a xs) : ∃ (its : List Value) (o : Obj) (n : Nat), Vals xs its ∧ h.get? a = some o ∧ o.cls = .type "tuple" ∧ o.data = .seq its.toArray n := by
  rcases q with q | ⟨o, its, n, e, hc, hd, _, hv⟩
  · obtain ⟨_, its, hv, o, e, hc, n, hd⟩ := (show ObjOk P w H h a (.tup xs) from q.ok hok)
    exact ⟨its, o, n, hv, e, hc, hd⟩
  · exact ⟨its.toList, o, n, hv, KX _ _ e, hc, by simp [hd]⟩
mutual
theorem Dw.reads (hok : HOk P w H h) (KX : K.In h) : ∀ (d : WData) (v : V) (u : Value), Dw K H v d → RelV v u → ∃ as, ReadsW R cl h u d as
  | .none, _, _, x, r => by
    cases x
    cases r
    exact ⟨_, ReadsW.none⟩
  | .bool b, _, _, x, r => by
    cases x
    cases r
    exact ⟨_, ReadsW.bool b⟩
  | .int i, _, _, x, r => by
    cases x
    obtain ⟨t, rfl⟩ := r
    exact ⟨_, ReadsW.int i t⟩
  | .str s, _, _, x, r => by
    cases x
    obtain ⟨t, rfl⟩ := r
    exact ⟨_, ReadsW.str s t⟩
  | .bytes b, _, _, x, r => by
    cases x
    obtain ⟨t, rfl⟩ := r
    exact ⟨_, ReadsW.bytes _ t⟩
  | .list ds, _, _, x, r => by
    cases x with
    | lst hs ha =>
      cases r
      obtain ⟨its, o, n, rv, ho, hc, hd⟩ := sqL_at hok KX hs
      obtain ⟨as, hr⟩ := Dw.readsAll hok KX ds _ its ha rv
      exact ⟨_, ReadsW.list ho hc hd hr⟩
  | .tuple ds, _, _, x, r => by
    cases x with
    | tup hs ha =>
      cases r
      obtain ⟨its, o, n, rv, ho, hc, hd⟩ := sqT_at hok KX hs
      obtain ⟨as, hr⟩ := Dw.readsAll hok KX ds _ its ha rv
      exact ⟨_, ReadsW.tuple ho hc hd hr⟩
  | .float _, _, _, x, _ => by cases x
  | .dict _, _, _, x, _ => by cases x
  | .bytearray _, _, _, x, _ => by cases x
  | .set _, _, _, x, _ => by cases x
  | .frozenset _, _, _, x, _ => by cases x
  | .obj _ _, _, _, x, _ => by cases x
theorem Dw.readsAll (hok : HOk P w H h) (KX : K.In h) : ∀ (ds : List WData) (vs : List V) (us : List Value), DwAll K H vs ds → Vals vs us → ∃ as, ReadsAllW R cl h us ds as
  | [], _, _, x, r => by
    cases x
    cases r
    exact ⟨_, ReadsAllW.nil⟩
  | d :: ds, _, _, x, r => by
    cases x with
    | cons h1 h2 =>
      cases r with
      | cons r1 r2 =>
        obtain ⟨as, q1⟩ := Dw.reads hok KX d _ _ h1 r1
        obtain ⟨bs, q2⟩ := Dw.readsAll hok KX ds _ _ h2 r2
        exact ⟨_, ReadsAllW.cons q1 q2⟩
end
end
mutual
def plW : WData → Bool
  | .none => true
  | .bool _ => true
  | .int _ => true
  | .str _ => true
  | .bytes _ => true
  | .list xs => plWs xs
  | .tuple xs => plWs xs
  | _ => false
def plWs : List WData → Bool
  | [] => true
  | x :: r => plW x && plWs r
end
theorem plWs_map {α : Type} {f : α → WData} (h : ∀ a, plW (f a) = true) : ∀ l : List α, plWs (l.map f) = true
  | [] => rfl
  | x :: r => by
    show (plW (f x) && plWs (r.map f)) = true
    rw [h x, plWs_map h r] <;> rfl
theorem pl_enc : ∀ (c : Codec) (a : c.denote), plW (c.enc a) = true
  | .unit, _ => rfl
  | .bool, _ => rfl
  | .int _ _, _ => rfl
  | .nat _ _, _ => rfl
  | .u8, _ => rfl
  | .bytes _ _, _ => rfl
  | .text _ _ _ _, _ => rfl
  | .list _ _ c, a => plWs_map (fun x => pl_enc c x) a
  | .pair c d, a => by
    show (plW (c.enc a.1) && (plW (d.enc a.2) && true)) = true
    rw [pl_enc c a.1, pl_enc d a.2] <;> rfl
  | .triple c d e, a => by
    show (plW (c.enc a.1) && (plW (d.enc a.2.1) && (plW (e.enc a.2.2) && true))) = true
    rw [pl_enc c a.1, pl_enc d a.2.1, pl_enc e a.2.2] <;> rfl
  | .option c, none => rfl
  | .option c, some x => pl_enc c x
theorem pl_encAll : ∀ (cs : List Codec) (a : Codec.denoteAll cs), plWs (Codec.encAll cs a) = true
  | [], _ => rfl
  | c :: cs, a => by
    show (plW (c.enc a.1) && plWs (Codec.encAll cs a.2)) = true
    rw [pl_enc c a.1, pl_encAll cs a.2] <;> rfl
theorem weight_mem : ∀ {xs : List WData} {d : WData}, d ∈ xs → d.weight ≤ WData.weightAll xs
  | [], d, h => absurd h (by simp)
  | x :: r, d, h => by
    show d.weight ≤ x.weight + 1 + WData.weightAll r
    rcases List.mem_cons.mp h with e | m
    · rw [e]
      omega
    · have z := weight_mem m
      omega
def toV : Value → V
  | .none => .non
  | .bool b => .bl b
  | .int i _ => .int i
  | .str x _ => .str x
  | .bytes b _ => .byt b
  | .ref a => .ref a
  | _ => .non
def OkU (A : List Addr) : Value → Prop
  | .none => True
  | .bool _ => True
  | .int _ _ => True
  | .str _ _ => True
  | .bytes _ _ => True
  | .ref a => a ∈ A
  | _ => False
theorem OkU.mono {A B : List Addr} (h : ∀ a ∈ A, a ∈ B) : ∀ {u : Value}, OkU A u → OkU B u := fun {u} x => by
  cases u with
  | ref a => exact h a x
  | none => trivial
  | bool b => trivial
  | int i t => trivial
  | str s t => trivial
  | bytes b t => trivial
  | _ => exact False.elim x
theorem relV_toV {A : List Addr} {u : Value} (x : OkU A u) : RelV (toV u) u := by
  cases u with
  | ref a => rfl
  | none => rfl
  | bool b => rfl
  | int i t => exact ⟨t, rfl⟩
  | str s t => exact ⟨t, rfl⟩
  | bytes b t => exact ⟨t, rfl⟩
  | _ => exact False.elim x
theorem vals_toV {A : List Addr} : ∀ {vs : List Value}, (∀ u ∈ vs, OkU A u) → Vals (vs.map toV) vs
  | [], _ => .nil
  | u :: r, h => .cons (relV_toV (h u (List.mem_cons_self ..))) (vals_toV fun x hx => h x (List.mem_cons_of_mem _ hx))
def ArgOb (h : Heap) (A : List Addr) (a : Addr) : Prop := ∃ vs : List Value, vs.length ≤ sizeLine ∧ (∀ u ∈ vs, OkU A u) ∧
  (h.get? a = some { cls := .type "list", data := .seq vs.toArray } ∨ h.get? a = some { cls := .type "tuple", data := .seq vs.toArray })
theorem ArgOb.mono {h : Heap} {A B : List Addr} {a : Addr} (k : ∀ a ∈ A, a ∈ B) (x : ArgOb h A a) : ArgOb h B a := by
  obtain ⟨vs, h1, h2, h3⟩ := x
  exact ⟨vs, h1, fun u hu => (h2 u hu).mono k, h3⟩
theorem wellAll_len {P : Params} {h : Heap} : ∀ {vs : List Value} {ds : List WData}, WellAll P h vs ds → vs.length = ds.length
  | _, _, .nil => rfl
  | _, _, .cons _ b => by
    show _ + 1 = _ + 1
    rw [wellAll_len b]
theorem well_list {P : Params} {h : Heap} {v : Value} {ds : List WData} (x : Well P h v (.list ds)) : ∃ (a : Addr) (vs : List Value), v = .ref a ∧ h.get? a = some { cls := .type "list", data := .seq vs.toArray } ∧ WellAll P h vs ds := by
  cases x with
  | list ho hall => exact ⟨_, _, rfl, ho, hall⟩
theorem well_tuple {P : Params} {h : Heap} {v : Value} {ds : List WData} (x : Well P h v (.tuple ds)) : ∃ (a : Addr) (vs : List Value), v = .ref a ∧ h.get? a = some { cls := .type "tuple", data := .seq vs.toArray } ∧ WellAll P h vs ds := by
  cases x with
  | tuple ho hall => exact ⟨_, _, rfl, ho, hall⟩
theorem well_cons {P : Params} {h : Heap} {us : List Value} {d : WData} {ds : List WData} (x : WellAll P h us (d :: ds)) : ∃ (v : Value) (vs : List Value), us = v :: vs ∧ Well P h v d ∧ WellAll P h vs ds := by
  cases x with
  | cons a b => exact ⟨_, _, rfl, a, b⟩
theorem line_of {n : Nat} (h : n ≤ 1048576) : n ≤ sizeLine := Nat.le_trans h (by decide)
section
variable {P : Params} {h : Heap}
mutual
theorem area_one : ∀ (d : WData) (v : Value), Well P h v d → plW d = true → d.weight ≤ 1048576 → ∃ A : List Addr, OkU A v ∧ ∀ a ∈ A, ArgOb h A a
  | .none, _, x, _, _ => by
    cases x
    exact ⟨[], trivial, fun a m => absurd m (by simp)⟩
  | .bool b, _, x, _, _ => by
    cases x
    exact ⟨[], trivial, fun a m => absurd m (by simp)⟩
  | .int i, _, x, _, _ => by
    cases x
    exact ⟨[], trivial, fun a m => absurd m (by simp)⟩
  | .str s, _, x, _, _ => by
    cases x
    exact ⟨[], trivial, fun a m => absurd m (by simp)⟩
  | .bytes b, _, x, _, _ => by
    cases x
    exact ⟨[], trivial, fun a m => absurd m (by simp)⟩
  | .list ds, _, x, p, z => by
    obtain ⟨a, vs, rfl, ho, hall⟩ := well_list x
    have z2 : WData.weightAll ds ≤ 1048576 := z
    obtain ⟨A, h1, h2⟩ := area_all ds _ hall p fun d hd => Nat.le_trans (weight_mem hd) z2
    have k : ∀ b ∈ A, b ∈ a :: A := fun b hb => List.mem_cons_of_mem _ hb
    refine ⟨a :: A, List.mem_cons_self .., fun b hb => ?_⟩
    rcases List.mem_cons.mp hb with e | m
    · rw [e]
      exact ⟨vs, line_of (by rw [wellAll_len hall]; exact Nat.le_trans (PySem.W.length_le_weightAllW ds) z2), fun u hu => (h1 u hu).mono k, .inl ho⟩
    · exact (h2 b m).mono k
  | .tuple ds, _, x, p, z => by
    obtain ⟨a, vs, rfl, ho, hall⟩ := well_tuple x
    have z2 : WData.weightAll ds ≤ 1048576 := z
    obtain ⟨A, h1, h2⟩ := area_all ds _ hall p fun d hd => Nat.le_trans (weight_mem hd) z2
    have k : ∀ b ∈ A, b ∈ a :: A := fun b hb => List.mem_cons_of_mem _ hb
    refine ⟨a :: A, List.mem_cons_self .., fun b hb => ?_⟩
    rcases List.mem_cons.mp hb with e | m
    · rw [e]
      exact ⟨vs, line_of (by rw [wellAll_len hall]; exact Nat.le_trans (PySem.W.length_le_weightAllW ds) z2), fun u hu => (h1 u hu).mono k, .inr ho⟩
    · exact (h2 b m).mono k
  | .float _, _, _, p, _ => Bool.noConfusion (show false = true from p)
  | .dict _, _, _, p, _ => Bool.noConfusion (show false = true from p)
  | .bytearray _, _, _, p, _ => Bool.noConfusion (show false = true from p)
  | .set _, _, _, p, _ => Bool.noConfusion (show false = true from p)
  | .frozenset _, _, _, p, _ => Bool.noConfusion (show false = true from p)
  | .obj _ _, _, _, p, _ => Bool.noConfusion (show false = true from p)
theorem area_all : ∀ (ds : List WData) (vs : List Value), WellAll P h vs ds → plWs ds = true → (∀ d ∈ ds, d.weight ≤ 1048576) → ∃ A : List Addr, (∀ u ∈ vs, OkU A u) ∧ ∀ a ∈ A, ArgOb h A a
  | [], _, x, _, _ => by
    cases x
    exact ⟨[], fun u m => absurd m (by simp), fun a m => absurd m (by simp)⟩
  | d :: ds, _, x, p, z => by
    obtain ⟨v, vs, rfl, x1, x2⟩ := well_cons x
    have q : plW d = true ∧ plWs ds = true := Bool.and_eq_true_iff.mp p
    obtain ⟨A, a1, a2⟩ := area_one d v x1 q.1 (z d (List.mem_cons_self ..))
    obtain ⟨B, b1, b2⟩ := area_all ds vs x2 q.2 fun e he => z e (List.mem_cons_of_mem _ he)
    have kA : ∀ b ∈ A, b ∈ A ++ B := fun b hb => List.mem_append.mpr (.inl hb)
    have kB : ∀ b ∈ B, b ∈ A ++ B := fun b hb => List.mem_append.mpr (.inr hb)
    refine ⟨A ++ B, fun u hu => ?_, fun b hb => ?_⟩
    · rcases List.mem_cons.mp hu with e | m
      · rw [e]
        exact a1.mono kA
      · exact (b1 u m).mono kB
    · rcases List.mem_append.mp hb with m | m
      · exact (a2 b m).mono kA
      · exact (b2 b m).mono kB
end
end
def hoOf (o : Obj) : Option HO := match o.data with
  | .seq vs _ => if (o.cls == Value.type "list") = true then some (.frz o (.lst (vs.toList.map toV))) else some (.frz o (.tup (vs.toList.map toV)))
  | _ => none
def argH (K : PySem.W.Frag) (h : Heap) (A : List Addr) : Hp := fun b => if b ∈ A then (if (K.lookup b).isNone = true then (h.get? b).bind hoOf else none) else none
def OnlyF (H : Hp) : Prop := ∀ b, H b = none ∨ ∃ o u, H b = some (.frz o u)
theorem hoOf_lst (vs : List Value) : hoOf { cls := .type "list", data := .seq vs.toArray } = some (.frz { cls := .type "list", data := .seq vs.toArray } (.lst (vs.map toV))) := by
  show (if (Value.type "list" == Value.type "list") = true then some (HO.frz { cls := .type "list", data := .seq vs.toArray } (.lst (vs.toArray.toList.map toV))) else some (HO.frz { cls := .type "list", data := .seq vs.toArray } (.tup (vs.toArray.toList.map toV)))) = _
  rw [if_pos (beq_self_eq_true _)]
theorem hoOf_tup (vs : List Value) : hoOf { cls := .type "tuple", data := .seq vs.toArray } = some (.frz { cls := .type "tuple", data := .seq vs.toArray } (.tup (vs.map toV))) := by
  show (if (Value.type "tuple" == Value.type "list") = true then some (HO.frz { cls := .type "tuple", data := .seq vs.toArray } (.lst (vs.toArray.toList.map toV))) else some (HO.frz { cls := .type "tuple", data := .seq vs.toArray } (.tup (vs.toArray.toList.map toV)))) = _
  rw [if_neg (by decide)]
section
variable {P : Program} {w : World} {K : PySem.W.Frag} {h : Heap} {A : List Addr}
theorem argH_at {b : Addr} {o : Obj} (hb : b ∈ A) (hk : K.lookup b = none) (e : h.get? b = some o) : argH K h A b = hoOf o := by
  unfold argH
  rw [if_pos hb, hk, if_pos (show (none : Option Obj).isNone = true from rfl), e] <;> rfl
theorem of_argH {b : Addr} {u : HO} (q : argH K h A b = some u) : b ∈ A ∧ K.lookup b = none := by
  unfold argH at q
  by_cases hb : b ∈ A
  · rw [if_pos hb] at q
    cases hk : K.lookup b with
    | none => exact ⟨hb, rfl⟩
    | some o =>
      rw [hk, if_neg (by simp)] at q
      cases q
  · rw [if_neg hb] at q
    cases q
theorem argH_is (ar : ∀ a ∈ A, ArgOb h A a) {b : Addr} {u : HO} (q : argH K h A b = some u) : K.lookup b = none ∧ ∃ vs : List Value, vs.length ≤ sizeLine ∧ (∀ u ∈ vs, OkU A u) ∧
    ((h.get? b = some { cls := .type "list", data := .seq vs.toArray } ∧ u = .frz { cls := .type "list", data := .seq vs.toArray } (.lst (vs.map toV))) ∨
     (h.get? b = some { cls := .type "tuple", data := .seq vs.toArray } ∧ u = .frz { cls := .type "tuple", data := .seq vs.toArray } (.tup (vs.map toV)))) := by
  obtain ⟨hb, hk⟩ := of_argH q
  obtain ⟨vs, h1, h2, h3⟩ := ar b hb
  refine ⟨hk, vs, h1, h2, ?_⟩
  rcases h3 with e | e
  · rw [argH_at hb hk e, hoOf_lst] at q
    exact .inl ⟨e, (Option.some.inj q).symm⟩
  · rw [argH_at hb hk e, hoOf_tup] at q
    exact .inr ⟨e, (Option.some.inj q).symm⟩
theorem argH_only (ar : ∀ a ∈ A, ArgOb h A a) : OnlyF (argH K h A) := fun b => by
  cases q : argH K h A b with
  | none => exact .inl rfl
  | some u =>
    obtain ⟨_, vs, _, _, ⟨_, e⟩ | ⟨_, e⟩⟩ := argH_is ar q
    · exact .inr ⟨_, _, by rw [e]⟩
    · exact .inr ⟨_, _, by rw [e]⟩
theorem argH_ok (ar : ∀ a ∈ A, ArgOb h A a) : HOk P w (argH K h A) h := fun b u q => by
  obtain ⟨_, vs, h1, h2, ⟨e, rfl⟩ | ⟨e, rfl⟩⟩ := argH_is ar q
  · exact ⟨e, by rw [List.length_map]; exact h1, vs, _, vals_toV h2, e⟩
  · exact ⟨e, by rw [List.length_map]; exact h1, vs, vals_toV h2, _, e, rfl, _, rfl⟩
theorem seq_inj {c c' : Value} {vs us : List Value} (e : (some { cls := c, data := .seq vs.toArray } : Option Obj) = some { cls := c', data := .seq us.toArray }) : c = c' ∧ vs = us := by
  have e1 := Option.some.inj e
  have e2 : c = c' := congrArg Obj.cls e1
  have e3 : Data.seq vs.toArray = Data.seq us.toArray := congrArg Obj.data e1
  injection e3 with e4
  refine ⟨e2, ?_⟩
  have e5 := congrArg Array.toList e4
  simpa using e5
theorem argL (KX : K.In h) (ar : ∀ a ∈ A, ArgOb h A a) {a : Addr} {vs : List Value} (ha : a ∈ A) (e : h.get? a = some { cls := .type "list", data := .seq vs.toArray }) : (∀ u ∈ vs, OkU A u) ∧ SqL K (argH K h A) a (vs.map toV) := by
  obtain ⟨us, h1, h2, h3⟩ := ar a ha
  have hu : us = vs := by
    rcases h3 with q | q
    · rw [e] at q
      exact (seq_inj q).2.symm
    · rw [e] at q
      exact absurd (Value.type.inj (seq_inj q).1) (by decide)
  subst hu
  refine ⟨h2, ?_⟩
  cases hk : K.lookup a with
  | none => exact .inl (.inr ⟨_, by rw [argH_at ha hk e, hoOf_lst]⟩)
  | some o =>
    have e2 := KX a o hk
    rw [e] at e2
    obtain rfl := Option.some.inj e2
    exact .inr ⟨_, us.toArray, _, hk, rfl, rfl, rfl, by rw [List.size_toArray]; exact h1, by simpa using vals_toV h2⟩
theorem argT (KX : K.In h) (ar : ∀ a ∈ A, ArgOb h A a) {a : Addr} {vs : List Value} (ha : a ∈ A) (e : h.get? a = some { cls := .type "tuple", data := .seq vs.toArray }) : (∀ u ∈ vs, OkU A u) ∧ SqT K (argH K h A) a (vs.map toV) := by
  obtain ⟨us, h1, h2, h3⟩ := ar a ha
  have hu : us = vs := by
    rcases h3 with q | q
    · rw [e] at q
      exact absurd (Value.type.inj (seq_inj q).1) (by decide)
    · rw [e] at q
      exact (seq_inj q).2.symm
  subst hu
  refine ⟨h2, ?_⟩
  cases hk : K.lookup a with
  | none => exact .inl (.inr ⟨_, by rw [argH_at ha hk e, hoOf_tup]⟩)
  | some o =>
    have e2 := KX a o hk
    rw [e] at e2
    obtain rfl := Option.some.inj e2
    exact .inr ⟨_, us.toArray, _, hk, rfl, rfl, by rw [List.size_toArray]; exact h1, by simpa using vals_toV h2⟩
mutual
theorem dw_one {Pm : Params} (KX : K.In h) (ar : ∀ a ∈ A, ArgOb h A a) : ∀ (d : WData) (v : Value), Well Pm h v d → plW d = true → OkU A v → Dw K (argH K h A) (toV v) d
  | .none, _, x, _, _ => by
    cases x
    exact .non
  | .bool b, _, x, _, _ => by
    cases x
    exact .bl b
  | .int i, _, x, _, _ => by
    cases x
    exact .int i
  | .str s, _, x, _, _ => by
    cases x
    exact .str s
  | .bytes b, _, x, _, _ => by
    cases x
    have z := Dw.byt (K := K) (H := argH K h A) b.toArray
    exact z
  | .list ds, _, x, p, hu => by
    obtain ⟨a, vs, rfl, ho, hall⟩ := well_list x
    obtain ⟨h2, hs⟩ := argL KX ar hu ho
    exact .lst hs (dw_all KX ar ds _ hall p h2)
  | .tuple ds, _, x, p, hu => by
    obtain ⟨a, vs, rfl, ho, hall⟩ := well_tuple x
    obtain ⟨h2, hs⟩ := argT KX ar hu ho
    exact .tup hs (dw_all KX ar ds _ hall p h2)
  | .float _, _, _, p, _ => Bool.noConfusion (show false = true from p)
  | .dict _, _, _, p, _ => Bool.noConfusion (show false = true from p)
  | .bytearray _, _, _, p, _ => Bool.noConfusion (show false = true from p)
  | .set _, _, _, p, _ => Bool.noConfusion (show false = true from p)
  | .frozenset _, _, _, p, _ => Bool.noConfusion (show false = true from p)
  | .obj _ _, _, _, p, _ => Bool.noConfusion (show false = true from p)
theorem dw_all {Pm : Params} (KX : K.In h) (ar : ∀ a ∈ A, ArgOb h A a) : ∀ (ds : List WData) (vs : List Value), WellAll Pm h vs ds → plWs ds = true → (∀ u ∈ vs, OkU A u) → DwAll K (argH K h A) (vs.map toV) ds
  | [], _, x, _, _ => by
    cases x
    exact .nil
  | d :: ds, _, x, p, hu => by
    obtain ⟨v, vs, rfl, x1, x2⟩ := well_cons x
    have q : plW d = true ∧ plWs ds = true := Bool.and_eq_true_iff.mp p
    exact .cons (dw_one KX ar d v x1 q.1 (hu _ (List.mem_cons_self ..))) (dw_all KX ar ds vs x2 q.2 fun u m => hu u (List.mem_cons_of_mem _ m))
end
end
theorem spec_call {P : Program} {w : World} {K : PySem.W.Frag} {mg mb : Str → Option Value} {CX : CXT} {k : Nat} {fa : Addr} {fd : FuncData} {ps : List Str} {sp : Sp} {s₁ : Shared} {vals : List Value} {ds : List WData} {R : PySem.W.WRecords} {cl : Str → Option Addr} {d0 : WData}
    (KX : K.In s₁.heap) (hns : s₁.heap.Ns mainGlobals mg) (hb : s₁.heap.Ns builtinsNs mb) (hbb : ∀ x : Str, x ≠ "__name__" → mb x = bootBuiltins x) (hlim : s₁.heap.NoLimit) (hg : s₁.gens = #[])
    (hwl : WellAll w.params s₁.heap vals ds) (hpl : plWs ds = true) (hwt : ∀ d ∈ ds, d.weight ≤ 1048576) (hr : Room k callerA)
    (F : ∀ base : Heap, K.In base → base.Ns mainGlobals mg → FnOk P w K mg base CX k fa fd ps sp) (hbind : ∀ (s : Shared) (us : List Value), us.length = ps.length → BindsTo s fd ⟨us, []⟩ (ps.zip us)) (hlen : ds.length = ps.length)
    (hsp : ∀ (H : Hp) (xs : List V), OnlyF H → DwAll K H xs ds → sp xs H (fun v H' => Dw K H' v d0) fun _ _ _ => False)
    (hCX : ∀ H e s', CX [] H s₁ (fun _ _ _ => False) e s' → False) :
    codeAny (model P w) callerA (.call (.ref fa) ⟨vals, []⟩) (fun r s' => ∃ u as, r = .ok (.ret u) ∧ ReadsW R cl s'.heap u d0 as ∧ OldK s₁.heap s'.heap ∧ s'.os = s₁.os ∧ AllBare s'.gens) s₁ := by
  obtain ⟨A, ho, ar⟩ := area_all ds vals hwl hpl hwt
  have hO : OnlyF (argH K s₁.heap A) := argH_only ar
  have hok : HOk P w (argH K s₁.heap A) s₁.heap := argH_ok ar
  have hS := dw_all KX ar ds vals hwl hpl ho
  have hV := vals_toV ho
  have hK : ∀ b u, argH K s₁.heap A b = some u → K.lookup b = none := fun b u q => (argH_is ar q).1
  have noA : ∀ {b : Addr} {o : Obj} {es : Array DictEntry} {ep : Nat}, s₁.heap.get? b = some o → o.data = .dict es ep → argH K s₁.heap A b = none := fun {b o es ep} e d => by
    cases q : argH K s₁.heap A b with
    | none => rfl
    | some u =>
      obtain ⟨_, vs, _, _, ⟨e2, _⟩ | ⟨e2, _⟩⟩ := argH_is ar q
      · rw [e2] at e
        cases e
        have d' : Data.seq vs.toArray _ = Data.dict es ep := d
        cases d'
      · rw [e2] at e
        cases e
        have d' : Data.seq vs.toArray _ = Data.dict es ep := d
        cases d'
  generalize argH K s₁.heap A = H at hO hok hS hK noA
  have base_of : ∀ {b : Addr} {o : Obj}, s₁.heap.get? b = some o → H b = none → (hidT s₁.heap H).get? b = some o := fun e n => hidT_get e n
  have nsK : ∀ {b : Addr} {m : Str → Option Value}, s₁.heap.Ns b m → (hidT s₁.heap H).Ns b m := fun {b m} ⟨o, es, ep, e, d, r⟩ => ⟨o, es, ep, base_of e (noA e d), d, r⟩
  have nK : ∀ b o, K.lookup b = some o → H b = none := fun b o e => by
    cases q : H b with
    | none => rfl
    | some u =>
      rw [hK b u q] at e
      cases e
  have hKb : K.In (hidT s₁.heap H) := fun b o e => base_of (KX b o e) (nK b o e)
  have hM : Mod K mg (hidT s₁.heap H) := ⟨hKb, nsK hns, ⟨mb, nsK hb, hbb⟩, let ⟨mc, h1, h2⟩ := hlim; ⟨mc, nsK h1, h2⟩⟩
  have e0 : Env0 P w K mg (hidT s₁.heap H) callerA [] s₁ H := ⟨rfl, hM, fun b o e => of_hidT e, Nat.le_of_eq (hidT_size _ _), trivial, fun b hb => absurd (show b ∈ ([] : List Addr) from hb) (by simp), hok, .of_eq hg⟩
  have hl : vals.length = ps.length := by rw [wellAll_len hwl]; exact hlen
  refine codeAny_mono ((F _ hKb (nsK hns)).run callerA [] s₁ H ⟨vals, []⟩ vals (vals.map toV) _ _ hr e0 (hbind s₁ vals hl) hV (hsp H _ hO hS)) fun r s' x => ?_
  cases r with
  | error e => exact (hCX H e s' x).elim
  | ok fl =>
    cases fl with
    | next => exact False.elim x
    | brk => exact False.elim x
    | cont => exact False.elim x
    | ret u =>
      obtain ⟨v, H', os, bare, un, hok', r', q⟩ := x
      have kept : ∀ b o, s₁.heap.get? b = some o → s'.heap.get? b = some o := fun b o e => by
        cases q2 : H b with
        | none => exact un.keep b o e q2 (by intro z; exact absurd (show b ∈ ([] : List Addr) from z) (by simp)) (by simp)
        | some u2 =>
          rcases hO b with z | ⟨ob, u3, z⟩
          · rw [q2] at z
            cases z
          · have z2 := un.frzs b ob _ z
            obtain ⟨e1, _⟩ := hok b _ z
            obtain ⟨e2, _⟩ := hok' b _ z2
            rw [e] at e1
            cases e1
            exact e2
      have KX' : K.In s'.heap := fun b o e => kept b o (KX b o e)
      obtain ⟨as, hrd⟩ := Dw.reads (R := R) (cl := cl) hok' KX' d0 v u q r'
      exact ⟨u, as, rfl, hrd, OldK.of_keep kept, os, bare⟩
theorem layable_weight {ds : List WData} (h : WData.layableAll ds = true) : ∀ d ∈ ds, d.weight ≤ 1048576 := fun d hd =>
  (PySem.W.layableW_iff.mp (List.all_eq_true.mp h d hd)).2.2
theorem encAll_len : ∀ (cs : List Codec) (a : Codec.denoteAll cs), (Codec.encAll cs a).length = cs.length
  | [], _ => rfl
  | c :: cs, a => by
    show (Codec.encAll cs a.2).length + 1 = cs.length + 1
    rw [encAll_len cs a.2]
theorem walk_spec {r : OpenSpec} {k : Nat} {q : Program} {loose : List Str} {XP : (Str → Option Value) → Heap → Prop} {YP : World → Heap → Prop} {d : DefRec} {K : Params → PySem.W.Frag} {CX : World → CXT} {ps : List Str} {sp : World → Sp}
    (hwell : r.wellSaid = true) (hdf : d.params.defaults = []) (hlen : r.args.length = ps.length) (hr : Room k callerA)
    (hY : ∀ (w : World) (h : Heap), YP w h → (K w.params).In h)
    (F : ∀ (w : World) (mg : Str → Option Value) (fa : Addr) (h : Heap), YP w h → (K w.params).In h → h.Ns mainGlobals mg → mg d.name = some (.ref fa) →
      ∃ fd : FuncData, (∀ (s : Shared) (us : List Value), us.length = ps.length → BindsTo s fd ⟨us, []⟩ (ps.zip us)) ∧
        ∀ base : Heap, (K w.params).In base → base.Ns mainGlobals mg → FnOk r.prog w (K w.params) mg base (CX w) k fa fd ps (sp w))
    (hsp : ∀ (w : World) (H : Hp) (xs : List V) (a : Codec.denoteAll r.args), OnlyF H → Codec.withinAll r.args a = true → Codec.app r.args r.asked a = true → DwAll (K w.params) H xs (Codec.encAll r.args a) →
      sp w xs H (fun v H' => Dw (K w.params) H' v (r.ret.enc (Codec.app r.args r.f a))) fun _ _ _ => False)
    (hCX : ∀ (w : World) (H : Hp) (s : Shared) (e : Value) (s' : Shared), CX w [] H s (fun _ _ _ => False) e s' → False) :
    PySem.W.WalkOS q loose XP YP r d [] (fun f vs => PySem.call f vs) := by
  intro w s_0 s₁ mg mb G Y fa o pm cd doc dV kV ho hd hcd hD hmg hg args vals as hpre hlay hrd hwl hlo
  obtain ⟨a, e1, e2⟩ := PySem.W.os_pre_some hpre
  obtain ⟨e3, hwi⟩ := Codec.encAll_of_decAll r.args args a e1
  subst e3
  have KX := hY w _ Y
  obtain ⟨fd, hb, hF⟩ := F w mg fa _ Y KX G.T.g hmg
  refine PySem.W.enter_call (codeAny_mono (spec_call (R := []) (cl := classAt s_0.heap) (d0 := r.ret.enc (Codec.app r.args r.f a)) KX G.T.g G.T.b G.T.builtins G.T.nolimit hg hwl (pl_encAll _ _) (layable_weight hlay) hr hF hb (by rw [encAll_len]; exact hlen)
    (fun H xs hO hS => hsp w H xs a hO hwi e2 hS) fun H e s' => hCX w H s₁ e s') fun r' s' hq => ?_)
  obtain ⟨u, as', rfl, h1, h2, h3, h4⟩ := hq
  exact ⟨.inl ⟨u, _, as', rfl, fun _ => rfl, h1, (OpenSpec.post_iff hwell hwi _ _).mpr rfl, fun z => Bool.noConfusion (show false = true from z)⟩, h2, h3, h4⟩
theorem walk_specK {r : OpenSpec} {k : Nat} {q : Program} {loose : List Str} {XP : (Str → Option Value) → Heap → Prop} {YP : World → Heap → Prop} {d : DefRec} {K : Params → PySem.W.Frag} {CX : CXT} {ps : List Str} {sp : PySem.W.Frag → Sp}
    (hwell : r.wellSaid = true) (hdf : d.params.defaults = []) (hlen : r.args.length = ps.length) (hr : Room k callerA)
    (hY : ∀ (w : World) (h : Heap), YP w h → (K w.params).In h)
    (F : ∀ (w : World) (mg : Str → Option Value) (fa : Addr) (h : Heap), YP w h → (K w.params).In h → h.Ns mainGlobals mg → mg d.name = some (.ref fa) →
      ∃ fd : FuncData, (∀ (s : Shared) (us : List Value), us.length = ps.length → BindsTo s fd ⟨us, []⟩ (ps.zip us)) ∧
        ∀ base : Heap, (K w.params).In base → base.Ns mainGlobals mg → FnOk r.prog w (K w.params) mg base CX k fa fd ps (sp (K w.params)))
    (hsp : ∀ (K : PySem.W.Frag) (H : Hp) (xs : List V) (a : Codec.denoteAll r.args), OnlyF H → Codec.withinAll r.args a = true → Codec.app r.args r.asked a = true → DwAll K H xs (Codec.encAll r.args a) →
      sp K xs H (fun v H' => Dw K H' v (r.ret.enc (Codec.app r.args r.f a))) fun _ _ _ => False)
    (hCX : ∀ (H : Hp) (s : Shared) (e : Value) (s' : Shared), CX [] H s (fun _ _ _ => False) e s' → False) :
    PySem.W.WalkOS q loose XP YP r d [] (fun f vs => PySem.call f vs) :=
  walk_spec (K := K) (CX := fun _ => CX) (sp := fun w => sp (K w.params)) hwell hdf hlen hr hY F (fun w H xs a h1 h2 h3 h4 => hsp (K w.params) H xs a h1 h2 h3 h4) fun _ H s e s' => hCX H s e s'
end L2
set_option linter.all false
set_option maxRecDepth 100000
namespace L2
open PySem PySem.Spec PyProof.Rows
theorem ObjOk.there {P : Program} {w : World} {H : Hp} {h : Heap} {a : Addr} {o : HO} (x : ObjOk P w H h a o) : ∃ ob, h.get? a = some ob := by
  cases o with
  | lst xs => obtain ⟨_, _, _, _, e⟩ := x; exact ⟨_, e⟩
  | tup xs => obtain ⟨_, _, _, o, e, _⟩ := x; exact ⟨_, e⟩
  | dK kvs => obtain ⟨_, _, _, _, o, _, _, e, _⟩ := x; exact ⟨_, e⟩
  | dT kvs => obtain ⟨_, _, _, _, o, _, _, e, _⟩ := x; exact ⟨_, e⟩
  | set S n => obtain ⟨o, _, _, _, e, _⟩ := x; exact ⟨_, e⟩
  | ins C dx fs => obtain ⟨_, _, _, e, _⟩ := x; exact ⟨_, e⟩
  | own y => exact x
  | xd fs => obtain ⟨_, ⟨_, _, _, e, _⟩, _⟩ := x; exact ⟨_, e⟩
  | rng lo hi => obtain ⟨_, _, _, e⟩ := x; exact ⟨_, e⟩
  | frz ob u => obtain ⟨e, _⟩ := x; exact ⟨_, e⟩
  | tbl ps => exact ⟨_, x⟩
  | met f y => exact ⟨_, x⟩
  | ext φ => obtain ⟨_, q, _⟩ := x; exact q
theorem un_fly {l : List Env} {H H1 : Hp} {sh sh2 h' B : Heap} (U : Un (frs l) [] H H1 sh sh2) (kb : ∀ b o, sh.get? b = some o → b ∉ frs l → ∀ o', sh2.get? b = some o' → B.get? b = some o')
    (st : B.StaysIn h') (sm : sh2.UpToSlots h') (f2 : sh2.FunFrames B l) : Un (frs l) [] H H1 sh h' := by
  have nx : ∀ b : Addr, b ∉ ([] : List Addr) := fun b z => nomatch z
  refine ⟨fun b o e n hb _ => ?_, fun b o e n hb _ => ?_, U.free, fun b o e _ => ?_, U.tups, U.frzs, U.tbls⟩
  · exact st b o (kb b o e hb o (U.keep b o e n hb (nx b)))
  · obtain ⟨sl, e1⟩ := U.slot b o e n hb (nx b)
    obtain ⟨_, ob, ho, hnf⟩ := f2.mem hb
    rw [e1] at ho
    cases ho
    obtain ⟨sl2, e2⟩ := sm b _ e1 hnf
    exact ⟨sl2, e2⟩
  · obtain ⟨o1, e1⟩ := U.there b o e (nx b)
    by_cases hb : b ∈ frs l
    · obtain ⟨_, ob, ho, hnf⟩ := f2.mem hb
      obtain ⟨sl2, e2⟩ := sm b _ ho hnf
      exact ⟨_, e2⟩
    · exact ⟨_, st b o1 (kb b o e hb o1 e1)⟩
theorem un_drop {fs : List Addr} {L : Addr} {H0 H H1 : Hp} {s0 sh h' : Heap} (U1 : Un fs [] H0 H s0 sh) (U2 : Un (L :: fs) [] H H1 sh h') (hL : s0.objs.size ≤ L) : Un fs [] H0 H1 s0 h' := by
  have nx : ∀ b : Addr, b ∉ ([] : List Addr) := fun b z => nomatch z
  have ne : ∀ b o, s0.get? b = some o → b ≠ L := fun b o e z => by
    subst z
    exact absurd (Heap.lt_size e) (Nat.not_lt.mpr hL)
  refine ⟨fun b o e n hb _ => ?_, fun b o e n hb _ => ?_, fun b o e n _ => ?_, fun b o e _ => ?_, fun b xs e => U2.tups b xs (U1.tups b xs e), fun b o u e => U2.frzs b o u (U1.frzs b o u e), fun b ps e => ?_⟩
  · exact U2.keep b o (U1.keep b o e n hb (nx b)) (U1.free b o e n (nx b)) (fun z => (List.mem_cons.mp z).elim (ne b o e) hb) (nx b)
  · obtain ⟨sl, e1⟩ := U1.slot b o e n hb (nx b)
    obtain ⟨sl2, e2⟩ := U2.slot b _ e1 (U1.free b o e n (nx b)) (List.mem_cons_of_mem _ hb) (nx b)
    exact ⟨sl2, e2⟩
  · obtain ⟨o1, e1⟩ := U1.there b o e (nx b)
    exact U2.free b o1 e1 (U1.free b o e n (nx b)) (nx b)
  · obtain ⟨o1, e1⟩ := U1.there b o e (nx b)
    exact U2.there b o1 e1 (nx b)
  · obtain ⟨m1, e1⟩ := U1.tbls b ps e
    obtain ⟨m2, e2⟩ := U2.tbls b _ e1
    exact ⟨m1 ++ m2, by rw [e2, Array.append_assoc]⟩
def CXE (P : Program) (w : World) : CXT := fun outer H s E e s' =>
  ∃ (x : Addr) (cls a0 : Value) (B : Heap) (H1 : Hp), e = .ref x ∧ s'.os = s.os ∧ AllBare s'.gens ∧ Un (frs outer) [] H H1 s.heap s'.heap ∧ HOk P w H1 s'.heap ∧
    Heap.FlyingW B outer x cls a0 s'.heap ∧ (∀ b o, s.heap.get? b = some o → b ∉ frs outer → ∀ o', s'.heap.get? b = some o' → B.get? b = some o') ∧
    (∀ b u, H1 b = some u → ∀ o', s'.heap.get? b = some o' → B.get? b = some o') ∧ E cls none H1
theorem hok_fly {P : Program} {w : World} {H1 : Hp} {sh2 h' B : Heap} (hok : HOk P w H1 sh2) (kt : ∀ b u, H1 b = some u → ∀ o', sh2.get? b = some o' → B.get? b = some o') (st : B.StaysIn h') : HOk P w H1 h' := fun a o e => by
  refine (hok a o e).stay (fun b u hb q => ?_) (fun _ q => q) fun _ _ q => q
  rcases hb with rfl | hb
  · exact st b u (kt b _ e u q)
  · exact st b u (kt b _ hb u q)
theorem kt_fly {P : Program} {w : World} {H1 : Hp} {sh2 h' B : Heap} (hok : HOk P w H1 sh2) (kt : ∀ b u, H1 b = some u → ∀ o', sh2.get? b = some o' → B.get? b = some o') (st : B.StaysIn h') : ∀ b u, H1 b = some u → ∀ o', h'.get? b = some o' → B.get? b = some o' := fun b u e o' q => by
  obtain ⟨ob, eo⟩ := (hok b u e).there
  have z := kt b u e ob eo
  have z2 := st b ob z
  rw [q] at z2
  cases z2
  exact z
section
variable {P : Program} {w : World} {K : PySem.W.Frag} {mg : Str → Option Value} {base : Heap} {N : List Str} {qual : Str} {scope : Scope} {f : Addr} {cd : Value} {A : Around} {outer : List Env} {s0 : Shared} {H0 : Hp} {E : XK}
theorem leave_core {pins : List (Addr × Obj)} {σ : St} {H H1 : Hp} {s s2 : Shared} {h' B : Heap} {x : Addr} {cls a0 : Value} (I : Inv (cxOf (CXE P w) P w K mg base N qual scope f cd A outer s0 H0 E) pins σ H s)
    (os : s2.os = s.os) (bare : AllBare s2.gens) (un : Un (frs (envOfC qual scope s0.heap.objs.size f cd :: outer)) [] H H1 s.heap s2.heap) (hok : HOk P w H1 s2.heap)
    (f2 : s2.heap.FunFrames B (envOfC qual scope s0.heap.objs.size f cd :: outer)) (kb : ∀ b o, s.heap.get? b = some o → b ∉ frs (envOfC qual scope s0.heap.objs.size f cd :: outer) → ∀ o', s2.heap.get? b = some o' → B.get? b = some o')
    (kt : ∀ b u, H1 b = some u → ∀ o', s2.heap.get? b = some o' → B.get? b = some o') (hE : E cls none H1) (fl : Heap.FlyingW B outer x cls a0 h') (sm : s2.heap.UpToSlots h') :
    CXE P w outer H0 s0 E (.ref x) { s2 with heap := h' } := by
  have st := fl.1
  have U2 := un_fly un kb st sm f2
  have ib : Un (frs outer) [] H0 H s0.heap s.heap := I.base
  have U : Un (frs outer) [] H0 H1 s0.heap h' := un_drop ib U2 (Nat.le_refl _)
  have nx : ∀ b : Addr, b ∉ ([] : List Addr) := fun b z => nomatch z
  refine ⟨x, cls, a0, B, H1, rfl, os.trans I.os, bare, U, hok_fly hok kt st, fl, fun b o e hb o' q => ?_, kt_fly hok kt st, hE⟩
  obtain ⟨o1, e1⟩ := ib.there b o e (nx b)
  have hb' : b ∉ frs (envOfC qual scope s0.heap.objs.size f cd :: outer) := fun z => by
    rcases List.mem_cons.mp (show b ∈ s0.heap.objs.size :: frs outer from z) with z | z
    · subst z
      exact absurd (Heap.lt_size e) (Nat.lt_irrefl _)
    · exact hb z
  obtain ⟨o2, e2⟩ := un.there b o1 e1 (nx b)
  have z := kb b o1 e1 hb' o2 e2
  have z2 := st b o2 z
  have q' : h'.get? b = some o' := q
  rw [q'] at z2
  cases z2
  exact z
theorem passE : Passes (CXE P w) (cxOf (CXE P w) P w K mg base N qual scope f cd A outer s0 H0 E) E := by
  intro pins σ H s e s2 I hx
  obtain ⟨x, cls, a0, B, H1, rfl, os, bare, un, hok, fl, kb, kt, hE⟩ := hx
  show wpAny (model P w) (A.deeper (envOfC qual scope s0.heap.objs.size f cd)) (leaving (envOfC qual scope s0.heap.objs.size f cd) (.ref x)) _ _ s2
  exact wpAny_leaves_onW I.ok.frames rfl fl fun h' fl' sm => leave_core I os bare un hok fl.2.2.1 kb kt hE fl' sm
def RaisesTo (X : Cx) (E : XK) : Prop := ∀ (pins : List (Addr × Obj)) (σ : St) (H : Hp) (s : Shared) (h1 : Heap) (x C : Addr), Inv X pins σ H s → Heap.MadeExcOf s.heap h1 x (.ref C) [] → E (.ref C) none H → X.xe (.ref x) { s with heap := h1 }
theorem raiseE : RaisesTo (cxOf (CXE P w) P w K mg base N qual scope f cd A outer s0 H0 E) E := by
  intro pins σ H s h1 x C I hx hE
  show wpAny (model P w) (A.deeper (envOfC qual scope s0.heap.objs.size f cd)) (leaving (envOfC qual scope s0.heap.objs.size f cd) (.ref x)) _ _ { s with heap := h1 }
  have hin : ∀ env ∈ (envOfC qual scope s0.heap.objs.size f cd :: outer), ∀ a, env.frame = some a → a ∈ frs (envOfC qual scope s0.heap.objs.size f cd :: outer) := fun env he a ha => List.mem_filterMap.mpr ⟨env, he, ha⟩
  have ff := PySem.W.funFrames_hide (as := frs (envOfC qual scope s0.heap.objs.size f cd :: outer)) I.stack hin
  have kb : ∀ b o, s.heap.get? b = some o → b ∉ frs (envOfC qual scope s0.heap.objs.size f cd :: outer) → ∀ o', h1.get? b = some o' → (PySem.W.hideAll s.heap (frs (envOfC qual scope s0.heap.objs.size f cd :: outer))).get? b = some o' := fun b o e hb o' q => by
    have z := hx.keeps b o e
    rw [q] at z
    cases z
    exact PySem.W.hideAll_get _ e hb
  refine wpAny_leaves_madeW (h := s.heap) I.ok.frames rfl (fun b o q => PySem.W.of_hideAll _ q) ff hx fun h' t fl tup _ sm => ?_
  refine leave_core (s2 := { s with heap := h1 }) I rfl I.bare (Un.kept hx.keeps) (I.hok.kept hx.keeps) (ff.of_keeps fun b o e _ => ⟨o, hx.keeps b o e, rfl⟩) kb (fun b u e o' q => ?_) hE fl sm
  obtain ⟨ob, eo⟩ := (I.hok b u e).there
  refine kb b ob eo (fun z => ?_) o' q
  have := I.stkFree b z
  rw [e] at this
  cases this
end
theorem exc_obj {K : PySem.W.Frag} {h : Heap} {C : Addr} {bmB : List Value} {newId : String} (KX : K.In h) (q : PySem.W.excIn K C bmB newId = true) :
    ∃ tl N nm qn bs hdct sn sub ab col dd j0 j1 j2 j3 j5 mN, h.get? C = some (excClassObj nm qn C N bs tl hdct sn sub ab col dd j0 j1 j2 j3 j5 newId) ∧ h.Ns N mN ∧ mN "__init__" = none ∧ OwnTail h bmB tl := by
  unfold PySem.W.excIn at q
  split at q
  · rename_i d1 c1 s1 ho
    split at q
    · rename_i C2 tl j0 j1 j2 j3 idn j5 hm hs
      simp only [beq_iff_eq, Bool.and_eq_true, Bool.not_eq_true'] at q
      obtain ⟨⟨⟨⟨⟨e1, e2⟩, e3⟩, e4⟩, e5⟩, e6⟩ := q
      subst e1 e2
      obtain ⟨g1, g2, g3, g4, g5, g6, g7, g8, g9, g10, g11⟩ := c1
      dsimp only at hm e3 e5 e6
      subst hm
      subst e3
      obtain ⟨l1⟩ := s1
      have e7 : l1 = [j0, j1, j2, j3, some (.builtin idn), j5] := hs
      subst e7
      exact ⟨tl, g4, g1, g5, g2, g6, g7, g8, g9, g10, d1, j0, j1, j2, j3, j5, _, KX _ _ ho, .of_isNs (PySem.W.isNs_of_in KX e5), PySem.W.nsMap_none_of_in KX e5 e6, PySem.W.tail_of_in KX e4⟩
    · cases q
  · cases q
abbrev excTail : List Value := [.type "Exception", .type "BaseException", .type "object"]
structure Exc (K : PySem.W.Frag) (mg : Str → Option Value) (x : Str) (C : Addr) : Prop where
  bound : mg x = some (.ref C)
  cls : PySem.W.excIn K C excTail "Exception.__new__" = true
section
variable {X : Cx} {x : Str} {C : Addr} {np cpos pos : Pos} {E : XK}
def tRaise (C : Addr) (E : XK) : TS := fun _ _ H => E (.ref C) none H
theorem ps_raise (hc : X.calm = true) (hg : Gl X x) (ex : Exc X.K X.mg x C) (hE : RaisesTo X E) (hd : (x == ("__debug__" : Str)) = false := by decide) : PS X (.Raise (some (.Call (.Name x np) [] [] cpos)) none pos) (tRaise C E) := by
  intro pins s σ H D I h
  obtain ⟨tl, N, nm, qn, bs, hdct, sn, sub, ab, col, dd, j0, j1, j2, j3, j5, mN, hC, hN, hni, T⟩ := exc_obj I.kIn ex.cls
  have FB := PySem.F.excBase_Exception
  refine wpAny_Raise_call_subT (C := C) (nm := nm) (q := qn) (N := N) (bs := bs) (bm := tl) (hdct := hdct) (sn := sn) (sub := sub) (ab := ab) (col := col) (dd := dd) (k0 := j0) (k1 := j1) (k2 := j2) (k3 := j3) (k5 := j5)
    FB (mN := mN) (T.hasType FB.hasBase) (I.ok.hd hc) rfl hni (ld_glob I hg ex.bound ⟨rfl, ?_⟩ hd)
  exact evalArgs_empty ⟨rfl, Nat.zero_le _, hC, hN, T, fun h1 e hm => hE pins σ H s h1 e C I hm h⟩
end
structure Fly (X : Cx) (pins : List (Addr × Obj)) (σ : St) (H H1 : Hp) (s s2 : Shared) (B : Heap) (x : Addr) (cls a0 : Value) : Prop where
  inv : Inv X pins σ H s
  os : s2.os = s.os
  bare : AllBare s2.gens
  un : Un (frs X.stack) [] H H1 s.heap s2.heap
  hok : HOk X.prog X.w H1 s2.heap
  fl : Heap.FlyingW B X.stack x cls a0 s2.heap
  kb : ∀ b o, s.heap.get? b = some o → b ∉ frs X.stack → ∀ o', s2.heap.get? b = some o' → B.get? b = some o'
  kt : ∀ b u, H1 b = some u → ∀ o', s2.heap.get? b = some o' → B.get? b = some o'
theorem Fly.on {X : Cx} {pins : List (Addr × Obj)} {σ : St} {H H1 : Hp} {s s2 : Shared} {B h' : Heap} {x : Addr} {cls a0 : Value} (F : Fly X pins σ H H1 s s2 B x cls a0) (fl : Heap.FlyingW B X.stack x cls a0 h') (sm : s2.heap.UpToSlots h') :
    Fly X pins σ H H1 s { s2 with heap := h' } B x cls a0 := by
  refine ⟨F.inv, F.os, F.bare, un_fly F.un F.kb fl.1 sm F.fl.2.2.1, hok_fly F.hok F.kt fl.1, fl, fun b o e hb o' q => ?_, kt_fly F.hok F.kt fl.1⟩
  obtain ⟨o2, e2⟩ := F.un.there b o e (fun z => nomatch z)
  have z := F.kb b o e hb o2 e2
  have z2 := fl.1 b o2 z
  have q' : h'.get? b = some o' := q
  rw [q'] at z2
  cases z2
  exact z
theorem Fly.now {X : Cx} {pins : List (Addr × Obj)} {σ : St} {H H1 : Hp} {s s2 : Shared} {B : Heap} {x : Addr} {cls a0 : Value} (F : Fly X pins σ H H1 s s2 B x cls a0) : Inv X pins σ H1 s2 :=
  F.inv.call' F.os F.un F.hok F.bare (fun b z => nomatch z)
abbrev hcx (X : Cx) (x : Addr) : Cx := { X with A := X.A.mark (some (.ref x)), calm := false, xe := fun _ _ => False }
theorem Inv.hcx {X : Cx} {pins : List (Addr × Obj)} {σ : St} {H : Hp} {s : Shared} (I : Inv X pins σ H s) (x : Addr) : Inv (hcx X x) pins (List.replicate X.N.length none) H s :=
  have ok := I.ok
  have J : Inv X pins (List.replicate X.N.length none) H s := I.weak (by rw [List.length_replicate]; exact I.len.symm) fun i v e => by
    rw [List.getElem?_replicate] at e
    split at e <;> cases e
  ⟨⟨ok.mod, ok.kind, ok.glob, ok.blt, ok.above, ok.inj, ok.has, ok.cab, (fun z => nomatch z), ok.frames, ok.stk, ok.exf, ok.bs, ok.bsz, ok.noex, ok.exfs, ok.funs, ok.frf⟩, J.os, J.bare, J.base, J.loc, J.cell, J.free, J.freeC, J.pin, J.hok, J.len⟩
theorem Inv.unhcx {X : Cx} {pins : List (Addr × Obj)} {σ : St} {H : Hp} {s : Shared} {x : Addr} (ok : X.Ok) (J : Inv (L2.hcx X x) pins σ H s) : Inv X pins σ H s :=
  ⟨ok, J.os, J.bare, J.base, J.loc, J.cell, J.free, J.freeC, J.pin, J.hok, J.len⟩
theorem SP.unhcx {X : Cx} {pins : List (Addr × Obj)} {D : Ends} {x : Addr} {f : Flow} {s : Shared} (ok : X.Ok) (h : SP (hcx X x) pins D f s) : SP X pins D f s := by
  cases f with
  | next => obtain ⟨σ', H', I, q⟩ := h; exact ⟨σ', H', I.unhcx ok, q⟩
  | brk => obtain ⟨σ', H', I, q⟩ := h; exact ⟨σ', H', I.unhcx ok, q⟩
  | cont => obtain ⟨σ', H', I, q⟩ := h; exact ⟨σ', H', I.unhcx ok, q⟩
  | ret u => obtain ⟨v, σ', H', I, r, q⟩ := h; exact ⟨v, σ', H', I.unhcx ok, r, q⟩
theorem exm_mk {K : PySem.W.Frag} {t : Value} {C : Addr} {cd : ClassData} {b : Bool} (h1 : PySem.W.subIn K (.ref C) (.type "BaseException") = some true) (h2 : PySem.W.clsIn K C = some cd) (h3 : PySem.W.typeIn K (.ref C) = some (.type "type"))
    (h4 : PySem.W.subIn K t (.ref C) = some b) : PySem.W.exmOne K t (.ref C) = some b := by
  unfold PySem.W.exmOne PySem.W.kitCls
  rw [h1, if_pos (beq_self_eq_true _)]
  dsimp only
  rw [h2, h3, if_pos (by simp), h4]
section
variable {X : Cx} {pins : List (Addr × Obj)} {σ : St} {H H1 : Hp} {s s2 : Shared} {B : Heap} {e C : Addr} {cls a0 : Value} {x : Str} {np hpos : Pos} {b0 : Stmt} {suite : List Stmt} {rest : List ExceptHandler} {D : Ends} {th : TS}
theorem try_test {R : Flow → Shared → Prop} {E : Value → Shared → Prop} {b : Bool} (F : Fly X pins σ H H1 s s2 B e cls a0) (hg : Gl X x) (hm : X.mg x = some (.ref C)) (hx : PySem.W.exmOne X.K cls (.ref C) = some b) (hd : (x == ("__debug__" : Str)) = false)
    {Rr : Result → Shared → Prop} (k : Rr (.ok (if b then .brk else .next)) s2) : codeAny (model X.prog X.w) (X.A.mark (some (.ref e))) (.handlers (.ref e) [.ExceptHandler (some (.Name x np)) none [] hpos] X.env) Rr s2 := by
  have I := F.now.hcx e
  obtain ⟨ob, hob, hobc⟩ := F.fl.there
  refine codeAny_handlers_test (ld_glob (X := hcx X e) I hg hm ?_ hd)
  have LT : PySem.W.Looks (model X.prog X.w) s2.heap (typeOf (.ref e)) cls := hobc ▸ (PySem.W.Looks.ld hob).andThen .now
  exact PySem.W.exm_one (K := X.K) I.kIn LT hx _ _ _ _ (fun _ _ q => q) k
theorem try_enter (F : Fly X pins σ H H1 s s2 B e cls a0) (hg : Gl X x) (hm : X.mg x = some (.ref C)) (hx : PySem.W.exmOne X.K cls (.ref C) = some true) (hh : PSs (hcx X e) (b0 :: suite) th) (h : th D (List.replicate X.N.length none) H1) (hd : (x == ("__debug__" : Str)) = false) :
    wpAny (model X.prog X.w) X.A (handleBy (.ref e) X.env (.ExceptHandler (some (.Name x np)) none (b0 :: suite) hpos :: rest)) (SP X pins D) X.xe s2 := by
  refine wpAny_handleBy_cons (try_test (R := fun _ _ => True) (E := fun _ _ => True) F hg hm hx hd ?_) (by intro q; cases q)
  refine codeAny_handlers_suite (lands_againW F.fl fun h6 fl6 sm6 => ?_)
  have F6 := F.on fl6 sm6
  exact wpAny_mono (hh pins _ _ H1 D (F6.now.hcx e) h) (fun f s3 q => q.unhcx F.inv.ok) fun _ _ z => z.elim
theorem try_skip (F : Fly X pins σ H H1 s s2 B e cls a0) (hg : Gl X x) (hm : X.mg x = some (.ref C)) (hx : PySem.W.exmOne X.K cls (.ref C) = some false) (hd : (x == ("__debug__" : Str)) = false)
    (h : wpAny (model X.prog X.w) X.A (handleBy (.ref e) X.env rest) (SP X pins D) X.xe s2) :
    wpAny (model X.prog X.w) X.A (handleBy (.ref e) X.env (.ExceptHandler (some (.Name x np)) none (b0 :: suite) hpos :: rest)) (SP X pins D) X.xe s2 := by
  refine wpAny_handleBy_cons (try_test (R := fun _ _ => True) (E := fun _ _ => True) F hg hm hx hd ?_) (by intro q; cases q)
  exact h
end
abbrev tcx (X : Cx) (pn : List (Addr × Obj)) (W : Value → Shared → Prop) : Cx := { X with pn := pn, xe := W }
theorem Inv.tcx {X : Cx} {pins : List (Addr × Obj)} {σ : St} {H : Hp} {s : Shared} (I : Inv X pins σ H s) (W : Value → Shared → Prop) : Inv (tcx X (X.pn ++ pins) W) [] σ H s :=
  have ok := I.ok
  ⟨⟨ok.mod, ok.kind, ok.glob, ok.blt, ok.above, ok.inj, ok.has, ok.cab, ok.hd, ok.frames, ok.stk, ok.exf, ok.bs, ok.bsz, ok.noex, ok.exfs, ok.funs, ok.frf⟩, I.os, I.bare, I.base, I.loc, I.cell, I.free, I.freeC, fun p hp => I.pin p (by simpa using hp), I.hok, I.len⟩
theorem Inv.untcx {X : Cx} {pins pins' : List (Addr × Obj)} {σ : St} {H : Hp} {s : Shared} {W : Value → Shared → Prop} (I : Inv (L2.tcx X (X.pn ++ pins) W) pins' σ H s) : Inv X pins σ H s :=
  have ok := I.ok
  ⟨⟨ok.mod, ok.kind, ok.glob, ok.blt, ok.above, ok.inj, ok.has, ok.cab, ok.hd, ok.frames, ok.stk, ok.exf, ok.bs, ok.bsz, ok.noex, ok.exfs, ok.funs, ok.frf⟩, I.os, I.bare, I.base, I.loc, I.cell, I.free, I.freeC, fun p hp => I.pin p (List.mem_append_left _ hp), I.hok, I.len⟩
theorem SP.untcx {X : Cx} {pins : List (Addr × Obj)} {D : Ends} {W : Value → Shared → Prop} {f : Flow} {s : Shared} (h : SP (tcx X (X.pn ++ pins) W) [] D f s) : SP X pins D f s := by
  cases f with
  | next => obtain ⟨σ', H', I, q⟩ := h; exact ⟨σ', H', I.untcx, q⟩
  | brk => obtain ⟨σ', H', I, q⟩ := h; exact ⟨σ', H', I.untcx, q⟩
  | cont => obtain ⟨σ', H', I, q⟩ := h; exact ⟨σ', H', I.untcx, q⟩
  | ret u => obtain ⟨v, σ', H', I, r, q⟩ := h; exact ⟨v, σ', H', I.untcx, r, q⟩
section
variable {X : Cx} {body : List Stmt} {tb : XK → TS} {h0 : ExceptHandler} {hs : List ExceptHandler} {pos : Pos}
def tTry (EH : Ends → XK) (tb : XK → TS) : TS := fun D σ H => tb (EH D) D σ H
theorem ps_try {EH : Ends → XK} (hst : X.stack = X.env :: X.outer) (hf : X.env.frame = some X.env.locals) (hb : ∀ (pn : List (Addr × Obj)) (W : Value → Shared → Prop) (E : XK), Passes (CXE X.prog X.w) (tcx X pn W) E → PSs (tcx X pn W) body (tb E))
    (hh : ∀ (pins : List (Addr × Obj)) (σ : St) (H H1 : Hp) (s s2 : Shared) (B : Heap) (e : Addr) (cls a0 : Value) (D : Ends), Fly X pins σ H H1 s s2 B e cls a0 → EH D cls none H1 → wpAny (model X.prog X.w) X.A (handleBy (.ref e) X.env (h0 :: hs)) (SP X pins D) X.xe s2) :
    PS X (.Try body (h0 :: hs) [] [] pos) (tTry EH tb) := by
  intro pins s σ H D I h
  refine wpAny_Try_except ?_
  refine wpAny_mono (hb (X.pn ++ pins) (fun e s₁ => wpAny (model X.prog X.w) X.A (noteFrame e X.env) (fun _ s₂ => wpAny (model X.prog X.w) X.A (setFlight e none) (fun _ s₃ => wpAny (model X.prog X.w) X.A (handleBy e X.env (h0 :: hs)) (SP X pins D) X.xe s₃) X.xe s₂) X.xe s₁) (EH D) ?_ [] s σ H D (I.tcx _) h) (fun f s1 q => ?_) fun _ _ z => z
  · intro pins' σ' H' s' e s'' J hx
    obtain ⟨x, cls, a0, B, H1, rfl, os, bare, un, hok, fl, kb, kt, hE⟩ := hx
    have F : Fly X pins σ' H' H1 s' s'' B x cls a0 := ⟨J.untcx, os, bare, un, hok, fl, kb, kt⟩
    have hfr : X.A.frames = some (X.env :: X.outer) := by rw [← hst]; exact I.ok.frames
    have fl' : Heap.FlyingW B (X.env :: X.outer) x cls a0 s''.heap := hst ▸ fl
    refine wpAny_looks_onW hfr hf fl' fun h4 held4 sm4 => wpAny_landsW held4 fun h5 fl5 sm5 => ?_
    exact hh pins σ' H' H1 s' _ B x cls a0 D (F.on (h' := h5) (by rw [hst]; exact fl5) (sm4.trans sm5)) hE
  · cases f with
    | next => exact wpAny_execs_nil (SP.untcx q)
    | brk => exact SP.untcx q
    | cont => exact SP.untcx q
    | ret v => exact SP.untcx q
end
section
variable {P : Program} {w : World} {K : PySem.W.Frag} {mg : Str → Option Value} {base : Heap}
theorem Fun.okE {x qual : Str} {st : Stmt} {f : Addr} {fd : FuncData} {N ps : List Str} {k : Nat} {sp : Sp} (F : Fun K x qual st f fd) (S : FnScope N ps (defScope st)) (len : ∀ vs H Q E, sp vs H Q E → vs.length = ps.length)
    (hbody : ∀ (cdv : Value) (A : Around) (outer : List Env) (s : Shared) (H : Hp) (vs : List V) (Q : VK) (E : XK), Room k (A.deeper (envOfC qual (defScope st) s.heap.objs.size f cdv)) → sp vs H Q E →
      ∃ t, PSs (cxOf (CXE P w) P w K mg base N qual (defScope st) f cdv A outer s H E) (defBody st) t ∧ t { nx := fun _ H' => Q .non H', rt := Q } (start N vs) H) : FnOk P w K mg base (CXE P w) (k + 1) f fd ps sp := by
  obtain ⟨oc, od, kV, doc, pm, an, cdv, ct, osl, rfl, lk, hcd⟩ := F.ex
  exact fn_of lk hcd S len fun A outer s H vs Q E hr hsp => hbody cdv A outer s H vs Q E hr hsp
end
end L2
set_option linter.all false
set_option maxRecDepth 100000
namespace L2
open PySem PySem.Spec PyProof.Rows
theorem rv_nolen : typeLookup (.type "list_reverseiterator") "__len__" = pure none := by
  rw [typeLookup_type, builtinLookup_eq_fast]
  kernel_rfl
theorem rv_hint : typeLookup (.type "list_reverseiterator") "__length_hint__" = pure (some (.builtin "list_reverseiterator.__length_hint__")) := by
  rw [typeLookup_type, builtinLookup_eq_fast]
  kernel_rfl
section
variable {prog : Program} {w : World} {A : Around} {E : Value → Shared → Prop} {s : Shared} {it l : Addr} {items : Array Value}
theorem call_list_rv {Q : Value → Shared → Prop} (hh : A.handled = none) (hit : s.heap.IsRevIter it l ((items.size : Int) - 1)) (hl : s.heap.IsList l items) (hne : l ≠ it) (hz : items.size ≤ sizeLine)
    (hQ : ∀ (s' : Shared) (acc : Array Value) (c : Nat), (∀ b o, b ≠ it → s.heap.get? b = some o → s'.heap.get? b = some o) → s'.gens = s.gens → s'.drawn = s.drawn → s'.os = s.os →
      s'.heap.get? s.heap.objs.size = some { cls := .type "list", dict := none, data := .seq acc c, slots := #[] } → acc.toList = items.toList.reverse → Q (.ref s.heap.objs.size) s') :
    wpAny (model prog w) A (call (.type "list") [.ref it]) Q E s := by
  have lt1 : it < s.heap.objs.size := by obtain ⟨o, ho, _⟩ := hit; exact Heap.lt_size ho
  have lt2 : l < s.heap.objs.size := by obtain ⟨o, ho, _⟩ := hl; exact Heap.lt_size ho
  have n1 : s.heap.objs.size ≠ it := fun e => absurd (e ▸ lt1) (Nat.lt_irrefl _)
  have n2 : s.heap.objs.size ≠ l := fun e => absurd (e ▸ lt2) (Nat.lt_irrefl _)
  have out : s.heap.objs.size ∉ [it, l] := fun z => by
    rcases List.mem_cons.mp z with z | z
    · exact n1 z
    · exact n2 (List.mem_singleton.mp z)
  have W := (Walks.listRev (prog := prog) (w := w) (A := A.in1.in1) hh it l hne items).toS
  refine callType_codes (Q₁ := fun v t => v = .ref s.heap.objs.size ∧ t = { s with heap := s.heap.push { cls := .type "list", data := .seq #[] } }) F.called_list (F.typeCall_list_1 _) F.entry_list_init
    (code_list_new _ ⟨rfl, rfl⟩) fun v t z => ?_
  obtain ⟨e1, e2⟩ := z
  subst e1
  subst e2
  have new : (s.heap.push { cls := .type "list", data := .seq #[] }).get? s.heap.objs.size = some { cls := .type "list", data := .seq #[] } := Heap.get?_push_size _ rfl
  refine ⟨⟨_, new, rfl⟩, F.args_list_init_2 _ _, ?_⟩
  show wpAny _ A.in1.in1 (Builtin.List.listItems (.ref s.heap.objs.size) >>= fun old => Builtin.List.listUpdate (.ref s.heap.objs.size) (fun _ => #[]) >>= fun _ => letGo old.toList.reverse >>= fun _ => Builtin.List.listExtendWith (.ref s.heap.objs.size) (.ref it) .none) _ _ _
  refine wpAny_bind ?_
  unfold Builtin.List.listItems
  refine wpAny_bind (wpAny_seqItems new rfl (wpAny_pure ?_))
  refine wpAny_bind (wpAny_updateSeq new rfl ?_)
  refine wpAny_bind (wpAny_letGo ?_)
  have new2 := Heap.get?_update_self (Obj.mapSeq (fun _ => (#[] : Array Value))) new rfl
  have kp : ∀ b o, s.heap.get? b = some o → ((s.heap.push { cls := .type "list", data := .seq #[] }).update s.heap.objs.size (Obj.mapSeq (fun _ => (#[] : Array Value)))).get? b = some o := fun b o q =>
    (Heap.get?_update_other _ _ (fun e => absurd (e ▸ Heap.lt_size q) (Nat.lt_irrefl _))).trans (Heap.get?_push_of_some _ q)
  have st0 : 0 ≤ items.size ∧ Heap.IsRevIter ((s.heap.push { cls := .type "list", data := .seq #[] }).update s.heap.objs.size (Obj.mapSeq (fun _ => (#[] : Array Value)))) it l ((items.size : Int) - 1 - ((0 : Nat) : Int)) ∧ Heap.IsList ((s.heap.push { cls := .type "list", data := .seq #[] }).update s.heap.objs.size (Obj.mapSeq (fun _ => (#[] : Array Value)))) l items := by
    refine ⟨Nat.zero_le _, ?_, hl.at fun o q => kp l o q⟩
    have e : (items.size : Int) - 1 - ((0 : Nat) : Int) = (items.size : Int) - 1 := by omega
    rw [e]
    exact hit.at fun o q => kp it o q
  have ty : ∀ {h : Heap} {g d t os}, h.IsRevIter it l ((items.size : Int) - 1 - ((0 : Nat) : Int)) → (⟨h, g, d, t, os⟩ : Shared).TypeIs (.ref it) "list_reverseiterator" := fun {h g d t os} x => Heap.IsRevIter.typeIs (s := ⟨h, g, d, t, os⟩) x
  unfold Builtin.List.listExtendWith
  refine wpAny_bind (wpAny_typeOf (ty st0.2.1) ?_)
  have no : Builtin.List.listSameRef (.ref s.heap.objs.size) (.ref it) = false := by simp [Builtin.List.listSameRef, n1]
  rw [if_neg (by rw [no]; decide)]
  refine wpAny_bind (W.self 0 _ _ _ st0 ?_)
  refine wpAny_bind (wpAny_holding ?_)
  unfold Builtin.List.listLengthHint
  refine wpAny_bind (wpAny_specialOf (ty st0.2.1) rv_nolen ?_)
  show wpAny _ A.in1.in1 (specialOf (Value.ref it) (Str.ofString "__length_hint__") >>= _) _ _ _
  refine wpAny_bind (wpAny_specialOf (ty st0.2.1) rv_hint ?_)
  generalize hid : ("list_reverseiterator.__length_hint__" : String) = idn
  wp_delta
  rw [show splitId idn = some ("list_reverseiterator", "__length_hint__") from by subst hid; decide +kernel]
  subst hid
  refine wpAny_bind (wpAny_isInstance (b := true) (ty st0.2.1) (by rw [isSubtype_type]; kernel_rfl) ?_)
  refine wpAny_pure ?_
  rw [if_neg (by decide)]
  refine wpAny_pure ⟨plainId_quiet F.plain_extend_loop _, codeAny_extend_loopS W hz _ out _ items.size 0 _ _ _ rfl (Nat.zero_le _) st0 new2 (ItemsOf.nil _) fun s' acc c hm e3 hacc => ?_⟩
  refine ⟨rfl, hQ s' acc c (fun b o hb q => ?_) hm.gens hm.drawn hm.os e3 ?_⟩
  · refine hm.heap b o (fun z => ?_) (kp b o q)
    rcases List.mem_cons.mp z with z | z
    · exact absurd (z ▸ Heap.lt_size q) (Nat.lt_irrefl _)
    · exact hb (List.mem_singleton.mp z)
  · obtain ⟨z1, z2⟩ := hacc
    apply List.ext_getElem?
    intro j
    by_cases hj : j < items.size
    · have q : acc[j]? = some (acc[j]'(by omega)) := Array.getElem?_eq_getElem (by omega)
      have q2 := z2 j _ q
      rw [Array.getElem?_toList, q, ← q2, List.getElem?_reverse (by simpa using hj)]
      simp
    · rw [List.getElem?_eq_none (by simp; omega), List.getElem?_eq_none (by simp; omega)]
end
section
variable {X : Cx} {e : Expr} {te : TE} {p p2 pos pos2 : Pos}
def tListRev (K : PySem.W.Frag) (te : TE) : TE := fun σ H Q => te σ H fun x H1 => ∃ a xs, x = .ref a ∧ SqL K H1 a xs ∧ ∀ l, H1 l = none → Q (.ref l) (upd H1 l (.lst xs.reverse))
theorem pe_listrev (hc : X.calm = true) (hg : Gl X "list") (hm : X.mg "list" = none) (hg2 : Gl X "reversed") (hm2 : X.mg "reversed" = none) (he : PE X e te)
    (hs : starEach [e] X.env = [(false, eval e X.env)] := by rfl) (hs2 : starEach [.Call (.Name "reversed" p2) [e] [] pos2] X.env = [(false, eval (.Call (.Name "reversed" p2) [e] [] pos2) X.env)] := by rfl) :
    PE X (.Call (.Name "list" p) [.Call (.Name "reversed" p2) [e] [] pos2] [] pos) (tListRev X.K te) := by
  intro pins s σ H Q I h
  refine wpAny_Call_Name_kw (ld_blt I hg hm (show bootBuiltins "list" = some (.type "list") by decide +kernel) ?_)
  refine PyProof.Rows.callWith_type1 ?_ hs2 rfl
  rw [hs2]
  refine Calls.spliced_cons ?_
  refine wpAny_Call_Name_kw (ld_blt I hg2 hm2 boot_reversed5 (PyProof.Rows.callWith_type1 ?_ hs rfl))
  rw [hs]
  refine Calls.spliced_cons (thn (he pins s σ H _ I h) fun u s1 ⟨x, H1, I1, r1, a, xs, ex, hq, q⟩ => Calls.spliced_nil ?_)
  subst ex
  cases r1
  obtain ⟨its, rv, pl, hz⟩ := I1.list hq
  have hl := rv.length
  refine call_reversed_list pl.isList (Calls.spliced_nil ?_)
  have lt2 : a < s1.heap.objs.size := by obtain ⟨o, n, e, _⟩ := pl; exact Heap.lt_size e
  refine call_list_rv (l := a) (items := its.toArray) (I.ok.hd hc) ⟨_, Heap.get?_push_size _ rfl, rfl, rfl⟩ (pl.isList.push _) (fun z => absurd (z ▸ lt2) (Nat.lt_irrefl _)) (by rw [List.size_toArray, ← hl]; exact hz) fun s' acc c kp hg' hd' ho' e1 e2 => ?_
  have kp' : ∀ b o, s1.heap.get? b = some o → s'.heap.get? b = some o := fun b o z => kp b o (fun e => absurd (e ▸ Heap.lt_size z) (Nat.lt_irrefl _)) (Heap.get?_push_of_some _ z)
  obtain ⟨hh, gg, dd, tt, oo⟩ := s'
  have g1 : gg = s1.gens := hg'
  have g2 : dd = s1.drawn := hd'
  have g3 : oo = s1.os := ho'
  subst g1 g2 g3
  have sz : (s1.heap.push { cls := .type "list_reverseiterator", data := .fields #[.ref a, .int ((its.toArray.size : Int) - 1) 0] }).objs.size = s1.heap.objs.size + 1 := by simp
  refine ⟨.ref _, _, I1.laid (t' := tt) (o := .lst xs.reverse) kp' (by rw [Heap.size_push]; exact Nat.le_succ _) ⟨by rw [List.length_reverse]; exact hz, acc.toList, c, by rw [e2]; exact rv.reverse, e1⟩, rfl, q _ (I1.hok.fresh (by rw [Heap.size_push]; exact Nat.le_succ _))⟩
end
theorem truth_ints {prog : Program} {w : World} {A : Around} {ns : List Int} {its : List Value} (e : Vals (ns.map V.int) its) : TruthOf prog w A (fun i v => its.toArray[i]? = some v) (fun i => ns.getD i 0 != 0) := fun i v s Q E hv hq => by
  have hv' : its[i]? = some v := by simpa using hv
  have hl := e.length
  have hi : i < its.length := (List.getElem?_eq_some_iff.mp hv').1
  have hn : ns[i]? = some (ns[i]'(by rw [List.length_map] at hl; omega)) := List.getElem?_eq_getElem _
  obtain ⟨u, hu, ru⟩ := e.get (i := i) (x := V.int (ns[i]'(by rw [List.length_map] at hl; omega))) (by rw [List.getElem?_map, hn]; rfl)
  rw [hv'] at hu
  cases hu
  obtain ⟨t, rfl⟩ := ru
  have hg : ns.getD i 0 = ns[i]'(by rw [List.length_map] at hl; omega) := by rw [List.getD_eq_getElem?_getD, hn]; rfl
  have hq' : Q (ns.getD i 0 != 0) s := hq
  rw [hg] at hq'
  exact truthy_int hq'
theorem any_rangeI : ∀ ns : List Int, (List.range ns.length).any (fun i => ns.getD i 0 != 0) = ns.any (fun z => z != 0)
  | [] => rfl
  | b :: bs => by
    rw [List.length_cons, List.range_succ_eq_map, List.any_cons, List.any_map, List.any_cons, ← any_rangeI bs]
    rfl
section
variable {X : Cx}
def rAnyI (K : PySem.W.Frag) : List V → Hp → VK → Prop := fun vs H Q => ∃ (a : Addr) (ns : List Int), vs = [V.ref a] ∧ SqL K H a (ns.map V.int) ∧ Q (.bl (ns.any fun z => z != 0)) H
theorem cr_anyI (hc : X.calm = true) : CallR X (.builtin "any") (rAnyI X.K) := by
  intro pins s σ H vs us Q I r h
  obtain ⟨a, ns, rfl, hs, q⟩ := h
  obtain ⟨its, rv, hl, _⟩ := I.list hs
  rw [Vals.ref1 r]
  refine call_any_walk (iter_any hl.isList fun s₂ e2 st hne => ?_)
  subst e2
  refine ⟨_, _, _, _, _, _, _, rfl, Walks.list (A := X.A.in1) (I.ok.hd hc) _ a hne its.toArray, st, truth_ints rv, fun h' tk hk => ?_⟩
  refine ⟨.bl _, H, I.kept fun b o eo => hk b o (fun hmem => ?_) (Heap.get?_push_of_some _ eo), ?_, q⟩
  · rcases List.mem_cons.mp hmem with e1 | hmem
    · exact absurd (e1 ▸ Heap.lt_size eo) (Nat.lt_irrefl _)
    · cases hmem
  · show Value.bool _ = Value.bool _
    have hl := rv.length
    rw [List.length_map] at hl
    rw [← any_rangeI, List.size_toArray, hl]
def rCountI (K : PySem.W.Frag) : V → List V → Hp → VK → Prop := fun x xs H Q => ∃ (a : Addr) (ns : List Int) (z : Int), x = V.ref a ∧ xs = [.int z] ∧ SqL K H a (ns.map V.int) ∧ Q (.int ((ns.count z : Nat) : Int)) H
theorem countP_eqU {z : Int} : ∀ {ns : List Int} {us : List Value}, Vals (ns.map V.int) us → us.countP (eqU (.int z)) = ns.count z
  | [], us, r => by
    rw [List.map_nil] at r
    cases r
    rfl
  | n :: ns, us, r => by
    rw [List.map_cons] at r
    cases r with
    | cons r1 r2 =>
      obtain ⟨t, rfl⟩ := r1
      rw [List.countP_cons, countP_eqU r2, List.count_cons]
      rfl
theorem all_flatI : ∀ ns : List Int, (ns.map V.int).all flatV = true
  | [] => rfl
  | _ :: ns => by rw [List.map_cons, List.all_cons, all_flatI ns]; rfl
theorem mt_countI : MtR X "list.count" (rCountI X.K) := by
  intro pins s σ H x xs v us Q I rx rxs h
  obtain ⟨a, ns, z, rfl, rfl, hs, q⟩ := h
  cases rx
  cases rxs with
  | cons ry rt =>
    rename_i uy ut
    cases rt
    obtain ⟨its, rv, ⟨⟨cls, dd, data, sl⟩, n, ho, hc, hdn, hd⟩, hlen⟩ := I.list hs
    simp only at hc hd
    subst hc hd
    refine call_meets PySem.F.slot_list_count ⟨_, ho, rfl⟩ PySem.F.entry_list_count (PySem.F.args_list_count_2 _ _)
      (SeqAt.list_countAt a its.toArray n dd sl uy (eqU (.int z))) ⟨ho, fun u' hu' => mem_eqAt ry rfl rv (all_flatI ns) u' (by simpa using hu'), ?_⟩
    have e3 := countP_eqU (z := z) rv
    refine ⟨.int ((ns.count z : Nat) : Int), H, I.tok _, ⟨s.toks, ?_⟩, q⟩
    show Value.int ((its.countP (eqU (.int z)) : Nat) : Int) s.toks = _
    rw [e3]
end
section
open PySem.SeqAt
open PySem.AutoSeq1 (wpAny_loadPart')
open PySem.MeetsSeq PySem.MeetsSeq2 PySem.MeetsSeq3
theorem ints_at {its : Array Value} {ns : List Int} (h : IntsAre its.toList ns) {i : Nat} (hi : i < its.size) : ∃ z t, its[i]? = some (.int z t) ∧ ns[i]? = some z := by
  have r := vals_of_ints h
  have hl := r.length
  have hn : i < ns.length := by simp at hl; omega
  obtain ⟨u, hu, ru⟩ := r.get (i := i) (x := V.int ns[i]) (by rw [List.getElem?_map, List.getElem?_eq_getElem hn]; rfl)
  obtain ⟨t, rfl⟩ := ru
  exact ⟨ns[i], t, by simpa using hu, List.getElem?_eq_getElem hn⟩
theorem lt_loop (l b : Addr) (items items2 : Array Value) (n n2 : Nat) (dd dd2 : Option Addr) (sl sl2 : Array (Option Value)) (ns ms : List Int) (hi : IntsAre items.toList ns) (hj : IntsAre items2.toList ms) (hsz : items.size = items2.size) (k : Nat) :
    ∀ i : Nat, items.size - i = k → Meets (Builtin.«list.__eq__.loop» ⟨[.ref l, .ref b, rawInt i, rawInt 0], []⟩)
      (fun _ R s => s.heap.get? l = some { cls := .type "list", dict := dd, data := .seq items n, slots := sl } ∧ s.heap.get? b = some { cls := .type "list", dict := dd2, data := .seq items2 n2, slots := sl2 } ∧
        R (.ok (.ret (.bool (HT.lexLt (ns.drop i) (ms.drop i))))) s) := by
  have z1 : items.size = ns.length := by rw [← hi.length]; simp
  have z2 : items2.size = ms.length := by rw [← hj.length]; simp
  induction k with
  | zero =>
    intro i hk prog w A R s h
    obtain ⟨hp, g, d, tk, os⟩ := s
    obtain ⟨e1, e2, h⟩ := h
    wp_walk using wpAny_loadPart' e1, wpAny_loadPart' e2
    have i1 : items[((i : Nat) : Int).toNat]? = none := by simp; omega
    have i2 : items2[((i : Nat) : Int).toNat]? = none := by simp; omega
    rw [i1, i2]
    wp_walk using wpAny_loadPart' e1, wpAny_loadPart' e2
    rw [List.drop_eq_nil_of_le (by omega), List.drop_eq_nil_of_le (by omega)] at h
    show R (.ok (.ret (.bool (decide (items.size < items2.size))))) _
    rw [decide_eq_false (by omega)]
    exact h
  | succ k ih =>
    intro i hk prog w A R s h
    obtain ⟨hp, g, d, tk, os⟩ := s
    obtain ⟨e1, e2, h⟩ := h
    wp_walk using wpAny_loadPart' e1, wpAny_loadPart' e2
    have h1 : i < items.size := by omega
    have h2 : i < items2.size := by omega
    obtain ⟨a, t, ea, na⟩ := ints_at hi h1
    obtain ⟨c, u, ec, nc⟩ := ints_at hj h2
    have i1 : items[((i : Nat) : Int).toNat]? = some (.int a t) := by simpa using ea
    have i2 : items2[((i : Nat) : Int).toNat]? = some (.int c u) := by simpa using ec
    have hn : i < ns.length := by omega
    have hm : i < ms.length := by omega
    have d1 : ns.drop i = a :: ns.drop (i + 1) := by
      rw [List.drop_eq_getElem_cons hn]
      rw [List.getElem?_eq_getElem hn] at na
      rw [Option.some.inj na]
    have d2 : ms.drop i = c :: ms.drop (i + 1) := by
      rw [List.drop_eq_getElem_cons hm]
      rw [List.getElem?_eq_getElem hm] at nc
      rw [Option.some.inj nc]
    have nx : ((i : Int) + 1) = ((i + 1 : Nat) : Int) := by push_cast; rfl
    rw [d1, d2, HT.lexLt_cons] at h
    rw [i1, i2]
    obtain ⟨e, he, hiff⟩ := HT.eqAt_int A.in1 ⟨hp, g, d, tk, os⟩ a t c u
    refine wpAny_bind (he prog w _ _ ?_)
    cases e with
    | true =>
      rw [if_pos (hiff.mp rfl)] at h
      wp_walk
      rw [nx]
      refine ⟨plainId_quiet plain_eq_loop _, codeAny_builtin entry_eq_loop ?_⟩
      rw [Around.under_plainId plain_eq_loop _]
      exact ih (i + 1) (by omega) prog w A R _ ⟨e1, e2, h⟩
    | false =>
      rw [if_neg (fun q => absurd (hiff.mpr q) Bool.false_ne_true)] at h
      have hri := HT.rcLt_int A.in1 ⟨hp, g, d, tk, os⟩ a t c u prog w
      wp_walk using wpAny_loadPart' e1, wpAny_loadPart' e2
      rw [i1, i2]
      wp_walk using hri
      exact h
theorem list_lt_ints (l b : Addr) (items items2 : Array Value) (n n2 : Nat) (dd dd2 : Option Addr) (sl sl2 : Array (Option Value)) (ns ms : List Int) (hi : IntsAre items.toList ns) (hj : IntsAre items2.toList ms) (hsz : items.size = items2.size) :
    Meets (Builtin.«list.__lt__» ⟨[.ref l, .ref b], []⟩)
      (fun _ R s => s.heap.get? l = some { cls := .type "list", dict := dd, data := .seq items n, slots := sl } ∧ s.heap.get? b = some { cls := .type "list", dict := dd2, data := .seq items2 n2, slots := sl2 } ∧
        R (.ok (.ret (.bool (HT.lexLt ns ms)))) s) := by
  intro prog w A R s h
  obtain ⟨hp, g, d, tk, os⟩ := s
  obtain ⟨e1, e2, h⟩ := h
  have f3 := AutoSeq1.sub_list_list
  wp_walk using wpAny_loadPart' e1, wpAny_loadPart' e2
  refine ⟨plainId_quiet plain_eq_loop _, codeAny_builtin entry_eq_loop ?_⟩
  rw [Around.under_plainId plain_eq_loop _]
  exact lt_loop l b items items2 n n2 dd dd2 sl sl2 ns ms hi hj hsz _ 0 rfl prog w A R _ ⟨e1, e2, by simpa using h⟩
end
section
variable {X : Cx}
def rLtL (K : PySem.W.Frag) : R2 := fun x y H Q => ∃ a b ns ms, x = .ref a ∧ y = .ref b ∧ SqL K H a (ns.map V.int) ∧ SqL K H b (ms.map V.int) ∧ ns.length = ms.length ∧ Q (.bl (HT.lexLt ns ms)) H
theorem op_ltL (hu : X.A.units < cLine) : OpR X (compareOp .Lt) (rLtL X.K) := by
  intro pins s σ H x y v u Q I rx ry h
  obtain ⟨a, b, ns, ms, rfl, rfl, ha, hb, hz, q⟩ := h
  cases rx
  cases ry
  obtain ⟨its, r1, ⟨⟨cls, dd, data, sl⟩, n, ho, hc, hdn, hd⟩, _⟩ := I.list ha
  obtain ⟨its2, r2, ⟨⟨cls2, dd2, data2, sl2⟩, n2, ho2, hc2, hdn2, hd2⟩, _⟩ := I.list hb
  simp only at hc hd hc2 hd2
  subst hc hd hc2 hd2
  have i1 : IntsAre its.toArray.toList ns := intsAre_of r1
  have i2 : IntsAre its2.toArray.toList ms := intsAre_of r2
  have l1 := r1.length
  have l2 := r2.length
  rw [List.length_map] at l1 l2
  exact richCompare_meets_room (op := .Lt) ⟨_, ho, rfl⟩ ⟨_, ho2, rfl⟩ PySem.F.slot_list_lt PySem.F.entry_list_lt (PySem.F.args_list_lt_2 _ _) (list_lt_ints a b its.toArray its2.toArray n n2 dd dd2 sl sl2 ns ms i1 i2 (by rw [List.size_toArray, List.size_toArray, ← l1, ← l2, hz]))
    ⟨ho, ho2, show Value.bool (HT.lexLt ns ms) ≠ Value.notImplemented ∧ EP X pins σ Q (.bool (HT.lexLt ns ms)) s from ⟨(fun x => nomatch x), ⟨.bl (HT.lexLt ns ms), H, I, rfl, q⟩⟩⟩ hu
end
end L2
set_option linter.all false
namespace MM
open Sn28
def IsB (b : Bytes) : Prop := ∀ c ∈ b, c < 256
theorem at_lt {b : Bytes} (h : IsB b) (i : Nat) : at_ b i < 256 := by
  unfold at_
  rw [List.getD_eq_getElem?_getD]
  cases q : b[i]? with
  | none => decide
  | some v => exact h v (List.mem_of_getElem? q)
theorem at_get {b : Bytes} {i : Nat} (h : i < b.length) : b[i]? = some (at_ b i) := by
  unfold at_
  rw [List.getD_eq_getElem?_getD, List.getElem?_eq_getElem h]
  rfl
theorem at_sub {b : Bytes} {p m i : Nat} (h : i < m) : at_ ((b.drop p).take m) i = at_ b (p + i) := by
  unfold at_
  rw [List.getD_eq_getElem?_getD, List.getD_eq_getElem?_getD, List.getElem?_take_of_lt h, List.getElem?_drop]
theorem at_drop {b : Bytes} {p i : Nat} : at_ (b.drop p) i = at_ b (p + i) := by
  unfold at_
  rw [List.getD_eq_getElem?_getD, List.getD_eq_getElem?_getD, List.getElem?_drop]
theorem low2_sub {b : Bytes} {p m i : Nat} (h : i + 2 ≤ m) : low2 ((b.drop p).take m) i = low2 b (p + i) := by
  unfold low2; rw [at_sub (by omega), at_sub (by omega), Nat.add_assoc]
theorem high2_sub {b : Bytes} {p m i : Nat} (h : i + 2 ≤ m) : high2 ((b.drop p).take m) i = high2 b (p + i) := by
  unfold high2; rw [at_sub (by omega), at_sub (by omega), Nat.add_assoc]
theorem low4_sub {b : Bytes} {p m i : Nat} (h : i + 4 ≤ m) : low4 ((b.drop p).take m) i = low4 b (p + i) := by
  unfold low4; rw [low2_sub (by omega), low2_sub (by omega), Nat.add_assoc]
theorem high4_sub {b : Bytes} {p m i : Nat} (h : i + 4 ≤ m) : high4 ((b.drop p).take m) i = high4 b (p + i) := by
  unfold high4; rw [high2_sub (by omega), high2_sub (by omega), Nat.add_assoc]
theorem both2_sub {b : Bytes} {p m i : Nat} (h : i + 4 ≤ m) : both2 ((b.drop p).take m) i = both2 b (p + i) := by
  unfold both2; rw [low2_sub (by omega), high2_sub (by omega), Nat.add_assoc]
theorem both4_sub {b : Bytes} {p m i : Nat} (h : i + 8 ≤ m) : both4 ((b.drop p).take m) i = both4 b (p + i) := by
  unfold both4; rw [low4_sub (by omega), high4_sub (by omega), Nat.add_assoc]
def hf (l : Bytes) : Nat := l.foldl (fun n v => n * 256 + v) 0
theorem cut2 {b : Bytes} {i : Nat} (h : i + 2 ≤ b.length) : (b.drop i).take 2 = [at_ b i, at_ b (i + 1)] := by
  apply List.ext_getElem?
  intro j
  match j with
  | 0 => rw [List.getElem?_take_of_lt (by omega), List.getElem?_drop, at_get (by omega)]; rfl
  | 1 => rw [List.getElem?_take_of_lt (by omega), List.getElem?_drop, at_get (by omega)]; rfl
  | j + 2 => rw [List.getElem?_eq_none (by rw [List.length_take]; omega)]; rfl
theorem cut4 {b : Bytes} {i : Nat} (h : i + 4 ≤ b.length) : (b.drop i).take 4 = [at_ b i, at_ b (i + 1), at_ b (i + 2), at_ b (i + 3)] := by
  apply List.ext_getElem?
  intro j
  match j with
  | 0 => rw [List.getElem?_take_of_lt (by omega), List.getElem?_drop, at_get (by omega)]; rfl
  | 1 => rw [List.getElem?_take_of_lt (by omega), List.getElem?_drop, at_get (by omega)]; rfl
  | 2 => rw [List.getElem?_take_of_lt (by omega), List.getElem?_drop, at_get (by omega)]; rfl
  | 3 => rw [List.getElem?_take_of_lt (by omega), List.getElem?_drop, at_get (by omega)]; rfl
  | j + 4 => rw [List.getElem?_eq_none (by rw [List.length_take]; omega)]; rfl
def rb (b : Bytes) (i w : Nat) : Option Nat :=
  if (b.drop i).take w = ((b.drop (i + w)).take w).reverse then some (hf ((b.drop (i + w)).take w)) else none
theorem rb2 {b : Bytes} (hB : IsB b) {i : Nat} (h : i + 4 ≤ b.length) : rb b i 2 = both2 b i := by
  unfold rb both2 low2 high2
  rw [cut2 (by omega), cut2 (by omega)]
  have h0 := at_lt hB i
  have h1 := at_lt hB (i + 1)
  have h2 := at_lt hB (i + 2)
  have h3 := at_lt hB (i + 2 + 1)
  have e : ([at_ b i, at_ b (i + 1)] = [at_ b (i + 2), at_ b (i + 2 + 1)].reverse) ↔ (at_ b i + 256 * at_ b (i + 1) = 256 * at_ b (i + 2) + at_ b (i + 2 + 1)) := by
    simp only [List.reverse_cons, List.reverse_nil, List.nil_append, List.cons_append, List.cons.injEq, and_true]
    omega
  by_cases c : at_ b i + 256 * at_ b (i + 1) = 256 * at_ b (i + 2) + at_ b (i + 2 + 1)
  · rw [if_pos (e.mpr c), if_pos c, c]
    simp only [hf, List.foldl_cons, List.foldl_nil]
    congr 1; omega
  · rw [if_neg (fun z => c (e.mp z)), if_neg c]
theorem rb4 {b : Bytes} (hB : IsB b) {i : Nat} (h : i + 8 ≤ b.length) : rb b i 4 = both4 b i := by
  unfold rb both4 low4 high4 low2 high2
  rw [cut4 (by omega), cut4 (by omega)]
  simp only [Nat.add_assoc, Nat.reduceAdd]
  have h0 := at_lt hB i
  have h1 := at_lt hB (i + 1)
  have h2 := at_lt hB (i + 2)
  have h3 := at_lt hB (i + 3)
  have h4 := at_lt hB (i + 4)
  have h5 := at_lt hB (i + 5)
  have h6 := at_lt hB (i + 6)
  have h7 := at_lt hB (i + 7)
  generalize at_ b i = x0 at *
  generalize at_ b (i + 1) = x1 at *
  generalize at_ b (i + 2) = x2 at *
  generalize at_ b (i + 3) = x3 at *
  generalize at_ b (i + 4) = x4 at *
  generalize at_ b (i + 5) = x5 at *
  generalize at_ b (i + 6) = x6 at *
  generalize at_ b (i + 7) = x7 at *
  have e : ([x0, x1, x2, x3] = [x4, x5, x6, x7].reverse) ↔ (x0 + 256 * x1 + 65536 * (x2 + 256 * x3) = 65536 * (256 * x4 + x5) + (256 * x6 + x7)) := by
    simp only [List.reverse_cons, List.reverse_nil, List.nil_append, List.cons_append, List.cons.injEq, and_true]
    omega
  by_cases c : x0 + 256 * x1 + 65536 * (x2 + 256 * x3) = 65536 * (256 * x4 + x5) + (256 * x6 + x7)
  · simp only [Nat.add_assoc] at c e ⊢
    rw [if_pos (e.mpr c), if_pos c, c]
    simp only [hf, List.foldl_cons, List.foldl_nil]
    congr 1; omega
  · simp only [Nat.add_assoc] at c e ⊢
    rw [if_neg (fun z => c (e.mp z)), if_neg c]
def lenOk (b : Bytes) (p e : Nat) : Bool :=
  let n := at_ b p
  let k := at_ b (p + 32)
  let w := if k % 2 = 0 then 1 else 0
  !(decide (n ≤ 33) || decide (e < p + n)) && (!(decide (k = 0) || decide (n ≠ 33 + k + w)) && !(decide (w = 1) && decide (at_ b (p + n - 1) ≠ 0)))
def fixOk (b : Bytes) (p : Nat) : Bool :=
  !(decide (at_ b (p + 1) ≠ 0) || decide (3 < at_ b (p + 25))) && (!(decide (at_ b (p + 26) ≠ 0) || decide (at_ b (p + 27) ≠ 0)) && decide (both2 b (p + 28) = some 1))
def recP (b : Bytes) (p e : Nat) : Option Rec :=
  if lenOk b p e = true then if fixOk b p = true then (both4 b (p + 2)).bind fun q => (both4 b (p + 10)).map fun s => ⟨q, s, decide (2 ≤ at_ b (p + 25)), (b.drop (p + 33)).take (at_ b (p + 32))⟩ else none else none
theorem recP_eq {b : Bytes} (hB : IsB b) {p e : Nat} (h : p < e) (he : e ≤ b.length) : record ((b.drop p).take (e - p)) = (recP b p e).map fun r => (r, at_ b p) := by
  have hl : ((b.drop p).take (e - p)).length = e - p := by rw [List.length_take, List.length_drop]; omega
  have a0 : at_ ((b.drop p).take (e - p)) 0 = at_ b p := at_sub (by omega)
  by_cases hn : at_ b p ≤ 33 ∨ e < p + at_ b p
  · -- refused at once
    have e1 : recP b p e = none := by
      unfold recP lenOk
      rw [if_neg]
      simp only [Bool.and_eq_true, Bool.not_eq_true', Bool.or_eq_false_iff, decide_eq_false_iff_not]
      omega
    rw [e1]
    unfold record
    simp only [hl, a0]
    generalize at_ ((b.drop p).take (e - p)) 32 = k'
    rw [if_pos]
    · rfl
    · rcases hn with hn | hn
      · by_cases hk : k' = 0
        · exact .inr (.inr (.inl hk))
        · refine .inr (.inl ?_)
          split <;> omega
      · exact .inl (by omega)
  · have n1 : 33 < at_ b p := by omega
    have n2 : p + at_ b p ≤ e := by omega
    have a1 : at_ ((b.drop p).take (e - p)) 1 = at_ b (p + 1) := at_sub (by omega)
    have a25 : at_ ((b.drop p).take (e - p)) 25 = at_ b (p + 25) := at_sub (by omega)
    have a26 : at_ ((b.drop p).take (e - p)) 26 = at_ b (p + 26) := at_sub (by omega)
    have a27 : at_ ((b.drop p).take (e - p)) 27 = at_ b (p + 27) := at_sub (by omega)
    have a32 : at_ ((b.drop p).take (e - p)) 32 = at_ b (p + 32) := at_sub (by omega)
    have b28 : both2 ((b.drop p).take (e - p)) 28 = both2 b (p + 28) := both2_sub (by omega)
    have b2 : both4 ((b.drop p).take (e - p)) 2 = both4 b (p + 2) := both4_sub (by omega)
    have b10 : both4 ((b.drop p).take (e - p)) 10 = both4 b (p + 10) := both4_sub (by omega)
    unfold record
    simp only [hl, a0, a1, a25, a26, a27, a32, b28, b2, b10]
    by_cases hk : at_ b p = 33 + at_ b (p + 32) + (if at_ b (p + 32) % 2 = 0 then 1 else 0) ∧ at_ b (p + 32) ≠ 0
    · obtain ⟨hk, hk0⟩ := hk
      have aend : at_ b (p + 32) % 2 = 0 → at_ ((b.drop p).take (e - p)) (33 + at_ b (p + 32)) = at_ b (p + at_ b p - 1) := fun z => by
        rw [if_pos z] at hk
        rw [at_sub (by omega)]
        congr 1; omega
      have hc : (e - p < at_ b p ∨ at_ b p ≠ 33 + at_ b (p + 32) + (if at_ b (p + 32) % 2 = 0 then 1 else 0) ∨ at_ b (p + 32) = 0 ∨ at_ b (p + 1) ≠ 0 ∨ at_ b (p + 26) ≠ 0 ∨ at_ b (p + 27) ≠ 0 ∨ both2 b (p + 28) ≠ some 1 ∨ 4 ≤ at_ b (p + 25) ∨ (at_ b (p + 32) % 2 = 0 ∧ at_ ((b.drop p).take (e - p)) (33 + at_ b (p + 32)) ≠ 0)) ↔ ¬ (lenOk b p e = true ∧ fixOk b p = true) := by
        unfold lenOk fixOk
        by_cases z : at_ b (p + 32) % 2 = 0
        · rw [aend z]
          rw [if_pos z] at hk
          simp only [if_pos z, Bool.and_eq_true, Bool.not_eq_true', Bool.or_eq_false_iff, Bool.and_eq_false_iff, decide_eq_false_iff_not, decide_eq_true_eq, z, true_and]
          by_cases y : both2 b (p + 28) = some 1 <;> simp only [y, ne_eq, not_true_eq_false, not_false_eq_true, false_or, true_or, or_true, and_true, and_false, not_true_eq_false, true_iff, Decidable.not_not] <;> omega
        · rw [if_neg z] at hk
          simp only [if_neg z, Bool.and_eq_true, Bool.not_eq_true', Bool.or_eq_false_iff, Bool.and_eq_false_iff, decide_eq_false_iff_not, decide_eq_true_eq, z, false_and, Nat.zero_ne_one, not_false_eq_true, true_or, or_false, and_true]
          by_cases y : both2 b (p + 28) = some 1 <;> simp only [y, ne_eq, not_true_eq_false, not_false_eq_true, false_or, true_or, or_true, and_true, and_false, not_true_eq_false, true_iff, Decidable.not_not] <;> omega
      by_cases ok : lenOk b p e = true ∧ fixOk b p = true
      · rw [if_neg (fun z => hc.mp z ok)]
        unfold recP
        rw [if_pos ok.1, if_pos ok.2]
        have h25 : at_ b (p + 25) ≤ 3 := by
          have := ok.2
          unfold fixOk at this
          simp only [Bool.and_eq_true, Bool.not_eq_true', Bool.or_eq_false_iff, decide_eq_false_iff_not] at this
          omega
        have hf' : (at_ b (p + 25) / 2 == 1) = decide (2 ≤ at_ b (p + 25)) := by
          by_cases y : 2 ≤ at_ b (p + 25)
          · rw [decide_eq_true y]; exact beq_iff_eq.mpr (by omega)
          · rw [decide_eq_false y]; exact beq_eq_false_iff_ne.mpr (by omega)
        have hnm : (((b.drop p).take (e - p)).drop 33).take (at_ b (p + 32)) = (b.drop (p + 33)).take (at_ b (p + 32)) := by
          rw [List.drop_take, List.drop_drop, List.take_take]
          congr 1
          split at hk <;> omega
        rw [hf', hnm]
        cases both4 b (p + 2) with
        | none => rfl
        | some q =>
          cases both4 b (p + 10) with
          | none => rfl
          | some s => rfl
      · rw [if_pos (hc.mpr ok)]
        unfold recP
        by_cases o1 : lenOk b p e = true
        · rw [if_pos o1, if_neg (fun z => ok ⟨o1, z⟩)]; rfl
        · rw [if_neg o1]; rfl
    · rw [if_pos (by
        by_cases z : at_ b (p + 32) = 0
        · exact .inr (.inr (.inl z))
        · exact .inr (.inl fun y => hk ⟨y, z⟩))]
      have e1 : recP b p e = none := by
        unfold recP lenOk
        rw [if_neg]
        simp only [Bool.and_eq_true, Bool.not_eq_true', Bool.or_eq_false_iff, decide_eq_false_iff_not]
        intro z
        exact hk ⟨by omega, z.2.1.1⟩
      rw [e1]; rfl
end MM
set_option linter.all false
set_option maxRecDepth 100000
namespace MM
open Sn28
theorem record_len {c : Bytes} {r : Rec} {n : Nat} (h : record c = some (r, n)) : 34 ≤ n ∧ n ≤ c.length := by
  have key : ∀ w : Nat, 33 + at_ c 32 ≤ w → (if c.length < at_ c 0 ∨ at_ c 0 ≠ w ∨ at_ c 32 = 0 ∨ at_ c 1 ≠ 0 ∨ at_ c 26 ≠ 0 ∨ at_ c 27 ≠ 0 ∨ both2 c 28 ≠ some 1 ∨ 4 ≤ at_ c 25 ∨ (at_ c 32 % 2 = 0 ∧ at_ c (33 + at_ c 32) ≠ 0) then none
      else (both4 c 2).bind fun p => (both4 c 10).map fun s => ((⟨p, s, at_ c 25 / 2 == 1, (c.drop 33).take (at_ c 32)⟩ : Rec), at_ c 0)) = some (r, n) → 34 ≤ n ∧ n ≤ c.length := by
    intro w hw h
    split at h
    · cases h
    · rename_i z
      simp only [not_or] at z
      have e : n = at_ c 0 := by
        cases h1 : both4 c 2 with
        | none => rw [h1] at h; cases h
        | some q =>
          cases h2 : both4 c 10 with
          | none => rw [h1, h2] at h; cases h
          | some s =>
            rw [h1, h2] at h
            simp only [Option.bind_some, Option.map_some, Option.some.injEq, Prod.mk.injEq] at h
            exact h.2.symm
      subst e
      have h3 := z.2.1
      have h4 := z.2.2.1
      omega
  exact key _ (by omega) h
theorem inSector_fuel : ∀ (n m : Nat) (c : Bytes), c.length < n → c.length < m → inSector n c = inSector m c
  | 0, _, _, h, _ => by omega
  | _ + 1, 0, _, _, h => by omega
  | n + 1, m + 1, c, h1, h2 => by
    match c with
    | [] => rfl
    | 0 :: r => rfl
    | (a + 1) :: r =>
      show (record ((a + 1) :: r)).bind _ = (record ((a + 1) :: r)).bind _
      cases q : record ((a + 1) :: r) with
      | none => rfl
      | some x =>
        obtain ⟨x, k⟩ := x
        have hk := record_len q
        show (inSector n (((a + 1) :: r).drop k)).map _ = (inSector m (((a + 1) :: r).drop k)).map _
        rw [inSector_fuel n m]
        · rw [List.length_drop]; omega
        · rw [List.length_drop]; omega
def sec (b : Bytes) (p e : Nat) : Option (List Rec) := inSector (e - p + 1) ((b.drop p).take (e - p))
theorem sec_fuel {b : Bytes} {p e n : Nat} (h : e - p < n) : inSector n ((b.drop p).take (e - p)) = sec b p e :=
  inSector_fuel _ _ _ (by rw [List.length_take]; omega) (by rw [List.length_take]; omega)
theorem sec_end {b : Bytes} {p : Nat} : sec b p p = some [] := by
  unfold sec
  rw [Nat.sub_self, List.take_zero]; rfl
theorem cut_cons {b : Bytes} {p e : Nat} (h : p < e) (he : e ≤ b.length) : (b.drop p).take (e - p) = at_ b p :: (b.drop (p + 1)).take (e - (p + 1)) := by
  have h1 : b.drop p = at_ b p :: b.drop (p + 1) := by
    rw [List.drop_eq_getElem_cons (by omega)]
    congr 1
    have := at_get (b := b) (i := p) (by omega)
    rw [List.getElem?_eq_getElem (by omega)] at this
    exact Option.some.inj this
  rw [h1]
  have h2 : e - p = (e - (p + 1)) + 1 := by omega
  rw [h2, List.take_succ_cons]
theorem sec_zero {b : Bytes} {p e : Nat} (h : p < e) (he : e ≤ b.length) (h0 : at_ b p = 0) : sec b p e = if zeros ((b.drop p).take (e - p)) = true then some [] else none := by
  unfold sec
  rw [cut_cons h he, h0]
  rfl
theorem sec_rec {b : Bytes} (hB : IsB b) {p e : Nat} (h : p < e) (he : e ≤ b.length) (h0 : at_ b p ≠ 0) : sec b p e = (recP b p e).bind fun r => (sec b (p + at_ b p) e).map fun l => r :: l := by
  have hr := recP_eq hB h he
  unfold sec
  have hc := cut_cons h he
  obtain ⟨a, ha⟩ : ∃ a, at_ b p = a + 1 := ⟨at_ b p - 1, by omega⟩
  have e1 : inSector (e - p + 1) ((b.drop p).take (e - p)) = (record ((b.drop p).take (e - p))).bind fun x => (inSector (e - p) (((b.drop p).take (e - p)).drop x.2)).map fun l => x.1 :: l := by
    rw [hc, ha]; rfl
  rw [e1, hr]
  cases q : recP b p e with
  | none => rfl
  | some r =>
    rw [q] at hr
    have hk := record_len hr
    have hl : ((b.drop p).take (e - p)).length ≤ e - p := by rw [List.length_take]; omega
    show (inSector (e - p) (((b.drop p).take (e - p)).drop (at_ b p))).map _ = (inSector (e - (p + at_ b p) + 1) ((b.drop (p + at_ b p)).take (e - (p + at_ b p)))).map _
    have e2 : ((b.drop p).take (e - p)).drop (at_ b p) = (b.drop (p + at_ b p)).take (e - (p + at_ b p)) := by
      rw [List.drop_take, List.drop_drop]
      congr 1; omega
    rw [e2, sec_fuel (by omega)]
    rfl
theorem recP_len {b : Bytes} (hB : IsB b) {p e : Nat} (h : p < e) (he : e ≤ b.length) {r : Rec} (q : recP b p e = some r) : 34 ≤ at_ b p ∧ p + at_ b p ≤ e := by
  have hr := recP_eq hB h he
  rw [q] at hr
  have hk := record_len hr
  have hl : ((b.drop p).take (e - p)).length ≤ e - p := by rw [List.length_take]; omega
  omega
theorem sec_len {b : Bytes} (hB : IsB b) {e : Nat} (he : e ≤ b.length) : ∀ (n p : Nat) (l : List Rec), e - p ≤ n → p ≤ e → sec b p e = some l → 34 * l.length ≤ e - p
  | n, p, l, hn, hp, h => by
    by_cases hpe : p = e
    · subst hpe
      rw [sec_end] at h
      cases h
      simp
    · have hlt : p < e := by omega
      by_cases h0 : at_ b p = 0
      · rw [sec_zero hlt he h0] at h
        split at h
        · cases h; simp
        · cases h
      · rw [sec_rec hB hlt he h0] at h
        cases q : recP b p e with
        | none => rw [q] at h; cases h
        | some r =>
          rw [q] at h
          obtain ⟨k1, k2⟩ := recP_len hB hlt he q
          cases q2 : sec b (p + at_ b p) e with
          | none => rw [q2] at h; cases h
          | some m =>
            rw [q2] at h
            simp only [Option.bind_some, Option.map_some, Option.some.injEq] at h
            subst h
            match n, hn with
            | 0, hn => omega
            | n + 1, hn =>
              have ih := sec_len hB he n (p + at_ b p) m (by omega) (by omega) q2
              rw [List.length_cons]
              omega
def secs (b : Bytes) : Nat → Nat → Option (List Rec)
  | _, 0 => some []
  | p, n + 1 => (sec b p (p + 2048)).bind fun l => if l = [] then none else (secs b (p + 2048) n).map fun m => l ++ m
theorem sectors_eq {b : Bytes} : ∀ (n p : Nat), p + 2048 * n ≤ b.length → sectors n ((b.drop p).take (2048 * n)) = secs b p n
  | 0, p, _ => by
    show sectors 0 ((b.drop p).take 0) = some []
    rw [List.take_zero]; rfl
  | n + 1, p, h => by
    have hl : ((b.drop p).take (2048 * (n + 1))).length = 2048 * (n + 1) := by rw [List.length_take, List.length_drop]; omega
    have hne : ¬ (b.drop p).take (2048 * (n + 1)) = [] := fun z => by rw [z] at hl; simp at hl
    show (if (b.drop p).take (2048 * (n + 1)) = [] then some [] else if ((b.drop p).take (2048 * (n + 1))).length < 2048 then none else (inSector 2049 (((b.drop p).take (2048 * (n + 1))).take 2048)).bind fun l => if l = [] then none else (sectors n (((b.drop p).take (2048 * (n + 1))).drop 2048)).map fun m => l ++ m) = _
    rw [if_neg hne, if_neg (by omega)]
    have e1 : ((b.drop p).take (2048 * (n + 1))).take 2048 = (b.drop p).take (p + 2048 - p) := by
      rw [List.take_take, Nat.min_eq_left (by omega), Nat.add_sub_cancel_left]
    have e2 : ((b.drop p).take (2048 * (n + 1))).drop 2048 = (b.drop (p + 2048)).take (2048 * n) := by
      rw [List.drop_take, List.drop_drop]
      have : 2048 * (n + 1) - 2048 = 2048 * n := by omega
      rw [this]
    rw [e1, e2, sec_fuel (by omega), sectors_eq n (p + 2048) (by omega)]
    rfl
theorem secs_len {b : Bytes} (hB : IsB b) : ∀ (n p : Nat) (l : List Rec), p + 2048 * n ≤ b.length → secs b p n = some l → 34 * l.length ≤ 2048 * n
  | 0, p, l, _, h => by cases h; simp
  | n + 1, p, l, hp, h => by
    have h : (sec b p (p + 2048)).bind (fun l => if l = [] then none else (secs b (p + 2048) n).map fun m => l ++ m) = some l := h
    cases q : sec b p (p + 2048) with
    | none => rw [q] at h; cases h
    | some x =>
      rw [q] at h
      have h : (if x = [] then none else (secs b (p + 2048) n).map fun m => x ++ m) = some l := h
      split at h
      · cases h
      · cases q2 : secs b (p + 2048) n with
        | none => rw [q2] at h; cases h
        | some y =>
          rw [q2] at h
          cases h
          have h1 := sec_len hB (e := p + 2048) (by omega) _ p x (Nat.le_refl _) (by omega) q
          have h2 := secs_len hB n (p + 2048) y (by omega) q2
          rw [List.length_append]
          omega
theorem is_sign (c : Nat) : (decide (65 ≤ c ∧ c ≤ 90) || (decide (48 ≤ c ∧ c ≤ 57) || decide (c = 95))) = dchar c := by
  unfold dchar
  by_cases h1 : 48 ≤ c ∧ c ≤ 57 <;> by_cases h2 : 65 ≤ c ∧ c ≤ 90 <;> by_cases h3 : c = 95 <;> simp [h1, h2, h3]
theorem folderName_eq (n : Bytes) : folderName n = (decide (1 ≤ n.length ∧ n.length ≤ 31) && n.all dchar) := by
  unfold folderName
  cases n with
  | nil => rfl
  | cons a r =>
    have e1 : (a :: r != ([] : Bytes)) = true := rfl
    rw [e1, Bool.true_and]
    congr 1
    have : (1 ≤ (a :: r).length) := by simp
    simp only [this, true_and]
theorem not_dchar46 : dchar 46 = false := by decide
theorem not_dchar59 : dchar 59 = false := by decide
def fileOk (n : Bytes) : Bool :=
  let front := n.take (n.length - 2)
  let signs := front.filter dchar
  decide (n.drop (n.length - 2) = [59, 49]) && ((decide (front.count 46 = 1) && decide (front.length = signs.length + 1)) && decide (1 ≤ signs.length ∧ signs.length ≤ 30))
theorem all_of_count : ∀ (l : Bytes), l.count 46 + (l.filter dchar).length ≤ l.length
  | [] => by simp
  | a :: r => by
    have ih := all_of_count r
    by_cases h : dchar a = true
    · have : a ≠ 46 := fun z => by rw [z] at h; exact absurd h (by decide)
      rw [List.count_cons_of_ne (by simpa using this), List.filter_cons_of_pos h]
      simp only [List.length_cons]; omega
    · rw [List.filter_cons_of_neg h]
      by_cases h2 : a = 46
      · subst h2; rw [List.count_cons_self]; simp only [List.length_cons]; omega
      · rw [List.count_cons_of_ne (by simpa using h2)]; simp only [List.length_cons]; omega
theorem split_point : ∀ (l : Bytes), l.count 46 = 1 → l.length = (l.filter dchar).length + 1 → ∃ a e, l = a ++ 46 :: e ∧ a.all dchar = true ∧ e.all dchar = true
  | [], h, _ => by simp at h
  | x :: r, h1, h2 => by
    by_cases hx : dchar x = true
    · have hne : x ≠ 46 := fun z => by rw [z] at hx; exact absurd hx (by decide)
      rw [List.count_cons_of_ne (by simpa using hne)] at h1
      rw [List.filter_cons_of_pos hx] at h2
      obtain ⟨a, e, rfl, ha, he⟩ := split_point r h1 (by simp only [List.length_cons] at h2; omega)
      exact ⟨x :: a, e, rfl, by rw [List.all_cons, hx, ha]; rfl, he⟩
    · rw [List.filter_cons_of_neg hx] at h2
      have hc := all_of_count r
      by_cases h46 : x = 46
      · subst h46
        rw [List.count_cons_self] at h1
        simp only [List.length_cons] at h2
        have hall : r.all dchar = true := by
          rw [List.all_eq_true]
          have : (r.filter dchar).length = r.length := by omega
          exact fun y hy => List.length_filter_eq_length_iff.mp this y hy
        exact ⟨[], r, rfl, rfl, hall⟩
      · rw [List.count_cons_of_ne (by simpa using h46)] at h1
        simp only [List.length_cons] at h2
        omega
theorem filter_all {l : Bytes} (h : l.all dchar = true) : l.filter dchar = l := List.filter_eq_self.mpr fun a ha => List.all_eq_true.mp h a ha
theorem count_all {l : Bytes} (h : l.all dchar = true) : l.count 46 = 0 := by
  rw [List.count_eq_zero]
  intro m
  exact absurd (List.all_eq_true.mp h 46 m) (by decide)
theorem takeWhile_app {a r : Bytes} {c : Nat} (h : a.all dchar = true) (hc : dchar c = false) : (a ++ c :: r).takeWhile dchar = a := by
  induction a with
  | nil => simp [hc]
  | cons x l ih =>
    rw [List.all_cons, Bool.and_eq_true] at h
    rw [List.cons_append, List.takeWhile_cons_of_pos h.1, ih h.2]
theorem fileName_eq (n : Bytes) : fileName n = fileOk n := by
  apply Bool.eq_iff_iff.mpr
  constructor
  · intro h
    unfold fileName at h
    simp only [Bool.and_eq_true, beq_iff_eq, decide_eq_true_eq] at h
    obtain ⟨h1, h2, h3, h4⟩ := h
    -- n = a ++ 46 :: e ++ [59, 49]
    have hA : n.takeWhile dchar ++ n.drop (n.takeWhile dchar).length = n := by
      have := List.takeWhile_append_dropWhile (p := dchar) (l := n)
      conv => rhs; rw [← this]
      congr 1
      conv => lhs; rw [← this]
      rw [List.drop_append_of_le_length (by rw [this]; exact Nat.le_refl _)]
      rw [show (List.takeWhile dchar (List.takeWhile dchar n ++ List.dropWhile dchar n)) = List.takeWhile dchar n by rw [this]]
      simp
    generalize ha : n.takeWhile dchar = a at *
    generalize hr : n.drop a.length = r at *
    have hall : a.all dchar = true := by rw [← ha]; exact List.all_takeWhile
    match r, h1 with
    | 46 :: q, _ =>
      simp only [List.drop_succ_cons, List.drop_zero] at h2 h3 h4
      have hE : q.takeWhile dchar ++ q.drop (q.takeWhile dchar).length = q := by
        have := List.takeWhile_append_dropWhile (p := dchar) (l := q)
        conv => rhs; rw [← this]
        congr 1
        conv => lhs; rw [← this]
        rw [List.drop_append_of_le_length (by rw [this]; exact Nat.le_refl _)]
        rw [show (List.takeWhile dchar (List.takeWhile dchar q ++ List.dropWhile dchar q)) = List.takeWhile dchar q by rw [this]]
        simp
      have hall2 : (q.takeWhile dchar).all dchar = true := List.all_takeWhile
      generalize q.takeWhile dchar = e at *
      rw [Nat.add_comm, List.drop_succ_cons] at h4
      rw [h4] at hE
      have hn : n = (a ++ 46 :: e) ++ [59, 49] := by rw [← hA, ← hE]; simp
      unfold fileOk
      have hlen : n.length - 2 = (a ++ 46 :: e).length := by rw [hn]; simp; omega
      have ht : n.take (n.length - 2) = a ++ 46 :: e := by rw [hlen, hn, List.take_left']; rfl
      have hd : n.drop (n.length - 2) = [59, 49] := by rw [hlen, hn, List.drop_left']; rfl
      simp only [ht, hd, decide_true, Bool.true_and]
      have hf : (a ++ 46 :: e).filter dchar = a ++ e := by
        rw [List.filter_append, List.filter_cons_of_neg (by decide), filter_all hall, filter_all hall2]
      have hcn : (a ++ 46 :: e).count 46 = 1 := by
        rw [List.count_append, List.count_cons_self, count_all hall, count_all hall2]
      rw [hf, hcn]
      simp only [List.length_append, List.length_cons, Bool.and_eq_true, decide_eq_true_eq]
      exact ⟨⟨trivial, by omega⟩, by omega, by omega⟩
  · intro h
    unfold fileOk at h
    simp only [Bool.and_eq_true, decide_eq_true_eq] at h
    obtain ⟨h1, ⟨h2, h3⟩, h4, h5⟩ := h
    obtain ⟨a, e, hfr, ha, he⟩ := split_point _ h2 h3
    have hn : n = (a ++ 46 :: e) ++ [59, 49] := by
      rw [← hfr, ← h1, List.take_append_drop]
    rw [hfr] at h4 h5
    have hf : (a ++ 46 :: e).filter dchar = a ++ e := by
      rw [List.filter_append, List.filter_cons_of_neg (by decide), filter_all ha, filter_all he]
    rw [hf, List.length_append] at h4 h5
    unfold fileName
    have t1 : n.takeWhile dchar = a := by rw [hn, List.append_assoc, List.cons_append, takeWhile_app ha (by decide)]
    have d1 : n.drop a.length = 46 :: (e ++ [59, 49]) := by rw [hn, List.append_assoc, List.drop_left']; rfl; rfl
    have t2 : (e ++ [59, 49]).takeWhile dchar = e := takeWhile_app he (by decide)
    simp only [t1, d1, List.head?_cons, List.drop_succ_cons, List.drop_zero, t2, beq_self_eq_true, Bool.true_and, Bool.and_eq_true, decide_eq_true_eq]
    refine ⟨h4, h5, ?_⟩
    rw [Nat.add_comm, List.drop_succ_cons, List.drop_left']
    · rfl
    · rfl
end MM
set_option linter.all false
set_option maxRecDepth 100000
namespace MM
open Sn28
def lexB : Bytes → Bytes → Bool
  | [], [] => false
  | [], _ :: _ => true
  | _ :: _, [] => false
  | x :: xs, y :: ys => if x = y then lexB xs ys else decide (x < y)
def fill (n : Bytes) (k : Nat) : Bytes := n ++ List.replicate (k - n.length) 32
theorem lexB_irr : ∀ l : Bytes, lexB l l = false
  | [] => rfl
  | a :: r => by show (if a = a then lexB r r else _) = false; rw [if_pos rfl]; exact lexB_irr r
theorem fill_nil {k : Nat} (h : 0 < k) : fill [] k = 32 :: fill [] (k - 1) := by
  obtain ⟨j, rfl⟩ : ∃ j, k = j + 1 := ⟨k - 1, by omega⟩
  rfl
theorem fill_cons {a : Nat} {r : Bytes} {k : Nat} (h : (a :: r).length ≤ k) : fill (a :: r) k = a :: fill r (k - 1) := by
  unfold fill
  rw [List.cons_append]
  congr 3
  simp only [List.length_cons] at h ⊢
  omega
theorem less_eq : ∀ (n m : Bytes) (k : Nat), n.length ≤ k → m.length ≤ k → lexB (fill n k) (fill m k) = less n m
  | [], [], k, _, _ => by rw [less]; exact lexB_irr _
  | [], c :: r, k, _, h => by
    have h0 : 0 < k := by simp only [List.length_cons] at h; omega
    rw [fill_nil h0, fill_cons h]
    rw [less]
    show (if 32 = c then lexB (fill [] (k - 1)) (fill r (k - 1)) else decide (32 < c)) = (decide (32 < c) || (c == 32 && less [] r))
    rw [less_eq [] r (k - 1) (Nat.zero_le _) (by simp only [List.length_cons] at h; omega)]
    by_cases e : 32 = c
    · subst e; simp
    · have : (c == 32) = false := beq_eq_false_iff_ne.mpr fun z => e z.symm
      rw [if_neg e, this]; simp
  | c :: r, [], k, h, _ => by
    have h0 : 0 < k := by simp only [List.length_cons] at h; omega
    rw [fill_nil h0, fill_cons h]
    rw [less]
    show (if c = 32 then lexB (fill r (k - 1)) (fill [] (k - 1)) else decide (c < 32)) = (decide (c < 32) || (c == 32 && less r []))
    rw [less_eq r [] (k - 1) (by simp only [List.length_cons] at h; omega) (Nat.zero_le _)]
    by_cases e : c = 32
    · subst e; simp
    · have : (c == 32) = false := beq_eq_false_iff_ne.mpr e
      rw [if_neg e, this]; simp
  | a :: r, b :: q, k, h1, h2 => by
    rw [fill_cons h1, fill_cons h2]
    rw [less]
    show (if a = b then lexB (fill r (k - 1)) (fill q (k - 1)) else decide (a < b)) = (decide (a < b) || (a == b && less r q))
    simp only [List.length_cons] at h1 h2
    rw [less_eq r q (k - 1) (by omega) (by omega)]
    by_cases e : a = b
    · subst e; simp
    · have : (a == b) = false := beq_eq_false_iff_ne.mpr e
      rw [if_neg e, this]; simp
theorem ordered_iff : ∀ l : List Rec, ordered l = true ↔ ∀ i x y, l[i]? = some x → l[i + 1]? = some y → less x.name y.name = true
  | [] => by simp [ordered]
  | [a] => by
    simp only [ordered, true_iff]
    intro i x y _ h
    simp at h
  | a :: b :: r => by
    show (less a.name b.name && ordered (b :: r)) = true ↔ _
    rw [Bool.and_eq_true, ordered_iff (b :: r)]
    constructor
    · rintro ⟨h1, h2⟩ i x y hx hy
      cases i with
      | zero =>
        cases hx; cases hy; exact h1
      | succ i => exact h2 i x y hx hy
    · intro h
      exact ⟨h 0 a b rfl rfl, fun i x y hx hy => h (i + 1) x y hx hy⟩
def linkOk (s f : Rec) (n : Bytes) : Bool := s.folder && (decide (s.name = n) && (decide (s.place = f.place) && decide (s.size = f.size)))
theorem linkOk_iff (s f : Rec) (n : Bytes) : linkOk s f n = true ↔ s = { f with name := n, folder := true } := by
  obtain ⟨p, z, b, m⟩ := s
  obtain ⟨p', z', b', m'⟩ := f
  unfold linkOk
  simp only [Bool.and_eq_true, decide_eq_true_eq, Rec.mk.injEq]
  constructor
  · rintro ⟨h1, h2, h3, h4⟩; exact ⟨h3, h4, h1, h2⟩
  · rintro ⟨h1, h2, h3, h4⟩; exact ⟨h3, h4, h1, h2⟩
def nameOk (x : Rec) : Bool := if x.folder = true then folderName x.name else fileName x.name
def placeOk (b : Bytes) (x : Rec) : Bool := decide (2048 * x.place + x.size ≤ b.length)
def readF (b : Bytes) (self up : Rec) : Option (List Rec) :=
  if (self.size = 0 ∨ self.size % 2048 ≠ 0) ∨ b.length < 2048 * self.place + self.size then none else
    (secs b (2048 * self.place) (self.size / 2048)).bind fun l => match l with
      | s :: u :: r => if linkOk s self [0] = true ∧ linkOk u up [1] = true ∧ (r.all fun x => nameOk x && (x.folder || placeOk b x)) = true ∧ ordered r = true then some r else none
      | _ => none
theorem readF_eq (b : Bytes) (self up : Rec) : readF b self up = (folderAt b self up).bind fun r => if (r.all fun x => x.folder || placeOk b x) = true then some r else none := by
  unfold readF folderAt take
  have hS : SECTOR = 2048 := rfl
  rw [hS]
  by_cases h1 : self.size = 0 ∨ self.size % 2048 ≠ 0
  · rw [if_pos (.inl h1), if_pos h1]; rfl
  · rw [if_neg h1]
    by_cases h2 : b.length < 2048 * self.place + self.size
    · rw [if_pos (.inr h2), if_pos h2]; rfl
    · rw [if_neg (fun z => z.elim h1 h2), if_neg h2]
      have hn : self.size = 2048 * (self.size / 2048) := by omega
      have e1 : (b.drop (2048 * self.place)).take self.size = (b.drop (2048 * self.place)).take (2048 * (self.size / 2048)) := by rw [← hn]
      rw [Option.bind_some, e1, sectors_eq _ _ (by omega)]
      cases secs b (2048 * self.place) (self.size / 2048) with
      | none => rfl
      | some l =>
        rw [Option.bind_some, Option.bind_some]
        match l with
        | [] => rfl
        | [s] => rfl
        | s :: u :: r =>
          simp only
          have ha : (r.all fun x => nameOk x && (x.folder || placeOk b x)) = ((r.all fun x => if x.folder = true then folderName x.name else fileName x.name) && (r.all fun x => x.folder || placeOk b x)) := by
            induction r with
            | nil => rfl
            | cons a t ih =>
              rw [List.all_cons, List.all_cons, List.all_cons, ih]
              unfold nameOk
              cases (if a.folder = true then folderName a.name else fileName a.name) <;> cases (a.folder || placeOk b a) <;> simp
          by_cases c1 : s = { self with name := [0], folder := true } ∧ u = { up with name := [1], folder := true } ∧ ordered r = true ∧ (r.all fun x => if x.folder = true then folderName x.name else fileName x.name) = true
          · rw [if_pos c1, Option.bind_some]
            obtain ⟨d1, d2, d3, d4⟩ := c1
            by_cases c2 : (r.all fun x => x.folder || placeOk b x) = true
            · rw [if_pos c2, if_pos ⟨(linkOk_iff _ _ _).mpr d1, (linkOk_iff _ _ _).mpr d2, by rw [ha, d4, c2]; rfl, d3⟩]
            · rw [if_neg c2, if_neg]
              rintro ⟨_, _, z, _⟩
              rw [ha, Bool.and_eq_true] at z
              exact c2 z.2
          · rw [if_neg c1, if_neg]
            · rfl
            · rintro ⟨z1, z2, z3, z4⟩
              rw [ha, Bool.and_eq_true] at z3
              exact c1 ⟨(linkOk_iff _ _ _).mp z1, (linkOk_iff _ _ _).mp z2, z4, z3.1⟩
def digits : Nat → Nat → Bytes
  | _, 0 => []
  | n, k + 1 => n % 256 :: digits (n / 256) k
def num (high : Bool) (n k : Nat) : Bytes := if high = true then (digits n k).reverse else digits n k
def enc (high : Bool) (e : Entry) : Bytes := [e.name.length, 0] ++ num high e.place 4 ++ num high e.up 2 ++ e.name ++ List.replicate (e.name.length % 2) 0
def encs (high : Bool) (l : List Entry) : Bytes := l.flatMap (enc high)
structure EOk (e : Entry) : Prop where
  pl : e.place < 4294967296
  up : e.up < 65536
  n1 : 1 ≤ e.name.length
  n2 : e.name.length < 256
theorem digits_len : ∀ n k, (digits n k).length = k
  | _, 0 => rfl
  | n, k + 1 => by show (digits (n / 256) k).length + 1 = k + 1; rw [digits_len]
theorem num_len (high : Bool) (n k : Nat) : (num high n k).length = k := by
  unfold num
  split
  · rw [List.length_reverse, digits_len]
  · exact digits_len n k
theorem enc_len (high : Bool) (e : Entry) : (enc high e).length = 8 + e.name.length + e.name.length % 2 := by
  unfold enc
  simp only [List.length_append, num_len, List.length_replicate, List.length_cons, List.length_nil]
theorem digits2 (n : Nat) : digits n 2 = [n % 256, n / 256 % 256] := rfl
theorem digits4 (n : Nat) : digits n 4 = [n % 256, n / 256 % 256, n / 256 / 256 % 256, n / 256 / 256 / 256 % 256] := rfl
theorem enc_at {high : Bool} {e : Entry} {t : Bytes} (ok : EOk e) : at_ (enc high e ++ t) 0 = e.name.length ∧ at_ (enc high e ++ t) 1 = 0 ∧ (if high = true then high4 (enc high e ++ t) 2 else low4 (enc high e ++ t) 2) = e.place ∧
    (if high = true then high2 (enc high e ++ t) 6 else low2 (enc high e ++ t) 6) = e.up ∧ ((enc high e ++ t).drop 8).take e.name.length = e.name ∧ (e.name.length % 2 = 1 → at_ (enc high e ++ t) (8 + e.name.length) = 0) ∧ (enc high e ++ t).drop (8 + e.name.length + e.name.length % 2) = t := by
  obtain ⟨p, u, n⟩ := e
  have hp := ok.pl
  have hu := ok.up
  dsimp only at hp hu
  have h8 : ((enc high ⟨p, u, n⟩ ++ t)).drop 8 = n ++ (List.replicate (n.length % 2) 0 ++ t) := by
    unfold enc
    have : ([n.length, 0] ++ num high p 4 ++ num high u 2).length = 8 := by simp only [List.length_append, num_len, List.length_cons, List.length_nil]
    rw [List.append_assoc, List.append_assoc, ← this, List.drop_left']
    all_goals simp
  refine ⟨?_, ?_, ?_, ?_, ?_, ?_, ?_⟩
  · rfl
  · rfl
  · cases high with
    | true =>
      rw [if_pos rfl]
      show 65536 * (256 * (p / 256 / 256 / 256 % 256) + (p / 256 / 256 % 256)) + (256 * (p / 256 % 256) + (p % 256)) = p
      omega
    | false =>
      rw [if_neg Bool.false_ne_true]
      show (p % 256 + 256 * (p / 256 % 256)) + 65536 * (p / 256 / 256 % 256 + 256 * (p / 256 / 256 / 256 % 256)) = p
      omega
  · cases high with
    | true =>
      rw [if_pos rfl]
      show 256 * (u / 256 % 256) + u % 256 = u
      omega
    | false =>
      rw [if_neg Bool.false_ne_true]
      show u % 256 + 256 * (u / 256 % 256) = u
      omega
  · rw [h8, List.take_left']; rfl
  · intro h
    have : at_ (enc high ⟨p, u, n⟩ ++ t) (8 + n.length) = at_ ((enc high ⟨p, u, n⟩ ++ t).drop 8) n.length := at_drop.symm
    show at_ (enc high ⟨p, u, n⟩ ++ t) (8 + n.length) = 0
    rw [this, h8]
    have : n.length % 2 = 1 := h
    rw [this]
    unfold at_
    rw [List.getD_eq_getElem?_getD, List.getElem?_append_right (Nat.le_refl _), Nat.sub_self]
    rfl
  · show (enc high ⟨p, u, n⟩ ++ t).drop (8 + n.length + n.length % 2) = t
    rw [List.drop_left']
    exact enc_len high ⟨p, u, n⟩
theorem entries_enc {high : Bool} : ∀ (l : List Entry) (n : Nat), (∀ e ∈ l, EOk e) → (encs high l).length < n → entries high n (encs high l) = some l
  | [], n + 1, _, _ => rfl
  | [], 0, _, h => by simp at h
  | e :: r, 0, _, h => by omega
  | e :: r, n + 1, ok, h => by
    have oke := ok e (by simp)
    have e1 : encs high (e :: r) = enc high e ++ encs high r := rfl
    obtain ⟨a0, a1, a2, a6, an, az, ad⟩ := enc_at (high := high) (t := encs high r) oke
    have hlen := enc_len high e
    rw [e1, List.length_append] at h
    rw [e1]
    unfold entries
    have hne : ¬ (enc high e ++ encs high r = []) := by
      intro z
      have := congrArg List.length z
      rw [List.length_append] at this
      simp only [List.length_nil] at this
      omega
    rw [if_neg hne]
    simp only [a0, a1]
    rw [if_neg, ad, entries_enc r n (fun x hx => ok x (by simp [hx])) (by omega), a2, a6, an]
    · rfl
    · have := oke.n1
      rintro (z | z | z | z)
      · rw [List.length_append] at z; omega
      · omega
      · exact z rfl
      · exact z.2 (az z.1)
theorem cat2 {high : Bool} {b : Bytes} (hB : IsB b) {i : Nat} (h : i + 2 ≤ b.length) : num high (if high = true then high2 b i else low2 b i) 2 = (b.drop i).take 2 := by
  rw [cut2 h]
  have h0 := at_lt hB i
  have h1 := at_lt hB (i + 1)
  cases high with
  | true =>
    rw [if_pos rfl]
    show [high2 b i / 256 % 256, high2 b i % 256] = _
    unfold high2
    congr 1
    · omega
    · congr 1; omega
  | false =>
    rw [if_neg Bool.false_ne_true]
    show [low2 b i % 256, low2 b i / 256 % 256] = _
    unfold low2
    congr 1
    · omega
    · congr 1; omega
theorem cat4 {high : Bool} {b : Bytes} (hB : IsB b) {i : Nat} (h : i + 4 ≤ b.length) : num high (if high = true then high4 b i else low4 b i) 4 = (b.drop i).take 4 := by
  rw [cut4 h]
  have h0 := at_lt hB i
  have h1 := at_lt hB (i + 1)
  have h2 := at_lt hB (i + 2)
  have h3 := at_lt hB (i + 3)
  cases high with
  | true =>
    rw [if_pos rfl]
    show [high4 b i / 256 / 256 / 256 % 256, high4 b i / 256 / 256 % 256, high4 b i / 256 % 256, high4 b i % 256] = _
    unfold high4 high2
    simp only [Nat.add_assoc, Nat.reduceAdd]
    congr 1
    · omega
    · congr 1
      · omega
      · congr 1
        · omega
        · congr 1; omega
  | false =>
    rw [if_neg Bool.false_ne_true]
    show [low4 b i % 256, low4 b i / 256 % 256, low4 b i / 256 / 256 % 256, low4 b i / 256 / 256 / 256 % 256] = _
    unfold low4 low2
    simp only [Nat.add_assoc, Nat.reduceAdd]
    congr 1
    · omega
    · congr 1
      · omega
      · congr 1
        · omega
        · congr 1; omega
theorem isB_drop {b : Bytes} (h : IsB b) (n : Nat) : IsB (b.drop n) := fun c hc => h c (List.mem_of_mem_drop hc)
theorem isB_take {b : Bytes} (h : IsB b) (n : Nat) : IsB (b.take n) := fun c hc => h c (List.mem_of_mem_take hc)
theorem drop_cut {b : Bytes} {i k : Nat} : b.drop i = (b.drop i).take k ++ b.drop (i + k) := by
  have := List.take_append_drop k (b.drop i)
  rw [List.drop_drop] at this
  exact this.symm
theorem entries_dec {high : Bool} : ∀ (n : Nat) (c : Bytes) (l : List Entry), IsB c → entries high n c = some l → c = encs high l
  | 0, _, _, _, h => by cases h
  | n + 1, c, l, hB, h => by
    unfold entries at h
    by_cases hc : c = []
    · rw [if_pos hc] at h
      cases h
      subst hc; rfl
    · rw [if_neg hc] at h
      simp only at h
      split at h
      · cases h
      · rename_i z
        simp only [not_or] at z
        obtain ⟨z1, z2, z3, z4⟩ := z
        cases q : entries high n (c.drop (8 + at_ c 0 + at_ c 0 % 2)) with
        | none => rw [q] at h; cases h
        | some m =>
          rw [q] at h
          simp only [Option.map_some, Option.some.injEq] at h
          subst h
          have ih := entries_dec n _ m (isB_drop hB _) q
          show c = enc high _ ++ encs high m
          have hl8 : 8 + at_ c 0 ≤ c.length := by omega
          have hnl : ((c.drop 8).take (at_ c 0)).length = at_ c 0 := by rw [List.length_take, List.length_drop]; omega
          unfold enc
          simp only [hnl]
          rw [cat4 hB (by omega), cat2 hB (by omega), ← ih]
          have c1 : [at_ c 0, 0] = (c.drop 0).take 2 := by
            rw [cut2 (by omega)]
            have : at_ c 1 = 0 := by omega
            rw [show at_ c (0 + 1) = 0 from this]
          have c2 : List.replicate (at_ c 0 % 2) 0 = (c.drop (8 + at_ c 0)).take (at_ c 0 % 2) := by
            rcases Nat.mod_two_eq_zero_or_one (at_ c 0) with y | y
            · rw [y]; rfl
            · rw [y]
              have h9 : 8 + at_ c 0 < c.length := by rw [y] at z1; omega
              rw [List.drop_eq_getElem_cons h9]
              show [0] = [c[8 + at_ c 0]]
              have ha := at_get h9
              rw [List.getElem?_eq_getElem h9] at ha
              rw [Option.some.inj ha]
              congr 1
              have := not_and.mp z4 y
              omega
          rw [c1, c2]
          conv => lhs; rw [show c = c.drop 0 by simp, drop_cut (b := c) (i := 0) (k := 2), drop_cut (b := c) (i := 0 + 2) (k := 4), drop_cut (b := c) (i := 0 + 2 + 4) (k := 2), drop_cut (b := c) (i := 0 + 2 + 4 + 2) (k := at_ c 0), drop_cut (b := c) (i := 0 + 2 + 4 + 2 + at_ c 0) (k := at_ c 0 % 2)]
          simp only [List.append_assoc, Nat.zero_add, Nat.reduceAdd]
theorem table_iff {high : Bool} {b : Bytes} (hB : IsB b) {p size : Nat} {l : List Entry} (ok : ∀ e ∈ l, EOk e) (ne : l ≠ []) :
    (∃ c, take b p size = some c ∧ entries high (size + 1) c = some l) ↔ (size = (encs high l).length ∧ (b.drop p).take size = encs high l) := by
  unfold take
  constructor
  · rintro ⟨c, h1, h2⟩
    split at h1
    · cases h1
    · cases h1
      have e := entries_dec _ _ _ (isB_take (isB_drop hB _) _) h2
      refine ⟨?_, e⟩
      rw [← e, List.length_take, List.length_drop]; omega
  · rintro ⟨h1, h2⟩
    have h3 : ¬ b.length < p + size := fun z => by
      have := congrArg List.length h2
      rw [List.length_take, List.length_drop, ← h1] at this
      have h4 : 0 < (encs high l).length := by
        cases l with
        | nil => exact absurd rfl ne
        | cons e r =>
          show 0 < (enc high e ++ encs high r).length
          rw [List.length_append, enc_len]; omega
      omega
    rw [if_neg h3]
    refine ⟨_, rfl, ?_⟩
    rw [h2]
    exact entries_enc l _ ok (by omega)
end MM
set_option linter.all false
set_option maxRecDepth 100000
namespace MM
open Sn28
theorem lexB_trans : ∀ a b c : Bytes, lexB a b = true → lexB b c = true → lexB a c = true
  | [], [], _, h, _ => by cases h
  | [], _ :: _, [], _, h => by cases h
  | [], _ :: _, _ :: _, _, _ => rfl
  | _ :: _, [], _, h, _ => by cases h
  | _ :: _, _ :: _, [], _, h => by cases h
  | x :: xs, y :: ys, z :: zs, h1, h2 => by
    have h1 : (if x = y then lexB xs ys else decide (x < y)) = true := h1
    have h2 : (if y = z then lexB ys zs else decide (y < z)) = true := h2
    show (if x = z then lexB xs zs else decide (x < z)) = true
    by_cases e1 : x = y
    · subst e1
      rw [if_pos rfl] at h1
      by_cases e2 : x = z
      · subst e2
        rw [if_pos rfl] at h2 ⊢
        exact lexB_trans xs ys zs h1 h2
      · rw [if_neg e2] at h2 ⊢
        exact h2
    · rw [if_neg e1] at h1
      have h1 := of_decide_eq_true h1
      by_cases e2 : y = z
      · subst e2
        rw [if_neg e1]
        exact decide_eq_true h1
      · rw [if_neg e2] at h2
        have h2 := of_decide_eq_true h2
        rw [if_neg (by omega)]
        exact decide_eq_true (by omega)
theorem less_trans {a b c : Bytes} (h1 : less a b = true) (h2 : less b c = true) : less a c = true := by
  have k1 : a.length ≤ a.length + b.length + c.length := by omega
  have k2 : b.length ≤ a.length + b.length + c.length := by omega
  have k3 : c.length ≤ a.length + b.length + c.length := by omega
  rw [← less_eq a b _ k1 k2] at h1
  rw [← less_eq b c _ k2 k3] at h2
  rw [← less_eq a c _ k1 k3]
  exact lexB_trans _ _ _ h1 h2
theorem less_irr (a : Bytes) : less a a = false := by
  rw [← less_eq a a a.length (Nat.le_refl _) (Nat.le_refl _)]
  exact lexB_irr _
theorem ordered_head : ∀ (l : List Rec) (a : Rec), ordered (a :: l) = true → ∀ x ∈ l, less a.name x.name = true
  | [], _, _, x, hx => by simp at hx
  | b :: r, a, h, x, hx => by
    have h : (less a.name b.name && ordered (b :: r)) = true := h
    rw [Bool.and_eq_true] at h
    rcases List.mem_cons.mp hx with e | e
    · rw [e]; exact h.1
    · exact less_trans h.1 (ordered_head r b h.2 x e)
theorem ordered_tail {a : Rec} {l : List Rec} (h : ordered (a :: l) = true) : ordered l = true := by
  cases l with
  | nil => rfl
  | cons b r =>
    have h : (less a.name b.name && ordered (b :: r)) = true := h
    rw [Bool.and_eq_true] at h
    exact h.2
theorem ordered_ne {a : Rec} {l : List Rec} (h : ordered (a :: l) = true) : ∀ x ∈ l, x.name ≠ a.name := fun x hx e => by
  have := ordered_head l a h x hx
  rw [e, less_irr] at this
  cases this
theorem readF_ordered {b : Bytes} {self up : Rec} {l : List Rec} (h : readF b self up = some l) : ordered l = true := by
  unfold readF at h
  split at h
  · cases h
  · cases q : secs b (2048 * self.place) (self.size / 2048) with
    | none => rw [q] at h; cases h
    | some m =>
      rw [q, Option.bind_some] at h
      match m, h with
      | [], h => cases h
      | [_], h => cases h
      | s :: u :: r, h =>
        dsimp only at h
        split at h
        · rename_i z
          cases h
          exact z.2.2.2
        · cases h
abbrev Path := List Bytes
def dfs (b : Bytes) : Nat → Rec → Rec → Path → List (Path × Rec)
  | 0, _, _, _ => []
  | n + 1, self, up, path => ((readF b self up).getD []).flatMap fun x => (path ++ [x.name], x) :: (if x.folder = true then dfs b n x self (path ++ [x.name]) else [])
def okT (b : Bytes) : Nat → Rec → Rec → Bool
  | 0, _, _ => false
  | n + 1, self, up => match readF b self up with
    | none => false
    | some l => l.all fun x => !x.folder || okT b n x self
theorem mapM_none {α β : Type} {f : α → Option β} : ∀ {l : List α} {x : α}, x ∈ l → f x = none → l.mapM f = none
  | [], x, h, _ => by simp at h
  | a :: r, x, h, e => by
    rw [List.mapM_cons]
    rcases List.mem_cons.mp h with q | q
    · subst q; rw [e]; rfl
    · cases f a with
      | none => rfl
      | some y => rw [mapM_none q e]; rfl
theorem mapM_some {α β : Type} {f : α → Option β} {g : α → β} : ∀ {l : List α}, (∀ x ∈ l, f x = some (g x)) → l.mapM f = some (l.map g)
  | [], _ => rfl
  | a :: r, h => by
    rw [List.mapM_cons, h a (by simp), mapM_some fun x hx => h x (by simp [hx])]; rfl
theorem below_eq {b : Bytes} : ∀ (n d : Nat) (self up : Rec) (path : Path), d + n = 9 → below b (n + 1) d self up path = if okT b n self up = true then some (dfs b n self up path) else none
  | 0, d, self, up, path, h => by
    show (if DEEP < d then none else _) = _
    rw [if_pos (show DEEP < d by show 8 < d; omega)]
    rfl
  | n + 1, d, self, up, path, h => by
    show (if DEEP < d then none else (folderAt b self up).bind fun l => (l.mapM fun x => if x.folder = true then (below b (n + 1) (d + 1) x self (path ++ [x.name])).map fun m => (path ++ [x.name], x) :: m else if b.length < SECTOR * x.place + x.size then none else some [(path ++ [x.name], x)]).map fun m => m.flatten) = _
    rw [if_neg (show ¬ DEEP < d by show ¬ 8 < d; omega)]
    have hR := readF_eq b self up
    cases q : folderAt b self up with
    | none =>
      rw [q] at hR
      have e : okT b (n + 1) self up = false := by unfold okT; rw [hR]; rfl
      rw [e, Option.bind_none, if_neg Bool.false_ne_true]
    | some l =>
      rw [q, Option.bind_some] at hR
      rw [Option.bind_some]
      by_cases hp : (l.all fun x => x.folder || placeOk b x) = true
      · rw [if_pos hp] at hR
        have e1 : okT b (n + 1) self up = l.all fun x => !x.folder || okT b n x self := by
          show (match readF b self up with | none => false | some l => l.all fun x => !x.folder || okT b n x self) = _
          rw [hR]
        rw [e1]
        by_cases ho : (l.all fun x => !x.folder || okT b n x self) = true
        · rw [if_pos ho]
          have hm : ∀ x ∈ l, (if x.folder = true then (below b (n + 1) (d + 1) x self (path ++ [x.name])).map fun m => (path ++ [x.name], x) :: m else if b.length < SECTOR * x.place + x.size then none else some [(path ++ [x.name], x)]) =
              some ((path ++ [x.name], x) :: (if x.folder = true then dfs b n x self (path ++ [x.name]) else [])) := by
            intro x hx
            have h1 := List.all_eq_true.mp ho x hx
            have h2 := List.all_eq_true.mp hp x hx
            by_cases hf : x.folder = true
            · rw [if_pos hf, if_pos hf, below_eq n (d + 1) x self _ (by omega)]
              rw [hf] at h1
              have h1 : okT b n x self = true := h1
              rw [if_pos h1]; rfl
            · rw [if_neg hf, if_neg hf]
              have hf : x.folder = false := by simpa using hf
              rw [hf] at h2
              have h2 : placeOk b x = true := h2
              unfold placeOk at h2
              have h2 := of_decide_eq_true h2
              rw [if_neg (show ¬ b.length < SECTOR * x.place + x.size by show ¬ b.length < 2048 * x.place + x.size; omega)]
          rw [mapM_some hm]
          show some ((l.map _).flatten) = some (((readF b self up).getD []).flatMap _)
          rw [hR, List.flatMap_def]; rfl
        · rw [if_neg ho]
          have ho : (l.all fun x => !x.folder || okT b n x self) = false := by simpa using ho
          obtain ⟨x, hx, hz⟩ := List.all_eq_false.mp ho
          have hz : x.folder = true ∧ okT b n x self = false := by
            cases h1 : x.folder <;> cases h2 : okT b n x self <;> simp [h1, h2] at hz ⊢
          rw [mapM_none hx]
          · rfl
          · rw [if_pos hz.1, below_eq n (d + 1) x self _ (by omega), hz.2]; rfl
      · rw [if_neg hp] at hR
        have e1 : okT b (n + 1) self up = false := by
          show (match readF b self up with | none => false | some l => l.all fun x => !x.folder || okT b n x self) = _
          rw [hR]
        rw [e1, if_neg Bool.false_ne_true]
        have hp : (l.all fun x => x.folder || placeOk b x) = false := by simpa using hp
        obtain ⟨x, hx, hz⟩ := List.all_eq_false.mp hp
        have hz : x.folder = false ∧ placeOk b x = false := by
          cases h1 : x.folder <;> cases h2 : placeOk b x <;> simp [h1, h2] at hz ⊢
        rw [mapM_none hx]
        · rfl
        · rw [if_neg (by rw [hz.1]; exact Bool.false_ne_true), if_pos]
          have h2 := hz.2
          unfold placeOk at h2
          have h2 := of_decide_eq_false h2
          show b.length < 2048 * x.place + x.size
          omega
theorem dfs_path {b : Bytes} : ∀ (n : Nat) (self up : Rec) (path : Path) (x : Path × Rec), x ∈ dfs b n self up path → ∃ y r, y ∈ (readF b self up).getD [] ∧ x.1 = path ++ y.name :: r
  | 0, _, _, _, x, h => by cases h
  | n + 1, self, up, path, x, h => by
    have h : x ∈ ((readF b self up).getD []).flatMap fun x => (path ++ [x.name], x) :: (if x.folder = true then dfs b n x self (path ++ [x.name]) else []) := h
    obtain ⟨y, hy, hx⟩ := List.mem_flatMap.mp h
    rcases List.mem_cons.mp hx with e | e
    · exact ⟨y, [], hy, by rw [e]⟩
    · by_cases hf : y.folder = true
      · rw [if_pos hf] at e
        obtain ⟨z, r, _, hz⟩ := dfs_path n y self _ x e
        exact ⟨y, z.name :: r, hy, by rw [hz]; simp⟩
      · rw [if_neg hf] at e; cases e
def under (p : Path) (x : Path × Rec) : Bool := p.isPrefixOf x.1 && decide (p.length < x.1.length)
theorem under_iff (p : Path) (x : Path × Rec) : under p x = true ↔ ∃ a r, x.1 = p ++ a :: r := by
  unfold under
  rw [Bool.and_eq_true, decide_eq_true_eq, List.isPrefixOf_iff_prefix]
  constructor
  · rintro ⟨⟨t, ht⟩, hl⟩
    rw [← ht, List.length_append] at hl
    match t, ht with
    | [], _ => simp at hl
    | a :: r, ht => exact ⟨a, r, ht.symm⟩
  · rintro ⟨a, r, h⟩
    rw [h]
    exact ⟨⟨_, rfl⟩, by rw [List.length_append]; simp⟩
theorem under_dfs {b : Bytes} {n : Nat} {self up : Rec} {path : Path} : ∀ x ∈ dfs b n self up path, under path x = true := fun x hx => by
  obtain ⟨y, r, _, e⟩ := dfs_path n self up path x hx
  exact (under_iff _ _).mpr ⟨_, _, e⟩
theorem filter_flat {α β : Type} (f : α → List β) (p : β → Bool) : ∀ l : List α, (l.flatMap f).filter p = l.flatMap fun x => (f x).filter p
  | [] => rfl
  | a :: r => by rw [List.flatMap_cons, List.filter_append, filter_flat f p r, List.flatMap_cons]
theorem dfs_sub {b : Bytes} {n : Nat} {self up : Rec} {path : Path} {l : List Rec} (hl : readF b self up = some l) {x : Rec} (hx : x ∈ l) (hf : x.folder = true) :
    (dfs b (n + 1) self up path).filter (under (path ++ [x.name])) = dfs b n x self (path ++ [x.name]) := by
  show (((readF b self up).getD []).flatMap _).filter _ = _
  rw [hl, Option.getD_some, filter_flat]
  have ho := readF_ordered hl
  clear hl
  have none_of : ∀ y : Rec, y.name ≠ x.name → ((path ++ [y.name], y) :: (if y.folder = true then dfs b n y self (path ++ [y.name]) else [])).filter (under (path ++ [x.name])) = [] := by
    intro y hy
    rw [List.filter_eq_nil_iff]
    intro z hz hu
    obtain ⟨a, r, e⟩ := (under_iff _ _).mp hu
    rcases List.mem_cons.mp hz with q | q
    · rw [q] at e
      have := congrArg List.length e
      simp at this
    · by_cases g : y.folder = true
      · rw [if_pos g] at q
        obtain ⟨w, t, _, e2⟩ := dfs_path n y self _ z q
        rw [e2, List.append_assoc, List.append_assoc] at e
        have := List.append_cancel_left e
        simp at this
        exact hy this.1
      · rw [if_neg g] at q; cases q
  have self_of : ((path ++ [x.name], x) :: (if x.folder = true then dfs b n x self (path ++ [x.name]) else [])).filter (under (path ++ [x.name])) = dfs b n x self (path ++ [x.name]) := by
    rw [if_pos hf, List.filter_cons_of_neg]
    · rw [List.filter_eq_self]
      exact fun z hz => under_dfs z hz
    · intro hu
      obtain ⟨a, r, e⟩ := (under_iff _ _).mp hu
      have := congrArg List.length e
      simp at this
  induction l with
  | nil => cases hx
  | cons a r ih =>
    rw [List.flatMap_cons]
    rcases List.mem_cons.mp hx with e | e
    · subst e
      rw [self_of]
      have : r.flatMap (fun y => ((path ++ [y.name], y) :: (if y.folder = true then dfs b n y self (path ++ [y.name]) else [])).filter (under (path ++ [x.name]))) = [] := by
        rw [List.flatMap_eq_nil_iff]
        exact fun y hy => none_of y (ordered_ne ho y hy)
      rw [this, List.append_nil]
    · rw [none_of a (fun z => ordered_ne ho x e z.symm), List.nil_append]
      exact ih e (ordered_tail ho)
theorem dfs_kids {b : Bytes} {n : Nat} {self up : Rec} {path : Path} {l : List Rec} (hl : readF b self up = some l) :
    (dfs b (n + 1) self up path).filter (fun x => x.2.folder && (x.1.dropLast == path && x.1 != [])) = (l.filter fun x => x.folder).map fun x => (path ++ [x.name], x) := by
  show (((readF b self up).getD []).flatMap _).filter _ = _
  rw [hl, Option.getD_some, filter_flat]
  clear hl
  induction l with
  | nil => rfl
  | cons a r ih =>
    rw [List.flatMap_cons, ih]
    have tail0 : (if a.folder = true then dfs b n a self (path ++ [a.name]) else []).filter (fun x => x.2.folder && (x.1.dropLast == path && x.1 != [])) = [] := by
      rw [List.filter_eq_nil_iff]
      intro z hz hu
      by_cases g : a.folder = true
      · rw [if_pos g] at hz
        obtain ⟨w, t, _, e2⟩ := dfs_path n a self _ z hz
        simp only [Bool.and_eq_true, beq_iff_eq] at hu
        have e3 := hu.2.1
        rw [e2] at e3
        have := congrArg List.length e3
        simp at this
      · rw [if_neg g] at hz; cases hz
    by_cases g : a.folder = true
    · rw [List.filter_cons_of_pos (by simp [g]), List.filter_cons_of_pos (by exact g), tail0]; rfl
    · rw [List.filter_cons_of_neg (by simp [g]), List.filter_cons_of_neg (by exact g), tail0]; rfl
end MM
set_option linter.all false
set_option maxRecDepth 100000
namespace MM
open Sn28
structure Q where
  rec_ : Rec
  up : Rec
  path : Path
  above : Nat
  depth : Nat
def kids (s : Nat) (q : Q) (l : List Rec) : List Q := (l.filter fun x => x.folder).map fun r => ⟨r, q.rec_, q.path ++ [r.name], s, q.depth + 1⟩
def genRead (b : Bytes) : Nat → List Q → Option (List Q × Nat)
  | _, [] => some ([], 0)
  | s, q :: r => (readF b q.rec_ q.up).bind fun l => (genRead b (s + 1) r).map fun x => (kids s q l ++ x.1, (l.length - (kids s q l).length) + x.2)
def lv (b : Bytes) : Nat → Nat → List Q → Option (List Q × Nat)
  | 0, _, gen => if gen.isEmpty = true then some ([], 0) else none
  | n + 1, s, gen => if gen.isEmpty = true then some ([], 0) else (genRead b s gen).bind fun x => (lv b n (s + gen.length) x.1).map fun y => (x.1 ++ y.1, x.2 + y.2)
def runQ (b : Bytes) : Nat → List Q → Nat → Nat → Option (List Q × Nat)
  | 0, _, _, _ => none
  | n + 1, fs, num, files => match fs[num]? with
    | none => some (fs, files)
    | some q => (readF b q.rec_ q.up).bind fun l =>
      if kids (num + 1) q l ≠ [] ∧ q.depth = 8 then none
      else if 16384 < (fs.length + (kids (num + 1) q l).length - 1) + (files + (l.length - (kids (num + 1) q l).length)) then none
      else runQ b n (fs ++ kids (num + 1) q l) (num + 1) (files + (l.length - (kids (num + 1) q l).length))
theorem kids_len (s : Nat) (q : Q) (l : List Rec) : (kids s q l).length = (l.filter fun x => x.folder).length := by unfold kids; rw [List.length_map]
theorem kids_le (s : Nat) (q : Q) (l : List Rec) : (kids s q l).length ≤ l.length := by rw [kids_len]; exact List.length_filter_le _ _
def cont (b : Bytes) (n s : Nat) (suf acc : List Q) : Option (List Q × Nat) :=
  (genRead b s suf).bind fun x => (lv b n (s + suf.length) (acc ++ x.1)).map fun y => (x.1 ++ y.1, x.2 + y.2)
def capped (fs : List Q) (files : Nat) (r : Option (List Q × Nat)) : Option (List Q × Nat) :=
  r.bind fun y => if (fs.length + y.1.length - 1) + (files + y.2) ≤ 16384 then some (fs ++ y.1, files + y.2) else none
theorem lv_cont {b : Bytes} {n s : Nat} {gen : List Q} (h : gen ≠ []) : lv b (n + 1) s gen = cont b n s gen [] := by
  show (if gen.isEmpty = true then _ else _) = _
  rw [if_neg (by rw [List.isEmpty_iff]; exact h)]
  unfold cont
  simp only [List.nil_append]
theorem cont_nil {b : Bytes} {n s : Nat} {acc : List Q} : cont b n s [] acc = lv b n s acc := by
  unfold cont
  show ((lv b n (s + 0) (acc ++ [])).map fun y => ([] ++ y.1, 0 + y.2)) = _
  rw [List.append_nil, Nat.add_zero]
  cases lv b n s acc with
  | none => rfl
  | some y => simp
theorem cont_cons {b : Bytes} {n s : Nat} {q : Q} {suf acc : List Q} {l : List Rec} (h : readF b q.rec_ q.up = some l) :
    cont b n s (q :: suf) acc = (cont b n (s + 1) suf (acc ++ kids s q l)).map fun y => (kids s q l ++ y.1, (l.length - (kids s q l).length) + y.2) := by
  unfold cont
  show ((readF b q.rec_ q.up).bind fun l => (genRead b (s + 1) suf).map fun x => (kids s q l ++ x.1, (l.length - (kids s q l).length) + x.2)).bind _ = _
  rw [h, Option.bind_some]
  cases genRead b (s + 1) suf with
  | none => rfl
  | some x =>
    rw [Option.map_some, Option.bind_some, Option.bind_some]
    dsimp only
    have e : s + (q :: suf).length = s + 1 + suf.length := by rw [List.length_cons]; omega
    rw [e, List.append_assoc]
    cases lv b n (s + 1 + suf.length) (acc ++ (kids s q l ++ x.1)) with
    | none => rfl
    | some y => simp only [Option.map_some, List.append_assoc, Nat.add_assoc]
theorem cont_none {b : Bytes} {n s : Nat} {q : Q} {suf acc : List Q} (h : readF b q.rec_ q.up = none) : cont b n s (q :: suf) acc = none := by
  unfold cont
  show ((readF b q.rec_ q.up).bind fun l => (genRead b (s + 1) suf).map fun x => (kids s q l ++ x.1, (l.length - (kids s q l).length) + x.2)).bind _ = _
  rw [h]; rfl
theorem lv_zero {b : Bytes} {s : Nat} {gen : List Q} (h : gen ≠ []) : lv b 0 s gen = none := by
  show (if gen.isEmpty = true then _ else _) = _
  rw [if_neg (by rw [List.isEmpty_iff]; exact h)]
theorem cont_deep {b : Bytes} {s : Nat} {suf acc : List Q} (h : acc ≠ []) : cont b 0 s suf acc = none := by
  unfold cont
  cases genRead b s suf with
  | none => rfl
  | some x =>
    rw [Option.bind_some, lv_zero (fun z => h (List.append_eq_nil_iff.mp z).1)]; rfl
def RunOk (b : Bytes) (fuel : Nat) : Prop := ∀ (n : Nat) (pre suf acc : List Q) (files : Nat), (∀ q ∈ suf, q.depth + n = 8) → (∀ q ∈ acc, q.depth + n = 9) → (n = 0 → acc = []) →
    (pre.length + suf.length + acc.length - 1) + files ≤ 16384 → 16387 ≤ fuel + pre.length → 1 ≤ pre.length + suf.length →
    runQ b fuel (pre ++ (suf ++ acc)) pre.length files = capped (pre ++ (suf ++ acc)) files (cont b n (pre.length + 1) suf acc)
theorem run_step {b : Bytes} {fuel : Nat} (ih : RunOk b fuel) (n : Nat) (pre : List Q) (q : Q) (suf acc : List Q) (files : Nat) (hs : ∀ x ∈ q :: suf, x.depth + n = 8) (ha : ∀ x ∈ acc, x.depth + n = 9) (hn : n = 0 → acc = [])
    (hc : (pre.length + (q :: suf).length + acc.length - 1) + files ≤ 16384) (hf : 16387 ≤ fuel + 1 + pre.length) :
    runQ b (fuel + 1) (pre ++ (q :: suf ++ acc)) pre.length files = capped (pre ++ (q :: suf ++ acc)) files (cont b n (pre.length + 1) (q :: suf) acc) := by
  have hq := hs q (by simp)
  have hg : (pre ++ (q :: suf ++ acc))[pre.length]? = some q := by rw [List.getElem?_append_right (Nat.le_refl _), Nat.sub_self]; rfl
  rw [runQ]
  simp only [hg]
  cases hR : readF b q.rec_ q.up with
  | none => rw [cont_none hR]; rfl
  | some l =>
    rw [cont_cons hR, Option.bind_some]
    have hkl := kids_le (pre.length + 1) q l
    have hlen : (pre ++ (q :: suf ++ acc)).length = pre.length + (q :: suf).length + acc.length := by simp only [List.length_append]; omega
    by_cases c1 : kids (pre.length + 1) q l ≠ [] ∧ q.depth = 8
    · rw [if_pos c1]
      have hn0 : n = 0 := by omega
      subst hn0
      rw [cont_deep (fun z => c1.1 (List.append_eq_nil_iff.mp z).2)]; rfl
    · rw [if_neg c1]
      by_cases c2 : 16384 < ((pre ++ (q :: suf ++ acc)).length + (kids (pre.length + 1) q l).length - 1) + (files + (l.length - (kids (pre.length + 1) q l).length))
      · rw [if_pos c2]
        unfold capped
        cases cont b n (pre.length + 1 + 1) suf (acc ++ kids (pre.length + 1) q l) with
        | none => rfl
        | some y =>
          rw [Option.map_some, Option.bind_some]
          dsimp only
          rw [if_neg]
          rw [List.length_append (as := kids (pre.length + 1) q l)]
          omega
      · rw [if_neg c2]
        have eqs : pre ++ (q :: suf ++ acc) ++ kids (pre.length + 1) q l = (pre ++ [q]) ++ (suf ++ (acc ++ kids (pre.length + 1) q l)) := by simp
        have el : (pre ++ [q]).length = pre.length + 1 := by simp
        have ih := ih n (pre ++ [q]) suf (acc ++ kids (pre.length + 1) q l) (files + (l.length - (kids (pre.length + 1) q l).length)) (fun x hx => hs x (by simp [hx])) (fun x hx => by
            rcases List.mem_append.mp hx with z | z
            · exact ha x z
            · unfold kids at z
              obtain ⟨r, _, rfl⟩ := List.mem_map.mp z
              show q.depth + 1 + n = 9
              omega) (fun z => by
            rw [hn z, List.nil_append]
            by_cases y : kids (pre.length + 1) q l = []
            · exact y
            · exact absurd ⟨y, by omega⟩ c1) (by
            rw [el, List.length_append]
            rw [hlen] at c2
            rw [List.length_cons] at c2
            omega) (by rw [el]; omega) (by rw [el]; omega)
        rw [el] at ih
        rw [eqs, ih]
        unfold capped
        cases cont b n (pre.length + 1 + 1) suf (acc ++ kids (pre.length + 1) q l) with
        | none => rfl
        | some y =>
          rw [Option.map_some, Option.bind_some, Option.bind_some]
          dsimp only
          have e3 : (pre ++ [q] ++ (suf ++ (acc ++ kids (pre.length + 1) q l))).length + y.1.length = (pre ++ (q :: suf ++ acc)).length + (kids (pre.length + 1) q l ++ y.1).length := by
            simp only [List.length_append, List.length_cons, List.length_nil]; omega
          have e4 : files + (l.length - (kids (pre.length + 1) q l).length) + y.2 = files + (l.length - (kids (pre.length + 1) q l).length + y.2) := by omega
          rw [e3, e4]
          have e5 : pre ++ [q] ++ (suf ++ (acc ++ kids (pre.length + 1) q l)) ++ y.1 = pre ++ (q :: suf ++ acc) ++ (kids (pre.length + 1) q l ++ y.1) := by simp
          rw [e5]
theorem run_cont {b : Bytes} : ∀ fuel : Nat, RunOk b fuel
  | 0, n, pre, suf, acc, files, _, _, _, hc, hf, h1 => by omega
  | fuel + 1, n, pre, [], [], files, _, _, _, hc, hf, h1 => by
    show (match (pre ++ ([] ++ []))[pre.length]? with | none => some (pre ++ ([] ++ []), files) | some q => _) = _
    rw [cont_nil]
    have e : lv b n (pre.length + 1) [] = some ([], 0) := by cases n <;> rfl
    rw [e, List.append_nil, List.append_nil, List.getElem?_eq_none (Nat.le_refl _)]
    show some (pre, files) = if (pre.length + 0 - 1) + (files + 0) ≤ 16384 then some (pre ++ [], files + 0) else none
    simp only [List.length_nil] at hc
    rw [if_pos (by omega), List.append_nil]; rfl
  | fuel + 1, n, pre, [], q :: acc, files, hs, ha, hn, hc, hf, h1 => by
    match n, hn with
    | 0, hn => exact absurd (hn rfl) (by simp)
    | n + 1, _ =>
      rw [cont_nil, lv_cont (by simp), List.nil_append]
      have := run_step (b := b) (run_cont fuel) n pre q acc [] files (fun x hx => by have := ha x hx; omega) (fun x hx => by cases hx) (fun _ => rfl) (by simp only [List.length_nil, List.length_cons] at hc ⊢; omega) hf
      rw [List.append_nil] at this
      exact this
  | fuel + 1, n, pre, q :: suf, acc, files, hs, ha, hn, hc, hf, h1 => run_step (run_cont fuel) n pre q suf acc files hs ha hn hc hf
def topQ (r : Rec) : Q := ⟨r, r, [], 1, 1⟩
theorem run_top {b : Bytes} (r : Rec) : runQ b 16387 [topQ r] 0 0 = capped [topQ r] 0 (lv b 8 1 [topQ r]) := by
  have := run_cont (b := b) 16387 7 [] [topQ r] [] 0 (fun q hq => by
    rw [List.mem_singleton] at hq; subst hq; rfl) (fun q hq => by cases hq) (fun h => by cases h) (by simp) (by simp) (by simp)
  rw [lv_cont (by simp)]
  exact this
def qok (b : Bytes) (n : Nat) (q : Q) : Bool := okT b n q.rec_ q.up
def qdfs (b : Bytes) (n : Nat) (q : Q) : List (Path × Rec) := dfs b n q.rec_ q.up q.path
theorem gen_some {b : Bytes} : ∀ (gen : List Q) (s : Nat), (∀ q ∈ gen, (readF b q.rec_ q.up).isSome = true) → ∃ x, genRead b s gen = some x
  | [], s, _ => ⟨_, rfl⟩
  | q :: r, s, h => by
    obtain ⟨l, hl⟩ := Option.isSome_iff_exists.mp (h q (by simp))
    obtain ⟨x, hx⟩ := gen_some r (s + 1) fun y hy => h y (by simp [hy])
    refine ⟨(kids s q l ++ x.1, (l.length - (kids s q l).length) + x.2), ?_⟩
    show (readF b q.rec_ q.up).bind _ = _
    rw [hl, Option.bind_some, hx]; rfl
theorem gen_inv {b : Bytes} {s : Nat} {q : Q} {r : List Q} {x : List Q × Nat} (h : genRead b s (q :: r) = some x) : ∃ l y, readF b q.rec_ q.up = some l ∧ genRead b (s + 1) r = some y ∧ x = (kids s q l ++ y.1, (l.length - (kids s q l).length) + y.2) := by
  have h : (readF b q.rec_ q.up).bind (fun l => (genRead b (s + 1) r).map fun x => (kids s q l ++ x.1, (l.length - (kids s q l).length) + x.2)) = some x := h
  cases hl : readF b q.rec_ q.up with
  | none => rw [hl] at h; cases h
  | some l =>
    rw [hl, Option.bind_some] at h
    cases hy : genRead b (s + 1) r with
    | none => rw [hy] at h; cases h
    | some y =>
      rw [hy] at h
      exact ⟨l, y, rfl, rfl, (Option.some.inj h).symm⟩
theorem gen_mem {b : Bytes} : ∀ (gen : List Q) (s : Nat) (x : List Q × Nat), genRead b s gen = some x → ∀ k ∈ x.1, ∃ q ∈ gen, ∃ l r, readF b q.rec_ q.up = some l ∧ r ∈ l ∧ r.folder = true ∧ k.rec_ = r ∧ k.up = q.rec_ ∧ k.path = q.path ++ [r.name] ∧ k.depth = q.depth + 1
  | [], s, x, h, k, hk => by cases h; cases hk
  | q :: t, s, x, h, k, hk => by
    obtain ⟨l, y, h1, h2, rfl⟩ := gen_inv h
    rcases List.mem_append.mp hk with z | z
    · unfold kids at z
      obtain ⟨r, hr, rfl⟩ := List.mem_map.mp z
      obtain ⟨hr1, hr2⟩ := List.mem_filter.mp hr
      exact ⟨q, by simp, l, r, h1, hr1, hr2, rfl, rfl, rfl, rfl⟩
    · obtain ⟨q', hq', rest⟩ := gen_mem t (s + 1) y h2 k z
      exact ⟨q', by simp [hq'], rest⟩
theorem gen_has {b : Bytes} : ∀ (gen : List Q) (s : Nat) (x : List Q × Nat), genRead b s gen = some x → ∀ q ∈ gen, ∃ l, readF b q.rec_ q.up = some l ∧ ∀ r ∈ l, r.folder = true → ∃ k ∈ x.1, k.rec_ = r ∧ k.up = q.rec_
  | [], s, x, h, q, hq => by cases hq
  | p :: t, s, x, h, q, hq => by
    obtain ⟨l, y, h1, h2, rfl⟩ := gen_inv h
    rcases List.mem_cons.mp hq with e | e
    · subst e
      refine ⟨l, h1, fun r hr hf => ⟨⟨r, q.rec_, q.path ++ [r.name], s, q.depth + 1⟩, ?_, rfl, rfl⟩⟩
      refine List.mem_append_left _ ?_
      unfold kids
      exact List.mem_map.mpr ⟨r, List.mem_filter.mpr ⟨hr, hf⟩, rfl⟩
    · obtain ⟨l', hl', hk⟩ := gen_has t (s + 1) y h2 q e
      refine ⟨l', hl', fun r hr hf => ?_⟩
      obtain ⟨k, hk1, hk2⟩ := hk r hr hf
      exact ⟨k, List.mem_append_right _ hk1, hk2⟩
theorem okT_succ {b : Bytes} {n : Nat} {self up : Rec} : okT b (n + 1) self up = true ↔ ∃ l, readF b self up = some l ∧ ∀ r ∈ l, r.folder = true → okT b n r self = true := by
  show (match readF b self up with | none => false | some l => l.all fun x => !x.folder || okT b n x self) = true ↔ _
  cases readF b self up with
  | none => simp
  | some l =>
    dsimp only
    rw [List.all_eq_true]
    constructor
    · intro h
      refine ⟨l, rfl, fun r hr hf => ?_⟩
      have := h r hr
      rw [hf] at this
      exact this
    · rintro ⟨l', hl', h⟩ r hr
      cases hl'
      cases hf : r.folder with
      | false => rfl
      | true => rw [h r hr hf]; rfl
theorem lv_ok {b : Bytes} : ∀ (n s : Nat) (gen : List Q), (lv b n s gen).isSome = true ↔ ∀ q ∈ gen, qok b n q = true
  | n, s, [] => by
    have e : lv b n s [] = some ([], 0) := by cases n <;> rfl
    rw [e]; simp
  | 0, s, q :: r => by
    rw [lv_zero (by simp)]
    constructor
    · intro h; cases h
    · intro h
      have := h q (by simp)
      unfold qok okT at this
      cases this
  | n + 1, s, q :: r => by
    rw [lv_cont (by simp)]
    unfold cont
    constructor
    · intro h y hy
      cases hx : genRead b s (q :: r) with
      | none => rw [hx] at h; cases h
      | some x =>
        rw [hx, Option.bind_some, Option.isSome_map, List.nil_append, lv_ok n] at h
        obtain ⟨l, hl, hk⟩ := gen_has _ s x hx y hy
        unfold qok
        rw [okT_succ]
        refine ⟨l, hl, fun r' hr' hf => ?_⟩
        obtain ⟨k, hk1, hk2, hk3⟩ := hk r' hr' hf
        have := h k hk1
        unfold qok at this
        rw [hk2, hk3] at this
        exact this
    · intro h
      obtain ⟨x, hx⟩ := gen_some (b := b) (q :: r) s fun y hy => by
        have := h y hy
        unfold qok at this
        rw [okT_succ] at this
        obtain ⟨l, hl, _⟩ := this
        rw [hl]; rfl
      rw [hx, Option.bind_some, Option.isSome_map, List.nil_append, lv_ok n]
      intro k hk
      obtain ⟨y, hy, l, r', hl, hr', hf, e1, e2, _⟩ := gen_mem _ s x hx k hk
      have := h y hy
      unfold qok at this ⊢
      rw [okT_succ] at this
      obtain ⟨l', hl', hz⟩ := this
      rw [hl] at hl'
      cases hl'
      rw [e1, e2]
      exact hz r' hr' hf
def sumQ (f : Q → Nat) (gen : List Q) : Nat := (gen.map f).sum
theorem sumQ_app (f : Q → Nat) (a c : List Q) : sumQ f (a ++ c) = sumQ f a + sumQ f c := by unfold sumQ; rw [List.map_append, List.sum_append]
theorem dfs_len {b : Bytes} {n s : Nat} {q : Q} {l : List Rec} (h : readF b q.rec_ q.up = some l) : (qdfs b (n + 1) q).length = l.length + sumQ (fun k => (qdfs b n k).length) (kids s q l) := by
  unfold qdfs
  show (((readF b q.rec_ q.up).getD []).flatMap _).length = _
  rw [h, Option.getD_some]
  unfold kids sumQ
  clear h
  induction l with
  | nil => rfl
  | cons a r ih =>
    rw [List.flatMap_cons, List.length_append, ih, List.length_cons]
    by_cases hf : a.folder = true
    · rw [if_pos hf, List.filter_cons_of_pos (by exact hf)]
      simp only [List.map_cons, List.sum_cons, List.length_cons]
      omega
    · rw [if_neg hf, List.filter_cons_of_neg (by exact hf)]
      simp only [List.length_cons, List.length_nil]
      omega
theorem dfs_folders {b : Bytes} {n s : Nat} {q : Q} {l : List Rec} (h : readF b q.rec_ q.up = some l) : ((qdfs b (n + 1) q).filter fun x => x.2.folder).length = (kids s q l).length + sumQ (fun k => ((qdfs b n k).filter fun x => x.2.folder).length) (kids s q l) := by
  unfold qdfs
  show ((((readF b q.rec_ q.up).getD []).flatMap _).filter _).length = _
  rw [h, Option.getD_some]
  unfold kids sumQ
  clear h
  induction l with
  | nil => rfl
  | cons a r ih =>
    rw [List.flatMap_cons, List.filter_append, List.length_append, ih]
    by_cases hf : a.folder = true
    · rw [if_pos hf, List.filter_cons_of_pos (by exact hf), List.filter_cons_of_pos (by exact hf)]
      simp only [List.map_cons, List.sum_cons, List.length_cons]
      omega
    · rw [if_neg hf, List.filter_cons_of_neg (by exact hf), List.filter_cons_of_neg (by exact hf)]
      simp only [List.filter_nil, List.length_nil]
      omega
theorem gen_sums {b : Bytes} {n : Nat} : ∀ (gen : List Q) (s : Nat) (x : List Q × Nat), genRead b s gen = some x →
    sumQ (fun q => (qdfs b (n + 1) q).length) gen = x.1.length + x.2 + sumQ (fun k => (qdfs b n k).length) x.1 ∧
    sumQ (fun q => ((qdfs b (n + 1) q).filter fun x => x.2.folder).length) gen = x.1.length + sumQ (fun k => ((qdfs b n k).filter fun x => x.2.folder).length) x.1
  | [], s, x, h => by cases h; exact ⟨rfl, rfl⟩
  | q :: r, s, x, h => by
    obtain ⟨l, y, h1, h2, rfl⟩ := gen_inv h
    obtain ⟨i1, i2⟩ := gen_sums r (s + 1) y h2
    have k := kids_le s q l
    dsimp only
    rw [sumQ_app, sumQ_app, List.length_append]
    have d1 := dfs_len (n := n) (s := s) h1
    have d2 := dfs_folders (n := n) (s := s) h1
    constructor
    · show (qdfs b (n + 1) q).length + sumQ _ r = _
      rw [i1, d1]; omega
    · show ((qdfs b (n + 1) q).filter fun x => x.2.folder).length + sumQ _ r = _
      rw [i2, d2]; omega
theorem lv_sums {b : Bytes} : ∀ (n s : Nat) (gen : List Q) (y : List Q × Nat), lv b n s gen = some y →
    sumQ (fun q => (qdfs b n q).length) gen = y.1.length + y.2 ∧ sumQ (fun q => ((qdfs b n q).filter fun x => x.2.folder).length) gen = y.1.length
  | n, s, [], y, h => by
    have e : lv b n s [] = some ([], 0) := by cases n <;> rfl
    rw [e] at h; cases h; exact ⟨rfl, rfl⟩
  | 0, s, q :: r, y, h => by rw [lv_zero (by simp)] at h; cases h
  | n + 1, s, q :: r, y, h => by
    rw [lv_cont (by simp)] at h
    unfold cont at h
    cases hx : genRead b s (q :: r) with
    | none => rw [hx] at h; cases h
    | some x =>
      rw [hx, Option.bind_some, List.nil_append] at h
      cases hz : lv b n (s + (q :: r).length) x.1 with
      | none => rw [hz] at h; cases h
      | some z =>
        rw [hz] at h
        cases h
        obtain ⟨g1, g2⟩ := gen_sums (n := n) _ s x hx
        obtain ⟨i1, i2⟩ := lv_sums n _ x.1 z hz
        refine ⟨?_, ?_⟩
        · rw [g1, i1]; simp only [List.length_append]; omega
        · rw [g2, i2]; simp only [List.length_append]
def entryQ (q : Q) : Entry := ⟨q.rec_.place, q.above, q.rec_.name⟩
def Held (b : Bytes) (all : List (Path × Rec)) (n : Nat) (q : Q) : Prop := all.filter (under q.path) = qdfs b n q
theorem held_kid {b : Bytes} {all : List (Path × Rec)} {n : Nat} {q k : Q} {l : List Rec} {r : Rec} (h : Held b all (n + 1) q) (hl : readF b q.rec_ q.up = some l) (hr : r ∈ l) (hf : r.folder = true) (e1 : k.rec_ = r) (e2 : k.up = q.rec_) (e3 : k.path = q.path ++ [r.name]) : Held b all n k := by
  unfold Held qdfs at *
  rw [e1, e2, e3]
  rw [← dfs_sub (n := n) (path := q.path) hl hr hf, ← h, List.filter_filter]
  apply List.filter_congr
  intro x _
  cases hu : under (q.path ++ [r.name]) x with
  | false => rfl
  | true =>
    obtain ⟨a, t, e⟩ := (under_iff _ _).mp hu
    have : under q.path x = true := (under_iff _ _).mpr ⟨r.name, a :: t, by rw [e]; simp⟩
    rw [this]; rfl
theorem held_kids {b : Bytes} {all : List (Path × Rec)} {n : Nat} {q : Q} {l : List Rec} (h : Held b all (n + 1) q) (hl : readF b q.rec_ q.up = some l) :
    (all.filter fun x => x.2.folder && (x.1.dropLast == q.path && x.1 != [])) = (l.filter fun x => x.folder).map fun x => (q.path ++ [x.name], x) := by
  unfold Held qdfs at h
  rw [← dfs_kids (b := b) (n := n) (path := q.path) hl, ← h, List.filter_filter]
  apply List.filter_congr
  intro x _
  by_cases c : (x.2.folder && (x.1.dropLast == q.path && x.1 != [])) = true
  · have hu : under q.path x = true := by
      simp only [Bool.and_eq_true, beq_iff_eq, bne_iff_ne, ne_eq] at c
      obtain ⟨_, c2, c3⟩ := c
      refine (under_iff _ _).mpr ⟨x.1.getLast c3, [], ?_⟩
      rw [← c2]
      exact (List.dropLast_concat_getLast c3).symm
    rw [hu, c]; rfl
  · have c : (x.2.folder && (x.1.dropLast == q.path && x.1 != [])) = false := by simpa using c
    rw [c]; rfl
theorem gen_level {b : Bytes} {all : List (Path × Rec)} {n : Nat} : ∀ (gen : List Q) (s : Nat) (x : List Q × Nat), genRead b s gen = some x → (∀ q ∈ gen, Held b all (n + 1) q) →
    level all (gen.zipIdx.map fun y => (s + y.2, y.1.path)) = x.1.map fun k => (k.above, k.path, k.rec_)
  | [], s, x, h, _ => by cases h; rfl
  | q :: r, s, x, h, hh => by
    obtain ⟨l, y, h1, h2, rfl⟩ := gen_inv h
    have ih := gen_level r (s + 1) y h2 fun z hz => hh z (by simp [hz])
    unfold level at ih ⊢
    have e0 : (q :: r).zipIdx.map (fun y => (s + y.2, y.1.path)) = (s, q.path) :: r.zipIdx.map (fun y => (s + 1 + y.2, y.1.path)) := by
      rw [List.zipIdx_cons, List.map_cons, Nat.add_zero]
      congr 1
      rw [List.zipIdx_succ, List.map_map]
      apply List.map_congr_left
      intro z _
      show (s + (z.2 + 1), z.1.path) = (s + 1 + z.2, z.1.path)
      rw [Nat.add_assoc, Nat.add_comm 1]
    rw [e0, List.flatMap_cons, ih]
    dsimp only
    rw [held_kids (hh q (by simp)) h1, List.map_append]
    congr 1
    unfold kids
    rw [List.map_map, List.map_map]
    rfl
theorem lv_levels {b : Bytes} {all : List (Path × Rec)} : ∀ (n s : Nat) (gen : List Q) (y : List Q × Nat), lv b n s gen = some y → (∀ q ∈ gen, Held b all n q) →
    levels all (n + 1) (s + gen.length) (gen.zipIdx.map fun y => (s + y.2, y.1.path)) = y.1.map entryQ
  | n, s, [], y, h, _ => by
    have e : lv b n s [] = some ([], 0) := by cases n <;> rfl
    rw [e] at h; cases h; rfl
  | 0, s, q :: r, y, h, _ => by rw [lv_zero (by simp)] at h; cases h
  | n + 1, s, q :: r, y, h, hh => by
    rw [lv_cont (by simp)] at h
    unfold cont at h
    cases hx : genRead b s (q :: r) with
    | none => rw [hx] at h; cases h
    | some x =>
      rw [hx, Option.bind_some, List.nil_append] at h
      cases hz : lv b n (s + (q :: r).length) x.1 with
      | none => rw [hz] at h; cases h
      | some z =>
        rw [hz] at h
        cases h
        have hlev := gen_level (n := n) (q :: r) s x hx hh
        have ih := lv_levels n (s + (q :: r).length) x.1 z hz fun k hk => by
          obtain ⟨y, hy, l, r', hl, hr', hf, e1, e2, e3, _⟩ := gen_mem _ s x hx k hk
          exact held_kid (hh y hy) hl hr' hf e1 e2 e3
        show (let l := level all _; l.map (fun x => (⟨x.2.2.place, x.1, x.2.2.name⟩ : Entry)) ++ (if l.isEmpty = true then [] else levels all (n + 1) (s + (q :: r).length + l.length) (l.zipIdx.map fun x => (s + (q :: r).length + x.2, x.1.2.1)))) = _
        rw [hlev]
        dsimp only
        rw [List.map_map, List.map_append]
        congr 1
        rw [List.isEmpty_map, List.length_map]
        have e1 : ((x.1.map fun k => (k.above, k.path, k.rec_)).zipIdx.map fun x => (s + (q :: r).length + x.2, x.1.2.1)) = x.1.zipIdx.map fun y => (s + (q :: r).length + y.2, y.1.path) := by
          rw [List.zipIdx_map, List.map_map]
          apply List.map_congr_left
          intro z _
          rfl
        rw [e1]
        by_cases he : x.1.isEmpty = true
        · rw [if_pos he]
          have : x.1 = [] := List.isEmpty_iff.mp he
          rw [this] at hz
          have e : lv b n (s + (q :: r).length) [] = some ([], 0) := by cases n <;> rfl
          rw [e] at hz; cases hz; rfl
        · rw [if_neg he]; exact ih
end MM
set_option linter.all false
set_option maxRecDepth 100000
namespace MM
open Sn28
def MARKB : Bytes := [67, 68, 48, 48, 49, 1]
def desc (b : Bytes) (p k : Nat) : Bool := decide (at_ b p = k) && decide ((b.drop (p + 1)).take 6 = MARKB)
theorem mark_iff {b : Bytes} {p : Nat} (h : p + 7 ≤ b.length) : (b.drop (p + 1)).take 6 = MARKB ↔ ((b.drop (p + 1)).take 5 = ascii "CD001" ∧ at_ b (p + 6) = 1) := by
  have ha : ascii "CD001" = [67, 68, 48, 48, 49] := by decide
  have hs : (b.drop (p + 1)).take 6 = (b.drop (p + 1)).take 5 ++ [at_ b (p + 6)] := by
    rw [List.take_succ, List.getElem?_drop, at_get (by omega)]
    rfl
  rw [ha, hs]
  unfold MARKB
  constructor
  · intro e
    have e2 : (b.drop (p + 1)).take 5 ++ [at_ b (p + 6)] = [67, 68, 48, 48, 49] ++ [1] := e
    have := List.append_inj' e2 rfl
    exact ⟨this.1, by simpa using this.2⟩
  · rintro ⟨e1, e2⟩
    rw [e1, e2]; rfl
def fol (b : Bytes) (p : Nat) : Bool := ends ((b.length - p) / 2048 + 1) (b.drop p)
theorem ends_fuel : ∀ (n m : Nat) (c : Bytes), c.length < 2048 * n → c.length < 2048 * m → ends n c = ends m c
  | 0, _, _, h, _ => by omega
  | _ + 1, 0, _, _, h => by omega
  | n + 1, m + 1, c, h1, h2 => by
    unfold ends
    by_cases z : c.length < SECTOR ∨ (c.drop 1).take 5 ≠ ascii "CD001" ∨ at_ c 6 ≠ 1
    · rw [if_pos z, if_pos z]
    · rw [if_neg z, if_neg z]
      have hl : ¬ c.length < 2048 := fun q => z (.inl q)
      rw [ends_fuel n m (c.drop SECTOR) (by rw [List.length_drop]; show c.length - 2048 < _; omega) (by rw [List.length_drop]; show c.length - 2048 < _; omega)]
theorem fol_end {b : Bytes} {p : Nat} (h : b.length < p + 2048) : fol b p = false := by
  unfold fol ends
  rw [if_pos]
  left
  rw [List.length_drop]
  show b.length - p < 2048
  omega
theorem fol_step {b : Bytes} {p : Nat} (h : p + 2048 ≤ b.length) : fol b p = (desc b p 255 || (desc b p 0 && fol b (p + 2048))) := by
  have hd : ∀ k, desc b p k = true ↔ (at_ b p = k ∧ ((b.drop (p + 1)).take 5 = ascii "CD001" ∧ at_ b (p + 6) = 1)) := by
    intro k
    unfold desc
    rw [Bool.and_eq_true, decide_eq_true_eq, decide_eq_true_eq, mark_iff (by omega)]
  unfold fol
  conv => lhs; unfold ends
  have hl : (b.drop p).length = b.length - p := List.length_drop
  have e1 : ((b.drop p).drop 1).take 5 = (b.drop (p + 1)).take 5 := by rw [List.drop_drop]
  have e6 : at_ (b.drop p) 6 = at_ b (p + 6) := at_drop
  have e0 : at_ (b.drop p) 0 = at_ b p := at_drop
  have eN : (b.drop p).drop SECTOR = b.drop (p + 2048) := by rw [List.drop_drop]; rfl
  rw [hl, e1, e6, e0, eN]
  by_cases z : (b.drop (p + 1)).take 5 = ascii "CD001" ∧ at_ b (p + 6) = 1
  · rw [if_neg (show ¬ (b.length - p < SECTOR ∨ (b.drop (p + 1)).take 5 ≠ ascii "CD001" ∨ at_ b (p + 6) ≠ 1) by
      rintro (y | y | y)
      · have : b.length - p < 2048 := y; omega
      · exact y z.1
      · exact y z.2)]
    by_cases k1 : at_ b p = 255
    · rw [if_pos k1, (hd 255).mpr ⟨k1, z⟩]; rfl
    · have f1 : desc b p 255 = false := by
        cases q : desc b p 255 with
        | false => rfl
        | true => exact absurd ((hd 255).mp q).1 k1
      rw [if_neg k1, f1, Bool.false_or]
      by_cases k2 : at_ b p = 0
      · rw [if_pos k2, (hd 0).mpr ⟨k2, z⟩, Bool.true_and]
        exact ends_fuel _ _ _ (by rw [List.length_drop]; omega) (by rw [List.length_drop]; omega)
      · have f2 : desc b p 0 = false := by
          cases q : desc b p 0 with
          | false => rfl
          | true => exact absurd ((hd 0).mp q).1 k2
        rw [if_neg k2, f2]; rfl
  · rw [if_pos (show b.length - p < SECTOR ∨ (b.drop (p + 1)).take 5 ≠ ascii "CD001" ∨ at_ b (p + 6) ≠ 1 by
      by_cases y : (b.drop (p + 1)).take 5 = ascii "CD001"
      · exact .inr (.inr fun w => z ⟨y, w⟩)
      · exact .inr (.inl y))]
    have f : ∀ k, desc b p k = false := fun k => by
      cases q : desc b p k with
      | false => rfl
      | true => exact absurd ((hd k).mp q).2 z
    rw [f, f]; rfl
def trim (l : Bytes) : Bytes := (l.reverse.dropWhile fun c => c == 32).reverse
theorem trim_blank {l : Bytes} : trim (l ++ [32]) = trim l := by
  unfold trim
  rw [List.reverse_append]
  rfl
theorem trim_other {l : Bytes} {c : Nat} (h : c ≠ 32) : trim (l ++ [c]) = l ++ [c] := by
  unfold trim
  rw [List.reverse_append]
  show ((c :: l.reverse).dropWhile _).reverse = _
  rw [List.dropWhile_cons_of_neg (by simpa using h)]
  simp
theorem trim_len (l : Bytes) : (trim l).length ≤ l.length := by
  unfold trim
  rw [List.length_reverse]
  exact Nat.le_trans (List.dropWhile_sublist _).length_le (by rw [List.length_reverse]; exact Nat.le_refl _)
theorem filter_split {α : Type} (p : α → Bool) : ∀ l : List α, (l.filter p).length + (l.filter fun x => !p x).length = l.length
  | [] => rfl
  | a :: r => by
    have ih := filter_split p r
    cases h : p a with
    | true => rw [List.filter_cons_of_pos h, List.filter_cons_of_neg (by rw [h]; decide), List.length_cons, List.length_cons]; omega
    | false => rw [List.filter_cons_of_neg (by rw [h]; decide), List.filter_cons_of_pos (by rw [h]; rfl), List.length_cons, List.length_cons]; omega
structure ROk (r : Rec) : Prop where
  pl : r.place < 4294967296
  sz : r.size < 4294967296
  n1 : 1 ≤ r.name.length
  n2 : r.name.length < 256
  nb : IsB r.name
theorem both4_lt {b : Bytes} (hB : IsB b) {i n : Nat} (h : both4 b i = some n) : n < 4294967296 := by
  unfold both4 at h
  split at h
  · cases h
    unfold low4 low2
    have h0 := at_lt hB i
    have h1 := at_lt hB (i + 1)
    have h2 := at_lt hB (i + 2)
    have h3 := at_lt hB (i + 2 + 1)
    omega
  · cases h
theorem recP_ok {b : Bytes} (hB : IsB b) {p e : Nat} (h : p < e) (he : e ≤ b.length) {r : Rec} (q : recP b p e = some r) : ROk r := by
  have hl := recP_len hB h he q
  unfold recP at q
  split at q
  · rename_i ok
    split at q
    · cases q1 : both4 b (p + 2) with
      | none => rw [q1] at q; cases q
      | some x =>
        cases q2 : both4 b (p + 10) with
        | none => rw [q1, q2] at q; cases q
        | some y =>
          rw [q1, q2] at q
          cases q
          unfold lenOk at ok
          simp only [Bool.and_eq_true, Bool.not_eq_true', Bool.or_eq_false_iff, decide_eq_false_iff_not] at ok
          have hk := at_lt hB (p + 32)
          have hlen : ((b.drop (p + 33)).take (at_ b (p + 32))).length = at_ b (p + 32) := by
            rw [List.length_take, List.length_drop]
            omega
          refine ⟨both4_lt hB q1, both4_lt hB q2, ?_, ?_, isB_take (isB_drop hB _) _⟩
          · show 1 ≤ ((b.drop (p + 33)).take (at_ b (p + 32))).length
            rw [hlen]; omega
          · show ((b.drop (p + 33)).take (at_ b (p + 32))).length < 256
            rw [hlen]; exact hk
    · cases q
  · cases q
theorem sec_ok {b : Bytes} (hB : IsB b) {e : Nat} (he : e ≤ b.length) : ∀ (n p : Nat) (l : List Rec), e - p ≤ n → p ≤ e → sec b p e = some l → ∀ r ∈ l, ROk r
  | n, p, l, hn, hp, h, r, hr => by
    by_cases hpe : p = e
    · subst hpe
      rw [sec_end] at h
      cases h
      cases hr
    · have hlt : p < e := by omega
      by_cases h0 : at_ b p = 0
      · rw [sec_zero hlt he h0] at h
        split at h
        · cases h; cases hr
        · cases h
      · rw [sec_rec hB hlt he h0] at h
        cases q : recP b p e with
        | none => rw [q] at h; cases h
        | some x =>
          rw [q] at h
          obtain ⟨k1, k2⟩ := recP_len hB hlt he q
          cases q2 : sec b (p + at_ b p) e with
          | none => rw [q2] at h; cases h
          | some m =>
            rw [q2] at h
            simp only [Option.bind_some, Option.map_some, Option.some.injEq] at h
            subst h
            rcases List.mem_cons.mp hr with z | z
            · rw [z]; exact recP_ok hB hlt he q
            · match n, hn with
              | 0, hn => omega
              | n + 1, hn => exact sec_ok hB he n (p + at_ b p) m (by omega) (by omega) q2 r z
theorem secs_ok {b : Bytes} (hB : IsB b) : ∀ (n p : Nat) (l : List Rec), p + 2048 * n ≤ b.length → secs b p n = some l → ∀ r ∈ l, ROk r
  | 0, p, l, _, h, r, hr => by cases h; cases hr
  | n + 1, p, l, hp, h, r, hr => by
    have h : (sec b p (p + 2048)).bind (fun l => if l = [] then none else (secs b (p + 2048) n).map fun m => l ++ m) = some l := h
    cases q : sec b p (p + 2048) with
    | none => rw [q] at h; cases h
    | some x =>
      rw [q] at h
      have h : (if x = [] then none else (secs b (p + 2048) n).map fun m => x ++ m) = some l := h
      split at h
      · cases h
      · cases q2 : secs b (p + 2048) n with
        | none => rw [q2] at h; cases h
        | some y =>
          rw [q2] at h
          cases h
          rcases List.mem_append.mp hr with z | z
          · exact sec_ok hB (e := p + 2048) (by omega) _ p x (Nat.le_refl _) (by omega) q r z
          · exact secs_ok hB n (p + 2048) y (by omega) q2 r z
theorem readF_ok {b : Bytes} (hB : IsB b) {self up : Rec} {l : List Rec} (h : readF b self up = some l) : (∀ r ∈ l, ROk r) ∧ 34 * l.length ≤ b.length := by
  unfold readF at h
  split at h
  · cases h
  · rename_i z
    cases q : secs b (2048 * self.place) (self.size / 2048) with
    | none => rw [q] at h; cases h
    | some m =>
      rw [q, Option.bind_some] at h
      have k1 := secs_ok hB (self.size / 2048) (2048 * self.place) m (by omega) q
      have k2 := secs_len hB (self.size / 2048) (2048 * self.place) m (by omega) q
      match m, h, k1, k2 with
      | [], h, _, _ => cases h
      | [_], h, _, _ => cases h
      | s :: u :: r, h, k1, k2 =>
        dsimp only at h
        split at h
        · cases h
          refine ⟨fun x hx => k1 x (by simp [hx]), ?_⟩
          simp only [List.length_cons] at k2
          omega
        · cases h
theorem gen_above {b : Bytes} : ∀ (gen : List Q) (s : Nat) (x : List Q × Nat), genRead b s gen = some x → ∀ k ∈ x.1, k.above < s + gen.length
  | [], s, x, h, k, hk => by cases h; cases hk
  | q :: t, s, x, h, k, hk => by
    obtain ⟨l, y, h1, h2, rfl⟩ := gen_inv h
    rcases List.mem_append.mp hk with z | z
    · unfold kids at z
      obtain ⟨r, hr, rfl⟩ := List.mem_map.mp z
      simp only [List.length_cons]
      omega
    · have := gen_above t (s + 1) y h2 k z
      simp only [List.length_cons]
      omega
theorem lv_all {b : Bytes} (hB : IsB b) : ∀ (n s : Nat) (gen : List Q) (y : List Q × Nat), lv b n s gen = some y → ∀ k ∈ y.1, ROk k.rec_ ∧ k.above < s + gen.length + y.1.length
  | n, s, [], y, h, k, hk => by
    have e : lv b n s [] = some ([], 0) := by cases n <;> rfl
    rw [e] at h; cases h; cases hk
  | 0, s, q :: r, y, h, k, hk => by rw [lv_zero (by simp)] at h; cases h
  | n + 1, s, q :: r, y, h, k, hk => by
    rw [lv_cont (by simp)] at h
    unfold cont at h
    cases hx : genRead b s (q :: r) with
    | none => rw [hx] at h; cases h
    | some x =>
      rw [hx, Option.bind_some, List.nil_append] at h
      cases hz : lv b n (s + (q :: r).length) x.1 with
      | none => rw [hz] at h; cases h
      | some z =>
        rw [hz] at h
        cases h
        dsimp only at hk ⊢
        rw [List.length_append]
        rcases List.mem_append.mp hk with w | w
        · have h1 := gen_above _ s x hx k w
          obtain ⟨y, hy, l, r', hl, hr', hf, e1, _⟩ := gen_mem _ s x hx k w
          exact ⟨by rw [e1]; exact (readF_ok hB hl).1 r' hr', by omega⟩
        · have ih := lv_all hB n _ x.1 z hz k w
          exact ⟨ih.1, by omega⟩
def wholeOk (b : Bytes) : Bool := decide (b.length % 2048 = 0) && decide (16 < b.length / 2048)
def mainOk (b : Bytes) : Bool :=
  desc b 32768 1 && ((decide (at_ b (32768 + 7) = 0) && decide (at_ b (32768 + 881) = 1)) && ((decide (both2 b (32768 + 120) = some 1) && decide (both2 b (32768 + 124) = some 1)) && (decide (both2 b (32768 + 128) = some 2048) && decide (both4 b (32768 + 80) = some (b.length / 2048)))))
def topP (b : Bytes) : Option Rec := (recP b (32768 + 156) (32768 + 156 + 34)).bind fun r => if r.folder = true ∧ r.name = [0] then some r else none
def tabOk (b : Bytes) (high : Bool) (p size : Nat) (fs : List Q) : Bool := decide (size = (encs high (fs.map entryQ)).length) && decide ((b.drop (2048 * p)).take size = encs high (fs.map entryQ))
structure Vol where
  top : Rec
  fs : List Q
  files : Nat
def volP (b : Bytes) : Option Vol :=
  if wholeOk b = true then if mainOk b = true then if fol b (32768 + 2048) = true then
    (both4 b (32768 + 132)).bind fun size => (topP b).bind fun top => (runQ b 16387 [topQ top] 0 0).bind fun x =>
      if tabOk b false (low4 b (32768 + 140)) size x.1 = true ∧ tabOk b true (high4 b (32768 + 148)) size x.1 = true then some ⟨top, x.1, x.2⟩ else none
  else none else none else none
theorem topP_eq {b : Bytes} (hB : IsB b) (hl : 32768 + 2048 ≤ b.length) :
    record ((((b.drop 32768).take 2048).drop 156).take 34) = (recP b (32768 + 156) (32768 + 156 + 34)).map fun r => (r, at_ b (32768 + 156)) := by
  have e : (((b.drop 32768).take 2048).drop 156).take 34 = (b.drop (32768 + 156)).take (32768 + 156 + 34 - (32768 + 156)) := by
    rw [List.drop_take, List.drop_drop, List.take_take, Nat.add_sub_cancel_left, Nat.min_eq_left (by omega)]
  rw [e]
  exact recP_eq hB (by omega) (by omega)
theorem tree_eq {b : Bytes} (hB : IsB b) {top : Rec} (hok : ROk top) (hn : top.name = [0]) :
    match runQ b 16387 [topQ top] 0 0 with
    | none => ∀ all, below b 9 1 top top [] = some all → 16384 < all.length
    | some x => below b 9 1 top top [] = some (dfs b 8 top top []) ∧ (dfs b 8 top top []).length ≤ 16384 ∧ x.1.map entryQ = table top (dfs b 8 top top []) ∧
        x.1.length = ((dfs b 8 top top []).filter fun y => y.2.folder).length + 1 ∧ x.2 = ((dfs b 8 top top []).filter fun y => !y.2.folder).length ∧ (∀ q ∈ x.1, ROk q.rec_ ∧ q.above < 65536) ∧ x.1 ≠ [] := by
  rw [run_top]
  have hbe := below_eq (b := b) 8 1 top top [] rfl
  have hlok := lv_ok (b := b) 8 1 [topQ top]
  cases hL : lv b 8 1 [topQ top] with
  | none =>
    show ∀ all, _ → _
    intro all hall
    rw [hL] at hlok
    rw [hbe] at hall
    split at hall
    · rename_i z
      exfalso
      have : ∀ q ∈ [topQ top], qok b 8 q = true := fun q hq => by rw [List.mem_singleton] at hq; subst hq; exact z
      exact absurd (hlok.mpr this) (by simp)
    · cases hall
  | some y =>
    rw [hL] at hlok
    have hqk := hlok.mp rfl (topQ top) (by simp)
    have hqk : okT b 8 top top = true := hqk
    rw [if_pos hqk] at hbe
    obtain ⟨s1, s2⟩ := lv_sums 8 1 [topQ top] y hL
    have s1 : (dfs b 8 top top []).length + 0 = y.1.length + y.2 := s1
    have s2 : ((dfs b 8 top top []).filter fun x => x.2.folder).length + 0 = y.1.length := s2
    have hfil : ((dfs b 8 top top []).filter fun x => !x.2.folder).length = y.2 := by
      have := filter_split (fun x : Path × Rec => x.2.folder) (dfs b 8 top top [])
      omega
    unfold capped
    rw [Option.bind_some]
    by_cases hc : ([topQ top].length + y.1.length - 1) + (0 + y.2) ≤ 16384
    · rw [if_pos hc]
      simp only [List.length_cons, List.length_nil] at hc
      refine ⟨hbe, by omega, ?_, ?_, by omega, ?_, by simp⟩
      · have hh := lv_levels (all := dfs b 8 top top []) 8 1 [topQ top] y hL (fun q hq => by
          rw [List.mem_singleton] at hq
          subst hq
          show (dfs b 8 top top []).filter (under []) = dfs b 8 top top []
          rw [List.filter_eq_self]
          intro x hx
          exact under_dfs x hx)
        show entryQ (topQ top) :: y.1.map entryQ = _
        unfold table
        have e1 : entryQ (topQ top) = ⟨top.place, 1, [0]⟩ := by
          show (⟨top.place, 1, top.name⟩ : Entry) = _
          rw [hn]
        rw [e1, ← hh]
        rfl
      · show (topQ top :: y.1).length = _
        rw [List.length_cons]; omega
      · intro q hq
        rcases List.mem_append.mp hq with z | z
        · rw [List.mem_singleton] at z
          subst z
          exact ⟨hok, by show 1 < 65536; omega⟩
        · have := lv_all hB 8 1 [topQ top] y hL q z
          refine ⟨this.1, ?_⟩
          have h2 := this.2
          simp only [List.length_cons, List.length_nil] at h2
          omega
    · rw [if_neg hc]
      show ∀ all, _ → _
      intro all hall
      rw [hbe] at hall
      cases hall
      simp only [List.length_cons, List.length_nil] at hc
      omega
theorem disc_eq {b : Bytes} (hB : IsB b) : disc b = (volP b).map fun v => ⟨trim ((b.drop (32768 + 40)).take 32), b.length / 2048, dfs b 8 v.top v.top []⟩ := by
  have hS : SECTOR = 2048 := rfl
  unfold disc
  by_cases hl : b.length < 32768 + 2048
  · have e1 : take b (16 * SECTOR) SECTOR = none := by
      unfold take
      rw [hS, if_pos (show b.length < 16 * 2048 + 2048 by omega)]
    have e2 : volP b = none := by
      unfold volP wholeOk
      rw [if_neg]
      simp only [Bool.and_eq_true, decide_eq_true_eq]
      omega
    rw [e1, e2]; rfl
  · have e1 : take b (16 * SECTOR) SECTOR = some ((b.drop 32768).take 2048) := by
      unfold take
      rw [hS, if_neg (show ¬ b.length < 16 * 2048 + 2048 by omega)]
    rw [e1, Option.bind_some]
    have a0 : at_ ((b.drop 32768).take 2048) 0 = at_ b 32768 := at_sub (by omega)
    have a6 : at_ ((b.drop 32768).take 2048) 6 = at_ b (32768 + 6) := at_sub (by omega)
    have a7 : at_ ((b.drop 32768).take 2048) 7 = at_ b (32768 + 7) := at_sub (by omega)
    have a881 : at_ ((b.drop 32768).take 2048) 881 = at_ b (32768 + 881) := at_sub (by omega)
    have b120 : both2 ((b.drop 32768).take 2048) 120 = both2 b (32768 + 120) := both2_sub (by omega)
    have b124 : both2 ((b.drop 32768).take 2048) 124 = both2 b (32768 + 124) := both2_sub (by omega)
    have b128 : both2 ((b.drop 32768).take 2048) 128 = both2 b (32768 + 128) := both2_sub (by omega)
    have b80 : both4 ((b.drop 32768).take 2048) 80 = both4 b (32768 + 80) := both4_sub (by omega)
    have b132 : both4 ((b.drop 32768).take 2048) 132 = both4 b (32768 + 132) := both4_sub (by omega)
    have l140 : low4 ((b.drop 32768).take 2048) 140 = low4 b (32768 + 140) := low4_sub (by omega)
    have h148 : high4 ((b.drop 32768).take 2048) 148 = high4 b (32768 + 148) := high4_sub (by omega)
    have cd : (((b.drop 32768).take 2048).drop 1).take 5 = (b.drop (32768 + 1)).take 5 := by
      rw [List.drop_take, List.drop_drop, List.take_take, Nat.min_eq_left (by omega)]
    have vn : (((b.drop 32768).take 2048).drop 40).take 32 = (b.drop (32768 + 40)).take 32 := by
      rw [List.drop_take, List.drop_drop, List.take_take, Nat.min_eq_left (by omega)]
    have fo : ends (b.length / SECTOR + 1) (b.drop (17 * SECTOR)) = fol b (32768 + 2048) := by
      unfold fol
      rw [hS]
      exact ends_fuel _ _ _ (by rw [List.length_drop]; omega) (by rw [List.length_drop]; omega)
    simp only [a0, a6, a7, a881, b120, b124, b128, b80, b132, l140, h148, cd, vn, fo, topP_eq hB (by omega : 32768 + 2048 ≤ b.length)]
    have hdsc : desc b 32768 1 = true ↔ (at_ b 32768 = 1 ∧ (b.drop (32768 + 1)).take 5 = ascii "CD001" ∧ at_ b (32768 + 6) = 1) := by
      unfold desc
      rw [Bool.and_eq_true, decide_eq_true_eq, decide_eq_true_eq, mark_iff (by omega)]
    have main_of : ∀ sp, both4 b (32768 + 80) = some sp → (mainOk b = true ∧ fol b (32768 + 2048) = true ↔ ¬ (at_ b 32768 ≠ 1 ∨ (b.drop (32768 + 1)).take 5 ≠ ascii "CD001" ∨ at_ b (32768 + 6) ≠ 1 ∨ at_ b (32768 + 7) ≠ 0 ∨ both2 b (32768 + 120) ≠ some 1 ∨ both2 b (32768 + 124) ≠ some 1 ∨ both2 b (32768 + 128) ≠ some SECTOR ∨ at_ b (32768 + 881) ≠ 1 ∨ fol b (32768 + 2048) = false) ∧ sp = b.length / 2048) := by
      intro sp hsp
      unfold mainOk
      rw [hS]
      simp only [Bool.and_eq_true, decide_eq_true_eq, hdsc, hsp, Option.some.injEq, not_or, ne_eq, Decidable.not_not, Bool.not_eq_false]
      constructor
      · rintro ⟨⟨⟨d1, d2, d3⟩, ⟨d4, d5⟩, ⟨d6, d7⟩, d8, d9⟩, d10⟩
        exact ⟨⟨d1, d2, d3, d4, d6, d7, d8, d5, d10⟩, d9⟩
      · rintro ⟨⟨d1, d2, d3, d4, d6, d7, d8, d5, d10⟩, d9⟩
        exact ⟨⟨⟨d1, d2, d3⟩, ⟨d4, d5⟩, ⟨d6, d7⟩, d8, d9⟩, d10⟩
    have vol_no : ¬ (wholeOk b = true ∧ mainOk b = true ∧ fol b (32768 + 2048) = true) → volP b = none := by
      intro h
      unfold volP
      by_cases h1 : wholeOk b = true
      · rw [if_pos h1]
        by_cases h2 : mainOk b = true
        · rw [if_pos h2]
          rw [if_neg fun h3 => h ⟨h1, h2, h3⟩]
        · rw [if_neg h2]
      · rw [if_neg h1]
    by_cases hA : at_ b 32768 ≠ 1 ∨ (b.drop (32768 + 1)).take 5 ≠ ascii "CD001" ∨ at_ b (32768 + 6) ≠ 1 ∨ at_ b (32768 + 7) ≠ 0 ∨ both2 b (32768 + 120) ≠ some 1 ∨ both2 b (32768 + 124) ≠ some 1 ∨ both2 b (32768 + 128) ≠ some SECTOR ∨ at_ b (32768 + 881) ≠ 1 ∨ fol b (32768 + 2048) = false
    · rw [if_pos hA, vol_no]
      · rfl
      · rintro ⟨_, h2, h3⟩
        cases h80 : both4 b (32768 + 80) with
        | none =>
          unfold mainOk at h2
          rw [h80] at h2
          simp only [Bool.and_eq_true, decide_eq_true_eq] at h2
          exact absurd h2.2.2.2.2 (by simp)
        | some sp => exact ((main_of sp h80).mp ⟨h2, h3⟩).1 hA
    · rw [if_neg hA]
      cases h80 : both4 b (32768 + 80) with
      | none =>
        rw [vol_no]
        · rfl
        · rintro ⟨_, h2, _⟩
          unfold mainOk at h2
          rw [h80] at h2
          simp only [Bool.and_eq_true, decide_eq_true_eq] at h2
          exact absurd h2.2.2.2.2 (by simp)
      | some sp =>
        rw [Option.bind_some]
        have hmf := main_of sp h80
        have volE : volP b = if wholeOk b = true ∧ sp = b.length / 2048 then (both4 b (32768 + 132)).bind fun size => (topP b).bind fun top => (runQ b 16387 [topQ top] 0 0).bind fun x =>
            if tabOk b false (low4 b (32768 + 140)) size x.1 = true ∧ tabOk b true (high4 b (32768 + 148)) size x.1 = true then some ⟨top, x.1, x.2⟩ else none else none := by
          by_cases hw : wholeOk b = true ∧ sp = b.length / 2048
          · obtain ⟨m1, m2⟩ := hmf.mpr ⟨hA, hw.2⟩
            rw [if_pos hw]
            unfold volP
            rw [if_pos hw.1, if_pos m1, if_pos m2]
          · rw [if_neg hw]
            exact vol_no fun z => hw ⟨z.1, (hmf.mp ⟨z.2.1, z.2.2⟩).2⟩
        rw [volE]
        cases h132 : both4 b (32768 + 132) with
        | none =>
          by_cases hw : wholeOk b = true ∧ sp = b.length / 2048
          · rw [if_pos hw]; rfl
          · rw [if_neg hw]; rfl
        | some size =>
          rw [Option.bind_some, Option.bind_some]
          unfold topP
          cases hr : recP b (32768 + 156) (32768 + 156 + 34) with
          | none =>
            by_cases hw : wholeOk b = true ∧ sp = b.length / 2048
            · rw [if_pos hw]; rfl
            · rw [if_neg hw]; rfl
          | some r =>
            rw [Option.map_some, Option.bind_some, Option.bind_some]
            dsimp only
            have hwi : (wholeOk b = true ∧ sp = b.length / 2048) ↔ SECTOR * sp = b.length := by
              rw [hS]
              unfold wholeOk
              simp only [Bool.and_eq_true, decide_eq_true_eq]
              omega
            by_cases hC : SECTOR * sp ≠ b.length ∨ r.name ≠ [0] ∨ r.folder = false
            · rw [if_pos hC]
              by_cases hw : wholeOk b = true ∧ sp = b.length / 2048
              · rw [if_pos hw]
                have h2 := hwi.mp hw
                rw [if_neg]
                · rfl
                · rintro ⟨z1, z2⟩
                  rcases hC with c | c | c
                  · exact c h2
                  · exact c z2
                  · rw [z1] at c; cases c
              · rw [if_neg hw]; rfl
            · rw [if_neg hC]
              simp only [not_or, ne_eq, Decidable.not_not, Bool.not_eq_false] at hC
              obtain ⟨c1, c2, c3⟩ := hC
              rw [if_pos (hwi.mpr c1), if_pos ⟨c3, c2⟩, Option.bind_some]
              have hrok : ROk r := recP_ok hB (by omega) (by omega) hr
              have ht := tree_eq hB hrok c2
              have hD : DEEP + 1 = 9 := rfl
              rw [hD]
              cases hrun : runQ b 16387 [topQ r] 0 0 with
              | none =>
                rw [hrun] at ht
                dsimp only at ht
                cases hbl : below b 9 1 r r [] with
                | none => rfl
                | some all =>
                  rw [Option.bind_some, if_pos (show MOSTITEMS < all.length from ht all hbl)]; rfl
              | some x =>
                rw [hrun] at ht
                dsimp only at ht
                obtain ⟨t1, t2, t3, t4, t5, t6, t7⟩ := ht
                rw [t1, Option.bind_some, Option.bind_some, if_neg (show ¬ MOSTITEMS < (dfs b 8 r r []).length by show ¬ 16384 < _; omega)]
                have hE : ∀ e ∈ x.1.map entryQ, EOk e := fun e he => by
                  obtain ⟨q, hq, rfl⟩ := List.mem_map.mp he
                  have := t6 q hq
                  exact ⟨this.1.pl, this.2, this.1.n1, this.1.n2⟩
                have hne : x.1.map entryQ ≠ [] := fun z => t7 (List.map_eq_nil_iff.mp z)
                have k1 := table_iff (high := false) hB (p := 2048 * low4 b (32768 + 140)) (size := size) hE hne
                have k2 := table_iff (high := true) hB (p := 2048 * high4 b (32768 + 148)) (size := size) hE hne
                rw [hS, ← t3]
                have g1 : tabOk b false (low4 b (32768 + 140)) size x.1 = true ↔ ∃ c, take b (2048 * low4 b (32768 + 140)) size = some c ∧ entries false (size + 1) c = some (x.1.map entryQ) := by
                  rw [k1]; unfold tabOk; rw [Bool.and_eq_true, decide_eq_true_eq, decide_eq_true_eq]
                have g2 : tabOk b true (high4 b (32768 + 148)) size x.1 = true ↔ ∃ c, take b (2048 * high4 b (32768 + 148)) size = some c ∧ entries true (size + 1) c = some (x.1.map entryQ) := by
                  rw [k2]; unfold tabOk; rw [Bool.and_eq_true, decide_eq_true_eq, decide_eq_true_eq]
                have hsp : sp = b.length / 2048 := (hwi.mpr c1).2
                cases q1 : take b (2048 * low4 b (32768 + 140)) size with
                | none =>
                  rw [if_neg]
                  · rfl
                  · rintro ⟨z, _⟩
                    obtain ⟨c, hc, _⟩ := g1.mp z
                    rw [q1] at hc; cases hc
                | some l =>
                  rw [Option.bind_some]
                  cases q2 : take b (2048 * high4 b (32768 + 148)) size with
                  | none =>
                    rw [if_neg]
                    · rfl
                    · rintro ⟨_, z⟩
                      obtain ⟨c, hc, _⟩ := g2.mp z
                      rw [q2] at hc; cases hc
                  | some h =>
                    rw [Option.bind_some]
                    by_cases c5 : entries false (size + 1) l = some (x.1.map entryQ) ∧ entries true (size + 1) h = some (x.1.map entryQ)
                    · rw [if_pos c5, if_pos ⟨g1.mpr ⟨l, q1, c5.1⟩, g2.mpr ⟨h, q2, c5.2⟩⟩, Option.map_some, hsp]; rfl
                    · rw [if_neg c5, if_neg]
                      · rfl
                      · rintro ⟨z1, z2⟩
                        obtain ⟨y1, hy1, w1⟩ := g1.mp z1
                        obtain ⟨y2, hy2, w2⟩ := g2.mp z2
                        rw [q1] at hy1
                        rw [q2] at hy2
                        cases hy1
                        cases hy2
                        exact c5 ⟨w1, w2⟩
end MM
set_option linter.all false
set_option maxRecDepth 100000
namespace MM
open Sn28 Sn28Neutral
def nameOf (b : Bytes) : Bytes := (b.drop (32768 + 40)).take 32
def volT (b : Bytes) (v : Vol) : List Nat := [b.length / 2048, v.fs.length, v.files] ++ (trim (nameOf b) ++ List.replicate (32 - (trim (nameOf b)).length) 0)
theorem vol_counts {b : Bytes} (hB : IsB b) {v : Vol} (h : volP b = some v) :
    v.fs.length = ((dfs b 8 v.top v.top []).filter fun y => y.2.folder).length + 1 ∧ v.files = ((dfs b 8 v.top v.top []).filter fun y => !y.2.folder).length ∧ 32768 + 2048 ≤ b.length := by
  unfold volP at h
  split at h
  · rename_i h1
    split at h
    · split at h
      · cases h132 : both4 b (32768 + 132) with
        | none => rw [h132] at h; cases h
        | some size =>
          rw [h132, Option.bind_some] at h
          have hl : 32768 + 2048 ≤ b.length := by
            unfold wholeOk at h1
            simp only [Bool.and_eq_true, decide_eq_true_eq] at h1
            omega
          unfold topP at h
          cases hr : recP b (32768 + 156) (32768 + 156 + 34) with
          | none => rw [hr] at h; cases h
          | some r =>
            rw [hr, Option.bind_some] at h
            by_cases hc : r.folder = true ∧ r.name = [0]
            · rw [if_pos hc, Option.bind_some] at h
              have ht := tree_eq hB (recP_ok hB (by omega) (by omega) hr) hc.2
              cases hrun : runQ b 16387 [topQ r] 0 0 with
              | none => rw [hrun] at h; cases h
              | some x =>
                rw [hrun] at ht h
                dsimp only at ht
                rw [Option.bind_some] at h
                split at h
                · cases h
                  exact ⟨ht.2.2.2.1, ht.2.2.2.2.1, hl⟩
                · cases h
            · rw [if_neg hc] at h; cases h
      · cases h
    · cases h
  · cases h
theorem nats_isB {ns : List Int} (h : ∀ x ∈ ns, 0 ≤ x ∧ x ≤ 255) : IsB (nats ns) := by
  intro c hc
  unfold nats at hc
  obtain ⟨x, hx, rfl⟩ := List.mem_map.mp hc
  have := h x hx
  omega
theorem nats_len (ns : List Int) : (nats ns).length = ns.length := by unfold nats; rw [List.length_map]
theorem inSize_len {ns : List Int} (h : ns.length ≤ 100000) : inSize (ns.length : Int) = true := by
  unfold inSize
  rw [Bool.and_eq_true, decide_eq_true_eq, decide_eq_true_eq]
  have : (MOST : Int) = 16777216 := rfl
  omega
def most (z : Int) : Bool := decide (0 ≤ z) && decide (z ≤ 16777216)
theorem inSize_most (z : Int) : inSize z = most z := rfl
theorem look_eq {ns : List Int} (h : ∀ x ∈ ns, 0 ≤ x ∧ x ≤ 255) (hl : ns.length ≤ 100000) :
    PySn28.look ns = match volP (nats ns) with
      | none => [-3]
      | some v => 0 :: Sn28Neutral.ints (volT (nats ns) v) := by
  show (let a := does (.look (nats ns) (ns.length : Int)); a.value :: Sn28Neutral.ints a.out) = _
  unfold does
  simp only [inSize_len hl, Bool.true_eq_false, if_false]
  rw [disc_eq (nats_isB h)]
  cases hv : volP (nats ns) with
  | none => rfl
  | some v =>
    obtain ⟨c1, c2, c3⟩ := vol_counts (nats_isB h) hv
    simp only [Option.map_some]
    unfold volT
    rw [c1, c2]
    rfl
def lines (b : Bytes) (v : Vol) : Bytes := (dfs b 8 v.top v.top []).flatMap fun x => pathText x ++ ((if x.2.folder = true then [] else 32 :: decimal x.2.size) ++ [10])
theorem list_eq {m : Int} {ns : List Int} (h : ∀ x ∈ ns, 0 ≤ x ∧ x ≤ 255) (hl : ns.length ≤ 100000) :
    PySn28.list_all m ns = if most m = false then [-2] else match volP (nats ns) with
      | none => [-3]
      | some v => if m < ((lines (nats ns) v).length : Int) then [-1] else ((lines (nats ns) v).length : Int) :: Sn28Neutral.ints (lines (nats ns) v) := by
  show (let a := does (.list (nats ns) (ns.length : Int) m); a.value :: Sn28Neutral.ints a.out) = _
  unfold does
  simp only [inSize_len hl, Bool.true_eq_false, false_or, inSize_most]
  by_cases hm : most m = false
  · rw [if_pos hm, if_pos hm]; rfl
  · rw [if_neg hm, if_neg hm, disc_eq (nats_isB h)]
    cases hv : volP (nats ns) with
    | none => rfl
    | some v =>
      simp only [Option.map_some]
      show (let a := if m < ((lines (nats ns) v).length : Int) then (⟨-1, []⟩ : Ans) else ⟨((lines (nats ns) v).length : Nat), lines (nats ns) v⟩; a.value :: Sn28Neutral.ints a.out) = _
      by_cases c : m < ((lines (nats ns) v).length : Int)
      · rw [if_pos c, if_pos c]; rfl
      · rw [if_neg c, if_neg c]
def cutOf (b : Bytes) (x : Rec) (start m : Int) : Bytes := (((b.drop (2048 * x.place)).take x.size).drop start.toNat).take m.toNat
theorem file_eq {st m : Int} {ns ps : List Int} (h : ∀ x ∈ ns, 0 ≤ x ∧ x ≤ 255) (hl : ns.length ≤ 100000) (hp : ps.length ≤ 1024) :
    PySn28.file st m ns ps = if st < 0 ∨ most m = false then [-2] else match volP (nats ns) with
      | none => [-3]
      | some v => match (dfs (nats ns) 8 v.top v.top []).find? fun x => !x.2.folder && pathText x == nats ps with
        | none => [-4]
        | some x => ((cutOf (nats ns) x.2 st m).length : Int) :: Sn28Neutral.ints (cutOf (nats ns) x.2 st m) := by
  show (let a := does (.file (nats ns) (ns.length : Int) (nats ps) (ps.length : Int) st m); a.value :: Sn28Neutral.ints a.out) = _
  unfold does
  simp only [inSize_len hl, Bool.true_eq_false, false_or, inSize_most]
  have e1 : ((ps.length : Int) < 0) = False := by simp
  have e2 : ((1024 : Int) < (ps.length : Int)) = False := by simp; omega
  simp only [e1, e2, false_or]
  by_cases hm : st < 0 ∨ most m = false
  · rw [if_pos hm, if_pos hm]; rfl
  · rw [if_neg hm, if_neg hm, disc_eq (nats_isB h)]
    cases hv : volP (nats ns) with
    | none => rfl
    | some v =>
      simp only [Option.map_some]
      cases (dfs (nats ns) 8 v.top v.top []).find? fun x => !x.2.folder && pathText x == nats ps with
      | none => rfl
      | some x => rfl
end MM
set_option linter.all false
set_option maxRecDepth 100000
namespace MM
open Sn28
def readG (b : Bytes) (self up : Rec) : Option (List Rec) :=
  if (self.size = 0 ∨ self.size % 2048 ≠ 0) ∨ b.length < 2048 * self.place + self.size then none else
    (secs b (2048 * self.place) (self.size / 2048)).bind fun l => match l with
      | s :: u :: r => if linkOk s self [0] = true ∧ linkOk u up [1] = true ∧ (r.all fun x => nameOk x && placeOk b x) = true ∧ ordered r = true then some r else none
      | _ => none
theorem readG_eq (b : Bytes) (self up : Rec) : readG b self up = (readF b self up).bind fun r => if (r.all fun x => placeOk b x) = true then some r else none := by
  unfold readG readF
  by_cases h1 : (self.size = 0 ∨ self.size % 2048 ≠ 0) ∨ b.length < 2048 * self.place + self.size
  · rw [if_pos h1, if_pos h1]; rfl
  · rw [if_neg h1, if_neg h1]
    cases secs b (2048 * self.place) (self.size / 2048) with
    | none => rfl
    | some l =>
      rw [Option.bind_some, Option.bind_some]
      match l with
      | [] => rfl
      | [_] => rfl
      | s :: u :: r =>
        dsimp only
        have e : ((r.all fun x => nameOk x && placeOk b x) = true) ↔ ((r.all fun x => nameOk x && (x.folder || placeOk b x)) = true ∧ (r.all fun x => placeOk b x) = true) := by
          simp only [List.all_eq_true, Bool.and_eq_true, Bool.or_eq_true]
          constructor
          · intro h
            exact ⟨fun x hx => ⟨(h x hx).1, .inr (h x hx).2⟩, fun x hx => (h x hx).2⟩
          · rintro ⟨h1, h2⟩ x hx
            exact ⟨(h1 x hx).1, h2 x hx⟩
        by_cases c : linkOk s self [0] = true ∧ linkOk u up [1] = true ∧ (r.all fun x => nameOk x && (x.folder || placeOk b x)) = true ∧ ordered r = true
        · rw [if_pos c, Option.bind_some]
          by_cases c2 : (r.all fun x => placeOk b x) = true
          · rw [if_pos c2, if_pos ⟨c.1, c.2.1, e.mpr ⟨c.2.2.1, c2⟩, c.2.2.2⟩]
          · rw [if_neg c2, if_neg (fun z => c2 (e.mp z.2.2.1).2)]
        · rw [if_neg c, if_neg (fun z => c ⟨z.1, z.2.1, (e.mp z.2.2.1).1, z.2.2.2⟩)]
          rfl
def runG (b : Bytes) : Nat → List Q → Nat → Nat → Option (List Q × Nat)
  | 0, _, _, _ => none
  | n + 1, fs, num, files => match fs[num]? with
    | none => some (fs, files)
    | some q => (readG b q.rec_ q.up).bind fun l =>
      if kids (num + 1) q l ≠ [] ∧ q.depth = 8 then none
      else if 16384 < (fs.length + (kids (num + 1) q l).length - 1) + (files + (l.length - (kids (num + 1) q l).length)) then none
      else runG b n (fs ++ kids (num + 1) q l) (num + 1) (files + (l.length - (kids (num + 1) q l).length))
theorem runQ_bad {b : Bytes} : ∀ (n : Nat) (fs : List Q) (num files i : Nat) (q : Q), num ≤ i → fs[i]? = some q → readF b q.rec_ q.up = none → runQ b n fs num files = none
  | 0, _, _, _, _, _, _, _, _ => rfl
  | n + 1, fs, num, files, i, q, hi, hq, hr => by
    unfold runQ
    have hlt : num < fs.length := by
      have := (List.getElem?_eq_some_iff.mp hq).1
      omega
    rw [List.getElem?_eq_getElem hlt]
    dsimp only
    by_cases e : i = num
    · subst e
      rw [List.getElem?_eq_getElem hlt] at hq
      rw [Option.some.inj hq, hr]
      rfl
    · cases h : readF b fs[num].rec_ fs[num].up with
      | none => rfl
      | some l =>
        rw [Option.bind_some]
        split
        · rfl
        · split
          · rfl
          · refine runQ_bad n _ _ _ i q (by omega) ?_ hr
            rw [List.getElem?_append_left (List.getElem?_eq_some_iff.mp hq).1]
            exact hq
theorem readF_far {b : Bytes} {x up : Rec} (h : placeOk b x = false) : readF b x up = none := by
  unfold readF
  rw [if_pos]
  right
  unfold placeOk at h
  have := of_decide_eq_false h
  omega
theorem runG_eq {b : Bytes} : ∀ (n : Nat) (fs : List Q) (num files : Nat), runG b n fs num files = runQ b n fs num files
  | 0, _, _, _ => rfl
  | n + 1, fs, num, files => by
    unfold runG runQ
    cases hq : fs[num]? with
    | none => rfl
    | some q =>
      dsimp only
      rw [readG_eq]
      cases hl : readF b q.rec_ q.up with
      | none => rfl
      | some l =>
        rw [Option.bind_some]
        by_cases c : (l.all fun x => placeOk b x) = true
        · rw [if_pos c, Option.bind_some, Option.bind_some]
          split
          · rfl
          · split
            · rfl
            · exact runG_eq n _ _ _
        · rw [if_neg c, Option.bind_none, Option.bind_some]
          obtain ⟨x, hx, hb⟩ : ∃ x ∈ l, placeOk b x = false := by
            rw [Bool.not_eq_true, List.all_eq_false] at c
            obtain ⟨x, hx, h⟩ := c
            exact ⟨x, hx, by simpa using h⟩
          have hf : x.folder = true := by
            have hm : (l.all fun x => nameOk x && (x.folder || placeOk b x)) = true := by
              unfold readF at hl
              split at hl
              · cases hl
              · cases hs : secs b (2048 * q.rec_.place) (q.rec_.size / 2048) with
                | none => rw [hs] at hl; cases hl
                | some t =>
                  rw [hs, Option.bind_some] at hl
                  split at hl
                  · split at hl
                    · rename_i hc
                      cases hl
                      exact hc.2.2.1
                    · cases hl
                  · cases hl
            have := List.all_eq_true.mp hm x hx
            rw [hb] at this
            simp at this
            exact this.2
          split
          · rfl
          · split
            · rfl
            · obtain ⟨t, ht⟩ : ∃ t : Nat, (kids (num + 1) q l)[t]? = some (⟨x, q.rec_, q.path ++ [x.name], num + 1, q.depth + 1⟩ : Q) := by
                have hm : (⟨x, q.rec_, q.path ++ [x.name], num + 1, q.depth + 1⟩ : Q) ∈ kids (num + 1) q l := by
                  unfold kids
                  exact List.mem_map.mpr ⟨x, List.mem_filter.mpr ⟨hx, hf⟩, rfl⟩
                exact List.getElem?_of_mem hm
              have hlt := (List.getElem?_eq_some_iff.mp hq).1
              exact (runQ_bad n _ _ _ (fs.length + t) ⟨x, q.rec_, q.path ++ [x.name], num + 1, q.depth + 1⟩ (by omega) (by rw [List.getElem?_append_right (by omega), Nat.add_sub_cancel_left]; exact ht) (readF_far hb)).symm
def pick {α : Type} : List α → List Rec → List α
  | k :: ks, r :: rs => if r.folder = true then k :: pick ks rs else pick ks rs
  | _, _ => []
theorem pick_len {α : Type} : ∀ (ks : List α) (rs : List Rec), ks.length = rs.length → (pick ks rs).length = (rs.filter fun x => x.folder).length
  | [], [], _ => rfl
  | k :: ks, r :: rs, h => by
    have ih := pick_len ks rs (by simpa using h)
    unfold pick
    by_cases c : r.folder = true
    · rw [if_pos c, List.filter_cons_of_pos c, List.length_cons, List.length_cons, ih]
    · rw [if_neg c, List.filter_cons_of_neg c, ih]
theorem pick_get {α : Type} : ∀ (ks : List α) (rs : List Rec) (t : Nat) (k : α), (pick ks rs)[t]? = some k → ∃ (j : Nat) (r : Rec), ks[j]? = some k ∧ rs[j]? = some r ∧ r.folder = true ∧ (rs.filter fun x => x.folder)[t]? = some r
  | [], rs, t, k, h => by simp [pick] at h
  | _ :: _, [], t, k, h => by simp [pick] at h
  | a :: ks, r :: rs, t, k, h => by
    unfold pick at h
    by_cases c : r.folder = true
    · rw [if_pos c] at h
      rw [List.filter_cons_of_pos c]
      cases t with
      | zero =>
        simp at h
        subst h
        exact ⟨0, r, rfl, rfl, c, rfl⟩
      | succ t =>
        obtain ⟨j, r', h1, h2, h3, h4⟩ := pick_get ks rs t k (by simpa using h)
        exact ⟨j + 1, r', by simpa using h1, by simpa using h2, h3, by simpa using h4⟩
    · rw [if_neg c] at h
      rw [List.filter_cons_of_neg c]
      obtain ⟨j, r', h1, h2, h3, h4⟩ := pick_get ks rs t k h
      exact ⟨j + 1, r', by simpa using h1, by simpa using h2, h3, h4⟩
theorem pick_of {α : Type} : ∀ (ks : List α) (rs : List Rec) (j : Nat) (k : α) (r : Rec), ks[j]? = some k → rs[j]? = some r → r.folder = true → ∃ t : Nat, (pick ks rs)[t]? = some k ∧ (rs.filter fun x => x.folder)[t]? = some r
  | [], _, _, _, _, h, _, _ => by simp at h
  | _ :: _, [], _, _, _, _, h, _ => by simp at h
  | a :: ks, b :: rs, 0, k, r, h1, h2, h3 => by
    simp at h1 h2
    subst h1 h2
    unfold pick
    rw [if_pos h3, List.filter_cons_of_pos h3]
    exact ⟨0, rfl, rfl⟩
  | a :: ks, b :: rs, j + 1, k, r, h1, h2, h3 => by
    obtain ⟨t, e1, e2⟩ := pick_of ks rs j k r (by simpa using h1) (by simpa using h2) h3
    unfold pick
    by_cases c : b.folder = true
    · rw [if_pos c, List.filter_cons_of_pos c]
      exact ⟨t + 1, by simpa using e1, by simpa using e2⟩
    · rw [if_neg c, List.filter_cons_of_neg c]
      exact ⟨t, e1, e2⟩
theorem pick_mem {α : Type} {ks : List α} {rs : List Rec} {k : α} (h : k ∈ pick ks rs) : ∃ (j : Nat) (r : Rec), ks[j]? = some k ∧ rs[j]? = some r ∧ r.folder = true := by
  obtain ⟨t, ht⟩ := List.getElem?_of_mem h
  obtain ⟨j, r, h1, h2, h3, _⟩ := pick_get ks rs t k ht
  exact ⟨j, r, h1, h2, h3⟩
theorem pick_sub {α : Type} : ∀ (ks : List α) (rs : List Rec), (pick ks rs).Sublist ks
  | [], _ => by unfold pick; exact List.Sublist.refl _
  | _ :: _, [] => by unfold pick; exact List.nil_sublist _
  | a :: ks, r :: rs => by
    unfold pick
    by_cases c : r.folder = true
    · rw [if_pos c]; exact (pick_sub ks rs).cons₂ a
    · rw [if_neg c]; exact (pick_sub ks rs).cons a
theorem pick_snoc {α : Type} : ∀ (ks : List α) (rs : List Rec) (i : Nat) (k : α) (r : Rec), ks[i]? = some k → rs[i]? = some r → pick (ks.take (i + 1)) (rs.take (i + 1)) = pick (ks.take i) (rs.take i) ++ (if r.folder = true then [k] else [])
  | [], _, _, _, _, h, _ => by simp at h
  | _ :: _, [], _, _, _, _, h => by simp at h
  | a :: ks, b :: rs, 0, k, r, h1, h2 => by
    simp at h1 h2
    subst h1 h2
    show pick [a] [b] = [] ++ _
    unfold pick
    rw [List.nil_append]
    rfl
  | a :: ks, b :: rs, i + 1, k, r, h1, h2 => by
    have ih := pick_snoc ks rs i k r (by simpa using h1) (by simpa using h2)
    show pick (a :: ks.take (i + 1)) (b :: rs.take (i + 1)) = pick (a :: ks.take i) (b :: rs.take i) ++ _
    unfold pick
    by_cases c : b.folder = true
    · rw [if_pos c, if_pos c, ih]; rfl
    · rw [if_neg c, if_neg c, ih]
end MM
set_option linter.all false
set_option maxRecDepth 100000
namespace MM
open Sn28
theorem readG_readF {b : Bytes} {self up : Rec} {rs : List Rec} (h : readG b self up = some rs) : readF b self up = some rs := by
  rw [readG_eq] at h
  cases e : readF b self up with
  | none => rw [e] at h; cases h
  | some r =>
    rw [e, Option.bind_some] at h
    split at h
    · cases h; rfl
    · cases h
theorem runG_keeps {b : Bytes} : ∀ (n : Nat) (fs : List Q) (num files : Nat) (x : List Q × Nat), runG b n fs num files = some x → (∀ q ∈ fs, q.depth ≤ 8) → (∃ t, x.1 = fs ++ t) ∧ ∀ q ∈ x.1, q.depth ≤ 8
  | 0, _, _, _, _, h, _ => by cases h
  | n + 1, fs, num, files, x, h, hd => by
    rw [runG] at h
    cases e : fs[num]? with
    | none =>
      rw [e] at h
      cases h
      exact ⟨⟨[], by rw [List.append_nil]⟩, hd⟩
    | some q =>
      rw [e] at h
      dsimp only at h
      cases er : readG b q.rec_ q.up with
      | none => rw [er] at h; cases h
      | some l =>
        rw [er, Option.bind_some] at h
        split at h
        · cases h
        · rename_i c
          split at h
          · cases h
          · have hq := hd q (List.mem_of_getElem? e)
            obtain ⟨⟨t, ht⟩, h2⟩ := runG_keeps n _ _ _ x h fun k hk => by
              rcases List.mem_append.mp hk with z | z
              · exact hd k z
              · have hne : kids (num + 1) q l ≠ [] := fun y => by rw [y] at z; cases z
                have : q.depth ≠ 8 := fun y => c ⟨hne, y⟩
                unfold kids at z
                obtain ⟨r, _, rfl⟩ := List.mem_map.mp z
                dsimp only
                omega
            exact ⟨⟨kids (num + 1) q l ++ t, by rw [ht, List.append_assoc]⟩, h2⟩
theorem vol_run {b : Bytes} {v : Vol} (h : volP b = some v) : runG b 16387 [topQ v.top] 0 0 = some (v.fs, v.files) ∧ topP b = some v.top := by
  unfold volP at h
  split at h
  · split at h
    · split at h
      · cases h132 : both4 b (32768 + 132) with
        | none => rw [h132] at h; cases h
        | some size =>
          rw [h132, Option.bind_some] at h
          cases ht : topP b with
          | none => rw [ht] at h; cases h
          | some r =>
            rw [ht, Option.bind_some] at h
            cases hrun : runQ b 16387 [topQ r] 0 0 with
            | none => rw [hrun] at h; cases h
            | some x =>
              rw [hrun, Option.bind_some] at h
              split at h
              · cases h
                exact ⟨by rw [runG_eq]; exact hrun, rfl⟩
              · cases h
      · cases h
    · cases h
  · cases h
theorem vol_top {b : Bytes} {v : Vol} (h : volP b = some v) : v.top.folder = true ∧ v.fs[0]? = some (topQ v.top) ∧ ∀ q ∈ v.fs, q.depth ≤ 8 := by
  obtain ⟨h1, h2⟩ := vol_run h
  obtain ⟨⟨t, ht⟩, h3⟩ := runG_keeps _ _ _ _ _ h1 (fun q hq => by cases List.mem_singleton.mp hq; show 1 ≤ 8; decide)
  refine ⟨?_, by dsimp only at ht; rw [ht]; rfl, h3⟩
  unfold topP at h2
  cases er : recP b (32768 + 156) (32768 + 156 + 34) with
  | none => rw [er] at h2; cases h2
  | some r =>
    rw [er, Option.bind_some] at h2
    split at h2
    · rename_i hc
      cases h2
      exact hc.1
    · cases h2
def split : Bytes → List Bytes
  | [] => [[]]
  | c :: p => if c = 47 then [] :: split p else match split p with
    | [] => [[c]]
    | s :: r => (c :: s) :: r
theorem split_ne : ∀ p : Bytes, split p ≠ []
  | [] => by unfold split; simp
  | c :: p => by
    unfold split
    split
    · simp
    · split <;> simp
theorem split_slash : ∀ p : Bytes, split (p ++ [47]) = split p ++ [[]]
  | [] => rfl
  | c :: p => by
    rw [List.cons_append]
    unfold split
    rw [split_slash p]
    by_cases h : c = 47
    · rw [if_pos h, if_pos h]; rfl
    · rw [if_neg h, if_neg h]
      cases e : split p with
      | nil => exact absurd e (split_ne p)
      | cons s r => rfl
theorem split_other {c : Nat} (hc : c ≠ 47) : ∀ p : Bytes, ∃ (a : List Bytes) (l : Bytes), split p = a ++ [l] ∧ split (p ++ [c]) = a ++ [l ++ [c]]
  | [] => ⟨[], [], rfl, by rw [List.nil_append]; unfold split; rw [if_neg hc]; rfl⟩
  | d :: p => by
    obtain ⟨a, l, h1, h2⟩ := split_other hc p
    rw [List.cons_append]
    unfold split
    rw [h1, h2]
    by_cases h : d = 47
    · rw [if_pos h, if_pos h]
      exact ⟨[] :: a, l, rfl, rfl⟩
    · rw [if_neg h, if_neg h]
      cases a with
      | nil => exact ⟨[], d :: l, rfl, rfl⟩
      | cons s r => exact ⟨(d :: s) :: r, l, rfl, rfl⟩
def joined (l : List Bytes) : Bytes := l.flatMap fun n => 47 :: n
theorem split_join : ∀ p : Bytes, ∀ s r, split p = s :: r → p = s ++ joined r
  | [], s, r, h => by
    unfold split at h
    cases h
    rfl
  | c :: p, s, r, h => by
    unfold split at h
    split at h
    · rename_i hc
      subst hc
      have h1 := (List.cons.inj h).1
      have h2 := (List.cons.inj h).2
      subst h1
      cases e : split p with
      | nil => exact absurd e (split_ne p)
      | cons s' r' =>
        have := split_join p s' r' e
        rw [← h2, e]
        unfold joined at this ⊢
        rw [List.nil_append, List.flatMap_cons, List.cons_append, ← this]
    · cases e : split p with
      | nil => exact absurd e (split_ne p)
      | cons s' r' =>
        rw [e] at h
        have h1 := (List.cons.inj h).1
        have h2 := (List.cons.inj h).2
        rw [← h1, ← h2, List.cons_append, ← split_join p s' r' e]
theorem split_pre {s : Bytes} (hs : ∀ c ∈ s, c ≠ 47) (p : Bytes) : ∀ a r, split p = a :: r → split (s ++ p) = (s ++ a) :: r := by
  induction s with
  | nil => intro a r h; exact h
  | cons c s ih =>
    intro a r h
    have := ih (fun x hx => hs x (List.mem_cons_of_mem _ hx)) a r h
    rw [List.cons_append]
    unfold split
    rw [if_neg (hs c List.mem_cons_self), this]
    rfl
theorem join_split : ∀ l : List Bytes, (∀ s ∈ l, ∀ c ∈ s, c ≠ 47) → split (joined l) = [] :: l
  | [], _ => rfl
  | s :: l, h => by
    unfold joined
    rw [List.flatMap_cons, List.cons_append]
    unfold split
    rw [if_pos rfl]
    have := split_pre (h s List.mem_cons_self) (joined l) [] l (join_split l fun t ht => h t (List.mem_cons_of_mem _ ht))
    rw [List.append_nil] at this
    unfold joined at this
    rw [this]
theorem joined_iff {l : List Bytes} (h : ∀ s ∈ l, ∀ c ∈ s, c ≠ 47) {p : Bytes} : joined l = p ↔ split p = [] :: l := by
  constructor
  · intro e; rw [← e]; exact join_split l h
  · intro e; have := split_join p _ _ e; rw [List.nil_append] at this; exact this.symm
theorem dchar_ne {c : Nat} (h : dchar c = true) : c ≠ 47 := by
  unfold dchar at h
  simp only [Bool.or_eq_true, decide_eq_true_eq, beq_iff_eq] at h
  omega
theorem name_noslash {x : Rec} (h : nameOk x = true) : ∀ c ∈ x.name, c ≠ 47 := by
  unfold nameOk at h
  split at h
  · unfold folderName at h
    simp only [Bool.and_eq_true, List.all_eq_true] at h
    exact fun c hc => dchar_ne (h.2.2 c hc)
  · rw [fileName_eq] at h
    unfold fileOk at h
    dsimp only at h
    simp only [Bool.and_eq_true, decide_eq_true_eq] at h
    obtain ⟨h1, ⟨h2, h3⟩, h4⟩ := h
    intro c hc e
    subst e
    rw [← List.take_append_drop (x.name.length - 2) x.name] at hc
    rcases List.mem_append.mp hc with z | z
    · obtain ⟨a, e, he, ha, hb⟩ := split_point _ h2 h3
      rw [he] at z
      rcases List.mem_append.mp z with y | y
      · exact dchar_ne (List.all_eq_true.mp ha _ y) rfl
      · rcases List.mem_cons.mp y with y | y
        · cases y
        · exact dchar_ne (List.all_eq_true.mp hb _ y) rfl
    · rw [h1] at z
      simp at z
theorem readF_names {b : Bytes} {self up : Rec} {l : List Rec} (h : readF b self up = some l) : ∀ x ∈ l, nameOk x = true := by
  unfold readF at h
  split at h
  · cases h
  · cases e : secs b (2048 * self.place) (self.size / 2048) with
    | none => rw [e] at h; cases h
    | some r =>
      rw [e, Option.bind_some] at h
      split at h
      · split at h
        · rename_i c
          cases h
          intro x hx
          have := List.all_eq_true.mp c.2.2.1 x hx
          rw [Bool.and_eq_true] at this
          exact this.1
        · cases h
      · cases h
theorem dfs_names {b : Bytes} : ∀ (n : Nat) (self up : Rec) (path : Path), (∀ s ∈ path, ∀ c ∈ s, c ≠ 47) → ∀ x ∈ dfs b n self up path, ∀ s ∈ x.1, ∀ c ∈ s, c ≠ 47
  | 0, _, _, _, _, x, hx => by cases hx
  | n + 1, self, up, path, hp, x, hx => by
    unfold dfs at hx
    obtain ⟨y, hy, hx⟩ := List.mem_flatMap.mp hx
    have hyn : ∀ c ∈ y.name, c ≠ 47 := by
      cases e : readF b self up with
      | none => rw [e] at hy; cases hy
      | some l => rw [e] at hy; exact name_noslash (readF_names e y hy)
    have hp2 : ∀ s ∈ path ++ [y.name], ∀ c ∈ s, c ≠ 47 := fun s hs => by
      rcases List.mem_append.mp hs with z | z
      · exact hp s z
      · cases List.mem_singleton.mp z; exact hyn
    rcases List.mem_cons.mp hx with z | z
    · subst z; exact hp2
    · split at z
      · exact dfs_names n y self (path ++ [y.name]) hp2 x z
      · cases z
def seek (b : Bytes) : Nat → Rec → Rec → List Bytes → Option Rec
  | 0, _, _, _ => none
  | _ + 1, _, _, [] => none
  | n + 1, self, up, nm :: rest => match ((readF b self up).getD []).find? fun x => x.name == nm with
    | none => none
    | some x => if x.folder = true then seek b n x self rest else if rest = [] then some x else none
def hit (l : Path) (x : Path × Rec) : Bool := !x.2.folder && x.1 == l
theorem find_none_of {α : Type} {p : α → Bool} {l : List α} (h : ∀ x ∈ l, p x = false) : l.find? p = none := by
  rw [List.find?_eq_none]
  intro x hx
  rw [h x hx]
  simp
theorem block_other {b : Bytes} {n : Nat} {self y : Rec} {path : Path} {nm : Bytes} {rest : Path} (h : y.name ≠ nm) : ∀ x ∈ (path ++ [y.name], y) :: (if y.folder = true then dfs b n y self (path ++ [y.name]) else []), hit (path ++ nm :: rest) x = false := by
  intro x hx
  have key : ∃ r, x.1 = path ++ y.name :: r := by
    rcases List.mem_cons.mp hx with z | z
    · subst z; exact ⟨[], rfl⟩
    · split at z
      · obtain ⟨y', r, _, e⟩ := dfs_path n y self _ x z
        exact ⟨y'.name :: r, by rw [e, List.append_assoc]; rfl⟩
      · cases z
  obtain ⟨r, e⟩ := key
  unfold hit
  rw [Bool.and_eq_false_iff]
  right
  rw [e, beq_eq_false_iff_ne]
  intro z
  have := List.append_cancel_left z
  cases this
  exact h rfl
theorem find_flat {b : Bytes} {n : Nat} {self : Rec} {path : Path} {nm : Bytes} {rest : Path} : ∀ l : List Rec, ordered l = true →
    (l.flatMap fun x => (path ++ [x.name], x) :: (if x.folder = true then dfs b n x self (path ++ [x.name]) else [])).find? (hit (path ++ nm :: rest)) = (l.find? fun x => x.name == nm).bind fun x => ((path ++ [x.name], x) :: (if x.folder = true then dfs b n x self (path ++ [x.name]) else [])).find? (hit (path ++ nm :: rest))
  | [], _ => rfl
  | y :: l, ho => by
    rw [List.flatMap_cons, List.find?_append]
    by_cases h : y.name = nm
    · rw [List.find?_cons_of_pos (p := fun x : Rec => x.name == nm) (by simpa using h), Option.bind_some]
      have : (l.flatMap fun x => (path ++ [x.name], x) :: (if x.folder = true then dfs b n x self (path ++ [x.name]) else [])).find? (hit (path ++ nm :: rest)) = none := by
        refine find_none_of fun x hx => ?_
        obtain ⟨z, hz, hx⟩ := List.mem_flatMap.mp hx
        exact block_other (fun e => ordered_ne ho z hz (by rw [e, h])) x hx
      rw [this, Option.or_none]
    · rw [List.find?_cons_of_neg (p := fun x : Rec => x.name == nm) (by simpa using h), find_none_of (block_other h), Option.none_or]
      exact find_flat l (ordered_tail ho)
theorem seek_eq {b : Bytes} : ∀ (n : Nat) (self up : Rec) (path l : Path), seek b n self up l = ((dfs b n self up path).find? (hit (path ++ l))).map fun x => x.2
  | 0, _, _, _, _ => rfl
  | n + 1, self, up, path, [] => by
    rw [find_none_of]
    · rfl
    · intro x hx
      obtain ⟨y, r, _, e⟩ := dfs_path _ _ _ _ x hx
      unfold hit
      rw [Bool.and_eq_false_iff]
      right
      rw [e, beq_eq_false_iff_ne]
      intro z
      have := List.append_cancel_left z
      cases this
  | n + 1, self, up, path, nm :: rest => by
    unfold seek dfs
    cases er : readF b self up with
    | none => rfl
    | some l =>
      rw [Option.getD_some, find_flat l (readF_ordered er)]
      cases ef : l.find? fun x => x.name == nm with
      | none => rfl
      | some x =>
        rw [Option.bind_some]
        have hn : x.name = nm := by have := List.find?_some ef; simpa using this
        subst hn
        dsimp only
        by_cases hf : x.folder = true
        · rw [if_pos hf, if_pos hf, List.find?_cons_of_neg (by unfold hit; rw [hf]; simp)]
          have := seek_eq (b := b) n x self (path ++ [x.name]) rest
          rw [this, List.append_assoc]
          rfl
        · rw [if_neg hf, if_neg hf]
          by_cases hr : rest = []
          · subst hr
            rw [if_pos rfl, List.find?_cons_of_pos (by unfold hit; simp [hf])]
            rfl
          · rw [if_neg hr, List.find?_cons_of_neg]
            · rfl
            · unfold hit
              simp [Ne.symm hr]
theorem find_congr {α : Type} {p q : α → Bool} : ∀ {l : List α}, (∀ x ∈ l, p x = q x) → l.find? p = l.find? q
  | [], _ => rfl
  | a :: l, h => by
    rw [List.find?_cons, List.find?_cons, h a List.mem_cons_self, find_congr fun x hx => h x (List.mem_cons_of_mem _ hx)]
def found (b : Bytes) (top : Rec) (p : Bytes) : Option Rec := match split p with
  | [] :: l => seek b 8 top top l
  | _ => none
theorem found_eq {b : Bytes} {top : Rec} {p : Bytes} : ((dfs b 8 top top []).find? fun x => !x.2.folder && pathText x == p).map (fun x => x.2) = found b top p := by
  have hn := dfs_names 8 top top [] (b := b) (by intro s hs; cases hs)
  have hpt : ∀ x ∈ dfs b 8 top top [], (!x.2.folder && pathText x == p) = (!x.2.folder && decide (split p = [] :: x.1)) := fun x hx => by
    cases hf : x.2.folder with
    | true => rfl
    | false =>
      rw [Bool.not_false, Bool.true_and, Bool.true_and]
      have : pathText x = joined x.1 := by unfold pathText joined; rw [hf]; simp
      rw [this, Bool.eq_iff_iff, beq_iff_eq, decide_eq_true_eq]
      exact joined_iff (hn x hx)
  rw [find_congr hpt]
  unfold found
  cases es : split p with
  | nil => exact absurd es (split_ne p)
  | cons s l =>
    cases s with
    | nil =>
      dsimp only
      rw [seek_eq 8 top top [] l, List.nil_append]
      congr 1
      refine find_congr fun x hx => ?_
      unfold hit
      congr 1
      rw [Bool.eq_iff_iff, decide_eq_true_eq, beq_iff_eq]
      constructor
      · intro z; cases z; rfl
      · intro z; rw [z]
    | cons c s =>
      dsimp only
      rw [find_none_of]
      · rfl
      · intro x hx
        simp
end MM
set_option linter.all false
set_option maxRecDepth 100000
namespace Dx
open PySem PySem.Spec PyProof.Rows L2
def top (i : Nat) : Stmt := PySem.Challenge.pw_discimages_s03_file.main.body.getD i (.Pass ⟨0, 0, 0, 0⟩)
abbrev s_read_higher_first : Stmt := top 6
abbrev s_read_lower_first : Stmt := top 7
abbrev s_read_both_ways : Stmt := top 8
abbrev s_write_number : Stmt := top 9
abbrev s_split_path : Stmt := top 12
abbrev s_find_member : Stmt := top 13
abbrev s_find_file : Stmt := top 14
abbrev s_cut_piece : Stmt := top 15
abbrev s_Record : Stmt := inClass (top 20) 0
abbrev s_check_length : Stmt := top 21
abbrev s_check_fixed_fields : Stmt := top 22
abbrev s_read_record : Stmt := top 23
abbrev s_Main : Stmt := inClass (top 33) 0
abbrev s_is_descriptor : Stmt := top 34
abbrev s_check_whole_sectors : Stmt := top 35
abbrev s_check_main : Stmt := top 36
abbrev s_check_followers : Stmt := top 37
abbrev s_read_top : Stmt := top 38
abbrev s_read_main : Stmt := top 39
abbrev s_is_sign : Stmt := top 45
abbrev s_is_folder_name : Stmt := top 46
abbrev s_is_file_name : Stmt := top 47
abbrev s_fill_up : Stmt := top 48
abbrev s_comes_before : Stmt := top 49
abbrev s_Node : Stmt := inClass (top 55) 0
abbrev s_Tree : Stmt := inClass (top 56) 0
abbrev s_check_in_image : Stmt := top 57
abbrev s_check_folder_size : Stmt := top 58
abbrev s_read_sector : Stmt := top 59
abbrev s_read_all_records : Stmt := top 60
abbrev s_check_link : Stmt := top 61
abbrev s_check_name : Stmt := top 62
abbrev s_check_order : Stmt := top 63
abbrev s_read_folder : Stmt := top 64
abbrev s_read_tree : Stmt := top 65
abbrev s_write_entry : Stmt := top 67
abbrev s_write_table : Stmt := top 68
abbrev s_check_table : Stmt := top 69
abbrev s_check_tables : Stmt := top 70
abbrev s_Volume : Stmt := inClass (top 72) 0
abbrev s_read_volume : Stmt := top 73
abbrev s_is_number_of_bytes : Stmt := top 77
abbrev s_file : Stmt := top 78
end Dx
set_option linter.all false
set_option maxRecDepth 100000
namespace Dx
open PySem PySem.Spec PyProof.Rows L2 MM
open Sn28 (Rec Bytes at_)
abbrev iv (n : Nat) : V := .int (n : Int)
def ivs (b : Bytes) : List V := b.map iv
theorem ivs_len (b : Bytes) : (ivs b).length = b.length := List.length_map _
theorem ivs_nil : ivs [] = [] := rfl
theorem ivs_app (a b : Bytes) : ivs (a ++ b) = ivs a ++ ivs b := List.map_append
theorem ivs_rev (b : Bytes) : (ivs b).reverse = ivs b.reverse := by unfold ivs; rw [List.map_reverse]
theorem ivs_ints (b : Bytes) : ivs b = (b.map fun (n : Nat) => (n : Int)).map V.int := by unfold ivs; rw [List.map_map]; rfl
theorem ivs_get {b : Bytes} {i : Nat} {n : Nat} (h : b[i]? = some n) : (ivs b)[i]? = some (iv n) := by unfold ivs; rw [List.getElem?_map, h]; rfl
theorem ivs_of_get {b : Bytes} {i : Nat} {v : V} (h : (ivs b)[i]? = some v) : ∃ n, b[i]? = some n ∧ v = iv n := by
  unfold ivs at h
  rw [List.getElem?_map] at h
  cases e : b[i]? with
  | none => rw [e] at h; cases h
  | some n => rw [e] at h; exact ⟨n, rfl, (Option.some.inj h).symm⟩
theorem ivs_at {b : Bytes} {z : Int} {j : Nat} (h : z = (j : Int)) (hj : j < b.length) : atI (ivs b) z = some (iv (at_ b j)) := by
  rw [h]
  exact atI_nat (ivs_get (at_get hj))
theorem cut_cut {α : Type} (l : List α) (i j : Nat) : (l.drop (min i l.length)).take (min j l.length - min i l.length) = (l.drop i).take (j - i) := by
  by_cases hi : i ≤ l.length
  · rw [Nat.min_eq_left hi]
    by_cases hj : j ≤ l.length
    · rw [Nat.min_eq_left hj]
    · rw [Nat.min_eq_right (by omega), List.take_of_length_le (by rw [List.length_drop]; omega), List.take_of_length_le (by rw [List.length_drop]; omega)]
  · have e : min i l.length = l.length := Nat.min_eq_right (by omega)
    rw [e, List.drop_eq_nil_of_le (Nat.le_refl _), List.drop_eq_nil_of_le (show l.length ≤ i by omega), List.take_nil, List.take_nil]
theorem cut_v {xs : List V} {lo hi : Int} {i j : Nat} (h1 : lo = (i : Int)) (h2 : hi = (j : Int)) : cutV xs (some lo) (some hi) = (xs.drop i).take (j - i) := by
  unfold cutV
  rw [h1, h2, HT.sIx_nat, HT.sIx_nat, cut_cut]
theorem cut_from {xs : List V} {lo : Int} {i : Nat} (h1 : lo = (i : Int)) : cutV xs (some lo) none = xs.drop i := by
  unfold cutV
  rw [h1, HT.sIx_nat]
  show (xs.drop (min i xs.length)).take (xs.length - min i xs.length) = _
  rw [List.take_of_length_le (by rw [List.length_drop]; omega)]
  by_cases hi : i ≤ xs.length
  · rw [Nat.min_eq_left hi]
  · rw [Nat.min_eq_right (by omega), List.drop_eq_nil_of_le (Nat.le_refl _), List.drop_eq_nil_of_le (by omega)]
theorem cut_b {b : Bytes} {lo hi : Int} {i j : Nat} (h1 : lo = (i : Int)) (h2 : hi = (j : Int)) : cutV (ivs b) (some lo) (some hi) = ivs ((b.drop i).take (j - i)) := by
  rw [cut_v h1 h2]
  unfold ivs
  rw [List.map_take, List.map_drop]
theorem cut_k {b : Bytes} {lo hi : Int} {i k : Nat} (h1 : lo = (i : Int)) (h2 : hi = (i : Int) + (k : Int)) : cutV (ivs b) (some lo) (some hi) = ivs ((b.drop i).take k) := by
  rw [cut_b (i := i) (j := i + k) h1 (by rw [h2]; push_cast; rfl), Nat.add_sub_cancel_left]
theorem ivs_inj {a b : Bytes} (h : ivs a = ivs b) : a = b := by
  unfold ivs at h
  exact List.map_inj_right (fun x y e => by injection e with e; omega) |>.mp h
def pds (b : Bytes) : List PyData := b.map fun (n : Nat) => PyData.int (n : Int)
theorem pds_eqv : ∀ a b : Bytes, PyData.eqvAll (pds a) (pds b) = decide (a = b)
  | [], [] => rfl
  | [], _ :: _ => rfl
  | _ :: _, [] => rfl
  | x :: a, y :: b => by
    show (PyData.eqv (.int x) (.int y) && PyData.eqvAll (pds a) (pds b)) = _
    rw [pds_eqv a b]
    show (((x : Int) == (y : Int)) && _) = _
    rw [Bool.eq_iff_iff]
    simp only [Bool.and_eq_true, beq_iff_eq, decide_eq_true_eq, List.cons.injEq]
    constructor
    · rintro ⟨h1, h2⟩; exact ⟨by omega, h2⟩
    · rintro ⟨h1, h2⟩; exact ⟨by omega, h2⟩
theorem pds_can : ∀ b : Bytes, PyData.canLayAll0 (pds b) = true
  | [] => by unfold pds; simp [PyData.canLayAll0]
  | x :: b => by
    show PyData.canLayAll0 (.int x :: pds b) = true
    simp only [PyData.canLayAll0, PyData.canLay0, pds_can b, Bool.and_self]
theorem pds_dp {K : PySem.W.Frag} {H : Hp} : ∀ b : Bytes, DpAll K H (ivs b) (pds b)
  | [] => .nil
  | x :: b => .cons (.int _) (pds_dp b)
theorem pds_depth : ∀ b : Bytes, PyData.depthAll (pds b) ≤ 1
  | [] => by unfold pds; simp [PyData.depthAll]
  | x :: b => by
    have := pds_depth b
    show PyData.depthAll (.int x :: pds b) ≤ 1
    simp only [PyData.depthAll, PyData.depth]
    omega
theorem shaped_l (b : Bytes) : SeqAt.shaped (.list (pds b)) = true := by
  have := pds_depth b
  unfold SeqAt.shaped
  rw [Bool.and_eq_true]
  refine ⟨by simp only [PyData.canLay0, pds_can], decide_eq_true ?_⟩
  simp only [PyData.depth]
  omega
theorem shaped_t (b : Bytes) : SeqAt.shaped (.tuple (pds b)) = true := by
  have := pds_depth b
  unfold SeqAt.shaped
  rw [Bool.and_eq_true]
  refine ⟨by simp only [PyData.canLay0, pds_can], decide_eq_true ?_⟩
  simp only [PyData.depth]
  omega
section
variable {X : Cx}
def rEqL (K : PySem.W.Frag) (neg : Bool) : R2 := fun x y H Q => ∃ p q a b, x = .ref p ∧ y = .ref q ∧ SqL K H p (ivs a) ∧ SqL K H q (ivs b) ∧ Q (.bl (if neg then !decide (a = b) else decide (a = b))) H
def rEqT (K : PySem.W.Frag) (neg : Bool) : R2 := fun x y H Q => ∃ p q a b, x = .ref p ∧ y = .ref q ∧ SqT K H p (ivs a) ∧ SqT K H q (ivs b) ∧ Q (.bl (if neg then !decide (a = b) else decide (a = b))) H
theorem op_eqL (hu : X.A.units + 64 < cLine) : OpR X (compareOp .Eq) (rEqL X.K false) := by
  intro pins s σ H x y v u Q I rx ry h
  obtain ⟨p, q, a, b, rfl, rfl, h1, h2, hq⟩ := h
  exact op_eqD hu pins s σ H _ _ v u Q I rx ry ⟨_, _, .lst h1 (pds_dp a), .lst h2 (pds_dp b), shaped_l a, shaped_l b, by show Q (.bl (PyData.eqvAll (pds a) (pds b))) H; rw [pds_eqv]; exact hq⟩
theorem op_neL (hu : X.A.units + 64 < cLine) : OpR X (compareOp .NotEq) (rEqL X.K true) := by
  intro pins s σ H x y v u Q I rx ry h
  obtain ⟨p, q, a, b, rfl, rfl, h1, h2, hq⟩ := h
  exact op_neD hu pins s σ H _ _ v u Q I rx ry ⟨_, _, .lst h1 (pds_dp a), .lst h2 (pds_dp b), shaped_l a, shaped_l b, by show Q (.bl (!PyData.eqvAll (pds a) (pds b))) H; rw [pds_eqv]; exact hq⟩
theorem op_eqT (hu : X.A.units + 64 < cLine) : OpR X (compareOp .Eq) (rEqT X.K false) := by
  intro pins s σ H x y v u Q I rx ry h
  obtain ⟨p, q, a, b, rfl, rfl, h1, h2, hq⟩ := h
  exact op_eqD hu pins s σ H _ _ v u Q I rx ry ⟨_, _, .tup h1 (pds_dp a), .tup h2 (pds_dp b), shaped_t a, shaped_t b, by show Q (.bl (PyData.eqvAll (pds a) (pds b))) H; rw [pds_eqv]; exact hq⟩
theorem op_neT (hu : X.A.units + 64 < cLine) : OpR X (compareOp .NotEq) (rEqT X.K true) := by
  intro pins s σ H x y v u Q I rx ry h
  obtain ⟨p, q, a, b, rfl, rfl, h1, h2, hq⟩ := h
  exact op_neD hu pins s σ H _ _ v u Q I rx ry ⟨_, _, .tup h1 (pds_dp a), .tup h2 (pds_dp b), shaped_t a, shaped_t b, by show Q (.bl (!PyData.eqvAll (pds a) (pds b))) H; rw [pds_eqv]; exact hq⟩
end
section
variable {X : Cx}
theorem op_eqI : OpR X (compareOp .Eq) (rI0 fun i j => .bl (decide (i = j))) := opB0 fun _ _ _ _ _ _ _ q => eq_int (by rw [Bool.beq_eq_decide_eq]; exact q)
theorem op_neI : OpR X (compareOp .NotEq) (rI0 fun i j => .bl (!decide (i = j))) := opB0 fun _ _ _ _ _ _ _ q => ne_int (by rw [bne, Bool.beq_eq_decide_eq]; exact q)
end
structure Good (P : Program) (w : World) (K : PySem.W.Frag) (mg : Str → Option Value) (base : Heap) (CX : CXT) (k : Nat) (x : Str) (ps : List Str) (sp : Sp) : Prop where
  ex : ∃ f fd, FnOk P w K mg base CX k f fd ps sp ∧ Binds K fd ps [] ∧ mg x = some (.ref f) ∧ PySem.W.keepIn K (.ref f) = true
structure Has (K : PySem.W.Frag) (mg : Str → Option Value) (x : Str) (st : Stmt) (ps : List Str) : Prop where
  ex : ∃ f fd, Fun K x x st f fd ∧ Binds K fd ps [] ∧ mg x = some (.ref f)
section
variable {X : Cx} {CX : CXT} {k j : Nat} {x : Str} {ps : List Str} {sp : Sp} {E : XK} {p pos : Pos} {e : Expr} {es : List Expr} {t : TA}
theorem pe_callG (G : Good X.prog X.w X.K X.mg X.base CX k x ps sp) (hr : Room j X.A) (hk : k ≤ j) (hg : Gl X x) (hx : Passes CX X E) (ha : PA X (e :: es) t) (hdb : (x == ("__debug__" : Str)) = false := by decide)
    (he : starEach (e :: es) X.env = (false, eval e X.env) :: starEach es X.env := by rfl) (hpl : (backTo pos (starEach es X.env)).any (·.1) = false := by rfl) : PE X (.Call (.Name x p) (e :: es) [] pos) (tCall sp [] E t) := by
  obtain ⟨f, fd, F, b, m, kp⟩ := G.ex
  exact pe_call F (hr.mono hk) hg m kp b .nil hx ha hdb he hpl
end
section
variable {P : Program} {w : World} {K : PySem.W.Frag} {mg : Str → Option Value} {base : Heap} {x : Str} {st : Stmt} {N ps : List Str} {k : Nat} {sp : Sp}
theorem Has.good0 (F : Has K mg x st ps) (S : FnScope N ps (defScope st)) (len : ∀ vs H Q E, sp vs H Q E → vs.length = ps.length)
    (hbody : ∀ (f : Addr) (cdv : Value) (A : Around) (outer : List Env) (s : Shared) (H : Hp) (vs : List V) (Q : VK) (E : XK), Room k (A.deeper (envOfC x (defScope st) s.heap.objs.size f cdv)) → sp vs H Q E →
      ∃ t, PSs (cxOf CX0 P w K mg base N x (defScope st) f cdv A outer s H E).nox (defBody st) t ∧ t { nx := fun _ H' => Q .non H', rt := Q } (start N vs) H) : Good P w K mg base CX0 (k + 1) x ps sp := by
  obtain ⟨f, fd, F, b, m⟩ := F.ex
  exact ⟨f, fd, F.ok S len (hbody f), b, m, F.kp⟩
theorem Has.goodE (F : Has K mg x st ps) (S : FnScope N ps (defScope st)) (len : ∀ vs H Q E, sp vs H Q E → vs.length = ps.length)
    (hbody : ∀ (f : Addr) (cdv : Value) (A : Around) (outer : List Env) (s : Shared) (H : Hp) (vs : List V) (Q : VK) (E : XK), Room k (A.deeper (envOfC x (defScope st) s.heap.objs.size f cdv)) → sp vs H Q E →
      ∃ t, PSs (cxOf (CXE P w) P w K mg base N x (defScope st) f cdv A outer s H E) (defBody st) t ∧ t { nx := fun _ H' => Q .non H', rt := Q } (start N vs) H) : Good P w K mg base (CXE P w) (k + 1) x ps sp := by
  obtain ⟨f, fd, F, b, m⟩ := F.ex
  exact ⟨f, fd, F.okE S len (hbody f), b, m, F.kp⟩
end
def TupK (K : PySem.W.Frag) (a : Addr) (b : Bytes) : Prop := ∃ (o : Obj) (its : Array Value) (n : Nat), K.lookup a = some o ∧ o.cls = .type "tuple" ∧ o.data = .seq its n ∧ its.size ≤ sizeLine ∧ Vals (ivs b) its.toList
theorem TupK.sq {K : PySem.W.Frag} {a : Addr} {b : Bytes} (h : TupK K a b) (H : Hp) : SqT K H a (ivs b) := .inr h
theorem same_upd {H H' : Hp} {l : Addr} {o : HO} (h : Same H H') (hl : H' l = none) : Same H (upd H' l o) := fun b u e => by
  rw [upd_ne (ne_of_none (h b u e) hl)]
  exact h b u e
theorem same_put {H H' : Hp} {l : Addr} {o : HO} (h : Same H H') (hl : H l = none) : Same H (upd H' l o) := fun b u e => by
  rw [upd_ne (ne_of_none e hl)]
  exact h b u e
end Dx
set_option linter.all false
set_option maxRecDepth 100000
namespace Dx
open PySem PySem.Spec PyProof.Rows L2 MM
open Sn28 (Rec Bytes at_)
structure Kls (K : PySem.W.Frag) (mg : Str → Option Value) (x q : Str) (C : Addr) (st : Stmt) (ps attrs : List Str) : Prop where
  mgx : mg x = some (.ref C)
  cl : Cls K C
  mks : ∃ f fd, Mk K C f ∧ Fun K "__init__" q st f fd ∧ Binds K fd ps []
  na : ∀ a ∈ attrs, NoAttr K C a
section
variable {X : Cx} {x : Str} {pos : Pos}
theorem pe_const {z : Int} (hg : Gl X x) (h : ∃ t, X.mg x = some (.int z t)) (hd : (x == ("__debug__" : Str)) = false := by decide) : PE X (.Name x pos) (tC (.int z)) := by
  obtain ⟨t, h⟩ := h
  exact pe_glob hg h ⟨t, rfl⟩ hd
theorem pe_tupc {a : Addr} {b : Bytes} (hg : Gl X x) (h : X.mg x = some (.ref a) ∧ TupK X.K a b) (hd : (x == ("__debug__" : Str)) = false := by decide) : PE X (.Name x pos) (tC (.ref a)) := pe_glob hg h.1 rfl hd
end
structure MkG (P : Program) (w : World) (K : PySem.W.Frag) (mg : Str → Option Value) (base : Heap) (k : Nat) (x : Str) (C : Addr) (ps : List Str) (sp : Sp) : Prop where
  ex : ∃ f fd, Mk K C f ∧ FnOk P w K mg base CX0 k f fd ps sp ∧ Binds K fd ps [] ∧ mg x = some (.ref C)
def spNew (C : Addr) (names : List Str) : Sp := fun vs H Q _ => ∃ p dx ws, vs = V.ref p :: ws ∧ ws.length = names.length ∧ H p = some (.ins C dx []) ∧ Q .non (upd H p (.ins C dx (names.zip ws)))
def tNew (C : Addr) (names : List Str) (t : TA) : TE := fun σ H Q => t σ H fun vs H1 => vs.length = names.length ∧ ∀ x dx, H1 x = none → H1 dx = none → dx ≠ x → Q (.ref x) (upd (upd H1 dx (.own x)) x (.ins C dx (names.zip vs)))
theorem upd_twice {H : Hp} {a : Addr} {o u : HO} : upd (upd H a o) a u = upd H a u := by
  funext b
  by_cases h : b = a
  · subst h; rw [upd_same, upd_same]
  · rw [upd_ne h, upd_ne h, upd_ne h]
section
variable {X : Cx} {k j : Nat} {x : Str} {C : Addr} {ps names : List Str} {p pos : Pos} {e : Expr} {es : List Expr} {t : TA}
theorem pe_makeG (G : MkG X.prog X.w X.K X.mg X.base k x C ps (spNew C names)) (hr : Room j X.A) (hk : k + 1 ≤ j) (hg : Gl X x) (ha : PA X (e :: es) t) (hdb : (x == ("__debug__" : Str)) = false := by decide)
    (he : starEach (e :: es) X.env = (false, eval e X.env) :: starEach es X.env := by rfl) (hpl : (backTo pos (starEach es X.env)).any (·.1) = false := by rfl) : PE X (.Call (.Name x p) (e :: es) [] pos) (tNew C names t) := by
  obtain ⟨f, fd, M, F, b, m⟩ := G.ex
  intro pins s σ H Q I h
  refine wpAny_Call_Name_kw (ld_glob I hg m ?_ hdb)
  refine PySem.W.callWith_K (h₀ := X.base) I.ok.mod.kin M.kp (thn (ha pos pins s σ H _ I h) fun us s1 ⟨vs, H1, I1, r, hl, q⟩ => ⟨I1.kIn, ?_⟩) he hpl
  refine run_make (E := E0) M F (hr.mono hk) b .nil pass0 I1 r (fun y dx nx nd ne => ?_)
  rw [List.append_nil]
  exact ⟨y, dx, vs, rfl, hl, upd_same, rfl, by rw [upd_twice]; exact q y dx nx nd ne⟩
end
structure Ad where
  k_Record : Addr
  k_Main : Addr
  k_Node : Addr
  k_Tree : Addr
  k_Volume : Addr
  k_BadImage : Addr
  k_NoFile : Addr
  k_Step : Addr
  t_MARK : Addr
  t_TOP_NAME : Addr
  t_VERSION : Addr
  t_SELF_NAME : Addr
  t_ABOVE_NAME : Addr
structure Txt (K : PySem.W.Frag) (mg : Str → Option Value) (ad : Ad) : Prop where
  f_read_higher_first : Has K mg "read_higher_first" s_read_higher_first ["values"]
  f_read_lower_first : Has K mg "read_lower_first" s_read_lower_first ["values"]
  f_read_both_ways : Has K mg "read_both_ways" s_read_both_ways ["image", "at", "width"]
  f_write_number : Has K mg "write_number" s_write_number ["number", "width", "is_lower_first"]
  f_check_length : Has K mg "check_length" s_check_length ["image", "at", "end"]
  f_check_fixed_fields : Has K mg "check_fixed_fields" s_check_fixed_fields ["image", "at"]
  f_read_record : Has K mg "read_record" s_read_record ["image", "at", "end"]
  f_is_descriptor : Has K mg "is_descriptor" s_is_descriptor ["image", "at", "kind"]
  f_check_whole_sectors : Has K mg "check_whole_sectors" s_check_whole_sectors ["image"]
  f_check_main : Has K mg "check_main" s_check_main ["image", "start"]
  f_check_followers : Has K mg "check_followers" s_check_followers ["image", "start"]
  f_read_top : Has K mg "read_top" s_read_top ["image", "at"]
  f_read_main : Has K mg "read_main" s_read_main ["image"]
  f_is_sign : Has K mg "is_sign" s_is_sign ["value"]
  f_is_folder_name : Has K mg "is_folder_name" s_is_folder_name ["name"]
  f_is_file_name : Has K mg "is_file_name" s_is_file_name ["name"]
  f_fill_up : Has K mg "fill_up" s_fill_up ["name", "length"]
  f_comes_before : Has K mg "comes_before" s_comes_before ["name", "other"]
  f_check_in_image : Has K mg "check_in_image" s_check_in_image ["image", "record"]
  f_check_folder_size : Has K mg "check_folder_size" s_check_folder_size ["record"]
  f_read_sector : Has K mg "read_sector" s_read_sector ["image", "start"]
  f_read_all_records : Has K mg "read_all_records" s_read_all_records ["image", "folder"]
  f_check_link : Has K mg "check_link" s_check_link ["record", "folder", "name"]
  f_check_name : Has K mg "check_name" s_check_name ["record"]
  f_check_order : Has K mg "check_order" s_check_order ["records"]
  f_read_folder : Has K mg "read_folder" s_read_folder ["image", "folder", "above"]
  f_read_tree : Has K mg "read_tree" s_read_tree ["image", "top"]
  f_write_entry : Has K mg "write_entry" s_write_entry ["folder", "is_lower_first"]
  f_write_table : Has K mg "write_table" s_write_table ["folders", "is_lower_first"]
  f_check_table : Has K mg "check_table" s_check_table ["image", "place", "size", "table"]
  f_check_tables : Has K mg "check_tables" s_check_tables ["image", "main", "folders"]
  f_read_volume : Has K mg "read_volume" s_read_volume ["image"]
  f_is_number_of_bytes : Has K mg "is_number_of_bytes" s_is_number_of_bytes ["number"]
  f_split_path : Has K mg "split_path" s_split_path ["path"]
  f_find_member : Has K mg "find_member" s_find_member ["folder", "name"]
  f_find_file : Has K mg "find_file" s_find_file ["top", "path"]
  f_cut_piece : Has K mg "cut_piece" s_cut_piece ["image", "record", "start", "most"]
  f_file : Has K mg "file" s_file ["start", "most", "image", "path"]
  c_SECTOR : ∃ t, mg "SECTOR" = some (.int 2048 t)
  c_BLANK : ∃ t, mg "BLANK" = some (.int 32 t)
  c_SLASH : ∃ t, mg "SLASH" = some (.int 47 t)
  c_NAME_AT : ∃ t, mg "NAME_AT" = some (.int 33 t)
  c_FOLDER : ∃ t, mg "FOLDER" = some (.int 2 t)
  c_MOST_FLAGS : ∃ t, mg "MOST_FLAGS" = some (.int 3 t)
  c_MAIN_SECTOR : ∃ t, mg "MAIN_SECTOR" = some (.int 16 t)
  c_KIND_MAIN : ∃ t, mg "KIND_MAIN" = some (.int 1 t)
  c_KIND_BETWEEN : ∃ t, mg "KIND_BETWEEN" = some (.int 0 t)
  c_KIND_LAST : ∃ t, mg "KIND_LAST" = some (.int 255 t)
  c_TOP_AT : ∃ t, mg "TOP_AT" = some (.int 156 t)
  c_TOP_LENGTH : ∃ t, mg "TOP_LENGTH" = some (.int 34 t)
  c_POINT : ∃ t, mg "POINT" = some (.int 46 t)
  c_MOST_IN_FOLDER_NAME : ∃ t, mg "MOST_IN_FOLDER_NAME" = some (.int 31 t)
  c_MOST_IN_FILE_NAME : ∃ t, mg "MOST_IN_FILE_NAME" = some (.int 30 t)
  c_MOST_DEEP : ∃ t, mg "MOST_DEEP" = some (.int 8 t)
  c_MOST_BELOW_TOP : ∃ t, mg "MOST_BELOW_TOP" = some (.int 16384 t)
  c_MOST_BYTES : ∃ t, mg "MOST_BYTES" = some (.int 16777216 t)
  c_MOST_IN_PATH : ∃ t, mg "MOST_IN_PATH" = some (.int 1024 t)
  c_MARK : mg "MARK" = some (.ref ad.t_MARK) ∧ TupK K ad.t_MARK [67, 68, 48, 48, 49, 1]
  c_TOP_NAME : mg "TOP_NAME" = some (.ref ad.t_TOP_NAME) ∧ TupK K ad.t_TOP_NAME [0]
  c_VERSION : mg "VERSION" = some (.ref ad.t_VERSION) ∧ TupK K ad.t_VERSION [59, 49]
  c_SELF_NAME : mg "SELF_NAME" = some (.ref ad.t_SELF_NAME) ∧ TupK K ad.t_SELF_NAME [0]
  c_ABOVE_NAME : mg "ABOVE_NAME" = some (.ref ad.t_ABOVE_NAME) ∧ TupK K ad.t_ABOVE_NAME [1]
  n_len : mg "len" = none
  n_list : mg "list" = none
  n_reversed : mg "reversed" = none
  n_range : mg "range" = none
  n_tuple : mg "tuple" = none
  n_any : mg "any" = none
  n_all : mg "all" = none
  n_max : mg "max" = none
  n_min : mg "min" = none
  e_BadImage : Exc K mg "BadImage" ad.k_BadImage
  e_NoFile : Exc K mg "NoFile" ad.k_NoFile
  k_Record : Kls K mg "Record" "Record.__init__" ad.k_Record s_Record ["self", "place", "size", "is_folder", "name"] ["place", "size", "is_folder", "name"]
  k_Main : Kls K mg "Main" "Main.__init__" ad.k_Main s_Main ["self", "table_size", "lower_table", "higher_table", "top", "name"] ["table_size", "lower_table", "higher_table", "top", "name"]
  k_Node : Kls K mg "Node" "Node.__init__" ad.k_Node s_Node ["self", "record", "above", "depth"] ["record", "above", "depth", "members"]
  k_Tree : Kls K mg "Tree" "Tree.__init__" ad.k_Tree s_Tree ["self", "folders", "files"] ["folders", "files"]
  k_Volume : Kls K mg "Volume" "Volume.__init__" ad.k_Volume s_Volume ["self", "sectors", "name", "tree"] ["sectors", "name", "tree"]
  x1 : PySem.W.exmOne K (.ref ad.k_NoFile) (.ref ad.k_BadImage) = some false
  x2 : PySem.W.exmOne K (.ref ad.k_NoFile) (.ref ad.k_NoFile) = some true
  x0 : PySem.W.exmOne K (.ref ad.k_BadImage) (.ref ad.k_BadImage) = some true
end Dx
set_option linter.all false
set_option maxRecDepth 100000
namespace Dx
open PySem PySem.Spec PyProof.Rows L2 MM
open Sn28 (Rec Bytes at_)
def LoopJ (J : It) (g : TG) (tb : TS) (D : Ends) (σ : L2.St) (H : Hp) : Prop := ∃ W : Nat → Nat → L2.St → Hp → Prop, (∃ m, W 0 m σ H) ∧ ∀ i m σ H, W i m σ H →
  (J.stop i H ∧ D.nx σ H) ∨ (J.go i H ∧ ∃ N : L2.St → Hp → Prop, (∀ σ' H', N σ' H' → ∃ m', m' < m ∧ W (i + 1) m' σ' H') ∧ ∀ x H', J.yld i H x H' → g x σ H' fun σ2 H2 => tb { D with nx := N, ct := N, bk := D.nx } σ2 H2)
def LcJ (J : It) (g : TG) (tt : TT) (te : TE) (vs : List Nat) (σ : L2.St) (H1 : Hp) (Q : VK) : Prop := ∀ D, H1 D = none → ∃ W : Nat → Nat → Hp → Prop, (∃ m, W 0 m (upd H1 D (.lst []))) ∧ ∀ i m H, W i m H →
  (J.stop i H ∧ Q (.ref D) H) ∨ (J.go i H ∧ ∃ Nx : Hp → Prop, (∀ H', Nx H' → ∃ m', m' < m ∧ W (i + 1) m' H') ∧ ∀ x H', J.yld i H x H' → g x (wipe σ vs) H' fun σ2 H2 => wipe σ2 vs = wipe σ vs ∧ tt σ2 H2 fun b H3 =>
    if b = true then te σ2 H3 fun y H4 => ∃ acc, H4 D = some (.lst acc) ∧ acc.length < sizeLine ∧ Nx (upd H4 D (.lst (acc ++ [y]))) else Nx H3)
section
variable {i n : Nat} {v z : V} {σ : L2.St} {H : Hp} {Q : VK} {QB : Bool → Hp → Prop} {QA : List V → Hp → Prop} {QO : Option Int → Hp → Prop} {R : It → Hp → Prop} {ta tb tc te tl th : TE} {t u : TS} {tA tB' : TT} {ts : TA} {D : Ends} {K : PySem.W.Frag} {r r' : R2} {ru : V → Hp → VK → Prop} {rc : List V → Hp → VK → Prop}
  {rm : V → List V → Hp → VK → Prop} {rs : V → Option Int → Option Int → Hp → VK → Prop} {to to2 : TO} {g : TG} {wi : TI} {sp : Sp} {E : XK} {C : Addr} {vs dvs : List V} {x y : V} {f : Str} {T : String} {names : List Str} {ns : List Nat} {xs : List V} {neg : Bool} {EH : Ends → XK} {tE : XK → TS} {lo hi : Option Int}
theorem rd_var : tVar i σ H Q = ∃ v, σ[i]? = some (some v) ∧ Q v H := rfl
theorem rd_c : tC v σ H Q = Q v H := rfl
theorem rd_op : tOp r ta tb σ H Q = ta σ H fun x H1 => tb σ H1 fun y H2 => r x y H2 Q := rfl
theorem rd_un : tUn ru ta σ H Q = ta σ H fun x H1 => ru x H1 Q := rfl
theorem rd_i0 {g2 : Int → Int → V} : rI0 g2 x y H Q = ∃ i j, x = .int i ∧ y = .int j ∧ Q (g2 i j) H := rfl
theorem rd_i {C : Int → Int → Prop} {g2 : Int → Int → V} : rI C g2 x y H Q = ∃ i j, x = .int i ∧ y = .int j ∧ C i j ∧ Q (g2 i j) H := rfl
theorem rd_u {g1 : Int → V} : rU g1 x H Q = ∃ i, x = .int i ∧ Q (g1 i) H := rfl
theorem rd_seq : tSeq t u D σ H = t { D with nx := u D } σ H := rfl
theorem rd_next : tNext D σ H = D.nx σ H := rfl
theorem rd_asg : tAsg te g D σ H = te σ H fun x H1 => g x σ H1 D.nx := rfl
theorem rd_name {Qs : L2.St → Hp → Prop} : gName i x σ H Qs = Qs (σ.set i (some x)) H := rfl
theorem rd_ret : tRet te D σ H = te σ H D.rt := rfl
theorem rd_drop : tDrop te D σ H = te σ H fun _ H1 => D.nx σ H1 := rfl
theorem rd_ifS : tIfS tA t u D σ H = tA σ H fun b H1 => if b = true then t D σ H1 else u D σ H1 := rfl
theorem rd_test : tTest te σ H QB = te σ H fun x H' => ∃ k, x = .bl k ∧ QB k H' := rfl
theorem rd_b : L2.tB te σ H QB = te σ H fun x H1 => ∃ c, x = .bl c ∧ QB c H1 := rfl
theorem rd_chain : tChain r r' ta tb tc σ H Q = ta σ H fun x H1 => tb σ H1 fun y H2 => r x y H2 fun z H3 => ∃ k, z = .bl k ∧ (if k = true then tc σ H3 fun w' H4 => r' y w' H4 Q else Q (.bl false) H3) := rfl
theorem rd_and : tAnd tA tB' σ H QB = tA σ H fun c H1 => if c = true then tB' σ H1 QB else QB false H1 := rfl
theorem rd_or : tOr tA tB' σ H QB = tA σ H fun c H1 => if c = true then QB true H1 else tB' σ H1 QB := rfl
theorem rd_not : tNot tA σ H QB = tA σ H fun c H1 => QB (!c) H1 := rfl
theorem rd_andV : tAndV ta tb σ H Q = ta σ H fun x H1 => ∃ c, x = .bl c ∧ if c = true then tb σ H1 Q else Q (.bl false) H1 := rfl
theorem rd_orV : tOrV ta tb σ H Q = ta σ H fun x H1 => ∃ c, x = .bl c ∧ if c = true then Q (.bl true) H1 else tb σ H1 Q := rfl
theorem rd_notV : tNotV ta σ H Q = ta σ H fun x H1 => ∃ c, x = .bl c ∧ Q (.bl (!c)) H1 := rfl
theorem rd_if : tIf tA ta tb σ H Q = tA σ H fun c H1 => if c = true then ta σ H1 Q else tb σ H1 Q := rfl
theorem rd_cons : tCons ta ts σ H QA = ta σ H fun x H1 => ts σ H1 fun xs H2 => QA (x :: xs) H2 := rfl
theorem rd_nil : tNil σ H QA = QA [] H := rfl
theorem rd_call : tCall sp dvs E ts σ H Q = ts σ H fun vs H1 => sp (vs ++ dvs) H1 Q E := rfl
theorem rd_cb : tCB rc ts σ H Q = ts σ H fun vs H1 => rc vs H1 Q := rfl
theorem rd_sl : tSl rs te to to2 σ H Q = te σ H fun x H1 => to σ H1 fun l H2 => to2 σ H2 fun u H3 => rs x l u H3 Q := rfl
theorem rd_part : tPart te σ H QO = te σ H fun x H1 => ∃ i, x = .int i ∧ QO (some i) H1 := rfl
theorem rd_nopart : tNoPart σ H QO = QO none H := rfl
theorem rd_slL : rSlL K x lo hi H Q = ∃ a xs, x = .ref a ∧ SqL K H a xs ∧ ∀ p, H p = none → Q (.ref p) (upd H p (.lst (cutV xs lo hi))) := rfl
theorem rd_eqL : rEqL K neg x y H Q = ∃ p q a b, x = .ref p ∧ y = .ref q ∧ SqL K H p (ivs a) ∧ SqL K H q (ivs b) ∧ Q (.bl (if neg then !decide (a = b) else decide (a = b))) H := rfl
theorem rd_eqT : rEqT K neg x y H Q = ∃ p q a b, x = .ref p ∧ y = .ref q ∧ SqT K H p (ivs a) ∧ SqT K H q (ivs b) ∧ Q (.bl (if neg then !decide (a = b) else decide (a = b))) H := rfl
theorem rd_ltL : rLtL K x y H Q = ∃ a b ns ms, x = .ref a ∧ y = .ref b ∧ SqL K H a (ns.map V.int) ∧ SqL K H b (ms.map V.int) ∧ ns.length = ms.length ∧ Q (.bl (HT.lexLt ns ms)) H := rfl
theorem rd_ixL : rIxL K x y H Q = ∃ p xs i v, x = .ref p ∧ y = .int i ∧ SqL K H p xs ∧ atI xs i = some v ∧ Q v H := rfl
theorem rd_lst : tLst ts σ H Q = ts σ H fun xs H1 => xs.length ≤ sizeLine ∧ ∀ p, H1 p = none → Q (.ref p) (upd H1 p (.lst xs)) := rfl
theorem rd_listrev : tListRev K te σ H Q = te σ H fun x H1 => ∃ a xs, x = .ref a ∧ SqL K H1 a xs ∧ ∀ l, H1 l = none → Q (.ref l) (upd H1 l (.lst xs.reverse)) := rfl
theorem rd_raise : tRaise C E D σ H = E (.ref C) none H := rfl
theorem rd_for : tFor wi g t D σ H = wi σ H fun J H1 => LoopJ J g t D σ H1 := rfl
theorem rd_lc : tLc wi g tA te ns σ H Q = wi σ H fun J H1 => LcJ J g tA te ns σ H1 Q := rfl
theorem rd_iList : iList K te σ H R = te σ H fun x H1 => ∃ a, x = .ref a ∧ (∃ xs, SqL K H1 a xs) ∧ R (Itl K a) H1 := rfl
theorem rd_iRng1 : iRng1 ts σ H R = ts σ H fun vs H1 => ∃ j : Int, vs = [.int j] ∧ -(2 ^ 62) ≤ j ∧ j < 2 ^ 62 ∧ R (Itr 0 j.toNat) H1 := rfl
theorem rd_iRng2 : iRng2 ts σ H R = ts σ H fun vs H1 => ∃ i j : Int, vs = [.int i, .int j] ∧ (-(2 ^ 62) ≤ i ∧ i < 2 ^ 62 ∧ -(2 ^ 62) ≤ j ∧ j < 2 ^ 62) ∧ R (Itr i (j - i).toNat) H1 := rfl
theorem rd_iRng3 : iRng3 ts σ H R = ts σ H fun vs H1 => ∃ (i j c : Int) (n : Nat), vs = [.int i, .int j, .int c] ∧ RgC i j c n ∧ R (Itc i c n) H1 := rfl
theorem rd_iRev : iRev K ts σ H R = ts σ H fun vs H1 => ∃ (a : Addr) (xs : List V), vs = [.ref a] ∧ SqL K H1 a xs ∧ R (Itv K a xs.length) H1 := rfl
theorem rd_iStr : iStr te σ H R = te σ H fun v H1 => ∃ x, v = .str x ∧ R (Its x) H1 := rfl
theorem rd_bm : tBM K T rm te ts σ H Q = te σ H fun x H1 => tyV K T x H1 ∧ ts σ H1 fun xs H2 => rm x xs H2 Q := rfl
theorem rd_bm0 : tBM0 K T rm te σ H Q = te σ H fun x H1 => tyV K T x H1 ∧ rm x [] H1 Q := rfl
theorem rd_append : rAppend x vs H Q = ∃ l xs y, x = .ref l ∧ vs = [y] ∧ H l = some (.lst xs) ∧ xs.length < sizeLine ∧ Q .non (upd H l (.lst (xs ++ [y]))) := rfl
theorem rd_extend : rExtend x vs H Q = ∃ l b xs zs, x = .ref l ∧ vs = [.ref b] ∧ H l = some (.lst xs) ∧ H b = some (.lst zs) ∧ xs.length + zs.length ≤ sizeLine ∧ Q .non (upd H l (.lst (xs ++ zs))) := rfl
theorem rd_pop : rPop x vs H Q = ∃ l xs y, x = .ref l ∧ vs = [] ∧ H l = some (.lst xs) ∧ xs[xs.length - 1]? = some y ∧ Q y (upd H l (.lst xs.dropLast)) := rfl
theorem rd_count : rCountI K x vs H Q = ∃ (a : Addr) (ns : List Int) (z : Int), x = V.ref a ∧ vs = [.int z] ∧ SqL K H a (ns.map V.int) ∧ Q (.int ((ns.count z : Nat) : Int)) H := rfl
theorem rd_cat : rCat x y H Q = ∃ l b xs zs, x = .ref l ∧ y = .ref b ∧ H l = some (.lst xs) ∧ H b = some (.lst zs) ∧ xs.length + zs.length ≤ sizeLine ∧ ∀ p, H p = none → Q (.ref p) (upd H p (.lst (xs ++ zs))) := rfl
theorem rd_rep : rRep x y H Q = ∃ l k xs, x = .ref l ∧ y = .int k ∧ H l = some (.lst xs) ∧ -(2 ^ 63) ≤ k ∧ k < 2 ^ 63 ∧ xs.length * k.toNat ≤ sizeLine ∧ ∀ p, H p = none → Q (.ref p) (upd H p (.lst (List.replicate k.toNat xs).flatten)) := rfl
theorem rd_anyI : rAnyI K vs H Q = ∃ (a : Addr) (ns : List Int), vs = [V.ref a] ∧ SqL K H a (ns.map V.int) ∧ Q (.bl (ns.any fun z => z != 0)) H := rfl
theorem rd_all : rAll K vs H Q = ∃ (a : Addr) (bs : List Bool), vs = [V.ref a] ∧ SqL K H a (bs.map V.bl) ∧ Q (.bl (bs.all id)) H := rfl
theorem rd_fld : tFld K te f σ H Q = te σ H fun x H1 => ∃ a C dx fs v, x = .ref a ∧ H1 a = some (.ins C dx fs) ∧ Cls K C ∧ NoAttr K C f ∧ fs.lookup f = some v ∧ Q v H1 := rfl
theorem rd_sfld : sFld K ta te f D σ H = te σ H fun y H1 => ta σ H1 fun x H2 => ∃ a C dx fs, x = .ref a ∧ H2 a = some (.ins C dx fs) ∧ Cls K C ∧ NoAttr K C f ∧ fs.length < 1000 ∧ D.nx σ (upd H2 a (.ins C dx (putF f y fs))) := rfl
theorem rd_new : tNew C names ts σ H Q = ts σ H fun vs H1 => vs.length = names.length ∧ ∀ x dx, H1 x = none → H1 dx = none → dx ≠ x → Q (.ref x) (upd (upd H1 dx (.own x)) x (.ins C dx (names.zip vs))) := rfl
theorem rd_yes : tYes σ H QB = QB true H := rfl
theorem rd_tyL {p : Addr} : tyV K "list" (.ref p) H = ((("list" : String) = "list" ∧ ∃ xs, SqL K H p xs) ∨ (("list" : String) = "tuple" ∧ ∃ o, K.lookup p = some o ∧ o.cls = .type "tuple" ∧ o.dict = none) ∨ (("list" : String) = "dict" ∧ ((∃ kvs, H p = some (.dK kvs)) ∨ ∃ kvs, H p = some (.dT kvs))) ∨ (("list" : String) = "set" ∧ ∃ S n, H p = some (.set S n))) := rfl
theorem rd_wipe0 : wipe σ [] = σ := rfl
theorem rd_wipe1 : wipe σ (i :: ns) = (wipe σ ns).set i none := rfl
theorem rd_try : tTry EH tE D σ H = tE (EH D) D σ H := rfl
theorem rd_start {N : List Str} : L2.start N vs = vs.map some ++ List.replicate (N.length - vs.length) none := rfl
theorem rd_cxK {CX : CXT} {P : Program} {w : World} {mg : Str → Option Value} {base : Heap} {N : List Str} {q : Str} {sc : Scope} {fa : Addr} {cd : Value} {A : Around} {outer : List Env} {s : Shared} : (cxOf CX P w K mg base N q sc fa cd A outer s H E).K = K := rfl
theorem tyL {p : Addr} (h : SqL K H p xs) : tyV K "list" (.ref p) H := .inl ⟨rfl, xs, h⟩
end
theorem LoopJ.list {K : PySem.W.Frag} {a : Addr} {xs : List V} {g : TG} {tb : TS} {D : Ends} {σ : L2.St} {H : Hp} (Pv : Nat → L2.St → Hp → Prop) (h0 : Pv 0 σ H) (hl : ∀ i σ H, i ≤ xs.length → Pv i σ H → SqL K H a xs)
    (hs : ∀ i x σ H, xs[i]? = some x → Pv i σ H → g x σ H fun σ2 H2 => tb { D with nx := Pv (i + 1), ct := Pv (i + 1), bk := D.nx } σ2 H2) (hd : ∀ σ H, Pv xs.length σ H → D.nx σ H) : LoopJ (Itl K a) g tb D σ H := for_list Pv h0 hl hs hd
theorem LoopJ.range {lo : Int} {n : Nat} {g : TG} {tb : TS} {D : Ends} {σ : L2.St} {H : Hp} (Pv : Nat → L2.St → Hp → Prop) (h0 : Pv 0 σ H)
    (hs : ∀ i σ H, i < n → Pv i σ H → g (.int (lo + i)) σ H fun σ2 H2 => tb { D with nx := Pv (i + 1), ct := Pv (i + 1), bk := D.nx } σ2 H2) (hd : ∀ σ H, Pv n σ H → D.nx σ H) : LoopJ (Itr lo n) g tb D σ H := for_range Pv h0 hs hd
theorem LoopJ.rangeC {lo c : Int} {n : Nat} {g : TG} {tb : TS} {D : Ends} {σ : L2.St} {H : Hp} (Pv : Nat → L2.St → Hp → Prop) (h0 : Pv 0 σ H)
    (hs : ∀ (i : Nat) σ H, i < n → Pv i σ H → g (.int (lo + (i : Nat) * c)) σ H fun σ2 H2 => tb { D with nx := Pv (i + 1), ct := Pv (i + 1), bk := D.nx } σ2 H2) (hd : ∀ σ H, Pv n σ H → D.nx σ H) : LoopJ (Itc lo c n) g tb D σ H := for_rangeC Pv h0 hs hd
theorem LcJ.list {K : PySem.W.Frag} {a : Addr} {xs : List V} {g : TG} {tt : TT} {te : TE} {vs : List Nat} {σ : L2.St} {H1 : Hp} {Q : VK} (h : ∀ D, H1 D = none → ∃ Pv : Nat → Hp → Prop, Pv 0 (upd H1 D (.lst [])) ∧ (∀ i H, i ≤ xs.length → Pv i H → SqL K H a xs) ∧
    (∀ i x H, xs[i]? = some x → Pv i H → g x (wipe σ vs) H fun σ2 H2 => wipe σ2 vs = wipe σ vs ∧ tt σ2 H2 fun b H3 => if b = true then te σ2 H3 fun y H4 => ∃ acc, H4 D = some (.lst acc) ∧ acc.length < sizeLine ∧ Pv (i + 1) (upd H4 D (.lst (acc ++ [y]))) else Pv (i + 1) H3) ∧
    ∀ H, Pv xs.length H → Q (.ref D) H) : LcJ (Itl K a) g tt te vs σ H1 Q := fun D hD => by
  obtain ⟨Pv, h0, hl, hs, hd⟩ := h D hD
  exact lc_list Pv h0 hl hs hd
end Dx
set_option linter.all false
set_option maxRecDepth 100000
set_option maxHeartbeats 4000000
namespace Dx
open PySem PySem.Spec PyProof.Rows L2 MM
open Sn28 (Rec Bytes at_)
local macro_rules | `(tactic| walk_at "rd") => `(tactic| (try simp only [rd_var, rd_c, rd_op, rd_un, rd_i0, rd_i, rd_u, rd_seq, rd_next, rd_asg, rd_name, rd_ret, rd_drop, rd_ifS, rd_test, rd_b, rd_chain, rd_and, rd_or, rd_not, rd_andV, rd_orV, rd_notV, rd_if, rd_cons, rd_nil, rd_call, rd_cb, rd_sl, rd_part, rd_nopart, rd_slL, rd_eqL, rd_eqT, rd_ltL, rd_ixL, rd_lst, rd_listrev, rd_raise, rd_for, rd_lc, rd_iList, rd_iRng1, rd_iRng2, rd_iRng3, rd_iRev, rd_iStr, rd_bm, rd_bm0, rd_append, rd_extend, rd_pop, rd_count, rd_cat, rd_rep, rd_anyI, rd_all, rd_fld, rd_sfld, rd_new, rd_yes, rd_wipe0, rd_wipe1, rd_try, rd_start, rd_cxK,
  List.map_cons, List.map_nil, List.length_cons, List.length_nil, List.cons_append, List.nil_append, List.append_nil, List.replicate_succ, List.replicate_zero, List.getElem?_cons_zero, List.getElem?_cons_succ, List.set_cons_zero, List.set_cons_succ, Option.some.injEq, V.int.injEq, V.bl.injEq, V.ref.injEq, List.cons.injEq, if_true, if_false, Bool.false_eq_true, eq_self_iff_true,
  exists_eq_left, exists_eq_left', exists_and_left, exists_and_right, exists_eq_right, exists_eq_right', exists_eq', exists_eq, true_and, and_true, and_self, exists_const, Nat.reduceAdd, Nat.reduceSub]))
local macro_rules | `(tactic| walk_at "om") => `(tactic| ((try simp only [decide_eq_true_eq, decide_eq_false_iff_not, Bool.not_eq_true', Bool.not_eq_true, Bool.not_eq_false', Bool.not_eq_false, Bool.and_eq_true, Bool.or_eq_true, Bool.or_eq_false_iff, Bool.and_eq_false_iff, Decidable.not_not, ne_eq, Nat.reduceAdd] at *); omega))
section
variable {P : Program} {w : World} {K : PySem.W.Frag} {mg : Str → Option Value} {base : Heap} {ad : Ad}
def Out {α : Type} (H : Hp) (r : Option α) (k : α → Hp → Prop) (E : XK) (C : Addr) : Prop := (∀ x H', r = some x → Same H H' → k x H') ∧ (r = none → ∀ H', Same H H' → E (.ref C) none H')
def sp_hf (K : PySem.W.Frag) : Sp := fun vs H Q _ => ∃ p b, vs = [.ref p] ∧ SqL K H p (ivs b) ∧ Q (iv (hf b)) H
theorem sc_read_higher_first : FnScope ["values", "number", "value"] ["values"] (defScope s_read_higher_first) := ⟨rfl, rfl, rfl, by decide +kernel, rfl, by decide +kernel, by decide +kernel⟩
theorem hf_snoc (b : Bytes) (n : Nat) : hf (b ++ [n]) = hf b * 256 + n := by unfold hf; rw [List.foldl_append]; rfl
theorem take_snoc {α : Type} {l : List α} {i : Nat} {x : α} (h : l[i]? = some x) : l.take (i + 1) = l.take i ++ [x] := by
  rw [List.take_succ, h]; rfl
theorem g_read_higher_first (T : Txt K mg ad) : Good P w K mg base CX0 1 "read_higher_first" ["values"] (sp_hf K) := by
  refine T.f_read_higher_first.good0 sc_read_higher_first (fun vs H Q E h => ?_) (fun f cdv A outer s H vs Q E hr h => ?_)
  · obtain ⟨z, b, rfl, _⟩ := h
    rfl
  · obtain ⟨p, b, rfl, hS, q⟩ := h
    refine ⟨_, (pss_cons (ps_set (i := 1) sc_read_higher_first.nd rfl (Or.inl rfl) pe_int)
      (pss_cons (ps_for PassesOwn.never rfl (pi_list (pv 0)) (pg_name (i := 2) sc_read_higher_first.nd rfl (Or.inl rfl)) (pss_one (ps_set (i := 1) sc_read_higher_first.nd rfl (Or.inl rfl) (pe_op op_add (pe_op op_mul (pv 1) pe_int) (pv 2)))))
      (pss_one (ps_ret (pv 1))))), ?_⟩
    walk_at "rd"
    refine ⟨⟨_, hS⟩, LoopJ.list (xs := ivs b) (fun i σ H' => H' = H ∧ ∃ v, σ = [some (.ref p), some (iv (hf (b.take i))), v]) ⟨rfl, none, rfl⟩ (fun i σ H' _ h => h.1 ▸ hS) ?_ ?_⟩
    · rintro i x σ H' hx ⟨rfl, v, rfl⟩
      obtain ⟨n, hn, rfl⟩ := ivs_of_get hx
      walk_at "rd"
      refine ⟨.inr ⟨by decide, by decide⟩, ?_⟩
      rw [take_snoc hn, hf_snoc]
      push_cast
      rfl
    · rintro σ H' ⟨rfl, v, rfl⟩
      walk_at "rd"
      rw [ivs_len, List.take_length]
      exact q
def sp_lf (K : PySem.W.Frag) : Sp := fun vs H Q _ => ∃ p b, vs = [.ref p] ∧ SqL K H p (ivs b) ∧ ∀ H', Same H H' → Q (iv (hf b.reverse)) H'
theorem sc_read_lower_first : FnScope ["values"] ["values"] (defScope s_read_lower_first) := ⟨rfl, rfl, rfl, by decide +kernel, rfl, by decide +kernel, by decide +kernel⟩
theorem g_read_lower_first (T : Txt K mg ad) : Good P w K mg base CX0 2 "read_lower_first" ["values"] (sp_lf K) := by
  refine T.f_read_lower_first.good0 sc_read_lower_first (fun vs H Q E h => ?_) (fun f cdv A outer s H vs Q E hr h => ?_)
  · obtain ⟨z, b, rfl, _⟩ := h
    rfl
  · obtain ⟨p, b, rfl, hS, q⟩ := h
    refine ⟨_, (pss_one (ps_ret (pe_callG (g_read_higher_first T) hr (by decide) rfl pass0 (pa_cons (pe_listrev rfl rfl T.n_list rfl T.n_reversed (pv 0)) pa_nil)))), ?_⟩
    walk_at "rd"
    refine ⟨_, hS, fun l hl => ⟨l, b.reverse, rfl, SqL.of (by rw [upd_same, ivs_rev]), q _ (same_upd (Same.refl H) hl)⟩⟩
def sp_both (K : PySem.W.Frag) (ad : Ad) : Sp := fun vs H Q E => ∃ p b, ∃ (i w : Nat), vs = [.ref p, iv i, iv w] ∧ SqL K H p (ivs b) ∧ w ≤ 4 ∧ Out H (rb b i w) (fun n H' => Q (iv n) H') E ad.k_BadImage
theorem sc_read_both_ways : FnScope ["image", "at", "width", "lower", "higher"] ["image", "at", "width"] (defScope s_read_both_ways) := ⟨rfl, rfl, rfl, by decide +kernel, rfl, by decide +kernel, by decide +kernel⟩
theorem g_read_both_ways (T : Txt K mg ad) : Good P w K mg base (CXE P w) 2 "read_both_ways" ["image", "at", "width"] (sp_both K ad) := by
  refine T.f_read_both_ways.goodE sc_read_both_ways (fun vs H Q E h => ?_) (fun f cdv A outer s H vs Q E hr h => ?_)
  · obtain ⟨z, b, i, w, rfl, _⟩ := h
    rfl
  · obtain ⟨p, b, i, wd, rfl, hS, hw, q1, q2⟩ := h
    refine ⟨_, (pss_cons (ps_set (i := 3) sc_read_both_ways.nd rfl (Or.inl rfl) (pe_slice sl_list (pv 0) (po_some (pv 1)) (po_some (pe_op op_add (pv 1) (pv 2)))))
      (pss_cons (ps_set (i := 4) sc_read_both_ways.nd rfl (Or.inl rfl) (pe_slice sl_list (pv 0) (po_some (pe_op op_add (pv 1) (pv 2))) (po_some (pe_op op_add (pv 1) (pe_op op_mul pe_int (pv 2))))))
      (pss_cons (ps_if (pt_cmpR (op_neL hr.units) (pv 3) (pe_listrev rfl rfl T.n_list rfl T.n_reversed (pv 4)) (nomark _)) (pss_one (ps_raise rfl rfl T.e_BadImage raiseE)) pss_nil)
      (pss_one (ps_ret (pe_callG (g_read_higher_first T) hr (by decide) rfl pass0 (pa_cons (pv 4) pa_nil))))))), ?_⟩
    walk_at "rd"
    refine ⟨_, hS, fun l1 h1 => ⟨.inl ⟨by decide, by decide⟩, _, (same_upd (Same.refl H) h1).seq hS, fun l2 h2 => ?_⟩⟩
    rw [cut_k (i := i) (k := wd) rfl rfl] at h2 ⊢
    rw [cut_k (i := i + wd) (k := wd) (by push_cast; rfl) (by push_cast; omega)]
    refine ⟨_, SqL.of upd_same, fun l3 h3 => ?_⟩
    rw [ivs_rev]
    have s1 := same_upd (o := .lst (ivs ((b.drop i).take wd))) (Same.refl H) h1
    have s2 := same_upd (o := .lst (ivs ((b.drop (i + wd)).take wd))) (Same.refl _) h2
    have s3 := same_upd (o := .lst (ivs ((b.drop (i + wd)).take wd).reverse)) (Same.refl _) h3
    refine ⟨_, SqL.of (s3 _ _ (s2 _ _ upd_same)), _, SqL.of upd_same, ?_⟩
    refine ite2 (fun c => ?_) (fun c => ?_)
    · refine q2 ?_ _ ((s1.trans s2).trans s3)
      unfold rb
      rw [if_neg (by simpa using c)]
    · refine ⟨_, _, rfl, SqL.of (s3 _ _ upd_same), q1 _ _ ?_ ((s1.trans s2).trans s3)⟩
      unfold rb
      rw [if_pos (by simpa using c)]
def sp_num (K : PySem.W.Frag) : Sp := fun vs H Q _ => ∃ (n k : Nat) (low : Bool), vs = [iv n, iv k, .bl low] ∧ k ≤ 4 ∧ ∀ l H', Same H H' → H l = none → H' l = some (.lst (ivs (num (!low) n k))) → Q (.ref l) H'
theorem digits_snoc : ∀ (n k : Nat), digits n (k + 1) = digits n k ++ [n / 256 ^ k % 256]
  | n, 0 => by show [n % 256] = [n / 1 % 256]; rw [Nat.div_one]
  | n, k + 1 => by
    show n % 256 :: digits (n / 256) (k + 1) = n % 256 :: (digits (n / 256) k ++ _)
    rw [digits_snoc (n / 256) k, Nat.div_div_eq_div_mul, Nat.pow_succ, Nat.mul_comm]
theorem sc_write_number : FnScope ["number", "width", "is_lower_first", "values", "rest", "k"] ["number", "width", "is_lower_first"] (defScope s_write_number) := ⟨rfl, rfl, rfl, by decide +kernel, rfl, by decide +kernel, by decide +kernel⟩
theorem g_write_number (T : Txt K mg ad) : Good P w K mg base CX0 1 "write_number" ["number", "width", "is_lower_first"] (sp_num K) := by
  refine T.f_write_number.good0 sc_write_number (fun vs H Q E h => ?_) (fun f cdv A outer s H vs Q E hr h => ?_)
  · obtain ⟨z, b, i, rfl, _⟩ := h
    rfl
  · obtain ⟨n, k, low, rfl, hk, q⟩ := h
    refine ⟨_, (pss_cons (ps_set (i := 3) sc_write_number.nd rfl (Or.inl rfl) (pe_lst pa_nil))
      (pss_cons (ps_set (i := 4) sc_write_number.nd rfl (Or.inl rfl) (pv 0))
      (pss_cons (ps_for PassesOwn.never rfl (pi_range1 rfl T.n_range (pa_cons (pv 1) pa_nil)) (pg_name (i := 5) sc_write_number.nd rfl (Or.inl rfl)) (pss_cons (ps_expr (pe_bm PySem.F.plainAttrs_list PySem.F.slot_list_append PySem.F.type_list_append mt_append (pv 3) (pa_cons (pe_op op_mod (pv 4) pe_int) pa_nil)))
      (pss_one (ps_set (i := 4) sc_write_number.nd rfl (Or.inl rfl) (pe_op op_fdiv (pv 4) pe_int)))))
      (pss_one (ps_ret (pe_ifExp (pt_val (pv 2)) (pv 3) (pe_listrev rfl rfl T.n_list rfl T.n_reversed (pv 3)))))))), ?_⟩
    walk_at "rd"
    refine ⟨Nat.zero_le _, fun l hl => ⟨by omega, by omega, ?_⟩⟩
    rw [Int.toNat_natCast]
    refine LoopJ.range (fun i σ H' => ∃ v, σ = [some (iv n), some (iv k), some (.bl low), some (.ref l), some (iv (n / 256 ^ i)), v] ∧ Same H H' ∧ H' l = some (.lst (ivs (digits n i)))) ⟨none, by rw [Nat.pow_zero, Nat.div_one], same_upd (Same.refl H) hl, upd_same⟩ ?_ ?_
    · rintro i σ H' hi ⟨v, rfl, s1, e1⟩
      walk_at "rd"
      refine ⟨tyL (SqL.of e1), by decide, _, e1, ?_, ⟨by decide, by decide⟩, ?_⟩
      · rw [ivs_len, digits_len]
        exact Nat.lt_of_lt_of_le hi (Nat.le_trans hk (by decide))
      · refine ⟨?_, same_put s1 hl, ?_⟩
        · rw [Nat.pow_succ, ← Nat.div_div_eq_div_mul]
          rfl
        · rw [upd_same, digits_snoc, ivs_app]
          rfl
    · rintro σ H' ⟨v, rfl, s1, e1⟩
      walk_at "rd"
      cases low with
      | true =>
        rw [if_pos rfl]
        exact q l H' s1 hl e1
      | false =>
        rw [if_neg Bool.false_ne_true]
        refine ⟨_, SqL.of e1, fun l2 h2 => q l2 _ (same_upd s1 h2) (s1.free h2) ?_⟩
        rw [upd_same, ivs_rev]
        rfl
end
end Dx
set_option linter.all false
set_option maxRecDepth 100000
set_option maxHeartbeats 4000000
namespace Dx
open PySem PySem.Spec PyProof.Rows L2 MM
open Sn28 (Rec Bytes at_)
local macro_rules | `(tactic| walk_at "rd") => `(tactic| (try simp only [rd_var, rd_c, rd_op, rd_un, rd_i0, rd_i, rd_u, rd_seq, rd_next, rd_asg, rd_name, rd_ret, rd_drop, rd_ifS, rd_test, rd_b, rd_chain, rd_and, rd_or, rd_not, rd_andV, rd_orV, rd_notV, rd_if, rd_cons, rd_nil, rd_call, rd_cb, rd_sl, rd_part, rd_nopart, rd_slL, rd_eqL, rd_eqT, rd_ltL, rd_ixL, rd_lst, rd_listrev, rd_raise, rd_for, rd_lc, rd_iList, rd_iRng1, rd_iRng2, rd_iRng3, rd_iRev, rd_iStr, rd_bm, rd_bm0, rd_append, rd_extend, rd_pop, rd_count, rd_cat, rd_rep, rd_anyI, rd_all, rd_fld, rd_sfld, rd_new, rd_yes, rd_wipe0, rd_wipe1, rd_try, rd_start, rd_cxK,
  List.map_cons, List.map_nil, List.length_cons, List.length_nil, List.cons_append, List.nil_append, List.append_nil, List.replicate_succ, List.replicate_zero, List.getElem?_cons_zero, List.getElem?_cons_succ, List.set_cons_zero, List.set_cons_succ, Option.some.injEq, V.int.injEq, V.bl.injEq, V.ref.injEq, List.cons.injEq, if_true, if_false, Bool.false_eq_true, eq_self_iff_true,
  exists_eq_left, exists_eq_left', exists_and_left, exists_and_right, exists_eq_right, exists_eq_right', exists_eq', exists_eq, true_and, and_true, and_self, exists_const, Nat.reduceAdd, Nat.reduceSub]))
local macro_rules | `(tactic| walk_at "om") => `(tactic| ((try simp only [decide_eq_true_eq, decide_eq_false_iff_not, Bool.not_eq_true', Bool.not_eq_true, Bool.not_eq_false', Bool.not_eq_false, Bool.and_eq_true, Bool.or_eq_true, Bool.or_eq_false_iff, Bool.and_eq_false_iff, Decidable.not_not, ne_eq, Nat.reduceAdd] at *); omega))
section
variable {P : Program} {w : World} {K : PySem.W.Frag} {mg : Str → Option Value} {base : Heap} {ad : Ad}
def sp_len (K : PySem.W.Frag) (ad : Ad) : Sp := fun vs H Q E => ∃ p b, ∃ (i e : Nat), vs = [.ref p, iv i, iv e] ∧ SqL K H p (ivs b) ∧ i < e ∧ e ≤ b.length ∧ (lenOk b i e = true → Q .non H) ∧ (lenOk b i e = false → E (.ref ad.k_BadImage) none H)
theorem lenOk_iff {b : Bytes} {p e : Nat} : lenOk b p e = true ↔ 33 < at_ b p ∧ p + at_ b p ≤ e ∧ at_ b (p + 32) ≠ 0 ∧ (at_ b (p + 32) % 2 = 0 → at_ b p = 34 + at_ b (p + 32)) ∧ (at_ b (p + 32) % 2 = 1 → at_ b p = 33 + at_ b (p + 32)) ∧ (at_ b (p + 32) % 2 = 0 → at_ b (p + at_ b p - 1) = 0) := by
  unfold lenOk
  by_cases h : at_ b (p + 32) % 2 = 0
  · simp [h]
    omega
  · have h1 : at_ b (p + 32) % 2 = 1 := by omega
    simp [h1]
    omega
theorem sc_check_length : FnScope ["image", "at", "end", "length", "name_length", "padding"] ["image", "at", "end"] (defScope s_check_length) := ⟨rfl, rfl, rfl, by decide +kernel, rfl, by decide +kernel, by decide +kernel⟩
theorem g_check_length (T : Txt K mg ad) : Good P w K mg base (CXE P w) 1 "check_length" ["image", "at", "end"] (sp_len K ad) := by
  refine T.f_check_length.goodE sc_check_length (fun vs H Q E h => ?_) (fun f cdv A outer s H vs Q E hr h => ?_)
  · obtain ⟨z, b, i, w, rfl, _⟩ := h
    rfl
  · obtain ⟨p, b, i, e, rfl, hS, h1, h2, q1, q2⟩ := h
    refine ⟨_, (pss_cons (ps_set (i := 3) sc_check_length.nd rfl (Or.inl rfl) (pe_ix ix_list (pv 0) (pv 1) (fun _ _ => rfl)))
      (pss_cons (ps_if (PW.pt (pw_or (pt_cmpR op_le (pv 3) (pe_const rfl T.c_NAME_AT) (nomark _)) (pw_or1 (pt_cmpR op_gt (pe_op op_add (pv 1) (pv 3)) (pv 2) (nomark _))))) (pss_one (ps_raise rfl rfl T.e_BadImage raiseE)) pss_nil)
      (pss_cons (ps_set (i := 4) sc_check_length.nd rfl (Or.inl rfl) (pe_ix ix_list (pv 0) (pe_op op_add (pv 1) pe_int) (fun _ _ => rfl)))
      (pss_cons (ps_set (i := 5) sc_check_length.nd rfl (Or.inl rfl) (pe_ifExp (pt_cmpR op_eqI (pe_op op_mod (pv 4) pe_int) pe_int (nomark _)) pe_int pe_int))
      (pss_cons (ps_if (PW.pt (pw_or (pt_cmpR op_eqI (pv 4) pe_int (nomark _)) (pw_or1 (pt_cmpR op_neI (pv 3) (pe_op op_add (pe_op op_add (pe_const rfl T.c_NAME_AT) (pv 4)) (pv 5)) (nomark _))))) (pss_one (ps_raise rfl rfl T.e_BadImage raiseE)) pss_nil)
      (pss_one (ps_if (PW.pt (pw_and (pt_cmpR op_eqI (pv 5) pe_int (nomark _)) (pw_and1 (pt_cmpR op_neI (pe_ix ix_list (pv 0) (pe_op op_sub (pe_op op_add (pv 1) (pv 3)) pe_int) (fun _ _ => rfl)) pe_int (nomark _))))) (pss_one (ps_raise rfl rfl T.e_BadImage raiseE)) pss_nil))))))), ?_⟩
    walk_at "rd"
    refine ⟨_, hS, _, ivs_at rfl (show i < b.length by omega), ?_⟩
    walk_at "rd"
    have no : (¬ (33 < at_ b i ∧ i + at_ b i ≤ e ∧ at_ b (i + 32) ≠ 0 ∧ (at_ b (i + 32) % 2 = 0 → at_ b i = 34 + at_ b (i + 32)) ∧ (at_ b (i + 32) % 2 = 1 → at_ b i = 33 + at_ b (i + 32)) ∧ (at_ b (i + 32) % 2 = 0 → at_ b (i + at_ b i - 1) = 0))) → E (.ref ad.k_BadImage) none H := fun z =>
      q2 (Bool.eq_false_iff.mpr fun y => z (lenOk_iff.mp y))
    refine ite2 (fun c => no (fun z => ?_)) (fun c => ite2 (fun c2 => no (fun z => ?_)) (fun c2 => ?_))
    · walk_at "om"
    · walk_at "om"
    · refine ⟨_, hS, _, ivs_at (j := i + 32) (by push_cast; rfl) (by walk_at "om"), ?_⟩
      walk_at "rd"
      refine ⟨by decide, ite2 (fun c3 => ?_) (fun c3 => ?_)⟩
      · refine ite2 (fun c4 => no (fun z => ?_)) (fun c4 => ite2 (fun c5 => no (fun z => ?_)) (fun c5 => ?_))
        · walk_at "om"
        · walk_at "om"
        · rw [if_pos (by decide)]
          refine ⟨_, hS, _, ivs_at (j := i + at_ b i - 1) (by walk_at "om") (by walk_at "om"), ?_⟩
          walk_at "rd"
          refine ite2 (fun c6 => no (fun z => ?_)) (fun c6 => q1 (lenOk_iff.mpr ?_))
          · walk_at "om"
          · walk_at "om"
      · refine ite2 (fun c4 => no (fun z => ?_)) (fun c4 => ite2 (fun c5 => no (fun z => ?_)) (fun c5 => ?_))
        · walk_at "om"
        · walk_at "om"
        · rw [if_neg (by decide)]
          exact q1 (lenOk_iff.mpr (by walk_at "om"))
def sp_fix (K : PySem.W.Frag) (ad : Ad) : Sp := fun vs H Q E => ∃ p b, ∃ (i : Nat), vs = [.ref p, iv i] ∧ SqL K H p (ivs b) ∧ IsB b ∧ i + 34 ≤ b.length ∧ (fixOk b i = true → ∀ H', Same H H' → Q .non H') ∧ (fixOk b i = false → ∀ H', Same H H' → E (.ref ad.k_BadImage) none H')
theorem fixOk_iff {b : Bytes} {p : Nat} : fixOk b p = true ↔ at_ b (p + 1) = 0 ∧ at_ b (p + 25) ≤ 3 ∧ at_ b (p + 26) = 0 ∧ at_ b (p + 27) = 0 ∧ Sn28.both2 b (p + 28) = some 1 := by
  unfold fixOk
  simp [and_assoc]
theorem sc_check_fixed_fields : FnScope ["image", "at"] ["image", "at"] (defScope s_check_fixed_fields) := ⟨rfl, rfl, rfl, by decide +kernel, rfl, by decide +kernel, by decide +kernel⟩
theorem g_check_fixed_fields (T : Txt K mg ad) : Good P w K mg base (CXE P w) 3 "check_fixed_fields" ["image", "at"] (sp_fix K ad) := by
  refine T.f_check_fixed_fields.goodE sc_check_fixed_fields (fun vs H Q E h => ?_) (fun f cdv A outer s H vs Q E hr h => ?_)
  · obtain ⟨z, b, i, rfl, _⟩ := h
    rfl
  · obtain ⟨p, b, i, rfl, hS, hB, h1, q1, q2⟩ := h
    refine ⟨_, (pss_cons (ps_if (PW.pt (pw_or (pt_cmpR op_neI (pe_ix ix_list (pv 0) (pe_op op_add (pv 1) pe_int) (fun _ _ => rfl)) pe_int (nomark _)) (pw_or1 (pt_cmpR op_gt (pe_ix ix_list (pv 0) (pe_op op_add (pv 1) pe_int) (fun _ _ => rfl)) (pe_const rfl T.c_MOST_FLAGS) (nomark _))))) (pss_one (ps_raise rfl rfl T.e_BadImage raiseE)) pss_nil)
      (pss_cons (ps_if (PW.pt (pw_or (pt_cmpR op_neI (pe_ix ix_list (pv 0) (pe_op op_add (pv 1) pe_int) (fun _ _ => rfl)) pe_int (nomark _)) (pw_or1 (pt_cmpR op_neI (pe_ix ix_list (pv 0) (pe_op op_add (pv 1) pe_int) (fun _ _ => rfl)) pe_int (nomark _))))) (pss_one (ps_raise rfl rfl T.e_BadImage raiseE)) pss_nil)
      (pss_one (ps_if (pt_cmpR op_neI (pe_callG (g_read_both_ways T) hr (by decide) rfl passE (pa_cons (pv 0) (pa_cons (pe_op op_add (pv 1) pe_int) (pa_cons pe_int pa_nil)))) pe_int (nomark _)) (pss_one (ps_raise rfl rfl T.e_BadImage raiseE)) pss_nil)))), ?_⟩
    have no : ∀ H', Same H H' → (¬ (at_ b (i + 1) = 0 ∧ at_ b (i + 25) ≤ 3 ∧ at_ b (i + 26) = 0 ∧ at_ b (i + 27) = 0 ∧ Sn28.both2 b (i + 28) = some 1)) → E (.ref ad.k_BadImage) none H' := fun H' s1 z =>
      q2 (Bool.eq_false_iff.mpr fun y => z (fixOk_iff.mp y)) H' s1
    have n0 := no H (Same.refl H)
    walk_at "rd"
    refine ⟨_, hS, _, ivs_at (j := i + 1) (by push_cast; rfl) (by omega), ?_⟩
    walk_at "rd"
    refine ite2 (fun c => n0 fun z => by walk_at "om") (fun c => ⟨_, hS, _, ivs_at (j := i + 25) (by push_cast; rfl) (by omega), ?_⟩)
    walk_at "rd"
    refine ite2 (fun c => n0 fun z => by walk_at "om") (fun c => ⟨_, hS, _, ivs_at (j := i + 26) (by push_cast; rfl) (by omega), ?_⟩)
    walk_at "rd"
    refine ite2 (fun c => n0 fun z => by walk_at "om") (fun c => ⟨_, hS, _, ivs_at (j := i + 27) (by push_cast; rfl) (by omega), ?_⟩)
    walk_at "rd"
    refine ite2 (fun c => n0 fun z => by walk_at "om") (fun c => ?_)
    refine ⟨p, b, i + 28, 2, by push_cast; rfl, hS, by decide, fun n H' e s1 => ?_, fun e H' s1 => ?_⟩
    · walk_at "rd"
      rw [rb2 hB (by omega)] at e
      refine ite2 (fun c => no H' s1 fun z => ?_) (fun c => q1 (fixOk_iff.mpr ?_) H' s1)
      · rw [e] at z
        have := Option.some.inj z.2.2.2.2
        walk_at "om"
      · rw [e]
        simp only [Bool.not_eq_true, Bool.not_eq_false', Bool.not_eq_true', decide_eq_true_eq, decide_eq_false_iff_not, Decidable.not_not] at *
        exact ⟨by omega, by omega, by omega, by omega, by congr 1; omega⟩
    · rw [rb2 hB (by omega)] at e
      exact no H' s1 fun z => by rw [e] at z; exact nomatch z.2.2.2.2
def rfs (r : Rec) (n : Addr) : List (Str × V) := [("place", iv r.place), ("size", iv r.size), ("is_folder", .bl r.folder), ("name", .ref n)]
theorem rfs_place (r : Rec) (n : Addr) : (rfs r n).lookup ("place" : Str) = some (iv r.place) := rfl
theorem rfs_size (r : Rec) (n : Addr) : (rfs r n).lookup ("size" : Str) = some (iv r.size) := rfl
theorem rfs_folder (r : Rec) (n : Addr) : (rfs r n).lookup ("is_folder" : Str) = some (.bl r.folder) := rfl
theorem rfs_name (r : Rec) (n : Addr) : (rfs r n).lookup ("name" : Str) = some (.ref n) := rfl
def RecAt (ad : Ad) (H : Hp) (p : Addr) (r : Rec) : Prop := ∃ dx n, H p = some (.ins ad.k_Record dx (rfs r n)) ∧ H n = some (.lst (ivs r.name)) ∧ r.name ≠ []
theorem RecAt.same {H H' : Hp} {p : Addr} {r : Rec} (h : RecAt ad H p r) (s : Same H H') : RecAt ad H' p r := by
  obtain ⟨dx, n, h1, h2, h3⟩ := h
  exact ⟨dx, n, s _ _ h1, s _ _ h2, h3⟩
theorem ivs_ne_refs {b : Bytes} (h : b ≠ []) (ps : List Addr) : ivs b ≠ ps.map V.ref := by
  cases b with
  | nil => exact absurd rfl h
  | cons x b =>
    cases ps with
    | nil => intro z; cases z
    | cons p ps => intro z; cases z
theorem RecAt.put {H : Hp} {p x : Addr} {r : Rec} {o : HO} (h : RecAt ad H p r) (hx : (∃ ps : List Addr, H x = some (.lst (ps.map V.ref))) ∨ (∃ C dx fs, H x = some (.ins C dx fs) ∧ fs.lookup ("place" : Str) = none)) : RecAt ad (upd H x o) p r := by
  obtain ⟨dx, n, h1, h2, h3⟩ := h
  refine ⟨dx, n, ?_, ?_, h3⟩
  · rw [upd_ne]
    · exact h1
    · rcases hx with ⟨ps, e⟩ | ⟨C, d, fs, e, l⟩
      · exact ne_of h1 e (by intro z; cases z)
      · refine ne_of h1 e ?_
        intro z
        injection z with z1 z2 z3
        rw [← z3] at l
        cases (rfs_place r n).symm.trans l
  · rw [upd_ne]
    · exact h2
    · rcases hx with ⟨ps, e⟩ | ⟨C, d, fs, e, l⟩
      · refine ne_of h2 e ?_
        intro z
        injection z with z
        exact ivs_ne_refs h3 ps z
      · exact ne_of h2 e (by intro z; cases z)
theorem sc_Record : FnScope ["self", "place", "size", "is_folder", "name"] ["self", "place", "size", "is_folder", "name"] (defScope s_Record) := ⟨rfl, rfl, rfl, by decide +kernel, rfl, by decide +kernel, by decide +kernel⟩
theorem m_Record (T : Txt K mg ad) : MkG P w K mg base 1 "Record" ad.k_Record ["self", "place", "size", "is_folder", "name"] (spNew ad.k_Record ["place", "size", "is_folder", "name"]) := by
  obtain ⟨f, fd, M, F, b⟩ := T.k_Record.mks
  have na := T.k_Record.na
  refine ⟨f, fd, M, F.ok sc_Record (fun vs H Q E h => ?_) (fun cdv A outer s H vs Q E hr h => ?_), b, T.k_Record.mgx⟩
  · obtain ⟨p, dx, ws, rfl, hl, _⟩ := h
    rw [List.length_cons, hl]
    rfl
  · obtain ⟨p, dx, ws, rfl, hl, hp, q⟩ := h
    match ws, hl with
    | [a1, a2, a3, a4], _ =>
      refine ⟨_, (pss_cons (ps_fld (pv 0) (pv 1) rfl)
      (pss_cons (ps_fld (pv 0) (pv 2) rfl)
      (pss_cons (ps_fld (pv 0) (pv 3) rfl)
      (pss_one (ps_fld (pv 0) (pv 4) rfl))))), ?_⟩
      walk_at "rd"
      refine ⟨_, _, _, hp, T.k_Record.cl, na _ (.head _), by decide, _, _, _, upd_same, T.k_Record.cl, na _ (.tail _ (.head _)), (by show 1 < 1000; decide), _, _, _, upd_same, T.k_Record.cl, na _ (.tail _ (.tail _ (.head _))), (by show 2 < 1000; decide),
        _, _, _, upd_same, T.k_Record.cl, na _ (.tail _ (.tail _ (.tail _ (.head _)))), (by show 3 < 1000; decide), ?_⟩
      rw [upd_twice, upd_twice, upd_twice]
      exact q
def sp_rec (K : PySem.W.Frag) (ad : Ad) : Sp := fun vs H Q E => ∃ p b, ∃ (i e : Nat), vs = [.ref p, iv i, iv e] ∧ SqL K H p (ivs b) ∧ IsB b ∧ i < e ∧ e ≤ b.length ∧ Out H (recP b i e) (fun r H' => ∀ q, RecAt ad H' q r → Q (.ref q) H') E ad.k_BadImage
theorem sc_read_record : FnScope ["image", "at", "end", "place", "size", "is_folder", "name"] ["image", "at", "end"] (defScope s_read_record) := ⟨rfl, rfl, rfl, by decide +kernel, rfl, by decide +kernel, by decide +kernel⟩
theorem g_read_record (T : Txt K mg ad) : Good P w K mg base (CXE P w) 4 "read_record" ["image", "at", "end"] (sp_rec K ad) := by
  refine T.f_read_record.goodE sc_read_record (fun vs H Q E h => ?_) (fun f cdv A outer s H vs Q E hr h => ?_)
  · obtain ⟨z, b, i, w, rfl, _⟩ := h
    rfl
  · obtain ⟨p, b, i, e, rfl, hS, hB, h1, h2, q1, q2⟩ := h
    refine ⟨_, (pss_cons (ps_expr (pe_callG (g_check_length T) hr (by decide) rfl passE (pa_cons (pv 0) (pa_cons (pv 1) (pa_cons (pv 2) pa_nil)))))
      (pss_cons (ps_expr (pe_callG (g_check_fixed_fields T) hr (by decide) rfl passE (pa_cons (pv 0) (pa_cons (pv 1) pa_nil))))
      (pss_cons (ps_set (i := 3) sc_read_record.nd rfl (Or.inl rfl) (pe_callG (g_read_both_ways T) hr (by decide) rfl passE (pa_cons (pv 0) (pa_cons (pe_op op_add (pv 1) pe_int) (pa_cons pe_int pa_nil)))))
      (pss_cons (ps_set (i := 4) sc_read_record.nd rfl (Or.inl rfl) (pe_callG (g_read_both_ways T) hr (by decide) rfl passE (pa_cons (pv 0) (pa_cons (pe_op op_add (pv 1) pe_int) (pa_cons pe_int pa_nil)))))
      (pss_cons (ps_set (i := 5) sc_read_record.nd rfl (Or.inl rfl) (pe_cmpR op_ge (pe_ix ix_list (pv 0) (pe_op op_add (pv 1) pe_int) (fun _ _ => rfl)) (pe_const rfl T.c_FOLDER) (nomark _)))
      (pss_cons (ps_set (i := 6) sc_read_record.nd rfl (Or.inl rfl) (pe_slice sl_list (pv 0) (po_some (pe_op op_add (pv 1) (pe_const rfl T.c_NAME_AT))) (po_some (pe_op op_add (pe_op op_add (pv 1) (pe_const rfl T.c_NAME_AT)) (pe_ix ix_list (pv 0) (pe_op op_add (pv 1) pe_int) (fun _ _ => rfl))))))
      (pss_one (ps_ret (pe_makeG (m_Record T) hr (by decide) rfl (pa_cons (pv 3) (pa_cons (pv 4) (pa_cons (pv 5) (pa_cons (pv 6) pa_nil))))))))))))), ?_⟩
    walk_at "rd"
    refine ⟨p, b, i, e, rfl, hS, h1, h2, fun c1 => ?_, fun c1 => q2 (by unfold recP; rw [if_neg (by rw [c1]; decide)]) H (Same.refl H)⟩
    have l1 := lenOk_iff.mp c1
    refine ⟨p, b, i, rfl, hS, hB, by omega, fun c2 H1 s1 => ?_, fun c2 H1 s1 => q2 (by unfold recP; rw [if_pos c1, if_neg (by rw [c2]; decide)]) H1 s1⟩
    have e0 : recP b i e = (Sn28.both4 b (i + 2)).bind fun q => (Sn28.both4 b (i + 10)).map fun s => ⟨q, s, decide (2 ≤ at_ b (i + 25)), (b.drop (i + 33)).take (at_ b (i + 32))⟩ := by
      unfold recP
      rw [if_pos c1, if_pos c2]
    refine ⟨p, b, i + 2, 4, by push_cast; rfl, s1.seq hS, by decide, fun pl H2 e2 s2 => ?_, fun e2 H2 s2 => q2 ?_ H2 (s1.trans s2)⟩
    · walk_at "rd"
      rw [rb4 hB (by omega)] at e2
      have s2 := s1.trans s2
      refine ⟨p, b, i + 10, 4, by push_cast; rfl, s2.seq hS, by decide, fun sz H3 e3 s3 => ?_, fun e3 H3 s3 => q2 ?_ H3 (s2.trans s3)⟩
      · walk_at "rd"
        rw [rb4 hB (by omega)] at e3
        have s3 := s2.trans s3
        refine ⟨_, s3.seq hS, _, ivs_at (j := i + 25) (by push_cast; rfl) (by omega), ?_⟩
        walk_at "rd"
        refine ⟨_, s3.seq hS, _, ivs_at (j := i + 32) (by push_cast; rfl) (by omega), ?_⟩
        walk_at "rd"
        refine ⟨_, s3.seq hS, fun l hl => ?_⟩
        rw [cut_k (i := i + 33) (k := at_ b (i + 32)) (by push_cast; rfl) (by push_cast; rfl)]
        have s4 := same_upd (o := .lst (ivs ((b.drop (i + 33)).take (at_ b (i + 32))))) s3 hl
        refine fun x dx nx nd ne => q1 ⟨pl, sz, decide (2 ≤ at_ b (i + 25)), (b.drop (i + 33)).take (at_ b (i + 32))⟩ _ ?_ ?_ x ⟨dx, l, ?_, ?_, ?_⟩
        · rw [e0, e2, e3]
          rfl
        · exact same_upd (same_upd s4 nd) (by rw [upd_ne (Ne.symm ne)]; exact nx)
        · rw [upd_same]
          unfold rfs
          have e9 : decide ((2 : Int) ≤ (at_ b (i + 25) : Int)) = decide (2 ≤ at_ b (i + 25)) := by
            rw [Bool.eq_iff_iff]
            walk_at "om"
          rw [e9]
          rfl
        · rw [upd_ne (ne_of_none upd_same nx), upd_ne (ne_of_none upd_same nd), upd_same]
        · have ek := recP_ok hB h1 h2 (r := ⟨pl, sz, decide (2 ≤ at_ b (i + 25)), (b.drop (i + 33)).take (at_ b (i + 32))⟩) (by rw [e0, e2, e3]; rfl)
          intro z
          have := ek.n1
          rw [z] at this
          exact absurd this (by decide)
      · rw [rb4 hB (by omega)] at e3
        rw [e0, e2, e3]
        rfl
    · rw [rb4 hB (by omega)] at e2
      rw [e0, e2]
      rfl
end
end Dx
set_option linter.all false
set_option maxRecDepth 100000
set_option maxHeartbeats 4000000
namespace Dx
open PySem PySem.Spec PyProof.Rows L2 MM
open Sn28 (Rec Bytes at_)
local macro_rules | `(tactic| walk_at "rd") => `(tactic| (try simp only [rd_var, rd_c, rd_op, rd_un, rd_i0, rd_i, rd_u, rd_seq, rd_next, rd_asg, rd_name, rd_ret, rd_drop, rd_ifS, rd_test, rd_b, rd_chain, rd_and, rd_or, rd_not, rd_andV, rd_orV, rd_notV, rd_if, rd_cons, rd_nil, rd_call, rd_cb, rd_sl, rd_part, rd_nopart, rd_slL, rd_eqL, rd_eqT, rd_ltL, rd_ixL, rd_lst, rd_listrev, rd_raise, rd_for, rd_lc, rd_iList, rd_iRng1, rd_iRng2, rd_iRng3, rd_iRev, rd_iStr, rd_bm, rd_bm0, rd_append, rd_extend, rd_pop, rd_count, rd_cat, rd_rep, rd_anyI, rd_all, rd_fld, rd_sfld, rd_new, rd_yes, rd_wipe0, rd_wipe1, rd_try, rd_start, rd_cxK,
  List.map_cons, List.map_nil, List.length_cons, List.length_nil, List.cons_append, List.nil_append, List.append_nil, List.replicate_succ, List.replicate_zero, List.getElem?_cons_zero, List.getElem?_cons_succ, List.set_cons_zero, List.set_cons_succ, Option.some.injEq, V.int.injEq, V.bl.injEq, V.ref.injEq, List.cons.injEq, if_true, if_false, Bool.false_eq_true, eq_self_iff_true,
  exists_eq_left, exists_eq_left', exists_and_left, exists_and_right, exists_eq_right, exists_eq_right', exists_eq', exists_eq, true_and, and_true, and_self, exists_const, Nat.reduceAdd, Nat.reduceSub]))
local macro_rules | `(tactic| walk_at "om") => `(tactic| ((try simp only [decide_eq_true_eq, decide_eq_false_iff_not, Bool.not_eq_true', Bool.not_eq_true, Bool.not_eq_false', Bool.not_eq_false, Bool.and_eq_true, Bool.or_eq_true, Bool.or_eq_false_iff, Bool.and_eq_false_iff, Decidable.not_not, ne_eq, Nat.reduceAdd] at *); omega))
section
variable {P : Program} {w : World} {K : PySem.W.Frag} {mg : Str → Option Value} {base : Heap} {ad : Ad}
def sp_desc (K : PySem.W.Frag) : Sp := fun vs H Q _ => ∃ p b, ∃ (i k : Nat), vs = [.ref p, iv i, iv k] ∧ SqL K H p (ivs b) ∧ i < b.length ∧ ∀ H', Same H H' → Q (.bl (desc b i k)) H'
theorem sc_is_descriptor : FnScope ["image", "at", "kind"] ["image", "at", "kind"] (defScope s_is_descriptor) := ⟨rfl, rfl, rfl, by decide +kernel, rfl, by decide +kernel, by decide +kernel⟩
theorem dec_nat (a c : Nat) : decide ((a : Int) = (c : Int)) = decide (a = c) := by
  rw [Bool.eq_iff_iff]
  walk_at "om"
theorem g_is_descriptor (T : Txt K mg ad) : Good P w K mg base CX0 1 "is_descriptor" ["image", "at", "kind"] (sp_desc K) := by
  refine T.f_is_descriptor.good0 sc_is_descriptor (fun vs H Q E h => ?_) (fun f cdv A outer s H vs Q E hr h => ?_)
  · obtain ⟨z, b, i, w, rfl, _⟩ := h
    rfl
  · obtain ⟨p, b, i, k, rfl, hS, h1, q⟩ := h
    refine ⟨_, (pss_one (ps_ret (pe_and (pe_cmpR op_eqI (pe_ix ix_list (pv 0) (pv 1) (fun _ _ => rfl)) (pv 2) (nomark _)) (pe_one (pe_cmpR (op_eqT hr.units) (pe_callTy call_tuple_of rfl T.n_tuple (by decide +kernel) (pa_cons (pe_slice sl_list (pv 0) (po_some (pe_op op_add (pv 1) pe_int)) (po_some (pe_op op_add (pv 1) pe_int))) pa_nil)) (pe_tupc rfl T.c_MARK) (nomark _)))))), ?_⟩
    walk_at "rd"
    refine ⟨_, hS, _, ivs_at rfl h1, ?_⟩
    walk_at "rd"
    rw [dec_nat]
    unfold desc at q
    refine ite2 (fun c => ?_) (fun c => ?_)
    · rw [c] at q
      refine ⟨_, hS, fun l1 h1 => ?_⟩
      rw [cut_k (i := i + 1) (k := 6) (by push_cast; rfl) (by push_cast; omega)]
      refine ⟨_, .inl ⟨SqL.of upd_same, fun l2 h2 => ?_⟩⟩
      have s2 := same_upd (o := .tup (ivs ((b.drop (i + 1)).take 6))) (same_upd (o := .lst (ivs ((b.drop (i + 1)).take 6))) (Same.refl H) h1) h2
      refine ⟨_, SqT.of upd_same, _, T.c_MARK.2.sq _, ?_⟩
      walk_at "rd"
      exact q _ s2
    · rw [Bool.not_eq_true] at c
      rw [c] at q
      exact q H (Same.refl H)
def sp_whole (K : PySem.W.Frag) (ad : Ad) : Sp := fun vs H Q E => ∃ p b, vs = [.ref p] ∧ SqL K H p (ivs b) ∧ (wholeOk b = true → Q .non H) ∧ (wholeOk b = false → E (.ref ad.k_BadImage) none H)
theorem whole_iff {b : Bytes} : wholeOk b = true ↔ b.length % 2048 = 0 ∧ 16 < b.length / 2048 := by
  unfold wholeOk
  simp
theorem sc_check_whole_sectors : FnScope ["image"] ["image"] (defScope s_check_whole_sectors) := ⟨rfl, rfl, rfl, by decide +kernel, rfl, by decide +kernel, by decide +kernel⟩
theorem g_check_whole_sectors (T : Txt K mg ad) : Good P w K mg base (CXE P w) 1 "check_whole_sectors" ["image"] (sp_whole K ad) := by
  refine T.f_check_whole_sectors.goodE sc_check_whole_sectors (fun vs H Q E h => ?_) (fun f cdv A outer s H vs Q E hr h => ?_)
  · obtain ⟨z, b, rfl, _⟩ := h
    rfl
  · obtain ⟨p, b, rfl, hS, q1, q2⟩ := h
    refine ⟨_, (pss_one (ps_if (PW.pt (pw_or (pt_cmpR op_neI (pe_op op_mod (pe_callB call_len_seq rfl T.n_len (by decide +kernel) (pa_cons (pv 0) pa_nil)) (pe_const rfl T.c_SECTOR)) pe_int (nomark _)) (pw_or1 (pt_cmpR op_le (pe_op op_fdiv (pe_callB call_len_seq rfl T.n_len (by decide +kernel) (pa_cons (pv 0) pa_nil)) (pe_const rfl T.c_SECTOR)) (pe_const rfl T.c_MAIN_SECTOR) (nomark _))))) (pss_one (ps_raise rfl rfl T.e_BadImage raiseE)) pss_nil)), ?_⟩
    have no : ¬ (b.length % 2048 = 0 ∧ 16 < b.length / 2048) → E (.ref ad.k_BadImage) none H := fun z => q2 (Bool.eq_false_iff.mpr fun y => z (whole_iff.mp y))
    walk_at "rd"
    refine ⟨_, .inl hS, by decide, ?_⟩
    rw [ivs_len]
    refine ite2 (fun c => no fun z => by walk_at "om") (fun c => ⟨_, .inl hS, ⟨by decide, by decide⟩, ?_⟩)
    rw [ivs_len]
    exact ite2 (fun c => no fun z => by walk_at "om") (fun c => q1 (whole_iff.mpr (by walk_at "om")))
def sp_main (K : PySem.W.Frag) (ad : Ad) : Sp := fun vs H Q E => ∃ p b, vs = [.ref p, iv 32768] ∧ SqL K H p (ivs b) ∧ IsB b ∧ 32768 + 2048 ≤ b.length ∧ (mainOk b = true → ∀ H', Same H H' → Q .non H') ∧ (mainOk b = false → ∀ H', Same H H' → E (.ref ad.k_BadImage) none H')
theorem main_iff {b : Bytes} : mainOk b = true ↔ desc b 32768 1 = true ∧ at_ b (32768 + 7) = 0 ∧ at_ b (32768 + 881) = 1 ∧ Sn28.both2 b (32768 + 120) = some 1 ∧ Sn28.both2 b (32768 + 124) = some 1 ∧ Sn28.both2 b (32768 + 128) = some 2048 ∧ Sn28.both4 b (32768 + 80) = some (b.length / 2048) := by
  unfold mainOk
  simp only [Bool.and_eq_true, decide_eq_true_eq, and_assoc]
theorem sc_check_main : FnScope ["image", "start"] ["image", "start"] (defScope s_check_main) := ⟨rfl, rfl, rfl, by decide +kernel, rfl, by decide +kernel, by decide +kernel⟩
theorem g_check_main (T : Txt K mg ad) : Good P w K mg base (CXE P w) 3 "check_main" ["image", "start"] (sp_main K ad) := by
  refine T.f_check_main.goodE sc_check_main (fun vs H Q E h => ?_) (fun f cdv A outer s H vs Q E hr h => ?_)
  · obtain ⟨z, b, rfl, _⟩ := h
    rfl
  · obtain ⟨p, b, rfl, hS, hB, h1, q1, q2⟩ := h
    refine ⟨_, (pss_cons (ps_if (pt_not (pt_val (pe_callG (g_is_descriptor T) hr (by decide) rfl pass0 (pa_cons (pv 0) (pa_cons (pv 1) (pa_cons (pe_const rfl T.c_KIND_MAIN) pa_nil)))))) (pss_one (ps_raise rfl rfl T.e_BadImage raiseE)) pss_nil)
      (pss_cons (ps_if (PW.pt (pw_or (pt_cmpR op_neI (pe_ix ix_list (pv 0) (pe_op op_add (pv 1) pe_int) (fun _ _ => rfl)) pe_int (nomark _)) (pw_or1 (pt_cmpR op_neI (pe_ix ix_list (pv 0) (pe_op op_add (pv 1) pe_int) (fun _ _ => rfl)) pe_int (nomark _))))) (pss_one (ps_raise rfl rfl T.e_BadImage raiseE)) pss_nil)
      (pss_cons (ps_if (PW.pt (pw_or (pt_cmpR op_neI (pe_callG (g_read_both_ways T) hr (by decide) rfl passE (pa_cons (pv 0) (pa_cons (pe_op op_add (pv 1) pe_int) (pa_cons pe_int pa_nil)))) pe_int (nomark _)) (pw_or1 (pt_cmpR op_neI (pe_callG (g_read_both_ways T) hr (by decide) rfl passE (pa_cons (pv 0) (pa_cons (pe_op op_add (pv 1) pe_int) (pa_cons pe_int pa_nil)))) pe_int (nomark _))))) (pss_one (ps_raise rfl rfl T.e_BadImage raiseE)) pss_nil)
      (pss_cons (ps_if (pt_cmpR op_neI (pe_callG (g_read_both_ways T) hr (by decide) rfl passE (pa_cons (pv 0) (pa_cons (pe_op op_add (pv 1) pe_int) (pa_cons pe_int pa_nil)))) (pe_const rfl T.c_SECTOR) (nomark _)) (pss_one (ps_raise rfl rfl T.e_BadImage raiseE)) pss_nil)
      (pss_one (ps_if (pt_cmpR op_neI (pe_callG (g_read_both_ways T) hr (by decide) rfl passE (pa_cons (pv 0) (pa_cons (pe_op op_add (pv 1) pe_int) (pa_cons pe_int pa_nil)))) (pe_op op_fdiv (pe_callB call_len_seq rfl T.n_len (by decide +kernel) (pa_cons (pv 0) pa_nil)) (pe_const rfl T.c_SECTOR)) (nomark _)) (pss_one (ps_raise rfl rfl T.e_BadImage raiseE)) pss_nil)))))), ?_⟩
    have no : ∀ H', Same H H' → ¬ (desc b 32768 1 = true ∧ at_ b (32768 + 7) = 0 ∧ at_ b (32768 + 881) = 1 ∧ Sn28.both2 b (32768 + 120) = some 1 ∧ Sn28.both2 b (32768 + 124) = some 1 ∧ Sn28.both2 b (32768 + 128) = some 2048 ∧ Sn28.both4 b (32768 + 80) = some (b.length / 2048)) → E (.ref ad.k_BadImage) none H' :=
      fun H' s1 z => q2 (Bool.eq_false_iff.mpr fun y => z (main_iff.mp y)) H' s1
    walk_at "rd"
    refine ⟨p, b, 32768, 1, rfl, hS, by omega, fun H1 s1 => ?_⟩
    walk_at "rd"
    refine ite2 (fun c => no H1 s1 fun z => by rw [z.1] at c; cases c) (fun c => ?_)
    have d1 : desc b 32768 1 = true := by simpa using c
    refine ⟨_, s1.seq hS, _, ivs_at (j := 32768 + 7) rfl (by omega), ?_⟩
    walk_at "rd"
    refine ite2 (fun c => no H1 s1 fun z => by have := z.2.1; walk_at "om") (fun c => ?_)
    have d2 : at_ b (32768 + 7) = 0 := by walk_at "om"
    refine ⟨_, s1.seq hS, _, ivs_at (j := 32768 + 881) rfl (by omega), ?_⟩
    walk_at "rd"
    refine ite2 (fun c => no H1 s1 fun z => by have := z.2.2.1; walk_at "om") (fun c => ?_)
    have d3 : at_ b (32768 + 881) = 1 := by walk_at "om"
    refine ⟨p, b, 32768 + 120, 2, rfl, s1.seq hS, by decide, fun n H2 e2 s2 => ?_, fun e2 H2 s2 => no H2 (s1.trans s2) fun z => by rw [rb2 hB (by omega)] at e2; rw [e2] at z; exact nomatch z.2.2.2.1⟩
    rw [rb2 hB (by omega)] at e2
    have s2 := s1.trans s2
    walk_at "rd"
    refine ite2 (fun c => no H2 s2 fun z => by rw [e2] at z; have := Option.some.inj z.2.2.2.1; walk_at "om") (fun c => ?_)
    have d4 : Sn28.both2 b (32768 + 120) = some 1 := by rw [e2]; congr 1; walk_at "om"
    refine ⟨p, b, 32768 + 124, 2, rfl, s2.seq hS, by decide, fun n H3 e3 s3 => ?_, fun e3 H3 s3 => no H3 (s2.trans s3) fun z => by rw [rb2 hB (by omega)] at e3; rw [e3] at z; exact nomatch z.2.2.2.2.1⟩
    rw [rb2 hB (by omega)] at e3
    have s3 := s2.trans s3
    walk_at "rd"
    refine ite2 (fun c => no H3 s3 fun z => by rw [e3] at z; have := Option.some.inj z.2.2.2.2.1; walk_at "om") (fun c => ?_)
    have d5 : Sn28.both2 b (32768 + 124) = some 1 := by rw [e3]; congr 1; walk_at "om"
    refine ⟨p, b, 32768 + 128, 2, rfl, s3.seq hS, by decide, fun n H4 e4 s4 => ?_, fun e4 H4 s4 => no H4 (s3.trans s4) fun z => by rw [rb2 hB (by omega)] at e4; rw [e4] at z; exact nomatch z.2.2.2.2.2.1⟩
    rw [rb2 hB (by omega)] at e4
    have s4 := s3.trans s4
    walk_at "rd"
    refine ite2 (fun c => no H4 s4 fun z => by rw [e4] at z; have := Option.some.inj z.2.2.2.2.2.1; walk_at "om") (fun c => ?_)
    have d6 : Sn28.both2 b (32768 + 128) = some 2048 := by rw [e4]; congr 1; walk_at "om"
    refine ⟨p, b, 32768 + 80, 4, rfl, s4.seq hS, by decide, fun n H5 e5 s5 => ?_, fun e5 H5 s5 => no H5 (s4.trans s5) fun z => by rw [rb4 hB (by omega)] at e5; rw [e5] at z; exact nomatch z.2.2.2.2.2.2⟩
    rw [rb4 hB (by omega)] at e5
    have s5 := s4.trans s5
    walk_at "rd"
    refine ⟨_, .inl (s5.seq hS), ⟨by decide, by decide⟩, ?_⟩
    rw [ivs_len]
    refine ite2 (fun c => no H5 s5 fun z => by rw [e5] at z; have := Option.some.inj z.2.2.2.2.2.2; walk_at "om") (fun c => ?_)
    exact q1 (main_iff.mpr ⟨d1, d2, d3, d4, d5, d6, by rw [e5]; congr 1; walk_at "om"⟩) H5 s5
def sp_fol (K : PySem.W.Frag) (ad : Ad) : Sp := fun vs H Q E => ∃ p b, ∃ (i : Nat), vs = [.ref p, iv i] ∧ SqL K H p (ivs b) ∧ b.length % 2048 = 0 ∧ i % 2048 = 0 ∧ (fol b i = true → ∀ H', Same H H' → Q .non H') ∧ (fol b i = false → ∀ H', Same H H' → E (.ref ad.k_BadImage) none H')
theorem sc_check_followers : FnScope ["image", "start", "at"] ["image", "start"] (defScope s_check_followers) := ⟨rfl, rfl, rfl, by decide +kernel, rfl, by decide +kernel, by decide +kernel⟩
theorem desc_ne {b : Bytes} {i : Nat} (h : desc b i 0 = true) : desc b i 255 = false := by
  unfold desc at h ⊢
  rw [Bool.and_eq_true, decide_eq_true_eq] at h
  rw [decide_eq_false (by omega)]
  rfl
theorem g_check_followers (T : Txt K mg ad) : Good P w K mg base (CXE P w) 2 "check_followers" ["image", "start"] (sp_fol K ad) := by
  refine T.f_check_followers.goodE sc_check_followers (fun vs H Q E h => ?_) (fun f cdv A outer s H vs Q E hr h => ?_)
  · obtain ⟨z, b, i, rfl, _⟩ := h
    rfl
  · obtain ⟨p, b, i, rfl, hS, hl, hi, q1, q2⟩ := h
    refine ⟨_, (pss_cons (ps_set (i := 2) sc_check_followers.nd rfl (Or.inl rfl) (pv 1))
      (pss_cons (ps_while PassesOwn.leaving (PW.pt (pw_and (pt_cmpR op_lt (pv 2) (pe_callB call_len_seq rfl T.n_len (by decide +kernel) (pa_cons (pv 0) pa_nil)) (nomark _)) (pw_and1 (pt_val (pe_callG (g_is_descriptor T) hr (by decide) rfl pass0 (pa_cons (pv 0) (pa_cons (pv 2) (pa_cons (pe_const rfl T.c_KIND_BETWEEN) pa_nil)))))))) (pss_one (ps_set (i := 2) sc_check_followers.nd rfl (Or.inl rfl) (pe_op op_add (pv 2) (pe_const rfl T.c_SECTOR)))))
      (pss_one (ps_if (PW.pt (pw_or (pt_cmpR op_ge (pv 2) (pe_callB call_len_seq rfl T.n_len (by decide +kernel) (pa_cons (pv 0) pa_nil)) (nomark _)) (pw_or1 (pt_not (pt_val (pe_callG (g_is_descriptor T) hr (by decide) rfl pass0 (pa_cons (pv 0) (pa_cons (pv 2) (pa_cons (pe_const rfl T.c_KIND_LAST) pa_nil))))))))) (pss_one (ps_raise rfl rfl T.e_BadImage raiseE)) pss_nil)))), ?_⟩
    walk_at "rd"
    refine ⟨fun m σ H' => ∃ a : Nat, m = b.length - a ∧ σ = [some (.ref p), some (iv i), some (iv a)] ∧ a % 2048 = 0 ∧ fol b a = fol b i ∧ Same H H', ⟨_, i, rfl, rfl, hi, rfl, Same.refl H⟩, ?_⟩
    rintro m σ H' ⟨a, rfl, rfl, ha, hf, s1⟩
    walk_at "rd"
    refine ⟨_, .inl (s1.seq hS), ?_⟩
    rw [ivs_len]
    refine ite2 (fun c => ?_) (fun c => ?_)
    · have ca : a < b.length := by walk_at "om"
      refine ⟨p, b, a, 0, rfl, s1.seq hS, ca, fun H2 s2 => ?_⟩
      have s2 := s1.trans s2
      walk_at "rd"
      refine ite2 (fun c2 => ?_) (fun c2 => ?_)
      · refine ⟨fun σ' H'' => σ' = [some (.ref p), some (iv i), some (iv (a + 2048))] ∧ Same H H'', ?_, by push_cast; rfl, s2⟩
        rintro σ' H'' ⟨rfl, s3⟩
        refine ⟨b.length - (a + 2048), by omega, a + 2048, rfl, rfl, by omega, ?_, s3⟩
        have e := fol_step (b := b) (p := a) (by omega)
        rw [← hf, e, c2, desc_ne c2]
        simp
      · refine ⟨_, .inl (s2.seq hS), ?_⟩
        rw [ivs_len, if_neg (by walk_at "om")]
        refine ⟨p, b, a, 255, rfl, s2.seq hS, ca, fun H3 s3 => ?_⟩
        have s3 := s2.trans s3
        have e : fol b i = desc b a 255 := by
          rw [← hf, fol_step (by omega)]
          rw [Bool.not_eq_true] at c2
          rw [c2]
          simp
        walk_at "rd"
        refine ite2 (fun c3 => q2 (by rw [e]; simpa using c3) H3 s3) (fun c3 => q1 (by rw [e]; simpa using c3) H3 s3)
    · refine ⟨_, .inl (s1.seq hS), ?_⟩
      rw [ivs_len, if_pos (by walk_at "om")]
      refine q2 ?_ H' s1
      rw [← hf]
      exact fol_end (by walk_at "om")
end
end Dx
set_option linter.all false
set_option maxRecDepth 100000
set_option maxHeartbeats 4000000
namespace Dx
open PySem PySem.Spec PyProof.Rows L2 MM
open Sn28 (Rec Bytes at_)
local macro_rules | `(tactic| walk_at "rd") => `(tactic| (try simp only [rd_var, rd_c, rd_op, rd_un, rd_i0, rd_i, rd_u, rd_seq, rd_next, rd_asg, rd_name, rd_ret, rd_drop, rd_ifS, rd_test, rd_b, rd_chain, rd_and, rd_or, rd_not, rd_andV, rd_orV, rd_notV, rd_if, rd_cons, rd_nil, rd_call, rd_cb, rd_sl, rd_part, rd_nopart, rd_slL, rd_eqL, rd_eqT, rd_ltL, rd_ixL, rd_lst, rd_listrev, rd_raise, rd_for, rd_lc, rd_iList, rd_iRng1, rd_iRng2, rd_iRng3, rd_iRev, rd_iStr, rd_bm, rd_bm0, rd_append, rd_extend, rd_pop, rd_count, rd_cat, rd_rep, rd_anyI, rd_all, rd_fld, rd_sfld, rd_new, rd_yes, rd_wipe0, rd_wipe1, rd_try, rd_start, rd_cxK,
  List.map_cons, List.map_nil, List.length_cons, List.length_nil, List.cons_append, List.nil_append, List.append_nil, List.replicate_succ, List.replicate_zero, List.getElem?_cons_zero, List.getElem?_cons_succ, List.set_cons_zero, List.set_cons_succ, Option.some.injEq, V.int.injEq, V.bl.injEq, V.ref.injEq, List.cons.injEq, if_true, if_false, Bool.false_eq_true, eq_self_iff_true,
  exists_eq_left, exists_eq_left', exists_and_left, exists_and_right, exists_eq_right, exists_eq_right', exists_eq', exists_eq, true_and, and_true, and_self, exists_const, Nat.reduceAdd, Nat.reduceSub]))
local macro_rules | `(tactic| walk_at "om") => `(tactic| ((try simp only [decide_eq_true_eq, decide_eq_false_iff_not, Bool.not_eq_true', Bool.not_eq_true, Bool.not_eq_false', Bool.not_eq_false, Bool.and_eq_true, Bool.or_eq_true, Bool.or_eq_false_iff, Bool.and_eq_false_iff, Decidable.not_not, ne_eq, Nat.reduceAdd] at *); omega))
section
variable {P : Program} {w : World} {K : PySem.W.Frag} {mg : Str → Option Value} {base : Heap} {ad : Ad}
def sp_top (K : PySem.W.Frag) (ad : Ad) : Sp := fun vs H Q E => ∃ p b, vs = [.ref p, iv (32768 + 156)] ∧ SqL K H p (ivs b) ∧ IsB b ∧ 32768 + 2048 ≤ b.length ∧ Out H (topP b) (fun r H' => ∀ q, RecAt ad H' q r → Q (.ref q) H') E ad.k_BadImage
theorem sc_read_top : FnScope ["image", "at", "top"] ["image", "at"] (defScope s_read_top) := ⟨rfl, rfl, rfl, by decide +kernel, rfl, by decide +kernel, by decide +kernel⟩
theorem g_read_top (T : Txt K mg ad) : Good P w K mg base (CXE P w) 5 "read_top" ["image", "at"] (sp_top K ad) := by
  refine T.f_read_top.goodE sc_read_top (fun vs H Q E h => ?_) (fun f cdv A outer s H vs Q E hr h => ?_)
  · obtain ⟨z, b, rfl, _⟩ := h
    rfl
  · obtain ⟨p, b, rfl, hS, hB, h1, q1, q2⟩ := h
    refine ⟨_, (pss_cons (ps_set (i := 2) sc_read_top.nd rfl (Or.inl rfl) (pe_callG (g_read_record T) hr (by decide) rfl passE (pa_cons (pv 0) (pa_cons (pv 1) (pa_cons (pe_op op_add (pv 1) (pe_const rfl T.c_TOP_LENGTH)) pa_nil)))))
      (pss_cons (ps_if (PW.pt (pw_or (pt_not (pt_val (pe_fld (pv 2) rfl))) (pw_or1 (pt_cmpR (op_neT hr.units) (pe_callTy call_tuple_of rfl T.n_tuple (by decide +kernel) (pa_cons (pe_fld (pv 2) rfl) pa_nil)) (pe_tupc rfl T.c_TOP_NAME) (nomark _))))) (pss_one (ps_raise rfl rfl T.e_BadImage raiseE)) pss_nil)
      (pss_one (ps_ret (pv 2))))), ?_⟩
    walk_at "rd"
    refine ⟨p, b, 32768 + 156, 32768 + 156 + 34, rfl, hS, hB, by omega, by omega, fun r H1 e1 s1 q hq => ?_, fun e1 H1 s1 => q2 (by unfold topP; rw [e1]; rfl) H1 s1⟩
    walk_at "rd"
    obtain ⟨dx, n, hp, hn, _⟩ := id hq
    refine ⟨_, dx, _, hp, T.k_Record.cl, T.k_Record.na _ (.tail _ (.tail _ (.head _))), _, rfs_folder r n, ?_⟩
    walk_at "rd"
    have et : topP b = if r.folder = true ∧ r.name = [0] then some r else none := by unfold topP; rw [e1]; rfl
    refine ite2 (fun c => q2 ?_ H1 s1) (fun c => ?_)
    · rw [et, if_neg]
      intro z
      rw [z.1] at c
      cases c
    · have c1 : r.folder = true := by simpa using c
      refine ⟨_, _, _, hp, T.k_Record.cl, T.k_Record.na _ (.tail _ (.tail _ (.tail _ (.head _)))), _, rfs_name r n, ?_⟩
      walk_at "rd"
      refine ⟨_, .inl ⟨SqL.of hn, fun l hl => ?_⟩⟩
      have s2 := same_upd (o := .tup (ivs r.name)) (Same.refl H1) hl
      refine ⟨_, SqT.of upd_same, _, T.c_TOP_NAME.2.sq _, ite2 (fun c => q2 ?_ _ (s1.trans s2)) (fun c => q1 r _ ?_ (s1.trans s2) q (hq.same s2))⟩
      · rw [et, if_neg]
        intro z
        rw [z.2] at c
        exact absurd c (by decide)
      · rw [et, if_pos ⟨c1, by simpa using c⟩]
def mfs (size lo hi : Nat) (q n : Addr) : List (Str × V) := [("table_size", iv size), ("lower_table", iv lo), ("higher_table", iv hi), ("top", .ref q), ("name", .ref n)]
structure MainAt (ad : Ad) (H : Hp) (p : Addr) (b : Bytes) (size : Nat) (top : Rec) : Prop where
  ex : ∃ dx q n, H p = some (.ins ad.k_Main dx (mfs size (Sn28.low4 b (32768 + 140)) (Sn28.high4 b (32768 + 148)) q n)) ∧ RecAt ad H q top ∧ H n = some (.lst (ivs (nameOf b)))
theorem MainAt.same {H H' : Hp} {p : Addr} {b : Bytes} {size : Nat} {top : Rec} (h : MainAt ad H p b size top) (s : Same H H') : MainAt ad H' p b size top := by
  obtain ⟨dx, q, n, h1, h2, h3⟩ := h.ex
  exact ⟨dx, q, n, s _ _ h1, h2.same s, s _ _ h3⟩
theorem mfs_size (a b c : Nat) (q n : Addr) : (mfs a b c q n).lookup ("table_size" : Str) = some (iv a) := rfl
theorem mfs_lower (a b c : Nat) (q n : Addr) : (mfs a b c q n).lookup ("lower_table" : Str) = some (iv b) := rfl
theorem mfs_higher (a b c : Nat) (q n : Addr) : (mfs a b c q n).lookup ("higher_table" : Str) = some (iv c) := rfl
theorem mfs_top (a b c : Nat) (q n : Addr) : (mfs a b c q n).lookup ("top" : Str) = some (.ref q) := rfl
theorem mfs_name (a b c : Nat) (q n : Addr) : (mfs a b c q n).lookup ("name" : Str) = some (.ref n) := rfl
theorem sc_Main : FnScope ["self", "table_size", "lower_table", "higher_table", "top", "name"] ["self", "table_size", "lower_table", "higher_table", "top", "name"] (defScope s_Main) := ⟨rfl, rfl, rfl, by decide +kernel, rfl, by decide +kernel, by decide +kernel⟩
theorem m_Main (T : Txt K mg ad) : MkG P w K mg base 1 "Main" ad.k_Main ["self", "table_size", "lower_table", "higher_table", "top", "name"] (spNew ad.k_Main ["table_size", "lower_table", "higher_table", "top", "name"]) := by
  obtain ⟨f, fd, M, F, b⟩ := T.k_Main.mks
  have na := T.k_Main.na
  refine ⟨f, fd, M, F.ok sc_Main (fun vs H Q E h => ?_) (fun cdv A outer s H vs Q E hr h => ?_), b, T.k_Main.mgx⟩
  · obtain ⟨p, dx, ws, rfl, hl, _⟩ := h
    rw [List.length_cons, hl]
    rfl
  · obtain ⟨p, dx, ws, rfl, hl, hp, q⟩ := h
    match ws, hl with
    | [a1, a2, a3, a4, a5], _ =>
      refine ⟨_, (pss_cons (ps_fld (pv 0) (pv 1) rfl)
      (pss_cons (ps_fld (pv 0) (pv 2) rfl)
      (pss_cons (ps_fld (pv 0) (pv 3) rfl)
      (pss_cons (ps_fld (pv 0) (pv 4) rfl)
      (pss_one (ps_fld (pv 0) (pv 5) rfl)))))), ?_⟩
      walk_at "rd"
      refine ⟨_, _, _, hp, T.k_Main.cl, na _ (.head _), by decide, _, _, _, upd_same, T.k_Main.cl, na _ (.tail _ (.head _)), (by show 1 < 1000; decide), _, _, _, upd_same, T.k_Main.cl, na _ (.tail _ (.tail _ (.head _))), (by show 2 < 1000; decide),
        _, _, _, upd_same, T.k_Main.cl, na _ (.tail _ (.tail _ (.tail _ (.head _)))), (by show 3 < 1000; decide), _, _, _, upd_same, T.k_Main.cl, na _ (.tail _ (.tail _ (.tail _ (.tail _ (.head _))))), (by show 4 < 1000; decide), ?_⟩
      rw [upd_twice, upd_twice, upd_twice, upd_twice]
      exact q
def mainP (b : Bytes) : Option (Nat × Rec) := if wholeOk b = true then if mainOk b = true then if fol b (32768 + 2048) = true then (Sn28.both4 b (32768 + 132)).bind fun size => (topP b).map fun top => (size, top) else none else none else none
def sp_rmain (K : PySem.W.Frag) (ad : Ad) : Sp := fun vs H Q E => ∃ p b, vs = [.ref p] ∧ SqL K H p (ivs b) ∧ IsB b ∧ Out H (mainP b) (fun x H' => ∀ q, MainAt ad H' q b x.1 x.2 → Q (.ref q) H') E ad.k_BadImage
theorem hf4 {b : Bytes} {i : Nat} (h : i + 4 ≤ b.length) : hf ((b.drop i).take 4) = Sn28.high4 b i := by
  rw [cut4 h]
  unfold hf Sn28.high4 Sn28.high2
  simp only [List.foldl_cons, List.foldl_nil, Nat.add_assoc, Nat.reduceAdd]
  omega
theorem lf4 {b : Bytes} {i : Nat} (h : i + 4 ≤ b.length) : hf ((b.drop i).take 4).reverse = Sn28.low4 b i := by
  rw [cut4 h]
  unfold hf Sn28.low4 Sn28.low2
  simp only [List.reverse_cons, List.reverse_nil, List.nil_append, List.cons_append, List.foldl_cons, List.foldl_nil, Nat.add_assoc, Nat.reduceAdd]
  omega
theorem sc_read_main : FnScope ["image", "start", "table_size", "lower_table", "higher_table", "top", "name"] ["image"] (defScope s_read_main) := ⟨rfl, rfl, rfl, by decide +kernel, rfl, by decide +kernel, by decide +kernel⟩
theorem g_read_main (T : Txt K mg ad) : Good P w K mg base (CXE P w) 6 "read_main" ["image"] (sp_rmain K ad) := by
  refine T.f_read_main.goodE sc_read_main (fun vs H Q E h => ?_) (fun f cdv A outer s H vs Q E hr h => ?_)
  · obtain ⟨z, b, rfl, _⟩ := h
    rfl
  · obtain ⟨p, b, rfl, hS, hB, q1, q2⟩ := h
    refine ⟨_, (pss_cons (ps_expr (pe_callG (g_check_whole_sectors T) hr (by decide) rfl passE (pa_cons (pv 0) pa_nil)))
      (pss_cons (ps_set (i := 1) sc_read_main.nd rfl (Or.inl rfl) (pe_op op_mul (pe_const rfl T.c_MAIN_SECTOR) (pe_const rfl T.c_SECTOR)))
      (pss_cons (ps_expr (pe_callG (g_check_main T) hr (by decide) rfl passE (pa_cons (pv 0) (pa_cons (pv 1) pa_nil))))
      (pss_cons (ps_expr (pe_callG (g_check_followers T) hr (by decide) rfl passE (pa_cons (pv 0) (pa_cons (pe_op op_add (pv 1) (pe_const rfl T.c_SECTOR)) pa_nil))))
      (pss_cons (ps_set (i := 2) sc_read_main.nd rfl (Or.inl rfl) (pe_callG (g_read_both_ways T) hr (by decide) rfl passE (pa_cons (pv 0) (pa_cons (pe_op op_add (pv 1) pe_int) (pa_cons pe_int pa_nil)))))
      (pss_cons (ps_set (i := 3) sc_read_main.nd rfl (Or.inl rfl) (pe_callG (g_read_lower_first T) hr (by decide) rfl pass0 (pa_cons (pe_slice sl_list (pv 0) (po_some (pe_op op_add (pv 1) pe_int)) (po_some (pe_op op_add (pv 1) pe_int))) pa_nil)))
      (pss_cons (ps_set (i := 4) sc_read_main.nd rfl (Or.inl rfl) (pe_callG (g_read_higher_first T) hr (by decide) rfl pass0 (pa_cons (pe_slice sl_list (pv 0) (po_some (pe_op op_add (pv 1) pe_int)) (po_some (pe_op op_add (pv 1) pe_int))) pa_nil)))
      (pss_cons (ps_set (i := 5) sc_read_main.nd rfl (Or.inl rfl) (pe_callG (g_read_top T) hr (by decide) rfl passE (pa_cons (pv 0) (pa_cons (pe_op op_add (pv 1) (pe_const rfl T.c_TOP_AT)) pa_nil))))
      (pss_cons (ps_set (i := 6) sc_read_main.nd rfl (Or.inl rfl) (pe_slice sl_list (pv 0) (po_some (pe_op op_add (pv 1) pe_int)) (po_some (pe_op op_add (pv 1) pe_int))))
      (pss_one (ps_ret (pe_makeG (m_Main T) hr (by decide) rfl (pa_cons (pv 2) (pa_cons (pv 3) (pa_cons (pv 4) (pa_cons (pv 5) (pa_cons (pv 6) pa_nil))))))))))))))))), ?_⟩
    walk_at "rd"
    refine ⟨p, b, rfl, hS, fun c1 => ?_, fun c1 => q2 (by unfold mainP; rw [if_neg (by rw [c1]; decide)]) H (Same.refl H)⟩
    walk_at "rd"
    obtain ⟨w1, w2⟩ := whole_iff.mp c1
    have hl : 32768 + 2048 ≤ b.length := by omega
    refine ⟨.inl ⟨by decide, by decide⟩, p, b, rfl, hS, hB, hl, fun c2 H1 s1 => ?_, fun c2 H1 s1 => q2 (by unfold mainP; rw [if_pos c1, if_neg (by rw [c2]; decide)]) H1 s1⟩
    walk_at "rd"
    refine ⟨p, b, 32768 + 2048, rfl, s1.seq hS, w1, rfl, fun c3 H2 s2 => ?_, fun c3 H2 s2 => q2 (by unfold mainP; rw [if_pos c1, if_pos c2, if_neg (by rw [c3]; decide)]) H2 (s1.trans s2)⟩
    have s2 := s1.trans s2
    have e0 : mainP b = (Sn28.both4 b (32768 + 132)).bind fun size => (topP b).map fun top => (size, top) := by unfold mainP; rw [if_pos c1, if_pos c2, if_pos c3]
    walk_at "rd"
    refine ⟨p, b, 32768 + 132, 4, rfl, s2.seq hS, by decide, fun size H3 e3 s3 => ?_, fun e3 H3 s3 => q2 ?_ H3 (s2.trans s3)⟩
    · have s3 := s2.trans s3
      rw [rb4 hB (by omega)] at e3
      walk_at "rd"
      refine ⟨_, s3.seq hS, fun l1 h1 => ?_⟩
      rw [show cutV (ivs b) (some (16 * 2048 + 140)) (some (16 * 2048 + 144)) = ivs ((b.drop (32768 + 140)).take 4) from cut_k rfl rfl]
      refine ⟨l1, _, rfl, SqL.of upd_same, fun H4 s4 => ?_⟩
      have s4 := (same_upd s3 h1).trans s4
      rw [lf4 (by omega)]
      walk_at "rd"
      refine ⟨_, s4.seq hS, fun l2 h2 => ?_⟩
      rw [show cutV (ivs b) (some (16 * 2048 + 148)) (some (16 * 2048 + 152)) = ivs ((b.drop (32768 + 148)).take 4) from cut_k rfl rfl]
      refine ⟨l2, _, rfl, SqL.of upd_same, ?_⟩
      have s5 := same_upd (o := .lst (ivs ((b.drop (32768 + 148)).take 4))) s4 h2
      rw [hf4 (by omega)]
      walk_at "rd"
      refine ⟨p, b, rfl, s5.seq hS, hB, hl, fun r H6 e6 s6 q hq => ?_, fun e6 H6 s6 => q2 ?_ H6 (s5.trans s6)⟩
      · have s6 := s5.trans s6
        walk_at "rd"
        refine ⟨_, s6.seq hS, fun l3 h3 => ?_⟩
        rw [show cutV (ivs b) (some (16 * 2048 + 40)) (some (16 * 2048 + 72)) = ivs ((b.drop (32768 + 40)).take 32) from cut_k rfl rfl]
        have s7 := same_upd (o := .lst (ivs ((b.drop (32768 + 40)).take 32))) (Same.refl H6) h3
        intro x dx nx nd ne
        have s8 := same_upd (o := .own x) (Same.refl _) nd
        have s9 : Same _ (upd (upd (upd H6 l3 (.lst (ivs ((b.drop (32768 + 40)).take 32)))) dx (.own x)) x (.ins ad.k_Main dx (mfs size (Sn28.low4 b (32768 + 140)) (Sn28.high4 b (32768 + 148)) q l3))) := same_upd (Same.refl _) (by rw [upd_ne (Ne.symm ne)]; exact nx)
        refine q1 (size, r) _ ?_ (s6.trans (s7.trans (s8.trans s9))) x ⟨dx, q, l3, upd_same, hq.same (s7.trans (s8.trans s9)), s9 _ _ (s8 _ _ upd_same)⟩
        rw [e0, e3, e6]
        rfl
      · rw [e0, e3, e6]
        rfl
    · rw [rb4 hB (by omega)] at e3
      rw [e0, e3]
      rfl
end
end Dx
set_option linter.all false
set_option maxRecDepth 100000
set_option maxHeartbeats 4000000
namespace Dx
open PySem PySem.Spec PyProof.Rows L2 MM
open Sn28 (Rec Bytes at_)
local macro_rules | `(tactic| walk_at "rd") => `(tactic| (try simp only [rd_var, rd_c, rd_op, rd_un, rd_i0, rd_i, rd_u, rd_seq, rd_next, rd_asg, rd_name, rd_ret, rd_drop, rd_ifS, rd_test, rd_b, rd_chain, rd_and, rd_or, rd_not, rd_andV, rd_orV, rd_notV, rd_if, rd_cons, rd_nil, rd_call, rd_cb, rd_sl, rd_part, rd_nopart, rd_slL, rd_eqL, rd_eqT, rd_ltL, rd_ixL, rd_lst, rd_listrev, rd_raise, rd_for, rd_lc, rd_iList, rd_iRng1, rd_iRng2, rd_iRng3, rd_iRev, rd_iStr, rd_bm, rd_bm0, rd_append, rd_extend, rd_pop, rd_count, rd_cat, rd_rep, rd_anyI, rd_all, rd_fld, rd_sfld, rd_new, rd_yes, rd_wipe0, rd_wipe1, rd_try, rd_start, rd_cxK,
  List.map_cons, List.map_nil, List.length_cons, List.length_nil, List.cons_append, List.nil_append, List.append_nil, List.replicate_succ, List.replicate_zero, List.getElem?_cons_zero, List.getElem?_cons_succ, List.set_cons_zero, List.set_cons_succ, Option.some.injEq, V.int.injEq, V.bl.injEq, V.ref.injEq, List.cons.injEq, if_true, if_false, Bool.false_eq_true, eq_self_iff_true,
  exists_eq_left, exists_eq_left', exists_and_left, exists_and_right, exists_eq_right, exists_eq_right', exists_eq', exists_eq, true_and, and_true, and_self, exists_const, Nat.reduceAdd, Nat.reduceSub]))
local macro_rules | `(tactic| walk_at "om") => `(tactic| ((try simp only [decide_eq_true_eq, decide_eq_false_iff_not, Bool.not_eq_true', Bool.not_eq_true, Bool.not_eq_false', Bool.not_eq_false, Bool.and_eq_true, Bool.or_eq_true, Bool.or_eq_false_iff, Bool.and_eq_false_iff, Decidable.not_not, ne_eq, Nat.reduceAdd] at *); omega))
section
variable {P : Program} {w : World} {K : PySem.W.Frag} {mg : Str → Option Value} {base : Heap} {ad : Ad}
def sp_sign : Sp := fun vs H Q _ => ∃ z : Nat, vs = [iv z] ∧ Q (.bl (Sn28.dchar z)) H
theorem sc_is_sign : FnScope ["value", "is_letter", "is_digit"] ["value"] (defScope s_is_sign) := ⟨rfl, rfl, rfl, by decide +kernel, rfl, by decide +kernel, by decide +kernel⟩
theorem g_is_sign (T : Txt K mg ad) : Good P w K mg base CX0 1 "is_sign" ["value"] sp_sign := by
  refine T.f_is_sign.good0 sc_is_sign (fun vs H Q E h => ?_) (fun f cdv A outer s H vs Q E hr h => ?_)
  · obtain ⟨z, rfl, _⟩ := h
    rfl
  · obtain ⟨z, rfl, q⟩ := h
    refine ⟨_, (pss_cons (ps_set (i := 1) sc_is_sign.nd rfl (Or.inl rfl) (pe_chain op_le op_le pe_int (pv 0) pe_int))
      (pss_cons (ps_set (i := 2) sc_is_sign.nd rfl (Or.inl rfl) (pe_chain op_le op_le pe_int (pv 0) pe_int))
      (pss_one (ps_ret (pe_or (pv 1) (pe_or (pv 2) (pe_one (pe_cmpR op_eqI (pv 0) pe_int (nomark _))))))))), ?_⟩
    rw [← MM.is_sign] at q
    walk_at "rd"
    have e1 : decide ((65 : Int) ≤ z) = decide (65 ≤ z) := by rw [Bool.eq_iff_iff]; walk_at "om"
    have e2 : decide ((48 : Int) ≤ z) = decide (48 ≤ z) := by rw [Bool.eq_iff_iff]; walk_at "om"
    have e3 : decide ((z : Int) ≤ 90) = decide (z ≤ 90) := by rw [Bool.eq_iff_iff]; walk_at "om"
    have e4 : decide ((z : Int) ≤ 57) = decide (z ≤ 57) := by rw [Bool.eq_iff_iff]; walk_at "om"
    have e5 : decide ((z : Int) = 95) = decide (z = 95) := by rw [Bool.eq_iff_iff]; walk_at "om"
    rw [e1, e2, e3, e4, e5]
    by_cases c1 : 65 ≤ z <;> by_cases c2 : z ≤ 90 <;> by_cases c3 : 48 ≤ z <;> by_cases c4 : z ≤ 57 <;> simp [c1, c2, c3, c4] at q ⊢ <;> exact q
def sp_fname (K : PySem.W.Frag) (r : Bytes → Bool) : Sp := fun vs H Q _ => ∃ p b, vs = [.ref p] ∧ SqL K H p (ivs b) ∧ b.length ≤ 255 ∧ ∀ H', Same H H' → Q (.bl (r b)) H'
theorem sc_is_folder_name : FnScope ["name", "value"] ["name"] (defScope s_is_folder_name) := ⟨rfl, rfl, rfl, by decide +kernel, rfl, by decide +kernel, by decide +kernel⟩
theorem g_is_folder_name (T : Txt K mg ad) : Good P w K mg base CX0 2 "is_folder_name" ["name"] (sp_fname K Sn28.folderName) := by
  refine T.f_is_folder_name.good0 sc_is_folder_name (fun vs H Q E h => ?_) (fun f cdv A outer s H vs Q E hr h => ?_)
  · obtain ⟨z, b, rfl, _⟩ := h
    rfl
  · obtain ⟨p, b, rfl, hS, hb, q⟩ := h
    refine ⟨_, (pss_one (ps_ret (pe_and (pe_chain op_le op_le pe_int (pe_callB call_len_seq rfl T.n_len (by decide +kernel) (pa_cons (pv 0) pa_nil)) (pe_const rfl T.c_MOST_IN_FOLDER_NAME)) (pe_one (pe_callB (cr_all rfl) rfl T.n_all (by decide +kernel) (pa_cons (pe_lc rfl sc_is_folder_name.nd (pi_list (pv 0)) (blkOk_by (own := [("value", 1)]) (by rfl)) (fun _ _ _ _ _ => pg_name (i := 1) sc_is_folder_name.nd rfl (Or.inl rfl)) (fun _ _ _ _ _ => pts_nil) (fun _ _ _ _ _ => (pe_callG (g_is_sign T) hr (by decide) rfl pass0 (pa_cons (pv 1) pa_nil)))) pa_nil)))))), ?_⟩
    rw [folderName_eq] at q
    walk_at "rd"
    refine ⟨_, .inl hS, ?_⟩
    rw [ivs_len]
    refine ite2 (fun c1 => ite2 (fun c2 => ⟨⟨_, hS⟩, LcJ.list (xs := ivs b) fun D hD => ⟨fun i H' => Same H H' ∧ H' D = some (.lst ((b.take i).map fun z => .bl (Sn28.dchar z))), ⟨same_upd (Same.refl H) hD, upd_same⟩, fun i H' _ h => h.1.seq hS, ?_, ?_⟩⟩) (fun c2 => ?_)) (fun c1 => ?_)
    · rintro i x H' hx ⟨s1, e1⟩
      obtain ⟨n, hn, rfl⟩ := ivs_of_get hx
      walk_at "rd"
      refine ⟨n, rfl, _, e1, ?_, same_put s1 hD, ?_⟩
      · rw [List.length_map, List.length_take]
        exact Nat.lt_of_le_of_lt (Nat.min_le_right _ _) (Nat.lt_of_le_of_lt hb (by decide))
      · rw [upd_same, take_snoc hn, List.map_append]
        rfl
    · rintro H' ⟨s1, e1⟩
      rw [ivs_len, List.take_length] at e1
      refine ⟨D, rfl, b.map Sn28.dchar, SqL.of (by rw [e1, List.map_map]; rfl), ?_⟩
      have e : ((b.map Sn28.dchar).all id) = (decide (1 ≤ b.length ∧ b.length ≤ 31) && b.all Sn28.dchar) := by
        rw [decide_eq_true (by walk_at "om"), List.all_map]
        rfl
      rw [e]
      exact q H' s1
    · have e : false = (decide (1 ≤ b.length ∧ b.length ≤ 31) && b.all Sn28.dchar) := by
        rw [decide_eq_false (by walk_at "om")]
        rfl
      rw [e]
      exact q H (Same.refl H)
    · have e : false = (decide (1 ≤ b.length ∧ b.length ≤ 31) && b.all Sn28.dchar) := by
        rw [decide_eq_false (by walk_at "om")]
        rfl
      rw [e]
      exact q H (Same.refl H)
theorem cut_last2 {b : Bytes} : cutV (ivs b) (some (-2)) none = ivs (b.drop (b.length - 2)) := by
  unfold cutV
  have e : HT.sIx (ivs b).length 0 (some (-2)) = b.length - 2 := by
    show (if (-2 : Int) < 0 then ((-2 : Int) + ((ivs b).length : Int)).toNat else min (-2 : Int).toNat (ivs b).length) = _
    rw [if_pos (by decide), ivs_len]
    omega
  rw [e, HT.sIx_none, ivs_len]
  unfold ivs
  rw [List.map_drop]
  exact List.take_of_length_le (by simp)
theorem cut_front2 {b : Bytes} : cutV (ivs b) none (some (-2)) = ivs (b.take (b.length - 2)) := by
  unfold cutV
  have e : HT.sIx (ivs b).length (ivs b).length (some (-2)) = b.length - 2 := by
    show (if (-2 : Int) < 0 then ((-2 : Int) + ((ivs b).length : Int)).toNat else min (-2 : Int).toNat (ivs b).length) = _
    rw [if_pos (by decide), ivs_len]
    omega
  rw [e, HT.sIx_none, Nat.sub_zero, List.drop_zero]
  unfold ivs
  rw [List.map_take]
theorem count_cast (b : Bytes) (z : Nat) : (b.map fun (n : Nat) => (n : Int)).count (z : Int) = b.count z := by
  induction b with
  | nil => rfl
  | cons a r ih =>
    rw [List.map_cons, List.count_cons, List.count_cons, ih]
    congr 1
    by_cases h : a = z
    · subst h; simp
    · simp [h]
      intro q
      omega
theorem filter_snoc {α : Type} (p : α → Bool) {l : List α} {i : Nat} {x : α} (h : l[i]? = some x) : (l.take (i + 1)).filter p = (l.take i).filter p ++ if p x = true then [x] else [] := by
  rw [take_snoc h, List.filter_append]
  congr 1
  by_cases c : p x = true
  · rw [if_pos c, List.filter_cons, if_pos c, List.filter_nil]
  · rw [if_neg c, List.filter_cons, if_neg c, List.filter_nil]
theorem sc_is_file_name : FnScope ["name", "front", "signs", "has_one_point", "value"] ["name"] (defScope s_is_file_name) := ⟨rfl, rfl, rfl, by decide +kernel, rfl, by decide +kernel, by decide +kernel⟩
theorem g_is_file_name (T : Txt K mg ad) : Good P w K mg base CX0 2 "is_file_name" ["name"] (sp_fname K fileOk) := by
  refine T.f_is_file_name.good0 sc_is_file_name (fun vs H Q E h => ?_) (fun f cdv A outer s H vs Q E hr h => ?_)
  · obtain ⟨z, b, rfl, _⟩ := h
    rfl
  · obtain ⟨p, b, rfl, hS, hb, q⟩ := h
    refine ⟨_, (pss_cons (ps_if (pt_cmpR (op_neT hr.units) (pe_callTy call_tuple_of rfl T.n_tuple (by decide +kernel) (pa_cons (pe_slice sl_list (pv 0) (po_some (pe_un un_neg pe_int)) po_none) pa_nil)) (pe_tupc rfl T.c_VERSION) (nomark _)) (pss_one (ps_ret pe_bl)) pss_nil)
      (pss_cons (ps_set (i := 1) sc_is_file_name.nd rfl (Or.inl rfl) (pe_slice sl_list (pv 0) po_none (po_some (pe_un un_neg pe_int))))
      (pss_cons (ps_setLc (i := 2) rfl sc_is_file_name.nd rfl rfl (by rfl) (pi_list (pv 1)) (blkOk_by (own := [("value", 4)]) (by rfl)) (fun _ _ _ _ _ => pg_name (i := 4) sc_is_file_name.nd rfl (Or.inl rfl)) (fun _ _ _ _ _ => (pts_one (pt_val (pe_callG (g_is_sign T) hr (by decide) rfl pass0 (pa_cons (pv 4) pa_nil))))) (fun _ _ _ _ _ => (pv 4)))
      (pss_cons (ps_set (i := 3) sc_is_file_name.nd rfl (Or.inl rfl) (pe_and (pe_cmpR op_eqI (pe_bm PySem.F.plainAttrs_list PySem.F.slot_list_count PySem.F.type_list_count mt_countI (pv 1) (pa_cons (pe_const rfl T.c_POINT) pa_nil)) pe_int (nomark _)) (pe_one (pe_cmpR op_eqI (pe_callB call_len_seq rfl T.n_len (by decide +kernel) (pa_cons (pv 1) pa_nil)) (pe_op op_add (pe_callB call_len_seq rfl T.n_len (by decide +kernel) (pa_cons (pv 2) pa_nil)) pe_int) (nomark _)))))
      (pss_one (ps_ret (pe_and (pv 3) (pe_one (pe_chain op_le op_le pe_int (pe_callB call_len_seq rfl T.n_len (by decide +kernel) (pa_cons (pv 2) pa_nil)) (pe_const rfl T.c_MOST_IN_FILE_NAME)))))))))), ?_⟩
    walk_at "rd"
    refine ⟨_, hS, fun l1 h1 => ⟨_, .inl ⟨SqL.of upd_same, fun l2 h2 => ?_⟩⟩⟩
    rw [cut_last2] at h2 ⊢
    have s1 := same_upd (o := .tup (ivs (b.drop (b.length - 2)))) (same_upd (o := .lst (ivs (b.drop (b.length - 2)))) (Same.refl H) h1) h2
    refine ⟨_, SqT.of upd_same, _, T.c_VERSION.2.sq _, ite2 (fun c => ?_) (fun c => ⟨_, s1.seq hS, fun l3 h3 => ?_⟩)⟩
    · have e : false = fileOk b := by
        unfold fileOk
        rw [decide_eq_false (by walk_at "om")]
        rfl
      rw [e]
      exact q _ s1
    · have c0 : b.drop (b.length - 2) = [59, 49] := by walk_at "om"
      rw [cut_front2]
      have s2 := same_upd (o := .lst (ivs (b.take (b.length - 2)))) s1 h3
      have e3 : ∀ H', Same (upd (upd (upd H l1 (.lst (ivs (b.drop (b.length - 2))))) l2 (.tup (ivs (b.drop (b.length - 2))))) l3 (.lst (ivs (b.take (b.length - 2))))) H' → SqL K H' l3 (ivs (b.take (b.length - 2))) := fun H' s => SqL.of (s _ _ upd_same)
      refine ⟨⟨_, e3 _ (Same.refl _)⟩, LcJ.list (xs := ivs (b.take (b.length - 2))) fun D hD => ⟨fun i H' => Same (upd (upd (upd H l1 (.lst (ivs (b.drop (b.length - 2))))) l2 (.tup (ivs (b.drop (b.length - 2))))) l3 (.lst (ivs (b.take (b.length - 2))))) H' ∧ H' D = some (.lst (ivs (((b.take (b.length - 2)).take i).filter Sn28.dchar))),
        ⟨same_upd (Same.refl _) hD, upd_same⟩, fun i H' _ h => e3 H' h.1, ?_, ?_⟩⟩
      · rintro i x H' hx ⟨s4, e4⟩
        obtain ⟨n, hn, rfl⟩ := ivs_of_get hx
        walk_at "rd"
        refine ⟨n, rfl, _, rfl, ite2 (fun c => ?_) (fun c => ?_)⟩
        · walk_at "rd"
          refine ⟨_, e4, ?_, same_put s4 hD, ?_⟩
          · rw [ivs_len]
            refine Nat.lt_of_le_of_lt (List.length_filter_le _ _) ?_
            rw [List.length_take, List.length_take]
            have : (255 : Nat) < sizeLine := by decide
            omega
          · rw [upd_same, filter_snoc _ hn, if_pos c, ivs_app]
            rfl
        · refine ⟨s4, ?_⟩
          rw [filter_snoc _ hn, if_neg c, List.append_nil]
          exact e4
      · rintro H' ⟨s4, e4⟩
        rw [ivs_len, List.take_length] at e4
        have s5 := s2.trans s4
        refine ⟨tyL (e3 H' s4), b.take (b.length - 2) |>.map fun (n : Nat) => (n : Int), (by rw [← ivs_ints]; exact e3 H' s4), ?_⟩
        have ec : (List.count (46 : Int) ((b.take (b.length - 2)).map fun (n : Nat) => (n : Int)) : Nat) = (b.take (b.length - 2)).count 46 := count_cast _ 46
        rw [ec]
        have fo : fileOk b = (decide ((b.take (b.length - 2)).count 46 = 1) && decide ((b.take (b.length - 2)).length = ((b.take (b.length - 2)).filter Sn28.dchar).length + 1) && decide (1 ≤ ((b.take (b.length - 2)).filter Sn28.dchar).length ∧ ((b.take (b.length - 2)).filter Sn28.dchar).length ≤ 30)) := by
          unfold fileOk
          rw [decide_eq_true c0]
          rfl
        rw [fo] at q
        refine ite2 (fun c1 => ⟨_, .inl (e3 H' s4), D, rfl, _, .inl (SqL.of e4), ?_⟩) (fun c1 => ?_)
        · rw [ivs_len, ivs_len]
          rw [decide_eq_true (show (b.take (b.length - 2)).count 46 = 1 by walk_at "om")] at q
          refine ite2 (fun c2 => ⟨D, rfl, _, .inl (SqL.of e4), ?_⟩) (fun c2 => ?_)
          · rw [ivs_len]
            rw [decide_eq_true (show (b.take (b.length - 2)).length = ((b.take (b.length - 2)).filter Sn28.dchar).length + 1 by walk_at "om")] at q
            refine ite2 (fun c3 => ?_) (fun c3 => ?_)
            · have e : decide ((((b.take (b.length - 2)).filter Sn28.dchar).length : Int) ≤ 30) = (true && true && decide (1 ≤ ((b.take (b.length - 2)).filter Sn28.dchar).length ∧ ((b.take (b.length - 2)).filter Sn28.dchar).length ≤ 30)) := by
                rw [Bool.and_self, Bool.true_and, Bool.eq_iff_iff]
                walk_at "om"
              rw [e]
              exact q H' s5
            · rw [decide_eq_false (show ¬ (1 ≤ ((b.take (b.length - 2)).filter Sn28.dchar).length ∧ ((b.take (b.length - 2)).filter Sn28.dchar).length ≤ 30) by walk_at "om")] at q
              exact q H' s5
          · rw [decide_eq_false (show ¬ (b.take (b.length - 2)).length = ((b.take (b.length - 2)).filter Sn28.dchar).length + 1 by walk_at "om")] at q
            exact q H' s5
        · rw [decide_eq_false (show ¬ (b.take (b.length - 2)).count 46 = 1 by walk_at "om")] at q
          exact q H' s5
def sp_fill (K : PySem.W.Frag) : Sp := fun vs H Q _ => ∃ p b, ∃ (k : Nat), vs = [.ref p, iv k] ∧ H p = some (.lst (ivs b)) ∧ b.length ≤ k ∧ k ≤ 255 ∧ ∀ l H', Same H H' → H l = none → H' l = some (.lst (ivs (MM.fill b k))) → Q (.ref l) H'
theorem sc_fill_up : FnScope ["name", "length"] ["name", "length"] (defScope s_fill_up) := ⟨rfl, rfl, rfl, by decide +kernel, rfl, by decide +kernel, by decide +kernel⟩
theorem rep_v {v : V} {z : Nat} (h : v = iv z) (k : Nat) : (List.replicate k [v]).flatten = ivs (List.replicate k z) := by
  subst h
  induction k with
  | zero => rfl
  | succ k ih => rw [List.replicate_succ, List.flatten_cons, ih, List.replicate_succ]; rfl
theorem g_fill_up (T : Txt K mg ad) : Good P w K mg base CX0 1 "fill_up" ["name", "length"] (sp_fill K) := by
  refine T.f_fill_up.good0 sc_fill_up (fun vs H Q E h => ?_) (fun f cdv A outer s H vs Q E hr h => ?_)
  · obtain ⟨z, b, k, rfl, _⟩ := h
    rfl
  · obtain ⟨p, b, k, rfl, hp, h1, h2, q⟩ := h
    refine ⟨_, (pss_one (ps_ret (pe_op op_cat (pv 0) (pe_op op_rep (pe_lst (pa_cons (pe_const rfl T.c_BLANK) pa_nil)) (pe_op op_sub (pv 1) (pe_callB call_len_seq rfl T.n_len (by decide +kernel) (pa_cons (pv 0) pa_nil))))))), ?_⟩
    have hz : (1000 : Nat) < sizeLine := by decide
    walk_at "rd"
    refine ⟨by decide, fun l1 e1 => ?_⟩
    have s1 := same_upd (o := .lst [V.int 32]) (Same.refl H) e1
    refine ⟨_, .inl (SqL.of (s1 _ _ hp)), _, upd_same, ?_⟩
    rw [ivs_len]
    refine ⟨by omega, by omega, by rw [List.length_singleton]; omega, fun l2 e2 => ?_⟩
    have ek : ((k : Int) - (b.length : Int)).toNat = k - b.length := by omega
    rw [ek, rep_v (v := V.int 32) (z := 32) rfl]
    have s2 := same_upd (o := .lst (ivs (List.replicate (k - b.length) 32))) s1 e2
    refine ⟨_, s2 _ _ hp, _, upd_same, by rw [ivs_len, ivs_len, List.length_replicate]; omega, fun l3 e3 => q l3 _ (same_upd s2 e3) (s2.free e3) ?_⟩
    rw [upd_same, ← ivs_app]
    rfl
def sp_before (K : PySem.W.Frag) : Sp := fun vs H Q _ => ∃ p q' a b, vs = [.ref p, .ref q'] ∧ H p = some (.lst (ivs a)) ∧ H q' = some (.lst (ivs b)) ∧ a.length ≤ 255 ∧ b.length ≤ 255 ∧ ∀ H', Same H H' → Q (.bl (Sn28.less a b)) H'
theorem lex_cast : ∀ a b : Bytes, HT.lexLt (a.map fun (n : Nat) => (n : Int)) (b.map fun (n : Nat) => (n : Int)) = lexB a b
  | [], [] => rfl
  | [], _ :: _ => rfl
  | _ :: _, [] => rfl
  | x :: a, y :: b => by
    show (if (x : Int) = (y : Int) then HT.lexLt _ _ else decide ((x : Int) < (y : Int))) = if x = y then lexB a b else decide (x < y)
    rw [lex_cast a b]
    by_cases h : x = y
    · rw [if_pos h, if_pos (by omega)]
    · rw [if_neg h, if_neg (by omega), Bool.eq_iff_iff]
      walk_at "om"
theorem sc_comes_before : FnScope ["name", "other", "length"] ["name", "other"] (defScope s_comes_before) := ⟨rfl, rfl, rfl, by decide +kernel, rfl, by decide +kernel, by decide +kernel⟩
theorem fill_len {n : Bytes} {k : Nat} (h : n.length ≤ k) : (MM.fill n k).length = k := by
  unfold MM.fill
  rw [List.length_append, List.length_replicate]
  omega
theorem g_comes_before (T : Txt K mg ad) : Good P w K mg base CX0 2 "comes_before" ["name", "other"] (sp_before K) := by
  refine T.f_comes_before.good0 sc_comes_before (fun vs H Q E h => ?_) (fun f cdv A outer s H vs Q E hr h => ?_)
  · obtain ⟨z, b, k, c, rfl, _⟩ := h
    rfl
  · obtain ⟨p, p2, a, b, rfl, ha, hb, h1, h2, q⟩ := h
    refine ⟨_, (pss_cons (ps_set (i := 2) sc_comes_before.nd rfl (Or.inl rfl) (pe_callB (call_max2 rfl) rfl T.n_max (by decide +kernel) (pa_cons (pe_callB call_len_seq rfl T.n_len (by decide +kernel) (pa_cons (pv 0) pa_nil)) (pa_cons (pe_callB call_len_seq rfl T.n_len (by decide +kernel) (pa_cons (pv 1) pa_nil)) pa_nil))))
      (pss_one (ps_ret (pe_cmpR (op_ltL hr.units0) (pe_callG (g_fill_up T) hr (by decide) rfl pass0 (pa_cons (pv 0) (pa_cons (pv 2) pa_nil))) (pe_callG (g_fill_up T) hr (by decide) rfl pass0 (pa_cons (pv 1) (pa_cons (pv 2) pa_nil))) (nomark _))))), ?_⟩
    walk_at "rd"
    refine ⟨_, .inl (SqL.of ha), _, .inl (SqL.of hb), ?_⟩
    rw [ivs_len, ivs_len]
    have em : (if (b.length : Int) > (a.length : Int) then (b.length : Int) else (a.length : Int)) = ((max a.length b.length : Nat) : Int) := by
      by_cases c : (b.length : Int) > (a.length : Int)
      · rw [if_pos c]; omega
      · rw [if_neg c]; omega
    refine ⟨_, _, ⟨rfl, rfl⟩, ?_⟩
    rw [em]
    refine ⟨p, a, _, rfl, ha, Nat.le_max_left _ _, by omega, fun l1 H1 s1 n1 e1 => ?_⟩
    walk_at "rd"
    refine ⟨p2, b, _, rfl, s1 _ _ hb, Nat.le_max_right _ _, by omega, fun l2 H2 s2 n2 e2 => ?_⟩
    walk_at "rd"
    refine ⟨(MM.fill a (max a.length b.length)).map fun (n : Nat) => (n : Int), (by rw [← ivs_ints]; exact SqL.of (s2 _ _ e1)), (MM.fill b (max a.length b.length)).map fun (n : Nat) => (n : Int), (by rw [← ivs_ints]; exact SqL.of e2), ?_, ?_⟩
    · rw [List.length_map, List.length_map, fill_len (Nat.le_max_left _ _), fill_len (Nat.le_max_right _ _)]
    · rw [lex_cast, less_eq a b _ (Nat.le_max_left _ _) (Nat.le_max_right _ _)]
      exact q H2 (s1.trans s2)
end
end Dx
set_option linter.all false
set_option maxRecDepth 100000
set_option maxHeartbeats 4000000
namespace Dx
open PySem PySem.Spec PyProof.Rows L2 MM
open Sn28 (Rec Bytes at_)
local macro_rules | `(tactic| walk_at "rd") => `(tactic| (try simp only [rd_var, rd_c, rd_op, rd_un, rd_i0, rd_i, rd_u, rd_seq, rd_next, rd_asg, rd_name, rd_ret, rd_drop, rd_ifS, rd_test, rd_b, rd_chain, rd_and, rd_or, rd_not, rd_andV, rd_orV, rd_notV, rd_if, rd_cons, rd_nil, rd_call, rd_cb, rd_sl, rd_part, rd_nopart, rd_slL, rd_eqL, rd_eqT, rd_ltL, rd_ixL, rd_lst, rd_listrev, rd_raise, rd_for, rd_lc, rd_iList, rd_iRng1, rd_iRng2, rd_iRng3, rd_iRev, rd_iStr, rd_bm, rd_bm0, rd_append, rd_extend, rd_pop, rd_count, rd_cat, rd_rep, rd_anyI, rd_all, rd_fld, rd_sfld, rd_new, rd_yes, rd_wipe0, rd_wipe1, rd_try, rd_start, rd_cxK,
  List.map_cons, List.map_nil, List.length_cons, List.length_nil, List.cons_append, List.nil_append, List.append_nil, List.replicate_succ, List.replicate_zero, List.getElem?_cons_zero, List.getElem?_cons_succ, List.set_cons_zero, List.set_cons_succ, Option.some.injEq, V.int.injEq, V.bl.injEq, V.ref.injEq, List.cons.injEq, if_true, if_false, Bool.false_eq_true, eq_self_iff_true,
  exists_eq_left, exists_eq_left', exists_and_left, exists_and_right, exists_eq_right, exists_eq_right', exists_eq', exists_eq, true_and, and_true, and_self, exists_const, Nat.reduceAdd, Nat.reduceSub]))
local macro_rules | `(tactic| walk_at "om") => `(tactic| ((try simp only [decide_eq_true_eq, decide_eq_false_iff_not, Bool.not_eq_true', Bool.not_eq_true, Bool.not_eq_false', Bool.not_eq_false, Bool.and_eq_true, Bool.or_eq_true, Bool.or_eq_false_iff, Bool.and_eq_false_iff, Decidable.not_not, ne_eq, Nat.reduceAdd] at *); omega))
section
variable {P : Program} {w : World} {K : PySem.W.Frag} {mg : Str → Option Value} {base : Heap} {ad : Ad}
def sp_in (K : PySem.W.Frag) (ad : Ad) : Sp := fun vs H Q E => ∃ p b, ∃ q' r, vs = [.ref p, .ref q'] ∧ SqL K H p (ivs b) ∧ RecAt ad H q' r ∧ (placeOk b r = true → Q .non H) ∧ (placeOk b r = false → E (.ref ad.k_BadImage) none H)
theorem sc_check_in_image : FnScope ["image", "record"] ["image", "record"] (defScope s_check_in_image) := ⟨rfl, rfl, rfl, by decide +kernel, rfl, by decide +kernel, by decide +kernel⟩
theorem g_check_in_image (T : Txt K mg ad) : Good P w K mg base (CXE P w) 1 "check_in_image" ["image", "record"] (sp_in K ad) := by
  refine T.f_check_in_image.goodE sc_check_in_image (fun vs H Q E h => ?_) (fun f cdv A outer s H vs Q E hr h => ?_)
  · obtain ⟨z, b, c, d, rfl, _⟩ := h
    rfl
  · obtain ⟨p, b, q, r, rfl, hS, ⟨dx, n, hp, hn, _⟩, q1, q2⟩ := h
    refine ⟨_, (pss_one (ps_if (pt_cmpR op_gt (pe_op op_add (pe_op op_mul (pe_fld (pv 1) rfl) (pe_const rfl T.c_SECTOR)) (pe_fld (pv 1) rfl)) (pe_callB call_len_seq rfl T.n_len (by decide +kernel) (pa_cons (pv 0) pa_nil)) (nomark _)) (pss_one (ps_raise rfl rfl T.e_BadImage raiseE)) pss_nil)), ?_⟩
    walk_at "rd"
    refine ⟨_, _, _, hp, T.k_Record.cl, T.k_Record.na _ (.head _), _, rfs_place r n, ?_⟩
    walk_at "rd"
    refine ⟨.inr ⟨by decide, by decide⟩, _, _, _, hp, T.k_Record.cl, T.k_Record.na _ (.tail _ (.head _)), _, rfs_size r n, ?_⟩
    walk_at "rd"
    refine ⟨_, .inl hS, ?_⟩
    rw [ivs_len]
    unfold placeOk at q1 q2
    exact ite2 (fun c => q2 (by walk_at "om")) (fun c => q1 (by walk_at "om"))
def sp_size (ad : Ad) : Sp := fun vs H Q E => ∃ q' r, vs = [.ref q'] ∧ RecAt ad H q' r ∧ (¬ (r.size = 0 ∨ r.size % 2048 ≠ 0) → Q .non H) ∧ ((r.size = 0 ∨ r.size % 2048 ≠ 0) → E (.ref ad.k_BadImage) none H)
theorem sc_check_folder_size : FnScope ["record"] ["record"] (defScope s_check_folder_size) := ⟨rfl, rfl, rfl, by decide +kernel, rfl, by decide +kernel, by decide +kernel⟩
theorem g_check_folder_size (T : Txt K mg ad) : Good P w K mg base (CXE P w) 1 "check_folder_size" ["record"] (sp_size ad) := by
  refine T.f_check_folder_size.goodE sc_check_folder_size (fun vs H Q E h => ?_) (fun f cdv A outer s H vs Q E hr h => ?_)
  · obtain ⟨c, d, rfl, _⟩ := h
    rfl
  · obtain ⟨q, r, rfl, ⟨dx, n, hp, hn, _⟩, q1, q2⟩ := h
    refine ⟨_, (pss_one (ps_if (PW.pt (pw_or (pt_cmpR op_eqI (pe_fld (pv 0) rfl) pe_int (nomark _)) (pw_or1 (pt_cmpR op_neI (pe_op op_mod (pe_fld (pv 0) rfl) (pe_const rfl T.c_SECTOR)) pe_int (nomark _))))) (pss_one (ps_raise rfl rfl T.e_BadImage raiseE)) pss_nil)), ?_⟩
    walk_at "rd"
    refine ⟨_, _, _, hp, T.k_Record.cl, T.k_Record.na _ (.tail _ (.head _)), _, rfs_size r n, ?_⟩
    walk_at "rd"
    refine ite2 (fun c => q2 (by walk_at "om")) (fun c => ⟨_, _, _, hp, T.k_Record.cl, T.k_Record.na _ (.tail _ (.head _)), _, rfs_size r n, ?_⟩)
    walk_at "rd"
    exact ⟨by decide, ite2 (fun c => q2 (by walk_at "om")) (fun c => q1 (by walk_at "om"))⟩
def Recs (ad : Ad) (H : Hp) (ps : List Addr) (rs : List Rec) : Prop := Paired (RecAt ad H) ps rs
theorem Recs.same {H H' : Hp} {ps : List Addr} {rs : List Rec} (h : Recs ad H ps rs) (s : Same H H') : Recs ad H' ps rs := Paired.mono (fun _ _ x => RecAt.same x s) h
theorem Recs.app {H : Hp} : ∀ {ps qs : List Addr} {rs ts : List Rec}, Recs ad H ps rs → Recs ad H qs ts → Recs ad H (ps ++ qs) (rs ++ ts)
  | _, _, _, _, .nil, s => s
  | _, _, _, _, .cons r t, s => .cons r (Recs.app t s)
theorem Recs.get {H : Hp} : ∀ {ps : List Addr} {rs : List Rec} {i : Nat} {p : Addr}, Recs ad H ps rs → ps[i]? = some p → ∃ r, rs[i]? = some r ∧ RecAt ad H p r
  | _, _, _, _, .nil, e => by simp at e
  | _, _, 0, _, .cons r _, e => by simp at e; subst e; exact ⟨_, rfl, r⟩
  | _, _, i + 1, p, .cons _ t, e => by
    obtain ⟨u, h1, h2⟩ := Recs.get (i := i) (p := p) t (by simpa using e)
    exact ⟨u, by simpa using h1, h2⟩
theorem Recs.drop {H : Hp} : ∀ {ps : List Addr} {rs : List Rec} (n : Nat), Recs ad H ps rs → Recs ad H (ps.drop n) (rs.drop n)
  | _, _, 0, h => h
  | _, _, _ + 1, .nil => .nil
  | _, _, n + 1, .cons _ t => Recs.drop n t
def secL (b : Bytes) (i : Nat) : Option (List Rec) := (sec b i (i + 2048)).bind fun l => if l = [] then none else some l
def OutL (ad : Ad) (H : Hp) (r : Option (List Rec)) (Q : VK) (E : XK) : Prop := Out H r (fun rs H' => ∀ l ps, H l = none → H' l = some (.lst (ps.map V.ref)) → Recs ad H' ps rs → Q (.ref l) H') E ad.k_BadImage
def sp_sec (K : PySem.W.Frag) (ad : Ad) : Sp := fun vs H Q E => ∃ p b, ∃ (i : Nat), vs = [.ref p, iv i] ∧ SqL K H p (ivs b) ∧ IsB b ∧ i + 2048 ≤ b.length ∧ OutL ad H (secL b i) Q E
theorem any_zeros (b : Bytes) : ((b.map fun (n : Nat) => (n : Int)).any fun z => z != 0) = !Sn28.zeros b := by
  unfold Sn28.zeros
  induction b with
  | nil => rfl
  | cons a r ih =>
    rw [List.map_cons, List.any_cons, ih, List.all_cons, Bool.not_and]
    congr 1
    by_cases h : a = 0
    · subst h; rfl
    · have h2 : ((a : Int) != 0) = true := by simp; exact h
      rw [h2]
      simp [h]
def SecInv (ad : Ad) (H : Hp) (b : Bytes) (p l : Addr) (i : Nat) (m : Nat) (σ : L2.St) (H' : Hp) : Prop := ∃ (a : Nat) (ps : List Addr) (rs : List Rec), m = i + 2048 - a ∧ σ = [some (.ref p), some (iv i), some (.ref l), some (iv a), some (.int ((i : Int) + 2048))] ∧ i ≤ a ∧ a ≤ i + 2048 ∧ Same H H' ∧ H' l = some (.lst (ps.map V.ref)) ∧ Recs ad H' ps rs ∧
  sec b i (i + 2048) = (sec b a (i + 2048)).map (fun t => rs ++ t) ∧ 34 * rs.length ≤ a - i
theorem sc_read_sector : FnScope ["image", "start", "records", "at", "end"] ["image", "start"] (defScope s_read_sector) := ⟨rfl, rfl, rfl, by decide +kernel, rfl, by decide +kernel, by decide +kernel⟩
theorem g_read_sector (T : Txt K mg ad) : Good P w K mg base (CXE P w) 5 "read_sector" ["image", "start"] (sp_sec K ad) := by
  refine T.f_read_sector.goodE sc_read_sector (fun vs H Q E h => ?_) (fun f cdv A outer s H vs Q E hr h => ?_)
  · obtain ⟨c, d, e, rfl, _⟩ := h
    rfl
  · obtain ⟨p, b, i, rfl, hS, hB, hi, q1, q2⟩ := h
    refine ⟨_, (pss_cons (ps_set (i := 2) sc_read_sector.nd rfl (Or.inl rfl) (pe_lst pa_nil))
      (pss_cons (ps_set (i := 3) sc_read_sector.nd rfl (Or.inl rfl) (pv 1))
      (pss_cons (ps_set (i := 4) sc_read_sector.nd rfl (Or.inl rfl) (pe_op op_add (pv 1) (pe_const rfl T.c_SECTOR)))
      (pss_cons (ps_while PassesOwn.leaving (PW.pt (pw_and (pt_cmpR op_lt (pv 3) (pv 4) (nomark _)) (pw_and1 (pt_cmpR op_neI (pe_ix ix_list (pv 0) (pv 3) (fun _ _ => rfl)) pe_int (nomark _))))) (pss_cons (ps_expr (pe_bm PySem.F.plainAttrs_list PySem.F.slot_list_append PySem.F.type_list_append mt_append (pv 2) (pa_cons (pe_callG (g_read_record T) hr (by decide) rfl passE (pa_cons (pv 0) (pa_cons (pv 3) (pa_cons (pv 4) pa_nil)))) pa_nil)))
      (pss_one (ps_set (i := 3) sc_read_sector.nd rfl (Or.inl rfl) (pe_op op_add (pv 3) (pe_ix ix_list (pv 0) (pv 3) (fun _ _ => rfl)))))))
      (pss_cons (ps_if (PW.pt (pw_or (pt_cmpR op_eqI (pe_callB call_len_seq rfl T.n_len (by decide +kernel) (pa_cons (pv 2) pa_nil)) pe_int (nomark _)) (pw_or1 (pt_val (pe_callB (cr_anyI rfl) rfl T.n_any (by decide +kernel) (pa_cons (pe_slice sl_list (pv 0) (po_some (pv 3)) (po_some (pv 4))) pa_nil)))))) (pss_one (ps_raise rfl rfl T.e_BadImage raiseE)) pss_nil)
      (pss_one (ps_ret (pv 2)))))))), ?_⟩
    walk_at "rd"
    refine ⟨Nat.zero_le _, fun l hl => ?_⟩
    refine ⟨SecInv ad H b p l i, ⟨_, i, [], [], rfl, rfl, Nat.le_refl _, by omega, same_upd (Same.refl H) hl, upd_same, .nil, by simp, by simp⟩, ?_⟩
    rintro m σ H1 ⟨a, ps, rs, rfl, rfl, ha1, ha2, s1, e1, R1, hs, hn⟩
    have hlen : ps.length = rs.length := Paired.length R1
    have hz : (100 : Nat) < sizeLine := by decide
    walk_at "rd"
    -- behind the loop
    have done : (at_ b a = 0 ∨ a = i + 2048) → ∃ x, (SqL K H1 l x ∨ SqT K H1 l x) ∧ if decide ((x.length : Int) = 0) = true then E (Value.ref ad.k_BadImage) none H1 else ∃ x, SqL K H1 p x ∧ ∀ (p : Addr), H1 p = none → ∃ x_1, SqL K (upd H1 p (HO.lst (cutV x (some (a : Int)) (some ((i : Int) + 2048))))) p (List.map V.int x_1) ∧
        if (x_1.any fun z => z != 0) = true then E (Value.ref ad.k_BadImage) none (upd H1 p (HO.lst (cutV x (some (a : Int)) (some ((i : Int) + 2048))))) else Q (V.ref l) (upd H1 p (HO.lst (cutV x (some (a : Int)) (some ((i : Int) + 2048))))) := by
      intro hend
      have he : sec b a (i + 2048) = if Sn28.zeros ((b.drop a).take (i + 2048 - a)) = true then some [] else none := by
        by_cases c : a = i + 2048
        · rw [c, sec_end, Nat.sub_self, List.take_zero]
          rfl
        · exact sec_zero (by omega) (by omega) (hend.resolve_right c)
      refine ⟨_, .inl (SqL.of e1), ?_⟩
      rw [List.length_map]
      refine ite2 (fun c => q2 ?_ H1 s1) (fun c => ⟨_, s1.seq hS, fun l2 h2 => ?_⟩)
      · have : rs = [] := List.eq_nil_of_length_eq_zero (by walk_at "om")
        subst this
        unfold secL
        rw [hs, he]
        by_cases z : Sn28.zeros ((b.drop a).take (i + 2048 - a)) = true
        · rw [if_pos z]; rfl
        · rw [if_neg z]; rfl
      · rw [cut_b (i := a) (j := i + 2048) rfl (by push_cast; rfl)]
        have s2 := same_upd (o := .lst (ivs ((b.drop a).take (i + 2048 - a)))) s1 h2
        have s12 := same_upd (o := .lst (ivs ((b.drop a).take (i + 2048 - a)))) (Same.refl H1) h2
        refine ⟨((b.drop a).take (i + 2048 - a)).map fun (n : Nat) => (n : Int), (by rw [← ivs_ints]; exact SqL.of upd_same), ?_⟩
        rw [any_zeros]
        refine ite2 (fun c2 => q2 ?_ _ s2) (fun c2 => q1 rs _ ?_ s2 l ps hl (s12 _ _ e1) (R1.same s12))
        · unfold secL
          rw [hs, he, if_neg (by intro z; rw [z] at c2; cases c2)]
          rfl
        · unfold secL
          rw [hs, he, if_pos (by simpa using c2)]
          show (if rs ++ [] = [] then none else some (rs ++ [])) = some rs
          rw [List.append_nil, if_neg]
          intro z
          rw [z, List.length_nil] at hlen
          walk_at "om"
    refine ite2 (fun c => ?_) (fun c => done (.inr (by walk_at "om")))
    have ca : a < i + 2048 := by walk_at "om"
    refine ⟨_, s1.seq hS, _, ivs_at rfl (show a < b.length by omega), ?_⟩
    walk_at "rd"
    refine ite2 (fun c0 => ?_) (fun c0 => done (.inl (by walk_at "om")))
    have c1 : at_ b a ≠ 0 := by walk_at "om"
    refine ⟨fun σ' H' => ∃ m', m' < i + 2048 - a ∧ SecInv ad H b p l i m' σ' H', fun _ _ h => h, ?_⟩
    refine ⟨tyL (SqL.of e1), p, b, a, i + 2048, by push_cast; rfl, s1.seq hS, hB, ca, hi, fun r H2 e2 s2 q hq => ?_, fun e2 H2 s2 => q2 ?_ H2 (s1.trans s2)⟩
    · walk_at "rd"
      have s12 := s1.trans s2
      obtain ⟨l1, l2⟩ := recP_len hB ca hi e2
      refine ⟨_, s2 _ _ e1, (by rw [List.length_map]; omega), ?_⟩
      have s3 := same_put (o := .lst (ps.map V.ref ++ [V.ref q])) s12 hl
      have nl : ∀ {x r}, RecAt ad H2 x r → RecAt ad (upd H2 l (.lst (ps.map V.ref ++ [V.ref q]))) x r := fun h => h.put (.inl ⟨ps, s2 _ _ e1⟩)
      refine ⟨_, s3.seq hS, _, ivs_at rfl (show a < b.length by omega), ?_⟩
      walk_at "rd"
      refine ⟨i + 2048 - (a + at_ b a), by omega, a + at_ b a, ps ++ [q], rs ++ [r], rfl, by push_cast; rfl, by omega, by omega, s3, by rw [upd_same, List.map_append]; rfl, ?_, ?_, ?_⟩
      · exact Paired.snoc (Paired.mono (fun _ _ x => nl (x.same s2)) R1) (nl hq)
      · rw [hs, sec_rec hB ca hi c1, e2]
        cases sec b (a + at_ b a) (i + 2048) with
        | none => rfl
        | some t => simp
      · rw [List.length_append, List.length_singleton]
        omega
    · unfold secL
      rw [hs, sec_rec hB ca hi c1, e2]
      rfl
def sp_all (K : PySem.W.Frag) (ad : Ad) : Sp := fun vs H Q E => ∃ p b, ∃ q' r, vs = [.ref p, .ref q'] ∧ SqL K H p (ivs b) ∧ IsB b ∧ b.length ≤ 100000 ∧ RecAt ad H q' r ∧ r.size % 2048 = 0 ∧ 2048 * r.place + r.size ≤ b.length ∧ OutL ad H (secs b (2048 * r.place) (r.size / 2048)) Q E
theorem fitsL {z : Int} (h1 : -(2 ^ 63) ≤ z) (h2 : z < 2 ^ 63) : Builtin.Range.rangeFitsLong z = true := by
  unfold Builtin.Range.rangeFitsLong
  simp
  omega
theorem rg_size (i n : Nat) : Builtin.Range.rangeSize (i : Int) ((i : Int) + ((2048 * n : Nat) : Int)) 2048 = (n : Int) := by
  unfold Builtin.Range.rangeSize
  rw [if_pos (by decide)]
  by_cases c : (i : Int) < (i : Int) + ((2048 * n : Nat) : Int)
  · rw [if_pos c]
    omega
  · rw [if_neg c]
    omega
theorem rg_sec (i n : Nat) (h : i + 2048 * n ≤ 1000000) : RgC (i : Int) ((i : Int) + ((2048 * n : Nat) : Int)) 2048 n := by
  refine ⟨by decide, by decide, ?_, ?_⟩
  · unfold Builtin.Range.small
    rw [rg_size, fitsL (by omega) (by omega), fitsL (by omega) (by omega), fitsL (by decide) (by decide), fitsL (by omega) (by omega), if_pos (by decide), fitsL (by omega) (by omega)]
    simp
  · exact rg_size i n
theorem sc_read_all_records : FnScope ["image", "folder", "records", "start", "at"] ["image", "folder"] (defScope s_read_all_records) := ⟨rfl, rfl, rfl, by decide +kernel, rfl, by decide +kernel, by decide +kernel⟩
theorem g_read_all_records (T : Txt K mg ad) : Good P w K mg base (CXE P w) 6 "read_all_records" ["image", "folder"] (sp_all K ad) := by
  refine T.f_read_all_records.goodE sc_read_all_records (fun vs H Q E h => ?_) (fun f cdv A outer s H vs Q E hr h => ?_)
  · obtain ⟨c, d, e, g, rfl, _⟩ := h
    rfl
  · obtain ⟨p, b, q, r, rfl, hS, hB, hbl, hq, hr1, hr2, q1, q2⟩ := h
    refine ⟨_, (pss_cons (ps_set (i := 2) sc_read_all_records.nd rfl (Or.inl rfl) (pe_lst pa_nil))
      (pss_cons (ps_set (i := 3) sc_read_all_records.nd rfl (Or.inl rfl) (pe_op op_mul (pe_fld (pv 1) rfl) (pe_const rfl T.c_SECTOR)))
      (pss_cons (ps_for PassesOwn.leaving rfl (pi_range3 rfl T.n_range (pa_cons (pv 3) (pa_cons (pe_op op_add (pv 3) (pe_fld (pv 1) rfl)) (pa_cons (pe_const rfl T.c_SECTOR) pa_nil)))) (pg_name (i := 4) sc_read_all_records.nd rfl (Or.inl rfl)) (pss_one (ps_expr (pe_bm PySem.F.plainAttrs_list PySem.F.slot_list_extend PySem.F.type_list_extend mt_extend (pv 2) (pa_cons (pe_callG (g_read_sector T) hr (by decide) rfl passE (pa_cons (pv 0) (pa_cons (pv 4) pa_nil))) pa_nil)))))
      (pss_one (ps_ret (pv 2)))))), ?_⟩
    obtain ⟨dx, n, hp, hn, hne⟩ := id hq
    walk_at "rd"
    refine ⟨Nat.zero_le _, fun l hl => ?_⟩
    have s1 := same_upd (o := .lst []) (Same.refl H) hl
    refine ⟨_, _, _, s1 _ _ hp, T.k_Record.cl, T.k_Record.na _ (.head _), _, rfs_place r n, ?_⟩
    walk_at "rd"
    refine ⟨.inr ⟨by decide, by decide⟩, _, _, _, s1 _ _ hp, T.k_Record.cl, T.k_Record.na _ (.tail _ (.head _)), _, rfs_size r n, ?_⟩
    walk_at "rd"
    have hz : (1000000 : Nat) < sizeLine := by decide
    have hn2 : 2048 * (r.size / 2048) = r.size := by omega
    refine ⟨_, _, _, ⟨rfl, rfl, rfl⟩, r.size / 2048, ?_, ?_⟩
    · have e1 : (r.place : Int) * 2048 = ((2048 * r.place : Nat) : Int) := by push_cast; omega
      rw [e1]
      have := rg_sec (2048 * r.place) (r.size / 2048) (by omega)
      rw [hn2] at this
      exact this
    · refine LoopJ.rangeC (fun k σ H' => ∃ (v : Option V) (ps : List Addr) (rs : List Rec), σ = [some (V.ref p), some (V.ref q), some (V.ref l), some (V.int ((r.place : Int) * 2048)), v] ∧ Same H H' ∧ H' l = some (.lst (ps.map V.ref)) ∧ Recs ad H' ps rs ∧
        secs b (2048 * r.place) (r.size / 2048) = (secs b (2048 * r.place + 2048 * k) (r.size / 2048 - k)).map (fun t => rs ++ t) ∧ 34 * rs.length ≤ 2048 * k) ⟨none, [], [], rfl, s1, upd_same, .nil, by simp, by simp⟩ ?_ ?_
      · rintro k σ H1 hk ⟨v, ps, rs, rfl, s2, e1, R1, hs, hle⟩
        have hlen : ps.length = rs.length := Paired.length R1
        walk_at "rd"
        have hst : r.size / 2048 - k = (r.size / 2048 - (k + 1)) + 1 := by omega
        have hsec : secs b (2048 * r.place + 2048 * k) (r.size / 2048 - k) = (sec b (2048 * r.place + 2048 * k) (2048 * r.place + 2048 * k + 2048)).bind fun l => if l = [] then none else (secs b (2048 * r.place + 2048 * k + 2048) (r.size / 2048 - (k + 1))).map fun m => l ++ m := by
          rw [hst]; rfl
        refine ⟨tyL (SqL.of e1), p, b, 2048 * r.place + 2048 * k, by push_cast; congr 3; omega, s2.seq hS, hB, by omega, fun rs2 H2 e2 s3 l2 ps2 n2 hl2 R2 => ?_, fun e2 H2 s3 => q2 ?_ H2 (s2.trans s3)⟩
        · walk_at "rd"
          have hlen2 : ps2.length = rs2.length := Paired.length R2
          have e3 : sec b (2048 * r.place + 2048 * k) (2048 * r.place + 2048 * k + 2048) = some rs2 ∧ rs2 ≠ [] := by
            unfold secL at e2
            cases e4 : sec b (2048 * r.place + 2048 * k) (2048 * r.place + 2048 * k + 2048) with
            | none => rw [e4] at e2; cases e2
            | some t =>
              rw [e4, Option.bind_some] at e2
              split at e2
              · cases e2
              · rename_i hne
                cases e2
                exact ⟨rfl, hne⟩
          have hb2 := sec_len hB (by omega) 2048 (2048 * r.place + 2048 * k) rs2 (by omega) (by omega) e3.1
          refine ⟨_, s3 _ _ e1, _, hl2, by rw [List.length_map, List.length_map]; omega, same_put (s2.trans s3) hl, ps ++ ps2, by rw [upd_same, List.map_append], rs ++ rs2, ?_, ?_, ?_⟩
          · exact Paired.mono (fun _ _ x => x.put (.inl ⟨ps, s3 _ _ e1⟩)) ((R1.same s3).app R2)
          · rw [hs, hsec, e3.1, Option.bind_some, if_neg e3.2]
            have : 2048 * r.place + 2048 * k + 2048 = 2048 * r.place + 2048 * (k + 1) := by omega
            rw [this]
            cases secs b (2048 * r.place + 2048 * (k + 1)) (r.size / 2048 - (k + 1)) with
            | none => rfl
            | some t => simp
          · rw [List.length_append]
            omega
        · rw [hs, hsec]
          unfold secL at e2
          cases e4 : sec b (2048 * r.place + 2048 * k) (2048 * r.place + 2048 * k + 2048) with
          | none => rfl
          | some t =>
            rw [e4, Option.bind_some] at e2
            rw [Option.bind_some]
            split at e2
            · rename_i hne
              rw [if_pos hne]
              rfl
            · cases e2
      · rintro σ H1 ⟨v, ps, rs, rfl, s2, e1, R1, hs, hle⟩
        walk_at "rd"
        refine q1 rs H1 ?_ s2 l ps hl e1 R1
        rw [hs, Nat.sub_self]
        show some (rs ++ []) = some rs
        rw [List.append_nil]
def sp_link (K : PySem.W.Frag) (ad : Ad) : Sp := fun vs H Q E => ∃ p1 p2 t, ∃ r f n, vs = [.ref p1, .ref p2, .ref t] ∧ RecAt ad H p1 r ∧ RecAt ad H p2 f ∧ TupK K t n ∧ (linkOk r f n = true → ∀ H', Same H H' → Q .non H') ∧ (linkOk r f n = false → ∀ H', Same H H' → E (.ref ad.k_BadImage) none H')
theorem sc_check_link : FnScope ["record", "folder", "name"] ["record", "folder", "name"] (defScope s_check_link) := ⟨rfl, rfl, rfl, by decide +kernel, rfl, by decide +kernel, by decide +kernel⟩
theorem g_check_link (T : Txt K mg ad) : Good P w K mg base (CXE P w) 1 "check_link" ["record", "folder", "name"] (sp_link K ad) := by
  refine T.f_check_link.goodE sc_check_link (fun vs H Q E h => ?_) (fun f cdv A outer s H vs Q E hr h => ?_)
  · obtain ⟨c, d, e, g, g2, g3, rfl, _⟩ := h
    rfl
  · obtain ⟨p1, p2, t, r, f, n, rfl, hr1, hr2, ht, q1, q2⟩ := h
    refine ⟨_, (pss_cons (ps_if (PW.pt (pw_or (pt_not (pt_val (pe_fld (pv 0) rfl))) (pw_or1 (pt_cmpR (op_neT hr.units) (pe_callTy call_tuple_of rfl T.n_tuple (by decide +kernel) (pa_cons (pe_fld (pv 0) rfl) pa_nil)) (pv 2) (nomark _))))) (pss_one (ps_raise rfl rfl T.e_BadImage raiseE)) pss_nil)
      (pss_one (ps_if (PW.pt (pw_or (pt_cmpR op_neI (pe_fld (pv 0) rfl) (pe_fld (pv 1) rfl) (nomark _)) (pw_or1 (pt_cmpR op_neI (pe_fld (pv 0) rfl) (pe_fld (pv 1) rfl) (nomark _))))) (pss_one (ps_raise rfl rfl T.e_BadImage raiseE)) pss_nil))), ?_⟩
    obtain ⟨d1, n1, e1, m1, _⟩ := hr1
    obtain ⟨d2, n2, e2, m2, _⟩ := hr2
    walk_at "rd"
    refine ⟨_, _, _, e1, T.k_Record.cl, T.k_Record.na _ (.tail _ (.tail _ (.head _))), _, rfs_folder r n1, ?_⟩
    walk_at "rd"
    have iff : linkOk r f n = true ↔ r.folder = true ∧ r.name = n ∧ r.place = f.place ∧ r.size = f.size := by
      unfold linkOk
      simp only [Bool.and_eq_true, decide_eq_true_eq]
    have no : ∀ H', Same H H' → ¬ (r.folder = true ∧ r.name = n ∧ r.place = f.place ∧ r.size = f.size) → E (.ref ad.k_BadImage) none H' := fun H' s z => q2 (Bool.eq_false_iff.mpr fun y => z (iff.mp y)) H' s
    refine ite2 (fun c => no H (Same.refl H) fun z => by rw [z.1] at c; cases c) (fun c => ⟨_, _, _, e1, T.k_Record.cl, T.k_Record.na _ (.tail _ (.tail _ (.tail _ (.head _)))), _, rfs_name r n1, ?_⟩)
    walk_at "rd"
    refine ⟨_, .inl ⟨SqL.of m1, fun l hl => ?_⟩⟩
    have s1 := same_upd (o := .tup (ivs r.name)) (Same.refl H) hl
    refine ⟨_, SqT.of upd_same, _, ht.sq _, ite2 (fun c2 => no _ s1 fun z => by rw [z.2.1] at c2; exact absurd c2 (by simp)) (fun c2 => ⟨_, _, _, s1 _ _ e1, T.k_Record.cl, T.k_Record.na _ (.head _), _, rfs_place r n1, _, _, _, s1 _ _ e2, T.k_Record.cl, T.k_Record.na _ (.head _), _, rfs_place f n2, ?_⟩)⟩
    walk_at "rd"
    refine ite2 (fun c3 => no _ s1 fun z => by walk_at "om") (fun c3 => ⟨_, _, _, s1 _ _ e1, T.k_Record.cl, T.k_Record.na _ (.tail _ (.head _)), _, rfs_size r n1, _, _, _, s1 _ _ e2, T.k_Record.cl, T.k_Record.na _ (.tail _ (.head _)), _, rfs_size f n2, ?_⟩)
    walk_at "rd"
    exact ite2 (fun c4 => no _ s1 fun z => by walk_at "om") (fun c4 => q1 (iff.mpr ⟨by simpa using c, by simpa using c2, by walk_at "om", by walk_at "om"⟩) _ s1)
def sp_name (ad : Ad) : Sp := fun vs H Q E => ∃ p1 r, vs = [.ref p1] ∧ RecAt ad H p1 r ∧ r.name.length ≤ 255 ∧ (nameOk r = true → ∀ H', Same H H' → Q .non H') ∧ (nameOk r = false → ∀ H', Same H H' → E (.ref ad.k_BadImage) none H')
theorem sc_check_name : FnScope ["record", "is_fit"] ["record"] (defScope s_check_name) := ⟨rfl, rfl, rfl, by decide +kernel, rfl, by decide +kernel, by decide +kernel⟩
theorem g_check_name (T : Txt K mg ad) : Good P w K mg base (CXE P w) 3 "check_name" ["record"] (sp_name ad) := by
  refine T.f_check_name.goodE sc_check_name (fun vs H Q E h => ?_) (fun f cdv A outer s H vs Q E hr h => ?_)
  · obtain ⟨c, d, rfl, _⟩ := h
    rfl
  · obtain ⟨p1, r, rfl, ⟨d1, n1, e1, m1, _⟩, hl, q1, q2⟩ := h
    refine ⟨_, (pss_cons (ps_set (i := 1) sc_check_name.nd rfl (Or.inl rfl) (pe_ifExp (pt_val (pe_fld (pv 0) rfl)) (pe_callG (g_is_folder_name T) hr (by decide) rfl pass0 (pa_cons (pe_fld (pv 0) rfl) pa_nil)) (pe_callG (g_is_file_name T) hr (by decide) rfl pass0 (pa_cons (pe_fld (pv 0) rfl) pa_nil))))
      (pss_one (ps_if (pt_not (pt_val (pv 1))) (pss_one (ps_raise rfl rfl T.e_BadImage raiseE)) pss_nil))), ?_⟩
    walk_at "rd"
    refine ⟨_, _, _, e1, T.k_Record.cl, T.k_Record.na _ (.tail _ (.tail _ (.head _))), _, rfs_folder r n1, ?_⟩
    walk_at "rd"
    refine ite2 (fun c => ⟨_, _, _, e1, T.k_Record.cl, T.k_Record.na _ (.tail _ (.tail _ (.tail _ (.head _)))), _, rfs_name r n1, n1, _, rfl, SqL.of m1, hl, fun H1 s1 => ?_⟩) (fun c => ⟨_, _, _, e1, T.k_Record.cl, T.k_Record.na _ (.tail _ (.tail _ (.tail _ (.head _)))), _, rfs_name r n1, n1, _, rfl, SqL.of m1, hl, fun H1 s1 => ?_⟩)
    · walk_at "rd"
      have e : nameOk r = Sn28.folderName r.name := by unfold nameOk; rw [if_pos c]
      rw [e] at q1 q2
      exact ite2 (fun c2 => q2 (by simpa using c2) H1 s1) (fun c2 => q1 (by simpa using c2) H1 s1)
    · walk_at "rd"
      have e : nameOk r = fileOk r.name := by unfold nameOk; rw [if_neg c, fileName_eq]
      rw [e] at q1 q2
      exact ite2 (fun c2 => q2 (by simpa using c2) H1 s1) (fun c2 => q1 (by simpa using c2) H1 s1)
end
end Dx
set_option linter.all false
set_option maxRecDepth 100000
set_option maxHeartbeats 4000000
namespace Dx
open PySem PySem.Spec PyProof.Rows L2 MM
open Sn28 (Rec Bytes at_)
local macro_rules | `(tactic| walk_at "rd") => `(tactic| (try simp only [rd_var, rd_c, rd_op, rd_un, rd_i0, rd_i, rd_u, rd_seq, rd_next, rd_asg, rd_name, rd_ret, rd_drop, rd_ifS, rd_test, rd_b, rd_chain, rd_and, rd_or, rd_not, rd_andV, rd_orV, rd_notV, rd_if, rd_cons, rd_nil, rd_call, rd_cb, rd_sl, rd_part, rd_nopart, rd_slL, rd_eqL, rd_eqT, rd_ltL, rd_ixL, rd_lst, rd_listrev, rd_raise, rd_for, rd_lc, rd_iList, rd_iRng1, rd_iRng2, rd_iRng3, rd_iRev, rd_iStr, rd_bm, rd_bm0, rd_append, rd_extend, rd_pop, rd_count, rd_cat, rd_rep, rd_anyI, rd_all, rd_fld, rd_sfld, rd_new, rd_yes, rd_wipe0, rd_wipe1, rd_try, rd_start, rd_cxK,
  List.map_cons, List.map_nil, List.length_cons, List.length_nil, List.cons_append, List.nil_append, List.append_nil, List.replicate_succ, List.replicate_zero, List.getElem?_cons_zero, List.getElem?_cons_succ, List.set_cons_zero, List.set_cons_succ, Option.some.injEq, V.int.injEq, V.bl.injEq, V.ref.injEq, List.cons.injEq, if_true, if_false, Bool.false_eq_true, eq_self_iff_true,
  exists_eq_left, exists_eq_left', exists_and_left, exists_and_right, exists_eq_right, exists_eq_right', exists_eq', exists_eq, true_and, and_true, and_self, exists_const, Nat.reduceAdd, Nat.reduceSub]))
local macro_rules | `(tactic| walk_at "om") => `(tactic| ((try simp only [decide_eq_true_eq, decide_eq_false_iff_not, Bool.not_eq_true', Bool.not_eq_true, Bool.not_eq_false', Bool.not_eq_false, Bool.and_eq_true, Bool.or_eq_true, Bool.or_eq_false_iff, Bool.and_eq_false_iff, Decidable.not_not, ne_eq, Nat.reduceAdd] at *); omega))
section
variable {P : Program} {w : World} {K : PySem.W.Frag} {mg : Str → Option Value} {base : Heap} {ad : Ad}
def sp_order (ad : Ad) : Sp := fun vs H Q E => ∃ l ps rs, vs = [.ref l] ∧ H l = some (.lst (ps.map V.ref)) ∧ Recs ad H ps rs ∧ (∀ r ∈ rs, r.name.length ≤ 255) ∧ rs.length ≤ 100000 ∧ (Sn28.ordered rs = true → ∀ H', Same H H' → Q .non H') ∧ (Sn28.ordered rs = false → ∀ H', Same H H' → E (.ref ad.k_BadImage) none H')
theorem sc_check_order : FnScope ["records", "k"] ["records"] (defScope s_check_order) := ⟨rfl, rfl, rfl, by decide +kernel, rfl, by decide +kernel, by decide +kernel⟩
theorem refs_at {ps : List Addr} {z : Int} {j : Nat} {p : Addr} (h : z = (j : Int)) (hp : ps[j]? = some p) : atI (ps.map V.ref) z = some (V.ref p) := by
  rw [h]
  exact atI_nat (by rw [List.getElem?_map, hp]; rfl)
theorem g_check_order (T : Txt K mg ad) : Good P w K mg base (CXE P w) 3 "check_order" ["records"] (sp_order ad) := by
  refine T.f_check_order.goodE sc_check_order (fun vs H Q E h => ?_) (fun f cdv A outer s H vs Q E hr h => ?_)
  · obtain ⟨c, d, e, rfl, _⟩ := h
    rfl
  · obtain ⟨l, ps, rs, rfl, hl, R, hn, hlen, q1, q2⟩ := h
    refine ⟨_, (pss_one (ps_for PassesOwn.leaving rfl (pi_range2 rfl T.n_range (pa_cons pe_int (pa_cons (pe_callB call_len_seq rfl T.n_len (by decide +kernel) (pa_cons (pv 0) pa_nil)) pa_nil))) (pg_name (i := 1) sc_check_order.nd rfl (Or.inl rfl)) (pss_one (ps_if (pt_not (pt_val (pe_callG (g_comes_before T) hr (by decide) rfl pass0 (pa_cons (pe_fld (pe_ix ix_list (pv 0) (pe_op op_sub (pv 1) pe_int) (fun _ _ => rfl)) rfl) (pa_cons (pe_fld (pe_ix ix_list (pv 0) (pv 1) (fun _ _ => rfl)) rfl) pa_nil))))) (pss_one (ps_raise rfl rfl T.e_BadImage raiseE)) pss_nil)))), ?_⟩
    have hle : ps.length = rs.length := Paired.length R
    walk_at "rd"
    refine ⟨_, .inl (SqL.of hl), ?_⟩
    rw [List.length_map]
    refine ⟨_, _, ⟨rfl, rfl⟩, ⟨by decide, by decide, by omega, by omega⟩, ?_⟩
    refine LoopJ.range (fun i σ H' => ∃ v : Option V, σ = [some (.ref l), v] ∧ Same H H' ∧ ∀ j x y, j < i → rs[j]? = some x → rs[j + 1]? = some y → Sn28.less x.name y.name = true) ⟨none, rfl, Same.refl H, fun j x y hj => by omega⟩ ?_ ?_
    · rintro i σ H1 hi ⟨v, rfl, s1, ho⟩
      have h1 : i < ps.length := by omega
      have h2 : i + 1 < ps.length := by omega
      have g1 : ps[i]? = some ps[i] := List.getElem?_eq_getElem h1
      have g2 : ps[i + 1]? = some ps[i + 1] := List.getElem?_eq_getElem h2
      obtain ⟨r1, k1, x1⟩ := R.get g1
      obtain ⟨r2, k2, x2⟩ := R.get g2
      obtain ⟨d1, n1, a1, b1, _⟩ := x1.same s1
      obtain ⟨d2, n2, a2, b2, _⟩ := x2.same s1
      walk_at "rd"
      refine ⟨_, SqL.of (s1 _ _ hl), _, refs_at (j := i) (by omega) g1, ?_⟩
      walk_at "rd"
      refine ⟨_, _, _, a1, T.k_Record.cl, T.k_Record.na _ (.tail _ (.tail _ (.tail _ (.head _)))), _, rfs_name r1 n1, _, SqL.of (s1 _ _ hl), _, refs_at (j := i + 1) (by push_cast; omega) g2, ?_⟩
      walk_at "rd"
      refine ⟨_, _, _, a2, T.k_Record.cl, T.k_Record.na _ (.tail _ (.tail _ (.tail _ (.head _)))), _, rfs_name r2 n2, ?_⟩
      refine ⟨n1, n2, r1.name, r2.name, rfl, b1, b2, hn _ (List.mem_of_getElem? k1), hn _ (List.mem_of_getElem? k2), fun H2 s2 => ?_⟩
      walk_at "rd"
      refine ite2 (fun c => q2 ?_ H2 (s1.trans s2)) (fun c => ⟨s1.trans s2, fun j x y hj hx hy => ?_⟩)
      · refine Bool.eq_false_iff.mpr fun z => ?_
        have := (ordered_iff rs).mp z i r1 r2 k1 k2
        rw [this] at c
        cases c
      · by_cases e : j = i
        · subst e
          rw [k1] at hx
          rw [k2] at hy
          cases hx
          cases hy
          simpa using c
        · exact ho j x y (by omega) hx hy
    · rintro σ H1 ⟨v, rfl, s1, ho⟩
      refine q1 ((ordered_iff rs).mpr fun i x y hx hy => ho i x y ?_ hx hy) H1 s1
      have := (List.getElem?_eq_some_iff.mp hy).1
      omega
def sp_folder (K : PySem.W.Frag) (ad : Ad) : Sp := fun vs H Q E => ∃ p b, ∃ p1 p2 self up, vs = [.ref p, .ref p1, .ref p2] ∧ SqL K H p (ivs b) ∧ IsB b ∧ b.length ≤ 100000 ∧ RecAt ad H p1 self ∧ RecAt ad H p2 up ∧ OutL ad H (readG b self up) Q E
def FolInv (ad : Ad) (H : Hp) (b : Bytes) (rs : List Rec) (l : Addr) (ps : List Addr) (σ0 : List (Option V)) (i : Nat) (σ : L2.St) (H' : Hp) : Prop := ∃ v : Option V, σ = σ0 ++ [v] ∧ Same H H' ∧ H' l = some (.lst (ps.map V.ref)) ∧ ((rs.take i).all fun x => nameOk x && placeOk b x) = true
theorem sc_read_folder : FnScope ["image", "folder", "above", "records", "members", "record"] ["image", "folder", "above"] (defScope s_read_folder) := ⟨rfl, rfl, rfl, by decide +kernel, rfl, by decide +kernel, by decide +kernel⟩
theorem g_read_folder (T : Txt K mg ad) : Good P w K mg base (CXE P w) 7 "read_folder" ["image", "folder", "above"] (sp_folder K ad) := by
  refine T.f_read_folder.goodE sc_read_folder (fun vs H Q E h => ?_) (fun f cdv A outer s H vs Q E hr h => ?_)
  · obtain ⟨c, d, e, g, g2, g3, rfl, _⟩ := h
    rfl
  · obtain ⟨p, b, p1, p2, self, up, rfl, hS, hB, hbl, hr1, hr2, q1, q2⟩ := h
    refine ⟨_, (pss_cons (ps_expr (pe_callG (g_check_folder_size T) hr (by decide) rfl passE (pa_cons (pv 1) pa_nil)))
      (pss_cons (ps_expr (pe_callG (g_check_in_image T) hr (by decide) rfl passE (pa_cons (pv 0) (pa_cons (pv 1) pa_nil))))
      (pss_cons (ps_set (i := 3) sc_read_folder.nd rfl (Or.inl rfl) (pe_callG (g_read_all_records T) hr (by decide) rfl passE (pa_cons (pv 0) (pa_cons (pv 1) pa_nil))))
      (pss_cons (ps_if (pt_cmpR op_lt (pe_callB call_len_seq rfl T.n_len (by decide +kernel) (pa_cons (pv 3) pa_nil)) pe_int (nomark _)) (pss_one (ps_raise rfl rfl T.e_BadImage raiseE)) pss_nil)
      (pss_cons (ps_expr (pe_callG (g_check_link T) hr (by decide) rfl passE (pa_cons (pe_ix ix_list (pv 3) pe_int (fun _ _ => rfl)) (pa_cons (pv 1) (pa_cons (pe_tupc rfl T.c_SELF_NAME) pa_nil)))))
      (pss_cons (ps_expr (pe_callG (g_check_link T) hr (by decide) rfl passE (pa_cons (pe_ix ix_list (pv 3) pe_int (fun _ _ => rfl)) (pa_cons (pv 2) (pa_cons (pe_tupc rfl T.c_ABOVE_NAME) pa_nil)))))
      (pss_cons (ps_set (i := 4) sc_read_folder.nd rfl (Or.inl rfl) (pe_slice sl_list (pv 3) (po_some pe_int) po_none))
      (pss_cons (ps_for PassesOwn.leaving rfl (pi_list (pv 4)) (pg_name (i := 5) sc_read_folder.nd rfl (Or.inl rfl)) (pss_cons (ps_expr (pe_callG (g_check_name T) hr (by decide) rfl passE (pa_cons (pv 5) pa_nil)))
      (pss_one (ps_expr (pe_callG (g_check_in_image T) hr (by decide) rfl passE (pa_cons (pv 0) (pa_cons (pv 5) pa_nil)))))))
      (pss_cons (ps_expr (pe_callG (g_check_order T) hr (by decide) rfl passE (pa_cons (pv 4) pa_nil)))
      (pss_one (ps_ret (pv 4)))))))))))), ?_⟩
    walk_at "rd"
    refine ⟨p1, self, rfl, hr1, fun c1 => ?_, fun c1 => q2 (by unfold readG; rw [if_pos (.inl c1)]) H (Same.refl H)⟩
    walk_at "rd"
    refine ⟨p, b, p1, self, rfl, hS, hr1, fun c2 => ?_, fun c2 => q2 (by unfold readG; rw [if_pos (.inr (by unfold placeOk at c2; walk_at "om"))]) H (Same.refl H)⟩
    have c2' : 2048 * self.place + self.size ≤ b.length := by unfold placeOk at c2; walk_at "om"
    have e0 : readG b self up = (secs b (2048 * self.place) (self.size / 2048)).bind fun l => match l with
      | s :: u :: r => if linkOk s self [0] = true ∧ linkOk u up [1] = true ∧ (r.all fun x => nameOk x && placeOk b x) = true ∧ Sn28.ordered r = true then some r else none
      | _ => none := by
      unfold readG
      exact if_neg (fun z => z.elim c1 (fun z => by omega))
    walk_at "rd"
    refine ⟨p, b, p1, self, rfl, hS, hB, hbl, hr1, by omega, c2', fun rs H1 e1 s1 l ps nl hl R => ?_, fun e1 H1 s1 => q2 (by rw [e0, e1]; rfl) H1 s1⟩
    have hok := secs_ok hB (self.size / 2048) (2048 * self.place) rs (by omega) e1
    have hln := secs_len hB (self.size / 2048) (2048 * self.place) rs (by omega) e1
    have hle : ps.length = rs.length := Paired.length R
    walk_at "rd"
    refine ⟨_, .inl (SqL.of hl), ?_⟩
    rw [List.length_map]
    refine ite2 (fun c3 => q2 ?_ H1 s1) (fun c3 => ?_)
    · rw [e0, e1, Option.bind_some]
      match rs, hle with
      | [], _ => rfl
      | [_], _ => rfl
      | _ :: _ :: _, h =>
        simp only [List.length_cons] at h
        walk_at "om"
    · match rs, ps, hle, R, e1, hok, hln, hl, c3 with
      | [], ps, h, R, e1, hok, hln, hl, c3 => simp only [List.length_nil] at h; walk_at "om"
      | [_], ps, h, R, e1, hok, hln, hl, c3 => simp only [List.length_cons, List.length_nil] at h; walk_at "om"
      | r0 :: r1 :: rs, [], h, R, e1, hok, hln, hl, c3 => simp only [List.length_cons, List.length_nil] at h; omega
      | r0 :: r1 :: rs, [_], h, R, e1, hok, hln, hl, c3 => simp only [List.length_cons, List.length_nil] at h; omega
      | r0 :: r1 :: rs, x0 :: x1 :: ps, h, .cons R0 (.cons R1 R), e1, hok, hln, hl, c3 =>
        rw [e1, Option.bind_some] at e0
        dsimp only at e0
        have no : ∀ H', Same H H' → ¬ (linkOk r0 self [0] = true ∧ linkOk r1 up [1] = true ∧ (rs.all fun x => nameOk x && placeOk b x) = true ∧ Sn28.ordered rs = true) → E (.ref ad.k_BadImage) none H' := fun H' s z => q2 (by rw [e0, if_neg z]) H' s
        refine ⟨_, SqL.of hl, _, refs_at (j := 0) rfl rfl, ?_⟩
        refine ⟨x0, p1, _, r0, self, [0], rfl, R0, hr1.same s1, T.c_SELF_NAME.2, fun c4 H2 s2 => ?_, fun c4 H2 s2 => no H2 (s1.trans s2) fun z => by rw [z.1] at c4; cases c4⟩
        walk_at "rd"
        refine ⟨_, SqL.of (s2 _ _ hl), _, refs_at (j := 1) rfl rfl, ?_⟩
        refine ⟨x1, p2, _, r1, up, [1], rfl, R1.same s2, hr2.same (s1.trans s2), T.c_ABOVE_NAME.2, fun c5 H3 s3 => ?_, fun c5 H3 s3 => no H3 ((s1.trans s2).trans s3) fun z => by rw [z.2.1] at c5; cases c5⟩
        have s13 := s2.trans s3
        have s03 := s1.trans s13
        walk_at "rd"
        refine ⟨_, SqL.of (s13 _ _ hl), fun l2 h2 => ?_⟩
        rw [show cutV ((x0 :: x1 :: ps).map V.ref) (some 2) none = ps.map V.ref from cut_from (i := 2) rfl]
        have s4 := same_upd (o := .lst (ps.map V.ref)) (Same.refl H3) h2
        have s04 := s03.trans s4
        have R4 : Recs ad (upd H3 l2 (.lst (ps.map V.ref))) ps rs := Recs.same R (s13.trans s4)
        have nl2 : H l2 = none := s03.free h2
        refine ⟨⟨_, SqL.of upd_same⟩, LoopJ.list (xs := ps.map V.ref) (FolInv ad (upd H3 l2 (.lst (ps.map V.ref))) b rs l2 ps [some (.ref p), some (.ref p1), some (.ref p2), some (.ref l), some (.ref l2)]) ⟨none, rfl, Same.refl _, upd_same, rfl⟩ (fun i σ H' _ h => by obtain ⟨v, _, _, h, _⟩ := h; exact SqL.of h) ?_ ?_⟩
        · rintro i x σ H5 hx ⟨v, rfl, s5, e5, ok⟩
          obtain ⟨y, hy, rfl⟩ : ∃ y, ps[i]? = some y ∧ x = .ref y := by
            rw [List.getElem?_map] at hx
            cases e : ps[i]? with
            | none => rw [e] at hx; cases hx
            | some y => rw [e] at hx; exact ⟨y, rfl, (Option.some.inj hx).symm⟩
          obtain ⟨r, hr5, ry⟩ := R4.get hy
          have okr := hok r (List.mem_cons_of_mem _ (List.mem_cons_of_mem _ (List.mem_of_getElem? hr5)))
          walk_at "rd"
          refine ⟨y, r, rfl, ry.same s5, by have := okr.n2; omega, fun c6 H6 s6 => ?_, fun c6 H6 s6 => no H6 ((s04.trans s5).trans s6) fun z => ?_⟩
          · walk_at "rd"
            refine ⟨p, b, y, r, rfl, ((s04.trans s5).trans s6).seq hS, ry.same (s5.trans s6), fun c7 => ?_, fun c7 => no H6 ((s04.trans s5).trans s6) fun z => ?_⟩
            · refine ⟨_, rfl, s5.trans s6, s6 _ _ e5, ?_⟩
              rw [take_snoc hr5, List.all_append, ok, List.all_cons, c6, c7]
              rfl
            · have := List.all_eq_true.mp z.2.2.1 r (List.mem_of_getElem? hr5)
              rw [c7, Bool.and_false] at this
              cases this
          · have := List.all_eq_true.mp z.2.2.1 r (List.mem_of_getElem? hr5)
            rw [c6, Bool.false_and] at this
            cases this
        · rintro σ H5 ⟨v, rfl, s5, e5, ok⟩
          simp only [List.length_cons] at h
          rw [List.length_map, show ps.length = rs.length by omega, List.take_length] at ok
          walk_at "rd"
          refine ⟨l2, ps, rs, rfl, e5, R4.same s5, fun r hr => by have := (hok r (List.mem_cons_of_mem _ (List.mem_cons_of_mem _ hr))).n2; omega, ?_, fun c6 H6 s6 => ?_, fun c6 H6 s6 => no H6 ((s04.trans s5).trans s6) fun z => by rw [z.2.2.2] at c6; cases c6⟩
          · simp only [List.length_cons] at hln
            omega
          · walk_at "rd"
            exact q1 rs H6 (by rw [e0, if_pos ⟨c4, c5, ok, c6⟩]) ((s04.trans s5).trans s6) l2 ps nl2 (s6 _ _ e5) (R4.same (s5.trans s6))
end
end Dx
set_option linter.all false
set_option maxRecDepth 100000
namespace Dx
open PySem PySem.Spec PyProof.Rows L2 MM
open Sn28 (Rec Bytes at_)
def nfs (a1 a2 a3 : V) (l : Addr) : List (Str × V) := [("record", a1), ("above", a2), ("depth", a3), ("members", .ref l)]
def spNode (C : Addr) : Sp := fun vs H Q _ => ∃ p dx a1 a2 a3, vs = [V.ref p, a1, a2, a3] ∧ H p = some (.ins C dx []) ∧ ∀ l, H l = none → Q .non (upd (upd H l (.lst [])) p (.ins C dx (nfs a1 a2 a3 l)))
def tNewN (C : Addr) (t : TA) : TE := fun σ H Q => t σ H fun vs H1 => ∃ a1 a2 a3, vs = [a1, a2, a3] ∧ ∀ x dx l, H1 x = none → H1 dx = none → H1 l = none → dx ≠ x → l ≠ x → l ≠ dx → Q (.ref x) (upd (upd (upd H1 dx (.own x)) l (.lst [])) x (.ins C dx (nfs a1 a2 a3 l)))
theorem upd_comm {H : Hp} {a b : Addr} {o u : HO} (h : a ≠ b) : upd (upd H a o) b u = upd (upd H b u) a o := by
  funext c
  by_cases ca : c = a
  · subst ca; rw [upd_ne h, upd_same, upd_same]
  · by_cases cb : c = b
    · subst cb; rw [upd_same, upd_ne ca, upd_same]
    · rw [upd_ne cb, upd_ne ca, upd_ne ca, upd_ne cb]
section
variable {X : Cx} {k j : Nat} {x : Str} {C : Addr} {ps : List Str} {p pos : Pos} {e : Expr} {es : List Expr} {t : TA}
theorem pe_makeN (G : MkG X.prog X.w X.K X.mg X.base k x C ps (spNode C)) (hr : Room j X.A) (hk : k + 1 ≤ j) (hg : Gl X x) (ha : PA X (e :: es) t) (hdb : (x == ("__debug__" : Str)) = false := by decide)
    (he : starEach (e :: es) X.env = (false, eval e X.env) :: starEach es X.env := by rfl) (hpl : (backTo pos (starEach es X.env)).any (·.1) = false := by rfl) : PE X (.Call (.Name x p) (e :: es) [] pos) (tNewN C t) := by
  obtain ⟨f, fd, M, F, b, m⟩ := G.ex
  intro pins s σ H Q I h
  refine wpAny_Call_Name_kw (ld_glob I hg m ?_ hdb)
  refine PySem.W.callWith_K (h₀ := X.base) I.ok.mod.kin M.kp (thn (ha pos pins s σ H _ I h) fun us s1 ⟨vs, H1, I1, r, a1, a2, a3, ev, q⟩ => ⟨I1.kIn, ?_⟩) he hpl
  refine run_make (E := E0) M F (hr.mono hk) b .nil pass0 I1 r (fun y dx nx nd ne => ?_)
  subst ev
  rw [List.append_nil]
  refine ⟨y, dx, a1, a2, a3, rfl, upd_same, fun l hl => ⟨rfl, ?_⟩⟩
  have ly : l ≠ y := fun z => by rw [z, upd_same] at hl; cases hl
  rw [upd_ne ly] at hl
  have ld : l ≠ dx := fun z => by rw [z, upd_same] at hl; cases hl
  rw [upd_ne ld] at hl
  rw [upd_comm (Ne.symm ly), upd_twice]
  exact q y dx l nx nd hl ne ly ld
end
section
variable {X : Cx} {e : Expr} {f : Str} {pos : Pos} {ta : TE}
theorem ix_listK (K : PySem.W.Frag) (hK : X.K = K) : IxR X (rIxL K) := by
  subst hK
  exact ix_list
theorem pe_fldK (K : PySem.W.Frag) (hK : X.K = K) (he : PE X e ta) (hb : attributeBase e f X.env (eval e X.env) = eval e X.env) : PE X (.Attribute e f pos) (tFld K ta f) := by
  subst hK
  exact pe_fld he hb
end
section
variable {ts : TA} {σ : L2.St} {H : Hp} {Q : VK} {C : Addr}
theorem rd_newN : tNewN C ts σ H Q = ts σ H fun vs H1 => ∃ a1 a2 a3, vs = [a1, a2, a3] ∧ ∀ x dx l, H1 x = none → H1 dx = none → H1 l = none → dx ≠ x → l ≠ x → l ≠ dx → Q (.ref x) (upd (upd (upd H1 dx (.own x)) l (.lst [])) x (.ins C dx (nfs a1 a2 a3 l))) := rfl
end
end Dx
set_option linter.all false
set_option maxRecDepth 100000
set_option maxHeartbeats 4000000
namespace Dx
open PySem PySem.Spec PyProof.Rows L2 MM
open Sn28 (Rec Bytes at_)
local macro_rules | `(tactic| walk_at "rd") => `(tactic| (try simp only [rd_newN, rd_var, rd_c, rd_op, rd_un, rd_i0, rd_i, rd_u, rd_seq, rd_next, rd_asg, rd_name, rd_ret, rd_drop, rd_ifS, rd_test, rd_b, rd_chain, rd_and, rd_or, rd_not, rd_andV, rd_orV, rd_notV, rd_if, rd_cons, rd_nil, rd_call, rd_cb, rd_sl, rd_part, rd_nopart, rd_slL, rd_eqL, rd_eqT, rd_ltL, rd_ixL, rd_lst, rd_listrev, rd_raise, rd_for, rd_lc, rd_iList, rd_iRng1, rd_iRng2, rd_iRng3, rd_iRev, rd_iStr, rd_bm, rd_bm0, rd_append, rd_extend, rd_pop, rd_count, rd_cat, rd_rep, rd_anyI, rd_all, rd_fld, rd_sfld, rd_new, rd_yes, rd_wipe0, rd_wipe1, rd_try, rd_start, rd_cxK,
  List.map_cons, List.map_nil, List.length_cons, List.length_nil, List.cons_append, List.nil_append, List.append_nil, List.replicate_succ, List.replicate_zero, List.getElem?_cons_zero, List.getElem?_cons_succ, List.set_cons_zero, List.set_cons_succ, Option.some.injEq, V.int.injEq, V.bl.injEq, V.ref.injEq, List.cons.injEq, if_true, if_false, Bool.false_eq_true, eq_self_iff_true,
  exists_eq_left, exists_eq_left', exists_and_left, exists_and_right, exists_eq_right, exists_eq_right', exists_eq', exists_eq, true_and, and_true, and_self, exists_const, Nat.reduceAdd, Nat.reduceSub]))
local macro_rules | `(tactic| walk_at "om") => `(tactic| ((try simp only [decide_eq_true_eq, decide_eq_false_iff_not, Bool.not_eq_true', Bool.not_eq_true, Bool.not_eq_false', Bool.not_eq_false, Bool.and_eq_true, Bool.or_eq_true, Bool.or_eq_false_iff, Bool.and_eq_false_iff, Decidable.not_not, ne_eq, Nat.reduceAdd] at *); omega))
section
variable {P : Program} {w : World} {K : PySem.W.Frag} {mg : Str → Option Value} {base : Heap} {ad : Ad}
theorem sc_Node : FnScope ["self", "record", "above", "depth"] ["self", "record", "above", "depth"] (defScope s_Node) := ⟨rfl, rfl, rfl, by decide +kernel, rfl, by decide +kernel, by decide +kernel⟩
theorem m_Node (T : Txt K mg ad) : MkG P w K mg base 1 "Node" ad.k_Node ["self", "record", "above", "depth"] (spNode ad.k_Node) := by
  obtain ⟨f, fd, M, F, b⟩ := T.k_Node.mks
  have na := T.k_Node.na
  refine ⟨f, fd, M, F.ok sc_Node (fun vs H Q E h => ?_) (fun cdv A outer s H vs Q E hr h => ?_), b, T.k_Node.mgx⟩
  · obtain ⟨p, dx, a1, a2, a3, rfl, _⟩ := h
    rfl
  · obtain ⟨p, dx, a1, a2, a3, rfl, hp, q⟩ := h
    refine ⟨_, (pss_cons (ps_fld (pv 0) (pv 1) rfl)
      (pss_cons (ps_fld (pv 0) (pv 2) rfl)
      (pss_cons (ps_fld (pv 0) (pv 3) rfl)
      (pss_one (ps_fld (pv 0) (pe_lst pa_nil) rfl))))), ?_⟩
    walk_at "rd"
    refine ⟨_, _, _, hp, T.k_Node.cl, na _ (.head _), by decide, _, _, _, upd_same, T.k_Node.cl, na _ (.tail _ (.head _)), (by show 1 < 1000; decide), _, _, _, upd_same, T.k_Node.cl, na _ (.tail _ (.tail _ (.head _))), (by show 2 < 1000; decide), Nat.zero_le _, fun l hl => ?_⟩
    rw [upd_twice, upd_twice] at hl ⊢
    have lp : l ≠ p := fun z => by rw [z, upd_same] at hl; cases hl
    refine ⟨_, _, _, (by rw [upd_ne (Ne.symm lp), upd_same]), T.k_Node.cl, na _ (.tail _ (.tail _ (.tail _ (.head _)))), (by show 3 < 1000; decide), ?_⟩
    rw [upd_ne lp] at hl
    rw [upd_comm (Ne.symm lp), upd_twice]
    exact q l hl
theorem sc_Tree : FnScope ["self", "folders", "files"] ["self", "folders", "files"] (defScope s_Tree) := ⟨rfl, rfl, rfl, by decide +kernel, rfl, by decide +kernel, by decide +kernel⟩
theorem m_Tree (T : Txt K mg ad) : MkG P w K mg base 1 "Tree" ad.k_Tree ["self", "folders", "files"] (spNew ad.k_Tree ["folders", "files"]) := by
  obtain ⟨f, fd, M, F, b⟩ := T.k_Tree.mks
  have na := T.k_Tree.na
  refine ⟨f, fd, M, F.ok sc_Tree (fun vs H Q E h => ?_) (fun cdv A outer s H vs Q E hr h => ?_), b, T.k_Tree.mgx⟩
  · obtain ⟨p, dx, ws, rfl, hl, _⟩ := h
    rw [List.length_cons, hl]
    rfl
  · obtain ⟨p, dx, ws, rfl, hl, hp, q⟩ := h
    match ws, hl with
    | [a1, a2], _ =>
      refine ⟨_, (pss_cons (ps_fld (pv 0) (pv 1) rfl)
      (pss_one (ps_fld (pv 0) (pv 2) rfl))), ?_⟩
      walk_at "rd"
      refine ⟨_, _, _, hp, T.k_Tree.cl, na _ (.head _), by decide, _, _, _, upd_same, T.k_Tree.cl, na _ (.tail _ (.head _)), (by show 1 < 1000; decide), ?_⟩
      rw [upd_twice]
      exact q
theorem nfs_record (a1 a2 a3 : V) (l : Addr) : (nfs a1 a2 a3 l).lookup ("record" : Str) = some a1 := rfl
theorem nfs_above (a1 a2 a3 : V) (l : Addr) : (nfs a1 a2 a3 l).lookup ("above" : Str) = some a2 := rfl
theorem nfs_depth (a1 a2 a3 : V) (l : Addr) : (nfs a1 a2 a3 l).lookup ("depth" : Str) = some a3 := rfl
theorem nfs_members (a1 a2 a3 : V) (l : Addr) : (nfs a1 a2 a3 l).lookup ("members" : Str) = some (.ref l) := rfl
theorem nfs_place (a1 a2 a3 : V) (l : Addr) : (nfs a1 a2 a3 l).lookup ("place" : Str) = none := rfl
theorem nfs_put (a1 a2 a3 : V) (l m : Addr) : putF ("members" : Str) (.ref m) (nfs a1 a2 a3 l) = nfs a1 a2 a3 m := rfl
def NodeAt (ad : Ad) (H : Hp) (x : Addr) (r : Rec) (above depth : Nat) (m : Addr) : Prop := ∃ dx rp, H x = some (.ins ad.k_Node dx (nfs (.ref rp) (iv above) (iv depth) m)) ∧ RecAt ad H rp r
theorem NodeAt.same {H H' : Hp} {x m : Addr} {r : Rec} {a d : Nat} (h : NodeAt ad H x r a d m) (s : Same H H') : NodeAt ad H' x r a d m := by
  obtain ⟨dx, rp, h1, h2⟩ := h
  exact ⟨dx, rp, s _ _ h1, h2.same s⟩
theorem NodeAt.putN {H : Hp} {x y m : Addr} {r : Rec} {a d : Nat} {o : HO} (h : NodeAt ad H x r a d m) (hy : ∃ dx v1 v2 v3 l, H y = some (.ins ad.k_Node dx (nfs v1 v2 v3 l))) (ne : x ≠ y) : NodeAt ad (upd H y o) x r a d m := by
  obtain ⟨dx, rp, h1, h2⟩ := h
  obtain ⟨dy, v1, v2, v3, l, e⟩ := hy
  exact ⟨dx, rp, by rw [upd_ne ne]; exact h1, h2.put (.inr ⟨_, _, _, e, nfs_place _ _ _ _⟩)⟩
theorem NodeAt.putL {H : Hp} {x l m : Addr} {r : Rec} {a d : Nat} {o : HO} {ps : List Addr} (h : NodeAt ad H x r a d m) (hl : H l = some (.lst (ps.map V.ref))) : NodeAt ad (upd H l o) x r a d m := by
  obtain ⟨dx, rp, h1, h2⟩ := h
  exact ⟨dx, rp, by rw [upd_ne (ne_of h1 hl (by intro z; cases z))]; exact h1, h2.put (.inl ⟨ps, hl⟩)⟩
def MemAt (ad : Ad) (H : Hp) (L : Addr) (ns : List Addr) (fs : List Q) (q : Q) (k : Addr) (r : Rec) : Prop :=
  (r.folder = true → ∃ (t : Nat) (q' : Q), ns[t]? = some k ∧ fs[t]? = some q' ∧ q'.rec_ = r ∧ q'.up = q.rec_ ∧ q'.depth = q.depth + 1) ∧
  (r.folder = false → k ∉ ns ∧ ∃ m a d, NodeAt ad H k r a d m ∧ m ≠ L ∧ H m = some (.lst []))
structure FamAt (ad : Ad) (H : Hp) (b : Bytes) (L : Addr) (ns : List Addr) (fs : List Q) (num : Nat) : Prop where
  lst : H L = some (.lst (ns.map V.ref))
  len : ns.length = fs.length
  nd : ns.Nodup
  node : ∀ (i : Nat) (x : Addr) (q : Q), ns[i]? = some x → fs[i]? = some q → ∃ m, NodeAt ad H x q.rec_ q.above q.depth m ∧ m ≠ L ∧ (num ≤ i → H m = some (.lst [])) ∧
    (i < num → ∃ (ks : List Addr) (rs : List Rec), readG b q.rec_ q.up = some rs ∧ H m = some (.lst (ks.map V.ref)) ∧ ks.length = rs.length ∧ ∀ (j : Nat) (k : Addr) (r : Rec), ks[j]? = some k → rs[j]? = some r → MemAt ad H L ns fs q k r)
  up : ∀ (i : Nat) (q : Q), fs[i]? = some q → 1 ≤ q.above ∧ ∃ qa, fs[q.above - 1]? = some qa ∧ qa.rec_ = q.up
theorem MemAt.same {H H' : Hp} {L k : Addr} {ns : List Addr} {fs : List Q} {q : Q} {r : Rec} (h : MemAt ad H L ns fs q k r) (s : Same H H') : MemAt ad H' L ns fs q k r := by
  refine ⟨h.1, fun c => ?_⟩
  obtain ⟨h1, m, a, d, h2, h3, h4⟩ := h.2 c
  exact ⟨h1, m, a, d, h2.same s, h3, s _ _ h4⟩
theorem FamAt.same {H H' : Hp} {b : Bytes} {L : Addr} {ns : List Addr} {fs : List Q} {num : Nat} (F : FamAt ad H b L ns fs num) (s : Same H H') : FamAt ad H' b L ns fs num := by
  refine ⟨s _ _ F.lst, F.len, F.nd, fun i x q hx hq => ?_, F.up⟩
  obtain ⟨m, h1, h2, h3, h4⟩ := F.node i x q hx hq
  refine ⟨m, h1.same s, h2, fun c => s _ _ (h3 c), fun c => ?_⟩
  obtain ⟨ks, rs, g1, g2, g3, g4⟩ := h4 c
  exact ⟨ks, rs, g1, s _ _ g2, g3, fun j k r e1 e2 => (g4 j k r e1 e2).same s⟩
theorem NodeAt.some {H : Hp} {x m : Addr} {r : Rec} {a d : Nat} (h : NodeAt ad H x r a d m) : ∃ o, H x = some o := by
  obtain ⟨dx, rp, h1, _⟩ := h
  exact ⟨_, h1⟩
theorem FamAt.has {H : Hp} {b : Bytes} {L : Addr} {ns : List Addr} {fs : List Q} {num : Nat} (F : FamAt ad H b L ns fs num) {k : Addr} (hk : k ∈ ns) : ∃ o, H k = some o := by
  obtain ⟨i, hi⟩ := List.getElem?_of_mem hk
  have hl := (List.getElem?_eq_some_iff.mp hi).1
  have hq : fs[i]? = some (fs[i]'(by rw [← F.len]; exact hl)) := List.getElem?_eq_getElem _
  obtain ⟨m, h1, _⟩ := F.node i k _ hi hq
  exact h1.some
theorem FamAt.step {H1 H3 H5 : Hp} {b : Bytes} {L D x dx rp m0 : Addr} {ns ks : List Addr} {fs : List Q} {rs : List Rec} {q : Q} {num : Nat} (F : FamAt ad H1 b L ns fs num) (hx : ns[num]? = some x) (hq : fs[num]? = some q) (s13 : Same H1 H3) (hr : readG b q.rec_ q.up = some rs) (hk : ks.length = rs.length) (hnd : ks.Nodup)
    (new : ∀ (j : Nat) (k : Addr) (r : Rec), ks[j]? = some k → rs[j]? = some r → H1 k = none ∧ ∃ m, NodeAt ad H3 k r (num + 1) (q.depth + 1) m ∧ H1 m = none ∧ H3 m = some (.lst []))
    (hD : H3 D = some (.lst (ks.map V.ref))) (nD : H1 D = none) (hx3 : H3 x = some (.ins ad.k_Node dx (nfs (.ref rp) (iv q.above) (iv q.depth) m0))) (hrp : RecAt ad H3 rp q.rec_)
    (s45 : Same (upd H3 x (.ins ad.k_Node dx (nfs (.ref rp) (iv q.above) (iv q.depth) D))) H5) :
    FamAt ad (upd H5 L (.lst ((ns ++ pick ks rs).map V.ref))) b L (ns ++ pick ks rs) (fs ++ kids (num + 1) q rs) (num + 1) := by
  have hL3 : H3 L = some (.lst (ns.map V.ref)) := s13 _ _ F.lst
  have Lx : L ≠ x := ne_of hL3 hx3 (by intro z; cases z)
  have hL5 : H5 L = some (.lst (ns.map V.ref)) := s45 _ _ (by rw [upd_ne Lx]; exact hL3)
  have xs : ∃ o, H1 x = some o := F.has (List.mem_of_getElem? hx)
  have fx : ∀ {k : Addr}, H1 k = none → k ≠ x := fun {k} h z => by
    obtain ⟨o, e⟩ := xs
    rw [z, e] at h
    cases h
  have fL : ∀ {k : Addr}, H1 k = none → k ≠ L := fun {k} h z => by
    rw [z, F.lst] at h
    cases h
  have fn : ∀ {k : Addr}, H1 k = none → k ∉ ns := fun {k} h z => by
    obtain ⟨o, e⟩ := F.has z
    rw [e] at h
    cases h
  have tr : ∀ {y r a d m}, NodeAt ad H3 y r a d m → y ≠ x → NodeAt ad (upd H5 L (.lst ((ns ++ pick ks rs).map V.ref))) y r a d m := fun h ne => ((h.putN ⟨_, _, _, _, _, hx3⟩ ne).same s45).putL hL5
  have tl : ∀ {m : Addr} {o : List V}, H3 m = some (.lst o) → m ≠ L → upd H5 L (.lst ((ns ++ pick ks rs).map V.ref)) m = some (.lst o) := fun {m o} h ne => by
    rw [upd_ne ne]
    exact s45 _ _ (by rw [upd_ne (ne_of h hx3 (by intro z; cases z))]; exact h)
  have pk : ∀ {k : Addr}, k ∈ pick ks rs → H1 k = none := fun {k} h => by
    obtain ⟨j, r, e1, e2, _⟩ := pick_mem h
    exact (new j k r e1 e2).1
  have hnl := (List.getElem?_eq_some_iff.mp hx).1
  have hle := F.len
  refine ⟨upd_same, ?_, ?_, fun i y q' hy hq' => ?_, fun i q' hq' => ?_⟩
  · rw [List.length_append, List.length_append, pick_len ks rs hk, kids_len, F.len]
  · refine List.nodup_append.mpr ⟨F.nd, (pick_sub ks rs).nodup hnd, fun a ha c hc z => ?_⟩
    subst z
    exact fn (pk hc) ha
  · by_cases hi : i < ns.length
    · rw [List.getElem?_append_left hi] at hy
      rw [List.getElem?_append_left (by omega)] at hq'
      obtain ⟨m, n1, n2, n3, n4⟩ := F.node i y q' hy hq'
      by_cases e : i = num
      · subst e
        rw [hx] at hy
        rw [hq] at hq'
        cases hy
        cases hq'
        have xL : x ≠ L := Ne.symm Lx
        refine ⟨D, ⟨dx, rp, by rw [upd_ne xL]; exact s45 _ _ upd_same, ((hrp.put (.inr ⟨_, _, _, hx3, nfs_place _ _ _ _⟩)).same s45).put (.inl ⟨ns, hL5⟩)⟩, fL nD, fun c => by omega, fun _ => ⟨ks, rs, hr, tl hD (fL nD), hk, fun j k r e1 e2 => ⟨fun c => ?_, fun c => ?_⟩⟩⟩
        · obtain ⟨t, t1, t2⟩ := pick_of ks rs j k r e1 e2 c
          refine ⟨ns.length + t, ⟨r, q.rec_, q.path ++ [r.name], i + 1, q.depth + 1⟩, ?_, ?_, rfl, rfl, rfl⟩
          · rw [List.getElem?_append_right (by omega), Nat.add_sub_cancel_left]
            exact t1
          · rw [List.getElem?_append_right (by omega), F.len, Nat.add_sub_cancel_left]
            unfold kids
            rw [List.getElem?_map, t2]
            rfl
        · obtain ⟨g1, m', g2, g3, g4⟩ := new j k r e1 e2
          refine ⟨fun z => ?_, m', _, _, tr g2 (fx g1), fL g3, tl g4 (fL g3)⟩
          rcases List.mem_append.mp z with z | z
          · exact fn g1 z
          · obtain ⟨j', r', y1, y2, y3⟩ := pick_mem z
            have ej := nd_ix hnd y1 e1
            subst ej
            rw [e2] at y2
            cases y2
            rw [c] at y3
            cases y3
      · have ne : y ≠ x := fun z => e (nd_ix F.nd hy (by rw [z]; exact hx))
        refine ⟨m, tr (n1.same s13) ne, n2, fun c => tl (s13 _ _ (n3 (by omega))) n2, fun c => ?_⟩
        obtain ⟨ks', rs', g1, g2, g3, g4⟩ := n4 (by omega)
        refine ⟨ks', rs', g1, tl (s13 _ _ g2) n2, g3, fun j k r e1 e2 => ⟨fun c => ?_, fun c => ?_⟩⟩
        · obtain ⟨t, q2, t1, t2, t3⟩ := (g4 j k r e1 e2).1 c
          exact ⟨t, q2, by rw [List.getElem?_append_left (List.getElem?_eq_some_iff.mp t1).1]; exact t1, by rw [List.getElem?_append_left (List.getElem?_eq_some_iff.mp t2).1]; exact t2, t3⟩
        · obtain ⟨u1, m', a, d, u2, u3, u4⟩ := (g4 j k r e1 e2).2 c
          refine ⟨fun z => ?_, m', a, d, tr (u2.same s13) (fun z => u1 (by rw [z]; exact List.mem_of_getElem? hx)), u3, tl (s13 _ _ u4) u3⟩
          rcases List.mem_append.mp z with z | z
          · exact u1 z
          · obtain ⟨o, eo⟩ := u2.some
            rw [pk z] at eo
            cases eo
    · rw [List.getElem?_append_right (by omega)] at hy
      rw [List.getElem?_append_right (by omega), ← F.len] at hq'
      obtain ⟨j, r, e1, e2, e3, e4⟩ := pick_get ks rs _ y hy
      obtain ⟨g1, m', g2, g3, g4⟩ := new j y r e1 e2
      unfold kids at hq'
      rw [List.getElem?_map, e4] at hq'
      have e5 := Option.some.inj hq'
      subst e5
      exact ⟨m', tr g2 (fx g1), fL g3, fun _ => tl g4 (fL g3), fun c => by omega⟩
  · by_cases hi : i < fs.length
    · rw [List.getElem?_append_left hi] at hq'
      obtain ⟨h1, qa, h2, h3⟩ := F.up i q' hq'
      exact ⟨h1, qa, by rw [List.getElem?_append_left (List.getElem?_eq_some_iff.mp h2).1]; exact h2, h3⟩
    · rw [List.getElem?_append_right (by omega)] at hq'
      unfold kids at hq'
      rw [List.getElem?_map] at hq'
      cases e4 : (rs.filter fun x => x.folder)[i - fs.length]? with
      | none => rw [e4] at hq'; cases hq'
      | some r =>
        rw [e4] at hq'
        have e5 := Option.some.inj hq'
        subst e5
        refine ⟨Nat.le_add_left _ _, q, ?_, rfl⟩
        rw [Nat.add_sub_cancel, List.getElem?_append_left (by omega)]
        exact hq
end
end Dx
set_option linter.all false
set_option maxRecDepth 100000
set_option maxHeartbeats 4000000
namespace Dx
open PySem PySem.Spec PyProof.Rows L2 MM
open Sn28 (Rec Bytes at_)
local macro_rules | `(tactic| walk_at "rd") => `(tactic| (try simp only [rd_newN, rd_var, rd_c, rd_op, rd_un, rd_i0, rd_i, rd_u, rd_seq, rd_next, rd_asg, rd_name, rd_ret, rd_drop, rd_ifS, rd_test, rd_b, rd_chain, rd_and, rd_or, rd_not, rd_andV, rd_orV, rd_notV, rd_if, rd_cons, rd_nil, rd_call, rd_cb, rd_sl, rd_part, rd_nopart, rd_slL, rd_eqL, rd_eqT, rd_ltL, rd_ixL, rd_lst, rd_listrev, rd_raise, rd_for, rd_lc, rd_iList, rd_iRng1, rd_iRng2, rd_iRng3, rd_iRev, rd_iStr, rd_bm, rd_bm0, rd_append, rd_extend, rd_pop, rd_count, rd_cat, rd_rep, rd_anyI, rd_all, rd_fld, rd_sfld, rd_new, rd_yes, rd_wipe0, rd_wipe1, rd_try, rd_start, rd_cxK,
  List.map_cons, List.map_nil, List.length_cons, List.length_nil, List.cons_append, List.nil_append, List.append_nil, List.replicate_succ, List.replicate_zero, List.getElem?_cons_zero, List.getElem?_cons_succ, List.set_cons_zero, List.set_cons_succ, Option.some.injEq, V.int.injEq, V.bl.injEq, V.ref.injEq, List.cons.injEq, if_true, if_false, Bool.false_eq_true, eq_self_iff_true,
  exists_eq_left, exists_eq_left', exists_and_left, exists_and_right, exists_eq_right, exists_eq_right', exists_eq', exists_eq, true_and, and_true, and_self, exists_const, Nat.reduceAdd, Nat.reduceSub]))
local macro_rules | `(tactic| walk_at "om") => `(tactic| ((try simp only [decide_eq_true_eq, decide_eq_false_iff_not, Bool.not_eq_true', Bool.not_eq_true, Bool.not_eq_false', Bool.not_eq_false, Bool.and_eq_true, Bool.or_eq_true, Bool.or_eq_false_iff, Bool.and_eq_false_iff, Decidable.not_not, ne_eq, Nat.reduceAdd] at *); omega))
section
variable {P : Program} {w : World} {K : PySem.W.Frag} {mg : Str → Option Value} {base : Heap} {ad : Ad}
def sp_tree (K : PySem.W.Frag) (ad : Ad) : Sp := fun vs H Q E => ∃ p b p1 top, vs = [.ref p, .ref p1] ∧ SqL K H p (ivs b) ∧ IsB b ∧ b.length ≤ 100000 ∧ RecAt ad H p1 top ∧
  Out H (runG b 16387 [topQ top] 0 0) (fun r H' => ∀ t L dt ns, H' t = some (.ins ad.k_Tree dt [("folders", .ref L), ("files", iv r.2)]) → FamAt ad H' b L ns r.1 r.1.length → Q (.ref t) H') E ad.k_BadImage
def TreeInv (ad : Ad) (H : Hp) (b : Bytes) (p p1 : Addr) (top : Rec) (L : Addr) (m : Nat) (σ : L2.St) (H' : Hp) : Prop := ∃ (num files : Nat) (ns : List Addr) (fs : List Q) (v5 v6 v7 v8 : Option V), m = 16387 - num ∧ σ = [some (.ref p), some (.ref p1), some (.ref L), some (iv files), some (iv num), v5, v6, v7, v8, none, none] ∧ Same H H' ∧ FamAt ad H' b L ns fs num ∧
  fs.length - 1 + files ≤ 16384 ∧ 1 ≤ fs.length ∧ num ≤ fs.length ∧ (∀ k ∈ ns, H k = none) ∧ runG b 16387 [topQ top] 0 0 = runG b (16387 - num) fs num files
def MkInv (ad : Ad) (H2 : Hp) (D : Addr) (rs : List Rec) (num depth i : Nat) (H' : Hp) : Prop := ∃ ks : List Addr, Same H2 H' ∧ H' D = some (.lst (ks.map V.ref)) ∧ ks.length = i ∧ ks.Nodup ∧ ∀ (j : Nat) (k : Addr) (r : Rec), ks[j]? = some k → rs[j]? = some r → H2 k = none ∧ (∃ o, H' k = some o) ∧ ∃ m, NodeAt ad H' k r num depth m ∧ H2 m = none ∧ m ≠ D ∧ H' m = some (.lst [])
theorem runG_step {b : Bytes} {n num files : Nat} {fs : List Q} {q : Q} {rs : List Rec} (h1 : fs[num]? = some q) (h2 : readG b q.rec_ q.up = some rs) : runG b (n + 1) fs num files = if kids (num + 1) q rs ≠ [] ∧ q.depth = 8 then none
      else if 16384 < (fs.length + (kids (num + 1) q rs).length - 1) + (files + (rs.length - (kids (num + 1) q rs).length)) then none
      else runG b n (fs ++ kids (num + 1) q rs) (num + 1) (files + (rs.length - (kids (num + 1) q rs).length)) := by
  rw [runG, h1]
  dsimp only
  rw [h2]
  rfl
theorem runG_none {b : Bytes} {n num files : Nat} {fs : List Q} {q : Q} (h1 : fs[num]? = some q) (h2 : readG b q.rec_ q.up = none) : runG b (n + 1) fs num files = none := by
  rw [runG, h1]
  dsimp only
  rw [h2]
  rfl
theorem readG_len {b : Bytes} (hB : IsB b) {self up : Rec} {rs : List Rec} (h : readG b self up = some rs) : 34 * rs.length ≤ b.length := by
  rw [readG_eq] at h
  cases e : readF b self up with
  | none => rw [e] at h; cases h
  | some r =>
    rw [e, Option.bind_some] at h
    split at h
    · cases h
      exact (readF_ok hB e).2
    · cases h
theorem map_get {ps : List Addr} {i : Nat} {x : V} (hx : (ps.map V.ref)[i]? = some x) : ∃ y, ps[i]? = some y ∧ x = .ref y := by
  rw [List.getElem?_map] at hx
  cases e : ps[i]? with
  | none => rw [e] at hx; cases hx
  | some y => rw [e] at hx; exact ⟨y, rfl, (Option.some.inj hx).symm⟩
theorem MkInv.step {H2 H3 : Hp} {D x dx l y : Addr} {rs : List Rec} {r : Rec} {num depth i : Nat} (h : MkInv ad H2 D rs num depth i H3) (hD : H2 D = none) (hr : rs[i]? = some r) (ry : RecAt ad H2 y r) (nx : H3 x = none) (nd : H3 dx = none) (nl : H3 l = none) (ndx : dx ≠ x) (nlx : l ≠ x) (nld : l ≠ dx) :
    ∃ acc, (upd (upd (upd H3 dx (.own x)) l (.lst [])) x (.ins ad.k_Node dx (nfs (.ref y) (iv num) (iv depth) l))) D = some (.lst acc) ∧ acc.length = i ∧ MkInv ad H2 D rs num depth (i + 1) (upd (upd (upd (upd H3 dx (.own x)) l (.lst [])) x (.ins ad.k_Node dx (nfs (.ref y) (iv num) (iv depth) l))) D (.lst (acc ++ [V.ref x]))) := by
  obtain ⟨ks, s3, eD, hki, hnd, hks⟩ := h
  have s4 : Same H3 (upd (upd (upd H3 dx (.own x)) l (.lst [])) x (.ins ad.k_Node dx (nfs (.ref y) (iv num) (iv depth) l))) := same_put (same_put (same_put (Same.refl H3) nd) nl) nx
  generalize hH4 : upd (upd (upd H3 dx (.own x)) l (.lst [])) x (.ins ad.k_Node dx (nfs (.ref y) (iv num) (iv depth) l)) = H4 at s4 ⊢
  have ex : H4 x = some (.ins ad.k_Node dx (nfs (.ref y) (iv num) (iv depth) l)) := by rw [← hH4, upd_same]
  have el : H4 l = some (.lst []) := by rw [← hH4, upd_ne nlx, upd_same]
  have eD4 : H4 D = some (.lst (ks.map V.ref)) := s4 _ _ eD
  have xD : x ≠ D := ne_of ex eD4 (by intro z; cases z)
  have lD : l ≠ D := fun z => by rw [z, eD] at nl; cases nl
  have xks : x ∉ ks := fun z => by
    obtain ⟨j, hj⟩ := List.getElem?_of_mem z
    have hjl := (List.getElem?_eq_some_iff.mp hj).1
    have hil := (List.getElem?_eq_some_iff.mp hr).1
    obtain ⟨_, ⟨o, e⟩, _⟩ := hks j x rs[j] hj (List.getElem?_eq_getElem (by omega))
    rw [e] at nx
    cases nx
  refine ⟨_, eD4, (by rw [List.length_map]; exact hki), ks ++ [x], same_put (s3.trans s4) hD, (by rw [upd_same, List.map_append]; rfl), by rw [List.length_append, hki]; rfl, List.nodup_append.mpr ⟨hnd, by simp, fun a ha c hc e => ?_⟩, fun j k r' hk hr' => ?_⟩
  · cases List.mem_singleton.mp hc
    subst e
    exact xks ha
  · by_cases c : j < ks.length
    · rw [List.getElem?_append_left c] at hk
      obtain ⟨h1, ⟨o, h2⟩, m, h3, h4, h5, h6⟩ := hks j k r' hk hr'
      have h3' := (h3.same s4).putL (o := .lst (ks.map V.ref ++ [V.ref x])) eD4
      exact ⟨h1, h3'.some, m, h3', h4, h5, by rw [upd_ne h5]; exact s4 _ _ h6⟩
    · rw [List.getElem?_append_right (by omega)] at hk
      have : j = ks.length := by
        have := (List.getElem?_eq_some_iff.mp hk).1
        simp at this
        omega
      subst this
      rw [Nat.sub_self] at hk
      cases hk
      rw [hki, hr] at hr'
      cases hr'
      have nd' : NodeAt ad (upd H4 D (.lst (ks.map V.ref ++ [V.ref x]))) x r num depth l := NodeAt.putL ⟨dx, y, ex, (ry.same s3).same s4⟩ eD4
      exact ⟨s3.free nx, nd'.some, l, nd', s3.free nl, lD, by rw [upd_ne lD]; exact el⟩
theorem sc_read_tree : FnScope ["image", "top", "folders", "files", "number", "folder", "above", "records", "below", "record", "node"] ["image", "top"] (defScope s_read_tree) := ⟨rfl, rfl, rfl, by decide +kernel, rfl, by decide +kernel, by decide +kernel⟩
theorem g_read_tree (T : Txt K mg ad) : Good P w K mg base (CXE P w) 8 "read_tree" ["image", "top"] (sp_tree K ad) := by
  refine T.f_read_tree.goodE sc_read_tree (fun vs H Q E h => ?_) (fun f cdv A outer s H vs Q E hr h => ?_)
  · obtain ⟨c, d, e, g, rfl, _⟩ := h
    rfl
  · obtain ⟨p, b, p1, top, rfl, hS, hB, hbl, hr1, q1, q2⟩ := h
    refine ⟨_, (pss_cons (ps_set (i := 2) sc_read_tree.nd rfl (Or.inl rfl) (pe_lst (pa_cons (pe_makeN (m_Node T) hr (by decide) rfl (pa_cons (pv 1) (pa_cons pe_int (pa_cons pe_int pa_nil)))) pa_nil)))
      (pss_cons (ps_set (i := 3) sc_read_tree.nd rfl (Or.inl rfl) pe_int)
      (pss_cons (ps_set (i := 4) sc_read_tree.nd rfl (Or.inr rfl) pe_int)
      (pss_cons (ps_while PassesOwn.leaving (pt_cmpR op_lt (pv 4) (pe_callB call_len_seq rfl T.n_len (by decide +kernel) (pa_cons (pv 2) pa_nil)) (nomark _)) (pss_cons (ps_set (i := 5) sc_read_tree.nd rfl (Or.inr rfl) (pe_ix ix_list (pv 2) (pv 4) (fun _ _ => rfl)))
      (pss_cons (ps_set (i := 6) sc_read_tree.nd rfl (Or.inl rfl) (pe_ix ix_list (pv 2) (pe_op op_sub (pe_fld (pv 5) rfl) pe_int) (fun _ _ => rfl)))
      (pss_cons (ps_set (i := 7) sc_read_tree.nd rfl (Or.inl rfl) (pe_callG (g_read_folder T) hr (by decide) rfl passE (pa_cons (pv 0) (pa_cons (pe_fld (pv 5) rfl) (pa_cons (pe_fld (pv 6) rfl) pa_nil)))))
      (pss_cons (ps_set (i := 4) sc_read_tree.nd rfl (Or.inr rfl) (pe_op op_add (pv 4) pe_int))
      (pss_cons (ps_fld (pv 5) (pe_lc rfl sc_read_tree.nd (pi_list (pv 7)) (blkOk_by (own := [("record", 9)]) (by rfl)) (fun _ _ _ _ _ => pg_name (i := 9) sc_read_tree.nd rfl (Or.inl rfl)) (fun _ _ _ _ _ => pts_nil) (fun _ _ _ _ _ => (pe_makeN (m_Node T) hr (by decide) rfl (pa_cons (pv 9) (pa_cons (pv 4) (pa_cons (pe_op op_add (pe_fldK K rfl (pv 5) rfl) pe_int) pa_nil)))))) rfl)
      (pss_cons (ps_setLc (i := 8) rfl sc_read_tree.nd rfl rfl (by rfl) (pi_list (pe_fld (pv 5) rfl)) (blkOk_by (own := [("node", 10)]) (by rfl)) (fun _ _ _ _ _ => pg_name (i := 10) sc_read_tree.nd rfl (Or.inl rfl)) (fun _ _ _ _ _ => (pts_one (pt_val (pe_fldK K rfl (pe_fldK K rfl (pv 10) rfl) rfl)))) (fun _ _ _ _ _ => (pv 10)))
      (pss_cons (ps_expr (pe_bm PySem.F.plainAttrs_list PySem.F.slot_list_extend PySem.F.type_list_extend mt_extend (pv 2) (pa_cons (pv 8) pa_nil)))
      (pss_cons (ps_set (i := 3) sc_read_tree.nd rfl (Or.inl rfl) (pe_op op_sub (pe_op op_add (pv 3) (pe_callB call_len_seq rfl T.n_len (by decide +kernel) (pa_cons (pv 7) pa_nil))) (pe_callB call_len_seq rfl T.n_len (by decide +kernel) (pa_cons (pv 8) pa_nil))))
      (pss_cons (ps_if (PW.pt (pw_and (pt_cmpR op_gt (pe_callB call_len_seq rfl T.n_len (by decide +kernel) (pa_cons (pv 8) pa_nil)) pe_int (nomark _)) (pw_and1 (pt_cmpR op_eqI (pe_fld (pv 5) rfl) (pe_const rfl T.c_MOST_DEEP) (nomark _))))) (pss_one (ps_raise rfl rfl T.e_BadImage raiseE)) pss_nil)
      (pss_one (ps_if (pt_cmpR op_gt (pe_op op_add (pe_op op_sub (pe_callB call_len_seq rfl T.n_len (by decide +kernel) (pa_cons (pv 2) pa_nil)) pe_int) (pv 3)) (pe_const rfl T.c_MOST_BELOW_TOP) (nomark _)) (pss_one (ps_raise rfl rfl T.e_BadImage raiseE)) pss_nil))))))))))))
      (pss_one (ps_ret (pe_makeG (m_Tree T) hr (by decide) rfl (pa_cons (pv 2) (pa_cons (pv 3) pa_nil))))))))), ?_⟩
    walk_at "rd"
    refine ⟨_, _, _, ⟨rfl, rfl, rfl⟩, fun x dx l hx hdx hl ndx nlx nld => ⟨by decide, fun L hL => ?_⟩⟩
    have s0 : Same H (upd (upd (upd (upd H dx (.own x)) l (.lst [])) x (.ins ad.k_Node dx (nfs (.ref p1) (.int 1) (.int 1) l))) L (.lst [V.ref x])) :=
      same_put (same_put (same_put (same_put (Same.refl H) hdx) hl) hx) (by
        by_cases c : L = x
        · rw [c]; exact hx
        · rw [upd_ne c] at hL
          by_cases c2 : L = l
          · rw [c2]; exact hl
          · rw [upd_ne c2] at hL
            by_cases c3 : L = dx
            · rw [c3]; exact hdx
            · rw [upd_ne c3] at hL; exact hL)
    have Lx : L ≠ x := fun z => by rw [z, upd_same] at hL; cases hL
    rw [upd_ne Lx] at hL
    have Ll : L ≠ l := fun z => by rw [z, upd_same] at hL; cases hL
    rw [upd_ne Ll] at hL
    have Ld : L ≠ dx := fun z => by rw [z, upd_same] at hL; cases hL
    rw [upd_ne Ld] at hL
    refine ⟨TreeInv ad H b p p1 top L, ⟨_, 0, 0, [x], [topQ top], none, none, none, none, rfl, rfl, s0, ⟨upd_same, rfl, by simp, ?_, ?_⟩, by show 1 - 1 + 0 ≤ 16384; decide, Nat.le_refl 1, Nat.zero_le _, ?_, rfl⟩, ?_⟩
    · intro i y q hy hq
      cases i with
      | succ i => simp at hy
      | zero =>
        cases hy
        cases hq
        refine ⟨l, ⟨dx, p1, by rw [upd_ne (Ne.symm Lx), upd_same]; rfl, hr1.same s0⟩, Ne.symm Ll, fun _ => by rw [upd_ne (Ne.symm Ll), upd_ne nlx, upd_same], fun c => by omega⟩
    · intro i q hq
      cases i with
      | succ i => simp at hq
      | zero =>
        cases hq
        exact ⟨Nat.le_refl _, topQ top, rfl, rfl⟩
    · intro k hk
      cases List.mem_singleton.mp hk
      exact hx
    clear s0 nlx nld ndx Lx Ll Ld hl hdx hx
    rintro m σ H1 ⟨num, files, ns, fs, v5, v6, v7, v8, rfl, rfl, s1, F, cap, h1, hnum, fresh, hrun⟩
    have hlen := F.len
    have hz : (200000 : Nat) < sizeLine := by decide
    walk_at "rd"
    refine ⟨_, .inl (SqL.of F.lst), ?_⟩
    rw [List.length_map]
    refine ite2 (fun c => ?_) (fun c => ?_)
    case refine_2 =>
      have e : num = fs.length := by walk_at "om"
      have hrun' : runG b 16387 [topQ top] 0 0 = some (fs, files) := by
        rw [hrun, show 16387 - num = (16386 - num) + 1 by omega]
        unfold runG
        rw [e, List.getElem?_eq_none (Nat.le_refl _)]
      intro t dt ht hdt ne
      refine q1 (fs, files) _ hrun' (same_upd (same_upd s1 hdt) (by rw [upd_ne (Ne.symm ne)]; exact ht)) t L dt ns upd_same ?_
      rw [← e]
      exact F.same (same_upd (same_upd (Same.refl H1) hdt) (by rw [upd_ne (Ne.symm ne)]; exact ht))
    have hn : num < ns.length := by walk_at "om"
    have hnf : num < fs.length := by omega
    have gx : ns[num]? = some ns[num] := List.getElem?_eq_getElem hn
    have gq : fs[num]? = some fs[num] := List.getElem?_eq_getElem hnf
    generalize ns[num] = x at gx
    generalize fs[num] = q at gq
    obtain ⟨m0, ⟨dx, rp, hx, hrp⟩, -, -, -⟩ := F.node num x q gx gq
    obtain ⟨ha1, qa, gqa, hqa⟩ := F.up num q gq
    have hna : q.above - 1 < ns.length := by
      have := (List.getElem?_eq_some_iff.mp gqa).1
      omega
    have gy : ns[q.above - 1]? = some ns[q.above - 1] := List.getElem?_eq_getElem hna
    generalize ns[q.above - 1] = y at gy
    obtain ⟨m1, ⟨dy, rpy, hy, hrpy⟩, -, -, -⟩ := F.node _ y qa gy gqa
    have na := T.k_Node.na
    refine ⟨fun σ' H' => ∃ m', m' < 16387 - num ∧ TreeInv ad H b p p1 top L m' σ' H', fun _ _ h => h, ?_⟩
    refine ⟨_, SqL.of F.lst, _, refs_at (j := num) rfl gx, ?_⟩
    walk_at "rd"
    refine ⟨_, _, _, hx, T.k_Node.cl, na _ (.tail _ (.head _)), _, nfs_above _ _ _ _, _, rfl, _, SqL.of F.lst, _, refs_at (j := q.above - 1) (by omega) gy, _, _, _, hx, T.k_Node.cl, na _ (.head _), _, nfs_record _ _ _ _, _, rfl, _, _, _, hy, T.k_Node.cl, na _ (.head _), _, nfs_record _ _ _ _, ?_⟩
    have e16 : 16387 - num = (16386 - num) + 1 := by omega
    refine ⟨p, b, rp, rpy, q.rec_, q.up, rfl, s1.seq hS, hB, hbl, hrp, (hqa ▸ hrpy), fun rs H2 e2 s2 l ps nl hl R => ?_, fun e2 H2 s2 => q2 (by rw [hrun, e16, runG_none gq e2]) H2 (s1.trans s2)⟩
    rw [e16, runG_step gq e2] at hrun
    have hle : ps.length = rs.length := Paired.length R
    have hx2 := s2 _ _ hx
    have hrl : rs.length ≤ 100000 := by
      have := readG_len hB e2
      omega
    walk_at "rd"
    refine ⟨⟨_, SqL.of hl⟩, LcJ.list (xs := ps.map V.ref) fun D hD => ⟨MkInv ad H2 D rs (num + 1) (q.depth + 1), ⟨[], same_upd (Same.refl H2) hD, upd_same, rfl, by simp, by simp⟩, ?_, ?_, ?_⟩⟩
    · rintro i H3 _ ⟨ks, s3, _⟩
      exact SqL.of (s3 _ _ hl)
    · rintro i z H3 hz ⟨ks, s3, eD, hki, hnd, hks⟩
      obtain ⟨y', hy', rfl⟩ := map_get hz
      obtain ⟨r, hr', ry⟩ := R.get hy'
      walk_at "rd"
      refine ⟨_, _, _, s3 _ _ hx2, T.k_Node.cl, na _ (.tail _ (.tail _ (.head _))), _, nfs_depth _ _ _ _, _, rfl, _, _, _, ⟨rfl, rfl, rfl⟩, fun x' dx' l' n1 n2 n3 e1 e2 e3 => ?_⟩
      obtain ⟨acc, a1, a2, a3⟩ := MkInv.step ⟨ks, s3, eD, hki, hnd, hks⟩ hD hr' ry n1 n2 n3 e1 e2 e3
      exact ⟨acc, a1, by have := (List.getElem?_eq_some_iff.mp hr').1; omega, a3⟩
    · rintro H3 ⟨ks, s3, eD, hki, hnd, hks⟩
      rw [List.length_map, hle] at hki
      have hx3 := s3 _ _ hx2
      walk_at "rd"
      refine ⟨_, _, _, hx3, T.k_Node.cl, na _ (.tail _ (.tail _ (.tail _ (.head _)))), (by show 4 < 1000; decide), ?_⟩
      rw [nfs_put]
      have Dx : D ≠ x := ne_of eD hx3 (by intro z; cases z)
      have step := fun (H5 : Hp) (s45 : Same _ H5) => FamAt.step F gx gq (s2.trans s3) e2 hki hnd (fun j k r e1 e2 => by
        obtain ⟨a1, _, m, a2, a3, a4, a5⟩ := hks j k r e1 e2
        exact ⟨s2.free a1, m, a2, s2.free a3, a5⟩) eD (s2.free hD) hx3 ((hrp.same s2).same s3) s45
      have eD4 : upd H3 x (.ins ad.k_Node dx (nfs (.ref rp) (iv q.above) (iv q.depth) D)) D = some (.lst (ks.map V.ref)) := by rw [upd_ne Dx]; exact eD
      have hx4 : upd H3 x (.ins ad.k_Node dx (nfs (.ref rp) (iv q.above) (iv q.depth) D)) x = some (.ins ad.k_Node dx (nfs (.ref rp) (iv q.above) (iv q.depth) D)) := upd_same
      have tr4 : ∀ {k r a d m}, NodeAt ad H3 k r a d m → k ≠ x → NodeAt ad (upd H3 x (.ins ad.k_Node dx (nfs (.ref rp) (iv q.above) (iv q.depth) D))) k r a d m := fun h ne => h.putN ⟨_, _, _, _, _, hx3⟩ ne
      have hl4 : ∀ {a : Addr} {o : List V}, H3 a = some (.lst o) → upd H3 x (.ins ad.k_Node dx (nfs (.ref rp) (iv q.above) (iv q.depth) D)) a = some (.lst o) := fun h => by rw [upd_ne (ne_of h hx3 (by intro z; cases z))]; exact h
      have s04 : Same H (upd H3 x (.ins ad.k_Node dx (nfs (.ref rp) (iv q.above) (iv q.depth) D))) := same_put ((s1.trans s2).trans s3) (fresh x (List.mem_of_getElem? gx))
      generalize upd H3 x (.ins ad.k_Node dx (nfs (.ref rp) (iv q.above) (iv q.depth) D)) = H4 at step eD4 hx4 tr4 hl4 s04 ⊢
      refine ⟨_, _, _, hx4, T.k_Node.cl, na _ (.tail _ (.tail _ (.tail _ (.head _)))), _, nfs_members _ _ _ _, _, rfl, ⟨_, SqL.of eD4⟩, LcJ.list (xs := ks.map V.ref) fun B hB' => ⟨fun i H5 => Same H4 H5 ∧ H5 B = some (.lst ((pick (ks.take i) (rs.take i)).map V.ref)), ⟨same_upd (Same.refl H4) hB', upd_same⟩, fun i H5 _ h => SqL.of (h.1 _ _ eD4), ?_, ?_⟩⟩
      · rintro i z H5 hz ⟨s5, eB⟩
        obtain ⟨k, hk, rfl⟩ := map_get hz
        have hil := (List.getElem?_eq_some_iff.mp hk).1
        have hri : rs[i]? = some rs[i] := List.getElem?_eq_getElem (by omega)
        generalize rs[i] = r at hri
        obtain ⟨n1, _, m, nk, n3, n4, n5⟩ := hks i k r hk hri
        have kx : k ≠ x := fun z => by rw [z, hx2] at n1; cases n1
        obtain ⟨dk, rk, ek, dr, nm, er, _⟩ := (tr4 nk kx).same s5
        have hps := pick_snoc ks rs i k r hk hri
        walk_at "rd"
        refine ⟨_, _, _, ek, T.k_Node.cl, na _ (.head _), _, nfs_record _ _ _ _, _, rfl, _, _, _, er, T.k_Record.cl, T.k_Record.na _ (.tail _ (.tail _ (.head _))), _, rfs_folder r nm, _, rfl, ?_⟩
        refine ite2 (fun c => ⟨_, eB, ?_, same_put s5 hB', ?_⟩) (fun c => ⟨s5, ?_⟩)
        · rw [List.length_map]
          have := (pick_sub (ks.take i) (rs.take i)).length_le
          rw [List.length_take] at this
          omega
        · rw [upd_same, hps, if_pos c, List.map_append]
          rfl
        · rw [hps, if_neg c, List.append_nil]
          exact eB
      · rintro H5 ⟨s5, eB⟩
        rw [List.length_map, List.take_length, hki, List.take_length] at eB
        have F' := step H5 s5
        have hL5 : H5 L = some (.lst (ns.map V.ref)) := s5 _ _ (hl4 (s3 _ _ (s2 _ _ F.lst)))
        have hl5 : H5 l = some (.lst (ps.map V.ref)) := s5 _ _ (hl4 (s3 _ _ hl))
        have hx5 := s5 _ _ hx4
        have lL : l ≠ L := fun z => by rw [z, F.lst] at nl; cases nl
        have BL : B ≠ L := fun z => by rw [z, hl4 (s3 _ _ (s2 _ _ F.lst))] at hB'; cases hB'
        have xL : x ≠ L := ne_of hx5 hL5 (by intro z; cases z)
        have hpl : (pick ks rs).length = (kids (num + 1) q rs).length := by rw [pick_len ks rs hki, kids_len]
        have hkl := kids_le (num + 1) q rs
        have s06 : Same H (upd H5 L (.lst ((ns ++ pick ks rs).map V.ref))) := same_put (s04.trans s5) hL
        have fresh' : ∀ k ∈ ns ++ pick ks rs, H k = none := fun k hk => by
          rcases List.mem_append.mp hk with h | h
          · exact fresh k h
          · obtain ⟨j, r, g1, g2, _⟩ := pick_mem h
            exact (s1.trans s2).free (hks j k r g1 g2).1
        walk_at "rd"
        refine ⟨tyL (SqL.of hL5), _, hL5, _, eB, (by rw [List.length_map, List.length_map]; omega), ?_⟩
        rw [← List.map_append]
        have hL6 : upd H5 L (.lst ((ns ++ pick ks rs).map V.ref)) L = some (.lst ((ns ++ pick ks rs).map V.ref)) := upd_same
        have hl6 : upd H5 L (.lst ((ns ++ pick ks rs).map V.ref)) l = some (.lst (ps.map V.ref)) := by rw [upd_ne lL]; exact hl5
        have hB6 : upd H5 L (.lst ((ns ++ pick ks rs).map V.ref)) B = some (.lst ((pick ks rs).map V.ref)) := by rw [upd_ne BL]; exact eB
        have hx6 : upd H5 L (.lst ((ns ++ pick ks rs).map V.ref)) x = some (.ins ad.k_Node dx (nfs (.ref rp) (iv q.above) (iv q.depth) D)) := by rw [upd_ne xL]; exact hx5
        generalize upd H5 L (.lst ((ns ++ pick ks rs).map V.ref)) = H6 at hL6 hl6 hB6 hx6 F' s06 ⊢
        refine ⟨_, .inl (SqL.of hl6), _, .inl (SqL.of hB6), _, .inl (SqL.of hB6), ?_⟩
        have tail : ¬(kids (num + 1) q rs ≠ [] ∧ q.depth = 8) → ∃ x_6, (SqL K H6 L x_6 ∨ SqT K H6 L x_6) ∧ if decide (16384 < (x_6.length : Int) - 1 + ((files : Int) + ((ps.map V.ref).length : Nat) - (((pick ks rs).map V.ref).length : Nat))) = true then E (Value.ref ad.k_BadImage) none H6 else ∃ m', m' < 16387 - num ∧ TreeInv ad H b p p1 top L m' [some (V.ref p), some (V.ref p1), some (V.ref L), some (V.int ((files : Int) + ((ps.map V.ref).length : Nat) - (((pick ks rs).map V.ref).length : Nat))), some (V.int ((num : Int) + 1)), some (V.ref x), some (V.ref y), some (V.ref l), some (V.ref B), none, none] H6 := by
          intro c1
          rw [if_neg c1] at hrun
          refine ⟨_, .inl (SqL.of hL6), ?_⟩
          rw [List.length_map, List.length_map, List.length_map, List.length_append, hpl, hlen, hle]
          refine ite2 (fun c2 => q2 ?_ H6 s06) (fun c2 => ?_)
          · rw [hrun, if_pos (by walk_at "om")]
          · have c3 : ¬ 16384 < (fs.length + (kids (num + 1) q rs).length - 1) + (files + (rs.length - (kids (num + 1) q rs).length)) := by walk_at "om"
            rw [if_neg c3] at hrun
            refine ⟨16386 - num, by omega, num + 1, files + (rs.length - (kids (num + 1) q rs).length), ns ++ pick ks rs, fs ++ kids (num + 1) q rs, some (.ref x), some (.ref y), some (.ref l), some (.ref B), by omega, ?_, s06, F', by rw [List.length_append]; omega, by rw [List.length_append]; omega, by rw [List.length_append]; omega, fresh', ?_⟩
            · rw [show (files : Int) + (rs.length : Nat) - ((kids (num + 1) q rs).length : Nat) = ((files + (rs.length - (kids (num + 1) q rs).length) : Nat) : Int) by omega]
              rfl
            · rw [hrun, show 16387 - (num + 1) = 16386 - num by omega]
        refine ite2 (fun c1 => ?_) (fun c1 => tail ?_)
        · refine ⟨_, _, _, hx6, T.k_Node.cl, na _ (.tail _ (.tail _ (.head _))), _, nfs_depth _ _ _ _, _, rfl, ite2 (fun c2 => q2 ?_ H6 s06) (fun c2 => tail ?_)⟩
          · rw [hrun, if_pos]
            refine ⟨fun z => ?_, by walk_at "om"⟩
            rw [List.length_map, hpl, z] at c1
            cases c1
          · rintro ⟨_, z⟩
            rw [z] at c2
            exact c2 rfl
        · rintro ⟨z, _⟩
          refine z (List.eq_nil_of_length_eq_zero ?_)
          rw [List.length_map, hpl] at c1
          walk_at "om"
end
end Dx
set_option linter.all false
set_option maxRecDepth 100000
set_option maxHeartbeats 4000000
namespace Dx
open PySem PySem.Spec PyProof.Rows L2 MM
open Sn28 (Rec Bytes at_)
local macro_rules | `(tactic| walk_at "rd") => `(tactic| (try simp only [rd_newN, rd_var, rd_c, rd_op, rd_un, rd_i0, rd_i, rd_u, rd_seq, rd_next, rd_asg, rd_name, rd_ret, rd_drop, rd_ifS, rd_test, rd_b, rd_chain, rd_and, rd_or, rd_not, rd_andV, rd_orV, rd_notV, rd_if, rd_cons, rd_nil, rd_call, rd_cb, rd_sl, rd_part, rd_nopart, rd_slL, rd_eqL, rd_eqT, rd_ltL, rd_ixL, rd_lst, rd_listrev, rd_raise, rd_for, rd_lc, rd_iList, rd_iRng1, rd_iRng2, rd_iRng3, rd_iRev, rd_iStr, rd_bm, rd_bm0, rd_append, rd_extend, rd_pop, rd_count, rd_cat, rd_rep, rd_anyI, rd_all, rd_fld, rd_sfld, rd_new, rd_yes, rd_wipe0, rd_wipe1, rd_try, rd_start, rd_cxK,
  List.map_cons, List.map_nil, List.length_cons, List.length_nil, List.cons_append, List.nil_append, List.append_nil, List.replicate_succ, List.replicate_zero, List.getElem?_cons_zero, List.getElem?_cons_succ, List.set_cons_zero, List.set_cons_succ, Option.some.injEq, V.int.injEq, V.bl.injEq, V.ref.injEq, List.cons.injEq, if_true, if_false, Bool.false_eq_true, eq_self_iff_true,
  exists_eq_left, exists_eq_left', exists_and_left, exists_and_right, exists_eq_right, exists_eq_right', exists_eq', exists_eq, true_and, and_true, and_self, exists_const, Nat.reduceAdd, Nat.reduceSub]))
local macro_rules | `(tactic| walk_at "om") => `(tactic| ((try simp only [decide_eq_true_eq, decide_eq_false_iff_not, Bool.not_eq_true', Bool.not_eq_true, Bool.not_eq_false', Bool.not_eq_false, Bool.and_eq_true, Bool.or_eq_true, Bool.or_eq_false_iff, Bool.and_eq_false_iff, Decidable.not_not, ne_eq, Nat.reduceAdd] at *); omega))
section
variable {P : Program} {w : World} {K : PySem.W.Frag} {mg : Str → Option Value} {base : Heap} {ad : Ad}
def sp_entry (ad : Ad) : Sp := fun vs H Q _ => ∃ (x m : Addr) (r : Rec) (a d : Nat) (low : Bool), vs = [.ref x, .bl low] ∧ NodeAt ad H x r a d m ∧ r.name.length < 256 ∧ ∀ l H', Same H H' → H l = none → H' l = some (.lst (ivs (enc (!low) ⟨r.place, a, r.name⟩))) → Q (.ref l) H'
theorem sc_write_entry : FnScope ["folder", "is_lower_first", "name", "padding", "place", "above"] ["folder", "is_lower_first"] (defScope s_write_entry) := ⟨rfl, rfl, rfl, by decide +kernel, rfl, by decide +kernel, by decide +kernel⟩
theorem g_write_entry (T : Txt K mg ad) : Good P w K mg base CX0 2 "write_entry" ["folder", "is_lower_first"] (sp_entry ad) := by
  refine T.f_write_entry.good0 sc_write_entry (fun vs H Q E h => ?_) (fun f cdv A outer s H vs Q E hr h => ?_)
  · obtain ⟨c, d, e, g, g2, g3, rfl, _⟩ := h
    rfl
  · obtain ⟨x, m, r, a, d, low, rfl, ⟨dx, rp, hx, dr, n, hrp, hn, hne⟩, hlen, q⟩ := h
    refine ⟨_, (pss_cons (ps_set (i := 2) sc_write_entry.nd rfl (Or.inl rfl) (pe_fld (pe_fld (pv 0) rfl) rfl))
      (pss_cons (ps_set (i := 3) sc_write_entry.nd rfl (Or.inl rfl) (pe_op op_rep (pe_lst (pa_cons pe_int pa_nil)) (pe_op op_mod (pe_callB call_len_seq rfl T.n_len (by decide +kernel) (pa_cons (pv 2) pa_nil)) pe_int)))
      (pss_cons (ps_set (i := 4) sc_write_entry.nd rfl (Or.inl rfl) (pe_callG (g_write_number T) hr (by decide) rfl pass0 (pa_cons (pe_fld (pe_fld (pv 0) rfl) rfl) (pa_cons pe_int (pa_cons (pv 1) pa_nil)))))
      (pss_cons (ps_set (i := 5) sc_write_entry.nd rfl (Or.inl rfl) (pe_callG (g_write_number T) hr (by decide) rfl pass0 (pa_cons (pe_fld (pv 0) rfl) (pa_cons pe_int (pa_cons (pv 1) pa_nil)))))
      (pss_one (ps_ret (pe_op op_cat (pe_op op_cat (pe_op op_cat (pe_op op_cat (pe_lst (pa_cons (pe_callB call_len_seq rfl T.n_len (by decide +kernel) (pa_cons (pv 2) pa_nil)) (pa_cons pe_int pa_nil))) (pv 4)) (pv 5)) (pv 2)) (pv 3)))))))), ?_⟩
    have na := T.k_Node.na
    have nr := T.k_Record.na
    walk_at "rd"
    refine ⟨_, _, _, hx, T.k_Node.cl, na _ (.head _), _, nfs_record _ _ _ _, _, rfl, _, _, _, hrp, T.k_Record.cl, nr _ (.tail _ (.tail _ (.tail _ (.head _)))), _, rfs_name r n, ?_⟩
    walk_at "rd"
    refine ⟨by decide, fun p0 n0 => ?_⟩
    have s1 := same_upd (o := .lst [V.int 0]) (Same.refl H) n0
    refine ⟨_, .inl (SqL.of (s1 _ _ hn)), by decide, _, upd_same, by omega, by omega, ?_, fun p1 n1 => ?_⟩
    · have hz : (1000000 : Nat) < sizeLine := by decide
      simp only [List.length_cons, List.length_nil]
      omega
    have e1 : (List.replicate ((((ivs r.name).length : Nat) : Int) % 2).toNat [V.int 0]).flatten = ivs (List.replicate (r.name.length % 2) 0) := by
      rw [ivs_len, show (((r.name.length : Nat) : Int) % 2).toNat = r.name.length % 2 by omega]
      exact rep_v rfl _
    rw [e1]
    have s2 := same_upd (o := .lst (ivs (List.replicate (r.name.length % 2) 0))) s1 n1
    have hp1 : upd (upd H p0 (.lst [V.int 0])) p1 (.lst (ivs (List.replicate (r.name.length % 2) 0))) p1 = some (.lst (ivs (List.replicate (r.name.length % 2) 0))) := upd_same
    generalize upd (upd H p0 (.lst [V.int 0])) p1 (.lst (ivs (List.replicate (r.name.length % 2) 0))) = H2 at s2 hp1 ⊢
    refine ⟨_, _, _, s2 _ _ hx, T.k_Node.cl, na _ (.head _), _, nfs_record _ _ _ _, _, rfl, _, _, _, s2 _ _ hrp, T.k_Record.cl, nr _ (.head _), _, rfs_place r n, ?_⟩
    refine ⟨r.place, 4, low, rfl, by decide, fun l3 H3 s3 n3 h3 => ?_⟩
    have s03 := s2.trans s3
    walk_at "rd"
    refine ⟨_, _, _, s03 _ _ hx, T.k_Node.cl, na _ (.tail _ (.head _)), _, nfs_above _ _ _ _, ?_⟩
    refine ⟨a, 2, low, rfl, by decide, fun l4 H4 s4 n4 h4 => ?_⟩
    have s04 := s03.trans s4
    walk_at "rd"
    have hz : (1000000 : Nat) < sizeLine := by decide
    have l1 : ([V.int (r.name.length : Nat), V.int 0] ++ ivs (num (!low) r.place 4)).length = 6 := by rw [List.length_append, ivs_len, num_len]; rfl
    have l2 : ([V.int (r.name.length : Nat), V.int 0] ++ ivs (num (!low) r.place 4) ++ ivs (num (!low) a 2)).length = 8 := by rw [List.length_append, l1, ivs_len, num_len]
    refine ⟨_, .inl (SqL.of (s04 _ _ hn)), by decide, fun p5 n5 => ?_⟩
    rw [ivs_len]
    have s5 := same_upd (o := .lst [V.int (r.name.length : Nat), V.int 0]) (Same.refl H4) n5
    refine ⟨_, upd_same, _, s5 _ _ (s4 _ _ h3), (by rw [ivs_len, num_len, List.length_cons, List.length_cons, List.length_nil]; omega), fun p6 n6 => ?_⟩
    have s6 := same_upd (o := .lst ([V.int (r.name.length : Nat), V.int 0] ++ ivs (num (!low) r.place 4))) s5 n6
    refine ⟨_, upd_same, _, s6 _ _ h4, (by rw [l1, ivs_len, num_len]; omega), fun p7 n7 => ?_⟩
    have s7 := same_upd (o := .lst ([V.int (r.name.length : Nat), V.int 0] ++ ivs (num (!low) r.place 4) ++ ivs (num (!low) a 2))) s6 n7
    refine ⟨_, upd_same, _, s7 _ _ (s04 _ _ hn), (by rw [l2, ivs_len]; omega), fun p8 n8 => ?_⟩
    have s8 := same_upd (o := .lst ([V.int (r.name.length : Nat), V.int 0] ++ ivs (num (!low) r.place 4) ++ ivs (num (!low) a 2) ++ ivs r.name)) s7 n8
    refine ⟨_, upd_same, _, s8 _ _ (s4 _ _ (s3 _ _ hp1)), (by rw [List.length_append, l2, ivs_len, ivs_len, List.length_replicate]; omega), fun p9 n9 => ?_⟩
    have s9 := same_upd (o := .lst ([V.int (r.name.length : Nat), V.int 0] ++ ivs (num (!low) r.place 4) ++ ivs (num (!low) a 2) ++ ivs r.name ++ ivs (List.replicate (r.name.length % 2) 0))) s8 n9
    refine q p9 _ (s04.trans s9) ((s04.trans s8).free n9) ?_
    rw [upd_same]
    unfold enc
    rw [ivs_app, ivs_app, ivs_app, ivs_app]
    rfl
structure FolAt (ad : Ad) (H : Hp) (L : Addr) (ns : List Addr) (fs : List Q) : Prop where
  lst : H L = some (.lst (ns.map V.ref))
  len : ns.length = fs.length
  cap : fs.length ≤ 20000
  node : ∀ (i : Nat) (x : Addr) (q : Q), ns[i]? = some x → fs[i]? = some q → ∃ m, NodeAt ad H x q.rec_ q.above q.depth m ∧ q.rec_.name.length < 256
theorem FolAt.same {H H' : Hp} {L : Addr} {ns : List Addr} {fs : List Q} (F : FolAt ad H L ns fs) (s : Same H H') : FolAt ad H' L ns fs :=
  ⟨s _ _ F.lst, F.len, F.cap, fun i x q h1 h2 => by
    obtain ⟨m, n1, n2⟩ := F.node i x q h1 h2
    exact ⟨m, n1.same s, n2⟩⟩
def sp_wtab (ad : Ad) : Sp := fun vs H Q _ => ∃ (L : Addr) (ns : List Addr) (fs : List MM.Q) (low : Bool), vs = [.ref L, .bl low] ∧ FolAt ad H L ns fs ∧ ∀ l H', Same H H' → H' l = some (.lst (ivs (encs (!low) (fs.map entryQ)))) → Q (.ref l) H'
theorem encs_snoc (high : Bool) (a : List Sn28.Entry) (e : Sn28.Entry) : encs high (a ++ [e]) = encs high a ++ enc high e := by
  unfold encs
  rw [List.flatMap_append, List.flatMap_cons, List.flatMap_nil, List.append_nil]
theorem encs_cap (high : Bool) : ∀ (fs : List Q), (∀ q ∈ fs, q.rec_.name.length < 256) → (encs high (fs.map entryQ)).length ≤ 300 * fs.length
  | [], _ => Nat.zero_le _
  | q :: fs, h => by
    have h1 := encs_cap high fs (fun x hx => h x (List.mem_cons_of_mem _ hx))
    have h2 := h q (List.mem_cons_self)
    unfold encs at h1 ⊢
    rw [List.map_cons, List.flatMap_cons, List.length_append, enc_len, List.length_cons]
    show 8 + q.rec_.name.length + q.rec_.name.length % 2 + _ ≤ _
    omega
theorem sc_write_table : FnScope ["folders", "is_lower_first", "table", "folder"] ["folders", "is_lower_first"] (defScope s_write_table) := ⟨rfl, rfl, rfl, by decide +kernel, rfl, by decide +kernel, by decide +kernel⟩
theorem g_write_table (T : Txt K mg ad) : Good P w K mg base CX0 3 "write_table" ["folders", "is_lower_first"] (sp_wtab ad) := by
  refine T.f_write_table.good0 sc_write_table (fun vs H Q E h => ?_) (fun f cdv A outer s H vs Q E hr h => ?_)
  · obtain ⟨c, d, e, g, rfl, _⟩ := h
    rfl
  · obtain ⟨L, ns, fs, low, rfl, F, q⟩ := h
    have hcap : ∀ i, (encs (!low) ((fs.take i).map entryQ)).length ≤ 300 * 20000 := fun i => by
      have := encs_cap (!low) (fs.take i) fun q hq => by
        obtain ⟨j, hj⟩ := List.getElem?_of_mem (List.mem_of_mem_take hq)
        have hjl := (List.getElem?_eq_some_iff.mp hj).1
        obtain ⟨m, _, h⟩ := F.node j (ns[j]'(by rw [F.len]; exact hjl)) q (List.getElem?_eq_getElem _) hj
        exact h
      have h2 := List.length_take_le' i fs
      have := F.cap
      omega
    have hz : (7000000 : Nat) < sizeLine := by decide
    refine ⟨_, (pss_cons (ps_set (i := 2) sc_write_table.nd rfl (Or.inl rfl) (pe_lst pa_nil))
      (pss_cons (ps_for PassesOwn.never rfl (pi_list (pv 0)) (pg_name (i := 3) sc_write_table.nd rfl (Or.inl rfl)) (pss_one (ps_expr (pe_bm PySem.F.plainAttrs_list PySem.F.slot_list_extend PySem.F.type_list_extend mt_extend (pv 2) (pa_cons (pe_callG (g_write_entry T) hr (by decide) rfl pass0 (pa_cons (pv 3) (pa_cons (pv 1) pa_nil))) pa_nil)))))
      (pss_one (ps_ret (pv 2))))), ?_⟩
    walk_at "rd"
    refine ⟨Nat.zero_le _, fun l nl => ⟨⟨_, SqL.of (same_upd (Same.refl H) nl _ _ F.lst)⟩, LoopJ.list (xs := ns.map V.ref) (fun i σ H' => ∃ v : Option V, σ = [some (.ref L), some (.bl low), some (.ref l), v] ∧ Same H H' ∧ H' l = some (.lst (ivs (encs (!low) ((fs.take i).map entryQ))))) ⟨none, rfl, same_upd (Same.refl H) nl, upd_same⟩ (fun i σ H' _ h => by obtain ⟨v, _, s1, _⟩ := h; exact SqL.of (s1 _ _ F.lst)) ?_ ?_⟩⟩
    · rintro i z σ H1 hi ⟨v, rfl, s1, e1⟩
      obtain ⟨x, hx, rfl⟩ := map_get hi
      have hil := (List.getElem?_eq_some_iff.mp hx).1
      have hq : fs[i]? = some (fs[i]'(by rw [← F.len]; exact hil)) := List.getElem?_eq_getElem _
      generalize fs[i]'(by rw [← F.len]; exact hil) = q' at hq
      obtain ⟨m, n1, n2⟩ := F.node i x q' hx hq
      walk_at "rd"
      refine ⟨tyL (SqL.of e1), x, m, q'.rec_, q'.above, q'.depth, low, rfl, n1.same s1, n2, fun l2 H2 s2 h2 e2 => ?_⟩
      walk_at "rd"
      refine ⟨_, s2 _ _ e1, _, e2, ?_, ?_⟩
      · have := hcap i
        rw [ivs_len, ivs_len, enc_len]
        dsimp only
        omega
      · refine ⟨same_put (s1.trans s2) nl, ?_⟩
        rw [upd_same, take_snoc hq, List.map_append, List.map_cons, List.map_nil, encs_snoc, ivs_app]
        rfl
    · rintro σ H1 ⟨v, rfl, s1, e1⟩
      rw [List.length_map, F.len, List.take_length] at e1
      walk_at "rd"
      exact q l H1 s1 e1
def sp_ctab (K : PySem.W.Frag) (ad : Ad) : Sp := fun vs H Q E => ∃ p b, ∃ (pl sz : Nat) (t : Addr) (tb : Bytes), vs = [.ref p, iv pl, iv sz, .ref t] ∧ SqL K H p (ivs b) ∧ H t = some (.lst (ivs tb)) ∧
  (sz = tb.length ∧ (b.drop (2048 * pl)).take sz = tb → ∀ H', Same H H' → Q .non H') ∧ (¬ (sz = tb.length ∧ (b.drop (2048 * pl)).take sz = tb) → ∀ H', Same H H' → E (.ref ad.k_BadImage) none H')
theorem sc_check_table : FnScope ["image", "place", "size", "table", "start"] ["image", "place", "size", "table"] (defScope s_check_table) := ⟨rfl, rfl, rfl, by decide +kernel, rfl, by decide +kernel, by decide +kernel⟩
theorem g_check_table (T : Txt K mg ad) : Good P w K mg base (CXE P w) 1 "check_table" ["image", "place", "size", "table"] (sp_ctab K ad) := by
  refine T.f_check_table.goodE sc_check_table (fun vs H Q E h => ?_) (fun f cdv A outer s H vs Q E hr h => ?_)
  · obtain ⟨c, d, e, g, g2, g3, rfl, _⟩ := h
    rfl
  · obtain ⟨p, b, pl, sz, t, tb, rfl, hS, ht, q1, q2⟩ := h
    refine ⟨_, (pss_cons (ps_set (i := 4) sc_check_table.nd rfl (Or.inl rfl) (pe_op op_mul (pv 1) (pe_const rfl T.c_SECTOR)))
      (pss_one (ps_if (PW.pt (pw_or (pt_cmpR op_neI (pv 2) (pe_callB call_len_seq rfl T.n_len (by decide +kernel) (pa_cons (pv 3) pa_nil)) (nomark _)) (pw_or1 (pt_cmpR (op_neL hr.units) (pe_slice sl_list (pv 0) (po_some (pv 4)) (po_some (pe_op op_add (pv 4) (pv 2)))) (pv 3) (nomark _))))) (pss_one (ps_raise rfl rfl T.e_BadImage raiseE)) pss_nil))), ?_⟩
    walk_at "rd"
    refine ⟨.inr ⟨by decide, by decide⟩, _, .inl (SqL.of ht), ?_⟩
    rw [ivs_len]
    refine ite2 (fun c => q2 (by rintro ⟨z, _⟩; walk_at "om") H (Same.refl H)) (fun c => ?_)
    refine ⟨_, hS, fun l hl => ?_⟩
    rw [cut_k (i := 2048 * pl) (k := sz) (by push_cast; omega) (by push_cast; omega)]
    have s1 := same_upd (o := .lst (ivs ((b.drop (2048 * pl)).take sz))) (Same.refl H) hl
    walk_at "rd"
    refine ⟨_, SqL.of upd_same, _, SqL.of (s1 _ _ ht), ?_⟩
    refine ite2 (fun c2 => q2 ?_ _ s1) (fun c2 => q1 ⟨by walk_at "om", ?_⟩ _ s1)
    · rintro ⟨_, z⟩
      rw [z] at c2
      simp at c2
    · simpa using c2
def sp_ctabs (K : PySem.W.Frag) (ad : Ad) : Sp := fun vs H Q E => ∃ p b, ∃ (pm : Addr) (size : Nat) (top : Rec) (L : Addr) (ns : List Addr) (fs : List MM.Q), vs = [.ref p, .ref pm, .ref L] ∧ SqL K H p (ivs b) ∧ MainAt ad H pm b size top ∧ FolAt ad H L ns fs ∧
  (tabOk b false (Sn28.low4 b (32768 + 140)) size fs = true ∧ tabOk b true (Sn28.high4 b (32768 + 148)) size fs = true → ∀ H', Same H H' → Q .non H') ∧
  (¬ (tabOk b false (Sn28.low4 b (32768 + 140)) size fs = true ∧ tabOk b true (Sn28.high4 b (32768 + 148)) size fs = true) → ∀ H', Same H H' → E (.ref ad.k_BadImage) none H')
theorem tab_iff {b : Bytes} {high : Bool} {p size : Nat} {fs : List Q} : tabOk b high p size fs = true ↔ (size = (encs high (fs.map entryQ)).length ∧ (b.drop (2048 * p)).take size = encs high (fs.map entryQ)) := by
  unfold tabOk
  rw [Bool.and_eq_true, decide_eq_true_eq, decide_eq_true_eq]
theorem sc_check_tables : FnScope ["image", "main", "folders"] ["image", "main", "folders"] (defScope s_check_tables) := ⟨rfl, rfl, rfl, by decide +kernel, rfl, by decide +kernel, by decide +kernel⟩
theorem g_check_tables (T : Txt K mg ad) : Good P w K mg base (CXE P w) 4 "check_tables" ["image", "main", "folders"] (sp_ctabs K ad) := by
  refine T.f_check_tables.goodE sc_check_tables (fun vs H Q E h => ?_) (fun f cdv A outer s H vs Q E hr h => ?_)
  · obtain ⟨c, d, e, g, g2, g3, g4, g5, rfl, _⟩ := h
    rfl
  · obtain ⟨p, b, pm, size, top, L, ns, fs, rfl, hS, M, F, q1, q2⟩ := h
    refine ⟨_, (pss_cons (ps_expr (pe_callG (g_check_table T) hr (by decide) rfl passE (pa_cons (pv 0) (pa_cons (pe_fld (pv 1) rfl) (pa_cons (pe_fld (pv 1) rfl) (pa_cons (pe_callG (g_write_table T) hr (by decide) rfl pass0 (pa_cons (pv 2) (pa_cons pe_bl pa_nil))) pa_nil))))))
      (pss_one (ps_expr (pe_callG (g_check_table T) hr (by decide) rfl passE (pa_cons (pv 0) (pa_cons (pe_fld (pv 1) rfl) (pa_cons (pe_fld (pv 1) rfl) (pa_cons (pe_callG (g_write_table T) hr (by decide) rfl pass0 (pa_cons (pv 2) (pa_cons pe_bl pa_nil))) pa_nil)))))))), ?_⟩
    obtain ⟨dx, q, n, hm, _, _⟩ := M.ex
    have na := T.k_Main.na
    walk_at "rd"
    refine ⟨_, _, _, hm, T.k_Main.cl, na _ (.tail _ (.head _)), _, rfl, _, _, _, hm, T.k_Main.cl, na _ (.head _), _, rfl, ?_⟩
    refine ⟨L, ns, fs, true, rfl, F, fun l1 H1 s1 h1 => ?_⟩
    refine ⟨p, b, _, _, l1, _, rfl, s1.seq hS, h1, fun c1 H2 s2 => ?_, fun c1 H2 s2 => q2 (fun z => c1 (tab_iff.mp z.1)) H2 (s1.trans s2)⟩
    have s02 := s1.trans s2
    walk_at "rd"
    refine ⟨_, _, _, s02 _ _ hm, T.k_Main.cl, na _ (.tail _ (.tail _ (.head _))), _, rfl, _, _, _, s02 _ _ hm, T.k_Main.cl, na _ (.head _), _, rfl, ?_⟩
    refine ⟨L, ns, fs, false, rfl, F.same s02, fun l3 H3 s3 h3 => ?_⟩
    refine ⟨p, b, _, _, l3, _, rfl, (s02.trans s3).seq hS, h3, fun c3 H4 s4 => ?_, fun c3 H4 s4 => q2 (fun z => c3 (tab_iff.mp z.2)) H4 ((s02.trans s3).trans s4)⟩
    exact q1 ⟨tab_iff.mpr c1, tab_iff.mpr c3⟩ H4 ((s02.trans s3).trans s4)
end
end Dx
set_option linter.all false
set_option maxRecDepth 100000
set_option maxHeartbeats 4000000
namespace Dx
open PySem PySem.Spec PyProof.Rows L2 MM
open Sn28 (Rec Bytes at_)
local macro_rules | `(tactic| walk_at "rd") => `(tactic| (try simp only [rd_newN, rd_var, rd_c, rd_op, rd_un, rd_i0, rd_i, rd_u, rd_seq, rd_next, rd_asg, rd_name, rd_ret, rd_drop, rd_ifS, rd_test, rd_b, rd_chain, rd_and, rd_or, rd_not, rd_andV, rd_orV, rd_notV, rd_if, rd_cons, rd_nil, rd_call, rd_cb, rd_sl, rd_part, rd_nopart, rd_slL, rd_eqL, rd_eqT, rd_ltL, rd_ixL, rd_lst, rd_listrev, rd_raise, rd_for, rd_lc, rd_iList, rd_iRng1, rd_iRng2, rd_iRng3, rd_iRev, rd_iStr, rd_bm, rd_bm0, rd_append, rd_extend, rd_pop, rd_count, rd_cat, rd_rep, rd_anyI, rd_all, rd_fld, rd_sfld, rd_new, rd_yes, rd_wipe0, rd_wipe1, rd_try, rd_start, rd_cxK,
  List.map_cons, List.map_nil, List.length_cons, List.length_nil, List.cons_append, List.nil_append, List.append_nil, List.replicate_succ, List.replicate_zero, List.getElem?_cons_zero, List.getElem?_cons_succ, List.set_cons_zero, List.set_cons_succ, Option.some.injEq, V.int.injEq, V.bl.injEq, V.ref.injEq, List.cons.injEq, if_true, if_false, Bool.false_eq_true, eq_self_iff_true,
  exists_eq_left, exists_eq_left', exists_and_left, exists_and_right, exists_eq_right, exists_eq_right', exists_eq', exists_eq, true_and, and_true, and_self, exists_const, Nat.reduceAdd, Nat.reduceSub]))
local macro_rules | `(tactic| walk_at "om") => `(tactic| ((try simp only [decide_eq_true_eq, decide_eq_false_iff_not, Bool.not_eq_true', Bool.not_eq_true, Bool.not_eq_false', Bool.not_eq_false, Bool.and_eq_true, Bool.or_eq_true, Bool.or_eq_false_iff, Bool.and_eq_false_iff, Decidable.not_not, ne_eq, Nat.reduceAdd] at *); omega))
section
variable {P : Program} {w : World} {K : PySem.W.Frag} {mg : Str → Option Value} {base : Heap} {ad : Ad}
theorem volP_main (b : Bytes) : volP b = (mainP b).bind fun m => (runG b 16387 [topQ m.2] 0 0).bind fun x => if tabOk b false (Sn28.low4 b (32768 + 140)) m.1 x.1 = true ∧ tabOk b true (Sn28.high4 b (32768 + 148)) m.1 x.1 = true then some ⟨m.2, x.1, x.2⟩ else none := by
  unfold volP mainP
  by_cases h1 : wholeOk b = true
  · rw [if_pos h1, if_pos h1]
    by_cases h2 : mainOk b = true
    · rw [if_pos h2, if_pos h2]
      by_cases h3 : fol b (32768 + 2048) = true
      · rw [if_pos h3, if_pos h3]
        cases Sn28.both4 b (32768 + 132) with
        | none => rfl
        | some size =>
          rw [Option.bind_some, Option.bind_some]
          cases topP b with
          | none => rfl
          | some top =>
            rw [Option.bind_some, Option.map_some, Option.bind_some, runG_eq]
      · rw [if_neg h3, if_neg h3]; rfl
    · rw [if_neg h2, if_neg h2]; rfl
  · rw [if_neg h1, if_neg h1]; rfl
theorem mainP_top {b : Bytes} (hB : IsB b) {m : Nat × Rec} (h : mainP b = some m) : ROk m.2 ∧ m.2.name = [0] ∧ m.2.folder = true ∧ 32768 + 2048 ≤ b.length := by
  unfold mainP at h
  split at h
  · rename_i h1
    split at h
    · split at h
      · cases e : Sn28.both4 b (32768 + 132) with
        | none => rw [e] at h; cases h
        | some size =>
          rw [e, Option.bind_some] at h
          have hl : 32768 + 2048 ≤ b.length := by
            unfold wholeOk at h1
            simp only [Bool.and_eq_true, decide_eq_true_eq] at h1
            omega
          cases et : topP b with
          | none => rw [et] at h; cases h
          | some top =>
            rw [et, Option.map_some] at h
            cases h
            unfold topP at et
            cases er : recP b (32768 + 156) (32768 + 156 + 34) with
            | none => rw [er] at et; cases et
            | some r =>
              rw [er, Option.bind_some] at et
              split at et
              · rename_i hc
                cases et
                exact ⟨recP_ok hB (by omega) (by omega) er, hc.2, hc.1, hl⟩
              · cases et
      · cases h
    · cases h
  · cases h
theorem FamAt.fol {H : Hp} {b : Bytes} {L : Addr} {ns : List Addr} {fs : List MM.Q} {n : Nat} {top : Rec} {files : Nat} (F : FamAt ad H b L ns fs n) (hB : IsB b) (ok : ROk top) (hn : top.name = [0]) (hr : runG b 16387 [topQ top] 0 0 = some (fs, files)) : FolAt ad H L ns fs := by
  have ht := tree_eq hB ok hn
  rw [← runG_eq, hr] at ht
  dsimp only at ht
  obtain ⟨_, t2, _, t4, _, t6, _⟩ := ht
  refine ⟨F.lst, F.len, ?_, fun i x q h1 h2 => ?_⟩
  · rw [t4]
    exact Nat.le_trans (Nat.succ_le_succ (List.length_filter_le _ _)) (by omega)
  · obtain ⟨m, n1, _⟩ := F.node i x q h1 h2
    exact ⟨m, n1, (t6 q (List.mem_of_getElem? h2)).1.n2⟩
theorem sc_Volume : FnScope ["self", "sectors", "name", "tree"] ["self", "sectors", "name", "tree"] (defScope s_Volume) := ⟨rfl, rfl, rfl, by decide +kernel, rfl, by decide +kernel, by decide +kernel⟩
theorem m_Volume (T : Txt K mg ad) : MkG P w K mg base 1 "Volume" ad.k_Volume ["self", "sectors", "name", "tree"] (spNew ad.k_Volume ["sectors", "name", "tree"]) := by
  obtain ⟨f, fd, M, F, b⟩ := T.k_Volume.mks
  have na := T.k_Volume.na
  refine ⟨f, fd, M, F.ok sc_Volume (fun vs H Q E h => ?_) (fun cdv A outer s H vs Q E hr h => ?_), b, T.k_Volume.mgx⟩
  · obtain ⟨p, dx, ws, rfl, hl, _⟩ := h
    rw [List.length_cons, hl]
    rfl
  · obtain ⟨p, dx, ws, rfl, hl, hp, q⟩ := h
    match ws, hl with
    | [a1, a2, a3], _ =>
      refine ⟨_, (pss_cons (ps_fld (pv 0) (pv 1) rfl)
      (pss_cons (ps_fld (pv 0) (pv 2) rfl)
      (pss_one (ps_fld (pv 0) (pv 3) rfl)))), ?_⟩
      walk_at "rd"
      refine ⟨_, _, _, hp, T.k_Volume.cl, na _ (.head _), by decide, _, _, _, upd_same, T.k_Volume.cl, na _ (.tail _ (.head _)), (by show 1 < 1000; decide), _, _, _, upd_same, T.k_Volume.cl, na _ (.tail _ (.tail _ (.head _))), (by show 2 < 1000; decide), ?_⟩
      rw [upd_twice, upd_twice]
      exact q
structure VolAt (ad : Ad) (H : Hp) (x : Addr) (b : Bytes) (v : Vol) (L : Addr) (ns : List Addr) : Prop where
  ex : ∃ dx n t dt, H x = some (.ins ad.k_Volume dx [("sectors", iv (b.length / 2048)), ("name", .ref n), ("tree", .ref t)]) ∧ H n = some (.lst (ivs (nameOf b))) ∧ H t = some (.ins ad.k_Tree dt [("folders", .ref L), ("files", iv v.files)])
  fam : FamAt ad H b L ns v.fs v.fs.length
def sp_vol (K : PySem.W.Frag) (ad : Ad) : Sp := fun vs H Q E => ∃ p b, vs = [.ref p] ∧ SqL K H p (ivs b) ∧ IsB b ∧ b.length ≤ 100000 ∧ Out H (volP b) (fun v H' => ∀ x L ns, VolAt ad H' x b v L ns → Q (.ref x) H') E ad.k_BadImage
theorem sc_read_volume : FnScope ["image", "main", "tree"] ["image"] (defScope s_read_volume) := ⟨rfl, rfl, rfl, by decide +kernel, rfl, by decide +kernel, by decide +kernel⟩
theorem g_read_volume (T : Txt K mg ad) : Good P w K mg base (CXE P w) 9 "read_volume" ["image"] (sp_vol K ad) := by
  refine T.f_read_volume.goodE sc_read_volume (fun vs H Q E h => ?_) (fun f cdv A outer s H vs Q E hr h => ?_)
  · obtain ⟨c, d, rfl, _⟩ := h
    rfl
  · obtain ⟨p, b, rfl, hS, hB, hbl, q1, q2⟩ := h
    rw [volP_main] at q1 q2
    refine ⟨_, (pss_cons (ps_set (i := 1) sc_read_volume.nd rfl (Or.inl rfl) (pe_callG (g_read_main T) hr (by decide) rfl passE (pa_cons (pv 0) pa_nil)))
      (pss_cons (ps_set (i := 2) sc_read_volume.nd rfl (Or.inl rfl) (pe_callG (g_read_tree T) hr (by decide) rfl passE (pa_cons (pv 0) (pa_cons (pe_fld (pv 1) rfl) pa_nil))))
      (pss_cons (ps_expr (pe_callG (g_check_tables T) hr (by decide) rfl passE (pa_cons (pv 0) (pa_cons (pv 1) (pa_cons (pe_fld (pv 2) rfl) pa_nil)))))
      (pss_one (ps_ret (pe_makeG (m_Volume T) hr (by decide) rfl (pa_cons (pe_op op_fdiv (pe_callB call_len_seq rfl T.n_len (by decide +kernel) (pa_cons (pv 0) pa_nil)) (pe_const rfl T.c_SECTOR)) (pa_cons (pe_fld (pv 1) rfl) (pa_cons (pv 2) pa_nil))))))))), ?_⟩
    walk_at "rd"
    refine ⟨p, b, rfl, hS, hB, fun m H1 e1 s1 pm M => ?_, fun e1 H1 s1 => q2 (by rw [e1]; rfl) H1 s1⟩
    rw [e1, Option.bind_some] at q1 q2
    obtain ⟨ok, hn, hf, hl⟩ := mainP_top hB e1
    obtain ⟨dm, pt, n, hm, rt, hnm⟩ := M.ex
    have nm := T.k_Main.na
    have nt := T.k_Tree.na
    walk_at "rd"
    refine ⟨_, _, _, hm, T.k_Main.cl, nm _ (.tail _ (.tail _ (.tail _ (.head _)))), _, rfl, ?_⟩
    refine ⟨p, b, pt, m.2, rfl, s1.seq hS, hB, hbl, rt, fun r H2 e2 s2 t L dt ns ht F => ?_, fun e2 H2 s2 => q2 (by rw [e2]; rfl) H2 (s1.trans s2)⟩
    have s02 := s1.trans s2
    have Fo := F.fol hB ok hn e2
    rw [e2, Option.bind_some] at q1 q2
    walk_at "rd"
    refine ⟨_, _, _, ht, T.k_Tree.cl, nt _ (.head _), _, rfl, ?_⟩
    refine ⟨p, b, pm, m.1, m.2, L, ns, r.1, rfl, s02.seq hS, M.same s2, Fo, fun c H3 s3 => ?_, fun c H3 s3 => q2 (by rw [if_neg c]) H3 (s02.trans s3)⟩
    have s03 := s02.trans s3
    rw [if_pos c] at q1
    walk_at "rd"
    refine ⟨_, .inl (s03.seq hS), ⟨by decide, by decide⟩, _, _, _, s3 _ _ (s2 _ _ hm), T.k_Main.cl, nm _ (.tail _ (.tail _ (.tail _ (.tail _ (.head _))))), _, rfl, ?_⟩
    rw [ivs_len]
    intro x dx nx nd ne
    have s4 := same_upd (o := .ins ad.k_Volume dx [("sectors", iv (b.length / 2048)), ("name", .ref n), ("tree", .ref t)]) (same_upd (o := .own x) (Same.refl H3) nd) (by rw [upd_ne (Ne.symm ne)]; exact nx)
    refine q1 _ _ rfl (s03.trans s4) x L ns ⟨⟨dx, n, t, dt, upd_same, s4 _ _ (s3 _ _ (s2 _ _ hnm)), s4 _ _ (s3 _ _ ht)⟩, (F.same s3).same s4⟩
end
end Dx
set_option linter.all false
set_option maxRecDepth 100000
namespace L2
open PySem PySem.Spec PyProof.Rows
section
variable {X : Cx} {body : List Stmt} {pos : Pos} {tb : XK → TS}
def tTry1 (C : Addr) (n : Nat) (th : TS) (tb : XK → TS) : TS := fun D σ H => tb (fun cls _ H1 => cls = .ref C ∧ th D (List.replicate n none) H1) D σ H
def tTry2 (C C2 : Addr) (n : Nat) (th th2 : TS) (tb : XK → TS) : TS := fun D σ H => tb (fun cls _ H1 => (cls = .ref C ∧ th D (List.replicate n none) H1) ∨ (cls = .ref C2 ∧ th2 D (List.replicate n none) H1)) D σ H
theorem ps_try1 {x : Str} {np hpos : Pos} {b0 : Stmt} {suite : List Stmt} {th : TS} {C : Addr} {n : Nat} (hst : X.stack = X.env :: X.outer) (hf : X.env.frame = some X.env.locals) (hn : X.N.length = n) (hb : ∀ (pn : List (Addr × Obj)) (W : Value → Shared → Prop) (E : XK), Passes (CXE X.prog X.w) (tcx X pn W) E → PSs (tcx X pn W) body (tb E))
    (hg : Gl X x) (hm : X.mg x = some (.ref C)) (hx : PySem.W.exmOne X.K (.ref C) (.ref C) = some true) (hd : (x == ("__debug__" : Str)) = false) (hh : ∀ e, PSs (hcx X e) (b0 :: suite) th) :
    PS X (.Try body [.ExceptHandler (some (.Name x np)) none (b0 :: suite) hpos] [] [] pos) (tTry1 C n th tb) := by
  subst hn
  refine ps_try (EH := fun D cls _ H1 => cls = .ref C ∧ th D (List.replicate X.N.length none) H1) hst hf hb ?_
  intro pins σ H H1 s s2 B e cls a0 D F h
  obtain ⟨rfl, h⟩ := h
  exact try_enter F hg hm hx (hh e) h hd
theorem ps_try2 {x y : Str} {np hpos np2 hpos2 : Pos} {b0 b1 : Stmt} {suite suite2 : List Stmt} {th th2 : TS} {C C2 : Addr} {n : Nat} (hst : X.stack = X.env :: X.outer) (hf : X.env.frame = some X.env.locals) (hn : X.N.length = n) (hb : ∀ (pn : List (Addr × Obj)) (W : Value → Shared → Prop) (E : XK), Passes (CXE X.prog X.w) (tcx X pn W) E → PSs (tcx X pn W) body (tb E))
    (hg : Gl X x) (hm : X.mg x = some (.ref C)) (hx : PySem.W.exmOne X.K (.ref C) (.ref C) = some true) (hx1 : PySem.W.exmOne X.K (.ref C2) (.ref C) = some false) (hd : (x == ("__debug__" : Str)) = false) (hh : ∀ e, PSs (hcx X e) (b0 :: suite) th)
    (hg2 : Gl X y) (hm2 : X.mg y = some (.ref C2)) (hx2 : PySem.W.exmOne X.K (.ref C2) (.ref C2) = some true) (hd2 : (y == ("__debug__" : Str)) = false) (hh2 : ∀ e, PSs (hcx X e) (b1 :: suite2) th2) :
    PS X (.Try body [.ExceptHandler (some (.Name x np)) none (b0 :: suite) hpos, .ExceptHandler (some (.Name y np2)) none (b1 :: suite2) hpos2] [] [] pos) (tTry2 C C2 n th th2 tb) := by
  subst hn
  refine ps_try (EH := fun D cls _ H1 => (cls = .ref C ∧ th D (List.replicate X.N.length none) H1) ∨ (cls = .ref C2 ∧ th2 D (List.replicate X.N.length none) H1)) hst hf hb ?_
  intro pins σ H H1 s s2 B e cls a0 D F h
  rcases h with ⟨rfl, h⟩ | ⟨rfl, h⟩
  · exact try_enter F hg hm hx (hh e) h hd
  · exact try_skip F hg hm hx1 hd (try_enter F hg2 hm2 hx2 (hh2 e) h hd2)
theorem rd_try1 {C : Addr} {n : Nat} {th : TS} {D : Ends} {σ : St} {H : Hp} : tTry1 C n th tb D σ H = tb (fun cls _ H1 => cls = .ref C ∧ th D (List.replicate n none) H1) D σ H := rfl
theorem rd_try2 {C C2 : Addr} {n : Nat} {th th2 : TS} {D : Ends} {σ : St} {H : Hp} : tTry2 C C2 n th th2 tb D σ H = tb (fun cls _ H1 => (cls = .ref C ∧ th D (List.replicate n none) H1) ∨ (cls = .ref C2 ∧ th2 D (List.replicate n none) H1)) D σ H := rfl
end
end L2
set_option linter.all false
set_option maxRecDepth 100000
set_option maxHeartbeats 4000000
namespace Dx
open PySem PySem.Spec PyProof.Rows L2 MM
open Sn28 (Rec Bytes at_)
local macro_rules | `(tactic| walk_at "rd") => `(tactic| (try simp only [rd_newN, rd_try1, rd_try2, rd_var, rd_c, rd_op, rd_un, rd_i0, rd_i, rd_u, rd_seq, rd_next, rd_asg, rd_name, rd_ret, rd_drop, rd_ifS, rd_test, rd_b, rd_chain, rd_and, rd_or, rd_not, rd_andV, rd_orV, rd_notV, rd_if, rd_cons, rd_nil, rd_call, rd_cb, rd_sl, rd_part, rd_nopart, rd_slL, rd_eqL, rd_eqT, rd_ltL, rd_ixL, rd_lst, rd_listrev, rd_raise, rd_for, rd_lc, rd_iList, rd_iRng1, rd_iRng2, rd_iRng3, rd_iRev, rd_iStr, rd_bm, rd_bm0, rd_append, rd_extend, rd_pop, rd_count, rd_cat, rd_rep, rd_anyI, rd_all, rd_fld, rd_sfld, rd_new, rd_yes, rd_wipe0, rd_wipe1, rd_try, rd_start, rd_cxK,
  List.map_cons, List.map_nil, List.length_cons, List.length_nil, List.cons_append, List.nil_append, List.append_nil, List.replicate_succ, List.replicate_zero, List.getElem?_cons_zero, List.getElem?_cons_succ, List.set_cons_zero, List.set_cons_succ, Option.some.injEq, V.int.injEq, V.bl.injEq, V.ref.injEq, List.cons.injEq, if_true, if_false, Bool.false_eq_true, eq_self_iff_true,
  exists_eq_left, exists_eq_left', exists_and_left, exists_and_right, exists_eq_right, exists_eq_right', exists_eq', exists_eq, true_and, and_true, and_self, exists_const, Nat.reduceAdd, Nat.reduceSub]))
local macro_rules | `(tactic| walk_at "om") => `(tactic| ((try simp only [decide_eq_true_eq, decide_eq_false_iff_not, Bool.not_eq_true', Bool.not_eq_true, Bool.not_eq_false', Bool.not_eq_false, Bool.and_eq_true, Bool.or_eq_true, Bool.or_eq_false_iff, Bool.and_eq_false_iff, Decidable.not_not, ne_eq, Nat.reduceAdd] at *); omega))
section
variable {P : Program} {w : World} {K : PySem.W.Frag} {mg : Str → Option Value} {base : Heap} {ad : Ad}
def sp_most : Sp := fun vs H Q _ => ∃ z : Int, vs = [.int z] ∧ Q (.bl (most z)) H
theorem sc_is_number_of_bytes : FnScope ["number"] ["number"] (defScope s_is_number_of_bytes) := ⟨rfl, rfl, rfl, by decide +kernel, rfl, by decide +kernel, by decide +kernel⟩
theorem g_is_number_of_bytes (T : Txt K mg ad) : Good P w K mg base CX0 1 "is_number_of_bytes" ["number"] sp_most := by
  refine T.f_is_number_of_bytes.good0 sc_is_number_of_bytes (fun vs H Q E h => ?_) (fun f cdv A outer s H vs Q E hr h => ?_)
  · obtain ⟨c, rfl, _⟩ := h
    rfl
  · obtain ⟨z, rfl, q⟩ := h
    refine ⟨_, (pss_one (ps_ret (pe_chain op_le op_le pe_int (pv 0) (pe_const rfl T.c_MOST_BYTES)))), ?_⟩
    walk_at "rd"
    refine ite2 (fun c => ?_) (fun c => ?_)
    · unfold most at q
      rw [c, Bool.true_and] at q
      exact q
    · unfold most at q
      rw [Bool.not_eq_true] at c
      rw [c, Bool.false_and] at q
      exact q
def GoodAll (P : Program) (w : World) (K : PySem.W.Frag) (mg : Str → Option Value) (k : Nat) (x : Str) (st : Stmt) (ps : List Str) (sp : Sp) : Prop := ∃ f fd, Fun K x x st f fd ∧ mg x = some (.ref f) ∧ ∀ base, FnOk P w K mg base CX0 k f fd ps sp
theorem Has.all0 {x : Str} {st : Stmt} {N ps : List Str} {k : Nat} {sp : Sp} (F : Has K mg x st ps) (S : FnScope N ps (defScope st)) (len : ∀ vs H Q E, sp vs H Q E → vs.length = ps.length)
    (hbody : ∀ (base : Heap) (f : Addr) (cdv : Value) (A : Around) (outer : List Env) (s : Shared) (H : Hp) (vs : List V) (Q : VK) (E : XK), Room k (A.deeper (envOfC x (defScope st) s.heap.objs.size f cdv)) → sp vs H Q E →
      ∃ t, PSs (cxOf CX0 P w K mg base N x (defScope st) f cdv A outer s H E).nox (defBody st) t ∧ t { nx := fun _ H' => Q .non H', rt := Q } (start N vs) H) : GoodAll P w K mg (k + 1) x st ps sp := by
  obtain ⟨f, fd, F, b, m⟩ := F.ex
  exact ⟨f, fd, F, m, fun base => F.ok S len (hbody base f)⟩
theorem ivs_nats {ns : List Int} (h : ∀ x ∈ ns, 0 ≤ x ∧ x ≤ 255) : ns.map V.int = ivs (Sn28Neutral.nats ns) := by
  unfold ivs Sn28Neutral.nats
  rw [List.map_map]
  refine List.map_congr_left fun x hx => ?_
  have := h x hx
  show V.int x = V.int ((x.toNat : Nat) : Int)
  rw [Int.toNat_of_nonneg this.1]
theorem ivs_ints' (b : Bytes) : (Sn28Neutral.ints b).map V.int = ivs b := by
  unfold ivs Sn28Neutral.ints
  rw [List.map_map]
  rfl
end
end Dx
set_option linter.all false
set_option maxRecDepth 100000
set_option maxHeartbeats 4000000
namespace Dx
open PySem PySem.Spec PyProof.Rows L2 MM
open Sn28 (Rec Bytes at_)
local macro_rules | `(tactic| walk_at "rd") => `(tactic| (try simp only [rd_newN, rd_try1, rd_try2, rd_var, rd_c, rd_op, rd_un, rd_i0, rd_i, rd_u, rd_seq, rd_next, rd_asg, rd_name, rd_ret, rd_drop, rd_ifS, rd_test, rd_b, rd_chain, rd_and, rd_or, rd_not, rd_andV, rd_orV, rd_notV, rd_if, rd_cons, rd_nil, rd_call, rd_cb, rd_sl, rd_part, rd_nopart, rd_slL, rd_eqL, rd_eqT, rd_ltL, rd_ixL, rd_lst, rd_listrev, rd_raise, rd_for, rd_lc, rd_iList, rd_iRng1, rd_iRng2, rd_iRng3, rd_iRev, rd_iStr, rd_bm, rd_bm0, rd_append, rd_extend, rd_pop, rd_count, rd_cat, rd_rep, rd_anyI, rd_all, rd_fld, rd_sfld, rd_new, rd_yes, rd_wipe0, rd_wipe1, rd_try, rd_start, rd_cxK,
  List.map_cons, List.map_nil, List.length_cons, List.length_nil, List.cons_append, List.nil_append, List.append_nil, List.replicate_succ, List.replicate_zero, List.getElem?_cons_zero, List.getElem?_cons_succ, List.set_cons_zero, List.set_cons_succ, Option.some.injEq, V.int.injEq, V.bl.injEq, V.ref.injEq, List.cons.injEq, if_true, if_false, Bool.false_eq_true, eq_self_iff_true,
  exists_eq_left, exists_eq_left', exists_and_left, exists_and_right, exists_eq_right, exists_eq_right', exists_eq', exists_eq, true_and, and_true, and_self, exists_const, Nat.reduceAdd, Nat.reduceSub]))
local macro_rules | `(tactic| walk_at "om") => `(tactic| ((try simp only [decide_eq_true_eq, decide_eq_false_iff_not, Bool.not_eq_true', Bool.not_eq_true, Bool.not_eq_false', Bool.not_eq_false, Bool.and_eq_true, Bool.or_eq_true, Bool.or_eq_false_iff, Bool.and_eq_false_iff, Decidable.not_not, ne_eq, Nat.reduceAdd] at *); omega))
section
variable {P : Program} {w : World} {K : PySem.W.Frag} {mg : Str → Option Value} {base : Heap} {ad : Ad}
structure PcAt (H : Hp) (P : Addr) (ls : List Addr) (pcs : List Bytes) : Prop where
  lst : H P = some (.lst (ls.map V.ref))
  len : ls.length = pcs.length
  nd : ls.Nodup
  no : P ∉ ls
  pc : ∀ (i : Nat) (l : Addr) (x : Bytes), ls[i]? = some l → pcs[i]? = some x → H l = some (.lst (ivs x))
theorem PcAt.same {H H' : Hp} {P : Addr} {ls : List Addr} {pcs : List Bytes} (h : PcAt H P ls pcs) (s : Same H H') : PcAt H' P ls pcs := ⟨s _ _ h.lst, h.len, h.nd, h.no, fun i l x h1 h2 => s _ _ (h.pc i l x h1 h2)⟩
theorem PcAt.more {H : Hp} {P n : Addr} {ls : List Addr} {pcs : List Bytes} (h : PcAt H P ls pcs) (hn : H n = none) : PcAt (upd (upd H n (.lst [])) P (.lst (ls.map V.ref ++ [.ref n]))) P (ls ++ [n]) (pcs ++ [[]]) := by
  have nP : n ≠ P := fun z => by rw [z, h.lst] at hn; cases hn
  have fresh : n ∉ ls := fun z => by
    obtain ⟨j, hj⟩ := List.getElem?_of_mem z
    have hjl := (List.getElem?_eq_some_iff.mp hj).1
    have := h.pc j n (pcs[j]'(by rw [← h.len]; exact hjl)) hj (List.getElem?_eq_getElem _)
    rw [hn] at this
    cases this
  refine ⟨by rw [upd_same, List.map_append]; rfl, by rw [List.length_append, List.length_append, h.len]; rfl, List.nodup_append.mpr ⟨h.nd, by simp, fun a ha c hc e => ?_⟩, fun z => ?_, fun i l x h1 h2 => ?_⟩
  · cases List.mem_singleton.mp hc
    subst e
    exact fresh ha
  · rcases List.mem_append.mp z with z | z
    · exact h.no z
    · exact nP (List.mem_singleton.mp z).symm
  · by_cases c : i < ls.length
    · rw [List.getElem?_append_left c] at h1
      rw [List.getElem?_append_left (by rw [← h.len]; exact c)] at h2
      have hl := h.pc i l x h1 h2
      have lP : l ≠ P := fun z => h.no (z ▸ List.mem_of_getElem? h1)
      rw [upd_ne lP, upd_ne (ne_of_none hl hn)]
      exact hl
    · have hi : i = ls.length := by
        have := (List.getElem?_eq_some_iff.mp h1).1
        rw [List.length_append] at this
        simp only [List.length_cons, List.length_nil] at this
        omega
      subst hi
      rw [List.getElem?_append_right (Nat.le_refl _), Nat.sub_self] at h1
      rw [h.len, List.getElem?_append_right (Nat.le_refl _), Nat.sub_self] at h2
      cases h1
      cases h2
      rw [upd_ne nP, upd_same]
      rfl
theorem PcAt.grow {H : Hp} {P l : Addr} {as : List Addr} {ps : List Bytes} {x : Bytes} {c : Nat} (h : PcAt H P (as ++ [l]) (ps ++ [x])) : PcAt (upd H l (.lst (ivs x ++ [iv c]))) P (as ++ [l]) (ps ++ [x ++ [c]]) := by
  have lP : P ≠ l := fun z => h.no (by rw [z]; simp)
  have hlen := h.len
  rw [List.length_append, List.length_append] at hlen
  have hl2 : as.length = ps.length := by simpa using hlen
  refine ⟨by rw [upd_ne lP]; exact h.lst, by rw [List.length_append, List.length_append, hl2]; rfl, h.nd, h.no, fun i k y h1 h2 => ?_⟩
  by_cases e : i < as.length
  · have h1' := h1
    rw [List.getElem?_append_left e] at h1
    rw [List.getElem?_append_left (by omega)] at h2
    have kl : k ≠ l := fun z => by
      have := (List.nodup_append.mp h.nd).2.2 k (List.mem_of_getElem? h1) l (by simp)
      exact this z
    rw [upd_ne kl]
    exact h.pc i k y h1' (by rw [List.getElem?_append_left (by omega)]; exact h2)
  · have hi : i = as.length := by
      have := (List.getElem?_eq_some_iff.mp h1).1
      rw [List.length_append] at this
      simp only [List.length_cons, List.length_nil] at this
      omega
    subst hi
    rw [List.getElem?_append_right (Nat.le_refl _), Nat.sub_self] at h1
    rw [hl2, List.getElem?_append_right (Nat.le_refl _), Nat.sub_self] at h2
    cases h1
    cases h2
    rw [upd_same, ivs_app]
    rfl
def sp_split (K : PySem.W.Frag) : Sp := fun vs H Q _ => ∃ p b, vs = [.ref p] ∧ SqL K H p (ivs b) ∧ b.length ≤ 2000 ∧ ∀ P H' ls, Same H H' → PcAt H' P ls (split b) → Q (.ref P) H'
theorem sc_split_path : FnScope ["path", "pieces", "value"] ["path"] (defScope s_split_path) := ⟨rfl, rfl, rfl, by decide +kernel, rfl, by decide +kernel, by decide +kernel⟩
theorem split_len : ∀ p : Bytes, (split p).length ≤ p.length + 1
  | [] => by decide
  | c :: p => by
    have := split_len p
    unfold split
    split
    · simp only [List.length_cons]; omega
    · cases e : split p with
      | nil => simp
      | cons s r => rw [e] at this; simp only [List.length_cons] at this ⊢; omega
theorem split_each : ∀ (p : Bytes), ∀ s ∈ split p, s.length ≤ p.length
  | [], s, hs => by unfold split at hs; cases List.mem_singleton.mp hs; exact Nat.le_refl _
  | c :: p, s, hs => by
    have ih := split_each p
    unfold split at hs
    split at hs
    · rcases List.mem_cons.mp hs with z | z
      · subst z; exact Nat.zero_le _
      · have := ih s z; simp only [List.length_cons]; omega
    · cases e : split p with
      | nil => exact absurd e (split_ne p)
      | cons a r =>
        rw [e] at hs
        rcases List.mem_cons.mp hs with z | z
        · subst z
          have := ih a (by rw [e]; simp)
          simp only [List.length_cons]
          omega
        · have := ih s (by rw [e]; exact List.mem_cons_of_mem _ z)
          simp only [List.length_cons]
          omega
theorem g_split_path (T : Txt K mg ad) : Good P w K mg base CX0 1 "split_path" ["path"] (sp_split K) := by
  refine T.f_split_path.good0 sc_split_path (fun vs H Q E h => ?_) (fun f cdv A outer s H vs Q E hr h => ?_)
  · obtain ⟨c, d, rfl, _⟩ := h
    rfl
  · obtain ⟨p, b, rfl, hS, hbl, q⟩ := h
    have hz : (100000 : Nat) < sizeLine := by decide
    refine ⟨_, (pss_cons (ps_set (i := 1) sc_split_path.nd rfl (Or.inl rfl) (pe_lst (pa_cons (pe_lst pa_nil) pa_nil)))
      (pss_cons (ps_for PassesOwn.never rfl (pi_list (pv 0)) (pg_name (i := 2) sc_split_path.nd rfl (Or.inl rfl)) (pss_one (ps_if (pt_cmpR op_eqI (pv 2) (pe_const rfl T.c_SLASH) (nomark _)) (pss_one (ps_expr (pe_bm PySem.F.plainAttrs_list PySem.F.slot_list_append PySem.F.type_list_append mt_append (pv 1) (pa_cons (pe_lst pa_nil) pa_nil)))) (pss_one (ps_expr (pe_bm PySem.F.plainAttrs_list PySem.F.slot_list_append PySem.F.type_list_append mt_append (pe_ix ix_list (pv 1) (pe_un un_neg pe_int) (fun _ _ => rfl)) (pa_cons (pv 2) pa_nil)))))))
      (pss_one (ps_ret (pv 1))))), ?_⟩
    walk_at "rd"
    refine ⟨Nat.zero_le _, fun l0 n0 => ⟨by decide, fun P nP => ?_⟩⟩
    have Pl : P ≠ l0 := fun z => by rw [z, upd_same] at nP; cases nP
    have nP' : H P = none := by rw [upd_ne Pl] at nP; exact nP
    have s0 := same_upd (o := .lst [V.ref l0]) (same_upd (o := .lst []) (Same.refl H) n0) nP
    refine ⟨⟨_, s0.seq hS⟩, LoopJ.list (xs := ivs b) (fun i σ H' => ∃ (v : Option V) (ls : List Addr), σ = [some (.ref p), some (.ref P), v] ∧ Same H H' ∧ PcAt H' P ls (split (b.take i)) ∧ ∀ l ∈ ls, H l = none) ⟨none, [l0], rfl, s0, ⟨upd_same, rfl, by simp, by simpa using Pl, fun i l x h1 h2 => ?_⟩, fun l hl => by cases List.mem_singleton.mp hl; exact n0⟩ (fun i σ H' _ h => by obtain ⟨v, ls, _, s1, _⟩ := h; exact s1.seq hS) ?_ ?_⟩
    · cases i with
      | succ i => simp at h1
      | zero =>
        cases h1
        cases h2
        rw [upd_ne (Ne.symm Pl), upd_same]
        rfl
    · rintro i x σ H1 hx ⟨v, ls, rfl, s1, A1, fr⟩
      obtain ⟨c, hc, rfl⟩ := ivs_of_get hx
      have hts := take_snoc hc
      have hil := (List.getElem?_eq_some_iff.mp hc).1
      have hlen1 := split_len (b.take i)
      have hlt : (b.take i).length ≤ 2000 := Nat.le_trans (List.length_take_le' _ _) hbl
      have hal := A1.len
      walk_at "rd"
      refine ite2 (fun c1 => ?_) (fun c1 => ?_)
      · have c1' : c = 47 := by walk_at "om"
        subst c1'
        refine ⟨tyL (SqL.of A1.lst), Nat.zero_le _, fun n hn => ?_⟩
        have Pn : P ≠ n := fun z => by rw [← z, A1.lst] at hn; cases hn
        refine ⟨_, (by rw [upd_ne Pn]; exact A1.lst), (by rw [List.length_map]; omega), same_put (same_upd s1 hn) nP', ls ++ [n], ?_, fun l hl => ?_⟩
        · rw [hts, split_slash]
          exact A1.more hn
        · rcases List.mem_append.mp hl with z | z
          · exact fr l z
          · cases List.mem_singleton.mp z
            exact s1.free hn
      · have c1' : c ≠ 47 := by walk_at "om"
        obtain ⟨as, x, e1, e2⟩ := split_other c1' (b.take i)
        rw [e1] at A1 hal
        have hne : ls ≠ [] := fun z => by rw [z, List.length_append] at hal; simp at hal
        obtain ⟨as', l, rfl⟩ : ∃ as' l, ls = as' ++ [l] := ⟨_, _, (List.dropLast_concat_getLast hne).symm⟩
        have hll : as'.length = as.length := by rw [List.length_append, List.length_append] at hal; simpa using hal
        have hel : H1 l = some (.lst (ivs x)) := A1.pc as'.length l x (by rw [List.getElem?_append_right (Nat.le_refl _), Nat.sub_self]; rfl) (by rw [hll, List.getElem?_append_right (Nat.le_refl _), Nat.sub_self]; rfl)
        have hxl : x.length ≤ (b.take i).length := split_each _ x (by rw [e1]; simp)
        refine ⟨_, SqL.of A1.lst, _, (by rw [List.map_append]; exact atI_last _ _), tyL (SqL.of hel), ?_⟩
        walk_at "rd"
        refine ⟨_, hel, (by rw [ivs_len]; omega), same_put s1 (fr l (by simp)), as' ++ [l], ?_, fr⟩
        rw [hts, e2]
        exact A1.grow
    · rintro σ H1 ⟨v, ls, rfl, s1, A1, fr⟩
      rw [ivs_len, List.take_length] at A1
      walk_at "rd"
      exact q P H1 ls s1 A1
structure MembAt (ad : Ad) (H : Hp) (x : Addr) (ks : List Addr) (rs : List Rec) : Prop where
  ex : ∃ dx v1 v2 v3 m, H x = some (.ins ad.k_Node dx (nfs v1 v2 v3 m)) ∧ H m = some (.lst (ks.map V.ref))
  len : ks.length = rs.length
  node : ∀ (j : Nat) (k : Addr) (r : Rec), ks[j]? = some k → rs[j]? = some r → ∃ a d m, NodeAt ad H k r a d m
def sp_memb (K : PySem.W.Frag) (ad : Ad) : Sp := fun vs H Q E => ∃ (x n : Addr) (ks : List Addr) (rs : List Rec) (s : Bytes), vs = [.ref x, .ref n] ∧ MembAt ad H x ks rs ∧ SqL K H n (ivs s) ∧
  (∀ (j : Nat) (k : Addr) (r : Rec), ks[j]? = some k → rs[j]? = some r → rs.find? (fun z => z.name == s) = some r → Q (.ref k) H) ∧ (rs.find? (fun z => z.name == s) = none → E (.ref ad.k_NoFile) none H)
theorem take_ne {rs : List Rec} {i : Nat} {nm : Bytes} (h : ∀ r ∈ rs.take i, r.name ≠ nm) : ∀ (j : Nat) (r : Rec), j < i → rs[j]? = some r → r.name ≠ nm := fun j r hj hr => h r (by
  refine List.mem_of_getElem? (i := j) ?_
  rw [List.getElem?_take, if_pos hj]
  exact hr)
theorem find_first : ∀ {rs : List Rec} {i : Nat} {nm : Bytes} {r : Rec}, (∀ (j : Nat) (r : Rec), j < i → rs[j]? = some r → r.name ≠ nm) → rs[i]? = some r → r.name = nm → rs.find? (fun z => z.name == nm) = some r
  | [], i, nm, r, _, h, _ => by simp at h
  | a :: rs, 0, nm, r, _, h, e => by
    cases h
    rw [List.find?_cons_of_pos (by simpa using e)]
  | a :: rs, i + 1, nm, r, ho, h, e => by
    rw [List.find?_cons_of_neg (by simpa using ho 0 a (by omega) rfl)]
    exact find_first (i := i) (fun j r hj hr => ho (j + 1) r (by omega) (by rw [List.getElem?_cons_succ]; exact hr)) (by rw [List.getElem?_cons_succ] at h; exact h) e
theorem sc_find_member : FnScope ["folder", "name", "node"] ["folder", "name"] (defScope s_find_member) := ⟨rfl, rfl, rfl, by decide +kernel, rfl, by decide +kernel, by decide +kernel⟩
theorem g_find_member (T : Txt K mg ad) : Good P w K mg base (CXE P w) 1 "find_member" ["folder", "name"] (sp_memb K ad) := by
  refine T.f_find_member.goodE sc_find_member (fun vs H Q E h => ?_) (fun f cdv A outer s H vs Q E hr h => ?_)
  · obtain ⟨c, d, c2, d2, e, rfl, _⟩ := h
    rfl
  · obtain ⟨x, n, ks, rs, nm, rfl, M, hn, q1, q2⟩ := h
    obtain ⟨dx, v1, v2, v3, m, hx, hm⟩ := M.ex
    have na := T.k_Node.na
    refine ⟨_, (pss_cons (ps_for PassesOwn.leaving rfl (pi_list (pe_fld (pv 0) rfl)) (pg_name (i := 2) sc_find_member.nd rfl (Or.inl rfl)) (pss_one (ps_if (pt_cmpR (op_eqL hr.units) (pe_fld (pe_fld (pv 2) rfl) rfl) (pv 1) (nomark _)) (pss_one (ps_ret (pv 2))) pss_nil)))
      (pss_one (ps_raise rfl rfl T.e_NoFile raiseE))), ?_⟩
    walk_at "rd"
    refine ⟨_, _, _, hx, T.k_Node.cl, na _ (.tail _ (.tail _ (.tail _ (.head _)))), _, nfs_members _ _ _ _, _, rfl, ⟨_, SqL.of hm⟩, LoopJ.list (xs := ks.map V.ref) (fun i σ H' => ∃ v : Option V, σ = [some (.ref x), some (.ref n), v] ∧ H' = H ∧ ∀ r ∈ rs.take i, r.name ≠ nm) ⟨none, rfl, rfl, by simp⟩ (fun i σ H' _ h => by obtain ⟨v, _, rfl, _⟩ := h; exact SqL.of hm) ?_ ?_⟩
    · rintro i z σ H' hi ⟨v, rfl, rfl, ho⟩
      obtain ⟨k, hk, rfl⟩ := map_get hi
      have hil := (List.getElem?_eq_some_iff.mp hk).1
      have hri : rs[i]? = some (rs[i]'(by rw [← M.len]; exact hil)) := List.getElem?_eq_getElem _
      generalize rs[i]'(by rw [← M.len]; exact hil) = r at hri
      obtain ⟨a, d, m', dk, rk, ek, dr, nr, er, enr, _⟩ := M.node i k r hk hri
      walk_at "rd"
      refine ⟨_, _, _, ek, T.k_Node.cl, na _ (.head _), _, nfs_record _ _ _ _, _, rfl, _, _, _, er, T.k_Record.cl, T.k_Record.na _ (.tail _ (.tail _ (.tail _ (.head _)))), _, rfs_name r nr, _, rfl, _, SqL.of enr, _, hn, ?_⟩
      refine ite2 (fun c => q1 i k r hk hri ?_) (fun c => fun r' hr' => ?_)
      · refine find_first (take_ne ho) hri ?_
        simpa using c
      · rw [take_snoc hri] at hr'
        rcases List.mem_append.mp hr' with z | z
        · exact ho r' z
        · cases List.mem_singleton.mp z
          simpa using c
    · rintro σ H' ⟨v, rfl, rfl, ho⟩
      rw [List.length_map, M.len, List.take_length] at ho
      walk_at "rd"
      exact q2 (List.find?_eq_none.mpr fun r hr => by simpa using ho r hr)
def CurAt (ad : Ad) (H : Hp) (b : Bytes) (ns : List Addr) (fs : List MM.Q) (y : Addr) (l : List Bytes) (res : Option Rec) : Prop :=
  (∃ (i : Nat) (q : MM.Q), ns[i]? = some y ∧ fs[i]? = some q ∧ q.rec_.folder = true ∧ res = seek b (9 - q.depth) q.rec_ q.up l) ∨
  (∃ (r : Rec) (a d : Nat) (m : Addr), r.folder = false ∧ NodeAt ad H y r a d m ∧ H m = some (.lst []) ∧ res = if l = [] then some r else none)
theorem CurAt.node {H : Hp} {b : Bytes} {L : Addr} {ns : List Addr} {fs : List MM.Q} {y : Addr} {l : List Bytes} {res : Option Rec} (h : CurAt ad H b ns fs y l res) (F : FamAt ad H b L ns fs fs.length) : ∃ r a d m, NodeAt ad H y r a d m ∧ (l = [] → res = if r.folder = true then none else some r) := by
  rcases h with ⟨i, q, h1, h2, h3, h4⟩ | ⟨r, a, d, m, h1, h2, h3, h4⟩
  · obtain ⟨m, n1, _⟩ := F.node i y q h1 h2
    refine ⟨_, _, _, _, n1, fun e => ?_⟩
    rw [if_pos h3, h4, e]
    cases 9 - q.depth <;> rfl
  · exact ⟨r, a, d, m, h2, fun e => by rw [h4, if_pos e, if_neg (by rw [h1]; simp)]⟩
theorem CurAt.step {H : Hp} {b : Bytes} {L : Addr} {ns : List Addr} {fs : List MM.Q} {y : Addr} {nm : Bytes} {rest : List Bytes} {res : Option Rec} (h : CurAt ad H b ns fs y (nm :: rest) res) (F : FamAt ad H b L ns fs fs.length) (hd : ∀ q ∈ fs, q.depth ≤ 8) :
    ∃ ks rs, MembAt ad H y ks rs ∧ (∀ (j : Nat) (k : Addr) (r : Rec), ks[j]? = some k → rs[j]? = some r → rs.find? (fun z => z.name == nm) = some r → CurAt ad H b ns fs k rest res) ∧ (rs.find? (fun z => z.name == nm) = none → res = none) := by
  rcases h with ⟨i, q, h1, h2, h3, h4⟩ | ⟨r, a, d, m, h1, h2, h3, h4⟩
  · obtain ⟨m, ⟨dx, rp, n1, n2⟩, _, _, n3⟩ := F.node i y q h1 h2
    obtain ⟨ks, rs, g1, g2, g3, g4⟩ := n3 (List.getElem?_eq_some_iff.mp h2).1
    have hdq := hd q (List.mem_of_getElem? h2)
    rw [show 9 - q.depth = (8 - q.depth) + 1 by omega] at h4
    unfold seek at h4
    rw [readG_readF g1, Option.getD_some] at h4
    refine ⟨ks, rs, ⟨⟨dx, _, _, _, m, n1, g2⟩, g3, fun j k r e1 e2 => ?_⟩, fun j k r e1 e2 e3 => ?_, fun e => ?_⟩
    · cases hf : r.folder with
      | true =>
        obtain ⟨t, q', t1, t2, t3, _⟩ := (g4 j k r e1 e2).1 hf
        obtain ⟨m', o1, _⟩ := F.node t k q' t1 t2
        exact ⟨_, _, _, t3 ▸ o1⟩
      | false =>
        obtain ⟨_, m', a, d, o1, _⟩ := (g4 j k r e1 e2).2 hf
        exact ⟨_, _, _, o1⟩
    · rw [e3] at h4
      dsimp only at h4
      cases hf : r.folder with
      | true =>
        obtain ⟨t, q', t1, t2, t3, t4, t5⟩ := (g4 j k r e1 e2).1 hf
        rw [if_pos hf] at h4
        refine .inl ⟨t, q', t1, t2, by rw [t3]; exact hf, ?_⟩
        rw [h4, t3, t4, t5, show 9 - (q.depth + 1) = 8 - q.depth by omega]
      | false =>
        obtain ⟨_, m', a, d, o1, _, o3⟩ := (g4 j k r e1 e2).2 hf
        rw [if_neg (by rw [hf]; simp)] at h4
        exact .inr ⟨r, a, d, m', hf, o1, o3, h4⟩
    · rw [e] at h4
      exact h4
  · obtain ⟨dx, rp, n1, n2⟩ := h2
    exact ⟨[], [], ⟨⟨dx, _, _, _, m, n1, h3⟩, rfl, fun j k r e1 => by simp at e1⟩, fun j k r e1 => by simp at e1, fun _ => by rw [h4, if_neg (by simp)]⟩
theorem CurAt.same {H H' : Hp} {b : Bytes} {ns : List Addr} {fs : List MM.Q} {y : Addr} {l : List Bytes} {res : Option Rec} (h : CurAt ad H b ns fs y l res) (s : Same H H') : CurAt ad H' b ns fs y l res := by
  rcases h with h | ⟨r, a, d, m, h1, h2, h3, h4⟩
  · exact .inl h
  · exact .inr ⟨r, a, d, m, h1, h2.same s, s _ _ h3, h4⟩
def sp_find (K : PySem.W.Frag) (ad : Ad) : Sp := fun vs H Q E => ∃ (t p : Addr) (b pth : Bytes) (L : Addr) (ns : List Addr) (fs : List MM.Q) (top : Rec), vs = [.ref t, .ref p] ∧ FamAt ad H b L ns fs fs.length ∧ ns[0]? = some t ∧ fs[0]? = some (topQ top) ∧ top.folder = true ∧ (∀ q ∈ fs, q.depth ≤ 8) ∧ SqL K H p (ivs pth) ∧ pth.length ≤ 2000 ∧
  (∀ r, found b top pth = some r → ∀ H' x, Same H H' → RecAt ad H' x r → Q (.ref x) H') ∧ (found b top pth = none → ∀ H', Same H H' → E (.ref ad.k_NoFile) none H')
theorem sc_find_file : FnScope ["top", "path", "pieces", "node", "name"] ["top", "path"] (defScope s_find_file) := ⟨rfl, rfl, rfl, by decide +kernel, rfl, by decide +kernel, by decide +kernel⟩
theorem g_find_file (T : Txt K mg ad) : Good P w K mg base (CXE P w) 2 "find_file" ["top", "path"] (sp_find K ad) := by
  refine T.f_find_file.goodE sc_find_file (fun vs H Q E h => ?_) (fun f cdv A outer s H vs Q E hr h => ?_)
  · obtain ⟨t, p, b, pth, L, ns, fs, top, rfl, _⟩ := h
    rfl
  · obtain ⟨t, p, b, pth, L, ns, fs, top, rfl, F, hn0, hf0, htf, hd, hp, hpl, q1, q2⟩ := h
    have na := T.k_Node.na
    have hz : (100000 : Nat) < sizeLine := by decide
    refine ⟨_, (pss_cons (ps_set (i := 2) sc_find_file.nd rfl (Or.inl rfl) (pe_callG (g_split_path T) hr (by decide) rfl pass0 (pa_cons (pv 1) pa_nil)))
      (pss_cons (ps_if (pt_cmpR op_gt (pe_callB call_len_seq rfl T.n_len (by decide +kernel) (pa_cons (pe_ix ix_list (pv 2) pe_int (fun _ _ => rfl)) pa_nil)) pe_int (nomark _)) (pss_one (ps_raise rfl rfl T.e_NoFile raiseE)) pss_nil)
      (pss_cons (ps_set (i := 3) sc_find_file.nd rfl (Or.inl rfl) (pv 0))
      (pss_cons (ps_for PassesOwn.leaving rfl (pi_list (pe_slice sl_list (pv 2) (po_some pe_int) po_none)) (pg_name (i := 4) sc_find_file.nd rfl (Or.inl rfl)) (pss_one (ps_set (i := 3) sc_find_file.nd rfl (Or.inl rfl) (pe_callG (g_find_member T) hr (by decide) rfl passE (pa_cons (pv 3) (pa_cons (pv 4) pa_nil))))))
      (pss_cons (ps_if (pt_val (pe_fld (pe_fld (pv 3) rfl) rfl)) (pss_one (ps_raise rfl rfl T.e_NoFile raiseE)) pss_nil)
      (pss_one (ps_ret (pe_fld (pv 3) rfl)))))))), ?_⟩
    walk_at "rd"
    refine ⟨p, pth, rfl, hp, hpl, fun P H1 ls s1 A1 => ?_⟩
    unfold found at q1 q2
    have hal := A1.len
    have hls := split_len pth
    cases es : split pth with
    | nil => exact absurd es (split_ne pth)
    | cons s0 names =>
      rw [es] at A1 hal q1 q2 hls
      match ls, hal with
      | l0 :: ls, hal =>
        have h0 : H1 l0 = some (.lst (ivs s0)) := A1.pc 0 l0 s0 rfl rfl
        walk_at "rd"
        refine ⟨_, SqL.of A1.lst, _, refs_at (j := 0) rfl rfl, ?_⟩
        refine ⟨_, rfl, _, .inl (SqL.of h0), ?_⟩
        rw [ivs_len]
        cases s0 with
        | cons c s0 => exact ite2 (fun _ => q2 rfl H1 s1) (fun z => absurd (decide_eq_true (by simp only [List.length_cons]; omega)) z)
        | nil =>
          refine ite2 (fun z => by simp at z) (fun _ => ⟨_, SqL.of A1.lst, fun l2 n2 => ?_⟩)
          rw [show cutV ((l0 :: ls).map V.ref) (some 1) none = ls.map V.ref from cut_from (i := 1) rfl]
          have s2 := same_upd (o := .lst (ls.map V.ref)) (Same.refl H1) n2
          have s02 := s1.trans s2
          have hl2 : upd H1 l2 (.lst (ls.map V.ref)) l2 = some (.lst (ls.map V.ref)) := upd_same
          generalize upd H1 l2 (.lst (ls.map V.ref)) = H2 at s2 s02 hl2 ⊢
          have F2 := F.same s02
          have A2 := A1.same s2
          have hlen : ls.length = names.length := by simpa using hal
          dsimp only at q1 q2
          refine ⟨⟨_, SqL.of hl2⟩, LoopJ.list (xs := ls.map V.ref) (fun i σ H' => ∃ (y : Addr) (v : Option V), σ = [some (.ref t), some (.ref p), some (.ref P), some (.ref y), v] ∧ H' = H2 ∧ CurAt ad H2 b ns fs y (names.drop i) (seek b 8 top top names)) ⟨t, none, rfl, rfl, .inl ⟨0, topQ top, hn0, hf0, htf, rfl⟩⟩ (fun i σ H' _ h => by obtain ⟨y, v, _, rfl, _⟩ := h; exact SqL.of hl2) ?_ ?_⟩
          · rintro i z σ H' hi ⟨y, v, rfl, rfl, C⟩
            obtain ⟨k, hk, rfl⟩ := map_get hi
            have hil := (List.getElem?_eq_some_iff.mp hk).1
            have hni : names[i]? = some (names[i]'(by omega)) := List.getElem?_eq_getElem _
            rw [List.drop_eq_getElem_cons (by omega)] at C
            generalize names[i]'(by omega) = nm at hni C
            have hkn : H' k = some (.lst (ivs nm)) := A2.pc (i + 1) k nm (by rw [List.getElem?_cons_succ]; exact hk) (by rw [List.getElem?_cons_succ]; exact hni)
            obtain ⟨ks, rs, M, g1, g2⟩ := C.step F2 hd
            walk_at "rd"
            refine ⟨y, k, ks, rs, nm, rfl, M, SqL.of hkn, fun j k' r e1 e2 e3 => ?_, fun e => q2 (g2 e) H' s02⟩
            exact ⟨k', rfl, rfl, g1 j k' r e1 e2 e3⟩
          · rintro σ H' ⟨y, v, rfl, rfl, C⟩
            rw [List.length_map, hlen, List.drop_length] at C
            obtain ⟨r, a, d, m, ⟨dx, rp, hy, dr, nr, er, hnr, hne⟩, g⟩ := C.node F2
            walk_at "rd"
            refine ⟨_, _, _, hy, T.k_Node.cl, na _ (.head _), _, nfs_record _ _ _ _, ?_⟩
            refine ⟨_, rfl, _, _, _, er, T.k_Record.cl, T.k_Record.na _ (.tail _ (.tail _ (.head _))), _, rfs_folder r nr, _, rfl, ?_⟩
            have g := g rfl
            refine ite2 (fun c => q2 (by rw [g, if_pos c]) H' s02) (fun c => ⟨_, _, _, hy, T.k_Node.cl, na _ (.head _), _, nfs_record _ _ _ _, ?_⟩)
            exact q1 r (by rw [g, if_neg c]) H' rp s02 ⟨dr, nr, er, hnr, hne⟩
theorem cut_cutOf {b : Bytes} {r : Rec} {st m : Int} (h1 : 0 ≤ st) (h2 : 0 ≤ m) : cutV (ivs b) (some ((r.place : Int) * 2048 + st)) (some ((r.place : Int) * 2048 + min (st + m) (r.size : Int))) = ivs (cutOf b r st m) := by
  obtain ⟨i, rfl⟩ : ∃ i : Nat, st = i := ⟨st.toNat, by omega⟩
  obtain ⟨k, rfl⟩ : ∃ k : Nat, m = k := ⟨m.toNat, by omega⟩
  rw [cut_b (i := 2048 * r.place + i) (j := 2048 * r.place + min (i + k) r.size) (by push_cast; omega) (by push_cast; omega)]
  congr 1
  unfold cutOf
  rw [Int.toNat_natCast, Int.toNat_natCast, List.drop_take, List.drop_drop, List.take_take]
  congr 1
  omega
def sp_cut (K : PySem.W.Frag) (ad : Ad) : Sp := fun vs H Q _ => ∃ (p q : Addr) (b : Bytes) (r : Rec) (st m : Int), vs = [.ref p, .ref q, .int st, .int m] ∧ SqL K H p (ivs b) ∧ RecAt ad H q r ∧ 0 ≤ st ∧ 0 ≤ m ∧ ∀ l H', Same H H' → H' l = some (.lst (ivs (cutOf b r st m))) → Q (.ref l) H'
theorem sc_cut_piece : FnScope ["image", "record", "start", "most", "place", "end"] ["image", "record", "start", "most"] (defScope s_cut_piece) := ⟨rfl, rfl, rfl, by decide +kernel, rfl, by decide +kernel, by decide +kernel⟩
theorem g_cut_piece (T : Txt K mg ad) : Good P w K mg base CX0 1 "cut_piece" ["image", "record", "start", "most"] (sp_cut K ad) := by
  refine T.f_cut_piece.good0 sc_cut_piece (fun vs H Q E h => ?_) (fun f cdv A outer s H vs Q E hr h => ?_)
  · obtain ⟨p, q, b, r, st, m, rfl, _⟩ := h
    rfl
  · obtain ⟨p, q', b, r, st, m, rfl, hS, ⟨dr, nr, er, _⟩, h1, h2, q⟩ := h
    refine ⟨_, (pss_cons (ps_set (i := 4) sc_cut_piece.nd rfl (Or.inl rfl) (pe_op op_mul (pe_fld (pv 1) rfl) (pe_const rfl T.c_SECTOR)))
      (pss_cons (ps_set (i := 5) sc_cut_piece.nd rfl (Or.inl rfl) (pe_callB (call_min2 rfl) rfl T.n_min (by decide +kernel) (pa_cons (pe_op op_add (pv 2) (pv 3)) (pa_cons (pe_fld (pv 1) rfl) pa_nil))))
      (pss_one (ps_ret (pe_slice sl_list (pv 0) (po_some (pe_op op_add (pv 4) (pv 2))) (po_some (pe_op op_add (pv 4) (pv 5)))))))), ?_⟩
    walk_at "rd"
    refine ⟨_, _, _, er, T.k_Record.cl, T.k_Record.na _ (.head _), _, rfs_place r nr, _, rfl, ?_⟩
    refine ⟨.inr ⟨by decide, by decide⟩, _, _, _, er, T.k_Record.cl, T.k_Record.na _ (.tail _ (.head _)), _, rfs_size r nr, _, _, ⟨rfl, rfl⟩, _, hS, fun l hl => ?_⟩
    have e : (if ((r.size : Nat) : Int) < st + m then ((r.size : Nat) : Int) else st + m) = min (st + m) (r.size : Int) := by
      split <;> omega
    rw [e, cut_cutOf h1 h2]
    exact q l _ (same_upd (Same.refl H) hl) upd_same
def sp_file (K : PySem.W.Frag) : Sp := fun vs H Q _ => ∃ (st m : Int) (p pp : Addr) (ns ps : List Int), vs = [.int st, .int m, .ref p, .ref pp] ∧ SqL K H p (ns.map V.int) ∧ SqL K H pp (ps.map V.int) ∧ (∀ x ∈ ns, 0 ≤ x ∧ x ≤ 255) ∧ ns.length ≤ 100000 ∧ (∀ x ∈ ps, 0 ≤ x ∧ x ≤ 255) ∧ ps.length ≤ 1024 ∧ ∀ H' l, H' l = some (.lst ((PySn28.file st m ns ps).map V.int)) → Q (.ref l) H'
theorem sc_file : FnScope ["start", "most", "image", "path", "record", "piece"] ["start", "most", "image", "path"] (defScope s_file) := ⟨rfl, rfl, rfl, by decide +kernel, rfl, by decide +kernel, by decide +kernel⟩
theorem g_file (T : Txt K mg ad) : GoodAll P w K mg 10 "file" s_file ["start", "most", "image", "path"] (sp_file K) := by
  refine T.f_file.all0 sc_file (fun vs H Q E h => ?_) (fun base f cdv A outer s H vs Q E hr h => ?_)
  · obtain ⟨c, d, e, g, g2, g3, rfl, _⟩ := h
    rfl
  · obtain ⟨st, m, p, pp, ns, ps, rfl, hS, hP, hns, hl, hps, hpl, q⟩ := h
    rw [ivs_nats hns] at hS
    rw [ivs_nats hps] at hP
    have hB := nats_isB hns
    rw [file_eq hns hl hpl] at q
    rw [← nats_len] at hl hpl
    generalize Sn28Neutral.nats ns = b at hS hB hl q
    generalize Sn28Neutral.nats ps = pth at hP hpl q
    have hz : (200000 : Nat) < sizeLine := by decide
    refine ⟨_, (pss_cons (ps_if (PW.pt (pw_or (pt_not (pt_val (pe_callG (g_is_number_of_bytes T) hr (by decide) rfl pass0 (pa_cons (pe_callB call_len_seq rfl T.n_len (by decide +kernel) (pa_cons (pv 2) pa_nil)) pa_nil)))) (pw_or1 (pt_not (pt_val (pe_callG (g_is_number_of_bytes T) hr (by decide) rfl pass0 (pa_cons (pv 1) pa_nil))))))) (pss_one (ps_ret (pe_lst (pa_cons (pe_un un_neg pe_int) pa_nil)))) pss_nil)
      (pss_cons (ps_if (PW.pt (pw_or (pt_cmpR op_gt (pe_callB call_len_seq rfl T.n_len (by decide +kernel) (pa_cons (pv 3) pa_nil)) (pe_const rfl T.c_MOST_IN_PATH) (nomark _)) (pw_or1 (pt_cmpR op_lt (pv 0) pe_int (nomark _))))) (pss_one (ps_ret (pe_lst (pa_cons (pe_un un_neg pe_int) pa_nil)))) pss_nil)
      (pss_cons (ps_try2 (n := 6) rfl rfl rfl (fun pn W E hp => (pss_one (ps_set (i := 4) sc_file.nd rfl (Or.inl rfl) (pe_callG (g_find_file T) hr (by decide) rfl hp (pa_cons (pe_ix (ix_listK K rfl) (pe_fldK K rfl (pe_fldK K rfl (pe_callG (g_read_volume T) hr (by decide) rfl hp (pa_cons (pv 2) pa_nil)) rfl) rfl) pe_int (fun _ _ => rfl)) (pa_cons (pv 3) pa_nil)))))) rfl T.e_BadImage.bound T.x0 T.x1 (by decide) (fun e => (pss_one (ps_ret (pe_lst (pa_cons (pe_un un_neg pe_int) pa_nil))))) rfl T.e_NoFile.bound T.x2 (by decide) (fun e => (pss_one (ps_ret (pe_lst (pa_cons (pe_un un_neg pe_int) pa_nil))))))
      (pss_cons (ps_set (i := 5) sc_file.nd rfl (Or.inl rfl) (pe_callG (g_cut_piece T) hr (by decide) rfl pass0 (pa_cons (pv 2) (pa_cons (pv 4) (pa_cons (pv 0) (pa_cons (pv 1) pa_nil))))))
      (pss_one (ps_ret (pe_op op_cat (pe_lst (pa_cons (pe_callB call_len_seq rfl T.n_len (by decide +kernel) (pa_cons (pv 5) pa_nil)) pa_nil)) (pv 5)))))))), ?_⟩
    walk_at "rd"
    refine ⟨_, .inl hS, _, rfl, _, rfl, ?_⟩
    rw [ivs_len]
    have hm : most ((b.length : Nat) : Int) = true := by
      unfold most
      rw [Bool.and_eq_true, decide_eq_true_eq, decide_eq_true_eq]
      omega
    rw [hm]
    refine ite2 (fun c => by cases c) (fun _ => ?_)
    refine ⟨m, rfl, _, rfl, ?_⟩
    cases hmm : most m with
    | false =>
      rw [if_pos (.inr hmm)] at q
      exact ite2 (fun _ => ⟨by decide, fun p1 n1 => q _ p1 upd_same⟩) (fun z => absurd rfl z)
    | true =>
      refine ite2 (fun z => by cases z) (fun _ => ⟨_, .inl hP, ?_⟩)
      rw [ivs_len]
      refine ite2 (fun z => by walk_at "om") (fun _ => ite2 (fun z => ?_) (fun z => ?_))
      · rw [if_pos (.inl (by walk_at "om"))] at q
        exact ⟨by decide, fun p1 n1 => q _ p1 upd_same⟩
      · have hst : 0 ≤ st := by walk_at "om"
        have hm0 : 0 ≤ m := by
          unfold most at hmm
          rw [Bool.and_eq_true, decide_eq_true_eq] at hmm
          exact hmm.1
        rw [if_neg (by rw [hmm]; rintro (z | z); omega; cases z)] at q
        refine ⟨p, b, rfl, hS, hB, hl, fun v H1 e1 s1 x L ms V1 => ?_, fun e1 H1 s1 => .inl ⟨rfl, ?_⟩⟩
        · rw [e1] at q
          dsimp only at q
          obtain ⟨dx, n, t, dt, hx, hn, ht⟩ := V1.ex
          have F := V1.fam
          obtain ⟨v1, v2, v3⟩ := vol_top e1
          have hms : ms[0]? = some (ms[0]'(by rw [F.len]; exact (List.getElem?_eq_some_iff.mp v2).1)) := List.getElem?_eq_getElem _
          generalize ms[0]'(by rw [F.len]; exact (List.getElem?_eq_some_iff.mp v2).1) = y at hms
          walk_at "rd"
          refine ⟨_, _, _, hx, T.k_Volume.cl, T.k_Volume.na _ (.tail _ (.tail _ (.head _))), _, rfl, _, rfl, _, _, _, ht, T.k_Tree.cl, T.k_Tree.na _ (.head _), _, rfl, _, rfl, _, SqL.of F.lst, _, refs_at (j := 0) rfl hms, ?_⟩
          refine ⟨y, pp, b, pth, L, ms, v.fs, v.top, rfl, F, hms, v2, v1, v3, s1.seq hP, by omega, fun r e2 H2 x2 s2 R2 => ?_, fun e2 H2 s2 => .inr ⟨rfl, ?_⟩⟩
          · rw [← found_eq] at e2
            cases ef : (dfs b 8 v.top v.top []).find? fun x => !x.2.folder && Sn28.pathText x == pth with
            | none => rw [ef] at e2; cases e2
            | some z =>
              rw [ef] at e2 q
              dsimp only at q
              have e3 : z.2 = r := Option.some.inj e2
              rw [e3] at q
              walk_at "rd"
              refine ⟨p, x2, b, r, st, m, rfl, (s1.trans s2).seq hS, R2, hst, hm0, fun l H3 s3 h3 => ?_⟩
              have hcl : (cutOf b r st m).length ≤ b.length := by
                unfold cutOf
                rw [List.length_take, List.length_drop, List.length_take, List.length_drop]
                omega
              walk_at "rd"
              refine ⟨_, .inl (SqL.of h3), by decide, fun p4 n4 => ?_⟩
              rw [ivs_len]
              have s4 := same_upd (o := .lst [V.int ((cutOf b r st m).length : Nat)]) (Same.refl H3) n4
              refine ⟨_, upd_same, _, s4 _ _ h3, (by rw [ivs_len, List.length_cons, List.length_nil]; omega), fun p5 n5 => q _ p5 ?_⟩
              rw [upd_same, List.map_cons, ivs_ints']
              rfl
          · rw [← found_eq] at e2
            cases ef : (dfs b 8 v.top v.top []).find? fun x => !x.2.folder && Sn28.pathText x == pth with
            | some z => rw [ef] at e2; cases e2
            | none =>
              rw [ef] at q
              walk_at "rd"
              exact ⟨by decide, fun p1 n1 => q _ p1 upd_same⟩
        · rw [e1] at q
          walk_at "rd"
          exact ⟨by decide, fun p1 n1 => q _ p1 upd_same⟩
end
end Dx
set_option linter.all false
set_option maxRecDepth 100000
namespace Dx
open PySem PySem.W PyProof.Rows
theorem in_bytes {lo hi : Nat} {l : List Int} (h : (Codec.inLen lo hi l && l.all (Codec.inInt 0 255)) = true) : l.length ≤ hi ∧ ∀ x ∈ l, 0 ≤ x ∧ x ≤ 255 := by
  rw [Bool.and_eq_true] at h
  refine ⟨(Codec.inNat_iff.mp h.1).2, fun x hx => ?_⟩
  have := List.all_eq_true.mp h.2 x hx
  unfold Codec.inInt at this
  rw [Bool.and_eq_true, decide_eq_true_eq, decide_eq_true_eq] at this
  exact this
theorem s_ok (K : PySem.W.Frag) (H : L2.Hp) (xs : List L2.V) (a : Codec.denoteAll PySem.Challenge.rw_discimages_s03_file.args) (hwi : Codec.withinAll PySem.Challenge.rw_discimages_s03_file.args a = true)
    (hx : L2.DwAll K H xs (Codec.encAll PySem.Challenge.rw_discimages_s03_file.args a)) :
    Dx.sp_file K xs H (fun v H' => L2.Dw K H' v (PySem.Challenge.rw_discimages_s03_file.ret.enc (Codec.app PySem.Challenge.rw_discimages_s03_file.args PySem.Challenge.rw_discimages_s03_file.f a))) fun _ _ _ => False := by
  obtain ⟨st, m, ns, ps, u⟩ := a
  cases hx with
  | cons h1 h2 =>
    cases h2 with
    | cons h2 h3 =>
      cases h3 with
      | cons h3 h4 =>
        cases h4 with
        | cons h4 h5 =>
          cases h5
          cases h1
          cases h2
          cases h3 with
          | lst hs ha =>
            cases h4 with
            | lst hs2 ha2 =>
              have e := L2.ints_dw ns _ ha
              subst e
              have e2 := L2.ints_dw ps _ ha2
              subst e2
              have q : (Codec.inInt (-2147483648) 2147483647 st && (Codec.inInt (-2147483648) 2147483647 m && ((Codec.inLen 0 100000 ns && ns.all (Codec.inInt 0 255)) && ((Codec.inLen 0 1024 ps && ps.all (Codec.inInt 0 255)) && true)))) = true := hwi
              rw [Bool.and_true, Bool.and_eq_true, Bool.and_eq_true, Bool.and_eq_true] at q
              obtain ⟨q1, q2⟩ := in_bytes q.2.2.1
              obtain ⟨q3, q4⟩ := in_bytes q.2.2.2
              exact ⟨st, m, _, _, ns, ps, rfl, hs, hs2, q2, q1, q4, q3, fun H' p hp => .lst (L2.SqL.of hp) (L2.dw_ints _)⟩
end Dx
set_option Elab.async false
set_option linter.all false
set_option maxRecDepth 100000
namespace Dx
open PySem PySem.Spec PyProof.Rows L2 MM
section
variable {K : PySem.W.Frag} {h : Heap} {mg : Str → Option Value} {od an : Option Addr} {osl : Array (Option Value)} {oc kV dc pm cd ct : Value} {f C : Addr}
abbrev HasI (_ : K.In h) (mg : Str → Option Value) (x : Str) (st : Stmt) (ps : List Str) : Prop := Has K mg x st ps
abbrev KlsI (_ : K.In h) (mg : Str → Option Value) (x q : Str) (C : Addr) (st : Stmt) (ps attrs : List Str) : Prop := Kls K mg x q C st ps attrs
abbrev TupI (_ : K.In h) (a : Addr) (b : Sn28.Bytes) : Prop := TupK K a b
abbrev ExcI (_ : K.In h) (mg : Str → Option Value) (x : Str) (C : Addr) : Prop := Exc K mg x C
abbrev exmI (_ : K.In h) (a b : Addr) : Option Bool := PySem.W.exmOne K (.ref a) (.ref b)
abbrev TxtI (_ : K.In h) (mg : Str → Option Value) (ad : Ad) : Prop := Txt K mg ad
theorem has_mk {x : Str} {st : Stmt} {ps : List Str} (X : K.In h) (G : h.Ns mainGlobals mg) (a : PySem.W.nsIn K mainGlobals x = some (some (.ref f)))
    (l : K.lookup f = some ⟨oc, od, .func (PySem.W.fnOf x x (defArgs st) (defBody st) (defScope st) .none kV dc pm an cd ct), osl⟩) (c : PySem.W.codeIn K cd x = true) (k : PySem.W.keepIn K (.ref f) = true)
    (b : ∀ (kV doc pm : Value) (an : Option Addr) (cdv ct : Value) (us : List Value), us.length = ps.length → bindArgs (PySem.W.fnOf x x (defArgs st) (defBody st) (defScope st) .none kV doc pm an cdv ct) ⟨us, []⟩ = pure (ps.zip us)) : Has K mg x st ps := by
  have F := fun_mk (st := st) l c k
  exact ⟨f, _, F, F.binds b, PySem.W.mg_of X G a⟩
theorem kls_mk {x q : Str} {st : Stmt} {ps attrs : List Str} (X : K.In h) (G : h.Ns mainGlobals mg) (aC : PySem.W.nsIn K mainGlobals x = some (some (.ref C)))
    (a : PySem.W.findIn K (.ref C) "__init__" = some (some (.ref f))) (i : PySem.W.isFn K (.ref f) = true) (l : K.lookup f = some ⟨oc, od, .func (PySem.W.fnOf "__init__" q (defArgs st) (defBody st) (defScope st) .none kV dc pm an cd ct), osl⟩) (c : PySem.W.codeIn K cd q = true) (k : PySem.W.keepIn K (.ref f) = true)
    (pg : PySem.W.plainGet K C Str.empty = true) (hd : PySem.W.hasDictIn K C = true) (po : PySem.W.plainOver K C = true) (sa : PySem.W.findIn K (.ref C) "__setattr__" = some (some (.builtin "object.__setattr__"))) (mk : PySem.W.makesIn K C = true) (kc : PySem.W.keepIn K (.ref C) = true)
    (b : ∀ (kV doc pm : Value) (an : Option Addr) (cdv ct : Value) (us : List Value), us.length = ps.length → bindArgs (PySem.W.fnOf "__init__" q (defArgs st) (defBody st) (defScope st) .none kV doc pm an cdv ct) ⟨us, []⟩ = pure (ps.zip us))
    (na : ∀ a ∈ attrs, NoAttr K C a) : Kls K mg x q C st ps attrs := by
  have F := fun_mk (st := st) l c k
  exact ⟨PySem.W.mg_of X G aC, ⟨pg, hd, po, sa⟩, ⟨f, _, ⟨mk, a, i, kc⟩, F, F.binds b⟩, na⟩
theorem int_mk {x : Str} {v : Value} {z : Int} (X : K.In h) (G : h.Ns mainGlobals mg) (a : PySem.W.nsIn K mainGlobals x = some (some v)) (e : ∃ t, v = .int z t) : ∃ t, mg x = some (.int z t) := by
  obtain ⟨t, rfl⟩ := e
  exact ⟨t, PySem.W.mg_of X G a⟩
theorem con_mk {x : Str} {v : Value} (X : K.In h) (G : h.Ns mainGlobals mg) (a : PySem.W.nsIn K mainGlobals x = some (some v)) : mg x = some v := PySem.W.mg_of X G a
theorem tup_mk {x : Str} {b : Sn28.Bytes} (X : K.In h) (G : h.Ns mainGlobals mg) {its : Array Value} {n : Nat} (a : PySem.W.nsIn K mainGlobals x = some (some (.ref C))) (l : K.lookup C = some ⟨.type "tuple", od, .seq its n, osl⟩) (s : its.size ≤ sizeLine) (v : Vals (ivs b) its.toList) : mg x = some (.ref C) ∧ TupK K C b :=
  ⟨PySem.W.mg_of X G a, _, its, n, l, rfl, rfl, s, v⟩
theorem no_mk {x : Str} (X : K.In h) (G : h.Ns mainGlobals mg) (a : PySem.W.nsIn K mainGlobals x = some none) : mg x = none := PySem.W.mg_none_of X G a
theorem exc_mk {x : Str} (X : K.In h) (G : h.Ns mainGlobals mg) (a : PySem.W.nsIn K mainGlobals x = some (some (.ref C))) (e : PySem.W.excIn K C excTail "Exception.__new__" = true) : Exc K mg x C := ⟨PySem.W.mg_of X G a, e⟩
end
end Dx
def PySem.W.Fast.tw1000946381183221336 : Nat := 0
def PySem.W.Fast.tw10025027334397088702 : Nat := 0
def PySem.W.Fast.tw10052151493536615643 : Nat := 0
def PySem.W.Fast.tw10099687810999258076 : Nat := 0
def PySem.W.Fast.tw10111676028328510935 : Nat := 0
def PySem.W.Fast.tw1022956897308686912 : Nat := 0
def PySem.W.Fast.tw10368730443504004193 : Nat := 0
def PySem.W.Fast.tw10460593876842392149 : Nat := 0
def PySem.W.Fast.tw10531921153179004988 : Nat := 0
def PySem.W.Fast.tw10632446329054431702 : Nat := 0
def PySem.W.Fast.tw10684652436132383178 : Nat := 0
def PySem.W.Fast.tw10685759672051270108 : Nat := 0
def PySem.W.Fast.tw10692196491296133664 : Nat := 0
def PySem.W.Fast.tw10697680041194692095 : Nat := 0
def PySem.W.Fast.tw10707972326386816812 : Nat := 0
def PySem.W.Fast.tw10725531328130221284 : Nat := 0
def PySem.W.Fast.tw10786243296000094226 : Nat := 0
def PySem.W.Fast.tw10796008160877791024 : Nat := 0
def PySem.W.Fast.tw1083125257148143413 : Nat := 0
def PySem.W.Fast.tw10833467935336169563 : Nat := 0
def PySem.W.Fast.tw1083500051377385134 : Nat := 0
def PySem.W.Fast.tw10842926635649689135 : Nat := 0
def PySem.W.Fast.tw10846516192076531793 : Nat := 0
def PySem.W.Fast.tw10860655014186343949 : Nat := 0
def PySem.W.Fast.tw10862642096525224640 : Nat := 0
def PySem.W.Fast.tw10867840088163215789 : Nat := 0
def PySem.W.Fast.tw1087407731798053005 : Nat := 0
def PySem.W.Fast.tw10904115094119478638 : Nat := 0
def PySem.W.Fast.tw10954316010027909212 : Nat := 0
def PySem.W.Fast.tw11023676094399095407 : Nat := 0
def PySem.W.Fast.tw1109571322711530649 : Nat := 0
def PySem.W.Fast.tw11101118601506795262 : Nat := 0
def PySem.W.Fast.tw11197308442323726862 : Nat := 0
def PySem.W.Fast.tw11316390134541728672 : Nat := 0
def PySem.W.Fast.tw11351544491838812962 : Nat := 0
def PySem.W.Fast.tw11353586501932012789 : Nat := 0
def PySem.W.Fast.tw11356527290038808706 : Nat := 0
def PySem.W.Fast.tw11418245227464864780 : Nat := 0
def PySem.W.Fast.tw11505637727253978527 : Nat := 0
def PySem.W.Fast.tw11513861353369272666 : Nat := 0
def PySem.W.Fast.tw11556861038637083765 : Nat := 0
def PySem.W.Fast.tw1160978093577405803 : Nat := 0
def PySem.W.Fast.tw11612671538596703680 : Nat := 0
def PySem.W.Fast.tw11638031340049443073 : Nat := 0
def PySem.W.Fast.tw11687675524741683742 : Nat := 0
def PySem.W.Fast.tw11691791320225752243 : Nat := 0
def PySem.W.Fast.tw11773175177488941918 : Nat := 0
def PySem.W.Fast.tw1184472355667177818 : Nat := 0
def PySem.W.Fast.tw11862643606152811975 : Nat := 0
def PySem.W.Fast.tw11885901857453213798 : Nat := 0
def PySem.W.Fast.tw11913738054071496174 : Nat := 0
def PySem.W.Fast.tw12015834389174555310 : Nat := 0
def PySem.W.Fast.tw12128972908597190744 : Nat := 0
def PySem.W.Fast.tw12195452702595906260 : Nat := 0
def PySem.W.Fast.tw12407353525160488588 : Nat := 0
def PySem.W.Fast.tw12454166876044252786 : Nat := 0
def PySem.W.Fast.tw12471518987156014934 : Nat := 0
def PySem.W.Fast.tw12651524350670647494 : Nat := 0
def PySem.W.Fast.tw12705968289820809915 : Nat := 0
def PySem.W.Fast.tw12769995727019513552 : Nat := 0
def PySem.W.Fast.tw12823323082017503138 : Nat := 0
def PySem.W.Fast.tw12858929202269455969 : Nat := 0
def PySem.W.Fast.tw12925464605150034191 : Nat := 0
def PySem.W.Fast.tw12976897987200420941 : Nat := 0
def PySem.W.Fast.tw12983240599458541056 : Nat := 0
def PySem.W.Fast.tw13006418641437688761 : Nat := 0
def PySem.W.Fast.tw13028597071110413092 : Nat := 0
def PySem.W.Fast.tw1314263699674877083 : Nat := 0
def PySem.W.Fast.tw13143360935652143177 : Nat := 0
def PySem.W.Fast.tw13193822055150144915 : Nat := 0
def PySem.W.Fast.tw13194301803110227983 : Nat := 0
def PySem.W.Fast.tw13195317821452062032 : Nat := 0
def PySem.W.Fast.tw13213386922866156732 : Nat := 0
def PySem.W.Fast.tw13232567033491258038 : Nat := 0
def PySem.W.Fast.tw132399169351231733 : Nat := 0
def PySem.W.Fast.tw13248846045180214543 : Nat := 0
def PySem.W.Fast.tw13306988186206588936 : Nat := 0
def PySem.W.Fast.tw13313425801793889342 : Nat := 0
def PySem.W.Fast.tw13349945805604811432 : Nat := 0
def PySem.W.Fast.tw13398645827098545842 : Nat := 0
def PySem.W.Fast.tw13497151535433433324 : Nat := 0
def PySem.W.Fast.tw13504772770453261881 : Nat := 0
def PySem.W.Fast.tw13507520652325711197 : Nat := 0
def PySem.W.Fast.tw13572200953563258082 : Nat := 0
def PySem.W.Fast.tw13618294796228468528 : Nat := 0
def PySem.W.Fast.tw13637253392081673129 : Nat := 0
def PySem.W.Fast.tw13709087693701864432 : Nat := 0
def PySem.W.Fast.tw13719450184859066370 : Nat := 0
def PySem.W.Fast.tw13722335038562692810 : Nat := 0
def PySem.W.Fast.tw13757192047392591304 : Nat := 0
def PySem.W.Fast.tw13857600434537618260 : Nat := 0
def PySem.W.Fast.tw13900787555169341440 : Nat := 0
def PySem.W.Fast.tw13979508996577129181 : Nat := 0
def PySem.W.Fast.tw13983571728671292398 : Nat := 0
def PySem.W.Fast.tw13990692776195542799 : Nat := 0
def PySem.W.Fast.tw14102462737296368982 : Nat := 0
def PySem.W.Fast.tw14105729925839074280 : Nat := 0
def PySem.W.Fast.tw14112633182044759831 : Nat := 0
def PySem.W.Fast.tw14136050444904783047 : Nat := 0
def PySem.W.Fast.tw14146515667993582353 : Nat := 0
def PySem.W.Fast.tw14157632705227223091 : Nat := 0
def PySem.W.Fast.tw14178174451873843213 : Nat := 0
def PySem.W.Fast.tw14268558524679603555 : Nat := 0
def PySem.W.Fast.tw14347644784513695697 : Nat := 0
def PySem.W.Fast.tw144254802976370623 : Nat := 0
def PySem.W.Fast.tw14433533532558653804 : Nat := 0
def PySem.W.Fast.tw14520337695876894430 : Nat := 0
def PySem.W.Fast.tw1456205651049144605 : Nat := 0
def PySem.W.Fast.tw14569433715776021005 : Nat := 0
def PySem.W.Fast.tw14571734400313914950 : Nat := 0
def PySem.W.Fast.tw14595892600847862088 : Nat := 0
def PySem.W.Fast.tw1463327090089949769 : Nat := 0
def PySem.W.Fast.tw14743491917654494506 : Nat := 0
def PySem.W.Fast.tw14818299345368380672 : Nat := 0
def PySem.W.Fast.tw14839229293688168360 : Nat := 0
def PySem.W.Fast.tw14855445334704679941 : Nat := 0
def PySem.W.Fast.tw14864785458719055072 : Nat := 0
def PySem.W.Fast.tw14930526196920798798 : Nat := 0
def PySem.W.Fast.tw14993967666613763612 : Nat := 0
def PySem.W.Fast.tw14999400281292446155 : Nat := 0
def PySem.W.Fast.tw1501133147621772927 : Nat := 0
def PySem.W.Fast.tw15023609204668830812 : Nat := 0
def PySem.W.Fast.tw1515707199295051609 : Nat := 0
def PySem.W.Fast.tw15312819512962653577 : Nat := 0
def PySem.W.Fast.tw15460936557912683682 : Nat := 0
def PySem.W.Fast.tw15496004238093843930 : Nat := 0
def PySem.W.Fast.tw15527720280292080019 : Nat := 0
def PySem.W.Fast.tw15533324810227323381 : Nat := 0
def PySem.W.Fast.tw15560261343407594504 : Nat := 0
def PySem.W.Fast.tw15575420183478252733 : Nat := 0
def PySem.W.Fast.tw15619860722047617341 : Nat := 0
def PySem.W.Fast.tw15621408737198715512 : Nat := 0
def PySem.W.Fast.tw15722492154925674001 : Nat := 0
def PySem.W.Fast.tw15814991917963880377 : Nat := 0
def PySem.W.Fast.tw15837745517052406779 : Nat := 0
def PySem.W.Fast.tw15863702175710345942 : Nat := 0
def PySem.W.Fast.tw15895009625613098938 : Nat := 0
def PySem.W.Fast.tw15913193467895988207 : Nat := 0
def PySem.W.Fast.tw15928914298986166481 : Nat := 0
def PySem.W.Fast.tw15934282909289773737 : Nat := 0
def PySem.W.Fast.tw16047974396659668075 : Nat := 0
def PySem.W.Fast.tw16049962722647870801 : Nat := 0
def PySem.W.Fast.tw16272106586706389051 : Nat := 0
def PySem.W.Fast.tw16324562709658482063 : Nat := 0
def PySem.W.Fast.tw16387637421232608789 : Nat := 0
def PySem.W.Fast.tw16401987172421155912 : Nat := 0
def PySem.W.Fast.tw16423774420241178798 : Nat := 0
def PySem.W.Fast.tw16436836652640357043 : Nat := 0
def PySem.W.Fast.tw16442455280480681752 : Nat := 0
def PySem.W.Fast.tw16457024411923241977 : Nat := 0
def PySem.W.Fast.tw16465758687158243155 : Nat := 0
def PySem.W.Fast.tw1646614247087092077 : Nat := 0
def PySem.W.Fast.tw16474927096049116111 : Nat := 0
def PySem.W.Fast.tw16515213058438098913 : Nat := 0
def PySem.W.Fast.tw16515705914035676492 : Nat := 0
def PySem.W.Fast.tw16544620469104505537 : Nat := 0
def PySem.W.Fast.tw16564317723512916262 : Nat := 0
def PySem.W.Fast.tw16612089811910844289 : Nat := 0
def PySem.W.Fast.tw16658489235577955948 : Nat := 0
def PySem.W.Fast.tw16728983301792373943 : Nat := 0
def PySem.W.Fast.tw16834351156670175642 : Nat := 0
def PySem.W.Fast.tw16905388047831691373 : Nat := 0
def PySem.W.Fast.tw16916836633632729302 : Nat := 0
def PySem.W.Fast.tw16979722222015792664 : Nat := 0
def PySem.W.Fast.tw17036749616246287511 : Nat := 0
def PySem.W.Fast.tw17086877137789130341 : Nat := 0
def PySem.W.Fast.tw17090539778982875610 : Nat := 0
def PySem.W.Fast.tw17163100898802219591 : Nat := 0
def PySem.W.Fast.tw17254576308590703603 : Nat := 0
def PySem.W.Fast.tw17323222091830551302 : Nat := 0
def PySem.W.Fast.tw17326229278861860471 : Nat := 0
def PySem.W.Fast.tw17404832442020003409 : Nat := 0
def PySem.W.Fast.tw17446034943419221782 : Nat := 0
def PySem.W.Fast.tw17459223821188393505 : Nat := 0
def PySem.W.Fast.tw1753700058026077626 : Nat := 0
def PySem.W.Fast.tw17537315858061506676 : Nat := 0
def PySem.W.Fast.tw17539332952242323199 : Nat := 0
def PySem.W.Fast.tw17541890362294880548 : Nat := 0
def PySem.W.Fast.tw1770509210141479324 : Nat := 0
def PySem.W.Fast.tw17729076197688449040 : Nat := 0
def PySem.W.Fast.tw1780701054079850089 : Nat := 0
def PySem.W.Fast.tw17883151832867584956 : Nat := 0
def PySem.W.Fast.tw17895509398745608435 : Nat := 0
def PySem.W.Fast.tw17962490770703299180 : Nat := 0
def PySem.W.Fast.tw17970255257925231194 : Nat := 0
def PySem.W.Fast.tw18045169923709505720 : Nat := 0
def PySem.W.Fast.tw18176580934078597345 : Nat := 0
def PySem.W.Fast.tw18263847621612450554 : Nat := 0
def PySem.W.Fast.tw18263966753493520476 : Nat := 0
def PySem.W.Fast.tw18308194269590829124 : Nat := 0
def PySem.W.Fast.tw1836333966198460453 : Nat := 0
def PySem.W.Fast.tw18369825167004817924 : Nat := 0
def PySem.W.Fast.tw18410308371116248048 : Nat := 0
def PySem.W.Fast.tw18421173228396117967 : Nat := 0
def PySem.W.Fast.tw1864840158830588256 : Nat := 0
def PySem.W.Fast.tw1870829524472238660 : Nat := 0
def PySem.W.Fast.tw1875023888422626254 : Nat := 0
def PySem.W.Fast.tw1889390899737528912 : Nat := 0
def PySem.W.Fast.tw1904830093034907426 : Nat := 0
def PySem.W.Fast.tw1945388995054979701 : Nat := 0
def PySem.W.Fast.tw1956724459533091382 : Nat := 0
def PySem.W.Fast.tw1972836251822714057 : Nat := 0
def PySem.W.Fast.tw215041391594973001 : Nat := 0
def PySem.W.Fast.tw2211079338631366975 : Nat := 0
def PySem.W.Fast.tw2249859262295333353 : Nat := 0
def PySem.W.Fast.tw2250380479170981437 : Nat := 0
def PySem.W.Fast.tw2261828100279061194 : Nat := 0
def PySem.W.Fast.tw2290087373383595300 : Nat := 0
def PySem.W.Fast.tw2425262784633570566 : Nat := 0
def PySem.W.Fast.tw2685402715227586883 : Nat := 0
def PySem.W.Fast.tw2839010969249114479 : Nat := 0
def PySem.W.Fast.tw2872762876483359016 : Nat := 0
def PySem.W.Fast.tw2880569841496308590 : Nat := 0
def PySem.W.Fast.tw2882602997007081271 : Nat := 0
def PySem.W.Fast.tw2952249870719122793 : Nat := 0
def PySem.W.Fast.tw3045425934021393639 : Nat := 0
def PySem.W.Fast.tw3047003390829134421 : Nat := 0
def PySem.W.Fast.tw3074499129268766426 : Nat := 0
def PySem.W.Fast.tw3145317977140353407 : Nat := 0
def PySem.W.Fast.tw3184019342710684362 : Nat := 0
def PySem.W.Fast.tw3255927480055315734 : Nat := 0
def PySem.W.Fast.tw3388659575128376392 : Nat := 0
def PySem.W.Fast.tw342980462762212962 : Nat := 0
def PySem.W.Fast.tw3457199651958465688 : Nat := 0
def PySem.W.Fast.tw3485798101335808440 : Nat := 0
def PySem.W.Fast.tw3568426993625242746 : Nat := 0
def PySem.W.Fast.tw3590729193635970376 : Nat := 0
def PySem.W.Fast.tw3676969299600306630 : Nat := 0
def PySem.W.Fast.tw3685121452287902026 : Nat := 0
def PySem.W.Fast.tw3689740616838660357 : Nat := 0
def PySem.W.Fast.tw3696335262524539179 : Nat := 0
def PySem.W.Fast.tw3708444410186935199 : Nat := 0
def PySem.W.Fast.tw3850830198917399872 : Nat := 0
def PySem.W.Fast.tw3868376020880048636 : Nat := 0
def PySem.W.Fast.tw3978331894160588966 : Nat := 0
def PySem.W.Fast.tw401073887776309141 : Nat := 0
def PySem.W.Fast.tw4019217704056141339 : Nat := 0
def PySem.W.Fast.tw4110754537854074881 : Nat := 0
def PySem.W.Fast.tw423765602276898315 : Nat := 0
def PySem.W.Fast.tw4354634106638219632 : Nat := 0
def PySem.W.Fast.tw438834061062315650 : Nat := 0
def PySem.W.Fast.tw4497018719485885290 : Nat := 0
def PySem.W.Fast.tw451383626053162839 : Nat := 0
def PySem.W.Fast.tw4533281227950675981 : Nat := 0
def PySem.W.Fast.tw457945613358709371 : Nat := 0
def PySem.W.Fast.tw4582698305462633419 : Nat := 0
def PySem.W.Fast.tw4591199971475267173 : Nat := 0
def PySem.W.Fast.tw4591644916666057783 : Nat := 0
def PySem.W.Fast.tw462254310301027422 : Nat := 0
def PySem.W.Fast.tw4639917146258145977 : Nat := 0
def PySem.W.Fast.tw4648536017078681952 : Nat := 0
def PySem.W.Fast.tw4675954747479019416 : Nat := 0
def PySem.W.Fast.tw476528696243730170 : Nat := 0
def PySem.W.Fast.tw4769568522725253158 : Nat := 0
def PySem.W.Fast.tw4814877792169213705 : Nat := 0
def PySem.W.Fast.tw4851345019324512724 : Nat := 0
def PySem.W.Fast.tw491949155750367912 : Nat := 0
def PySem.W.Fast.tw4928599155210318475 : Nat := 0
def PySem.W.Fast.tw4953402112426064445 : Nat := 0
def PySem.W.Fast.tw4983002554718500786 : Nat := 0
def PySem.W.Fast.tw4993756687417514009 : Nat := 0
def PySem.W.Fast.tw5018005859708545260 : Nat := 0
def PySem.W.Fast.tw5041085211196549561 : Nat := 0
def PySem.W.Fast.tw5047639318171205069 : Nat := 0
def PySem.W.Fast.tw5090588903006417899 : Nat := 0
def PySem.W.Fast.tw5110217973287366081 : Nat := 0
def PySem.W.Fast.tw5216216185644471788 : Nat := 0
def PySem.W.Fast.tw5224902054149371803 : Nat := 0
def PySem.W.Fast.tw5288700441752288071 : Nat := 0
def PySem.W.Fast.tw5353847681848702209 : Nat := 0
def PySem.W.Fast.tw5356596341632511305 : Nat := 0
def PySem.W.Fast.tw5390383541725612547 : Nat := 0
def PySem.W.Fast.tw5436269376438154249 : Nat := 0
def PySem.W.Fast.tw5574794467494599392 : Nat := 0
def PySem.W.Fast.tw5636333020602278594 : Nat := 0
def PySem.W.Fast.tw5655783569460445827 : Nat := 0
def PySem.W.Fast.tw567434380689767620 : Nat := 0
def PySem.W.Fast.tw573144774359471131 : Nat := 0
def PySem.W.Fast.tw5878461536782869847 : Nat := 0
def PySem.W.Fast.tw596332190196961780 : Nat := 0
def PySem.W.Fast.tw6025705656337787121 : Nat := 0
def PySem.W.Fast.tw6057044234117918865 : Nat := 0
def PySem.W.Fast.tw6079485815403561888 : Nat := 0
def PySem.W.Fast.tw6118659997240928803 : Nat := 0
def PySem.W.Fast.tw6121296315277900755 : Nat := 0
def PySem.W.Fast.tw6171620907571744825 : Nat := 0
def PySem.W.Fast.tw62649268508225969 : Nat := 0
def PySem.W.Fast.tw6292554398167323880 : Nat := 0
def PySem.W.Fast.tw6377087328727161832 : Nat := 0
def PySem.W.Fast.tw6399868038425580212 : Nat := 0
def PySem.W.Fast.tw6410490082514888264 : Nat := 0
def PySem.W.Fast.tw6417523867751077021 : Nat := 0
def PySem.W.Fast.tw6453079732558840432 : Nat := 0
def PySem.W.Fast.tw6477471219732285778 : Nat := 0
def PySem.W.Fast.tw6480973421487566403 : Nat := 0
def PySem.W.Fast.tw6512688646445262556 : Nat := 0
def PySem.W.Fast.tw6559179532297593855 : Nat := 0
def PySem.W.Fast.tw658298020327645903 : Nat := 0
def PySem.W.Fast.tw6676228328710273020 : Nat := 0
def PySem.W.Fast.tw6701111010591843919 : Nat := 0
def PySem.W.Fast.tw6745544598510099293 : Nat := 0
def PySem.W.Fast.tw674640794978121192 : Nat := 0
def PySem.W.Fast.tw6809831897479645787 : Nat := 0
def PySem.W.Fast.tw681570071286524793 : Nat := 0
def PySem.W.Fast.tw6824264136692510954 : Nat := 0
def PySem.W.Fast.tw6932872126178585039 : Nat := 0
def PySem.W.Fast.tw6933224231856151280 : Nat := 0
def PySem.W.Fast.tw6967881322339304814 : Nat := 0
def PySem.W.Fast.tw6993997232440051889 : Nat := 0
def PySem.W.Fast.tw7019990874069130536 : Nat := 0
def PySem.W.Fast.tw7028249499035879312 : Nat := 0
def PySem.W.Fast.tw7038085480948561405 : Nat := 0
def PySem.W.Fast.tw7043095691824108519 : Nat := 0
def PySem.W.Fast.tw7092327417827286081 : Nat := 0
def PySem.W.Fast.tw712617318492232273 : Nat := 0
def PySem.W.Fast.tw7135455635779732340 : Nat := 0
def PySem.W.Fast.tw7145455400777043472 : Nat := 0
def PySem.W.Fast.tw7215564689898416251 : Nat := 0
def PySem.W.Fast.tw7289640557150766897 : Nat := 0
def PySem.W.Fast.tw7325565193259869071 : Nat := 0
def PySem.W.Fast.tw7341258227659689029 : Nat := 0
def PySem.W.Fast.tw7416739074504516453 : Nat := 0
def PySem.W.Fast.tw7457958924391007526 : Nat := 0
def PySem.W.Fast.tw7576233899076846236 : Nat := 0
def PySem.W.Fast.tw760737998009621176 : Nat := 0
def PySem.W.Fast.tw7613971101988931141 : Nat := 0
def PySem.W.Fast.tw7658087635773057554 : Nat := 0
def PySem.W.Fast.tw7716150327983564289 : Nat := 0
def PySem.W.Fast.tw7757645001650665777 : Nat := 0
def PySem.W.Fast.tw776103583765421600 : Nat := 0
def PySem.W.Fast.tw7781203563416796904 : Nat := 0
def PySem.W.Fast.tw778388238106600086 : Nat := 0
def PySem.W.Fast.tw7792886691984977940 : Nat := 0
def PySem.W.Fast.tw77963210163434601 : Nat := 0
def PySem.W.Fast.tw7805644802734239613 : Nat := 0
def PySem.W.Fast.tw7812888748527727117 : Nat := 0
def PySem.W.Fast.tw7857807496380039160 : Nat := 0
def PySem.W.Fast.tw7986289789654803869 : Nat := 0
def PySem.W.Fast.tw8041716970200604592 : Nat := 0
def PySem.W.Fast.tw8172288943647028722 : Nat := 0
def PySem.W.Fast.tw8235762514219279385 : Nat := 0
def PySem.W.Fast.tw8353076617610977910 : Nat := 0
def PySem.W.Fast.tw8376238624493878074 : Nat := 0
def PySem.W.Fast.tw8492831848319418498 : Nat := 0
def PySem.W.Fast.tw8555279516509408040 : Nat := 0
def PySem.W.Fast.tw8588292015110726871 : Nat := 0
def PySem.W.Fast.tw8601965818340549162 : Nat := 0
def PySem.W.Fast.tw8603692173649606162 : Nat := 0
def PySem.W.Fast.tw8643592841044549116 : Nat := 0
def PySem.W.Fast.tw8723598351800609877 : Nat := 0
def PySem.W.Fast.tw8740361217787796956 : Nat := 0
def PySem.W.Fast.tw8834097256274510818 : Nat := 0
def PySem.W.Fast.tw8850610131452335254 : Nat := 0
def PySem.W.Fast.tw8912606975802036735 : Nat := 0
def PySem.W.Fast.tw8918445495774126119 : Nat := 0
def PySem.W.Fast.tw8976040925184221764 : Nat := 0
def PySem.W.Fast.tw8978673919227793948 : Nat := 0
def PySem.W.Fast.tw8996524783086098876 : Nat := 0
def PySem.W.Fast.tw9122960882093129323 : Nat := 0
def PySem.W.Fast.tw9146665254645670361 : Nat := 0
def PySem.W.Fast.tw9227525419181880145 : Nat := 0
def PySem.W.Fast.tw9251298798688412659 : Nat := 0
def PySem.W.Fast.tw9273533072416312123 : Nat := 0
def PySem.W.Fast.tw9286818067708470177 : Nat := 0
def PySem.W.Fast.tw9293061192557567387 : Nat := 0
def PySem.W.Fast.tw9306308910629236427 : Nat := 0
def PySem.W.Fast.tw939236294814783052 : Nat := 0
def PySem.W.Fast.tw9433935872524675568 : Nat := 0
def PySem.W.Fast.tw9439753426962216298 : Nat := 0
def PySem.W.Fast.tw9457627082504104285 : Nat := 0
def PySem.W.Fast.tw9460248961841842581 : Nat := 0
def PySem.W.Fast.tw9473320285889070109 : Nat := 0
def PySem.W.Fast.tw9483551107385345110 : Nat := 0
def PySem.W.Fast.tw9486412818172335919 : Nat := 0
def PySem.W.Fast.tw949628858206779928 : Nat := 0
def PySem.W.Fast.tw9564167226371403939 : Nat := 0
def PySem.W.Fast.tw9674887240473611792 : Nat := 0
def PySem.W.Fast.tw9676270642417883450 : Nat := 0
def PySem.W.Fast.tw9736184269496655446 : Nat := 0
def PySem.W.Fast.tw9743603256675449167 : Nat := 0
def PySem.W.Fast.tw9829059808338904681 : Nat := 0
def PySem.W.Fast.tw986654363953041793 : Nat := 0
def PySem.W.Fast.tw9901008366033270873 : Nat := 0
def PySem.W.Fast.tw993942633779811107 : Nat := 0
def PySem.W.Fast.tw9947155258326359875 : Nat := 0
def PySem.W.Fast.tw9985287369680362484 : Nat := 0
def PySem.W.Fast.tw9992540736305124525 : Nat := 0
open PySem PySem.W PyProof.Rows
set_option maxRecDepth 100000 in
set_option maxHeartbeats 0 in
theorem PySem.Challenge.cw_discimages_s03_file_holds : PySem.Challenge.rw_discimages_s03_file.Holds := by
  w_on; k_headS; (case hw => exact ⟨[.int 0, .int 0, .list [], .list []], by decide +kernel, by decide +kernel⟩)
  k_fillS
  refine L2.walk_specK (r := PySem.Challenge.rw_discimages_s03_file) (k := 10) (CX := L2.CX0) (ps := ["start", "most", "image", "path"]) (sp := Dx.sp_file) (by decide +kernel) rfl rfl ⟨rfl, by decide, by decide⟩ (fun w h Y => PySem.W.kIn_of Y) ?F ?S (fun _ _ _ _ z => z)
  case F =>
    intro w mg fa h Y KX G hmg
    have f_read_higher_first : Dx.HasI KX mg "read_higher_first" Dx.s_read_higher_first ["values"] := by
      refine' Dx.has_mk KX G ?a ?l ?c ?k (fun _ _ _ _ _ _ us hl => match us, hl with | [_], _ => rfl)
      (case a => k_is); (case l => k_is); (case c => k_is); (case k => k_is)
    have f_read_lower_first : Dx.HasI KX mg "read_lower_first" Dx.s_read_lower_first ["values"] := by
      refine' Dx.has_mk KX G ?a ?l ?c ?k (fun _ _ _ _ _ _ us hl => match us, hl with | [_], _ => rfl)
      (case a => k_is); (case l => k_is); (case c => k_is); (case k => k_is)
    have f_read_both_ways : Dx.HasI KX mg "read_both_ways" Dx.s_read_both_ways ["image", "at", "width"] := by
      refine' Dx.has_mk KX G ?a ?l ?c ?k (fun _ _ _ _ _ _ us hl => match us, hl with | [_, _, _], _ => rfl)
      (case a => k_is); (case l => k_is); (case c => k_is); (case k => k_is)
    have f_write_number : Dx.HasI KX mg "write_number" Dx.s_write_number ["number", "width", "is_lower_first"] := by
      refine' Dx.has_mk KX G ?a ?l ?c ?k (fun _ _ _ _ _ _ us hl => match us, hl with | [_, _, _], _ => rfl)
      (case a => k_is); (case l => k_is); (case c => k_is); (case k => k_is)
    have f_check_length : Dx.HasI KX mg "check_length" Dx.s_check_length ["image", "at", "end"] := by
      refine' Dx.has_mk KX G ?a ?l ?c ?k (fun _ _ _ _ _ _ us hl => match us, hl with | [_, _, _], _ => rfl)
      (case a => k_is); (case l => k_is); (case c => k_is); (case k => k_is)
    have f_check_fixed_fields : Dx.HasI KX mg "check_fixed_fields" Dx.s_check_fixed_fields ["image", "at"] := by
      refine' Dx.has_mk KX G ?a ?l ?c ?k (fun _ _ _ _ _ _ us hl => match us, hl with | [_, _], _ => rfl)
      (case a => k_is); (case l => k_is); (case c => k_is); (case k => k_is)
    have f_read_record : Dx.HasI KX mg "read_record" Dx.s_read_record ["image", "at", "end"] := by
      refine' Dx.has_mk KX G ?a ?l ?c ?k (fun _ _ _ _ _ _ us hl => match us, hl with | [_, _, _], _ => rfl)
      (case a => k_is); (case l => k_is); (case c => k_is); (case k => k_is)
    have f_is_descriptor : Dx.HasI KX mg "is_descriptor" Dx.s_is_descriptor ["image", "at", "kind"] := by
      refine' Dx.has_mk KX G ?a ?l ?c ?k (fun _ _ _ _ _ _ us hl => match us, hl with | [_, _, _], _ => rfl)
      (case a => k_is); (case l => k_is); (case c => k_is); (case k => k_is)
    have f_check_whole_sectors : Dx.HasI KX mg "check_whole_sectors" Dx.s_check_whole_sectors ["image"] := by
      refine' Dx.has_mk KX G ?a ?l ?c ?k (fun _ _ _ _ _ _ us hl => match us, hl with | [_], _ => rfl)
      (case a => k_is); (case l => k_is); (case c => k_is); (case k => k_is)
    have f_check_main : Dx.HasI KX mg "check_main" Dx.s_check_main ["image", "start"] := by
      refine' Dx.has_mk KX G ?a ?l ?c ?k (fun _ _ _ _ _ _ us hl => match us, hl with | [_, _], _ => rfl)
      (case a => k_is); (case l => k_is); (case c => k_is); (case k => k_is)
    have f_check_followers : Dx.HasI KX mg "check_followers" Dx.s_check_followers ["image", "start"] := by
      refine' Dx.has_mk KX G ?a ?l ?c ?k (fun _ _ _ _ _ _ us hl => match us, hl with | [_, _], _ => rfl)
      (case a => k_is); (case l => k_is); (case c => k_is); (case k => k_is)
    have f_read_top : Dx.HasI KX mg "read_top" Dx.s_read_top ["image", "at"] := by
      refine' Dx.has_mk KX G ?a ?l ?c ?k (fun _ _ _ _ _ _ us hl => match us, hl with | [_, _], _ => rfl)
      (case a => k_is); (case l => k_is); (case c => k_is); (case k => k_is)
    have f_read_main : Dx.HasI KX mg "read_main" Dx.s_read_main ["image"] := by
      refine' Dx.has_mk KX G ?a ?l ?c ?k (fun _ _ _ _ _ _ us hl => match us, hl with | [_], _ => rfl)
      (case a => k_is); (case l => k_is); (case c => k_is); (case k => k_is)
    have f_is_sign : Dx.HasI KX mg "is_sign" Dx.s_is_sign ["value"] := by
      refine' Dx.has_mk KX G ?a ?l ?c ?k (fun _ _ _ _ _ _ us hl => match us, hl with | [_], _ => rfl)
      (case a => k_is); (case l => k_is); (case c => k_is); (case k => k_is)
    have f_is_folder_name : Dx.HasI KX mg "is_folder_name" Dx.s_is_folder_name ["name"] := by
      refine' Dx.has_mk KX G ?a ?l ?c ?k (fun _ _ _ _ _ _ us hl => match us, hl with | [_], _ => rfl)
      (case a => k_is); (case l => k_is); (case c => k_is); (case k => k_is)
    have f_is_file_name : Dx.HasI KX mg "is_file_name" Dx.s_is_file_name ["name"] := by
      refine' Dx.has_mk KX G ?a ?l ?c ?k (fun _ _ _ _ _ _ us hl => match us, hl with | [_], _ => rfl)
      (case a => k_is); (case l => k_is); (case c => k_is); (case k => k_is)
    have f_fill_up : Dx.HasI KX mg "fill_up" Dx.s_fill_up ["name", "length"] := by
      refine' Dx.has_mk KX G ?a ?l ?c ?k (fun _ _ _ _ _ _ us hl => match us, hl with | [_, _], _ => rfl)
      (case a => k_is); (case l => k_is); (case c => k_is); (case k => k_is)
    have f_comes_before : Dx.HasI KX mg "comes_before" Dx.s_comes_before ["name", "other"] := by
      refine' Dx.has_mk KX G ?a ?l ?c ?k (fun _ _ _ _ _ _ us hl => match us, hl with | [_, _], _ => rfl)
      (case a => k_is); (case l => k_is); (case c => k_is); (case k => k_is)
    have f_check_in_image : Dx.HasI KX mg "check_in_image" Dx.s_check_in_image ["image", "record"] := by
      refine' Dx.has_mk KX G ?a ?l ?c ?k (fun _ _ _ _ _ _ us hl => match us, hl with | [_, _], _ => rfl)
      (case a => k_is); (case l => k_is); (case c => k_is); (case k => k_is)
    have f_check_folder_size : Dx.HasI KX mg "check_folder_size" Dx.s_check_folder_size ["record"] := by
      refine' Dx.has_mk KX G ?a ?l ?c ?k (fun _ _ _ _ _ _ us hl => match us, hl with | [_], _ => rfl)
      (case a => k_is); (case l => k_is); (case c => k_is); (case k => k_is)
    have f_read_sector : Dx.HasI KX mg "read_sector" Dx.s_read_sector ["image", "start"] := by
      refine' Dx.has_mk KX G ?a ?l ?c ?k (fun _ _ _ _ _ _ us hl => match us, hl with | [_, _], _ => rfl)
      (case a => k_is); (case l => k_is); (case c => k_is); (case k => k_is)
    have f_read_all_records : Dx.HasI KX mg "read_all_records" Dx.s_read_all_records ["image", "folder"] := by
      refine' Dx.has_mk KX G ?a ?l ?c ?k (fun _ _ _ _ _ _ us hl => match us, hl with | [_, _], _ => rfl)
      (case a => k_is); (case l => k_is); (case c => k_is); (case k => k_is)
    have f_check_link : Dx.HasI KX mg "check_link" Dx.s_check_link ["record", "folder", "name"] := by
      refine' Dx.has_mk KX G ?a ?l ?c ?k (fun _ _ _ _ _ _ us hl => match us, hl with | [_, _, _], _ => rfl)
      (case a => k_is); (case l => k_is); (case c => k_is); (case k => k_is)
    have f_check_name : Dx.HasI KX mg "check_name" Dx.s_check_name ["record"] := by
      refine' Dx.has_mk KX G ?a ?l ?c ?k (fun _ _ _ _ _ _ us hl => match us, hl with | [_], _ => rfl)
      (case a => k_is); (case l => k_is); (case c => k_is); (case k => k_is)
    have f_check_order : Dx.HasI KX mg "check_order" Dx.s_check_order ["records"] := by
      refine' Dx.has_mk KX G ?a ?l ?c ?k (fun _ _ _ _ _ _ us hl => match us, hl with | [_], _ => rfl)
      (case a => k_is); (case l => k_is); (case c => k_is); (case k => k_is)
    have f_read_folder : Dx.HasI KX mg "read_folder" Dx.s_read_folder ["image", "folder", "above"] := by
      refine' Dx.has_mk KX G ?a ?l ?c ?k (fun _ _ _ _ _ _ us hl => match us, hl with | [_, _, _], _ => rfl)
      (case a => k_is); (case l => k_is); (case c => k_is); (case k => k_is)
    have f_read_tree : Dx.HasI KX mg "read_tree" Dx.s_read_tree ["image", "top"] := by
      refine' Dx.has_mk KX G ?a ?l ?c ?k (fun _ _ _ _ _ _ us hl => match us, hl with | [_, _], _ => rfl)
      (case a => k_is); (case l => k_is); (case c => k_is); (case k => k_is)
    have f_write_entry : Dx.HasI KX mg "write_entry" Dx.s_write_entry ["folder", "is_lower_first"] := by
      refine' Dx.has_mk KX G ?a ?l ?c ?k (fun _ _ _ _ _ _ us hl => match us, hl with | [_, _], _ => rfl)
      (case a => k_is); (case l => k_is); (case c => k_is); (case k => k_is)
    have f_write_table : Dx.HasI KX mg "write_table" Dx.s_write_table ["folders", "is_lower_first"] := by
      refine' Dx.has_mk KX G ?a ?l ?c ?k (fun _ _ _ _ _ _ us hl => match us, hl with | [_, _], _ => rfl)
      (case a => k_is); (case l => k_is); (case c => k_is); (case k => k_is)
    have f_check_table : Dx.HasI KX mg "check_table" Dx.s_check_table ["image", "place", "size", "table"] := by
      refine' Dx.has_mk KX G ?a ?l ?c ?k (fun _ _ _ _ _ _ us hl => match us, hl with | [_, _, _, _], _ => rfl)
      (case a => k_is); (case l => k_is); (case c => k_is); (case k => k_is)
    have f_check_tables : Dx.HasI KX mg "check_tables" Dx.s_check_tables ["image", "main", "folders"] := by
      refine' Dx.has_mk KX G ?a ?l ?c ?k (fun _ _ _ _ _ _ us hl => match us, hl with | [_, _, _], _ => rfl)
      (case a => k_is); (case l => k_is); (case c => k_is); (case k => k_is)
    have f_read_volume : Dx.HasI KX mg "read_volume" Dx.s_read_volume ["image"] := by
      refine' Dx.has_mk KX G ?a ?l ?c ?k (fun _ _ _ _ _ _ us hl => match us, hl with | [_], _ => rfl)
      (case a => k_is); (case l => k_is); (case c => k_is); (case k => k_is)
    have f_is_number_of_bytes : Dx.HasI KX mg "is_number_of_bytes" Dx.s_is_number_of_bytes ["number"] := by
      refine' Dx.has_mk KX G ?a ?l ?c ?k (fun _ _ _ _ _ _ us hl => match us, hl with | [_], _ => rfl)
      (case a => k_is); (case l => k_is); (case c => k_is); (case k => k_is)
    have f_split_path : Dx.HasI KX mg "split_path" Dx.s_split_path ["path"] := by
      refine' Dx.has_mk KX G ?a ?l ?c ?k (fun _ _ _ _ _ _ us hl => match us, hl with | [_], _ => rfl)
      (case a => k_is); (case l => k_is); (case c => k_is); (case k => k_is)
    have f_find_member : Dx.HasI KX mg "find_member" Dx.s_find_member ["folder", "name"] := by
      refine' Dx.has_mk KX G ?a ?l ?c ?k (fun _ _ _ _ _ _ us hl => match us, hl with | [_, _], _ => rfl)
      (case a => k_is); (case l => k_is); (case c => k_is); (case k => k_is)
    have f_find_file : Dx.HasI KX mg "find_file" Dx.s_find_file ["top", "path"] := by
      refine' Dx.has_mk KX G ?a ?l ?c ?k (fun _ _ _ _ _ _ us hl => match us, hl with | [_, _], _ => rfl)
      (case a => k_is); (case l => k_is); (case c => k_is); (case k => k_is)
    have f_cut_piece : Dx.HasI KX mg "cut_piece" Dx.s_cut_piece ["image", "record", "start", "most"] := by
      refine' Dx.has_mk KX G ?a ?l ?c ?k (fun _ _ _ _ _ _ us hl => match us, hl with | [_, _, _, _], _ => rfl)
      (case a => k_is); (case l => k_is); (case c => k_is); (case k => k_is)
    have f_file : Dx.HasI KX mg "file" Dx.s_file ["start", "most", "image", "path"] := by
      refine' Dx.has_mk KX G ?a ?l ?c ?k (fun _ _ _ _ _ _ us hl => match us, hl with | [_, _, _, _], _ => rfl)
      (case a => k_is); (case l => k_is); (case c => k_is); (case k => k_is)
    obtain ⟨C_Record, k_Record⟩ : ∃ C, Dx.KlsI KX mg "Record" "Record.__init__" C Dx.s_Record ["self", "place", "size", "is_folder", "name"] ["place", "size", "is_folder", "name"] := by
      refine' ⟨_, Dx.kls_mk KX G ?aC ?a ?i ?l ?c ?k ?pg ?hd ?po ?sa ?mk ?kc (fun _ _ _ _ _ _ us hl => match us, hl with | [_, _, _, _, _], _ => rfl) (List.forall_mem_cons.mpr ⟨?n0, (List.forall_mem_cons.mpr ⟨?n1, (List.forall_mem_cons.mpr ⟨?n2, (List.forall_mem_cons.mpr ⟨?n3, (List.forall_mem_nil _)⟩)⟩)⟩)⟩)⟩
      (case aC => k_is); (case a => k_is); (case i => k_is); (case l => k_is); (case c => k_is); (case k => k_is); (case pg => k_is); (case hd => k_is); (case po => k_is); (case sa => k_is); (case mk => k_is); (case kc => k_is)
      (case n0 => show PySem.W.findIn _ _ _ = _; k_is); (case n1 => show PySem.W.findIn _ _ _ = _; k_is); (case n2 => show PySem.W.findIn _ _ _ = _; k_is); (case n3 => show PySem.W.findIn _ _ _ = _; k_is)
    obtain ⟨C_Main, k_Main⟩ : ∃ C, Dx.KlsI KX mg "Main" "Main.__init__" C Dx.s_Main ["self", "table_size", "lower_table", "higher_table", "top", "name"] ["table_size", "lower_table", "higher_table", "top", "name"] := by
      refine' ⟨_, Dx.kls_mk KX G ?aC ?a ?i ?l ?c ?k ?pg ?hd ?po ?sa ?mk ?kc (fun _ _ _ _ _ _ us hl => match us, hl with | [_, _, _, _, _, _], _ => rfl) (List.forall_mem_cons.mpr ⟨?n0, (List.forall_mem_cons.mpr ⟨?n1, (List.forall_mem_cons.mpr ⟨?n2, (List.forall_mem_cons.mpr ⟨?n3, (List.forall_mem_cons.mpr ⟨?n4, (List.forall_mem_nil _)⟩)⟩)⟩)⟩)⟩)⟩
      (case aC => k_is); (case a => k_is); (case i => k_is); (case l => k_is); (case c => k_is); (case k => k_is); (case pg => k_is); (case hd => k_is); (case po => k_is); (case sa => k_is); (case mk => k_is); (case kc => k_is)
      (case n0 => show PySem.W.findIn _ _ _ = _; k_is); (case n1 => show PySem.W.findIn _ _ _ = _; k_is); (case n2 => show PySem.W.findIn _ _ _ = _; k_is); (case n3 => show PySem.W.findIn _ _ _ = _; k_is); (case n4 => show PySem.W.findIn _ _ _ = _; k_is)
    obtain ⟨C_Node, k_Node⟩ : ∃ C, Dx.KlsI KX mg "Node" "Node.__init__" C Dx.s_Node ["self", "record", "above", "depth"] ["record", "above", "depth", "members"] := by
      refine' ⟨_, Dx.kls_mk KX G ?aC ?a ?i ?l ?c ?k ?pg ?hd ?po ?sa ?mk ?kc (fun _ _ _ _ _ _ us hl => match us, hl with | [_, _, _, _], _ => rfl) (List.forall_mem_cons.mpr ⟨?n0, (List.forall_mem_cons.mpr ⟨?n1, (List.forall_mem_cons.mpr ⟨?n2, (List.forall_mem_cons.mpr ⟨?n3, (List.forall_mem_nil _)⟩)⟩)⟩)⟩)⟩
      (case aC => k_is); (case a => k_is); (case i => k_is); (case l => k_is); (case c => k_is); (case k => k_is); (case pg => k_is); (case hd => k_is); (case po => k_is); (case sa => k_is); (case mk => k_is); (case kc => k_is)
      (case n0 => show PySem.W.findIn _ _ _ = _; k_is); (case n1 => show PySem.W.findIn _ _ _ = _; k_is); (case n2 => show PySem.W.findIn _ _ _ = _; k_is); (case n3 => show PySem.W.findIn _ _ _ = _; k_is)
    obtain ⟨C_Tree, k_Tree⟩ : ∃ C, Dx.KlsI KX mg "Tree" "Tree.__init__" C Dx.s_Tree ["self", "folders", "files"] ["folders", "files"] := by
      refine' ⟨_, Dx.kls_mk KX G ?aC ?a ?i ?l ?c ?k ?pg ?hd ?po ?sa ?mk ?kc (fun _ _ _ _ _ _ us hl => match us, hl with | [_, _, _], _ => rfl) (List.forall_mem_cons.mpr ⟨?n0, (List.forall_mem_cons.mpr ⟨?n1, (List.forall_mem_nil _)⟩)⟩)⟩
      (case aC => k_is); (case a => k_is); (case i => k_is); (case l => k_is); (case c => k_is); (case k => k_is); (case pg => k_is); (case hd => k_is); (case po => k_is); (case sa => k_is); (case mk => k_is); (case kc => k_is)
      (case n0 => show PySem.W.findIn _ _ _ = _; k_is); (case n1 => show PySem.W.findIn _ _ _ = _; k_is)
    obtain ⟨C_Volume, k_Volume⟩ : ∃ C, Dx.KlsI KX mg "Volume" "Volume.__init__" C Dx.s_Volume ["self", "sectors", "name", "tree"] ["sectors", "name", "tree"] := by
      refine' ⟨_, Dx.kls_mk KX G ?aC ?a ?i ?l ?c ?k ?pg ?hd ?po ?sa ?mk ?kc (fun _ _ _ _ _ _ us hl => match us, hl with | [_, _, _, _], _ => rfl) (List.forall_mem_cons.mpr ⟨?n0, (List.forall_mem_cons.mpr ⟨?n1, (List.forall_mem_cons.mpr ⟨?n2, (List.forall_mem_nil _)⟩)⟩)⟩)⟩
      (case aC => k_is); (case a => k_is); (case i => k_is); (case l => k_is); (case c => k_is); (case k => k_is); (case pg => k_is); (case hd => k_is); (case po => k_is); (case sa => k_is); (case mk => k_is); (case kc => k_is)
      (case n0 => show PySem.W.findIn _ _ _ = _; k_is); (case n1 => show PySem.W.findIn _ _ _ = _; k_is); (case n2 => show PySem.W.findIn _ _ _ = _; k_is)
    have c_SECTOR : ∃ t, mg "SECTOR" = some (.int 2048 t) := by
      refine' Dx.int_mk KX G ?a ?e; (case a => k_is); (case e => exact ⟨_, rfl⟩)
    have c_BLANK : ∃ t, mg "BLANK" = some (.int 32 t) := by
      refine' Dx.int_mk KX G ?a ?e; (case a => k_is); (case e => exact ⟨_, rfl⟩)
    have c_SLASH : ∃ t, mg "SLASH" = some (.int 47 t) := by
      refine' Dx.int_mk KX G ?a ?e; (case a => k_is); (case e => exact ⟨_, rfl⟩)
    have c_NAME_AT : ∃ t, mg "NAME_AT" = some (.int 33 t) := by
      refine' Dx.int_mk KX G ?a ?e; (case a => k_is); (case e => exact ⟨_, rfl⟩)
    have c_FOLDER : ∃ t, mg "FOLDER" = some (.int 2 t) := by
      refine' Dx.int_mk KX G ?a ?e; (case a => k_is); (case e => exact ⟨_, rfl⟩)
    have c_MOST_FLAGS : ∃ t, mg "MOST_FLAGS" = some (.int 3 t) := by
      refine' Dx.int_mk KX G ?a ?e; (case a => k_is); (case e => exact ⟨_, rfl⟩)
    have c_MAIN_SECTOR : ∃ t, mg "MAIN_SECTOR" = some (.int 16 t) := by
      refine' Dx.int_mk KX G ?a ?e; (case a => k_is); (case e => exact ⟨_, rfl⟩)
    have c_KIND_MAIN : ∃ t, mg "KIND_MAIN" = some (.int 1 t) := by
      refine' Dx.int_mk KX G ?a ?e; (case a => k_is); (case e => exact ⟨_, rfl⟩)
    have c_KIND_BETWEEN : ∃ t, mg "KIND_BETWEEN" = some (.int 0 t) := by
      refine' Dx.int_mk KX G ?a ?e; (case a => k_is); (case e => exact ⟨_, rfl⟩)
    have c_KIND_LAST : ∃ t, mg "KIND_LAST" = some (.int 255 t) := by
      refine' Dx.int_mk KX G ?a ?e; (case a => k_is); (case e => exact ⟨_, rfl⟩)
    have c_TOP_AT : ∃ t, mg "TOP_AT" = some (.int 156 t) := by
      refine' Dx.int_mk KX G ?a ?e; (case a => k_is); (case e => exact ⟨_, rfl⟩)
    have c_TOP_LENGTH : ∃ t, mg "TOP_LENGTH" = some (.int 34 t) := by
      refine' Dx.int_mk KX G ?a ?e; (case a => k_is); (case e => exact ⟨_, rfl⟩)
    have c_POINT : ∃ t, mg "POINT" = some (.int 46 t) := by
      refine' Dx.int_mk KX G ?a ?e; (case a => k_is); (case e => exact ⟨_, rfl⟩)
    have c_MOST_IN_FOLDER_NAME : ∃ t, mg "MOST_IN_FOLDER_NAME" = some (.int 31 t) := by
      refine' Dx.int_mk KX G ?a ?e; (case a => k_is); (case e => exact ⟨_, rfl⟩)
    have c_MOST_IN_FILE_NAME : ∃ t, mg "MOST_IN_FILE_NAME" = some (.int 30 t) := by
      refine' Dx.int_mk KX G ?a ?e; (case a => k_is); (case e => exact ⟨_, rfl⟩)
    have c_MOST_DEEP : ∃ t, mg "MOST_DEEP" = some (.int 8 t) := by
      refine' Dx.int_mk KX G ?a ?e; (case a => k_is); (case e => exact ⟨_, rfl⟩)
    have c_MOST_BELOW_TOP : ∃ t, mg "MOST_BELOW_TOP" = some (.int 16384 t) := by
      refine' Dx.int_mk KX G ?a ?e; (case a => k_is); (case e => exact ⟨_, rfl⟩)
    have c_MOST_BYTES : ∃ t, mg "MOST_BYTES" = some (.int 16777216 t) := by
      refine' Dx.int_mk KX G ?a ?e; (case a => k_is); (case e => exact ⟨_, rfl⟩)
    have c_MOST_IN_PATH : ∃ t, mg "MOST_IN_PATH" = some (.int 1024 t) := by
      refine' Dx.int_mk KX G ?a ?e; (case a => k_is); (case e => exact ⟨_, rfl⟩)
    obtain ⟨t_MARK, c_MARK⟩ : ∃ C, mg "MARK" = some (.ref C) ∧ Dx.TupI KX C [67, 68, 48, 48, 49, 1] := by
      refine' ⟨_, Dx.tup_mk KX G ?a ?l ?s ?v⟩; (case a => k_is); (case l => k_is); (case s => decide); (case v => exact (.cons ⟨_, rfl⟩ (.cons ⟨_, rfl⟩ (.cons ⟨_, rfl⟩ (.cons ⟨_, rfl⟩ (.cons ⟨_, rfl⟩ (.cons ⟨_, rfl⟩ .nil)))))))
    obtain ⟨t_TOP_NAME, c_TOP_NAME⟩ : ∃ C, mg "TOP_NAME" = some (.ref C) ∧ Dx.TupI KX C [0] := by
      refine' ⟨_, Dx.tup_mk KX G ?a ?l ?s ?v⟩; (case a => k_is); (case l => k_is); (case s => decide); (case v => exact (.cons ⟨_, rfl⟩ .nil))
    obtain ⟨t_VERSION, c_VERSION⟩ : ∃ C, mg "VERSION" = some (.ref C) ∧ Dx.TupI KX C [59, 49] := by
      refine' ⟨_, Dx.tup_mk KX G ?a ?l ?s ?v⟩; (case a => k_is); (case l => k_is); (case s => decide); (case v => exact (.cons ⟨_, rfl⟩ (.cons ⟨_, rfl⟩ .nil)))
    obtain ⟨t_SELF_NAME, c_SELF_NAME⟩ : ∃ C, mg "SELF_NAME" = some (.ref C) ∧ Dx.TupI KX C [0] := by
      refine' ⟨_, Dx.tup_mk KX G ?a ?l ?s ?v⟩; (case a => k_is); (case l => k_is); (case s => decide); (case v => exact (.cons ⟨_, rfl⟩ .nil))
    obtain ⟨t_ABOVE_NAME, c_ABOVE_NAME⟩ : ∃ C, mg "ABOVE_NAME" = some (.ref C) ∧ Dx.TupI KX C [1] := by
      refine' ⟨_, Dx.tup_mk KX G ?a ?l ?s ?v⟩; (case a => k_is); (case l => k_is); (case s => decide); (case v => exact (.cons ⟨_, rfl⟩ .nil))
    have n_len : mg "len" = none := by
      refine' Dx.no_mk KX G ?a; (case a => k_is)
    have n_list : mg "list" = none := by
      refine' Dx.no_mk KX G ?a; (case a => k_is)
    have n_reversed : mg "reversed" = none := by
      refine' Dx.no_mk KX G ?a; (case a => k_is)
    have n_range : mg "range" = none := by
      refine' Dx.no_mk KX G ?a; (case a => k_is)
    have n_tuple : mg "tuple" = none := by
      refine' Dx.no_mk KX G ?a; (case a => k_is)
    have n_any : mg "any" = none := by
      refine' Dx.no_mk KX G ?a; (case a => k_is)
    have n_all : mg "all" = none := by
      refine' Dx.no_mk KX G ?a; (case a => k_is)
    have n_max : mg "max" = none := by
      refine' Dx.no_mk KX G ?a; (case a => k_is)
    have n_min : mg "min" = none := by
      refine' Dx.no_mk KX G ?a; (case a => k_is)
    obtain ⟨C_BadImage, C_NoFile, e_BadImage, e_NoFile, x0, x1, x2⟩ : ∃ C D, Dx.ExcI KX mg "BadImage" C ∧ Dx.ExcI KX mg "NoFile" D ∧ Dx.exmI KX C C = some true ∧ Dx.exmI KX D C = some false ∧ Dx.exmI KX D D = some true := by
      refine' ⟨_, _, Dx.exc_mk KX G ?a ?e, Dx.exc_mk KX G ?a2 ?e2, L2.exm_mk ?h1 ?h2 ?h3 ?h4, L2.exm_mk ?g1 ?g2 ?g3 ?g4, L2.exm_mk ?i1 ?i2 ?i3 ?i4⟩
      (case a => k_is); (case a2 => k_is); (case e => k_exc); (case e2 => k_exc)
      (case h1 => k_is); (case h2 => k_is); (case h3 => k_is); (case h4 => k_is); (case g1 => k_is); (case g2 => k_is); (case g3 => k_is); (case g4 => k_is); (case i1 => k_is); (case i2 => k_is); (case i3 => k_is); (case i4 => k_is)
    have T : Dx.TxtI KX mg ⟨C_Record, C_Main, C_Node, C_Tree, C_Volume, C_BadImage, C_NoFile, 0, t_MARK, t_TOP_NAME, t_VERSION, t_SELF_NAME, t_ABOVE_NAME⟩ := ⟨f_read_higher_first, f_read_lower_first, f_read_both_ways, f_write_number, f_check_length, f_check_fixed_fields, f_read_record, f_is_descriptor, f_check_whole_sectors, f_check_main, f_check_followers, f_read_top, f_read_main, f_is_sign, f_is_folder_name, f_is_file_name, f_fill_up, f_comes_before, f_check_in_image, f_check_folder_size, f_read_sector, f_read_all_records, f_check_link, f_check_name, f_check_order, f_read_folder, f_read_tree, f_write_entry, f_write_table, f_check_table, f_check_tables, f_read_volume, f_is_number_of_bytes, f_split_path, f_find_member, f_find_file, f_cut_piece, f_file, c_SECTOR, c_BLANK, c_SLASH, c_NAME_AT, c_FOLDER, c_MOST_FLAGS, c_MAIN_SECTOR, c_KIND_MAIN, c_KIND_BETWEEN, c_KIND_LAST, c_TOP_AT, c_TOP_LENGTH, c_POINT, c_MOST_IN_FOLDER_NAME, c_MOST_IN_FILE_NAME, c_MOST_DEEP, c_MOST_BELOW_TOP, c_MOST_BYTES, c_MOST_IN_PATH, c_MARK, c_TOP_NAME, c_VERSION, c_SELF_NAME, c_ABOVE_NAME, n_len, n_list, n_reversed, n_range, n_tuple, n_any, n_all, n_max, n_min, e_BadImage, e_NoFile, k_Record, k_Main, k_Node, k_Tree, k_Volume, x1, x2, x0⟩
    obtain ⟨f, fd, F, m, ok⟩ := Dx.g_file (P := PySem.Challenge.rw_discimages_s03_file.prog) (w := w) T
    cases hmg.symm.trans m
    obtain ⟨oc, od, kV, dc, pm, an, cd, ct, osl, rfl, _, _⟩ := F.ex
    exact ⟨_, fun s us hu => match us, hu with | [_, _, _, _], _ => .of_eq rfl, fun base _ _ => ok base⟩
  case S =>
    intro K H xs a hO hwi hask hx
    exact Dx.s_ok K H xs a hwi hx
