import PyProof.Rows.All
import Wide.All
import OpenK.AllK
import Wide.FinOn
import PyProof.EqAt
import PyProof.EqKinds
import PyProof.TupleCall
import KE.BitLaws
import Open.SpecLaws
import KE.OsHead
import KE.OsGo
import PySem.Challenge.RW_playseason_s01_answers
-- CHANGE: your row's module here, as the last of these rows
set_option Elab.async false
set_option linter.all false
set_option maxRecDepth 100000
namespace L2
open PySem PySem.Spec PyProof.Rows
abbrev Key := Sum Int Str
def keyIs : Key → Value → Bool
  | .inl k, v => Value.isInt k v
  | .inr x, v => Value.isStrOf x v
def keyH (w : World) : Key → Int
  | .inl k => hashInt k
  | .inr x => hashStr w x
theorem keyIs_shape : ∀ {k : Key} {v : Value}, keyIs k v = true → (∃ i t, k = Sum.inl i ∧ v = Value.int i t) ∨ (∃ x t, k = Sum.inr x ∧ v = Value.str x t)
  | .inl i, v, h => by
    obtain ⟨t, e⟩ := Value.isInt_shape (k := i) (v := v) h
    exact .inl ⟨i, t, rfl, e⟩
  | .inr x, v, h => by
    obtain ⟨t, e⟩ := Value.isStrOf_shape (x := x) (v := v) h
    exact .inr ⟨x, t, rfl, e⟩
theorem key_ll (a b : Int) : decide ((Sum.inl a : Key) = Sum.inl b) = (a == b) := by
  by_cases e : a = b
  · subst e; simp
  · have h : ¬ (Sum.inl a : Key) = Sum.inl b := fun q => e (Sum.inl.inj q)
    rw [decide_eq_false h]
    exact (beq_eq_false_iff_ne.mpr e).symm
theorem key_rr (a b : Str) : decide ((Sum.inr a : Key) = Sum.inr b) = decide (a = b) := by
  by_cases e : a = b
  · subst e; simp
  · have h : ¬ (Sum.inr a : Key) = Sum.inr b := fun q => e (Sum.inr.inj q)
    rw [decide_eq_false h, decide_eq_false e]
theorem key_lr (a : Int) (b : Str) : decide ((Sum.inl a : Key) = Sum.inr b) = false := decide_eq_false (fun q => nomatch q)
theorem key_rl (a : Str) (b : Int) : decide ((Sum.inr a : Key) = Sum.inl b) = false := decide_eq_false (fun q => nomatch q)
def mixKind (prog : Program) (w : World) : PySem.KeyKind prog w Key where
  is := keyIs
  hash := keyH w
  inj := fun v a b ha hb => by
    rcases keyIs_shape ha with ⟨i, t, rfl, rfl⟩ | ⟨x, t, rfl, rfl⟩
    · rcases keyIs_shape hb with ⟨j, u, rfl, e⟩ | ⟨y, u, rfl, e⟩
      · injection e with e1 _; rw [e1]
      · exact nomatch e
    · rcases keyIs_shape hb with ⟨j, u, rfl, e⟩ | ⟨y, u, rfl, e⟩
      · exact nomatch e
      · injection e with e1 _; rw [e1]
  byValue := fun k v h => by
    rcases keyIs_shape h with ⟨i, t, rfl, rfl⟩ | ⟨x, t, rfl, rfl⟩ <;> rfl
  pyHash := fun hv h => by
    rcases keyIs_shape hv with ⟨i, t, rfl, rfl⟩ | ⟨x, t, rfl, rfl⟩
    · exact wpAny_pyHash_int h
    · exact wpAny_pyHash_str h
  eqBool := fun hu hv h => by
    rcases keyIs_shape hu with ⟨i, t, rfl, rfl⟩ | ⟨x, t, rfl, rfl⟩
    · rcases keyIs_shape hv with ⟨j, u, rfl, rfl⟩ | ⟨y, u, rfl, rfl⟩
      · rw [key_ll] at h; exact wpAny_eqBool_int h
      · rw [key_lr] at h; exact SeqAt.EqAt.int_str i t y u _ _ _ _ h
    · rcases keyIs_shape hv with ⟨j, u, rfl, rfl⟩ | ⟨y, u, rfl, rfl⟩
      · rw [key_rl] at h; exact SeqAt.EqAt.str_int x t j u _ _ _ _ h
      · rw [key_rr] at h; exact wpAny_eqBool_str h
  «strs» := fun k x t v h => by
    rcases keyIs_shape h with ⟨i, u, rfl, e⟩ | ⟨y, u, rfl, e⟩
    · exact nomatch e
    · injection e with e1 _
      subst e1
      cases v <;> rfl
end L2
namespace L2
open PySem PySem.Spec PyProof.Rows
inductive V where
  | non | bl (b : Bool) | int (i : Int) | str (x : Str) | byt (b : Array UInt8) | flt (b : UInt64) | ref (a : Addr) | ty (n : String)
def RelV : V → Value → Prop
  | .non, u => u = Value.none
  | .bl b, u => u = Value.bool b
  | .int i, u => ∃ t, u = Value.int i t
  | .str x, u => ∃ t, u = Value.str x t
  | .byt b, u => ∃ t, u = Value.bytes b t
  | .flt b, u => ∃ t, u = Value.float b t
  | .ref a, u => u = Value.ref a
  | .ty n, u => u = Value.type n
abbrev Vals : List V → List Value → Prop := Paired RelV
theorem Vals.length {xs : List V} {us : List Value} (r : Vals xs us) : xs.length = us.length := Paired.length r
theorem Vals.get : ∀ {xs : List V} {us : List Value} {i : Nat} {x : V}, Vals xs us → xs[i]? = some x → ∃ u, us[i]? = some u ∧ RelV x u
  | _, _, _, _, .nil, e => by simp at e
  | _, _, 0, _, .cons r _, e => by simp at e; subst e; exact ⟨_, rfl, r⟩
  | _, _, i + 1, x, .cons _ t, e => by
    obtain ⟨u, h1, h2⟩ := Vals.get (i := i) (x := x) t (by simpa using e)
    exact ⟨u, by simpa using h1, h2⟩
theorem Vals.set {x : V} {u : Value} (r : RelV x u) : ∀ {xs : List V} {us : List Value} (i : Nat), Vals xs us → Vals (xs.set i x) (us.set i u)
  | _, _, _, .nil => .nil
  | _, _, 0, .cons _ t => .cons r t
  | _, _, i + 1, .cons q t => .cons q (Vals.set r i t)
theorem Vals.append : ∀ {xs ys : List V} {us ws : List Value}, Vals xs us → Vals ys ws → Vals (xs ++ ys) (us ++ ws)
  | _, _, _, _, .nil, s => s
  | _, _, _, _, .cons r t, s => .cons r (Vals.append t s)
theorem Vals.take : ∀ {xs : List V} {us : List Value} (n : Nat), Vals xs us → Vals (xs.take n) (us.take n)
  | _, _, 0, _ => .nil
  | _, _, _ + 1, .nil => .nil
  | _, _, n + 1, .cons r t => .cons r (Vals.take n t)
theorem Vals.drop : ∀ {xs : List V} {us : List Value} (n : Nat), Vals xs us → Vals (xs.drop n) (us.drop n)
  | _, _, 0, r => r
  | _, _, _ + 1, .nil => .nil
  | _, _, n + 1, .cons _ t => Vals.drop n t
def RelO : Option V → Option Value → Prop
  | some v, some u => RelV v u
  | none, none => True
  | _, _ => False
def KV {κ : Type} : List (κ × V) → List (κ × Value) → Prop := Paired fun (p : κ × V) (q : κ × Value) => p.1 = q.1 ∧ RelV p.2 q.2
def kV : Key → V
  | .inl i => .int i
  | .inr x => .str x
inductive HO where
  /-- a list -/
  | lst (xs : List V)
  /-- a tuple (never changes) -/
  | tup (xs : List V)
  /-- a dict whose keys are ints and texts; one whose keys are tuples of ints and texts (the empty one is both) -/
  | dK (kvs : List (Key × V)) | dT (kvs : List (List Key × V))
  /-- a set of ints: its members, its size -/
  | set (S : Int → Bool) (n : Nat)
  /-- an instance of the class at C, its dict at dx, its attributes -/
  | ins (C dx : Addr) (fs : List (Str × V))
  /-- the dict of the instance at x -/
  | own (x : Addr)
  /-- the dict of an exception -/
  | xd (fs : List (Str × V))
  /-- a bound method, f of x -/
  | met (f x : Addr)
  /-- a range object lo, lo + 1, .. below hi -/
  | rng (lo hi : Int)
  /-- a thing that is known to the object (the script; a dict while a loop walks it): read, never written while it is so -/
  | frz (o : Obj) (u : HO)
  /-- a code object's table -/
  | tbl (ps : Array Value)
  /-- any other thing, by what is true of its one object (a def of one's own: SetO a S n := HO.ext fun h => ..) -/
  | ext (φ : Heap → Prop)
abbrev Hp := Addr → Option HO
def upd (H : Hp) (a : Addr) (o : HO) : Hp := fun b => if b = a then some o else H b
theorem upd_same {H : Hp} {a : Addr} {o : HO} : upd H a o a = some o := by unfold upd; rw [if_pos rfl]
theorem upd_ne {H : Hp} {a b : Addr} {o : HO} (h : b ≠ a) : upd H a o b = H b := by unfold upd; rw [if_neg h]
theorem upd_upd {H : Hp} {a : Addr} {o u : HO} : upd (upd H a o) a u = upd H a u := by
  funext b; unfold upd; split <;> rfl
theorem ne_of {H : Hp} {a b : Addr} {o u : HO} (h : H a = some o) (h' : H b = some u) (d : o ≠ u) : a ≠ b := by
  intro e; subst e; rw [h] at h'; exact d (Option.some.inj h')
theorem ne_of_none {H : Hp} {a b : Addr} {o : HO} (h : H a = some o) (h' : H b = none) : a ≠ b := by
  intro e; subst e; rw [h] at h'; cases h'
section
variable (P : Program) (w : World)
def ObjOk (H : Hp) (h : Heap) (a : Addr) : HO → Prop
  | .lst xs => xs.length ≤ sizeLine ∧ ∃ (its : List Value) (n : Nat), Vals xs its ∧ h.get? a = some { cls := .type "list", data := .seq its.toArray n }
  | .tup xs => xs.length ≤ sizeLine ∧ ∃ its : List Value, Vals xs its ∧ IsTup h a its.toArray
  | .dK kvs => kvs.length ≤ sizeLine ∧ (a == sysModules) = false ∧ ∃ vs, KV kvs vs ∧ h.DictOf (mixKind P w) a vs
  | .dT kvs => kvs.length ≤ sizeLine ∧ (a == sysModules) = false ∧ ∃ xs : List (List Key × Addr × Value),
      Paired (fun (p : List Key × V) (q : List Key × Addr × Value) => p.1 = q.1 ∧ H q.2.1 = some (.tup (p.1.map kV)) ∧ RelV p.2 q.2.2) kvs xs ∧
      ∃ o es ep, h.get? a = some o ∧ o.ExactDict ∧ o.data = .dict es ep ∧ es.toList = xs.map (entryOfKey (tupleKind (mixKind P w))) ∧ (xs.map (·.1)).Nodup
  | .set S n => h.SetOf (intKind P w) a S n
  | .ins C dx fs => H dx = some (.own a) ∧ fs.length ≤ 1000 ∧ dx ≠ a ∧ h.get? a = some (PySem.W.instObj C dx) ∧
      ∃ mA, h.Ns1 dx mA ∧ (∀ f, RelO (fs.lookup f) (mA f)) ∧ PySem.Within mA (fs.map (·.1))
  | .own _ => ∃ o, h.get? a = some o
  | .xd fs => ∃ mA, h.Ns1 a mA ∧ ∀ f, RelO (fs.lookup f) (mA f)
  | .rng lo hi => ∃ t u v, h.get? a = some { cls := .type "range", data := .fields #[.int lo t, .int hi u, .int 1 v] }
  | .frz o u => h.get? a = some o ∧ ObjOk H h a u
  | .tbl ps => h.get? a = some { cls := .none, data := .fields ps }
  | .met f x => h.get? a = some (PySem.W.methodObj (.ref f) (.ref x))
  | .ext φ => φ h ∧ (∃ o, h.get? a = some o) ∧ ∀ h1 h2 : Heap, φ h1 → (∀ o, h1.get? a = some o → h2.get? a = some o) → φ h2
def HOk (H : Hp) (h : Heap) : Prop := ∀ a o, H a = some o → ObjOk P w H h a o
end
section
variable {P : Program} {w : World} {H H' : Hp} {h h' : Heap} {a : Addr} {o : HO}
theorem ObjOk.lt (x : ObjOk P w H h a o) : a < h.objs.size := by
  cases o with
  | lst xs => obtain ⟨_, _, _, _, e⟩ := x; exact Heap.lt_size e
  | tup xs => obtain ⟨_, _, _, p⟩ := x; exact p.lt
  | dK kvs => obtain ⟨_, _, _, _, o, _, _, e, _⟩ := x; exact Heap.lt_size e
  | dT kvs => obtain ⟨_, _, _, _, o, _, _, e, _⟩ := x; exact Heap.lt_size e
  | set S n => obtain ⟨o, _, _, _, e, _⟩ := x; exact Heap.lt_size e
  | ins C dx fs => obtain ⟨_, _, _, e, _⟩ := x; exact Heap.lt_size e
  | own y => obtain ⟨_, e⟩ := x; exact Heap.lt_size e
  | xd fs => obtain ⟨_, ⟨_, _, _, e, _⟩, _⟩ := x; exact Heap.lt_size e
  | rng lo hi => obtain ⟨_, _, _, e⟩ := x; exact Heap.lt_size e
  | frz ob u => obtain ⟨e, _⟩ := x; exact Heap.lt_size e
  | tbl ps => exact Heap.lt_size (show h.get? a = some _ from x)
  | met f y => exact Heap.lt_size (show h.get? a = some _ from x)
  | ext φ => obtain ⟨_, ⟨_, e⟩, _⟩ := x; exact Heap.lt_size e
theorem Paired.mapP {α β : Type} {F G : α → β → Prop} : ∀ {l₁ : List α} {l₂ : List β}, Paired F l₁ l₂ → (∀ a b, F a b → G a b) → Paired G l₁ l₂
  | _, _, .nil, _ => .nil
  | _, _, .cons r t, f => .cons (f _ _ r) (Paired.mapP t f)
theorem ObjOk.stay (x : ObjOk P w H h a o) (k : ∀ b u, (b = a ∨ H b = some (.own a)) → h.get? b = some u → h'.get? b = some u)
    (ho : ∀ b, H b = some (.own a) → H' b = some (.own a)) (ht : ∀ b xs, H b = some (.tup xs) → H' b = some (.tup xs)) : ObjOk P w H' h' a o := by
  induction o with
  | lst xs => obtain ⟨z, its, n, r, e⟩ := x; exact ⟨z, its, n, r, k _ _ (.inl rfl) e⟩
  | tup xs => obtain ⟨z, its, r, ob, e, c⟩ := x; exact ⟨z, its, r, ob, k _ _ (.inl rfl) e, c⟩
  | dK kvs => obtain ⟨z, y, vs, r, ob, es, ep, e, c⟩ := x; exact ⟨z, y, vs, r, ob, es, ep, k _ _ (.inl rfl) e, c⟩
  | dT kvs =>
    obtain ⟨z, y, xs, r, ob, es, ep, e, c⟩ := x
    exact ⟨z, y, xs, Paired.mapP r fun p q z => ⟨z.1, ht _ _ z.2.1, z.2.2⟩, ob, es, ep, k _ _ (.inl rfl) e, c⟩
  | set S n => obtain ⟨ob, es, ep, t, e, c⟩ := x; exact ⟨ob, es, ep, t, k _ _ (.inl rfl) e, c⟩
  | ins C dx fs =>
    obtain ⟨d, z, ne, e, mA, ⟨od, es, ep, e2, c⟩, r⟩ := x
    exact ⟨ho _ d, z, ne, k _ _ (.inl rfl) e, mA, ⟨od, es, ep, k _ _ (.inr d) e2, c⟩, r⟩
  | own y => obtain ⟨ob, e⟩ := x; exact ⟨ob, k _ _ (.inl rfl) e⟩
  | xd fs => obtain ⟨mA, ⟨od, es, ep, e, c⟩, r⟩ := x; exact ⟨mA, ⟨od, es, ep, k _ _ (.inl rfl) e, c⟩, r⟩
  | rng lo hi => obtain ⟨t, u, v, e⟩ := x; exact ⟨t, u, v, k _ _ (.inl rfl) e⟩
  | frz ob u ih => obtain ⟨e, q⟩ := x; exact ⟨k _ _ (.inl rfl) e, ih q⟩
  | tbl ps =>
    have e : h.get? a = some { cls := .none, data := .fields ps } := x
    show h'.get? a = some { cls := .none, data := .fields ps }
    exact k a _ (.inl rfl) e
  | met f y =>
    have e : h.get? a = some (PySem.W.methodObj (.ref f) (.ref y)) := x
    show h'.get? a = some (PySem.W.methodObj (.ref f) (.ref y))
    exact k a _ (.inl rfl) e
  | ext φ => obtain ⟨p, ⟨o, e⟩, st⟩ := x; exact ⟨st _ _ p fun o q => k _ _ (.inl rfl) q, ⟨o, k _ _ (.inl rfl) e⟩, st⟩
theorem HOk.lt (x : HOk P w H h) (e : H a = some o) : a < h.objs.size := (x a o e).lt
theorem HOk.fresh (x : HOk P w H h) (e : h.objs.size ≤ a) : H a = none := by
  cases q : H a with
  | none => rfl
  | some u => exact absurd (Nat.lt_of_lt_of_le (x.lt q) e) (Nat.lt_irrefl _)
theorem HOk.kept (x : HOk P w H h) (k : ∀ b u, h.get? b = some u → h'.get? b = some u) : HOk P w H h' := fun a o e =>
  (x a o e).stay (fun b u _ q => k b u q) (fun _ q => q) fun _ _ q => q
theorem HOk.laid (x : HOk P w H h) (k : ∀ b u, h.get? b = some u → h'.get? b = some u) (hp : h.objs.size ≤ a) (new : ObjOk P w (upd H a o) h' a o) : HOk P w (upd H a o) h' := fun b u e => by
  have hn := x.fresh hp
  by_cases hb : b = a
  · subst hb; rw [upd_same] at e; cases e; exact new
  · rw [upd_ne hb] at e
    exact (x b u e).stay (fun c v _ q => k c v q) (fun c q => by rw [upd_ne (ne_of_none q hn)]; exact q) fun c xs q => by rw [upd_ne (ne_of_none q hn)]; exact q
end
def Rd (H : Hp) (a : Addr) (u : HO) : Prop := H a = some u ∨ ∃ o, H a = some (.frz o u)
theorem Rd.ok {P : Program} {w : World} {H : Hp} {h : Heap} {a : Addr} {u : HO} (r : Rd H a u) (x : HOk P w H h) : ObjOk P w H h a u := by
  rcases r with r | ⟨o, r⟩
  · exact x a u r
  · obtain ⟨_, q⟩ := x a _ r
    exact q
def Mut : Option HO → Prop
  | some (.lst _) => True
  | some (.dK _) => True
  | some (.dT _) => True
  | some (.set _ _) => True
  | some (.ins _ _ _) => True
  | some (.ext _) => True
  | _ => False
section
variable {P : Program} {w : World} {H : Hp} {h h' : Heap} {x e : Addr} {o' : HO}
theorem HOk.write (ok : HOk P w H h) (mu : Mut (H x)) (he : e = x ∨ H e = some (.own x)) (k : ∀ b u, b ≠ e → h.get? b = some u → h'.get? b = some u) (heo : ∃ u, h'.get? e = some u)
    (new : ObjOk P w (upd H x o') h' x o') : HOk P w (upd H x o') h' := fun b u q => by
  have nown : ∀ c y, H c = some (.own y) → c ≠ x := fun c y r z => by subst z; rw [r] at mu; exact mu
  have ntup : ∀ c xs, H c = some (.tup xs) → c ≠ x := fun c xs r z => by subst z; rw [r] at mu; exact mu
  by_cases hb : b = x
  · subst hb; rw [upd_same] at q; cases q; exact new
  · rw [upd_ne hb] at q
    by_cases hbe : b = e
    · have q' : H b = some (.own x) := by
        rcases he with z | z
        · exact absurd (hbe.trans z) hb
        · rw [hbe]; exact z
      rw [q] at q'; cases q'
      obtain ⟨v, hv⟩ := heo
      exact ⟨v, by rw [hbe]; exact hv⟩
    · refine (ok b u q).stay (fun c v hc r => k c v ?_ r) (fun c r => by rw [upd_ne (nown c b r)]; exact r) fun c xs r => by rw [upd_ne (ntup c xs r)]; exact r
      rcases hc with rfl | hc
      · exact hbe
      · rintro rfl
        rcases he with z | z
        · exact nown c b hc z
        · rw [hc] at z; cases z; exact hb rfl
end
structure Un (fs ex : List Addr) (H H' : Hp) (h h' : Heap) : Prop where
  keep : ∀ b o, h.get? b = some o → H b = none → b ∉ fs → b ∉ ex → h'.get? b = some o
  slot : ∀ b o, h.get? b = some o → H b = none → b ∈ fs → b ∉ ex → ∃ sl, h'.get? b = some { o with slots := sl }
  free : ∀ b o, h.get? b = some o → H b = none → b ∉ ex → H' b = none
  there : ∀ b o, h.get? b = some o → b ∉ ex → ∃ o', h'.get? b = some o'
  tups : ∀ b xs, H b = some (.tup xs) → H' b = some (.tup xs)
  frzs : ∀ b o u, H b = some (.frz o u) → H' b = some (.frz o u)
  tbls : ∀ b ps, H b = some (.tbl ps) → ∃ more, H' b = some (.tbl (ps ++ more))
section
variable {fs fs' ex ex' : List Addr} {H H1 H2 : Hp} {h h1 h2 h' : Heap} {a x e : Addr} {o : HO}
theorem Un.any (u : Un fs ex H H1 h h1) {b : Addr} {ob : Obj} (q : h.get? b = some ob) (n : H b = none) (hx : b ∉ ex) : ∃ sl, h1.get? b = some { ob with slots := sl } := by
  by_cases hb : b ∈ fs
  · exact u.slot b ob q n hb hx
  · exact ⟨ob.slots, u.keep b ob q n hb hx⟩
theorem Un.kept (k : ∀ b u, h.get? b = some u → h'.get? b = some u) : Un fs ex H H h h' :=
  ⟨fun b ob q _ _ _ => k b ob q, fun b ob q _ _ _ => ⟨ob.slots, k b ob q⟩, fun _ _ _ n _ => n, fun b ob q _ => ⟨ob, k b ob q⟩, fun _ _ q => q, fun _ _ _ q => q, fun _ ps q => ⟨#[], by rw [q]; simp⟩⟩
theorem Un.refl : Un fs ex H H h h := Un.kept fun _ _ q => q
theorem Un.laid (k : ∀ b u, h.get? b = some u → h'.get? b = some u) (hp : h.objs.size ≤ a) (hn : H a = none) : Un fs ex H (upd H a o) h h' where
  keep := fun b u q _ _ _ => k b u q
  slot := fun b u q _ _ _ => ⟨u.slots, k b u q⟩
  free := fun b u q n _ => by rw [upd_ne (Nat.ne_of_lt (Nat.lt_of_lt_of_le (Heap.lt_size q) hp))]; exact n
  there := fun b u q _ => ⟨u, k b u q⟩
  tups := fun b xs q => by rw [upd_ne (ne_of_none q hn)]; exact q
  frzs := fun b u xs q => by rw [upd_ne (ne_of_none q hn)]; exact q
  tbls := fun b ps q => ⟨#[], by rw [upd_ne (ne_of_none q hn), q]; simp⟩
theorem Un.write (mu : Mut (H x)) (he : e = x ∨ H e = some (.own x)) (k : ∀ b u, b ≠ e → h.get? b = some u → h'.get? b = some u) (heo : ∃ u, h'.get? e = some u) : Un fs ex H (upd H x o) h h' := by
  have hx : ∀ b, H b = none → b ≠ x := fun b n z => by subst z; rw [n] at mu; exact mu
  have hb : ∀ b, H b = none → b ≠ e := fun b n z => by
    subst z
    rcases he with r | r
    · exact hx b n r
    · rw [n] at r; cases r
  have hm : ∀ b u, H b = some u → ¬ Mut (some u) → b ≠ x := fun b u q nm z => by subst z; rw [q] at mu; exact nm mu
  refine ⟨fun b u q n _ _ => k b u (hb b n) q, fun b u q n _ _ => ⟨u.slots, k b u (hb b n) q⟩, fun b u q n _ => by rw [upd_ne (hx b n)]; exact n, fun b u q _ => ?_,
    fun b xs q => by rw [upd_ne (hm b _ q fun z => z)]; exact q, fun b u xs q => by rw [upd_ne (hm b _ q fun z => z)]; exact q, fun b ps q => ⟨#[], by rw [upd_ne (hm b _ q fun z => z), q]; simp⟩⟩
  by_cases hbe : b = e
  · subst hbe; exact heo
  · exact ⟨u, k b u hbe q⟩
end
def trk (h : Heap) (H : Hp) : List Addr := (List.range h.objs.size).filter fun a => (H a).isSome
def hidT (h : Heap) (H : Hp) : Heap := PySem.W.hideAll h (trk h H)
theorem hidT_size (h : Heap) (H : Hp) : (hidT h H).objs.size = h.objs.size := PySem.W.hideAll_size _ _
theorem hidT_get {h : Heap} {H : Hp} {b : Addr} {o : Obj} (e : h.get? b = some o) (n : H b = none) : (hidT h H).get? b = some o :=
  PySem.W.hideAll_get _ e fun hm => by
    have q : (H b).isSome = true := (List.mem_filter.mp hm).2
    rw [n] at q; simp at q
theorem of_hidT {h : Heap} {H : Hp} {b : Addr} {o : Obj} (e : (hidT h H).get? b = some o) : h.get? b = some o ∧ H b = none := by
  have e' : h.get? b = some o := PySem.W.of_hideAll (trk h H) e
  refine ⟨e', ?_⟩
  cases q : H b with
  | none => rfl
  | some x =>
    have hm : b ∈ trk h H := List.mem_filter.mpr ⟨List.mem_range.mpr (Heap.lt_size e'), by simp [q]⟩
    have z : (hidT h H).get? b = none := PySem.W.hideAll_none (trk h H) hm
    rw [z] at e; cases e
end L2
namespace L2
open PySem PySem.Spec PyProof.Rows
structure Mod (K : PySem.W.Frag) (mg : Str → Option Value) (base : Heap) : Prop where
  kin : K.In base
  glob : base.Ns mainGlobals mg
  blt : ∃ mb, base.Ns builtinsNs mb ∧ ∀ x : Str, x ≠ "__name__" → mb x = bootBuiltins x
  nolimit : base.NoLimit
structure Cx where
  prog : Program
  w : World
  K : PySem.W.Frag
  mg : Str → Option Value
  base : Heap
  A : Around
  N : List Str
  s_0 : Shared
  H_0 : Hp
  env : Env
  outer : List Env
  stack : List Env
  ex : List Addr
  fn : Str → Bool
  calm : Bool
  pn : List (Addr × Obj)
  xe : Value → Shared → Prop
def frs (l : List Env) : List Addr := l.filterMap (·.frame)
abbrev Cx.fs (X : Cx) : List Addr := frs X.outer
def Vis (sc : Scope) (x : Str) : Prop := sc.names.lookup x = some .local ∨ sc.names.lookup x = some .cell ∨ sc.names.lookup x = some .free
def Loc (sc : Scope) (x : Str) : Prop := sc.names.lookup x = some .local ∨ sc.names.lookup x = some .cell
def Look (env : Env) (h : Heap) (m : Str → Option Value) (x : Str) (u : Value) : Prop :=
  (env.kindOf x = some .local ∧ m x = some u) ∨ ((env.kindOf x = some .cell ∨ env.kindOf x = some .free) ∧ ∃ c, env.cells.lookup x = some c ∧ h.IsCell c (some u))
structure Cx.Ok (X : Cx) : Prop where
  mod : Mod X.K X.mg X.base
  kind : X.env.scope.kind = .function
  glob : X.env.globals = mainGlobals
  blt : X.env.builtins = builtinsNs
  above : X.s_0.heap.objs.size ≤ X.env.locals
  inj : ∀ x y c, X.env.cells.lookup x = some c → X.env.cells.lookup y = some c → x = y
  has : ∀ x, (X.env.kindOf x = some .cell ∨ X.env.kindOf x = some .free) → ∃ c, X.env.cells.lookup x = some c
  cab : ∀ x c, X.fn x = true → X.env.cells.lookup x = some c → X.s_0.heap.objs.size ≤ c
  hd : X.calm = true → X.A.handled = none
  frames : X.A.frames = some X.stack
  stk : X.stack = X.outer ∨ (X.stack = X.env :: X.outer ∧ X.env.frame = some X.env.locals)
  exf : ∀ b ∈ X.ex, b ≠ X.env.locals ∧ ∀ x c, X.env.cells.lookup x = some c → c ≠ b
  bs : ∀ b o, X.base.get? b = some o → X.s_0.heap.get? b = some o ∧ X.H_0 b = none
  bsz : X.base.objs.size ≤ X.s_0.heap.objs.size
  noex : ∀ b o, X.base.get? b = some o → b ∉ X.ex
  exfs : ∀ b ∈ X.ex, b ∉ X.fs
  funs : X.s_0.heap.FunFrames X.base X.outer
  frf : ∀ b ∈ X.fs, X.H_0 b = none
structure Inv (X : Cx) (pins : List (Addr × Obj)) (σ : List (Option V)) (H : Hp) (s : Shared) : Prop where
  ok : X.Ok
  os : s.os = X.s_0.os
  bare : AllBare s.gens
  base : Un X.fs X.ex X.H_0 H X.s_0.heap s.heap
  loc : ∃ m, s.heap.Ns X.env.locals m ∧ ∀ (i : Nat) (x : Str) (v : V), X.N[i]? = some x → σ[i]? = some (some v) → Vis X.env.scope x → ∃ u, RelV v u ∧ Look X.env s.heap m x u
  cell : ∀ x c, X.env.cells.lookup x = some c → ∃ v, s.heap.IsCell c v
  free : H X.env.locals = none
  freeC : ∀ x c, X.env.cells.lookup x = some c → H c = none
  pin : ∀ p ∈ X.pn ++ pins, s.heap.get? p.1 = some p.2 ∧ H p.1 = none ∧ p.1 ≠ X.env.locals ∧ p.1 ∉ X.fs ∧ ∀ v, p.2.data ≠ .cell v
  hok : HOk X.prog X.w H s.heap
  len : σ.length = X.N.length
section
variable {X : Cx} {pins : List (Addr × Obj)} {σ : List (Option V)} {H H' : Hp} {s : Shared} {h' : Heap}
theorem Cx.Ok.nofr (ok : X.Ok) {b : Addr} {o : Obj} (e : X.base.get? b = some o) : b ∉ X.fs := fun hb => by
  have := (ok.funs.mem hb).1
  rw [e] at this; cases this
theorem Inv.bs (I : Inv X pins σ H s) : ∀ b o, X.base.get? b = some o → s.heap.get? b = some o ∧ H b = none := fun b o e =>
  ⟨I.base.keep b o (I.ok.bs b o e).1 (I.ok.bs b o e).2 (I.ok.nofr e) (I.ok.noex b o e), I.base.free b o (I.ok.bs b o e).1 (I.ok.bs b o e).2 (I.ok.noex b o e)⟩
theorem Inv.bk (I : Inv X pins σ H s) : ∀ b o, X.base.get? b = some o → s.heap.get? b = some o := fun b o e => (I.bs b o e).1
theorem Inv.mod (I : Inv X pins σ H s) : Mod X.K X.mg X.base := I.ok.mod
theorem Inv.kIn (I : Inv X pins σ H s) : X.K.In s.heap := I.ok.mod.kin.keeps I.bk
theorem Inv.lt (I : Inv X pins σ H s) : X.env.locals < s.heap.objs.size := let ⟨_, hn, _⟩ := I.loc; hn.lt
theorem Inv.sz (I : Inv X pins σ H s) : X.s_0.heap.objs.size ≤ s.heap.objs.size := Nat.le_trans I.ok.above (Nat.le_of_lt I.lt)
theorem Inv.nofs (I : Inv X pins σ H s) {a : Addr} (h : s.heap.objs.size ≤ a) : a ∉ X.fs := fun hb => by
  obtain ⟨_, o, ho, _⟩ := I.ok.funs.mem hb
  exact absurd (Nat.lt_of_lt_of_le (Heap.lt_size ho) (Nat.le_trans I.sz h)) (Nat.lt_irrefl _)
theorem Inv.cne (I : Inv X pins σ H s) : ∀ x c, X.env.cells.lookup x = some c → c ≠ X.env.locals := fun x c e z => by
  obtain ⟨v, o, ho, hd⟩ := I.cell x c e
  obtain ⟨m, ⟨o', es, ep, ho', hd', _⟩, _⟩ := I.loc
  rw [z, ho'] at ho; cases ho; rw [hd'] at hd; cases hd
theorem Inv.funs (I : Inv X pins σ H s) : s.heap.FunFrames X.base X.outer := by
  have all : ∀ (l : List Env), (∀ b ∈ frs l, b ∈ X.fs) → X.s_0.heap.FunFrames X.base l → s.heap.FunFrames X.base l := by
    intro l
    induction l with
    | nil => intro _ _; trivial
    | cons env r ih =>
      intro hs hl
      obtain ⟨hk, ⟨L, o, hf, hn, ho, hd⟩, hr⟩ := hl
      have hL : L ∈ X.fs := hs L (by unfold frs; rw [List.filterMap_cons, hf]; exact List.mem_cons_self)
      obtain ⟨sl, e⟩ := I.base.slot L o ho (I.ok.frf L hL) hL fun z => I.ok.exfs L z hL
      exact ⟨hk, ⟨L, _, hf, hn, e, hd⟩, ih (fun b hb => hs b (by unfold frs; rw [List.filterMap_cons, hf]; exact List.mem_cons_of_mem _ hb)) hr⟩
  exact all X.outer (fun _ hb => hb) I.ok.funs
theorem Inv.stack (I : Inv X pins σ H s) : s.heap.FunFrames X.base X.stack := by
  rcases I.ok.stk with e | ⟨e, hf⟩
  · rw [e]; exact I.funs
  · rw [e]
    obtain ⟨m, hn, _⟩ := I.loc
    refine .cons (by rw [I.ok.kind]; decide) hf hn ?_ I.funs
    exact Heap.get?_none_of_le (Nat.le_trans I.ok.bsz I.ok.above)
theorem Inv.stkSub (I : Inv X pins σ H s) : ∀ b ∈ frs X.stack, b ∈ X.env.locals :: X.fs := fun b hb => by
  rcases I.ok.stk with e | ⟨e, hf⟩
  · rw [e] at hb; exact List.mem_cons_of_mem _ hb
  · rw [e] at hb
    unfold frs at hb
    rw [List.filterMap_cons, hf] at hb
    exact hb
theorem Inv.stkFree (I : Inv X pins σ H s) : ∀ b ∈ frs X.stack, H b = none := fun b hb => by
  rcases List.mem_cons.mp (I.stkSub b hb) with e | hb
  · rw [e]; exact I.free
  · obtain ⟨_, o, ho, _⟩ := I.ok.funs.mem hb
    exact I.base.free b o ho (I.ok.frf b hb) fun z => I.ok.exfs b z hb
theorem Inv.step {g' : Array GenState} {t' : Nat} {d' : Drawn} {ch : List Addr} (I : Inv X pins σ H s)
    (hch : ∀ b ∈ ch, (b ∈ X.ex ∨ X.s_0.heap.objs.size ≤ b) ∧ b ≠ X.env.locals ∧ (∀ x c, X.env.cells.lookup x = some c → c ≠ b) ∧ ∀ p ∈ X.pn ++ pins, p.1 ≠ b)
    (keep : ∀ b o, b ≠ X.env.locals → b ∉ X.fs → b ∉ ch → s.heap.get? b = some o → H b = none → h'.get? b = some o)
    (slot : ∀ b o, b ≠ X.env.locals → b ∈ X.fs → b ∉ ch → s.heap.get? b = some o → H b = none → ∃ sl, h'.get? b = some { o with slots := sl }) (free : ∀ b o, b ∉ ch → s.heap.get? b = some o → H b = none → H' b = none)
    (there : ∀ b o, b ∉ ch → s.heap.get? b = some o → ∃ o', h'.get? b = some o')
    (tups : ∀ b xs, H b = some (.tup xs) → H' b = some (.tup xs)) (frzs : ∀ b o u, H b = some (.frz o u) → H' b = some (.frz o u)) (tbls : ∀ b ps, H b = some (.tbl ps) → ∃ more, H' b = some (.tbl (ps ++ more)))
    (ns : ∀ m, s.heap.Ns X.env.locals m → h'.Ns X.env.locals m) (hok : HOk X.prog X.w H' h') (hg : AllBare g') :
    Inv X pins σ H' { s with heap := h', gens := g', drawn := d', toks := t' } := by
  have neL : ∀ b o, X.s_0.heap.get? b = some o → b ≠ X.env.locals := fun b o e => Nat.ne_of_lt (Nat.lt_of_lt_of_le (Heap.lt_size e) I.ok.above)
  have neC : ∀ b o, X.s_0.heap.get? b = some o → b ∉ X.ex → b ∉ ch := fun b o e hx hb => by
    rcases (hch b hb).1 with z | z
    · exact hx z
    · exact absurd (Nat.lt_of_lt_of_le (Heap.lt_size e) z) (Nat.lt_irrefl _)
  have cellK : ∀ x c, X.env.cells.lookup x = some c → ∀ v, s.heap.IsCell c v → h'.IsCell c v := fun x c e v ⟨o, ho, hd⟩ => by
    have nch : c ∉ ch := fun z => (hch c z).2.2.1 x c e rfl
    by_cases hc : c ∈ X.fs
    · obtain ⟨sl, q⟩ := slot c o (I.cne x c e) hc nch ho (I.freeC x c e)
      exact ⟨_, q, hd⟩
    · exact ⟨o, keep c o (I.cne x c e) hc nch ho (I.freeC x c e), hd⟩
  refine ⟨I.ok, I.os, hg, ⟨fun b o e n hb hx => ?_, fun b o e n hb hx => ?_, fun b o e n hx => ?_, fun b o e hx => ?_, fun b xs e => tups b xs (I.base.tups b xs e), fun b o xs e => frzs b o xs (I.base.frzs b o xs e), fun b ps e => ?_⟩, ?_, fun x c e => ?_, ?_, fun x c e => ?_, fun p hp => ?_, hok, I.len⟩
  · exact keep b o (neL b o e) hb (neC b o e hx) (I.base.keep b o e n hb hx) (I.base.free b o e n hx)
  · obtain ⟨sl, e1⟩ := I.base.slot b o e n hb hx
    obtain ⟨sl', e2⟩ := slot b _ (neL b o e) hb (neC b o e hx) e1 (I.base.free b o e n hx)
    exact ⟨sl', e2⟩
  · obtain ⟨o', e1⟩ := I.base.there b o e hx
    exact free b o' (neC b o e hx) e1 (I.base.free b o e n hx)
  · obtain ⟨o', e1⟩ := I.base.there b o e hx
    exact there b o' (neC b o e hx) e1
  · obtain ⟨m1, e1⟩ := I.base.tbls b ps e
    obtain ⟨m2, e2⟩ := tbls b _ e1
    exact ⟨m1 ++ m2, by rw [e2, Array.append_assoc]⟩
  · obtain ⟨m, hn, hl⟩ := I.loc
    refine ⟨m, ns m hn, fun i x v e1 e2 e3 => ?_⟩
    obtain ⟨u, r, l⟩ := hl i x v e1 e2 e3
    refine ⟨u, r, ?_⟩
    rcases l with l | ⟨k, c, e, z⟩
    · exact .inl l
    · exact .inr ⟨k, c, e, cellK x c e _ z⟩
  · obtain ⟨v, z⟩ := I.cell x c e
    exact ⟨v, cellK x c e v z⟩
  · obtain ⟨m, ⟨o, _, _, ho, _⟩, _⟩ := I.loc
    exact free _ o (fun z => (hch _ z).2.1 rfl) ho I.free
  · obtain ⟨v, o, ho, hd⟩ := I.cell x c e
    exact free c o (fun z => (hch c z).2.2.1 x c e rfl) ho (I.freeC x c e)
  · obtain ⟨e, n, ne, nf, d⟩ := I.pin p hp
    have nch : p.1 ∉ ch := fun z => (hch p.1 z).2.2.2 p hp rfl
    exact ⟨keep p.1 p.2 ne nf nch e n, free p.1 p.2 nch e n, ne, nf, d⟩
theorem Inv.un {t' : Nat} (I : Inv X pins σ H s) (u : Un X.fs [] H H' s.heap h') (hok : HOk X.prog X.w H' h') : Inv X pins σ H' { s with heap := h', toks := t' } := by
  obtain ⟨m, ⟨o, es, ep, ho, r⟩, _⟩ := id I.loc
  obtain ⟨sl, hL⟩ := u.any ho I.free (by simp)
  exact I.step (g' := s.gens) (d' := s.drawn) (ch := []) (fun _ z => nomatch z) (fun b o _ hb _ e n => u.keep b o e n hb (by simp)) (fun b o _ hb _ e n => u.slot b o e n hb (by simp)) (fun b o _ e n => u.free b o e n (by simp)) (fun b o _ e => u.there b o e (by simp)) u.tups u.frzs u.tbls (fun m' hm => by
    obtain ⟨o', es', ep', ho', r'⟩ := hm
    rw [ho] at ho'; cases ho'
    exact ⟨_, es', ep', hL, r'⟩) hok I.bare
theorem Inv.call {g' : Array GenState} {t' : Nat} {d' : Drawn} {ch : List Addr} (I : Inv X pins σ H s) (u : Un (frs X.stack) ch H H' s.heap h') (hok : HOk X.prog X.w H' h') (hg : AllBare g')
    (hch : ∀ b ∈ ch, (b ∈ X.ex ∨ X.s_0.heap.objs.size ≤ b) ∧ b ≠ X.env.locals ∧ (∀ x c, X.env.cells.lookup x = some c → c ≠ b) ∧ ∀ p ∈ X.pn ++ pins, p.1 ≠ b) :
    Inv X pins σ H' { s with heap := h', gens := g', drawn := d', toks := t' } := by
  obtain ⟨m, ⟨o, es, ep, ho, r⟩, _⟩ := id I.loc
  obtain ⟨sl, hL⟩ := u.any ho I.free fun z => (hch _ z).2.1 rfl
  exact I.step (ch := ch) hch (fun b o hL hb hc e n => u.keep b o e n (fun z => (List.mem_cons.mp (I.stkSub b z)).elim hL hb) hc) (fun b o _ _ hc e n => u.any e n hc) (fun b o hc e n => u.free b o e n hc) (fun b o hc e => u.there b o e hc) u.tups u.frzs u.tbls (fun m' hm => by
    obtain ⟨o', es', ep', ho', r'⟩ := hm
    rw [ho] at ho'; cases ho'
    exact ⟨_, es', ep', hL, r'⟩) hok hg
theorem Inv.turned {t' : Nat} {it : Addr} (I : Inv X pins σ H s) (k : ∀ b o, b ≠ it → s.heap.get? b = some o → h'.get? b = some o) (hn : H it = none) (hL : it ≠ X.env.locals)
    (h1 : it ∈ X.ex ∨ X.s_0.heap.objs.size ≤ it) (h2 : ∀ x c, X.env.cells.lookup x = some c → c ≠ it) (h3 : ∀ p ∈ X.pn ++ pins, p.1 ≠ it) : Inv X pins σ H { s with heap := h', toks := t' } := by
  have nit : ∀ b u, H b = some u → b ≠ it := fun b u e z => by rw [z, hn] at e; cases e
  refine I.step (g' := s.gens) (d' := s.drawn) (ch := [it]) (fun b hb => ?_) (fun b o _ _ hc e _ => k b o (fun z => hc (by simp [z])) e) (fun b o _ _ hc e _ => ⟨o.slots, k b o (fun z => hc (by simp [z])) e⟩) (fun _ _ _ _ n => n)
    (fun b o hc e => ⟨o, k b o (fun z => hc (by simp [z])) e⟩) (fun _ _ e => e) (fun _ _ _ e => e) (fun b ps e => ⟨#[], by rw [e]; simp⟩) (fun m hm => ?_) (fun b u e => ?_) I.bare
  · have e : b = it := by simpa using hb
    subst e
    exact ⟨h1, hL, h2, h3⟩
  · obtain ⟨o, es, ep, ho, r⟩ := hm
    exact ⟨o, es, ep, k _ o (Ne.symm hL) ho, r⟩
  · refine (I.hok b u e).stay (fun c v hc q => k c v ?_ q) (fun _ q => q) fun _ _ q => q
    rcases hc with z | z
    · rw [z]; exact nit b u e
    · exact nit c _ z
theorem Inv.tok (I : Inv X pins σ H s) (t : Nat) : Inv X pins σ H { s with toks := t } := I.un (h' := s.heap) (t' := t) Un.refl I.hok
theorem Inv.kept {t' : Nat} (I : Inv X pins σ H s) (k : ∀ b u, s.heap.get? b = some u → h'.get? b = some u) : Inv X pins σ H { s with heap := h', toks := t' } := I.un (Un.kept k) (I.hok.kept k)
theorem Inv.laid {a : Addr} {o : HO} {t' : Nat} (I : Inv X pins σ H s) (k : ∀ b u, s.heap.get? b = some u → h'.get? b = some u) (hp : s.heap.objs.size ≤ a) (new : ObjOk X.prog X.w (upd H a o) h' a o) :
    Inv X pins σ (upd H a o) { s with heap := h', toks := t' } := I.un (Un.laid k hp (I.hok.fresh hp)) (I.hok.laid k hp new)
theorem Inv.write {x e : Addr} {o : HO} {t' : Nat} (I : Inv X pins σ H s) (mu : Mut (H x)) (he : e = x ∨ H e = some (.own x)) (k : ∀ b u, b ≠ e → s.heap.get? b = some u → h'.get? b = some u) (heo : ∃ u, h'.get? e = some u)
    (new : ObjOk X.prog X.w (upd H x o) h' x o) : Inv X pins σ (upd H x o) { s with heap := h', toks := t' } := I.un (Un.write mu he k heo) (I.hok.write mu he k heo new)
theorem Inv.weak {σ' : List (Option V)} (I : Inv X pins σ H s) (hl : σ'.length = σ.length) (w : ∀ (i : Nat) v, σ'[i]? = some (some v) → σ[i]? = some (some v)) : Inv X pins σ' H s :=
  ⟨I.ok, I.os, I.bare, I.base, let ⟨m, hn, hl'⟩ := I.loc; ⟨m, hn, fun i x v e1 e2 e3 => hl' i x v e1 (w i v e2) e3⟩, I.cell, I.free, I.freeC, I.pin, I.hok, hl.trans I.len⟩
theorem Inv.pins_of {pins' : List (Addr × Obj)} (I : Inv X pins σ H s) (h : ∀ p ∈ pins', s.heap.get? p.1 = some p.2 ∧ H p.1 = none ∧ p.1 ≠ X.env.locals ∧ p.1 ∉ X.fs ∧ ∀ v, p.2.data ≠ .cell v) : Inv X pins' σ H s :=
  ⟨I.ok, I.os, I.bare, I.base, I.loc, I.cell, I.free, I.freeC, fun p hp => (List.mem_append.mp hp).elim (fun z => I.pin p (List.mem_append_left _ z)) (h p), I.hok, I.len⟩
theorem nodup_ix {N : List Str} (hN : N.Nodup) {i j : Nat} {x : Str} (a : N[i]? = some x) (b : N[j]? = some x) : i = j := by
  obtain ⟨h1, e1⟩ := List.getElem?_eq_some_iff.mp a
  obtain ⟨h2, e2⟩ := List.getElem?_eq_some_iff.mp b
  exact (List.getElem_inj hN).mp (e1.trans e2.symm)
theorem store_ok2 {M : Model} {A : Around} {E : Value → Shared → Prop} {i : Nat} {x : Str} {v : V} {u : Value} {Q : Unit → Shared → Prop} (I : Inv X pins σ H s) (hN : X.N.Nodup) (hi : X.N[i]? = some x) (hx : Loc X.env.scope x) (r : RelV v u)
    (h : ∀ s', Inv X pins (σ.set i (some v)) H s' → (∃ a, Heap.SameBut a s.heap s'.heap ∧ (a = X.env.locals ∨ X.env.cells.lookup x = some a)) → Q () s') (hf : X.fn x = true ∨ X.env.scope.names.lookup x = some .local := by first | exact .inl rfl | exact .inr rfl | assumption) : wpAny M A (storeName X.env x u) Q E s := by
  obtain ⟨m, hn, hl⟩ := id I.loc
  have hcls : (X.env.scope.kind == .class || (X.env.scope.kind == .module && X.env.locals != X.env.globals)) = false := by rw [I.ok.kind]; rfl
  have hiσ : i < σ.length := by rw [I.len]; exact (List.getElem?_eq_some_iff.mp hi).1
  have cne := I.cne
  have tracked : ∀ {a : Addr} {h' : Heap}, (∃ o, s.heap.get? a = some o ∧ H a = none) → Heap.SameBut a s.heap h' → HOk X.prog X.w H h' := fun {a h'} ha hs b ob e => by
    obtain ⟨_, _, hfree⟩ := ha
    refine (I.hok b ob e).stay (fun c w' hc q => (hs.2 c ?_).trans q) (fun _ q => q) fun _ _ q => q
    rintro rfl
    rcases hc with rfl | hc
    · rw [hfree] at e; cases e
    · rw [hfree] at hc; cases hc
  rcases hx with hk | hk
  · refine wpAny_storeName_local hk hn (fun h' hn' hs => ?_) hcls
    obtain ⟨oL, _, _, hoL, _⟩ := id hn
    refine h _ ⟨I.ok, I.os, I.bare, ⟨fun b o e n hb hx => ?_, fun b o e n hb hx => ?_, I.base.free, fun b o e hx => ?_, I.base.tups, I.base.frzs, I.base.tbls⟩, ⟨_, hn', fun j y v' e1 e2 e3 => ?_⟩, fun y c e => ?_, I.free, I.freeC, fun p hp => ?_, tracked ⟨oL, hoL, I.free⟩ hs, by simpa using I.len⟩ ⟨_, hs, .inl rfl⟩
    · exact (hs.2 b (Nat.ne_of_lt (Nat.lt_of_lt_of_le (Heap.lt_size e) I.ok.above))).trans (I.base.keep b o e n hb hx)
    · obtain ⟨sl, e1⟩ := I.base.slot b o e n hb hx
      exact ⟨sl, (hs.2 b (Nat.ne_of_lt (Nat.lt_of_lt_of_le (Heap.lt_size e) I.ok.above))).trans e1⟩
    · obtain ⟨o', e1⟩ := I.base.there b o e hx
      exact ⟨o', (hs.2 b (Nat.ne_of_lt (Nat.lt_of_lt_of_le (Heap.lt_size e) I.ok.above))).trans e1⟩
    · by_cases hj : j = i
      · subst hj
        rw [hi] at e1; cases e1
        rw [List.getElem?_set_self hiσ] at e2
        cases e2
        exact ⟨u, r, .inl ⟨hk, by simp⟩⟩
      · rw [List.getElem?_set_ne (Ne.symm hj)] at e2
        obtain ⟨u', r', q⟩ := hl j y v' e1 e2 e3
        refine ⟨u', r', ?_⟩
        rcases q with ⟨k, e⟩ | ⟨k, c, e, z⟩
        · refine .inl ⟨k, ?_⟩
          have : y ≠ x := fun e => hj (nodup_ix hN e1 (e ▸ hi))
          simp [this, e]
        · exact .inr ⟨k, c, e, z.sameBut hs (cne y c e)⟩
    · obtain ⟨w', z⟩ := I.cell y c e
      exact ⟨w', z.sameBut hs (cne y c e)⟩
    · obtain ⟨e, n, ne, nf, d⟩ := I.pin p hp
      exact ⟨(hs.2 p.1 ne).trans e, n, ne, nf, d⟩
  · have hfn : X.fn x = true := by
      rcases hf with z | z
      · exact z
      · rw [z] at hk; cases hk
    obtain ⟨c, hc⟩ := I.ok.has x (.inl hk)
    obtain ⟨w', z⟩ := I.cell x c hc
    refine wpAny_storeName_cell I.ok.kind hk hc z (fun h' hc' hs => ?_)
    obtain ⟨oc, hoc, hocd⟩ := id z
    refine h { s with heap := h' } ⟨I.ok, I.os, I.bare, ⟨fun b o e n hb hx => ?_, fun b o e n hb hx => ?_, I.base.free, fun b o e hx => ?_, I.base.tups, I.base.frzs, I.base.tbls⟩, ⟨m, hn.sameBut hs (Ne.symm (cne x c hc)), fun j y v' e1 e2 e3 => ?_⟩, fun y c' e => ?_, I.free, I.freeC, fun p hp => ?_, tracked ⟨oc, hoc, I.freeC x c hc⟩ hs, by simpa using I.len⟩ ⟨c, hs, .inr hc⟩
    · exact (hs.2 b (Nat.ne_of_lt (Nat.lt_of_lt_of_le (Heap.lt_size e) (I.ok.cab x c hfn hc)))).trans (I.base.keep b o e n hb hx)
    · obtain ⟨sl, e1⟩ := I.base.slot b o e n hb hx
      exact ⟨sl, (hs.2 b (Nat.ne_of_lt (Nat.lt_of_lt_of_le (Heap.lt_size e) (I.ok.cab x c hfn hc)))).trans e1⟩
    · obtain ⟨o', e1⟩ := I.base.there b o e hx
      exact ⟨o', (hs.2 b (Nat.ne_of_lt (Nat.lt_of_lt_of_le (Heap.lt_size e) (I.ok.cab x c hfn hc)))).trans e1⟩
    · by_cases hj : j = i
      · subst hj
        rw [hi] at e1; cases e1
        rw [List.getElem?_set_self hiσ] at e2
        cases e2
        exact ⟨u, r, .inr ⟨.inl hk, c, hc, hc'⟩⟩
      · rw [List.getElem?_set_ne (Ne.symm hj)] at e2
        obtain ⟨u', r', q⟩ := hl j y v' e1 e2 e3
        refine ⟨u', r', ?_⟩
        rcases q with q | ⟨k, c', e, z'⟩
        · exact .inl q
        · refine .inr ⟨k, c', e, z'.sameBut hs ?_⟩
          rintro rfl
          exact hj (nodup_ix hN e1 (I.ok.inj _ _ _ e hc ▸ hi))
    · by_cases hcc : c' = c
      · subst hcc; exact ⟨_, hc'⟩
      · obtain ⟨w2, z2⟩ := I.cell y c' e
        exact ⟨w2, z2.sameBut hs hcc⟩
    · obtain ⟨e, n, ne, nf, d⟩ := I.pin p hp
      refine ⟨(hs.2 p.1 ?_).trans e, n, ne, nf, d⟩
      intro q
      rw [q, hoc] at e
      have q' : oc = p.2 := Option.some.inj e
      exact d w' (by rw [← q']; exact hocd)
theorem store_ok {M : Model} {A : Around} {E : Value → Shared → Prop} {i : Nat} {x : Str} {v : V} {u : Value} {Q : Unit → Shared → Prop} (I : Inv X pins σ H s) (hN : X.N.Nodup) (hi : X.N[i]? = some x) (hx : Loc X.env.scope x) (r : RelV v u)
    (h : ∀ s', Inv X pins (σ.set i (some v)) H s' → Q () s') (hf : X.fn x = true ∨ X.env.scope.names.lookup x = some .local := by first | exact .inl rfl | exact .inr rfl | assumption) : wpAny M A (storeName X.env x u) Q E s :=
  store_ok2 I hN hi hx r (fun s' I' _ => h s' I') hf
theorem Inv.call' {s' : Shared} {ch : List Addr} (I : Inv X pins σ H s) (ho : s'.os = s.os) (u : Un (frs X.stack) ch H H' s.heap s'.heap) (hok : HOk X.prog X.w H' s'.heap) (hg : AllBare s'.gens)
    (hch : ∀ b ∈ ch, (b ∈ X.ex ∨ X.s_0.heap.objs.size ≤ b) ∧ b ≠ X.env.locals ∧ (∀ x c, X.env.cells.lookup x = some c → c ≠ b) ∧ ∀ p ∈ X.pn ++ pins, p.1 ≠ b) : Inv X pins σ H' s' := by
  obtain ⟨h', g', d', t', o'⟩ := s'
  have e : o' = s.os := ho
  subst e
  exact I.call (g' := g') (t' := t') (d' := d') u hok hg hch
end
abbrev XK := Value → Option Addr → Hp → Prop
abbrev St := List (Option V)
abbrev VK := V → Hp → Prop
abbrev TE := St → Hp → VK → Prop
abbrev TT := St → Hp → (Bool → Hp → Prop) → Prop
abbrev TA := St → Hp → (List V → Hp → Prop) → Prop
structure Ends where
  nx : St → Hp → Prop
  rt : VK
  bk : St → Hp → Prop := fun _ _ => False
  ct : St → Hp → Prop := fun _ _ => False
abbrev TS := Ends → St → Hp → Prop
inductive EP (X : Cx) (pins : List (Addr × Obj)) (σ : St) (Q : VK) (u : Value) (s' : Shared) : Prop
  | mk (v : _) (H' : _) (h1 : Inv X pins σ H' s') (h2 : RelV v u) (q : Q v H') : EP X pins σ Q u s'
inductive TP (X : Cx) (pins : List (Addr × Obj)) (σ : St) (Q : Bool → Hp → Prop) (b : Bool) (s' : Shared) : Prop
  | mk (H' : _) (h1 : Inv X pins σ H' s') (q : Q b H') : TP X pins σ Q b s'
inductive AP (X : Cx) (pins : List (Addr × Obj)) (σ : St) (Q : List V → Hp → Prop) (us : List Value) (s' : Shared) : Prop
  | mk (vs : _) (H' : _) (h1 : Inv X pins σ H' s') (h2 : Vals vs us) (q : Q vs H') : AP X pins σ Q us s'
def SP (X : Cx) (pins : List (Addr × Obj)) (D : Ends) (f : Flow) (s' : Shared) : Prop :=
  match f with
  | .next => ∃ σ' H', Inv X pins σ' H' s' ∧ D.nx σ' H'
  | .brk => ∃ σ' H', Inv X pins σ' H' s' ∧ D.bk σ' H'
  | .cont => ∃ σ' H', Inv X pins σ' H' s' ∧ D.ct σ' H'
  | .ret u => ∃ v σ' H', Inv X pins σ' H' s' ∧ RelV v u ∧ D.rt v H'
def PE (X : Cx) (e : Expr) (t : TE) : Prop :=
  ∀ (pins : List (Addr × Obj)) (s : Shared) (σ : St) (H : Hp) (Q : VK), Inv X pins σ H s → t σ H Q → wpAny (model X.prog X.w) X.A (eval e X.env) (EP X pins σ Q) X.xe s
def PT (X : Cx) (e : Expr) (t : TT) : Prop :=
  ∀ (pins : List (Addr × Obj)) (s : Shared) (σ : St) (H : Hp) (Q : Bool → Hp → Prop), Inv X pins σ H s → t σ H Q → wpAny (model X.prog X.w) X.A (isTrue e X.env (eval e X.env)) (TP X pins σ Q) X.xe s
def PW (X : Cx) (e : Expr) (t : TT) : Prop :=
  ∀ (whole : Sem Value) (pins : List (Addr × Obj)) (s : Shared) (σ : St) (H : Hp) (Q : Bool → Hp → Prop), Inv X pins σ H s → t σ H Q → wpAny (model X.prog X.w) X.A (isTrue e X.env whole) (TP X pins σ Q) X.xe s
theorem PW.pt {X : Cx} {e : Expr} {t : TT} (h : PW X e t) : PT X e t := h _
def PA (X : Cx) (es : List Expr) (t : TA) : Prop :=
  ∀ (pos : Pos) (pins : List (Addr × Obj)) (s : Shared) (σ : St) (H : Hp) (Q : List V → Hp → Prop), Inv X pins σ H s → t σ H Q → wpAny (model X.prog X.w) X.A (spliced (backTo pos (starEach es X.env))) (AP X pins σ Q) X.xe s
def PS (X : Cx) (st : Stmt) (t : TS) : Prop :=
  ∀ (pins : List (Addr × Obj)) (s : Shared) (σ : St) (H : Hp) (D : Ends), Inv X pins σ H s → t D σ H → wpAny (model X.prog X.w) X.A (exec st X.env) (SP X pins D) X.xe s
def PSs (X : Cx) (st : List Stmt) (t : TS) : Prop :=
  ∀ (pins : List (Addr × Obj)) (s : Shared) (σ : St) (H : Hp) (D : Ends), Inv X pins σ H s → t D σ H → wpAny (model X.prog X.w) X.A (execs st X.env) (SP X pins D) X.xe s
theorem thn {α : Type} {t : Sem α} {Q Q' : α → Shared → Prop} {M : Model} {A : Around} {E : Value → Shared → Prop} {s : Shared} (h : wpAny M A t Q E s) (hQ : ∀ a s, Q a s → Q' a s) : wpAny M A t Q' E s := wpAny_mono h hQ fun _ _ x => x
end L2
namespace L2
open PySem PySem.Spec PyProof.Rows
section
variable {X : Cx}
theorem bin {a b : Expr} {ta tb : TE} (ha : PE X a ta) (hb : PE X b tb) {pins : List (Addr × Obj)} {s : Shared} {σ : St} {H : Hp} {R : V → V → Hp → Prop} (I : Inv X pins σ H s) (h : ta σ H fun x H1 => tb σ H1 fun y H2 => R x y H2)
    {α : Type} {Q : α → Shared → Prop} {f : Value → Value → Sem α}
    (hf : ∀ v u s2 x y H2, Inv X pins σ H2 s2 → RelV x v → RelV y u → R x y H2 → wpAny (model X.prog X.w) X.A (f v u) Q X.xe s2) :
    wpAny (model X.prog X.w) X.A (eval a X.env) (fun v s₁ => wpAny (model X.prog X.w) X.A (eval b X.env) (fun u s₂ => wpAny (model X.prog X.w) X.A (f v u) Q X.xe s₂) X.xe s₁) X.xe s := by
  refine thn (ha pins s σ H _ I h) fun v s1 ⟨x, H1, I1, r1, q1⟩ => ?_
  refine thn (hb pins s1 σ H1 _ I1 q1) fun u s2 ⟨y, H2, I2, r2, q2⟩ => ?_
  exact hf v u s2 x y H2 I2 r1 r2 q2
inductive QTVar (i : Nat) (σ : St) (H : Hp) (Q : VK) : Prop
  | mk (v : _) (h1 : σ[i]? = some (some v)) (q : Q v H) : QTVar i σ H Q
def tVar (i : Nat) : TE := fun σ H Q => QTVar i σ H Q
def tC (v : V) : TE := fun _ H Q => Q v H
theorem pe_var {i : Nat} {x : Str} {pos : Pos} (hN : X.N[i]? = some x) (hv : Vis X.env.scope x) (hd : (x == ("__debug__" : Str)) = false := by decide) (hcd : (x == ("__classdict__" : Str)) = false := by decide) : PE X (.Name x pos) (tVar i) := by
  intro pins s σ H Q I h
  obtain ⟨v, e, h⟩ := h
  obtain ⟨m, hn, hl⟩ := I.loc
  obtain ⟨u, r, l⟩ := hl i x v hN e hv
  have fin : EP X pins σ Q u s := ⟨v, H, I, r, h⟩
  rcases l with ⟨hk, hm⟩ | ⟨hk, c, hc, hcell⟩
  · exact wpAny_Name (wpAny_loadName_local I.ok.kind hk hn hm fin) hd
  · rcases hk with hk | hk
    · exact wpAny_Name (wpAny_loadName_cell I.ok.kind hk hc hcell fin) hd
    · exact wpAny_Name (wpAny_loadName_free I.ok.kind hk hc hcell fin hcd) hd
theorem pe_int {i j pos} : PE X (.Constant (.int i) j pos) (tC (.int i)) := fun _ _ _ H _ I h => wpAny_Constant_int ⟨.int i, H, I.tok _, ⟨_, rfl⟩, h⟩
theorem pe_bl {b j pos} : PE X (.Constant (.bool b) j pos) (tC (.bl b)) := fun _ _ _ H _ I h => Constant_bool ⟨.bl b, H, I, rfl, h⟩
def Gl (X : Cx) (x : Str) : Prop := X.env.kindOf x = some .globalImplicit
theorem ld_glob {E : Value → Shared → Prop} {pins : List (Addr × Obj)} {s : Shared} {σ : St} {H : Hp} {x : Str} {u : Value} {pos : Pos} {Q : Value → Shared → Prop} (I : Inv X pins σ H s) (hg : Gl X x) (hm : X.mg x = some u) (h : Q u s)
    (hd : (x == ("__debug__" : Str)) = false := by decide) : wpAny (model X.prog X.w) X.A (eval (.Name x pos) X.env) Q E s :=
  Calls.Name_function_global I.ok.kind hg (Calls.loadGlobal_global (by rw [I.ok.glob]; exact I.mod.glob.keeps I.bk) hm h) hd
theorem ld_blt {E : Value → Shared → Prop} {pins : List (Addr × Obj)} {s : Shared} {σ : St} {H : Hp} {x : Str} {u : Value} {pos : Pos} {Q : Value → Shared → Prop} (I : Inv X pins σ H s) (hg : Gl X x) (hm : X.mg x = none) (hv : bootBuiltins x = some u) (h : Q u s)
    (hn : x ≠ "__name__" := by decide) (hd : (x == ("__debug__" : Str)) = false := by decide) : wpAny (model X.prog X.w) X.A (eval (.Name x pos) X.env) Q E s := by
  obtain ⟨mb, h1, h2⟩ := I.mod.blt
  exact Calls.Name_function_global I.ok.kind hg (Calls.loadGlobal_builtin (by rw [I.ok.glob]; exact I.mod.glob.keeps I.bk) hm (by rw [I.ok.blt]; exact h1.keeps I.bk) ((h2 x hn).trans hv) h) hd
theorem pe_glob {x : Str} {v : V} {u : Value} {pos : Pos} (hg : Gl X x) (hm : X.mg x = some u) (r : RelV v u) (hd : (x == ("__debug__" : Str)) = false := by decide) : PE X (.Name x pos) (tC v) :=
  fun _ _ _ H _ I h => ld_glob I hg hm ⟨v, H, I, r, h⟩ hd
inductive QT2I (k : Int → Int → Hp → Prop) (x y : V) (H2 : Hp) : Prop
  | mk (i : _) (j : _) (h1 : x = .int i) (h2 : y = .int j) (q : k i j H2) : QT2I k x y H2
def t2I (ta tb : TE) (k : Int → Int → Hp → Prop) : St → Hp → Prop := fun σ H => ta σ H fun x H1 => tb σ H1 fun y H2 => QT2I k x y H2
variable {a b : Expr} {ta tb : TE} {pos : Pos}
def PC (X : Cx) (op : CmpOp) (a b : Expr) (t : TE) : Prop :=
  ∀ (pins : List (Addr × Obj)) (s : Shared) (σ : St) (H : Hp) (Q : VK), Inv X pins σ H s → t σ H Q →
    wpAny (model X.prog X.w) X.A (eval a X.env) (fun v s₁ => wpAny (model X.prog X.w) X.A (eval b X.env) (fun u s₂ => wpAny (model X.prog X.w) X.A (compareOp op v u) (EP X pins σ Q) X.xe s₂) X.xe s₁) X.xe s
theorem nobehind (b : Expr) {op : CmpOp} (h : op ≠ .In) (h2 : op ≠ .NotIn) : behindInMarks op b = false := by
  have e1 : (op == CmpOp.In) = false := by cases op <;> first | rfl | exact absurd rfl h
  have e2 : (op == CmpOp.NotIn) = false := by cases op <;> first | rfl | exact absurd rfl h2
  cases b <;> simp [behindInMarks, e1, e2]
def tCmp (p : Int → Int → Bool) (ta tb : TE) : TE := fun σ H Q => t2I ta tb (fun i j H2 => Q (.bl (p i j)) H2) σ H
abbrev tLt : TE → TE → TE := tCmp fun i j => decide (i < j)
abbrev tLe : TE → TE → TE := tCmp fun i j => decide (i ≤ j)
abbrev tGt : TE → TE → TE := tCmp fun i j => decide (j < i)
abbrev tEqI : TE → TE → TE := tCmp fun i j => decide (i = j)
abbrev tNeI : TE → TE → TE := tCmp fun i j => !decide (i = j)
theorem pc_int {op : CmpOp} {p : Int → Int → Bool} (ha : PE X a ta) (hb : PE X b tb)
    (rule : ∀ (i j : Int) (t u : Tok) (Q : Value → Shared → Prop) (s : Shared), Q (.bool (p i j)) s → wpAny (model X.prog X.w) X.A (compareOp op (.int i t) (.int j u)) Q X.xe s) : PC X op a b (tCmp p ta tb) := by
  intro pins s σ H Q I h
  refine bin ha hb I h fun v u s2 x y H2 I2 rx ry q => ?_
  obtain ⟨i, j, rfl, rfl, q⟩ := q
  obtain ⟨t, rfl⟩ := rx
  obtain ⟨t', rfl⟩ := ry
  exact rule i j t t' _ s2 ⟨.bl _, H2, I2, rfl, q⟩
theorem pc_lt (ha : PE X a ta) (hb : PE X b tb) : PC X .Lt a b (tLt ta tb) := pc_int ha hb fun _ _ _ _ _ _ h => lt_int h
theorem pc_le (ha : PE X a ta) (hb : PE X b tb) : PC X .LtE a b (tLe ta tb) := pc_int ha hb fun _ _ _ _ _ _ h => le_int h
theorem pc_gt (ha : PE X a ta) (hb : PE X b tb) : PC X .Gt a b (tGt ta tb) := pc_int ha hb fun _ _ _ _ _ _ h => gt_int h
theorem pc_eqI (ha : PE X a ta) (hb : PE X b tb) : PC X .Eq a b (tEqI ta tb) := pc_int ha hb fun _ _ _ _ _ _ h => eq_int (by rw [Bool.beq_eq_decide_eq]; exact h)
theorem pc_neI (ha : PE X a ta) (hb : PE X b tb) : PC X .NotEq a b (tNeI ta tb) := pc_int ha hb fun _ _ _ _ _ _ h => ne_int (by rw [bne, Bool.beq_eq_decide_eq]; exact h)
inductive QTB (x : V) (H1 : Hp) (Q : Bool → Hp → Prop) : Prop
  | mk (c : _) (h1 : x = .bl c) (q : Q c H1) : QTB x H1 Q
def tB (t : TE) : TT := fun σ H Q => t σ H fun x H1 => QTB x H1 Q
theorem pe_cmp {op : CmpOp} {t : TE} (h : PC X op a b t) (h1 : behindInMarks op b = false := by first | exact nobehind _ (by decide) (by decide) | rfl) : PE X (.Compare a [op] [b] pos) t := fun pins s σ H Q I hw => wpAny_Compare1 (h pins s σ H Q I hw) h1
theorem pt_cmp {op : CmpOp} {t : TE} (h : PC X op a b t) (h1 : behindInMarks op b = false := by first | exact nobehind _ (by decide) (by decide) | rfl) : PT X (.Compare a [op] [b] pos) (tB t) := by
  intro pins s σ H Q I hw
  refine wpAny_isTrue_Compare1 (thn (h pins s σ H _ I hw) fun v s1 h1 => thn h1 fun u s2 h2 => thn h2 fun c s3 ⟨x, H1, I1, r1, q1⟩ => ?_) h1
  obtain ⟨d, rfl, q⟩ := q1
  cases r1
  exact wpAny_truthy_bool ⟨H1, I1, q⟩
theorem pt_val {e : Expr} {t : TE} (h : PE X e t) (he : ∀ whole, isTrue e X.env whole = (do let v ← whole; standAt e.pos; holding [v] (truthy v)) := by intro _; rfl) : PT X e (tB t) := by
  intro pins s σ H Q I hw
  refine isTrue_plain (thn (h pins s σ H _ I hw) fun v s1 ⟨x, H1, I1, r1, q1⟩ => ?_) (he _)
  obtain ⟨d, rfl, q⟩ := q1
  cases r1
  exact wpAny_truthy_bool ⟨H1, I1, q⟩
variable {tA tB' : TT} {rest : List Expr}
def tAnd (t u : TT) : TT := fun σ H Q => t σ H fun c H1 => if c = true then u σ H1 Q else Q false H1
def tOr (t u : TT) : TT := fun σ H Q => t σ H fun c H1 => if c = true then Q true H1 else u σ H1 Q
def tNot (t : TT) : TT := fun σ H Q => t σ H fun c H1 => Q (!c) H1
theorem pw_and1 (ha : PT X a tA) : PW X (.BoolOp .And [a] pos) tA := by
  intro wh pins s σ H Q I h
  refine isTrue_and (thn (ha pins s σ H Q I h) fun c s1 e => ?_)
  cases c with
  | true => exact isTrue_and_nil e
  | false => exact e
theorem pw_or1 (ha : PT X a tA) : PW X (.BoolOp .Or [a] pos) tA := by
  intro wh pins s σ H Q I h
  refine isTrue_or (thn (ha pins s σ H Q I h) fun c s1 e => ?_)
  cases c with
  | false => exact isTrue_or_nil e
  | true => exact e
theorem pw_and (ha : PT X a tA) (hb : PW X (.BoolOp .And (b :: rest) pos) tB') : PW X (.BoolOp .And (a :: b :: rest) pos) (tAnd tA tB') := by
  intro wh pins s σ H Q I h
  refine isTrue_and (thn (ha pins s σ H _ I h) fun c s1 ⟨H1, I1, q1⟩ => ?_)
  cases c with
  | true => exact hb wh pins s1 σ H1 Q I1 q1
  | false => exact ⟨H1, I1, q1⟩
theorem pw_or (ha : PT X a tA) (hb : PW X (.BoolOp .Or (b :: rest) pos) tB') : PW X (.BoolOp .Or (a :: b :: rest) pos) (tOr tA tB') := by
  intro wh pins s σ H Q I h
  refine isTrue_or (thn (ha pins s σ H _ I h) fun c s1 ⟨H1, I1, q1⟩ => ?_)
  cases c with
  | true => exact ⟨H1, I1, q1⟩
  | false => exact hb wh pins s1 σ H1 Q I1 q1
theorem pt_not (ha : PT X a tA) : PT X (.UnaryOp .Not a pos) (tNot tA) := by
  intro pins s σ H Q I h
  exact isTrue_not (thn (ha pins s σ H (fun c H1 => Q (!c) H1) I h) fun _ _ ⟨x, i, q⟩ => ⟨x, i, q⟩)
inductive QTAndV (tb : TE) (σ : St) (x : V) (H1 : Hp) (Q : VK) : Prop
  | mk (c : _) (h1 : x = .bl c) (q : if c = true then tb σ H1 Q else Q (.bl false) H1) : QTAndV tb σ x H1 Q
def tAndV (ta tb : TE) : TE := fun σ H Q => ta σ H fun x H1 => QTAndV tb σ x H1 Q
theorem pe_one {op} {t : TE} (h : PE X a t) : PE X (.BoolOp op [a] pos) t := fun pins s σ H Q I hw => BoolOp_one (h pins s σ H Q I hw)
theorem pe_and (ha : PE X a ta) (hb : PE X (.BoolOp .And (b :: rest) pos) tb) : PE X (.BoolOp .And (a :: b :: rest) pos) (tAndV ta tb) := by
  intro pins s σ H Q I h
  refine BoolOp_and (thn (ha pins s σ H _ I h) fun v s1 ⟨x, H1, I1, r1, q1⟩ => ?_)
  obtain ⟨c, rfl, q1⟩ := q1
  cases r1
  refine wpAny_truthy_bool ?_
  cases c with
  | true => exact hb pins s1 σ H1 Q I1 q1
  | false => exact ⟨.bl false, H1, I1, rfl, q1⟩
end
end L2
namespace L2
open PySem PySem.Spec PyProof.Rows
def SqL (K : PySem.W.Frag) (H : Hp) (a : Addr) (xs : List V) : Prop :=
  Rd H a (.lst xs) ∨
    ∃ (o : Obj) (its : Array Value) (n : Nat), K.lookup a = some o ∧ o.cls = .type "list" ∧ o.dict = none ∧ o.data = .seq its n ∧ its.size ≤ sizeLine ∧ Vals xs its.toList
def SqT (K : PySem.W.Frag) (H : Hp) (a : Addr) (xs : List V) : Prop :=
  Rd H a (.tup xs) ∨
    ∃ (o : Obj) (its : Array Value) (n : Nat), K.lookup a = some o ∧ o.cls = .type "tuple" ∧ o.data = .seq its n ∧ its.size ≤ sizeLine ∧ Vals xs its.toList
def absV : Value → Option V
  | .none => some .non
  | .bool b => some (.bl b)
  | .int i _ => some (.int i)
  | .str x _ => some (.str x)
  | .bytes b _ => some (.byt b)
  | .float b _ => some (.flt b)
  | .ref a => some (.ref a)
  | .type n => some (.ty n)
  | _ => none
theorem RelV.abs {x : V} {u : Value} (r : RelV x u) : absV u = some x := by
  cases x with
  | non => cases r; rfl
  | bl _ => cases r; rfl
  | int _ => obtain ⟨t, rfl⟩ := r; rfl
  | str _ => obtain ⟨t, rfl⟩ := r; rfl
  | byt _ => obtain ⟨t, rfl⟩ := r; rfl
  | flt _ => obtain ⟨t, rfl⟩ := r; rfl
  | ref _ => cases r; rfl
  | ty _ => cases r; rfl
theorem RelV.inj {x y : V} {u : Value} (r : RelV x u) (q : RelV y u) : x = y := Option.some.inj (r.abs.symm.trans q.abs)
theorem Vals.inj : ∀ {xs ys : List V} {us : List Value}, Vals xs us → Vals ys us → xs = ys
  | _, _, _, .nil, .nil => rfl
  | _, _, _, .cons r t, .cons r' t' => by rw [r.inj r', Vals.inj t t']
section
variable {X : Cx} {pins : List (Addr × Obj)} {σ : St} {H : Hp} {s : Shared} {a : Addr} {xs ys : List V}
theorem SqL.of {K : PySem.W.Frag} (h : H a = some (.lst xs)) : SqL K H a xs := .inl (.inl h)
theorem SqT.of {K : PySem.W.Frag} (h : H a = some (.tup xs)) : SqT K H a xs := .inl (.inl h)
theorem Inv.list (I : Inv X pins σ H s) (h : SqL X.K H a xs) : ∃ its : List Value, Vals xs its ∧ PlainL s.heap a its.toArray ∧ xs.length ≤ sizeLine := by
  rcases h with h | ⟨o, its, n, hk, hc, hd, hs, hz, r⟩
  · obtain ⟨z, its, n, r, e⟩ := h.ok I.hok
    exact ⟨its, r, ⟨_, n, e, rfl, rfl, rfl⟩, z⟩
  · refine ⟨its.toList, r, ⟨o, n, I.kIn a o hk, hc, hd, by simpa using hs⟩, ?_⟩
    have e := r.length
    simp only [Array.length_toList] at e
    omega
theorem Inv.tuple (I : Inv X pins σ H s) (h : SqT X.K H a xs) : ∃ its : List Value, Vals xs its ∧ IsTup s.heap a its.toArray ∧ xs.length ≤ sizeLine := by
  rcases h with h | ⟨o, its, n, hk, hc, hs, hz, r⟩
  · obtain ⟨z, its, r, p⟩ := h.ok I.hok
    exact ⟨its, r, p, z⟩
  · refine ⟨its.toList, r, ⟨o, I.kIn a o hk, hc, n, by simpa using hs⟩, ?_⟩
    have e := r.length
    simp only [Array.length_toList] at e
    omega
theorem Inv.list_inj (I : Inv X pins σ H s) (h : SqL X.K H a xs) (h' : SqL X.K H a ys) : xs = ys := by
  obtain ⟨its, r, ⟨o, n, e, _, _, d⟩, _⟩ := I.list h
  obtain ⟨its', r', ⟨o', n', e', _, _, d'⟩, _⟩ := I.list h'
  rw [e] at e'; cases e'
  rw [d] at d'
  injection d' with d1 _
  have : its = its' := by simpa using congrArg Array.toList d1
  subst this
  exact r.inj r'
end
abbrev Cx.wish (X : Cx) (E : Value → Shared → Prop) : Cx := { X with xe := E }
abbrev Cx.nox (X : Cx) : Cx := X.wish fun _ _ => False
theorem Cx.Ok.wish {X : Cx} (ok : X.Ok) (E : Value → Shared → Prop) : (X.wish E).Ok :=
  ⟨ok.mod, ok.kind, ok.glob, ok.blt, ok.above, ok.inj, ok.has, ok.cab, ok.hd, ok.frames, ok.stk, ok.exf, ok.bs, ok.bsz, ok.noex, ok.exfs, ok.funs, ok.frf⟩
theorem Cx.Ok.unwish {X : Cx} {E : Value → Shared → Prop} (ok : (X.wish E).Ok) : X.Ok :=
  ⟨ok.mod, ok.kind, ok.glob, ok.blt, ok.above, ok.inj, ok.has, ok.cab, ok.hd, ok.frames, ok.stk, ok.exf, ok.bs, ok.bsz, ok.noex, ok.exfs, ok.funs, ok.frf⟩
section
variable {X : Cx} {pins : List (Addr × Obj)} {σ : St} {H : Hp} {s : Shared} {E : Value → Shared → Prop}
theorem Inv.wish (I : Inv X pins σ H s) (E : Value → Shared → Prop) : Inv (X.wish E) pins σ H s := ⟨I.ok.wish E, I.os, I.bare, I.base, I.loc, I.cell, I.free, I.freeC, I.pin, I.hok, I.len⟩
theorem Inv.unwish (I : Inv (X.wish E) pins σ H s) : Inv X pins σ H s := ⟨I.ok.unwish, I.os, I.bare, I.base, I.loc, I.cell, I.free, I.freeC, I.pin, I.hok, I.len⟩
theorem SP.unwish {D : Ends} {f : Flow} {s' : Shared} (h : SP (X.wish E) pins D f s') : SP X pins D f s' := by
  cases f with
  | next => obtain ⟨σ', H', I, q⟩ := h; exact ⟨σ', H', I.unwish, q⟩
  | brk => obtain ⟨σ', H', I, q⟩ := h; exact ⟨σ', H', I.unwish, q⟩
  | cont => obtain ⟨σ', H', I, q⟩ := h; exact ⟨σ', H', I.unwish, q⟩
  | ret u => obtain ⟨v, σ', H', I, r, q⟩ := h; exact ⟨v, σ', H', I.unwish, r, q⟩
theorem PSs.nox {st : List Stmt} {t : TS} (h : PSs X.nox st t) : PSs X st t := fun pins s σ H D I hw =>
  wpAny_mono (h pins s σ H D (I.wish _) hw) (fun _ _ q => q.unwish) fun _ _ z => False.elim z
end
section
variable {X : Cx} {st : Stmt} {rest : List Stmt} {t u : TS} {e : Expr} {te : TE} {pos : Pos}
def tNext : TS := fun D σ H => D.nx σ H
def tSeq (t u : TS) : TS := fun D σ H => t { D with nx := u D } σ H
theorem pss_nil : PSs X [] tNext := fun _ _ σ H _ I h => wpAny_execs_nil ⟨σ, H, I, h⟩
theorem pss_cons (h1 : PS X st t) (h2 : PSs X rest u) : PSs X (st :: rest) (tSeq t u) := by
  intro pins s σ H D I h
  refine wpAny_execs_cons (thn (h1 pins s σ H { D with nx := u D } I h) fun f s1 q => ?_)
  cases f with
  | next =>
    obtain ⟨σ', H', I', q⟩ := q
    exact h2 pins s1 σ' H' D I' q
  | ret v => exact q
  | brk => exact q
  | cont => exact q
theorem pss_one (h1 : PS X st t) : PSs X [st] t := by
  intro pins s σ H D I h
  refine wpAny_execs_cons (thn (h1 pins s σ H D I h) fun f s1 q => ?_)
  cases f with
  | next => exact wpAny_execs_nil q
  | ret v => exact q
  | brk => exact q
  | cont => exact q
theorem Inv.quiet {pins : List (Addr × Obj)} {σ : St} {H : Hp} {s : Shared} (I : Inv X pins σ H s) : interactive X.env = false := by simp [interactive, I.ok.kind]
def tDrop (te : TE) : TS := fun D σ H => te σ H fun _ H1 => D.nx σ H1
theorem ps_expr (he : PE X e te) (hs : swapsWith e none pos.line X.env = pure false := by rfl) : PS X (.Expr e pos) (tDrop te) := by
  intro pins s σ H D I h
  exact wpAny_Expr_any (thn (he pins s σ H _ I h) fun v s1 ⟨x, H1, I1, r1, q1⟩ => ⟨σ, H1, I1, q1⟩) I.quiet hs
def tRet (te : TE) : TS := fun D σ H => te σ H D.rt
theorem ps_ret (he : PE X e te) : PS X (.Return (some e) pos) (tRet te) := by
  intro pins s σ H D I h
  exact wpAny_Return_some (thn (he pins s σ H _ I h) fun v s1 ⟨x, H1, I1, r1, q1⟩ => ⟨x, σ, H1, I1, r1, q1⟩)
def tIfS (c : TT) (t u : TS) : TS := fun D σ H => c σ H fun b H1 => if b = true then t D σ H1 else u D σ H1
theorem ps_if {c : Expr} {a b : List Stmt} {tc : TT} (hc : PT X c tc) (ha : PSs X a t) (hb : PSs X b u) : PS X (.If c a b pos) (tIfS tc t u) := by
  intro pins s σ H D I h
  refine wpAny_If (thn (hc pins s σ H _ I h) fun d s1 ⟨H1, I1, q1⟩ => ?_)
  cases d with
  | true => exact ha pins s1 σ H1 D I1 q1
  | false => exact hb pins s1 σ H1 D I1 q1
end
abbrev TG := V → St → Hp → (St → Hp → Prop) → Prop
abbrev TGs := List V → St → Hp → (St → Hp → Prop) → Prop
def PG (X : Cx) (target : Expr) (t : TG) : Prop :=
  ∀ (pins : List (Addr × Obj)) (s : Shared) (σ : St) (H : Hp) (v : V) (u : Value) (Q : St → Hp → Prop), Inv X pins σ H s → RelV v u → t v σ H Q →
    wpAny (model X.prog X.w) X.A (assign target X.env u) (fun _ s' => ∃ σ' H', Inv X pins σ' H' s' ∧ Q σ' H') X.xe s
def PGs (X : Cx) (ts : List Expr) (t : TGs) : Prop :=
  ∀ (pins : List (Addr × Obj)) (s : Shared) (σ : St) (H : Hp) (vs : List V) (us : List Value) (Q : St → Hp → Prop), Inv X pins σ H s → Vals vs us → t vs σ H Q →
    wpAny (model X.prog X.w) X.A (assignInOrder ((assignEach ts X.env).map (·.2)) us) (fun _ s' => ∃ σ' H', Inv X pins σ' H' s' ∧ Q σ' H') X.xe s
abbrev TSet := V → V → V → Hp → (Hp → Prop) → Prop
def PSet (X : Cx) (t : TSet) : Prop :=
  ∀ (pins : List (Addr × Obj)) (s : Shared) (σ : St) (H : Hp) (o i v : V) (ov iv u : Value) (Q : Hp → Prop), Inv X pins σ H s → RelV o ov → RelV i iv → RelV v u → t o i v H Q →
    wpAny (model X.prog X.w) X.A (setItem ov iv u) (fun _ s' => ∃ H', Inv X pins σ H' s' ∧ Q H') X.xe s
abbrev TIp := V → V → Hp → VK → Prop
def PIp (X : Cx) (op : Operator) (t : TIp) : Prop :=
  ∀ (pins : List (Addr × Obj)) (s : Shared) (σ : St) (H : Hp) (x y : V) (v u : Value) (Q : VK), Inv X pins σ H s → RelV x v → RelV y u → t x y H Q →
    wpAny (model X.prog X.w) X.A (inplaceOp op v u) (EP X pins σ Q) X.xe s
section
variable {X : Cx} {pos : Pos}
def gName (i : Nat) : TG := fun v σ H Q => Q (σ.set i (some v)) H
theorem pg_name {i : Nat} {x : Str} (hN : X.N.Nodup) (hi : X.N[i]? = some x) (hx : Loc X.env.scope x) (hf : X.fn x = true ∨ X.env.scope.names.lookup x = some .local := by first | exact .inl rfl | exact .inr rfl | assumption) : PG X (.Name x pos) (gName i) := by
  intro pins s σ H v u Q I r h
  exact wpAny_assign_Name (store_ok I hN hi hx r (fun s' I' => ⟨_, H, I', h⟩) hf)
def gNil : TGs := fun vs σ H Q => vs = [] ∧ Q σ H
inductive QGCons (t : TG) (u : TGs) (vs : List V) (σ : St) (H : Hp) (Q : St → Hp → Prop) : Prop
  | mk (v : _) (r : _) (h1 : vs = v :: r) (q : t v σ H fun σ' H' => u r σ' H' Q) : QGCons t u vs σ H Q
def gCons (t : TG) (u : TGs) : TGs := fun vs σ H Q => QGCons t u vs σ H Q
theorem pgs_nil : PGs X [] gNil := by
  intro pins s σ H vs us Q I r h
  obtain ⟨e, h⟩ := h
  subst e
  cases r
  exact assignInOrder_nil ⟨σ, H, I, h⟩
theorem pgs_cons {e : Expr} {es : List Expr} {t : TG} {u : TGs} (h1 : PG X e t) (h2 : PGs X es u)
    (hs : (assignEach (e :: es) X.env).map (·.2) = assign e X.env :: (assignEach es X.env).map (·.2) := by rfl) : PGs X (e :: es) (gCons t u) := by
  intro pins s σ H vs us Q I r h
  obtain ⟨v, vr, e1, h⟩ := h
  subst e1
  cases r with
  | cons r rr =>
    rw [hs]
    refine assignInOrder_cons (thn (h1 pins s σ H _ _ _ I r h) fun _ s1 ⟨σ1, H1, I1, q1⟩ => ?_)
    exact h2 pins s1 σ1 H1 _ _ Q I1 rr q1
inductive QGTup (K : PySem.W.Frag) (n : Nat) (t : TGs) (v : V) (σ : St) (H : Hp) (Q : St → Hp → Prop) : Prop
  | mk (a : _) (xs : _) (h1 : v = .ref a) (h2 : SqT K H a xs) (h3 : xs.length = n) (q : t xs σ H Q) : QGTup K n t v σ H Q
def gTup (K : PySem.W.Frag) (n : Nat) (t : TGs) : TG := fun v σ H Q => QGTup K n t v σ H Q
theorem pg_tup {es : List Expr} {k : Nat} {t : TGs} {n : Nat} (hc : X.calm = true) (h : PGs X es t)
    (hn : (assignEach es X.env).length = n := by rfl) (hst : (assignEach es X.env).findIdx? (·.1) = none := by rfl) : PG X (.Tuple es k pos) (gTup X.K n t) := by
  intro pins s σ H v u Q I r hw
  obtain ⟨a, xs, e1, hq, hl, hw⟩ := hw
  subst e1
  cases r
  obtain ⟨its, rv, ht, hz⟩ := I.tuple hq
  refine assign_Tuple_tuple (I.ok.hd hc) ht (by simp [hn, ← hl, rv.length]) hst fun h' hx => ?_
  have I1 : Inv X pins σ H { s with heap := h' } := I.kept (t' := s.toks) fun b o e => hx b o (Nat.ne_of_lt (Heap.lt_size e)) e
  exact h pins _ σ H xs _ Q I1 (by simpa using rv) hw
def tAsg (te : TE) (g : TG) : TS := fun D σ H => te σ H fun x H1 => g x σ H1 D.nx
theorem ps_set {i : Nat} {x : Str} {e : Expr} {te : TE} {pos' : Pos} (hN : X.N.Nodup) (hi : X.N[i]? = some x) (hx : Loc X.env.scope x) (he : PE X e te) (hs : swapsWith e (some (.Name x pos')) pos.line X.env = pure false := by rfl) (hf : X.fn x = true ∨ X.env.scope.names.lookup x = some .local := by first | exact .inl rfl | exact .inr rfl | assumption) :
    PS X (.Assign [.Name x pos'] e pos) (tAsg te (gName i)) := by
  intro pins s σ H D I h
  refine wpAny_Assign_Name (thn (he pins s σ H _ I h) fun v s1 ⟨y, H1, I1, r1, q1⟩ => ?_) hs
  exact store_ok I1 hN hi hx r1 (fun s2 I2 => ⟨_, H1, I2, q1⟩) hf
inductive QTAug (i : Nat) (te : TE) (ti : TIp) (D : Ends) (σ : St) (H : Hp) : Prop
  | mk (x : _) (h1 : σ[i]? = some (some x)) (q : te σ H fun y H1 => ti x y H1 fun z H2 => D.nx (σ.set i (some z)) H2) : QTAug i te ti D σ H
def tAug (i : Nat) (te : TE) (ti : TIp) : TS := fun D σ H => QTAug i te ti D σ H
theorem ps_aug {i : Nat} {x : Str} {e : Expr} {te : TE} {op : Operator} {ti : TIp} {pos' : Pos} (hN : X.N.Nodup) (hi : X.N[i]? = some x) (hx : Loc X.env.scope x) (he : PE X e te) (ho : PIp X op ti) (hf : X.fn x = true ∨ X.env.scope.names.lookup x = some .local := by first | exact .inl rfl | exact .inr rfl | assumption) :
    PS X (.AugAssign (.Name x pos') op e pos) (tAug i te ti) := by
  intro pins s σ H D I h
  obtain ⟨v, e1, h⟩ := h
  obtain ⟨m, hn, hl⟩ := I.loc
  have vis : Vis X.env.scope x := by rcases hx with k | k; exact .inl k; exact .inr (.inl k)
  obtain ⟨u, r, l⟩ := hl i x v hi e1 vis
  refine wpAny_AugAssign_Name ?_
  have go : wpAny (model X.prog X.w) X.A (eval e X.env) (fun w s₂ => wpAny (model X.prog X.w) X.A (inplaceOp op u w) (fun r s₃ => wpAny (model X.prog X.w) X.A (storeName X.env x r) (fun _ => SP X pins D .next) X.xe s₃) X.xe s₂) X.xe s := by
    refine thn (he pins s σ H _ I h) fun w s1 ⟨y, H1, I1, r1, q1⟩ => ?_
    refine thn (ho pins s1 σ H1 v y u w _ I1 r r1 q1) fun z s2 ⟨zv, H2, I2, r2, q2⟩ => ?_
    exact store_ok I2 hN hi hx r2 (fun s3 I3 => ⟨_, H2, I3, q2⟩) hf
  rcases l with ⟨hk, hm⟩ | ⟨hk, c, hc, hcell⟩
  · exact wpAny_loadName_local I.ok.kind hk hn hm go
  · rcases hk with hk | hk
    · exact wpAny_loadName_cell I.ok.kind hk hc hcell go
    · rcases hx with k | k
      · have : X.env.scope.names.lookup x = some .free := hk
        rw [k] at this; cases this
      · have : X.env.scope.names.lookup x = some .free := hk
        rw [k] at this; cases this
def tAugS (to ti te : TE) (tget : V → V → Hp → VK → Prop) (tip : TIp) (tset : TSet) : TS := fun D σ H => to σ H fun o H1 => ti σ H1 fun i H2 => tget o i H2 fun x H3 => te σ H3 fun y H4 => tip x y H4 fun z H5 => tset o i z H5 fun H6 => D.nx σ H6
def PGet (X : Cx) (t : V → V → Hp → VK → Prop) : Prop :=
  ∀ (pins : List (Addr × Obj)) (s : Shared) (σ : St) (H : Hp) (o i : V) (ov iv : Value) (Q : VK), Inv X pins σ H s → RelV o ov → RelV i iv → t o i H Q →
    wpAny (model X.prog X.w) X.A (getItem ov iv) (EP X pins σ Q) X.xe s
theorem ps_augS {o i e : Expr} {to ti te : TE} {tget : V → V → Hp → VK → Prop} {tip : TIp} {tset : TSet} {op : Operator} {tpos : Pos} (ho : PE X o to) (hi : PE X i ti) (hg : PGet X tget) (he : PE X e te) (hp : PIp X op tip) (hs : PSet X tset)
    (ha : ∀ ov iv new, augStore i ov iv new = (do holding [new, ov, iv] (setItem ov iv new); release [new, ov, iv] []; pure .next) := by intros; rfl) : PS X (.AugAssign (.Subscript o i tpos) op e pos) (tAugS to ti te tget tip tset) := by
  intro pins s σ H D I h
  refine wpAny_AugAssign_SubscriptAny (thn (ho pins s σ H _ I h) fun ov s1 ⟨x1, H1, I1, r1, q1⟩ => ?_) ha
  refine thn (hi pins s1 σ H1 _ I1 q1) fun iv s2 ⟨x2, H2, I2, r2, q2⟩ => ?_
  refine thn (hg pins s2 σ H2 x1 x2 ov iv _ I2 r1 r2 q2) fun old s3 ⟨x3, H3, I3, r3, q3⟩ => ?_
  refine thn (he pins s3 σ H3 _ I3 q3) fun v s4 ⟨x4, H4, I4, r4, q4⟩ => ?_
  refine thn (hp pins s4 σ H4 x3 x4 old v _ I4 r3 r4 q4) fun new s5 ⟨x5, H5, I5, r5, q5⟩ => ?_
  exact thn (hs pins s5 σ H5 x1 x2 x5 ov iv new _ I5 r1 r2 r5 q5) fun _ s6 ⟨H6, I6, q6⟩ => ⟨σ, H6, I6, q6⟩
inductive QIpI (f : Int → Int → Int) (x y : V) (H : Hp) (Q : VK) : Prop
  | mk (i : _) (j : _) (h1 : x = .int i) (h2 : y = .int j) (q : Q (.int (f i j)) H) : QIpI f x y H Q
def ipI (f : Int → Int → Int) : TIp := fun x y H Q => QIpI f x y H Q
theorem ip_add : PIp X .Add (ipI fun i j => i + j) := by
  intro pins s σ H x y v u Q I r1 r2 h
  obtain ⟨i, j, e1, e2, q⟩ := h
  subst e1; subst e2
  obtain ⟨t, rfl⟩ := r1
  obtain ⟨t', rfl⟩ := r2
  exact iadd_int ⟨.int _, H, I.tok _, ⟨_, rfl⟩, q⟩
theorem ip_sub : PIp X .Sub (ipI fun i j => i - j) := by
  intro pins s σ H x y v u Q I r1 r2 h
  obtain ⟨i, j, e1, e2, q⟩ := h
  subst e1; subst e2
  obtain ⟨t, rfl⟩ := r1
  obtain ⟨t', rfl⟩ := r2
  exact isub_int ⟨.int _, H, I.tok _, ⟨_, rfl⟩, q⟩
end
section
variable {X : Cx} {pos : Pos}
def tWhile (c : TT) (tb : TS) : TS := fun D σ H => ∃ W : Nat → St → Hp → Prop, (∃ m, W m σ H) ∧ ∀ m σ H, W m σ H →
  c σ H fun b H1 => if b = true then ∃ N : St → Hp → Prop, (∀ σ' H', N σ' H' → ∃ m', m' < m ∧ W m' σ' H') ∧ tb { D with nx := N, ct := N, bk := D.nx } σ H1 else D.nx σ H1
theorem ps_while {c : Expr} {body : List Stmt} {tc : TT} {tb : TS} (hp : PassesOwn (model X.prog X.w) X.A X.env X.xe) (hc : PT X c tc) (hb : PSs X body tb) : PS X (.While c body [] pos) (tWhile tc tb) := by
  intro pins s σ H D I h
  obtain ⟨W, ⟨m0, w0⟩, turn⟩ := h
  refine wpAny_While (codeAny_whileLoop (fun n s' => ∃ σ' H', Inv X pins σ' H' s' ∧ W n σ' H') ?_ m0 ⟨σ, H, I, w0⟩)
  rintro n s1 ⟨σ1, H1, I1, w1⟩
  refine wpAny_passesOwn hp (thn (hc pins s1 σ1 H1 _ I1 (turn n σ1 H1 w1)) fun b s2 ⟨H2, I2, q2⟩ => ?_)
  cases b with
  | true =>
    obtain ⟨N, hN, q2⟩ := q2
    rw [if_pos rfl]
    refine wpAny_passesOwn hp (thn (hb pins s2 σ1 H2 _ I2 q2) fun f s3 q3 => ?_)
    cases f with
    | next =>
      obtain ⟨σ3, H3, I3, n3⟩ := q3
      obtain ⟨m', hm, w3⟩ := hN σ3 H3 n3
      exact ⟨m', hm, σ3, H3, I3, w3⟩
    | cont =>
      obtain ⟨σ3, H3, I3, n3⟩ := q3
      obtain ⟨m', hm, w3⟩ := hN σ3 H3 n3
      exact ⟨m', hm, σ3, H3, I3, w3⟩
    | brk => exact q3
    | ret v => exact q3
  | false =>
    rw [if_neg Bool.false_ne_true]
    exact wpAny_execs_nil ⟨σ1, H2, I2, q2⟩
end
structure It where
  go : Nat → Hp → Prop
  yld : Nat → Hp → V → Hp → Prop
  stop : Nat → Hp → Prop
def FpOk (X : Cx) (pins : List (Addr × Obj)) (H : Hp) (b : Addr) : Prop :=
  H b = none ∧ b ≠ X.env.locals ∧ b ∉ X.fs ∧ (b ∈ X.ex ∨ X.s_0.heap.objs.size ≤ b) ∧ (∀ x c, X.env.cells.lookup x = some c → c ≠ b) ∧ ∀ p ∈ X.pn ++ pins, p.1 ≠ b
theorem Inv.fpOk {X : Cx} {pins : List (Addr × Obj)} {σ : St} {H H' : Hp} {s : Shared} {b : Addr} (I : Inv X pins σ H s) (hb : s.heap.objs.size ≤ b) (hn : H' b = none) : FpOk X pins H' b := by
  refine ⟨hn, Nat.ne_of_gt (Nat.lt_of_lt_of_le I.lt hb), I.nofs hb, .inr (Nat.le_trans I.sz hb), fun x c e z => ?_, fun p hp z => ?_⟩
  · obtain ⟨v, q⟩ := I.cell x c e
    exact absurd (Nat.lt_of_lt_of_le q.lt (by rw [z]; exact hb)) (Nat.lt_irrefl _)
  · exact absurd (Nat.lt_of_lt_of_le (Heap.lt_size (I.pin p hp).1) (by rw [z]; exact hb)) (Nat.lt_irrefl _)
structure Turn (P : Program) (w : World) (K : PySem.W.Frag) (tg : Expr) (J : It) (fp : List Addr) (it : Addr) (tn : Nat → Heap → Prop) : Prop where
  mem : it ∈ fp
  obj : ∀ i h, tn i h → ∀ b ∈ fp, ∃ o, h.get? b = some o ∧ ∀ v, o.data ≠ .cell v
  keep : ∀ i h h', tn i h → (∀ b ∈ fp, ∀ o, h.get? b = some o → h'.get? b = some o) → tn i h'
  item : ∀ (X : Cx), X.prog = P → X.w = w → X.K = K → X.calm = true → ∀ (i : Nat) (pins : List (Addr × Obj)) (s : Shared) (σ : St) (H : Hp) (E : Value → Shared → Prop), Inv X pins σ H s → (∀ b ∈ fp, FpOk X pins H b) → tn i s.heap → J.go i H →
    wpAny (model P w) X.A (pyNext (.ref it)) (fun r s1 => ∃ u, r = some u ∧
      wpAny (model P w) X.A (letOwnedTupleGo tg (.ref it) u) (fun _ s2 => ∃ x H', Inv X pins σ H' s2 ∧ RelV x u ∧ J.yld i H x H' ∧ tn (i + 1) s2.heap ∧ ∀ b ∈ fp, H' b = none) E s1) E s
  done : ∀ (X : Cx), X.prog = P → X.w = w → X.K = K → X.calm = true → ∀ (i : Nat) (pins : List (Addr × Obj)) (s : Shared) (σ : St) (H : Hp) (E : Value → Shared → Prop), Inv X pins σ H s → (∀ b ∈ fp, FpOk X pins H b) → tn i s.heap → J.stop i H →
    wpAny (model P w) X.A (pyNext (.ref it)) (fun r s1 => r = none ∧ Inv X pins σ H s1) E s
  self : ∀ (A : Around) (i : Nat) (s : Shared) (Q : Value → Shared → Prop) (E : Value → Shared → Prop), tn i s.heap → Q (.ref it) s → wpAny (model P w) A (pyIter (.ref it)) Q E s
abbrev TI := St → Hp → (It → Hp → Prop) → Prop
def PIE (X : Cx) (pins : List (Addr × Obj)) (σ : St) (tg : Expr) (R : It → Hp → Prop) (itv : Value) (s2 : Shared) : Prop :=
  ∃ (it : Addr) (fp : List Addr) (tn : Nat → Heap → Prop) (J : It) (H' : Hp), itv = .ref it ∧ Inv X pins σ H' s2 ∧ Turn X.prog X.w X.K tg J fp it tn ∧ tn 0 s2.heap ∧ (∀ b ∈ fp, FpOk X pins H' b) ∧ R J H'
def PI (X : Cx) (tg iter : Expr) (wi : TI) : Prop :=
  ∀ (pins : List (Addr × Obj)) (s : Shared) (σ : St) (H : Hp) (R : It → Hp → Prop), Inv X pins σ H s → wi σ H R →
    wpAny (model X.prog X.w) X.A (eval iter X.env) (fun v s1 => wpAny (model X.prog X.w) X.A (pyIter v) (PIE X pins σ tg R) X.xe s1) X.xe s
theorem go_of {M : Model} {A : Around} {E : Value → Shared → Prop} {s : Shared} {tg : Expr} {it : Addr} {u : Value} {o : Obj} {n : String} {vs : Array Value} {Q : Unit → Shared → Prop} (ho : s.heap.get? it = some o) (hc : o.cls = .type n) (hd : o.data = .fields vs)
    (hn : ["enumerate", "zip", "dict_itemiterator", "dict_reverseitemiterator", "odict_iterator", "itertools.zip_longest", "itertools.pairwise"].contains n = false) (hQ : Q () s) : wpAny M A (letOwnedTupleGo tg (.ref it) u) Q E s := by
  unfold letOwnedTupleGo
  cases tg <;> first
    | exact wpAny_pure hQ
    | (cases u <;> first
        | exact wpAny_pure hQ
        | (refine wpAny_bind (wpAny_load ho ?_)
           rw [hc, hd]
           show wpAny M A (if (["enumerate", "zip", "dict_itemiterator", "dict_reverseitemiterator", "odict_iterator", "itertools.zip_longest", "itertools.pairwise"].contains n && vs[0]? == some (rawInt _)) = true then _ else _) Q E s
           rw [if_neg (by intro h; rw [hn, Bool.false_and] at h; cases h)]
           exact wpAny_pure hQ))
def Itl (K : PySem.W.Frag) (a : Addr) : It :=
  ⟨fun i H => ∃ xs x, SqL K H a xs ∧ xs[i]? = some x, fun i H x H' => H' = H ∧ ∀ xs, SqL K H a xs → xs[i]? = some x, fun i H => ∃ xs, SqL K H a xs ∧ xs.length ≤ i⟩
def Itr (lo : Int) (n : Nat) : It := ⟨fun i _ => i < n, fun i H x H' => H' = H ∧ x = .int (lo + i), fun i _ => n ≤ i⟩
theorem turn_list {P : Program} {w : World} {K : PySem.W.Frag} {tg : Expr} (a it : Addr) : Turn P w K tg (Itl K a) [it] it (fun i h => h.IsListIter it a i) where
  mem := by simp
  obj := fun i h st b hb => by
    have e : b = it := by simpa using hb
    subst e
    obtain ⟨o, e, c, d⟩ := st
    exact ⟨o, e, fun v z => by rw [d] at z; cases z⟩
  keep := fun i h h' st k => st.at fun o e => k it (by simp) o e
  item := by
    intro X hP hw hK hc i pins s σ H E I hf st hg
    subst hP hw hK
    obtain ⟨xs, x, hq, hx⟩ := hg
    obtain ⟨its, rv, p, hz⟩ := I.list hq
    obtain ⟨u, hu, ru⟩ := rv.get hx
    obtain ⟨f0, f1, f2, f3, f4, f5⟩ := hf it (by simp)
    refine wpAny_pyNext_list_item st p.isList (x := u) (by simpa using hu) fun h' st' sb => ?_
    have I1 : Inv X pins σ H { s with heap := h' } := I.turned (t' := s.toks) (fun b o hb e => (sb.2 b hb).trans e) f0 f1 f3 f4 f5
    obtain ⟨o, e, c, d⟩ := id st'
    exact ⟨u, rfl, go_of (s := { s with heap := h' }) e c d (by decide) ⟨x, H, I1, ru, ⟨rfl, fun ys hy => by rw [I.list_inj hy hq]; exact hx⟩, st', fun b hb => (hf b hb).1⟩⟩
  done := by
    intro X hP hw hK hc i pins s σ H E I hf st hg
    subst hP hw hK
    obtain ⟨xs, hq, hx⟩ := hg
    obtain ⟨its, rv, p, hz⟩ := I.list hq
    obtain ⟨f0, f1, f2, f3, f4, f5⟩ := hf it (by simp)
    have hl := rv.length
    exact wpAny_pyNext_list_end (I.ok.hd hc) st p.isList (by simp; omega) fun h' eb => ⟨rfl, I.turned (t' := s.toks) (fun b o hb e => eb b o hb e) f0 f1 f3 f4 f5⟩
  self := fun _ _ _ _ _ st h => wpAny_pyIter_listiter st h
theorem turn_range {P : Program} {w : World} {K : PySem.W.Frag} {tg : Expr} (it : Addr) (lo : Int) (n : Nat) : Turn P w K tg (Itr lo n) [it] it (fun i h => IsRangeIter h it (lo + (i : Nat) * 1) ((n : Int) - (i : Nat)) 1) where
  mem := by simp
  obj := fun i h st b hb => by
    have e : b = it := by simpa using hb
    subst e
    exact ⟨_, st, fun v z => by
      have z' : Data.fields _ = Data.cell v := z
      cases z'⟩
  keep := fun i h h' st k => k it (by simp) _ st
  item := by
    intro X hP hw hK hc i pins s σ H E I hf st hg
    subst hP hw hK
    obtain ⟨f0, f1, f2, f3, f4, f5⟩ := hf it (by simp)
    have W := Walks.range (prog := X.prog) (w := X.w) (I.ok.hd hc) it lo 1 n
    refine W.item i s _ _ hg st fun v h' tk hv st' kk => ?_
    obtain ⟨t, rfl⟩ := hv
    have I1 : Inv X pins σ H { s with heap := h', toks := tk } := I.turned (fun b o hb e => kk b o (by simpa using hb) e) f0 f1 f3 f4 f5
    refine ⟨_, rfl, go_of (s := { s with heap := h', toks := tk }) (n := "range_iterator") st' rfl rfl (by decide) ⟨.int (lo + i), H, I1, ⟨t, ?_⟩, ⟨rfl, rfl⟩, st', fun b hb => (hf b hb).1⟩⟩
    rw [Int.mul_one]
  done := by
    intro X hP hw hK hc i pins s σ H E I hf st hg
    subst hP hw hK
    obtain ⟨f0, f1, f2, f3, f4, f5⟩ := hf it (by simp)
    exact wpAny_pyNext_range_end (I.ok.hd hc) st (by have : n ≤ i := hg; omega) fun h' eb => ⟨rfl, I.turned (t' := s.toks) (fun b o hb e => eb b o hb e) f0 f1 f3 f4 f5⟩
  self := fun _ _ _ _ _ st h => wpAny_pyIter_rangeiter st h
end L2
namespace L2
open PySem PySem.Spec PyProof.Rows
section
variable {X : Cx} {tg : Expr}
inductive QIList (K : PySem.W.Frag) (x : V) (H1 : Hp) (R : It → Hp → Prop) : Prop
  | mk (a : _) (h1 : x = .ref a) (h2 : (∃ xs, SqL K H1 a xs)) (q : R (Itl K a) H1) : QIList K x H1 R
def iList (K : PySem.W.Frag) (tl : TE) : TI := fun σ H R => tl σ H fun x H1 => QIList K x H1 R
theorem pi_list {l : Expr} {tl : TE} (hl : PE X l tl) : PI X tg l (iList X.K tl) := by
  intro pins s σ H R I h
  refine thn (hl pins s σ H _ I h) fun v s1 ⟨x, H1, I1, r1, q1⟩ => ?_
  obtain ⟨a, e, ⟨xs, hq⟩, q⟩ := q1
  subst e
  cases r1
  obtain ⟨its, rv, p, hz⟩ := I1.list hq
  refine wpAny_pyIter_list p.isList ?_
  refine ⟨s1.heap.objs.size, [s1.heap.objs.size], _, _, H1, rfl, I1.kept (t' := s1.toks) fun b o e => Heap.get?_push_of_some _ e, turn_list a _, ⟨_, Heap.get?_push_size _ rfl, rfl, rfl⟩, fun b hb => ?_, q⟩
  have e : b = s1.heap.objs.size := by simpa using hb
  subst e
  exact I1.fpOk (Nat.le_refl _) (I1.hok.fresh (Nat.le_refl _))
theorem range_it {pins : List (Addr × Obj)} {σ : St} {H : Hp} {s : Shared} {R : It → Hp → Prop} {E : Value → Shared → Prop} {lo hi : Int} {t u v : Tok} {tk : Nat} (I : Inv X pins σ H s) (h1 : -(2 ^ 62) ≤ lo) (h2 : lo < 2 ^ 62) (h3 : -(2 ^ 62) ≤ hi) (h4 : hi < 2 ^ 62)
    (q : R (Itr lo (hi - lo).toNat) H) : wpAny (model X.prog X.w) X.A (pyIter (.ref s.heap.objs.size)) (PIE X pins σ tg R) E { s with heap := s.heap.push { cls := .type "range", data := .fields #[.int lo t, .int hi u, .int 1 v] }, toks := tk } := by
  refine wpAny_pyIter_range (IsRange.new ..) (small_one h1 h2 h3 h4) ?_
  have I1 : Inv X pins σ H { s with heap := s.heap.push { cls := .type "range", data := .fields #[.int lo t, .int hi u, .int 1 v] }, toks := tk } := I.kept fun b o e => Heap.get?_push_of_some _ e
  refine ⟨(s.heap.push { cls := .type "range", data := .fields #[.int lo t, .int hi u, .int 1 v] }).objs.size, [(s.heap.push { cls := .type "range", data := .fields #[.int lo t, .int hi u, .int 1 v] }).objs.size], _, _, H, rfl,
    I1.kept (t' := tk) fun b o e => Heap.get?_push_of_some _ e, turn_range _ lo (hi - lo).toNat, ?_, fun b hb => ?_, q⟩
  · have e1 : lo + ((0 : Nat) : Int) * 1 = lo := by simp
    have e2 : (((hi - lo).toNat : Nat) : Int) - ((0 : Nat) : Int) = Builtin.Range.rangeSize lo hi 1 := by rw [rangeSize_one]; split <;> omega
    show IsRangeIter _ _ (lo + ((0 : Nat) : Int) * 1) ((((hi - lo).toNat : Nat) : Int) - ((0 : Nat) : Int)) 1
    rw [e1, e2]
    exact Heap.get?_push_size _ rfl
  · have e : b = (s.heap.push { cls := .type "range", data := .fields #[.int lo t, .int hi u, .int 1 v] }).objs.size := by simpa using hb
    subst e
    exact I1.fpOk (Nat.le_refl _) (I1.hok.fresh (Nat.le_refl _))
inductive QIRng1 (vs : List V) (H1 : Hp) (R : It → Hp → Prop) : Prop
  | mk (j : Int) (h1 : vs = [.int j]) (h2 : -(2 ^ 62) ≤ j) (h3 : j < 2 ^ 62) (q : R (Itr 0 j.toNat) H1) : QIRng1 vs H1 R
def iRng1 (ta : TA) : TI := fun σ H R => ta σ H fun vs H1 => QIRng1 vs H1 R
inductive QIRng2 (vs : List V) (H1 : Hp) (R : It → Hp → Prop) : Prop
  | mk (i j : Int) (h1 : vs = [.int i, .int j]) (h2 : (-(2 ^ 62) ≤ i ∧ i < 2 ^ 62 ∧ -(2 ^ 62) ≤ j ∧ j < 2 ^ 62)) (q : R (Itr i (j - i).toNat) H1) : QIRng2 vs H1 R
def iRng2 (ta : TA) : TI := fun σ H R => ta σ H fun vs H1 => QIRng2 vs H1 R
theorem pi_range1 {a : Expr} {ta : TA} {p pos : Pos} (hg : Gl X "range") (hm : X.mg "range" = none) (ha : PA X [a] ta) (hs : starEach [a] X.env = [(false, eval a X.env)] := by rfl) : PI X tg (.Call (.Name "range" p) [a] [] pos) (iRng1 ta) := by
  intro pins s σ H R I h
  refine Call_ (ld_blt I hg hm boot_range (PyProof.Rows.callWith_type1 (thn (ha pos pins s σ H _ I h) fun us s1 ⟨vs, H1, I1, r1, q1⟩ => ?_) hs rfl))
  obtain ⟨j, e, q1, q2, q⟩ := q1
  subst e
  cases r1 with
  | cons r rr =>
    cases rr
    obtain ⟨t, rfl⟩ := r
    exact call_range_1 (range_it I1 (by omega) (by omega) q1 q2 (by simpa using q))
theorem pi_range2 {a b : Expr} {ta : TA} {p pos : Pos} (hg : Gl X "range") (hm : X.mg "range" = none) (ha : PA X [a, b] ta) (hs : starEach [a, b] X.env = [(false, eval a X.env), (false, eval b X.env)] := by rfl) (hs2 : starEach [b] X.env = [(false, eval b X.env)] := by rfl) :
    PI X tg (.Call (.Name "range" p) [a, b] [] pos) (iRng2 ta) := by
  intro pins s σ H R I h
  refine Call_ (ld_blt I hg hm boot_range (PyProof.Rows.callWith_type1 (thn (ha pos pins s σ H _ I h) fun us s1 ⟨vs, H1, I1, r1, q1⟩ => ?_) (by rw [hs, hs2]) (by rw [hs2]; rfl)))
  obtain ⟨i, j, e, ⟨q1, q2, q3, q4⟩, q⟩ := q1
  subst e
  cases r1 with
  | cons r rr =>
    cases rr with
    | cons r' rr =>
      cases rr
      obtain ⟨t, rfl⟩ := r
      obtain ⟨t', rfl⟩ := r'
      exact call_range_2 (range_it I1 q1 q2 q3 q4 q)
def tFor (wi : TI) (g : TG) (tb : TS) : TS := fun D σ H => wi σ H fun J H1 => ∃ W : Nat → Nat → St → Hp → Prop, (∃ m, W 0 m σ H1) ∧ ∀ i m σ H, W i m σ H →
  (J.stop i H ∧ D.nx σ H) ∨ (J.go i H ∧ ∃ N : St → Hp → Prop, (∀ σ' H', N σ' H' → ∃ m', m' < m ∧ W (i + 1) m' σ' H') ∧ ∀ x H', J.yld i H x H' → g x σ H' fun σ2 H2 => tb { D with nx := N, ct := N, bk := D.nx } σ2 H2)
def pinsAt (fp : List Addr) (h : Heap) : List (Addr × Obj) := fp.filterMap fun b => (h.get? b).map fun o => (b, o)
theorem mem_pinsAt {fp : List Addr} {h : Heap} {b : Addr} {o : Obj} (hb : b ∈ fp) (e : h.get? b = some o) : (b, o) ∈ pinsAt fp h := List.mem_filterMap.mpr ⟨b, hb, by rw [e]; rfl⟩
theorem of_pinsAt {fp : List Addr} {h : Heap} {p : Addr × Obj} (hp : p ∈ pinsAt fp h) : p.1 ∈ fp ∧ h.get? p.1 = some p.2 := by
  obtain ⟨b, hb, e⟩ := List.mem_filterMap.mp hp
  cases q : h.get? b with
  | none => rw [q] at e; cases e
  | some o =>
    rw [q] at e
    have e' : (b, o) = p := Option.some.inj e
    subst e'
    exact ⟨hb, q⟩
theorem Inv.pinned {pins : List (Addr × Obj)} {σ : St} {H : Hp} {s : Shared} {fp : List Addr} (I : Inv X pins σ H s) (hf : ∀ b ∈ fp, FpOk X pins H b) (ho : ∀ b ∈ fp, ∃ o, s.heap.get? b = some o ∧ ∀ v, o.data ≠ .cell v) : Inv X (pins ++ pinsAt fp s.heap) σ H s :=
  I.pins_of fun p hp => (List.mem_append.mp hp).elim (fun z => I.pin p (List.mem_append_right _ z)) fun z => by
    obtain ⟨hb, e⟩ := of_pinsAt z
    obtain ⟨f0, f1, f2, _⟩ := hf p.1 hb
    obtain ⟨o, e', d⟩ := ho p.1 hb
    rw [e] at e'; cases e'
    exact ⟨e, f0, f1, f2, d⟩
theorem Inv.unpinned {pins pl : List (Addr × Obj)} {σ : St} {H : Hp} {s : Shared} (I : Inv X (pins ++ pl) σ H s) : Inv X pins σ H s := I.pins_of fun p hp => I.pin p (List.mem_append_right _ (List.mem_append_left _ hp))
theorem ps_for {iter : Expr} {body : List Stmt} {wi : TI} {g : TG} {tb : TS} {pos : Pos} (hp : PassesOwn (model X.prog X.w) X.A X.env X.xe) (hc : X.calm = true) (hi : PI X tg iter wi) (hg : PG X tg g) (hb : PSs X body tb)
    (hs : ∀ x, foldedSetIterable iter X.env x = pure x := by intro _; rfl) : PS X (.For tg iter body [] pos) (tFor wi g tb) := by
  intro pins s σ H D I h
  refine wpAny_For (thn (hi pins s σ H _ I h) fun v s1 h1 => thn h1 fun itv s2 h2 => ?_) hs
  obtain ⟨it, fp, tn, J, H2, e, I2, T, st2, f2, W, ⟨m0, w0⟩, turn⟩ := h2
  subst e
  -- what stays true of the iterator's objects through the loop
  have stat : ∀ {H' : Hp}, (∀ b ∈ fp, H' b = none) → ∀ b ∈ fp, FpOk X pins H' b := fun hn b hb => ⟨hn b hb, (f2 b hb).2⟩
  refine codeAny_forLoop_any (fun n s' => ∃ i σ' H', Inv X pins σ' H' s' ∧ tn i s'.heap ∧ (∀ b ∈ fp, H' b = none) ∧ W i n σ' H') ?_ m0 ⟨0, σ, H2, I2, st2, fun b hb => (f2 b hb).1, w0⟩
  rintro n s3 ⟨i, σ3, H3, I3, st3, fr3, w3⟩
  rcases turn i n σ3 H3 w3 with ⟨stop, qn⟩ | ⟨go, N, hN, step⟩
  · refine wpAny_passesOwn hp (thn (T.done X rfl rfl rfl hc i pins s3 σ3 H3 X.xe I3 (stat fr3) st3 stop) fun r s4 ⟨hr, I4⟩ => ?_)
    subst hr
    exact wpAny_execs_nil ⟨σ3, H3, I4, qn⟩
  · refine wpAny_passesOwn hp (thn (T.item X rfl rfl rfl hc i pins s3 σ3 H3 X.xe I3 (stat fr3) st3 go) fun r s4 ⟨u, hr, h4⟩ => ?_)
    subst hr
    refine wpAny_passesOwn hp (thn h4 fun _ s5 ⟨x, H5, I5, r5, y5, st5, fr5⟩ => ?_)
    have I5' := I5.pinned (stat fr5) (T.obj _ _ st5)
    refine wpAny_passesOwn hp (thn (hg _ s5 σ3 H5 x u _ I5' r5 (step x H5 y5)) fun _ s6 ⟨σ6, H6, I6, q6⟩ => ?_)
    refine wpAny_passesOwn hp (thn (hb _ s6 σ6 H6 _ I6 q6) fun f s7 q7 => ?_)
    have again : ∀ {σ7 : St} {H7 : Hp}, Inv X (pins ++ pinsAt fp s5.heap) σ7 H7 s7 → N σ7 H7 → ∃ m, m < n ∧ ∃ i σ' H', Inv X pins σ' H' s7 ∧ tn i s7.heap ∧ (∀ b ∈ fp, H' b = none) ∧ W i m σ' H' := fun {σ7 H7} I7 n7 => by
      obtain ⟨m', hm, w7⟩ := hN σ7 H7 n7
      refine ⟨m', hm, i + 1, σ7, H7, I7.unpinned, T.keep _ _ _ st5 fun b hb o e => (I7.pin (b, o) (List.mem_append_right _ (List.mem_append_right _ (mem_pinsAt hb e)))).1, fun b hb => ?_, w7⟩
      obtain ⟨o, e, d⟩ := T.obj _ _ st5 b hb
      exact (I7.pin (b, o) (List.mem_append_right _ (List.mem_append_right _ (mem_pinsAt hb e)))).2.1
    cases f with
    | next => obtain ⟨σ7, H7, I7, n7⟩ := q7; exact again I7 n7
    | cont => obtain ⟨σ7, H7, I7, n7⟩ := q7; exact again I7 n7
    | brk => obtain ⟨σ7, H7, I7, q7⟩ := q7; exact ⟨σ7, H7, I7.unpinned, q7⟩
    | ret v => obtain ⟨x7, σ7, H7, I7, r7, q7⟩ := q7; exact ⟨x7, σ7, H7, I7.unpinned, r7, q7⟩
end
theorem for_list {K : PySem.W.Frag} {a : Addr} {xs : List V} {g : TG} {tb : TS} {D : Ends} {σ : St} {H : Hp} (Pv : Nat → St → Hp → Prop) (h0 : Pv 0 σ H) (hl : ∀ i σ H, i ≤ xs.length → Pv i σ H → SqL K H a xs)
    (hs : ∀ i x σ H, xs[i]? = some x → Pv i σ H → g x σ H fun σ2 H2 => tb { D with nx := Pv (i + 1), ct := Pv (i + 1), bk := D.nx } σ2 H2) (hd : ∀ σ H, Pv xs.length σ H → D.nx σ H) :
    ∃ W : Nat → Nat → St → Hp → Prop, (∃ m, W 0 m σ H) ∧ ∀ i m σ H, W i m σ H →
      ((Itl K a).stop i H ∧ D.nx σ H) ∨ ((Itl K a).go i H ∧ ∃ N : St → Hp → Prop, (∀ σ' H', N σ' H' → ∃ m', m' < m ∧ W (i + 1) m' σ' H') ∧ ∀ x H', (Itl K a).yld i H x H' → g x σ H' fun σ2 H2 => tb { D with nx := N, ct := N, bk := D.nx } σ2 H2) := by
  refine ⟨fun i m σ H => m = xs.length - i ∧ i ≤ xs.length ∧ Pv i σ H, ⟨xs.length, by simp, Nat.zero_le _, h0⟩, ?_⟩
  rintro i m σ H ⟨rfl, hi, p⟩
  have q := hl i σ H hi p
  by_cases hlt : i < xs.length
  · refine .inr ⟨⟨xs, xs[i], q, by simp [hlt]⟩, Pv (i + 1), fun σ' H' p' => ⟨xs.length - (i + 1), by omega, rfl, hlt, p'⟩, fun x H' y => ?_⟩
    obtain ⟨e, y⟩ := y
    subst e
    exact hs i x σ _ (y xs q) p
  · have e : i = xs.length := by omega
    subst e
    exact .inl ⟨⟨xs, q, Nat.le_refl _⟩, hd σ H p⟩
theorem for_range {lo : Int} {n : Nat} {g : TG} {tb : TS} {D : Ends} {σ : St} {H : Hp} (Pv : Nat → St → Hp → Prop) (h0 : Pv 0 σ H)
    (hs : ∀ i σ H, i < n → Pv i σ H → g (.int (lo + i)) σ H fun σ2 H2 => tb { D with nx := Pv (i + 1), ct := Pv (i + 1), bk := D.nx } σ2 H2) (hd : ∀ σ H, Pv n σ H → D.nx σ H) :
    ∃ W : Nat → Nat → St → Hp → Prop, (∃ m, W 0 m σ H) ∧ ∀ i m σ H, W i m σ H →
      ((Itr lo n).stop i H ∧ D.nx σ H) ∨ ((Itr lo n).go i H ∧ ∃ N : St → Hp → Prop, (∀ σ' H', N σ' H' → ∃ m', m' < m ∧ W (i + 1) m' σ' H') ∧ ∀ x H', (Itr lo n).yld i H x H' → g x σ H' fun σ2 H2 => tb { D with nx := N, ct := N, bk := D.nx } σ2 H2) := by
  refine ⟨fun i m σ H => m = n - i ∧ i ≤ n ∧ Pv i σ H, ⟨n, by simp, Nat.zero_le _, h0⟩, ?_⟩
  rintro i m σ H ⟨rfl, hi, p⟩
  by_cases hlt : i < n
  · refine .inr ⟨hlt, Pv (i + 1), fun σ' H' p' => ⟨n - (i + 1), by omega, rfl, hlt, p'⟩, fun x H' y => ?_⟩
    obtain ⟨e, y⟩ := y
    subst e y
    exact hs i σ _ hlt p
  · have e : i = n := by omega
    subst e
    exact .inl ⟨Nat.le_refl _, hd σ H p⟩
end L2
namespace L2
open PySem PySem.Spec PyProof.Rows
abbrev R2 := V → V → Hp → VK → Prop
def OpR (X : Cx) (f : Value → Value → Sem Value) (r : R2) : Prop :=
  ∀ (pins : List (Addr × Obj)) (s : Shared) (σ : St) (H : Hp) (x y : V) (v u : Value) (Q : VK), Inv X pins σ H s → RelV x v → RelV y u → r x y H Q →
    wpAny (model X.prog X.w) X.A (f v u) (EP X pins σ Q) X.xe s
def UnR (X : Cx) (f : Value → Sem Value) (r : V → Hp → VK → Prop) : Prop :=
  ∀ (pins : List (Addr × Obj)) (s : Shared) (σ : St) (H : Hp) (x : V) (v : Value) (Q : VK), Inv X pins σ H s → RelV x v → r x H Q →
    wpAny (model X.prog X.w) X.A (f v) (EP X pins σ Q) X.xe s
def CallR (X : Cx) (f : Value) (r : List V → Hp → VK → Prop) : Prop :=
  ∀ (pins : List (Addr × Obj)) (s : Shared) (σ : St) (H : Hp) (xs : List V) (us : List Value) (Q : VK), Inv X pins σ H s → Vals xs us → r xs H Q →
    wpAny (model X.prog X.w) X.A (call f us) (EP X pins σ Q) X.xe s
def tOp (r : R2) (ta tb : TE) : TE := fun σ H Q => ta σ H fun x H1 => tb σ H1 fun y H2 => r x y H2 Q
def tUn (r : V → Hp → VK → Prop) (ta : TE) : TE := fun σ H Q => ta σ H fun x H1 => r x H1 Q
inductive QRI (C : Int → Int → Prop) (g : Int → Int → V) (x y : V) (H : Hp) (Q : VK) : Prop
  | mk (i : _) (j : _) (h1 : x = .int i) (h2 : y = .int j) (h3 : C i j) (q : Q (g i j) H) : QRI C g x y H Q
def rI (C : Int → Int → Prop) (g : Int → Int → V) : R2 := fun x y H Q => QRI C g x y H Q
inductive QRI0 (g : Int → Int → V) (x y : V) (H : Hp) (Q : VK) : Prop
  | mk (i : _) (j : _) (h1 : x = .int i) (h2 : y = .int j) (q : Q (g i j) H) : QRI0 g x y H Q
def rI0 (g : Int → Int → V) : R2 := fun x y H Q => QRI0 g x y H Q
inductive QRU (g : Int → V) (x : V) (H : Hp) (Q : VK) : Prop
  | mk (i : _) (h1 : x = .int i) (q : Q (g i) H) : QRU g x H Q
def rU (g : Int → V) : V → Hp → VK → Prop := fun x H Q => QRU g x H Q
section
variable {X : Cx} {a b c : Expr} {ta tb tc : TE} {pos : Pos}
theorem binT (ha : PE X a ta) (hb : PE X b tb) {pins : List (Addr × Obj)} {s : Shared} {σ : St} {H : Hp} {R : V → V → Hp → Prop} (I : Inv X pins σ H s)
    (h : ta σ H fun x H1 => tb σ H1 fun y H2 => R x y H2) {Q : Value → Shared → Prop} {f : Value → Value → Sem Value}
    (hf : ∀ v u s2 x y H2, Inv X pins σ H2 s2 → RelV x v → RelV y u → R x y H2 → wpAny (model X.prog X.w) X.A (f v u) Q X.xe s2) :
    wpAny (model X.prog X.w) X.A (eval a X.env) (fun v s₁ => wpAny (model X.prog X.w) X.A (eval b X.env) (fun u s₂ => wpAny (model X.prog X.w) X.A (f v u) Q X.xe s₂) X.xe s₁) X.xe s := by
  refine thn (ha pins s σ H _ I h) fun v s1 ⟨x, H1, I1, r1, q1⟩ => ?_
  refine thn (hb pins s1 σ H1 _ I1 q1) fun u s2 ⟨y, H2, I2, r2, q2⟩ => ?_
  exact hf v u s2 x y H2 I2 r1 r2 q2
theorem pe_op {op : Operator} {r : R2} (ho : OpR X (binaryOp op) r) (ha : PE X a ta) (hb : PE X b tb) : PE X (.BinOp a op b pos) (tOp r ta tb) := by
  intro pins s σ H Q I h
  exact wpAny_BinOp (binT ha hb I h fun v u s2 x y H2 I2 rx ry q => ho pins s2 σ H2 x y v u Q I2 rx ry q)
theorem pe_un {op : UnaryOp} {r : V → Hp → VK → Prop} (ho : UnR X (unaryOp op) r) (ha : PE X a ta) : PE X (.UnaryOp op a pos) (tUn r ta) := by
  intro pins s σ H Q I h
  exact UnaryOp_ (thn (ha pins s σ H _ I h) fun v s1 ⟨x, H1, I1, r1, q1⟩ => ho pins s1 σ H1 x v Q I1 r1 q1)
theorem opI {f : Value → Value → Sem Value} {C : Int → Int → Prop} {g : Int → Int → Int}
    (rule : ∀ (i j : Int) (t u : Tok) (s : Shared) (Q : Value → Shared → Prop) (E : Value → Shared → Prop), C i j → Q (.int (g i j) s.toks) { s with toks := s.toks + 1 } → wpAny (model X.prog X.w) X.A (f (.int i t) (.int j u)) Q E s) :
    OpR X f (rI C fun i j => .int (g i j)) := by
  intro pins s σ H x y v u Q I rx ry h
  obtain ⟨i, j, rfl, rfl, hc, q⟩ := h
  obtain ⟨t, rfl⟩ := rx
  obtain ⟨t', rfl⟩ := ry
  exact rule i j t t' s _ _ hc ⟨.int (g i j), H, I.tok _, ⟨_, rfl⟩, q⟩
theorem opI0 {f : Value → Value → Sem Value} {g : Int → Int → Int}
    (rule : ∀ (i j : Int) (t u : Tok) (s : Shared) (Q : Value → Shared → Prop) (E : Value → Shared → Prop), Q (.int (g i j) s.toks) { s with toks := s.toks + 1 } → wpAny (model X.prog X.w) X.A (f (.int i t) (.int j u)) Q E s) :
    OpR X f (rI0 fun i j => .int (g i j)) := by
  intro pins s σ H x y v u Q I rx ry h
  obtain ⟨i, j, rfl, rfl, q⟩ := h
  obtain ⟨t, rfl⟩ := rx
  obtain ⟨t', rfl⟩ := ry
  exact rule i j t t' s _ _ ⟨.int (g i j), H, I.tok _, ⟨_, rfl⟩, q⟩
theorem opB0 {f : Value → Value → Sem Value} {g : Int → Int → Bool}
    (rule : ∀ (i j : Int) (t u : Tok) (s : Shared) (Q : Value → Shared → Prop) (E : Value → Shared → Prop), Q (.bool (g i j)) s → wpAny (model X.prog X.w) X.A (f (.int i t) (.int j u)) Q E s) :
    OpR X f (rI0 fun i j => .bl (g i j)) := by
  intro pins s σ H x y v u Q I rx ry h
  obtain ⟨i, j, rfl, rfl, q⟩ := h
  obtain ⟨t, rfl⟩ := rx
  obtain ⟨t', rfl⟩ := ry
  exact rule i j t t' s _ _ ⟨.bl (g i j), H, I, rfl, q⟩
def CDiv (i j : Int) : Prop := 0 < j ∧ j < 1073741824
def CMul (i j : Int) : Prop := (-(2 ^ 64) < i ∧ i < 2 ^ 64) ∨ (-(2 ^ 64) < j ∧ j < 2 ^ 64)
theorem CMul.ok {i j : Int} (h : CMul i j) : IntMulOk i j := by
  rcases h with ⟨h1, h2⟩ | ⟨h1, h2⟩
  · exact .of_left (intBits_le_64 h1 h2)
  · exact .of_right (intBits_le_64 h1 h2)
theorem op_add : OpR X (binaryOp .Add) (rI0 fun i j => .int (i + j)) := opI0 fun _ _ _ _ _ _ _ q => add_int q
theorem op_sub : OpR X (binaryOp .Sub) (rI0 fun i j => .int (i - j)) := opI0 fun _ _ _ _ _ _ _ q => sub_int q
theorem op_mul : OpR X (binaryOp .Mult) (rI CMul fun i j => .int (i * j)) := opI fun _ _ _ _ _ _ _ hc q => mul_int q hc.ok
theorem op_fdiv : OpR X (binaryOp .FloorDiv) (rI CDiv fun i j => .int (i / j)) := opI fun i j _ _ _ _ _ hc q => by
  have h1 : (0 : Int) < j := hc.1
  have h2 : j < 1073741824 := hc.2
  exact floordiv_int (by omega) (by rw [Int.fdiv_eq_ediv_of_nonneg i (by omega)]; exact q) (.inl (PyProof.noPylong_small (by omega)))
theorem unI {f : Value → Sem Value} {g : Int → Int}
    (rule : ∀ (i : Int) (t : Tok) (s : Shared) (Q : Value → Shared → Prop) (E : Value → Shared → Prop), Q (.int (g i) s.toks) { s with toks := s.toks + 1 } → wpAny (model X.prog X.w) X.A (f (.int i t)) Q E s) :
    UnR X f (rU fun i => .int (g i)) := by
  intro pins s σ H x v Q I rx h
  obtain ⟨i, rfl, q⟩ := h
  obtain ⟨t, rfl⟩ := rx
  exact rule i t s _ _ ⟨.int (g i), H, I.tok _, ⟨_, rfl⟩, q⟩
theorem un_neg : UnR X (unaryOp .USub) (rU fun i => .int (-i)) := unI fun _ _ _ _ _ q => neg_int q
end
section
variable {X : Cx} {a b c : Expr} {ta tb tc : TE} {pos : Pos}
theorem op_le : OpR X (compareOp .LtE) (rI0 fun i j => .bl (decide (i ≤ j))) := opB0 fun _ _ _ _ _ _ _ q => le_int q
theorem nomark (b : Expr) {op : CmpOp} (h : op ≠ .In := by decide) (h2 : op ≠ .NotIn := by decide) : behindInMarks op b = false := by
  have e1 : (op == CmpOp.In) = false := by cases op <;> first | rfl | exact absurd rfl h
  have e2 : (op == CmpOp.NotIn) = false := by cases op <;> first | rfl | exact absurd rfl h2
  cases b <;> simp [behindInMarks, e1, e2]
inductive QTTest (x : V) (H' : Hp) (Q : Bool → Hp → Prop) : Prop
  | mk (k : _) (h1 : x = .bl k) (q : Q k H') : QTTest x H' Q
def tTest (t : TE) : TT := fun σ H Q => t σ H fun x H' => QTTest x H' Q
theorem pt_cmpR {op : CmpOp} {r : R2} (ho : OpR X (compareOp op) r) (ha : PE X a ta) (hb : PE X b tb) (hm : behindInMarks op b = false) : PT X (.Compare a [op] [b] pos) (tTest (tOp r ta tb)) := by
  intro pins s σ H Q I h
  refine wpAny_isTrue_Compare1 (thn (ha pins s σ H _ I h) fun v s1 ⟨x, H1, I1, r1, q1⟩ => thn (hb pins s1 σ H1 _ I1 q1) fun u s2 ⟨y, H2, I2, r2, q2⟩ =>
    thn (ho pins s2 σ H2 x y v u _ I2 r1 r2 q2) fun c s3 ⟨z, H3, I3, r3, k, e, q3⟩ => ?_) hm
  subst e
  cases r3
  exact wpAny_truthy_bool ⟨H3, I3, q3⟩
def tChain (r r' : R2) (ta tb tc : TE) : TE := fun σ H Q => ta σ H fun x H1 => tb σ H1 fun y H2 => r x y H2 fun z H3 => ∃ k, z = .bl k ∧
  (if k = true then tc σ H3 fun w' H4 => r' y w' H4 Q else Q (.bl false) H3)
theorem pe_chain {op op' : CmpOp} {r r' : R2} (ho : OpR X (compareOp op) r) (ho' : OpR X (compareOp op') r') (ha : PE X a ta) (hb : PE X b tb) (hc : PE X c tc)
    (hm : lastMarks [op, op'] [b, c] = false := by with_unfolding_all rfl) : PE X (.Compare a [op, op'] [b, c] pos) (tChain r r' ta tb tc) := by
  intro pins s σ H Q I h
  refine Compare_chain (thn (ha pins s σ H _ I h) fun v s1 ⟨x, H1, I1, r1, q1⟩ => chain_link (thn (hb pins s1 σ H1 _ I1 q1) fun u s2 ⟨y, H2, I2, r2, q2⟩ =>
    thn (ho pins s2 σ H2 x y v u _ I2 r1 r2 q2) fun d s3 ⟨z, H3, I3, r3, k, e, q3⟩ => ?_)) hm
  subst e
  cases r3
  refine wpAny_truthy_bool ?_
  cases k with
  | false => exact ite_ff ⟨.bl false, H3, I3, rfl, q3⟩
  | true => exact ite_tt (chain_last (thn (hc pins s3 σ H3 _ I3 q3) fun w' s4 ⟨z', H4, I4, r4, q4⟩ => ho' pins s4 σ H4 y z' u w' Q I4 r2 r4 q4))
theorem line63 : (sizeLine : Nat) < 2 ^ 63 := by rw [sizeLine_eq]; decide
theorem vals1 {x : V} {us : List Value} (r : Vals [x] us) : ∃ u, us = [u] ∧ RelV x u := by
  cases r with
  | cons r1 r2 => cases r2; exact ⟨_, rfl, r1⟩
theorem vals2 {x y : V} {us : List Value} (r : Vals [x, y] us) : ∃ u w', us = [u, w'] ∧ RelV x u ∧ RelV y w' := by
  cases r with
  | cons r1 r2 =>
    cases r2 with
    | cons r3 r4 => cases r4; exact ⟨_, _, rfl, r1, r3⟩
inductive QMin2 (xs : List V) (H : Hp) (Q : VK) : Prop
  | mk (i : _) (j : _) (h1 : xs = [.int i, .int j]) (q : Q (.int (if j < i then j else i)) H) : QMin2 xs H Q
theorem call_min2 (hc : X.calm = true) : CallR X (.builtin "min") QMin2 := by
  intro pins s σ H xs us Q I r h
  obtain ⟨i, j, rfl, q⟩ := h
  obtain ⟨u, w', rfl, ⟨t, rfl⟩, ⟨t', rfl⟩⟩ := vals2 r
  refine min_two_ints (I.ok.hd hc) fun h' tk k => ⟨_, H, I.kept k, ?_, q⟩
  by_cases hj : j < i
  · rw [if_pos hj, if_pos hj]; exact ⟨_, rfl⟩
  · rw [if_neg hj, if_neg hj]; exact ⟨_, rfl⟩
end
end L2
namespace L2
open PySem PySem.Spec PyProof.Rows
structure ObjM (h : Heap) (x dx C : Addr) (mA : Str → Option Value) : Prop where
  obj : h.get? x = some (PySem.W.instObj C dx)
  ns : h.Ns1 dx mA
  ne : dx ≠ x
theorem lookIn_ns {h : Heap} {dx : Addr} {mA : Str → Option Value} (n : h.Ns1 dx mA) : ∃ od, h.get? dx = some od ∧ ∀ name, PySem.W.lookIn name od = some (mA name) := by
  obtain ⟨o, es, ep, ho, hd, hk, _, hm⟩ := n
  refine ⟨o, ho, fun name => ?_⟩
  have e := hm name
  unfold nsFind findBy at e
  rw [← Array.find?_toList] at e
  unfold PySem.W.lookIn
  rw [hd]
  dsimp only
  split
  · rename_i y q
    rw [q] at e
    exact congrArg some e
  · rename_i q
    rw [q] at e
    have a : es.toList.any (·.refKey) = false := by
      rw [List.any_eq_false]
      intro y hy
      obtain ⟨z, t, hkey⟩ := hk y (Array.mem_toList_iff.mp hy)
      simp [DictEntry.refKey, hkey]
    have a' : ¬ es.toList.any (·.refKey) = true := by rw [a]; exact Bool.false_ne_true
    rw [if_neg a']
    exact congrArg some e
theorem ObjM.look {h : Heap} {x dx C : Addr} {mA : Str → Option Value} (I : ObjM h x dx C mA) : ∃ od, PySem.W.InstAt h x (PySem.W.instObj C dx) C (some od) ∧ ∀ name, PySem.W.lookIn name od = some (mA name) :=
  let ⟨od, ho, hl⟩ := lookIn_ns I.ns
  ⟨od, ⟨I.obj, rfl, rfl, ho⟩, hl⟩
section
variable {prog : Program} {w : World} {A : Around} {E : Value → Shared → Prop} {s : Shared} {K : PySem.W.Frag} {x dx C f : Addr} {mA : Str → Option Value} {name : Str} {v : Value}
theorem get_map {expr : Bool} {Q : Value → Shared → Prop} (X : K.In s.heap) (I : ObjM s.heap x dx C mA) (hg : PySem.W.plainGet K C name = true) (hh : PySem.W.hasDictIn K C = true)
    (ha : PySem.W.findIn K (.ref C) name = some none) (hv : mA name = some v) (hv' : PySem.W.handedIn v = true) (h : Q v { s with toks := s.toks + 1 }) :
    wpAny (model prog w) A (getAttr (.ref x) name expr) Q E s := by
  obtain ⟨od, J, hl⟩ := I.look
  exact PySem.W.get_value X J (PySem.W.plainGet_of hg).1 (PySem.W.findObj_own hh ha rfl (by rw [hl, hv])) hv' h
theorem set_map {ns : List Str} {Q : Unit → Shared → Prop} (X : K.In s.heap) (I : ObjM s.heap x dx C mA)
    (hs : PySem.W.findIn K (.ref C) "__setattr__" = some (some (.builtin "object.__setattr__"))) (hp : PySem.W.plainOver K C = true) (ht : PySem.W.takerIn K C name = some none) (hh : PySem.W.hasDictIn K C = true)
    (hw : PySem.Within mA ns) (hsz : ns.length ≤ sizeLine)
    (h : ∀ h', ObjM h' x dx C (fun y => if y = name then some v else mA y) → Heap.SameBut dx s.heap h' → Q () { s with heap := h', toks := s.toks + 2 }) :
    wpAny (model prog w) A (setAttr (.ref x) name v) Q E s := by
  obtain ⟨od, J, hl⟩ := I.look
  refine PySem.W.set_plain X J hs (PySem.W.osa_open (s := { s with toks := s.toks + 1 }) (r := none) X J hp ht fun b => ?_)
  obtain ⟨cd, hc, hd'⟩ := PySem.W.any_some hh
  have hx : s.heap.get? x = some ⟨.ref C, some dx, .plain, #[]⟩ := I.obj
  refine wpAny_bind (wpAny_pure (wpAny_bind (wpAny_bind (wpAny_loadPart hx (wpAny_bind (PySem.W.Looks.here (s := { s with toks := s.toks + 1 }) (PySem.W.looks_clsIn X hc) ?_))))))
  rw [hd']
  refine wpAny_pure (a := some dx) (wpAny_bind (wpAny_pure (wpAny_bind ?_)))
  refine wpAny_nsSet1 (s := { s with toks := s.toks + 1 }) I.ns fun h' hn2 hs2 => ?_
  obtain ⟨oD, esD, epD, hoD, hdD, hcD⟩ := hn2.count (PySem.Within.cons name v hw)
  refine wpAny_bind (wpAny_lookBehind hoD (by rw [hdD]; exact pastItsLine_dict (Nat.le_trans hcD (by rw [List.length_cons]; omega))) ?_)
  exact wpAny_pure (h _ ⟨(hs2.2 _ (Ne.symm I.ne)).trans I.obj, hn2, I.ne⟩ hs2)
theorem make_map {R : Result → Shared → Prop} {vs : List Value} {kw : List (Str × Value)} (X : K.In s.heap) (hm : PySem.W.makesIn K C = true)
    (hi : PySem.W.findIn K (.ref C) "__init__" = some (some (.ref f))) (hf : PySem.W.typeIn K (.ref f) = some (.type "function"))
    (h : codeAny (model prog w) (A.under (.builtin "type.__call__" ⟨.ref C :: vs, kw⟩)) (.call (.ref f) ⟨.ref (s.heap.objs.size + 1) :: vs, kw⟩) (PySem.W.InitBack (s.heap.objs.size + 1) R)
      { s with heap := (s.heap.push PySem.W.emptyDict).push (PySem.W.instObj C s.heap.objs.size) }) :
    codeAny (model prog w) A (.call (.ref C) ⟨vs, kw⟩) R s := by
  obtain ⟨hh, g, d, t, os⟩ := s
  exact PySem.W.make_core (PySem.W.makes_of X hm) (PySem.W.looks_findIn X hi) (fun self => PySem.W.bind_fn X self hf) (.inl rfl) h
end
def putF (f : Str) (v : V) : List (Str × V) → List (Str × V)
  | [] => [(f, v)]
  | (g, x) :: r => if g = f then (g, v) :: r else (g, x) :: putF f v r
theorem lookup_putF (f g : Str) (v : V) : ∀ fs : List (Str × V), (putF f v fs).lookup g = if g = f then some v else fs.lookup g
  | [] => by
    show List.lookup g [(f, v)] = _
    by_cases h : g = f
    · have hb : (g == f) = true := beq_iff_eq.mpr h
      simp only [List.lookup, hb, if_pos h]
    · have hb : (g == f) = false := beq_eq_false_iff_ne.mpr h
      simp only [List.lookup, hb, if_neg h]
  | (k, x) :: r => by
    have ih := lookup_putF f g v r
    rw [show putF f v ((k, x) :: r) = (if k = f then (k, v) :: r else (k, x) :: putF f v r) from rfl]
    by_cases hk : k = f
    · rw [if_pos hk]
      by_cases h : g = k
      · have hb : (g == k) = true := beq_iff_eq.mpr h
        simp only [List.lookup, hb, if_pos (h.trans hk)]
      · have hb : (g == k) = false := beq_eq_false_iff_ne.mpr h
        simp only [List.lookup, hb, if_neg (fun e : g = f => h (e.trans hk.symm))]
    · rw [if_neg hk]
      by_cases h : g = k
      · have hb : (g == k) = true := beq_iff_eq.mpr h
        simp only [List.lookup, hb, if_neg (fun e : g = f => hk (h.symm.trans e))]
      · have hb : (g == k) = false := beq_eq_false_iff_ne.mpr h
        simp only [List.lookup, hb]
        exact ih
theorem keys_putF (f : Str) (v : V) : ∀ fs : List (Str × V), f ∈ (putF f v fs).map (·.1) ∧ ∀ g, g ∈ fs.map (·.1) → g ∈ (putF f v fs).map (·.1)
  | [] => ⟨by simp [putF], fun g h => by simp at h⟩
  | (k, x) :: r => by
    obtain ⟨i1, i2⟩ := keys_putF f v r
    rw [show putF f v ((k, x) :: r) = (if k = f then (k, v) :: r else (k, x) :: putF f v r) from rfl]
    by_cases hk : k = f
    · rw [if_pos hk]
      subst hk
      exact ⟨by simp, fun g h => by simpa using h⟩
    · rw [if_neg hk]
      refine ⟨?_, fun g h => ?_⟩
      · rw [List.map_cons]
        exact List.mem_cons_of_mem _ i1
      · rw [List.map_cons] at h ⊢
        rcases List.mem_cons.mp h with e | e
        · exact List.mem_cons.mpr (.inl e)
        · exact List.mem_cons_of_mem _ (i2 g e)
theorem length_putF (f : Str) (v : V) : ∀ fs : List (Str × V), (putF f v fs).length ≤ fs.length + 1
  | [] => by simp [putF]
  | (k, x) :: r => by
    have ih := length_putF f v r
    rw [show putF f v ((k, x) :: r) = (if k = f then (k, v) :: r else (k, x) :: putF f v r) from rfl]
    by_cases hk : k = f
    · rw [if_pos hk, List.length_cons, List.length_cons]; omega
    · rw [if_neg hk, List.length_cons, List.length_cons]; omega
theorem RelO.some_of {v : V} {o : Option Value} (r : RelO (some v) o) : ∃ u, o = some u ∧ RelV v u := by
  cases o with
  | none => exact (show False from r).elim
  | some u => exact ⟨u, rfl, r⟩
theorem handed_of {v : V} {u : Value} (r : RelV v u) : PySem.W.handedIn u = true := by
  cases v with
  | non => cases (show u = Value.none from r); rfl
  | bl b => cases (show u = Value.bool b from r); rfl
  | int i => obtain ⟨t, e⟩ := (show ∃ t, u = Value.int i t from r); cases e; rfl
  | str x => obtain ⟨t, e⟩ := (show ∃ t, u = Value.str x t from r); cases e; rfl
  | byt b => obtain ⟨t, e⟩ := (show ∃ t, u = Value.bytes b t from r); cases e; rfl
  | flt b => obtain ⟨t, e⟩ := (show ∃ t, u = Value.float b t from r); cases e; rfl
  | ref a => cases (show u = Value.ref a from r); rfl
  | ty n => cases (show u = Value.type n from r); rfl
section
variable {P : Program} {w : World} {H H' : Hp} {h h' : Heap} {a C dx : Addr} {fs fs' : List (Str × V)}
theorem ins_get (hok : HOk P w H h) (e : H a = some (.ins C dx fs)) : ∃ mA, ObjM h a dx C mA ∧ (∀ f, RelO (fs.lookup f) (mA f)) ∧ PySem.Within mA (fs.map (·.1)) ∧ fs.length ≤ 1000 ∧ H dx = some (.own a) := by
  obtain ⟨d, z, ne, ob, mA, n, r, q⟩ := (show ObjOk P w H h a (.ins C dx fs) from hok a _ e)
  exact ⟨mA, ⟨ob, n, ne⟩, r, q, z, d⟩
end
structure Cls (K : PySem.W.Frag) (C : Addr) : Prop where
  pg : PySem.W.plainGet K C Str.empty = true
  hd : PySem.W.hasDictIn K C = true
  po : PySem.W.plainOver K C = true
  sa : PySem.W.findIn K (.ref C) "__setattr__" = some (some (.builtin "object.__setattr__"))
theorem Cls.get {K : PySem.W.Frag} {C : Addr} (c : Cls K C) (f : Str) : PySem.W.plainGet K C f = true := c.pg
def NoAttr (K : PySem.W.Frag) (C : Addr) (f : Str) : Prop := PySem.W.findIn K (.ref C) f = some none
theorem NoAttr.taker {K : PySem.W.Frag} {C : Addr} {f : Str} (n : NoAttr K C f) : PySem.W.takerIn K C f = some none := by
  unfold PySem.W.takerIn
  rw [show PySem.W.findIn K (.ref C) f = some none from n]
  rfl
section
variable {X : Cx} {pins : List (Addr × Obj)} {σ : St} {H : Hp} {s : Shared} {a C dx : Addr} {fs : List (Str × V)} {f : Str} {v : V} {A : Around} {E : Value → Shared → Prop}
theorem getattr_ok {b : Bool} {Q : Value → Shared → Prop} (I : Inv X pins σ H s) (e : H a = some (.ins C dx fs)) (c : Cls X.K C) (n : NoAttr X.K C f) (l : fs.lookup f = some v)
    (h : ∀ u s', Inv X pins σ H s' → RelV v u → Q u s') : wpAny (model X.prog X.w) A (getAttr (.ref a) f b) Q E s := by
  obtain ⟨mA, O, r, _, _, _⟩ := ins_get I.hok e
  obtain ⟨u, hu, ru⟩ := RelO.some_of (v := v) (o := mA f) (by rw [← l]; exact r f)
  exact get_map I.kIn O (c.get f) c.hd n hu (handed_of ru) (h u _ (I.tok _) ru)
theorem setattr_ok {y : V} {u : Value} {Q : Unit → Shared → Prop} (I : Inv X pins σ H s) (e : H a = some (.ins C dx fs)) (c : Cls X.K C) (n : NoAttr X.K C f) (hl : fs.length < 1000) (ry : RelV y u)
    (h : ∀ s', Inv X pins σ (upd H a (.ins C dx (putF f y fs))) s' → Q () s') : wpAny (model X.prog X.w) A (setAttr (.ref a) f u) Q E s := by
  obtain ⟨mA, O, r, wi, _, ho⟩ := ins_get I.hok e
  have hz : (fs.map (·.1)).length ≤ sizeLine := by rw [List.length_map, sizeLine_eq]; omega
  refine set_map I.kIn O c.sa c.po n.taker c.hd wi hz fun h' O' sb => h _ ?_
  have hd : ∃ o, h'.get? dx = some o := let ⟨o, _, _, e', _⟩ := O'.ns; ⟨o, e'⟩
  refine I.write (x := a) (e := dx) (by rw [e]; exact True.intro) (.inr ho) (fun b q hb z => (sb.2 b hb).trans z) hd ?_
  refine ⟨by rw [upd_ne O.ne]; exact ho, ?_, O.ne, O'.obj, _, O'.ns, fun g => ?_, fun g hg => ?_⟩
  · have := length_putF f y fs; omega
  · show RelO ((putF f y fs).lookup g) (if g = f then some u else mA g)
    rw [lookup_putF]
    by_cases q : g = f
    · rw [if_pos q, if_pos q]; exact ry
    · rw [if_neg q, if_neg q]; exact r g
  · by_cases q : g = f
    · rw [q]; exact (keys_putF f y fs).1
    · refine (keys_putF f y fs).2 g (wi g fun z => hg ?_)
      show (if g = f then some u else mA g) = none
      rw [if_neg q]; exact z
theorem Inv.made (I : Inv X pins σ H s) : Inv X pins σ (upd (upd H s.heap.objs.size (.own (s.heap.objs.size + 1))) (s.heap.objs.size + 1) (.ins C s.heap.objs.size []))
    { s with heap := (s.heap.push PySem.W.emptyDict).push (PySem.W.instObj C s.heap.objs.size) } := by
  have e1 : (s.heap.push PySem.W.emptyDict).get? s.heap.objs.size = some PySem.W.emptyDict := Heap.get?_push_size s.heap rfl
  have e2 : ((s.heap.push PySem.W.emptyDict).push (PySem.W.instObj C s.heap.objs.size)).get? (s.heap.objs.size + 1) = some (PySem.W.instObj C s.heap.objs.size) := by
    have := Heap.get?_push_size (s.heap.push PySem.W.emptyDict) (o := PySem.W.instObj C s.heap.objs.size) rfl
    rwa [Heap.size_push] at this
  have e3 : (s.heap.push PySem.W.emptyDict).Ns s.heap.objs.size (fun _ => none) := ⟨PySem.W.emptyDict, #[], _, e1, rfl, (fun e he => absurd he (by simp)), fun _ => rfl⟩
  have I1 := I.laid (a := s.heap.objs.size) (o := .own (s.heap.objs.size + 1)) (h' := s.heap.push PySem.W.emptyDict) (t' := s.toks) (fun b u q => Heap.get?_push_of_some _ q) (Nat.le_refl _) ⟨_, e1⟩
  refine I1.laid (a := s.heap.objs.size + 1) (o := .ins C s.heap.objs.size []) (t' := s.toks) (fun b u q => Heap.get?_push_of_some _ q) (Nat.le_of_eq (Heap.size_push _ _)) ?_
  have ne : s.heap.objs.size ≠ s.heap.objs.size + 1 := Nat.ne_of_lt (Nat.lt_succ_self _)
  refine ⟨by rw [upd_ne ne, upd_same], Nat.zero_le _, ne, e2, fun _ => none, (Heap.Ns1.of_empty e3).at fun o q => Heap.get?_push_of_some _ q, fun _ => True.intro, fun y hy => absurd rfl hy⟩
theorem attr_of {prog : Program} {w : World} {env : Env} {e : Expr} {f : Str} {pos : Pos} {s : Shared} {Q : Value → Shared → Prop} (hb : attributeBase e f env (eval e env) = eval e env)
    (h : wpAny (model prog w) A (eval e env) (fun o s₁ => wpAny (model prog w) A (getAttr o f true) Q E s₁) E s) : wpAny (model prog w) A (eval (.Attribute e f pos) env) Q E s :=
  Attribute_any_ h (by rw [arm_eval_Attribute, hb])
end
inductive QTFld (K : PySem.W.Frag) (f : Str) (x : V) (H1 : Hp) (Q : VK) : Prop
  | mk (a : _) (C : _) (dx : _) (fs : _) (v : _) (h1 : x = .ref a) (h2 : H1 a = some (.ins C dx fs)) (h3 : Cls K C) (h4 : NoAttr K C f) (h5 : fs.lookup f = some v) (q : Q v H1) : QTFld K f x H1 Q
def tFld (K : PySem.W.Frag) (ta : TE) (f : Str) : TE := fun σ H Q => ta σ H fun x H1 => QTFld K f x H1 Q
inductive QSFld (K : PySem.W.Frag) (f : Str) (D : Ends) (σ : St) (y x : V) (H2 : Hp) : Prop
  | mk (a : _) (C : _) (dx : _) (fs : _) (h1 : x = .ref a) (h2 : H2 a = some (.ins C dx fs)) (h3 : Cls K C) (h4 : NoAttr K C f) (h5 : fs.length < 1000) (q : D.nx σ (upd H2 a (.ins C dx (putF f y fs)))) : QSFld K f D σ y x H2
def sFld (K : PySem.W.Frag) (ta tv : TE) (f : Str) : TS := fun D σ H => tv σ H fun y H1 => ta σ H1 fun x H2 => QSFld K f D σ y x H2
def InOp (X : Cx) (op : Operator) (rd : V → V → Hp → VK → Prop) : Prop :=
  ∀ (pins : List (Addr × Obj)) (s : Shared) (σ : St) (H : Hp) (x y : V) (u v : Value) (Q : VK), Inv X pins σ H s → RelV x u → RelV y v → rd x y H Q → wpAny (model X.prog X.w) X.A (inplaceOp op u v) (EP X pins σ Q) X.xe s
inductive QSFldAug2 (f : Str) (D : Ends) (σ : St) (a C : Addr) (z : V) (H3 : Hp) : Prop
  | mk (dx' : _) (fs' : _) (h1 : H3 a = some (.ins C dx' fs')) (h2 : fs'.length < 1000) (q : D.nx σ (upd H3 a (.ins C dx' (putF f z fs')))) : QSFldAug2 f D σ a C z H3
inductive QSFldAug (K : PySem.W.Frag) (tv : TE) (rd : V → V → Hp → VK → Prop) (f : Str) (D : Ends) (σ : St) (x : V) (H1 : Hp) : Prop
  | mk (a : _) (C : _) (dx : _) (fs : _) (v : _) (h1 : x = .ref a) (h2 : H1 a = some (.ins C dx fs)) (h3 : Cls K C) (h4 : NoAttr K C f) (h5 : fs.lookup f = some v) (q : tv σ H1 fun y H2 => rd v y H2 fun z H3 => QSFldAug2 f D σ a C z H3) : QSFldAug K tv rd f D σ x H1
def sFldAug (K : PySem.W.Frag) (ta tv : TE) (rd : V → V → Hp → VK → Prop) (f : Str) : TS := fun D σ H => ta σ H fun x H1 => QSFldAug K tv rd f D σ x H1
section
variable {X : Cx} {o e value : Expr} {f : Str} {pos pos' tpos : Pos} {ta tv : TE}
theorem pe_fld (he : PE X e ta) (hb : attributeBase e f X.env (eval e X.env) = eval e X.env) : PE X (.Attribute e f pos) (tFld X.K ta f) := by
  intro pins s σ H Q I h
  refine attr_of hb (thn (he pins s σ H _ I h) fun u s1 ⟨x, H1, I1, rx, a, C, dx, fs, v, ex, ea, c, n, l, q⟩ => ?_)
  subst ex
  obtain rfl : u = Value.ref a := rx
  exact getattr_ok I1 ea c n l fun u' s2 I2 ru => ⟨v, H1, I2, ru, q⟩
theorem ps_fld (ha : PE X o ta) (hv : PE X value tv) (hs : swapsWith value (some (.Attribute o f pos')) pos.line X.env = pure false) : PS X (.Assign [.Attribute o f pos'] value pos) (sFld X.K ta tv f) := by
  intro pins s σ H D I h
  refine plainObj_wpAny_Assign_Attribute (thn (hv pins s σ H _ I h) fun u s1 ⟨y, H1, I1, ry, q⟩ => thn (ha pins s1 σ H1 _ I1 q) fun ov s2 ⟨x, H2, I2, rx, a, C, dx, fs, ex, ea, c, n, l, q2⟩ => ?_) hs
  subst ex
  obtain rfl : ov = Value.ref a := rx
  exact setattr_ok I2 ea c n l ry fun s3 I3 => ⟨σ, _, I3, q2⟩
theorem ps_fldaug {op : Operator} {rd : V → V → Hp → VK → Prop} (ha : PE X o ta) (hv : PE X value tv) (hop : InOp X op rd) : PS X (.AugAssign (.Attribute o f tpos) op value pos) (sFldAug X.K ta tv rd f) := by
  intro pins s σ H D I h
  refine wpAny_AugAssign_AttributeAny (thn (ha pins s σ H _ I h) fun ov s1 ⟨x, H1, I1, rx, a, C, dx, fs, v, ex, ea, c, n, l, q⟩ => ?_)
  subst ex
  obtain rfl : ov = Value.ref a := rx
  refine getattr_ok I1 ea c n l fun u s2 I2 ru => thn (hv pins s2 σ H1 _ I2 q) fun w3 s3 ⟨y, H2, I3, ry, q3⟩ => thn (hop pins s3 σ H2 v y u w3 _ I3 ru ry q3) fun w4 s4 ⟨z, H3, I4, rz, dx', fs', ea', l', q4⟩ => ?_
  exact setattr_ok I4 ea' c n l' rz fun s5 I5 => ⟨σ, _, I5, q4⟩
def rAdd : V → V → Hp → VK → Prop := fun x y H Q => ∃ i j, x = .int i ∧ y = .int j ∧ Q (.int (i + j)) H
theorem in_add : InOp X .Add rAdd := by
  rintro pins s σ H x y u v Q I rx ry ⟨i, j, rfl, rfl, q⟩
  obtain ⟨t, rfl⟩ := (show ∃ t, u = Value.int i t from rx)
  obtain ⟨t', rfl⟩ := (show ∃ t', v = Value.int j t' from ry)
  exact PyProof.Rows.iadd_int ⟨.int (i + j), H, I.tok _, ⟨_, rfl⟩, q⟩
end
section
variable {X : Cx} {pins : List (Addr × Obj)} {σ : St} {H : Hp} {s : Shared} {A : Around} {E : Value → Shared → Prop} {Q : Value → Shared → Prop} {c : Value} {b : Bool}
end
end L2
namespace L2
open PySem PySem.Spec PyProof.Rows
structure Room (k : Nat) (A : Around) : Prop where
  hd : A.handled = none
  dp : A.depth + 3 * k + 5 < recursionLimit
  un : A.units + 16 * k + 200 < cLine
theorem Room.mono {j k : Nat} {A : Around} (r : Room k A) (h : j ≤ k) : Room j A := ⟨r.hd, by have := r.dp; omega, by have := r.un; omega⟩
theorem Room.deeper {k : Nat} {A : Around} (r : Room (k + 1) A) (env : Env) : Room k (A.deeper env) :=
  ⟨r.hd, by have := r.dp; show A.depth + 1 + 3 * k + 5 < _; omega, by have := r.un; show A.units + 3 + 16 * k + 200 < _; omega⟩
theorem make_depth {A : Around} {C : Addr} {us : List Value} {kw : List (Str × Value)} : (A.under (.builtin "type.__call__" ⟨.ref C :: us, kw⟩)).depth = A.depth + 1 := by
  first | rfl | simp [Around.under, Code.weight, Code.isCreation, Code.isGuard, Code.isCaller, Code.frames, Code.isFrame, guardIds]
theorem make_units {A : Around} {C : Addr} {us : List Value} {kw : List (Str × Value)} : (A.under (.builtin "type.__call__" ⟨.ref C :: us, kw⟩)).units = A.units + 1 := by
  first | rfl | simp [Around.under, Code.cUnits, Code.frames, Code.isFrame]
theorem Room.make {k : Nat} {A : Around} (r : Room (k + 1) A) (C : Addr) (us : List Value) (kw : List (Str × Value)) : Room k (A.under (.builtin "type.__call__" ⟨.ref C :: us, kw⟩)) :=
  ⟨r.hd, by have := r.dp; rw [make_depth]; omega, by have := r.un; rw [make_units]; omega⟩
theorem Room.depth {k : Nat} {A : Around} (r : Room k A) : A.depth < recursionLimit := by have := r.dp; omega
theorem Room.units {k : Nat} {A : Around} (r : Room k A) : A.units + 64 < cLine := by have := r.un; omega
def tNil : TA := fun _ H Q => Q [] H
def tCons (ta : TE) (tr : TA) : TA := fun σ H Q => ta σ H fun x H1 => tr σ H1 fun xs H2 => Q (x :: xs) H2
section
variable {X : Cx} {e : Expr} {es : List Expr} {te : TE} {t : TA} {pos : Pos}
theorem pa_nil : PA X [] tNil := fun _ _ _ _ H Q I h => Calls.spliced_nil ⟨[], H, I, .nil, h⟩
theorem pa_cons (ha : PE X e te) (hr : PA X es t) (hs : starEach (e :: es) X.env = (false, eval e X.env) :: starEach es X.env := by rfl) : PA X (e :: es) (tCons te t) := by
  intro pos pins s σ H Q I h
  rw [hs]
  show wpAny _ _ (spliced ((false, eval e X.env) :: backTo pos (starEach es X.env))) _ _ s
  refine Calls.spliced_cons (thn (ha pins s σ H _ I h) fun u s1 ⟨x, H1, I1, r1, q1⟩ => ?_)
  exact thn (hr pos pins s1 σ H1 _ I1 q1) fun us s2 ⟨xs, H2, I2, r2, q2⟩ => ⟨x :: xs, H2, I2, .cons r1 r2, q2⟩
def tTup (t : TA) : TE := fun σ H Q => t σ H fun xs H1 => xs.length ≤ sizeLine ∧ ∀ p, H1 p = none → Q (.ref p) (upd H1 p (.tup xs))
def tLst (t : TA) : TE := fun σ H Q => t σ H fun xs H1 => xs.length ≤ sizeLine ∧ ∀ p, H1 p = none → Q (.ref p) (upd H1 p (.lst xs))
theorem pe_tup {x1} (h : PA X es t) : PE X (.Tuple es x1 pos) (tTup t) := by
  intro pins s σ H Q I hq
  refine wpAny_Tuple_spliced (thn (h pos pins s σ H _ I hq) fun us s1 ⟨xs, H1, I1, r, z, q⟩ => ⟨by rw [← r.length]; exact z, ?_⟩)
  have hf : H1 s1.heap.objs.size = none := I1.hok.fresh (Nat.le_refl _)
  refine ⟨.ref s1.heap.objs.size, upd H1 s1.heap.objs.size (.tup xs), I1.laid (t' := s1.toks) (fun b u e => Heap.get?_push_of_some _ e) (Nat.le_refl _) ?_, rfl, q _ hf⟩
  exact ⟨z, us, r, ⟨_, Heap.get?_push_size _ rfl, rfl, _, rfl⟩⟩
theorem pe_lst (h : PA X es t) : PE X (.List es pos) (tLst t) := by
  intro pins s σ H Q I hq
  refine wpAny_List_spliced (thn (h pos pins s σ H _ I hq) fun us s1 ⟨xs, H1, I1, r, z, q⟩ => ⟨by rw [← r.length]; exact z, ?_⟩)
  have hf : H1 s1.heap.objs.size = none := I1.hok.fresh (Nat.le_refl _)
  refine ⟨.ref s1.heap.objs.size, upd H1 s1.heap.objs.size (.lst xs), I1.laid (t' := s1.toks) (fun b u e => Heap.get?_push_of_some _ e) (Nat.le_refl _) ?_, rfl, q _ hf⟩
  exact ⟨z, us, 0, r, Heap.get?_push_size _ rfl⟩
end
abbrev Sp := List V → Hp → VK → XK → Prop
abbrev CXT := List Env → Hp → Shared → XK → Value → Shared → Prop
structure Env0 (P : Program) (w : World) (K : PySem.W.Frag) (mg : Str → Option Value) (base : Heap) (A : Around) (outer : List Env) (s : Shared) (H : Hp) : Prop where
  frames : A.frames = some outer
  mod : Mod K mg base
  bs : ∀ b o, base.get? b = some o → s.heap.get? b = some o ∧ H b = none
  bsz : base.objs.size ≤ s.heap.objs.size
  funs : s.heap.FunFrames base outer
  frf : ∀ b ∈ frs outer, H b = none
  hok : HOk P w H s.heap
  bare : AllBare s.gens
inductive CE (outer : List Env) (P : Program) (w : World) (H : Hp) (s : Shared) (Q : VK) (u : Value) (s' : Shared) : Prop
  | mk (v : _) (H' : _) (h1 : s'.os = s.os) (h2 : AllBare s'.gens) (h3 : Un (frs outer) [] H H' s.heap s'.heap) (h4 : HOk P w H' s'.heap) (h5 : RelV v u) (q : Q v H') : CE outer P w H s Q u s'
def CR (CX : CXT) (outer : List Env) (P : Program) (w : World) (H : Hp) (s : Shared) (Q : VK) (E : XK) (r : Result) (s' : Shared) : Prop :=
  match r with
  | .ok (.ret u) => CE outer P w H s Q u s'
  | .ok _ => False
  | .error e => CX outer H s E e s'
structure FnOk (P : Program) (w : World) (K : PySem.W.Frag) (mg : Str → Option Value) (base : Heap) (CX : CXT) (k : Nat) (f : Addr) (fd : FuncData) (ps : List Str) (sp : Sp) : Prop where
  len : ∀ vs H Q E, sp vs H Q E → vs.length = ps.length
  run : ∀ (A : Around) (outer : List Env) (s : Shared) (H : Hp) (args : Args) (us : List Value) (vs : List V) (Q : VK) (E : XK), Room k A → Env0 P w K mg base A outer s H → BindsTo s fd args (ps.zip us) → Vals vs us → sp vs H Q E →
    codeAny (model P w) A (.call (.ref f) args) (CR CX outer P w H s Q E) s
theorem Env0.make {P : Program} {w : World} {K : PySem.W.Frag} {mg : Str → Option Value} {base : Heap} {A : Around} {outer : List Env} {s : Shared} {H : Hp} (e : Env0 P w K mg base A outer s H) (C : Addr) (us : List Value) (kw : List (Str × Value)) :
    Env0 P w K mg base (A.under (.builtin "type.__call__" ⟨.ref C :: us, kw⟩)) outer s H := ⟨by first | exact e.frames | (simpa [Around.under, Code.envs, Code.isFrame, pushEnvs] using e.frames), e.mod, e.bs, e.bsz, e.funs, e.frf, e.hok, e.bare⟩
section
variable {X : Cx} {pins : List (Addr × Obj)} {σ : St} {H : Hp} {s s' : Shared}
theorem Inv.env0 (I : Inv X pins σ H s) : Env0 X.prog X.w X.K X.mg X.base X.A X.stack s H :=
  ⟨I.ok.frames, I.ok.mod, I.bs, Nat.le_trans I.ok.bsz I.sz, I.stack, I.stkFree, I.hok, I.bare⟩
theorem Inv.after {Q : VK} {u : Value} (I : Inv X pins σ H s) (h : CE X.stack X.prog X.w H s Q u s') : EP X pins σ Q u s' := by
  obtain ⟨v, H', os, bare, un, hok, r, q⟩ := h
  obtain ⟨hh, g, d, t, os'⟩ := s'
  obtain rfl : os' = s.os := os
  exact ⟨v, H', I.call (h' := hh) (g' := g) (d' := d) (t' := t) (ch := []) un hok bare (fun b z => absurd z (by simp)), r, q⟩
end
def tCall (sp : Sp) (dvs : List V) (E : XK) (t : TA) : TE := fun σ H Q => t σ H fun vs H1 => sp (vs ++ dvs) H1 Q E
def tMake (C : Addr) (sp : Sp) (dvs : List V) (E : XK) (t : TA) : TE := fun σ H Q => t σ H fun vs H1 => ∀ x dx, H1 x = none → H1 dx = none → dx ≠ x →
  sp (.ref x :: (vs ++ dvs)) (upd (upd H1 dx (.own x)) x (.ins C dx [])) (fun v H2 => v = .non ∧ Q (.ref x) H2) E
def Binds (K : PySem.W.Frag) (fd : FuncData) (ps : List Str) (ds : List Value) : Prop :=
  ∀ (s : Shared) (us : List Value), K.In s.heap → (us ++ ds).length = ps.length → BindsTo s fd ⟨us, []⟩ (ps.zip (us ++ ds))
theorem Binds.all {K : PySem.W.Frag} {fd : FuncData} {ps : List Str} (h : ∀ us : List Value, us.length = ps.length → bindArgs fd ⟨us, []⟩ = pure (ps.zip us)) : Binds K fd ps [] := fun s us _ hl => by
  rw [List.append_nil] at hl ⊢
  exact .of_eq (h us hl)
def Passes (CX : CXT) (X : Cx) (E : XK) : Prop := ∀ (pins : List (Addr × Obj)) (σ : St) (H : Hp) (s : Shared) (e : Value) (s' : Shared), Inv X pins σ H s → CX X.stack H s E e s' → X.xe e s'
section
variable {X : Cx} {CX : CXT} {k : Nat} {f C : Addr} {fd : FuncData} {ps : List Str} {sp : Sp} {dvs : List V} {ds : List Value} {E : XK} {x m : Str} {p pos apos : Pos} {e o : Expr} {es : List Expr} {ta : TE} {t : TA}
theorem run_fn {pins : List (Addr × Obj)} {σ : St} {H : Hp} {s : Shared} {Q : VK} {us : List Value} {vs : List V} (F : FnOk X.prog X.w X.K X.mg X.base CX k f fd ps sp) (hr : Room k X.A) (hb : Binds X.K fd ps ds) (hd : Vals dvs ds) (hx : Passes CX X E)
    (I : Inv X pins σ H s) (r : Vals vs us) (h : sp (vs ++ dvs) H Q E) : wpAny (model X.prog X.w) X.A (call (.ref f) us) (EP X pins σ Q) X.xe s := by
  have r2 : Vals (vs ++ dvs) (us ++ ds) := r.append hd
  have hl : (us ++ ds).length = ps.length := by rw [← r2.length]; exact F.len _ _ _ _ h
  refine wpAny_call (codeAny_mono (F.run X.A X.stack s H ⟨us, []⟩ (us ++ ds) (vs ++ dvs) Q E hr I.env0 (hb s us I.kIn hl) r2 h) fun r s' hq => ?_)
  cases r with
  | error e => exact hx pins σ H s e s' I hq
  | ok fl =>
    cases fl with
    | ret u => exact I.after hq
    | next => exact False.elim hq
    | brk => exact False.elim hq
    | cont => exact False.elim hq
theorem pe_call (F : FnOk X.prog X.w X.K X.mg X.base CX k f fd ps sp) (hr : Room k X.A) (hg : Gl X x) (hm : X.mg x = some (.ref f)) (hk : PySem.W.keepIn X.K (.ref f) = true) (hb : Binds X.K fd ps ds) (hd : Vals dvs ds) (hx : Passes CX X E)
    (ha : PA X (e :: es) t) (hdb : (x == ("__debug__" : Str)) = false := by decide) (he : starEach (e :: es) X.env = (false, eval e X.env) :: starEach es X.env := by rfl) (hpl : (backTo pos (starEach es X.env)).any (·.1) = false := by rfl) :
    PE X (.Call (.Name x p) (e :: es) [] pos) (tCall sp dvs E t) := by
  intro pins s σ H Q I h
  refine wpAny_Call_Name_kw (ld_glob I hg hm ?_ hdb)
  refine PySem.W.callWith_K (h₀ := X.base) I.ok.mod.kin hk (thn (ha pos pins s σ H _ I h) fun us s1 ⟨vs, H1, I1, r, q⟩ => ⟨I1.kIn, ?_⟩) he hpl
  exact run_fn F hr hb hd hx I1 r q
structure Mk (K : PySem.W.Frag) (C f : Addr) : Prop where
  makes : PySem.W.makesIn K C = true
  init : PySem.W.findIn K (.ref C) "__init__" = some (some (.ref f))
  fn : PySem.W.isFn K (.ref f) = true
  kp : PySem.W.keepIn K (.ref C) = true
theorem run_make {pins : List (Addr × Obj)} {σ : St} {H : Hp} {s : Shared} {Q : VK} {us : List Value} {vs : List V} (M : Mk X.K C f) (F : FnOk X.prog X.w X.K X.mg X.base CX k f fd ps sp) (hr : Room (k + 1) X.A) (hb : Binds X.K fd ps ds) (hd : Vals dvs ds)
    (hx : Passes CX X E) (I : Inv X pins σ H s) (r : Vals vs us)
    (h : ∀ x dx, H x = none → H dx = none → dx ≠ x → sp (.ref x :: (vs ++ dvs)) (upd (upd H dx (.own x)) x (.ins C dx [])) (fun v H2 => v = .non ∧ Q (.ref x) H2) E) :
    wpAny (model X.prog X.w) X.A (call (.ref C) us) (EP X pins σ Q) X.xe s := by
  have hq := h (s.heap.objs.size + 1) s.heap.objs.size (I.hok.fresh (Nat.le_succ _)) (I.hok.fresh (Nat.le_refl _)) (Nat.ne_of_lt (Nat.lt_succ_self _))
  have I2 := Inv.made (C := C) I
  have r2 : Vals (V.ref (s.heap.objs.size + 1) :: (vs ++ dvs)) (Value.ref (s.heap.objs.size + 1) :: (us ++ ds)) := .cons rfl (r.append hd)
  have hl : (Value.ref (s.heap.objs.size + 1) :: us ++ ds).length = ps.length := by
    have e := r2.length
    rw [F.len _ _ _ _ hq] at e
    exact e.symm
  refine wpAny_call (make_map (f := f) I.kIn M.makes M.init (beq_iff_eq.mp M.fn) (codeAny_mono (F.run _ X.stack _ _ ⟨Value.ref (s.heap.objs.size + 1) :: us, []⟩ (Value.ref (s.heap.objs.size + 1) :: (us ++ ds)) _ _ E (hr.make C us [])
    (I2.env0.make C us []) (hb _ (Value.ref (s.heap.objs.size + 1) :: us) I2.kIn hl) r2 hq) fun r s' hq' => ?_))
  cases r with
  | error e => exact hx pins σ _ _ e s' I2 hq'
  | ok fl =>
    cases fl with
    | ret u =>
      obtain ⟨v, H', I3, rv, ev, q3⟩ := I2.after hq'
      subst ev
      exact ⟨rv, ⟨V.ref (s.heap.objs.size + 1), H', I3, rfl, q3⟩⟩
    | next => exact False.elim hq'
    | brk => exact False.elim hq'
    | cont => exact False.elim hq'
theorem pe_make (M : Mk X.K C f) (F : FnOk X.prog X.w X.K X.mg X.base CX k f fd ps sp) (hr : Room (k + 1) X.A) (hg : Gl X x) (hm : X.mg x = some (.ref C)) (hb : Binds X.K fd ps ds) (hd : Vals dvs ds) (hx : Passes CX X E)
    (ha : PA X (e :: es) t) (hdb : (x == ("__debug__" : Str)) = false := by decide) (he : starEach (e :: es) X.env = (false, eval e X.env) :: starEach es X.env := by rfl) (hpl : (backTo pos (starEach es X.env)).any (·.1) = false := by rfl) :
    PE X (.Call (.Name x p) (e :: es) [] pos) (tMake C sp dvs E t) := by
  intro pins s σ H Q I h
  refine wpAny_Call_Name_kw (ld_glob I hg hm ?_ hdb)
  refine PySem.W.callWith_K (h₀ := X.base) I.ok.mod.kin M.kp (thn (ha pos pins s σ H _ I h) fun us s1 ⟨vs, H1, I1, r, q⟩ => ⟨I1.kIn, ?_⟩) he hpl
  exact run_make M F hr hb hd hx I1 r q
theorem pe_make0 (M : Mk X.K C f) (F : FnOk X.prog X.w X.K X.mg X.base CX k f fd ps sp) (hr : Room (k + 1) X.A) (hg : Gl X x) (hm : X.mg x = some (.ref C)) (hb : Binds X.K fd ps ds) (hd : Vals dvs ds) (hx : Passes CX X E)
    (hdb : (x == ("__debug__" : Str)) = false := by decide) : PE X (.Call (.Name x p) [] [] pos) (tMake C sp dvs E tNil) := by
  intro pins s σ H Q I h
  refine wpAny_Call_Name_kw (ld_glob I hg hm ?_ hdb)
  exact PySem.W.callWith_K0 I.kIn M.kp (run_make (us := []) M F hr hb hd hx I .nil h)
end
def PK (X : Cx) (kws : List Keyword) (t : TA) : Prop :=
  ∀ (pos : Pos) (pins : List (Addr × Obj)) (s : Shared) (σ : St) (H : Hp) (Q : List V → Hp → Prop), Inv X pins σ H s → t σ H Q → wpAny (model X.prog X.w) X.A (evalAll ((backToKw pos (keywordEach kws X.env)).map (·.2))) (AP X pins σ Q) X.xe s
section
variable {X : Cx} {CX : CXT} {k : Nat} {f C : Addr} {fd : FuncData} {ps ks : List Str} {sp : Sp} {E : XK} {x m : Str} {p pos apos kpos : Pos} {e o : Expr} {es : List Expr} {kws : List Keyword} {te ta : TE} {t tk : TA} {nm : Option Str}
theorem pk_nil : PK X [] tNil := fun _ _ _ _ H Q I h => wpAny_evalAll_nil ⟨[], H, I, .nil, h⟩
theorem pk_cons (ha : PE X e te) (hr : PK X kws t) : PK X (⟨nm, e, kpos⟩ :: kws) (tCons te t) := by
  intro pos pins s σ H Q I h
  show wpAny _ _ (evalAll ((do let v ← eval e X.env; standAt pos; pure v) :: (backToKw pos (keywordEach kws X.env)).map (·.2))) _ _ s
  refine wpAny_evalAll_cons (wpAny_bind (thn (ha pins s σ H _ I h) fun u s1 ⟨x, H1, I1, r1, q1⟩ => wpAny_bind (wpAny_standAt (wpAny_pure ?_))))
  exact thn (hr pos pins s1 σ H1 _ I1 q1) fun us s2 ⟨xs, H2, I2, r2, q2⟩ => ⟨x :: xs, H2, I2, .cons r1 r2, q2⟩
variable {g : List Value → List Value → List Value} {gV : List V → List V → List V}
end
structure FnScope (N P : List Str) (sc : Scope) : Prop where
  kind : sc.kind = .function
  co : sc.isCoroutine = false
  gen : sc.isGenerator = false
  nd : N.Nodup
  pre : N.take P.length = P
  par : ∀ x ∈ P, sc.names.lookup x = some .local ∨ sc.names.lookup x = some .cell
  nofree : ∀ y ∈ sc.names, y.2 ≠ .free
theorem bindL_out {kindOf : Str → Option NameKind} {x : Str} : ∀ {binds : List (Str × Value)} {m : Str → Option Value}, (∀ v, (x, v) ∉ binds) → bindL kindOf binds m x = m x
  | [], _, _ => rfl
  | (n, v) :: r, m, h => by
    unfold bindL
    rw [bindL_out fun w hw => h w (List.mem_cons_of_mem _ hw)]
    split
    · have : x ≠ n := by rintro rfl; exact h v List.mem_cons_self
      simp [this]
    · rfl
theorem bindC_out {kindOf : Str → Option NameKind} {x : Str} : ∀ {binds : List (Str × Value)} {m : Str → Option Value}, (∀ v, (x, v) ∉ binds) → bindC kindOf binds m x = m x
  | [], _, _ => rfl
  | (n, v) :: r, m, h => by
    unfold bindC
    rw [bindC_out fun w hw => h w (List.mem_cons_of_mem _ hw)]
    split
    · rfl
    · have : x ≠ n := by rintro rfl; exact h v List.mem_cons_self
      simp [this]
theorem bindL_get {kindOf : Str → Option NameKind} {x : Str} {v : Value} : ∀ {P : List Str} {vs : List Value} {i : Nat} {m : Str → Option Value}, P.Nodup → P[i]? = some x → vs[i]? = some v → kindOf x = some .local →
    bindL kindOf (P.zip vs) m x = some v
  | [], _, _, _, _, h, _, _ => by simp at h
  | _ :: _, [], _, _, _, _, h, _ => by simp at h
  | p :: P, w :: vs, 0, m, nd, h1, h2, hk => by
    simp at h1 h2; subst h1; subst h2
    show bindL kindOf ((p, w) :: P.zip vs) m p = _
    unfold bindL
    rw [bindL_out fun v hv => (List.nodup_cons.mp nd).1 (List.of_mem_zip hv).1, if_pos hk]
    simp
  | p :: P, w :: vs, i + 1, m, nd, h1, h2, hk => by
    show bindL kindOf ((p, w) :: P.zip vs) m x = _
    unfold bindL
    exact bindL_get (i := i) (List.nodup_cons.mp nd).2 (by simpa using h1) (by simpa using h2) hk
theorem bindC_get {kindOf : Str → Option NameKind} {x : Str} {v : Value} : ∀ {P : List Str} {vs : List Value} {i : Nat} {m : Str → Option Value}, P.Nodup → P[i]? = some x → vs[i]? = some v → kindOf x ≠ some .local →
    bindC kindOf (P.zip vs) m x = some v
  | [], _, _, _, _, h, _, _ => by simp at h
  | _ :: _, [], _, _, _, _, h, _ => by simp at h
  | p :: P, w :: vs, 0, m, nd, h1, h2, hk => by
    simp at h1 h2; subst h1; subst h2
    show bindC kindOf ((p, w) :: P.zip vs) m p = _
    unfold bindC
    rw [bindC_out fun v hv => (List.nodup_cons.mp nd).1 (List.of_mem_zip hv).1, if_neg hk]
    simp
  | p :: P, w :: vs, i + 1, m, nd, h1, h2, hk => by
    show bindC kindOf ((p, w) :: P.zip vs) m x = _
    unfold bindC
    exact bindC_get (i := i) (List.nodup_cons.mp nd).2 (by simpa using h1) (by simpa using h2) hk
def start (N : List Str) (vs : List V) : St := vs.map some ++ List.replicate (N.length - vs.length) none
def cxOf (CX : CXT) (P : Program) (w : World) (K : PySem.W.Frag) (mg : Str → Option Value) (base : Heap) (N : List Str) (qual : Str) (scope : Scope) (f : Addr) (cd : Value) (A : Around) (outer : List Env) (s : Shared) (H : Hp) (E : XK) : Cx where
  prog := P
  w := w
  K := K
  mg := mg
  base := base
  A := A.deeper (envOfC qual scope s.heap.objs.size f cd)
  N := N
  s_0 := s
  H_0 := H
  env := envOfC qual scope s.heap.objs.size f cd
  outer := outer
  stack := envOfC qual scope s.heap.objs.size f cd :: outer
  ex := []
  calm := true
  fn := fun _ => true
  pn := []
  xe := fun e s' => wpAny (model P w) (A.deeper (envOfC qual scope s.heap.objs.size f cd)) (leaving (envOfC qual scope s.heap.objs.size f cd) e) (fun _ s'' => CX outer H s E e s'') (fun e' s'' => CX outer H s E e' s'') s'
theorem cell_has {sc : Scope} {n : Nat} {x : Str} (h : sc.names.lookup x = some .cell) : ∃ c, (cellsFrom n sc.names []).lookup x = some c := by
  have q := PySem.W.cellsFrom_some sc.names n [] (.inl h)
  exact Option.isSome_iff_exists.mp q
theorem inv_start {CX : CXT} {P : Program} {w : World} {K : PySem.W.Frag} {mg : Str → Option Value} {base : Heap} {N ps : List Str} {qual : Str} {scope : Scope} {f : Addr} {cd : Value} {A : Around} {outer : List Env} {s s1 : Shared} {H : Hp} {E : XK} {us : List Value} {vs : List V}
    (S : FnScope N ps scope) (hd : A.handled = none) (e0 : Env0 P w K mg base A outer s H) (hl : vs.length = ps.length) (r : Vals vs us)
    (x : InCallC s s.heap.objs.size (bindL (envOfC qual scope s.heap.objs.size f cd).kindOf (ps.zip us) fun _ => none) (cellsFrom (s.heap.objs.size + 1) scope.names []) (bindC (envOfC qual scope s.heap.objs.size f cd).kindOf (ps.zip us) fun _ => none) s1) :
    Inv (cxOf CX P w K mg base N qual scope f cd A outer s H E) [] (start N vs) H s1 := by
  have hpl : ps.length ≤ N.length := by have := congrArg List.length S.pre; rw [List.length_take] at this; omega
  obtain ⟨h1, tk, rfl, hk⟩ := x.done
  have noA : ∀ b : Addr, b ∉ (cxOf CX P w K mg base N qual scope f cd A outer s H E).ex := fun b z => absurd (show b ∈ ([] : List Addr) from z) (by simp)
  refine ⟨⟨e0.mod, S.kind, rfl, rfl, Nat.le_refl _, fun y z c h1 h2 => ?_, fun y hy => ?_, fun y c _ h => ?_, fun _ => hd, Around.frames_deeper e0.frames, .inr ⟨rfl, rfl⟩, fun b z => absurd z (noA b), e0.bs, e0.bsz, fun b _ _ => noA b, fun b z => absurd z (noA b), e0.funs, e0.frf⟩,
    rfl, e0.bare, Un.kept hk, ⟨_, x.toInCall.ns, fun i y v h1 h2 h3 => ?_⟩, fun y c h => ⟨_, x.cell y c h⟩, e0.hok.fresh (Nat.le_refl _), fun y c h => ?_, fun p hp => absurd (show p ∈ ([] : List (Addr × Obj)) from hp) (by simp), e0.hok.kept hk, ?_⟩
  · exact name_of_addr x.apart (PySem.mem_of_lookup h1) (PySem.mem_of_lookup h2)
  · have hy : scope.names.lookup y = some .cell ∨ scope.names.lookup y = some .free := hy
    rcases hy with hy | hy
    · exact cell_has hy
    · exact absurd rfl (S.nofree _ (PySem.mem_of_lookup hy))
  · exact Nat.le_of_lt (x.above y c (PySem.mem_of_lookup h))
  · have hi : i < vs.length := by
      unfold start at h2
      by_cases hi : i < vs.length
      · exact hi
      · rw [List.getElem?_append_right (by simpa using hi)] at h2
        rw [List.getElem?_replicate] at h2
        split at h2 <;> cases h2
    have ha : vs[i]? = some v := by
      unfold start at h2
      rw [List.getElem?_append_left (by simpa using hi), List.getElem?_map] at h2
      cases e : vs[i]? with
      | none => rw [e] at h2; cases h2
      | some a => rw [e] at h2; cases h2; rfl
    obtain ⟨u, hu, rv⟩ := r.get ha
    have hp : ps[i]? = some y := by
      rw [← S.pre, List.getElem?_take_of_lt (by omega)]; exact h1
    have ndP : ps.Nodup := by rw [← S.pre]; exact S.nd.sublist (List.take_sublist _ _)
    refine ⟨u, rv, ?_⟩
    rcases S.par y (List.mem_of_getElem? hp) with k | k
    · exact .inl ⟨k, bindL_get ndP hp hu k⟩
    · obtain ⟨c, e⟩ := cell_has (n := s.heap.objs.size + 1) k
      refine .inr ⟨.inl k, c, e, ?_⟩
      have q := x.cell y c e
      rw [bindC_get ndP hp hu (by show scope.names.lookup y ≠ _; rw [k]; decide)] at q
      exact q
  · exact e0.hok.fresh (Nat.le_of_lt (x.above y c (PySem.mem_of_lookup h)))
  · unfold start
    show _ = N.length
    rw [List.length_append, List.length_map, List.length_replicate]
    omega
theorem fn_of {CX : CXT} {P : Program} {w : World} {K : PySem.W.Frag} {mg : Str → Option Value} {base : Heap} {k : Nat} {f : Addr} {name qual : Str} {params : Arguments} {body : List Stmt} {scope : Scope} {dV kV doc pm cdv ct oc : Value} {an od : Option Addr}
    {osl : Array (Option Value)} {N ps : List Str} {sp : Sp} (lk : K.lookup f = some ⟨oc, od, .func (PySem.W.fnOf name qual params body scope dV kV doc pm an cdv ct), osl⟩) (hcd : PySem.W.codeIn K cdv qual = true) (S : FnScope N ps scope)
    (len : ∀ vs H Q E, sp vs H Q E → vs.length = ps.length)
    (hbody : ∀ (A : Around) (outer : List Env) (s : Shared) (H : Hp) (vs : List V) (Q : VK) (E : XK), Room k (A.deeper (envOfC qual scope s.heap.objs.size f cdv)) → sp vs H Q E →
      ∃ t, PSs (cxOf CX P w K mg base N qual scope f cdv A outer s H E) body t ∧ t { nx := fun _ H' => Q .non H', rt := Q } (start N vs) H) :
    FnOk P w K mg base CX (k + 1) f (PySem.W.fnOf name qual params body scope dV kV doc pm an cdv ct) ps sp := by
  refine ⟨len, fun A outer s H args us vs Q E hr e0 hb r hsp => ?_⟩
  have hl := len _ _ _ _ hsp
  have KX : K.In s.heap := e0.mod.kin.keeps fun b o e => (e0.bs b o e).1
  have lim : s.heap.NoLimit := e0.mod.nolimit.keeps fun b o e => (e0.bs b o e).1
  have hkind : ∀ y ∈ ps.zip us, scope.names.lookup y.1 = some .local ∨ (scope.names.lookup y.1 = some .cell ∧ ((cellsFrom (s.heap.objs.size + 1) scope.names []).lookup y.1).isSome = true) := fun ⟨n, v⟩ hy => by
    rcases S.par n (List.of_mem_zip hy).1 with q | q
    · exact .inl q
    · exact .inr ⟨q, PySem.W.cellsFrom_some _ _ _ (.inl q)⟩
  refine codeAny_call_function hr.depth (KX _ _ lk) rfl S.co S.gen rfl (PySem.W.codeRec_of KX hcd) (hb _ _ _ _ ?_)
  refine wpAny_newFunctionEnv_cells S.kind hkind fun env he s1 x => ?_
  subst he
  refine ⟨lim.keeps x.toInCall.keep, codeAny_func ?_⟩
  obtain ⟨t, ht, hq⟩ := hbody A outer s H vs Q E (hr.deeper _) hsp
  have I : Inv (cxOf CX P w K mg base N qual scope f cdv A outer s H E) [] (start N vs) H s1 := inv_start S hr.hd e0 hl r x
  refine wpAny_mono (ht [] s1 (start N vs) H _ I hq) (fun fl s' hs => ?_) fun e s' hs => hs
  have fin : ∀ {σ' : St} {H' : Hp} {v : V} {u : Value}, Inv (cxOf CX P w K mg base N qual scope f cdv A outer s H E) [] σ' H' s' → RelV v u → Q v H' → CE outer P w H s Q u s' :=
    fun {σ' H' v u} J rv q => ⟨v, H', J.os, J.bare, J.base, J.hok, rv, q⟩
  cases fl with
  | ret u =>
    obtain ⟨v, σ', H', J, rv, q⟩ := hs
    exact fin J rv q
  | next =>
    obtain ⟨σ', H', J, q⟩ := hs
    exact fin (v := V.non) (u := Value.none) J rfl q
  | brk =>
    obtain ⟨_, _, _, q⟩ := hs
    exact False.elim q
  | cont =>
    obtain ⟨_, _, _, q⟩ := hs
    exact False.elim q
end L2
namespace L2
open PySem PySem.Spec PyProof.Rows
section
variable {X : Cx} {x : Str} {p pos : Pos} {e : Expr} {es : List Expr} {t : TA} {id T : String} {r : List V → Hp → VK → Prop}
def tCB (r : List V → Hp → VK → Prop) (t : TA) : TE := fun σ H Q => t σ H fun vs H1 => r vs H1 Q
theorem pe_callB (hc : CallR X (.builtin id) r) (hg : Gl X x) (hm : X.mg x = none) (hv : bootBuiltins x = some (.builtin id)) (ha : PA X (e :: es) t) (hn : x ≠ "__name__" := by decide) (hdb : (x == ("__debug__" : Str)) = false := by decide)
    (he : starEach (e :: es) X.env = (false, eval e X.env) :: starEach es X.env := by rfl) (hpl : (backTo pos (starEach es X.env)).any (·.1) = false := by rfl) : PE X (.Call (.Name x p) (e :: es) [] pos) (tCB r t) := by
  intro pins s σ H Q I h
  refine wpAny_Call_Name_kw (ld_blt I hg hm hv ?_ hn hdb)
  exact PyProof.Rows.callWith_builtin1 (thn (ha pos pins s σ H _ I h) fun us s1 ⟨vs, H1, I1, r1, q1⟩ => hc pins s1 σ H1 vs us Q I1 r1 q1) he hpl
theorem pe_callTy (hc : CallR X (.type T) r) (hg : Gl X x) (hm : X.mg x = none) (hv : bootBuiltins x = some (.type T)) (ha : PA X (e :: es) t) (hn : x ≠ "__name__" := by decide) (hdb : (x == ("__debug__" : Str)) = false := by decide)
    (he : starEach (e :: es) X.env = (false, eval e X.env) :: starEach es X.env := by rfl) (hpl : (backTo pos (starEach es X.env)).any (·.1) = false := by rfl) : PE X (.Call (.Name x p) (e :: es) [] pos) (tCB r t) := by
  intro pins s σ H Q I h
  refine wpAny_Call_Name_kw (ld_blt I hg hm hv ?_ hn hdb)
  exact PyProof.Rows.callWith_type1 (thn (ha pos pins s σ H _ I h) fun us s1 ⟨vs, H1, I1, r1, q1⟩ => hc pins s1 σ H1 vs us Q I1 r1 q1) he hpl
end
end L2
namespace HT
open PySem PyProof.Rows
section
open PySem.SeqAt
open PySem.AutoSeq1 (wpAny_loadPart')
open PySem.MeetsSeq PySem.MeetsSeq2 PySem.MeetsSeq3
end
section
variable {prog : Program} {w : World} {A : Around} {E : Value → Shared → Prop} {s : Shared}
def sIx (n d : Nat) : Option Int → Nat
  | none => d
  | some v => if v < 0 then (v + (n : Int)).toNat else min v.toNat n
theorem sIx_nat (n d k : Nat) : sIx n d (some (k : Int)) = min k n := by
  show (if (k : Int) < 0 then ((k : Int) + (n : Int)).toNat else min (k : Int).toNat n) = min k n
  rw [if_neg (by omega), Int.toNat_natCast]
end
end HT
namespace L2
open PySem PySem.Spec PyProof.Rows
abbrev TO := St → Hp → (Option Int → Hp → Prop) → Prop
def PO (X : Cx) (e : Option Expr) (t : TO) : Prop :=
  ∀ (pins : List (Addr × Obj)) (s : Shared) (σ : St) (H : Hp) (Q : Option Int → Hp → Prop), Inv X pins σ H s → t σ H Q →
    wpAny (model X.prog X.w) X.A (evalPart e X.env) (fun u s' => ∃ o H', Inv X pins σ H' s' ∧ IsPart u o ∧ Q o H') X.xe s
inductive QTPart (x : V) (H1 : Hp) (Q : Option Int → Hp → Prop) : Prop
  | mk (i : _) (h1 : x = .int i) (q : Q (some i) H1) : QTPart x H1 Q
def tPart (t : TE) : TO := fun σ H Q => t σ H fun x H1 => QTPart x H1 Q
section
variable {X : Cx} {e : Expr} {te : TE} {lo hi : Option Expr} {tl th : TO} {pos p2 : Pos}
theorem po_some (h : PE X e te) : PO X (some e) (tPart te) := by
  intro pins s σ H Q I hw
  rw [evalPart_some]
  refine thn (h pins s σ H _ I hw) fun u s1 ⟨x, H1, I1, r1, q1⟩ => ?_
  obtain ⟨i, rfl, q⟩ := q1
  obtain ⟨t, rfl⟩ := r1
  exact ⟨some i, H1, I1, .int i t, q⟩
def SlR (X : Cx) (r : V → Option Int → Option Int → Hp → VK → Prop) : Prop :=
  ∀ (pins : List (Addr × Obj)) (s : Shared) (σ : St) (H : Hp) (x : V) (v vl vu : Value) (lo hi : Option Int) (sl : Addr) (Q : VK), Inv X pins σ H s → RelV x v → s.heap.IsSliceOf sl vl vu .none → IsPart vl lo → IsPart vu hi → r x lo hi H Q →
    ∃ T id, typeLookup (.type T) "__getitem__" = pure (some (.builtin id)) ∧ s.TypeIs v T ∧ wpAny (model X.prog X.w) X.A (getItem v (.ref sl)) (EP X pins σ Q) X.xe s
def tSl (r : V → Option Int → Option Int → Hp → VK → Prop) (te : TE) (tl th : TO) : TE := fun σ H Q => te σ H fun x H1 => tl σ H1 fun l H2 => th σ H2 fun u H3 => r x l u H3 Q
theorem pe_slice {r : V → Option Int → Option Int → Hp → VK → Prop} (hr : SlR X r) (he : PE X e te) (hl : PO X lo tl) (hu : PO X hi th) : PE X (.Subscript e (.Slice lo hi none p2) pos) (tSl r te tl th) := by
  intro pins s σ H Q I h
  refine Subscript_ (thn (he pins s σ H _ I h) fun v s1 ⟨x, H1, I1, r1, q1⟩ => ?_)
  refine wpAny_Slice (thn (hl pins s1 σ H1 _ I1 q1) fun vl s2 ⟨l, H2, I2, pl, q2⟩ => thn (hu pins s2 σ H2 _ I2 q2) fun vu s3 ⟨u, H3, I3, pu, q3⟩ => ?_)
  rw [evalPart_none]
  refine wpAny_pure ?_
  have I4 : Inv X pins σ H3 { s3 with heap := s3.heap.push { cls := .type "slice", data := .fields #[vl, vu, .none] } } := I3.kept (t' := s3.toks) fun b ob q => Heap.get?_push_of_some _ q
  obtain ⟨T, id, hT, ht, hg⟩ := hr pins { s3 with heap := s3.heap.push { cls := .type "slice", data := .fields #[vl, vu, .none] } } σ H3 x v vl vu l u s3.heap.objs.size Q I4 r1 (Heap.IsSliceOf.new ..) pl pu q3
  show wpAny (model X.prog X.w) X.A (subscriptTail e (.Slice lo hi none p2) v (.ref s3.heap.objs.size)) (EP X pins σ Q) X.xe { s3 with heap := s3.heap.push { cls := .type "slice", data := .fields #[vl, vu, .none] } }
  exact tail_any (ops := [.ref s3.heap.objs.size, v]) ht hT hg (by with_unfolding_all rfl)
def cutV (xs : List V) (lo hi : Option Int) : List V := (xs.drop (HT.sIx xs.length 0 lo)).take (HT.sIx xs.length xs.length hi - HT.sIx xs.length 0 lo)
theorem cutV_length (xs : List V) (lo hi : Option Int) : (cutV xs lo hi).length ≤ xs.length := by
  unfold cutV
  rw [List.length_take, List.length_drop]
  omega
end
end L2
namespace L2
open PySem PySem.Spec PyProof.Rows
def ixN (n : Nat) (i : Int) : Option Nat := if 0 ≤ i then (if i < n then some i.toNat else none) else if -(n : Int) ≤ i then some (i + n).toNat else none
def atI {α : Type} (xs : List α) (i : Int) : Option α := (ixN xs.length i).bind fun j => xs[j]?
theorem ixN_seq {n : Nat} {i : Int} {j : Nat} (h : ixN n i = some j) : seqIndex? i n = some j ∧ j < n ∧ -(n : Int) ≤ i ∧ i < n := by
  unfold ixN at h
  by_cases h0 : 0 ≤ i
  · rw [if_pos h0] at h
    by_cases h1 : i < n
    · rw [if_pos h1] at h
      have e : i.toNat = j := Option.some.inj h
      exact ⟨by rw [seqIndex_of h0 h1, e], by omega, by omega, h1⟩
    · rw [if_neg h1] at h; cases h
  · rw [if_neg h0] at h
    by_cases h1 : -(n : Int) ≤ i
    · rw [if_pos h1] at h
      have e : (i + n).toNat = j := Option.some.inj h
      exact ⟨by rw [seqIndex_neg (by omega) h1, e], by omega, h1, by omega⟩
    · rw [if_neg h1] at h; cases h
theorem atI_get {α : Type} {xs : List α} {i : Int} {v : α} (h : atI xs i = some v) : ∃ j, seqIndex? i xs.length = some j ∧ xs[j]? = some v ∧ j < xs.length ∧ -(xs.length : Int) ≤ i ∧ i < xs.length := by
  unfold atI at h
  cases e : ixN xs.length i with
  | none => rw [e] at h; cases h
  | some j =>
    rw [e] at h
    obtain ⟨h1, h2, h3, h4⟩ := ixN_seq e
    exact ⟨j, h1, h, h2, h3, h4⟩
theorem atI_nat {α : Type} {xs : List α} {j : Nat} {v : α} (h : xs[j]? = some v) : atI xs (j : Int) = some v := by
  have hj : j < xs.length := (List.getElem?_eq_some_iff.mp h).1
  have e : ixN xs.length (j : Int) = some j := by
    unfold ixN
    rw [if_pos (by omega), if_pos (by omega)]; simp
  unfold atI; rw [e]; exact h
def PlainIx (b : Expr) : Prop := ∀ o i, subscripted b false o i = operate [o, i] (getItem o i)
def IxR (X : Cx) (r : R2) : Prop :=
  ∀ (value slice : Expr) (pins : List (Addr × Obj)) (s : Shared) (σ : St) (H : Hp) (x y : V) (v u : Value) (Q : VK), Inv X pins σ H s → RelV x v → RelV y u → r x y H Q →
    subscripted slice false v u = operate [v, u] (getItem v u) → wpAny (model X.prog X.w) X.A (subscriptTail value slice v u) (EP X pins σ Q) X.xe s
def MtR (X : Cx) (id : String) (r : V → List V → Hp → VK → Prop) : Prop :=
  ∀ (pins : List (Addr × Obj)) (s : Shared) (σ : St) (H : Hp) (x : V) (xs : List V) (v : Value) (us : List Value) (Q : VK), Inv X pins σ H s → RelV x v → Vals xs us → r x xs H Q →
    wpAny (model X.prog X.w) X.A (call (.builtin id) (v :: us)) (EP X pins σ Q) X.xe s
section
variable {X : Cx} {a b : Expr} {ta tb : TE} {pos : Pos}
theorem pe_ix {r : R2} (hr : IxR X r) (ha : PE X a ta) (hb : PE X b tb) (hs : PlainIx b) : PE X (.Subscript a b pos) (tOp r ta tb) := by
  intro pins s σ H Q I h
  exact Subscript_ (binT ha hb I h fun v u s2 x y H2 I2 rx ry q => hr a b pins s2 σ H2 x y v u Q I2 rx ry q (hs _ _))
inductive QRIxL (K : PySem.W.Frag) (x y : V) (H : Hp) (Q : VK) : Prop
  | mk (p : _) (xs : _) (i : _) (v : _) (h1 : x = .ref p) (h2 : y = .int i) (h3 : SqL K H p xs) (h4 : atI xs i = some v) (q : Q v H) : QRIxL K x y H Q
def rIxL (K : PySem.W.Frag) : R2 := fun x y H Q => QRIxL K x y H Q
inductive QRIxT (K : PySem.W.Frag) (x y : V) (H : Hp) (Q : VK) : Prop
  | mk (p : _) (xs : _) (i : _) (v : _) (h1 : x = .ref p) (h2 : y = .int i) (h3 : SqT K H p xs) (h4 : atI xs i = some v) (q : Q v H) : QRIxT K x y H Q
def rIxT (K : PySem.W.Frag) : R2 := fun x y H Q => QRIxT K x y H Q
theorem ix_list : IxR X (rIxL X.K) := by
  intro value slice pins s σ H x y v u Q I rx ry h hs
  obtain ⟨p, xs, i, z, rfl, rfl, hq, he, q⟩ := h
  cases rx
  obtain ⟨t, rfl⟩ := ry
  obtain ⟨its, r, pl, hz⟩ := I.list hq
  obtain ⟨j, h1, h2, h3, h4, h5⟩ := atI_get he
  obtain ⟨w, ew, rw'⟩ := r.get h2
  have hl := r.length
  have hn := line63
  have fin : EP X pins σ Q w s := ⟨z, H, I, rw', q⟩
  by_cases h0 : 0 ≤ i
  · have hj : i.toNat = j := by
      rw [seqIndex_of h0 h5] at h1
      exact Option.some.inj h1
    exact item_listR pl.isList h0 (by omega) (by rw [hj]; simpa using ew) fin hs
  · have hj : (i + (its.toArray.size : Int)).toNat = j := by
      rw [seqIndex_neg (by omega) h4] at h1
      rw [List.size_toArray, ← hl]
      exact Option.some.inj h1
    exact subscriptTail_builtinR (x := w) pl.isList.typeIs slot_list_getitem.lookup
      (wpAny_getItem_list_neg (Q := fun r s' => r = w ∧ EP X pins σ Q r s') pl.isList (by omega) (by rw [List.size_toArray] <;> omega) (by omega) (by rw [hj]; simpa using ew) ⟨rfl, fin⟩) hs
theorem ix_tup : IxR X (rIxT X.K) := by
  intro value slice pins s σ H x y v u Q I rx ry h hs
  obtain ⟨p, xs, i, z, rfl, rfl, hq, he, q⟩ := h
  cases rx
  obtain ⟨t, rfl⟩ := ry
  obtain ⟨its, r, pl, hz⟩ := I.tuple hq
  obtain ⟨j, h1, h2, h3, h4, h5⟩ := atI_get he
  obtain ⟨w, ew, rw'⟩ := r.get h2
  have hl := r.length
  have hn := line63
  have fin : EP X pins σ Q w s := ⟨z, H, I, rw', q⟩
  exact subscriptTail_builtinR (x := w) pl.typeIs slot_tuple_getitem.lookup
    (getItem_tuple (j := j) (Q := fun r s' => r = w ∧ EP X pins σ Q r s') pl (by omega) (by omega) (by rw [List.size_toArray, ← hl]; exact h1) (by simpa using ew) ⟨rfl, fin⟩) hs
theorem mapSeq_set (its : List Value) (n j : Nat) (u : Value) : Obj.mapSeq (·.setIfInBounds j u) { cls := .type "list", data := .seq its.toArray n } = { cls := .type "list", data := .seq (its.set j u).toArray n } := by
  simp [Obj.mapSeq]
theorem Inv.lst {pins : List (Addr × Obj)} {σ : St} {H : Hp} {s : Shared} {p : Addr} {xs : List V} (I : Inv X pins σ H s) (h : H p = some (.lst xs)) :
    ∃ (its : List Value) (n : Nat), Vals xs its ∧ s.heap.get? p = some { cls := .type "list", data := .seq its.toArray n } ∧ xs.length ≤ sizeLine := by
  obtain ⟨z, its, n, r, e⟩ := I.hok p _ h
  exact ⟨its, n, r, e, z⟩
theorem Inv.lstUpd {pins : List (Addr × Obj)} {σ : St} {H : Hp} {s : Shared} {p : Addr} {xs ys : List V} {its its' : List Value} {n n' : Nat} {f : Obj → Obj} (I : Inv X pins σ H s) (h : H p = some (.lst xs))
    (ho : s.heap.get? p = some { cls := .type "list", data := .seq its.toArray n }) (hf : f { cls := .type "list", data := .seq its.toArray n } = { cls := .type "list", data := .seq its'.toArray n' }) (r : Vals ys its') (hz : ys.length ≤ sizeLine) (t : Nat) :
    Inv X pins σ (upd H p (.lst ys)) { s with heap := s.heap.update p f, toks := t } := by
  have e : (s.heap.update p f).get? p = some { cls := .type "list", data := .seq its'.toArray n' } := by
    rw [Heap.get?_update_self f ho (by rw [hf] <;> rfl), hf]
  refine I.write (x := p) (e := p) (by rw [h]; trivial) (.inl rfl) (fun b u hb q => (Heap.get?_update_other _ _ (Ne.symm hb)).trans q) ⟨_, e⟩ ?_
  exact ⟨hz, its', n', r, e⟩
inductive QRSetL (o i v : V) (H : Hp) (Q : Hp → Prop) : Prop
  | mk (p : _) (xs : _) (k : _) (j : _) (h1 : o = .ref p) (h2 : i = .int k) (h3 : H p = some (.lst xs)) (h4 : ixN xs.length k = some j) (q : Q (upd H p (.lst (xs.set j v)))) : QRSetL o i v H Q
def rSetL : V → V → V → Hp → (Hp → Prop) → Prop := fun o i v H Q => QRSetL o i v H Q
theorem set_list : PSet X rSetL := by
  intro pins s σ H o i v ov iv u Q I ro ri rv h
  obtain ⟨p, xs, k, j, rfl, rfl, hp, hj, q⟩ := h
  cases ro
  obtain ⟨t, rfl⟩ := ri
  obtain ⟨its, n, r, ho, hz⟩ := I.lst hp
  obtain ⟨h1, h2, h3, h4⟩ := ixN_seq hj
  have hl := r.length
  have hn := line63
  have I' : Inv X pins σ (upd H p (.lst (xs.set j v))) { s with heap := s.heap.update p (Obj.mapSeq (·.setIfInBounds j u)) } :=
    I.lstUpd hp ho (mapSeq_set its n j u) (r.set rv j) (by rw [List.length_set]; exact hz) s.toks
  by_cases h0 : 0 ≤ k
  · have hk : k.toNat = j := by
      rw [seqIndex_of h0 h4] at h1
      exact Option.some.inj h1
    exact PySem.W.ki_setAt ho h0 (by omega) (by rw [List.size_toArray, ← hl]; exact h4) (by rw [hk]; exact ⟨_, I', q⟩)
  · have hk : (k + (its.toArray.size : Int)).toNat = j := by
      rw [seqIndex_neg (by omega) h3] at h1
      rw [List.size_toArray, ← hl]
      exact Option.some.inj h1
    exact PySem.W.ki_setBack ho (by omega) (by rw [List.size_toArray, ← hl]; exact h3) (by omega) (by rw [hk]; exact ⟨_, I', q⟩)
theorem slice_bounds (lo hi : Option Int) (n : Nat) : (sliceBounds lo hi none n).1 = ((HT.sIx n 0 lo : Nat) : Int) ∧ (sliceBounds lo hi none n).2.1 = ((HT.sIx n n hi : Nat) : Int) ∧ (sliceBounds lo hi none n).2.2 = 1 := by
  refine ⟨?_, ?_, rfl⟩
  · cases lo with
    | none => simp [sliceBounds, HT.sIx]
    | some i =>
      simp only [sliceBounds, HT.sIx, Option.getD_none, show (1 : Int) > 0 by decide, if_true]
      by_cases h : i < 0
      · simp only [h, if_true] <;> omega
      · simp only [h, if_false] <;> omega
  · cases hi with
    | none => simp [sliceBounds, HT.sIx]
    | some i =>
      simp only [sliceBounds, HT.sIx, Option.getD_none, show (1 : Int) > 0 by decide, if_true]
      by_cases h : i < 0
      · simp only [h, if_true] <;> omega
      · simp only [h, if_false] <;> omega
theorem slicePick_cut (its : List Value) (lo hi : Option Int) : slicePick its.toArray lo hi none = ((its.drop (HT.sIx its.length 0 lo)).take (HT.sIx its.length its.length hi - HT.sIx its.length 0 lo)).toArray := by
  obtain ⟨h1, h2, h3⟩ := slice_bounds lo hi its.toArray.size
  unfold slicePick
  rw [h1, h2, h3]
  simp only [sliceRange_one, pick_run, List.size_toArray] <;> rfl
inductive QRSlL (K : PySem.W.Frag) (x : V) (lo hi : Option Int) (H : Hp) (Q : VK) : Prop
  | mk (a : _) (xs : _) (h1 : x = .ref a) (h2 : SqL K H a xs) (q : ∀ p, H p = none → Q (.ref p) (upd H p (.lst (cutV xs lo hi)))) : QRSlL K x lo hi H Q
def rSlL (K : PySem.W.Frag) : V → Option Int → Option Int → Hp → VK → Prop := fun x lo hi H Q => QRSlL K x lo hi H Q
theorem sl_list : SlR X (rSlL X.K) := by
  intro pins s σ H x v vl vu lo hi sl Q I rx hs pl pu h
  obtain ⟨a, xs, rfl, hx, q⟩ := h
  cases rx
  obtain ⟨its, r, ht, hz⟩ := I.list hx
  have hlen := r.length
  refine ⟨"list", _, slot_list_getitem.lookup, ht.isList.typeIs, ?_⟩
  refine wpAny_getItem_list_slice ht.isList hs pl pu .none (by simp) ?_ (by rw [List.size_toArray] <;> omega)
  rw [slicePick_cut, ← hlen]
  refine ⟨.ref s.heap.objs.size, _, I.laid (t' := s.toks) (o := .lst (cutV xs lo hi)) (fun b ob q => Heap.get?_push_of_some _ q) (Nat.le_refl _) ?_, rfl, q _ (I.hok.fresh (Nat.le_refl _))⟩
  exact ⟨Nat.le_trans (cutV_length xs lo hi) hz, _, 0, (r.drop (HT.sIx xs.length 0 lo)).take (HT.sIx xs.length xs.length hi - HT.sIx xs.length 0 lo), Heap.get?_push_size _ rfl⟩
def flatV : V → Bool
  | .non => true
  | .bl _ => true
  | .int _ => true
  | .str _ => true
  | _ => false
def eqV : V → V → Bool
  | .non, .non => true
  | .bl a, .bl b => a == b
  | .bl a, .int b => (if a then 1 else 0) == b
  | .int a, .bl b => a == (if b then 1 else 0)
  | .int a, .int b => a == b
  | .str a, .str b => a == b
  | _, _ => false
theorem eqAt_V {A : Around} {s : Shared} {y x : V} {u v : Value} (ry : RelV y u) (rx : RelV x v) (fy : flatV y = true) (fx : flatV x = true) : SeqAt.EqAt A s u v (eqV y x) := by
  cases y with
  | non =>
    cases ry
    cases x with
    | non => cases rx; exact SeqAt.EqAt.same _
    | bl b => cases rx; exact SeqAt.EqAt.none_bool b
    | int b => obtain ⟨t, rfl⟩ := rx; exact SeqAt.EqAt.none_int b t
    | str b => obtain ⟨t, rfl⟩ := rx; exact SeqAt.EqAt.none_str b t
    | _ => exact absurd (show false = true from fx) Bool.false_ne_true
  | bl a =>
    cases ry
    cases x with
    | non => cases rx; exact SeqAt.EqAt.bool_none a
    | bl b => cases rx; exact SeqAt.EqAt.bool_bool a b
    | int b => obtain ⟨t, rfl⟩ := rx; exact SeqAt.EqAt.bool_int a b t
    | str b => obtain ⟨t, rfl⟩ := rx; exact SeqAt.EqAt.bool_str a b t
    | _ => exact absurd (show false = true from fx) Bool.false_ne_true
  | int a =>
    obtain ⟨t', rfl⟩ := ry
    cases x with
    | non => cases rx; exact SeqAt.EqAt.int_none a t'
    | bl b => cases rx; exact SeqAt.EqAt.int_bool a t' b
    | int b => obtain ⟨t, rfl⟩ := rx; exact SeqAt.EqAt.int_int a t' b t
    | str b => obtain ⟨t, rfl⟩ := rx; exact SeqAt.EqAt.int_str a t' b t
    | _ => exact absurd (show false = true from fx) Bool.false_ne_true
  | str a =>
    obtain ⟨t', rfl⟩ := ry
    cases x with
    | non => cases rx; exact SeqAt.EqAt.str_none a t'
    | bl b => cases rx; exact SeqAt.EqAt.str_bool a t' b
    | int b => obtain ⟨t, rfl⟩ := rx; exact SeqAt.EqAt.str_int a t' b t
    | str b => obtain ⟨t, rfl⟩ := rx; exact SeqAt.EqAt.str_str a t' b t
    | _ => exact absurd (show false = true from fx) Bool.false_ne_true
  | _ => exact absurd (show false = true from fy) Bool.false_ne_true
def eqU (x : V) (u : Value) : Bool := match u with
  | .none => eqV .non x
  | .bool b => eqV (.bl b) x
  | .int i _ => eqV (.int i) x
  | .str z _ => eqV (.str z) x
  | _ => false
theorem eqU_of {x y : V} {u : Value} (r : RelV y u) (f : flatV y = true) : eqU x u = eqV y x := by
  cases y with
  | non => cases r; rfl
  | bl b => cases r; rfl
  | int i => obtain ⟨t, rfl⟩ := r; rfl
  | str z => obtain ⟨t, rfl⟩ := r; rfl
  | _ => exact absurd (show false = true from f) Bool.false_ne_true
theorem mem_eqAt {A : Around} {s : Shared} {x : V} {v : Value} (rx : RelV x v) (fx : flatV x = true) : ∀ {xs : List V} {us : List Value}, Vals xs us → xs.all flatV = true → ∀ u ∈ us, SeqAt.EqAt A s u v (eqU x u)
  | _, _, .nil, _ => fun u hu => by cases hu
  | y :: xs, u :: us, .cons r t, f => fun u' hu => by
    rw [List.all_cons, Bool.and_eq_true] at f
    rcases List.mem_cons.mp hu with rfl | hu
    · rw [eqU_of r f.1]; exact eqAt_V r rx f.1 fx
    · exact mem_eqAt rx fx t f.2 u' hu
inductive QLen (K : PySem.W.Frag) (xs : List V) (H : Hp) (Q : VK) : Prop
  | mk (p : _) (ys : _) (h1 : xs = [.ref p]) (h2 : (SqL K H p ys ∨ SqT K H p ys)) (q : Q (.int ys.length) H) : QLen K xs H Q
theorem call_len_seq : CallR X (.builtin "len") (QLen X.K) := by
  intro pins s σ H xs us Q I r h
  obtain ⟨p, ys, rfl, hq, q⟩ := h
  obtain ⟨u, rfl, rx⟩ := vals1 r
  cases rx
  have hn := line63
  rcases hq with hq | hq
  · obtain ⟨its, r', pl, hz⟩ := I.list hq
    have hlen := r'.length
    exact Calls.call_len_list pl.isList (by simp only [List.size_toArray] <;> omega) ⟨.int ys.length, H, I.tok _, ⟨s.toks + 1, by rw [List.size_toArray, hlen]⟩, q⟩
  · obtain ⟨its, r', pl, hz⟩ := I.tuple hq
    have hlen := r'.length
    exact len_tuple pl (by simp only [List.size_toArray] <;> omega) ⟨.int ys.length, H, I.tok _, ⟨s.toks + 1, by rw [List.size_toArray, hlen]⟩, q⟩
inductive QLst (K : PySem.W.Frag) (xs : List V) (H : Hp) (Q : VK) : Prop
  | mk (p : _) (ys : _) (h1 : xs = [.ref p]) (h2 : (SqL K H p ys ∨ SqT K H p ys)) (q : ∀ l, H l = none → Q (.ref l) (upd H l (.lst ys))) : QLst K xs H Q
theorem call_list_of : CallR X (.type "list") (QLst X.K) := by
  intro pins s σ H xs us Q I r h
  obtain ⟨p, ys, rfl, hq, q⟩ := h
  obtain ⟨u, rfl, rx⟩ := vals1 r
  cases rx
  have fin : ∀ (its : List Value), Vals ys its → ys.length ≤ sizeLine → ∀ (h' : Heap) (c' : Nat), (∀ b o', s.heap.get? b = some o' → h'.get? b = some o') →
      h'.get? s.heap.objs.size = some { cls := .type "list", dict := none, data := .seq its.toArray c', slots := #[] } → EP X pins σ Q (.ref s.heap.objs.size) { s with heap := h' } := fun its r' hz h' c' kp e =>
    ⟨.ref s.heap.objs.size, _, I.laid (t' := s.toks) kp (Nat.le_refl _) (show ObjOk X.prog X.w _ h' _ (.lst ys) from ⟨hz, its, c', r', e⟩), rfl, q _ (I.hok.fresh (Nat.le_refl _))⟩
  rcases hq with hq | hq
  · obtain ⟨its, r', pl, hz⟩ := I.list hq
    have hlen := r'.length
    obtain ⟨o, ho, hc, n, hd⟩ := pl.isList
    exact call_list_seq p (.inl rfl) ho hc hd (fun h' c' kp e => fin its r' hz h' c' kp e) (by simp only [List.size_toArray] <;> omega)
  · obtain ⟨its, r', pl, hz⟩ := I.tuple hq
    have hlen := r'.length
    obtain ⟨o, ho, hc, n, hd⟩ := pl
    exact call_list_seq p (.inr rfl) ho hc hd (fun h' c' kp e => fin its r' hz h' c' kp e) (by simp only [List.size_toArray] <;> omega)
def tyV (K : PySem.W.Frag) (T : String) (x : V) (H : Hp) : Prop := match x with
  | .str _ => T = "str"
  | .int _ => T = "int"
  | .ref p => (T = "list" ∧ ∃ xs, SqL K H p xs) ∨ (T = "tuple" ∧ ∃ o, K.lookup p = some o ∧ o.cls = .type "tuple" ∧ o.dict = none) ∨
      (T = "dict" ∧ ((∃ kvs, H p = some (.dK kvs)) ∨ ∃ kvs, H p = some (.dT kvs))) ∨ (T = "set" ∧ ∃ S n, H p = some (.set S n))
  | _ => False
theorem tyV_is {pins : List (Addr × Obj)} {σ : St} {H : Hp} {s : Shared} {T : String} {x : V} {v : Value} (I : Inv X pins σ H s) (r : RelV x v) (ty : tyV X.K T x H) :
    s.TypeIs v T ∧ ∀ a, v = .ref a → ∃ ob, s.heap.get? a = some ob ∧ ob.dict = none := by
  cases x with
  | str z =>
    obtain ⟨t, rfl⟩ := r
    cases (show T = "str" from ty)
    exact ⟨typeIs_str s z t, fun _ e => nomatch e⟩
  | int i =>
    obtain ⟨t, rfl⟩ := r
    cases (show T = "int" from ty)
    exact ⟨typeIs_int s i t, fun _ e => nomatch e⟩
  | ref p =>
    cases r
    rcases ty with ⟨rfl, xs, hq⟩ | ⟨rfl, o, hk, hc, hd⟩ | ⟨rfl, hk⟩ | ⟨rfl, S, n, hk⟩
    · obtain ⟨its, _, pl, _⟩ := I.list hq
      refine ⟨pl.isList.typeIs, fun a e => ?_⟩
      cases e
      obtain ⟨o, n, e, c, hd, _⟩ := pl
      exact ⟨o, e, hd⟩
    · refine ⟨⟨o, I.kIn p o hk, hc⟩, fun a e => ?_⟩
      cases e
      exact ⟨o, I.kIn _ o hk, hd⟩
    · have z : ∃ o, s.heap.get? p = some o ∧ o.ExactDict := by
        rcases hk with ⟨kvs, hk⟩ | ⟨kvs, hk⟩
        · obtain ⟨_, _, _, _, o, _, _, e, ex, _⟩ := I.hok p _ hk
          exact ⟨o, e, ex⟩
        · obtain ⟨_, _, _, _, o, _, _, e, ex, _⟩ := I.hok p _ hk
          exact ⟨o, e, ex⟩
      obtain ⟨o, e, ex⟩ := z
      refine ⟨⟨o, e, ex.1⟩, fun a e2 => ?_⟩
      cases e2
      exact ⟨o, e, ex.2.1⟩
    · obtain ⟨o, _, _, _, e, ex, _⟩ := I.hok p _ hk
      refine ⟨⟨o, e, ex.1⟩, fun a e2 => ?_⟩
      cases e2
      exact ⟨o, e, ex.2.1⟩
  | _ => exact False.elim ty
def tBM (K : PySem.W.Frag) (T : String) (r : V → List V → Hp → VK → Prop) (to : TE) (t : TA) : TE := fun σ H Q => to σ H fun x H1 => tyV K T x H1 ∧ t σ H1 fun xs H2 => r x xs H2 Q
variable {o e : Expr} {es : List Expr} {to : TE} {t : TA} {name : Str} {apos cpos : Pos} {T id : String} {r : V → List V → Hp → VK → Prop}
theorem pe_bm (pa : PlainAttrs T) (slot : Slot T name id) (hty : typeOf (.builtin id) = pure (.type "method_descriptor")) (hm : MtR X id r) (ho : PE X o to) (ha : PA X (e :: es) t)
    (hbase : attributeBase o name X.env (eval o X.env) = eval o X.env := by rfl)
    (hfew : ((backTo cpos (starEach (e :: es) X.env)).all (fun x => !x.1) && (backToKw cpos (keywordEach [] X.env)).all (fun x => x.1.isSome)
      && decide ((e :: es).length + ([] : List Keyword).length + (if ([] : List Keyword).isEmpty then 0 else 1) < 30)) = true := by rfl)
    (hline : (apos.endLine == cpos.line) = true := by rfl) (hs : starEach (e :: es) X.env = (false, eval e X.env) :: starEach es X.env := by rfl) (hplain : (backTo cpos (starEach es X.env)).any (·.1) = false := by rfl) :
    PE X (.Call (.Attribute o name apos) (e :: es) [] cpos) (tBM X.K T r to t) := by
  intro pins s σ H Q I h
  refine wpAny_Call_method_late hbase hfew hline rfl (thn (ho pins s σ H _ I h) fun v s1 ⟨x, H1, I1, r1, ty, q1⟩ => ?_)
  obtain ⟨h1, h2⟩ := tyV_is I1 r1 ty
  refine ⟨T, id, pa, slot, hty, h1, h2, ?_⟩
  have hA := ha cpos pins s1 σ H1 _ I1 q1
  rw [hs] at hA ⊢
  refine Calls.callWith_builtin (by show (false || (backTo cpos (starEach es X.env)).any (·.1)) = false; rw [hplain] <;> rfl) (Calls.evalArgs_plain ?_)
  exact thn hA fun us s2 ⟨vs, H2, I2, r2, q2⟩ => hm pins s2 σ H2 x vs v us Q I2 r1 r2 q2
end
end L2
namespace L2
open PySem PySem.Spec PyProof.Rows
def MtM (X : Cx) (id : String) (r : V → List V → Hp → VK → Prop) : Prop :=
  ∀ (pins : List (Addr × Obj)) (s : Shared) (σ : St) (H : Hp) (x : V) (xs : List V) (v : Value) (us : List Value) (Q : VK), Inv X pins σ H s → RelV x v → Vals xs us → r x xs H Q →
    wpAny (model X.prog X.w) X.A (call (.builtin id) (v :: us)) (EP X pins σ Q) X.xe s
theorem Vals.one : ∀ {x : V} {us : List Value}, Vals [x] us → ∃ u, us = [u] ∧ RelV x u
  | _, _, .cons r .nil => ⟨_, rfl, r⟩
section
variable {X : Cx} {pins : List (Addr × Obj)} {σ : St} {H : Hp} {s : Shared} {l b : Addr} {xs ys zs : List V}
theorem Inv.lset {its its' : List Value} {n : Nat} {f : Array Value → Array Value} {t' : Nat} (I : Inv X pins σ H s) (hH : H l = some (.lst xs))
    (e : s.heap.get? l = some { cls := .type "list", data := .seq its.toArray n }) (hf : f its.toArray = its'.toArray) (hv : Vals ys its') (hz : ys.length ≤ sizeLine) :
    Inv X pins σ (upd H l (.lst ys)) { s with heap := s.heap.update l (Obj.mapSeq f), toks := t' } := by
  have q := PySem.IsL.update e f
  rw [hf] at q
  refine I.write (x := l) (e := l) (by rw [hH]; exact trivial) (.inl rfl) (fun b' u hb hu => (Heap.get?_update_other s.heap (Obj.mapSeq f) (Ne.symm hb)).trans hu) ⟨_, q⟩ ?_
  exact ⟨hz, its', _, hv, q⟩
theorem Inv.lnew {its : List Value} {t' : Nat} (I : Inv X pins σ H s) (hv : Vals ys its) (hz : ys.length ≤ sizeLine) :
    Inv X pins σ (upd H s.heap.objs.size (.lst ys)) { s with heap := s.heap.push { cls := .type "list", data := .seq its.toArray }, toks := t' } :=
  I.laid (fun _ _ q => Heap.get?_push_of_some _ q) (Nat.le_refl _) ⟨hz, its, 0, hv, Heap.get?_push_size _ rfl⟩
theorem Inv.fresh (I : Inv X pins σ H s) : H s.heap.objs.size = none := I.hok.fresh (Nat.le_refl _)
theorem Inv.lstM (I : Inv X pins σ H s) (hH : H l = some (.lst xs)) : xs.length ≤ sizeLine ∧ ∃ (its : List Value) (n : Nat), Vals xs its ∧ xs.length = its.length ∧ s.heap.get? l = some { cls := .type "list", data := .seq its.toArray n } := by
  obtain ⟨z, its, n, r, e⟩ := I.hok l _ hH
  exact ⟨z, its, n, r, r.length, e⟩
theorem notLongL {n : Nat} (h : n ≤ sizeLine) : Builtin.List.listTooLong n = false := by
  unfold Builtin.List.listTooLong
  exact decide_eq_false (by omega)
end
section
variable {X : Cx}
inductive QRAppend (x : V) (vs : List V) (H : Hp) (Q : VK) : Prop
  | mk (l : _) (xs : _) (y : _) (h1 : x = .ref l) (h2 : vs = [y]) (h3 : H l = some (.lst xs)) (h4 : xs.length < sizeLine) (q : Q .non (upd H l (.lst (xs ++ [y])))) : QRAppend x vs H Q
def rAppend : V → List V → Hp → VK → Prop := fun x vs H Q => QRAppend x vs H Q
theorem mt_append : MtM X "list.append" rAppend := by
  intro pins s σ H x vs v us Q I rx rv h
  obtain ⟨l, xs, y, rfl, rfl, hH, hz, q⟩ := h
  cases rx
  obtain ⟨u, rfl, ru⟩ := rv.one
  obtain ⟨z, its, n, r, hl, e⟩ := I.lstM hH
  refine call_meets F.slot_list_append ⟨_, e, rfl⟩ F.entry_list_append (F.args_list_append_2 _ _) (PySem.list_append l its.toArray n u (by rw [List.size_toArray]; omega)) ⟨e, ?_⟩
  refine ⟨.non, _, I.lset (its' := its ++ [u]) hH e (by simp) (r.append (.cons ru .nil)) ?_, rfl, q⟩
  rw [List.length_append, List.length_singleton]
  omega
inductive QRExtend (x : V) (vs : List V) (H : Hp) (Q : VK) : Prop
  | mk (l : _) (b : _) (xs : _) (zs : _) (h1 : x = .ref l) (h2 : vs = [.ref b]) (h3 : H l = some (.lst xs)) (h4 : H b = some (.lst zs)) (h5 : xs.length + zs.length ≤ sizeLine) (q : Q .non (upd H l (.lst (xs ++ zs)))) : QRExtend x vs H Q
def rExtend : V → List V → Hp → VK → Prop := fun x vs H Q => QRExtend x vs H Q
theorem mt_extend : MtM X "list.extend" rExtend := by
  intro pins s σ H x vs v us Q I rx rv h
  obtain ⟨l, b, xs, zs, rfl, rfl, hH, hB, hz, q⟩ := h
  cases rx
  obtain ⟨u, rfl, ru⟩ := rv.one
  cases ru
  obtain ⟨z, its, n, r, hl, e⟩ := I.lstM hH
  obtain ⟨z2, its2, n2, r2, hl2, e2⟩ := I.lstM hB
  have hsz : its.toArray.size + its2.toArray.size ≤ sizeLine := by rw [List.size_toArray, List.size_toArray]; omega
  have hlong : ¬ (!its.toArray.isEmpty && Builtin.List.listTooLong (its.toArray.size + its2.toArray.size)) = true := by
    rw [notLongL hsz, Bool.and_false]
    exact Bool.false_ne_true
  refine call_meets F.slot_list_extend ⟨_, e, rfl⟩ F.entry_list_extend (F.args_list_extend_2 _ _)
    (AutoSeq1.list_extend_list_list_0 l its.toArray n b its2.toArray n2 hlong (by rw [List.size_toArray]; omega) (by omega)) ⟨e, e2, ?_⟩
  refine ⟨.non, _, I.lset (its' := its ++ its2) hH e (by simp) (r.append r2) ?_, rfl, q⟩
  rw [List.length_append]
  omega
inductive QRCat (x y : V) (H : Hp) (Q : VK) : Prop
  | mk (l : _) (b : _) (xs : _) (zs : _) (h1 : x = .ref l) (h2 : y = .ref b) (h3 : H l = some (.lst xs)) (h4 : H b = some (.lst zs)) (h5 : xs.length + zs.length ≤ sizeLine) (q : ∀ p, H p = none → Q (.ref p) (upd H p (.lst (xs ++ zs)))) : QRCat x y H Q
def rCat : R2 := fun x y H Q => QRCat x y H Q
theorem op_cat : OpR X (binaryOp .Add) rCat := by
  intro pins s σ H x y v u Q I rx ry h
  obtain ⟨l, b, xs, zs, rfl, rfl, hH, hB, hz, q⟩ := h
  cases rx
  cases ry
  obtain ⟨z, its, n, r, hl, e⟩ := I.lstM hH
  obtain ⟨z2, its2, n2, r2, hl2, e2⟩ := I.lstM hB
  refine PySem.P.add_list e e2 ?_ (by rw [List.size_toArray, List.size_toArray]; omega)
  have ea : its.toArray ++ its2.toArray = (its ++ its2).toArray := by simp
  rw [ea]
  exact ⟨.ref _, _, I.lnew (t' := s.toks) (r.append r2) (by rw [List.length_append]; omega), rfl, q _ I.fresh⟩
end
section
variable {prog : Program} {w : World} {A : Around} {E : Value → Shared → Prop} {s : Shared}
end
section
variable {X : Cx}
end
end L2
namespace L2
open PySem PySem.Spec PyProof.Rows
theorem Vals.ints : ∀ {ns : List Int} {us : List Value}, Vals (ns.map V.int) us → IntsAre us ns
  | [], us, h => by
    rw [List.map_nil] at h
    cases h
    exact IntsAre.nil
  | n :: ns, us, h => by
    rw [List.map_cons] at h
    cases h with
    | cons r t =>
      obtain ⟨k, rfl⟩ := r
      exact IntsAre.cons n k (Vals.ints t)
theorem Vals.ref1 {a : Addr} {us : List Value} (r : Vals [V.ref a] us) : us = [Value.ref a] := by
  cases r with
  | cons r t =>
    cases t
    cases r
    rfl
section
variable {prog : Program} {w : World} {A : Around} {E : Value → Shared → Prop} {s : Shared} {l : Addr} {its : List Value} {ns : List Int} {Q : Value → Shared → Prop}
theorem sum_raw (hh : A.handled = none) (hl : s.heap.IsList l its.toArray) (hi : IntsAre its ns)
    (h : ∀ h' tk t', (∀ b o, s.heap.get? b = some o → h'.get? b = some o) → Q (.int ns.sum t') { s with heap := h', toks := tk }) : wpAny (model prog w) A (call (.builtin "sum") [.ref l]) Q E s := by
  obtain ⟨xs, e⟩ := hi.allInts.items
  have hn : numsOf (intItems xs).toList = ns := by rw [← e]; exact hi.numsOf
  rw [nums_intItems] at hn
  rw [e] at hl
  refine PySem.sum_intListG hh hl fun h' tk t' hk => ?_
  have := h h' tk t' hk
  rw [preSum_eq, List.take_of_length_le (by simp), hn]; exact this
theorem max_raw (hh : A.handled = none) (hl : s.heap.IsList l its.toArray) (hi : IntsAre its ns) (hne : 0 < ns.length)
    (h : ∀ h' tk M t', (∀ b o, s.heap.get? b = some o → h'.get? b = some o) → M ∈ ns → (∀ a, a ∈ ns → a ≤ M) → Q (.int M t') { s with heap := h', toks := tk }) : wpAny (model prog w) A (call (.builtin "max") [.ref l]) Q E s := by
  obtain ⟨xs, e⟩ := hi.allInts.items
  have hn : numsOf (intItems xs).toList = ns := by rw [← e]; exact hi.numsOf
  rw [nums_intItems] at hn
  subst hn
  rw [e] at hl
  have hsz : 0 < xs.size := by simpa using hne
  refine PySem.max_intList hh hl hsz fun v h' tk hv hk => ?_
  obtain ⟨t, rfl⟩ := intItems_at hv
  obtain ⟨h1, h2⟩ := argBest_gt (numAt xs) (xs.size - 1)
  refine h h' tk _ t hk ?_ fun a ha => ?_
  · rw [numAt_eq]; exact PySem.getD_mem (by rw [List.length_map, Array.length_toList]; omega)
  · obtain ⟨j, hj, rfl⟩ := mem_getD ha
    rw [List.length_map, Array.length_toList] at hj
    rw [← numAt_eq]; exact h2 j (by omega)
end
section
variable {X : Cx}
inductive QRSum (K : PySem.W.Frag) (vs : List V) (H : Hp) (Q : VK) : Prop
  | mk (a : Addr) (ns : List Int) (h1 : vs = [V.ref a]) (h2 : SqL K H a (ns.map V.int)) (q : Q (.int ns.sum) H) : QRSum K vs H Q
def rSum (K : PySem.W.Frag) : List V → Hp → VK → Prop := fun vs H Q => QRSum K vs H Q
inductive QRMax (K : PySem.W.Frag) (vs : List V) (H : Hp) (Q : VK) : Prop
  | mk (a : Addr) (ns : List Int) (h1 : vs = [V.ref a]) (h2 : SqL K H a (ns.map V.int)) (h3 : 0 < ns.length) (q : ∀ m, m ∈ ns → (∀ y, y ∈ ns → y ≤ m) → Q (.int m) H) : QRMax K vs H Q
def rMax (K : PySem.W.Frag) : List V → Hp → VK → Prop := fun vs H Q => QRMax K vs H Q
theorem cr_sum (hc : X.calm = true) : CallR X (.builtin "sum") (rSum X.K) := by
  intro pins s σ H vs us Q I r h
  obtain ⟨a, ns, rfl, hs, q⟩ := h
  obtain ⟨its, rv, hl, _⟩ := I.list hs
  rw [Vals.ref1 r]
  exact sum_raw (I.ok.hd hc) hl.isList rv.ints fun h' tk t' hk => ⟨.int _, H, I.kept hk, ⟨_, rfl⟩, q⟩
theorem cr_max (hc : X.calm = true) : CallR X (.builtin "max") (rMax X.K) := by
  intro pins s σ H vs us Q I r h
  obtain ⟨a, ns, rfl, hs, hne, q⟩ := h
  obtain ⟨its, rv, hl, _⟩ := I.list hs
  rw [Vals.ref1 r]
  exact max_raw (I.ok.hd hc) hl.isList rv.ints hne fun h' tk m t' hk h1 h2 => ⟨.int _, H, I.kept hk, ⟨_, rfl⟩, q m h1 h2⟩
end
section
variable {X : Cx}
inductive QRIndex (K : PySem.W.Frag) (x : V) (xs : List V) (H : Hp) (Q : VK) : Prop
  | mk (a : Addr) (ys : List V) (y : V) (j : Nat) (z : V) (h1 : x = V.ref a) (h2 : xs = [y]) (h3 : SqL K H a ys) (h4 : flatV y = true) (h5 : ys.all flatV = true) (h6 : ys[j]? = some z) (h7 : eqV z y = true) (h8 : (∀ (m : Nat) (z' : V), m < j → ys[m]? = some z' → eqV z' y = false)) (q : Q (.int (j : Nat)) H) : QRIndex K x xs H Q
def rIndex (K : PySem.W.Frag) : V → List V → Hp → VK → Prop := fun x xs H Q => QRIndex K x xs H Q
theorem flat_at {ys : List V} (f : ys.all flatV = true) {j : Nat} {z : V} (h : ys[j]? = some z) : flatV z = true := List.all_eq_true.mp f z (List.mem_of_getElem? h)
theorem mt_index : MtR X "list.index" (rIndex X.K) := by
  intro pins s σ H x xs v us Q I rx rxs h
  obtain ⟨a, ys, y, j, z, rfl, rfl, hs, fy, fys, hz, hzj, hno, q⟩ := h
  cases rx
  cases rxs with
  | cons ry rt =>
    rename_i uy ut
    cases rt
    obtain ⟨its, rv, ⟨⟨cls, dd, data, sl⟩, n, ho, hc, hdn, hd⟩, hlen⟩ := I.list hs
    simp only at hc hd
    subst hc hd
    obtain ⟨u, hu, ru⟩ := rv.get hz
    obtain ⟨hjl, hje⟩ := List.getElem?_eq_some_iff.mp hu
    have hvl := rv.length
    have hj : j < its.toArray.size := by simpa using hjl
    have hsl := sizeLine_eq
    refine call_meets PySem.F.slot_list_index ⟨_, ho, rfl⟩ PySem.F.entry_list_index (PySem.F.args_list_index_2 _ _)
      (SeqAt.list_indexAt a its.toArray n dd sl uy (eqU y) j hj (by omega) ?_ ?_) ⟨ho, fun u' hu' => mem_eqAt ry fy rv fys u' (by simpa using hu'), ?_⟩
    · have e1 : its.toArray[j] = u := by simpa using hje
      rw [e1, eqU_of ru (flat_at fys hz)]
      exact hzj
    · intro m hm hmj
      have hml : m < its.length := by simpa using hm
      have hmy : m < ys.length := by omega
      have hy' : ys[m]? = some ys[m] := List.getElem?_eq_getElem hmy
      obtain ⟨u2, hu2, ru2⟩ := rv.get hy'
      obtain ⟨_, hme⟩ := List.getElem?_eq_some_iff.mp hu2
      have e1 : its.toArray[m] = u2 := by simpa using hme
      rw [e1, eqU_of ru2 (flat_at fys hy')]
      exact hno m _ hmj hy'
    · exact ⟨.int (j : Nat), H, I.tok _, ⟨_, rfl⟩, q⟩
end
section
variable {X : Cx}
end
section
variable {X : Cx}
end
mutual
inductive Dp (K : PySem.W.Frag) (H : Hp) : V → PyData → Prop
  | non : Dp K H .non .none
  | bl (b : Bool) : Dp K H (.bl b) (.bool b)
  | int (i : Int) : Dp K H (.int i) (.int i)
  | str (x : Str) : Dp K H (.str x) (.str x)
  | lst {a : Addr} {xs : List V} {ds : List PyData} : SqL K H a xs → DpAll K H xs ds → Dp K H (.ref a) (.list ds)
  | tup {a : Addr} {xs : List V} {ds : List PyData} : SqT K H a xs → DpAll K H xs ds → Dp K H (.ref a) (.tuple ds)
inductive DpAll (K : PySem.W.Frag) (H : Hp) : List V → List PyData → Prop
  | nil : DpAll K H [] []
  | cons {v : V} {vs : List V} {d : PyData} {ds : List PyData} : Dp K H v d → DpAll K H vs ds → DpAll K H (v :: vs) (d :: ds)
end
section
variable {X : Cx} {pins : List (Addr × Obj)} {σ : St} {H : Hp} {s : Shared}
mutual
theorem Dp.reads (I : Inv X pins σ H s) : ∀ (d : PyData) (v : V) (u : Value), Dp X.K H v d → RelV v u → ∃ as, Reads s.heap u d as
  | .none, _, _, h, r => by
    cases h
    cases r
    exact ⟨_, Reads.none⟩
  | .bool b, _, _, h, r => by
    cases h
    cases r
    exact ⟨_, Reads.bool b⟩
  | .int i, _, _, h, r => by
    cases h
    obtain ⟨t, rfl⟩ := r
    exact ⟨_, Reads.int i t⟩
  | .str x, _, _, h, r => by
    cases h
    obtain ⟨t, rfl⟩ := r
    exact ⟨_, Reads.str x t⟩
  | .list ds, _, _, h, r => by
    cases h with
    | lst hs ha =>
      cases r
      obtain ⟨its, rv, ⟨o, n, ho, hc, _, hd⟩, _⟩ := I.list hs
      obtain ⟨as, hr⟩ := Dp.readsAll I ds _ its ha rv
      exact ⟨_, Reads.list ho hc hd hr⟩
  | .tuple ds, _, _, h, r => by
    cases h with
    | tup hs ha =>
      cases r
      obtain ⟨its, rv, ⟨o, ho, hc, n, hd⟩, _⟩ := I.tuple hs
      obtain ⟨as, hr⟩ := Dp.readsAll I ds _ its ha rv
      exact ⟨_, Reads.tuple ho hc hd hr⟩
  | .dict _, _, _, h, _ => by cases h
theorem Dp.readsAll (I : Inv X pins σ H s) : ∀ (ds : List PyData) (vs : List V) (us : List Value), DpAll X.K H vs ds → Vals vs us → ∃ as, ReadsAll s.heap us ds as
  | [], _, _, h, r => by
    cases h
    cases r
    exact ⟨_, ReadsAll.nil⟩
  | d :: ds, _, _, h, r => by
    cases h with
    | cons h1 h2 =>
      cases r with
      | cons r1 r2 =>
        obtain ⟨as, q1⟩ := Dp.reads I d _ _ h1 r1
        obtain ⟨bs, q2⟩ := Dp.readsAll I ds _ _ h2 r2
        exact ⟨_, ReadsAll.cons q1 q2⟩
end
end
section
variable {X : Cx}
inductive QREqD (K : PySem.W.Frag) (x y : V) (H : Hp) (Q : VK) : Prop
  | mk (d : _) (e : _) (h1 : Dp K H x d) (h2 : Dp K H y e) (h3 : SeqAt.shaped d = true) (h4 : SeqAt.shaped e = true) (q : Q (.bl (PyData.eqv d e)) H) : QREqD K x y H Q
def rEqD (K : PySem.W.Frag) : R2 := fun x y H Q => QREqD K x y H Q
inductive QRNeD (K : PySem.W.Frag) (x y : V) (H : Hp) (Q : VK) : Prop
  | mk (d : _) (e : _) (h1 : Dp K H x d) (h2 : Dp K H y e) (h3 : SeqAt.shaped d = true) (h4 : SeqAt.shaped e = true) (q : Q (.bl (!PyData.eqv d e)) H) : QRNeD K x y H Q
def rNeD (K : PySem.W.Frag) : R2 := fun x y H Q => QRNeD K x y H Q
theorem op_eqD (hu : X.A.units + 64 < cLine) : OpR X (compareOp .Eq) (rEqD X.K) := by
  intro pins s σ H x y v u Q I rx ry h
  obtain ⟨d, e, hd, he, sd, se, q⟩ := h
  obtain ⟨as, r1⟩ := Dp.reads I d x v hd rx
  obtain ⟨bs, r2⟩ := Dp.reads I e y u he ry
  exact SeqAt.compareEq_shaped r1 r2 sd se hu ⟨.bl _, H, I, rfl, q⟩
theorem op_neD (hu : X.A.units + 64 < cLine) : OpR X (compareOp .NotEq) (rNeD X.K) := by
  intro pins s σ H x y v u Q I rx ry h
  obtain ⟨d, e, hd, he, sd, se, q⟩ := h
  obtain ⟨as, r1⟩ := Dp.reads I d x v hd rx
  obtain ⟨bs, r2⟩ := Dp.reads I e y u he ry
  exact SeqAt.compareNe_shaped r1 r2 sd se hu ⟨.bl _, H, I, rfl, q⟩
end
end L2
namespace L2
open PySem PySem.Spec PyProof.Rows
abbrev CellAt (h : Heap) (c : Addr) (v : Option Value) : Prop := h.IsCell c v
def relS (scope sc : Scope) : Scope :=
  { scope with names := scope.names.map fun (n, k) => if (k == .free && sc.kind == .function && sc.names.lookup n == some .cell) then (n, .cell) else (n, k) }
def cloFrom (cells : List (Str × Addr)) : List (Str × NameKind) → List (Str × Addr) → List (Str × Addr)
  | [], acc => acc
  | (n, k) :: r, acc => if k == .free then cloFrom cells r ((n, (cells.lookup n).getD 0) :: acc) else cloFrom cells r acc
theorem closure_loop (env : Env) (f : Str × NameKind → List (Str × Addr) → Sem (ForInStep (List (Str × Addr))))
    (hf : ∀ n k c, f (n, k) c = if k == .free then (do let a ← cellOf env n; pure (.yield ((n, a) :: c))) else pure (.yield c)) :
    ∀ (names : List (Str × NameKind)) (acc : List (Str × Addr)), (∀ y ∈ names, y.2 = .free → ∃ c, env.cells.lookup y.1 = some c) → forIn names acc f = pure (cloFrom env.cells names acc)
  | [], acc, _ => by rw [List.forIn_nil]; rfl
  | (n, k) :: r, acc, h => by
    rw [List.forIn_cons, hf]
    have ih := fun acc => closure_loop env f hf r acc fun y hy => h y (List.mem_cons_of_mem _ hy)
    unfold cloFrom
    by_cases hk : (k == NameKind.free) = true
    · rw [if_pos hk, if_pos hk]
      obtain ⟨c, hc⟩ := h (n, k) List.mem_cons_self (by simpa using hk)
      have e : cellOf env n = pure c := by unfold cellOf; rw [hc]
      rw [e]
      have e2 : (env.cells.lookup n).getD 0 = c := by rw [hc]; rfl
      rw [e2]
      exact ih _
    · rw [if_neg hk, if_neg hk]
      exact ih _
theorem closure_ok {scope : Scope} {env : Env} (h : ∀ y ∈ scope.names, y.2 = .free → ∃ c, env.cells.lookup y.1 = some c) : closureFor scope env = pure (cloFrom env.cells scope.names []) := by
  simp only [closureFor]
  rw [closure_loop env _ (fun n k c => rfl) scope.names [] h]
  rfl
theorem mem_lookup {α : Type} : ∀ {l : List (Str × α)} {n : Str} {c : α}, (n, c) ∈ l → ∃ c', l.lookup n = some c'
  | (k, v) :: r, n, c, h => by
    rw [List.lookup_cons]
    cases hb : n == k with
    | true => exact ⟨_, rfl⟩
    | false =>
      rcases List.mem_cons.mp h with e | h
      · cases e; simp at hb
      · exact mem_lookup h
theorem cloFrom_mem {cells : List (Str × Addr)} : ∀ {names : List (Str × NameKind)} {acc : List (Str × Addr)} {n : Str} {c : Addr}, (n, c) ∈ cloFrom cells names acc → (n, c) ∈ acc ∨ ((n, .free) ∈ names ∧ c = (cells.lookup n).getD 0)
  | [], _, _, _, h => .inl h
  | (m, k) :: r, acc, n, c, h => by
    unfold cloFrom at h
    split at h
    · rename_i hk
      have hk : k = .free := by simpa using hk
      rcases cloFrom_mem h with h | ⟨h1, h2⟩
      · rcases List.mem_cons.mp h with e | h
        · cases e; exact .inr ⟨hk ▸ List.mem_cons_self, rfl⟩
        · exact .inl h
      · exact .inr ⟨List.mem_cons_of_mem _ h1, h2⟩
    · rcases cloFrom_mem h with h | ⟨h1, h2⟩
      · exact .inl h
      · exact .inr ⟨List.mem_cons_of_mem _ h1, h2⟩
theorem cloFrom_acc {cells : List (Str × Addr)} : ∀ {names : List (Str × NameKind)} {acc : List (Str × Addr)} {p : Str × Addr}, p ∈ acc → p ∈ cloFrom cells names acc
  | [], _, _, h => h
  | (m, k) :: r, acc, p, h => by
    unfold cloFrom
    split
    · exact cloFrom_acc (List.mem_cons_of_mem _ h)
    · exact cloFrom_acc h
theorem cloFrom_has {cells : List (Str × Addr)} : ∀ {names : List (Str × NameKind)} {acc : List (Str × Addr)} {n : Str}, (n, .free) ∈ names → (n, (cells.lookup n).getD 0) ∈ cloFrom cells names acc
  | (m, k) :: r, acc, n, h => by
    unfold cloFrom
    rcases List.mem_cons.mp h with e | h
    · cases e
      exact cloFrom_acc List.mem_cons_self
    · split
      · exact cloFrom_has h
      · exact cloFrom_has h
theorem cells_mem : ∀ {names : List (Str × NameKind)} {h : Heap} {acc : List (Str × Addr)} {x : Str} {c : Addr}, (x, c) ∈ cellsFrom h.objs.size names acc →
    (x, c) ∈ acc ∨ ((x, .cell) ∈ names ∧ h.objs.size ≤ c ∧ CellAt (pushCells h names) c none)
  | [], _, _, _, _, h => .inl h
  | (n, k) :: r, h, acc, x, c, hm => by
    unfold cellsFrom at hm
    unfold pushCells
    split at hm
    · rename_i hk
      rw [if_pos hk]
      have hk : k = .cell := by simpa using hk
      rw [← Heap.size_push h { cls := .type "cell", data := .cell none }] at hm
      rcases cells_mem hm with hm | ⟨h1, h2, h3⟩
      · rcases List.mem_cons.mp hm with e | hm
        · cases e
          exact .inr ⟨hk ▸ List.mem_cons_self, Nat.le_refl _, _, pushCells_keeps r _ _ _ (Heap.get?_push_size _ rfl), rfl⟩
        · exact .inl hm
      · rw [Heap.size_push] at h2
        exact .inr ⟨List.mem_cons_of_mem _ h1, Nat.le_of_succ_le h2, h3⟩
    · rename_i hk
      rw [if_neg hk]
      rcases cells_mem hm with hm | ⟨h1, h2, h3⟩
      · exact .inl hm
      · exact .inr ⟨List.mem_cons_of_mem _ h1, h2, h3⟩
theorem cells_acc : ∀ {names : List (Str × NameKind)} {n : Nat} {acc : List (Str × Addr)} {p : Str × Addr}, p ∈ acc → p ∈ cellsFrom n names acc
  | [], _, _, _, h => h
  | (m, k) :: r, n, acc, p, h => by
    unfold cellsFrom
    split
    · exact cells_acc (List.mem_cons_of_mem _ h)
    · exact cells_acc h
theorem cells_has : ∀ {names : List (Str × NameKind)} {n : Nat} {acc : List (Str × Addr)} {x : Str}, (x, .cell) ∈ names → ∃ c, (x, c) ∈ cellsFrom n names acc
  | (m, k) :: r, n, acc, x, h => by
    unfold cellsFrom
    rcases List.mem_cons.mp h with e | h
    · cases e
      exact ⟨n, cells_acc List.mem_cons_self⟩
    · split
      · exact cells_has h
      · exact cells_has h
theorem cells_inj : ∀ {names : List (Str × NameKind)} {h : Heap} {acc : List (Str × Addr)} {x y : Str} {c : Addr}, (∀ p ∈ acc, p.2 < h.objs.size) → (∀ x y c, (x, c) ∈ acc → (y, c) ∈ acc → x = y) →
    (x, c) ∈ cellsFrom h.objs.size names acc → (y, c) ∈ cellsFrom h.objs.size names acc → x = y
  | [], _, _, _, _, _, _, hi, h1, h2 => hi _ _ _ h1 h2
  | (n, k) :: r, h, acc, x, y, c, hl, hi, h1, h2 => by
    unfold cellsFrom at h1 h2
    split at h1
    · rename_i hk
      rw [if_pos hk] at h2
      rw [← Heap.size_push h { cls := .type "cell", data := .cell none }] at h1 h2
      refine cells_inj (h := h.push _) (fun p hp => ?_) (fun x y c a b => ?_) h1 h2
      · rw [Heap.size_push]
        rcases List.mem_cons.mp hp with rfl | hp
        · exact Nat.lt_succ_self _
        · exact Nat.lt_succ_of_lt (hl p hp)
      · rcases List.mem_cons.mp a with e | a <;> rcases List.mem_cons.mp b with e' | b
        · cases e; cases e'; rfl
        · cases e; exact absurd (hl _ b) (Nat.lt_irrefl _)
        · cases e'; exact absurd (hl _ a) (Nat.lt_irrefl _)
        · exact hi _ _ _ a b
    · rename_i hk
      rw [if_neg hk] at h2
      exact cells_inj hl hi h1 h2
theorem newEnv_comp {M : Model} {A : Around} {E : Value → Shared → Prop} {s : Shared} {scope : Scope} {globals : Addr} {closure : List (Str × Addr)} {qual : Str} {func : Option Addr} {code : Value} {around : Env} {builtins : Addr} {Q : Env → Shared → Prop}
    (h : Q (newEnv scope s.heap.objs.size globals (cellsFrom (s.heap.objs.size + 1) scope.names closure) qual func code (some around) builtins)
      { s with heap := pushCells (s.heap.push { cls := .type "dict", data := .dict #[] }) scope.names }) :
    wpAny M A (newFunctionEnv scope globals closure [] qual func code (some around) builtins) Q E s := by
  simp only [newFunctionEnv, Option.isSome_some, if_true]
  refine wpAny_bind (wpAny_alloc ?_)
  refine wpAny_bind (wpAny_layCells _ (fun n k c => rfl) scope.names closure _ _ ?_)
  rw [show ({ s with heap := s.heap.push { cls := .type "dict", data := .dict #[] } } : Shared).heap.objs.size = s.heap.objs.size + 1 from Heap.size_push ..]
  rw [List.forIn_nil]
  exact wpAny_bind (wpAny_pure (wpAny_pure h))
theorem lookup_relS {sc : Scope} : ∀ {names : List (Str × NameKind)} {x : Str} {k : NameKind},
    (names.map fun (n, k) => if (k == NameKind.free && sc.kind == .function && sc.names.lookup n == some .cell) then (n, NameKind.cell) else (n, k)).lookup x = some k →
    ∃ k', names.lookup x = some k' ∧ (k = k' ∨ (k' = .free ∧ k = .cell))
  | [], _, _, h => by simp at h
  | (n, k₀) :: r, x, k, h => by
    have ih := @lookup_relS sc r x k
    have h' : List.lookup x ((if (k₀ == NameKind.free && sc.kind == .function && sc.names.lookup n == some .cell) = true then (n, NameKind.cell) else (n, k₀)) :: (r.map _)) = some k := h
    cases hx : x == n with
    | true =>
      simp only [List.lookup_cons, hx]
      by_cases hc : (k₀ == NameKind.free && sc.kind == .function && sc.names.lookup n == some .cell) = true
      · rw [if_pos hc] at h'
        simp only [List.lookup_cons, hx] at h'
        cases h'
        simp only [Bool.and_eq_true, beq_iff_eq] at hc
        exact ⟨k₀, rfl, .inr ⟨hc.1.1, rfl⟩⟩
      · rw [if_neg hc] at h'
        simp only [List.lookup_cons, hx] at h'
        cases h'
        exact ⟨_, rfl, .inl rfl⟩
    | false =>
      simp only [List.lookup_cons, hx]
      by_cases hc : (k₀ == NameKind.free && sc.kind == .function && sc.names.lookup n == some .cell) = true
      · rw [if_pos hc] at h'
        simp only [List.lookup_cons, hx] at h'
        exact ih h'
      · rw [if_neg hc] at h'
        simp only [List.lookup_cons, hx] at h'
        exact ih h'
structure BlkOk (N : List Str) (sc scope : Scope) (own : List (Str × Nat)) : Prop where
  kind : scope.kind = .function
  uniq : ∀ y ∈ scope.names, scope.names.lookup y.1 = some y.2
  ix : ∀ p ∈ own, N[p.2]? = some p.1
  free : ∀ y ∈ scope.names, y.2 = .free → sc.names.lookup y.1 = some .cell ∨ sc.names.lookup y.1 = some .free
  own : ∀ y ∈ scope.names, y.2 = .local ∨ y.2 = .cell → y.1 ∈ own.map (·.1) ∨ y.1 ∉ N
def wipe (σ : St) : List Nat → St
  | [] => σ
  | v :: vs => (wipe σ vs).set v none
theorem wipe_length (σ : St) : ∀ vs : List Nat, (wipe σ vs).length = σ.length
  | [] => rfl
  | v :: vs => by unfold wipe; rw [List.length_set, wipe_length σ vs]
theorem wipe_some {σ : St} {i : Nat} {x : V} : ∀ {vs : List Nat}, (wipe σ vs)[i]? = some (some x) → σ[i]? = some (some x) ∧ i ∉ vs
  | [], h => ⟨h, by simp⟩
  | v :: vs, h => by
    unfold wipe at h
    by_cases hi : v = i
    · subst hi
      by_cases hv : v < (wipe σ vs).length
      · rw [List.getElem?_set_self hv] at h; cases h
      · rw [List.getElem?_eq_none (by simpa using hv)] at h; cases h
    · rw [List.getElem?_set_ne hi] at h
      obtain ⟨h1, h2⟩ := wipe_some h
      exact ⟨h1, by simp only [List.mem_cons, not_or]; exact ⟨fun e => hi e.symm, h2⟩⟩
abbrev Cx.blk (X : Cx) (s : Shared) (H : Hp) (scope : Scope) (cenv : Env) (fp : List Addr) : Cx := { X with s_0 := s, H_0 := H, env := cenv, outer := X.stack, ex := fp, fn := fun x => scope.names.lookup x == some .cell, pn := [], xe := fun _ _ => False }
section
variable {X : Cx} {pins : List (Addr × Obj)} {σ : St} {H : Hp} {s : Shared}
theorem block_start {scope : Scope} {own : List (Str × Nat)} {fp : List Addr} (I : Inv X pins σ H s) (ok : BlkOk X.N X.env.scope scope own) (hN : X.N.Nodup) (hfp : ∀ b ∈ fp, FpOk X pins H b ∧ b < s.heap.objs.size) :
    Inv (X.blk s H scope (compEnvC scope (cellsFrom (s.heap.objs.size + 1) scope.names (cloFrom X.env.cells scope.names [])) s.heap.objs.size X.env) fp) [] (wipe σ (own.map (·.2))) H { s with heap := pushCells (s.heap.push { cls := .type "dict", data := .dict #[] }) scope.names } := by
  have hfree : ∀ y ∈ scope.names, y.2 = .free → ∃ c, X.env.cells.lookup y.1 = some c := fun y hy e => by
    rcases ok.free y hy e with k | k
    · exact I.ok.has _ (.inl k)
    · exact I.ok.has _ (.inr k)
  generalize hcenv : compEnvC scope (cellsFrom (s.heap.objs.size + 1) scope.names (cloFrom X.env.cells scope.names [])) s.heap.objs.size X.env = cenv
  have kp : ∀ b o, s.heap.get? b = some o → (pushCells (s.heap.push { cls := .type "dict", data := .dict #[] }) scope.names).get? b = some o := fun b o e => pushCells_keeps _ _ _ _ (Heap.get?_push_of_some _ e)
  have hL : cenv.locals = s.heap.objs.size := by rw [← hcenv]; rfl
  have hcl : cenv.cells = cellsFrom (s.heap.objs.size + 1) scope.names (cloFrom X.env.cells scope.names []) := by rw [← hcenv]; rfl
  have hsc : cenv.scope = relS scope X.env.scope := by rw [← hcenv]; rfl
  rw [← Heap.size_push s.heap { cls := .type "dict", data := .dict #[] }] at hcl
  have cm : ∀ {y c}, (y, c) ∈ cloFrom X.env.cells scope.names [] → X.env.cells.lookup y = some c ∧ c < s.heap.objs.size := fun {y c} hm => by
    rcases cloFrom_mem hm with hm | ⟨h1, rfl⟩
    · cases hm
    · obtain ⟨c, hc⟩ := hfree _ h1 rfl
      rw [hc]
      obtain ⟨w, z⟩ := I.cell _ _ hc
      exact ⟨rfl, z.lt⟩
  have mem : ∀ {y c}, cenv.cells.lookup y = some c → (X.env.cells.lookup y = some c ∧ c < s.heap.objs.size) ∨ (s.heap.objs.size + 1 ≤ c ∧ CellAt (pushCells (s.heap.push { cls := .type "dict", data := .dict #[] }) scope.names) c none) := fun {y c} e => by
    rw [hcl] at e
    rcases cells_mem (PySem.mem_of_lookup e) with hm | ⟨_, h2, h3⟩
    · exact .inl (cm hm)
    · rw [Heap.size_push] at h2; exact .inr ⟨h2, h3⟩
  have look : ∀ {y}, scope.names.lookup y = some .free → ∃ c, cenv.cells.lookup y = some c ∧ X.env.cells.lookup y = some c := fun {y} hl => by
    have hy : (y, NameKind.free) ∈ scope.names := PySem.mem_of_lookup hl
    obtain ⟨c', e'⟩ := mem_lookup (cells_acc (names := scope.names) (n := (s.heap.push { cls := .type "dict", data := .dict #[] }).objs.size) (cloFrom_has (cells := X.env.cells) (acc := []) hy))
    rw [← hcl] at e'
    refine ⟨c', e', ?_⟩
    rw [hcl] at e'
    rcases cells_mem (PySem.mem_of_lookup e') with hm | ⟨h1, _, _⟩
    · exact (cm hm).1
    · have := ok.uniq _ h1
      rw [hl] at this; cases this
  have okB : (X.blk s H scope cenv fp).Ok := by
    refine ⟨I.ok.mod, by show cenv.scope.kind = _; rw [hsc]; exact ok.kind, by show cenv.globals = _; rw [← hcenv]; exact I.ok.glob, by show cenv.builtins = _; rw [← hcenv]; exact I.ok.blt, by show s.heap.objs.size ≤ cenv.locals; rw [hL]; exact Nat.le_refl _,
      fun y z c e1 e2 => ?_, fun y hy => ?_, fun y c z e => ?_, I.ok.hd, I.ok.frames, .inl rfl, fun b hb => ⟨?_, fun y c e z => ?_⟩, I.bs, Nat.le_trans I.ok.bsz I.sz, fun b o e hb => ?_, fun b hb z => ?_, I.stack, I.stkFree⟩
    · have e1 : cenv.cells.lookup y = some c := e1
      have e2 : cenv.cells.lookup z = some c := e2
      rw [hcl] at e1 e2
      refine cells_inj (fun p hp => ?_) (fun y z c a b => I.ok.inj y z c (cm a).1 (cm b).1) (PySem.mem_of_lookup e1) (PySem.mem_of_lookup e2)
      rw [Heap.size_push]
      exact Nat.lt_succ_of_lt (cm (y := p.1) (c := p.2) hp).2
    · show ∃ c, cenv.cells.lookup y = some c
      have key : ∀ k, cenv.kindOf y = some k → (k = .cell ∨ k = .free) → ∃ c, cenv.cells.lookup y = some c := fun k hk hk' => by
        unfold Env.kindOf at hk
        rw [hsc] at hk
        obtain ⟨k', e, r⟩ := lookup_relS hk
        have : k' = .cell ∨ k' = .free := by
          rcases r with rfl | ⟨rfl, _⟩
          · exact hk'
          · exact .inr rfl
        rcases this with rfl | rfl
        · obtain ⟨c, hm⟩ := cells_has (n := (s.heap.push { cls := .type "dict", data := .dict #[] }).objs.size) (acc := cloFrom X.env.cells scope.names []) (PySem.mem_of_lookup e)
          obtain ⟨c', e'⟩ := mem_lookup hm
          exact ⟨c', by rw [hcl]; exact e'⟩
        · obtain ⟨c, h1, _⟩ := look e
          exact ⟨c, h1⟩
      rcases hy with hy | hy
      · exact key _ hy (.inl rfl)
      · exact key _ hy (.inr rfl)
    · have z : (scope.names.lookup y == some NameKind.cell) = true := z
      have z : scope.names.lookup y = some .cell := by simpa using z
      have e : cenv.cells.lookup y = some c := e
      rw [hcl] at e
      rcases cells_mem (PySem.mem_of_lookup e) with hm | ⟨_, h2, _⟩
      · rcases cloFrom_mem hm with hm | ⟨h1, _⟩
        · cases hm
        · have q := ok.uniq _ h1
          rw [z] at q; cases q
      · rw [Heap.size_push] at h2
        exact Nat.le_of_succ_le h2
    · show b ≠ cenv.locals
      rw [hL]; exact Nat.ne_of_lt (hfp b hb).2
    · have e : cenv.cells.lookup y = some c := e
      rcases mem e with ⟨h1, _⟩ | ⟨h1, _⟩
      · exact (hfp b hb).1.2.2.2.2.1 y c h1 z
      · have h2 : s.heap.objs.size + 1 ≤ b := by rw [← z]; exact h1
        exact absurd (Nat.lt_of_lt_of_le (hfp b hb).2 (Nat.le_of_succ_le h2)) (Nat.lt_irrefl _)
    · rcases (hfp b hb).1.2.2.2.1 with z | z
      · exact I.ok.noex b o e z
      · exact absurd (Nat.lt_of_lt_of_le (Heap.lt_size e) (Nat.le_trans I.ok.bsz z)) (Nat.lt_irrefl _)
    · rcases List.mem_cons.mp (I.stkSub b z) with z | z
      · exact (hfp b hb).1.2.1 z
      · exact (hfp b hb).1.2.2.1 z
  refine ⟨okB, rfl, I.bare, Un.kept kp, ⟨fun _ => none, ?_, fun i y av e1 e2 e3 => ?_⟩, fun y c e => ?_, ?_, fun y c e => ?_, fun p hp => ?_, I.hok.kept kp, by rw [wipe_length]; exact I.len⟩
  · show Heap.Ns _ cenv.locals _
    rw [hL]
    exact Heap.Ns.keeps (Heap.Ns.new ..) fun b o e => pushCells_keeps _ _ _ _ e
  · obtain ⟨e2, hne⟩ := wipe_some e2
    have hfr : scope.names.lookup y = some .free ∧ (cenv.kindOf y = some .cell ∨ cenv.kindOf y = some .free) := by
      have key : ∀ k, cenv.scope.names.lookup y = some k → k = .local ∨ k = .cell ∨ k = .free → scope.names.lookup y = some .free ∧ (cenv.kindOf y = some .cell ∨ cenv.kindOf y = some .free) := fun k hk hk' => by
        have hk0 := hk
        rw [hsc] at hk
        obtain ⟨k', e, r⟩ := lookup_relS hk
        have no : ¬ (k' = .local ∨ k' = .cell) := fun hh => by
          rcases ok.own _ (PySem.mem_of_lookup e) hh with e' | e'
          · obtain ⟨p, hp, hpy⟩ := List.mem_map.mp e'
            have e3 := ok.ix p hp
            have : p.1 = y := hpy
            rw [this] at e3
            exact hne (List.mem_map.mpr ⟨p, hp, nodup_ix hN e3 e1⟩)
          · exact e' (List.mem_of_getElem? e1)
        rcases r with rfl | ⟨rfl, rfl⟩
        · rcases hk' with rfl | rfl | rfl
          · exact absurd (.inl rfl) no
          · exact absurd (.inr rfl) no
          · exact ⟨e, .inr hk0⟩
        · exact ⟨e, .inl hk0⟩
      have e3 : Vis cenv.scope y := e3
      rcases e3 with e3 | e3 | e3
      · exact key _ e3 (.inl rfl)
      · exact key _ e3 (.inr (.inl rfl))
      · exact key _ e3 (.inr (.inr rfl))
    obtain ⟨m, hn, hl⟩ := I.loc
    have hvis : Vis X.env.scope y := (ok.free _ (PySem.mem_of_lookup hfr.1) rfl).elim (fun k => .inr (.inl k)) (fun k => .inr (.inr k))
    obtain ⟨w, r, q⟩ := hl i y av e1 e2 hvis
    refine ⟨w, r, .inr ⟨hfr.2, ?_⟩⟩
    obtain ⟨c, h1, h2⟩ := look hfr.1
    rcases q with ⟨k, _⟩ | ⟨_, c', e', z⟩
    · have k : X.env.scope.names.lookup y = some .local := k
      rcases ok.free _ (PySem.mem_of_lookup hfr.1) rfl with k' | k' <;> rw [show X.env.scope.names.lookup y = _ from k'] at k <;> cases k
    · rw [h2] at e'; cases e'
      exact ⟨c, h1, z.keeps kp⟩
  · have e : cenv.cells.lookup y = some c := e
    rcases mem e with ⟨h1, _⟩ | ⟨_, z⟩
    · obtain ⟨w, z⟩ := I.cell y c h1
      exact ⟨w, z.keeps kp⟩
    · exact ⟨_, z⟩
  · show H cenv.locals = none
    rw [hL]; exact I.hok.fresh (Nat.le_refl _)
  · have e : cenv.cells.lookup y = some c := e
    rcases mem e with ⟨h1, _⟩ | ⟨h1, _⟩
    · exact I.freeC y c h1
    · exact I.hok.fresh (Nat.le_of_succ_le h1)
  · exact absurd (show p ∈ ([] : List (Addr × Obj)) ++ [] from hp) (by simp)
theorem app_ok {E : Value → Shared → Prop} {D : Addr} {xs : List V} {y : V} {v : Value} {Q : Value → Shared → Prop} (I : Inv X pins σ H s) (hD : H D = some (.lst xs)) (hz : xs.length < sizeLine) (r : RelV y v)
    (h : ∀ s', Inv X pins σ (upd H D (.lst (xs ++ [y]))) s' → Q .none s') : wpAny (model X.prog X.w) X.A (call (.builtin "list.append") [.ref D, v]) Q E s := by
  obtain ⟨hz', its, n, ri, e⟩ := I.hok D _ hD
  have hl := ri.length
  refine append_at (hsz := by rw [List.size_toArray]; omega) e fun h' sb ho' => ?_
  refine h { s with heap := h' } (I.write (t' := s.toks) (by rw [hD]; trivial) (.inl rfl) (fun b u hb q => (sb.2 b hb).trans q) ⟨_, ho'⟩ ⟨by rw [List.length_append]; exact hz, its ++ [v], n + 1, ri.append (.cons r .nil), ?_⟩)
  rw [ho']
  simp
def PTs (X : Cx) (ifs : List Expr) (t : TT) : Prop :=
  ∀ (pins : List (Addr × Obj)) (s : Shared) (σ : St) (H : Hp) (Q : Bool → Hp → Prop), Inv X pins σ H s → t σ H Q →
    wpAny (model X.prog X.w) X.A (forIn ifs true fun c r => if r = true then do let ok ← isTrue c X.env (eval c X.env); pure (ForInStep.yield ok) else pure (ForInStep.yield r)) (TP X pins σ Q) X.xe s
def tYes : TT := fun _ H Q => Q true H
theorem pts_nil : PTs X [] tYes := fun _ _ _ H _ I h => wpAny_tests_nil ⟨H, I, h⟩
theorem pts_one {c : Expr} {t : TT} (h : PT X c t) : PTs X [c] t := fun pins s σ H Q I hw => wpAny_tests_one (h pins s σ H Q I hw)
end
theorem thnF {α : Type} {t : Sem α} {Q Q' : α → Shared → Prop} {M : Model} {A : Around} {E : Value → Shared → Prop} {s : Shared} (h : wpAny M A t Q (fun _ _ => False) s) (hQ : ∀ a s, Q a s → Q' a s) : wpAny M A t Q' E s := wpAny_mono h hQ fun _ _ z => False.elim z
theorem compLoop_any {prog : Program} {w : World} {A : Around} {R : Result → Shared → Prop} {s : Shared} {elt target iter : Expr} {ifs : List Expr} {scope : Scope} {pos : Pos} {it acc : Value} {env : Env} (I : Nat → Shared → Prop)
    (turn : ∀ n s, I n s → wpAny (model prog w) A (pyNext it) (fun r s₁ => match r with
      | none => R (.ok .next) s₁
      | some v => wpAny (model prog w) A (letOwnedTupleGo target it v) (fun _ s₁' => wpAny (model prog w) A (assign target env v) (fun _ s₂ =>
          wpAny (model prog w) A (forIn ifs true fun c r => if r = true then do let ok ← isTrue c env (eval c env); pure (ForInStep.yield ok) else pure (ForInStep.yield r)) (fun ok s₃ =>
            if ok = true then wpAny (model prog w) A (eval elt env) (fun x s₄ =>
              wpAny (model prog w) A (call (.builtin "list.append") [acc, x]) (fun _ s₅ => ∃ m, m < n ∧ I m s₅) (notedBy (model prog w) A env fun e s' => R (.error e) s') s₄) (notedBy (model prog w) A env fun e s' => R (.error e) s') s₃
            else ∃ m, m < n ∧ I m s₃) (notedBy (model prog w) A env fun e s' => R (.error e) s') s₂) (notedBy (model prog w) A env fun e s' => R (.error e) s') s₁') (notedBy (model prog w) A env fun e s' => R (.error e) s') s₁) (notedBy (model prog w) A env fun e s' => R (.error e) s') s)
    (n : Nat) (h : I n s) :
    codeAny (model prog w) A (.compLoop (.ListComp elt [⟨target, iter, ifs, 0⟩] scope pos) 0 it acc env) R s := by
  refine codeAny_loop rfl I (fun n s hI => ?_) n h
  show wpAny _ A ((compTurn (.ListComp elt [⟨target, iter, ifs, 0⟩] scope pos) 0 it acc env).onRaise (fun x => do noteFrame x env; theTreesLotGoes x)) _ _ s
  refine wpAny_noted ?_
  rw [compTurn_list]
  refine wpAny_bind (wpAny_standAt (wpAny_bind (wpAny_mono (turn n s hI) (fun r s₁ h₁ => ?_) fun _ _ h' => h')))
  cases r with
  | none => exact wpAny_pure h₁
  | some v =>
    refine wpAny_bind (wpAny_mono h₁ (fun _ s₁' h₁' => ?_) fun _ _ h' => h')
    refine wpAny_bind (wpAny_mono h₁' (fun _ s₂ h₂ => wpAny_bind (wpAny_mono h₂ (fun ok s₃ h₃ => ?_) fun _ _ h' => h')) fun _ _ h' => h')
    cases ok with
    | false => exact wpAny_pure ⟨rfl, h₃⟩
    | true =>
      exact wpAny_bind (wpAny_bind (wpAny_mono h₃ (fun x s₄ h₄ => wpAny_bind (wpAny_mono h₄ (fun _ s₅ h₅ => wpAny_pure (wpAny_pure ⟨rfl, h₅⟩)) fun _ _ h' => h')) fun _ _ h' => h'))
section
variable {X : Cx}
inductive QAcc (D : Addr) (y : V) (H4 : Hp) (N : Hp → Prop) : Prop
  | mk (acc : _) (h1 : H4 D = some (.lst acc)) (h2 : acc.length < sizeLine) (q : N (upd H4 D (.lst (acc ++ [y])))) : QAcc D y H4 N
def tLc (wi : TI) (g : TG) (tt : TT) (te : TE) (vs : List Nat) : TE := fun σ H Q => wi σ H fun J H1 => ∀ D, H1 D = none → ∃ W : Nat → Nat → Hp → Prop, (∃ m, W 0 m (upd H1 D (.lst []))) ∧ ∀ i m H, W i m H →
  (J.stop i H ∧ Q (.ref D) H) ∨ (J.go i H ∧ ∃ Nx : Hp → Prop, (∀ H', Nx H' → ∃ m', m' < m ∧ W (i + 1) m' H') ∧ ∀ x H', J.yld i H x H' → g x (wipe σ vs) H' fun σ2 H2 => wipe σ2 vs = wipe σ vs ∧ tt σ2 H2 fun b H3 =>
    if b = true then te σ2 H3 fun y H4 => QAcc D y H4 Nx else Nx H3)
theorem lc_core {pins : List (Addr × Obj)} {s : Shared} {σ : St} {H : Hp} {Q : VK} {elt tg iter : Expr} {ifs : List Expr} {scope : Scope} {own : List (Str × Nat)} {pos pos' : Pos} {wi : TI} {g : TG} {tt : TT} {te : TE} {use : Option (Value → Sem Unit)} {Qf : Value → Shared → Prop}
    (hc : X.calm = true) (hN : X.N.Nodup) (I : Inv X pins σ H s) (hi : PI X tg iter wi) (ok : BlkOk X.N X.env.scope scope own)
    (hg : ∀ (s : Shared) (H : Hp) (C : Addr) (cl : List (Str × Addr)) (fp : List Addr), PG (X.blk s H scope (compEnvC scope cl C X.env) fp) tg g) (ht : ∀ (s : Shared) (H : Hp) (C : Addr) (cl : List (Str × Addr)) (fp : List Addr), PTs (X.blk s H scope (compEnvC scope cl C X.env) fp) ifs tt)
    (he : ∀ (s : Shared) (H : Hp) (C : Addr) (cl : List (Str × Addr)) (fp : List Addr), PE (X.blk s H scope (compEnvC scope cl C X.env) fp) elt te) (hs : ∀ x, foldedSetIterable iter X.env x = pure x)
    (h : tLc wi g tt te (own.map (·.2)) σ H Q)
    (hRR : ∀ D C s' m H', Inv X pins σ H' s' → Q (.ref D) H' → s'.heap.Ns C m → FpOk X pins H' C → compPost (model X.prog X.w) X.A X.xe use Qf (.ref D) C (.ok .next) s') :
    wpAny (model X.prog X.w) X.A (comprehension (.ListComp elt [⟨tg, iter, ifs, 0⟩] scope pos) scope X.env pos' (newList []) false (eval iter X.env) use) Qf X.xe s := by
  have hfree : ∀ y ∈ scope.names, y.2 = .free → ∃ c, X.env.cells.lookup y.1 = some c := fun y hy e => by
    rcases ok.free y hy e with k | k
    · exact I.ok.has _ (.inl k)
    · exact I.ok.has _ (.inr k)
  refine wpAny_comprehension_free (use := use) rfl hs (closure_ok hfree) ok.kind (fun y hy e => by rw [ok.uniq y hy, e])
    (thn (hi pins s σ H _ I h) fun xv s1 hx => thn hx fun itv s2 h2 => ?_)
  obtain ⟨it, fp, tn, J, H2, e, I2, T, st2, f2, q⟩ := h2
  subst e
  refine wpAny_newObj_type (newEnv_comp ?_) (by show 0 ≤ sizeLine; decide)
  generalize hD : s2.heap.objs.size = D
  have hDn : H2 D = none := I2.hok.fresh (Nat.le_of_eq hD)
  obtain ⟨W, ⟨m0, w0⟩, turn⟩ := q D hDn
  -- the new list
  generalize hs3 : ({ s2 with heap := s2.heap.push { cls := .type "list", data := .seq ([] : List Value).toArray } } : Shared) = s3
  have I3 : Inv X pins σ (upd H2 D (.lst [])) s3 := by
    rw [← hs3]
    refine I2.laid (t' := s2.toks) (fun b o e => Heap.get?_push_of_some _ e) (Nat.le_of_eq hD) ⟨Nat.zero_le _, [], 0, .nil, ?_⟩
    rw [← hD]
    exact Heap.get?_push_size _ rfl
  have h3 : s3.heap = s2.heap.push { cls := .type "list", data := .seq ([] : List Value).toArray } := by rw [← hs3]
  have sz : ∀ b ∈ fp, b < s2.heap.objs.size := fun b hb => by
    obtain ⟨o, e, _⟩ := T.obj _ _ st2 b hb
    exact Heap.lt_size e
  have f3 : ∀ b ∈ fp, FpOk X pins (upd H2 D (.lst [])) b ∧ b < s3.heap.objs.size := fun b hb => by
    have hlt := sz b hb
    refine ⟨⟨?_, (f2 b hb).2⟩, by rw [h3, Heap.size_push]; exact Nat.lt_succ_of_lt hlt⟩
    rw [upd_ne (by rw [← hD]; exact Nat.ne_of_lt hlt)]
    exact (f2 b hb).1
  have st3 : tn 0 s3.heap := T.keep _ _ _ st2 fun b _ o e => by rw [h3]; exact Heap.get?_push_of_some _ e
  have I4 := block_start I3 ok hN f3
  have pg := hg s3 (upd H2 D (.lst [])) s3.heap.objs.size (cellsFrom (s3.heap.objs.size + 1) scope.names (cloFrom X.env.cells scope.names [])) fp
  have pt := ht s3 (upd H2 D (.lst [])) s3.heap.objs.size (cellsFrom (s3.heap.objs.size + 1) scope.names (cloFrom X.env.cells scope.names [])) fp
  have pe := he s3 (upd H2 D (.lst [])) s3.heap.objs.size (cellsFrom (s3.heap.objs.size + 1) scope.names (cloFrom X.env.cells scope.names [])) fp
  show codeAny _ _ (.compStart (.ListComp elt [⟨tg, iter, ifs, 0⟩] scope pos) 0 (.ref it) (.ref D) (compEnvC scope (cellsFrom (s3.heap.objs.size + 1) scope.names (cloFrom X.env.cells scope.names [])) s3.heap.objs.size X.env)) (compPost (model X.prog X.w) X.A X.xe use Qf (.ref D) s3.heap.objs.size) { s3 with heap := pushCells (s3.heap.push { cls := .type "dict", data := .dict #[] }) scope.names }
  have nfp : ∀ b ∈ fp, (upd H2 D (.lst [])) b = none := fun b hb => (f3 b hb).1.1
  generalize hce : compEnvC scope (cellsFrom (s3.heap.objs.size + 1) scope.names (cloFrom X.env.cells scope.names [])) s3.heap.objs.size X.env = ce at I4 pg pt pe ⊢
  have cL : ce.locals = s3.heap.objs.size := by subst hce; rfl
  generalize hH3 : upd H2 D (.lst []) = H3 at I3 I4 pg pt pe w0 nfp f3
  generalize hs4 : ({ s3 with heap := pushCells (s3.heap.push { cls := .type "dict", data := .dict #[] }) scope.names } : Shared) = s4 at I4 ⊢
  have st4 : tn 0 s4.heap := T.keep _ _ _ st3 fun b _ o e => by rw [← hs4]; exact pushCells_keeps _ _ _ _ (Heap.get?_push_of_some _ e)
  have stat : ∀ {σ' : St} {H' : Hp} {s' : Shared}, Inv (X.blk s3 H3 scope ce fp) [] σ' H' s' → (∀ b ∈ fp, H' b = none) → ∀ b ∈ fp, FpOk (X.blk s3 H3 scope ce fp) [] H' b := fun {σ' H' s'} I' hn b hb =>
    ⟨hn b hb, (I'.ok.exf b hb).1, I'.ok.exfs b hb, .inl hb, fun x c e => (I'.ok.exf b hb).2 x c e, fun p hp => absurd (show p ∈ ([] : List (Addr × Obj)) ++ [] from hp) (by simp)⟩
  have loop : codeAny (model X.prog X.w) X.A (.compLoop (.ListComp elt [⟨tg, iter, ifs, 0⟩] scope pos) 0 (.ref it) (.ref D) ce) (compPost (model X.prog X.w) X.A X.xe use Qf (.ref D) s3.heap.objs.size) s4 := by
    refine compLoop_any (fun n s' => ∃ i H', Inv (X.blk s3 H3 scope ce fp) [] (wipe σ (own.map (·.2))) H' s' ∧ tn i s'.heap ∧ (∀ b ∈ fp, H' b = none) ∧ W i n H') ?_ m0 ⟨0, H3, I4, st4, nfp, w0⟩
    rintro n s5 ⟨i, H5, I5, st5, n5, w5⟩
    rcases turn i n H5 w5 with ⟨stop, qq⟩ | ⟨go, Nx, hNx, step⟩
    · have td := T.done (X.blk s3 H3 scope ce fp) rfl rfl rfl hc i [] s5 _ H5 (fun _ _ => False) I5 (stat I5 n5) st5 stop
      refine thnF td fun r s6 ⟨hr, I6⟩ => ?_
      subst hr
      -- back in the def's context
      have I7 : Inv X pins σ H5 s6 := I3.call' (ch := fp) I6.os I6.base I6.hok I6.bare fun b hb => ⟨(f3 b hb).1.2.2.2.1, (f3 b hb).1.2.1, (f3 b hb).1.2.2.2.2.1, (f3 b hb).1.2.2.2.2.2⟩
      have nC : H5 s3.heap.objs.size = none := by
        have z : H5 ce.locals = none := I6.free
        rw [cL] at z
        exact z
      obtain ⟨m, hn, _⟩ := I6.loc
      have hn : s6.heap.Ns ce.locals m := hn
      rw [cL] at hn
      exact hRR D s3.heap.objs.size s6 m H5 I7 qq hn (I3.fpOk (Nat.le_refl _) nC)
    · have ti := T.item (X.blk s3 H3 scope ce fp) rfl rfl rfl hc i [] s5 _ H5 (fun _ _ => False) I5 (stat I5 n5) st5 go
      refine thnF ti fun r s6 ⟨u, hr, h6⟩ => ?_
      subst hr
      refine thnF h6 fun _ s7 ⟨x, H7, I7, r7, y7, st7, n7⟩ => ?_
      have I7' := I7.pinned (stat I7 n7) (T.obj _ _ st7)
      refine thnF (pg _ s7 _ H7 x u _ I7' r7 (step x H7 y7)) fun _ s8 ⟨σ8, H8, I8, hw8, q8⟩ => ?_
      refine thnF (pt _ s8 σ8 H8 _ I8 q8) fun b s9 ⟨H9, I9, q9⟩ => ?_
      -- the turn's end
      have fin : ∀ {s' : Shared} {H' : Hp}, Inv (X.blk s3 H3 scope ce fp) ([] ++ pinsAt fp s7.heap) σ8 H' s' → Nx H' → ∃ m, m < n ∧ ∃ i H', Inv (X.blk s3 H3 scope ce fp) [] (wipe σ (own.map (·.2))) H' s' ∧ tn i s'.heap ∧ (∀ b ∈ fp, H' b = none) ∧ W i m H' := fun {s' H'} I' nx => by
        obtain ⟨m', hm, w'⟩ := hNx H' nx
        have pin' : ∀ b ∈ fp, ∀ o, s7.heap.get? b = some o → s'.heap.get? b = some o ∧ H' b = none := fun b hb o e =>
          let z := I'.pin (b, o) (List.mem_append_right _ (List.mem_append_right _ (mem_pinsAt hb e)))
          ⟨z.1, z.2.1⟩
        have hl : (wipe σ (own.map (·.2))).length = σ8.length := by rw [← hw8, wipe_length]
        refine ⟨m', hm, i + 1, H', (I'.unpinned (pins := [])).weak hl (fun j v e => ?_), T.keep _ _ _ st7 fun b hb o e => (pin' b hb o e).1, fun b hb => ?_, w'⟩
        · rw [← hw8] at e
          exact (wipe_some e).1
        · obtain ⟨o, e, _⟩ := T.obj _ _ st7 b hb
          exact (pin' b hb o e).2
      cases b with
      | false =>
        simp only [Bool.false_eq_true, if_false] at q9 ⊢
        exact fin I9 q9
      | true =>
        simp only [if_true] at q9 ⊢
        refine thnF (pe _ s9 σ8 H9 _ I9 q9) fun z s10 ⟨yv, H10, I10, r10, acc, hD10, hz10, nx⟩ => ?_
        exact app_ok (X := X.blk s3 H3 scope ce fp) I10 hD10 hz10 r10 fun s11 I11 => fin I11 nx
  exact codeAny_compStart_list loop (T.self X.A 0 _ _ _ st4 loop)
theorem pe_lc {elt tg iter : Expr} {ifs : List Expr} {scope : Scope} {own : List (Str × Nat)} {pos : Pos} {wi : TI} {g : TG} {tt : TT} {te : TE} (hc : X.calm = true) (hN : X.N.Nodup) (hi : PI X tg iter wi) (ok : BlkOk X.N X.env.scope scope own)
    (hg : ∀ (s : Shared) (H : Hp) (C : Addr) (cl : List (Str × Addr)) (fp : List Addr), PG (X.blk s H scope (compEnvC scope cl C X.env) fp) tg g) (ht : ∀ (s : Shared) (H : Hp) (C : Addr) (cl : List (Str × Addr)) (fp : List Addr), PTs (X.blk s H scope (compEnvC scope cl C X.env) fp) ifs tt)
    (he : ∀ (s : Shared) (H : Hp) (C : Addr) (cl : List (Str × Addr)) (fp : List Addr), PE (X.blk s H scope (compEnvC scope cl C X.env) fp) elt te) (hs : ∀ x, foldedSetIterable iter X.env x = pure x := by intro _; rfl) :
    PE X (.ListComp elt [⟨tg, iter, ifs, 0⟩] scope pos) (tLc wi g tt te (own.map (·.2))) := by
  intro pins s σ H Q I h
  rw [eval_ListComp]
  refine lc_core hc hN I hi ok hg ht he hs h fun D C s' m H' I' q hn f => ⟨m, hn, fun h'' sb => ?_⟩
  obtain ⟨f0, f1, f2, f3, f4, f5⟩ := f
  exact ⟨.ref D, H', I'.turned (t' := s'.toks) (fun b o hb e => (sb.2 b hb).trans e) f0 f1 f3 f4 f5, rfl, q⟩
theorem ps_setLc {i : Nat} {y : Str} {py : Pos} {elt tg iter : Expr} {ifs : List Expr} {scope : Scope} {own : List (Str × Nat)} {pos spos : Pos} {wi : TI} {g : TG} {tt : TT} {te : TE} (hc : X.calm = true) (hN : X.N.Nodup) (hy : X.N[i]? = some y) (hyl : X.env.scope.names.lookup y = some .local)
    (hsw : swapsWith (.ListComp elt [⟨tg, iter, ifs, 0⟩] scope pos) (some (.Name y py)) spos.line X.env = pure true) (hi : PI X tg iter wi) (ok : BlkOk X.N X.env.scope scope own)
    (hg : ∀ (s : Shared) (H : Hp) (C : Addr) (cl : List (Str × Addr)) (fp : List Addr), PG (X.blk s H scope (compEnvC scope cl C X.env) fp) tg g) (ht : ∀ (s : Shared) (H : Hp) (C : Addr) (cl : List (Str × Addr)) (fp : List Addr), PTs (X.blk s H scope (compEnvC scope cl C X.env) fp) ifs tt)
    (he : ∀ (s : Shared) (H : Hp) (C : Addr) (cl : List (Str × Addr)) (fp : List Addr), PE (X.blk s H scope (compEnvC scope cl C X.env) fp) elt te) (hs : ∀ x, foldedSetIterable iter X.env x = pure x := by intro _; rfl) :
    PS X (.Assign [.Name y py] (.ListComp elt [⟨tg, iter, ifs, 0⟩] scope pos) spos) (tAsg (tLc wi g tt te (own.map (·.2))) (gName i)) := by
  intro pins s σ H D I h
  rw [exec_Assign_Name_used _ _ _ _ hsw]
  refine wpAny_bind (wpAny_standAt (wpAny_bind ?_))
  show wpAny _ X.A (do let _ ← comprehension (.ListComp elt [⟨tg, iter, ifs, 0⟩] scope pos) scope X.env (firstIterPos [⟨tg, iter, ifs, 0⟩] pos) (newList []) false (eval iter X.env) (some (assign (.Name y py) X.env))) _ _ s
  have h : tLc wi g tt te (own.map (·.2)) σ H (fun x H1 => gName i x σ H1 D.nx) := h
  refine wpAny_bind (thn (lc_core (Qf := fun _ s' => SP X pins D .next s') hc hN I hi ok hg ht he hs h fun L C s' m H' I' q hn f => ?_) fun _ s' hq => wpAny_pure (wpAny_pure hq))
  show wpAny _ _ (assign (.Name y py) X.env (.ref L)) _ _ _
  refine wpAny_assign_Name (store_ok2 (v := V.ref L) I' hN hy (.inl hyl) rfl (fun s2 I2 ⟨a, sb, ha⟩ => ?_) (.inr hyl))
  obtain ⟨f0, f1, f2, f3, f4, f5⟩ := f
  have haC : C ≠ a := by
    rcases ha with z | z
    · rw [z]; exact f1
    · exact fun e => f4 y a z e.symm
  refine ⟨m, hn.sameBut sb haC, fun h3 sb3 => ?_⟩
  exact ⟨_, H', I2.turned (t' := s2.toks) (fun b o hb e => (sb3.2 b hb).trans e) f0 f1 f3 f4 f5, q⟩
theorem sw_true {elt : Expr} {gs : List Comprehension} {scope : Scope} {pos py : Pos} {y : Str} {l : Nat} {env : Env} (hk : env.scope.kind = .function) (hy : env.scope.names.lookup y = some .local) (hl : (py.line == pos.line) = true)
    (ha : (scope.names.any fun (n, k) => n == y && (k == .local || k == .cell)) = false) : swapsWith (.ListComp elt gs scope pos) (some (.Name y py)) l env = pure true := by
  have ky : env.kindOf y = some .local := hy
  have hb : env.blockKind = .function := by unfold Env.blockKind; rw [hk]; rfl
  unfold swapsWith
  simp only [hb, ky, ha, Expr.pos, hl]
  rfl
end
theorem lc_range {lo : Int} {n : Nat} {g : TG} {tt : TT} {te : TE} {vs : List Nat} {σ : St} {H1 : Hp} {D : Addr} {Qd : Hp → Prop} (Pv : Nat → Hp → Prop) (h0 : Pv 0 (upd H1 D (.lst [])))
    (hs : ∀ i H, i < n → Pv i H → g (.int (lo + i)) (wipe σ vs) H fun σ2 H2 => wipe σ2 vs = wipe σ vs ∧ tt σ2 H2 fun b H3 =>
      if b = true then te σ2 H3 fun y H4 => QAcc D y H4 (Pv (i + 1)) else Pv (i + 1) H3) (hd : ∀ H, Pv n H → Qd H) :
    ∃ W : Nat → Nat → Hp → Prop, (∃ m, W 0 m (upd H1 D (.lst []))) ∧ ∀ i m H, W i m H →
      ((Itr lo n).stop i H ∧ Qd H) ∨ ((Itr lo n).go i H ∧ ∃ Nx : Hp → Prop, (∀ H', Nx H' → ∃ m', m' < m ∧ W (i + 1) m' H') ∧ ∀ x H', (Itr lo n).yld i H x H' → g x (wipe σ vs) H' fun σ2 H2 => wipe σ2 vs = wipe σ vs ∧ tt σ2 H2 fun b H3 =>
        if b = true then te σ2 H3 fun y H4 => QAcc D y H4 Nx else Nx H3) := by
  refine ⟨fun i m H => m = n - i ∧ i ≤ n ∧ Pv i H, ⟨n, by simp, Nat.zero_le _, h0⟩, ?_⟩
  rintro i m H ⟨rfl, hi, p⟩
  by_cases hlt : i < n
  · refine .inr ⟨hlt, Pv (i + 1), fun H' p' => ⟨n - (i + 1), by omega, rfl, hlt, p'⟩, fun x H' y => ?_⟩
    obtain ⟨e, y⟩ := y
    subst e y
    exact hs i _ hlt p
  · have e : i = n := by omega
    subst e
    exact .inl ⟨Nat.le_refl _, hd H p⟩
theorem lc_list {K : PySem.W.Frag} {a : Addr} {xs : List V} {g : TG} {tt : TT} {te : TE} {vs : List Nat} {σ : St} {H1 : Hp} {D : Addr} {Qd : Hp → Prop} (Pv : Nat → Hp → Prop) (h0 : Pv 0 (upd H1 D (.lst []))) (hl : ∀ i H, i ≤ xs.length → Pv i H → SqL K H a xs)
    (hs : ∀ i x H, xs[i]? = some x → Pv i H → g x (wipe σ vs) H fun σ2 H2 => wipe σ2 vs = wipe σ vs ∧ tt σ2 H2 fun b H3 =>
      if b = true then te σ2 H3 fun y H4 => QAcc D y H4 (Pv (i + 1)) else Pv (i + 1) H3) (hd : ∀ H, Pv xs.length H → Qd H) :
    ∃ W : Nat → Nat → Hp → Prop, (∃ m, W 0 m (upd H1 D (.lst []))) ∧ ∀ i m H, W i m H →
      ((Itl K a).stop i H ∧ Qd H) ∨ ((Itl K a).go i H ∧ ∃ Nx : Hp → Prop, (∀ H', Nx H' → ∃ m', m' < m ∧ W (i + 1) m' H') ∧ ∀ x H', (Itl K a).yld i H x H' → g x (wipe σ vs) H' fun σ2 H2 => wipe σ2 vs = wipe σ vs ∧ tt σ2 H2 fun b H3 =>
        if b = true then te σ2 H3 fun y H4 => QAcc D y H4 Nx else Nx H3) := by
  refine ⟨fun i m H => m = xs.length - i ∧ i ≤ xs.length ∧ Pv i H, ⟨xs.length, by simp, Nat.zero_le _, h0⟩, ?_⟩
  rintro i m H ⟨rfl, hi, p⟩
  have q := hl i H hi p
  by_cases hlt : i < xs.length
  · refine .inr ⟨⟨xs, xs[i], q, by simp [hlt]⟩, Pv (i + 1), fun H' p' => ⟨xs.length - (i + 1), by omega, rfl, hlt, p'⟩, fun x H' y => ?_⟩
    obtain ⟨e, y⟩ := y
    subst e
    exact hs i x _ (y xs q) p
  · have e : i = xs.length := by omega
    subst e
    exact .inl ⟨⟨xs, q, Nat.le_refl _⟩, hd H p⟩
def blkC (N : List Str) (sc scope : Scope) (own : List (Str × Nat)) : Bool :=
  (match scope.kind with | .function => true | _ => false) && (scope.names.all fun y => decide (scope.names.lookup y.1 = some y.2)) && (own.all fun p => decide (N[p.2]? = some p.1)) &&
    (scope.names.all fun y => match y.2 with
      | .free => (match sc.names.lookup y.1 with | some .cell => true | some .free => true | _ => false)
      | .local => decide (y.1 ∈ own.map (·.1)) || decide (y.1 ∉ N)
      | .cell => decide (y.1 ∈ own.map (·.1)) || decide (y.1 ∉ N)
      | _ => true)
theorem blkOk_by {N : List Str} {sc scope : Scope} {own : List (Str × Nat)} (h : blkC N sc scope own = true) : BlkOk N sc scope own := by
  unfold blkC at h
  simp only [Bool.and_eq_true, List.all_eq_true, decide_eq_true_eq] at h
  obtain ⟨⟨⟨h1, h2⟩, h3⟩, h4⟩ := h
  refine ⟨?_, h2, h3, fun y hy e => ?_, fun y hy e => ?_⟩
  · split at h1
    · assumption
    · cases h1
  · have q := h4 y hy
    simp only [e] at q
    split at q <;> first | exact .inl (by assumption) | exact .inr (by assumption) | cases q
  · have q := h4 y hy
    rcases e with e | e <;> (simp only [e, Bool.or_eq_true, decide_eq_true_eq] at q; exact q)
end L2
namespace L2
open PySem PySem.Spec PyProof.Rows
section
variable {prog : Program} {w : World} {A : Around} {R : Result → Shared → Prop} {s : Shared} {elt t0 i0 t1 i1 : Expr} {ifs0 ifs1 : List Expr} {scope : Scope} {pos : Pos} {it acc : Value} {env : Env}
end
section
variable {X : Cx}
end
end L2
namespace L2
open PySem PySem.Spec PyProof.Rows
section
variable {κ : Type} [DecidableEq κ]
end
section
variable {P : Program} {w : World} {H : Hp} {h : Heap} {a : Addr}
end
section
variable {X : Cx} {pins : List (Addr × Obj)} {σ : St} {H : Hp} {s : Shared} {a : Addr} {y v : V} {u r : Value} {o : Option V} {A : Around} {E : Value → Shared → Prop}
end
section
variable {X : Cx} {pins : List (Addr × Obj)} {σ : St} {H : Hp} {s : Shared} {a : Addr} {kvs : List (Key × V)} {k : Key} {u : Value} {A : Around} {E : Value → Shared → Prop}
end
section
variable {X : Cx} {o i e value : Expr} {pos pos' tpos : Pos} {td ty tv : TE}
end
section
variable {X : Cx} {pos : Pos}
end
section
variable {X : Cx} {pins : List (Addr × Obj)} {σ : St} {H : Hp} {s : Shared} {a : Addr} {y d : V} {u r : Value} {o : Option V} {A : Around} {E : Value → Shared → Prop}
end
section
variable {X : Cx} {o e f : Expr} {apos cpos : Pos} {td ty tx : TE}
end
section
variable {X : Cx} {pins : List (Addr × Obj)} {σ : St} {H : Hp} {s : Shared} {a : Addr} {kvs : List (Key × V)} {A : Around} {E : Value → Shared → Prop}
end
section
variable {X : Cx} {pins : List (Addr × Obj)} {σ : St} {H : Hp} {s : Shared} {a : Addr} {y : V} {u : Value} {A : Around} {E : Value → Shared → Prop}
end
end L2
namespace L2
open PySem PySem.Spec PyProof.Rows
section
variable {prog : Program} {w : World} {A : Around} {E : Value → Shared → Prop}
end
section
variable {X : Cx}
end
end L2
namespace L2
open PySem PySem.Spec PyProof.Rows
section
variable {X : Cx} {pins : List (Addr × Obj)} {σ : St} {H : Hp} {s : Shared} {h' : Heap}
theorem Inv.turnedL {t' : Nat} {ch : List Addr} (I : Inv X pins σ H s) (k : ∀ b o, b ∉ ch → s.heap.get? b = some o → h'.get? b = some o) (hf : ∀ b ∈ ch, FpOk X pins H b) : Inv X pins σ H { s with heap := h', toks := t' } := by
  have nit : ∀ b u, H b = some u → b ∉ ch := fun b u e z => by
    have q := (hf b z).1
    rw [q] at e; cases e
  refine I.step (g' := s.gens) (d' := s.drawn) (ch := ch) (fun b hb => ⟨(hf b hb).2.2.2.1, (hf b hb).2.1, (hf b hb).2.2.2.2.1, (hf b hb).2.2.2.2.2⟩) (fun b o _ _ hc e _ => k b o hc e) (fun b o _ _ hc e _ => ⟨o.slots, k b o hc e⟩)
    (fun _ _ _ _ n => n) (fun b o hc e => ⟨o, k b o hc e⟩) (fun _ _ e => e) (fun _ _ _ e => e) (fun b ps e => ⟨#[], by rw [e]; simp⟩) (fun m hm => ?_) (fun b u e => ?_) I.bare
  · obtain ⟨o, es, ep, ho, r⟩ := hm
    exact ⟨o, es, ep, k _ o (fun z => (hf _ z).2.1 rfl) ho, r⟩
  · refine (I.hok b u e).stay (fun c v hc q => k c v ?_ q) (fun _ q => q) fun _ _ q => q
    rcases hc with z | z
    · rw [z]; exact nit b u e
    · exact nit c _ z
theorem Inv.turnedNew {t' : Nat} {ch : List Addr} {T : Addr} {ob : HO} (I : Inv X pins σ H s) (k : ∀ b o, b ∉ ch → s.heap.get? b = some o → h'.get? b = some o) (hf : ∀ b ∈ ch, FpOk X pins H b) (hT : s.heap.objs.size ≤ T)
    (new : ObjOk X.prog X.w (upd H T ob) h' T ob) : Inv X pins σ (upd H T ob) { s with heap := h', toks := t' } := by
  have hn : H T = none := I.hok.fresh hT
  have nit : ∀ b u, H b = some u → b ∉ ch := fun b u e z => by
    have q := (hf b z).1
    rw [q] at e; cases e
  refine I.step (g' := s.gens) (d' := s.drawn) (ch := ch) (fun b hb => ⟨(hf b hb).2.2.2.1, (hf b hb).2.1, (hf b hb).2.2.2.2.1, (hf b hb).2.2.2.2.2⟩) (fun b o _ _ hc e _ => k b o hc e) (fun b o _ _ hc e _ => ⟨o.slots, k b o hc e⟩)
    (fun b o _ e n => ?_) (fun b o hc e => ⟨o, k b o hc e⟩) (fun b xs e => ?_) (fun b o u e => ?_) (fun b ps e => ⟨#[], ?_⟩) (fun m hm => ?_) (fun b u e => ?_) I.bare
  · rw [upd_ne (Nat.ne_of_lt (Nat.lt_of_lt_of_le (Heap.lt_size e) hT))]; exact n
  · rw [upd_ne (ne_of_none e hn)]; exact e
  · rw [upd_ne (ne_of_none e hn)]; exact e
  · rw [upd_ne (ne_of_none e hn), e]; simp
  · obtain ⟨o, es, ep, ho, r⟩ := hm
    exact ⟨o, es, ep, k _ o (fun z => (hf _ z).2.1 rfl) ho, r⟩
  · by_cases hb : b = T
    · subst hb
      rw [upd_same] at e
      cases e
      exact new
    · rw [upd_ne hb] at e
      refine (I.hok b u e).stay (fun c v hc q => k c v ?_ q) (fun c q => by rw [upd_ne (ne_of_none q hn)]; exact q) fun c xs q => by rw [upd_ne (ne_of_none q hn)]; exact q
      rcases hc with z | z
      · rw [z]; exact nit b u e
      · exact nit c _ z
end
section
variable {X : Cx}
end
section
variable {X : Cx} {tg : Expr}
end
section
variable {X : Cx} {tg : Expr}
end
section
variable {prog : Program} {w : World} {A : Around} {E : Value → Shared → Prop} {s : Shared}
end
section
variable {X : Cx} {pins : List (Addr × Obj)} {σ : St} {H : Hp} {s : Shared} {d : Addr} {o : Obj}
end
section
variable {P : Program} {w : World} {K : PySem.W.Frag} {tg : Expr} {d : Addr} {o : Obj} {es : Array DictEntry} {ep : Nat}
end
section
variable {X : Cx} {tg e : Expr} {td : TE} {apos cpos : Pos}
end
theorem boot_zip5 : bootBuiltins "zip" = some (.type "zip") := by decide +kernel
def Itz (K : PySem.W.Frag) (a b : Addr) : It :=
  ⟨fun i H => ∃ (xs ys : List V) (x y : V), SqL K H a xs ∧ SqL K H b ys ∧ xs[i]? = some x ∧ ys[i]? = some y,
    fun i H v H' => ∃ T x y, v = .ref T ∧ H T = none ∧ H' = upd H T (.tup [x, y]) ∧ (∀ xs, SqL K H a xs → xs[i]? = some x) ∧ ∀ ys, SqL K H b ys → ys[i]? = some y,
    fun i H => ∃ xs ys : List V, SqL K H a xs ∧ SqL K H b ys ∧ (xs.length ≤ i ∨ ys.length ≤ i)⟩
theorem turn_zip {P : Program} {w : World} {K : PySem.W.Frag} {elts : List Expr} {kk : Nat} {tpos : Pos} {a b z TI TO i1 i2 : Addr} (D : ZipApart z TI TO i1 i2 a b) :
    Turn P w K (.Tuple elts kk tpos) (Itz K a b) [z, TI, TO, i1, i2] z (fun i h => IsZip h z TI TO .none ∧ IsPair h TI (.ref i1) (.ref i2) ∧ (∃ x y, IsPair h TO x y) ∧ h.IsListIter i1 a i ∧ h.IsListIter i2 b i) where
  mem := by simp
  obj := fun i h st c hc => by
    obtain ⟨hz, hTI, ⟨x, y, hTO⟩, ⟨o1, e1, _, d1⟩, ⟨o2, e2, _, d2⟩⟩ := st
    have e' : c = z ∨ c = TI ∨ c = TO ∨ c = i1 ∨ c = i2 := by simpa using hc
    rcases e' with q | q | q | q | q
    · rw [q]; exact ⟨_, hz, fun v q => nomatch q⟩
    · rw [q]; exact ⟨_, hTI, fun v q => nomatch q⟩
    · rw [q]; exact ⟨_, hTO, fun v q => nomatch q⟩
    · rw [q]; exact ⟨o1, e1, fun v q => by rw [d1] at q; cases q⟩
    · rw [q]; exact ⟨o2, e2, fun v q => by rw [d2] at q; cases q⟩
  keep := fun i h h' st k => by
    obtain ⟨hz, hTI, ⟨x, y, hTO⟩, h1, h2⟩ := st
    exact ⟨k z (by simp) _ hz, k TI (by simp) _ hTI, ⟨x, y, k TO (by simp) _ hTO⟩, h1.at fun o q => k i1 (by simp) o q, h2.at fun o q => k i2 (by simp) o q⟩
  item := by
    intro X hP hw hK hc i pins s σ H E I hf st hg
    subst hP hw hK
    obtain ⟨hz, hTI, ⟨x0, y0, hTO⟩, h1, h2⟩ := st
    obtain ⟨xs, ys, x, y, hqx, hqy, hx, hy⟩ := hg
    obtain ⟨its, rv, p, _⟩ := I.list hqx
    obtain ⟨its2, rv2, p2, _⟩ := I.list hqy
    obtain ⟨u, hu, ru⟩ := rv.get hx
    obtain ⟨u2, hu2, ru2⟩ := rv2.get hy
    have hzl : z < s.heap.objs.size := Heap.lt_size hz
    refine wpAny_pyNext_zip_item D hz hTI hTO h1 h2 p.isList p2.isList (x := u) (y := u2) (by simpa using hu) (by simpa using hu2) fun h' z' TO' h1' h2' hT hsz hk => ?_
    refine ⟨_, rfl, wpAny_letOwnedTupleGo_zip (s := { s with heap := h' }) z' fun h'' z'' sb => ?_⟩
    have hT2 : h''.get? s.heap.objs.size = some { cls := .type "tuple", data := .seq #[u, u2] } := (sb.2 _ (Nat.ne_of_gt hzl)).trans hT
    have new : ObjOk X.prog X.w (upd H s.heap.objs.size (.tup [x, y])) h'' s.heap.objs.size (.tup [x, y]) :=
      ⟨by show 2 ≤ sizeLine; decide, [u, u2], .cons ru (.cons ru2 .nil), ⟨_, hT2, rfl, _, rfl⟩⟩
    have I1 : Inv X pins σ (upd H s.heap.objs.size (.tup [x, y])) { s with heap := h'' } :=
      I.turnedNew (t' := s.toks) (ch := [z, TI, TO, i1, i2]) (fun c o hb q => (sb.2 c (fun q' => hb (by simp [q']))).trans (hk c o (fun q' => hb (by simp [q'])) (fun q' => hb (by simp [q'])) (fun q' => hb (by simp [q'])) (fun q' => hb (by simp [q'])) q)) hf (Nat.le_refl _) new
    refine ⟨.ref s.heap.objs.size, _, I1, rfl, ⟨_, x, y, rfl, I.hok.fresh (Nat.le_refl _), rfl, fun l hl => by rw [I.list_inj hl hqx]; exact hx, fun l hl => by rw [I.list_inj hl hqy]; exact hy⟩, ⟨z'', ?_, ⟨u, u2, ?_⟩, ?_, ?_⟩, fun c hcm => ?_⟩
    · exact (sb.2 _ D.TIz).trans (hk _ _ D.TIz D.TITO D.TIi1 D.TIi2 hTI)
    · exact (sb.2 _ D.TOz).trans TO'
    · exact h1'.at fun o q => (sb.2 _ D.i1z).trans q
    · exact h2'.at fun o q => (sb.2 _ D.i2z).trans q
    · have hlt : c < s.heap.objs.size := by
        have e' : c = z ∨ c = TI ∨ c = TO ∨ c = i1 ∨ c = i2 := by simpa using hcm
        rcases e' with q | q | q | q | q
        · rw [q]; exact hzl
        · rw [q]; exact Heap.lt_size hTI
        · rw [q]; exact Heap.lt_size hTO
        · rw [q]; obtain ⟨_, e1, _⟩ := h1; exact Heap.lt_size e1
        · rw [q]; obtain ⟨_, e2, _⟩ := h2; exact Heap.lt_size e2
      rw [upd_ne (Nat.ne_of_lt hlt)]
      exact (hf c hcm).1
  done := by
    intro X hP hw hK hc i pins s σ H E I hf st hg
    subst hP hw hK
    obtain ⟨hz, hTI, ⟨x0, y0, hTO⟩, h1, h2⟩ := st
    obtain ⟨xs, ys, hqx, hqy, hend⟩ := hg
    obtain ⟨its, rv, p, _⟩ := I.list hqx
    obtain ⟨its2, rv2, p2, _⟩ := I.list hqy
    have l1 := rv.length
    have l2 := rv2.length
    have he : its.toArray[i]? = none ∨ its2.toArray[i]? = none := by
      rcases hend with q | q
      · exact .inl (by simp; omega)
      · exact .inr (by simp; omega)
    exact wpAny_pyNext_zip_end (I.ok.hd hc) D hz hTI hTO h1 h2 p.isList p2.isList he fun h' hk => ⟨rfl, I.turnedL (t' := s.toks) (ch := [z, TI, TO, i1, i2]) (fun c o hb q =>
      hk c o (fun q' => hb (by simp [q'])) (fun q' => hb (by simp [q'])) (fun q' => hb (by simp [q'])) (fun q' => hb (by simp [q'])) q) hf⟩
  self := fun A i s Q E st h => wpAny_pyIter_zip st.1 h
inductive QIZip (K : PySem.W.Frag) (vs : List V) (H1 : Hp) (R : It → Hp → Prop) : Prop
  | mk (a : _) (b : _) (xs : _) (ys : _) (h1 : vs = [.ref a, .ref b]) (h2 : SqL K H1 a xs) (h3 : SqL K H1 b ys) (q : R (Itz K a b) H1) : QIZip K vs H1 R
def iZip (K : PySem.W.Frag) (ta : TA) : TI := fun σ H R => ta σ H fun vs H1 => QIZip K vs H1 R
theorem pi_zip {X : Cx} {e e2 : Expr} {ta : TA} {p pos tpos : Pos} {elts : List Expr} {kk : Nat} (hg : Gl X "zip") (hm : X.mg "zip" = none) (ha : PA X [e, e2] ta)
    (hs : starEach [e, e2] X.env = (false, eval e X.env) :: starEach [e2] X.env := by rfl) (hpl : (backTo pos (starEach [e2] X.env)).any (·.1) = false := by rfl) :
    PI X (.Tuple elts kk tpos) (.Call (.Name "zip" p) [e, e2] [] pos) (iZip X.K ta) := by
  intro pins s σ H R I h
  refine Call_ (ld_blt I hg hm boot_zip5 (PyProof.Rows.callWith_type1 (thn (ha pos pins s σ H _ I h) fun us s1 ⟨vs, H1, I1, r1, q1⟩ => ?_) hs hpl))
  obtain ⟨a, b, xs, ys, ex, hqx, hqy, q⟩ := q1
  subst ex
  cases r1 with
  | cons r rr =>
    cases rr with
    | cons r' rr =>
      cases rr
      cases r
      cases r'
      obtain ⟨its, rv, p1, _⟩ := I1.list hqx
      obtain ⟨its2, rv2, p2, _⟩ := I1.list hqy
      have la : a < s1.heap.objs.size := p1.lt
      have lb : b < s1.heap.objs.size := p2.lt
      refine call_zip_2 p1.isList p2.isList fun h' hz hTI hTO h1 h2 hsz hk => wpAny_pyIter_zip hz ?_
      have I2 : Inv X pins σ H1 { s1 with heap := h' } := I1.kept (t' := s1.toks) hk
      refine ⟨s1.heap.objs.size + 4, [s1.heap.objs.size + 4, s1.heap.objs.size + 2, s1.heap.objs.size + 3, s1.heap.objs.size, s1.heap.objs.size + 1], _, _, H1, rfl, I2, turn_zip (PySem.W.ktu_apart s1.heap.objs.size a b la lb), ⟨hz, hTI, ⟨_, _, hTO⟩, h1, h2⟩, fun c hcm => ?_, q⟩
      have e' : c = s1.heap.objs.size + 4 ∨ c = s1.heap.objs.size + 2 ∨ c = s1.heap.objs.size + 3 ∨ c = s1.heap.objs.size ∨ c = s1.heap.objs.size + 1 := by simpa using hcm
      have hle : s1.heap.objs.size ≤ c := by
        rcases e' with z | z | z | z | z
        · rw [z]; exact Nat.le_add_right _ _
        · rw [z]; exact Nat.le_add_right _ _
        · rw [z]; exact Nat.le_add_right _ _
        · rw [z]; exact Nat.le_refl _
        · rw [z]; exact Nat.le_add_right _ _
      exact I1.fpOk hle (I1.hok.fresh hle)
end L2
section 
namespace Bits
open PySem PyProof.Rows
end Bits
end 
section 
namespace TL
open PySem PySem.Builtin PySem.Builtin.Str PySem.StrLaws
end TL
end 
namespace L2
open PySem PySem.Spec PyProof.Rows
section
variable {X : Cx} {pins : List (Addr × Obj)} {σ : St} {H : Hp} {s : Shared} {Q : VK}
end
section
variable {X : Cx}
end
section
variable {X : Cx} {o e : Expr} {to te : TE}
end
end L2
namespace L2
open PySem PySem.Spec PyProof.Rows
section
variable {X : Cx}
end
end L2
namespace Att
open PySem PySem.W PySem.Calls PyProof.Rows
section
variable {prog : Program} {w : World} {A : Around} {E : Value → Shared → Prop} {s : Shared} {K : Frag}
end
end Att
namespace L2
open PySem PySem.Spec PyProof.Rows
end L2
namespace L2
open PySem PySem.Spec PyProof.Rows
abbrev KOf {K : PySem.W.Frag} {h : Heap} (_ : K.In h) : PySem.W.Frag := K
end L2
namespace L2
open PySem PySem.Spec PyProof.Rows
def inClass (s : Stmt) (j : Nat) : Stmt := match s with
  | .ClassDef _ _ _ body _ _ _ _ _ _ _ => body.getD j (.Pass ⟨0, 0, 0, 0⟩)
  | _ => .Pass ⟨0, 0, 0, 0⟩
def defArgs (s : Stmt) : Arguments := match s with
  | .FunctionDef _ a _ _ _ _ _ _ _ _ => a
  | _ => { posonlyargs := [], args := [], vararg := none, kwonlyargs := [], kw_defaults := [], kwarg := none, defaults := [] }
def defBody (s : Stmt) : List Stmt := match s with
  | .FunctionDef _ _ b _ _ _ _ _ _ _ => b
  | _ => []
def defScope (s : Stmt) : Scope := match s with
  | .FunctionDef _ _ _ _ _ _ sc _ _ _ => sc
  | _ => { kind := .function, names := [], isGenerator := false, isCoroutine := false }
abbrev CX0 : CXT := fun _ _ _ _ _ _ => False
abbrev E0 : XK := fun _ _ _ => False
theorem pass0 {X : Cx} : Passes CX0 X E0 := fun _ _ _ _ _ _ _ h => h.elim
structure Fun (K : PySem.W.Frag) (x qual : Str) (st : Stmt) (f : Addr) (fd : FuncData) : Prop where
  ex : ∃ (oc : Value) (od : Option Addr) (kV doc pm : Value) (an : Option Addr) (cdv ct : Value) (osl : Array (Option Value)),
    fd = PySem.W.fnOf x qual (defArgs st) (defBody st) (defScope st) .none kV doc pm an cdv ct ∧ K.lookup f = some ⟨oc, od, .func fd, osl⟩ ∧ PySem.W.codeIn K cdv qual = true
  kp : PySem.W.keepIn K (.ref f) = true
section
variable {P : Program} {w : World} {K : PySem.W.Frag} {mg : Str → Option Value} {base : Heap}
theorem Fun.ok {x qual : Str} {st : Stmt} {f : Addr} {fd : FuncData} {N ps : List Str} {k : Nat} {sp : Sp} (F : Fun K x qual st f fd) (S : FnScope N ps (defScope st)) (len : ∀ vs H Q E, sp vs H Q E → vs.length = ps.length)
    (hbody : ∀ (cdv : Value) (A : Around) (outer : List Env) (s : Shared) (H : Hp) (vs : List V) (Q : VK) (E : XK), Room k (A.deeper (envOfC qual (defScope st) s.heap.objs.size f cdv)) → sp vs H Q E →
      ∃ t, PSs (cxOf CX0 P w K mg base N qual (defScope st) f cdv A outer s H E).nox (defBody st) t ∧ t { nx := fun _ H' => Q .non H', rt := Q } (start N vs) H) : FnOk P w K mg base CX0 (k + 1) f fd ps sp := by
  obtain ⟨oc, od, kV, doc, pm, an, cdv, ct, osl, rfl, lk, hcd⟩ := F.ex
  refine fn_of lk hcd S len fun A outer s H vs Q E hr hsp => ?_
  obtain ⟨t, h, q⟩ := hbody cdv A outer s H vs Q E hr hsp
  exact ⟨t, h.nox, q⟩
theorem Fun.binds {x qual : Str} {st : Stmt} {f : Addr} {fd : FuncData} {ps : List Str} (F : Fun K x qual st f fd)
    (h : ∀ (kV doc pm : Value) (an : Option Addr) (cdv ct : Value) (us : List Value), us.length = ps.length → bindArgs (PySem.W.fnOf x qual (defArgs st) (defBody st) (defScope st) .none kV doc pm an cdv ct) ⟨us, []⟩ = pure (ps.zip us)) : Binds K fd ps [] := by
  obtain ⟨oc, od, kV, doc, pm, an, cdv, ct, osl, rfl, lk, hcd⟩ := F.ex
  exact .all (h kV doc pm an cdv ct)
theorem fun_mk {x qual : Str} {st : Stmt} {f : Addr} {oc : Value} {od an : Option Addr} {osl : Array (Option Value)} {kV doc pm cdv ct : Value} (l : K.lookup f = some ⟨oc, od, .func (PySem.W.fnOf x qual (defArgs st) (defBody st) (defScope st) .none kV doc pm an cdv ct), osl⟩)
    (c : PySem.W.codeIn K cdv qual = true) (k : PySem.W.keepIn K (.ref f) = true) : Fun K x qual st f (PySem.W.fnOf x qual (defArgs st) (defBody st) (defScope st) .none kV doc pm an cdv ct) := ⟨⟨oc, od, kV, doc, pm, an, cdv, ct, osl, rfl, l, c⟩, k⟩
end
section
variable {X : Cx}
theorem pv (i : Nat) {x : Str} {pos : Pos} (hN : X.N[i]? = some x := by rfl) (hv : Vis X.env.scope x := by first | exact Or.inl rfl | exact Or.inr (Or.inl rfl) | exact Or.inr (Or.inr rfl)) (hd : (x == ("__debug__" : Str)) = false := by decide)
    (hcd : (x == ("__classdict__" : Str)) = false := by decide) : PE X (.Name x pos) (tVar i) := pe_var hN hv hd hcd
end
theorem iteF {A B : Prop} (h : B) : if false = true then A else B := by
  rw [if_neg Bool.false_ne_true]
  exact h
theorem iteT {A B : Prop} (h : A) : if true = true then A else B := by
  rw [if_pos rfl]
  exact h
theorem ite2 {c A B : Prop} [Decidable c] (h1 : c → A) (h2 : ¬ c → B) : if c then A else B := by
  by_cases h : c
  · rw [if_pos h]
    exact h1 h
  · rw [if_neg h]
    exact h2 h
def Same (H H' : Hp) : Prop := ∀ b o, H b = some o → H' b = some o
theorem Same.refl (H : Hp) : Same H H := fun _ _ h => h
theorem Same.trans {H H1 H2 : Hp} (a : Same H H1) (b : Same H1 H2) : Same H H2 := fun c o h => b c o (a c o h)
theorem Same.free {H H' : Hp} (e : Same H H') {l : Addr} (h : H' l = Option.none) : H l = Option.none := by
  cases q : H l with
  | none => rfl
  | some o =>
    rw [e l o q] at h
    cases h
theorem Same.seq {K : PySem.W.Frag} {H H' : Hp} {a : Addr} {xs : List V} (e : Same H H') (h : SqL K H a xs) : SqL K H' a xs := by
  rcases h with (h | ⟨o, h⟩) | h
  · exact .inl (.inl (e _ _ h))
  · exact .inl (.inr ⟨o, e _ _ h⟩)
  · exact .inr h
section
variable {κ : Type} [DecidableEq κ]
end
theorem at_of {xs : List V} {z : Int} {j : Nat} {v : V} (e : z = (j : Int)) (h : xs[j]? = some v) : atI xs z = some v := by
  rw [e]
  exact atI_nat h
theorem Same.made {H H1 : Hp} {x dx C : Addr} (nx : H x = Option.none) (nd : H dx = Option.none) (k : ∀ b o, (upd (upd H dx (.own x)) x (.ins C dx [])) b = some o → b ≠ x → H1 b = some o) : Same H H1 := fun b o e =>
  k b o (by rw [upd_ne (ne_of_none e nx), upd_ne (ne_of_none e nd)]; exact e) (ne_of_none e nx)
end L2
section
set_option Elab.async false
set_option linter.all false
set_option maxRecDepth 100000
set_option maxHeartbeats 2000000
namespace L2
open PySem PySem.Spec PyProof.Rows
open PySem.W (WData Codec OpenSpec Well WellAll ReadsW ReadsAllW)
mutual
/-- x stands for the datum d, lists and tuples all the way -/
inductive Dw (K : PySem.W.Frag) (H : Hp) : V → WData → Prop
  | non : Dw K H .non .none
  | bl (b : Bool) : Dw K H (.bl b) (.bool b)
  | int (i : Int) : Dw K H (.int i) (.int i)
  | str (x : Str) : Dw K H (.str x) (.str x)
  | byt (b : Array UInt8) : Dw K H (.byt b) (.bytes b.toList)
  | lst {a : Addr} {xs : List V} {ds : List WData} : SqL K H a xs → DwAll K H xs ds → Dw K H (.ref a) (.list ds)
  | tup {a : Addr} {xs : List V} {ds : List WData} : SqT K H a xs → DwAll K H xs ds → Dw K H (.ref a) (.tuple ds)
inductive DwAll (K : PySem.W.Frag) (H : Hp) : List V → List WData → Prop
  | nil : DwAll K H [] []
  | cons {v : V} {vs : List V} {d : WData} {ds : List WData} : Dw K H v d → DwAll K H vs ds → DwAll K H (v :: vs) (d :: ds)
end
theorem dw_ints {K : PySem.W.Frag} {H : Hp} : ∀ ns : List Int, DwAll K H (ns.map V.int) (ns.map WData.int)
  | [] => .nil
  | n :: r => .cons (.int n) (dw_ints r)
theorem ints_dw {K : PySem.W.Frag} {H : Hp} : ∀ (ns : List Int) (xs : List V), DwAll K H xs (ns.map WData.int) → xs = ns.map V.int
  | [], xs, h => by
    cases h
    rfl
  | n :: r, xs, h => by
    cases h with
    | cons h1 h2 =>
      cases h1
      rw [ints_dw r _ h2] <;> rfl
section
variable {P : Program} {w : World} {K : PySem.W.Frag} {H : Hp} {h : Heap} {R : PySem.W.WRecords} {cl : Str → Option Addr}
theorem sqL_at {a : Addr} {xs : List V} (hok : HOk P w H h) (KX : K.In h) (q : SqL K H a xs) : ∃ (its : List Value) (o : Obj) (n : Nat), Vals xs its ∧ h.get? a = some o ∧ o.cls = .type "list" ∧ o.data = .seq its.toArray n := by
  rcases q with q | ⟨o, its, n, e, hc, _, hd, _, hv⟩
  · obtain ⟨_, its, n, hv, e⟩ := (show ObjOk P w H h a (.lst xs) from q.ok hok)
    exact ⟨its, _, n, hv, e, rfl, rfl⟩
  · exact ⟨its.toList, o, n, hv, KX _ _ e, hc, by simp [hd]⟩
theorem sqT_at {a : Addr} {xs : List V} (hok : HOk P w H h) (KX : K.In h) (q : SqT K H a xs) : ∃ (its : List Value) (o : Obj) (n : Nat), Vals xs its ∧ h.get? a = some o ∧ o.cls = .type "tuple" ∧ o.data = .seq its.toArray n := by
  rcases q with q | ⟨o, its, n, e, hc, hd, _, hv⟩
  · obtain ⟨_, its, hv, o, e, hc, n, hd⟩ := (show ObjOk P w H h a (.tup xs) from q.ok hok)
    exact ⟨its, o, n, hv, e, hc, hd⟩
  · exact ⟨its.toList, o, n, hv, KX _ _ e, hc, by simp [hd]⟩
mutual
theorem Dw.reads (hok : HOk P w H h) (KX : K.In h) : ∀ (d : WData) (v : V) (u : Value), Dw K H v d → RelV v u → ∃ as, ReadsW R cl h u d as
  | .none, _, _, x, r => by
    cases x
    cases r
    exact ⟨_, ReadsW.none⟩
  | .bool b, _, _, x, r => by
    cases x
    cases r
    exact ⟨_, ReadsW.bool b⟩
  | .int i, _, _, x, r => by
    cases x
    obtain ⟨t, rfl⟩ := r
    exact ⟨_, ReadsW.int i t⟩
  | .str s, _, _, x, r => by
    cases x
    obtain ⟨t, rfl⟩ := r
    exact ⟨_, ReadsW.str s t⟩
  | .bytes b, _, _, x, r => by
    cases x
    obtain ⟨t, rfl⟩ := r
    exact ⟨_, ReadsW.bytes _ t⟩
  | .list ds, _, _, x, r => by
    cases x with
    | lst hs ha =>
      cases r
      obtain ⟨its, o, n, rv, ho, hc, hd⟩ := sqL_at hok KX hs
      obtain ⟨as, hr⟩ := Dw.readsAll hok KX ds _ its ha rv
      exact ⟨_, ReadsW.list ho hc hd hr⟩
  | .tuple ds, _, _, x, r => by
    cases x with
    | tup hs ha =>
      cases r
      obtain ⟨its, o, n, rv, ho, hc, hd⟩ := sqT_at hok KX hs
      obtain ⟨as, hr⟩ := Dw.readsAll hok KX ds _ its ha rv
      exact ⟨_, ReadsW.tuple ho hc hd hr⟩
  | .float _, _, _, x, _ => by cases x
  | .dict _, _, _, x, _ => by cases x
  | .bytearray _, _, _, x, _ => by cases x
  | .set _, _, _, x, _ => by cases x
  | .frozenset _, _, _, x, _ => by cases x
  | .obj _ _, _, _, x, _ => by cases x
theorem Dw.readsAll (hok : HOk P w H h) (KX : K.In h) : ∀ (ds : List WData) (vs : List V) (us : List Value), DwAll K H vs ds → Vals vs us → ∃ as, ReadsAllW R cl h us ds as
  | [], _, _, x, r => by
    cases x
    cases r
    exact ⟨_, ReadsAllW.nil⟩
  | d :: ds, _, _, x, r => by
    cases x with
    | cons h1 h2 =>
      cases r with
      | cons r1 r2 =>
        obtain ⟨as, q1⟩ := Dw.reads hok KX d _ _ h1 r1
        obtain ⟨bs, q2⟩ := Dw.readsAll hok KX ds _ _ h2 r2
        exact ⟨_, ReadsAllW.cons q1 q2⟩
end
end
mutual
/-- data that a codec tells -/
def plW : WData → Bool
  | .none => true
  | .bool _ => true
  | .int _ => true
  | .str _ => true
  | .bytes _ => true
  | .list xs => plWs xs
  | .tuple xs => plWs xs
  | _ => false
def plWs : List WData → Bool
  | [] => true
  | x :: r => plW x && plWs r
end
theorem plWs_map {α : Type} {f : α → WData} (h : ∀ a, plW (f a) = true) : ∀ l : List α, plWs (l.map f) = true
  | [] => rfl
  | x :: r => by
    show (plW (f x) && plWs (r.map f)) = true
    rw [h x, plWs_map h r] <;> rfl
theorem pl_enc : ∀ (c : Codec) (a : c.denote), plW (c.enc a) = true
  | .unit, _ => rfl
  | .bool, _ => rfl
  | .int _ _, _ => rfl
  | .nat _ _, _ => rfl
  | .u8, _ => rfl
  | .bytes _ _, _ => rfl
  | .text _ _ _ _, _ => rfl
  | .list _ _ c, a => plWs_map (fun x => pl_enc c x) a
  | .pair c d, a => by
    show (plW (c.enc a.1) && (plW (d.enc a.2) && true)) = true
    rw [pl_enc c a.1, pl_enc d a.2] <;> rfl
  | .triple c d e, a => by
    show (plW (c.enc a.1) && (plW (d.enc a.2.1) && (plW (e.enc a.2.2) && true))) = true
    rw [pl_enc c a.1, pl_enc d a.2.1, pl_enc e a.2.2] <;> rfl
  | .option c, none => rfl
  | .option c, some x => pl_enc c x
theorem pl_encAll : ∀ (cs : List Codec) (a : Codec.denoteAll cs), plWs (Codec.encAll cs a) = true
  | [], _ => rfl
  | c :: cs, a => by
    show (plW (c.enc a.1) && plWs (Codec.encAll cs a.2)) = true
    rw [pl_enc c a.1, pl_encAll cs a.2] <;> rfl
theorem weight_mem : ∀ {xs : List WData} {d : WData}, d ∈ xs → d.weight ≤ WData.weightAll xs
  | [], d, h => absurd h (by simp)
  | x :: r, d, h => by
    show d.weight ≤ x.weight + 1 + WData.weightAll r
    rcases List.mem_cons.mp h with e | m
    · rw [e]
      omega
    · have z := weight_mem m
      omega
def toV : Value → V
  | .none => .non
  | .bool b => .bl b
  | .int i _ => .int i
  | .str x _ => .str x
  | .bytes b _ => .byt b
  | .ref a => .ref a
  | _ => .non
def OkU (A : List Addr) : Value → Prop
  | .none => True
  | .bool _ => True
  | .int _ _ => True
  | .str _ _ => True
  | .bytes _ _ => True
  | .ref a => a ∈ A
  | _ => False
theorem OkU.mono {A B : List Addr} (h : ∀ a ∈ A, a ∈ B) : ∀ {u : Value}, OkU A u → OkU B u := fun {u} x => by
  cases u with
  | ref a => exact h a x
  | none => trivial
  | bool b => trivial
  | int i t => trivial
  | str s t => trivial
  | bytes b t => trivial
  | _ => exact False.elim x
theorem relV_toV {A : List Addr} {u : Value} (x : OkU A u) : RelV (toV u) u := by
  cases u with
  | ref a => rfl
  | none => rfl
  | bool b => rfl
  | int i t => exact ⟨t, rfl⟩
  | str s t => exact ⟨t, rfl⟩
  | bytes b t => exact ⟨t, rfl⟩
  | _ => exact False.elim x
theorem vals_toV {A : List Addr} : ∀ {vs : List Value}, (∀ u ∈ vs, OkU A u) → Vals (vs.map toV) vs
  | [], _ => .nil
  | u :: r, h => .cons (relV_toV (h u (List.mem_cons_self ..))) (vals_toV fun x hx => h x (List.mem_cons_of_mem _ hx))
def ArgOb (h : Heap) (A : List Addr) (a : Addr) : Prop := ∃ vs : List Value, vs.length ≤ sizeLine ∧ (∀ u ∈ vs, OkU A u) ∧
  (h.get? a = some { cls := .type "list", data := .seq vs.toArray } ∨ h.get? a = some { cls := .type "tuple", data := .seq vs.toArray })
theorem ArgOb.mono {h : Heap} {A B : List Addr} {a : Addr} (k : ∀ a ∈ A, a ∈ B) (x : ArgOb h A a) : ArgOb h B a := by
  obtain ⟨vs, h1, h2, h3⟩ := x
  exact ⟨vs, h1, fun u hu => (h2 u hu).mono k, h3⟩
theorem wellAll_len {P : Params} {h : Heap} : ∀ {vs : List Value} {ds : List WData}, WellAll P h vs ds → vs.length = ds.length
  | _, _, .nil => rfl
  | _, _, .cons _ b => by
    show _ + 1 = _ + 1
    rw [wellAll_len b]
theorem well_list {P : Params} {h : Heap} {v : Value} {ds : List WData} (x : Well P h v (.list ds)) : ∃ (a : Addr) (vs : List Value), v = .ref a ∧ h.get? a = some { cls := .type "list", data := .seq vs.toArray } ∧ WellAll P h vs ds := by
  cases x with
  | list ho hall => exact ⟨_, _, rfl, ho, hall⟩
theorem well_tuple {P : Params} {h : Heap} {v : Value} {ds : List WData} (x : Well P h v (.tuple ds)) : ∃ (a : Addr) (vs : List Value), v = .ref a ∧ h.get? a = some { cls := .type "tuple", data := .seq vs.toArray } ∧ WellAll P h vs ds := by
  cases x with
  | tuple ho hall => exact ⟨_, _, rfl, ho, hall⟩
theorem well_cons {P : Params} {h : Heap} {us : List Value} {d : WData} {ds : List WData} (x : WellAll P h us (d :: ds)) : ∃ (v : Value) (vs : List Value), us = v :: vs ∧ Well P h v d ∧ WellAll P h vs ds := by
  cases x with
  | cons a b => exact ⟨_, _, rfl, a, b⟩
theorem line_of {n : Nat} (h : n ≤ 1048576) : n ≤ sizeLine := Nat.le_trans h (by decide)
section
variable {P : Params} {h : Heap}
mutual
theorem area_one : ∀ (d : WData) (v : Value), Well P h v d → plW d = true → d.weight ≤ 1048576 → ∃ A : List Addr, OkU A v ∧ ∀ a ∈ A, ArgOb h A a
  | .none, _, x, _, _ => by
    cases x
    exact ⟨[], trivial, fun a m => absurd m (by simp)⟩
  | .bool b, _, x, _, _ => by
    cases x
    exact ⟨[], trivial, fun a m => absurd m (by simp)⟩
  | .int i, _, x, _, _ => by
    cases x
    exact ⟨[], trivial, fun a m => absurd m (by simp)⟩
  | .str s, _, x, _, _ => by
    cases x
    exact ⟨[], trivial, fun a m => absurd m (by simp)⟩
  | .bytes b, _, x, _, _ => by
    cases x
    exact ⟨[], trivial, fun a m => absurd m (by simp)⟩
  | .list ds, _, x, p, z => by
    obtain ⟨a, vs, rfl, ho, hall⟩ := well_list x
    have z2 : WData.weightAll ds ≤ 1048576 := z
    obtain ⟨A, h1, h2⟩ := area_all ds _ hall p fun d hd => Nat.le_trans (weight_mem hd) z2
    have k : ∀ b ∈ A, b ∈ a :: A := fun b hb => List.mem_cons_of_mem _ hb
    refine ⟨a :: A, List.mem_cons_self .., fun b hb => ?_⟩
    rcases List.mem_cons.mp hb with e | m
    · rw [e]
      exact ⟨vs, line_of (by rw [wellAll_len hall]; exact Nat.le_trans (PySem.W.length_le_weightAllW ds) z2), fun u hu => (h1 u hu).mono k, .inl ho⟩
    · exact (h2 b m).mono k
  | .tuple ds, _, x, p, z => by
    obtain ⟨a, vs, rfl, ho, hall⟩ := well_tuple x
    have z2 : WData.weightAll ds ≤ 1048576 := z
    obtain ⟨A, h1, h2⟩ := area_all ds _ hall p fun d hd => Nat.le_trans (weight_mem hd) z2
    have k : ∀ b ∈ A, b ∈ a :: A := fun b hb => List.mem_cons_of_mem _ hb
    refine ⟨a :: A, List.mem_cons_self .., fun b hb => ?_⟩
    rcases List.mem_cons.mp hb with e | m
    · rw [e]
      exact ⟨vs, line_of (by rw [wellAll_len hall]; exact Nat.le_trans (PySem.W.length_le_weightAllW ds) z2), fun u hu => (h1 u hu).mono k, .inr ho⟩
    · exact (h2 b m).mono k
  | .float _, _, _, p, _ => Bool.noConfusion (show false = true from p)
  | .dict _, _, _, p, _ => Bool.noConfusion (show false = true from p)
  | .bytearray _, _, _, p, _ => Bool.noConfusion (show false = true from p)
  | .set _, _, _, p, _ => Bool.noConfusion (show false = true from p)
  | .frozenset _, _, _, p, _ => Bool.noConfusion (show false = true from p)
  | .obj _ _, _, _, p, _ => Bool.noConfusion (show false = true from p)
theorem area_all : ∀ (ds : List WData) (vs : List Value), WellAll P h vs ds → plWs ds = true → (∀ d ∈ ds, d.weight ≤ 1048576) → ∃ A : List Addr, (∀ u ∈ vs, OkU A u) ∧ ∀ a ∈ A, ArgOb h A a
  | [], _, x, _, _ => by
    cases x
    exact ⟨[], fun u m => absurd m (by simp), fun a m => absurd m (by simp)⟩
  | d :: ds, _, x, p, z => by
    obtain ⟨v, vs, rfl, x1, x2⟩ := well_cons x
    have q : plW d = true ∧ plWs ds = true := Bool.and_eq_true_iff.mp p
    obtain ⟨A, a1, a2⟩ := area_one d v x1 q.1 (z d (List.mem_cons_self ..))
    obtain ⟨B, b1, b2⟩ := area_all ds vs x2 q.2 fun e he => z e (List.mem_cons_of_mem _ he)
    have kA : ∀ b ∈ A, b ∈ A ++ B := fun b hb => List.mem_append.mpr (.inl hb)
    have kB : ∀ b ∈ B, b ∈ A ++ B := fun b hb => List.mem_append.mpr (.inr hb)
    refine ⟨A ++ B, fun u hu => ?_, fun b hb => ?_⟩
    · rcases List.mem_cons.mp hu with e | m
      · rw [e]
        exact a1.mono kA
      · exact (b1 u m).mono kB
    · rcases List.mem_append.mp hb with m | m
      · exact (a2 b m).mono kA
      · exact (b2 b m).mono kB
end
end
def hoOf (o : Obj) : Option HO := match o.data with
  | .seq vs _ => if (o.cls == Value.type "list") = true then some (.frz o (.lst (vs.toList.map toV))) else some (.frz o (.tup (vs.toList.map toV)))
  | _ => none
def argH (K : PySem.W.Frag) (h : Heap) (A : List Addr) : Hp := fun b => if b ∈ A then (if (K.lookup b).isNone = true then (h.get? b).bind hoOf else none) else none
def OnlyF (H : Hp) : Prop := ∀ b, H b = none ∨ ∃ o u, H b = some (.frz o u)
theorem hoOf_lst (vs : List Value) : hoOf { cls := .type "list", data := .seq vs.toArray } = some (.frz { cls := .type "list", data := .seq vs.toArray } (.lst (vs.map toV))) := by
  show (if (Value.type "list" == Value.type "list") = true then some (HO.frz { cls := .type "list", data := .seq vs.toArray } (.lst (vs.toArray.toList.map toV))) else some (HO.frz { cls := .type "list", data := .seq vs.toArray } (.tup (vs.toArray.toList.map toV)))) = _
  rw [if_pos (beq_self_eq_true _)]
theorem hoOf_tup (vs : List Value) : hoOf { cls := .type "tuple", data := .seq vs.toArray } = some (.frz { cls := .type "tuple", data := .seq vs.toArray } (.tup (vs.map toV))) := by
  show (if (Value.type "tuple" == Value.type "list") = true then some (HO.frz { cls := .type "tuple", data := .seq vs.toArray } (.lst (vs.toArray.toList.map toV))) else some (HO.frz { cls := .type "tuple", data := .seq vs.toArray } (.tup (vs.toArray.toList.map toV)))) = _
  rw [if_neg (by decide)]
section
variable {P : Program} {w : World} {K : PySem.W.Frag} {h : Heap} {A : List Addr}
theorem argH_at {b : Addr} {o : Obj} (hb : b ∈ A) (hk : K.lookup b = none) (e : h.get? b = some o) : argH K h A b = hoOf o := by
  unfold argH
  rw [if_pos hb, hk, if_pos (show (none : Option Obj).isNone = true from rfl), e] <;> rfl
theorem of_argH {b : Addr} {u : HO} (q : argH K h A b = some u) : b ∈ A ∧ K.lookup b = none := by
  unfold argH at q
  by_cases hb : b ∈ A
  · rw [if_pos hb] at q
    cases hk : K.lookup b with
    | none => exact ⟨hb, rfl⟩
    | some o =>
      rw [hk, if_neg (by simp)] at q
      cases q
  · rw [if_neg hb] at q
    cases q
theorem argH_is (ar : ∀ a ∈ A, ArgOb h A a) {b : Addr} {u : HO} (q : argH K h A b = some u) : K.lookup b = none ∧ ∃ vs : List Value, vs.length ≤ sizeLine ∧ (∀ u ∈ vs, OkU A u) ∧
    ((h.get? b = some { cls := .type "list", data := .seq vs.toArray } ∧ u = .frz { cls := .type "list", data := .seq vs.toArray } (.lst (vs.map toV))) ∨
     (h.get? b = some { cls := .type "tuple", data := .seq vs.toArray } ∧ u = .frz { cls := .type "tuple", data := .seq vs.toArray } (.tup (vs.map toV)))) := by
  obtain ⟨hb, hk⟩ := of_argH q
  obtain ⟨vs, h1, h2, h3⟩ := ar b hb
  refine ⟨hk, vs, h1, h2, ?_⟩
  rcases h3 with e | e
  · rw [argH_at hb hk e, hoOf_lst] at q
    exact .inl ⟨e, (Option.some.inj q).symm⟩
  · rw [argH_at hb hk e, hoOf_tup] at q
    exact .inr ⟨e, (Option.some.inj q).symm⟩
theorem argH_only (ar : ∀ a ∈ A, ArgOb h A a) : OnlyF (argH K h A) := fun b => by
  cases q : argH K h A b with
  | none => exact .inl rfl
  | some u =>
    obtain ⟨_, vs, _, _, ⟨_, e⟩ | ⟨_, e⟩⟩ := argH_is ar q
    · exact .inr ⟨_, _, by rw [e]⟩
    · exact .inr ⟨_, _, by rw [e]⟩
theorem argH_ok (ar : ∀ a ∈ A, ArgOb h A a) : HOk P w (argH K h A) h := fun b u q => by
  obtain ⟨_, vs, h1, h2, ⟨e, rfl⟩ | ⟨e, rfl⟩⟩ := argH_is ar q
  · exact ⟨e, by rw [List.length_map]; exact h1, vs, _, vals_toV h2, e⟩
  · exact ⟨e, by rw [List.length_map]; exact h1, vs, vals_toV h2, _, e, rfl, _, rfl⟩
theorem seq_inj {c c' : Value} {vs us : List Value} (e : (some { cls := c, data := .seq vs.toArray } : Option Obj) = some { cls := c', data := .seq us.toArray }) : c = c' ∧ vs = us := by
  have e1 := Option.some.inj e
  have e2 : c = c' := congrArg Obj.cls e1
  have e3 : Data.seq vs.toArray = Data.seq us.toArray := congrArg Obj.data e1
  injection e3 with e4
  refine ⟨e2, ?_⟩
  have e5 := congrArg Array.toList e4
  simpa using e5
theorem argL (KX : K.In h) (ar : ∀ a ∈ A, ArgOb h A a) {a : Addr} {vs : List Value} (ha : a ∈ A) (e : h.get? a = some { cls := .type "list", data := .seq vs.toArray }) : (∀ u ∈ vs, OkU A u) ∧ SqL K (argH K h A) a (vs.map toV) := by
  obtain ⟨us, h1, h2, h3⟩ := ar a ha
  have hu : us = vs := by
    rcases h3 with q | q
    · rw [e] at q
      exact (seq_inj q).2.symm
    · rw [e] at q
      exact absurd (Value.type.inj (seq_inj q).1) (by decide)
  subst hu
  refine ⟨h2, ?_⟩
  cases hk : K.lookup a with
  | none => exact .inl (.inr ⟨_, by rw [argH_at ha hk e, hoOf_lst]⟩)
  | some o =>
    have e2 := KX a o hk
    rw [e] at e2
    obtain rfl := Option.some.inj e2
    exact .inr ⟨_, us.toArray, _, hk, rfl, rfl, rfl, by rw [List.size_toArray]; exact h1, by simpa using vals_toV h2⟩
theorem argT (KX : K.In h) (ar : ∀ a ∈ A, ArgOb h A a) {a : Addr} {vs : List Value} (ha : a ∈ A) (e : h.get? a = some { cls := .type "tuple", data := .seq vs.toArray }) : (∀ u ∈ vs, OkU A u) ∧ SqT K (argH K h A) a (vs.map toV) := by
  obtain ⟨us, h1, h2, h3⟩ := ar a ha
  have hu : us = vs := by
    rcases h3 with q | q
    · rw [e] at q
      exact absurd (Value.type.inj (seq_inj q).1) (by decide)
    · rw [e] at q
      exact (seq_inj q).2.symm
  subst hu
  refine ⟨h2, ?_⟩
  cases hk : K.lookup a with
  | none => exact .inl (.inr ⟨_, by rw [argH_at ha hk e, hoOf_tup]⟩)
  | some o =>
    have e2 := KX a o hk
    rw [e] at e2
    obtain rfl := Option.some.inj e2
    exact .inr ⟨_, us.toArray, _, hk, rfl, rfl, by rw [List.size_toArray]; exact h1, by simpa using vals_toV h2⟩
mutual
theorem dw_one {Pm : Params} (KX : K.In h) (ar : ∀ a ∈ A, ArgOb h A a) : ∀ (d : WData) (v : Value), Well Pm h v d → plW d = true → OkU A v → Dw K (argH K h A) (toV v) d
  | .none, _, x, _, _ => by
    cases x
    exact .non
  | .bool b, _, x, _, _ => by
    cases x
    exact .bl b
  | .int i, _, x, _, _ => by
    cases x
    exact .int i
  | .str s, _, x, _, _ => by
    cases x
    exact .str s
  | .bytes b, _, x, _, _ => by
    cases x
    have z := Dw.byt (K := K) (H := argH K h A) b.toArray
    exact z
  | .list ds, _, x, p, hu => by
    obtain ⟨a, vs, rfl, ho, hall⟩ := well_list x
    obtain ⟨h2, hs⟩ := argL KX ar hu ho
    exact .lst hs (dw_all KX ar ds _ hall p h2)
  | .tuple ds, _, x, p, hu => by
    obtain ⟨a, vs, rfl, ho, hall⟩ := well_tuple x
    obtain ⟨h2, hs⟩ := argT KX ar hu ho
    exact .tup hs (dw_all KX ar ds _ hall p h2)
  | .float _, _, _, p, _ => Bool.noConfusion (show false = true from p)
  | .dict _, _, _, p, _ => Bool.noConfusion (show false = true from p)
  | .bytearray _, _, _, p, _ => Bool.noConfusion (show false = true from p)
  | .set _, _, _, p, _ => Bool.noConfusion (show false = true from p)
  | .frozenset _, _, _, p, _ => Bool.noConfusion (show false = true from p)
  | .obj _ _, _, _, p, _ => Bool.noConfusion (show false = true from p)
theorem dw_all {Pm : Params} (KX : K.In h) (ar : ∀ a ∈ A, ArgOb h A a) : ∀ (ds : List WData) (vs : List Value), WellAll Pm h vs ds → plWs ds = true → (∀ u ∈ vs, OkU A u) → DwAll K (argH K h A) (vs.map toV) ds
  | [], _, x, _, _ => by
    cases x
    exact .nil
  | d :: ds, _, x, p, hu => by
    obtain ⟨v, vs, rfl, x1, x2⟩ := well_cons x
    have q : plW d = true ∧ plWs ds = true := Bool.and_eq_true_iff.mp p
    exact .cons (dw_one KX ar d v x1 q.1 (hu _ (List.mem_cons_self ..))) (dw_all KX ar ds vs x2 q.2 fun u m => hu u (List.mem_cons_of_mem _ m))
end
end
theorem spec_call {P : Program} {w : World} {K : PySem.W.Frag} {mg mb : Str → Option Value} {CX : CXT} {k : Nat} {fa : Addr} {fd : FuncData} {ps : List Str} {sp : Sp} {s₁ : Shared} {vals : List Value} {ds : List WData} {R : PySem.W.WRecords} {cl : Str → Option Addr} {d0 : WData}
    (KX : K.In s₁.heap) (hns : s₁.heap.Ns mainGlobals mg) (hb : s₁.heap.Ns builtinsNs mb) (hbb : ∀ x : Str, x ≠ "__name__" → mb x = bootBuiltins x) (hlim : s₁.heap.NoLimit) (hg : s₁.gens = #[])
    (hwl : WellAll w.params s₁.heap vals ds) (hpl : plWs ds = true) (hwt : ∀ d ∈ ds, d.weight ≤ 1048576) (hr : Room k callerA)
    (F : ∀ base : Heap, K.In base → base.Ns mainGlobals mg → FnOk P w K mg base CX k fa fd ps sp) (hbind : ∀ (s : Shared) (us : List Value), us.length = ps.length → BindsTo s fd ⟨us, []⟩ (ps.zip us)) (hlen : ds.length = ps.length)
    (hsp : ∀ (H : Hp) (xs : List V), OnlyF H → DwAll K H xs ds → sp xs H (fun v H' => Dw K H' v d0) fun _ _ _ => False)
    (hCX : ∀ H e s', CX [] H s₁ (fun _ _ _ => False) e s' → False) :
    codeAny (model P w) callerA (.call (.ref fa) ⟨vals, []⟩) (fun r s' => ∃ u as, r = .ok (.ret u) ∧ ReadsW R cl s'.heap u d0 as ∧ OldK s₁.heap s'.heap ∧ s'.os = s₁.os ∧ AllBare s'.gens) s₁ := by
  obtain ⟨A, ho, ar⟩ := area_all ds vals hwl hpl hwt
  have hO : OnlyF (argH K s₁.heap A) := argH_only ar
  have hok : HOk P w (argH K s₁.heap A) s₁.heap := argH_ok ar
  have hS := dw_all KX ar ds vals hwl hpl ho
  have hV := vals_toV ho
  have hK : ∀ b u, argH K s₁.heap A b = some u → K.lookup b = none := fun b u q => (argH_is ar q).1
  have noA : ∀ {b : Addr} {o : Obj} {es : Array DictEntry} {ep : Nat}, s₁.heap.get? b = some o → o.data = .dict es ep → argH K s₁.heap A b = none := fun {b o es ep} e d => by
    cases q : argH K s₁.heap A b with
    | none => rfl
    | some u =>
      obtain ⟨_, vs, _, _, ⟨e2, _⟩ | ⟨e2, _⟩⟩ := argH_is ar q
      · rw [e2] at e
        cases e
        have d' : Data.seq vs.toArray _ = Data.dict es ep := d
        cases d'
      · rw [e2] at e
        cases e
        have d' : Data.seq vs.toArray _ = Data.dict es ep := d
        cases d'
  generalize argH K s₁.heap A = H at hO hok hS hK noA
  have base_of : ∀ {b : Addr} {o : Obj}, s₁.heap.get? b = some o → H b = none → (hidT s₁.heap H).get? b = some o := fun e n => hidT_get e n
  have nsK : ∀ {b : Addr} {m : Str → Option Value}, s₁.heap.Ns b m → (hidT s₁.heap H).Ns b m := fun {b m} ⟨o, es, ep, e, d, r⟩ => ⟨o, es, ep, base_of e (noA e d), d, r⟩
  have nK : ∀ b o, K.lookup b = some o → H b = none := fun b o e => by
    cases q : H b with
    | none => rfl
    | some u =>
      rw [hK b u q] at e
      cases e
  have hKb : K.In (hidT s₁.heap H) := fun b o e => base_of (KX b o e) (nK b o e)
  have hM : Mod K mg (hidT s₁.heap H) := ⟨hKb, nsK hns, ⟨mb, nsK hb, hbb⟩, let ⟨mc, h1, h2⟩ := hlim; ⟨mc, nsK h1, h2⟩⟩
  have e0 : Env0 P w K mg (hidT s₁.heap H) callerA [] s₁ H := ⟨rfl, hM, fun b o e => of_hidT e, Nat.le_of_eq (hidT_size _ _), trivial, fun b hb => absurd (show b ∈ ([] : List Addr) from hb) (by simp), hok, .of_eq hg⟩
  have hl : vals.length = ps.length := by rw [wellAll_len hwl]; exact hlen
  refine codeAny_mono ((F _ hKb (nsK hns)).run callerA [] s₁ H ⟨vals, []⟩ vals (vals.map toV) _ _ hr e0 (hbind s₁ vals hl) hV (hsp H _ hO hS)) fun r s' x => ?_
  cases r with
  | error e => exact (hCX H e s' x).elim
  | ok fl =>
    cases fl with
    | next => exact False.elim x
    | brk => exact False.elim x
    | cont => exact False.elim x
    | ret u =>
      obtain ⟨v, H', os, bare, un, hok', r', q⟩ := x
      have kept : ∀ b o, s₁.heap.get? b = some o → s'.heap.get? b = some o := fun b o e => by
        cases q2 : H b with
        | none => exact un.keep b o e q2 (by intro z; exact absurd (show b ∈ ([] : List Addr) from z) (by simp)) (by simp)
        | some u2 =>
          rcases hO b with z | ⟨ob, u3, z⟩
          · rw [q2] at z
            cases z
          · have z2 := un.frzs b ob _ z
            obtain ⟨e1, _⟩ := hok b _ z
            obtain ⟨e2, _⟩ := hok' b _ z2
            rw [e] at e1
            cases e1
            exact e2
      have KX' : K.In s'.heap := fun b o e => kept b o (KX b o e)
      obtain ⟨as, hrd⟩ := Dw.reads (R := R) (cl := cl) hok' KX' d0 v u q r'
      exact ⟨u, as, rfl, hrd, OldK.of_keep kept, os, bare⟩
theorem layable_weight {ds : List WData} (h : WData.layableAll ds = true) : ∀ d ∈ ds, d.weight ≤ 1048576 := fun d hd =>
  (PySem.W.layableW_iff.mp (List.all_eq_true.mp h d hd)).2.2
theorem encAll_len : ∀ (cs : List Codec) (a : Codec.denoteAll cs), (Codec.encAll cs a).length = cs.length
  | [], _ => rfl
  | c :: cs, a => by
    show (Codec.encAll cs a.2).length + 1 = cs.length + 1
    rw [encAll_len cs a.2]
theorem walk_spec {r : OpenSpec} {k : Nat} {q : Program} {loose : List Str} {XP : (Str → Option Value) → Heap → Prop} {YP : World → Heap → Prop} {d : DefRec} {K : Params → PySem.W.Frag} {CX : World → CXT} {ps : List Str} {sp : World → Sp}
    (hwell : r.wellSaid = true) (hdf : d.params.defaults = []) (hlen : r.args.length = ps.length) (hr : Room k callerA)
    (hY : ∀ (w : World) (h : Heap), YP w h → (K w.params).In h)
    (F : ∀ (w : World) (mg : Str → Option Value) (fa : Addr) (h : Heap), YP w h → (K w.params).In h → h.Ns mainGlobals mg → mg d.name = some (.ref fa) →
      ∃ fd : FuncData, (∀ (s : Shared) (us : List Value), us.length = ps.length → BindsTo s fd ⟨us, []⟩ (ps.zip us)) ∧
        ∀ base : Heap, (K w.params).In base → base.Ns mainGlobals mg → FnOk r.prog w (K w.params) mg base (CX w) k fa fd ps (sp w))
    (hsp : ∀ (w : World) (H : Hp) (xs : List V) (a : Codec.denoteAll r.args), OnlyF H → Codec.withinAll r.args a = true → Codec.app r.args r.asked a = true → DwAll (K w.params) H xs (Codec.encAll r.args a) →
      sp w xs H (fun v H' => Dw (K w.params) H' v (r.ret.enc (Codec.app r.args r.f a))) fun _ _ _ => False)
    (hCX : ∀ (w : World) (H : Hp) (s : Shared) (e : Value) (s' : Shared), CX w [] H s (fun _ _ _ => False) e s' → False) :
    PySem.W.WalkOS q loose XP YP r d [] (fun f vs => PySem.call f vs) := by
  intro w s_0 s₁ mg mb G Y fa o pm cd doc dV kV ho hd hcd hD hmg hg args vals as hpre hlay hrd hwl hlo
  obtain ⟨a, e1, e2⟩ := PySem.W.os_pre_some hpre
  obtain ⟨e3, hwi⟩ := Codec.encAll_of_decAll r.args args a e1
  subst e3
  have KX := hY w _ Y
  obtain ⟨fd, hb, hF⟩ := F w mg fa _ Y KX G.T.g hmg
  refine PySem.W.enter_call (codeAny_mono (spec_call (R := []) (cl := classAt s_0.heap) (d0 := r.ret.enc (Codec.app r.args r.f a)) KX G.T.g G.T.b G.T.builtins G.T.nolimit hg hwl (pl_encAll _ _) (layable_weight hlay) hr hF hb (by rw [encAll_len]; exact hlen)
    (fun H xs hO hS => hsp w H xs a hO hwi e2 hS) fun H e s' => hCX w H s₁ e s') fun r' s' hq => ?_)
  obtain ⟨u, as', rfl, h1, h2, h3, h4⟩ := hq
  exact ⟨.inl ⟨u, _, as', rfl, fun _ => rfl, h1, (OpenSpec.post_iff hwell hwi _ _).mpr rfl, fun z => Bool.noConfusion (show false = true from z)⟩, h2, h3, h4⟩
theorem walk_specK {r : OpenSpec} {k : Nat} {q : Program} {loose : List Str} {XP : (Str → Option Value) → Heap → Prop} {YP : World → Heap → Prop} {d : DefRec} {K : Params → PySem.W.Frag} {CX : CXT} {ps : List Str} {sp : PySem.W.Frag → Sp}
    (hwell : r.wellSaid = true) (hdf : d.params.defaults = []) (hlen : r.args.length = ps.length) (hr : Room k callerA)
    (hY : ∀ (w : World) (h : Heap), YP w h → (K w.params).In h)
    (F : ∀ (w : World) (mg : Str → Option Value) (fa : Addr) (h : Heap), YP w h → (K w.params).In h → h.Ns mainGlobals mg → mg d.name = some (.ref fa) →
      ∃ fd : FuncData, (∀ (s : Shared) (us : List Value), us.length = ps.length → BindsTo s fd ⟨us, []⟩ (ps.zip us)) ∧
        ∀ base : Heap, (K w.params).In base → base.Ns mainGlobals mg → FnOk r.prog w (K w.params) mg base CX k fa fd ps (sp (K w.params)))
    (hsp : ∀ (K : PySem.W.Frag) (H : Hp) (xs : List V) (a : Codec.denoteAll r.args), OnlyF H → Codec.withinAll r.args a = true → Codec.app r.args r.asked a = true → DwAll K H xs (Codec.encAll r.args a) →
      sp K xs H (fun v H' => Dw K H' v (r.ret.enc (Codec.app r.args r.f a))) fun _ _ _ => False)
    (hCX : ∀ (H : Hp) (s : Shared) (e : Value) (s' : Shared), CX [] H s (fun _ _ _ => False) e s' → False) :
    PySem.W.WalkOS q loose XP YP r d [] (fun f vs => PySem.call f vs) :=
  walk_spec (K := K) (CX := fun _ => CX) (sp := fun w => sp (K w.params)) hwell hdf hlen hr hY F (fun w H xs a h1 h2 h3 h4 => hsp (K w.params) H xs a h1 h2 h3 h4) fun _ H s e s' => hCX H s e s'
end L2
end
section
set_option Elab.async false
set_option linter.all false
set_option maxRecDepth 100000
set_option maxHeartbeats 2000000
namespace L2
open PySem PySem.Spec PyProof.Rows
/-! Rules that the layer lacks: count, sum, max -/
section
variable {X : Cx}
theorem ints_items {ns : List Int} {its : List Value} (h : Vals (ns.map V.int) its) : ∃ xs : Array (Int × Tok), its.toArray = intItems xs ∧ ns = xs.toList.map (·.1) := by
  have hi := h.ints
  obtain ⟨xs, e⟩ := hi.allInts.items
  exact ⟨xs, e, by rw [← hi.numsOf, ← nums_intItems, ← e]⟩
theorem flat_ints : ∀ ns : List Int, (ns.map V.int).all flatV = true
  | [] => rfl
  | n :: ns => by
    rw [List.map_cons, List.all_cons, flat_ints ns]
    rfl
theorem countP_ints (z : Int) : ∀ {ns : List Int} {us : List Value}, Vals (ns.map V.int) us → us.countP (eqU (.int z)) = ns.countP fun n => decide (n = z)
  | [], us, h => by
    rw [List.map_nil] at h
    cases h
    rfl
  | n :: ns, us, h => by
    rw [List.map_cons] at h
    cases h with
    | cons r t =>
      obtain ⟨tk, rfl⟩ := r
      rw [List.countP_cons, List.countP_cons, countP_ints z t]
      have e : eqU (.int z) (Value.int n tk) = decide (n = z) := by
        show eqV (.int n) (.int z) = _
        unfold eqV
        first | rfl | exact Bool.beq_eq_decide_eq _ _
      rw [e]
inductive QRCount (K : PySem.W.Frag) (x : V) (xs : List V) (H : Hp) (Q : VK) : Prop
  | mk (a : Addr) (ns : List Int) (z : Int) (h1 : x = V.ref a) (h2 : xs = [V.int z]) (h3 : SqL K H a (ns.map V.int)) (q : Q (.int ((ns.countP fun n => decide (n = z) : Nat))) H) : QRCount K x xs H Q
def rCount (K : PySem.W.Frag) : V → List V → Hp → VK → Prop := fun x xs H Q => QRCount K x xs H Q
theorem mt_countI : MtR X "list.count" (rCount X.K) := by
  intro pins s σ H x xs v us Q I rx rxs h
  obtain ⟨a, ns, z, rfl, rfl, hs, q⟩ := h
  cases rx
  cases rxs with
  | cons ry rt =>
    rename_i uy ut
    cases rt
    obtain ⟨its, rv, ⟨⟨cls, dd, data, sl⟩, n, ho, hc, hdn, hd⟩, hlen⟩ := I.list hs
    simp only at hc hd
    subst hc hd
    refine call_meets PySem.F.slot_list_count ⟨_, ho, rfl⟩ PySem.F.entry_list_count (PySem.F.args_list_count_2 _ _)
      (SeqAt.list_countAt a its.toArray n dd sl uy (eqU (.int z))) ⟨ho, fun u' hu' => mem_eqAt ry rfl rv (flat_ints ns) u' (by simpa using hu'), ?_⟩
    refine ⟨.int _, H, I.tok _, ⟨_, rfl⟩, ?_⟩
    have e : its.toArray.toList.countP (eqU (.int z)) = ns.countP fun n => decide (n = z) := by
      rw [List.toList_toArray]
      exact countP_ints z rv
    rw [e]
    exact q
theorem best_at {ns : List Int} {xs : Array (Int × Tok)} (ens : ns = xs.toList.map (·.1)) (hne : 0 < ns.length) {v : Value} (hv : (intItems xs)[argBest (fun i j => decide (numAt xs i > numAt xs j)) (xs.size - 1)]? = some v) :
    ∃ m t, v = Value.int m t ∧ m ∈ ns ∧ ∀ n ∈ ns, n ≤ m := by
  have hsz : xs.size = ns.length := by rw [ens, List.length_map, Array.length_toList]
  obtain ⟨t, rfl⟩ := intItems_at hv
  obtain ⟨h1, h2⟩ := argBest_gt (numAt xs) (xs.size - 1)
  refine ⟨_, t, rfl, ?_, fun n hn => ?_⟩
  · rw [numAt_eq, ← ens]
    exact getD_mem (by omega)
  · obtain ⟨j, hj, rfl⟩ := mem_getD hn
    have := h2 j (by omega)
    rw [numAt_eq, ← ens] at this
    exact this
theorem vals3 {x y z : V} {us : List Value} (r : Vals [x, y, z] us) : ∃ u v w', us = [u, v, w'] ∧ RelV x u ∧ RelV y v ∧ RelV z w' := by
  cases r with
  | cons r1 r2 =>
    cases r2 with
    | cons r3 r4 =>
      cases r4 with
      | cons r5 r6 => cases r6; exact ⟨_, _, _, rfl, r1, r3, r5⟩
inductive QMax3 (xs : List V) (H : Hp) (Q : VK) : Prop
  | mk (i : _) (j : _) (k : _) (h1 : xs = [.int i, .int j, .int k]) (q : Q (.int (max i (max j k))) H) : QMax3 xs H Q
theorem call_max3 (hc : X.calm = true) : CallR X (.builtin "max") QMax3 := by
  intro pins s σ H xs us Q I r h
  obtain ⟨i, j, k, rfl, q⟩ := h
  obtain ⟨u, v, w', rfl, ⟨t, rfl⟩, ⟨t', rfl⟩, ⟨t2, rfl⟩⟩ := vals3 r
  refine max_three_ints (I.ok.hd hc) fun h' tk kk => ⟨_, H, I.kept kk, ?_, q⟩
  by_cases h1 : j > i
  · rw [if_pos h1]
    by_cases h2 : k > j
    · rw [if_pos h2]; exact ⟨t2, by congr 1; omega⟩
    · rw [if_neg h2]; exact ⟨t', by congr 1; omega⟩
  · rw [if_neg h1]
    by_cases h2 : k > i
    · rw [if_pos h2]; exact ⟨t2, by congr 1; omega⟩
    · rw [if_neg h2]; exact ⟨t, by congr 1; omega⟩
end
end L2
end
section
set_option Elab.async false
set_option linter.all false
set_option maxRecDepth 100000
set_option maxHeartbeats 2000000
namespace L2
open PySem PySem.Spec PyProof.Rows
/-! max(xs, default=d) -/
section
variable {prog : Program} {w : World} {A : Around} {E : Value → Shared → Prop} {s : Shared}
theorem mx_args (a v : Value) : argsOk "max" ⟨[a], [(Str.ofString "default", v)]⟩ := by unfold argsOk; kernel_rfl
theorem mx_name : (toString "max" ++ toString ".loop" : String) = "max.loop" := by decide
/-- the loop behind its first item, whatever default stands by -/
theorem mx_loop {R : Result → Shared → Prop} {I : Addr} {fp wr : List Addr} {n : Nat} {P : Nat → Value → Prop} {St : Nat → Heap → Prop} {kw : List (Str × Value)} (W : Walks prog w A.in1 I fp wr n P St) (bt : Nat → Nat → Bool)
    (cmp : CmpOf prog w A.in1 .Gt P bt) (S : Addr) (off : S ∉ fp) : ∀ (k j : Nat) (s : Shared) (b : Value) (c : Nat), n - (j + 1) = k → j + 1 ≤ n → St (j + 1) s.heap → P (argBest bt j) b →
      s.heap.get? S = some { cls := .type "list", dict := none, data := .seq #[b, b] c, slots := #[] } →
      (∀ v h' tk, P (argBest bt (n - 1)) v → (∀ x o, x ∉ wr → x ≠ S → s.heap.get? x = some o → h'.get? x = some o) → R (.ok (.ret v)) { s with heap := h', toks := tk }) →
      codeAny (model prog w) A (.builtin "max.loop" ⟨[.ref I, .none, .ref S], kw⟩) R s := by
  have offw : S ∉ wr := fun z => off (W.sub _ z)
  intro k
  induction k with
  | zero =>
    intro j s b c ek ej st pb gS fin
    have en : j + 1 = n := by omega
    apply codeAny_builtin F.entry_max_loop
    rw [show _ = A.in1 from Around.under_plainId F.plain_max_loop _]
    show wpAny _ A.in1 (seqItems? (.ref S) >>= _) _ _ _
    apply wpAny_bind; apply wpAny_seqItems gS rfl
    show wpAny _ A.in1 (tryCatch (pyNext (.ref I)) _ >>= _) _ _ _
    apply wpAny_bind; apply wpAny_tryCatch
    refine W.done s _ _ (en ▸ st) fun h1 tk kp => ?_
    have gS1 := kp S _ offw gS
    show wpAny _ A.in1 (updateSeq S (fun _ => #[]) >>= _) _ _ _
    apply wpAny_bind
    refine wpAny_updateSeq gS1 rfl ?_
    apply wpAny_bind; apply wpAny_letGo; apply wpAny_pure
    exact fin b _ tk (by rw [← en]; exact pb) fun x o nx nS e => (Heap.get?_update_other _ _ (Ne.symm nS)).trans (kp x o nx e)
  | succ k ih =>
    intro j s b c ek ej st pb gS fin
    have lt : j + 1 < n := by omega
    apply codeAny_builtin F.entry_max_loop
    rw [show _ = A.in1 from Around.under_plainId F.plain_max_loop _]
    show wpAny _ A.in1 (seqItems? (.ref S) >>= _) _ _ _
    apply wpAny_bind; apply wpAny_seqItems gS rfl
    show wpAny _ A.in1 (tryCatch (pyNext (.ref I)) _ >>= _) _ _ _
    apply wpAny_bind; apply wpAny_tryCatch
    refine W.item (j + 1) s _ _ lt st fun v h1 tk pv st1 kp => ?_
    have gS1 := kp S _ offw gS
    show wpAny _ A.in1 (tryCatch (holding [v, v] (richCompare .Gt v b >>= _)) _ >>= _) _ _ _
    apply wpAny_bind; apply wpAny_tryCatch; apply wpAny_holding; apply wpAny_bind
    refine cmp (j + 1) (argBest bt j) v b _ _ _ pv pb ?_
    apply wpAny_bind; apply wpAny_holding; apply wpAny_truthy_bool
    apply wpAny_bind; apply wpAny_letGo; apply wpAny_pure
    cases hb : bt (j + 1) (argBest bt j) with
    | true =>
      simp only [if_true]
      apply wpAny_bind
      refine wpAny_updateSeq gS1 rfl ?_
      apply wpAny_bind; apply wpAny_letGo
      rw [mx_name]
      apply wpAny_pure
      refine ⟨plainId_quiet F.plain_max_loop _, ih (j + 1) _ v _ (by omega) lt (W.frame _ _ _ st1 fun x hx o e => ?_) (by simp only [argBest, hb, if_true]; exact pv) (Heap.get?_update_self _ gS1 rfl) fun v' h2 tk2 pv' kp2 => ?_⟩
      · exact (Heap.get?_update_other _ _ (fun z : S = x => off (z ▸ hx))).trans e
      · exact fin v' h2 tk2 pv' fun x o nx nS e => kp2 x o nx nS ((Heap.get?_update_other _ _ (Ne.symm nS)).trans (kp x o nx e))
    | false =>
      simp only [Bool.false_eq_true, if_false]
      apply wpAny_bind; apply wpAny_letGo
      rw [mx_name]
      apply wpAny_pure
      refine ⟨plainId_quiet F.plain_max_loop _, ih (j + 1) _ b c (by omega) lt st1 (by simp only [argBest, hb, Bool.false_eq_true, if_false]; exact pb) gS1 fun v' h2 tk2 pv' kp2 => ?_⟩
      exact fin v' h2 tk2 pv' fun x o nx nS e => kp2 x o nx nS (kp x o nx e)
/-- the whole call -/
theorem max_default {l : Addr} {xs : Array (Int × Tok)} {d : Value} {Q : Value → Shared → Prop} (hh : A.handled = none) (hl : s.heap.IsList l (intItems xs))
    (h0 : xs.size = 0 → ∀ h' tk, (∀ b o, s.heap.get? b = some o → h'.get? b = some o) → Q d { s with heap := h', toks := tk })
    (h1 : 0 < xs.size → ∀ v h' tk, (intItems xs)[argBest (fun i j => decide (numAt xs i > numAt xs j)) (xs.size - 1)]? = some v → (∀ b o, s.heap.get? b = some o → h'.get? b = some o) → Q v { s with heap := h', toks := tk }) :
    wpAny (model prog w) A (call (.builtin "max") [.ref l] [(Str.ofString "default", d)]) Q E s := by
  have hlt : l < s.heap.objs.size := by obtain ⟨_, e, _⟩ := hl; exact Heap.lt_size e
  refine kmk_tree F.kind_max F.plain_max F.entry_max (mx_args _ _) ?_
  show wpAny _ A.in1 (Builtin.Builtins.bindParams "max" ["key", "default"] 0 ⟨[], [(Str.ofString "default", d)]⟩ >>= _) _ _ s
  apply wpAny_bind
  refine wpAny_of_eq (show Builtin.Builtins.bindParams "max" ["key", "default"] 0 ⟨[], [(Str.ofString "default", d)]⟩ = pure [none, some d] from rfl) ?_
  apply wpAny_bind; apply wpAny_pure; apply wpAny_bind
  refine wpAny_pyIter_list hl ?_
  apply wpAny_bind
  refine wpAny_newList ?_ (Nat.zero_le _)
  rw [mx_name]
  apply wpAny_pure
  refine ⟨plainId_quiet F.plain_max_loop _, ?_⟩
  generalize hs1 : s.heap.push { cls := .type "list_iterator", data := .fields #[.ref l, .int 0 0] } = hp1
  have z1 : hp1.objs.size = s.heap.objs.size + 1 := by rw [← hs1]; exact Heap.size_push ..
  have gI : (hp1.push (PyProof.Rows.seqObj "list" #[] 0)).get? s.heap.objs.size = some { cls := .type "list_iterator", data := .fields #[.ref l, .int 0 0] } := by
    rw [← hs1]; exact Heap.get?_push_of_some _ (Heap.get?_push_size _ rfl)
  have gS : (hp1.push (PyProof.Rows.seqObj "list" #[] 0)).get? hp1.objs.size = some (PyProof.Rows.seqObj "list" #[] 0) := Heap.get?_push_size _ rfl
  have old : ∀ b o, s.heap.get? b = some o → (hp1.push (PyProof.Rows.seqObj "list" #[] 0)).get? b = some o := fun b o e => by
    rw [← hs1]; exact Heap.get?_push_of_some _ (Heap.get?_push_of_some _ e)
  have hl2 : (hp1.push (PyProof.Rows.seqObj "list" #[] 0)).IsList l (intItems xs) := hl.at fun o e => old _ _ e
  have nI : l ≠ s.heap.objs.size := Nat.ne_of_lt hlt
  have nS : hp1.objs.size ∉ [s.heap.objs.size, l] := by
    rw [z1]; intro z
    simp only [List.mem_cons, List.not_mem_nil, or_false] at z
    rcases z with z | z
    · exact Nat.succ_ne_self _ z
    · exact Nat.lt_irrefl _ (Nat.lt_of_succ_lt (Nat.lt_of_le_of_lt (Nat.le_of_eq z) hlt))
  have W := Walks.list (prog := prog) (w := w) (A := A.in1) hh s.heap.objs.size l nI (intItems xs)
  have offw : hp1.objs.size ∉ [s.heap.objs.size] := fun z => nS (W.sub _ z)
  have isz : (intItems xs).size = xs.size := by simp [intItems]
  have st0 : (hp1.push (PyProof.Rows.seqObj "list" #[] 0)).IsListIter s.heap.objs.size l 0 ∧ (hp1.push (PyProof.Rows.seqObj "list" #[] 0)).IsList l (intItems xs) := ⟨⟨_, gI, rfl, rfl⟩, hl2⟩
  apply codeAny_builtin F.entry_max_loop
  rw [show _ = A.in1 from Around.under_plainId F.plain_max_loop _]
  show wpAny _ A.in1 (seqItems? (.ref hp1.objs.size) >>= _) _ _ _
  apply wpAny_bind; apply wpAny_seqItems gS rfl
  show wpAny _ A.in1 (tryCatch (pyNext (.ref s.heap.objs.size)) _ >>= _) _ _ _
  apply wpAny_bind; apply wpAny_tryCatch
  have keep1 : ∀ b o, s.heap.get? b = some o → b ∉ [s.heap.objs.size] ∧ b ≠ hp1.objs.size := fun b o e => by
    have lt := Heap.lt_size e
    refine ⟨fun z => Nat.ne_of_lt lt (List.mem_singleton.mp z), ?_⟩
    rw [z1]
    exact Nat.ne_of_lt (Nat.lt_succ_of_lt lt)
  by_cases h : xs.size = 0
  · refine W.done _ _ _ (by rw [isz, h]; exact st0) fun h2 tk kp => ?_
    show wpAny _ A.in1 (do rule _; ret d) _ _ _
    apply wpAny_bind; apply wpAny_rule; apply wpAny_pure
    exact h0 h h2 tk fun b o e => kp b o (keep1 b o e).1 (old b o e)
  · refine W.item 0 _ _ _ (by omega) st0 fun v h2 tk pv st1 kp => ?_
    have gS1 := kp _ _ offw gS
    show wpAny _ A.in1 (updateSeq hp1.objs.size (fun _ => #[v, v]) >>= _) _ _ _
    apply wpAny_bind
    refine wpAny_updateSeq gS1 rfl ?_
    rw [mx_name]
    apply wpAny_pure
    refine ⟨plainId_quiet F.plain_max_loop _, mx_loop W (fun i j => decide (numAt xs i > numAt xs j)) (CmpOf.ints_gt (numAt xs) (fun _ _ => intItems_at)) hp1.objs.size nS _ 0 _ v _ rfl (by omega) (W.frame _ _ _ st1 fun x hx o e => ?_) pv (Heap.get?_update_self _ gS1 rfl) fun v' h3 tk3 pv' kp3 => ?_⟩
    · exact (Heap.get?_update_other _ _ (fun z : hp1.objs.size = x => nS (z ▸ hx))).trans e
    · refine h1 (by omega) v' h3 tk3 (by rw [← isz]; exact pv') fun b o e => ?_
      obtain ⟨k1, k2⟩ := keep1 b o e
      exact kp3 b o k1 k2 ((Heap.get?_update_other _ _ (Ne.symm k2)).trans (kp b o k1 (old b o e)))
end
section
variable {X : Cx} {e d : Expr} {te td : TE} {p pos kpos : Pos}
/-- max(e, default=d) of a list of ints -/
inductive QTMaxD (K : PySem.W.Frag) (vs zs : List V) (H2 : Hp) (Q : VK) : Prop
  | mk (a : Addr) (ns : List Int) (z : Int) (h1 : vs = [V.ref a]) (h2 : zs = [V.int z]) (h3 : SqL K H2 a (ns.map V.int)) (h4 : (ns = [] → Q (.int z) H2)) (q : ∀ m, m ∈ ns → (∀ y, y ∈ ns → y ≤ m) → Q (.int m) H2) : QTMaxD K vs zs H2 Q
def tMaxD (K : PySem.W.Frag) (t tk : TA) : TE := fun σ H Q => t σ H fun vs H1 => tk σ H1 fun zs H2 => QTMaxD K vs zs H2 Q
theorem pe_maxD {t tk : TA} (hc : X.calm = true) (hg : Gl X "max") (hm : X.mg "max" = none) (ha : PA X [e] t) (hk : PK X [⟨some (Str.ofString "default"), d, kpos⟩] tk) (hs : starEach [e] X.env = [(false, eval e X.env)] := by rfl) :
    PE X (.Call (.Name "max" p) [e] [⟨some (Str.ofString "default"), d, kpos⟩] pos) (tMaxD X.K t tk) := by
  intro pins s σ H Q I h
  refine wpAny_Call_Name_kw (ld_blt I hg hm (u := .builtin "max") (by decide +kernel) ?_)
  refine callWith_kw (thn (ha pos pins s σ H _ I h) fun us s1 ⟨vs, H1, I1, r1, q1⟩ => thn (hk pos pins s1 σ H1 _ I1 q1) fun ws s2 ⟨zs, H2, I2, r2, q2⟩ => ?_) (by rw [hs]; rfl) (by rw [hs]; rfl)
  obtain ⟨a, ns, z, rfl, rfl, hS, q0, q⟩ := q2
  obtain ⟨u, rfl, ru⟩ := vals1 r1
  obtain ⟨u2, rfl, t2, rfl⟩ := vals1 r2
  cases ru
  obtain ⟨its, rv, hl, _⟩ := I2.list hS
  obtain ⟨xs, e1, ens⟩ := ints_items rv
  have hl' := hl.isList
  rw [e1] at hl'
  have hsz : xs.size = ns.length := by rw [ens, List.length_map, Array.length_toList]
  show wpAny _ _ (call (.builtin "max") [.ref a] [(Str.ofString "default", .int z t2)]) _ _ _
  refine max_default (I2.ok.hd hc) hl' (fun z0 h' tk kp => ?_) fun z1 v h' tk hv kp => ?_
  · have : ns = [] := List.length_eq_zero_iff.mp (by omega)
    exact ⟨.int z, H2, I2.kept kp, ⟨t2, rfl⟩, q0 this⟩
  · obtain ⟨m, t, rfl, m1, m2⟩ := best_at ens (by omega) hv
    exact ⟨.int m, H2, I2.kept kp, ⟨t, rfl⟩, q m m1 m2⟩
end
end L2
end
section
set_option Elab.async false
set_option linter.all false
set_option maxRecDepth 100000
set_option maxHeartbeats 4000000
namespace L2
open PySem PySem.Spec PyProof.Rows
open AutoSeq1 (wpAny_loadPart')
/-! enumerate(xs, start=1) -/
abbrev kw1 (t : Tok) : List (Str × Value) := [(Str.ofString "start", Value.int 1 t)]
theorem en_type (a : Value) (t : Tok) : checkTypeCall "enumerate" ⟨[a], kw1 t⟩ = pure () := by kernel_rfl
theorem en_new (a : Value) (t : Tok) : checkBuiltinCall "enumerate.__new__" ⟨[.type "enumerate", a], kw1 t⟩ = pure () := by kernel_rfl
theorem en_init (a b : Value) (t : Tok) : argsOk "object.__init__" ⟨[a, b], kw1 t⟩ := by unfold argsOk; kernel_rfl
def enTail (x : Value × Option Value) : Sem Fin := do
  let (xs, at1) := x
  let mut k0 : Int := 0
  let mut gv : Value := .none
  if let some z := at1 then
    let ob ← Builtin.SmallTypes.indexObject "enumerate.__new__" z
    let some k ← asInt? ob | unsupported "internal:enumerate.__new__"
    k0 := k
    if !Builtin.SmallTypes.fitsIndex k then
      (rule "enumerate.__new__.huge-start" : Sem Unit)
      gv ← match ob with
        | .int .. => pure ob
        | _ => mkInt k
  ret (← Builtin.SmallTypes.newRecord (.type "enumerate") (Builtin.SmallTypes.ownedTupleFields ++ [← pyIter xs, rawInt k0, gv, .none]))
theorem en_made (l : Addr) (t : Tok) (items : Array Value) (n : Nat) (dct : Option Addr) (sl : Array (Option Value)) :
    Meets (Builtin.«enumerate.__new__» ⟨[.type "enumerate", .ref l], kw1 t⟩) (fun _ R s => s.heap.get? l = some { cls := .type "list", dict := dct, data := .seq items n, slots := sl } ∧
      R (.ok (.ret (.ref (s.heap.push { cls := .type "list_iterator", data := .fields #[.ref l, .int 0 0] }).objs.size)))
        { s with heap := (s.heap.push { cls := .type "list_iterator", data := .fields #[.ref l, .int 0 0] }).push { cls := .type "enumerate", data := .fields #[.none, .bool false, .ref s.heap.objs.size, rawInt 1, .none, .none] } }) :=
  .of_wp fun prog w A R s h => by
    obtain ⟨hp, g, d, tk, os⟩ := s
    obtain ⟨hl, h⟩ := h
    have hsub := sub_enumerate
    have hL : Heap.IsList (Shared.heap ⟨hp, g, d, tk, os⟩) l items := ⟨_, hl, rfl, n, rfl⟩
    wp_walk using wpAny_loadPart' hl
    refine wpAny_stack_any fun st => wpAny_pure ?_
    have go : ∀ b : Bool, wpAny (model prog w) A.in1 (if b = true then (do let x ← pure (Value.ref l, some (Value.int 1 t)); enTail x) else (do let x ← pure (Value.ref l, some (Value.int 1 t)); enTail x)) (fun fin s' => ∃ v, fin = Fin.done (Flow.ret v) ∧ R (Except.ok (Flow.ret v)) s')
            (fun e s' => R (Except.error e) s') { heap := hp, gens := g, drawn := d, toks := tk, os := os } := by
      intro b
      have one : wpAny (model prog w) A.in1 (do let x ← pure (Value.ref l, some (Value.int 1 t)); enTail x) (fun fin s' => ∃ v, fin = Fin.done (Flow.ret v) ∧ R (Except.ok (Flow.ret v)) s') (fun e s' => R (Except.error e) s') { heap := hp, gens := g, drawn := d, toks := tk, os := os } := by
        unfold enTail
        wp_walk using wpAny_loadPart' hl, wpAny_pyIter_list hL
        exact ⟨_, rfl, h⟩
      cases b
      · rw [if_neg Bool.false_ne_true]; exact one
      · rw [if_pos rfl]; exact one
    exact go _
section
variable {prog : Program} {w : World} {A : Around} {E : Value → Shared → Prop} {s : Shared}
theorem en_obj {obj b : Value} {t : Tok} : Meets (Builtin.«object.__init__» ⟨[obj, b], kw1 t⟩) (fun _ R s => s.TypeIs obj "enumerate" ∧ R (.ok (.ret .none)) s) := by
  refine Meets.of_wp fun prog w A R s hs => ?_
  obtain ⟨hT, hq⟩ := hs
  have hl := F.called_enumerate.init.lookup
  have hm := F.called_enumerate.made
  repeat (any_goals (first | assumption | wp_step))
  exact ⟨_, rfl, hq⟩
theorem en_call {l : Addr} {t : Tok} {items : Array Value} {Q : Value → Shared → Prop} (hL : s.heap.IsList l items)
    (h : ∀ h', IsEnum h' (s.heap.objs.size + 1) s.heap.objs.size 1 .none → h'.IsListIter s.heap.objs.size l 0 → h'.objs.size = s.heap.objs.size + 2 → (∀ b o, s.heap.get? b = some o → h'.get? b = some o) → Q (.ref (s.heap.objs.size + 1)) { s with heap := h' }) :
    wpAny (model prog w) A (call (.type "enumerate") [.ref l] (kw1 t)) Q E s := by
  obtain ⟨⟨c, dct, dt, sl⟩, hl, hc, n, hd⟩ := hL
  obtain rfl : c = .type "list" := hc
  obtain rfl : dt = .seq items n := hd
  have ft := F.called_enumerate
  obtain ⟨c1, tl, hmro⟩ := ft.mro
  have hmade := ft.made
  have hsub := ft.sub
  apply wpAny_call; apply codeAny_of_tree
  show wpAny _ _ (callAny (.type "enumerate") _) _ _ _
  apply wpAny_pure
  refine ⟨Code.quiet_builtin _ (by decide +kernel), codeAny_builtin F.entry_type_call ?_⟩
  rw [Around.under_plain (weight_type_call_type "enumerate" [.ref l] (kw1 t)) (units_type_call_type "enumerate" [.ref l] (kw1 t))]
  have h1 := ft.notType
  have h2 := ft.canCreate
  have hct := en_type (.ref l) t
  have hcn := en_new (.ref l) t
  repeat (any_goals (first | assumption | wp_step))
  have z1 : (s.heap.push { cls := .type "list_iterator", data := .fields #[.ref l, .int 0 0] }).objs.size = s.heap.objs.size + 1 := Heap.size_push ..
  refine codeAny_mono (codeAny_call_builtin ft.plain F.entry_enumerate_new (wpAny_of_eq hcn (en_made l t items n dct sl prog w A.in1 (wants (fun obj s₁ => s₁.TypeIs obj "enumerate" ∧ Q obj s₁) E) s ⟨hl, ?_⟩))) fun r s₁ hr => ?_
  · show _ ∧ _
    rw [z1]
    have he : IsEnum ((s.heap.push { cls := .type "list_iterator", data := .fields #[.ref l, .int 0 0] }).push { cls := .type "enumerate", data := .fields #[.none, .bool false, .ref s.heap.objs.size, rawInt 1, .none, .none] }) (s.heap.objs.size + 1) s.heap.objs.size 1 .none := by
      have q := Heap.get?_push_size (s.heap.push { cls := .type "list_iterator", data := .fields #[.ref l, .int 0 0] }) (o := { cls := .type "enumerate", data := .fields #[.none, .bool false, .ref s.heap.objs.size, rawInt 1, .none, .none] }) rfl
      rw [z1] at q
      exact q
    exact ⟨⟨_, he, rfl⟩, h _ he ⟨_, Heap.get?_push_of_some _ (Heap.get?_push_size _ rfl), rfl, rfl⟩ (by rw [Heap.size_push, z1]) fun b o x => Heap.get?_push_of_some _ (Heap.get?_push_of_some _ x)⟩
  · cases r with
    | error e => exact hr
    | ok fl =>
      cases fl with
      | ret obj =>
        obtain ⟨hT, hq⟩ := hr
        have hli := ft.init.lookup
        have hbi := ft.init.bind obj
        repeat (any_goals (first | assumption | wp_step))
        refine codeAny_mono (codeAny_call_builtin ft.init.plain F.entry_object_init (ft.init.check _ _ _ _ _ _ _ _ hT (en_init obj (.ref l) t) (en_obj prog w A.in1 (wants (fun r s₂ => r = .none ∧ Q obj s₂) E) s₁ ⟨hT, rfl, hq⟩))) fun r₂ s₂ hr₂ => ?_
        cases r₂ with
        | error e => exact hr₂
        | ok fl₂ =>
          cases fl₂ with
          | ret r =>
            obtain ⟨rfl, hq⟩ := hr₂
            repeat (any_goals (first | assumption | wp_step))
          | _ => exact hr₂.elim
      | _ => exact hr.elim
theorem en_with {M : Model} {env : Env} {pos : Pos} {T : String} {e : Expr} {kws : List Keyword} {Q : Value → Shared → Prop}
    (h : wpAny M A (spliced (backTo pos (starEach [e] env))) (fun vs s₁ => wpAny M A (evalAll ((backToKw pos (keywordEach kws env)).map (·.2)))
      (fun kvs s₂ => wpAny M A (call (.type T) vs (((backToKw pos (keywordEach kws env)).filterMap (·.1)).zip kvs)) Q E s₂) E s₁) E s)
    (he : starEach [e] env = [(false, eval e env)]) (hall : (backToKw pos (keywordEach kws env)).all (·.1.isSome) = true := by rfl) (hkw : (backToKw pos (keywordEach kws env)).any (·.1.isNone) = false := by rfl) :
    wpAny M A (callWith pos (.type T) [] (backTo pos (starEach [e] env)) (backToKw pos (keywordEach kws env))) Q E s := by
  have hb : backTo pos [(false, eval e env)] = [(false, eval e env)] := rfl
  rw [he, hb] at h ⊢
  have hplain : ([(false, eval e env)] : List (Bool × Sem Value)).any (·.1) = false := rfl
  unfold callWith
  apply wpAny_bind; apply wpAny_holding
  refine wpAny_mono (evalArgs_kwB (f := .type T) (Q := fun a s₁ => wpAny M A (call (.type T) a.pos a.kw) Q E s₁) hall h) (fun a s₁ h₁ => wpAny_bind (wpAny_standAt ?_)) fun _ _ x => x
  simp only [hplain, hkw, Bool.or_false]
  apply wpAny_bind; apply wpAny_pure; apply wpAny_bind
  exact wpAny_mono h₁ (fun r s₂ hr => wpAny_bind (wpAny_holding (wpAny_point (wpAny_pure hr)))) fun _ _ x => x
end
/-- the places of a list, from 1 -/
theorem en_draws {prog : Program} {w : World} {A : Around} {it : Addr} {fp : List Addr} {n : Nat} {P : Nat → Value → Prop} {St : Nat → Heap → Prop} (D : Draws prog w A it fp n P St) :
    Draws prog w A it fp (n + 1) (fun i v => P (i - 1) v) (fun i h => 0 < i ∧ St (i - 1) h) where
  live := fun _ _ st => D.live _ _ st.2
  frame := fun _ _ _ st k => ⟨st.1, D.frame _ _ _ st.2 k⟩
  item := fun i s Q E hi st hQ => D.item (i - 1) s Q E (by have := st.1; omega) st.2 fun x h' tk p st' sb => hQ x h' tk p ⟨Nat.succ_pos _, by
    have e : i + 1 - 1 = i - 1 + 1 := by have := st.1; omega
    rw [e]; exact st'⟩ sb
  done := fun s Q E st hE => D.done s Q E (by have := st.2; simpa using this) hE
/-- the list at a as it stands at each turn, each item in a new pair, numbered from 1 -/
def Ite1 (K : PySem.W.Frag) (a : Addr) : It :=
  ⟨fun i H => ∃ (xs : List V) (x : V), SqL K H a xs ∧ xs[i]? = some x, fun i H v H' => ∃ T x, v = .ref T ∧ H T = none ∧ H' = upd H T (.tup [.int ((i + 1 : Nat) : Int), x]) ∧ ∀ xs, SqL K H a xs → xs[i]? = some x, fun i H => ∃ xs : List V, SqL K H a xs ∧ xs.length ≤ i⟩
theorem turn_enum1 {P : Program} {w : World} {K : PySem.W.Frag} {elts : List Expr} {kk : Nat} {tpos : Pos} (a e it : Addr) :
    Turn P w K (.Tuple elts kk tpos) (Ite1 K a) [e, it] e (fun i h => (∃ old, IsEnum h e it ((i + 1 : Nat) : Int) old) ∧ h.IsListIter it a i ∧ e ≠ it) where
  mem := by simp
  obj := fun i h st b hb => by
    obtain ⟨⟨old, he⟩, ⟨o, ho, hc, hd⟩, _⟩ := st
    have e' : b = e ∨ b = it := by simpa using hb
    rcases e' with z | z
    · rw [z]; exact ⟨_, he, fun v q => nomatch q⟩
    · rw [z]; exact ⟨o, ho, fun v q => by rw [hd] at q; cases q⟩
  keep := fun i h h' st k => let ⟨⟨old, he⟩, hi, hne⟩ := st; ⟨⟨old, k e (by simp) _ he⟩, hi.at fun o q => k it (by simp) o q, hne⟩
  item := by
    intro X hP hw hK hc i pins s σ H E I hf st hg
    subst hP hw hK
    obtain ⟨⟨old, he⟩, hit, hne⟩ := st
    obtain ⟨xs, x, hq, hx⟩ := hg
    obtain ⟨its, rv, p, hz⟩ := I.list hq
    obtain ⟨u, hu, ru⟩ := rv.get hx
    have hel : e < s.heap.objs.size := Heap.lt_size he
    have hil : it < s.heap.objs.size := by obtain ⟨_, q, _⟩ := hit; exact Heap.lt_size q
    have nai : a ≠ it := by
      rintro rfl
      obtain ⟨o, q1, q2, _⟩ := hit
      obtain ⟨o', r1, r2, _⟩ := p.isList
      rw [q1] at r1; cases r1; rw [q2] at r2; exact absurd (Value.type.inj r2) (by decide)
    have nae : e ∉ [it, a] := by
      intro z
      rcases List.mem_cons.mp z with z | z
      · exact hne z
      · have z := List.mem_singleton.mp z
        subst z
        obtain ⟨o', r1, r2, _⟩ := p.isList
        rw [show s.heap.get? e = _ from he] at r1; cases r1; exact absurd (Value.type.inj r2) (by decide)
    have hil' : i < its.length := (List.getElem?_eq_some_iff.mp hu).1
    have D := en_draws (Draws.list (prog := X.prog) (w := X.w) (A := X.A.in1) (I.ok.hd hc) it a nai its.toArray)
    refine wpAny_pyNext_enum_itemD D he ⟨Nat.succ_pos _, hit, p.isList⟩ (by rw [List.size_toArray]; omega) hne nae fun y h' tk hy ho hit' hT hsz hk => ?_
    obtain rfl : y = u := by
      have : its.toArray[i + 1 - 1]? = some y := hy
      simp only [Nat.add_sub_cancel, List.getElem?_toArray] at this
      rw [hu] at this; exact (Option.some.inj this).symm
    refine ⟨_, rfl, wpAny_letOwnedTupleGo_enum (s := { s with heap := h', toks := tk + 1 }) ho fun h2 he' sb => ?_⟩
    have hT2 : h2.get? s.heap.objs.size = some { cls := .type "tuple", data := .seq #[.int ((i + 1 : Nat) : Int) tk, y] } := (sb.2 _ (Nat.ne_of_gt hel)).trans hT
    have new : ObjOk X.prog X.w (upd H s.heap.objs.size (.tup [.int ((i + 1 : Nat) : Int), x])) h2 s.heap.objs.size (.tup [.int ((i + 1 : Nat) : Int), x]) :=
      ⟨by show 2 ≤ sizeLine; decide, [.int ((i + 1 : Nat) : Int) tk, y], .cons ⟨_, rfl⟩ (.cons ru .nil), ⟨_, hT2, rfl, _, rfl⟩⟩
    have I1 : Inv X pins σ (upd H s.heap.objs.size (.tup [.int ((i + 1 : Nat) : Int), x])) { s with heap := h2, toks := tk + 1 } :=
      I.turnedNew (ch := [e, it]) (fun b ob hb q => (sb.2 b (fun z => hb (by simp [z]))).trans (hk b ob (fun z => hb (by simp [z])) (fun z => hb (by simp [z])) q)) hf (Nat.le_refl _) new
    refine ⟨.ref s.heap.objs.size, _, I1, rfl, ⟨_, x, rfl, I.hok.fresh (Nat.le_refl _), rfl, fun ys hy => by rw [I.list_inj hy hq]; exact hx⟩, ⟨⟨y, ?_⟩, ?_, hne⟩, fun b hb => ?_⟩
    · have e1 : ((i + 1 + 1 : Nat) : Int) = ((i + 1 : Nat) : Int) + 1 := by omega
      rw [e1]; exact he'
    · have q := hit'.2.1
      simp only [Nat.add_sub_cancel] at q
      exact q.at fun o q => (sb.2 it (Ne.symm hne)).trans q
    · have hb' : b < s.heap.objs.size := by
        have e' : b = e ∨ b = it := by simpa using hb
        rcases e' with z | z
        · rw [z]; exact hel
        · rw [z]; exact hil
      rw [upd_ne (Nat.ne_of_lt hb')]
      exact (hf b hb).1
  done := by
    intro X hP hw hK hc i pins s σ H E I hf st hg
    subst hP hw hK
    obtain ⟨⟨old, he⟩, hit, hne⟩ := st
    obtain ⟨xs, hq, hx⟩ := hg
    obtain ⟨its, rv, p, hz⟩ := I.list hq
    obtain ⟨f0, f1, f2, f3, f4, f5⟩ := hf it (by simp)
    have hl := rv.length
    have hT : s.TypeIs (.ref e) "enumerate" := ⟨_, he, rfl⟩
    unfold pyNext
    apply wpAny_bind; apply wpAny_attempt
    refine wpAny_callSpecial?_slot (name := Str.ofString "__next__") hT F.slot_enumerate_next (wpAny_call_entry F.slot_enumerate_next hT F.entry_enumerate_next ?_ (F.args_enumerate_next_1 _))
    show wpAny _ _ (field (.ref e) 2 >>= _) _ _ _
    apply wpAny_bind; apply wpAny_field he rfl (x := .ref it) rfl
    apply wpAny_bind
    refine wpAny_nextOf_list_end (I.ok.hd hc) hit p.isList (by simp; omega) fun h' x he' hx' => ?_
    obtain ⟨o, ho, hcl⟩ := hx'
    apply wpAny_bind
    refine wpAny_isInstance (T := "StopIteration") (b := true) ⟨o, ho, hcl⟩ isSubtype_stop ?_
    exact wpAny_pure ⟨rfl, I.turned (t' := s.toks) (fun b o hb q => he' b o hb q) f0 f1 f3 f4 f5⟩
  self := fun A i s Q E st h => let ⟨⟨_, he⟩, _⟩ := st; wpAny_pyIter_enum he h
inductive QIEnum1 (K : PySem.W.Frag) (vs zs : List V) (H2 : Hp) (R : It → Hp → Prop) : Prop
  | mk (a : _) (xs : _) (h1 : vs = [.ref a]) (h2 : zs = [V.int 1]) (h3 : SqL K H2 a xs) (q : R (Ite1 K a) H2) : QIEnum1 K vs zs H2 R
def iEnum1 (K : PySem.W.Frag) (ta tk : TA) : TI := fun σ H R => ta σ H fun vs H1 => tk σ H1 fun zs H2 => QIEnum1 K vs zs H2 R
theorem pi_enum1 {X : Cx} {e d : Expr} {ta tk : TA} {p pos tpos kpos : Pos} {elts : List Expr} {kk : Nat} (hg : Gl X "enumerate") (hm : X.mg "enumerate" = none) (ha : PA X [e] ta) (hk : PK X [⟨some (Str.ofString "start"), d, kpos⟩] tk)
    (hs : starEach [e] X.env = [(false, eval e X.env)] := by rfl) : PI X (.Tuple elts kk tpos) (.Call (.Name "enumerate" p) [e] [⟨some (Str.ofString "start"), d, kpos⟩] pos) (iEnum1 X.K ta tk) := by
  intro pins s σ H R I h
  refine wpAny_Call_Name_kw (ld_blt I hg hm boot_enumerate ?_)
  refine en_with (thn (ha pos pins s σ H _ I h) fun us s1 ⟨vs, H1, I1, r1, q1⟩ => thn (hk pos pins s1 σ H1 _ I1 q1) fun ws s2 ⟨zs, H2, I2, r2, q2⟩ => ?_) hs
  obtain ⟨a, xs, rfl, rfl, hq, q⟩ := q2
  obtain ⟨u, rfl, ru⟩ := vals1 r1
  obtain ⟨u2, rfl, t2, rfl⟩ := vals1 r2
  cases ru
  obtain ⟨its, rv, p', hz⟩ := I2.list hq
  show wpAny _ _ (call (.type "enumerate") [.ref a] (kw1 t2)) _ _ _
  refine en_call p'.isList fun h' he hit hsz hk => wpAny_pyIter_enum he ?_
  have I3 : Inv X pins σ H2 { s2 with heap := h' } := I2.kept (t' := s2.toks) hk
  refine ⟨s2.heap.objs.size + 1, [s2.heap.objs.size + 1, s2.heap.objs.size], _, _, H2, rfl, I3, turn_enum1 a (s2.heap.objs.size + 1) s2.heap.objs.size, ⟨⟨.none, he⟩, hit, Nat.succ_ne_self _⟩, fun b hb => ?_, q⟩
  have e' : b = s2.heap.objs.size + 1 ∨ b = s2.heap.objs.size := by simpa using hb
  have hle : s2.heap.objs.size ≤ b := by
    rcases e' with z | z
    · rw [z]; exact Nat.le_add_right _ _
    · rw [z]; exact Nat.le_refl _
  exact I2.fpOk hle (I2.hok.fresh hle)
end L2
end
set_option linter.all false
namespace Ps
/-! words over an alphabet -/
def words {α : Type} (A : List α) : Nat → List (List α)
  | 0 => [[]]
  | n + 1 => A.flatMap fun x => (words A n).map fun r => x :: r
theorem bills_words (k : Nat) : ∀ n, Uw05.bills k n = words (List.range (k + 1)) n
  | 0 => rfl
  | n + 1 => by
    unfold Uw05.bills words
    rw [bills_words k n]
theorem plans_words (s : Uw08.Season) : ∀ n, s.plans n = words (Uw05.bills s.plays.length s.nights.length) n
  | 0 => rfl
  | n + 1 => by
    unfold Uw08.Season.plans words
    rw [plans_words s n]
theorem words_snoc {α : Type} (A : List α) : ∀ n, words A (n + 1) = (words A n).flatMap fun r => A.map fun x => r ++ [x]
  | 0 => by
    simp only [words, List.flatMap_cons, List.flatMap_nil, List.append_nil, List.nil_append, List.map_cons, List.map_nil]
    induction A with
    | nil => rfl
    | cons a A ih => simp only [List.flatMap_cons, List.map_cons, ih]; rfl
  | n + 1 => by
    have ih := words_snoc A n
    show (A.flatMap fun x => (words A (n + 1)).map fun r => x :: r) = (A.flatMap fun x => (words A n).map fun r => x :: r).flatMap fun r => A.map fun x => r ++ [x]
    rw [ih, List.flatMap_assoc]
    congr 1
    funext x
    rw [List.map_flatMap, List.flatMap_map]
    congr 1
    funext r
    rw [List.map_map]
    rfl
theorem words_filter {α : Type} (A : List α) (P : α → Bool) : ∀ n, (words A n).filter (fun w => w.all P) = words (A.filter P) n
  | 0 => rfl
  | n + 1 => by
    show (A.flatMap fun x => (words A n).map fun r => x :: r).filter (fun w => w.all P) = (A.filter P).flatMap fun x => (words (A.filter P) n).map fun r => x :: r
    rw [← words_filter A P n]
    have h : ∀ (W : List (List α)) (B : List α), (B.flatMap fun x => W.map fun r => x :: r).filter (fun w => w.all P) = (B.filter P).flatMap fun x => (W.filter fun w => w.all P).map fun r => x :: r := by
      intro W B
      induction B with
      | nil => rfl
      | cons b B ih =>
        rw [List.flatMap_cons, List.filter_append, ih, List.filter_map, List.filter_cons]
        cases hb : P b with
        | true =>
          rw [if_pos rfl, List.flatMap_cons]
          congr 2
          apply List.filter_congr
          intro w _
          show (P b && w.all P) = w.all P
          rw [hb, Bool.true_and]
        | false =>
          rw [if_neg Bool.false_ne_true]
          have e : W.filter ((fun w => w.all P) ∘ fun r => b :: r) = [] := by
            apply List.filter_eq_nil_iff.mpr
            intro w _ q
            have q : (P b && w.all P) = true := q
            rw [hb, Bool.false_and] at q
            exact Bool.false_ne_true q
          rw [e]
          rfl
    exact h (words A n) A
theorem words_mem {α : Type} {A : List α} : ∀ {n : Nat} {r : List α}, r ∈ words A n → r.length = n ∧ ∀ x ∈ r, x ∈ A
  | 0, r, h => by
    have e : r = [] := by simpa [words] using h
    subst e
    exact ⟨rfl, fun x hx => by cases hx⟩
  | n + 1, r, h => by
    obtain ⟨x, hx, h⟩ := List.mem_flatMap.mp h
    obtain ⟨q, hq, rfl⟩ := List.mem_map.mp h
    obtain ⟨e, m⟩ := words_mem hq
    exact ⟨by rw [List.length_cons, e], fun y hy => by
      rcases List.mem_cons.mp hy with rfl | hy
      · exact hx
      · exact m y hy⟩
theorem words_length {α : Type} (A : List α) : ∀ n, (words A n).length = A.length ^ n
  | 0 => rfl
  | n + 1 => by
    have h : ∀ B : List α, (B.flatMap fun x => (words A n).map fun r => x :: r).length = B.length * A.length ^ n := by
      intro B
      induction B with
      | nil => simp
      | cons b B ih => rw [List.flatMap_cons, List.length_append, ih, List.length_map, words_length A n, List.length_cons, Nat.add_mul, Nat.one_mul, Nat.add_comm]
    show (A.flatMap fun x => (words A n).map fun r => x :: r).length = _
    rw [h, Nat.pow_succ, Nat.mul_comm]
/-! sums up to a place -/
def sumTo (f : Nat → Nat) (n : Nat) : Nat := ((List.range n).map f).foldl (fun a b => a + b) 0
theorem sumTo_succ (f : Nat → Nat) (n : Nat) : sumTo f (n + 1) = sumTo f n + f n := by
  unfold sumTo
  rw [List.range_succ, List.map_append, List.foldl_append]
  rfl
theorem total_acc : ∀ (l : List Nat) (a : Nat), l.foldl (fun a b => a + b) a = a + l.foldl (fun a b => a + b) 0
  | [], a => rfl
  | x :: l, a => by
    rw [List.foldl_cons, List.foldl_cons, total_acc l (a + x), total_acc l (0 + x)]
    omega
theorem total_cons (x : Nat) (l : List Nat) : Uw08.total (x :: l) = x + Uw08.total l := by
  unfold Uw08.total
  rw [List.foldl_cons, total_acc]
  omega
theorem total_sum : ∀ l : List Nat, ((Uw08.total l : Nat) : Int) = (l.map fun (n : Nat) => (n : Int)).sum
  | [] => rfl
  | x :: l => by rw [total_cons, List.map_cons, List.sum_cons, ← total_sum l]; omega
theorem total_zero {α : Type} : ∀ l : List α, Uw08.total (l.map fun _ => 0) = 0
  | [] => rfl
  | x :: l => by rw [List.map_cons, total_cons, total_zero l]
/-! what a season may be -/
structure PlayOk (n : Nat) (p : Uw05.Play) : Prop where
  b1 : 1 ≤ p.brings.length
  b6 : p.brings.length ≤ 6
  bx : ∀ x ∈ p.brings, x ≤ 100
  st : p.set ≤ 100
  sk : p.strike ≤ 100
  lm : p.least ≤ p.most
  mn : p.most ≤ n
structure ShOk (x : Uw06.Sharer) : Prop where
  hr : x.here = true
  pd : x.paid = 0
  p1 : 1 ≤ x.parts
  p24 : x.parts ≤ 24
structure WF (s : Uw08.Season) : Prop where
  nl : s.nights.length ≤ 2
  nb : ∀ x ∈ s.nights, x ≤ 300
  pl : s.plays.length ≤ 3
  pk : ∀ p ∈ s.plays, PlayOk s.nights.length p
  sl : s.company.sharers.length ≤ 5
  sk : ∀ x ∈ s.company.sharers, ShOk x
  fu : s.company.fund ≤ s.company.most
  ml : s.company.most ≤ 1000
  db : s.company.debt = 0
  wl : s.company.wages ≤ 1000
  cl : s.costs ≤ 1000
theorem wf_init : WF Uw08.init := by
  refine ⟨?_, ?_, ?_, ?_, ?_, ?_, ?_, ?_, ?_, ?_, ?_⟩ <;> simp [Uw08.init]
structure BillOk (s : Uw08.Season) (b : List Nat) : Prop where
  len : b.length = s.nights.length
  le : ∀ k ∈ b, k ≤ s.plays.length
/-! a week's plays -/
def worn (bf : Uw08.Plan) (k : Nat) (p : Uw05.Play) : Uw05.Play := { p with brings := p.brings.drop (min (Uw08.given bf k) (p.brings.length - 1)) }
theorem week_play (s : Uw08.Season) (bf : Uw08.Plan) (k : Nat) : (s.week bf).play k = ((⟨[], s.plays⟩ : Uw05.Week).play k).map (worn bf k) := by
  unfold Uw05.Week.play
  by_cases h : k = 0
  · rw [if_pos h, if_pos h]; rfl
  · rw [if_neg h, if_neg h]
    show (s.plays.zipIdx.map _)[k - 1]? = _
    rw [List.getElem?_map, List.getElem?_zipIdx]
    cases s.plays[k - 1]? with
    | none => rfl
    | some p =>
      show some _ = some _
      have e : 0 + (k - 1) + 1 = k := by omega
      simp only [worn, e]
theorem play_at {ps : List Uw05.Play} {k : Nat} {p : Uw05.Play} (h : 0 < k) (hp : ps[k - 1]? = some p) (l : List Nat) : (⟨l, ps⟩ : Uw05.Week).play k = some p := by
  unfold Uw05.Week.play
  rw [if_neg (by omega)]
  exact hp
theorem play_zero (w : Uw05.Week) : w.play 0 = none := by
  unfold Uw05.Week.play
  rw [if_pos rfl]
theorem zip_map {α β : Type} (f : α × Nat → β) (l : List α) : (l.zipIdx.map f).zipIdx = l.zipIdx.map fun x => (f x, x.2) := by
  apply List.ext_getElem?
  intro i
  rw [List.getElem?_zipIdx, List.getElem?_map, List.getElem?_map, List.getElem?_zipIdx]
  cases l[i]? with
  | none => rfl
  | some x => simp
theorem week_wrong (s : Uw08.Season) (bf : Uw08.Plan) (b : List Nat) : (s.week bf).wrong b = (⟨[], s.plays⟩ : Uw05.Week).wrong b := by
  have e1 : ∀ k, ((s.week bf).play k).any (fun p => !p.runs) = ((⟨[], s.plays⟩ : Uw05.Week).play k).any (fun p => !p.runs) := fun k => by
    rw [week_play]
    cases (⟨[], s.plays⟩ : Uw05.Week).play k <;> rfl
  unfold Uw05.Week.wrong
  simp only [e1]
  cases (List.range b.length).find? _ with
  | some i => rfl
  | none =>
    show List.findSome? _ (s.plays.zipIdx.map _).zipIdx = List.findSome? _ s.plays.zipIdx
    rw [zip_map, List.findSome?_map]
    rfl
end Ps
set_option linter.all false
namespace Ps
/-! what a night takes, what a bill's work costs -/
def takeAt (s : Uw08.Season) (bf : Uw08.Plan) (b : List Nat) (i : Nat) : Nat := (s.week bf).takes b i
theorem took_eq (s : Uw08.Season) (bf : Uw08.Plan) (b : List Nat) : (s.week bf).took b = sumTo (takeAt s bf b) b.length := rfl
theorem take_dark {s : Uw08.Season} {bf : Uw08.Plan} {b : List Nat} {i : Nat} (h : b[i]? = some 0) : takeAt s bf b i = 0 := by
  unfold takeAt Uw05.Week.takes
  have e : b.getD i 0 = 0 := by rw [List.getD_eq_getElem?_getD, h]; rfl
  rw [e, play_zero]
theorem min_both {a b n : Nat} (h : 1 ≤ n) : min a (n - 1) + min b (n - min a (n - 1) - 1) = min (a + b) (n - 1) := by
  obtain ⟨m, rfl⟩ : ∃ m, n = m + 1 := ⟨n - 1, by omega⟩
  rw [Nat.add_sub_cancel, Nat.sub_right_comm, Nat.add_sub_cancel]
  rcases Nat.le_total a m with q | q
  · rw [Nat.min_eq_left q, ← Nat.add_min_add_left, Nat.add_sub_cancel' q]
  · rw [Nat.min_eq_right q, Nat.sub_self, Nat.min_zero, Nat.min_eq_right (Nat.le_trans q (Nat.le_add_right _ _))]; rfl
theorem take_lit {s : Uw08.Season} {bf : Uw08.Plan} {b : List Nat} {i k n : Nat} {p : Uw05.Play} (h : b[i]? = some k) (hk : 0 < k) (hp : s.plays[k - 1]? = some p) (h1 : 1 ≤ p.brings.length) (hn : s.nights[i]? = some n) :
    takeAt s bf b i = p.brings.getD (min (Uw08.given bf k + Uw05.times (b.take i) k) (p.brings.length - 1)) 0 * n / 100 := by
  unfold takeAt Uw05.Week.takes
  have e : b.getD i 0 = k := by rw [List.getD_eq_getElem?_getD, h]; rfl
  have e2 : (s.week bf).nights.getD i 0 = n := by
    show s.nights.getD i 0 = n
    rw [List.getD_eq_getElem?_getD, hn]; rfl
  rw [e, e2, week_play, play_at hk hp]
  show (p.brings.drop _).getD _ 0 * n / 100 = _
  rw [List.getD_eq_getElem?_getD, List.getElem?_drop, List.getD_eq_getElem?_getD]
  show (p.brings[_]?).getD 0 * n / 100 = _
  have e3 : min (Uw08.given bf k) (p.brings.length - 1) + min (Uw05.times (b.take i) k) ((p.brings.drop (min (Uw08.given bf k) (p.brings.length - 1))).length - 1) = min (Uw08.given bf k + Uw05.times (b.take i) k) (p.brings.length - 1) := by
    rw [List.length_drop]
    exact min_both h1
  show (p.brings[min (Uw08.given bf k) (p.brings.length - 1) + min (Uw05.times (b.take i) k) ((p.brings.drop (min (Uw08.given bf k) (p.brings.length - 1))).length - 1)]?).getD 0 * n / 100 = _
  rw [e3]
theorem take_small {s : Uw08.Season} (wf : WF s) {bf : Uw08.Plan} {b : List Nat} (hb : BillOk s b) {i : Nat} (hi : i < b.length) : takeAt s bf b i ≤ 300 := by
  have e : b[i]? = some b[i] := List.getElem?_eq_getElem hi
  have hn : i < s.nights.length := by rw [← hb.len]; exact hi
  by_cases h0 : b[i] = 0
  · rw [h0] at e
    rw [take_dark e]; omega
  · have hk := hb.le _ (List.getElem_mem hi)
    have hp : b[i] - 1 < s.plays.length := by omega
    have wp := wf.pk _ (List.getElem_mem hp)
    rw [take_lit e (by omega) (List.getElem?_eq_getElem hp) wp.b1 (List.getElem?_eq_getElem hn)]
    generalize hj : min (Uw08.given bf b[i] + Uw05.times (b.take i) b[i]) (s.plays[b[i] - 1].brings.length - 1) = j
    have hjl : j < s.plays[b[i] - 1].brings.length := by have := wp.b1; omega
    have h1 : s.plays[b[i] - 1].brings.getD j 0 ≤ 100 := by
      rw [List.getD_eq_getElem?_getD, List.getElem?_eq_getElem hjl]
      exact wp.bx _ (List.getElem_mem hjl)
    have h2 := wf.nb _ (List.getElem_mem hn)
    have h3 : s.plays[b[i] - 1].brings.getD j 0 * s.nights[i] ≤ 100 * 300 := Nat.mul_le_mul h1 h2
    omega
theorem sumTo_le {f : Nat → Nat} {m : Nat} : ∀ {n : Nat}, (∀ i, i < n → f i ≤ m) → sumTo f n ≤ m * n
  | 0, _ => by show sumTo f 0 ≤ 0; exact Nat.le_refl _
  | n + 1, h => by
    have ih := sumTo_le (f := f) (m := m) (n := n) fun i hi => h i (by omega)
    have := h n (by omega)
    rw [sumTo_succ, Nat.mul_succ]
    omega
theorem took_small {s : Uw08.Season} (wf : WF s) {bf : Uw08.Plan} {b : List Nat} (hb : BillOk s b) : (s.week bf).took b ≤ 600 := by
  rw [took_eq]
  have h := sumTo_le (f := takeAt s bf b) (m := 300) (n := b.length) fun i hi => take_small wf hb hi
  have := hb.len
  have := wf.nl
  omega
def workAt (ps : List Uw05.Play) (b : List Nat) (i : Nat) : Nat := match (⟨[], ps⟩ : Uw05.Week).play (b.getD i 0) with
  | none => 0
  | some p => (if 0 < i ∧ b.getD (i - 1) 0 = b.getD i 0 then 0 else p.set) + (if i + 1 < b.length ∧ b.getD (i + 1) 0 = b.getD i 0 then 0 else p.strike)
theorem works_eq (s : Uw08.Season) (bf : Uw08.Plan) (b : List Nat) : (s.week bf).works b = sumTo (workAt s.plays b) b.length := by
  unfold Uw05.Week.works sumTo
  congr 2
  funext i
  unfold workAt
  rw [week_play]
  cases (⟨[], s.plays⟩ : Uw05.Week).play (b.getD i 0) <;> rfl
theorem work_dark {ps : List Uw05.Play} {b : List Nat} {i : Nat} (h : b[i]? = some 0) : workAt ps b i = 0 := by
  unfold workAt
  have e : b.getD i 0 = 0 := by rw [List.getD_eq_getElem?_getD, h]; rfl
  rw [e, play_zero]
theorem work_lit {ps : List Uw05.Play} {b : List Nat} {i k : Nat} {p : Uw05.Play} (h : b[i]? = some k) (hk : 0 < k) (hp : ps[k - 1]? = some p) :
    workAt ps b i = (if 0 < i ∧ b.getD (i - 1) 0 = k then 0 else p.set) + (if i + 1 < b.length ∧ b.getD (i + 1) 0 = k then 0 else p.strike) := by
  unfold workAt
  have e : b.getD i 0 = k := by rw [List.getD_eq_getElem?_getD, h]; rfl
  rw [e, play_at hk hp]
/-! times -/
theorem times_count (b : List Nat) (k : Nat) : Uw05.times b k = b.countP fun x => decide (x = k) := by
  unfold Uw05.times
  rw [List.countP_eq_length_filter]
  congr 1
theorem times_snoc (b : List Nat) (x k : Nat) : Uw05.times (b ++ [x]) k = Uw05.times b k + if x = k then 1 else 0 := by
  rw [times_count, times_count, List.countP_append]
  congr 1
  by_cases h : x = k
  · rw [if_pos h]; simp [List.countP_cons, h]
  · rw [if_neg h]; simp [List.countP_cons, h]
theorem given_snoc (p : Uw08.Plan) (b : List Nat) (k : Nat) : Uw08.given (p ++ [b]) k = Uw08.given p k + Uw05.times b k := by
  unfold Uw08.given
  rw [times_count, times_count, times_count, List.flatten_append, List.countP_append]
  simp
theorem take_snoc {α : Type} {l : List α} {i : Nat} {x : α} (h : l[i]? = some x) : l.take (i + 1) = l.take i ++ [x] := by
  rw [List.take_succ, h]; rfl
/-! what is wrong with a bill -/
def badAt (ps : List Uw05.Play) (b : List Nat) (i : Nat) : Bool := decide (0 < i) && (b.getD i 0 != 0 && (b.getD (i - 1) 0 == b.getD i 0 && (((⟨[], ps⟩ : Uw05.Week).play (b.getD i 0)).any fun p => !p.runs)))
def wrongAt (b : List Nat) (x : Uw05.Play × Nat) : Option (Nat × Nat) := if Uw05.times b (x.2 + 1) < x.1.least then some (2, x.2 + 1) else if x.1.most < Uw05.times b (x.2 + 1) then some (3, x.2 + 1) else none
def wrongB (ps : List Uw05.Play) (b : List Nat) : Option (Nat × Nat) := (⟨[], ps⟩ : Uw05.Week).wrong b
theorem wrongB_eq (ps : List Uw05.Play) (b : List Nat) : wrongB ps b = match (List.range b.length).find? (badAt ps b) with
    | some i => some (1, i)
    | none => ps.zipIdx.findSome? (wrongAt b) := rfl
theorem find_range {p : Nat → Bool} {n i : Nat} (hi : i < n) (h : p i = true) (hn : ∀ j, j < i → p j = false) : (List.range n).find? p = some i := by
  rw [List.find?_range_eq_some]
  exact ⟨h, by simpa using hi, fun j hj => by rw [hn j hj]; rfl⟩
theorem find_range_none {p : Nat → Bool} {n : Nat} (hn : ∀ j, j < n → p j = false) : (List.range n).find? p = none := by
  rw [List.find?_eq_none]
  intro x hx
  rw [hn x (by simpa using hx)]
  exact Bool.false_ne_true
theorem wrong_first {ps : List Uw05.Play} {b : List Nat} {i : Nat} (hi : i < b.length) (h : badAt ps b i = true) (hn : ∀ j, j < i → badAt ps b j = false) : wrongB ps b = some (1, i) := by
  rw [wrongB_eq, find_range hi h hn]
theorem wrong_later {ps : List Uw05.Play} {b : List Nat} (hn : ∀ j, j < b.length → badAt ps b j = false) : wrongB ps b = ps.zipIdx.findSome? (wrongAt b) := by
  rw [wrongB_eq, find_range_none hn]
theorem findSome_at {α β : Type} {f : α → Option β} : ∀ {l : List α} {i : Nat} {x : α} {y : β}, l[i]? = some x → f x = some y → (∀ j z, j < i → l[j]? = some z → f z = none) → l.findSome? f = some y
  | [], i, x, y, h, _, _ => by simp at h
  | a :: l, 0, x, y, h, e, _ => by
    have q : a = x := Option.some.inj h
    subst q
    rw [List.findSome?_cons, e]
  | a :: l, i + 1, x, y, h, e, n => by
    rw [List.findSome?_cons, n 0 a (by omega) rfl]
    exact findSome_at (l := l) (i := i) (x := x) h e fun j z hj hz => n (j + 1) z (by omega) hz
theorem findSome_none {α β : Type} {f : α → Option β} : ∀ {l : List α}, (∀ (j : Nat) z, l[j]? = some z → f z = none) → l.findSome? f = none
  | [], _ => rfl
  | a :: l, n => by
    rw [List.findSome?_cons, n 0 a rfl]
    exact findSome_none fun j z hz => n (j + 1) z hz
theorem zipIdx_at {α : Type} {l : List α} {i : Nat} {x : α} (h : l[i]? = some x) : l.zipIdx[i]? = some (x, i) := by
  rw [List.getElem?_zipIdx, h]; simp
theorem of_zipIdx {α : Type} {l : List α} {i : Nat} {z : α × Nat} (h : l.zipIdx[i]? = some z) : l[i]? = some z.1 ∧ z.2 = i := by
  rw [List.getElem?_zipIdx] at h
  cases e : l[i]? with
  | none => rw [e] at h; cases h
  | some x =>
    rw [e] at h
    have q : (x, 0 + i) = z := Option.some.inj h
    subst q
    exact ⟨rfl, by simp⟩
/-- all bills, the right ones -/
def goodBills (s : Uw08.Season) : List (List Nat) := (Uw05.bills s.plays.length s.nights.length).filter fun b => (wrongB s.plays b).isNone
theorem bill_ok {s : Uw08.Season} {b : List Nat} (h : b ∈ Uw05.bills s.plays.length s.nights.length) : BillOk s b := by
  rw [bills_words] at h
  obtain ⟨e, m⟩ := words_mem h
  exact ⟨e, fun k hk => by have := m k hk; simp at this; omega⟩
theorem week_all (s : Uw08.Season) (bf : Uw08.Plan) : (s.week bf).all = goodBills s := by
  unfold Uw05.Week.all goodBills
  have e1 : (s.week bf).plays.length = s.plays.length := by
    show (s.plays.zipIdx.map _).length = _
    rw [List.length_map, List.length_zipIdx]
  rw [e1]
  show (Uw05.bills s.plays.length s.nights.length).filter _ = _
  apply List.filter_congr
  intro b hb
  have ok := bill_ok hb
  unfold Uw05.Week.right
  rw [e1, week_wrong]
  have h1 : (b.length == (s.week bf).nights.length) = true := by
    show (b.length == s.nights.length) = true
    rw [ok.len]; exact beq_self_eq_true _
  have h2 : (b.all fun k => decide (k ≤ s.plays.length)) = true := List.all_eq_true.mpr fun k hk => decide_eq_true (ok.le k hk)
  rw [h1, h2]
  rfl
end Ps
set_option linter.all false
namespace Ps
/-! pennies -/
def Good (l : List Uw06.Sharer) : Prop := ∀ x ∈ l, x.here = true ∧ 0 < x.parts
def pick (m : Option (Uw06.Sharer × Nat)) (x : Uw06.Sharer × Nat) : Option (Uw06.Sharer × Nat) := if (x.1.here && decide (0 < x.1.parts)) = false then m else match m with
  | none => some x
  | some y => if x.1.ahead y.1 = true then some x else some y
theorem next_eq (l : List Uw06.Sharer) : Uw06.next l = (l.zipIdx.foldl pick none).map fun x => x.2 := rfl
theorem pick_none {x : Uw06.Sharer × Nat} (h : x.1.here = true ∧ 0 < x.1.parts) : pick none x = some x := by
  unfold pick
  rw [if_neg (by rw [h.1, decide_eq_true h.2]; decide)]
theorem ahead_iff {x y : Uw06.Sharer} (hx : x.here = true ∧ 0 < x.parts) (hy : y.here = true ∧ 0 < y.parts) : x.ahead y = decide ((2 * x.paid + 1) * y.parts < (2 * y.paid + 1) * x.parts) := by
  unfold Uw06.Sharer.ahead
  rw [hx.1, hy.1, decide_eq_true hx.2, decide_eq_true hy.2]
  rfl
theorem pick_some {x y : Uw06.Sharer × Nat} (h : x.1.here = true ∧ 0 < x.1.parts) (hy : y.1.here = true ∧ 0 < y.1.parts) : pick (some y) x = some (if (2 * x.1.paid + 1) * y.1.parts < (2 * y.1.paid + 1) * x.1.parts then x else y) := by
  unfold pick
  rw [if_neg (by rw [h.1, decide_eq_true h.2]; decide)]
  show (if x.1.ahead y.1 = true then some x else some y) = _
  rw [ahead_iff h hy]
  by_cases q : (2 * x.1.paid + 1) * y.1.parts < (2 * y.1.paid + 1) * x.1.parts
  · rw [if_pos (decide_eq_true q), if_pos q]
  · rw [if_neg (by rw [decide_eq_false q]; exact Bool.false_ne_true), if_neg q]
/-- c is the one to whom most is owed among the first i -/
def Lead (l : List Uw06.Sharer) (i c : Nat) : Prop := ∃ y, l[c]? = some y ∧ (l.zipIdx.take i).foldl pick none = some (y, c)
theorem lead_one {l : List Uw06.Sharer} (g : Good l) (h : l ≠ []) : Lead l 1 0 := by
  cases l with
  | nil => exact absurd rfl h
  | cons x l =>
    refine ⟨x, rfl, ?_⟩
    show pick none (x, 0) = _
    exact pick_none (g x (List.mem_cons_self ..))
theorem lead_succ {l : List Uw06.Sharer} (g : Good l) {i c : Nat} {x y : Uw06.Sharer} (h : Lead l i c) (hx : l[i]? = some x) (hy : l[c]? = some y) : Lead l (i + 1) (if (2 * x.paid + 1) * y.parts < (2 * y.paid + 1) * x.parts then i else c) := by
  obtain ⟨y', e, h⟩ := h
  rw [hy] at e
  cases e
  have e2 := take_snoc (zipIdx_at hx)
  have q := pick_some (x := (x, i)) (y := (y, c)) (g x (List.mem_of_getElem? hx)) (g y (List.mem_of_getElem? hy))
  unfold Lead
  rw [e2, List.foldl_append, h]
  by_cases z : (2 * x.paid + 1) * y.parts < (2 * y.paid + 1) * x.parts
  · rw [if_pos z]
    exact ⟨x, hx, by show pick (some (y, c)) (x, i) = _; rw [q, if_pos z]⟩
  · rw [if_neg z]
    exact ⟨y, hy, by show pick (some (y, c)) (x, i) = _; rw [q, if_neg z]⟩
theorem lead_next {l : List Uw06.Sharer} {c : Nat} (h : Lead l l.length c) : Uw06.next l = some c := by
  obtain ⟨y, _, h⟩ := h
  have e : l.zipIdx.take l.length = l.zipIdx := List.take_of_length_le (by rw [List.length_zipIdx]; exact Nat.le_refl _)
  rw [e] at h
  rw [next_eq, h]
  rfl
theorem lead_lt {l : List Uw06.Sharer} {i c : Nat} (h : Lead l i c) : c < l.length := by
  obtain ⟨y, e, _⟩ := h
  exact (List.getElem?_eq_some_iff.mp e).1
theorem lead_ex {l : List Uw06.Sharer} (g : Good l) (h : l ≠ []) : ∀ i, 1 ≤ i → i ≤ l.length → ∃ c, Lead l i c := by
  intro i h1
  induction i with
  | zero => omega
  | succ i ih =>
    intro h2
    by_cases z : i = 0
    · subst z; exact ⟨0, lead_one g h⟩
    · obtain ⟨c, hc⟩ := ih (by omega) (by omega)
      have hl := lead_lt hc
      exact ⟨_, lead_succ g hc (List.getElem?_eq_getElem (by omega)) (List.getElem?_eq_getElem hl)⟩
theorem next_some {l : List Uw06.Sharer} (g : Good l) (h : l ≠ []) : ∃ c, Uw06.next l = some c ∧ c < l.length := by
  have hl : 0 < l.length := List.length_pos_iff.mpr h
  obtain ⟨c, hc⟩ := lead_ex g h l.length hl (Nat.le_refl _)
  exact ⟨c, lead_next hc, lead_lt hc⟩
theorem pay_at (l : List Uw06.Sharer) (c : Nat) (i : Nat) : (Uw06.pay l c)[i]? = (l[i]?).map fun x => if i = c then { x with paid := x.paid + 1 } else x := by
  unfold Uw06.pay
  rw [List.getElem?_map, List.getElem?_zipIdx]
  cases l[i]? with
  | none => rfl
  | some x => simp
theorem pay_len (l : List Uw06.Sharer) (c : Nat) : (Uw06.pay l c).length = l.length := by
  unfold Uw06.pay
  rw [List.length_map, List.length_zipIdx]
theorem pay_parts (l : List Uw06.Sharer) (c : Nat) : (Uw06.pay l c).map (fun x => x.parts) = l.map fun x => x.parts := by
  apply List.ext_getElem?
  intro i
  rw [List.getElem?_map, List.getElem?_map, pay_at]
  cases l[i]? with
  | none => rfl
  | some x =>
    by_cases h : i = c
    · simp [h]
    · simp [h]
theorem pay_paid {l : List Uw06.Sharer} {c : Nat} {x : Uw06.Sharer} (h : l[c]? = some x) : (Uw06.pay l c).map (fun x => x.paid) = (l.map fun x => x.paid).set c (x.paid + 1) := by
  apply List.ext_getElem?
  intro i
  rw [List.getElem?_map, pay_at, List.getElem?_set, List.getElem?_map]
  by_cases e : c = i
  · subst e
    rw [if_pos rfl, h, List.length_map, if_pos (List.getElem?_eq_some_iff.mp h).1]
    simp
  · rw [if_neg e]
    cases l[i]? with
    | none => rfl
    | some y => simp [show ¬ i = c from fun z => e z.symm]
theorem pay_good {l : List Uw06.Sharer} (g : Good l) (c : Nat) : Good (Uw06.pay l c) := by
  intro x hx
  obtain ⟨i, hi⟩ := List.getElem?_of_mem hx
  rw [pay_at] at hi
  cases e : l[i]? with
  | none => rw [e] at hi; cases hi
  | some y =>
    rw [e] at hi
    have hi : (if i = c then { y with paid := y.paid + 1 } else y) = x := Option.some.inj hi
    have gy := g y (List.mem_of_getElem? e)
    subst hi
    by_cases q : i = c
    · rw [if_pos q]; exact gy
    · rw [if_neg q]; exact gy
theorem payOut_succ {l : List Uw06.Sharer} {n c : Nat} (h : Uw06.next l = some c) : Uw06.payOut (n + 1) l = Uw06.payOut n (Uw06.pay l c) := by
  rw [Uw06.payOut, h]
theorem payOut_nil : ∀ n, Uw06.payOut n [] = ([], n)
  | 0 => rfl
  | n + 1 => rfl
def paids (l : List Uw06.Sharer) : List Nat := l.map fun x => x.paid
/-- what pennies do -/
structure Paid (n : Nat) (l l' : List Uw06.Sharer) : Prop where
  good : Good l'
  parts : l'.map (fun x => x.parts) = l.map fun x => x.parts
  len : l'.length = l.length
  sum : Uw08.total (paids l') = Uw08.total (paids l) + n
  le : ∀ (i : Nat) x x', l[i]? = some x → l'[i]? = some x' → x.paid ≤ x'.paid
theorem total_set : ∀ {l : List Nat} {i x : Nat}, l[i]? = some x → Uw08.total (l.set i (x + 1)) = Uw08.total l + 1
  | [], i, x, h => by simp at h
  | a :: l, 0, x, h => by
    have e : a = x := Option.some.inj h
    subst e
    rw [List.set_cons_zero, total_cons, total_cons]; omega
  | a :: l, i + 1, x, h => by
    rw [List.set_cons_succ, total_cons, total_cons, total_set (l := l) (i := i) h]; omega
theorem payOut_paid : ∀ (n : Nat) {l : List Uw06.Sharer}, Good l → l ≠ [] → (Uw06.payOut n l).2 = 0 ∧ Paid n l (Uw06.payOut n l).1
  | 0, l, g, h => ⟨rfl, g, rfl, rfl, rfl, fun i x x' e e' => by
      have e' : l[i]? = some x' := e'
      rw [e] at e'; cases e'; exact Nat.le_refl _⟩
  | n + 1, l, g, h => by
    obtain ⟨c, hc, hl⟩ := next_some g h
    rw [payOut_succ hc]
    have g2 := pay_good g c
    have h2 : Uw06.pay l c ≠ [] := fun e => by
      have := pay_len l c
      rw [e] at this
      exact h (List.length_eq_zero_iff.mp this.symm)
    obtain ⟨z, P⟩ := payOut_paid n g2 h2
    have hx : l[c]? = some l[c] := List.getElem?_eq_getElem hl
    refine ⟨z, P.good, P.parts.trans (pay_parts l c), P.len.trans (pay_len l c), ?_, fun i x x' e e' => ?_⟩
    · rw [P.sum]
      show Uw08.total ((Uw06.pay l c).map fun x => x.paid) + n = _
      rw [pay_paid hx, total_set (by rw [List.getElem?_map, hx]; rfl)]
      show Uw08.total (paids l) + 1 + n = _
      omega
    · have q : (Uw06.pay l c)[i]? = some (if i = c then { x with paid := x.paid + 1 } else x) := by rw [pay_at, e]; rfl
      have := P.le i _ x' q e'
      by_cases z : i = c
      · rw [if_pos z] at this
        have : x.paid + 1 ≤ x'.paid := this
        omega
      · rw [if_neg z] at this; exact this
/-- the differences of two rows of what was paid -/
def diffs (l' l : List Uw06.Sharer) : List Nat := (l'.zip l).map fun y => y.1.paid - y.2.paid
theorem diffs_total : ∀ {l' l : List Uw06.Sharer}, l'.length = l.length → (∀ (i : Nat) x x', l[i]? = some x → l'[i]? = some x' → x.paid ≤ x'.paid) → Uw08.total (diffs l' l) + Uw08.total (paids l) = Uw08.total (paids l')
  | [], [], _, _ => rfl
  | [], _ :: _, h, _ => by simp at h
  | _ :: _, [], h, _ => by simp at h
  | a :: l', b :: l, h, k => by
    have ih := diffs_total (l' := l') (l := l) (by simpa using h) fun i x x' e e' => k (i + 1) x x' e e'
    have h0 := k 0 b a rfl rfl
    show Uw08.total ((a.paid - b.paid) :: diffs l' l) + Uw08.total (b.paid :: paids l) = Uw08.total (a.paid :: paids l')
    rw [total_cons, total_cons, total_cons]
    omega
theorem diffs_self : ∀ l : List Uw06.Sharer, diffs l l = l.map fun _ => 0
  | [] => rfl
  | a :: l => by
    show (a.paid - a.paid) :: diffs l l = 0 :: l.map _
    rw [diffs_self l, Nat.sub_self]
theorem diffs_len {l' l : List Uw06.Sharer} (h : l'.length = l.length) : (diffs l' l).length = l.length := by
  unfold diffs
  rw [List.length_map, List.length_zip, h, Nat.min_self]
theorem diffs_at {l' l : List Uw06.Sharer} {i : Nat} {x x' : Uw06.Sharer} (h : l[i]? = some x) (h' : l'[i]? = some x') : (diffs l' l)[i]? = some (x'.paid - x.paid) := by
  unfold diffs
  rw [List.getElem?_map, List.getElem?_zip_eq_some (z := (x', x)) |>.mpr ⟨h', h⟩]
  rfl
/-! a week's money -/
structure Day (c : Uw06.Company) (taken costs : Nat) : Prop where
  wages : (c.day taken costs).after.wages = c.wages
  most : (c.day taken costs).after.most = c.most
  parts : (c.day taken costs).after.sharers.map (fun x => x.parts) = c.sharers.map fun x => x.parts
  good : Good (c.day taken costs).after.sharers
  len : (c.day taken costs).after.sharers.length = c.sharers.length
  out : (c.day taken costs).after.sharers = (Uw06.payOut (Uw08.total (c.day taken costs).given) c.sharers).1
  given : (c.day taken costs).given = diffs (c.day taken costs).after.sharers c.sharers
  le : ∀ (i : Nat) x x', c.sharers[i]? = some x → (c.day taken costs).after.sharers[i]? = some x' → x.paid ≤ x'.paid
  nobody : c.sharers = [] → Uw08.total (c.day taken costs).given = 0
  short : taken < c.wages + costs → (c.day taken costs).after.fund = c.fund - min c.fund (c.wages + costs - taken) ∧ (c.day taken costs).after.debt = c.debt + (c.wages + costs - taken - min c.fund (c.wages + costs - taken)) ∧ Uw08.total (c.day taken costs).given = 0
  debt : ¬ taken < c.wages + costs → (c.day taken costs).after.debt = c.debt - min c.debt (taken - (c.wages + costs))
  alone : ¬ taken < c.wages + costs → c.sharers = [] → (c.day taken costs).after.fund = c.fund + (taken - (c.wages + costs) - min c.debt (taken - (c.wages + costs)))
  shared : ¬ taken < c.wages + costs → c.sharers ≠ [] → (c.day taken costs).after.fund = c.fund + min (c.most - c.fund) (taken - (c.wages + costs) - min c.debt (taken - (c.wages + costs))) ∧
    Uw08.total (c.day taken costs).given = taken - (c.wages + costs) - min c.debt (taken - (c.wages + costs)) - min (c.most - c.fund) (taken - (c.wages + costs) - min c.debt (taken - (c.wages + costs)))
theorem day_ok {c : Uw06.Company} (g : Good c.sharers) (taken costs : Nat) : Day c taken costs := by
  by_cases h : taken < c.wages + costs
  · have e : c.day taken costs = ⟨{ c with fund := c.fund - min c.fund (c.wages + costs - taken), debt := c.debt + (c.wages + costs - taken - min c.fund (c.wages + costs - taken)) }, c.sharers.map fun _ => 0⟩ := by
      unfold Uw06.Company.day
      simp only [if_pos h]
    have t0 : Uw08.total (c.day taken costs).given = 0 := by rw [e]; exact total_zero _
    refine ⟨by rw [e], by rw [e], by rw [e], by rw [e]; exact g, by rw [e], ?_, ?_, ?_, fun _ => t0, fun _ => ⟨by rw [e], by rw [e], t0⟩, fun n => absurd h n, fun n => absurd h n, fun n => absurd h n⟩
    · rw [t0, e]; rfl
    · rw [e]; exact (diffs_self _).symm
    · rw [e]; intro i x x' q q'
      rw [q] at q'; cases q'; exact Nat.le_refl _
  · have e : c.day taken costs =
        ⟨{ c with sharers := (Uw06.payOut (taken - (c.wages + costs) - min c.debt (taken - (c.wages + costs)) - min (c.most - c.fund) (taken - (c.wages + costs) - min c.debt (taken - (c.wages + costs)))) c.sharers).1,
                  fund := c.fund + min (c.most - c.fund) (taken - (c.wages + costs) - min c.debt (taken - (c.wages + costs))) + (Uw06.payOut (taken - (c.wages + costs) - min c.debt (taken - (c.wages + costs)) - min (c.most - c.fund) (taken - (c.wages + costs) - min c.debt (taken - (c.wages + costs)))) c.sharers).2,
                  debt := c.debt - min c.debt (taken - (c.wages + costs)) },
          diffs (Uw06.payOut (taken - (c.wages + costs) - min c.debt (taken - (c.wages + costs)) - min (c.most - c.fund) (taken - (c.wages + costs) - min c.debt (taken - (c.wages + costs)))) c.sharers).1 c.sharers⟩ := by
      unfold Uw06.Company.day
      simp only [if_neg h]
      rfl
    generalize hL : taken - (c.wages + costs) - min c.debt (taken - (c.wages + costs)) = L at e
    generalize hf : min (c.most - c.fund) L = f at e
    by_cases hs : c.sharers = []
    · rw [hs, payOut_nil] at e
      have t0 : Uw08.total (c.day taken costs).given = 0 := by rw [e]; rfl
      refine ⟨by rw [e], by rw [e], by rw [e, hs], ?_, by rw [e, hs], ?_, ?_, ?_, fun _ => t0, fun n => absurd n h, fun _ => by rw [e], fun _ _ => ?_, fun _ n => absurd hs n⟩
      · rw [e]; intro x hx; exact absurd (show x ∈ [] from hx) (by simp)
      · rw [t0, e, hs]; rfl
      · rw [e, hs]
      · rw [hs]; intro i x x' q; simp at q
      · rw [e, hL]
        show c.fund + f + (L - f) = _
        have : f ≤ L := by rw [← hf]; exact Nat.min_le_right _ _
        omega
    · obtain ⟨z, P⟩ := payOut_paid (L - f) g hs
      have t1 : Uw08.total (c.day taken costs).given = L - f := by
        rw [e]
        have := diffs_total P.len P.le
        have q := P.sum
        show Uw08.total (diffs (Uw06.payOut (L - f) c.sharers).1 c.sharers) = _
        omega
      refine ⟨by rw [e], by rw [e], by rw [e]; exact P.parts, by rw [e]; exact P.good, by rw [e]; exact P.len, ?_, by rw [e], by rw [e]; exact P.le, fun n => absurd n hs, fun n => absurd n h, fun _ => by rw [e], fun _ n => absurd n hs, fun _ _ => ?_⟩
      · rw [t1, e]
      · rw [hL, hf, t1, e]
        refine ⟨?_, rfl⟩
        show c.fund + f + (Uw06.payOut (L - f) c.sharers).2 = _
        rw [z]; rfl
end Ps
set_option linter.all false
namespace Ps
/-! behind a plan -/
theorem through_append (s : Uw08.Season) : ∀ (p q : Uw08.Plan) (c : Uw06.Company) (bf : Uw08.Plan), s.through c bf (p ++ q) = ((s.through (s.through c bf p).1 (bf ++ p) q).1, (s.through c bf p).2 ++ (s.through (s.through c bf p).1 (bf ++ p) q).2)
  | [], q, c, bf => by
    rw [List.append_nil]
    rfl
  | b :: p, q, c, bf => by
    have ih := through_append s p q (s.money c bf b).after (bf ++ [b])
    show ((s.through (s.money c bf b).after (bf ++ [b]) (p ++ q)).1, _ :: (s.through (s.money c bf b).after (bf ++ [b]) (p ++ q)).2) = _
    rw [ih, List.append_assoc]
    rfl
def co (s : Uw08.Season) (p : Uw08.Plan) : Uw06.Company := (s.through s.company [] p).1
def gv (s : Uw08.Season) (p : Uw08.Plan) : List (List Nat) := (s.through s.company [] p).2
theorem co_snoc (s : Uw08.Season) (p : Uw08.Plan) (b : List Nat) : co s (p ++ [b]) = (s.money (co s p) p b).after := by
  unfold co
  rw [through_append]
  rfl
theorem gv_snoc (s : Uw08.Season) (p : Uw08.Plan) (b : List Nat) : gv s (p ++ [b]) = gv s p ++ [(s.money (co s p) p b).given] := by
  unfold gv co
  rw [through_append]
  rfl
theorem through_len (s : Uw08.Season) : ∀ (p : Uw08.Plan) (c : Uw06.Company) (bf : Uw08.Plan), (s.through c bf p).2.length = p.length
  | [], _, _ => rfl
  | b :: p, c, bf => by
    show (s.through (s.money c bf b).after (bf ++ [b]) p).2.length + 1 = _
    rw [through_len s p]
    rfl
theorem gv_len (s : Uw08.Season) (p : Uw08.Plan) : (gv s p).length = p.length := through_len s p _ _
def pays (s : Uw08.Season) (p : Uw08.Plan) : List Nat := (gv s p).map Uw08.total
theorem pays_len (s : Uw08.Season) (p : Uw08.Plan) : (pays s p).length = p.length := by unfold pays; rw [List.length_map, gv_len]
theorem pays_snoc (s : Uw08.Season) (p : Uw08.Plan) (b : List Nat) : pays s (p ++ [b]) = pays s p ++ [Uw08.total (s.money (co s p) p b).given] := by
  unfold pays
  rw [gv_snoc, List.map_append]
  rfl
theorem paid_eq (s : Uw08.Season) (p : Uw08.Plan) : s.paid p = Uw08.total (pays s p) := rfl
/-- what stays as it was at first -/
structure Co (s : Uw08.Season) (c : Uw06.Company) : Prop where
  wages : c.wages = s.company.wages
  most : c.most = s.company.most
  parts : c.sharers.map (fun x => x.parts) = s.company.sharers.map fun x => x.parts
  good : Good c.sharers
  len : c.sharers.length = s.company.sharers.length
  fund : c.sharers ≠ [] → c.fund ≤ c.most
theorem co_nil {s : Uw08.Season} (wf : WF s) : Co s s.company := ⟨rfl, rfl, rfl, fun x hx => ⟨(wf.sk x hx).hr, (wf.sk x hx).p1⟩, rfl, fun _ => wf.fu⟩
theorem co_day {s : Uw08.Season} {c : Uw06.Company} (C : Co s c) (t k : Nat) : Co s (c.day t k).after := by
  have D := day_ok C.good t k
  refine ⟨D.wages.trans C.wages, D.most.trans C.most, D.parts.trans C.parts, D.good, D.len.trans C.len, fun h => ?_⟩
  have hn : c.sharers ≠ [] := fun e => h (List.length_eq_zero_iff.mp (by rw [D.len, e]; rfl))
  have hf := C.fund hn
  rw [D.most]
  by_cases q : t < c.wages + k
  · rw [(D.short q).1]; omega
  · rw [(D.shared q hn).1]; exact Nat.le_trans (Nat.add_le_add_left (Nat.min_le_left _ _) _) (Nat.le_of_eq (Nat.add_sub_cancel' hf))
theorem co_ok {s : Uw08.Season} (wf : WF s) : ∀ (p : Uw08.Plan) (c : Uw06.Company) (bf : Uw08.Plan), Co s c → Co s (s.through c bf p).1
  | [], c, bf, h => h
  | b :: p, c, bf, h => co_ok wf p _ _ (co_day h _ _)
theorem co_plan {s : Uw08.Season} (wf : WF s) (p : Uw08.Plan) : Co s (co s p) := co_ok wf p _ _ (co_nil wf)
/-- how often each play was given -/
def givens (s : Uw08.Season) (p : Uw08.Plan) : List Nat := (List.range s.plays.length).map fun k => Uw08.given p (k + 1)
theorem givens_len (s : Uw08.Season) (p : Uw08.Plan) : (givens s p).length = s.plays.length := by unfold givens; rw [List.length_map, List.length_range]
theorem givens_at (s : Uw08.Season) (p : Uw08.Plan) {k : Nat} (h : k < s.plays.length) : (givens s p)[k]? = some (Uw08.given p (k + 1)) := by
  unfold givens
  rw [List.getElem?_map, List.getElem?_range h]
  rfl
theorem givens_nil (s : Uw08.Season) : givens s [] = s.plays.map fun _ => 0 := by
  apply List.ext_getElem?
  intro i
  unfold givens
  rw [List.getElem?_map, List.getElem?_map]
  by_cases h : i < s.plays.length
  · rw [List.getElem?_range h, List.getElem?_eq_getElem h]; rfl
  · rw [List.getElem?_eq_none (by simpa using h), List.getElem?_eq_none (by simpa using h)]; rfl
/-- a bound of the fund and of what is paid, so that every number stays small -/
theorem day_small {c : Uw06.Company} (g : Good c.sharers) (t k : Nat) : Uw08.total (c.day t k).given ≤ t := by
  have D := day_ok g t k
  by_cases h : t < c.wages + k
  · rw [(D.short h).2.2]; omega
  · by_cases hs : c.sharers = []
    · rw [D.nobody hs]; omega
    · rw [(D.shared h hs).2]; exact Nat.le_trans (Nat.sub_le _ _) (Nat.le_trans (Nat.sub_le _ _) (Nat.sub_le _ _))
/-! what is told of a plan -/
def row (w : List Nat) : List Int := (w.length : Int) :: w.map fun (x : Nat) => (x : Int)
theorem out_eq (a : Uw08.Ans) : Uw08Neutral.out a = a.v :: a.l.flatMap row := rfl
def toldWeeks (s : Uw08.Season) (p : Uw08.Plan) (i : Nat) : List Int := ((p.take i).zip ((gv s p).take i)).flatMap fun y => row y.1 ++ row y.2
theorem told_succ {s : Uw08.Season} {p : Uw08.Plan} {i : Nat} {b g : List Nat} (hb : p[i]? = some b) (hg : (gv s p)[i]? = some g) : toldWeeks s p (i + 1) = toldWeeks s p i ++ (row b ++ row g) := by
  unfold toldWeeks
  have hl : (p.take i).length = ((gv s p).take i).length := by rw [List.length_take, List.length_take, gv_len]
  rw [take_snoc hb, take_snoc hg, List.zip_append hl, List.flatMap_append]
  simp
theorem tell_rows (s : Uw08.Season) (p : Uw08.Plan) : (s.tell p).flatMap row = toldWeeks s p p.length ++ row [(co s p).fund, (co s p).debt] := by
  unfold Uw08.Season.tell toldWeeks
  show (((p.zip (gv s p)).flatMap fun y => [y.1, y.2]) ++ [[(co s p).fund, (co s p).debt]]).flatMap row = _
  have e : (gv s p).take p.length = gv s p := by rw [← gv_len s p]; exact List.take_length
  rw [List.flatMap_append, List.take_length, e, List.flatMap_assoc]
  congr 1
  simp
theorem gv_take (s : Uw08.Season) (p : Uw08.Plan) (i : Nat) : (gv s p).take i = gv s (p.take i) := by
  have e : p.take i ++ p.drop i = p := List.take_append_drop i p
  have h : gv s p = gv s (p.take i) ++ (s.through (co s (p.take i)) (p.take i) (p.drop i)).2 := by
    have q := through_append s (p.take i) (p.drop i) s.company []
    rw [e] at q
    unfold gv co
    rw [q]
    rfl
  by_cases hi : i ≤ p.length
  · have l : (gv s (p.take i)).length = i := by rw [gv_len, List.length_take]; omega
    rw [h, List.take_append_of_le_length (by omega)]
    exact List.take_of_length_le (by omega)
  · rw [List.take_of_length_le (by rw [gv_len]; omega), List.take_of_length_le (by omega)]
theorem gv_at {s : Uw08.Season} {p : Uw08.Plan} {i : Nat} {b : List Nat} (h : p[i]? = some b) : (gv s p)[i]? = some (s.money (co s (p.take i)) (p.take i) b).given := by
  have e := gv_take s p (i + 1)
  rw [take_snoc h, gv_snoc] at e
  have l : (gv s (p.take i)).length = i := by
    have := (List.getElem?_eq_some_iff.mp h).1
    rw [gv_len, List.length_take]; omega
  have q : ((gv s p).take (i + 1))[i]? = (gv s p)[i]? := by rw [List.getElem?_take]; simp
  rw [← q, e, List.getElem?_append_right (by omega), l, Nat.sub_self]
  rfl
theorem co_at {s : Uw08.Season} {p : Uw08.Plan} {i : Nat} {b : List Nat} (h : p[i]? = some b) : co s (p.take (i + 1)) = (s.money (co s (p.take i)) (p.take i) b).after := by
  rw [take_snoc h, co_snoc]
theorem pays_at {s : Uw08.Season} {p : Uw08.Plan} {i : Nat} {b : List Nat} (h : p[i]? = some b) : (pays s p)[i]? = some (Uw08.total (s.money (co s (p.take i)) (p.take i) b).given) := by
  unfold pays
  rw [List.getElem?_map, gv_at h]
  rfl
/-! the plan that pays most -/
def cand (f : Uw08.Plan → Nat) (p : Uw08.Plan) : Option Uw08.Best := some ⟨f p, 1, p⟩
structure Top (f : Uw08.Plan → Nat) (L : List Uw08.Plan) (r : Uw08.Best) : Prop where
  many : r.many = L.countP fun p => decide (f p = r.paid)
  le : ∀ p ∈ L, f p ≤ r.paid
  at_ : ∃ j : Nat, L[j]? = some r.plan ∧ f r.plan = r.paid ∧ ∀ (i : Nat) (p : Uw08.Plan), i < j → L[i]? = some p → f p ≠ r.paid
theorem top_snoc {f : Uw08.Plan → Nat} {L : List Uw08.Plan} {r : Uw08.Best} (T : Top f L r) (p : Uw08.Plan) : ∃ r', Uw08.better (some r) (cand f p) = some r' ∧ Top f (L ++ [p]) r' := by
  obtain ⟨j, hj, hp, hn⟩ := T.at_
  have hjl := (List.getElem?_eq_some_iff.mp hj).1
  unfold Uw08.better cand
  show ∃ r', (if r.paid < f p then some ⟨f p, 1, p⟩ else if f p < r.paid then some r else some ⟨r.paid, r.many + 1, r.plan⟩) = some r' ∧ _
  by_cases h1 : r.paid < f p
  · rw [if_pos h1]
    refine ⟨_, rfl, ?_, fun q hq => ?_, L.length, by simp, rfl, fun i q hi hq => ?_⟩
    · rw [List.countP_append]
      have : L.countP (fun q => decide (f q = f p)) = 0 := List.countP_eq_zero.mpr fun q hq => by
        have := T.le q hq
        simp; omega
      show 1 = _
      rw [this]; simp
    · rcases List.mem_append.mp hq with hq | hq
      · have := T.le q hq; show f q ≤ f p; omega
      · rw [List.mem_singleton.mp hq]; exact Nat.le_refl _
    · rw [List.getElem?_append_left hi] at hq
      have := T.le q (List.mem_of_getElem? hq)
      show f q ≠ f p; omega
  · rw [if_neg h1]
    by_cases h2 : f p < r.paid
    · rw [if_pos h2]
      refine ⟨r, rfl, ?_, fun q hq => ?_, j, by rw [List.getElem?_append_left hjl]; exact hj, hp, fun i q hi hq => hn i q hi (by rw [List.getElem?_append_left (by omega)] at hq; exact hq)⟩
      · rw [List.countP_append, ← T.many]
        have : ([p] : List Uw08.Plan).countP (fun q => decide (f q = r.paid)) = 0 := by simp; omega
        rw [this]; rfl
      · rcases List.mem_append.mp hq with hq | hq
        · exact T.le q hq
        · rw [List.mem_singleton.mp hq]; omega
    · rw [if_neg h2]
      have e : f p = r.paid := by omega
      refine ⟨_, rfl, ?_, fun q hq => ?_, j, by rw [List.getElem?_append_left hjl]; exact hj, hp, fun i q hi hq => hn i q hi (by rw [List.getElem?_append_left (by omega)] at hq; exact hq)⟩
      · rw [List.countP_append]
        show r.many + 1 = _
        rw [T.many]
        congr 1
        simp [e]
      · rcases List.mem_append.mp hq with hq | hq
        · exact T.le q hq
        · rw [List.mem_singleton.mp hq]; show f p ≤ r.paid; omega
theorem top_one (f : Uw08.Plan → Nat) (p : Uw08.Plan) : Top f [p] ⟨f p, 1, p⟩ := by
  refine ⟨by simp, fun q hq => ?_, 0, rfl, rfl, fun i q hi => by omega⟩
  rw [List.mem_singleton.mp hq]; exact Nat.le_refl _
theorem top_fold (f : Uw08.Plan → Nat) : ∀ (M L : List Uw08.Plan) (r : Uw08.Best), Top f L r → ∃ r', (M.map (cand f)).foldl Uw08.better (some r) = some r' ∧ Top f (L ++ M) r'
  | [], L, r, T => ⟨r, rfl, by rw [List.append_nil]; exact T⟩
  | p :: M, L, r, T => by
    obtain ⟨r1, e1, T1⟩ := top_snoc T p
    obtain ⟨r2, e2, T2⟩ := top_fold f M (L ++ [p]) r1 T1
    refine ⟨r2, ?_, by rw [List.append_assoc] at T2; exact T2⟩
    rw [List.map_cons, List.foldl_cons, e1, e2]
theorem top_all (f : Uw08.Plan → Nat) {L : List Uw08.Plan} (h : L ≠ []) : ∃ r, (L.map (cand f)).foldl Uw08.better none = some r ∧ Top f L r := by
  cases L with
  | nil => exact absurd rfl h
  | cons p L =>
    obtain ⟨r, e, T⟩ := top_fold f L [p] _ (top_one f p)
    exact ⟨r, by rw [List.map_cons, List.foldl_cons]; exact e, T⟩
/-- from the greatest, its first place, how often -/
theorem top_is {f : Uw08.Plan → Nat} {L : List Uw08.Plan} {r : Uw08.Best} (T : Top f L r) {m j : Nat} {p : Uw08.Plan} (hm : m ∈ L.map f) (hle : ∀ n ∈ L.map f, n ≤ m) (hj : L[j]? = some p) (hp : f p = m) (hn : ∀ (i : Nat) (q : Uw08.Plan), i < j → L[i]? = some q → f q ≠ m) :
    r = ⟨m, L.countP fun p => decide (f p = m), p⟩ := by
  obtain ⟨j', hj', hp', hn'⟩ := T.at_
  have e : r.paid = m := by
    have h1 := hle (f r.plan) (List.mem_map_of_mem (List.mem_of_getElem? hj'))
    obtain ⟨q, hq, rfl⟩ := List.mem_map.mp hm
    have h2 := T.le q hq
    omega
  have ej : j' = j := by
    rcases Nat.lt_trichotomy j j' with h | h | h
    · exact absurd (hp.trans e.symm) (hn' j p h hj)
    · exact h.symm
    · exact absurd (hp'.trans e) (hn j' _ h hj')
  subst ej
  rw [hj] at hj'
  cases r with
  | mk paid many plan =>
    have e : paid = m := e
    have e2 : p = plan := Option.some.inj hj'
    have e3 := T.many
    subst e e2
    have e3 : many = _ := e3
    rw [e3]
/-! right plans -/
theorem wrong_none {s : Uw08.Season} {p : Uw08.Plan} : s.wrong p = none ↔ ∀ b ∈ p, wrongB s.plays b = none := by
  unfold Uw08.Season.wrong
  rw [List.findSome?_eq_none_iff]
  constructor
  · intro h b hb
    obtain ⟨i, hi⟩ := List.getElem?_of_mem hb
    have hl := (List.getElem?_eq_some_iff.mp hi).1
    have q := h i (by simpa using hl)
    rw [week_wrong, List.getD_eq_getElem?_getD, hi] at q
    cases e : wrongB s.plays b with
    | none => rfl
    | some x =>
      have q : ((⟨[], s.plays⟩ : Uw05.Week).wrong b).map _ = none := q
      rw [show (⟨[], s.plays⟩ : Uw05.Week).wrong b = some x from e] at q
      cases q
  · intro h i hi
    have hl : i < p.length := by simpa using hi
    rw [week_wrong, List.getD_eq_getElem?_getD, List.getElem?_eq_getElem hl]
    show (wrongB s.plays p[i]).map _ = none
    rw [h _ (List.getElem_mem hl)]
    rfl
theorem wrong_some {s : Uw08.Season} {p : Uw08.Plan} {i : Nat} {b : List Nat} {x : Nat × Nat} (hb : p[i]? = some b) (hx : wrongB s.plays b = some x) (hn : ∀ j c, j < i → p[j]? = some c → wrongB s.plays c = none) : s.wrong p = some (i, x.1, x.2) := by
  unfold Uw08.Season.wrong
  have hl := (List.getElem?_eq_some_iff.mp hb).1
  have one : ∀ j c, p[j]? = some c → (((s.week (p.take j)).wrong (p.getD j [])).map fun x => (j, x.1, x.2)) = (wrongB s.plays c).map fun x => (j, x.1, x.2) := fun j c hc => by
    rw [week_wrong, List.getD_eq_getElem?_getD, hc]
    rfl
  refine findSome_at (i := i) (x := i) (by rw [List.getElem?_range hl]) (by rw [one i b hb, hx]; rfl) fun j z hj hz => ?_
  rw [List.getElem?_range (by omega)] at hz
  have e : j = z := Option.some.inj hz
  subst e
  have hjl : j < p.length := by omega
  rw [one j p[j] (List.getElem?_eq_getElem hjl), hn j p[j] hj (List.getElem?_eq_getElem hjl)]
  rfl
theorem right_plans (s : Uw08.Season) (n : Nat) : (s.plans n).filter s.right = words (goodBills s) n := by
  rw [plans_words]
  unfold goodBills
  rw [← words_filter]
  apply List.filter_congr
  intro p hp
  obtain ⟨_, m⟩ := words_mem hp
  unfold Uw08.Season.right
  have h1 : s.told p = true := by
    unfold Uw08.Season.told
    refine List.all_eq_true.mpr fun b hb => ?_
    have ok := bill_ok (m b hb)
    rw [Bool.and_eq_true]
    refine ⟨by rw [ok.len]; exact beq_self_eq_true _, List.all_eq_true.mpr fun k hk => decide_eq_true (ok.le k hk)⟩
  rw [h1, Bool.true_and]
  cases e : s.wrong p with
  | none =>
    symm
    show (p.all fun b => (wrongB s.plays b).isNone) = true
    refine List.all_eq_true.mpr fun b hb => ?_
    rw [wrong_none.mp e b hb]
    rfl
  | some x =>
    symm
    show (p.all fun b => (wrongB s.plays b).isNone) = false
    rw [Bool.eq_false_iff]
    intro h
    have q : s.wrong p = none := wrong_none.mpr fun b hb => by
      have := List.all_eq_true.mp h b hb
      cases e2 : wrongB s.plays b with
      | none => rfl
      | some y => rw [e2] at this; cases this
    rw [q] at e; cases e
theorem best_eq (s : Uw08.Season) (n : Nat) : s.best n = ((words (goodBills s) n).map (cand s.paid)).foldl Uw08.better none := by
  unfold Uw08.Season.best
  rw [right_plans]
  rfl
theorem words_none {α : Type} {n : Nat} (h : 0 < n) : words ([] : List α) n = [] := by
  cases n with
  | zero => omega
  | succ n => rfl
theorem words_ne {α : Type} {A : List α} (h : A ≠ []) : ∀ n, words A n ≠ []
  | 0 => by simp [words]
  | n + 1 => by
    cases A with
    | nil => exact absurd rfl h
    | cons a A =>
      intro e
      have := words_length (a :: A) (n + 1)
      rw [e] at this
      have q : 0 < (a :: A).length ^ (n + 1) := Nat.pow_pos (Nat.succ_pos _)
      rw [← this] at q
      exact absurd q (Nat.lt_irrefl _)
theorem good_ok {s : Uw08.Season} {b : List Nat} (h : b ∈ goodBills s) : BillOk s b := bill_ok (List.mem_filter.mp h).1
theorem good_few {s : Uw08.Season} (wf : WF s) : (goodBills s).length ≤ 16 := by
  unfold goodBills
  refine Nat.le_trans (List.length_filter_le _ _) ?_
  rw [bills_words, words_length, List.length_range]
  have h1 := wf.pl
  have h2 := wf.nl
  exact Nat.le_trans (Nat.pow_le_pow_left (show s.plays.length + 1 ≤ 4 by omega) _) (Nat.pow_le_pow_right (by omega) h2)
theorem words_few {s : Uw08.Season} (wf : WF s) {n : Nat} (h : n ≤ 3) : (words (goodBills s) n).length ≤ 4096 := by
  rw [words_length]
  exact Nat.le_trans (Nat.pow_le_pow_left (good_few wf) _) (Nat.pow_le_pow_right (by omega) h)
/-! one week at a time -/
def cand1 (w : Uw05.Week) (b : List Nat) : Option Uw05.Best := some ⟨w.left b, 1, b⟩
def Chosen (w : Uw05.Week) (L : List (List Nat)) (m : Int) (b : List Nat) : Prop := ∃ c, (L.map (cand1 w)).foldl Uw05.better none = some ⟨m, c, b⟩
theorem chosen_one (w : Uw05.Week) (b : List Nat) : Chosen w [b] (w.left b) b := ⟨1, rfl⟩
theorem chosen_snoc {w : Uw05.Week} {L : List (List Nat)} {m : Int} {b : List Nat} (h : Chosen w L m b) (x : List Nat) : Chosen w (L ++ [x]) (if m < w.left x then w.left x else m) (if m < w.left x then x else b) := by
  obtain ⟨c, h⟩ := h
  unfold Chosen
  rw [List.map_append, List.foldl_append, h]
  show ∃ c', Uw05.better (some ⟨m, c, b⟩) (some ⟨w.left x, 1, x⟩) = some ⟨_, c', _⟩
  show ∃ c', (if m < w.left x then some (⟨w.left x, 1, x⟩ : Uw05.Best) else if w.left x < m then some ⟨m, c, b⟩ else some ⟨m, c + 1, b⟩) = some ⟨_, c', _⟩
  by_cases h1 : m < w.left x
  · rw [if_pos h1, if_pos h1, if_pos h1]; exact ⟨1, rfl⟩
  · rw [if_neg h1, if_neg h1, if_neg h1]
    by_cases h2 : w.left x < m
    · rw [if_pos h2]; exact ⟨c, rfl⟩
    · rw [if_neg h2]; exact ⟨c + 1, rfl⟩
theorem plain_step {s : Uw08.Season} {n : Nat} {bf : Uw08.Plan} {m : Int} {b : List Nat} (h : Chosen (s.week bf) (goodBills s) m b) : s.plain (n + 1) bf = s.plain n (bf ++ [b]) := by
  obtain ⟨c, h⟩ := h
  show ((s.week bf).best.bind fun b => s.plain n (bf ++ [b.bill])) = _
  unfold Uw05.Week.best
  rw [week_all]
  show (((goodBills s).map (cand1 (s.week bf))).foldl Uw05.better none).bind _ = _
  rw [h]
  rfl
theorem plain_none {s : Uw08.Season} {n : Nat} (h : goodBills s = []) (bf : Uw08.Plan) : s.plain (n + 1) bf = none := by
  show ((s.week bf).best.bind fun b => s.plain n (bf ++ [b.bill])) = _
  unfold Uw05.Week.best
  rw [week_all, h]
  rfl
end Ps
set_option linter.all false
namespace Ps
/-! a call from its numbers -/
def rowN (w : List Nat) : List Nat := w.length :: w
theorem listAt_some {l x y : List Nat} (h : Uw08Neutral.listAt l = some (x, y)) : l = rowN x ++ y ∧ x.length ≤ 20 := by
  cases l with
  | nil => cases h
  | cons n l =>
    have h : (if n ≤ 20 ∧ n ≤ l.length then some (l.take n, l.drop n) else none) = some (x, y) := h
    by_cases c : n ≤ 20 ∧ n ≤ l.length
    · rw [if_pos c] at h
      have e := Option.some.inj h
      have e1 : l.take n = x := congrArg Prod.fst e
      have e2 : l.drop n = y := congrArg Prod.snd e
      have hl : x.length = n := by rw [← e1, List.length_take]; omega
      refine ⟨?_, by omega⟩
      unfold rowN
      rw [hl, ← e1, ← e2, List.cons_append, List.take_append_drop]
    · rw [if_neg c] at h; cases h
theorem listIn_some {l x : List Nat} (h : Uw08Neutral.listIn l = some x) : l = rowN x ∧ x.length ≤ 20 := by
  unfold Uw08Neutral.listIn at h
  cases e : Uw08Neutral.listAt l with
  | none => rw [e] at h; cases h
  | some y =>
    rw [e] at h
    obtain ⟨y1, y2⟩ := y
    have h : (if y2 = [] then some y1 else none) = some x := h
    by_cases c : y2 = []
    · rw [if_pos c] at h
      cases h
      obtain ⟨e1, e2⟩ := listAt_some e
      rw [c, List.append_nil] at e1
      exact ⟨e1, e2⟩
    · rw [if_neg c] at h; cases h
theorem listsIn_some : ∀ {n : Nat} {l : List Nat} {ps : List (List Nat)}, Uw08Neutral.listsIn n l = some ps → l = ps.flatMap rowN ∧ ps.length = n ∧ ∀ b ∈ ps, b.length ≤ 20
  | 0, l, ps, h => by
    unfold Uw08Neutral.listsIn at h
    by_cases c : l = []
    · rw [if_pos c] at h
      cases h
      exact ⟨c, rfl, fun b hb => by cases hb⟩
    · rw [if_neg c] at h; cases h
  | n + 1, l, ps, h => by
    unfold Uw08Neutral.listsIn at h
    cases e : Uw08Neutral.listAt l with
    | none => rw [e] at h; cases h
    | some y =>
      rw [e] at h
      obtain ⟨y1, y2⟩ := y
      have h : (Uw08Neutral.listsIn n y2).map (fun r => y1 :: r) = some ps := h
      cases e2 : Uw08Neutral.listsIn n y2 with
      | none => rw [e2] at h; cases h
      | some r =>
        rw [e2] at h
        cases h
        obtain ⟨a1, a2⟩ := listAt_some e
        obtain ⟨b1, b2, b3⟩ := listsIn_some e2
        refine ⟨by rw [List.flatMap_cons, ← b1]; exact a1, by rw [List.length_cons, b2], fun b hb => ?_⟩
        rcases List.mem_cons.mp hb with rfl | hb
        · exact a2
        · exact b3 b hb
inductive Said : List Nat → Uw08.Call → Prop
  | begins (k m w : Nat) (n : List Nat) : Said (0 :: k :: m :: w :: rowN n) (.begins k m w n)
  | play (s t b m n : Nat) (r : List Nat) : b ≤ 1 → Said (1 :: s :: t :: b :: m :: n :: rowN r) (.play ⟨r, s, t, b == 1, m, n⟩)
  | join (p : Nat) : Said [2, p] (.join p)
  | best (n : Nat) : Said [3, n] (.best n)
  | plain (n : Nat) : Said [4, n] (.plain n)
  | check (ps : List (List Nat)) : ps.length ≤ 20 → Said (5 :: ps.length :: ps.flatMap rowN) (.check ps)
  | bring (n : Nat) : Said [6, n] (.bring n)
theorem nos {x : Uw08.Call} {C : Prop} (h : none = some x) : C := by cases h
theorem said0 {k m w : Nat} {l : List Nat} {x : Uw08.Call} (h : ((Uw08Neutral.listIn l).map fun n => Uw08.Call.begins k m w n) = some x) : Said (0 :: k :: m :: w :: l) x := by
  cases e : Uw08Neutral.listIn l with
  | none => rw [e] at h; exact nos h
  | some n =>
    rw [e] at h; cases h
    rw [(listIn_some e).1]
    exact .begins k m w n
theorem said1 {s t b m n : Nat} {l : List Nat} {x : Uw08.Call} (h : (if b ≤ 1 then (Uw08Neutral.listIn l).map fun r => Uw08.Call.play ⟨r, s, t, b == 1, m, n⟩ else none) = some x) : Said (1 :: s :: t :: b :: m :: n :: l) x := by
  by_cases c : b ≤ 1
  · rw [if_pos c] at h
    cases e : Uw08Neutral.listIn l with
    | none => rw [e] at h; exact nos h
    | some r =>
      rw [e] at h; cases h
      rw [(listIn_some e).1]
      exact .play s t b m n r c
  · rw [if_neg c] at h; exact nos h
theorem said5 {n : Nat} {l : List Nat} {x : Uw08.Call} (h : (if n ≤ 20 then (Uw08Neutral.listsIn n l).map Uw08.Call.check else none) = some x) : Said (5 :: n :: l) x := by
  by_cases c : n ≤ 20
  · rw [if_pos c] at h
    cases e : Uw08Neutral.listsIn n l with
    | none => rw [e] at h; exact nos h
    | some ps =>
      rw [e] at h; cases h
      obtain ⟨a, b, d⟩ := listsIn_some e
      rw [a, ← b]
      exact .check ps (by rw [b]; exact c)
  · rw [if_neg c] at h; exact nos h
theorem callIn_said {l : List Nat} {x : Uw08.Call} (h : Uw08Neutral.callIn l = some x) : Said l x := by
  rcases l with _ | ⟨c, l⟩
  · exact nos h
  rcases c with _ | _ | _ | _ | _ | _ | _ | c
  · rcases l with _ | ⟨k, _ | ⟨m, _ | ⟨w, l⟩⟩⟩
    · exact nos h
    · exact nos h
    · exact nos h
    · exact said0 h
  · rcases l with _ | ⟨s, _ | ⟨t, _ | ⟨b, _ | ⟨m, _ | ⟨n, l⟩⟩⟩⟩⟩
    · exact nos h
    · exact nos h
    · exact nos h
    · exact nos h
    · exact nos h
    · exact said1 h
  · rcases l with _ | ⟨p, _ | ⟨q, l⟩⟩
    · exact nos h
    · exact Option.some.inj h ▸ .join p
    · exact nos h
  · rcases l with _ | ⟨p, _ | ⟨q, l⟩⟩
    · exact nos h
    · exact Option.some.inj h ▸ .best p
    · exact nos h
  · rcases l with _ | ⟨p, _ | ⟨q, l⟩⟩
    · exact nos h
    · exact Option.some.inj h ▸ .plain p
    · exact nos h
  · rcases l with _ | ⟨p, l⟩
    · exact nos h
    · exact said5 h
  · rcases l with _ | ⟨p, _ | ⟨q, l⟩⟩
    · exact nos h
    · exact Option.some.inj h ▸ .bring p
    · exact nos h
  · rcases l with _ | ⟨p, _ | ⟨q, l⟩⟩ <;> exact nos h
theorem callOf_said {c : List Int} {x : Uw08.Call} (h : Uw08Neutral.callOf c = some x) : ∃ l : List Nat, c = l.map (fun (n : Nat) => (n : Int)) ∧ Said l x := by
  unfold Uw08Neutral.callOf at h
  by_cases q : (c.all Uw08Neutral.nat) = false
  · rw [if_pos q] at h; cases h
  · rw [if_neg q] at h
    refine ⟨c.map Int.toNat, ?_, callIn_said h⟩
    have q : c.all Uw08Neutral.nat = true := by cases e : c.all Uw08Neutral.nat with
      | true => rfl
      | false => exact absurd e q
    rw [List.map_map]
    symm
    calc c.map ((fun (n : Nat) => (n : Int)) ∘ Int.toNat) = c.map id := by
          apply List.map_congr_left
          intro z hz
          have := List.all_eq_true.mp q z hz
          unfold Uw08Neutral.nat at this
          rw [Bool.and_eq_true] at this
          have := of_decide_eq_true this.1
          show (z.toNat : Int) = z
          omega
      _ = c := List.map_id c
/-! each call leaves a season as it may be -/
theorem wf_step {s : Uw08.Season} (wf : WF s) : ∀ x : Uw08.Call, WF (Uw08.step s x).1
  | .begins k m w n => by
    unfold Uw08.step
    show WF (if _ then (s, Uw08.ok (-1)) else _).1
    split
    · exact wf
    · rename_i h
      simp only [not_or] at h
      obtain ⟨h1, h2, h3, h4, h5, h6⟩ := h
      have e1 : Uw08.NIGHTS = 2 := rfl
      have e2 : Uw08.MOST = 1000 := rfl
      have h3 : (n.all fun x => decide (x ≤ Uw05.HUNDRED)) = true := by simpa using h3
      refine ⟨by show n.length ≤ 2; omega, fun x hx => of_decide_eq_true (List.all_eq_true.mp h3 x hx), Nat.zero_le _, fun p hp => ?_, Nat.zero_le _, fun x hx => ?_, Nat.zero_le _, by show m ≤ 1000; omega, rfl, by show w ≤ 1000; omega, by show k ≤ 1000; omega⟩
      · exact absurd (show p ∈ ([] : List Uw05.Play) from hp) (by simp)
      · exact absurd (show x ∈ ([] : List Uw06.Sharer) from hx) (by simp)
  | .play p => by
    unfold Uw08.step
    show WF (if _ then (s, Uw08.ok (-1)) else if _ then _ else _).1
    split
    · exact wf
    · rename_i h
      split
      · exact wf
      · rename_i h'
        simp only [not_or] at h
        obtain ⟨h1, h2, h3, h4⟩ := h
        have h1 : Uw05.playOk ⟨s.nights, s.plays⟩ p = true := by simpa using h1
        have h4 : (p.brings.all fun x => decide (x ≤ Uw08.BRINGS)) = true := by simpa using h4
        unfold Uw05.playOk at h1
        simp only [Bool.and_eq_true, decide_eq_true_eq] at h1
        obtain ⟨a1, a2, a3, a4, a5, a6, a7⟩ := h1
        have e1 : Uw08.PLAYS = 3 := rfl
        have e2 : Uw08.BRINGS = 100 := rfl
        have e3 : Uw05.NIGHTS = 6 := rfl
        refine { wf with pl := ?_, pk := fun q hq => ?_ }
        · show (s.plays ++ [p]).length ≤ 3
          rw [List.length_append, List.length_singleton]; omega
        · have hq : q ∈ s.plays ++ [p] := hq
          rcases List.mem_append.mp hq with hq | hq
          · exact wf.pk q hq
          · rw [List.mem_singleton.mp hq]
            exact ⟨a1, by omega, fun x hx => of_decide_eq_true (List.all_eq_true.mp h4 x hx), by omega, by omega, a6, a7⟩
  | .join p => by
    unfold Uw08.step
    show WF (if _ then (s, Uw08.ok (-1)) else if _ then _ else _).1
    split
    · exact wf
    · rename_i h
      split
      · exact wf
      · rename_i h'
        have e1 : Uw08.SHARERS = 5 := rfl
        have e2 : Uw06.PARTS = 24 := rfl
        refine { wf with sl := ?_, sk := fun q hq => ?_ }
        · show (s.company.sharers ++ [_]).length ≤ 5
          rw [List.length_append, List.length_singleton]; omega
        · have hq : q ∈ s.company.sharers ++ [_] := hq
          rcases List.mem_append.mp hq with hq | hq
          · exact wf.sk q hq
          · rw [List.mem_singleton.mp hq]
            exact ⟨rfl, rfl, by show 1 ≤ p; omega, by show p ≤ 24; omega⟩
  | .best n => by
    unfold Uw08.step
    show WF (if _ then (s, Uw08.ok (-1)) else (s, _)).1
    split <;> exact wf
  | .plain n => by
    unfold Uw08.step
    show WF (if _ then (s, Uw08.ok (-1)) else (s, _)).1
    split <;> exact wf
  | .check p => by
    unfold Uw08.step
    show WF (if _ then (s, Uw08.ok (-1)) else (s, _)).1
    split <;> exact wf
  | .bring n => by
    unfold Uw08.step
    show WF (if _ then (s, Uw08.ok (-1)) else _).1
    split
    · exact wf
    · refine { wf with fu := ?_ }
      show s.company.fund + min n (s.company.most - s.company.fund) ≤ s.company.most
      have := wf.fu
      omega
/-! the calls one behind another -/
/-- what is left to do: numbers, calls -/
inductive Left : List Int → List (List Int) → Prop
  | nil : Left [] []
  | cons (c r : List Int) (cs : List (List Int)) : Left r cs → Left (0 :: (c.length : Int) :: (c ++ r)) (c :: cs)
theorem flat_left : ∀ (f : Nat) {l : List Int} {cs : List (List (List Int))}, PyFlat.calls PyUw08.shape f l = some cs → Left l ((cs.map PyUw08.whole).map fun c => c.headD [])
  | _, [], cs, h => by
    have e : cs = [] := by
      cases ‹Nat› <;> (unfold PyFlat.calls at h; exact (Option.some.inj h).symm)
    subst e
    exact .nil
  | 0, _ :: _, cs, h => by unfold PyFlat.calls at h; cases h
  | f + 1, p :: r, cs, h => by
    unfold PyFlat.calls at h
    cases e : PyFlat.call PyUw08.shape (p :: r) with
    | none => rw [e] at h; cases h
    | some ct =>
      obtain ⟨c, t⟩ := ct
      rw [e] at h
      cases e2 : PyFlat.calls PyUw08.shape f t with
      | none => simp only [e2] at h; cases h
      | some cs' =>
        simp only [e2] at h
        have e3 : cs = c :: cs' := (Option.some.inj h).symm
        have L := flat_left f e2
        unfold PyFlat.call PyUw08.shape at e
        by_cases hp : p = 0
        · subst hp
          simp only [if_pos] at e
          rw [if_neg (by omega), List.drop_zero] at e
          unfold PyFlat.rows at e
          cases r with
          | nil => simp [PyFlat.row] at e
          | cons n r =>
            unfold PyFlat.row at e
            by_cases hn : 0 ≤ n ∧ n.toNat ≤ r.length
            · simp only [if_pos hn, PyFlat.rows] at e
              have e := Option.some.inj e
              have ec : [[0], r.take n.toNat] = c := congrArg Prod.fst e
              have et : r.drop n.toNat = t := congrArg Prod.snd e
              subst e3 ec
              have q := Left.cons (r.take n.toNat) t _ L
              have hl : ((r.take n.toNat).length : Int) = n := by rw [List.length_take]; omega
              rw [hl, ← et, List.take_append_drop] at q
              exact q
            · simp only [if_neg hn] at e
              cases e
        · simp only [if_neg hp] at e
          cases e
end Ps
section
set_option Elab.async false
set_option genInjectivity false
set_option genSizeOf false
set_option linter.all false
set_option maxRecDepth 100000
set_option maxHeartbeats 2000000
namespace Ps
open PySem PySem.Spec PyProof.Rows L2
/-! the text by places -/
def top (i : Nat) : Stmt := PySem.Challenge.pw_playseason_s01_answers.main.body.getD i (.Pass ⟨0, 0, 0, 0⟩)
abbrev sPlayInit : Stmt := inClass (top 22) 0
abbrev sCompanyInit : Stmt := inClass (top 23) 0
abbrev sStandingInit : Stmt := inClass (top 24) 0
abbrev s_opening : Stmt := top 25
abbrev s_wrong_with : Stmt := top 26
abbrev s_all_bills : Stmt := top 27
abbrev s_right_bills : Stmt := top 28
abbrev s_work_of : Stmt := top 29
abbrev s_given_behind : Stmt := top 30
abbrev s_taken_by : Stmt := top 31
abbrev s_leaves : Stmt := top 32
abbrev s_settle : Stmt := top 33
abbrev s_behind_week : Stmt := top 34
abbrev s_behind_plan : Stmt := top 35
abbrev s_behind_all_plans : Stmt := top 36
abbrev s_bill_that_leaves_most : Stmt := top 37
abbrev s_most_owed : Stmt := top 38
abbrev s_paid_behind : Stmt := top 39
abbrev s_with_length : Stmt := top 40
abbrev s_told_of_weeks : Stmt := top 41
abbrev s_begins_as_told : Stmt := top 42
abbrev s_begin_season : Stmt := top 43
abbrev s_play_as_told : Stmt := top 44
abbrev s_add_play : Stmt := top 45
abbrev s_join_company : Stmt := top 46
abbrev s_refusal_of_weeks : Stmt := top 47
abbrev s_best_plan : Stmt := top 48
abbrev s_plain_plan : Stmt := top 49
abbrev s_plan_as_told : Stmt := top 50
abbrev s_check_plan : Stmt := top 51
abbrev s_put_into_fund : Stmt := top 52
abbrev s_row_at : Stmt := top 53
abbrev s_plan_in : Stmt := top 54
abbrev s_answer : Stmt := top 55
abbrev s_answers : Stmt := top 56
/-- where things stand behind the top -/
structure Adr where
  cPlay : Addr
  iPlay : Addr
  dPlay : FuncData
  cCompany : Addr
  iCompany : Addr
  dCompany : FuncData
  cStanding : Addr
  iStanding : Addr
  dStanding : FuncData
  f_opening : Addr
  d_opening : FuncData
  f_wrong_with : Addr
  d_wrong_with : FuncData
  f_all_bills : Addr
  d_all_bills : FuncData
  f_right_bills : Addr
  d_right_bills : FuncData
  f_work_of : Addr
  d_work_of : FuncData
  f_given_behind : Addr
  d_given_behind : FuncData
  f_taken_by : Addr
  d_taken_by : FuncData
  f_leaves : Addr
  d_leaves : FuncData
  f_settle : Addr
  d_settle : FuncData
  f_behind_week : Addr
  d_behind_week : FuncData
  f_behind_plan : Addr
  d_behind_plan : FuncData
  f_behind_all_plans : Addr
  d_behind_all_plans : FuncData
  f_bill_that_leaves_most : Addr
  d_bill_that_leaves_most : FuncData
  f_most_owed : Addr
  d_most_owed : FuncData
  f_paid_behind : Addr
  d_paid_behind : FuncData
  f_with_length : Addr
  d_with_length : FuncData
  f_told_of_weeks : Addr
  d_told_of_weeks : FuncData
  f_begins_as_told : Addr
  d_begins_as_told : FuncData
  f_begin_season : Addr
  d_begin_season : FuncData
  f_play_as_told : Addr
  d_play_as_told : FuncData
  f_add_play : Addr
  d_add_play : FuncData
  f_join_company : Addr
  d_join_company : FuncData
  f_refusal_of_weeks : Addr
  d_refusal_of_weeks : FuncData
  f_best_plan : Addr
  d_best_plan : FuncData
  f_plain_plan : Addr
  d_plain_plan : FuncData
  f_plan_as_told : Addr
  d_plan_as_told : FuncData
  f_check_plan : Addr
  d_check_plan : FuncData
  f_put_into_fund : Addr
  d_put_into_fund : FuncData
  f_row_at : Addr
  d_row_at : FuncData
  f_plan_in : Addr
  d_plan_in : FuncData
  f_answer : Addr
  d_answer : FuncData
  f_answers : Addr
  d_answers : FuncData
structure Txt (K : PySem.W.Frag) (mg : Str → Option Value) (t : Adr) : Prop where
  clPlay : Cls K t.cPlay
  mkPlay : Mk K t.cPlay t.iPlay
  mgPlay : mg "Play" = some (.ref t.cPlay)
  FPlay : Fun K "__init__" "Play.__init__" sPlayInit t.iPlay t.dPlay
  BPlay : Binds K t.dPlay ["self", "setting", "striking", "may_run", "least", "most", "brings"] []
  nPlay_setting : NoAttr K t.cPlay "setting"
  nPlay_striking : NoAttr K t.cPlay "striking"
  nPlay_may_run : NoAttr K t.cPlay "may_run"
  nPlay_least : NoAttr K t.cPlay "least"
  nPlay_most : NoAttr K t.cPlay "most"
  nPlay_brings : NoAttr K t.cPlay "brings"
  clCompany : Cls K t.cCompany
  mkCompany : Mk K t.cCompany t.iCompany
  mgCompany : mg "Company" = some (.ref t.cCompany)
  FCompany : Fun K "__init__" "Company.__init__" sCompanyInit t.iCompany t.dCompany
  BCompany : Binds K t.dCompany ["self"] []
  nCompany_costs : NoAttr K t.cCompany "costs"
  nCompany_fund_limit : NoAttr K t.cCompany "fund_limit"
  nCompany_wages : NoAttr K t.cCompany "wages"
  nCompany_crowds : NoAttr K t.cCompany "crowds"
  nCompany_fund : NoAttr K t.cCompany "fund"
  nCompany_plays : NoAttr K t.cCompany "plays"
  nCompany_parts : NoAttr K t.cCompany "parts"
  clStanding : Cls K t.cStanding
  mkStanding : Mk K t.cStanding t.iStanding
  mgStanding : mg "Standing" = some (.ref t.cStanding)
  FStanding : Fun K "__init__" "Standing.__init__" sStandingInit t.iStanding t.dStanding
  BStanding : Binds K t.dStanding ["self", "given", "fund", "debt", "bills", "payouts"] []
  nStanding_given : NoAttr K t.cStanding "given"
  nStanding_fund : NoAttr K t.cStanding "fund"
  nStanding_debt : NoAttr K t.cStanding "debt"
  nStanding_bills : NoAttr K t.cStanding "bills"
  nStanding_payouts : NoAttr K t.cStanding "payouts"
  k_NOT_AS_TOLD : ∃ tk, mg "NOT_AS_TOLD" = some (Value.int (-1) tk)
  k_NO_ROOM : ∃ tk, mg "NO_ROOM" = some (Value.int (-5) tk)
  k_NO_RIGHT_PLAN : ∃ tk, mg "NO_RIGHT_PLAN" = some (Value.int (-6) tk)
  k_MOST_NIGHTS : ∃ tk, mg "MOST_NIGHTS" = some (Value.int (2) tk)
  k_MOST_OF_A_HUNDRED : ∃ tk, mg "MOST_OF_A_HUNDRED" = some (Value.int (300) tk)
  k_MOST_MONEY : ∃ tk, mg "MOST_MONEY" = some (Value.int (1000) tk)
  k_MOST_PLAYS : ∃ tk, mg "MOST_PLAYS" = some (Value.int (3) tk)
  k_MOST_OF_A_PLAY : ∃ tk, mg "MOST_OF_A_PLAY" = some (Value.int (100) tk)
  k_MOST_BRINGS : ∃ tk, mg "MOST_BRINGS" = some (Value.int (6) tk)
  k_MOST_SHARERS : ∃ tk, mg "MOST_SHARERS" = some (Value.int (5) tk)
  k_MOST_PARTS : ∃ tk, mg "MOST_PARTS" = some (Value.int (24) tk)
  k_MOST_WEEKS : ∃ tk, mg "MOST_WEEKS" = some (Value.int (3) tk)
  k_RUNS_THOUGH_IT_MAY_NOT : ∃ tk, mg "RUNS_THOUGH_IT_MAY_NOT" = some (Value.int (1) tk)
  k_TOO_SELDOM : ∃ tk, mg "TOO_SELDOM" = some (Value.int (2) tk)
  k_TOO_OFTEN : ∃ tk, mg "TOO_OFTEN" = some (Value.int (3) tk)
  k_BEGINS : ∃ tk, mg "BEGINS" = some (Value.int (0) tk)
  k_PLAY : ∃ tk, mg "PLAY" = some (Value.int (1) tk)
  k_JOIN : ∃ tk, mg "JOIN" = some (Value.int (2) tk)
  k_BEST : ∃ tk, mg "BEST" = some (Value.int (3) tk)
  k_PLAIN : ∃ tk, mg "PLAIN" = some (Value.int (4) tk)
  k_CHECK : ∃ tk, mg "CHECK" = some (Value.int (5) tk)
  b_len : mg "len" = none
  b_range : mg "range" = none
  b_max : mg "max" = none
  b_min : mg "min" = none
  b_sum : mg "sum" = none
  b_list : mg "list" = none
  b_zip : mg "zip" = none
  b_enumerate : mg "enumerate" = none
  g_opening : mg "opening" = some (.ref t.f_opening)
  F_opening : Fun K "opening" "opening" s_opening t.f_opening t.d_opening
  B_opening : Binds K t.d_opening ["company"] []
  g_wrong_with : mg "wrong_with" = some (.ref t.f_wrong_with)
  F_wrong_with : Fun K "wrong_with" "wrong_with" s_wrong_with t.f_wrong_with t.d_wrong_with
  B_wrong_with : Binds K t.d_wrong_with ["plays", "bill"] []
  g_all_bills : mg "all_bills" = some (.ref t.f_all_bills)
  F_all_bills : Fun K "all_bills" "all_bills" s_all_bills t.f_all_bills t.d_all_bills
  B_all_bills : Binds K t.d_all_bills ["company"] []
  g_right_bills : mg "right_bills" = some (.ref t.f_right_bills)
  F_right_bills : Fun K "right_bills" "right_bills" s_right_bills t.f_right_bills t.d_right_bills
  B_right_bills : Binds K t.d_right_bills ["company"] []
  g_work_of : mg "work_of" = some (.ref t.f_work_of)
  F_work_of : Fun K "work_of" "work_of" s_work_of t.f_work_of t.d_work_of
  B_work_of : Binds K t.d_work_of ["plays", "bill"] []
  g_given_behind : mg "given_behind" = some (.ref t.f_given_behind)
  F_given_behind : Fun K "given_behind" "given_behind" s_given_behind t.f_given_behind t.d_given_behind
  B_given_behind : Binds K t.d_given_behind ["given", "bill"] []
  g_taken_by : mg "taken_by" = some (.ref t.f_taken_by)
  F_taken_by : Fun K "taken_by" "taken_by" s_taken_by t.f_taken_by t.d_taken_by
  B_taken_by : Binds K t.d_taken_by ["company", "given", "bill"] []
  g_leaves : mg "leaves" = some (.ref t.f_leaves)
  F_leaves : Fun K "leaves" "leaves" s_leaves t.f_leaves t.d_leaves
  B_leaves : Binds K t.d_leaves ["company", "given", "bill"] []
  g_settle : mg "settle" = some (.ref t.f_settle)
  F_settle : Fun K "settle" "settle" s_settle t.f_settle t.d_settle
  B_settle : Binds K t.d_settle ["company", "fund", "debt", "left"] []
  g_behind_week : mg "behind_week" = some (.ref t.f_behind_week)
  F_behind_week : Fun K "behind_week" "behind_week" s_behind_week t.f_behind_week t.d_behind_week
  B_behind_week : Binds K t.d_behind_week ["company", "standing", "bill"] []
  g_behind_plan : mg "behind_plan" = some (.ref t.f_behind_plan)
  F_behind_plan : Fun K "behind_plan" "behind_plan" s_behind_plan t.f_behind_plan t.d_behind_plan
  B_behind_plan : Binds K t.d_behind_plan ["company", "plan"] []
  g_behind_all_plans : mg "behind_all_plans" = some (.ref t.f_behind_all_plans)
  F_behind_all_plans : Fun K "behind_all_plans" "behind_all_plans" s_behind_all_plans t.f_behind_all_plans t.d_behind_all_plans
  B_behind_all_plans : Binds K t.d_behind_all_plans ["company", "bills", "weeks"] []
  g_bill_that_leaves_most : mg "bill_that_leaves_most" = some (.ref t.f_bill_that_leaves_most)
  F_bill_that_leaves_most : Fun K "bill_that_leaves_most" "bill_that_leaves_most" s_bill_that_leaves_most t.f_bill_that_leaves_most t.d_bill_that_leaves_most
  B_bill_that_leaves_most : Binds K t.d_bill_that_leaves_most ["company", "given", "bills"] []
  g_most_owed : mg "most_owed" = some (.ref t.f_most_owed)
  F_most_owed : Fun K "most_owed" "most_owed" s_most_owed t.f_most_owed t.d_most_owed
  B_most_owed : Binds K t.d_most_owed ["parts", "paid"] []
  g_paid_behind : mg "paid_behind" = some (.ref t.f_paid_behind)
  F_paid_behind : Fun K "paid_behind" "paid_behind" s_paid_behind t.f_paid_behind t.d_paid_behind
  B_paid_behind : Binds K t.d_paid_behind ["parts", "paid", "payout"] []
  g_with_length : mg "with_length" = some (.ref t.f_with_length)
  F_with_length : Fun K "with_length" "with_length" s_with_length t.f_with_length t.d_with_length
  B_with_length : Binds K t.d_with_length ["row"] []
  g_told_of_weeks : mg "told_of_weeks" = some (.ref t.f_told_of_weeks)
  F_told_of_weeks : Fun K "told_of_weeks" "told_of_weeks" s_told_of_weeks t.f_told_of_weeks t.d_told_of_weeks
  B_told_of_weeks : Binds K t.d_told_of_weeks ["company", "standing"] []
  g_begins_as_told : mg "begins_as_told" = some (.ref t.f_begins_as_told)
  F_begins_as_told : Fun K "begins_as_told" "begins_as_told" s_begins_as_told t.f_begins_as_told t.d_begins_as_told
  B_begins_as_told : Binds K t.d_begins_as_told ["costs", "fund_limit", "wages", "crowds"] []
  g_begin_season : mg "begin_season" = some (.ref t.f_begin_season)
  F_begin_season : Fun K "begin_season" "begin_season" s_begin_season t.f_begin_season t.d_begin_season
  B_begin_season : Binds K t.d_begin_season ["company", "costs", "fund_limit", "wages", "crowds"] []
  g_play_as_told : mg "play_as_told" = some (.ref t.f_play_as_told)
  F_play_as_told : Fun K "play_as_told" "play_as_told" s_play_as_told t.f_play_as_told t.d_play_as_told
  B_play_as_told : Binds K t.d_play_as_told ["play", "nights"] []
  g_add_play : mg "add_play" = some (.ref t.f_add_play)
  F_add_play : Fun K "add_play" "add_play" s_add_play t.f_add_play t.d_add_play
  B_add_play : Binds K t.d_add_play ["company", "play"] []
  g_join_company : mg "join_company" = some (.ref t.f_join_company)
  F_join_company : Fun K "join_company" "join_company" s_join_company t.f_join_company t.d_join_company
  B_join_company : Binds K t.d_join_company ["company", "parts"] []
  g_refusal_of_weeks : mg "refusal_of_weeks" = some (.ref t.f_refusal_of_weeks)
  F_refusal_of_weeks : Fun K "refusal_of_weeks" "refusal_of_weeks" s_refusal_of_weeks t.f_refusal_of_weeks t.d_refusal_of_weeks
  B_refusal_of_weeks : Binds K t.d_refusal_of_weeks ["weeks", "bills"] []
  g_best_plan : mg "best_plan" = some (.ref t.f_best_plan)
  F_best_plan : Fun K "best_plan" "best_plan" s_best_plan t.f_best_plan t.d_best_plan
  B_best_plan : Binds K t.d_best_plan ["company", "weeks"] []
  g_plain_plan : mg "plain_plan" = some (.ref t.f_plain_plan)
  F_plain_plan : Fun K "plain_plan" "plain_plan" s_plain_plan t.f_plain_plan t.d_plain_plan
  B_plain_plan : Binds K t.d_plain_plan ["company", "weeks"] []
  g_plan_as_told : mg "plan_as_told" = some (.ref t.f_plan_as_told)
  F_plan_as_told : Fun K "plan_as_told" "plan_as_told" s_plan_as_told t.f_plan_as_told t.d_plan_as_told
  B_plan_as_told : Binds K t.d_plan_as_told ["company", "plan"] []
  g_check_plan : mg "check_plan" = some (.ref t.f_check_plan)
  F_check_plan : Fun K "check_plan" "check_plan" s_check_plan t.f_check_plan t.d_check_plan
  B_check_plan : Binds K t.d_check_plan ["company", "plan"] []
  g_put_into_fund : mg "put_into_fund" = some (.ref t.f_put_into_fund)
  F_put_into_fund : Fun K "put_into_fund" "put_into_fund" s_put_into_fund t.f_put_into_fund t.d_put_into_fund
  B_put_into_fund : Binds K t.d_put_into_fund ["company", "money"] []
  g_row_at : mg "row_at" = some (.ref t.f_row_at)
  F_row_at : Fun K "row_at" "row_at" s_row_at t.f_row_at t.d_row_at
  B_row_at : Binds K t.d_row_at ["call", "place"] []
  g_plan_in : mg "plan_in" = some (.ref t.f_plan_in)
  F_plan_in : Fun K "plan_in" "plan_in" s_plan_in t.f_plan_in t.d_plan_in
  B_plan_in : Binds K t.d_plan_in ["call"] []
  g_answer : mg "answer" = some (.ref t.f_answer)
  F_answer : Fun K "answer" "answer" s_answer t.f_answer t.d_answer
  B_answer : Binds K t.d_answer ["company", "call"] []
  g_answers : mg "answers" = some (.ref t.f_answers)
  F_answers : Fun K "answers" "answers" s_answers t.f_answers t.d_answers
  B_answers : Binds K t.d_answers ["calls"] []
end Ps
end
section
set_option Elab.async false
set_option linter.all false
set_option maxRecDepth 100000
set_option maxHeartbeats 2000000
namespace Ps
open PySem PySem.Spec PyProof.Rows L2
/-! values -/
def nV (n : Nat) : V := .int (n : Int)
def nats (l : List Nat) : List V := l.map nV
def refs (l : List Addr) : List V := l.map V.ref
theorem nats_ints (l : List Nat) : nats l = (l.map fun (n : Nat) => (n : Int)).map V.int := by
  unfold nats
  rw [List.map_map]
  rfl
theorem nats_len (l : List Nat) : (nats l).length = l.length := List.length_map ..
theorem nats_at {l : List Nat} {i n : Nat} (h : l[i]? = some n) : (nats l)[i]? = some (nV n) := by
  unfold nats
  rw [List.getElem?_map, h]
  rfl
theorem nats_of {l : List Nat} {i : Nat} {v : V} (h : (nats l)[i]? = some v) : ∃ n, l[i]? = some n ∧ v = nV n := by
  unfold nats at h
  rw [List.getElem?_map] at h
  cases e : l[i]? with
  | none => rw [e] at h; cases h
  | some n => rw [e] at h; exact ⟨n, rfl, (Option.some.inj h).symm⟩
theorem nats_snoc (l : List Nat) (n : Nat) : nats l ++ [nV n] = nats (l ++ [n]) := by unfold nats; rw [List.map_append]; rfl
theorem refs_len (l : List Addr) : (refs l).length = l.length := List.length_map ..
theorem refs_at {l : List Addr} {i : Nat} {a : Addr} (h : l[i]? = some a) : (refs l)[i]? = some (V.ref a) := by
  unfold refs
  rw [List.getElem?_map, h]
  rfl
theorem refs_of {l : List Addr} {i : Nat} {v : V} (h : (refs l)[i]? = some v) : ∃ a, l[i]? = some a ∧ v = V.ref a := by
  unfold refs at h
  rw [List.getElem?_map] at h
  cases e : l[i]? with
  | none => rw [e] at h; cases h
  | some n => rw [e] at h; exact ⟨n, rfl, (Option.some.inj h).symm⟩
theorem refs_snoc (l : List Addr) (a : Addr) : refs l ++ [V.ref a] = refs (l ++ [a]) := by unfold refs; rw [List.map_append]; rfl
abbrev Row (H : Hp) (a : Addr) (l : List Nat) : Prop := H a = some (.lst (nats l))
abbrev RowI (H : Hp) (a : Addr) (l : List Int) : Prop := H a = some (.lst (l.map V.int))
theorem Row.i {H : Hp} {a : Addr} {l : List Nat} (h : Row H a l) : RowI H a (l.map fun (n : Nat) => (n : Int)) := by
  show H a = _
  rw [← nats_ints]; exact h
/-! two lists, item by item -/
theorem pr_get {α β : Type} {R : α → β → Prop} : ∀ {xs : List α} {ys : List β} {i : Nat} {x : α}, Paired R xs ys → xs[i]? = some x → ∃ y, ys[i]? = some y ∧ R x y
  | _, _, _, _, .nil, h => by simp at h
  | _, _, 0, _, .cons r _, h => by
    have e := Option.some.inj h
    subst e
    exact ⟨_, rfl, r⟩
  | _, _, i + 1, x, .cons _ t, h => by
    obtain ⟨y, e, r⟩ := pr_get (i := i) (x := x) t h
    exact ⟨y, e, r⟩
theorem pr_got {α β : Type} {R : α → β → Prop} : ∀ {xs : List α} {ys : List β} {i : Nat} {y : β}, Paired R xs ys → ys[i]? = some y → ∃ x, xs[i]? = some x ∧ R x y
  | _, _, _, _, .nil, h => by simp at h
  | _, _, 0, _, .cons r _, h => by
    have e := Option.some.inj h
    subst e
    exact ⟨_, rfl, r⟩
  | _, _, i + 1, y, .cons _ t, h => by
    obtain ⟨x, e, r⟩ := pr_got (i := i) (y := y) t h
    exact ⟨x, e, r⟩
theorem pr_app {α β : Type} {R : α → β → Prop} : ∀ {xs xs' : List α} {ys ys' : List β}, Paired R xs ys → Paired R xs' ys' → Paired R (xs ++ xs') (ys ++ ys')
  | _, _, _, _, .nil, s => s
  | _, _, _, _, .cons r t, s => .cons r (pr_app t s)
theorem pr_snoc {α β : Type} {R : α → β → Prop} {xs : List α} {ys : List β} {x : α} {y : β} (h : Paired R xs ys) (r : R x y) : Paired R (xs ++ [x]) (ys ++ [y]) := pr_app h (.cons r .nil)
/-! fields -/
theorem lk_ne {f g : Str} {v : V} {r : List (Str × V)} (h : ¬ f = g) : List.lookup f ((g, v) :: r) = List.lookup f r := by
  have hb : (f == g) = false := beq_eq_false_iff_ne.mpr h
  simp only [List.lookup, hb]
theorem lk_eq {f : Str} {v : V} {r : List (Str × V)} : List.lookup f ((f, v) :: r) = some v := by
  have hb : (f == f) = true := beq_self_eq_true f
  simp only [List.lookup, hb]
theorem pf_ne {f g : Str} {v x : V} {r : List (Str × V)} (h : ¬ g = f) : putF f v ((g, x) :: r) = (g, x) :: putF f v r := by
  show (if g = f then (g, v) :: r else (g, x) :: putF f v r) = _
  rw [if_neg h]
theorem pf_eq {f : Str} {v x : V} {r : List (Str × V)} : putF f v ((f, x) :: r) = (f, v) :: r := by
  show (if f = f then (f, v) :: r else (f, x) :: putF f v r) = _
  rw [if_pos rfl]
def b01 (b : Bool) : Nat := if b = true then 1 else 0
def playF (p : Uw05.Play) (br : Addr) : List (Str × V) := [("setting", nV p.set), ("striking", nV p.strike), ("may_run", nV (b01 p.runs)), ("least", nV p.least), ("most", nV p.most), ("brings", .ref br)]
def compF (s : Uw08.Season) (ca pa qa : Addr) : List (Str × V) := [("costs", nV s.costs), ("fund_limit", nV s.company.most), ("wages", nV s.company.wages), ("crowds", .ref ca), ("fund", nV s.company.fund), ("plays", .ref pa), ("parts", .ref qa)]
def standF (g : Addr) (fund debt : Nat) (b q : Addr) : List (Str × V) := [("given", .ref g), ("fund", nV fund), ("debt", nV debt), ("bills", .ref b), ("payouts", .ref q)]
theorem playF_setting (p : Uw05.Play) (br : Addr) : (playF p br).lookup ("setting" : Str) = some (nV p.set) := lk_eq
theorem playF_striking (p : Uw05.Play) (br : Addr) : (playF p br).lookup ("striking" : Str) = some (nV p.strike) := (lk_ne (by decide +kernel)).trans (lk_eq)
theorem playF_may_run (p : Uw05.Play) (br : Addr) : (playF p br).lookup ("may_run" : Str) = some (nV (b01 p.runs)) := (lk_ne (by decide +kernel)).trans ((lk_ne (by decide +kernel)).trans (lk_eq))
theorem playF_least (p : Uw05.Play) (br : Addr) : (playF p br).lookup ("least" : Str) = some (nV p.least) := (lk_ne (by decide +kernel)).trans ((lk_ne (by decide +kernel)).trans ((lk_ne (by decide +kernel)).trans (lk_eq)))
theorem playF_most (p : Uw05.Play) (br : Addr) : (playF p br).lookup ("most" : Str) = some (nV p.most) := (lk_ne (by decide +kernel)).trans ((lk_ne (by decide +kernel)).trans ((lk_ne (by decide +kernel)).trans ((lk_ne (by decide +kernel)).trans (lk_eq))))
theorem playF_brings (p : Uw05.Play) (br : Addr) : (playF p br).lookup ("brings" : Str) = some (.ref br) := (lk_ne (by decide +kernel)).trans ((lk_ne (by decide +kernel)).trans ((lk_ne (by decide +kernel)).trans ((lk_ne (by decide +kernel)).trans ((lk_ne (by decide +kernel)).trans (lk_eq)))))
theorem compF_costs (s : Uw08.Season) (ca pa qa : Addr) : (compF s ca pa qa).lookup ("costs" : Str) = some (nV s.costs) := lk_eq
theorem compF_fund_limit (s : Uw08.Season) (ca pa qa : Addr) : (compF s ca pa qa).lookup ("fund_limit" : Str) = some (nV s.company.most) := (lk_ne (by decide +kernel)).trans (lk_eq)
theorem compF_wages (s : Uw08.Season) (ca pa qa : Addr) : (compF s ca pa qa).lookup ("wages" : Str) = some (nV s.company.wages) := (lk_ne (by decide +kernel)).trans ((lk_ne (by decide +kernel)).trans (lk_eq))
theorem compF_crowds (s : Uw08.Season) (ca pa qa : Addr) : (compF s ca pa qa).lookup ("crowds" : Str) = some (.ref ca) := (lk_ne (by decide +kernel)).trans ((lk_ne (by decide +kernel)).trans ((lk_ne (by decide +kernel)).trans (lk_eq)))
theorem compF_fund (s : Uw08.Season) (ca pa qa : Addr) : (compF s ca pa qa).lookup ("fund" : Str) = some (nV s.company.fund) := (lk_ne (by decide +kernel)).trans ((lk_ne (by decide +kernel)).trans ((lk_ne (by decide +kernel)).trans ((lk_ne (by decide +kernel)).trans (lk_eq))))
theorem compF_plays (s : Uw08.Season) (ca pa qa : Addr) : (compF s ca pa qa).lookup ("plays" : Str) = some (.ref pa) := (lk_ne (by decide +kernel)).trans ((lk_ne (by decide +kernel)).trans ((lk_ne (by decide +kernel)).trans ((lk_ne (by decide +kernel)).trans ((lk_ne (by decide +kernel)).trans (lk_eq)))))
theorem compF_parts (s : Uw08.Season) (ca pa qa : Addr) : (compF s ca pa qa).lookup ("parts" : Str) = some (.ref qa) := (lk_ne (by decide +kernel)).trans ((lk_ne (by decide +kernel)).trans ((lk_ne (by decide +kernel)).trans ((lk_ne (by decide +kernel)).trans ((lk_ne (by decide +kernel)).trans ((lk_ne (by decide +kernel)).trans (lk_eq))))))
theorem standF_given (g : Addr) (fund debt : Nat) (b q : Addr) : (standF g fund debt b q).lookup ("given" : Str) = some (.ref g) := lk_eq
theorem standF_fund (g : Addr) (fund debt : Nat) (b q : Addr) : (standF g fund debt b q).lookup ("fund" : Str) = some (nV fund) := (lk_ne (by decide +kernel)).trans (lk_eq)
theorem standF_debt (g : Addr) (fund debt : Nat) (b q : Addr) : (standF g fund debt b q).lookup ("debt" : Str) = some (nV debt) := (lk_ne (by decide +kernel)).trans ((lk_ne (by decide +kernel)).trans (lk_eq))
theorem standF_bills (g : Addr) (fund debt : Nat) (b q : Addr) : (standF g fund debt b q).lookup ("bills" : Str) = some (.ref b) := (lk_ne (by decide +kernel)).trans ((lk_ne (by decide +kernel)).trans ((lk_ne (by decide +kernel)).trans (lk_eq)))
theorem standF_payouts (g : Addr) (fund debt : Nat) (b q : Addr) : (standF g fund debt b q).lookup ("payouts" : Str) = some (.ref q) := (lk_ne (by decide +kernel)).trans ((lk_ne (by decide +kernel)).trans ((lk_ne (by decide +kernel)).trans ((lk_ne (by decide +kernel)).trans (lk_eq))))
/-! what stands where -/
structure PlayAt (t : Adr) (H : Hp) (pa qa x : Addr) (p : Uw05.Play) : Prop where
  ex : ∃ dx br, H x = some (.ins t.cPlay dx (playF p br)) ∧ Row H br p.brings ∧ br ≠ pa ∧ br ≠ qa
structure CompAt (t : Adr) (H : Hp) (a pa qa : Addr) (s : Uw08.Season) : Prop where
  ex : ∃ dx ca, H a = some (.ins t.cCompany dx (compF s ca pa qa)) ∧ Row H ca s.nights ∧ ca ≠ pa ∧ ca ≠ qa
  plays : ∃ as, H pa = some (.lst (refs as)) ∧ Paired (PlayAt t H pa qa) as s.plays
  parts : Row H qa (s.company.sharers.map fun x => x.parts)
  ne : pa ≠ qa
structure StandAt (t : Adr) (H : Hp) (s : Uw08.Season) (x : Addr) (p : Uw08.Plan) : Prop where
  ex : ∃ dx g b q bs, H x = some (.ins t.cStanding dx (standF g (co s p).fund (co s p).debt b q)) ∧ Row H g (givens s p) ∧ H b = some (.lst (refs bs)) ∧ Paired (Row H) bs p ∧ Row H q (pays s p)
def BillsAt (H : Hp) (a : Addr) (L : List (List Nat)) : Prop := ∃ bs, H a = some (.lst (refs bs)) ∧ Paired (Row H) bs L
def StandsAt (t : Adr) (H : Hp) (s : Uw08.Season) (a : Addr) (L : List Uw08.Plan) : Prop := ∃ xs, H a = some (.lst (refs xs)) ∧ Paired (StandAt t H s) xs L
theorem same_upd {H : Hp} {p : Addr} {o : HO} (h : H p = none) : Same H (upd H p o) := fun b u e => by
  rw [upd_ne (ne_of_none e h)]; exact e
section
variable {t : Adr} {H H' : Hp}
theorem PlayAt.same {pa qa x : Addr} {p : Uw05.Play} (S : Same H H') (h : PlayAt t H pa qa x p) : PlayAt t H' pa qa x p := by
  obtain ⟨dx, br, h1, h2, h3⟩ := h.ex
  exact ⟨dx, br, S _ _ h1, S _ _ h2, h3⟩
theorem CompAt.same {a pa qa : Addr} {s : Uw08.Season} (S : Same H H') (h : CompAt t H a pa qa s) : CompAt t H' a pa qa s := by
  obtain ⟨⟨dx, ca, h1, h2, h3⟩, ⟨as, h4, h5⟩, h6, h7⟩ := h
  exact ⟨⟨dx, ca, S _ _ h1, S _ _ h2, h3⟩, ⟨as, S _ _ h4, Paired.mapP h5 fun _ _ => PlayAt.same S⟩, S _ _ h6, h7⟩
theorem StandAt.same {s : Uw08.Season} {x : Addr} {p : Uw08.Plan} (S : Same H H') (h : StandAt t H s x p) : StandAt t H' s x p := by
  obtain ⟨dx, g, b, q, bs, h1, h2, h3, h4, h5⟩ := h.ex
  exact ⟨dx, g, b, q, bs, S _ _ h1, S _ _ h2, S _ _ h3, Paired.mapP h4 fun _ _ => S _ _, S _ _ h5⟩
theorem BillsAt.same {a : Addr} {L : List (List Nat)} (S : Same H H') (h : BillsAt H a L) : BillsAt H' a L := by
  obtain ⟨bs, h1, h2⟩ := h
  exact ⟨bs, S _ _ h1, Paired.mapP h2 fun _ _ => S _ _⟩
end
end Ps
end
section
set_option Elab.async false
set_option linter.all false
set_option maxRecDepth 100000
set_option maxHeartbeats 2000000
namespace Ps
open PySem PySem.Spec PyProof.Rows L2
theorem put_Play_1 (v0 : V) : putF "setting" v0 [] = ([("setting", v0)] : List (Str × V)) := rfl
theorem put_Play_2 (v0 v1 : V) : putF "striking" v1 ([("setting", v0)] : List (Str × V)) = ([("setting", v0), ("striking", v1)] : List (Str × V)) := by
  rw [pf_ne (f := "striking") (g := "setting") (by decide +kernel)]
  rfl
theorem put_Play_3 (v0 v1 v2 : V) : putF "may_run" v2 ([("setting", v0), ("striking", v1)] : List (Str × V)) = ([("setting", v0), ("striking", v1), ("may_run", v2)] : List (Str × V)) := by
  rw [pf_ne (f := "may_run") (g := "setting") (by decide +kernel), pf_ne (f := "may_run") (g := "striking") (by decide +kernel)]
  rfl
theorem put_Play_4 (v0 v1 v2 v3 : V) : putF "least" v3 ([("setting", v0), ("striking", v1), ("may_run", v2)] : List (Str × V)) = ([("setting", v0), ("striking", v1), ("may_run", v2), ("least", v3)] : List (Str × V)) := by
  rw [pf_ne (f := "least") (g := "setting") (by decide +kernel), pf_ne (f := "least") (g := "striking") (by decide +kernel), pf_ne (f := "least") (g := "may_run") (by decide +kernel)]
  rfl
theorem put_Play_5 (v0 v1 v2 v3 v4 : V) : putF "most" v4 ([("setting", v0), ("striking", v1), ("may_run", v2), ("least", v3)] : List (Str × V)) = ([("setting", v0), ("striking", v1), ("may_run", v2), ("least", v3), ("most", v4)] : List (Str × V)) := by
  rw [pf_ne (f := "most") (g := "setting") (by decide +kernel), pf_ne (f := "most") (g := "striking") (by decide +kernel), pf_ne (f := "most") (g := "may_run") (by decide +kernel), pf_ne (f := "most") (g := "least") (by decide +kernel)]
  rfl
theorem put_Play_6 (v0 v1 v2 v3 v4 v5 : V) : putF "brings" v5 ([("setting", v0), ("striking", v1), ("may_run", v2), ("least", v3), ("most", v4)] : List (Str × V)) = ([("setting", v0), ("striking", v1), ("may_run", v2), ("least", v3), ("most", v4), ("brings", v5)] : List (Str × V)) := by
  rw [pf_ne (f := "brings") (g := "setting") (by decide +kernel), pf_ne (f := "brings") (g := "striking") (by decide +kernel), pf_ne (f := "brings") (g := "may_run") (by decide +kernel), pf_ne (f := "brings") (g := "least") (by decide +kernel), pf_ne (f := "brings") (g := "most") (by decide +kernel)]
  rfl
theorem put_Standing_1 (v0 : V) : putF "given" v0 [] = ([("given", v0)] : List (Str × V)) := rfl
theorem put_Standing_2 (v0 v1 : V) : putF "fund" v1 ([("given", v0)] : List (Str × V)) = ([("given", v0), ("fund", v1)] : List (Str × V)) := by
  rw [pf_ne (f := "fund") (g := "given") (by decide +kernel)]
  rfl
theorem put_Standing_3 (v0 v1 v2 : V) : putF "debt" v2 ([("given", v0), ("fund", v1)] : List (Str × V)) = ([("given", v0), ("fund", v1), ("debt", v2)] : List (Str × V)) := by
  rw [pf_ne (f := "debt") (g := "given") (by decide +kernel), pf_ne (f := "debt") (g := "fund") (by decide +kernel)]
  rfl
theorem put_Standing_4 (v0 v1 v2 v3 : V) : putF "bills" v3 ([("given", v0), ("fund", v1), ("debt", v2)] : List (Str × V)) = ([("given", v0), ("fund", v1), ("debt", v2), ("bills", v3)] : List (Str × V)) := by
  rw [pf_ne (f := "bills") (g := "given") (by decide +kernel), pf_ne (f := "bills") (g := "fund") (by decide +kernel), pf_ne (f := "bills") (g := "debt") (by decide +kernel)]
  rfl
theorem put_Standing_5 (v0 v1 v2 v3 v4 : V) : putF "payouts" v4 ([("given", v0), ("fund", v1), ("debt", v2), ("bills", v3)] : List (Str × V)) = ([("given", v0), ("fund", v1), ("debt", v2), ("bills", v3), ("payouts", v4)] : List (Str × V)) := by
  rw [pf_ne (f := "payouts") (g := "given") (by decide +kernel), pf_ne (f := "payouts") (g := "fund") (by decide +kernel), pf_ne (f := "payouts") (g := "debt") (by decide +kernel), pf_ne (f := "payouts") (g := "bills") (by decide +kernel)]
  rfl
theorem put_Company_1 (v0 : V) : putF "costs" v0 [] = ([("costs", v0)] : List (Str × V)) := rfl
theorem put_Company_2 (v0 v1 : V) : putF "fund_limit" v1 ([("costs", v0)] : List (Str × V)) = ([("costs", v0), ("fund_limit", v1)] : List (Str × V)) := by
  rw [pf_ne (f := "fund_limit") (g := "costs") (by decide +kernel)]
  rfl
theorem put_Company_3 (v0 v1 v2 : V) : putF "wages" v2 ([("costs", v0), ("fund_limit", v1)] : List (Str × V)) = ([("costs", v0), ("fund_limit", v1), ("wages", v2)] : List (Str × V)) := by
  rw [pf_ne (f := "wages") (g := "costs") (by decide +kernel), pf_ne (f := "wages") (g := "fund_limit") (by decide +kernel)]
  rfl
theorem put_Company_4 (v0 v1 v2 v3 : V) : putF "crowds" v3 ([("costs", v0), ("fund_limit", v1), ("wages", v2)] : List (Str × V)) = ([("costs", v0), ("fund_limit", v1), ("wages", v2), ("crowds", v3)] : List (Str × V)) := by
  rw [pf_ne (f := "crowds") (g := "costs") (by decide +kernel), pf_ne (f := "crowds") (g := "fund_limit") (by decide +kernel), pf_ne (f := "crowds") (g := "wages") (by decide +kernel)]
  rfl
theorem put_Company_5 (v0 v1 v2 v3 v4 : V) : putF "fund" v4 ([("costs", v0), ("fund_limit", v1), ("wages", v2), ("crowds", v3)] : List (Str × V)) = ([("costs", v0), ("fund_limit", v1), ("wages", v2), ("crowds", v3), ("fund", v4)] : List (Str × V)) := by
  rw [pf_ne (f := "fund") (g := "costs") (by decide +kernel), pf_ne (f := "fund") (g := "fund_limit") (by decide +kernel), pf_ne (f := "fund") (g := "wages") (by decide +kernel), pf_ne (f := "fund") (g := "crowds") (by decide +kernel)]
  rfl
theorem put_Company_6 (v0 v1 v2 v3 v4 v5 : V) : putF "plays" v5 ([("costs", v0), ("fund_limit", v1), ("wages", v2), ("crowds", v3), ("fund", v4)] : List (Str × V)) = ([("costs", v0), ("fund_limit", v1), ("wages", v2), ("crowds", v3), ("fund", v4), ("plays", v5)] : List (Str × V)) := by
  rw [pf_ne (f := "plays") (g := "costs") (by decide +kernel), pf_ne (f := "plays") (g := "fund_limit") (by decide +kernel), pf_ne (f := "plays") (g := "wages") (by decide +kernel), pf_ne (f := "plays") (g := "crowds") (by decide +kernel), pf_ne (f := "plays") (g := "fund") (by decide +kernel)]
  rfl
theorem put_Company_7 (v0 v1 v2 v3 v4 v5 v6 : V) : putF "parts" v6 ([("costs", v0), ("fund_limit", v1), ("wages", v2), ("crowds", v3), ("fund", v4), ("plays", v5)] : List (Str × V)) = ([("costs", v0), ("fund_limit", v1), ("wages", v2), ("crowds", v3), ("fund", v4), ("plays", v5), ("parts", v6)] : List (Str × V)) := by
  rw [pf_ne (f := "parts") (g := "costs") (by decide +kernel), pf_ne (f := "parts") (g := "fund_limit") (by decide +kernel), pf_ne (f := "parts") (g := "wages") (by decide +kernel), pf_ne (f := "parts") (g := "crowds") (by decide +kernel), pf_ne (f := "parts") (g := "fund") (by decide +kernel), pf_ne (f := "parts") (g := "plays") (by decide +kernel)]
  rfl
theorem set_Company_costs (v0 v1 v2 v3 v4 v5 v6 y : V) : putF "costs" y ([("costs", v0), ("fund_limit", v1), ("wages", v2), ("crowds", v3), ("fund", v4), ("plays", v5), ("parts", v6)] : List (Str × V)) = ([("costs", y), ("fund_limit", v1), ("wages", v2), ("crowds", v3), ("fund", v4), ("plays", v5), ("parts", v6)] : List (Str × V)) := by
  rw [pf_eq]
theorem set_Company_fund_limit (v0 v1 v2 v3 v4 v5 v6 y : V) : putF "fund_limit" y ([("costs", v0), ("fund_limit", v1), ("wages", v2), ("crowds", v3), ("fund", v4), ("plays", v5), ("parts", v6)] : List (Str × V)) = ([("costs", v0), ("fund_limit", y), ("wages", v2), ("crowds", v3), ("fund", v4), ("plays", v5), ("parts", v6)] : List (Str × V)) := by
  rw [pf_ne (f := "fund_limit") (g := "costs") (by decide +kernel), pf_eq]
theorem set_Company_wages (v0 v1 v2 v3 v4 v5 v6 y : V) : putF "wages" y ([("costs", v0), ("fund_limit", v1), ("wages", v2), ("crowds", v3), ("fund", v4), ("plays", v5), ("parts", v6)] : List (Str × V)) = ([("costs", v0), ("fund_limit", v1), ("wages", y), ("crowds", v3), ("fund", v4), ("plays", v5), ("parts", v6)] : List (Str × V)) := by
  rw [pf_ne (f := "wages") (g := "costs") (by decide +kernel), pf_ne (f := "wages") (g := "fund_limit") (by decide +kernel), pf_eq]
theorem set_Company_crowds (v0 v1 v2 v3 v4 v5 v6 y : V) : putF "crowds" y ([("costs", v0), ("fund_limit", v1), ("wages", v2), ("crowds", v3), ("fund", v4), ("plays", v5), ("parts", v6)] : List (Str × V)) = ([("costs", v0), ("fund_limit", v1), ("wages", v2), ("crowds", y), ("fund", v4), ("plays", v5), ("parts", v6)] : List (Str × V)) := by
  rw [pf_ne (f := "crowds") (g := "costs") (by decide +kernel), pf_ne (f := "crowds") (g := "fund_limit") (by decide +kernel), pf_ne (f := "crowds") (g := "wages") (by decide +kernel), pf_eq]
theorem set_Company_fund (v0 v1 v2 v3 v4 v5 v6 y : V) : putF "fund" y ([("costs", v0), ("fund_limit", v1), ("wages", v2), ("crowds", v3), ("fund", v4), ("plays", v5), ("parts", v6)] : List (Str × V)) = ([("costs", v0), ("fund_limit", v1), ("wages", v2), ("crowds", v3), ("fund", y), ("plays", v5), ("parts", v6)] : List (Str × V)) := by
  rw [pf_ne (f := "fund") (g := "costs") (by decide +kernel), pf_ne (f := "fund") (g := "fund_limit") (by decide +kernel), pf_ne (f := "fund") (g := "wages") (by decide +kernel), pf_ne (f := "fund") (g := "crowds") (by decide +kernel), pf_eq]
theorem set_Company_plays (v0 v1 v2 v3 v4 v5 v6 y : V) : putF "plays" y ([("costs", v0), ("fund_limit", v1), ("wages", v2), ("crowds", v3), ("fund", v4), ("plays", v5), ("parts", v6)] : List (Str × V)) = ([("costs", v0), ("fund_limit", v1), ("wages", v2), ("crowds", v3), ("fund", v4), ("plays", y), ("parts", v6)] : List (Str × V)) := by
  rw [pf_ne (f := "plays") (g := "costs") (by decide +kernel), pf_ne (f := "plays") (g := "fund_limit") (by decide +kernel), pf_ne (f := "plays") (g := "wages") (by decide +kernel), pf_ne (f := "plays") (g := "crowds") (by decide +kernel), pf_ne (f := "plays") (g := "fund") (by decide +kernel), pf_eq]
theorem set_Company_parts (v0 v1 v2 v3 v4 v5 v6 y : V) : putF "parts" y ([("costs", v0), ("fund_limit", v1), ("wages", v2), ("crowds", v3), ("fund", v4), ("plays", v5), ("parts", v6)] : List (Str × V)) = ([("costs", v0), ("fund_limit", v1), ("wages", v2), ("crowds", v3), ("fund", v4), ("plays", v5), ("parts", y)] : List (Str × V)) := by
  rw [pf_ne (f := "parts") (g := "costs") (by decide +kernel), pf_ne (f := "parts") (g := "fund_limit") (by decide +kernel), pf_ne (f := "parts") (g := "wages") (by decide +kernel), pf_ne (f := "parts") (g := "crowds") (by decide +kernel), pf_ne (f := "parts") (g := "fund") (by decide +kernel), pf_ne (f := "parts") (g := "plays") (by decide +kernel), pf_eq]
section
variable {P : Program} {w : World} {K : PySem.W.Frag} {mg : Str → Option Value} {base : Heap} {t : Adr}
/-! with_length -/
inductive QSpWithLength (vs : List V) (H : Hp) (Q : VK) : Prop
  | mk (a : Addr) (l : List Int) (h1 : vs = [.ref a]) (h2 : RowI H a l) (h3 : l.length ≤ 1000000) (q : ∀ (H' : Hp) (r : Addr), Same H H' → RowI H' r ((l.length : Int) :: l) → H r = none → Q (.ref r) H') : QSpWithLength vs H Q
def spWithLength : Sp := fun vs H Q _ => QSpWithLength vs H Q
theorem sc_with_length : FnScope ["row"] ["row"] (defScope s_with_length) := ⟨rfl, rfl, rfl, by decide +kernel, rfl, by decide +kernel, by decide +kernel⟩
theorem ok_with_length (T : Txt K mg t) : FnOk P w K mg base CX0 1 t.f_with_length t.d_with_length ["row"] spWithLength := by
  refine T.F_with_length.ok sc_with_length (fun vs H Q E h => ?_) (fun cdv A outer s H vs Q E hr h => ?_)
  · obtain ⟨a, l, rfl, _⟩ := h
    rfl
  · obtain ⟨a, l, rfl, ha, hl, k⟩ := h
    refine ⟨_, pss_one (ps_ret (pe_op op_cat (pe_lst (pa_cons (pe_callB call_len_seq (by rfl) T.b_len PySem.boot_len (pa_cons (pv 0) pa_nil)) pa_nil)) (pv 0))), ?_⟩
    refine ⟨_, rfl, a, _, rfl, .inl (SqL.of ha), (by show 1 ≤ sizeLine; decide), fun p hp => ?_⟩
    refine ⟨_, rfl, p, a, _, _, rfl, rfl, upd_same, same_upd hp _ _ ha, ?_, fun r hr' => ?_⟩
    · show 1 + _ ≤ sizeLine
      rw [List.length_map]
      have : sizeLine = 16777216 := sizeLine_eq
      omega
    · have S1 := same_upd (o := .lst [V.int ((l.map V.int).length : Nat)]) hp
      refine k _ r (S1.trans (same_upd hr')) ?_ (S1.free hr')
      show upd _ r _ r = _
      rw [upd_same, List.length_map]
      rfl
/-! row_at -/
inductive QSpRowAt (K : PySem.W.Frag) (vs : List V) (H : Hp) (Q : VK) : Prop
  | mk (a : Addr) (pre c post : List Int) (h1 : vs = [.ref a, .int (pre.length : Int)]) (h2 : SqL K H a ((pre ++ (c.length : Int) :: (c ++ post)).map V.int)) (q : ∀ (H' : Hp) (r : Addr), Same H H' → RowI H' r c → H r = none → Q (.ref r) H') : QSpRowAt K vs H Q
def spRowAt (K : PySem.W.Frag) : Sp := fun vs H Q _ => QSpRowAt K vs H Q
theorem cut_mid (pre c post : List Int) : cutV ((pre ++ (c.length : Int) :: (c ++ post)).map V.int) (some ((pre.length : Int) + 1)) (some ((pre.length : Int) + 1 + (c.length : Int))) = c.map V.int := by
  unfold cutV
  have e1 : ((pre.length : Int) + 1) = ((pre.length + 1 : Nat) : Int) := by omega
  have e2 : ((pre.length : Int) + 1 + (c.length : Int)) = ((pre.length + 1 + c.length : Nat) : Int) := by omega
  have e3 : ((pre ++ (c.length : Int) :: (c ++ post)).map V.int).length = pre.length + 1 + c.length + post.length := by
    rw [List.length_map, List.length_append, List.length_cons, List.length_append]; omega
  rw [e2, e1, HT.sIx_nat, HT.sIx_nat, e3, Nat.min_eq_left (by omega), Nat.min_eq_left (by omega), ← List.map_drop, ← List.map_take]
  congr 1
  have e4 : (pre ++ (c.length : Int) :: (c ++ post)).drop (pre.length + 1) = c ++ post := by
    rw [← List.drop_drop, List.drop_left]; rfl
  rw [e4]
  have e5 : pre.length + 1 + c.length - (pre.length + 1) = c.length := by omega
  rw [e5, List.take_left]
theorem sc_row_at : FnScope ["call", "place"] ["call", "place"] (defScope s_row_at) := ⟨rfl, rfl, rfl, by decide +kernel, rfl, by decide +kernel, by decide +kernel⟩
theorem ok_row_at (T : Txt K mg t) : FnOk P w K mg base CX0 1 t.f_row_at t.d_row_at ["call", "place"] (spRowAt K) := by
  refine T.F_row_at.ok sc_row_at (fun vs H Q E h => ?_) (fun cdv A outer s H vs Q E hr h => ?_)
  · obtain ⟨a, pre, c, post, rfl, _⟩ := h
    rfl
  · obtain ⟨a, pre, c, post, rfl, ha, k⟩ := h
    refine ⟨_, pss_one (ps_ret (pe_slice sl_list (pv 0) (po_some (pe_op op_add (pv 1) pe_int)) (po_some (pe_op op_add (pe_op op_add (pv 1) pe_int) (pe_ix ix_list (pv 0) (pv 1) (fun _ _ => rfl)))))), ?_⟩
    have hat : ((pre ++ (c.length : Int) :: (c ++ post)).map V.int)[pre.length]? = some (V.int (c.length : Int)) := by
      rw [List.getElem?_map, List.getElem?_append_right (Nat.le_refl _), Nat.sub_self]; rfl
    refine ⟨_, rfl, _, rfl, _, _, rfl, rfl, _, rfl, _, rfl, _, _, rfl, rfl, _, rfl, _, rfl, _, _, _, _, rfl, rfl, ha, at_of rfl hat, _, _, rfl, rfl, _, rfl, _, _, rfl, ha, fun r hr' => ?_⟩
    refine k _ r (same_upd hr') ?_ hr'
    show upd _ r _ r = _
    rw [upd_same, cut_mid]
/-! the classes -/
inductive QSpPlay (t : Adr) (vs : List V) (H : Hp) (Q : VK) : Prop
  | mk (x dx br : Addr) (p : Uw05.Play) (h1 : vs = [.ref x, nV p.set, nV p.strike, nV (b01 p.runs), nV p.least, nV p.most, .ref br]) (h2 : H x = some (.ins t.cPlay dx [])) (q : ∀ H' : Hp, H' x = some (.ins t.cPlay dx (playF p br)) → (∀ b o, H b = some o → b ≠ x → H' b = some o) → Q .non H') : QSpPlay t vs H Q
def spPlay (t : Adr) : Sp := fun vs H Q _ => QSpPlay t vs H Q
theorem sc_Play : FnScope ["self", "setting", "striking", "may_run", "least", "most", "brings"] ["self", "setting", "striking", "may_run", "least", "most", "brings"] (defScope sPlayInit) := ⟨rfl, rfl, rfl, by decide +kernel, rfl, by decide +kernel, by decide +kernel⟩
theorem ok_Play (T : Txt K mg t) : FnOk P w K mg base CX0 1 t.iPlay t.dPlay ["self", "setting", "striking", "may_run", "least", "most", "brings"] (spPlay t) := by
  refine T.FPlay.ok sc_Play (fun vs H Q E h => ?_) (fun cdv A outer s H vs Q E hr h => ?_)
  · obtain ⟨x, dx, br, p, rfl, _⟩ := h
    rfl
  · obtain ⟨x, dx, br, p, rfl, hx, k⟩ := h
    refine ⟨_, pss_cons (ps_fld (pv 0) (pv 1) rfl) (pss_cons (ps_fld (pv 0) (pv 2) rfl) (pss_cons (ps_fld (pv 0) (pv 3) rfl) (pss_cons (ps_fld (pv 0) (pv 4) rfl) (pss_cons (ps_fld (pv 0) (pv 5) rfl) (pss_one (ps_fld (pv 0) (pv 6) rfl)))))), ?_⟩
    refine ⟨_, rfl, _, rfl, x, t.cPlay, dx, _, rfl, hx, T.clPlay, T.nPlay_setting, (by show 0 < 1000; decide), ?_⟩
    rw [put_Play_1]
    refine ⟨_, rfl, _, rfl, x, t.cPlay, dx, _, rfl, upd_same, T.clPlay, T.nPlay_striking, (by show 1 < 1000; decide), ?_⟩
    rw [put_Play_2, upd_upd]
    refine ⟨_, rfl, _, rfl, x, t.cPlay, dx, _, rfl, upd_same, T.clPlay, T.nPlay_may_run, (by show 2 < 1000; decide), ?_⟩
    rw [put_Play_3, upd_upd]
    refine ⟨_, rfl, _, rfl, x, t.cPlay, dx, _, rfl, upd_same, T.clPlay, T.nPlay_least, (by show 3 < 1000; decide), ?_⟩
    rw [put_Play_4, upd_upd]
    refine ⟨_, rfl, _, rfl, x, t.cPlay, dx, _, rfl, upd_same, T.clPlay, T.nPlay_most, (by show 4 < 1000; decide), ?_⟩
    rw [put_Play_5, upd_upd]
    refine ⟨_, rfl, _, rfl, x, t.cPlay, dx, _, rfl, upd_same, T.clPlay, T.nPlay_brings, (by show 5 < 1000; decide), ?_⟩
    rw [put_Play_6, upd_upd]
    exact k _ upd_same fun b o e hb => by rw [upd_ne hb]; exact e
/-! Standing -/
inductive QSpStanding (t : Adr) (vs : List V) (H : Hp) (Q : VK) : Prop
  | mk (x dx g b q : Addr) (fund debt : Nat) (h1 : vs = [.ref x, .ref g, nV fund, nV debt, .ref b, .ref q]) (h2 : H x = some (.ins t.cStanding dx [])) (q : ∀ H' : Hp, H' x = some (.ins t.cStanding dx (standF g fund debt b q)) → (∀ b o, H b = some o → b ≠ x → H' b = some o) → Q .non H') : QSpStanding t vs H Q
def spStanding (t : Adr) : Sp := fun vs H Q _ => QSpStanding t vs H Q
theorem sc_Standing : FnScope ["self", "given", "fund", "debt", "bills", "payouts"] ["self", "given", "fund", "debt", "bills", "payouts"] (defScope sStandingInit) := ⟨rfl, rfl, rfl, by decide +kernel, rfl, by decide +kernel, by decide +kernel⟩
theorem ok_Standing (T : Txt K mg t) : FnOk P w K mg base CX0 1 t.iStanding t.dStanding ["self", "given", "fund", "debt", "bills", "payouts"] (spStanding t) := by
  refine T.FStanding.ok sc_Standing (fun vs H Q E h => ?_) (fun cdv A outer s H vs Q E hr h => ?_)
  · obtain ⟨x, dx, g, b, q, fund, debt, rfl, _⟩ := h
    rfl
  · obtain ⟨x, dx, g, b, q, fund, debt, rfl, hx, k⟩ := h
    refine ⟨_, pss_cons (ps_fld (pv 0) (pv 1) rfl) (pss_cons (ps_fld (pv 0) (pv 2) rfl) (pss_cons (ps_fld (pv 0) (pv 3) rfl) (pss_cons (ps_fld (pv 0) (pv 4) rfl) (pss_one (ps_fld (pv 0) (pv 5) rfl))))), ?_⟩
    refine ⟨_, rfl, _, rfl, x, t.cStanding, dx, _, rfl, hx, T.clStanding, T.nStanding_given, (by show 0 < 1000; decide), ?_⟩
    rw [put_Standing_1]
    refine ⟨_, rfl, _, rfl, x, t.cStanding, dx, _, rfl, upd_same, T.clStanding, T.nStanding_fund, (by show 1 < 1000; decide), ?_⟩
    rw [put_Standing_2, upd_upd]
    refine ⟨_, rfl, _, rfl, x, t.cStanding, dx, _, rfl, upd_same, T.clStanding, T.nStanding_debt, (by show 2 < 1000; decide), ?_⟩
    rw [put_Standing_3, upd_upd]
    refine ⟨_, rfl, _, rfl, x, t.cStanding, dx, _, rfl, upd_same, T.clStanding, T.nStanding_bills, (by show 3 < 1000; decide), ?_⟩
    rw [put_Standing_4, upd_upd]
    refine ⟨_, rfl, _, rfl, x, t.cStanding, dx, _, rfl, upd_same, T.clStanding, T.nStanding_payouts, (by show 4 < 1000; decide), ?_⟩
    rw [put_Standing_5, upd_upd]
    exact k _ upd_same fun b o e hb => by rw [upd_ne hb]; exact e
/-! Company -/
inductive QSpCompany (t : Adr) (vs : List V) (H : Hp) (Q : VK) : Prop
  | mk (x dx : Addr) (h1 : vs = [.ref x]) (h2 : H x = some (.ins t.cCompany dx [])) (q : ∀ (H' : Hp) (pa qa : Addr), CompAt t H' x pa qa Uw08.init → H pa = none → H qa = none → (∀ b o, H b = some o → b ≠ x → H' b = some o) → Q .non H') : QSpCompany t vs H Q
def spCompany (t : Adr) : Sp := fun vs H Q _ => QSpCompany t vs H Q
theorem sc_Company : FnScope ["self"] ["self"] (defScope sCompanyInit) := ⟨rfl, rfl, rfl, by decide +kernel, rfl, by decide +kernel, by decide +kernel⟩
theorem ok_Company (T : Txt K mg t) : FnOk P w K mg base CX0 1 t.iCompany t.dCompany ["self"] (spCompany t) := by
  refine T.FCompany.ok sc_Company (fun vs H Q E h => ?_) (fun cdv A outer s H vs Q E hr h => ?_)
  · obtain ⟨x, dx, rfl, _⟩ := h
    rfl
  · obtain ⟨x, dx, rfl, hx, k⟩ := h
    refine ⟨_, pss_cons (ps_fld (pv 0) pe_int rfl) (pss_cons (ps_fld (pv 0) pe_int rfl) (pss_cons (ps_fld (pv 0) pe_int rfl) (pss_cons (ps_fld (pv 0) (pe_lst pa_nil) rfl) (pss_cons (ps_fld (pv 0) pe_int rfl) (pss_cons (ps_fld (pv 0) (pe_lst pa_nil) rfl) (pss_one (ps_fld (pv 0) (pe_lst pa_nil) rfl))))))), ?_⟩
    refine ⟨_, rfl, x, t.cCompany, dx, _, rfl, hx, T.clCompany, T.nCompany_costs, (by show 0 < 1000; decide), ?_⟩
    rw [put_Company_1]
    refine ⟨_, rfl, x, t.cCompany, dx, _, rfl, upd_same, T.clCompany, T.nCompany_fund_limit, (by show 1 < 1000; decide), ?_⟩
    rw [put_Company_2, upd_upd]
    refine ⟨_, rfl, x, t.cCompany, dx, _, rfl, upd_same, T.clCompany, T.nCompany_wages, (by show 2 < 1000; decide), ?_⟩
    rw [put_Company_3, upd_upd]
    refine ⟨Nat.zero_le _, fun ca hca => ?_⟩
    refine ⟨_, rfl, x, t.cCompany, dx, _, rfl, same_upd hca _ _ upd_same, T.clCompany, T.nCompany_crowds, (by show 3 < 1000; decide), ?_⟩
    rw [put_Company_4]
    refine ⟨_, rfl, x, t.cCompany, dx, _, rfl, upd_same, T.clCompany, T.nCompany_fund, (by show 4 < 1000; decide), ?_⟩
    rw [put_Company_5, upd_upd]
    refine ⟨Nat.zero_le _, fun pa hpa => ?_⟩
    refine ⟨_, rfl, x, t.cCompany, dx, _, rfl, same_upd hpa _ _ upd_same, T.clCompany, T.nCompany_plays, (by show 5 < 1000; decide), ?_⟩
    rw [put_Company_6]
    refine ⟨Nat.zero_le _, fun qa hqa => ?_⟩
    refine ⟨_, rfl, x, t.cCompany, dx, _, rfl, same_upd hqa _ _ upd_same, T.clCompany, T.nCompany_parts, (by show 6 < 1000; decide), ?_⟩
    rw [put_Company_7]
    have xca : x ≠ ca := fun z => by subst z; rw [upd_same] at hca; cases hca
    have xpa : x ≠ pa := fun z => by subst z; rw [upd_same] at hpa; cases hpa
    have xqa : x ≠ qa := fun z => by subst z; rw [upd_same] at hqa; cases hqa
    have hca0 : H ca = none := by rw [upd_ne xca.symm] at hca; exact hca
    have cpa : ca ≠ pa := fun z => by subst z; rw [upd_ne xca.symm, upd_same] at hpa; cases hpa
    have hpa0 : H pa = none := by rw [upd_ne xpa.symm, upd_ne cpa.symm, upd_ne xpa.symm] at hpa; exact hpa
    have pqa : pa ≠ qa := fun z => by subst z; rw [upd_ne xpa.symm, upd_same] at hqa; cases hqa
    have cqa : ca ≠ qa := fun z => by subst z; rw [upd_ne xca.symm, upd_ne cpa, upd_ne xca.symm, upd_same] at hqa; cases hqa
    have hqa0 : H qa = none := by rw [upd_ne xqa.symm, upd_ne pqa.symm, upd_ne xqa.symm, upd_ne cqa.symm, upd_ne xqa.symm] at hqa; exact hqa
    refine k _ pa qa ⟨⟨dx, ca, upd_same, ?_, cpa, cqa⟩, ⟨[], ?_, .nil⟩, ?_, pqa⟩ hpa0 hqa0 fun b o e hb => ?_
    · show upd _ _ _ ca = _
      rw [upd_ne xca.symm, upd_ne cqa, upd_ne xca.symm, upd_ne cpa, upd_ne xca.symm, upd_same]
      rfl
    · rw [upd_ne xpa.symm, upd_ne pqa, upd_ne xpa.symm, upd_same]
      rfl
    · show upd _ _ _ qa = _
      rw [upd_ne xqa.symm, upd_same]
      rfl
    · rw [upd_ne hb, upd_ne (ne_of_none e hqa0), upd_ne hb, upd_ne (ne_of_none e hpa0), upd_ne hb, upd_ne (ne_of_none e hca0), upd_ne hb]
      exact e
end
end Ps
end
section
set_option Elab.async false
set_option linter.all false
set_option maxRecDepth 100000
set_option maxHeartbeats 2000000
namespace Ps
open PySem PySem.Spec PyProof.Rows L2
theorem bad_zero {ps : List Uw05.Play} {l : List Nat} {i : Nat} (h : l[i]? = some 0) : badAt ps l i = false := by
  unfold badAt
  have e : l.getD i 0 = 0 := by rw [List.getD_eq_getElem?_getD, h]; rfl
  rw [e]
  simp
theorem bad_lit {ps : List Uw05.Play} {l : List Nat} {i k k' : Nat} {p : Uw05.Play} (h : l[i + 1]? = some k) (h' : l[i]? = some k') (hk : 0 < k) (hp : ps[k - 1]? = some p) : badAt ps l (i + 1) = (decide (k' = k) && !p.runs) := by
  unfold badAt
  have e : l.getD (i + 1) 0 = k := by rw [List.getD_eq_getElem?_getD, h]; rfl
  have e' : l.getD (i + 1 - 1) 0 = k' := by rw [List.getD_eq_getElem?_getD, Nat.add_sub_cancel, h']; rfl
  rw [e, e', play_at hk hp, decide_eq_true (show 0 < i + 1 by omega), Bool.true_and]
  have e2 : (k != 0) = true := by simp; omega
  rw [e2, Bool.true_and, Bool.beq_eq_decide_eq]
  rfl
theorem count_times (l : List Nat) (k : Nat) : (l.map fun (n : Nat) => (n : Int)).countP (fun n => decide (n = ((k : Nat) : Int))) = Uw05.times l k := by
  rw [times_count, List.countP_map]
  congr 1
  funext x
  show decide ((x : Int) = (k : Int)) = decide (x = k)
  by_cases h : x = k
  · rw [decide_eq_true h, decide_eq_true (by rw [h])]
  · rw [decide_eq_false h, decide_eq_false (fun z => h (by omega))]
def wrongRow : Option (Nat × Nat) → List Nat
  | none => []
  | some x => [x.1, x.2]
theorem nV_of {z : Int} {n : Nat} (h : z = (n : Int)) : V.int z = nV n := by rw [h]; rfl
theorem suc_int (i : Nat) : (1 : Int) + (i : Int) = ((i + 1 : Nat) : Int) := by omega
theorem zero_int (i : Nat) : (0 : Int) + (i : Int) = ((i : Nat) : Int) := by omega
section
variable {P : Program} {w : World} {K : PySem.W.Frag} {mg : Str → Option Value} {base : Heap} {t : Adr}
/-! wrong_with -/
structure PlaysAt (t : Adr) (H : Hp) (pa : Addr) (ps : List Uw05.Play) : Prop where
  ex : ∃ qa as, H pa = some (.lst (refs as)) ∧ Paired (PlayAt t H pa qa) as ps
theorem CompAt.playsAt {H : Hp} {a pa qa : Addr} {s : Uw08.Season} (h : CompAt t H a pa qa s) : PlaysAt t H pa s.plays := by
  obtain ⟨as, h1, h2⟩ := h.plays
  exact ⟨qa, as, h1, h2⟩
theorem PlaysAt.len {H : Hp} {pa : Addr} {ps : List Uw05.Play} (h : PlaysAt t H pa ps) : ∃ xs, H pa = some (.lst xs) ∧ xs.length = ps.length := by
  obtain ⟨qa, as, h1, h2⟩ := h.ex
  exact ⟨_, h1, by rw [refs_len]; exact Paired.length h2⟩
theorem PlaysAt.at_ {H : Hp} {pa : Addr} {ps : List Uw05.Play} (h : PlaysAt t H pa ps) {k : Nat} {p : Uw05.Play} (hp : ps[k]? = some p) : ∃ xs x dx br, H pa = some (.lst xs) ∧ xs[k]? = some (V.ref x) ∧ H x = some (.ins t.cPlay dx (playF p br)) ∧ Row H br p.brings := by
  obtain ⟨qa, as, h1, h2⟩ := h.ex
  obtain ⟨x, hx, X⟩ := pr_got h2 hp
  obtain ⟨dx, br, e1, e2, _⟩ := X.ex
  exact ⟨_, x, dx, br, h1, refs_at hx, e1, e2⟩
inductive QSpWrong (t : Adr) (vs : List V) (H : Hp) (Q : VK) : Prop
  | mk (pa b : Addr) (ps : List Uw05.Play) (l : List Nat) (h1 : vs = [.ref pa, .ref b]) (h2 : PlaysAt t H pa ps) (h3 : Row H b l) (h4 : (∀ k ∈ l, k ≤ ps.length)) (h5 : l.length ≤ 1000) (h6 : ps.length ≤ 1000) (q : ∀ (H' : Hp) (r : Addr), Same H H' → Row H' r (wrongRow (wrongB ps l)) → H r = none → Q (.ref r) H') : QSpWrong t vs H Q
def spWrong (t : Adr) : Sp := fun vs H Q _ => QSpWrong t vs H Q
theorem sc_wrong : FnScope ["plays", "bill", "night", "number", "times"] ["plays", "bill"] (defScope s_wrong_with) := ⟨rfl, rfl, rfl, by decide +kernel, rfl, by decide +kernel, by decide +kernel⟩
theorem ok_wrong_with (T : Txt K mg t) : FnOk P w K mg base CX0 1 t.f_wrong_with t.d_wrong_with ["plays", "bill"] (spWrong t) := by
  refine T.F_wrong_with.ok sc_wrong (fun vs H Q E h => ?_) (fun cdv A outer s H vs Q E hr h => ?_)
  · obtain ⟨pa, b, ps, l, rfl, _⟩ := h
    rfl
  · obtain ⟨pa, b, ps, l, rfl, hP, hb, hk, hl, hp, k⟩ := h
    obtain ⟨t1, k1⟩ := T.k_RUNS_THOUGH_IT_MAY_NOT
    obtain ⟨t2, k2⟩ := T.k_TOO_SELDOM
    obtain ⟨t3, k3⟩ := T.k_TOO_OFTEN
    refine ⟨_, pss_cons (ps_for PassesOwn.never rfl (pi_range2 rfl T.b_range (pa_cons pe_int (pa_cons (pe_callB call_len_seq (by rfl) T.b_len PySem.boot_len (pa_cons (pv 1) pa_nil)) pa_nil))) (pg_name (i := 2) sc_wrong.nd rfl (Or.inl rfl))
        (pss_cons (ps_set (i := 3) sc_wrong.nd rfl (Or.inl rfl) (pe_ix ix_list (pv 1) (pv 2) (fun _ _ => rfl)))
        (pss_one (ps_if (PW.pt (pw_and (pt_cmp (pc_gt (pv 3) pe_int)) (pw_and (pt_cmp (pc_eqI (pv 3) (pe_ix ix_list (pv 1) (pe_op op_sub (pv 2) pe_int) (fun _ _ => rfl)))) (pw_and1 (pt_cmp (pc_eqI (pe_fld (pe_ix ix_list (pv 0) (pe_op op_sub (pv 3) pe_int) (fun _ _ => rfl)) rfl) pe_int))))))
          (pss_one (ps_ret (pe_lst (pa_cons (pe_glob (v := .int 1) rfl k1 ⟨t1, rfl⟩) (pa_cons (pv 2) pa_nil))))) pss_nil))))
      (pss_cons (ps_for PassesOwn.never rfl (pi_range2 rfl T.b_range (pa_cons pe_int (pa_cons (pe_op op_add (pe_callB call_len_seq (by rfl) T.b_len PySem.boot_len (pa_cons (pv 0) pa_nil)) pe_int) pa_nil))) (pg_name (i := 3) sc_wrong.nd rfl (Or.inl rfl))
        (pss_cons (ps_set (i := 4) sc_wrong.nd rfl (Or.inl rfl) (pe_bm PySem.F.plainAttrs_list PySem.F.slot_list_count PySem.F.type_list_count mt_countI (pv 1) (pa_cons (pv 3) pa_nil)))
        (pss_cons (ps_if (pt_cmp (pc_lt (pv 4) (pe_fld (pe_ix ix_list (pv 0) (pe_op op_sub (pv 3) pe_int) (fun _ _ => rfl)) rfl)))
          (pss_one (ps_ret (pe_lst (pa_cons (pe_glob (v := .int 2) rfl k2 ⟨t2, rfl⟩) (pa_cons (pv 3) pa_nil))))) pss_nil)
        (pss_one (ps_if (pt_cmp (pc_gt (pv 4) (pe_fld (pe_ix ix_list (pv 0) (pe_op op_sub (pv 3) pe_int) (fun _ _ => rfl)) rfl)))
          (pss_one (ps_ret (pe_lst (pa_cons (pe_glob (v := .int 3) rfl k3 ⟨t3, rfl⟩) (pa_cons (pv 3) pa_nil))))) pss_nil)))))
      (pss_one (ps_ret (pe_lst pa_nil)))), ?_⟩
    have hn : (((nats l).length : Int) - 1).toNat = l.length - 1 := by rw [nats_len]; omega
    have hm := hP.len
    obtain ⟨xs0, hx0, hx0l⟩ := hm
    have hm2 : ((xs0.length : Int) + 1 - 1).toNat = ps.length := by rw [hx0l]; omega
    refine ⟨_, rfl, b, _, rfl, .inl (SqL.of hb), _, _, rfl, ⟨by decide, by decide, by omega, by rw [nats_len]; omega⟩, ?_⟩
    rw [hn]
    refine for_range (lo := 1) (n := l.length - 1) (fun i σ H' => ∃ v2 v3, σ = [some (.ref pa), some (.ref b), v2, v3, none] ∧ H' = H ∧ ∀ j, j < i + 1 → badAt ps l j = false) ⟨none, none, rfl, rfl, fun j hj => ?_⟩ ?_ ?_
    · obtain rfl : j = 0 := by omega
      unfold badAt
      simp
    · rintro i σ H' hi ⟨v2, v3, rfl, rfl, hbad⟩
      rw [suc_int]
      have h1 : i + 1 < l.length := by omega
      have e1 : l[i + 1]? = some l[i + 1] := List.getElem?_eq_getElem h1
      have e0 : l[i]? = some l[i] := List.getElem?_eq_getElem (by omega)
      have hle := hk _ (List.getElem_mem h1)
      have nx : badAt ps l (i + 1) = false → ∃ v2 v3, [some (V.ref pa), some (V.ref b), some (V.int ((i + 1 : Nat) : Int)), some (nV l[i + 1]), none] = [some (.ref pa), some (.ref b), v2, v3, none] ∧ H' = H' ∧ ∀ j, j < i + 1 + 1 → badAt ps l j = false := fun q =>
        ⟨_, _, rfl, rfl, fun j hj => by
          by_cases z : j = i + 1
          · subst z; exact q
          · exact hbad j (by omega)⟩
      refine ⟨_, rfl, _, rfl, b, _, _, _, rfl, rfl, SqL.of hb, atI_nat (nats_at e1), _, rfl, _, _, rfl, rfl, _, rfl, ite2 (fun z => ?_) (fun z => iteF (nx (bad_zero ?_)))⟩
      · have z := of_decide_eq_true z
        have hpos : 0 < l[i + 1] := by omega
        have hpl : l[i + 1] - 1 < ps.length := by omega
        have ep : ps[l[i + 1] - 1]? = some ps[l[i + 1] - 1] := List.getElem?_eq_getElem hpl
        have hbl := bad_lit (ps := ps) e1 e0 hpos ep
        obtain ⟨xs, x, dx, br, q1, q2, q3, q4⟩ := hP.at_ ep
        refine ⟨_, rfl, _, rfl, _, rfl, _, _, rfl, rfl, b, _, _, _, rfl, rfl, SqL.of hb, at_of (j := i) (by omega) (nats_at e0), _, _, rfl, rfl, _, rfl, ite2 (fun y => ?_) (fun y => iteF (nx ?_))⟩
        · have y := of_decide_eq_true y
          refine ⟨_, rfl, _, rfl, _, _, rfl, rfl, pa, _, _, _, rfl, rfl, SqL.of q1, at_of (j := l[i + 1] - 1) (by omega) q2, x, _, dx, _, _, rfl, q3, T.clPlay, T.nPlay_may_run, playF_may_run _ _, _, _, rfl, rfl, _, rfl, ite2 (fun u => ?_) (fun u => nx ?_)⟩
          · have u := of_decide_eq_true u
            refine ⟨_, rfl, (by show 2 ≤ sizeLine; decide), fun r hr' => k _ r (same_upd hr') ?_ hr'⟩
            show upd _ r _ r = _
            rw [upd_same, wrong_first h1 (by
              rw [hbl, decide_eq_true (by omega)]
              cases hru : ps[l[i + 1] - 1].runs with
              | false => rfl
              | true => rw [hru] at u; exact absurd u (by decide)) fun j hj => hbad j hj]
            rfl
          · rw [hbl]
            have u : ¬ ((b01 ps[l[i + 1] - 1].runs : Nat) : Int) = 0 := fun q => u (decide_eq_true q)
            cases hru : ps[l[i + 1] - 1].runs with
            | true => rw [Bool.and_comm]; rfl
            | false => rw [hru] at u; exact absurd rfl u
        · rw [hbl, decide_eq_false (fun q => y (decide_eq_true (by rw [q])))]
          rfl
      · have z : ¬ (0 : Int) < ((l[i + 1] : Nat) : Int) := fun q => z (decide_eq_true q)
        rw [e1, show l[i + 1] = 0 by omega]
    · rintro σ H' ⟨v2, v3, rfl, rfl, hbad⟩
      have hno : ∀ j, j < l.length → badAt ps l j = false := fun j hj => hbad j (by omega)
      refine ⟨_, rfl, pa, _, rfl, .inl (SqL.of hx0), _, _, rfl, rfl, _, _, rfl, ⟨by decide, by decide, by omega, by omega⟩, ?_⟩
      rw [hm2]
      refine for_range (lo := 1) (n := ps.length) (fun i σ H'' => ∃ v3 v4, σ = [some (.ref pa), some (.ref b), v2, v3, v4] ∧ H'' = H' ∧ ∀ (j : Nat) (p : Uw05.Play), j < i → ps[j]? = some p → wrongAt l (p, j) = none) ⟨_, _, rfl, rfl, fun j p hj => by omega⟩ ?_ ?_
      · rintro i σ H'' hi ⟨v3', v4, rfl, rfl, hw⟩
        rw [suc_int]
        have ep : ps[i]? = some ps[i] := List.getElem?_eq_getElem hi
        obtain ⟨xs, x, dx, br, q1, q2, q3, q4⟩ := hP.at_ ep
        refine ⟨_, rfl, .inl ⟨rfl, _, SqL.of hb⟩, _, rfl, b, _, _, rfl, rfl, SqL.of hb.i, ?_⟩
        rw [count_times]
        have two : ∀ x y, wrongAt l (ps[i], i) = some (x, y) → wrongB ps l = some (x, y) := fun x y e => by
          rw [wrong_later hno]
          refine findSome_at (zipIdx_at ep) e fun j z hj hz => ?_
          obtain ⟨a1, a2⟩ := of_zipIdx hz
          have := hw j z.1 hj a1
          rw [← a2] at this
          exact this
        refine ⟨_, rfl, _, rfl, _, rfl, _, _, rfl, rfl, pa, _, _, _, rfl, rfl, SqL.of q1, at_of (j := i) (by omega) q2, x, _, dx, _, _, rfl, q3, T.clPlay, T.nPlay_least, playF_least _ _, _, _, rfl, rfl, _, rfl, ite2 (fun u => ?_) (fun u => ?_)⟩
        · have u := of_decide_eq_true u
          refine ⟨_, rfl, (by show 2 ≤ sizeLine; decide), fun r hr' => k _ r (same_upd hr') ?_ hr'⟩
          show upd _ r _ r = _
          rw [upd_same, two 2 (i + 1) (by unfold wrongAt; rw [if_pos (show Uw05.times l (i + 1) < ps[i].least by omega)])]
          rfl
        · have u : ¬ ((Uw05.times l (i + 1) : Nat) : Int) < ((ps[i].least : Nat) : Int) := fun q => u (decide_eq_true q)
          refine ⟨_, rfl, _, rfl, _, rfl, _, _, rfl, rfl, pa, _, _, _, rfl, rfl, SqL.of q1, at_of (j := i) (by omega) q2, x, _, dx, _, _, rfl, q3, T.clPlay, T.nPlay_most, playF_most _ _, _, _, rfl, rfl, _, rfl, ite2 (fun y => ?_) (fun y => ?_)⟩
          · have y := of_decide_eq_true y
            refine ⟨_, rfl, (by show 2 ≤ sizeLine; decide), fun r hr' => k _ r (same_upd hr') ?_ hr'⟩
            show upd _ r _ r = _
            rw [upd_same, two 3 (i + 1) (by unfold wrongAt; rw [if_neg (show ¬ Uw05.times l (i + 1) < ps[i].least by omega), if_pos (show ps[i].most < Uw05.times l (i + 1) by omega)])]
            rfl
          · have y : ¬ ((ps[i].most : Nat) : Int) < ((Uw05.times l (i + 1) : Nat) : Int) := fun q => y (decide_eq_true q)
            refine ⟨_, _, rfl, rfl, fun j p hj hjp => ?_⟩
            by_cases z : j = i
            · subst z
              rw [ep] at hjp; cases hjp
              unfold wrongAt
              rw [if_neg (show ¬ Uw05.times l (j + 1) < ps[j].least by omega), if_neg (show ¬ ps[j].most < Uw05.times l (j + 1) by omega)]
            · exact hw j p (by omega) hjp
      · rintro σ H'' ⟨v3', v4, rfl, rfl, hw⟩
        refine ⟨Nat.zero_le _, fun r hr' => k _ r (same_upd hr') ?_ hr'⟩
        show upd _ r _ r = _
        rw [upd_same, wrong_later hno, findSome_none fun j z hz => ?_]
        · rfl
        · obtain ⟨a1, a2⟩ := of_zipIdx hz
          have := hw j z.1 (List.getElem?_eq_some_iff.mp a1).1 a1
          rw [← a2] at this
          exact this
end
end Ps
end
section
set_option Elab.async false
set_option linter.all false
set_option maxRecDepth 100000
set_option maxHeartbeats 2000000
namespace Ps
open PySem PySem.Spec PyProof.Rows L2
/-! a list held against [] -/
theorem dp_ints {K : PySem.W.Frag} {H : Hp} : ∀ ns : List Int, DpAll K H (ns.map V.int) (ns.map PyData.int)
  | [] => .nil
  | n :: r => .cons (.int n) (dp_ints r)
theorem lay_ints : ∀ ns : List Int, PyData.canLayAll0 (ns.map PyData.int) = true ∧ PyData.depthAll (ns.map PyData.int) = 0
  | [] => ⟨by simp [PyData.canLayAll0], by simp [PyData.depthAll]⟩
  | n :: r => by
    obtain ⟨a, b⟩ := lay_ints r
    exact ⟨by simp only [List.map_cons, PyData.canLayAll0, PyData.canLay0, a, Bool.true_and], by simp only [List.map_cons, PyData.depthAll, PyData.depth, b, Nat.max_self]⟩
theorem dp_rows {K : PySem.W.Frag} {H : Hp} : ∀ {bs : List Addr} {L : List (List Nat)}, Paired (Row H) bs L → DpAll K H (refs bs) (L.map fun l => PyData.list ((l.map fun (n : Nat) => (n : Int)).map PyData.int))
  | _, _, .nil => .nil
  | _, _, .cons r t => .cons (.lst (SqL.of (Row.i r)) (dp_ints _)) (dp_rows t)
theorem lay_rows : ∀ L : List (List Nat), PyData.canLayAll0 (L.map fun l => PyData.list ((l.map fun (n : Nat) => (n : Int)).map PyData.int)) = true ∧ PyData.depthAll (L.map fun l => PyData.list ((l.map fun (n : Nat) => (n : Int)).map PyData.int)) ≤ 1
  | [] => ⟨by simp [PyData.canLayAll0], by simp [PyData.depthAll]⟩
  | l :: r => by
    obtain ⟨a, b⟩ := lay_rows r
    obtain ⟨c, d⟩ := lay_ints (l.map fun (n : Nat) => (n : Int))
    refine ⟨by simp only [List.map_cons, PyData.canLayAll0, PyData.canLay0, a, c, Bool.true_and], ?_⟩
    simp only [List.map_cons, PyData.depthAll, PyData.depth, d]
    omega
theorem shaped_of {ds : List PyData} (a : PyData.canLayAll0 ds = true) (b : PyData.depthAll ds ≤ 1) : SeqAt.shaped (.list ds) = true := by
  unfold SeqAt.shaped
  have e : PyData.canLay0 (.list ds) = true := by simp only [PyData.canLay0, a]
  rw [e, Bool.true_and]
  refine decide_eq_true ?_
  simp only [PyData.depth]
  omega
theorem eqv_nil (ds : List PyData) : PyData.eqv (.list ds) (.list []) = decide (ds = []) := by
  cases ds with
  | nil => simp [PyData.eqv, PyData.eqvAll]
  | cons d ds => simp [PyData.eqv, PyData.eqvAll]
inductive QRNil (f : Bool → Bool) (x y : V) (H : Hp) (Q : VK) : Prop
  | mk (a : _) (b : _) (h1 : x = .ref a) (h2 : y = .ref b) (h3 : H b = some (.lst [])) (q : ((∃ l : List Int, RowI H a l ∧ Q (.bl (f (decide (l = [])))) H) ∨ ∃ L, BillsAt H a L ∧ Q (.bl (f (decide (L = [])))) H)) : QRNil f x y H Q
def rNil (f : Bool → Bool) : R2 := fun x y H Q => QRNil f x y H Q
section
variable {X : Cx}
theorem op_eqNil (hu : X.A.units + 64 < cLine) : OpR X (compareOp .Eq) (rNil id) := by
  intro pins s σ H x y v u Q I rx ry h
  obtain ⟨a, b, rfl, rfl, hb, h⟩ := h
  refine op_eqD hu pins s σ H (.ref a) (.ref b) v u Q I rx ry ?_
  have hn : Dp X.K H (.ref b) (.list []) := .lst (SqL.of hb) .nil
  have sn : SeqAt.shaped (.list []) = true := shaped_of (by simp [PyData.canLayAll0]) (by simp [PyData.depthAll])
  rcases h with ⟨l, hl, q⟩ | ⟨L, ⟨bs, h1, h2⟩, q⟩
  · obtain ⟨c, d⟩ := lay_ints l
    refine ⟨_, _, .lst (SqL.of hl) (dp_ints l), hn, shaped_of c (by omega), sn, ?_⟩
    rw [eqv_nil]
    have e : decide (l.map PyData.int = []) = decide (l = []) := by cases l <;> simp
    rw [e]; exact q
  · obtain ⟨c, d⟩ := lay_rows L
    refine ⟨_, _, .lst (SqL.of h1) (dp_rows h2), hn, shaped_of c d, sn, ?_⟩
    rw [eqv_nil]
    have e : decide ((L.map fun l => PyData.list ((l.map fun (n : Nat) => (n : Int)).map PyData.int)) = []) = decide (L = []) := by cases L <;> simp
    rw [e]; exact q
theorem op_neNil (hu : X.A.units + 64 < cLine) : OpR X (compareOp .NotEq) (rNil fun b => !b) := by
  intro pins s σ H x y v u Q I rx ry h
  obtain ⟨a, b, rfl, rfl, hb, h⟩ := h
  refine op_neD hu pins s σ H (.ref a) (.ref b) v u Q I rx ry ?_
  have hn : Dp X.K H (.ref b) (.list []) := .lst (SqL.of hb) .nil
  have sn : SeqAt.shaped (.list []) = true := shaped_of (by simp [PyData.canLayAll0]) (by simp [PyData.depthAll])
  rcases h with ⟨l, hl, q⟩ | ⟨L, ⟨bs, h1, h2⟩, q⟩
  · obtain ⟨c, d⟩ := lay_ints l
    refine ⟨_, _, .lst (SqL.of hl) (dp_ints l), hn, shaped_of c (by omega), sn, ?_⟩
    rw [eqv_nil]
    have e : decide (l.map PyData.int = []) = decide (l = []) := by cases l <;> simp
    rw [e]; exact q
  · obtain ⟨c, d⟩ := lay_rows L
    refine ⟨_, _, .lst (SqL.of h1) (dp_rows h2), hn, shaped_of c d, sn, ?_⟩
    rw [eqv_nil]
    have e : decide ((L.map fun l => PyData.list ((l.map fun (n : Nat) => (n : Int)).map PyData.int)) = []) = decide (L = []) := by cases L <;> simp
    rw [e]; exact q
end
/-! rows that a list of its own holds -/
def Held (H : Hp) (g : Addr) (gs : List Addr) (L : List (List Nat)) : Prop := H g = some (.lst (refs gs)) ∧ Paired (fun x l => Row H x l ∧ x ≠ g) gs L
theorem Held.bills {H : Hp} {g : Addr} {gs : List Addr} {L : List (List Nat)} (h : Held H g gs L) : BillsAt H g L := ⟨gs, h.1, Paired.mapP h.2 fun _ _ => And.left⟩
theorem Held.push {H H1 : Hp} {g x : Addr} {gs : List Addr} {L : List (List Nat)} {l : List Nat} (h : Held H g gs L) (S : Same H H1) (hx : Row H1 x l) (nx : x ≠ g) : Held (upd H1 g (.lst (refs gs ++ [.ref x]))) g (gs ++ [x]) (L ++ [l]) := by
  refine ⟨by rw [upd_same, refs_snoc], pr_snoc (Paired.mapP h.2 fun y m q => ⟨?_, q.2⟩) ⟨?_, nx⟩⟩
  · show upd _ _ _ y = _
    rw [upd_ne q.2]; exact S _ _ q.1
  · show upd _ _ _ x = _
    rw [upd_ne nx]; exact hx
theorem flat_len (W : List (List Nat)) (A : List Nat) : (W.flatMap fun r => A.map fun x => r ++ [x]).length = W.length * A.length := by
  induction W with
  | nil => simp
  | cons a W ih => rw [List.flatMap_cons, List.length_append, ih, List.length_map, List.length_cons, Nat.add_mul, Nat.one_mul, Nat.add_comm]
section
variable {P : Program} {w : World} {K : PySem.W.Frag} {mg : Str → Option Value} {base : Heap} {t : Adr}
/-! all_bills -/
inductive QSpAllBills (t : Adr) (vs : List V) (H : Hp) (Q : VK) : Prop
  | mk (a pa qa : Addr) (s : Uw08.Season) (h1 : vs = [.ref a]) (h2 : CompAt t H a pa qa s) (h3 : WF s) (q : ∀ (H' : Hp) (r : Addr), Same H H' → BillsAt H' r (Uw05.bills s.plays.length s.nights.length) → H r = none → Q (.ref r) H') : QSpAllBills t vs H Q
def spAllBills (t : Adr) : Sp := fun vs H Q _ => QSpAllBills t vs H Q
theorem sc_all_bills : FnScope ["company", "bills", "night", "longer", "bill", "number"] ["company"] (defScope s_all_bills) := ⟨rfl, rfl, rfl, by decide +kernel, rfl, by decide +kernel, by decide +kernel⟩
theorem ok_all_bills (T : Txt K mg t) : FnOk P w K mg base CX0 1 t.f_all_bills t.d_all_bills ["company"] (spAllBills t) := by
  refine T.F_all_bills.ok sc_all_bills (fun vs H Q E h => ?_) (fun cdv A outer s0 H vs Q E hr h => ?_)
  · obtain ⟨a, pa, qa, s, rfl, _⟩ := h
    rfl
  · obtain ⟨a, pa, qa, s, rfl, hC, wf, k⟩ := h
    refine ⟨_, pss_cons (ps_set (i := 1) sc_all_bills.nd rfl (Or.inl rfl) (pe_lst (pa_cons (pe_lst pa_nil) pa_nil)))
      (pss_cons (ps_for PassesOwn.never rfl (pi_range1 rfl T.b_range (pa_cons (pe_callB call_len_seq (by rfl) T.b_len PySem.boot_len (pa_cons (pe_fld (pv 0) rfl) pa_nil)) pa_nil)) (pg_name (i := 2) sc_all_bills.nd rfl (Or.inl rfl))
        (pss_cons (ps_set (i := 3) sc_all_bills.nd rfl (Or.inl rfl) (pe_lst pa_nil))
        (pss_cons (ps_for PassesOwn.never rfl (pi_list (pv 1)) (pg_name (i := 4) sc_all_bills.nd rfl (Or.inl rfl))
          (pss_one (ps_for PassesOwn.never rfl (pi_range1 rfl T.b_range (pa_cons (pe_op op_add (pe_callB call_len_seq (by rfl) T.b_len PySem.boot_len (pa_cons (pe_fld (pv 0) rfl) pa_nil)) pe_int) pa_nil)) (pg_name (i := 5) sc_all_bills.nd rfl (Or.inl rfl))
            (pss_one (ps_expr (pe_bm PySem.F.plainAttrs_list PySem.F.slot_list_append PySem.F.type_list_append mt_append (pv 3) (pa_cons (pe_op op_cat (pv 4) (pe_lst (pa_cons (pv 5) pa_nil))) pa_nil)))))))
        (pss_one (ps_set (i := 1) sc_all_bills.nd rfl (Or.inl rfl) (pv 3))))))
      (pss_one (ps_ret (pv 1)))), ?_⟩
    obtain ⟨⟨dx, ca, hA, hca, _⟩, ⟨as, hpa, hps⟩, _⟩ := id hC
    have hasl : as.length = s.plays.length := Paired.length hps
    have wpl := wf.pl
    have wnl := wf.nl
    have hline : sizeLine = 16777216 := sizeLine_eq
    refine ⟨Nat.zero_le _, fun p0 hp0 => ⟨(by show 1 ≤ sizeLine; decide), fun b0 hb0 => ?_⟩⟩
    have S0 : Same H (upd (upd H p0 (.lst [])) b0 (.lst [.ref p0])) := (same_upd hp0).trans (same_upd hb0)
    have nb0 : H b0 = none := (same_upd (o := .lst []) hp0).free hb0
    refine ⟨_, rfl, a, _, dx, _, _, rfl, S0 _ _ hA, T.clCompany, T.nCompany_crowds, compF_crowds _ _ _ _, ca, _, rfl, .inl (SqL.of (S0 _ _ hca)), _, rfl, by omega, by rw [nats_len]; omega, ?_⟩
    have e0 : (((nats s.nights).length : Nat) : Int).toNat = s.nights.length := by rw [nats_len]; omega
    rw [e0]
    refine for_range (lo := 0) (n := s.nights.length) (fun i σ H1 => ∃ bl v2 v3 v4 v5, σ = [some (.ref a), some (.ref bl), v2, v3, v4, v5] ∧ Same H H1 ∧ BillsAt H1 bl (words (List.range (s.plays.length + 1)) i) ∧ H bl = none)
      ⟨b0, none, none, none, none, rfl, S0, ⟨[p0], by rw [upd_same]; rfl, .cons (by show upd _ _ _ p0 = _; rw [upd_ne (ne_of_none upd_same hb0), upd_same]; rfl) .nil⟩, nb0⟩ ?_ ?_
    · rintro i σ H1 hi ⟨bl, v2, v3, v4, v5, rfl, S1, ⟨bs, hbl, hbs⟩, nbl⟩
      have lW : (words (List.range (s.plays.length + 1)) i).length ≤ 4 := by
        rw [words_length, List.length_range]
        exact Nat.le_trans (Nat.pow_le_pow_right (by omega) (show i ≤ 1 by omega)) (by rw [Nat.pow_one]; omega)
      generalize hW : words (List.range (s.plays.length + 1)) i = W at hbs lW
      refine ⟨Nat.zero_le _, fun g hg => ?_⟩
      have S2 : Same H1 (upd H1 g (.lst [])) := same_upd hg
      refine ⟨_, rfl, bl, rfl, ⟨_, SqL.of (S2 _ _ hbl)⟩, for_list (K := K) (a := bl) (xs := refs bs) (fun j σ H3 => ∃ gs v4 v5, σ = [some (.ref a), some (.ref bl), some (.int (0 + (i : Int))), some (.ref g), v4, v5] ∧ Same H1 H3 ∧ Held H3 g gs ((W.take j).flatMap fun r => (List.range (s.plays.length + 1)).map fun x => r ++ [x]))
        ⟨[], _, _, rfl, S2, by rw [upd_same]; rfl, .nil⟩ (fun j σ H3 _ ⟨_, _, _, _, S3, _⟩ => SqL.of (S3 _ _ hbl)) ?_ ?_⟩
      · rintro j y σ H3 hj ⟨gs, v4', v5', rfl, S3, hgs⟩
        obtain ⟨b, hb, rfl⟩ := refs_of hj
        obtain ⟨r, hr', hbr⟩ := pr_get hbs hb
        have S13 := S1.trans S3
        refine ⟨_, rfl, a, _, dx, _, _, rfl, S13 _ _ hA, T.clCompany, T.nCompany_plays, compF_plays _ _ _ _, pa, _, rfl, .inl (SqL.of (S13 _ _ hpa)), _, _, rfl, rfl, _, rfl, by omega, by rw [refs_len]; omega, ?_⟩
        have e1 : (((refs as).length : Int) + 1).toNat = s.plays.length + 1 := by rw [refs_len]; omega
        rw [e1]
        refine for_range (lo := 0) (n := s.plays.length + 1) (fun m σ H4 => ∃ gs v5, σ = [some (.ref a), some (.ref bl), some (.int (0 + (i : Int))), some (.ref g), some (.ref b), v5] ∧ Same H1 H4 ∧ Held H4 g gs (((W.take j).flatMap fun r => (List.range (s.plays.length + 1)).map fun x => r ++ [x]) ++ (List.range m).map fun x => r ++ [x]))
          ⟨gs, _, rfl, S3, by rw [List.range_zero, List.map_nil, List.append_nil]; exact hgs⟩ ?_ ?_
        · rintro m σ H4 hm ⟨gs4, v5'', rfl, S4, h4⟩
          rw [zero_int]
          refine ⟨_, rfl, .inl ⟨rfl, _, SqL.of h4.1⟩, _, rfl, _, rfl, (by show 1 ≤ sizeLine; decide), fun p1 hp1 => ?_⟩
          have T1 : Same H4 (upd H4 p1 (.lst [nV m])) := same_upd hp1
          have hrl : r.length = i := by
            have := words_mem (List.mem_of_getElem? (hW ▸ hr'))
            exact this.1
          refine ⟨b, p1, _, _, rfl, rfl, T1 _ _ (S4 _ _ hbr), upd_same, ?_, fun p2 hp2 => ?_⟩
          · rw [nats_len, hrl]
            show i + 1 ≤ sizeLine
            omega
          have T2 : Same H4 (upd (upd H4 p1 (.lst [nV m])) p2 (.lst (nats r ++ [nV m]))) := T1.trans (same_upd hp2)
          have ng : p2 ≠ g := (ne_of_none (T1 _ _ h4.1) hp2).symm
          have hlen : gs4.length ≤ 20 := by
            rw [Paired.length h4.2, List.length_append, flat_len, List.length_map, List.length_range, List.length_range, List.length_take]
            have h1 : min j W.length ≤ 4 := by omega
            have h2 : s.plays.length + 1 ≤ 4 := by omega
            have h3 : min j W.length * (s.plays.length + 1) ≤ 4 * 4 := Nat.mul_le_mul h1 h2
            omega
          refine ⟨g, _, _, rfl, rfl, T2 _ _ h4.1, by rw [refs_len]; omega, ?_⟩
          refine ⟨gs4 ++ [p2], _, rfl, fun c o e => ?_, ?_⟩
          · rw [upd_ne (ne_of_none e hg)]; exact T2 _ _ (S4 _ _ e)
          · have q := Held.push (l := r ++ [m]) h4 T2 (by show upd _ _ _ p2 = _; rw [upd_same, nats_snoc]) ng
            rw [List.append_assoc] at q
            rw [show List.range (m + 1) = List.range m ++ [m] from List.range_succ, List.map_append]
            exact q
        · rintro σ H4 ⟨gs4, v5'', rfl, S4, h4⟩
          refine ⟨gs4, _, _, rfl, S4, ?_⟩
          rw [take_snoc hr', List.flatMap_append]
          simpa using h4
      · rintro σ H3 ⟨gs, v4', v5', rfl, S3, hgs⟩
        refine ⟨_, rfl, g, _, _, _, _, rfl, S1.trans S3, ?_, S1.free hg⟩
        have e2 : (refs bs).length = W.length := by rw [refs_len]; exact Paired.length hbs
        rw [e2, List.take_length] at hgs
        rw [words_snoc, hW]
        exact hgs.bills
    · rintro σ H1 ⟨bl, v2, v3, v4, v5, rfl, S1, hB, nbl⟩
      refine ⟨_, rfl, k _ bl S1 ?_ nbl⟩
      rw [bills_words]
      exact hB
end
end Ps
end
section
set_option Elab.async false
set_option linter.all false
set_option maxRecDepth 100000
set_option maxHeartbeats 2000000
namespace Ps
open PySem PySem.Spec PyProof.Rows L2
section
variable {P : Program} {w : World} {K : PySem.W.Frag} {mg : Str → Option Value} {base : Heap} {t : Adr}
theorem ne_dec {x y : Int} (h : (!decide (x = y)) = true) : ¬ x = y := fun q => by rw [decide_eq_true q] at h; exact Bool.false_ne_true h
theorem eq_dec {x y : Int} (h : ¬ (!decide (x = y)) = true) : x = y := by
  by_cases q : x = y
  · exact q
  · exact absurd (by rw [decide_eq_false q]; rfl) h
theorem wrongRow_nil (o : Option (Nat × Nat)) : decide ((wrongRow o).map (fun (n : Nat) => (n : Int)) = []) = o.isNone := by
  cases o with
  | none => rfl
  | some x => rfl
/-! right_bills -/
inductive QSpRightBills (t : Adr) (vs : List V) (H : Hp) (Q : VK) : Prop
  | mk (a pa qa : Addr) (s : Uw08.Season) (h1 : vs = [.ref a]) (h2 : CompAt t H a pa qa s) (h3 : WF s) (q : ∀ (H' : Hp) (r : Addr), Same H H' → BillsAt H' r (goodBills s) → H r = none → Q (.ref r) H') : QSpRightBills t vs H Q
def spRightBills (t : Adr) : Sp := fun vs H Q _ => QSpRightBills t vs H Q
theorem sc_right_bills : FnScope ["company", "bill"] ["company"] (defScope s_right_bills) := ⟨rfl, rfl, rfl, by decide +kernel, rfl, by decide +kernel, by decide +kernel⟩
theorem ok_right_bills (T : Txt K mg t) : FnOk P w K mg base CX0 3 t.f_right_bills t.d_right_bills ["company"] (spRightBills t) := by
  refine T.F_right_bills.ok sc_right_bills (fun vs H Q E h => ?_) (fun cdv A outer s0 H vs Q E hr h => ?_)
  · obtain ⟨a, pa, qa, s, rfl, _⟩ := h
    rfl
  · obtain ⟨a, pa, qa, s, rfl, hC, wf, k⟩ := h
    have hr1 : Room 1 _ := hr.mono (by decide)
    refine ⟨_, pss_one (ps_ret (pe_lc (own := [("bill", 1)]) (tt := tTest (tOp (rNil id) (tCall (spWrong t) [] E0 (tCons (tFld K (tVar 0) "plays") (tCons (tVar 1) tNil))) (tLst tNil))) rfl sc_right_bills.nd (pi_list (pe_call (ok_all_bills T) hr1 rfl T.g_all_bills T.F_all_bills.kp T.B_all_bills .nil pass0 (pa_cons (pv 0) pa_nil))) (blkOk_by (by show blkC ["company", "bill"] (defScope s_right_bills) _ [("bill", 1)] = true; decide +kernel))
      (fun _ _ _ _ _ => pg_name (i := 1) sc_right_bills.nd rfl (Or.inl rfl))
      (fun _ _ _ _ _ => pts_one (pt_cmpR (op_eqNil (by exact hr.units)) (pe_call (ok_wrong_with T) hr1 rfl T.g_wrong_with T.F_wrong_with.kp T.B_wrong_with .nil pass0 (pa_cons (pe_fld (pv 0) (by rfl)) (pa_cons (pv 1) pa_nil))) (pe_lst pa_nil) (nomark _)))
      (fun _ _ _ _ _ => pv 1))), ?_⟩
    refine ⟨_, rfl, a, pa, qa, s, rfl, hC, wf, fun H1 bl S1 ⟨bs, hbl, hbs⟩ nbl => ⟨bl, rfl, ⟨_, SqL.of hbl⟩, fun D hD => ?_⟩⟩
    have hC1 := hC.same S1
    have wpl := wf.pl
    have hfew : bs.length ≤ 16 := by
      rw [Paired.length hbs, bills_words, words_length, List.length_range]
      exact Nat.le_trans (Nat.pow_le_pow_left (show s.plays.length + 1 ≤ 4 by omega) _) (Nat.pow_le_pow_right (by omega) wf.nl)
    generalize hL : Uw05.bills s.plays.length s.nights.length = L at hbs
    refine lc_list (K := K) (a := bl) (xs := refs bs) (fun i H3 => Same H1 H3 ∧ ∃ gs, H3 D = some (.lst (refs gs)) ∧ gs.length ≤ i ∧ Paired (Row H1) gs ((L.take i).filter fun b => (wrongB s.plays b).isNone)) ⟨same_upd hD, [], by rw [upd_same]; rfl, Nat.le_refl _, .nil⟩
      (fun i H3 _ ⟨S3, _⟩ => SqL.of (S3 _ _ hbl)) ?_ ?_
    · rintro i x H3 hi ⟨S3, gs, hg, hgl, hgs⟩
      obtain ⟨b, hb, rfl⟩ := refs_of hi
      obtain ⟨l, hl, hbl'⟩ := pr_get hbs hb
      have hiL : i < bs.length := (List.getElem?_eq_some_iff.mp hb).1
      have ok : BillOk s l := bill_ok (by rw [hL]; exact List.mem_of_getElem? hl)
      obtain ⟨⟨dx, ca, hA, _⟩, _⟩ := hC1.same S3
      refine ⟨rfl, _, rfl, a, _, dx, _, _, rfl, hA, T.clCompany, T.nCompany_plays, compF_plays _ _ _ _, _, rfl, pa, b, s.plays, l, rfl, (hC1.same S3).playsAt, S3 _ _ hbl', ok.le, ?_, by omega, fun H4 r S4 hR nr => ⟨Nat.zero_le _, fun p hp => ?_⟩⟩
      · rw [ok.len]; have := wf.nl; omega
      · have S5 : Same H4 (upd H4 p (.lst [])) := same_upd hp
        refine ⟨r, p, rfl, rfl, upd_same, .inl ⟨_, Row.i (S5 _ _ hR), _, rfl, ?_⟩⟩
        have S35 := S3.trans (S4.trans S5)
        rw [show id (decide ((wrongRow (wrongB s.plays l)).map (fun (n : Nat) => (n : Int)) = [])) = (wrongB s.plays l).isNone from wrongRow_nil _, take_snoc hl, List.filter_append, List.filter_cons]
        cases e : (wrongB s.plays l).isNone with
        | true =>
          refine iteT ⟨_, rfl, refs gs, (S4.trans S5) _ _ hg, by rw [refs_len]; have : sizeLine = 16777216 := sizeLine_eq; omega, fun c o q => ?_, gs ++ [b], ?_, by rw [List.length_append]; simp; omega, ?_⟩
          · rw [upd_ne (ne_of_none q hD)]; exact S35 _ _ q
          · rw [upd_same, refs_snoc]
          · rw [if_pos rfl]; exact pr_snoc hgs hbl'
        | false =>
          refine iteF ⟨S35, gs, (S4.trans S5) _ _ hg, by omega, ?_⟩
          rw [if_neg Bool.false_ne_true, List.filter_nil, List.append_nil]; exact hgs
    · rintro H3 ⟨S3, gs, hg, _, hgs⟩
      refine k H3 D (S1.trans S3) ⟨gs, hg, ?_⟩ (S1.free hD)
      have e : (refs bs).length = L.length := by rw [refs_len]; exact Paired.length hbs
      rw [e, List.take_length] at hgs
      unfold goodBills
      rw [hL]
      exact Paired.mapP hgs fun _ _ => S3 _ _
/-! work_of -/
theorem work_st {a b c d : Option V} {z : Int} {n : Nat} (h : z = (n : Int)) : [a, b, some (V.int z), c, d] = [a, b, some (nV n), c, d] := by rw [nV_of h]
inductive QSpWork (t : Adr) (vs : List V) (H : Hp) (Q : VK) : Prop
  | mk (pa b : Addr) (ps : List Uw05.Play) (l : List Nat) (h1 : vs = [.ref pa, .ref b]) (h2 : PlaysAt t H pa ps) (h3 : Row H b l) (h4 : (∀ k ∈ l, k ≤ ps.length)) (h5 : l.length ≤ 1000) (q : Q (nV (sumTo (workAt ps l) l.length)) H) : QSpWork t vs H Q
def spWork (t : Adr) : Sp := fun vs H Q _ => QSpWork t vs H Q
theorem sc_work : FnScope ["plays", "bill", "work", "night", "number"] ["plays", "bill"] (defScope s_work_of) := ⟨rfl, rfl, rfl, by decide +kernel, rfl, by decide +kernel, by decide +kernel⟩
theorem ok_work_of (T : Txt K mg t) : FnOk P w K mg base CX0 1 t.f_work_of t.d_work_of ["plays", "bill"] (spWork t) := by
  refine T.F_work_of.ok sc_work (fun vs H Q E h => ?_) (fun cdv A outer s H vs Q E hr h => ?_)
  · obtain ⟨pa, b, ps, l, rfl, _⟩ := h
    rfl
  · obtain ⟨pa, b, ps, l, rfl, hP, hb, hk, hl, k⟩ := h
    refine ⟨_, pss_cons (ps_set (i := 2) sc_work.nd rfl (Or.inl rfl) pe_int)
      (pss_cons (ps_for PassesOwn.never rfl (pi_range1 rfl T.b_range (pa_cons (pe_callB call_len_seq (by rfl) T.b_len PySem.boot_len (pa_cons (pv 1) pa_nil)) pa_nil)) (pg_name (i := 3) sc_work.nd rfl (Or.inl rfl))
        (pss_cons (ps_set (i := 4) sc_work.nd rfl (Or.inl rfl) (pe_ix ix_list (pv 1) (pv 3) (fun _ _ => rfl)))
        (pss_one (ps_if (pt_cmp (pc_gt (pv 4) pe_int))
          (pss_cons (ps_if (PW.pt (pw_or (pt_cmp (pc_eqI (pv 3) pe_int)) (pw_or1 (pt_cmp (pc_neI (pe_ix ix_list (pv 1) (pe_op op_sub (pv 3) pe_int) (fun _ _ => rfl)) (pv 4))))))
            (pss_one (ps_aug (i := 2) sc_work.nd rfl (Or.inl rfl) (pe_fld (pe_ix ix_list (pv 0) (pe_op op_sub (pv 4) pe_int) (fun _ _ => rfl)) rfl) ip_add)) pss_nil)
          (pss_one (ps_if (PW.pt (pw_or (pt_cmp (pc_eqI (pe_op op_add (pv 3) pe_int) (pe_callB call_len_seq (by rfl) T.b_len PySem.boot_len (pa_cons (pv 1) pa_nil)))) (pw_or1 (pt_cmp (pc_neI (pe_ix ix_list (pv 1) (pe_op op_add (pv 3) pe_int) (fun _ _ => rfl)) (pv 4))))))
            (pss_one (ps_aug (i := 2) sc_work.nd rfl (Or.inl rfl) (pe_fld (pe_ix ix_list (pv 0) (pe_op op_sub (pv 4) pe_int) (fun _ _ => rfl)) rfl) ip_add)) pss_nil))) pss_nil))))
      (pss_one (ps_ret (pv 2)))), ?_⟩
    refine ⟨_, rfl, b, _, rfl, .inl (SqL.of hb), _, rfl, by omega, by rw [nats_len]; omega, ?_⟩
    have e0 : (((nats l).length : Nat) : Int).toNat = l.length := by rw [nats_len]; omega
    rw [e0]
    refine for_range (lo := 0) (n := l.length) (fun i σ H' => ∃ v3 v4, σ = [some (.ref pa), some (.ref b), some (nV (sumTo (workAt ps l) i)), v3, v4] ∧ H' = H) ⟨none, none, rfl, rfl⟩ ?_ ?_
    · rintro i σ H' hi ⟨v3, v4, rfl, rfl⟩
      rw [zero_int]
      have e1 : l[i]? = some l[i] := List.getElem?_eq_getElem hi
      have hle := hk _ (List.getElem_mem hi)
      refine ⟨_, rfl, _, rfl, b, _, _, _, rfl, rfl, SqL.of hb, atI_nat (nats_at e1), _, rfl, _, _, rfl, rfl, _, rfl, ite2 (fun z => ?_) (fun z => ?_)⟩
      · have z := of_decide_eq_true z
        have hpos : 0 < l[i] := by omega
        have ep : ps[l[i] - 1]? = some ps[l[i] - 1] := List.getElem?_eq_getElem (show l[i] - 1 < ps.length by omega)
        obtain ⟨xs, x, dx, br, q1, q2, q3, q4⟩ := hP.at_ ep
        have hw := work_lit (ps := ps) e1 hpos ep
        have gm : l.getD (i - 1) 0 = l[i - 1]'(by omega) := by rw [List.getD_eq_getElem?_getD, List.getElem?_eq_getElem (by omega)]; rfl
        refine ⟨_, rfl, _, _, rfl, rfl, _, rfl, ite2 (fun y => iteT ?_) (fun y => ?_)⟩
        · have y := of_decide_eq_true y
          refine ⟨_, rfl, _, rfl, _, rfl, _, _, rfl, rfl, pa, _, _, _, rfl, rfl, SqL.of q1, at_of (j := l[i] - 1) (by omega) q2, x, _, dx, _, _, rfl, q3, T.clPlay, T.nPlay_setting, playF_setting _ _, _, _, rfl, rfl, ?_⟩
          have hu : (if 0 < i ∧ l.getD (i - 1) 0 = l[i] then 0 else ps[l[i] - 1].set) = ps[l[i] - 1].set := by rw [if_neg (by omega)]
          refine ⟨_, rfl, _, _, rfl, rfl, _, rfl, b, _, rfl, .inl (SqL.of hb), _, _, rfl, rfl, _, rfl, ite2 (fun v => iteT ?_) (fun v => ?_)⟩
          · have v := of_decide_eq_true v
            rw [nats_len] at v
            refine ⟨_, rfl, _, rfl, _, rfl, _, _, rfl, rfl, pa, _, _, _, rfl, rfl, SqL.of q1, at_of (j := l[i] - 1) (by omega) q2, x, _, dx, _, _, rfl, q3, T.clPlay, T.nPlay_striking, playF_striking _ _, _, _, rfl, rfl, some (V.int ((i : Nat) : Int)), some (nV l[i]), ?_, rfl⟩
            have hv : (if i + 1 < l.length ∧ l.getD (i + 1) 0 = l[i] then 0 else ps[l[i] - 1].strike) = ps[l[i] - 1].strike := by rw [if_neg (by omega)]
            rw [sumTo_succ, hw, hu, hv]
            exact work_st (by (try dsimp only); omega)
          · have v : ¬ ((i : Nat) : Int) + 1 = (((nats l).length : Nat) : Int) := fun q => v (decide_eq_true q)
            rw [nats_len] at v
            have hlt : i + 1 < l.length := by omega
            have en : l[i + 1]? = some l[i + 1] := List.getElem?_eq_getElem hlt
            have gn : l.getD (i + 1) 0 = l[i + 1] := by rw [List.getD_eq_getElem?_getD, en]; rfl
            refine ⟨_, rfl, _, rfl, _, _, rfl, rfl, b, _, _, _, rfl, rfl, SqL.of hb, at_of (j := i + 1) (by omega) (nats_at en), _, rfl, _, _, rfl, rfl, _, rfl, ite2 (fun o => ?_) (fun o => ?_)⟩
            · have o : ¬ ((l[i + 1] : Nat) : Int) = ((l[i] : Nat) : Int) := ne_dec o
              refine ⟨_, rfl, _, rfl, _, rfl, _, _, rfl, rfl, pa, _, _, _, rfl, rfl, SqL.of q1, at_of (j := l[i] - 1) (by omega) q2, x, _, dx, _, _, rfl, q3, T.clPlay, T.nPlay_striking, playF_striking _ _, _, _, rfl, rfl, some (V.int ((i : Nat) : Int)), some (nV l[i]), ?_, rfl⟩
              have hv : (if i + 1 < l.length ∧ l.getD (i + 1) 0 = l[i] then 0 else ps[l[i] - 1].strike) = ps[l[i] - 1].strike := by rw [if_neg (by rw [gn]; omega)]
              rw [sumTo_succ, hw, hu, hv]
              exact work_st (by (try dsimp only); omega)
            · have o : ((l[i + 1] : Nat) : Int) = ((l[i] : Nat) : Int) := eq_dec o
              refine ⟨some (V.int ((i : Nat) : Int)), some (nV l[i]), ?_, rfl⟩
              have hv : (if i + 1 < l.length ∧ l.getD (i + 1) 0 = l[i] then 0 else ps[l[i] - 1].strike) = 0 := by rw [if_pos (by rw [gn]; omega)]
              rw [sumTo_succ, hw, hu, hv]
              exact work_st (by (try dsimp only); omega)
        · have y : ¬ ((i : Nat) : Int) = 0 := fun q => y (decide_eq_true q)
          have em : l[i - 1]? = some (l[i - 1]'(by omega)) := List.getElem?_eq_getElem (by omega)
          refine ⟨_, rfl, _, rfl, _, _, rfl, rfl, b, _, _, _, rfl, rfl, SqL.of hb, at_of (j := i - 1) (by omega) (nats_at em), _, rfl, _, _, rfl, rfl, _, rfl, ite2 (fun u => ?_) (fun u => ?_)⟩
          · have u : ¬ ((l[i - 1]'(by omega) : Nat) : Int) = ((l[i] : Nat) : Int) := ne_dec u
            refine ⟨_, rfl, _, rfl, _, rfl, _, _, rfl, rfl, pa, _, _, _, rfl, rfl, SqL.of q1, at_of (j := l[i] - 1) (by omega) q2, x, _, dx, _, _, rfl, q3, T.clPlay, T.nPlay_setting, playF_setting _ _, _, _, rfl, rfl, ?_⟩
            have hu : (if 0 < i ∧ l.getD (i - 1) 0 = l[i] then 0 else ps[l[i] - 1].set) = ps[l[i] - 1].set := by rw [if_neg (by rw [gm]; omega)]
            refine ⟨_, rfl, _, _, rfl, rfl, _, rfl, b, _, rfl, .inl (SqL.of hb), _, _, rfl, rfl, _, rfl, ite2 (fun v => iteT ?_) (fun v => ?_)⟩
            · have v := of_decide_eq_true v
              rw [nats_len] at v
              refine ⟨_, rfl, _, rfl, _, rfl, _, _, rfl, rfl, pa, _, _, _, rfl, rfl, SqL.of q1, at_of (j := l[i] - 1) (by omega) q2, x, _, dx, _, _, rfl, q3, T.clPlay, T.nPlay_striking, playF_striking _ _, _, _, rfl, rfl, some (V.int ((i : Nat) : Int)), some (nV l[i]), ?_, rfl⟩
              have hv : (if i + 1 < l.length ∧ l.getD (i + 1) 0 = l[i] then 0 else ps[l[i] - 1].strike) = ps[l[i] - 1].strike := by rw [if_neg (by omega)]
              rw [sumTo_succ, hw, hu, hv]
              exact work_st (by (try dsimp only); omega)
            · have v : ¬ ((i : Nat) : Int) + 1 = (((nats l).length : Nat) : Int) := fun q => v (decide_eq_true q)
              rw [nats_len] at v
              have hlt : i + 1 < l.length := by omega
              have en : l[i + 1]? = some l[i + 1] := List.getElem?_eq_getElem hlt
              have gn : l.getD (i + 1) 0 = l[i + 1] := by rw [List.getD_eq_getElem?_getD, en]; rfl
              refine ⟨_, rfl, _, rfl, _, _, rfl, rfl, b, _, _, _, rfl, rfl, SqL.of hb, at_of (j := i + 1) (by omega) (nats_at en), _, rfl, _, _, rfl, rfl, _, rfl, ite2 (fun o => ?_) (fun o => ?_)⟩
              · have o : ¬ ((l[i + 1] : Nat) : Int) = ((l[i] : Nat) : Int) := ne_dec o
                refine ⟨_, rfl, _, rfl, _, rfl, _, _, rfl, rfl, pa, _, _, _, rfl, rfl, SqL.of q1, at_of (j := l[i] - 1) (by omega) q2, x, _, dx, _, _, rfl, q3, T.clPlay, T.nPlay_striking, playF_striking _ _, _, _, rfl, rfl, some (V.int ((i : Nat) : Int)), some (nV l[i]), ?_, rfl⟩
                have hv : (if i + 1 < l.length ∧ l.getD (i + 1) 0 = l[i] then 0 else ps[l[i] - 1].strike) = ps[l[i] - 1].strike := by rw [if_neg (by rw [gn]; omega)]
                rw [sumTo_succ, hw, hu, hv]
                exact work_st (by (try dsimp only); omega)
              · have o : ((l[i + 1] : Nat) : Int) = ((l[i] : Nat) : Int) := eq_dec o
                refine ⟨some (V.int ((i : Nat) : Int)), some (nV l[i]), ?_, rfl⟩
                have hv : (if i + 1 < l.length ∧ l.getD (i + 1) 0 = l[i] then 0 else ps[l[i] - 1].strike) = 0 := by rw [if_pos (by rw [gn]; omega)]
                rw [sumTo_succ, hw, hu, hv]
                exact work_st (by (try dsimp only); omega)
          · have u : ((l[i - 1]'(by omega) : Nat) : Int) = ((l[i] : Nat) : Int) := eq_dec u
            have hu : (if 0 < i ∧ l.getD (i - 1) 0 = l[i] then 0 else ps[l[i] - 1].set) = 0 := by rw [if_pos (by rw [gm]; omega)]
            refine ⟨_, rfl, _, _, rfl, rfl, _, rfl, b, _, rfl, .inl (SqL.of hb), _, _, rfl, rfl, _, rfl, ite2 (fun v => iteT ?_) (fun v => ?_)⟩
            · have v := of_decide_eq_true v
              rw [nats_len] at v
              refine ⟨_, rfl, _, rfl, _, rfl, _, _, rfl, rfl, pa, _, _, _, rfl, rfl, SqL.of q1, at_of (j := l[i] - 1) (by omega) q2, x, _, dx, _, _, rfl, q3, T.clPlay, T.nPlay_striking, playF_striking _ _, _, _, rfl, rfl, some (V.int ((i : Nat) : Int)), some (nV l[i]), ?_, rfl⟩
              have hv : (if i + 1 < l.length ∧ l.getD (i + 1) 0 = l[i] then 0 else ps[l[i] - 1].strike) = ps[l[i] - 1].strike := by rw [if_neg (by omega)]
              rw [sumTo_succ, hw, hu, hv]
              exact work_st (by (try dsimp only); omega)
            · have v : ¬ ((i : Nat) : Int) + 1 = (((nats l).length : Nat) : Int) := fun q => v (decide_eq_true q)
              rw [nats_len] at v
              have hlt : i + 1 < l.length := by omega
              have en : l[i + 1]? = some l[i + 1] := List.getElem?_eq_getElem hlt
              have gn : l.getD (i + 1) 0 = l[i + 1] := by rw [List.getD_eq_getElem?_getD, en]; rfl
              refine ⟨_, rfl, _, rfl, _, _, rfl, rfl, b, _, _, _, rfl, rfl, SqL.of hb, at_of (j := i + 1) (by omega) (nats_at en), _, rfl, _, _, rfl, rfl, _, rfl, ite2 (fun o => ?_) (fun o => ?_)⟩
              · have o : ¬ ((l[i + 1] : Nat) : Int) = ((l[i] : Nat) : Int) := ne_dec o
                refine ⟨_, rfl, _, rfl, _, rfl, _, _, rfl, rfl, pa, _, _, _, rfl, rfl, SqL.of q1, at_of (j := l[i] - 1) (by omega) q2, x, _, dx, _, _, rfl, q3, T.clPlay, T.nPlay_striking, playF_striking _ _, _, _, rfl, rfl, some (V.int ((i : Nat) : Int)), some (nV l[i]), ?_, rfl⟩
                have hv : (if i + 1 < l.length ∧ l.getD (i + 1) 0 = l[i] then 0 else ps[l[i] - 1].strike) = ps[l[i] - 1].strike := by rw [if_neg (by rw [gn]; omega)]
                rw [sumTo_succ, hw, hu, hv]
                exact work_st (by (try dsimp only); omega)
              · have o : ((l[i + 1] : Nat) : Int) = ((l[i] : Nat) : Int) := eq_dec o
                refine ⟨some (V.int ((i : Nat) : Int)), some (nV l[i]), ?_, rfl⟩
                have hv : (if i + 1 < l.length ∧ l.getD (i + 1) 0 = l[i] then 0 else ps[l[i] - 1].strike) = 0 := by rw [if_pos (by rw [gn]; omega)]
                rw [sumTo_succ, hw, hu, hv]
                exact work_st (by (try dsimp only); omega)
      · have z : ¬ (0 : Int) < ((l[i] : Nat) : Int) := fun q => z (decide_eq_true q)
        have e1' : l[i]? = some 0 := by rw [e1, show l[i] = 0 by omega]
        have e2 : sumTo (workAt ps l) (i + 1) = sumTo (workAt ps l) i := by rw [sumTo_succ, work_dark e1']; rfl
        rw [e2]
        exact ⟨_, _, rfl, rfl⟩
    · rintro σ H' ⟨v3, v4, rfl, rfl⟩
      exact ⟨_, rfl, k⟩
end
end Ps
end
section
set_option Elab.async false
set_option linter.all false
set_option maxRecDepth 100000
set_option maxHeartbeats 2000000
namespace Ps
open PySem PySem.Spec PyProof.Rows L2
/-! xs[i] by values, for xs[i] += 1 -/
inductive QRGetL (K : PySem.W.Frag) (x y : V) (H : Hp) (Q : VK) : Prop
  | mk (p : Addr) (xs : List V) (z : Int) (j : Nat) (v : V) (h1 : x = .ref p) (h2 : y = .int z) (h3 : z = ((j : Nat) : Int)) (h4 : SqL K H p xs) (h5 : xs[j]? = some v) (q : Q v H) : QRGetL K x y H Q
def rGetL (K : PySem.W.Frag) : V → V → Hp → VK → Prop := fun x y H Q => QRGetL K x y H Q
theorem get_list {X : Cx} : PGet X (rGetL X.K) := by
  intro pins s σ H o i ov iv Q I ro ri h
  obtain ⟨p, xs, z, j, v, rfl, rfl, rfl, hq, hj, q⟩ := h
  cases ro
  obtain ⟨t, rfl⟩ := ri
  obtain ⟨its, r, pl, hz⟩ := I.list hq
  obtain ⟨u, hu, ru⟩ := r.get hj
  have hl := (List.getElem?_eq_some_iff.mp hj).1
  have hline : sizeLine = 16777216 := sizeLine_eq
  exact getItem_listL pl.isList (by omega) (by omega) (by rw [Int.toNat_natCast]; exact hu) ⟨v, H, I, ru, q⟩
theorem ix_is {n j : Nat} {z : Int} (e : z = ((j : Nat) : Int)) (h : j < n) : ixN n z = some j := by
  subst e
  unfold ixN
  rw [if_pos (by omega), if_pos (by omega), Int.toNat_natCast]
/-! over enumerate(.., start=1), over zip -/
theorem lc_enum1 {K : PySem.W.Frag} {a : Addr} {xs : List V} {g : TG} {tt : TT} {te : TE} {vs : List Nat} {σ : L2.St} {H1 : Hp} {D : Addr} {Qd : Hp → Prop} (Pv : Nat → Hp → Prop) (h0 : Pv 0 (upd H1 D (.lst []))) (hl : ∀ i H, i ≤ xs.length → Pv i H → SqL K H a xs)
    (hs : ∀ i x H T, xs[i]? = some x → Pv i H → H T = none → g (.ref T) (wipe σ vs) (upd H T (.tup [.int ((i + 1 : Nat) : Int), x])) fun σ2 H2 => wipe σ2 vs = wipe σ vs ∧ tt σ2 H2 fun b H3 =>
      if b = true then te σ2 H3 fun y H4 => QAcc D y H4 (Pv (i + 1)) else Pv (i + 1) H3) (hd : ∀ H, Pv xs.length H → Qd H) :
    ∃ W : Nat → Nat → Hp → Prop, (∃ m, W 0 m (upd H1 D (.lst []))) ∧ ∀ i m H, W i m H →
      ((Ite1 K a).stop i H ∧ Qd H) ∨ ((Ite1 K a).go i H ∧ ∃ Nx : Hp → Prop, (∀ H', Nx H' → ∃ m', m' < m ∧ W (i + 1) m' H') ∧ ∀ x H', (Ite1 K a).yld i H x H' → g x (wipe σ vs) H' fun σ2 H2 => wipe σ2 vs = wipe σ vs ∧ tt σ2 H2 fun b H3 =>
        if b = true then te σ2 H3 fun y H4 => QAcc D y H4 Nx else Nx H3) := by
  refine ⟨fun i m H => m = xs.length - i ∧ i ≤ xs.length ∧ Pv i H, ⟨xs.length, by simp, Nat.zero_le _, h0⟩, ?_⟩
  rintro i m H ⟨rfl, hi, p⟩
  have q := hl i H hi p
  by_cases hlt : i < xs.length
  · refine .inr ⟨⟨xs, xs[i], q, by simp [hlt]⟩, Pv (i + 1), fun H' p' => ⟨xs.length - (i + 1), by omega, rfl, hlt, p'⟩, fun x H' y => ?_⟩
    obtain ⟨T, z, rfl, hT, rfl, y⟩ := y
    exact hs i z _ T (y xs q) p hT
  · have e : i = xs.length := by omega
    subst e
    exact .inl ⟨⟨xs, q, Nat.le_refl _⟩, hd H p⟩
theorem for_zip {K : PySem.W.Frag} {a b : Addr} {xs ys : List V} {g : TG} {tb : TS} {D : Ends} {σ : L2.St} {H : Hp} (hxy : xs.length = ys.length) (Pv : Nat → L2.St → Hp → Prop) (h0 : Pv 0 σ H) (hl : ∀ i σ H, i ≤ xs.length → Pv i σ H → SqL K H a xs ∧ SqL K H b ys)
    (hs : ∀ i x y σ H T, xs[i]? = some x → ys[i]? = some y → Pv i σ H → H T = none → g (.ref T) σ (upd H T (.tup [x, y])) fun σ2 H2 => tb { D with nx := Pv (i + 1), ct := Pv (i + 1), bk := D.nx } σ2 H2) (hd : ∀ σ H, Pv xs.length σ H → D.nx σ H) :
    ∃ W : Nat → Nat → L2.St → Hp → Prop, (∃ m, W 0 m σ H) ∧ ∀ i m σ H, W i m σ H →
      ((Itz K a b).stop i H ∧ D.nx σ H) ∨ ((Itz K a b).go i H ∧ ∃ N : L2.St → Hp → Prop, (∀ σ' H', N σ' H' → ∃ m', m' < m ∧ W (i + 1) m' σ' H') ∧ ∀ x H', (Itz K a b).yld i H x H' → g x σ H' fun σ2 H2 => tb { D with nx := N, ct := N, bk := D.nx } σ2 H2) := by
  refine ⟨fun i m σ H => m = xs.length - i ∧ i ≤ xs.length ∧ Pv i σ H, ⟨xs.length, by simp, Nat.zero_le _, h0⟩, ?_⟩
  rintro i m σ H ⟨rfl, hi, p⟩
  obtain ⟨q1, q2⟩ := hl i σ H hi p
  by_cases hlt : i < xs.length
  · refine .inr ⟨⟨xs, ys, xs[i], ys[i]'(by omega), q1, q2, by simp [hlt], List.getElem?_eq_getElem (by omega)⟩, Pv (i + 1), fun σ' H' p' => ⟨xs.length - (i + 1), by omega, rfl, hlt, p'⟩, fun x H' y => ?_⟩
    obtain ⟨T, u, v, rfl, hT, rfl, y1, y2⟩ := y
    exact hs i u v σ _ T (y1 xs q1) (y2 ys q2) p hT
  · have e : i = xs.length := by omega
    subst e
    exact .inl ⟨⟨xs, ys, q1, q2, .inl (Nat.le_refl _)⟩, hd σ H p⟩
section
variable {P : Program} {w : World} {K : PySem.W.Frag} {mg : Str → Option Value} {base : Heap} {t : Adr}
/-! given_behind -/
inductive QSpGiven (vs : List V) (H : Hp) (Q : VK) : Prop
  | mk (g b : Addr) (s : Uw08.Season) (p : Uw08.Plan) (l : List Nat) (h1 : vs = [.ref g, .ref b]) (h2 : Row H g (givens s p)) (h3 : Row H b l) (h4 : s.plays.length ≤ 3) (q : ∀ (H' : Hp) (r : Addr), Same H H' → Row H' r (givens s (p ++ [l])) → H r = none → Q (.ref r) H') : QSpGiven vs H Q
def spGiven : Sp := fun vs H Q _ => QSpGiven vs H Q
theorem sc_given : FnScope ["given", "bill", "number", "times"] ["given", "bill"] (defScope s_given_behind) := ⟨rfl, rfl, rfl, by decide +kernel, rfl, by decide +kernel, by decide +kernel⟩
theorem ok_given_behind (T : Txt K mg t) : FnOk P w K mg base CX0 1 t.f_given_behind t.d_given_behind ["given", "bill"] spGiven := by
  refine T.F_given_behind.ok sc_given (fun vs H Q E h => ?_) (fun cdv A outer s0 H vs Q E hr h => ?_)
  · obtain ⟨g, b, s, p, l, rfl, _⟩ := h
    rfl
  · obtain ⟨g, b, s, p, l, rfl, hg, hb, hpl, k⟩ := h
    refine ⟨_, pss_one (ps_ret (pe_lc (own := [("number", 2), ("times", 3)]) (g := gTup K 2 (gCons (gName 2) (gCons (gName 3) gNil))) (te := tOp (rI0 fun i j => .int (i + j)) (tVar 3) (tBM K "list" (rCount K) (tVar 1) (tCons (tVar 2) tNil))) rfl sc_given.nd
      (pi_enum1 rfl T.b_enumerate (pa_cons (pv 0) pa_nil) (pk_cons pe_int pk_nil)) (blkOk_by (by show blkC ["given", "bill", "number", "times"] (defScope s_given_behind) _ [("number", 2), ("times", 3)] = true; decide +kernel))
      (fun _ _ _ _ _ => pg_tup rfl (pgs_cons (pg_name (i := 2) sc_given.nd rfl (Or.inl rfl)) (pgs_cons (pg_name (i := 3) sc_given.nd rfl (Or.inl rfl)) pgs_nil)))
      (fun _ _ _ _ _ => pts_nil)
      (fun _ _ _ _ _ => pe_op op_add (pv 3) (pe_bm PySem.F.plainAttrs_list PySem.F.slot_list_count PySem.F.type_list_count mt_countI (pv 1) (pa_cons (pv 2) pa_nil))))), ?_⟩
    refine ⟨_, rfl, g, _, rfl, rfl, SqL.of hg, fun D hD => ?_⟩
    refine lc_enum1 (K := K) (a := g) (xs := nats (givens s p)) (fun i H3 => Same H H3 ∧ Row H3 D ((givens s (p ++ [l])).take i)) ⟨same_upd hD, upd_same⟩ (fun i H3 _ ⟨S3, _⟩ => SqL.of (S3 _ _ hg)) ?_ ?_
    · rintro i x H3 X hi ⟨S3, hR⟩ hX
      obtain ⟨n, hn, rfl⟩ := nats_of hi
      have hil : i < s.plays.length := by have := (List.getElem?_eq_some_iff.mp hn).1; rw [givens_len] at this; exact this
      rw [givens_at s p hil] at hn
      have hn : Uw08.given p (i + 1) = n := Option.some.inj hn
      have S4 : Same H3 (upd H3 X (.tup [.int ((i + 1 : Nat) : Int), nV n])) := same_upd hX
      refine ⟨X, _, rfl, SqT.of upd_same, rfl, _, _, rfl, _, _, rfl, rfl, rfl, _, rfl, _, rfl, .inl ⟨rfl, _, SqL.of (S4 _ _ (S3 _ _ hb))⟩, _, rfl, b, _, _, rfl, rfl, SqL.of (Row.i (S4 _ _ (S3 _ _ hb))), _, _, rfl, rfl, _, S4 _ _ hR, ?_, fun c o e => ?_, ?_⟩
      · rw [nats_len, List.length_take, givens_len]
        have : sizeLine = 16777216 := sizeLine_eq
        omega
      · rw [upd_ne (ne_of_none e hD)]; exact S4 _ _ (S3 _ _ e)
      · show upd _ D _ D = _
        rw [upd_same, count_times, take_snoc (givens_at s (p ++ [l]) hil), given_snoc, ← nats_snoc]
        congr 4
        refine nV_of ?_
        rw [← hn]; omega
    · rintro H3 ⟨S3, hR⟩
      refine k H3 D S3 ?_ hD
      rw [nats_len, givens_len, ← givens_len s (p ++ [l]), List.take_length] at hR
      exact hR
/-! taken_by -/
def tms (s : Uw08.Season) (p : Uw08.Plan) (l : List Nat) (i : Nat) : List Nat := (List.range s.plays.length).map fun k => Uw08.given p (k + 1) + Uw05.times (l.take i) (k + 1)
theorem tms_len (s : Uw08.Season) (p : Uw08.Plan) (l : List Nat) (i : Nat) : (tms s p l i).length = s.plays.length := by unfold tms; rw [List.length_map, List.length_range]
theorem tms_at {s : Uw08.Season} {p : Uw08.Plan} {l : List Nat} {i k : Nat} (h : k < s.plays.length) : (tms s p l i)[k]? = some (Uw08.given p (k + 1) + Uw05.times (l.take i) (k + 1)) := by
  unfold tms
  rw [List.getElem?_map, List.getElem?_range h]
  rfl
theorem tms_zero (s : Uw08.Season) (p : Uw08.Plan) (l : List Nat) : tms s p l 0 = givens s p := by
  unfold tms givens
  rw [List.take_zero]
  rfl
theorem tms_dark {s : Uw08.Season} {p : Uw08.Plan} {l : List Nat} {i : Nat} (h : l[i]? = some 0) : tms s p l (i + 1) = tms s p l i := by
  unfold tms
  apply List.map_congr_left
  intro k _
  rw [take_snoc h, times_snoc, if_neg (by omega)]
  rfl
theorem tms_lit {s : Uw08.Season} {p : Uw08.Plan} {l : List Nat} {i k : Nat} (h : l[i]? = some k) (hk : 0 < k) (hl : k - 1 < s.plays.length) : (tms s p l i).set (k - 1) (Uw08.given p k + Uw05.times (l.take i) k + 1) = tms s p l (i + 1) := by
  apply List.ext_getElem?
  intro j
  rw [List.getElem?_set]
  by_cases e : k - 1 = j
  · subst e
    rw [if_pos rfl, tms_len, if_pos hl, tms_at hl, take_snoc h, times_snoc, show k - 1 + 1 = k by omega, if_pos rfl]
    rfl
  · rw [if_neg e]
    by_cases hj : j < s.plays.length
    · rw [tms_at hj, tms_at hj, take_snoc h, times_snoc, if_neg (by omega)]
      rfl
    · rw [List.getElem?_eq_none (by rw [tms_len]; omega), List.getElem?_eq_none (by rw [tms_len]; omega)]
inductive QSpTaken (t : Adr) (vs : List V) (H : Hp) (Q : VK) : Prop
  | mk (a pa qa g b : Addr) (s : Uw08.Season) (p : Uw08.Plan) (l : List Nat) (h1 : vs = [.ref a, .ref g, .ref b]) (h2 : CompAt t H a pa qa s) (h3 : WF s) (h4 : Row H g (givens s p)) (h5 : Row H b l) (h6 : BillOk s l) (q : ∀ H' : Hp, Same H H' → Q (nV ((s.week p).took l)) H') : QSpTaken t vs H Q
def spTaken (t : Adr) : Sp := fun vs H Q _ => QSpTaken t vs H Q
theorem sc_taken : FnScope ["company", "given", "bill", "times", "taken", "night", "number", "brings", "which"] ["company", "given", "bill"] (defScope s_taken_by) := ⟨rfl, rfl, rfl, by decide +kernel, rfl, by decide +kernel, by decide +kernel⟩
theorem ok_taken_by (T : Txt K mg t) : FnOk P w K mg base CX0 1 t.f_taken_by t.d_taken_by ["company", "given", "bill"] (spTaken t) := by
  refine T.F_taken_by.ok sc_taken (fun vs H Q E h => ?_) (fun cdv A outer s0 H vs Q E hr h => ?_)
  · obtain ⟨a, pa, qa, g, b, s, p, l, rfl, _⟩ := h
    rfl
  · obtain ⟨a, pa, qa, g, b, s, p, l, rfl, hC, wf, hg, hb, ok, k⟩ := h
    refine ⟨_, pss_cons (ps_set (i := 3) sc_taken.nd rfl (Or.inl rfl) (pe_callTy call_list_of (by rfl) T.b_list PyProof.Rows.boot_list (pa_cons (pv 1) pa_nil)))
      (pss_cons (ps_set (i := 4) sc_taken.nd rfl (Or.inl rfl) pe_int)
      (pss_cons (ps_for PassesOwn.never rfl (pi_range1 rfl T.b_range (pa_cons (pe_callB call_len_seq (by rfl) T.b_len PySem.boot_len (pa_cons (pv 2) pa_nil)) pa_nil)) (pg_name (i := 5) sc_taken.nd rfl (Or.inl rfl))
        (pss_cons (ps_set (i := 6) sc_taken.nd rfl (Or.inl rfl) (pe_ix ix_list (pv 2) (pv 5) (fun _ _ => rfl)))
        (pss_one (ps_if (pt_cmp (pc_gt (pv 6) pe_int))
          (pss_cons (ps_set (i := 7) sc_taken.nd rfl (Or.inl rfl) (pe_fld (pe_ix ix_list (pe_fld (pv 0) rfl) (pe_op op_sub (pv 6) pe_int) (fun _ _ => rfl)) rfl))
          (pss_cons (ps_set (i := 8) sc_taken.nd rfl (Or.inl rfl) (pe_callB (call_min2 rfl) (by rfl) T.b_min PyProof.Rows.boot_min (pa_cons (pe_ix ix_list (pv 3) (pe_op op_sub (pv 6) pe_int) (fun _ _ => rfl)) (pa_cons (pe_op op_sub (pe_callB call_len_seq (by rfl) T.b_len PySem.boot_len (pa_cons (pv 7) pa_nil)) pe_int) pa_nil))))
          (pss_cons (ps_aug (i := 4) sc_taken.nd rfl (Or.inl rfl) (pe_op op_fdiv (pe_op op_mul (pe_ix ix_list (pv 7) (pv 8) (fun _ _ => rfl)) (pe_ix ix_list (pe_fld (pv 0) rfl) (pv 5) (fun _ _ => rfl))) pe_int) ip_add)
          (pss_one (ps_augS (pv 3) (pe_op op_sub (pv 6) pe_int) get_list pe_int ip_add set_list))))) pss_nil))))
      (pss_one (ps_ret (pv 4))))), ?_⟩
    obtain ⟨⟨dx, ca, hA, hca, _⟩, ⟨as, hpa, hps⟩, _⟩ := id hC
    have wpl := wf.pl
    have hline : sizeLine = 16777216 := sizeLine_eq
    have hll : l.length ≤ 2 := by rw [ok.len]; exact wf.nl
    refine ⟨_, rfl, g, _, rfl, .inl (SqL.of hg), fun tm htm => ?_⟩
    have S0 : Same H (upd H tm (.lst (nats (givens s p)))) := same_upd htm
    refine ⟨_, rfl, b, _, rfl, .inl (SqL.of (S0 _ _ hb)), _, rfl, by omega, by rw [nats_len]; omega, ?_⟩
    have e0 : (((nats l).length : Nat) : Int).toNat = l.length := by rw [nats_len]; omega
    rw [e0]
    refine for_range (lo := 0) (n := l.length) (fun i σ H' => ∃ v5 v6 v7 v8, σ = [some (.ref a), some (.ref g), some (.ref b), some (.ref tm), some (nV (sumTo (takeAt s p l) i)), v5, v6, v7, v8] ∧ Same H H' ∧ Row H' tm (tms s p l i)) ⟨none, none, none, none, rfl, S0, by show upd _ _ _ tm = _; rw [upd_same, tms_zero]⟩ ?_ ?_
    · rintro i σ H' hi ⟨v5, v6, v7, v8, rfl, S1, htms⟩
      rw [zero_int]
      have e1 : l[i]? = some l[i] := List.getElem?_eq_getElem hi
      have hle := ok.le _ (List.getElem_mem hi)
      refine ⟨_, rfl, _, rfl, b, _, _, _, rfl, rfl, SqL.of (S1 _ _ hb), atI_nat (nats_at e1), _, rfl, _, _, rfl, rfl, _, rfl, ite2 (fun z => ?_) (fun z => ?_)⟩
      · have z := of_decide_eq_true z
        have hpos : 0 < l[i] := by omega
        have hkl : l[i] - 1 < s.plays.length := by omega
        have ep : s.plays[l[i] - 1]? = some s.plays[l[i] - 1] := List.getElem?_eq_getElem hkl
        have pok := wf.pk _ (List.getElem_mem hkl)
        obtain ⟨xs, x, dx', br, q1, q2, q3, q4⟩ := ((hC.same S1).playsAt).at_ ep
        have etm := tms_at (s := s) (p := p) (l := l) (i := i) hkl
        rw [show l[i] - 1 + 1 = l[i] by omega] at etm
        generalize hj : min (Uw08.given p l[i] + Uw05.times (l.take i) l[i]) (s.plays[l[i] - 1].brings.length - 1) = j
        have hb1 := pok.b1
        have hjl : j < s.plays[l[i] - 1].brings.length := by omega
        have ebr : s.plays[l[i] - 1].brings[j]? = some s.plays[l[i] - 1].brings[j] := List.getElem?_eq_getElem hjl
        have hnl : i < s.nights.length := by rw [← ok.len]; exact hi
        have en : s.nights[i]? = some s.nights[i] := List.getElem?_eq_getElem hnl
        have hval := take_lit (bf := p) e1 hpos ep hb1 en
        rw [hj, List.getD_eq_getElem?_getD, ebr] at hval
        have hx1 := pok.bx _ (List.getElem_mem hjl)
        have hx2 := wf.nb _ (List.getElem_mem hnl)
        refine ⟨_, rfl, a, _, dx, _, _, rfl, S1 _ _ hA, T.clCompany, T.nCompany_plays, compF_plays _ _ _ _, _, rfl, _, _, rfl, rfl, pa, _, _, _, rfl, rfl, SqL.of q1, at_of (j := l[i] - 1) (by omega) q2, x, _, dx', _, _, rfl, q3, T.clPlay, T.nPlay_brings, playF_brings _ _, ?_⟩
        refine ⟨_, rfl, _, rfl, _, _, rfl, rfl, tm, _, _, _, rfl, rfl, SqL.of htms, at_of (j := l[i] - 1) (by omega) (nats_at etm), _, rfl, br, _, rfl, .inl (SqL.of q4), _, _, rfl, rfl, _, _, rfl, ?_⟩
        have emin : (if (((nats s.plays[l[i] - 1].brings).length : Nat) : Int) - 1 < (((Uw08.given p l[i] + Uw05.times (l.take i) l[i] : Nat)) : Int) then (((nats s.plays[l[i] - 1].brings).length : Nat) : Int) - 1 else (((Uw08.given p l[i] + Uw05.times (l.take i) l[i] : Nat)) : Int)) = ((j : Nat) : Int) := by
          rw [nats_len]
          by_cases c : ((s.plays[l[i] - 1].brings.length : Nat) : Int) - 1 < (((Uw08.given p l[i] + Uw05.times (l.take i) l[i] : Nat)) : Int)
          · rw [if_pos c]; omega
          · rw [if_neg c]; omega
        rw [emin]
        refine ⟨_, rfl, _, rfl, _, rfl, br, _, _, _, rfl, rfl, SqL.of q4, atI_nat (nats_at ebr), _, rfl, a, _, dx, _, _, rfl, S1 _ _ hA, T.clCompany, T.nCompany_crowds, compF_crowds _ _ _ _, _, rfl, ca, _, _, _, rfl, rfl, SqL.of (S1 _ _ hca), atI_nat (nats_at en), _, _, rfl, rfl, .inl ⟨by omega, by omega⟩, _, _, rfl, rfl, ⟨by decide, by decide⟩, _, _, rfl, rfl, ?_⟩
        have eone : ((l[i] : Nat) : Int) - 1 = ((l[i] - 1 : Nat) : Int) := by omega
        refine ⟨_, rfl, _, rfl, _, _, rfl, rfl, tm, _, _, _, _, rfl, rfl, eone, SqL.of htms, nats_at etm, _, _, rfl, rfl, tm, _, _, l[i] - 1, rfl, rfl, htms, ix_is eone (by rw [nats_len, tms_len]; exact hkl), ?_⟩
        refine ⟨some (V.int ((i : Nat) : Int)), some (nV l[i]), some (V.ref br), some (V.int ((j : Nat) : Int)), ?_, fun c o e => ?_, ?_⟩
        · have q : (((sumTo (takeAt s p l) i : Nat)) : Int) + ((s.plays[l[i] - 1].brings[j] : Nat) : Int) * ((s.nights[i] : Nat) : Int) / 100 = ((sumTo (takeAt s p l) (i + 1) : Nat) : Int) := by
            rw [sumTo_succ, hval]
            show _ = ((sumTo (takeAt s p l) i + s.plays[l[i] - 1].brings[j] * s.nights[i] / 100 : Nat) : Int)
            omega
          show [_, _, _, _, some (V.int _), _, _, _, _] = [_, _, _, _, some (nV _), _, _, _, _]
          rw [← nV_of q]
        · rw [upd_ne (ne_of_none e htm)]; exact S1 _ _ e
        · show upd _ tm _ tm = _
          rw [upd_same, ← tms_lit e1 hpos hkl]
          unfold nats
          rw [List.map_set]
          rfl
      · have z : ¬ (0 : Int) < ((l[i] : Nat) : Int) := fun q => z (decide_eq_true q)
        have e1' : l[i]? = some 0 := by rw [e1, show l[i] = 0 by omega]
        have e2 : sumTo (takeAt s p l) (i + 1) = sumTo (takeAt s p l) i := by rw [sumTo_succ, take_dark e1']; rfl
        rw [e2, tms_dark e1']
        exact ⟨_, _, _, _, rfl, S1, htms⟩
    · rintro σ H' ⟨v5, v6, v7, v8, rfl, S1, htms⟩
      exact ⟨_, rfl, k H' S1⟩
end
end Ps
end
section
set_option Elab.async false
set_option linter.all false
set_option maxRecDepth 100000
set_option maxHeartbeats 2000000
namespace Ps
open PySem PySem.Spec PyProof.Rows L2
section
variable {P : Program} {w : World} {K : PySem.W.Frag} {mg : Str → Option Value} {base : Heap} {t : Adr}
theorem min_if (i j : Int) : (if j < i then j else i) = min i j := by
  by_cases h : j < i
  · rw [if_pos h]; omega
  · rw [if_neg h]; omega
/-! leaves -/
inductive QSpLeaves (t : Adr) (vs : List V) (H : Hp) (Q : VK) : Prop
  | mk (a pa qa g b : Addr) (s : Uw08.Season) (p : Uw08.Plan) (l : List Nat) (h1 : vs = [.ref a, .ref g, .ref b]) (h2 : CompAt t H a pa qa s) (h3 : WF s) (h4 : Row H g (givens s p)) (h5 : Row H b l) (h6 : BillOk s l) (q : ∀ H' : Hp, Same H H' → Q (.int ((s.week p).left l)) H') : QSpLeaves t vs H Q
def spLeaves (t : Adr) : Sp := fun vs H Q _ => QSpLeaves t vs H Q
theorem sc_leaves : FnScope ["company", "given", "bill"] ["company", "given", "bill"] (defScope s_leaves) := ⟨rfl, rfl, rfl, by decide +kernel, rfl, by decide +kernel, by decide +kernel⟩
theorem ok_leaves (T : Txt K mg t) : FnOk P w K mg base CX0 2 t.f_leaves t.d_leaves ["company", "given", "bill"] (spLeaves t) := by
  refine T.F_leaves.ok sc_leaves (fun vs H Q E h => ?_) (fun cdv A outer s0 H vs Q E hr h => ?_)
  · obtain ⟨a, pa, qa, g, b, s, p, l, rfl, _⟩ := h
    rfl
  · obtain ⟨a, pa, qa, g, b, s, p, l, rfl, hC, wf, hg, hb, ok, k⟩ := h
    refine ⟨_, pss_one (ps_ret (pe_op op_sub (pe_call (ok_taken_by T) hr rfl T.g_taken_by T.F_taken_by.kp T.B_taken_by .nil pass0 (pa_cons (pv 0) (pa_cons (pv 1) (pa_cons (pv 2) pa_nil))))
      (pe_call (ok_work_of T) hr rfl T.g_work_of T.F_work_of.kp T.B_work_of .nil pass0 (pa_cons (pe_fld (pv 0) rfl) (pa_cons (pv 2) pa_nil))))), ?_⟩
    refine ⟨_, rfl, _, rfl, _, rfl, a, pa, qa, g, b, s, p, l, rfl, hC, wf, hg, hb, ok, fun H1 S1 => ?_⟩
    obtain ⟨dx, ca, hA, hca, _⟩ := (hC.same S1).ex
    refine ⟨_, rfl, a, _, dx, _, _, rfl, hA, T.clCompany, T.nCompany_plays, compF_plays _ _ _ _, _, rfl, pa, b, s.plays, l, rfl, (hC.same S1).playsAt, S1 _ _ hb, ok.le, by have := ok.len; have := wf.nl; omega, _, _, rfl, rfl, ?_⟩
    rw [← works_eq s p l]
    exact k H1 S1
/-! settle -/
inductive QSpSettle (t : Adr) (vs : List V) (H : Hp) (Q : VK) : Prop
  | mk (a pa qa : Addr) (s : Uw08.Season) (c : Uw06.Company) (tk wk : Nat) (h1 : vs = [.ref a, nV c.fund, nV c.debt, .int ((tk : Int) - (wk : Int))]) (h2 : CompAt t H a pa qa s) (h3 : Co s c) (q : ∀ (H' : Hp) (r : Addr), Same H H' → H' r = some (.tup [nV (c.day tk (s.costs + wk)).after.fund, nV (c.day tk (s.costs + wk)).after.debt, nV (Uw08.total (c.day tk (s.costs + wk)).given)]) → Q (.ref r) H') : QSpSettle t vs H Q
def spSettle (t : Adr) : Sp := fun vs H Q _ => QSpSettle t vs H Q
theorem sc_settle : FnScope ["company", "fund", "debt", "left", "rest", "helped", "repaid", "filled"] ["company", "fund", "debt", "left"] (defScope s_settle) := ⟨rfl, rfl, rfl, by decide +kernel, rfl, by decide +kernel, by decide +kernel⟩
theorem tup3 {x y z : Int} {a b c : Nat} (h1 : x = (a : Int)) (h2 : y = (b : Int)) (h3 : z = (c : Int)) : HO.tup [V.int x, V.int y, V.int z] = HO.tup [nV a, nV b, nV c] := by rw [nV_of h1, nV_of h2, nV_of h3]
theorem st_lt {tk wk w w' k : Nat} (e : w = w') (h : ((((tk : Int) - (wk : Int)) - (w' : Int)) - (k : Int)) < 0) : tk < w + (k + wk) := by omega
theorem st_ge {tk wk w w' k : Nat} (e : w = w') (h : ¬ ((((tk : Int) - (wk : Int)) - (w' : Int)) - (k : Int)) < 0) : ¬ tk < w + (k + wk) := by omega
theorem st_less {tk wk w w' k : Nat} (e : w = w') (h : tk < w + (k + wk)) : (((tk : Int) - (wk : Int)) - (w' : Int)) - (k : Int) = -((w + (k + wk) - tk : Nat) : Int) := by omega
theorem st_more {tk wk w w' k : Nat} (e : w = w') (h : ¬ tk < w + (k + wk)) : (((tk : Int) - (wk : Int)) - (w' : Int)) - (k : Int) = ((tk - (w + (k + wk)) : Nat) : Int) := by omega
theorem st_min (a b : Nat) : min (a : Int) (b : Int) = ((min a b : Nat) : Int) := by omega
theorem st_off {a b : Nat} (h : b ≤ a) : (a : Int) - (b : Int) = ((a - b : Nat) : Int) := by omega
theorem st_s1 {f R : Nat} {L : Int} (h : L = -(R : Int)) : (f : Int) - min (f : Int) (-L) = ((f - min f R : Nat) : Int) := by
  rw [h, Int.neg_neg, st_min, st_off (Nat.min_le_left _ _)]
theorem st_s2 {d f R : Nat} {L : Int} (h : L = -(R : Int)) : ((d : Int) - L) - min (f : Int) (-L) = ((d + (R - min f R) : Nat) : Int) := by
  rw [h, Int.neg_neg, st_min, Int.sub_neg, Int.add_sub_assoc, st_off (Nat.min_le_right _ _)]; rfl
theorem st_d {d R : Nat} {L : Int} (h : L = (R : Int)) : (d : Int) - min (d : Int) L = ((d - min d R : Nat) : Int) := by
  rw [h, st_min, st_off (Nat.min_le_left _ _)]
theorem st_r {d R : Nat} {L : Int} (h : L = (R : Int)) : L - min (d : Int) L = ((R - min d R : Nat) : Int) := by
  rw [h, st_min, st_off (Nat.min_le_right _ _)]
theorem st_a {f d R : Nat} {L : Int} (h : L = (R : Int)) : (f : Int) + (L - min (d : Int) L) = ((f + (R - min d R) : Nat) : Int) := by
  rw [st_r h]; rfl
theorem st_f {f m m' d R : Nat} {L : Int} (h : L = (R : Int)) (e : m = m') (hf : f ≤ m) : (f : Int) + min ((m' : Int) - (f : Int)) (L - min (d : Int) L) = ((f + min (m - f) (R - min d R) : Nat) : Int) := by
  rw [st_r h, ← e, st_off hf, st_min]; rfl
theorem st_g {f m m' d R : Nat} {L : Int} (h : L = (R : Int)) (e : m = m') (hf : f ≤ m) : (L - min (d : Int) L) - min ((m' : Int) - (f : Int)) (L - min (d : Int) L) = ((R - min d R - min (m - f) (R - min d R) : Nat) : Int) := by
  rw [st_r h, ← e, st_off hf, st_min, st_off (Nat.min_le_right _ _)]
theorem ok_settle (T : Txt K mg t) : FnOk P w K mg base CX0 1 t.f_settle t.d_settle ["company", "fund", "debt", "left"] (spSettle t) := by
  refine T.F_settle.ok sc_settle (fun vs H Q E h => ?_) (fun cdv A outer s0 H vs Q E hr h => ?_)
  · obtain ⟨a, pa, qa, s, c, tk, wk, rfl, _⟩ := h
    rfl
  · obtain ⟨a, pa, qa, s, c, tk, wk, rfl, hC, C, k⟩ := h
    refine ⟨_, pss_cons (ps_set (i := 4) sc_settle.nd rfl (Or.inl rfl) (pe_op op_sub (pe_op op_sub (pv 3) (pe_fld (pv 0) rfl)) (pe_fld (pv 0) rfl)))
      (pss_cons (ps_if (pt_cmp (pc_lt (pv 4) pe_int))
        (pss_cons (ps_set (i := 5) sc_settle.nd rfl (Or.inl rfl) (pe_callB (call_min2 rfl) (by rfl) T.b_min PyProof.Rows.boot_min (pa_cons (pv 1) (pa_cons (pe_un un_neg (pv 4)) pa_nil))))
        (pss_one (ps_ret (pe_tup (pa_cons (pe_op op_sub (pv 1) (pv 5)) (pa_cons (pe_op op_sub (pe_op op_sub (pv 2) (pv 4)) (pv 5)) (pa_cons pe_int pa_nil))))))) pss_nil)
      (pss_cons (ps_set (i := 6) sc_settle.nd rfl (Or.inl rfl) (pe_callB (call_min2 rfl) (by rfl) T.b_min PyProof.Rows.boot_min (pa_cons (pv 2) (pa_cons (pv 4) pa_nil))))
      (pss_cons (ps_aug (i := 4) sc_settle.nd rfl (Or.inl rfl) (pv 6) ip_sub)
      (pss_cons (ps_if (pt_cmpR (op_eqNil hr.units) (pe_fld (pv 0) rfl) (pe_lst pa_nil) (nomark _))
        (pss_one (ps_ret (pe_tup (pa_cons (pe_op op_add (pv 1) (pv 4)) (pa_cons (pe_op op_sub (pv 2) (pv 6)) (pa_cons pe_int pa_nil)))))) pss_nil)
      (pss_cons (ps_set (i := 7) sc_settle.nd rfl (Or.inl rfl) (pe_callB (call_min2 rfl) (by rfl) T.b_min PyProof.Rows.boot_min (pa_cons (pe_op op_sub (pe_fld (pv 0) rfl) (pv 1)) (pa_cons (pv 4) pa_nil))))
      (pss_one (ps_ret (pe_tup (pa_cons (pe_op op_add (pv 1) (pv 7)) (pa_cons (pe_op op_sub (pv 2) (pv 6)) (pa_cons (pe_op op_sub (pv 4) (pv 7)) pa_nil))))))))))), ?_⟩
    obtain ⟨⟨dx, ca, hA, hca, _⟩, _, hqa, _⟩ := id hC
    have D := day_ok C.good tk (s.costs + wk)
    have ew := C.wages
    have em := C.most
    refine ⟨_, rfl, _, rfl, a, _, dx, _, _, rfl, hA, T.clCompany, T.nCompany_wages, compF_wages _ _ _ _, _, _, rfl, rfl, _, rfl, a, _, dx, _, _, rfl, hA, T.clCompany, T.nCompany_costs, compF_costs _ _ _ _, _, _, rfl, rfl, _, rfl, _, _, rfl, rfl, _, rfl, ite2 (fun z => ?_) (fun z => ?_)⟩
    · have z := of_decide_eq_true z
      have hs : tk < c.wages + (s.costs + wk) := st_lt ew z
      have eL := st_less ew hs
      obtain ⟨d1, d2, d3⟩ := D.short hs
      refine ⟨_, rfl, _, rfl, _, rfl, _, _, rfl, ?_⟩
      rw [min_if]
      refine ⟨_, rfl, _, rfl, _, _, rfl, rfl, _, rfl, _, rfl, _, _, rfl, rfl, _, rfl, _, _, rfl, rfl, (by show 3 ≤ sizeLine; decide), fun r hr' => k _ r (same_upd hr') ?_⟩
      rw [upd_same, d1, d2, d3]
      exact congrArg some (tup3 (st_s1 eL) (st_s2 eL) rfl)
    · have z : ¬ (((tk : Int) - (wk : Int)) - ((s.company.wages : Nat) : Int)) - ((s.costs : Nat) : Int) < 0 := fun q => z (decide_eq_true q)
      have hs : ¬ tk < c.wages + (s.costs + wk) := st_ge ew z
      have eL := st_more ew hs
      have dd := D.debt hs
      refine ⟨_, rfl, _, rfl, _, _, rfl, ?_⟩
      rw [min_if]
      refine ⟨_, rfl, _, rfl, _, _, rfl, rfl, ?_⟩
      refine ⟨_, rfl, a, _, dx, _, _, rfl, hA, T.clCompany, T.nCompany_parts, compF_parts _ _ _ _, Nat.zero_le _, fun e0 he0 => ?_⟩
      have S1 : Same H (upd H e0 (.lst [])) := same_upd he0
      refine ⟨qa, e0, rfl, rfl, upd_same, .inl ⟨_, Row.i (S1 _ _ hqa), _, rfl, ite2 (fun y => ?_) (fun y => ?_)⟩⟩
      · have y : ((s.company.sharers.map fun x => x.parts).map fun (n : Nat) => (n : Int)) = [] := of_decide_eq_true y
        have hn : c.sharers = [] := by
          have : s.company.sharers = [] := by simpa using y
          exact List.length_eq_zero_iff.mp (by rw [C.len, this]; rfl)
        have df := D.alone hs hn
        have dg := D.nobody hn
        refine ⟨_, rfl, _, rfl, _, _, rfl, rfl, _, rfl, _, rfl, _, _, rfl, rfl, (by show 3 ≤ sizeLine; decide), fun r hr' => k _ r (S1.trans (same_upd hr')) ?_⟩
        rw [upd_same, df, dd, dg]
        exact congrArg some (tup3 (st_a eL) (st_d eL) rfl)
      · have hn : c.sharers ≠ [] := fun q => y (decide_eq_true (by
          have : s.company.sharers = [] := List.length_eq_zero_iff.mp (by rw [← C.len, q]; rfl)
          rw [this]; rfl))
        obtain ⟨df, dg⟩ := D.shared hs hn
        have hf := C.fund hn
        obtain ⟨dx2, ca2, hA2, _⟩ := (hC.same S1).ex
        refine ⟨_, rfl, a, _, dx2, _, _, rfl, hA2, T.clCompany, T.nCompany_fund_limit, compF_fund_limit _ _ _ _, _, rfl, _, _, rfl, rfl, _, rfl, _, _, rfl, ?_⟩
        rw [min_if]
        refine ⟨_, rfl, _, rfl, _, _, rfl, rfl, _, rfl, _, rfl, _, _, rfl, rfl, _, rfl, _, rfl, _, _, rfl, rfl, (by show 3 ≤ sizeLine; decide), fun r hr' => k _ r (S1.trans (same_upd hr')) ?_⟩
        rw [upd_same, df, dd, dg]
        exact congrArg some (tup3 (st_f eL em hf) (st_d eL) (st_g eL em hf))
/-! a standing, its parts told -/
structure StandAs (t : Adr) (H : Hp) (s : Uw08.Season) (x : Addr) (p : Uw08.Plan) (g b q : Addr) (bs : List Addr) : Prop where
  ex : ∃ dx, H x = some (.ins t.cStanding dx (standF g (co s p).fund (co s p).debt b q))
  given : Row H g (givens s p)
  bills : H b = some (.lst (refs bs))
  rows : Paired (Row H) bs p
  pays : Row H q (pays s p)
theorem StandAt.as {H : Hp} {s : Uw08.Season} {x : Addr} {p : Uw08.Plan} (h : StandAt t H s x p) : ∃ g b q bs, StandAs t H s x p g b q bs := by
  obtain ⟨dx, g, b, q, bs, h1, h2, h3, h4, h5⟩ := h.ex
  exact ⟨g, b, q, bs, ⟨dx, h1⟩, h2, h3, h4, h5⟩
theorem StandAs.at_ {H : Hp} {s : Uw08.Season} {x g b q : Addr} {bs : List Addr} {p : Uw08.Plan} (h : StandAs t H s x p g b q bs) : StandAt t H s x p := by
  obtain ⟨⟨dx, h1⟩, h2, h3, h4, h5⟩ := h
  exact ⟨dx, g, b, q, bs, h1, h2, h3, h4, h5⟩
theorem StandAs.same {H H' : Hp} {s : Uw08.Season} {x g b q : Addr} {bs : List Addr} {p : Uw08.Plan} (S : Same H H') (h : StandAs t H s x p g b q bs) : StandAs t H' s x p g b q bs := by
  obtain ⟨⟨dx, h1⟩, h2, h3, h4, h5⟩ := h
  exact ⟨⟨dx, S _ _ h1⟩, S _ _ h2, S _ _ h3, Paired.mapP h4 fun _ _ => S _ _, S _ _ h5⟩
/-! behind_week -/
inductive QSpWeek (t : Adr) (vs : List V) (H : Hp) (Q : VK) : Prop
  | mk (a pa qa x b g bl q : Addr) (bs : List Addr) (s : Uw08.Season) (p : Uw08.Plan) (l : List Nat) (h1 : vs = [.ref a, .ref x, .ref b]) (h2 : CompAt t H a pa qa s) (h3 : WF s) (h4 : StandAs t H s x p g bl q bs) (h5 : Row H b l) (h6 : BillOk s l) (h7 : p.length ≤ 1000) (q : ∀ (H' : Hp) (r g' b' q' : Addr), Same H H' → StandAs t H' s r (p ++ [l]) g' b' q' (bs ++ [b]) → H r = none → H g' = none → H b' = none → H q' = none → Q (.ref r) H') : QSpWeek t vs H Q
def spWeek (t : Adr) : Sp := fun vs H Q _ => QSpWeek t vs H Q
theorem sc_week : FnScope ["company", "standing", "bill", "left", "settled", "given"] ["company", "standing", "bill"] (defScope s_behind_week) := ⟨rfl, rfl, rfl, by decide +kernel, rfl, by decide +kernel, by decide +kernel⟩
theorem ok_behind_week (T : Txt K mg t) : FnOk P w K mg base CX0 3 t.f_behind_week t.d_behind_week ["company", "standing", "bill"] (spWeek t) := by
  refine T.F_behind_week.ok sc_week (fun vs H Q E h => ?_) (fun cdv A outer s0 H vs Q E hr h => ?_)
  · obtain ⟨a, pa, qa, x, b, g, bl, q, bs, s, p, l, rfl, _⟩ := h
    rfl
  · obtain ⟨a, pa, qa, x, b, g, bl, q, bs, s, p, l, rfl, hC, wf, hX, hb, ok, hpl, k⟩ := h
    have hr1 : Room 1 _ := hr.mono (by decide)
    refine ⟨_, pss_cons (ps_set (i := 3) sc_week.nd rfl (Or.inl rfl) (pe_call (ok_leaves T) hr rfl T.g_leaves T.F_leaves.kp T.B_leaves .nil pass0 (pa_cons (pv 0) (pa_cons (pe_fld (pv 1) rfl) (pa_cons (pv 2) pa_nil)))))
      (pss_cons (ps_set (i := 4) sc_week.nd rfl (Or.inl rfl) (pe_call (ok_settle T) hr1 rfl T.g_settle T.F_settle.kp T.B_settle .nil pass0 (pa_cons (pv 0) (pa_cons (pe_fld (pv 1) rfl) (pa_cons (pe_fld (pv 1) rfl) (pa_cons (pv 3) pa_nil))))))
      (pss_cons (ps_set (i := 5) sc_week.nd rfl (Or.inl rfl) (pe_call (ok_given_behind T) hr1 rfl T.g_given_behind T.F_given_behind.kp T.B_given_behind .nil pass0 (pa_cons (pe_fld (pv 1) rfl) (pa_cons (pv 2) pa_nil))))
      (pss_one (ps_ret (pe_make T.mkStanding (ok_Standing T) hr rfl T.mgStanding T.BStanding .nil pass0 (pa_cons (pv 5) (pa_cons (pe_ix ix_tup (pv 4) pe_int (fun _ _ => rfl)) (pa_cons (pe_ix ix_tup (pv 4) pe_int (fun _ _ => rfl))
        (pa_cons (pe_op op_cat (pe_fld (pv 1) rfl) (pe_lst (pa_cons (pv 2) pa_nil))) (pa_cons (pe_op op_cat (pe_fld (pv 1) rfl) (pe_lst (pa_cons (pe_ix ix_tup (pv 4) pe_int (fun _ _ => rfl)) pa_nil))) pa_nil)))))))))), ?_⟩
    obtain ⟨⟨dx, x1⟩, x2, x3, x4, x5⟩ := id hX
    have hline : sizeLine = 16777216 := sizeLine_eq
    have hbs := Paired.length x4
    refine ⟨_, rfl, _, rfl, x, _, dx, _, _, rfl, x1, T.clStanding, T.nStanding_given, standF_given _ _ _ _ _, _, rfl, a, pa, qa, g, b, s, p, l, rfl, hC, wf, x2, hb, ok, fun H1 S1 => ?_⟩
    refine ⟨_, rfl, _, rfl, x, _, dx, _, _, rfl, S1 _ _ x1, T.clStanding, T.nStanding_fund, standF_fund _ _ _ _ _, _, rfl, x, _, dx, _, _, rfl, S1 _ _ x1, T.clStanding, T.nStanding_debt, standF_debt _ _ _ _ _, _, rfl, a, pa, qa, s, co s p, (s.week p).took l, (s.week p).works l, rfl, hC.same S1, co_plan wf p, fun H2 r2 S2 hr2 => ?_⟩
    have S12 := S1.trans S2
    refine ⟨_, rfl, x, _, dx, _, _, rfl, S12 _ _ x1, T.clStanding, T.nStanding_given, standF_given _ _ _ _ _, _, rfl, g, b, s, p, l, rfl, S12 _ _ x2, S12 _ _ hb, wf.pl, fun H3 g3 S3 hg3 ng3 => ?_⟩
    have S13 := S12.trans S3
    have t3 := S3 _ _ hr2
    refine ⟨_, rfl, _, rfl, r2, _, _, _, rfl, rfl, SqT.of t3, atI_nat (j := 0) rfl, _, rfl, r2, _, _, _, rfl, rfl, SqT.of t3, atI_nat (j := 1) rfl, _, rfl, x, _, dx, _, _, rfl, S13 _ _ x1, T.clStanding, T.nStanding_bills, standF_bills _ _ _ _ _, _, rfl, (by show 1 ≤ sizeLine; decide), fun p4 h4 => ?_⟩
    have S4 : Same H3 (upd H3 p4 (.lst [.ref b])) := same_upd h4
    refine ⟨bl, p4, _, _, rfl, rfl, S4 _ _ (S13 _ _ x3), upd_same, ?_, fun p5 h5 => ?_⟩
    · rw [refs_len, hbs]; show _ + 1 ≤ _; omega
    have S5 : Same H3 (upd (upd H3 p4 (.lst [.ref b])) p5 (.lst (refs bs ++ [.ref b]))) := S4.trans (same_upd h5)
    have S15 := S13.trans S5
    refine ⟨_, rfl, x, _, dx, _, _, rfl, S15 _ _ x1, T.clStanding, T.nStanding_payouts, standF_payouts _ _ _ _ _, _, rfl, r2, _, _, _, rfl, rfl, SqT.of (S5 _ _ t3), atI_nat (j := 2) rfl, (by show 1 ≤ sizeLine; decide), fun p6 h6 => ?_⟩
    generalize hH5 : upd (upd H3 p4 (.lst [.ref b])) p5 (.lst (refs bs ++ [.ref b])) = H5 at *
    have f5 : H5 p5 = some (.lst (refs bs ++ [.ref b])) := by rw [← hH5, upd_same]
    refine ⟨q, p6, _, _, rfl, rfl, same_upd h6 _ _ (S15 _ _ x5), upd_same, ?_, fun p7 h7 => ?_⟩
    · rw [nats_len, pays_len]; show _ + 1 ≤ _; omega
    have S7 : Same H5 (upd (upd H5 p6 (.lst [nV (Uw08.total ((co s p).day ((s.week p).took l) (s.costs + (s.week p).works l)).given)])) p7 (.lst (nats (pays s p) ++ [nV (Uw08.total ((co s p).day ((s.week p).took l) (s.costs + (s.week p).works l)).given)]))) := (same_upd h6).trans (same_upd h7)
    have f7 : (upd (upd H5 p6 (.lst [nV (Uw08.total ((co s p).day ((s.week p).took l) (s.costs + (s.week p).works l)).given)])) p7 (.lst (nats (pays s p) ++ [nV (Uw08.total ((co s p).day ((s.week p).took l) (s.costs + (s.week p).works l)).given)]))) p7 = some (.lst (nats (pays s p) ++ [nV (Uw08.total ((co s p).day ((s.week p).took l) (s.costs + (s.week p).works l)).given)])) := upd_same
    intro y dy ny ndy nyd
    refine ⟨y, dy, g3, p5, p7, _, _, rfl, upd_same, fun H8 h8 k8 => ⟨rfl, ?_⟩⟩
    have S8 := Same.made ny ndy k8
    have S57 := S7.trans S8
    have S18 := (S13.trans S5).trans S57
    have n5 : H p5 = none := (S13.trans S4).free h5
    have n7 : H p7 = none := by
      have z : upd H5 p6 _ p7 = none := h7
      exact (S15.trans (same_upd h6)).free z
    refine k H8 y g3 p5 p7 S18 ⟨⟨dy, ?_⟩, S57 _ _ (S5 _ _ hg3), ?_, pr_snoc (Paired.mapP x4 fun _ _ => S18 _ _) (S18 _ _ hb), ?_⟩ ((S15.trans S7).free ny) (S12.free ng3) n5 n7
    · rw [co_snoc]; exact h8
    · rw [← refs_snoc]; exact S57 _ _ f5
    · show H8 p7 = _
      rw [pays_snoc, ← nats_snoc]
      exact S8 _ _ f7
end
end Ps
end
section
set_option Elab.async false
set_option linter.all false
set_option maxRecDepth 100000
set_option maxHeartbeats 2000000
namespace Ps
open PySem PySem.Spec PyProof.Rows L2
section
variable {P : Program} {w : World} {K : PySem.W.Frag} {mg : Str → Option Value} {base : Heap} {t : Adr}
/-! opening -/
inductive QSpOpening (t : Adr) (vs : List V) (H : Hp) (Q : VK) : Prop
  | mk (a pa qa : Addr) (s : Uw08.Season) (h1 : vs = [.ref a]) (h2 : CompAt t H a pa qa s) (h3 : WF s) (q : ∀ (H' : Hp) (r : Addr), Same H H' → StandAt t H' s r [] → H r = none → Q (.ref r) H') : QSpOpening t vs H Q
def spOpening (t : Adr) : Sp := fun vs H Q _ => QSpOpening t vs H Q
theorem sc_opening : FnScope ["company", "play"] ["company"] (defScope s_opening) := ⟨rfl, rfl, rfl, by decide +kernel, rfl, by decide +kernel, by decide +kernel⟩
theorem ok_opening (T : Txt K mg t) : FnOk P w K mg base CX0 3 t.f_opening t.d_opening ["company"] (spOpening t) := by
  refine T.F_opening.ok sc_opening (fun vs H Q E h => ?_) (fun cdv A outer s0 H vs Q E hr h => ?_)
  · obtain ⟨a, pa, qa, s, rfl, _⟩ := h
    rfl
  · obtain ⟨a, pa, qa, s, rfl, hC, wf, k⟩ := h
    refine ⟨_, pss_one (ps_ret (pe_make T.mkStanding (ok_Standing T) hr rfl T.mgStanding T.BStanding .nil pass0 (pa_cons (pe_lc (own := [("play", 1)]) rfl sc_opening.nd (pi_list (pe_fld (pv 0) rfl)) (blkOk_by (by show blkC ["company", "play"] (defScope s_opening) _ [("play", 1)] = true; decide +kernel))
        (fun _ _ _ _ _ => pg_name (i := 1) sc_opening.nd rfl (Or.inl rfl)) (fun _ _ _ _ _ => pts_nil) (fun _ _ _ _ _ => pe_int))
      (pa_cons (pe_fld (pv 0) rfl) (pa_cons pe_int (pa_cons (pe_lst pa_nil) (pa_cons (pe_lst pa_nil) pa_nil))))))), ?_⟩
    obtain ⟨⟨dx, ca, hA, hca, _⟩, ⟨as, hpa, hps⟩, _⟩ := id hC
    have wpl := wf.pl
    have hasl : as.length = s.plays.length := Paired.length hps
    refine ⟨_, rfl, a, _, dx, _, _, rfl, hA, T.clCompany, T.nCompany_plays, compF_plays _ _ _ _, pa, rfl, ⟨_, SqL.of hpa⟩, fun D hD => ?_⟩
    refine lc_list (K := K) (a := pa) (xs := refs as) (fun i H3 => Same H H3 ∧ Row H3 D ((s.plays.map fun _ => 0).take i)) ⟨same_upd hD, upd_same⟩ (fun i H3 _ ⟨S3, _⟩ => SqL.of (S3 _ _ hpa)) ?_ ?_
    · rintro i x H3 hi ⟨S3, hR⟩
      have hil : i < s.plays.length := by have := (List.getElem?_eq_some_iff.mp hi).1; rw [refs_len] at this; omega
      refine ⟨rfl, _, hR, ?_, fun c o e => ?_, ?_⟩
      · rw [nats_len, List.length_take, List.length_map]
        have : sizeLine = 16777216 := sizeLine_eq
        omega
      · rw [upd_ne (ne_of_none e hD)]; exact S3 _ _ e
      · show upd _ D _ D = _
        rw [upd_same, take_snoc (show (s.plays.map fun _ => 0)[i]? = some 0 by rw [List.getElem?_map, List.getElem?_eq_getElem hil]; rfl), ← nats_snoc]
        rfl
    · rintro H3 ⟨S3, hR⟩
      refine ⟨_, rfl, a, _, dx, _, _, rfl, S3 _ _ hA, T.clCompany, T.nCompany_fund, compF_fund _ _ _ _, Nat.zero_le _, fun b hb => ⟨Nat.zero_le _, fun q hq => ?_⟩⟩
      have S4 : Same H3 (upd H3 b (.lst [])) := same_upd hb
      have S5 := S4.trans (same_upd (o := .lst []) hq)
      intro y dy ny ndy nyd
      refine ⟨y, dy, D, b, q, s.company.fund, 0, rfl, upd_same, fun H8 h8 k8 => ⟨rfl, ?_⟩⟩
      have S8 := Same.made ny ndy k8
      have S58 := S5.trans S8
      refine k H8 y (S3.trans S58) ⟨dy, D, b, q, [], ?_, ?_, ?_, .nil, ?_⟩ ((S3.trans S5).free ny)
      · have e : (co s []).debt = 0 := wf.db
        rw [e]; exact h8
      · have e : (refs as).length = (s.plays.map fun _ => 0).length := by rw [refs_len, List.length_map]; exact hasl
        rw [e, List.take_length] at hR
        rw [givens_nil]
        exact S58 _ _ hR
      · exact S8 _ _ (same_upd hq _ _ upd_same)
      · exact S8 _ _ upd_same
/-! behind_plan -/
inductive QSpPlan (t : Adr) (vs : List V) (H : Hp) (Q : VK) : Prop
  | mk (a pa qa pl : Addr) (s : Uw08.Season) (p : Uw08.Plan) (h1 : vs = [.ref a, .ref pl]) (h2 : CompAt t H a pa qa s) (h3 : WF s) (h4 : BillsAt H pl p) (h5 : (∀ b ∈ p, BillOk s b)) (h6 : p.length ≤ 1000) (q : ∀ (H' : Hp) (r : Addr), Same H H' → StandAt t H' s r p → Q (.ref r) H') : QSpPlan t vs H Q
def spPlan (t : Adr) : Sp := fun vs H Q _ => QSpPlan t vs H Q
theorem sc_plan : FnScope ["company", "plan", "standing", "bill"] ["company", "plan"] (defScope s_behind_plan) := ⟨rfl, rfl, rfl, by decide +kernel, rfl, by decide +kernel, by decide +kernel⟩
theorem ok_behind_plan (T : Txt K mg t) : FnOk P w K mg base CX0 4 t.f_behind_plan t.d_behind_plan ["company", "plan"] (spPlan t) := by
  refine T.F_behind_plan.ok sc_plan (fun vs H Q E h => ?_) (fun cdv A outer s0 H vs Q E hr h => ?_)
  · obtain ⟨a, pa, qa, pl, s, p, rfl, _⟩ := h
    rfl
  · obtain ⟨a, pa, qa, pl, s, p, rfl, hC, wf, ⟨bs, hpl, hbs⟩, ok, hlen, k⟩ := h
    refine ⟨_, pss_cons (ps_set (i := 2) sc_plan.nd rfl (Or.inl rfl) (pe_call (ok_opening T) hr rfl T.g_opening T.F_opening.kp T.B_opening .nil pass0 (pa_cons (pv 0) pa_nil)))
      (pss_cons (ps_for PassesOwn.never rfl (pi_list (pv 1)) (pg_name (i := 3) sc_plan.nd rfl (Or.inl rfl))
        (pss_one (ps_set (i := 2) sc_plan.nd rfl (Or.inl rfl) (pe_call (ok_behind_week T) hr rfl T.g_behind_week T.F_behind_week.kp T.B_behind_week .nil pass0 (pa_cons (pv 0) (pa_cons (pv 2) (pa_cons (pv 3) pa_nil)))))))
      (pss_one (ps_ret (pv 2)))), ?_⟩
    refine ⟨_, rfl, a, pa, qa, s, rfl, hC, wf, fun H1 x0 S1 hX0 _ => ?_⟩
    refine ⟨_, rfl, pl, rfl, ⟨_, SqL.of (S1 _ _ hpl)⟩, for_list (K := K) (a := pl) (xs := refs bs) (fun i σ H3 => ∃ x v3, σ = [some (.ref a), some (.ref pl), some (.ref x), v3] ∧ Same H H3 ∧ StandAt t H3 s x (p.take i))
      ⟨x0, none, rfl, S1, hX0⟩ (fun i σ H3 _ ⟨_, _, _, S3, _⟩ => SqL.of (S3 _ _ hpl)) ?_ ?_⟩
    · rintro i y σ H3 hi ⟨x, v3, rfl, S3, hX⟩
      obtain ⟨b, hb, rfl⟩ := refs_of hi
      obtain ⟨l, hl, hbl⟩ := pr_get hbs hb
      obtain ⟨g, bl, q, bs', hS⟩ := hX.as
      refine ⟨_, rfl, _, rfl, _, rfl, a, pa, qa, x, b, g, bl, q, bs', s, p.take i, l, rfl, hC.same S3, wf, hS, S3 _ _ hbl, ok l (List.mem_of_getElem? hl), by rw [List.length_take]; omega, fun H4 r g' b' q' S4 hS4 _ _ _ _ => ?_⟩
      exact ⟨r, _, rfl, S3.trans S4, by rw [take_snoc hl]; exact hS4.at_⟩
    · rintro σ H3 ⟨x, v3, rfl, S3, hX⟩
      have e : (refs bs).length = p.length := by rw [refs_len]; exact Paired.length hbs
      rw [e, List.take_length] at hX
      exact ⟨_, rfl, k H3 x S3 hX⟩
/-! behind_all_plans -/
def StandOff (t : Adr) (H : Hp) (s : Uw08.Season) (off x : Addr) (p : Uw08.Plan) : Prop := ∃ g b q bs, StandAs t H s x p g b q bs ∧ x ≠ off ∧ g ≠ off ∧ b ≠ off ∧ q ≠ off ∧ ∀ y ∈ bs, y ≠ off
theorem StandOff.at_ {H : Hp} {s : Uw08.Season} {off x : Addr} {p : Uw08.Plan} (h : StandOff t H s off x p) : StandAt t H s x p := by
  obtain ⟨g, b, q, bs, h, _⟩ := h
  exact h.at_
theorem pr_mem {α β : Type} {R S : α → β → Prop} : ∀ {xs : List α} {ys : List β}, Paired R xs ys → (∀ x y, x ∈ xs → R x y → S x y) → Paired S xs ys
  | _, _, .nil, _ => .nil
  | _, _, .cons r q, h => .cons (h _ _ (List.mem_cons_self ..) r) (pr_mem q fun x y hx => h x y (List.mem_cons_of_mem _ hx))
theorem StandOff.keep {H H' : Hp} {s : Uw08.Season} {off x : Addr} {p : Uw08.Plan} (k : ∀ b o, H b = some o → b ≠ off → H' b = some o) (h : StandOff t H s off x p) : StandOff t H' s off x p := by
  obtain ⟨g, b, q, bs, ⟨⟨dx, h1⟩, h2, h3, h4, h5⟩, n1, n2, n3, n4, n5⟩ := h
  exact ⟨g, b, q, bs, ⟨⟨dx, k _ _ h1 n1⟩, k _ _ h2 n2, k _ _ h3 n3, pr_mem h4 fun y l hy r => k _ _ r (n5 y hy), k _ _ h5 n4⟩, n1, n2, n3, n4, n5⟩
inductive QSpAllPlans (t : Adr) (vs : List V) (H : Hp) (Q : VK) : Prop
  | mk (a pa qa bl : Addr) (s : Uw08.Season) (L : List (List Nat)) (n : Nat) (h1 : vs = [.ref a, .ref bl, nV n]) (h2 : CompAt t H a pa qa s) (h3 : WF s) (h4 : BillsAt H bl L) (h5 : (∀ b ∈ L, BillOk s b)) (h6 : L.length ≤ 16) (h7 : n ≤ 3) (q : ∀ (H' : Hp) (r : Addr), Same H H' → StandsAt t H' s r (words L n) → Q (.ref r) H') : QSpAllPlans t vs H Q
def spAllPlans (t : Adr) : Sp := fun vs H Q _ => QSpAllPlans t vs H Q
theorem sc_allplans : FnScope ["company", "bills", "weeks", "standings", "week", "longer", "standing", "bill"] ["company", "bills", "weeks"] (defScope s_behind_all_plans) := ⟨rfl, rfl, rfl, by decide +kernel, rfl, by decide +kernel, by decide +kernel⟩
theorem flatP_len (W : List Uw08.Plan) (A : List (List Nat)) : (W.flatMap fun r => A.map fun x => r ++ [x]).length = W.length * A.length := by
  induction W with
  | nil => simp
  | cons a W ih => rw [List.flatMap_cons, List.length_append, ih, List.length_map, List.length_cons, Nat.add_mul, Nat.one_mul, Nat.add_comm]
theorem ok_behind_all_plans (T : Txt K mg t) : FnOk P w K mg base CX0 4 t.f_behind_all_plans t.d_behind_all_plans ["company", "bills", "weeks"] (spAllPlans t) := by
  refine T.F_behind_all_plans.ok sc_allplans (fun vs H Q E h => ?_) (fun cdv A outer s0 H vs Q E hr h => ?_)
  · obtain ⟨a, pa, qa, bl, s, L, n, rfl, _⟩ := h
    rfl
  · obtain ⟨a, pa, qa, bl, s, L, n, rfl, hC, wf, ⟨bs, hbl, hbs⟩, ok, hL, hn, k⟩ := h
    refine ⟨_, pss_cons (ps_set (i := 3) sc_allplans.nd rfl (Or.inl rfl) (pe_lst (pa_cons (pe_call (ok_opening T) hr rfl T.g_opening T.F_opening.kp T.B_opening .nil pass0 (pa_cons (pv 0) pa_nil)) pa_nil)))
      (pss_cons (ps_for PassesOwn.never rfl (pi_range1 rfl T.b_range (pa_cons (pv 2) pa_nil)) (pg_name (i := 4) sc_allplans.nd rfl (Or.inl rfl))
        (pss_cons (ps_set (i := 5) sc_allplans.nd rfl (Or.inl rfl) (pe_lst pa_nil))
        (pss_cons (ps_for PassesOwn.never rfl (pi_list (pv 3)) (pg_name (i := 6) sc_allplans.nd rfl (Or.inl rfl))
          (pss_one (ps_for PassesOwn.never rfl (pi_list (pv 1)) (pg_name (i := 7) sc_allplans.nd rfl (Or.inl rfl))
            (pss_one (ps_expr (pe_bm PySem.F.plainAttrs_list PySem.F.slot_list_append PySem.F.type_list_append mt_append (pv 5) (pa_cons (pe_call (ok_behind_week T) hr rfl T.g_behind_week T.F_behind_week.kp T.B_behind_week .nil pass0 (pa_cons (pv 0) (pa_cons (pv 6) (pa_cons (pv 7) pa_nil)))) pa_nil)))))))
        (pss_one (ps_set (i := 3) sc_allplans.nd rfl (Or.inl rfl) (pv 5))))))
      (pss_one (ps_ret (pv 3)))), ?_⟩
    have hline : sizeLine = 16777216 := sizeLine_eq
    have hbsl : bs.length = L.length := Paired.length hbs
    refine ⟨_, rfl, a, pa, qa, s, rfl, hC, wf, fun H0 x0 S0 hX0 nx0 => ⟨(by show 1 ≤ sizeLine; decide), fun l0 hl0 => ?_⟩⟩
    have S01 : Same H (upd H0 l0 (.lst [.ref x0])) := S0.trans (same_upd hl0)
    refine ⟨_, rfl, _, rfl, by omega, by omega, ?_⟩
    have e0 : ((n : Nat) : Int).toNat = n := by omega
    rw [e0]
    refine for_range (lo := 0) (n := n) (fun i σ H1 => ∃ sl v4 v5 v6 v7, σ = [some (.ref a), some (.ref bl), some (nV n), some (.ref sl), v4, v5, v6, v7] ∧ Same H H1 ∧ StandsAt t H1 s sl (words L i))
      ⟨l0, none, none, none, none, rfl, S01, ⟨[x0], by rw [upd_same]; rfl, .cons (hX0.same (same_upd hl0)) .nil⟩⟩ ?_ ?_
    · rintro i σ H1 hi ⟨sl, v4, v5, v6, v7, rfl, S1, ⟨xs, hsl, hxs⟩⟩
      have lW : (words L i).length ≤ 256 := by
        rw [words_length]
        exact Nat.le_trans (Nat.pow_le_pow_left hL _) (Nat.le_trans (Nat.pow_le_pow_right (by omega) (show i ≤ 2 by omega)) (by decide))
      have mW : ∀ q ∈ words L i, q.length = i := fun q hq => (words_mem hq).1
      generalize hW : words L i = W at hxs lW mW
      refine ⟨Nat.zero_le _, fun g hg => ?_⟩
      have S2 : Same H1 (upd H1 g (.lst [])) := same_upd hg
      refine ⟨_, rfl, sl, rfl, ⟨_, SqL.of (S2 _ _ hsl)⟩, for_list (K := K) (a := sl) (xs := refs xs) (fun j σ H3 => ∃ gs v6 v7, σ = [some (.ref a), some (.ref bl), some (nV n), some (.ref sl), some (.int (0 + (i : Int))), some (.ref g), v6, v7] ∧ Same H1 H3 ∧ H3 g = some (.lst (refs gs)) ∧ Paired (StandOff t H3 s g) gs ((W.take j).flatMap fun r => L.map fun x => r ++ [x]))
        ⟨[], _, _, rfl, S2, by rw [upd_same]; rfl, .nil⟩ (fun j σ H3 _ ⟨_, _, _, _, S3, _⟩ => SqL.of (S3 _ _ hsl)) ?_ ?_⟩
      · rintro j y σ H3 hj ⟨gs, v6', v7', rfl, S3, hg3, hgs⟩
        obtain ⟨x, hx, rfl⟩ := refs_of hj
        obtain ⟨r, hr', hxr⟩ := pr_get hxs hx
        have S13 := S1.trans S3
        refine ⟨_, rfl, bl, rfl, ⟨_, SqL.of (S13 _ _ hbl)⟩, for_list (K := K) (a := bl) (xs := refs bs) (fun m σ H4 => ∃ gs v7, σ = [some (.ref a), some (.ref bl), some (nV n), some (.ref sl), some (.int (0 + (i : Int))), some (.ref g), some (.ref x), v7] ∧ Same H1 H4 ∧ H4 g = some (.lst (refs gs)) ∧ Paired (StandOff t H4 s g) gs (((W.take j).flatMap fun r => L.map fun x => r ++ [x]) ++ (L.take m).map fun x => r ++ [x]))
          ⟨gs, _, rfl, S3, hg3, by rw [List.take_zero, List.map_nil, List.append_nil]; exact hgs⟩ (fun m σ H4 _ ⟨_, _, _, S4, _⟩ => SqL.of ((S1.trans S4) _ _ hbl)) ?_ ?_⟩
        · rintro m y σ H4 hm ⟨gs4, v7'', rfl, S4, hg4, h4⟩
          obtain ⟨b, hb, rfl⟩ := refs_of hm
          obtain ⟨l, hl, hbr⟩ := pr_get hbs hb
          obtain ⟨gg, bb, qq, bs', hS⟩ := hxr.as
          have hS4 := hS.same S4
          have S14 := S1.trans S4
          refine ⟨_, rfl, .inl ⟨rfl, _, SqL.of hg4⟩, _, rfl, _, rfl, _, rfl, a, pa, qa, x, b, gg, bb, qq, bs', s, r, l, rfl, hC.same S14, wf, hS4, S14 _ _ hbr, ok l (List.mem_of_getElem? hl), by rw [mW r (List.mem_of_getElem? hr')]; omega, fun H5 z g' b' q' S5 hZ nz ng' nb' nq' => ?_⟩
          have hlen : gs4.length ≤ 5000 := by
            rw [Paired.length h4, List.length_append, flatP_len, List.length_map, List.length_take, List.length_take]
            have h1 : min j W.length ≤ 256 := by omega
            have h3 : min j W.length * L.length ≤ 256 * 16 := Nat.mul_le_mul h1 hL
            omega
          refine ⟨g, _, _, rfl, rfl, S5 _ _ hg4, by rw [refs_len]; omega, ?_⟩
          have off : ∀ c, H4 c = none → c ≠ g := fun c hc => (ne_of_none hg4 hc).symm
          have kp : ∀ c o, H5 c = some o → c ≠ g → upd H5 g (.lst (refs gs4 ++ [.ref z])) c = some o := fun c o e nc => by rw [upd_ne nc]; exact e
          refine ⟨gs4 ++ [z], _, rfl, fun c o e => ?_, by rw [upd_same, refs_snoc], ?_⟩
          · rw [upd_ne (ne_of_none e hg)]; exact S5 _ _ (S4 _ _ e)
          · rw [take_snoc hl, List.map_append, ← List.append_assoc]
            refine pr_snoc (Paired.mapP h4 fun c q h => h.keep fun u o e nc => kp u o (S5 _ _ e) nc) (StandOff.keep kp ⟨g', b', q', _, hZ, off _ nz, off _ ng', off _ nb', off _ nq', fun c hc => ?_⟩)
            rcases List.mem_append.mp hc with hc | hc
            · obtain ⟨i', hi'⟩ := List.getElem?_of_mem hc
              obtain ⟨l', _, hl'⟩ := pr_get hS.rows hi'
              exact ne_of_none hl' hg
            · rw [List.mem_singleton.mp hc]
              exact ne_of_none (S1 _ _ hbr) hg
        · rintro σ H4 ⟨gs4, v7'', rfl, S4, hg4, h4⟩
          refine ⟨gs4, _, _, rfl, S4, hg4, ?_⟩
          rw [take_snoc hr', List.flatMap_append]
          have e : (refs bs).length = L.length := by rw [refs_len]; exact hbsl
          rw [e, List.take_length] at h4
          simpa using h4
      · rintro σ H3 ⟨gs, v6', v7', rfl, S3, hg3, hgs⟩
        refine ⟨_, rfl, g, _, _, _, _, rfl, S1.trans S3, gs, hg3, ?_⟩
        have e2 : (refs xs).length = W.length := by rw [refs_len]; exact Paired.length hxs
        rw [e2, List.take_length] at hgs
        rw [words_snoc, hW]
        exact Paired.mapP hgs fun _ _ => StandOff.at_
    · rintro σ H1 ⟨sl, v4, v5, v6, v7, rfl, S1, hB⟩
      exact ⟨_, rfl, k _ sl S1 hB⟩
/-! bill_that_leaves_most -/
inductive QSpMost (t : Adr) (vs : List V) (H : Hp) (Q : VK) : Prop
  | mk (a pa qa g bl : Addr) (s : Uw08.Season) (p : Uw08.Plan) (L : List (List Nat)) (h1 : vs = [.ref a, .ref g, .ref bl]) (h2 : CompAt t H a pa qa s) (h3 : WF s) (h4 : Row H g (givens s p)) (h5 : BillsAt H bl L) (h6 : (∀ b ∈ L, BillOk s b)) (h7 : L ≠ []) (q : ∀ (H' : Hp) (b : Addr) (l : List Nat) (m : Int), Same H H' → Row H' b l → l ∈ L → Chosen (s.week p) L m l → Q (.ref b) H') : QSpMost t vs H Q
def spMost (t : Adr) : Sp := fun vs H Q _ => QSpMost t vs H Q
theorem sc_most : FnScope ["company", "given", "bills", "chosen", "most", "bill", "left"] ["company", "given", "bills"] (defScope s_bill_that_leaves_most) := ⟨rfl, rfl, rfl, by decide +kernel, rfl, by decide +kernel, by decide +kernel⟩
theorem ok_most (T : Txt K mg t) : FnOk P w K mg base CX0 3 t.f_bill_that_leaves_most t.d_bill_that_leaves_most ["company", "given", "bills"] (spMost t) := by
  refine T.F_bill_that_leaves_most.ok sc_most (fun vs H Q E h => ?_) (fun cdv A outer s0 H vs Q E hr h => ?_)
  · obtain ⟨a, pa, qa, g, bl, s, p, L, rfl, _⟩ := h
    rfl
  · obtain ⟨a, pa, qa, g, bl, s, p, L, rfl, hC, wf, hg, ⟨bs, hbl, hbs⟩, ok, hne, k⟩ := h
    refine ⟨_, pss_cons (ps_set (i := 3) sc_most.nd rfl (Or.inl rfl) (pe_ix ix_list (pv 2) pe_int (fun _ _ => rfl)))
      (pss_cons (ps_set (i := 4) sc_most.nd rfl (Or.inl rfl) (pe_call (ok_leaves T) hr rfl T.g_leaves T.F_leaves.kp T.B_leaves .nil pass0 (pa_cons (pv 0) (pa_cons (pv 1) (pa_cons (pv 3) pa_nil)))))
      (pss_cons (ps_for PassesOwn.never rfl (pi_list (pv 2)) (pg_name (i := 5) sc_most.nd rfl (Or.inl rfl))
        (pss_cons (ps_set (i := 6) sc_most.nd rfl (Or.inl rfl) (pe_call (ok_leaves T) hr rfl T.g_leaves T.F_leaves.kp T.B_leaves .nil pass0 (pa_cons (pv 0) (pa_cons (pv 1) (pa_cons (pv 5) pa_nil)))))
        (pss_one (ps_if (pt_cmp (pc_gt (pv 6) (pv 4)))
          (pss_cons (ps_set (i := 3) sc_most.nd rfl (Or.inl rfl) (pv 5)) (pss_one (ps_set (i := 4) sc_most.nd rfl (Or.inl rfl) (pv 6)))) pss_nil))))
      (pss_one (ps_ret (pv 3))))), ?_⟩
    have hl0 : 0 < L.length := List.length_pos_iff.mpr hne
    have e0 : L[0]? = some L[0] := List.getElem?_eq_getElem hl0
    obtain ⟨b0, hb0, hr0⟩ := pr_got hbs e0
    have t0 : L.take 1 = [L[0]] := by rw [take_snoc e0]; rfl
    refine ⟨_, rfl, bl, _, _, _, rfl, rfl, SqL.of hbl, atI_nat (j := 0) (refs_at hb0), _, rfl, _, rfl, _, rfl, a, pa, qa, g, b0, s, p, L[0], rfl, hC, wf, hg, hr0, ok _ (List.getElem_mem hl0), fun H1 S1 => ?_⟩
    refine ⟨_, rfl, bl, rfl, ⟨_, SqL.of (S1 _ _ hbl)⟩, for_list (K := K) (a := bl) (xs := refs bs) (fun i σ H3 => ∃ c l m v5 v6, σ = [some (.ref a), some (.ref g), some (.ref bl), some (.ref c), some (.int m), v5, v6] ∧ Same H H3 ∧ Row H c l ∧ l ∈ L ∧ Chosen (s.week p) (L.take (max i 1)) m l)
      ⟨b0, L[0], _, none, none, rfl, S1, hr0, List.getElem_mem hl0, by rw [show max 0 1 = 1 from rfl, t0]; exact chosen_one _ _⟩ (fun i σ H3 _ ⟨_, _, _, _, _, _, S3, _⟩ => SqL.of (S3 _ _ hbl)) ?_ ?_⟩
    · rintro i y σ H3 hi ⟨c, l, m, v5, v6, rfl, S3, hc, hl, hch⟩
      obtain ⟨b, hb, rfl⟩ := refs_of hi
      obtain ⟨l', hl', hbl'⟩ := pr_get hbs hb
      have step : Chosen (s.week p) (L.take (max (i + 1) 1)) (if m < (s.week p).left l' then (s.week p).left l' else m) (if m < (s.week p).left l' then l' else l) := by
        by_cases z : i = 0
        · subst z
          rw [e0] at hl'
          cases hl'
          rw [show max 0 1 = 1 from rfl, t0] at hch
          obtain ⟨c', hch'⟩ := id hch
          have e := Option.some.inj (hch'.symm.trans (show ([L[0]].map (cand1 (s.week p))).foldl Uw05.better none = some ⟨(s.week p).left L[0], 1, L[0]⟩ from rfl))
          cases e
          rw [if_neg (Int.lt_irrefl _), if_neg (Int.lt_irrefl _), show max (0 + 1) 1 = 1 from rfl, t0]
          exact hch
        · rw [show max i 1 = i by omega] at hch
          rw [show max (i + 1) 1 = i + 1 by omega, take_snoc hl']
          exact chosen_snoc hch l'
      refine ⟨_, rfl, _, rfl, _, rfl, a, pa, qa, g, b, s, p, l', rfl, hC.same S3, wf, S3 _ _ hg, S3 _ _ hbl', ok _ (List.mem_of_getElem? hl'), fun H4 S4 => ?_⟩
      refine ⟨_, rfl, _, rfl, _, _, rfl, rfl, _, rfl, ite2 (fun z => ?_) (fun z => ?_)⟩
      · have z := of_decide_eq_true z
        rw [if_pos z, if_pos z] at step
        exact ⟨_, rfl, _, rfl, b, l', _, _, _, rfl, S3.trans S4, hbl', List.mem_of_getElem? hl', step⟩
      · have z : ¬ m < (s.week p).left l' := fun q => z (decide_eq_true q)
        rw [if_neg z, if_neg z] at step
        exact ⟨c, l, m, _, _, rfl, S3.trans S4, hc, hl, step⟩
    · rintro σ H3 ⟨c, l, m, v5, v6, rfl, S3, hc, hl, hch⟩
      have e : (refs bs).length = L.length := by rw [refs_len]; exact Paired.length hbs
      rw [e, show max L.length 1 = L.length by omega, List.take_length] at hch
      exact ⟨_, rfl, k H3 c l m S3 (S3 _ _ hc) hl hch⟩
end
end Ps
end
section
set_option Elab.async false
set_option linter.all false
set_option maxRecDepth 100000
set_option maxHeartbeats 2000000
namespace Ps
open PySem PySem.Spec PyProof.Rows L2
theorem cross (p a : Nat) : (p : Int) * (2 * (a : Int) + 1) = (((2 * a + 1) * p : Nat) : Int) := by
  push_cast
  rw [Int.mul_comm]
def partsOf (l : List Uw06.Sharer) : List Nat := l.map fun x => x.parts
def Few (l : List Uw06.Sharer) : Prop := Good l ∧ (∀ x ∈ l, x.parts ≤ 24) ∧ l.length ≤ 5
section
variable {P : Program} {w : World} {K : PySem.W.Frag} {mg : Str → Option Value} {base : Heap} {t : Adr}
/-! most_owed -/
inductive QSpOwed (vs : List V) (H : Hp) (Q : VK) : Prop
  | mk (pp pd : Addr) (l : List Uw06.Sharer) (h1 : vs = [.ref pp, .ref pd]) (h2 : Row H pp (partsOf l)) (h3 : Row H pd (paids l)) (h4 : Few l) (h5 : l ≠ []) (q : ∀ c, Uw06.next l = some c → c < l.length → Q (nV c) H) : QSpOwed vs H Q
def spOwed : Sp := fun vs H Q _ => QSpOwed vs H Q
theorem sc_owed : FnScope ["parts", "paid", "chosen", "sharer"] ["parts", "paid"] (defScope s_most_owed) := ⟨rfl, rfl, rfl, by decide +kernel, rfl, by decide +kernel, by decide +kernel⟩
theorem ok_most_owed (T : Txt K mg t) : FnOk P w K mg base CX0 1 t.f_most_owed t.d_most_owed ["parts", "paid"] spOwed := by
  refine T.F_most_owed.ok sc_owed (fun vs H Q E h => ?_) (fun cdv A outer s H vs Q E hr h => ?_)
  · obtain ⟨pp, pd, l, rfl, _⟩ := h
    rfl
  · obtain ⟨pp, pd, l, rfl, hp, hd, ⟨good, h24, h5⟩, hne, k⟩ := h
    refine ⟨_, pss_cons (ps_set (i := 2) sc_owed.nd rfl (Or.inl rfl) pe_int)
      (pss_cons (ps_for PassesOwn.never rfl (pi_range2 rfl T.b_range (pa_cons pe_int (pa_cons (pe_callB call_len_seq (by rfl) T.b_len PySem.boot_len (pa_cons (pv 0) pa_nil)) pa_nil))) (pg_name (i := 3) sc_owed.nd rfl (Or.inl rfl))
        (pss_one (ps_if (pt_cmp (pc_gt (pe_op op_mul (pe_ix ix_list (pv 0) (pv 3) (fun _ _ => rfl)) (pe_op op_add (pe_op op_mul pe_int (pe_ix ix_list (pv 1) (pv 2) (fun _ _ => rfl))) pe_int))
            (pe_op op_mul (pe_ix ix_list (pv 0) (pv 2) (fun _ _ => rfl)) (pe_op op_add (pe_op op_mul pe_int (pe_ix ix_list (pv 1) (pv 3) (fun _ _ => rfl))) pe_int))))
          (pss_one (ps_set (i := 2) sc_owed.nd rfl (Or.inl rfl) (pv 3))) pss_nil)))
      (pss_one (ps_ret (pv 2)))), ?_⟩
    have hpl : (nats (partsOf l)).length = l.length := by rw [nats_len]; unfold partsOf; rw [List.length_map]
    have hl0 : 0 < l.length := List.length_pos_iff.mpr hne
    refine ⟨_, rfl, pp, _, rfl, .inl (SqL.of hp), _, _, rfl, ⟨by decide, by decide, by omega, by rw [hpl]; omega⟩, ?_⟩
    have e0 : (((nats (partsOf l)).length : Int) - 1).toNat = l.length - 1 := by rw [hpl]; omega
    rw [e0]
    refine for_range (lo := 1) (n := l.length - 1) (fun i σ H' => ∃ c v3, σ = [some (.ref pp), some (.ref pd), some (nV c), v3] ∧ H' = H ∧ Lead l (i + 1) c) ⟨0, none, rfl, rfl, lead_one good hne⟩ ?_ ?_
    · rintro i σ H' hi ⟨c, v3, rfl, rfl, hlead⟩
      rw [suc_int]
      have hsl : i + 1 < l.length := by omega
      have hcl := lead_lt hlead
      have ex : l[i + 1]? = some l[i + 1] := List.getElem?_eq_getElem hsl
      have ey : l[c]? = some l[c] := List.getElem?_eq_getElem hcl
      have px : (partsOf l)[i + 1]? = some l[i + 1].parts := by unfold partsOf; rw [List.getElem?_map, ex]; rfl
      have py : (partsOf l)[c]? = some l[c].parts := by unfold partsOf; rw [List.getElem?_map, ey]; rfl
      have ax : (paids l)[i + 1]? = some l[i + 1].paid := by unfold paids; rw [List.getElem?_map, ex]; rfl
      have ay : (paids l)[c]? = some l[c].paid := by unfold paids; rw [List.getElem?_map, ey]; rfl
      have bx := h24 _ (List.getElem_mem hsl)
      have by_ := h24 _ (List.getElem_mem hcl)
      have st := lead_succ good hlead ex ey
      refine ⟨_, rfl, _, rfl, pp, _, _, _, rfl, rfl, SqL.of hp, atI_nat (nats_at px), _, rfl, _, rfl, pd, _, _, _, rfl, rfl, SqL.of hd, atI_nat (nats_at ay), _, _, rfl, rfl, .inl ⟨by decide, by decide⟩, _, _, rfl, rfl, _, _, rfl, rfl, .inl ⟨by omega, by omega⟩,
        _, rfl, _, rfl, pp, _, _, _, rfl, rfl, SqL.of hp, atI_nat (nats_at py), _, rfl, _, rfl, pd, _, _, _, rfl, rfl, SqL.of hd, atI_nat (nats_at ax), _, _, rfl, rfl, .inl ⟨by decide, by decide⟩, _, _, rfl, rfl, _, _, rfl, rfl, .inl ⟨by omega, by omega⟩, _, _, rfl, rfl, _, rfl, ite2 (fun z => ?_) (fun z => ?_)⟩
      · have z : ((l[c].parts : Nat) : Int) * (2 * ((l[i + 1].paid : Nat) : Int) + 1) < ((l[i + 1].parts : Nat) : Int) * (2 * ((l[c].paid : Nat) : Int) + 1) := of_decide_eq_true z
        rw [cross, cross] at z
        rw [if_pos (by omega)] at st
        exact ⟨_, rfl, i + 1, _, rfl, rfl, st⟩
      · have z : ¬ ((l[c].parts : Nat) : Int) * (2 * ((l[i + 1].paid : Nat) : Int) + 1) < ((l[i + 1].parts : Nat) : Int) * (2 * ((l[c].paid : Nat) : Int) + 1) := fun q => z (decide_eq_true q)
        rw [cross, cross] at z
        rw [if_neg (by omega)] at st
        exact ⟨c, _, rfl, rfl, st⟩
    · rintro σ H' ⟨c, v3, rfl, rfl, hlead⟩
      rw [show l.length - 1 + 1 = l.length by omega] at hlead
      exact ⟨_, rfl, k c (lead_next hlead) (lead_lt hlead)⟩
/-! paid_behind -/
inductive QSpPaid (vs : List V) (H : Hp) (Q : VK) : Prop
  | mk (pp pd : Addr) (l : List Uw06.Sharer) (n : Nat) (h1 : vs = [.ref pp, .ref pd, nV n]) (h2 : Row H pp (partsOf l)) (h3 : Row H pd (paids l)) (h4 : Few l) (h5 : (l = [] → n = 0)) (h6 : n ≤ 1000000) (q : ∀ (H' : Hp) (r : Addr), Same H H' → Row H' r (paids (Uw06.payOut n l).1) → H r = none → Q (.ref r) H') : QSpPaid vs H Q
def spPaid : Sp := fun vs H Q _ => QSpPaid vs H Q
theorem sc_paid : FnScope ["parts", "paid", "payout", "behind", "penny"] ["parts", "paid", "payout"] (defScope s_paid_behind) := ⟨rfl, rfl, rfl, by decide +kernel, rfl, by decide +kernel, by decide +kernel⟩
theorem few_pay {l : List Uw06.Sharer} (h : Few l) (c : Nat) : Few (Uw06.pay l c) := by
  refine ⟨pay_good h.1 c, fun x hx => ?_, by rw [pay_len]; exact h.2.2⟩
  have hx' : x.parts ∈ (Uw06.pay l c).map fun x => x.parts := List.mem_map_of_mem hx
  rw [pay_parts] at hx'
  obtain ⟨y, hy, e⟩ := List.mem_map.mp hx'
  have := h.2.1 y hy
  omega
theorem ok_paid_behind (T : Txt K mg t) : FnOk P w K mg base CX0 2 t.f_paid_behind t.d_paid_behind ["parts", "paid", "payout"] spPaid := by
  refine T.F_paid_behind.ok sc_paid (fun vs H Q E h => ?_) (fun cdv A outer s H vs Q E hr h => ?_)
  · obtain ⟨pp, pd, l, n, rfl, _⟩ := h
    rfl
  · obtain ⟨pp, pd, l, n, rfl, hp, hd, few, hn0, hn, k⟩ := h
    refine ⟨_, pss_cons (ps_set (i := 3) sc_paid.nd rfl (Or.inl rfl) (pe_callTy call_list_of (by rfl) T.b_list PyProof.Rows.boot_list (pa_cons (pv 1) pa_nil)))
      (pss_cons (ps_for PassesOwn.never rfl (pi_range1 rfl T.b_range (pa_cons (pv 2) pa_nil)) (pg_name (i := 4) sc_paid.nd rfl (Or.inl rfl))
        (pss_one (ps_augS (pv 3) (pe_call (ok_most_owed T) hr rfl T.g_most_owed T.F_most_owed.kp T.B_most_owed .nil pass0 (pa_cons (pv 0) (pa_cons (pv 3) pa_nil))) get_list pe_int ip_add set_list)))
      (pss_one (ps_ret (pv 3)))), ?_⟩
    refine ⟨_, rfl, pd, _, rfl, .inl (SqL.of hd), fun bh hbh => ?_⟩
    have S0 : Same H (upd H bh (.lst (nats (paids l)))) := same_upd hbh
    refine ⟨_, rfl, _, rfl, by omega, by omega, ?_⟩
    have e0 : ((n : Nat) : Int).toNat = n := by omega
    rw [e0]
    refine for_range (lo := 0) (n := n) (fun i σ H' => ∃ l' v4, σ = [some (.ref pp), some (.ref pd), some (nV n), some (.ref bh), v4] ∧ Same H H' ∧ Row H' bh (paids l') ∧ Few l' ∧ partsOf l' = partsOf l ∧ l'.length = l.length ∧ Uw06.payOut n l = Uw06.payOut (n - i) l') ⟨l, none, rfl, S0, upd_same, few, rfl, rfl, rfl⟩ ?_ ?_
    · rintro i σ H' hi ⟨l', v4, rfl, S1, hb, few', hpp, hll, hpo⟩
      have hne : l ≠ [] := fun e => by have := hn0 e; omega
      have hne' : l' ≠ [] := fun e => hne (List.length_eq_zero_iff.mp (by rw [← hll, e]; rfl))
      refine ⟨_, rfl, _, rfl, _, rfl, pp, bh, l', rfl, by show _ = _; rw [hpp]; exact S1 _ _ hp, hb, few', hne', fun c hc hcl => ?_⟩
      have ec : l'[c]? = some l'[c] := List.getElem?_eq_getElem hcl
      have ea : (paids l')[c]? = some l'[c].paid := by unfold paids; rw [List.getElem?_map, ec]; rfl
      refine ⟨bh, _, _, _, _, rfl, rfl, rfl, SqL.of hb, nats_at ea, _, _, rfl, rfl, bh, _, _, c, rfl, rfl, hb, ix_is rfl (by rw [nats_len]; unfold paids; rw [List.length_map]; exact hcl), ?_⟩
      refine ⟨Uw06.pay l' c, _, rfl, fun u o e => ?_, ?_, few_pay few' c, ?_, by rw [pay_len, hll], ?_⟩
      · rw [upd_ne (ne_of_none e hbh)]; exact S1 _ _ e
      · show upd _ bh _ bh = _
        unfold paids
        rw [upd_same, pay_paid ec]
        unfold nats
        rw [List.map_set]
        rfl
      · unfold partsOf; rw [pay_parts]; exact hpp
      · rw [hpo, show n - i = (n - (i + 1)) + 1 by omega, payOut_succ hc]
    · rintro σ H' ⟨l', v4, rfl, S1, hb, few', hpp, hll, hpo⟩
      refine ⟨_, rfl, k H' bh S1 ?_ hbh⟩
      rw [Nat.sub_self] at hpo
      rw [hpo]
      exact hb
/-! told_of_weeks -/
inductive QSpTold (t : Adr) (vs : List V) (H : Hp) (Q : VK) : Prop
  | mk (a pa qa x : Addr) (s : Uw08.Season) (p : Uw08.Plan) (h1 : vs = [.ref a, .ref x]) (h2 : CompAt t H a pa qa s) (h3 : WF s) (h4 : StandAt t H s x p) (h5 : (∀ b ∈ p, BillOk s b)) (h6 : p.length ≤ 1000) (q : ∀ (H' : Hp) (r : Addr), Same H H' → RowI H' r ((s.tell p).flatMap row) → H r = none → Q (.ref r) H') : QSpTold t vs H Q
def spTold (t : Adr) : Sp := fun vs H Q _ => QSpTold t vs H Q
theorem sc_told : FnScope ["company", "standing", "told", "paid", "bill", "payout", "behind", "sharer"] ["company", "standing"] (defScope s_told_of_weeks) := ⟨rfl, rfl, rfl, by decide +kernel, rfl, by decide +kernel, by decide +kernel⟩
theorem row_len (l : List Nat) : (row l).length = l.length + 1 := by unfold row; rw [List.length_cons, List.length_map]
theorem row_eq (l : List Nat) : ((l.map fun (n : Nat) => (n : Int)).length : Int) :: (l.map fun (n : Nat) => (n : Int)) = row l := by unfold row; rw [List.length_map]
theorem ok_told_of_weeks (T : Txt K mg t) : FnOk P w K mg base CX0 3 t.f_told_of_weeks t.d_told_of_weeks ["company", "standing"] (spTold t) := by
  refine T.F_told_of_weeks.ok sc_told (fun vs H Q E h => ?_) (fun cdv A outer s0 H vs Q E hr h => ?_)
  · obtain ⟨a, pa, qa, x, s, p, rfl, _⟩ := h
    rfl
  · obtain ⟨a, pa, qa, x, s, p, rfl, hC, wf, hX, ok, hpl, k⟩ := h
    have hr1 : Room 1 _ := hr.mono (by decide)
    refine ⟨_, pss_cons (ps_set (i := 2) sc_told.nd rfl (Or.inl rfl) (pe_lst pa_nil))
      (pss_cons (ps_set (i := 3) sc_told.nd rfl (Or.inr rfl) (pe_lc (own := [("sharer", 7)]) rfl sc_told.nd (pi_list (pe_fld (pv 0) rfl)) (blkOk_by (by show blkC ["company", "standing", "told", "paid", "bill", "payout", "behind", "sharer"] (defScope s_told_of_weeks) _ [("sharer", 7)] = true; decide +kernel))
        (fun _ _ _ _ _ => pg_name (i := 7) sc_told.nd rfl (Or.inl rfl)) (fun _ _ _ _ _ => pts_nil) (fun _ _ _ _ _ => pe_int)))
      (pss_cons (ps_for PassesOwn.never rfl (pi_zip rfl T.b_zip (pa_cons (pe_fld (pv 1) rfl) (pa_cons (pe_fld (pv 1) rfl) pa_nil))) (pg_tup rfl (pgs_cons (pg_name (i := 4) sc_told.nd rfl (Or.inl rfl)) (pgs_cons (pg_name (i := 5) sc_told.nd rfl (Or.inl rfl)) pgs_nil)))
        (pss_cons (ps_set (i := 6) sc_told.nd rfl (Or.inr rfl) (pe_call (ok_paid_behind T) hr rfl T.g_paid_behind T.F_paid_behind.kp T.B_paid_behind .nil pass0 (pa_cons (pe_fld (pv 0) rfl) (pa_cons (pv 3) (pa_cons (pv 5) pa_nil)))))
        (pss_cons (ps_expr (pe_bm PySem.F.plainAttrs_list PySem.F.slot_list_extend PySem.F.type_list_extend mt_extend (pv 2) (pa_cons (pe_call (ok_with_length T) hr1 rfl T.g_with_length T.F_with_length.kp T.B_with_length .nil pass0 (pa_cons (pv 4) pa_nil)) pa_nil)))
        (pss_cons (ps_expr (pe_bm PySem.F.plainAttrs_list PySem.F.slot_list_extend PySem.F.type_list_extend mt_extend (pv 2) (pa_cons (pe_call (ok_with_length T) hr1 rfl T.g_with_length T.F_with_length.kp T.B_with_length .nil pass0 (pa_cons
            (pe_lc (own := [("sharer", 7)]) (te := tOp (rI0 fun i j => .int (i - j)) (tOp (rIxL K) (tVar 6) (tVar 7)) (tOp (rIxL K) (tVar 3) (tVar 7))) rfl sc_told.nd (pi_range1 rfl T.b_range (pa_cons (pe_callB call_len_seq (by rfl) T.b_len PySem.boot_len (pa_cons (pv 3) pa_nil)) pa_nil)) (blkOk_by (by show blkC ["company", "standing", "told", "paid", "bill", "payout", "behind", "sharer"] (defScope s_told_of_weeks) _ [("sharer", 7)] = true; decide +kernel))
              (fun _ _ _ _ _ => pg_name (i := 7) sc_told.nd rfl (Or.inl rfl)) (fun _ _ _ _ _ => pts_nil) (fun _ _ _ _ _ => pe_op op_sub (pe_ix ix_list (pv 6) (pv 7) (fun _ _ => rfl)) (pe_ix ix_list (pv 3) (pv 7) (fun _ _ => rfl)))) pa_nil)) pa_nil)))
        (pss_one (ps_set (i := 3) sc_told.nd rfl (Or.inr rfl) (pv 6)))))))
      (pss_cons (ps_expr (pe_bm PySem.F.plainAttrs_list PySem.F.slot_list_extend PySem.F.type_list_extend mt_extend (pv 2) (pa_cons (pe_call (ok_with_length T) hr1 rfl T.g_with_length T.F_with_length.kp T.B_with_length .nil pass0 (pa_cons (pe_lst (pa_cons (pe_fld (pv 1) rfl) (pa_cons (pe_fld (pv 1) rfl) pa_nil))) pa_nil)) pa_nil)))
      (pss_one (ps_ret (pv 2)))))), ?_⟩
    obtain ⟨⟨dx, ca, hA, hca, _⟩, _, hqa, _⟩ := id hC
    obtain ⟨dxs, g0, bl, q0, bs, x1, x2, x3, x4, x5⟩ := id hX.ex
    have hline : sizeLine = 16777216 := sizeLine_eq
    have wsl := wf.sl
    have hbs : bs.length = p.length := Paired.length x4
    refine ⟨Nat.zero_le _, fun tl htl => ?_⟩
    have S1 : Same H (upd H tl (.lst [])) := same_upd htl
    refine ⟨_, rfl, a, _, dx, _, _, rfl, S1 _ _ hA, T.clCompany, T.nCompany_parts, compF_parts _ _ _ _, qa, rfl, ⟨_, SqL.of (S1 _ _ hqa)⟩, fun D hD => ?_⟩
    refine lc_list (K := K) (a := qa) (xs := nats (s.company.sharers.map fun x => x.parts)) (fun i H3 => Same (upd H tl (.lst [])) H3 ∧ Row H3 D ((s.company.sharers.map fun _ => 0).take i)) ⟨same_upd hD, upd_same⟩ (fun i H3 _ ⟨S3, _⟩ => SqL.of (S3 _ _ (S1 _ _ hqa))) ?_ ?_
    · rintro i y H3 hi ⟨S3, hR⟩
      have hil : i < s.company.sharers.length := by have := (List.getElem?_eq_some_iff.mp hi).1; rw [nats_len, List.length_map] at this; exact this
      refine ⟨rfl, _, hR, ?_, fun c o e => ?_, ?_⟩
      · rw [nats_len, List.length_take, List.length_map]; omega
      · rw [upd_ne (ne_of_none e hD)]; exact S3 _ _ e
      · show upd _ D _ D = _
        rw [upd_same, take_snoc (show (s.company.sharers.map fun _ => 0)[i]? = some 0 by rw [List.getElem?_map, List.getElem?_eq_getElem hil]; rfl), ← nats_snoc]
        rfl
    rintro H3 ⟨S3, hD3⟩
    have ez : (s.company.sharers.map fun _ => 0) = paids s.company.sharers := by
      unfold paids
      apply List.map_congr_left
      intro y hy
      exact (wf.sk y hy).pd.symm
    rw [nats_len, List.length_map, ← List.length_map (f := fun _ => 0), List.take_length, ez] at hD3
    have S13 := S1.trans S3
    have ntl3 : H3 tl = some (.lst []) := S3 _ _ upd_same
    have ndt : D ≠ tl := (ne_of_none (show upd H tl (.lst []) tl = _ from upd_same) hD).symm
    refine ⟨_, rfl, x, _, dxs, _, _, rfl, S13 _ _ x1, T.clStanding, T.nStanding_bills, standF_bills _ _ _ _ _, _, rfl, x, _, dxs, _, _, rfl, S13 _ _ x1, T.clStanding, T.nStanding_payouts, standF_payouts _ _ _ _ _, bl, q0, _, _, rfl, SqL.of (S13 _ _ x3), SqL.of (S13 _ _ x5), ?_⟩
    refine for_zip (K := K) (a := bl) (b := q0) (xs := refs bs) (ys := nats (pays s p)) (by rw [refs_len, nats_len, pays_len]; exact hbs)
      (fun i σ H' => ∃ pd v4 v5 v6 v7, σ = [some (.ref a), some (.ref x), some (.ref tl), some (.ref pd), v4, v5, v6, v7] ∧ Same H H' ∧ RowI H' tl (toldWeeks s p i) ∧ (toldWeeks s p i).length ≤ 20 * i ∧ Row H' pd (paids (co s (p.take i)).sharers) ∧ pd ≠ tl)
      ⟨D, none, none, none, none, rfl, S13, ntl3, Nat.le_refl _, hD3, ndt⟩ (fun i σ H' _ ⟨_, _, _, _, _, _, S, _⟩ => ⟨SqL.of (S _ _ x3), SqL.of (S _ _ x5)⟩) ?_ ?_
    · rintro i y z σ H' X hi hz ⟨pd, v4, v5, v6, v7, rfl, S4, htl4, hlen4, hpd, npd⟩ hX'
      obtain ⟨b, hb, rfl⟩ := refs_of hi
      obtain ⟨l, hl, hbl⟩ := pr_get x4 hb
      obtain ⟨n, hn, rfl⟩ := nats_of hz
      rw [pays_at hl] at hn
      have hn : Uw08.total (s.money (co s (p.take i)) (p.take i) l).given = n := Option.some.inj hn
      have hil : i < p.length := (List.getElem?_eq_some_iff.mp hl).1
      have okl := ok l (List.mem_of_getElem? hl)
      have hll : l.length ≤ 2 := by rw [okl.len]; exact wf.nl
      have C := co_plan wf (p.take i)
      have hco := co_at (s := s) hl
      have hgv := gv_at (s := s) hl
      have hts := told_succ hl hgv
      have Dy : Day (co s (p.take i)) ((s.week (p.take i)).took l) (s.costs + (s.week (p.take i)).works l) := day_ok C.good _ _
      have hgd : (s.money (co s (p.take i)) (p.take i) l).given = diffs (co s (p.take (i + 1))).sharers (co s (p.take i)).sharers := by rw [hco]; exact Dy.given
      have hout : (co s (p.take (i + 1))).sharers = (Uw06.payOut n (co s (p.take i)).sharers).1 := by rw [hco, ← hn]; exact Dy.out
      have hlen' : (co s (p.take (i + 1))).sharers.length = (co s (p.take i)).sharers.length := by rw [hco]; exact Dy.len
      have hle' : ∀ (j : Nat) y y', (co s (p.take i)).sharers[j]? = some y → (co s (p.take (i + 1))).sharers[j]? = some y' → y.paid ≤ y'.paid := by rw [hco]; exact Dy.le
      have hno : (co s (p.take i)).sharers = [] → n = 0 := fun e => by rw [← hn]; exact Dy.nobody e
      have hnb : n ≤ 600 := by rw [← hn]; exact Nat.le_trans (day_small C.good _ _) (took_small wf okl)
      have few : Few (co s (p.take i)).sharers := ⟨C.good, fun y hy => by
        have hy' : y.parts ∈ (co s (p.take i)).sharers.map fun x => x.parts := List.mem_map_of_mem hy
        rw [C.parts] at hy'
        obtain ⟨u, hu, e⟩ := List.mem_map.mp hy'
        have := (wf.sk u hu).p24
        omega, by rw [C.len]; exact wsl⟩
      generalize hc : (co s (p.take i)).sharers = cl at *
      generalize hc' : (co s (p.take (i + 1))).sharers = cl' at *
      have hpp : partsOf cl = s.company.sharers.map fun x => x.parts := by unfold partsOf; rw [← hc]; exact C.parts
      have hcl5 : cl.length ≤ 5 := few.2.2
      generalize hH2 : upd H' X (.tup [.ref b, nV n]) = H2
      have S2 : Same H' H2 := by rw [← hH2]; exact same_upd hX'
      have fX : H2 X = some (.tup [.ref b, nV n]) := by rw [← hH2, upd_same]
      have S42 := S4.trans S2
      refine ⟨X, _, rfl, SqT.of fX, rfl, _, _, rfl, _, _, rfl, rfl, ?_⟩
      refine ⟨_, rfl, a, _, dx, _, _, rfl, S42 _ _ hA, T.clCompany, T.nCompany_parts, compF_parts _ _ _ _, _, rfl, _, rfl, qa, pd, cl, n, rfl, by show _ = _; rw [hpp]; exact S42 _ _ hqa, S2 _ _ hpd, few, hno, by omega, fun H5 bh S5 hbh nbh => ?_⟩
      have nbt : bh ≠ tl := (ne_of_none (S2 _ _ htl4) nbh).symm
      have btl : b ≠ tl := ne_of_none hbl htl
      rw [← hout] at hbh
      have S25 := S2.trans S5
      refine ⟨_, rfl, .inl ⟨rfl, _, SqL.of (S25 _ _ htl4)⟩, _, rfl, b, _, rfl, Row.i ((S4.trans S25) _ _ hbl), by rw [List.length_map]; omega, fun H6 r6 S6 hr6 nr6 => ⟨tl, r6, _, _, rfl, rfl, S6 _ _ (S25 _ _ htl4), hr6, by rw [row_eq, List.length_map, List.length_map, row_len]; omega, ?_⟩⟩
      rw [row_eq] at hr6 ⊢
      generalize hH7 : upd H6 tl (.lst ((toldWeeks s p i).map V.int ++ (row l).map V.int)) = H7
      have S26 := S25.trans S6
      have K7 : ∀ c o, H' c = some o → c ≠ tl → H7 c = some o := fun c o e nc => by rw [← hH7, upd_ne nc]; exact S26 _ _ e
      have f7 : H7 tl = some (.lst ((toldWeeks s p i).map V.int ++ (row l).map V.int)) := by rw [← hH7, upd_same]
      have bh7 : Row H7 bh (paids cl') := by show H7 bh = _; rw [← hH7, upd_ne nbt]; exact S6 _ _ hbh
      have pd7 : Row H7 pd (paids cl) := K7 _ _ hpd npd
      have pl7 : (nats (paids cl)).length = cl.length := by rw [nats_len]; unfold paids; rw [List.length_map]
      refine ⟨_, rfl, .inl ⟨rfl, _, SqL.of f7⟩, _, rfl, pd, _, rfl, .inl (SqL.of pd7), _, rfl, by omega, by rw [pl7]; omega, fun D8 hD8 => ?_⟩
      have e8 : (((nats (paids cl)).length : Nat) : Int).toNat = cl.length := by rw [pl7]; omega
      rw [e8]
      refine lc_range (lo := 0) (n := cl.length) (fun j H9 => Same H7 H9 ∧ Row H9 D8 ((diffs cl' cl).take j)) ⟨same_upd hD8, upd_same⟩ ?_ ?_
      · rintro j H9 hj ⟨S9, hR9⟩
        rw [zero_int]
        have ey : cl[j]? = some cl[j] := List.getElem?_eq_getElem hj
        have hj' : j < cl'.length := by omega
        have ey' : cl'[j]? = some cl'[j] := List.getElem?_eq_getElem hj'
        have ed := diffs_at ey ey'
        have hle := hle' j _ _ ey ey'
        have pa1 : (paids cl')[j]? = some cl'[j].paid := by unfold paids; rw [List.getElem?_map, ey']; rfl
        have pa2 : (paids cl)[j]? = some cl[j].paid := by unfold paids; rw [List.getElem?_map, ey]; rfl
        refine ⟨rfl, _, rfl, _, rfl, bh, _, _, _, rfl, rfl, SqL.of (S9 _ _ bh7), atI_nat (nats_at pa1), _, rfl, _, rfl, pd, _, _, _, rfl, rfl, SqL.of (S9 _ _ pd7), atI_nat (nats_at pa2), _, _, rfl, rfl, _, hR9, ?_, fun c o e => ?_, ?_⟩
        · rw [nats_len, List.length_take]; omega
        · rw [upd_ne (ne_of_none e hD8)]; exact S9 _ _ e
        · show upd _ D8 _ D8 = _
          rw [upd_same, take_snoc ed, ← nats_snoc]
          congr 4
          exact nV_of (by omega)
      · rintro H9 ⟨S9, hR9⟩
        rw [← diffs_len hlen', List.take_length, ← hgd] at hR9
        have hgl : (s.money (co s (p.take i)) (p.take i) l).given.length = cl.length := by rw [hgd]; exact diffs_len hlen'
        refine ⟨D8, _, rfl, Row.i hR9, by rw [List.length_map, hgl]; omega, fun H10 r10 S10 hr10 nr10 => ⟨tl, r10, _, _, rfl, rfl, (S9.trans S10) _ _ f7, hr10, ?_, ?_⟩⟩
        · rw [row_eq, List.length_append, List.length_map, List.length_map, List.length_map, row_len, row_len, hgl]; omega
        rw [row_eq]
        have K11 : ∀ c o, H7 c = some o → c ≠ tl → upd H10 tl (.lst ((toldWeeks s p i).map V.int ++ (row l).map V.int ++ (row (s.money (co s (p.take i)) (p.take i) l).given).map V.int)) c = some o := fun c o e nc => by rw [upd_ne nc]; exact S10 _ _ (S9 _ _ e)
        refine ⟨_, rfl, bh, _, _, _, _, rfl, fun c o e => K11 c o (K7 c o (S4 _ _ e) (ne_of_none e htl)) (ne_of_none e htl), ?_, ?_, K11 _ _ bh7 nbt, nbt⟩
        · show upd _ tl _ tl = _
          rw [upd_same, hts, List.map_append, List.map_append, List.append_assoc]
        · rw [hts, List.length_append, List.length_append, row_len, row_len, hgl]; omega
    · rintro σ H' ⟨pd, v4, v5, v6, v7, rfl, S4, htl4, hlen4, hpd, npd⟩
      rw [refs_len, hbs] at htl4 hlen4
      refine ⟨_, rfl, .inl ⟨rfl, _, SqL.of htl4⟩, _, rfl, x, _, dxs, _, _, rfl, S4 _ _ x1, T.clStanding, T.nStanding_fund, standF_fund _ _ _ _ _, _, rfl, x, _, dxs, _, _, rfl, S4 _ _ x1, T.clStanding, T.nStanding_debt, standF_debt _ _ _ _ _, (by show 2 ≤ sizeLine; decide), fun e he => ?_⟩
      have S5 : Same H' (upd H' e (.lst [nV (co s p).fund, nV (co s p).debt])) := same_upd he
      refine ⟨e, _, rfl, Row.i (l := [(co s p).fund, (co s p).debt]) upd_same, by show 2 ≤ 1000000; decide, fun H6 r6 S6 hr6 nr6 => ⟨tl, r6, _, _, rfl, rfl, (S5.trans S6) _ _ htl4, hr6, ?_, ?_⟩⟩
      · rw [row_eq, List.length_map, List.length_map, row_len]; show _ + (2 + 1) ≤ _; omega
      · rw [row_eq]
        refine ⟨_, rfl, k _ tl (fun c o q => ?_) ?_ htl⟩
        · rw [upd_ne (ne_of_none q htl)]; exact (S5.trans S6) _ _ (S4 _ _ q)
        · show upd _ tl _ tl = _
          rw [upd_same, tell_rows, List.map_append]
end
end Ps
end
section
set_option Elab.async false
set_option linter.all false
set_option maxRecDepth 100000
set_option maxHeartbeats 2000000
namespace Ps
open PySem PySem.Spec PyProof.Rows L2
theorem all_max {l : List Nat} {m : Int} {c : Nat} (h1 : m ∈ l.map fun (n : Nat) => (n : Int)) (h2 : ∀ y ∈ l.map fun (n : Nat) => (n : Int), y ≤ m) : (l.all fun x => decide (x ≤ c)) = decide (m ≤ (c : Int)) := by
  by_cases h : m ≤ (c : Int)
  · rw [decide_eq_true h]
    refine List.all_eq_true.mpr fun x hx => decide_eq_true ?_
    have := h2 (x : Int) (List.mem_map_of_mem (f := fun (n : Nat) => (n : Int)) hx)
    omega
  · rw [decide_eq_false h, Bool.eq_false_iff]
    intro q
    obtain ⟨x, hx, e⟩ := List.mem_map.mp h1
    have := of_decide_eq_true (List.all_eq_true.mp q x hx)
    exact h (by omega)
/-- the lists that a company's own list and a play's name: each of them such -/
def CompN (N : Addr → Prop) (H : Hp) (a pa : Addr) : Prop := (∃ C dx fs ca, H a = some (.ins C dx fs) ∧ fs.lookup ("crowds" : Str) = some (.ref ca) ∧ N ca) ∧ ∃ as, H pa = some (.lst (refs as)) ∧ ∀ x ∈ as, ∃ C dx fs br, H x = some (.ins C dx fs) ∧ fs.lookup ("brings" : Str) = some (.ref br) ∧ N br
theorem CompN.same {N : Addr → Prop} {H H' : Hp} {a pa : Addr} (S : Same H H') (h : CompN N H a pa) : CompN N H' a pa := by
  obtain ⟨⟨C, dx, fs, ca, h1, h2, h3⟩, as, h4, h5⟩ := h
  refine ⟨⟨C, dx, fs, ca, S _ _ h1, h2, h3⟩, as, S _ _ h4, fun x hx => ?_⟩
  obtain ⟨C', dx', fs', br, q1, q2, q3⟩ := h5 x hx
  exact ⟨C', dx', fs', br, S _ _ q1, q2, q3⟩
theorem refs_inj : ∀ {as bs : List Addr}, refs as = refs bs → as = bs
  | [], [], _ => rfl
  | [], _ :: _, h => by cases h
  | _ :: _, [], h => by cases h
  | a :: as, b :: bs, h => by
    have e : V.ref a :: refs as = V.ref b :: refs bs := h
    injection e with e1 e2
    injection e1 with e1
    rw [e1, refs_inj e2]
/-- what is wanted behind a call -/
def After (t : Adr) (H : Hp) (a pa qa : Addr) (s : Uw08.Season) (x : Uw08.Call) (Q : VK) : Prop := ∀ (H' : Hp) (r pa' qa' : Addr), CompAt t H' a pa' qa' (Uw08.step s x).1 → RowI H' r (Uw08Neutral.out (Uw08.step s x).2) →
  (∀ b o, H b = some o → b ≠ a → b ≠ pa → b ≠ qa → H' b = some o) → (pa' = pa ∨ H pa' = none) → (qa' = qa ∨ H qa' = none) → (∀ N : Addr → Prop, CompN N H a pa → (∀ c, H c = none → N c) → CompN N H' a pa') → Q (.ref r) H'
theorem After.same {t : Adr} {H H' : Hp} {a pa qa r : Addr} {s : Uw08.Season} {x : Uw08.Call} {Q : VK} (k : After t H a pa qa s x Q) (S : Same H H') (hC : CompAt t H a pa qa s) (e : (Uw08.step s x).1 = s) (hr : RowI H' r (Uw08Neutral.out (Uw08.step s x).2)) : Q (.ref r) H' :=
  k H' r pa qa (by rw [e]; exact hC.same S) hr (fun b o h _ _ _ => S b o h) (.inl rfl) (.inl rfl) (fun _ h _ => h.same S)
theorem After.from {t : Adr} {H H1 : Hp} {a pa qa : Addr} {s : Uw08.Season} {x : Uw08.Call} {Q : VK} (k : After t H a pa qa s x Q) (S : Same H H1) : After t H1 a pa qa s x Q :=
  fun H' r pa' qa' h1 h2 h3 h4 h5 h6 => k H' r pa' qa' h1 h2 (fun b o e n1 n2 n3 => h3 b o (S b o e) n1 n2 n3) (h4.imp_right S.free) (h5.imp_right S.free) (fun N hN hf => h6 N (hN.same S) fun c hc => hf c (S.free hc))
section
variable {P : Program} {w : World} {K : PySem.W.Frag} {mg : Str → Option Value} {base : Heap} {t : Adr}
/-! begins_as_told -/
def BC (k m w : Nat) (n : List Nat) : Prop := n = [] ∨ Uw08.NIGHTS < n.length ∨ (n.all fun x => decide (x ≤ Uw05.HUNDRED)) = false ∨ Uw08.MOST < k ∨ Uw08.MOST < m ∨ Uw08.MOST < w
inductive QSpBeginsOk (vs : List V) (H : Hp) (Q : VK) : Prop
  | mk (k m w : Nat) (cr : Addr) (n : List Nat) (h1 : vs = [nV k, nV m, nV w, .ref cr]) (h2 : Row H cr n) (h3 : (BC k m w n → Q (.bl false) H)) (q : (¬ BC k m w n → Q (.bl true) H)) : QSpBeginsOk vs H Q
def spBeginsOk : Sp := fun vs H Q _ => QSpBeginsOk vs H Q
theorem sc_begok : FnScope ["costs", "fund_limit", "wages", "crowds"] ["costs", "fund_limit", "wages", "crowds"] (defScope s_begins_as_told) := ⟨rfl, rfl, rfl, by decide +kernel, rfl, by decide +kernel, by decide +kernel⟩
theorem ok_begins_as_told (T : Txt K mg t) : FnOk P w K mg base CX0 1 t.f_begins_as_told t.d_begins_as_told ["costs", "fund_limit", "wages", "crowds"] spBeginsOk := by
  refine T.F_begins_as_told.ok sc_begok (fun vs H Q E h => ?_) (fun cdv A outer s0 H vs Q E hr h => ?_)
  · obtain ⟨k, m, w, cr, n, rfl, _⟩ := h
    rfl
  · obtain ⟨k, m, w, cr, n, rfl, hcr, q0, q1⟩ := h
    obtain ⟨t1, k1⟩ := T.k_MOST_NIGHTS
    obtain ⟨t2, k2⟩ := T.k_MOST_OF_A_HUNDRED
    obtain ⟨t3, k3⟩ := T.k_MOST_MONEY
    refine ⟨_, pss_cons (ps_if (PW.pt (pw_or (pt_cmp (pc_lt (pe_callB call_len_seq (by rfl) T.b_len PySem.boot_len (pa_cons (pv 3) pa_nil)) pe_int)) (pw_or (pt_cmp (pc_gt (pe_callB call_len_seq (by rfl) T.b_len PySem.boot_len (pa_cons (pv 3) pa_nil)) (pe_glob (v := .int 2) rfl k1 ⟨t1, rfl⟩)))
        (pw_or1 (pt_cmp (pc_gt (pe_callB (cr_max rfl) (by rfl) T.b_max PyProof.Rows.boot_max (pa_cons (pv 3) pa_nil)) (pe_glob (v := .int 300) rfl k2 ⟨t2, rfl⟩)))))))
        (pss_one (ps_ret pe_bl)) pss_nil)
      (pss_one (ps_ret (pe_cmp (pc_le (pe_callB (call_max3 rfl) (by rfl) T.b_max PyProof.Rows.boot_max (pa_cons (pv 0) (pa_cons (pv 1) (pa_cons (pv 2) pa_nil)))) (pe_glob (v := .int 1000) rfl k3 ⟨t3, rfl⟩))))), ?_⟩
    have e1 : Uw08.NIGHTS = 2 := rfl
    have e2 : Uw08.MOST = 1000 := rfl
    refine ⟨_, rfl, cr, _, rfl, .inl (SqL.of hcr), _, _, rfl, rfl, _, rfl, ite2 (fun z => iteT (q0 ?_)) (fun z => ?_)⟩
    · have z := of_decide_eq_true z
      rw [nats_len] at z
      exact .inl (List.length_eq_zero_iff.mp (by omega))
    · have z : ¬ (((nats n).length : Nat) : Int) < 1 := fun q => z (decide_eq_true q)
      rw [nats_len] at z
      refine ⟨_, rfl, cr, _, rfl, .inl (SqL.of hcr), _, _, rfl, rfl, _, rfl, ite2 (fun y => iteT (q0 ?_)) (fun y => ?_)⟩
      · have y := of_decide_eq_true y
        rw [nats_len] at y
        exact .inr (.inl (by omega))
      · have y : ¬ (2 : Int) < (((nats n).length : Nat) : Int) := fun q => y (decide_eq_true q)
        rw [nats_len] at y
        refine ⟨_, rfl, cr, _, rfl, SqL.of hcr.i, by rw [List.length_map]; omega, fun x hx hle => ?_⟩
        have ha := all_max (c := 300) hx hle
        refine ⟨_, _, rfl, rfl, _, rfl, ite2 (fun u => q0 ?_) (fun u => ?_)⟩
        · have u := of_decide_eq_true u
          exact .inr (.inr (.inl (by show (n.all fun x => decide (x ≤ 300)) = false; rw [ha]; exact decide_eq_false (by omega))))
        · have u : ¬ (300 : Int) < x := fun q => u (decide_eq_true q)
          have ha' : (n.all fun x => decide (x ≤ 300)) = true := by rw [ha]; exact decide_eq_true (by omega)
          refine ⟨_, rfl, _, rfl, _, rfl, _, _, _, rfl, _, _, rfl, rfl, ?_⟩
          by_cases c : BC k m w n
          · have q := q0 c
            have : ¬ max ((k : Nat) : Int) (max ((m : Nat) : Int) ((w : Nat) : Int)) ≤ 1000 := by
              rcases c with c | c | c | c | c | c
              · rw [c] at z; exact absurd (by decide) z
              · omega
              · rw [show (n.all fun x => decide (x ≤ Uw05.HUNDRED)) = true from ha'] at c; cases c
              · omega
              · omega
              · omega
            show Q (.bl (decide (max ((k : Nat) : Int) (max ((m : Nat) : Int) ((w : Nat) : Int)) ≤ 1000))) H
            rw [decide_eq_false this]
            exact q
          · have q := q1 c
            have : max ((k : Nat) : Int) (max ((m : Nat) : Int) ((w : Nat) : Int)) ≤ 1000 := by
              have c1 : ¬ Uw08.MOST < k := fun z => c (.inr (.inr (.inr (.inl z))))
              have c2 : ¬ Uw08.MOST < m := fun z => c (.inr (.inr (.inr (.inr (.inl z)))))
              have c3 : ¬ Uw08.MOST < w := fun z => c (.inr (.inr (.inr (.inr (.inr z)))))
              omega
            show Q (.bl (decide (max ((k : Nat) : Int) (max ((m : Nat) : Int) ((w : Nat) : Int)) ≤ 1000))) H
            rw [decide_eq_true this]
            exact q
/-! begin_season -/
inductive QSpBegin (t : Adr) (vs : List V) (H : Hp) (Q : VK) : Prop
  | mk (H0 : Hp) (a pa qa cr : Addr) (s : Uw08.Season) (k m w : Nat) (n : List Nat) (h1 : vs = [.ref a, nV k, nV m, nV w, .ref cr]) (h2 : CompAt t H a pa qa s) (h3 : Row H cr n) (h4 : Same H0 H) (h5 : H0 cr = none) (q : After t H0 a pa qa s (.begins k m w n) Q) : QSpBegin t vs H Q
def spBegin (t : Adr) : Sp := fun vs H Q _ => QSpBegin t vs H Q
theorem sc_begin : FnScope ["company", "costs", "fund_limit", "wages", "crowds"] ["company", "costs", "fund_limit", "wages", "crowds"] (defScope s_begin_season) := ⟨rfl, rfl, rfl, by decide +kernel, rfl, by decide +kernel, by decide +kernel⟩
theorem ok_begin_season (T : Txt K mg t) : FnOk P w K mg base CX0 2 t.f_begin_season t.d_begin_season ["company", "costs", "fund_limit", "wages", "crowds"] (spBegin t) := by
  refine T.F_begin_season.ok sc_begin (fun vs H Q E h => ?_) (fun cdv A outer s0 H vs Q E hr h => ?_)
  · obtain ⟨H0, a, pa, qa, cr, s, k, m, w, n, rfl, _⟩ := h
    rfl
  · obtain ⟨H0, a, pa, qa, cr, s, k, m, w, n, rfl, hC, hcr, S0, hcr0, kk⟩ := h
    obtain ⟨t1, k1⟩ := T.k_NOT_AS_TOLD
    refine ⟨_, pss_cons (ps_if (pt_not (pt_val (pe_call (ok_begins_as_told T) hr rfl T.g_begins_as_told T.F_begins_as_told.kp T.B_begins_as_told .nil pass0 (pa_cons (pv 1) (pa_cons (pv 2) (pa_cons (pv 3) (pa_cons (pv 4) pa_nil)))))))
        (pss_one (ps_ret (pe_lst (pa_cons (pe_glob (v := .int (-1)) rfl k1 ⟨t1, rfl⟩) pa_nil)))) pss_nil)
      (pss_cons (ps_fld (pv 0) (pv 1) rfl) (pss_cons (ps_fld (pv 0) (pv 2) rfl) (pss_cons (ps_fld (pv 0) (pv 3) rfl) (pss_cons (ps_fld (pv 0) (pv 4) rfl) (pss_cons (ps_fld (pv 0) pe_int rfl) (pss_cons (ps_fld (pv 0) (pe_lst pa_nil) rfl) (pss_cons (ps_fld (pv 0) (pe_lst pa_nil) rfl)
      (pss_one (ps_ret (pe_lst (pa_cons (pe_callB call_len_seq (by rfl) T.b_len PySem.boot_len (pa_cons (pv 4) pa_nil)) pa_nil))))))))))), ?_⟩
    obtain ⟨⟨dx, ca, hA, hca, _⟩, _⟩ := id hC
    refine ⟨_, rfl, _, rfl, _, rfl, _, rfl, k, m, w, cr, n, rfl, hcr, fun c => ⟨_, rfl, ?_⟩, fun c => ⟨_, rfl, ?_⟩⟩
    · refine iteT ⟨(by show 1 ≤ sizeLine; decide), fun r hr' => ?_⟩
      have e : Uw08.step s (.begins k m w n) = (s, Uw08.ok (-1)) := by unfold Uw08.step; exact if_pos c
      refine (kk.from S0).same (same_upd hr') hC (by rw [e]) ?_
      show upd _ r _ r = _
      rw [upd_same, e]
      rfl
    · refine iteF ?_
      have e : Uw08.step s (.begins k m w n) = (⟨n, [], k, ⟨[], 0, m, w, 0⟩⟩, Uw08.ok (n.length : Nat)) := by unfold Uw08.step; exact if_neg c
      have hA0 : H a = some (.ins t.cCompany dx [("costs", nV s.costs), ("fund_limit", nV s.company.most), ("wages", nV s.company.wages), ("crowds", .ref ca), ("fund", nV s.company.fund), ("plays", .ref pa), ("parts", .ref qa)]) := hA
      refine ⟨_, rfl, _, rfl, a, _, dx, _, rfl, hA0, T.clCompany, T.nCompany_costs, (by show 7 < 1000; decide), ?_⟩
      rw [set_Company_costs]
      refine ⟨_, rfl, _, rfl, a, _, dx, _, rfl, upd_same, T.clCompany, T.nCompany_fund_limit, (by show 7 < 1000; decide), ?_⟩
      rw [set_Company_fund_limit, upd_upd]
      refine ⟨_, rfl, _, rfl, a, _, dx, _, rfl, upd_same, T.clCompany, T.nCompany_wages, (by show 7 < 1000; decide), ?_⟩
      rw [set_Company_wages, upd_upd]
      refine ⟨_, rfl, _, rfl, a, _, dx, _, rfl, upd_same, T.clCompany, T.nCompany_crowds, (by show 7 < 1000; decide), ?_⟩
      rw [set_Company_crowds, upd_upd]
      refine ⟨_, rfl, a, _, dx, _, rfl, upd_same, T.clCompany, T.nCompany_fund, (by show 7 < 1000; decide), ?_⟩
      rw [set_Company_fund, upd_upd]
      refine ⟨Nat.zero_le _, fun pa' hpa' => ⟨_, rfl, a, _, dx, _, rfl, same_upd hpa' _ _ upd_same, T.clCompany, T.nCompany_plays, (by show 7 < 1000; decide), ?_⟩⟩
      rw [set_Company_plays]
      refine ⟨Nat.zero_le _, fun qa' hqa' => ⟨_, rfl, a, _, dx, _, rfl, same_upd hqa' _ _ upd_same, T.clCompany, T.nCompany_parts, (by show 7 < 1000; decide), ?_⟩⟩
      rw [set_Company_parts]
      have apa : a ≠ pa' := fun z => by subst z; rw [upd_same] at hpa'; cases hpa'
      have aqa : a ≠ qa' := fun z => by subst z; rw [upd_same] at hqa'; cases hqa'
      have npa : H pa' = none := by rw [upd_ne apa.symm] at hpa'; exact hpa'
      have pqa : pa' ≠ qa' := fun z => by subst z; rw [upd_ne apa.symm, upd_same] at hqa'; cases hqa'
      have nqa : H qa' = none := by rw [upd_ne aqa.symm, upd_ne pqa.symm, upd_ne aqa.symm] at hqa'; exact hqa'
      have acr : cr ≠ a := ne_of hcr hA (by intro z; cases z)
      have crp : cr ≠ pa' := ne_of_none hcr npa
      have crq : cr ≠ qa' := ne_of_none hcr nqa
      have keep : ∀ b o, H b = some o → b ≠ a → ∀ oo, upd (upd (upd (upd (upd H a oo) pa' (.lst [])) a oo) qa' (.lst [])) a oo b = some o := fun b o h nb oo => by
        rw [upd_ne nb, upd_ne (ne_of_none h nqa), upd_ne nb, upd_ne (ne_of_none h npa), upd_ne nb]; exact h
      have keep2 : ∀ b o, H b = some o → b ≠ a → ∀ o1 o2 o3, upd (upd (upd (upd (upd H a o1) pa' (.lst [])) a o2) qa' (.lst [])) a o3 b = some o := fun b o h nb o1 o2 o3 => by
        rw [upd_ne nb, upd_ne (ne_of_none h nqa), upd_ne nb, upd_ne (ne_of_none h npa), upd_ne nb]; exact h
      refine ⟨_, rfl, cr, _, rfl, .inl (SqL.of (keep2 _ _ hcr acr _ _ _)), (by show 1 ≤ sizeLine; decide), fun r hr' => ?_⟩
      refine kk _ r pa' qa' ?_ ?_ (fun b o h nb _ _ => same_upd hr' _ _ (keep2 b o (S0 _ _ h) nb _ _ _)) (.inr (S0.free npa)) (.inr (S0.free nqa)) (fun N hN hf => CompN.same (same_upd hr') ⟨⟨_, dx, _, cr, upd_same, compF_crowds ⟨n, [], k, ⟨[], 0, m, w, 0⟩⟩ cr pa' qa', hf _ hcr0⟩, [], by rw [upd_ne apa.symm, upd_ne pqa, upd_ne apa.symm, upd_same]; rfl, fun x hx => by cases hx⟩)
      · rw [e]
        refine CompAt.same (same_upd hr') ⟨⟨dx, cr, upd_same, keep2 _ _ hcr acr _ _ _, crp, crq⟩, ⟨[], ?_, .nil⟩, ?_, pqa⟩
        · rw [upd_ne apa.symm, upd_ne pqa, upd_ne apa.symm, upd_same]
          rfl
        · show upd _ _ _ qa' = _
          rw [upd_ne aqa.symm, upd_same]
          rfl
      · show upd _ r _ r = _
        rw [upd_same, e, nats_len]
        rfl
/-! join_company -/
inductive QSpJoin (t : Adr) (vs : List V) (H : Hp) (Q : VK) : Prop
  | mk (a pa qa : Addr) (s : Uw08.Season) (p : Nat) (h1 : vs = [.ref a, nV p]) (h2 : CompAt t H a pa qa s) (h3 : WF s) (q : After t H a pa qa s (.join p) Q) : QSpJoin t vs H Q
def spJoin (t : Adr) : Sp := fun vs H Q _ => QSpJoin t vs H Q
theorem sc_join : FnScope ["company", "parts"] ["company", "parts"] (defScope s_join_company) := ⟨rfl, rfl, rfl, by decide +kernel, rfl, by decide +kernel, by decide +kernel⟩
theorem ok_join_company (T : Txt K mg t) : FnOk P w K mg base CX0 1 t.f_join_company t.d_join_company ["company", "parts"] (spJoin t) := by
  refine T.F_join_company.ok sc_join (fun vs H Q E h => ?_) (fun cdv A outer s0 H vs Q E hr h => ?_)
  · obtain ⟨a, pa, qa, s, p, rfl, _⟩ := h
    rfl
  · obtain ⟨a, pa, qa, s, p, rfl, hC, wf, kk⟩ := h
    obtain ⟨t1, k1⟩ := T.k_NOT_AS_TOLD
    obtain ⟨t2, k2⟩ := T.k_MOST_PARTS
    obtain ⟨t3, k3⟩ := T.k_MOST_SHARERS
    obtain ⟨t4, k4⟩ := T.k_NO_ROOM
    refine ⟨_, pss_cons (ps_if (PW.pt (pw_or (pt_cmp (pc_lt (pv 1) pe_int)) (pw_or1 (pt_cmp (pc_gt (pv 1) (pe_glob (v := .int 24) rfl k2 ⟨t2, rfl⟩))))))
        (pss_one (ps_ret (pe_lst (pa_cons (pe_glob (v := .int (-1)) rfl k1 ⟨t1, rfl⟩) pa_nil)))) pss_nil)
      (pss_cons (ps_if (pt_cmp (pc_eqI (pe_callB call_len_seq (by rfl) T.b_len PySem.boot_len (pa_cons (pe_fld (pv 0) rfl) pa_nil)) (pe_glob (v := .int 5) rfl k3 ⟨t3, rfl⟩)))
        (pss_one (ps_ret (pe_lst (pa_cons (pe_glob (v := .int (-5)) rfl k4 ⟨t4, rfl⟩) pa_nil)))) pss_nil)
      (pss_cons (ps_expr (pe_bm PySem.F.plainAttrs_list PySem.F.slot_list_append PySem.F.type_list_append mt_append (pe_fld (pv 0) rfl) (pa_cons (pv 1) pa_nil)))
      (pss_one (ps_ret (pe_lst (pa_cons (pe_op op_sub (pe_callB call_len_seq (by rfl) T.b_len PySem.boot_len (pa_cons (pe_fld (pv 0) rfl) pa_nil)) pe_int) pa_nil)))))), ?_⟩
    obtain ⟨⟨dx, ca, hA, hca, ncp, ncq⟩, ⟨as, hpa, hps⟩, hqa, npq⟩ := id hC
    have hline : sizeLine = 16777216 := sizeLine_eq
    have wsl := wf.sl
    have e24 : Uw06.PARTS = 24 := rfl
    have e5 : Uw08.SHARERS = 5 := rfl
    have hlen : (nats (s.company.sharers.map fun x => x.parts)).length = s.company.sharers.length := by rw [nats_len, List.length_map]
    have bad : (p < 1 ∨ Uw06.PARTS < p) → ∀ r, H r = none → Q (.ref r) (upd H r (.lst [V.int (-1)])) := fun c r hr' => by
      have e : Uw08.step s (.join p) = (s, Uw08.ok (-1)) := by unfold Uw08.step; exact if_pos c
      refine kk.same (same_upd hr') hC (by rw [e]) ?_
      show upd _ r _ r = _
      rw [upd_same, e]
      rfl
    refine ⟨_, rfl, _, _, rfl, rfl, _, rfl, ite2 (fun z => iteT ⟨(by show 1 ≤ sizeLine; decide), bad ?_⟩) (fun z => ⟨_, rfl, _, _, rfl, rfl, _, rfl, ite2 (fun y => ⟨(by show 1 ≤ sizeLine; decide), bad ?_⟩) (fun y => ?_)⟩)⟩
    · have z := of_decide_eq_true z
      exact .inl (by omega)
    · have y := of_decide_eq_true y
      exact .inr (by omega)
    · have z : ¬ ((p : Nat) : Int) < 1 := fun q => z (decide_eq_true q)
      have y : ¬ (24 : Int) < ((p : Nat) : Int) := fun q => y (decide_eq_true q)
      have c : ¬ (p < 1 ∨ Uw06.PARTS < p) := by omega
      refine ⟨_, rfl, a, _, dx, _, _, rfl, hA, T.clCompany, T.nCompany_parts, compF_parts _ _ _ _, qa, _, rfl, .inl (SqL.of hqa), _, _, rfl, rfl, _, rfl, ite2 (fun u => ?_) (fun u => ?_)⟩
      · have u := of_decide_eq_true u
        rw [hlen] at u
        have e : Uw08.step s (.join p) = (s, Uw08.ok (-5)) := by
          unfold Uw08.step
          show (if _ then _ else if _ then _ else _) = _
          rw [if_neg c, if_pos (by omega)]
        refine ⟨(by show 1 ≤ sizeLine; decide), fun r hr' => kk.same (same_upd hr') hC (by rw [e]) ?_⟩
        show upd _ r _ r = _
        rw [upd_same, e]
        rfl
      · have u : ¬ (((nats (s.company.sharers.map fun x => x.parts)).length : Nat) : Int) = 5 := fun q => u (decide_eq_true q)
        rw [hlen] at u
        have e : Uw08.step s (.join p) = ({ s with company := { s.company with sharers := s.company.sharers ++ [⟨p, 0, true⟩] } }, Uw08.ok (s.company.sharers.length : Nat)) := by
          unfold Uw08.step
          show (if _ then _ else if _ then _ else _) = _
          rw [if_neg c, if_neg (by omega)]
        refine ⟨_, rfl, a, _, dx, _, _, rfl, hA, T.clCompany, T.nCompany_parts, compF_parts _ _ _ _, .inl ⟨rfl, _, SqL.of hqa⟩, _, rfl, qa, _, _, rfl, rfl, hqa, by rw [hlen]; omega, ?_⟩
        have aqa : a ≠ qa := ne_of hA hqa (by intro z; cases z)
        have kp : ∀ b o, H b = some o → b ≠ qa → upd H qa (.lst (nats (s.company.sharers.map fun x => x.parts) ++ [nV p])) b = some o := fun b o h nb => by rw [upd_ne nb]; exact h
        refine ⟨_, rfl, a, _, dx, _, _, rfl, kp _ _ hA aqa, T.clCompany, T.nCompany_parts, compF_parts _ _ _ _, qa, _, rfl, .inl (SqL.of upd_same), _, _, rfl, rfl, (by show 1 ≤ sizeLine; decide), fun r hr' => ?_⟩
        refine kk _ r pa qa ?_ ?_ (fun b o h _ _ nb => same_upd hr' _ _ (kp b o h nb)) (.inl rfl) (.inl rfl) (fun N hN hf => CompN.same (same_upd hr') ?_)
        · rw [e]
          refine CompAt.same (same_upd hr') ⟨⟨dx, ca, kp _ _ hA aqa, kp _ _ hca ncq, ncp, ncq⟩, ⟨as, kp _ _ hpa npq, Paired.mapP hps fun x pl h => ?_⟩, ?_, npq⟩
          · obtain ⟨d, br, h1, h2, h3, h4⟩ := h.ex
            exact ⟨d, br, kp _ _ h1 (ne_of h1 hqa (by intro z; cases z)), kp _ _ h2 h4, h3, h4⟩
          · show upd _ qa _ qa = some (.lst (nats ((s.company.sharers ++ [(⟨p, 0, true⟩ : Uw06.Sharer)]).map fun x => x.parts)))
            rw [upd_same, nats_snoc, List.map_append]
            rfl
        · show upd _ r _ r = _
          rw [upd_same, e, List.length_append, hlen]
          show some (HO.lst [V.int _]) = some (HO.lst [V.int ((s.company.sharers.length : Nat) : Int)])
          congr 4
          simp
        · obtain ⟨⟨C', d', fs', ca', w1, w2, w3⟩, as', w4, w5⟩ := hN
          refine ⟨⟨C', d', fs', ca', kp _ _ w1 aqa, w2, w3⟩, as', kp _ _ w4 npq, fun x hx => ?_⟩
          obtain ⟨C'', d'', fs'', br, v1, v2, v3⟩ := w5 x hx
          exact ⟨C'', d'', fs'', br, kp _ _ v1 (ne_of v1 hqa (by intro z; cases z)), v2, v3⟩
/-! put_into_fund -/
inductive QSpPut (t : Adr) (vs : List V) (H : Hp) (Q : VK) : Prop
  | mk (a pa qa : Addr) (s : Uw08.Season) (n : Nat) (h1 : vs = [.ref a, nV n]) (h2 : CompAt t H a pa qa s) (h3 : WF s) (q : After t H a pa qa s (.bring n) Q) : QSpPut t vs H Q
def spPut (t : Adr) : Sp := fun vs H Q _ => QSpPut t vs H Q
theorem sc_put : FnScope ["company", "money", "put"] ["company", "money"] (defScope s_put_into_fund) := ⟨rfl, rfl, rfl, by decide +kernel, rfl, by decide +kernel, by decide +kernel⟩
theorem ok_put_into_fund (T : Txt K mg t) : FnOk P w K mg base CX0 1 t.f_put_into_fund t.d_put_into_fund ["company", "money"] (spPut t) := by
  refine T.F_put_into_fund.ok sc_put (fun vs H Q E h => ?_) (fun cdv A outer s0 H vs Q E hr h => ?_)
  · obtain ⟨a, pa, qa, s, n, rfl, _⟩ := h
    rfl
  · obtain ⟨a, pa, qa, s, n, rfl, hC, wf, kk⟩ := h
    obtain ⟨t1, k1⟩ := T.k_NOT_AS_TOLD
    obtain ⟨t2, k2⟩ := T.k_MOST_MONEY
    refine ⟨_, pss_cons (ps_if (pt_cmp (pc_gt (pv 1) (pe_glob (v := .int 1000) rfl k2 ⟨t2, rfl⟩)))
        (pss_one (ps_ret (pe_lst (pa_cons (pe_glob (v := .int (-1)) rfl k1 ⟨t1, rfl⟩) pa_nil)))) pss_nil)
      (pss_cons (ps_set (i := 2) sc_put.nd rfl (Or.inl rfl) (pe_callB (call_min2 rfl) (by rfl) T.b_min PyProof.Rows.boot_min (pa_cons (pv 1) (pa_cons (pe_op op_sub (pe_fld (pv 0) rfl) (pe_fld (pv 0) rfl)) pa_nil))))
      (pss_cons (ps_fldaug (pv 0) (pv 2) in_add)
      (pss_one (ps_ret (pe_lst (pa_cons (pv 2) pa_nil)))))), ?_⟩
    obtain ⟨⟨dx, ca, hA, hca, ncp, ncq⟩, ⟨as, hpa, hps⟩, hqa, npq⟩ := id hC
    have e1 : Uw08.MOST = 1000 := rfl
    have wfu := wf.fu
    refine ⟨_, rfl, _, _, rfl, rfl, _, rfl, ite2 (fun z => ?_) (fun z => ?_)⟩
    · have z := of_decide_eq_true z
      have e : Uw08.step s (.bring n) = (s, Uw08.ok (-1)) := by unfold Uw08.step; exact if_pos (by omega)
      refine ⟨(by show 1 ≤ sizeLine; decide), fun r hr' => kk.same (same_upd hr') hC (by rw [e]) ?_⟩
      show upd _ r _ r = _
      rw [upd_same, e]
      rfl
    · have z : ¬ (1000 : Int) < ((n : Nat) : Int) := fun q => z (decide_eq_true q)
      have e : Uw08.step s (.bring n) = ({ s with company := { s.company with fund := s.company.fund + min n (s.company.most - s.company.fund) } }, Uw08.ok (min n (s.company.most - s.company.fund) : Nat)) := by unfold Uw08.step; exact if_neg (by omega)
      refine ⟨_, rfl, _, rfl, a, _, dx, _, _, rfl, hA, T.clCompany, T.nCompany_fund_limit, compF_fund_limit _ _ _ _, _, rfl, a, _, dx, _, _, rfl, hA, T.clCompany, T.nCompany_fund, compF_fund _ _ _ _, _, _, rfl, rfl, _, _, rfl, ?_⟩
      rw [min_if]
      have em : min ((n : Nat) : Int) (((s.company.most : Nat) : Int) - ((s.company.fund : Nat) : Int)) = ((min n (s.company.most - s.company.fund) : Nat) : Int) := by omega
      have hA0 : H a = some (.ins t.cCompany dx [("costs", nV s.costs), ("fund_limit", nV s.company.most), ("wages", nV s.company.wages), ("crowds", .ref ca), ("fund", nV s.company.fund), ("plays", .ref pa), ("parts", .ref qa)]) := hA
      refine ⟨_, rfl, a, _, dx, _, _, rfl, hA, T.clCompany, T.nCompany_fund, compF_fund _ _ _ _, _, rfl, _, _, rfl, rfl, dx, _, hA0, (by show 7 < 1000; decide), ?_⟩
      rw [set_Company_fund]
      refine ⟨_, rfl, (by show 1 ≤ sizeLine; decide), fun r hr' => ?_⟩
      have kp : ∀ b o oo, H b = some o → b ≠ a → upd H a oo b = some o := fun b o oo h nb => by rw [upd_ne nb]; exact h
      have naL : ∀ b xs, H b = some (.lst xs) → b ≠ a := fun b xs h => ne_of h hA (by intro z; cases z)
      have nap : ∀ (x : Addr) (d : Addr) (f : List (Str × V)), x = a → H x = some (.ins t.cPlay d f) → (f.lookup ("setting" : Str)).isSome = true → False := fun x d f e h l => by
        subst e
        rw [hA] at h
        have h := Option.some.inj h
        injection h with h1 h2 h3
        rw [← h3] at l
        exact absurd l (by
          show ¬ (((compF s ca pa qa).lookup ("setting" : Str)).isSome = true)
          have q : (compF s ca pa qa).lookup ("setting" : Str) = none := (lk_ne (by decide +kernel)).trans ((lk_ne (by decide +kernel)).trans ((lk_ne (by decide +kernel)).trans ((lk_ne (by decide +kernel)).trans ((lk_ne (by decide +kernel)).trans ((lk_ne (by decide +kernel)).trans ((lk_ne (by decide +kernel)).trans rfl))))))
          rw [q]; decide)
      refine kk _ r pa qa ?_ ?_ (fun b o h nb _ _ => same_upd hr' _ _ (kp b o _ h nb)) (.inl rfl) (.inl rfl) (fun N hN hf => CompN.same (same_upd hr') ?_)
      · rw [e]
        refine CompAt.same (same_upd hr') ⟨⟨dx, ca, ?_, kp _ _ _ hca (naL _ _ hca), ncp, ncq⟩, ⟨as, kp _ _ _ hpa (naL _ _ hpa), Paired.mapP hps fun x pl h => ?_⟩, kp _ _ _ hqa (naL _ _ hqa), npq⟩
        · rw [upd_same]
          show some (HO.ins _ _ [_, _, _, _, (_, V.int _), _, _]) = some (HO.ins _ _ [_, _, _, _, (_, nV _), _, _])
          rw [← nV_of (z := ((s.company.fund : Nat) : Int) + min ((n : Nat) : Int) (((s.company.most : Nat) : Int) - ((s.company.fund : Nat) : Int))) (n := s.company.fund + min n (s.company.most - s.company.fund)) (by omega)]
        · obtain ⟨d, br, h1, h2, h3, h4⟩ := h.ex
          exact ⟨d, br, kp _ _ _ h1 (fun z => nap x d _ z h1 (by rw [playF_setting]; rfl)), kp _ _ _ h2 (naL _ _ h2), h3, h4⟩
      · show upd _ r _ r = _
        rw [upd_same, e, em]
        rfl
      · obtain ⟨⟨C', d', fs', ca', w1, w2, w3⟩, as', w4, w5⟩ := hN
        rw [hA] at w1
        injection w1 with w1
        injection w1 with w1a w1b w1c
        rw [← w1c, compF_crowds] at w2
        have eca : ca = ca' := by injection w2 with w2; injection w2
        rw [hpa] at w4
        injection w4 with w4
        injection w4 with w4
        have eas : as = as' := refs_inj w4
        subst eca eas
        refine ⟨⟨_, dx, _, ca, upd_same, (lk_ne (by decide +kernel)).trans ((lk_ne (by decide +kernel)).trans ((lk_ne (by decide +kernel)).trans lk_eq)), w3⟩, as, kp _ _ _ hpa (naL _ _ hpa), fun x hx => ?_⟩
        obtain ⟨i, hi⟩ := List.getElem?_of_mem hx
        obtain ⟨pl, _, hP⟩ := pr_get hps hi
        obtain ⟨d, br, h1, h2, h3, h4⟩ := hP.ex
        obtain ⟨C'', d'', fs'', br', v1, v2, v3⟩ := w5 x hx
        exact ⟨C'', d'', fs'', br', kp _ _ _ v1 (fun z => nap x d _ z h1 (by rw [playF_setting]; rfl)), v2, v3⟩
end
end Ps
end
section
set_option Elab.async false
set_option linter.all false
set_option maxRecDepth 100000
set_option maxHeartbeats 2000000
namespace Ps
open PySem PySem.Spec PyProof.Rows L2
/-! a play as it must be -/
def Gd (p : Uw05.Play) (n : Nat) : Prop := 1 ≤ p.brings.length ∧ p.brings.length ≤ 6 ∧ (p.brings.all fun x => decide (x ≤ 100)) = true ∧ p.set ≤ 100 ∧ p.strike ≤ 100 ∧ p.least ≤ p.most ∧ p.most ≤ n
def PC (s : Uw08.Season) (p : Uw05.Play) : Prop := Uw05.playOk ⟨s.nights, s.plays⟩ p = false ∨ Uw08.BRINGS < p.set ∨ Uw08.BRINGS < p.strike ∨ (p.brings.all fun x => decide (x ≤ Uw08.BRINGS)) = false
theorem gd_pc {s : Uw08.Season} {p : Uw05.Play} (g : Gd p s.nights.length) : ¬ PC s p := by
  obtain ⟨g1, g2, g3, g4, g5, g6, g7⟩ := g
  have e : Uw08.BRINGS = 100 := rfl
  have q : Uw05.playOk ⟨s.nights, s.plays⟩ p = true := by
    have e6 : Uw05.NIGHTS = 6 := rfl
    have em : Uw05.MOST = 100000 := rfl
    unfold Uw05.playOk
    simp only [Bool.and_eq_true, decide_eq_true_eq]
    refine ⟨g1, by omega, List.all_eq_true.mpr fun x hx => decide_eq_true ?_, by omega, by omega, g6, g7⟩
    have := of_decide_eq_true (List.all_eq_true.mp g3 x hx)
    omega
  rintro (c | c | c | c)
  · rw [q] at c; cases c
  · omega
  · omega
  · rw [show (p.brings.all fun x => decide (x ≤ Uw08.BRINGS)) = true from g3] at c; cases c
theorem pc_gd {s : Uw08.Season} {p : Uw05.Play} (g : ¬ Gd p s.nights.length) : PC s p := by
  by_cases c : PC s p
  · exact c
  · refine absurd ?_ g
    have e : Uw08.BRINGS = 100 := rfl
    have e6 : Uw05.NIGHTS = 6 := rfl
    have c1 : Uw05.playOk ⟨s.nights, s.plays⟩ p = true := by
      cases q : Uw05.playOk ⟨s.nights, s.plays⟩ p with
      | true => rfl
      | false => exact absurd (.inl q) c
    have c2 : ¬ Uw08.BRINGS < p.set := fun z => c (.inr (.inl z))
    have c3 : ¬ Uw08.BRINGS < p.strike := fun z => c (.inr (.inr (.inl z)))
    have c4 : (p.brings.all fun x => decide (x ≤ 100)) = true := by
      cases q : (p.brings.all fun x => decide (x ≤ 100)) with
      | true => rfl
      | false => exact absurd (.inr (.inr (.inr q))) c
    unfold Uw05.playOk at c1
    simp only [Bool.and_eq_true, decide_eq_true_eq] at c1
    obtain ⟨a1, a2, a3, a4, a5, a6, a7⟩ := c1
    exact ⟨a1, by omega, c4, by omega, by omega, a6, a7⟩
section
variable {P : Program} {w : World} {K : PySem.W.Frag} {mg : Str → Option Value} {base : Heap} {t : Adr}
inductive QSpPlayOk (t : Adr) (vs : List V) (H : Hp) (Q : VK) : Prop
  | mk (x dx br : Addr) (p : Uw05.Play) (n : Nat) (h1 : vs = [.ref x, nV n]) (h2 : H x = some (.ins t.cPlay dx (playF p br))) (h3 : Row H br p.brings) (h4 : (Gd p n → Q (.bl true) H)) (q : (¬ Gd p n → Q (.bl false) H)) : QSpPlayOk t vs H Q
def spPlayOk (t : Adr) : Sp := fun vs H Q _ => QSpPlayOk t vs H Q
theorem sc_playok : FnScope ["play", "nights"] ["play", "nights"] (defScope s_play_as_told) := ⟨rfl, rfl, rfl, by decide +kernel, rfl, by decide +kernel, by decide +kernel⟩
theorem b01_le (b : Bool) : b01 b ≤ 1 := by cases b <;> decide
theorem ok_play_as_told (T : Txt K mg t) : FnOk P w K mg base CX0 1 t.f_play_as_told t.d_play_as_told ["play", "nights"] (spPlayOk t) := by
  refine T.F_play_as_told.ok sc_playok (fun vs H Q E h => ?_) (fun cdv A outer s0 H vs Q E hr h => ?_)
  · obtain ⟨x, dx, br, p, n, rfl, _⟩ := h
    rfl
  · obtain ⟨x, dx, br, p, n, rfl, hx, hbr, q1, q0⟩ := h
    obtain ⟨t1, k1⟩ := T.k_MOST_OF_A_PLAY
    obtain ⟨t2, k2⟩ := T.k_MOST_BRINGS
    refine ⟨_, pss_cons (ps_if (PW.pt (pw_or (pt_cmp (pc_gt (pe_fld (pv 0) rfl) (pe_glob (v := .int 100) rfl k1 ⟨t1, rfl⟩))) (pw_or (pt_cmp (pc_gt (pe_fld (pv 0) rfl) (pe_glob (v := .int 100) rfl k1 ⟨t1, rfl⟩))) (pw_or1 (pt_cmp (pc_gt (pe_fld (pv 0) rfl) pe_int))))))
        (pss_one (ps_ret pe_bl)) pss_nil)
      (pss_cons (ps_if (PW.pt (pw_or (pt_cmp (pc_gt (pe_fld (pv 0) rfl) (pe_fld (pv 0) rfl))) (pw_or1 (pt_cmp (pc_gt (pe_fld (pv 0) rfl) (pv 1))))))
        (pss_one (ps_ret pe_bl)) pss_nil)
      (pss_one (ps_ret (pe_and (pe_chain op_le op_le pe_int (pe_callB call_len_seq (by rfl) T.b_len PySem.boot_len (pa_cons (pe_fld (pv 0) rfl) pa_nil)) (pe_glob (v := .int 6) rfl k2 ⟨t2, rfl⟩))
        (pe_one (pe_cmp (pc_le (pe_callB (cr_max rfl) (by rfl) T.b_max PyProof.Rows.boot_max (pa_cons (pe_fld (pv 0) rfl) pa_nil)) (pe_glob (v := .int 100) rfl k1 ⟨t1, rfl⟩)))))))), ?_⟩
    have c := T.clPlay
    refine ⟨_, rfl, x, _, dx, _, _, rfl, hx, c, T.nPlay_setting, playF_setting _ _, _, _, rfl, rfl, _, rfl, ite2 (fun z => iteT (q0 ?_)) (fun z => ?_)⟩
    · have z := of_decide_eq_true z
      rintro ⟨g1, g2, g3, g4, g5, g6, g7⟩
      omega
    have z : ¬ (100 : Int) < ((p.set : Nat) : Int) := fun q => z (decide_eq_true q)
    refine ⟨_, rfl, x, _, dx, _, _, rfl, hx, c, T.nPlay_striking, playF_striking _ _, _, _, rfl, rfl, _, rfl, ite2 (fun y => iteT (q0 ?_)) (fun y => ?_)⟩
    · have y := of_decide_eq_true y
      rintro ⟨g1, g2, g3, g4, g5, g6, g7⟩
      omega
    have y : ¬ (100 : Int) < ((p.strike : Nat) : Int) := fun q => y (decide_eq_true q)
    refine ⟨_, rfl, x, _, dx, _, _, rfl, hx, c, T.nPlay_may_run, playF_may_run _ _, _, _, rfl, rfl, _, rfl, ite2 (fun u => ?_) (fun u => ?_)⟩
    · have u := of_decide_eq_true u
      have := b01_le p.runs
      exact absurd u (by omega)
    refine ⟨_, rfl, x, _, dx, _, _, rfl, hx, c, T.nPlay_least, playF_least _ _, _, rfl, x, _, dx, _, _, rfl, hx, c, T.nPlay_most, playF_most _ _, _, _, rfl, rfl, _, rfl, ite2 (fun v => iteT (q0 ?_)) (fun v => ?_)⟩
    · have v := of_decide_eq_true v
      rintro ⟨g1, g2, g3, g4, g5, g6, g7⟩
      omega
    have v : ¬ ((p.most : Nat) : Int) < ((p.least : Nat) : Int) := fun q => v (decide_eq_true q)
    refine ⟨_, rfl, x, _, dx, _, _, rfl, hx, c, T.nPlay_most, playF_most _ _, _, rfl, _, _, rfl, rfl, _, rfl, ite2 (fun o => q0 ?_) (fun o => ?_)⟩
    · have o := of_decide_eq_true o
      rintro ⟨g1, g2, g3, g4, g5, g6, g7⟩
      omega
    have o : ¬ ((n : Nat) : Int) < ((p.most : Nat) : Int) := fun q => o (decide_eq_true q)
    refine ⟨_, rfl, x, _, dx, _, _, rfl, hx, c, T.nPlay_brings, playF_brings _ _, br, _, rfl, .inl (SqL.of hbr), _, _, rfl, rfl, _, rfl, ite2 (fun a => ?_) (fun a => ⟨_, rfl, iteF (q0 ?_)⟩)⟩
    · have a := of_decide_eq_true a
      rw [nats_len] at a
      refine ⟨_, _, rfl, rfl, _, rfl, ite2 (fun b => ?_) (fun b => q0 ?_)⟩
      · have b := of_decide_eq_true b
        rw [nats_len] at b
        refine ⟨_, rfl, x, _, dx, _, _, rfl, hx, c, T.nPlay_brings, playF_brings _ _, br, _, rfl, SqL.of hbr.i, by rw [List.length_map]; omega, fun m hm hle => ⟨_, _, rfl, rfl, ?_⟩⟩
        have ha := all_max (c := 100) hm hle
        show Q (.bl (decide (m ≤ 100))) H
        by_cases g : m ≤ 100
        · rw [decide_eq_true g]
          refine q1 ⟨by omega, by omega, by rw [ha]; exact decide_eq_true g, by omega, by omega, by omega, by omega⟩
        · rw [decide_eq_false g]
          refine q0 ?_
          rintro ⟨g1, g2, g3, g4, g5, g6, g7⟩
          rw [ha] at g3
          exact g (of_decide_eq_true g3)
      · rintro ⟨g1, g2, g3, g4, g5, g6, g7⟩
        exact b (decide_eq_true (by rw [nats_len]; omega))
    · rintro ⟨g1, g2, g3, g4, g5, g6, g7⟩
      exact a (decide_eq_true (by rw [nats_len]; omega))
/-! add_play -/
inductive QSpAdd (t : Adr) (vs : List V) (H : Hp) (Q : VK) : Prop
  | mk (H0 : Hp) (a pa qa x dx br : Addr) (s : Uw08.Season) (p : Uw05.Play) (h1 : vs = [.ref a, .ref x]) (h2 : CompAt t H a pa qa s) (h3 : WF s) (h4 : H x = some (.ins t.cPlay dx (playF p br))) (h5 : Row H br p.brings) (h6 : br ≠ pa) (h7 : br ≠ qa) (h8 : Same H0 H) (h9 : H0 br = none) (q : After t H0 a pa qa s (.play p) Q) : QSpAdd t vs H Q
def spAdd (t : Adr) : Sp := fun vs H Q _ => QSpAdd t vs H Q
theorem sc_add : FnScope ["company", "play"] ["company", "play"] (defScope s_add_play) := ⟨rfl, rfl, rfl, by decide +kernel, rfl, by decide +kernel, by decide +kernel⟩
theorem ok_add_play (T : Txt K mg t) : FnOk P w K mg base CX0 2 t.f_add_play t.d_add_play ["company", "play"] (spAdd t) := by
  refine T.F_add_play.ok sc_add (fun vs H Q E h => ?_) (fun cdv A outer s0 H vs Q E hr h => ?_)
  · obtain ⟨H0, a, pa, qa, x, dx, br, s, p, rfl, _⟩ := h
    rfl
  · obtain ⟨H0, a, pa, qa, x, dx, br, s, p, rfl, hC, wf, hx, hbr, nbp, nbq, S0, hbr0, kk0⟩ := h
    have kk := kk0.from S0
    obtain ⟨t1, k1⟩ := T.k_NOT_AS_TOLD
    obtain ⟨t2, k2⟩ := T.k_MOST_PLAYS
    obtain ⟨t3, k3⟩ := T.k_NO_ROOM
    refine ⟨_, pss_cons (ps_if (pt_not (pt_val (pe_call (ok_play_as_told T) hr rfl T.g_play_as_told T.F_play_as_told.kp T.B_play_as_told .nil pass0 (pa_cons (pv 1) (pa_cons (pe_callB call_len_seq (by rfl) T.b_len PySem.boot_len (pa_cons (pe_fld (pv 0) rfl) pa_nil)) pa_nil)))))
        (pss_one (ps_ret (pe_lst (pa_cons (pe_glob (v := .int (-1)) rfl k1 ⟨t1, rfl⟩) pa_nil)))) pss_nil)
      (pss_cons (ps_if (pt_cmp (pc_eqI (pe_callB call_len_seq (by rfl) T.b_len PySem.boot_len (pa_cons (pe_fld (pv 0) rfl) pa_nil)) (pe_glob (v := .int 3) rfl k2 ⟨t2, rfl⟩)))
        (pss_one (ps_ret (pe_lst (pa_cons (pe_glob (v := .int (-5)) rfl k3 ⟨t3, rfl⟩) pa_nil)))) pss_nil)
      (pss_cons (ps_expr (pe_bm PySem.F.plainAttrs_list PySem.F.slot_list_append PySem.F.type_list_append mt_append (pe_fld (pv 0) rfl) (pa_cons (pv 1) pa_nil)))
      (pss_one (ps_ret (pe_lst (pa_cons (pe_callB call_len_seq (by rfl) T.b_len PySem.boot_len (pa_cons (pe_fld (pv 0) rfl) pa_nil)) pa_nil)))))), ?_⟩
    obtain ⟨⟨d, ca, hA, hca, ncp, ncq⟩, ⟨as, hpa, hps⟩, hqa, npq⟩ := id hC
    have hline : sizeLine = 16777216 := sizeLine_eq
    have wpl := wf.pl
    have hasl : as.length = s.plays.length := Paired.length hps
    have e3 : Uw08.PLAYS = 3 := rfl
    refine ⟨_, rfl, _, rfl, a, _, d, _, _, rfl, hA, T.clCompany, T.nCompany_crowds, compF_crowds _ _ _ _, ca, _, rfl, .inl (SqL.of hca), x, dx, br, p, s.nights.length, by rw [nats_len]; rfl, hx, hbr, fun g => ⟨_, rfl, iteF ?_⟩, fun g => ⟨_, rfl, iteT ?_⟩⟩
    · have c := gd_pc g
      refine ⟨_, rfl, a, _, d, _, _, rfl, hA, T.clCompany, T.nCompany_plays, compF_plays _ _ _ _, pa, _, rfl, .inl (SqL.of hpa), _, _, rfl, rfl, _, rfl, ite2 (fun u => ?_) (fun u => ?_)⟩
      · have u := of_decide_eq_true u
        rw [refs_len] at u
        have e : Uw08.step s (.play p) = (s, Uw08.ok (-5)) := by
          unfold Uw08.step
          exact (if_neg c).trans (if_pos (by omega))
        refine ⟨(by show 1 ≤ sizeLine; decide), fun r hr' => kk.same (same_upd hr') hC (by rw [e]) ?_⟩
        show upd _ r _ r = _
        rw [upd_same, e]
        rfl
      · have u : ¬ (((refs as).length : Nat) : Int) = 3 := fun q => u (decide_eq_true q)
        rw [refs_len] at u
        have e : Uw08.step s (.play p) = ({ s with plays := s.plays ++ [p] }, Uw08.ok (s.plays.length + 1 : Nat)) := by
          unfold Uw08.step
          exact (if_neg c).trans (if_neg (by omega))
        refine ⟨_, rfl, a, _, d, _, _, rfl, hA, T.clCompany, T.nCompany_plays, compF_plays _ _ _ _, .inl ⟨rfl, _, SqL.of hpa⟩, _, rfl, pa, _, _, rfl, rfl, hpa, by rw [refs_len]; omega, ?_⟩
        have apa : a ≠ pa := ne_of hA hpa (by intro z; cases z)
        have kp : ∀ b o, H b = some o → b ≠ pa → upd H pa (.lst (refs as ++ [.ref x])) b = some o := fun b o h nb => by rw [upd_ne nb]; exact h
        have xpa : x ≠ pa := ne_of hx hpa (by intro z; cases z)
        refine ⟨_, rfl, a, _, d, _, _, rfl, kp _ _ hA apa, T.clCompany, T.nCompany_plays, compF_plays _ _ _ _, pa, _, rfl, .inl (SqL.of upd_same), (by show 1 ≤ sizeLine; decide), fun r hr' => ?_⟩
        refine kk0 _ r pa qa ?_ ?_ (fun b o h _ nb _ => same_upd hr' _ _ (kp b o (S0 _ _ h) nb)) (.inl rfl) (.inl rfl) (fun N hN hf => CompN.same (same_upd hr') ?_)
        · rw [e]
          refine CompAt.same (same_upd hr') ⟨⟨d, ca, kp _ _ hA apa, kp _ _ hca ncp, ncp, ncq⟩, ⟨as ++ [x], by rw [upd_same, refs_snoc], pr_snoc (Paired.mapP hps fun y pl h => ?_) ⟨dx, br, kp _ _ hx xpa, kp _ _ hbr nbp, nbp, nbq⟩⟩, kp _ _ hqa npq.symm, npq⟩
          obtain ⟨d', br', h1, h2, h3, h4⟩ := h.ex
          exact ⟨d', br', kp _ _ h1 (ne_of h1 hpa (by intro z; cases z)), kp _ _ h2 h3, h3, h4⟩
        · show upd _ r _ r = _
          rw [upd_same, e, List.length_append, refs_len, hasl]
          rfl
        · obtain ⟨⟨C', d', fs', ca', w1, w2, w3⟩, as', w4, w5⟩ := hN.same S0
          rw [hpa] at w4
          injection w4 with w4
          injection w4 with w4
          have eas : as = as' := refs_inj w4
          subst eas
          refine ⟨⟨C', d', fs', ca', kp _ _ w1 apa, w2, w3⟩, as ++ [x], by rw [upd_same, refs_snoc], fun y hy => ?_⟩
          rcases List.mem_append.mp hy with hy | hy
          · obtain ⟨C'', d'', fs'', br', v1, v2, v3⟩ := w5 y hy
            exact ⟨C'', d'', fs'', br', kp _ _ v1 (ne_of v1 hpa (by intro z; cases z)), v2, v3⟩
          · rw [List.mem_singleton.mp hy]
            exact ⟨_, dx, _, br, kp _ _ hx xpa, playF_brings _ _, hf _ hbr0⟩
    · have e : Uw08.step s (.play p) = (s, Uw08.ok (-1)) := by unfold Uw08.step; exact if_pos (pc_gd g)
      refine ⟨(by show 1 ≤ sizeLine; decide), fun r hr' => kk.same (same_upd hr') hC (by rw [e]) ?_⟩
      show upd _ r _ r = _
      rw [upd_same, e]
      rfl
/-! refusal_of_weeks -/
def refusal (n : Nat) (L : List (List Nat)) : List Int := if n < 1 ∨ Uw08.WEEKS < n then [-1] else if L = [] then [-6] else []
inductive QSpRefusal (vs : List V) (H : Hp) (Q : VK) : Prop
  | mk (n : Nat) (bl : Addr) (L : List (List Nat)) (h1 : vs = [nV n, .ref bl]) (h2 : BillsAt H bl L) (q : ∀ (H' : Hp) (r : Addr), Same H H' → RowI H' r (refusal n L) → Q (.ref r) H') : QSpRefusal vs H Q
def spRefusal : Sp := fun vs H Q _ => QSpRefusal vs H Q
theorem sc_refusal : FnScope ["weeks", "bills"] ["weeks", "bills"] (defScope s_refusal_of_weeks) := ⟨rfl, rfl, rfl, by decide +kernel, rfl, by decide +kernel, by decide +kernel⟩
theorem ok_refusal (T : Txt K mg t) : FnOk P w K mg base CX0 1 t.f_refusal_of_weeks t.d_refusal_of_weeks ["weeks", "bills"] spRefusal := by
  refine T.F_refusal_of_weeks.ok sc_refusal (fun vs H Q E h => ?_) (fun cdv A outer s0 H vs Q E hr h => ?_)
  · obtain ⟨n, bl, L, rfl, _⟩ := h
    rfl
  · obtain ⟨n, bl, L, rfl, hB, k⟩ := h
    obtain ⟨t1, k1⟩ := T.k_NOT_AS_TOLD
    obtain ⟨t2, k2⟩ := T.k_MOST_WEEKS
    obtain ⟨t3, k3⟩ := T.k_NO_RIGHT_PLAN
    refine ⟨_, pss_cons (ps_if (PW.pt (pw_or (pt_cmp (pc_lt (pv 0) pe_int)) (pw_or1 (pt_cmp (pc_gt (pv 0) (pe_glob (v := .int 3) rfl k2 ⟨t2, rfl⟩))))))
        (pss_one (ps_ret (pe_lst (pa_cons (pe_glob (v := .int (-1)) rfl k1 ⟨t1, rfl⟩) pa_nil)))) pss_nil)
      (pss_cons (ps_if (pt_cmpR (op_eqNil hr.units) (pv 1) (pe_lst pa_nil) (nomark _))
        (pss_one (ps_ret (pe_lst (pa_cons (pe_glob (v := .int (-6)) rfl k3 ⟨t3, rfl⟩) pa_nil)))) pss_nil)
      (pss_one (ps_ret (pe_lst pa_nil)))), ?_⟩
    have e3 : Uw08.WEEKS = 3 := rfl
    have bad : (n < 1 ∨ Uw08.WEEKS < n) → ∀ r, H r = none → Q (.ref r) (upd H r (.lst [V.int (-1)])) := fun c r hr' => by
      refine k _ r (same_upd hr') ?_
      show upd _ r _ r = _
      unfold refusal
      rw [upd_same, if_pos c]
      rfl
    refine ⟨_, rfl, _, _, rfl, rfl, _, rfl, ite2 (fun z => iteT ⟨(by show 1 ≤ sizeLine; decide), bad ?_⟩) (fun z => ⟨_, rfl, _, _, rfl, rfl, _, rfl, ite2 (fun y => ⟨(by show 1 ≤ sizeLine; decide), bad ?_⟩) (fun y => ?_)⟩)⟩
    · have z := of_decide_eq_true z
      exact .inl (by omega)
    · have y := of_decide_eq_true y
      exact .inr (by omega)
    · have z : ¬ ((n : Nat) : Int) < 1 := fun q => z (decide_eq_true q)
      have y : ¬ (3 : Int) < ((n : Nat) : Int) := fun q => y (decide_eq_true q)
      have c : ¬ (n < 1 ∨ Uw08.WEEKS < n) := by omega
      refine ⟨_, rfl, Nat.zero_le _, fun e he => ?_⟩
      have S1 : Same H (upd H e (.lst [])) := same_upd he
      refine ⟨bl, e, rfl, rfl, upd_same, .inr ⟨L, hB.same S1, _, rfl, ite2 (fun u => ?_) (fun u => ?_)⟩⟩
      · have u : L = [] := of_decide_eq_true u
        refine ⟨(by show 1 ≤ sizeLine; decide), fun r hr' => k _ r (S1.trans (same_upd hr')) ?_⟩
        show upd _ r _ r = _
        unfold refusal
        rw [upd_same, if_neg c, if_pos u]
        rfl
      · have u : ¬ L = [] := fun q => u (decide_eq_true q)
        refine ⟨Nat.zero_le _, fun r hr' => k _ r (S1.trans (same_upd hr')) ?_⟩
        show upd _ r _ r = _
        unfold refusal
        rw [upd_same, if_neg c, if_neg u]
        rfl
/-! plan_as_told -/
inductive QSpPlanOk (t : Adr) (vs : List V) (H : Hp) (Q : VK) : Prop
  | mk (a pa qa pl : Addr) (s : Uw08.Season) (p : Uw08.Plan) (h1 : vs = [.ref a, .ref pl]) (h2 : CompAt t H a pa qa s) (h3 : BillsAt H pl p) (h4 : ((Uw08.WEEKS < p.length ∨ s.told p = false) → Q (.bl false) H)) (q : (¬ (Uw08.WEEKS < p.length ∨ s.told p = false) → Q (.bl true) H)) : QSpPlanOk t vs H Q
def spPlanOk (t : Adr) : Sp := fun vs H Q _ => QSpPlanOk t vs H Q
theorem sc_planok : FnScope ["company", "plan", "bill"] ["company", "plan"] (defScope s_plan_as_told) := ⟨rfl, rfl, rfl, by decide +kernel, rfl, by decide +kernel, by decide +kernel⟩
theorem told_bad {s : Uw08.Season} {p : Uw08.Plan} {b : List Nat} (hb : b ∈ p) (h : ¬ BillOk s b) : s.told p = false := by
  rw [Bool.eq_false_iff]
  intro q
  have q := List.all_eq_true.mp q b hb
  rw [Bool.and_eq_true] at q
  exact h ⟨beq_iff_eq.mp q.1, fun k hk => of_decide_eq_true (List.all_eq_true.mp q.2 k hk)⟩
theorem told_good {s : Uw08.Season} {p : Uw08.Plan} (h : ∀ b ∈ p, BillOk s b) : s.told p = true := by
  refine List.all_eq_true.mpr fun b hb => ?_
  rw [Bool.and_eq_true]
  exact ⟨beq_iff_eq.mpr (h b hb).len, List.all_eq_true.mpr fun k hk => decide_eq_true ((h b hb).le k hk)⟩
theorem ok_plan_as_told (T : Txt K mg t) : FnOk P w K mg base CX0 1 t.f_plan_as_told t.d_plan_as_told ["company", "plan"] (spPlanOk t) := by
  refine T.F_plan_as_told.ok sc_planok (fun vs H Q E h => ?_) (fun cdv A outer s0 H vs Q E hr h => ?_)
  · obtain ⟨a, pa, qa, pl, s, p, rfl, _⟩ := h
    rfl
  · obtain ⟨a, pa, qa, pl, s, p, rfl, hC, ⟨bs, hpl, hbs⟩, q0, q1⟩ := h
    obtain ⟨t2, k2⟩ := T.k_MOST_WEEKS
    refine ⟨_, pss_cons (ps_if (pt_cmp (pc_gt (pe_callB call_len_seq (by rfl) T.b_len PySem.boot_len (pa_cons (pv 1) pa_nil)) (pe_glob (v := .int 3) rfl k2 ⟨t2, rfl⟩)))
        (pss_one (ps_ret pe_bl)) pss_nil)
      (pss_cons (ps_for PassesOwn.never rfl (pi_list (pv 1)) (pg_name (i := 2) sc_planok.nd rfl (Or.inl rfl))
        (pss_one (ps_if (PW.pt (pw_or (pt_cmp (pc_neI (pe_callB call_len_seq (by rfl) T.b_len PySem.boot_len (pa_cons (pv 2) pa_nil)) (pe_callB call_len_seq (by rfl) T.b_len PySem.boot_len (pa_cons (pe_fld (pv 0) rfl) pa_nil))))
            (pw_or1 (pt_cmp (pc_gt (pe_maxD rfl rfl T.b_max (pa_cons (pv 2) pa_nil) (pk_cons pe_int pk_nil)) (pe_callB call_len_seq (by rfl) T.b_len PySem.boot_len (pa_cons (pe_fld (pv 0) rfl) pa_nil)))))))
          (pss_one (ps_ret pe_bl)) pss_nil)))
      (pss_one (ps_ret pe_bl))), ?_⟩
    obtain ⟨⟨d, ca, hA, hca, ncp, ncq⟩, ⟨as, hpa, hps⟩, hqa, npq⟩ := id hC
    have hasl : as.length = s.plays.length := Paired.length hps
    have e3 : Uw08.WEEKS = 3 := rfl
    have hbsl : bs.length = p.length := Paired.length hbs
    refine ⟨_, rfl, pl, _, rfl, .inl (SqL.of hpl), _, _, rfl, rfl, _, rfl, ite2 (fun z => q0 (.inl ?_)) (fun z => ?_)⟩
    · have z := of_decide_eq_true z
      rw [refs_len] at z
      omega
    have z : ¬ (3 : Int) < (((refs bs).length : Nat) : Int) := fun q => z (decide_eq_true q)
    rw [refs_len] at z
    refine ⟨_, rfl, pl, rfl, ⟨_, SqL.of hpl⟩, for_list (K := K) (a := pl) (xs := refs bs) (fun i σ H' => ∃ v2, σ = [some (.ref a), some (.ref pl), v2] ∧ H' = H ∧ ∀ b ∈ p.take i, BillOk s b) ⟨none, rfl, rfl, fun b hb => by simp at hb⟩ (fun i σ H' _ ⟨_, _, e, _⟩ => by rw [e]; exact SqL.of hpl) ?_ ?_⟩
    · rintro i y σ H' hi ⟨v2, rfl, rfl, hok⟩
      obtain ⟨b, hb, rfl⟩ := refs_of hi
      obtain ⟨l, hl, hbl⟩ := pr_get hbs hb
      have hm : l ∈ p := List.mem_of_getElem? hl
      refine ⟨_, rfl, b, _, rfl, .inl (SqL.of hbl), _, rfl, a, _, d, _, _, rfl, hA, T.clCompany, T.nCompany_crowds, compF_crowds _ _ _ _, ca, _, rfl, .inl (SqL.of hca), _, _, rfl, rfl, _, rfl, ite2 (fun y => iteT (q0 (.inr (told_bad hm ?_)))) (fun y => ?_)⟩
      · have y := ne_dec y
        rw [nats_len, nats_len] at y
        rintro ⟨o1, o2⟩
        exact y (by rw [o1])
      have y := eq_dec y
      rw [nats_len, nats_len] at y
      have hll : l.length = s.nights.length := by omega
      have fin : ∀ m : Int, (m ≤ (s.plays.length : Int) ↔ ∀ k ∈ l, k ≤ s.plays.length) → tB (tGt (tC (.int m)) (tCB (QLen K) (tCons (tFld K (tVar 0) "plays") tNil))) [some (V.ref a), some (V.ref pl), some (V.ref b)] H' (fun c H1 => if c = true then Q (.bl false) H1 else ∃ v2, [some (V.ref a), some (V.ref pl), some (V.ref b)] = [some (V.ref a), some (V.ref pl), v2] ∧ H1 = H' ∧ ∀ b ∈ p.take (i + 1), BillOk s b) := fun m hmx => by
        refine ⟨_, rfl, a, _, d, _, _, rfl, hA, T.clCompany, T.nCompany_plays, compF_plays _ _ _ _, pa, _, rfl, .inl (SqL.of hpa), _, _, rfl, rfl, _, rfl, ite2 (fun u => q0 (.inr (told_bad hm ?_))) (fun u => ?_)⟩
        · have u := of_decide_eq_true u
          rw [refs_len] at u
          rintro ⟨o1, o2⟩
          have := hmx.mpr o2
          omega
        · have u : ¬ (((refs as).length : Nat) : Int) < m := fun q => u (decide_eq_true q)
          rw [refs_len] at u
          refine ⟨_, rfl, rfl, fun c hc => ?_⟩
          rw [take_snoc hl] at hc
          rcases List.mem_append.mp hc with hc | hc
          · exact hok c hc
          · rw [List.mem_singleton.mp hc]
            exact ⟨hll, hmx.mp (by omega)⟩
      refine ⟨_, rfl, b, _, _, rfl, rfl, SqL.of hbl.i, fun e => fin _ ⟨fun _ k hk => ?_, fun _ => by omega⟩, fun m hm1 hm2 => fin _ ?_⟩
      · have : l = [] := by simpa using e
        rw [this] at hk; cases hk
      · have ha := all_max (c := s.plays.length) hm1 hm2
        constructor
        · intro h k hk
          rw [decide_eq_true h] at ha
          exact of_decide_eq_true (List.all_eq_true.mp ha k hk)
        · intro h
          rw [List.all_eq_true.mpr fun k hk => decide_eq_true (h k hk)] at ha
          exact of_decide_eq_true ha.symm
    · rintro σ H' ⟨v2, rfl, rfl, hok⟩
      rw [refs_len, hbsl, List.take_length] at hok
      refine q1 ?_
      rintro (c | c)
      · omega
      · rw [told_good hok] at c; cases c
end
end Ps
end
section
set_option Elab.async false
set_option linter.all false
set_option maxRecDepth 100000
set_option maxHeartbeats 2000000
namespace Ps
open PySem PySem.Spec PyProof.Rows L2
theorem told_len {s : Uw08.Season} (wf : WF s) {p : Uw08.Plan} (ok : ∀ b ∈ p, BillOk s b) : ∀ i, i ≤ p.length → (toldWeeks s p i).length ≤ 20 * i := by
  intro i
  induction i with
  | zero => intro _; exact Nat.le_refl _
  | succ i ih =>
    intro h
    have hil : i < p.length := by omega
    have hl : p[i]? = some p[i] := List.getElem?_eq_getElem hil
    have C := co_plan wf (p.take i)
    have hg : (s.money (co s (p.take i)) (p.take i) p[i]).given.length ≤ 5 := by
      have D : Day (co s (p.take i)) ((s.week (p.take i)).took p[i]) (s.costs + (s.week (p.take i)).works p[i]) := day_ok C.good _ _
      have e : (s.money (co s (p.take i)) (p.take i) p[i]).given = _ := D.given
      rw [e, diffs_len D.len, C.len]
      exact wf.sl
    have hb : p[i].length ≤ 2 := by rw [(ok _ (List.getElem_mem hil)).len]; exact wf.nl
    have := ih (by omega)
    rw [told_succ hl (gv_at hl), List.length_append, List.length_append, row_len, row_len]
    omega
theorem tell_len {s : Uw08.Season} (wf : WF s) {p : Uw08.Plan} (ok : ∀ b ∈ p, BillOk s b) : ((s.tell p).flatMap row).length ≤ 20 * p.length + 3 := by
  have := told_len wf ok p.length (Nat.le_refl _)
  rw [tell_rows, List.length_append, row_len]
  show _ + (2 + 1) ≤ _
  omega
theorem step_best_bad {s : Uw08.Season} {n : Nat} (c : n < 1 ∨ Uw08.WEEKS < n) : Uw08.step s (.best n) = (s, Uw08.ok (-1)) := by unfold Uw08.step; exact if_pos c
theorem step_best_none {s : Uw08.Season} {n : Nat} (c : ¬ (n < 1 ∨ Uw08.WEEKS < n)) (d : goodBills s = []) : Uw08.step s (.best n) = (s, Uw08.ok (-6)) := by
  have e : s.best n = none := by rw [best_eq, d, words_none (by omega)]; rfl
  unfold Uw08.step
  refine (if_neg c).trans ?_
  rw [e]
theorem step_plain_bad {s : Uw08.Season} {n : Nat} (c : n < 1 ∨ Uw08.WEEKS < n) : Uw08.step s (.plain n) = (s, Uw08.ok (-1)) := by unfold Uw08.step; exact if_pos c
theorem step_plain_none {s : Uw08.Season} {n : Nat} (c : ¬ (n < 1 ∨ Uw08.WEEKS < n)) (d : goodBills s = []) : Uw08.step s (.plain n) = (s, Uw08.ok (-6)) := by
  have e : s.plain n [] = none := by rw [show n = (n - 1) + 1 by omega]; exact plain_none d []
  unfold Uw08.step
  refine (if_neg c).trans ?_
  rw [e]
theorem first_at {α : Type} [DecidableEq α] : ∀ {l : List α} {m : α}, m ∈ l → ∃ j, l[j]? = some m ∧ ∀ (i : Nat) (x : α), i < j → l[i]? = some x → x ≠ m
  | [], m, h => by cases h
  | a :: l, m, h => by
    by_cases e : a = m
    · exact ⟨0, by rw [e]; rfl, fun i x hi => by omega⟩
    · obtain ⟨j, h1, h2⟩ := first_at (l := l) (m := m) ((List.mem_cons.mp h).resolve_left fun z => e z.symm)
      refine ⟨j + 1, h1, fun i x hi hx => ?_⟩
      cases i with
      | zero =>
        have q : a = x := Option.some.inj hx
        rw [← q]; exact e
      | succ i => exact h2 i x (by omega) hx
theorem eqV_int (x y : Nat) : eqV (nV x) (nV y) = decide (x = y) := by
  show eqV (.int (x : Int)) (.int (y : Int)) = _
  unfold eqV
  by_cases h : x = y
  · subst h; simp
  · rw [decide_eq_false h]
    have : ¬ (x : Int) = (y : Int) := by omega
    simp [this]
theorem flat_nats (l : List Nat) : (nats l).all flatV = true := by rw [nats_ints]; exact flat_ints _
theorem sum_pays (l : List Nat) : V.int (l.map fun (n : Nat) => (n : Int)).sum = nV (Uw08.total l) := by rw [← total_sum]; rfl
section
variable {P : Program} {w : World} {K : PySem.W.Frag} {mg : Str → Option Value} {base : Heap} {t : Adr}
/-! best_plan -/
inductive QSpBest (t : Adr) (vs : List V) (H : Hp) (Q : VK) : Prop
  | mk (a pa qa : Addr) (s : Uw08.Season) (n : Nat) (h1 : vs = [.ref a, nV n]) (h2 : CompAt t H a pa qa s) (h3 : WF s) (q : After t H a pa qa s (.best n) Q) : QSpBest t vs H Q
def spBest (t : Adr) : Sp := fun vs H Q _ => QSpBest t vs H Q
theorem sc_best : FnScope ["company", "weeks", "bills", "refusal", "standings", "pays", "most", "earliest", "standing"] ["company", "weeks"] (defScope s_best_plan) := ⟨rfl, rfl, rfl, by decide +kernel, rfl, by decide +kernel, by decide +kernel⟩
theorem ok_best_plan (T : Txt K mg t) : FnOk P w K mg base CX0 5 t.f_best_plan t.d_best_plan ["company", "weeks"] (spBest t) := by
  refine T.F_best_plan.ok sc_best (fun vs H Q E h => ?_) (fun cdv A outer s0 H vs Q E hr h => ?_)
  · obtain ⟨a, pa, qa, s, n, rfl, _⟩ := h
    rfl
  · obtain ⟨a, pa, qa, s, n, rfl, hC, wf, kk⟩ := h
    have hr3 : Room 3 _ := hr.mono (by decide)
    have hr1 : Room 1 _ := hr.mono (by decide)
    refine ⟨_, pss_cons (ps_set (i := 2) sc_best.nd rfl (Or.inl rfl) (pe_call (ok_right_bills T) hr3 rfl T.g_right_bills T.F_right_bills.kp T.B_right_bills .nil pass0 (pa_cons (pv 0) pa_nil)))
      (pss_cons (ps_set (i := 3) sc_best.nd rfl (Or.inl rfl) (pe_call (ok_refusal T) hr1 rfl T.g_refusal_of_weeks T.F_refusal_of_weeks.kp T.B_refusal_of_weeks .nil pass0 (pa_cons (pv 1) (pa_cons (pv 2) pa_nil))))
      (pss_cons (ps_if (pt_cmpR (op_neNil hr.units) (pv 3) (pe_lst pa_nil) (nomark _)) (pss_one (ps_ret (pv 3))) pss_nil)
      (pss_cons (ps_set (i := 4) sc_best.nd rfl (Or.inl rfl) (pe_call (ok_behind_all_plans T) hr rfl T.g_behind_all_plans T.F_behind_all_plans.kp T.B_behind_all_plans .nil pass0 (pa_cons (pv 0) (pa_cons (pv 2) (pa_cons (pv 1) pa_nil)))))
      (pss_cons (ps_setLc (i := 5) (own := [("standing", 8)]) (te := tCB (rSum K) (tCons (tFld K (tVar 8) "payouts") tNil)) rfl sc_best.nd rfl rfl (sw_true rfl rfl rfl rfl) (pi_list (pv 4)) (blkOk_by (by show blkC ["company", "weeks", "bills", "refusal", "standings", "pays", "most", "earliest", "standing"] (defScope s_best_plan) _ [("standing", 8)] = true; decide +kernel))
          (fun _ _ _ _ _ => pg_name (i := 8) sc_best.nd rfl (Or.inl rfl)) (fun _ _ _ _ _ => pts_nil) (fun _ _ _ _ _ => pe_callB (cr_sum rfl) (by rfl) T.b_sum PyProof.Rows.boot_sum (pa_cons (pe_fld (pv 8) (by rfl)) pa_nil)))
      (pss_cons (ps_set (i := 6) sc_best.nd rfl (Or.inl rfl) (pe_callB (cr_max rfl) (by rfl) T.b_max PyProof.Rows.boot_max (pa_cons (pv 5) pa_nil)))
      (pss_cons (ps_set (i := 7) sc_best.nd rfl (Or.inl rfl) (pe_ix ix_list (pv 4) (pe_bm PySem.F.plainAttrs_list PySem.F.slot_list_index PySem.F.type_list_index mt_index (pv 5) (pa_cons (pv 6) pa_nil)) (fun _ _ => rfl)))
      (pss_one (ps_ret (pe_op op_cat (pe_op op_cat (pe_lst (pa_cons (pv 6) pa_nil)) (pe_call (ok_with_length T) hr1 rfl T.g_with_length T.F_with_length.kp T.B_with_length .nil pass0 (pa_cons (pe_lst (pa_cons (pe_bm PySem.F.plainAttrs_list PySem.F.slot_list_count PySem.F.type_list_count mt_countI (pv 5) (pa_cons (pv 6) pa_nil)) pa_nil)) pa_nil)))
        (pe_call (ok_told_of_weeks T) hr3 rfl T.g_told_of_weeks T.F_told_of_weeks.kp T.B_told_of_weeks .nil pass0 (pa_cons (pv 0) (pa_cons (pv 7) pa_nil)))))))))))), ?_⟩
    have hline : sizeLine = 16777216 := sizeLine_eq
    have e3 : Uw08.WEEKS = 3 := rfl
    refine ⟨_, rfl, a, pa, qa, s, rfl, hC, wf, fun H1 bl S1 hB _ => ?_⟩
    refine ⟨_, rfl, _, rfl, n, bl, goodBills s, rfl, hB, fun H2 rf S2 hrf => ?_⟩
    have S12 := S1.trans S2
    refine ⟨_, rfl, Nat.zero_le _, fun e0 he0 => ?_⟩
    have S3 : Same H2 (upd H2 e0 (.lst [])) := same_upd he0
    refine ⟨rf, e0, rfl, rfl, upd_same, .inl ⟨_, S3 _ _ hrf, _, rfl, ite2 (fun z => ?_) (fun z => ?_)⟩⟩
    · have q := S3 _ _ hrf
      by_cases c : n < 1 ∨ Uw08.WEEKS < n
      · have e := step_best_bad (s := s) c
        refine ⟨_, rfl, kk.same (S12.trans S3) hC (by rw [e]) ?_⟩
        show _ = _
        rw [q, e]
        unfold refusal
        rw [if_pos c]
        rfl
      · by_cases d : goodBills s = []
        · have e := step_best_none (s := s) c d
          refine ⟨_, rfl, kk.same (S12.trans S3) hC (by rw [e]) ?_⟩
          show _ = _
          rw [q, e]
          unfold refusal
          rw [if_neg c, if_pos d]
          rfl
        · unfold refusal at z
          rw [if_neg c, if_neg d] at z
          exact absurd z (by decide)
    have c : ¬ (n < 1 ∨ Uw08.WEEKS < n) := fun c => z (by unfold refusal; rw [if_pos c]; rfl)
    have d : ¬ goodBills s = [] := fun d => z (by unfold refusal; rw [if_neg c, if_pos d]; rfl)
    have S13 := S12.trans S3
    have hn3 : n ≤ 3 := by omega
    refine ⟨_, rfl, _, rfl, _, rfl, a, pa, qa, bl, s, goodBills s, n, rfl, hC.same S13, wf, hB.same (S2.trans S3), fun b hb => good_ok hb, good_few wf, hn3, fun H4 sl S4 hS => ?_⟩
    have S14 := S13.trans S4
    have hne : words (goodBills s) n ≠ [] := words_ne d n
    have hfew : (words (goodBills s) n).length ≤ 4096 := words_few wf hn3
    have hok : ∀ p ∈ words (goodBills s) n, (∀ b ∈ p, BillOk s b) ∧ p.length = n := fun p hp => ⟨fun b hb => good_ok ((words_mem hp).2 b hb), (words_mem hp).1⟩
    have hbest := best_eq s n
    generalize words (goodBills s) n = PL at hS hne hfew hok hbest
    obtain ⟨xs, hsl, hxs⟩ := hS
    have hxl : xs.length = PL.length := Paired.length hxs
    refine ⟨_, rfl, sl, rfl, ⟨_, SqL.of hsl⟩, fun D hD => ?_⟩
    refine lc_list (K := K) (a := sl) (xs := refs xs) (fun i H5 => Same H4 H5 ∧ Row H5 D ((PL.map s.paid).take i)) ⟨same_upd hD, upd_same⟩ (fun i H5 _ ⟨S5, _⟩ => SqL.of (S5 _ _ hsl)) ?_ ?_
    · rintro i y H5 hi ⟨S5, hR⟩
      obtain ⟨x, hx, rfl⟩ := refs_of hi
      obtain ⟨p, hp, hX⟩ := pr_get hxs hx
      obtain ⟨dx, g, bb, q, bs, x1, x2, x3, x4, x5⟩ := (hX.same S5).ex
      refine ⟨rfl, _, rfl, x, _, dx, _, _, rfl, x1, T.clStanding, T.nStanding_payouts, standF_payouts _ _ _ _ _, q, _, rfl, SqL.of x5.i, _, hR, ?_, fun c o e => ?_, ?_⟩
      · rw [nats_len, List.length_take, List.length_map]; omega
      · rw [upd_ne (ne_of_none e hD)]; exact S5 _ _ e
      · show upd _ D _ D = _
        rw [upd_same, take_snoc (show (PL.map s.paid)[i]? = some (s.paid p) by rw [List.getElem?_map, hp]; rfl), ← nats_snoc, sum_pays, paid_eq]
    rintro H5 ⟨S5, hD5⟩
    rw [refs_len, hxl, ← List.length_map (f := s.paid), List.take_length] at hD5
    have hpl0 : 0 < PL.length := List.length_pos_iff.mpr hne
    refine ⟨_, rfl, D, _, rfl, SqL.of hD5.i, by rw [List.length_map, List.length_map]; exact hpl0, fun m hm hle => ?_⟩
    obtain ⟨mm, hmm, rfl⟩ := List.mem_map.mp hm
    have hle' : ∀ k ∈ PL.map s.paid, k ≤ mm := fun k hk => by
      have := hle (k : Int) (List.mem_map_of_mem (f := fun (n : Nat) => (n : Int)) hk)
      have : (k : Int) ≤ (mm : Int) := this
      omega
    obtain ⟨j, hj1, hj2⟩ := first_at hmm
    have hjl : j < PL.length := by have := (List.getElem?_eq_some_iff.mp hj1).1; rw [List.length_map] at this; exact this
    have hpj : PL[j]? = some PL[j] := List.getElem?_eq_getElem hjl
    have hpv : s.paid PL[j] = mm := by rw [List.getElem?_map, hpj] at hj1; exact Option.some.inj hj1
    obtain ⟨x, hx, hX⟩ := pr_got hxs hpj
    obtain ⟨okj, lenj⟩ := hok _ (List.getElem_mem hjl)
    refine ⟨_, rfl, _, rfl, .inl ⟨rfl, _, SqL.of hD5⟩, _, rfl, D, _, _, j, _, rfl, rfl, SqL.of hD5, rfl, flat_nats _, nats_at hj1, ?_, fun i z hi hz => ?_, sl, _, _, _, rfl, rfl, SqL.of (S5 _ _ hsl), atI_nat (refs_at hx), ?_⟩
    · show eqV (nV mm) (nV mm) = true
      rw [eqV_int]; exact decide_eq_true rfl
    · obtain ⟨k, hk, rfl⟩ := nats_of hz
      show eqV (nV k) (nV mm) = false
      rw [eqV_int]; exact decide_eq_false (hj2 i k hi hk)
    refine ⟨_, rfl, (by show 1 ≤ sizeLine; decide), fun l1 hl1 => ?_⟩
    have S6 : Same H5 (upd H5 l1 (.lst [nV mm])) := same_upd hl1
    refine ⟨_, rfl, .inl ⟨rfl, _, SqL.of (S6 _ _ hD5)⟩, _, rfl, D, _, _, rfl, rfl, SqL.of (Row.i (S6 _ _ hD5)), (by show 1 ≤ sizeLine; decide), fun l2 hl2 => ?_⟩
    have ecount : ((PL.map s.paid).map fun (n : Nat) => (n : Int)).countP (fun z => decide (z = ((mm : Nat) : Int))) = PL.countP fun p => decide (s.paid p = mm) := by
      rw [List.countP_map, List.countP_map]
      congr 1
      funext p
      show decide ((s.paid p : Int) = (mm : Int)) = decide (s.paid p = mm)
      by_cases h : s.paid p = mm
      · rw [decide_eq_true h, decide_eq_true (by rw [h])]
      · rw [decide_eq_false h, decide_eq_false (fun z => h (by omega))]
    rw [ecount] at *
    generalize hcn : (PL.countP fun p => decide (s.paid p = mm)) = cn at *
    have S7 : Same H5 (upd (upd H5 l1 (.lst [nV mm])) l2 (.lst [nV cn])) := S6.trans (same_upd hl2)
    have f1 : (upd (upd H5 l1 (.lst [nV mm])) l2 (.lst [nV cn])) l1 = some (.lst [nV mm]) := same_upd hl2 _ _ upd_same
    refine ⟨l2, _, rfl, Row.i (l := [cn]) upd_same, by show 1 ≤ 1000000; decide, fun H8 r8 S8 hr8 _ => ⟨l1, r8, _, _, rfl, rfl, S8 _ _ f1, hr8, by show 1 + 2 ≤ sizeLine; decide, fun l3 hl3 => ?_⟩⟩
    have S9 : Same H8 (upd H8 l3 (.lst ([nV mm] ++ ([((1 : Nat) : Int), (cn : Int)] : List Int).map V.int))) := same_upd hl3
    have S59 := S7.trans (S8.trans S9)
    have S19 := S14.trans (S5.trans S59)
    refine ⟨_, rfl, _, rfl, a, pa, qa, x, s, PL[j], rfl, hC.same S19, wf, (hX.same S5).same S59, okj, by rw [lenj]; omega, fun H10 r10 S10 hr10 _ => ⟨l3, r10, _, _, rfl, rfl, S10 _ _ upd_same, hr10, ?_, fun l4 hl4 => ?_⟩⟩
    · have q := tell_len wf okj
      rw [lenj] at q
      show 3 + (((s.tell PL[j]).flatMap row).map V.int).length ≤ sizeLine
      rw [List.length_map]
      omega
    · obtain ⟨r, er, Tr⟩ := top_all s.paid hne
      have hr := top_is Tr hmm hle' hpj hpv fun i q hi hq => hj2 i (s.paid q) hi (by rw [List.getElem?_map, hq]; rfl)
      have e : Uw08.step s (.best n) = (s, ⟨(mm : Nat), [cn] :: s.tell PL[j]⟩) := by
        unfold Uw08.step
        refine (if_neg c).trans ?_
        rw [hbest, er, hr, hcn]
      refine kk.same (S19.trans (S10.trans (same_upd hl4))) hC (by rw [e]) ?_
      show upd _ l4 _ l4 = _
      rw [upd_same, e, out_eq]
      rfl
/-! plain_plan -/
inductive QSpPlain (t : Adr) (vs : List V) (H : Hp) (Q : VK) : Prop
  | mk (a pa qa : Addr) (s : Uw08.Season) (n : Nat) (h1 : vs = [.ref a, nV n]) (h2 : CompAt t H a pa qa s) (h3 : WF s) (q : After t H a pa qa s (.plain n) Q) : QSpPlain t vs H Q
def spPlain (t : Adr) : Sp := fun vs H Q _ => QSpPlain t vs H Q
theorem sc_plain : FnScope ["company", "weeks", "bills", "refusal", "standing", "week", "bill"] ["company", "weeks"] (defScope s_plain_plan) := ⟨rfl, rfl, rfl, by decide +kernel, rfl, by decide +kernel, by decide +kernel⟩
theorem ok_plain_plan (T : Txt K mg t) : FnOk P w K mg base CX0 5 t.f_plain_plan t.d_plain_plan ["company", "weeks"] (spPlain t) := by
  refine T.F_plain_plan.ok sc_plain (fun vs H Q E h => ?_) (fun cdv A outer s0 H vs Q E hr h => ?_)
  · obtain ⟨a, pa, qa, s, n, rfl, _⟩ := h
    rfl
  · obtain ⟨a, pa, qa, s, n, rfl, hC, wf, kk⟩ := h
    have hr3 : Room 3 _ := hr.mono (by decide)
    have hr1 : Room 1 _ := hr.mono (by decide)
    refine ⟨_, pss_cons (ps_set (i := 2) sc_plain.nd rfl (Or.inl rfl) (pe_call (ok_right_bills T) hr3 rfl T.g_right_bills T.F_right_bills.kp T.B_right_bills .nil pass0 (pa_cons (pv 0) pa_nil)))
      (pss_cons (ps_set (i := 3) sc_plain.nd rfl (Or.inl rfl) (pe_call (ok_refusal T) hr1 rfl T.g_refusal_of_weeks T.F_refusal_of_weeks.kp T.B_refusal_of_weeks .nil pass0 (pa_cons (pv 1) (pa_cons (pv 2) pa_nil))))
      (pss_cons (ps_if (pt_cmpR (op_neNil hr.units) (pv 3) (pe_lst pa_nil) (nomark _)) (pss_one (ps_ret (pv 3))) pss_nil)
      (pss_cons (ps_set (i := 4) sc_plain.nd rfl (Or.inl rfl) (pe_call (ok_opening T) hr3 rfl T.g_opening T.F_opening.kp T.B_opening .nil pass0 (pa_cons (pv 0) pa_nil)))
      (pss_cons (ps_for PassesOwn.never rfl (pi_range1 rfl T.b_range (pa_cons (pv 1) pa_nil)) (pg_name (i := 5) sc_plain.nd rfl (Or.inl rfl))
        (pss_cons (ps_set (i := 6) sc_plain.nd rfl (Or.inl rfl) (pe_call (ok_most T) hr3 rfl T.g_bill_that_leaves_most T.F_bill_that_leaves_most.kp T.B_bill_that_leaves_most .nil pass0 (pa_cons (pv 0) (pa_cons (pe_fld (pv 4) rfl) (pa_cons (pv 2) pa_nil)))))
        (pss_one (ps_set (i := 4) sc_plain.nd rfl (Or.inl rfl) (pe_call (ok_behind_week T) hr3 rfl T.g_behind_week T.F_behind_week.kp T.B_behind_week .nil pass0 (pa_cons (pv 0) (pa_cons (pv 4) (pa_cons (pv 6) pa_nil))))))))
      (pss_one (ps_ret (pe_op op_cat (pe_lst (pa_cons (pe_callB (cr_sum rfl) (by rfl) T.b_sum PyProof.Rows.boot_sum (pa_cons (pe_fld (pv 4) rfl) pa_nil)) pa_nil)) (pe_call (ok_told_of_weeks T) hr3 rfl T.g_told_of_weeks T.F_told_of_weeks.kp T.B_told_of_weeks .nil pass0 (pa_cons (pv 0) (pa_cons (pv 4) pa_nil)))))))))), ?_⟩
    have hline : sizeLine = 16777216 := sizeLine_eq
    have e3 : Uw08.WEEKS = 3 := rfl
    refine ⟨_, rfl, a, pa, qa, s, rfl, hC, wf, fun H1 bl S1 hB _ => ?_⟩
    refine ⟨_, rfl, _, rfl, n, bl, goodBills s, rfl, hB, fun H2 rf S2 hrf => ?_⟩
    have S12 := S1.trans S2
    refine ⟨_, rfl, Nat.zero_le _, fun e0 he0 => ?_⟩
    have S3 : Same H2 (upd H2 e0 (.lst [])) := same_upd he0
    refine ⟨rf, e0, rfl, rfl, upd_same, .inl ⟨_, S3 _ _ hrf, _, rfl, ite2 (fun z => ?_) (fun z => ?_)⟩⟩
    · have q := S3 _ _ hrf
      by_cases c : n < 1 ∨ Uw08.WEEKS < n
      · have e := step_plain_bad (s := s) c
        refine ⟨_, rfl, kk.same (S12.trans S3) hC (by rw [e]) ?_⟩
        show _ = _
        rw [q, e]
        unfold refusal
        rw [if_pos c]
        rfl
      · by_cases d : goodBills s = []
        · have e := step_plain_none (s := s) c d
          refine ⟨_, rfl, kk.same (S12.trans S3) hC (by rw [e]) ?_⟩
          show _ = _
          rw [q, e]
          unfold refusal
          rw [if_neg c, if_pos d]
          rfl
        · unfold refusal at z
          rw [if_neg c, if_neg d] at z
          exact absurd z (by decide)
    have c : ¬ (n < 1 ∨ Uw08.WEEKS < n) := fun c => z (by unfold refusal; rw [if_pos c]; rfl)
    have d : ¬ goodBills s = [] := fun d => z (by unfold refusal; rw [if_neg c, if_pos d]; rfl)
    have S13 := S12.trans S3
    have hn3 : n ≤ 3 := by omega
    have hBH := hB
    refine ⟨_, rfl, a, pa, qa, s, rfl, hC.same S13, wf, fun H4 x0 S4 hX0 _ => ?_⟩
    have S14 := S13.trans S4
    have hB4 : BillsAt H4 bl (goodBills s) := hB.same (S2.trans (S3.trans S4))
    refine ⟨_, rfl, _, rfl, by omega, by omega, ?_⟩
    have e0' : ((n : Nat) : Int).toNat = n := by omega
    rw [e0']
    refine for_range (lo := 0) (n := n) (fun i σ H5 => ∃ x p v5 v6, σ = [some (.ref a), some (nV n), some (.ref bl), some (.ref rf), some (.ref x), v5, v6] ∧ Same H4 H5 ∧ StandAt t H5 s x p ∧ p.length = i ∧ (∀ b ∈ p, BillOk s b) ∧ s.plain n [] = s.plain (n - i) p)
      ⟨x0, [], none, none, rfl, Same.refl _, hX0, rfl, (fun b hb => by cases hb), rfl⟩ ?_ ?_
    · rintro i σ H5 hi ⟨x, p, v5, v6, rfl, S5, hX, hpl, okp, hpn⟩
      obtain ⟨g, bb, q, bs, hA⟩ := hX.as
      obtain ⟨dx, x1⟩ := hA.ex
      refine ⟨_, rfl, _, rfl, x, _, dx, _, _, rfl, x1, T.clStanding, T.nStanding_given, standF_given _ _ _ _ _, _, rfl, a, pa, qa, g, bl, s, p, goodBills s, rfl, hC.same (S14.trans S5), wf, hA.given, hB4.same S5, fun b hb => good_ok hb, d, fun H6 b l m S6 hb hl hch => ?_⟩
      refine ⟨_, rfl, _, rfl, _, rfl, a, pa, qa, x, b, g, bb, q, bs, s, p, l, rfl, hC.same (S14.trans (S5.trans S6)), wf, hA.same S6, hb, good_ok hl, by omega, fun H7 r g' b' q' S7 hZ _ _ _ _ => ?_⟩
      refine ⟨r, p ++ [l], _, _, rfl, S5.trans (S6.trans S7), hZ.at_, by rw [List.length_append, hpl]; rfl, fun u hu => ?_, ?_⟩
      · rcases List.mem_append.mp hu with hu | hu
        · exact okp u hu
        · rw [List.mem_singleton.mp hu]; exact good_ok hl
      · rw [hpn, show n - i = (n - (i + 1)) + 1 by omega, plain_step hch]
    · rintro σ H5 ⟨x, p, v5, v6, rfl, S5, hX, hpl, okp, hpn⟩
      rw [Nat.sub_self] at hpn
      have hpn : s.plain n [] = some p := hpn
      obtain ⟨dx, g, bb, q, bs, x1, x2, x3, x4, x5⟩ := hX.ex
      refine ⟨_, rfl, x, _, dx, _, _, rfl, x1, T.clStanding, T.nStanding_payouts, standF_payouts _ _ _ _ _, q, _, rfl, SqL.of x5.i, (by show 1 ≤ sizeLine; decide), fun l1 hl1 => ?_⟩
      rw [sum_pays] at *
      have S6 : Same H5 (upd H5 l1 (.lst [nV (Uw08.total (pays s p))])) := same_upd hl1
      have S16 := S14.trans (S5.trans S6)
      refine ⟨_, rfl, _, rfl, a, pa, qa, x, s, p, rfl, hC.same S16, wf, hX.same S6, okp, by omega, fun H10 r10 S10 hr10 _ => ⟨l1, r10, _, _, rfl, rfl, S10 _ _ upd_same, hr10, ?_, fun l4 hl4 => ?_⟩⟩
      · have := tell_len wf okp
        rw [List.length_map]
        show 1 + _ ≤ sizeLine
        omega
      · have e : Uw08.step s (.plain n) = (s, ⟨(s.paid p : Nat), s.tell p⟩) := by
          unfold Uw08.step
          refine (if_neg c).trans ?_
          rw [hpn]
        refine kk.same (S16.trans (S10.trans (same_upd hl4))) hC (by rw [e]) ?_
        show upd _ l4 _ l4 = _
        rw [upd_same, e, out_eq]
        rfl
/-! check_plan -/
inductive QSpCheck (t : Adr) (vs : List V) (H : Hp) (Q : VK) : Prop
  | mk (a pa qa pl : Addr) (s : Uw08.Season) (p : Uw08.Plan) (h1 : vs = [.ref a, .ref pl]) (h2 : CompAt t H a pa qa s) (h3 : WF s) (h4 : BillsAt H pl p) (q : After t H a pa qa s (.check p) Q) : QSpCheck t vs H Q
def spCheck (t : Adr) : Sp := fun vs H Q _ => QSpCheck t vs H Q
theorem sc_check : FnScope ["company", "plan", "week", "wrong", "standing"] ["company", "plan"] (defScope s_check_plan) := ⟨rfl, rfl, rfl, by decide +kernel, rfl, by decide +kernel, by decide +kernel⟩
theorem ok_check_plan (T : Txt K mg t) : FnOk P w K mg base CX0 5 t.f_check_plan t.d_check_plan ["company", "plan"] (spCheck t) := by
  refine T.F_check_plan.ok sc_check (fun vs H Q E h => ?_) (fun cdv A outer s0 H vs Q E hr h => ?_)
  · obtain ⟨a, pa, qa, pl, s, p, rfl, _⟩ := h
    rfl
  · obtain ⟨a, pa, qa, pl, s, p, rfl, hC, wf, hB, kk⟩ := h
    have hr3 : Room 3 _ := hr.mono (by decide)
    have hr1 : Room 1 _ := hr.mono (by decide)
    obtain ⟨t1, k1⟩ := T.k_NOT_AS_TOLD
    refine ⟨_, pss_cons (ps_if (pt_not (pt_val (pe_call (ok_plan_as_told T) hr1 rfl T.g_plan_as_told T.F_plan_as_told.kp T.B_plan_as_told .nil pass0 (pa_cons (pv 0) (pa_cons (pv 1) pa_nil)))))
        (pss_one (ps_ret (pe_lst (pa_cons (pe_glob (v := .int (-1)) rfl k1 ⟨t1, rfl⟩) pa_nil)))) pss_nil)
      (pss_cons (ps_for PassesOwn.never rfl (pi_range1 rfl T.b_range (pa_cons (pe_callB call_len_seq (by rfl) T.b_len PySem.boot_len (pa_cons (pv 1) pa_nil)) pa_nil)) (pg_name (i := 2) sc_check.nd rfl (Or.inl rfl))
        (pss_cons (ps_set (i := 3) sc_check.nd rfl (Or.inl rfl) (pe_call (ok_wrong_with T) hr1 rfl T.g_wrong_with T.F_wrong_with.kp T.B_wrong_with .nil pass0 (pa_cons (pe_fld (pv 0) rfl) (pa_cons (pe_ix ix_list (pv 1) (pv 2) (fun _ _ => rfl)) pa_nil))))
        (pss_one (ps_if (pt_cmpR (op_neNil hr.units) (pv 3) (pe_lst pa_nil) (nomark _))
          (pss_one (ps_ret (pe_op op_cat (pe_lst (pa_cons pe_int pa_nil)) (pe_call (ok_with_length T) hr1 rfl T.g_with_length T.F_with_length.kp T.B_with_length .nil pass0 (pa_cons (pe_op op_cat (pe_lst (pa_cons (pv 2) pa_nil)) (pv 3)) pa_nil))))) pss_nil))))
      (pss_cons (ps_set (i := 4) sc_check.nd rfl (Or.inl rfl) (pe_call (ok_behind_plan T) hr rfl T.g_behind_plan T.F_behind_plan.kp T.B_behind_plan .nil pass0 (pa_cons (pv 0) (pa_cons (pv 1) pa_nil))))
      (pss_one (ps_ret (pe_op op_cat (pe_op op_cat (pe_lst (pa_cons pe_int pa_nil)) (pe_call (ok_with_length T) hr1 rfl T.g_with_length T.F_with_length.kp T.B_with_length .nil pass0 (pa_cons (pe_lst (pa_cons (pe_callB (cr_sum rfl) (by rfl) T.b_sum PyProof.Rows.boot_sum (pa_cons (pe_fld (pv 4) rfl) pa_nil)) pa_nil)) pa_nil)))
        (pe_call (ok_told_of_weeks T) hr3 rfl T.g_told_of_weeks T.F_told_of_weeks.kp T.B_told_of_weeks .nil pass0 (pa_cons (pv 0) (pa_cons (pv 4) pa_nil)))))))), ?_⟩
    have hline : sizeLine = 16777216 := sizeLine_eq
    have e3 : Uw08.WEEKS = 3 := rfl
    obtain ⟨bs, hpl, hbs⟩ := id hB
    have hbsl : bs.length = p.length := Paired.length hbs
    refine ⟨_, rfl, _, rfl, a, pa, qa, pl, s, p, rfl, hC, hB, fun g => ⟨_, rfl, iteT ?_⟩, fun g => ⟨_, rfl, iteF ?_⟩⟩
    · have e : Uw08.step s (.check p) = (s, Uw08.ok (-1)) := by unfold Uw08.step; exact if_pos g
      refine ⟨(by show 1 ≤ sizeLine; decide), fun r hr' => kk.same (same_upd hr') hC (by rw [e]) ?_⟩
      show upd _ r _ r = _
      rw [upd_same, e]
      rfl
    · have hlen : p.length ≤ 3 := by omega
      have ht : s.told p = true := by
        cases q : s.told p with
        | true => rfl
        | false => exact absurd (.inr q) g
      have ok : ∀ b ∈ p, BillOk s b := fun b hb => by
        have q := List.all_eq_true.mp ht b hb
        rw [Bool.and_eq_true] at q
        exact ⟨beq_iff_eq.mp q.1, fun k hk => of_decide_eq_true (List.all_eq_true.mp q.2 k hk)⟩
      refine ⟨_, rfl, pl, _, rfl, .inl (SqL.of hpl), _, rfl, by omega, by rw [refs_len]; omega, ?_⟩
      have e0 : (((refs bs).length : Nat) : Int).toNat = p.length := by rw [refs_len]; omega
      rw [e0]
      refine for_range (lo := 0) (n := p.length) (fun i σ H1 => ∃ v2 v3, σ = [some (.ref a), some (.ref pl), v2, v3, none] ∧ Same H H1 ∧ ∀ (j : Nat) (b : List Nat), j < i → p[j]? = some b → wrongB s.plays b = none) ⟨none, none, rfl, Same.refl _, fun j b hj => by omega⟩ ?_ ?_
      · rintro i σ H1 hi ⟨v2, v3, rfl, S1, hw⟩
        rw [zero_int]
        have hl : p[i]? = some p[i] := List.getElem?_eq_getElem hi
        obtain ⟨b, hb, hbl⟩ := pr_got hbs hl
        have okl := ok _ (List.getElem_mem hi)
        obtain ⟨dx, ca, hA, _⟩ := (hC.same S1).ex
        refine ⟨_, rfl, a, _, dx, _, _, rfl, hA, T.clCompany, T.nCompany_plays, compF_plays _ _ _ _, _, rfl, _, rfl, pl, _, _, _, rfl, rfl, SqL.of (S1 _ _ hpl), atI_nat (refs_at hb), pa, b, s.plays, p[i], rfl, (hC.same S1).playsAt, S1 _ _ hbl, okl.le, by rw [okl.len]; have := wf.nl; omega, by have := wf.pl; omega, fun H2 r S2 hR _ => ?_⟩
        refine ⟨_, rfl, Nat.zero_le _, fun e1 he1 => ?_⟩
        have S3 : Same H2 (upd H2 e1 (.lst [])) := same_upd he1
        refine ⟨r, e1, rfl, rfl, upd_same, .inl ⟨_, Row.i (S3 _ _ hR), _, rfl, ite2 (fun z => ?_) (fun z => ?_)⟩⟩
        · rw [show decide ((wrongRow (wrongB s.plays p[i])).map (fun (n : Nat) => (n : Int)) = []) = (wrongB s.plays p[i]).isNone from wrongRow_nil _] at z
          cases hx : wrongB s.plays p[i] with
          | none => rw [hx] at z; exact absurd z (by decide)
          | some x =>
            rw [hx] at hR
            have hws := wrong_some hl hx hw
            have e : Uw08.step s (.check p) = (s, ⟨0, [[i, x.1, x.2]]⟩) := by
              unfold Uw08.step
              refine (if_neg g).trans ?_
              rw [hws]
            refine ⟨(by show 1 ≤ sizeLine; decide), fun l1 hl1 => ⟨_, rfl, (by show 1 ≤ sizeLine; decide), fun l2 hl2 => ?_⟩⟩
            have S4 := same_upd (o := .lst [V.int 0]) hl1
            have S5 := same_upd (o := .lst [nV i]) hl2
            refine ⟨_, rfl, l2, r, _, _, rfl, rfl, upd_same, (S3.trans (S4.trans S5)) _ _ hR, by show 1 + 2 ≤ sizeLine; decide, fun l3 hl3 => ?_⟩
            have S6 := same_upd (o := .lst ([nV i] ++ nats [x.1, x.2])) hl3
            refine ⟨l3, _, rfl, Row.i (l := [i, x.1, x.2]) upd_same, by show 3 ≤ 1000000; decide, fun H7 r7 S7 hr7 _ => ⟨l1, r7, _, _, rfl, rfl, (S5.trans (S6.trans S7)) _ _ upd_same, hr7, by show 1 + 4 ≤ sizeLine; decide, fun l8 hl8 => ?_⟩⟩
            refine kk.same (S1.trans (S2.trans (S3.trans (S4.trans (S5.trans (S6.trans (S7.trans (same_upd hl8)))))))) hC (by rw [e]) ?_
            show upd _ l8 _ l8 = _
            rw [upd_same, e, out_eq]
            rfl
        · rw [show decide ((wrongRow (wrongB s.plays p[i])).map (fun (n : Nat) => (n : Int)) = []) = (wrongB s.plays p[i]).isNone from wrongRow_nil _] at z
          refine ⟨_, _, rfl, S1.trans (S2.trans S3), fun j b' hj hb' => ?_⟩
          by_cases y : j = i
          · subst y
            rw [hl] at hb'
            cases hb'
            cases hx : wrongB s.plays p[j] with
            | none => rfl
            | some x => rw [hx] at z; exact absurd rfl z
          · exact hw j b' (by omega) hb'
      · rintro σ H1 ⟨v2, v3, rfl, S1, hw⟩
        have hnone : s.wrong p = none := wrong_none.mpr fun b hb => by
          obtain ⟨i, hi⟩ := List.getElem?_of_mem hb
          exact hw i b (List.getElem?_eq_some_iff.mp hi).1 hi
        have e : Uw08.step s (.check p) = (s, ⟨1, [s.paid p] :: s.tell p⟩) := by
          unfold Uw08.step
          refine (if_neg g).trans ?_
          rw [hnone]
        refine ⟨_, rfl, _, rfl, a, pa, qa, pl, s, p, rfl, hC.same S1, wf, hB.same S1, ok, by omega, fun H2 x S2 hX => ?_⟩
        refine ⟨(by show 1 ≤ sizeLine; decide), fun l1 hl1 => ?_⟩
        have S3 := same_upd (o := .lst [V.int 1]) hl1
        obtain ⟨dx, g', bb, q, bs', x1, x2, x3, x4, x5⟩ := (hX.same S3).ex
        refine ⟨_, rfl, x, _, dx, _, _, rfl, x1, T.clStanding, T.nStanding_payouts, standF_payouts _ _ _ _ _, q, _, rfl, SqL.of x5.i, (by show 1 ≤ sizeLine; decide), fun l2 hl2 => ?_⟩
        rw [sum_pays] at *
        have S4 := same_upd (o := .lst [nV (Uw08.total (pays s p))]) hl2
        refine ⟨l2, _, rfl, Row.i (l := [Uw08.total (pays s p)]) upd_same, by show 1 ≤ 1000000; decide, fun H5 r5 S5 hr5 _ => ⟨l1, r5, _, _, rfl, rfl, (S4.trans S5) _ _ upd_same, hr5, by show 1 + 2 ≤ sizeLine; decide, fun l3 hl3 => ?_⟩⟩
        have S6 := same_upd (o := .lst ([V.int 1] ++ ([((1 : Nat) : Int), ((Uw08.total (pays s p) : Nat) : Int)] : List Int).map V.int)) hl3
        have S36 := S3.trans (S4.trans (S5.trans S6))
        have S16 := S1.trans (S2.trans S36)
        refine ⟨_, rfl, _, rfl, a, pa, qa, x, s, p, rfl, hC.same S16, wf, hX.same S36, ok, by omega, fun H10 r10 S10 hr10 _ => ⟨l3, r10, _, _, rfl, rfl, S10 _ _ upd_same, hr10, ?_, fun l4 hl4 => ?_⟩⟩
        · have := tell_len wf ok
          show 3 + (((s.tell p).flatMap row).map V.int).length ≤ sizeLine
          rw [List.length_map]
          omega
        · refine kk.same (S16.trans (S10.trans (same_upd hl4))) hC (by rw [e]) ?_
          show upd _ l4 _ l4 = _
          rw [upd_same, e, out_eq]
          rfl
end
end Ps
end
section
set_option Elab.async false
set_option linter.all false
set_option maxRecDepth 100000
set_option maxHeartbeats 2000000
namespace Ps
open PySem PySem.Spec PyProof.Rows L2
def toI (l : List Nat) : List Int := l.map fun (n : Nat) => (n : Int)
theorem toI_app (l m : List Nat) : toI (l ++ m) = toI l ++ toI m := List.map_append ..
theorem toI_len (l : List Nat) : (toI l).length = l.length := List.length_map ..
theorem toI_row (l : List Nat) : toI (rowN l) = ((toI l).length : Int) :: toI l := by
  rw [toI_len]; rfl
theorem split_rows {ps : List (List Nat)} {i : Nat} {l : List Nat} (h : ps[i]? = some l) : ps.flatMap rowN = (ps.take i).flatMap rowN ++ (rowN l ++ (ps.drop (i + 1)).flatMap rowN) := by
  have e : ps = ps.take i ++ l :: ps.drop (i + 1) := by
    have hi := (List.getElem?_eq_some_iff.mp h).1
    have hl : ps[i] = l := (List.getElem?_eq_some_iff.mp h).2
    rw [← hl, ← List.drop_eq_getElem_cons hi, List.take_append_drop]
  conv => lhs; rw [e]
  rw [List.flatMap_append, List.flatMap_cons]
section
variable {P : Program} {w : World} {K : PySem.W.Frag} {mg : Str → Option Value} {base : Heap} {t : Adr}
/-! plan_in -/
inductive QSpPlanIn (vs : List V) (H : Hp) (Q : VK) : Prop
  | mk (c : Addr) (ps : List (List Nat)) (h1 : vs = [.ref c]) (h2 : RowI H c (toI (5 :: ps.length :: ps.flatMap rowN))) (h3 : ps.length ≤ 20) (q : ∀ (H' : Hp) (r : Addr), Same H H' → BillsAt H' r ps → Q (.ref r) H') : QSpPlanIn vs H Q
def spPlanIn : Sp := fun vs H Q _ => QSpPlanIn vs H Q
theorem sc_planin : FnScope ["call", "plan", "place", "week"] ["call"] (defScope s_plan_in) := ⟨rfl, rfl, rfl, by decide +kernel, rfl, by decide +kernel, by decide +kernel⟩
theorem ok_plan_in (T : Txt K mg t) : FnOk P w K mg base CX0 2 t.f_plan_in t.d_plan_in ["call"] spPlanIn := by
  refine T.F_plan_in.ok sc_planin (fun vs H Q E h => ?_) (fun cdv A outer s0 H vs Q E hr h => ?_)
  · obtain ⟨c, ps, rfl, _⟩ := h
    rfl
  · obtain ⟨c, ps, rfl, hc, hps, k⟩ := h
    refine ⟨_, pss_cons (ps_set (i := 1) sc_planin.nd rfl (Or.inl rfl) (pe_lst pa_nil))
      (pss_cons (ps_set (i := 2) sc_planin.nd rfl (Or.inl rfl) pe_int)
      (pss_cons (ps_for PassesOwn.never rfl (pi_range1 rfl T.b_range (pa_cons (pe_ix ix_list (pv 0) pe_int (fun _ _ => rfl)) pa_nil)) (pg_name (i := 3) sc_planin.nd rfl (Or.inl rfl))
        (pss_cons (ps_expr (pe_bm PySem.F.plainAttrs_list PySem.F.slot_list_append PySem.F.type_list_append mt_append (pv 1) (pa_cons (pe_call (ok_row_at T) hr rfl T.g_row_at T.F_row_at.kp T.B_row_at .nil pass0 (pa_cons (pv 0) (pa_cons (pv 2) pa_nil))) pa_nil)))
        (pss_one (ps_aug (i := 2) sc_planin.nd rfl (Or.inl rfl) (pe_op op_add pe_int (pe_ix ix_list (pv 0) (pv 2) (fun _ _ => rfl))) ip_add))))
      (pss_one (ps_ret (pv 1))))), ?_⟩
    have hline : sizeLine = 16777216 := sizeLine_eq
    refine ⟨Nat.zero_le _, fun g hg => ?_⟩
    have S0 : Same H (upd H g (.lst [])) := same_upd hg
    have e1 : ((toI (5 :: ps.length :: ps.flatMap rowN)).map V.int)[1]? = some (V.int ((ps.length : Nat) : Int)) := rfl
    refine ⟨_, rfl, c, _, _, _, rfl, rfl, SqL.of (S0 _ _ hc), atI_nat (j := 1) e1, _, rfl, by omega, by omega, ?_⟩
    have e0 : ((ps.length : Nat) : Int).toNat = ps.length := by omega
    rw [e0]
    refine for_range (lo := 0) (n := ps.length) (fun i σ H1 => ∃ gs v3, σ = [some (.ref c), some (.ref g), some (.int ((2 + ((ps.take i).flatMap rowN).length : Nat) : Int)), v3] ∧ Same H H1 ∧ Held H1 g gs (ps.take i)) ⟨[], none, rfl, S0, by rw [upd_same]; rfl, .nil⟩ ?_ ?_
    · rintro i σ H1 hi ⟨gs, v3, rfl, S1, hgs⟩
      have hl : ps[i]? = some ps[i] := List.getElem?_eq_getElem hi
      have hsplit := split_rows hl
      have elist : toI (5 :: ps.length :: ps.flatMap rowN) = toI (5 :: ps.length :: (ps.take i).flatMap rowN) ++ ((toI ps[i]).length : Int) :: (toI ps[i] ++ toI ((ps.drop (i + 1)).flatMap rowN)) := by
        rw [hsplit]
        show _ :: _ :: toI _ = _ :: _ :: (toI _ ++ _)
        rw [toI_app, toI_app, toI_row]
        rfl
      have epre : (toI (5 :: ps.length :: (ps.take i).flatMap rowN)).length = 2 + ((ps.take i).flatMap rowN).length := by
        rw [toI_len]; simp; omega
      have hc1 := S1 _ _ hc
      have hgl : gs.length = i := by rw [Paired.length hgs.2, List.length_take]; omega
      refine ⟨_, rfl, .inl ⟨rfl, _, SqL.of hgs.1⟩, _, rfl, _, rfl, c, toI (5 :: ps.length :: (ps.take i).flatMap rowN), toI ps[i], toI ((ps.drop (i + 1)).flatMap rowN), by rw [epre]; rfl, by rw [← elist]; exact SqL.of hc1, fun H2 r S2 hR nr => ?_⟩
      have nrg : r ≠ g := (ne_of_none hgs.1 nr).symm
      refine ⟨g, _, _, rfl, rfl, S2 _ _ hgs.1, by rw [refs_len]; omega, ?_⟩
      have hp := Held.push (l := ps[i]) hgs S2 (by show H2 r = _; rw [nats_ints]; exact hR) nrg
      have cg : c ≠ g := ne_of_none hc hg
      have hc3 : upd H2 g (.lst (refs gs ++ [.ref r])) c = some (.lst ((toI (5 :: ps.length :: ps.flatMap rowN)).map V.int)) := by rw [upd_ne cg]; exact S2 _ _ hc1
      have eat : ((toI (5 :: ps.length :: ps.flatMap rowN)).map V.int)[2 + ((ps.take i).flatMap rowN).length]? = some (V.int ((ps[i].length : Nat) : Int)) := by
        rw [elist, ← epre, List.getElem?_map, List.getElem?_append_right (Nat.le_refl _), Nat.sub_self, toI_len]
        rfl
      refine ⟨_, rfl, _, rfl, _, rfl, c, _, _, _, rfl, rfl, SqL.of hc3, atI_nat eat, _, _, rfl, rfl, _, _, rfl, rfl, gs ++ [r], some (V.int (0 + (i : Int))), ?_, fun b o e => ?_, ?_⟩
      · show [_, _, some (V.int _), _] = [_, _, some (V.int _), _]
        have q : ((2 + ((ps.take i).flatMap rowN).length : Nat) : Int) + (1 + ((ps[i].length : Nat) : Int)) = ((2 + ((ps.take (i + 1)).flatMap rowN).length : Nat) : Int) := by
          rw [take_snoc hl, List.flatMap_append, List.length_append]
          simp [rowN]
          omega
        rw [← q]
      · rw [upd_ne (ne_of_none e hg)]; exact S2 _ _ (S1 _ _ e)
      · rw [take_snoc hl]; exact hp
    · rintro σ H1 ⟨gs, v3, rfl, S1, hgs⟩
      rw [List.take_length] at hgs
      exact ⟨_, rfl, k H1 g S1 hgs.bills⟩
/-! answer -/
inductive QSpAnswer (t : Adr) (vs : List V) (H : Hp) (Q : VK) : Prop
  | mk (a pa qa c : Addr) (s : Uw08.Season) (l : List Nat) (x : Uw08.Call) (h1 : vs = [.ref a, .ref c]) (h2 : CompAt t H a pa qa s) (h3 : WF s) (h4 : RowI H c (toI l)) (h5 : Said l x) (q : After t H a pa qa s x Q) : QSpAnswer t vs H Q
def spAnswer (t : Adr) : Sp := fun vs H Q _ => QSpAnswer t vs H Q
theorem sc_answer : FnScope ["company", "call"] ["company", "call"] (defScope s_answer) := ⟨rfl, rfl, rfl, by decide +kernel, rfl, by decide +kernel, by decide +kernel⟩
theorem toI_at {l : List Nat} {i n : Nat} (h : l[i]? = some n) : ((toI l).map V.int)[i]? = some (nV n) := by
  unfold toI
  rw [List.getElem?_map, List.getElem?_map, h]
  rfl
theorem b01_of {b : Nat} (h : b ≤ 1) : nV (b01 (b == 1)) = nV b := by
  have : b = 0 ∨ b = 1 := by omega
  rcases this with rfl | rfl <;> rfl
theorem ok_answer (T : Txt K mg t) : FnOk P w K mg base CX0 6 t.f_answer t.d_answer ["company", "call"] (spAnswer t) := by
  refine T.F_answer.ok sc_answer (fun vs H Q E h => ?_) (fun cdv A outer s0 H vs Q E hr h => ?_)
  · obtain ⟨a, pa, qa, c, s, l, x, rfl, _⟩ := h
    rfl
  · obtain ⟨a, pa, qa, c, s, l, x, rfl, hC, wf, hc, hs, kk⟩ := h
    have hr2 : Room 2 _ := hr.mono (by decide)
    have hr1 : Room 1 _ := hr.mono (by decide)
    obtain ⟨t0, k0⟩ := T.k_BEGINS
    obtain ⟨t1, k1⟩ := T.k_PLAY
    obtain ⟨t2, k2⟩ := T.k_JOIN
    obtain ⟨t3, k3⟩ := T.k_BEST
    obtain ⟨t4, k4⟩ := T.k_PLAIN
    obtain ⟨t5, k5⟩ := T.k_CHECK
    refine ⟨_, pss_cons (ps_if (pt_cmp (pc_eqI (pe_ix ix_list (pv 1) pe_int (fun _ _ => rfl)) (pe_glob (v := .int 0) rfl k0 ⟨t0, rfl⟩)))
        (pss_one (ps_ret (pe_call (ok_begin_season T) hr2 rfl T.g_begin_season T.F_begin_season.kp T.B_begin_season .nil pass0 (pa_cons (pv 0) (pa_cons (pe_ix ix_list (pv 1) pe_int (fun _ _ => rfl)) (pa_cons (pe_ix ix_list (pv 1) pe_int (fun _ _ => rfl)) (pa_cons (pe_ix ix_list (pv 1) pe_int (fun _ _ => rfl)) (pa_cons (pe_call (ok_row_at T) hr1 rfl T.g_row_at T.F_row_at.kp T.B_row_at .nil pass0 (pa_cons (pv 1) (pa_cons pe_int pa_nil))) pa_nil)))))))) pss_nil)
      (pss_cons (ps_if (pt_cmp (pc_eqI (pe_ix ix_list (pv 1) pe_int (fun _ _ => rfl)) (pe_glob (v := .int 1) rfl k1 ⟨t1, rfl⟩)))
        (pss_one (ps_ret (pe_call (ok_add_play T) hr2 rfl T.g_add_play T.F_add_play.kp T.B_add_play .nil pass0 (pa_cons (pv 0) (pa_cons (pe_make T.mkPlay (ok_Play T) hr2 rfl T.mgPlay T.BPlay .nil pass0 (pa_cons (pe_ix ix_list (pv 1) pe_int (fun _ _ => rfl)) (pa_cons (pe_ix ix_list (pv 1) pe_int (fun _ _ => rfl)) (pa_cons (pe_ix ix_list (pv 1) pe_int (fun _ _ => rfl)) (pa_cons (pe_ix ix_list (pv 1) pe_int (fun _ _ => rfl)) (pa_cons (pe_ix ix_list (pv 1) pe_int (fun _ _ => rfl))
          (pa_cons (pe_call (ok_row_at T) hr1 rfl T.g_row_at T.F_row_at.kp T.B_row_at .nil pass0 (pa_cons (pv 1) (pa_cons pe_int pa_nil))) pa_nil))))))) pa_nil))))) pss_nil)
      (pss_cons (ps_if (pt_cmp (pc_eqI (pe_ix ix_list (pv 1) pe_int (fun _ _ => rfl)) (pe_glob (v := .int 2) rfl k2 ⟨t2, rfl⟩)))
        (pss_one (ps_ret (pe_call (ok_join_company T) hr1 rfl T.g_join_company T.F_join_company.kp T.B_join_company .nil pass0 (pa_cons (pv 0) (pa_cons (pe_ix ix_list (pv 1) pe_int (fun _ _ => rfl)) pa_nil))))) pss_nil)
      (pss_cons (ps_if (pt_cmp (pc_eqI (pe_ix ix_list (pv 1) pe_int (fun _ _ => rfl)) (pe_glob (v := .int 3) rfl k3 ⟨t3, rfl⟩)))
        (pss_one (ps_ret (pe_call (ok_best_plan T) hr rfl T.g_best_plan T.F_best_plan.kp T.B_best_plan .nil pass0 (pa_cons (pv 0) (pa_cons (pe_ix ix_list (pv 1) pe_int (fun _ _ => rfl)) pa_nil))))) pss_nil)
      (pss_cons (ps_if (pt_cmp (pc_eqI (pe_ix ix_list (pv 1) pe_int (fun _ _ => rfl)) (pe_glob (v := .int 4) rfl k4 ⟨t4, rfl⟩)))
        (pss_one (ps_ret (pe_call (ok_plain_plan T) hr rfl T.g_plain_plan T.F_plain_plan.kp T.B_plain_plan .nil pass0 (pa_cons (pv 0) (pa_cons (pe_ix ix_list (pv 1) pe_int (fun _ _ => rfl)) pa_nil))))) pss_nil)
      (pss_cons (ps_if (pt_cmp (pc_eqI (pe_ix ix_list (pv 1) pe_int (fun _ _ => rfl)) (pe_glob (v := .int 5) rfl k5 ⟨t5, rfl⟩)))
        (pss_one (ps_ret (pe_call (ok_check_plan T) hr rfl T.g_check_plan T.F_check_plan.kp T.B_check_plan .nil pass0 (pa_cons (pv 0) (pa_cons (pe_call (ok_plan_in T) hr2 rfl T.g_plan_in T.F_plan_in.kp T.B_plan_in .nil pass0 (pa_cons (pv 1) pa_nil)) pa_nil))))) pss_nil)
      (pss_one (ps_ret (pe_call (ok_put_into_fund T) hr1 rfl T.g_put_into_fund T.F_put_into_fund.kp T.B_put_into_fund .nil pass0 (pa_cons (pv 0) (pa_cons (pe_ix ix_list (pv 1) pe_int (fun _ _ => rfl)) pa_nil)))))))))), ?_⟩
    have rd : ∀ {i n : Nat}, l[i]? = some n → atI ((toI l).map V.int) ((i : Nat) : Int) = some (nV n) := fun h => atI_nat (toI_at h)
    cases hs with
    | begins k m w n =>
      refine ⟨_, rfl, c, _, _, _, rfl, rfl, SqL.of hc, rd (i := 0) rfl, _, _, rfl, rfl, _, rfl, iteT ?_⟩
      refine ⟨_, rfl, _, rfl, c, _, _, _, rfl, rfl, SqL.of hc, rd (i := 1) rfl, _, rfl, c, _, _, _, rfl, rfl, SqL.of hc, rd (i := 2) rfl, _, rfl, c, _, _, _, rfl, rfl, SqL.of hc, rd (i := 3) rfl, _, rfl, c, toI [0, k, m, w], toI n, [], rfl, ?_, fun H1 r S1 hR nr => ?_⟩
      · rw [List.append_nil, ← toI_row, ← toI_app]
        exact SqL.of hc
      · obtain ⟨as, hpa, _⟩ := hC.plays
        exact ⟨H, a, pa, qa, r, s, k, m, w, n, rfl, hC.same S1, by show H1 r = _; rw [nats_ints]; exact hR, S1, nr, kk⟩
    | play st sk b m n r =>
      rename_i hb
      refine ⟨_, rfl, c, _, _, _, rfl, rfl, SqL.of hc, rd (i := 0) rfl, _, _, rfl, rfl, _, rfl, iteF ?_⟩
      refine ⟨_, rfl, c, _, _, _, rfl, rfl, SqL.of hc, rd (i := 0) rfl, _, _, rfl, rfl, _, rfl, iteT ?_⟩
      refine ⟨_, rfl, _, rfl, c, _, _, _, rfl, rfl, SqL.of hc, rd (i := 1) rfl, _, rfl, c, _, _, _, rfl, rfl, SqL.of hc, rd (i := 2) rfl, _, rfl, c, _, _, _, rfl, rfl, SqL.of hc, rd (i := 3) rfl, _, rfl, c, _, _, _, rfl, rfl, SqL.of hc, rd (i := 4) rfl, _, rfl, c, _, _, _, rfl, rfl, SqL.of hc, rd (i := 5) rfl, _, rfl, c, toI [1, st, sk, b, m, n], toI r, [], rfl, ?_, fun H1 y S1 hR ny => ?_⟩
      · rw [List.append_nil, ← toI_row, ← toI_app]
        exact SqL.of hc
      · obtain ⟨as, hpa, _⟩ := hC.plays
        intro z dz nz ndz nzd
        refine ⟨z, dz, y, ⟨r, st, sk, b == 1, m, n⟩, by rw [b01_of hb]; rfl, upd_same, fun H3 h3 k3 => ⟨rfl, ?_⟩⟩
        have S3 := Same.made nz ndz k3
        have S13 := S1.trans S3
        exact ⟨H, a, pa, qa, z, dz, y, s, _, rfl, hC.same S13, wf, h3, S3 _ _ (by show H1 y = _; rw [nats_ints]; exact hR), (ne_of_none hpa ny).symm, (ne_of_none hC.parts ny).symm, S13, ny, kk⟩
    | join p =>
      refine ⟨_, rfl, c, _, _, _, rfl, rfl, SqL.of hc, rd (i := 0) rfl, _, _, rfl, rfl, _, rfl, iteF ?_⟩
      refine ⟨_, rfl, c, _, _, _, rfl, rfl, SqL.of hc, rd (i := 0) rfl, _, _, rfl, rfl, _, rfl, iteF ?_⟩
      refine ⟨_, rfl, c, _, _, _, rfl, rfl, SqL.of hc, rd (i := 0) rfl, _, _, rfl, rfl, _, rfl, iteT ?_⟩
      exact ⟨_, rfl, _, rfl, c, _, _, _, rfl, rfl, SqL.of hc, rd (i := 1) rfl, a, pa, qa, s, p, rfl, hC, wf, kk⟩
    | best n =>
      refine ⟨_, rfl, c, _, _, _, rfl, rfl, SqL.of hc, rd (i := 0) rfl, _, _, rfl, rfl, _, rfl, iteF ?_⟩
      refine ⟨_, rfl, c, _, _, _, rfl, rfl, SqL.of hc, rd (i := 0) rfl, _, _, rfl, rfl, _, rfl, iteF ?_⟩
      refine ⟨_, rfl, c, _, _, _, rfl, rfl, SqL.of hc, rd (i := 0) rfl, _, _, rfl, rfl, _, rfl, iteF ?_⟩
      refine ⟨_, rfl, c, _, _, _, rfl, rfl, SqL.of hc, rd (i := 0) rfl, _, _, rfl, rfl, _, rfl, iteT ?_⟩
      exact ⟨_, rfl, _, rfl, c, _, _, _, rfl, rfl, SqL.of hc, rd (i := 1) rfl, a, pa, qa, s, n, rfl, hC, wf, kk⟩
    | plain n =>
      refine ⟨_, rfl, c, _, _, _, rfl, rfl, SqL.of hc, rd (i := 0) rfl, _, _, rfl, rfl, _, rfl, iteF ?_⟩
      refine ⟨_, rfl, c, _, _, _, rfl, rfl, SqL.of hc, rd (i := 0) rfl, _, _, rfl, rfl, _, rfl, iteF ?_⟩
      refine ⟨_, rfl, c, _, _, _, rfl, rfl, SqL.of hc, rd (i := 0) rfl, _, _, rfl, rfl, _, rfl, iteF ?_⟩
      refine ⟨_, rfl, c, _, _, _, rfl, rfl, SqL.of hc, rd (i := 0) rfl, _, _, rfl, rfl, _, rfl, iteF ?_⟩
      refine ⟨_, rfl, c, _, _, _, rfl, rfl, SqL.of hc, rd (i := 0) rfl, _, _, rfl, rfl, _, rfl, iteT ?_⟩
      exact ⟨_, rfl, _, rfl, c, _, _, _, rfl, rfl, SqL.of hc, rd (i := 1) rfl, a, pa, qa, s, n, rfl, hC, wf, kk⟩
    | check ps =>
      rename_i hps
      refine ⟨_, rfl, c, _, _, _, rfl, rfl, SqL.of hc, rd (i := 0) rfl, _, _, rfl, rfl, _, rfl, iteF ?_⟩
      refine ⟨_, rfl, c, _, _, _, rfl, rfl, SqL.of hc, rd (i := 0) rfl, _, _, rfl, rfl, _, rfl, iteF ?_⟩
      refine ⟨_, rfl, c, _, _, _, rfl, rfl, SqL.of hc, rd (i := 0) rfl, _, _, rfl, rfl, _, rfl, iteF ?_⟩
      refine ⟨_, rfl, c, _, _, _, rfl, rfl, SqL.of hc, rd (i := 0) rfl, _, _, rfl, rfl, _, rfl, iteF ?_⟩
      refine ⟨_, rfl, c, _, _, _, rfl, rfl, SqL.of hc, rd (i := 0) rfl, _, _, rfl, rfl, _, rfl, iteF ?_⟩
      refine ⟨_, rfl, c, _, _, _, rfl, rfl, SqL.of hc, rd (i := 0) rfl, _, _, rfl, rfl, _, rfl, iteT ?_⟩
      exact ⟨_, rfl, _, rfl, c, ps, rfl, hc, hps, fun H1 r S1 hB => ⟨a, pa, qa, r, s, ps, rfl, hC.same S1, wf, hB, kk.from S1⟩⟩
    | bring n =>
      refine ⟨_, rfl, c, _, _, _, rfl, rfl, SqL.of hc, rd (i := 0) rfl, _, _, rfl, rfl, _, rfl, iteF ?_⟩
      refine ⟨_, rfl, c, _, _, _, rfl, rfl, SqL.of hc, rd (i := 0) rfl, _, _, rfl, rfl, _, rfl, iteF ?_⟩
      refine ⟨_, rfl, c, _, _, _, rfl, rfl, SqL.of hc, rd (i := 0) rfl, _, _, rfl, rfl, _, rfl, iteF ?_⟩
      refine ⟨_, rfl, c, _, _, _, rfl, rfl, SqL.of hc, rd (i := 0) rfl, _, _, rfl, rfl, _, rfl, iteF ?_⟩
      refine ⟨_, rfl, c, _, _, _, rfl, rfl, SqL.of hc, rd (i := 0) rfl, _, _, rfl, rfl, _, rfl, iteF ?_⟩
      refine ⟨_, rfl, c, _, _, _, rfl, rfl, SqL.of hc, rd (i := 0) rfl, _, _, rfl, rfl, _, rfl, iteF ?_⟩
      exact ⟨_, rfl, _, rfl, c, _, _, _, rfl, rfl, SqL.of hc, rd (i := 1) rfl, a, pa, qa, s, n, rfl, hC, wf, kk⟩
end
end Ps
end
section
set_option Elab.async false
set_option linter.all false
set_option maxRecDepth 100000
set_option maxHeartbeats 2000000
namespace Ps
open PySem PySem.Spec PyProof.Rows L2
/-! the calls, played -/
def play (s : Uw08.Season) (cs : List (List Int)) : List Int := PyFlat.told (PyFlat.played (fun s c => Uw08Neutral.step s (c.headD [])) s (cs.map fun c => [c]))
theorem play_nil (s : Uw08.Season) : play s [] = [] := rfl
theorem play_cons {s : Uw08.Season} {c : List Int} {cs : List (List Int)} {x : Uw08.Call} (h : Uw08Neutral.callOf c = some x) : play s (c :: cs) = ((Uw08Neutral.out (Uw08.step s x).2).length : Int) :: (Uw08Neutral.out (Uw08.step s x).2 ++ play (Uw08.step s x).1 cs) := by
  have e : Uw08Neutral.step s c = ((Uw08.step s x).1, Uw08Neutral.out (Uw08.step s x).2) := by
    unfold Uw08Neutral.step
    rw [h]
  show PyFlat.told ((Uw08Neutral.step s c).2 :: PyFlat.played _ (Uw08Neutral.step s c).1 (cs.map fun c => [c])) = _
  rw [e]
  rfl
theorem many_cons {s : Uw08.Season} {c : List Int} {cs : List (List Int)} {x : Uw08.Call} (h : Uw08Neutral.callOf c = some x) : Uw08Neutral.many s (c :: cs) = (Uw08Neutral.out (Uw08.step s x).2).length + Uw08Neutral.many (Uw08.step s x).1 cs := by
  have e : Uw08Neutral.step s c = ((Uw08.step s x).1, Uw08Neutral.out (Uw08.step s x).2) := by
    unfold Uw08Neutral.step
    rw [h]
  show (Uw08Neutral.step s c).2.length + Uw08Neutral.many (Uw08Neutral.step s c).1 cs = _
  rw [e]
theorem heads : ∀ {cs : List (List (List Int))}, (∀ c ∈ cs, ∃ r, c = [[0], r]) → (cs.map PyUw08.whole) = ((cs.map PyUw08.whole).map fun c => c.headD []).map fun c => [c]
  | [], _ => rfl
  | c :: cs, h => by
    obtain ⟨r, rfl⟩ := h c (List.mem_cons_self ..)
    have ih := heads (cs := cs) fun c hc => h c (List.mem_cons_of_mem _ hc)
    rw [List.map_cons, List.map_cons, List.map_cons]
    congr 1
theorem flat_form : ∀ (f : Nat) {l : List Int} {cs : List (List (List Int))}, PyFlat.calls PyUw08.shape f l = some cs → ∀ c ∈ cs, ∃ r, c = [[0], r]
  | _, [], cs, h => by
    have e : cs = [] := by
      cases ‹Nat› <;> (unfold PyFlat.calls at h; exact (Option.some.inj h).symm)
    subst e
    intro c hc
    cases hc
  | 0, _ :: _, cs, h => by unfold PyFlat.calls at h; cases h
  | f + 1, p :: r, cs, h => by
    unfold PyFlat.calls at h
    cases e : PyFlat.call PyUw08.shape (p :: r) with
    | none => rw [e] at h; cases h
    | some ct =>
      obtain ⟨c, t⟩ := ct
      rw [e] at h
      cases e2 : PyFlat.calls PyUw08.shape f t with
      | none => simp only [e2] at h; cases h
      | some cs' =>
        simp only [e2] at h
        have e3 : cs = c :: cs' := (Option.some.inj h).symm
        subst e3
        intro d hd
        rcases List.mem_cons.mp hd with rfl | hd
        · unfold PyFlat.call PyUw08.shape at e
          by_cases hp : p = 0
          · subst hp
            simp only [if_pos] at e
            rw [if_neg (by omega), List.drop_zero] at e
            unfold PyFlat.rows at e
            cases r with
            | nil => simp [PyFlat.row] at e
            | cons n r =>
              unfold PyFlat.row at e
              by_cases hn : 0 ≤ n ∧ n.toNat ≤ r.length
              · simp only [if_pos hn, PyFlat.rows] at e
                have e := Option.some.inj e
                exact ⟨r.take n.toNat, (congrArg Prod.fst e).symm⟩
              · simp only [if_neg hn] at e
                cases e
          · simp only [if_neg hp] at e
            cases e
        · exact flat_form f e2 d hd
/-- what is asked of a request, in short -/
theorem asked_left {ns : List Int} (h : PyUw08.answers_asked ns = true) : ∃ cs, Left ns cs ∧ (∀ c ∈ cs, ∃ x, Uw08Neutral.callOf c = some x) ∧ cs.length ≤ 40 ∧ Uw08Neutral.many Uw08Neutral.start cs ≤ 1000000 ∧ PyUw08.answers ns = play Uw08Neutral.start cs := by
  unfold PyUw08.answers_asked at h
  unfold PyUw08.answers
  cases e : PyUw08.calls ns with
  | none => rw [e] at h; cases h
  | some ws =>
    rw [e] at h
    unfold PyUw08.calls at e
    cases e2 : PyFlat.calls PyUw08.shape ns.length ns with
    | none => rw [e2] at e; cases e
    | some cs =>
      rw [e2] at e
      have ew : cs.map PyUw08.whole = ws := Option.some.inj e
      have h : (PyFlat.atMost 40 ws && Uw08Neutral.asked (ws.map fun c => c.headD [])) = true := h
      rw [Bool.and_eq_true] at h
      obtain ⟨h1, h2⟩ := h
      unfold Uw08Neutral.asked at h2
      simp only [Bool.and_eq_true, decide_eq_true_eq] at h2
      obtain ⟨h3, h4, h5, h6⟩ := h2
      refine ⟨ws.map fun c => c.headD [], by rw [← ew]; exact flat_left _ e2, fun c hc => ?_, h5, h6, ?_⟩
      · have := List.all_eq_true.mp h3 c hc
        unfold Uw08Neutral.asked1 at this
        exact Option.isSome_iff_exists.mp this
      · unfold play
        have q := heads (flat_form _ e2)
        rw [ew] at q
        rw [← q]
theorem CompAt.off {t : Adr} {H : Hp} {a pa qa tl : Addr} {s : Uw08.Season} (hC : CompAt t H a pa qa s) (h : H tl = none) : CompN (fun c => c ≠ tl) H a pa := by
  obtain ⟨⟨dx, ca, hA, hca, _⟩, ⟨as, hpa, hps⟩, _⟩ := hC
  refine ⟨⟨_, dx, _, ca, hA, compF_crowds _ _ _ _, ne_of_none hca h⟩, as, hpa, fun x hx => ?_⟩
  obtain ⟨i, hi⟩ := List.getElem?_of_mem hx
  obtain ⟨p, _, hP⟩ := pr_get hps hi
  obtain ⟨d, br, h1, h2, _⟩ := hP.ex
  exact ⟨_, d, _, br, h1, playF_brings _ _, ne_of_none h2 h⟩
theorem CompAt.put {t : Adr} {H : Hp} {a pa qa tl : Addr} {s : Uw08.Season} {xs : List V} (ys : List V) (hC : CompAt t H a pa qa s) (hN : CompN (fun c => c ≠ tl) H a pa) (h : H tl = some (.lst xs)) (n2 : tl ≠ pa) (n3 : tl ≠ qa) : CompAt t (upd H tl (.lst ys)) a pa qa s := by
  obtain ⟨⟨dx, ca, hA, hca, c1, c2⟩, ⟨as, hpa, hps⟩, hqa, ne⟩ := hC
  obtain ⟨⟨C', d', fs', ca', w1, w2, w3⟩, as', w4, w5⟩ := hN
  rw [hA] at w1
  injection w1 with w1
  injection w1 with w1a w1b w1c
  rw [← w1c, compF_crowds] at w2
  have eca : ca = ca' := by injection w2 with w2; injection w2
  rw [hpa] at w4
  injection w4 with w4
  injection w4 with w4
  have eas : as = as' := refs_inj w4
  subst eca eas
  have kp : ∀ b o, H b = some o → b ≠ tl → upd H tl (.lst ys) b = some o := fun b o e nb => by rw [upd_ne nb]; exact e
  refine ⟨⟨dx, ca, kp _ _ hA (ne_of hA h (by intro z; cases z)), kp _ _ hca w3, c1, c2⟩, ⟨as, kp _ _ hpa n2.symm, pr_mem hps fun x p hx hP => ?_⟩, kp _ _ hqa n3.symm, ne⟩
  obtain ⟨d, br, h1, h2, h3, h4⟩ := hP.ex
  obtain ⟨C'', d'', fs'', br', v1, v2, v3⟩ := w5 x hx
  rw [h1] at v1
  injection v1 with v1
  injection v1 with v1a v1b v1c
  rw [← v1c, playF_brings] at v2
  have ebr : br = br' := by injection v2 with v2; injection v2
  subst ebr
  exact ⟨d, br, kp _ _ h1 (ne_of h1 h (by intro z; cases z)), kp _ _ h2 v3, h3, h4⟩
section
variable {P : Program} {w : World} {K : PySem.W.Frag} {mg : Str → Option Value} {base : Heap} {t : Adr}
inductive QSpAnswers (K : PySem.W.Frag) (vs : List V) (H : Hp) (Q : VK) : Prop
  | mk (a : Addr) (ns : List Int) (h1 : vs = [.ref a]) (h2 : SqL K H a (ns.map V.int)) (h3 : ns.length ≤ 31000) (h4 : PyUw08.answers_asked ns = true) (q : ∀ (H' : Hp) (p : Addr), H' p = some (.lst ((PyUw08.answers ns).map V.int)) → Q (.ref p) H') : QSpAnswers K vs H Q
def spAnswers (K : PySem.W.Frag) : Sp := fun vs H Q _ => QSpAnswers K vs H Q
theorem sc_answers : FnScope ["calls", "company", "told", "place"] ["calls"] (defScope s_answers) := ⟨rfl, rfl, rfl, by decide +kernel, rfl, by decide +kernel, by decide +kernel⟩
theorem ok_answers (T : Txt K mg t) : FnOk P w K mg base CX0 7 t.f_answers t.d_answers ["calls"] (spAnswers K) := by
  refine T.F_answers.ok sc_answers (fun vs H Q E h => ?_) (fun cdv A outer s0 H vs Q E hr h => ?_)
  · obtain ⟨a, ns, rfl, _⟩ := h
    rfl
  · obtain ⟨a, ns, rfl, hS, hlen, hask, k⟩ := h
    have hr2 : Room 2 _ := hr.mono (by decide)
    have hr1 : Room 1 _ := hr.mono (by decide)
    refine ⟨_, pss_cons (ps_set (i := 1) sc_answers.nd rfl (Or.inl rfl) (pe_make0 T.mkCompany (ok_Company T) hr2 rfl T.mgCompany T.BCompany .nil pass0))
      (pss_cons (ps_set (i := 2) sc_answers.nd rfl (Or.inl rfl) (pe_lst pa_nil))
      (pss_cons (ps_set (i := 3) sc_answers.nd rfl (Or.inl rfl) pe_int)
      (pss_cons (ps_while PassesOwn.never (pt_cmp (pc_lt (pv 3) (pe_callB call_len_seq (by rfl) T.b_len PySem.boot_len (pa_cons (pv 0) pa_nil))))
        (pss_cons (ps_expr (pe_bm PySem.F.plainAttrs_list PySem.F.slot_list_extend PySem.F.type_list_extend mt_extend (pv 2) (pa_cons (pe_call (ok_with_length T) hr1 rfl T.g_with_length T.F_with_length.kp T.B_with_length .nil pass0 (pa_cons (pe_call (ok_answer T) hr rfl T.g_answer T.F_answer.kp T.B_answer .nil pass0 (pa_cons (pv 1) (pa_cons (pe_call (ok_row_at T) hr1 rfl T.g_row_at T.F_row_at.kp T.B_row_at .nil pass0 (pa_cons (pv 0) (pa_cons (pe_op op_add (pv 3) pe_int) pa_nil))) pa_nil))) pa_nil)) pa_nil)))
        (pss_one (ps_aug (i := 3) sc_answers.nd rfl (Or.inl rfl) (pe_op op_add pe_int (pe_ix ix_list (pv 0) (pe_op op_add (pv 3) pe_int) (fun _ _ => rfl))) ip_add))))
      (pss_one (ps_ret (pv 2)))))), ?_⟩
    have hline : sizeLine = 16777216 := sizeLine_eq
    obtain ⟨cs0, hleft, hcalls, h40, hmany, hans⟩ := asked_left hask
    intro x dx nx ndx ndxx
    refine ⟨x, dx, rfl, upd_same, fun H1 pa qa hC1 npa nqa k1 => ⟨rfl, Nat.zero_le _, fun tl htl => ?_⟩⟩
    have S1 := Same.made nx ndx k1
    have S2 : Same H1 (upd H1 tl (.lst [])) := same_upd htl
    have S12 := S1.trans S2
    have n_of : ∀ c, upd (upd H dx (.own x)) x (.ins t.cCompany dx []) c = none → H c = none := fun c hc => by
      cases q : H c with
      | none => rfl
      | some o =>
        have : upd (upd H dx (.own x)) x (.ins t.cCompany dx []) c = some o := by
          rw [upd_ne (ne_of_none q nx), upd_ne (ne_of_none q ndx)]; exact q
        rw [this] at hc; cases hc
    obtain ⟨⟨d1, ca1, hA1, _⟩, ⟨as1, hpa1, _⟩, hqa1, _⟩ := id hC1
    refine ⟨fun m σ H' => ∃ (s : Uw08.Season) (pa qa : Addr) (pre rest out : List Int) (cs : List (List Int)), m = rest.length ∧ σ = [some (.ref a), some (.ref x), some (.ref tl), some (.int ((pre.length : Nat) : Int))] ∧ ns = pre ++ rest ∧ Left rest cs ∧ (∀ c ∈ cs, ∃ y, Uw08Neutral.callOf c = some y) ∧
        CompAt t H' x pa qa s ∧ WF s ∧ RowI H' tl out ∧ tl ≠ x ∧ tl ≠ pa ∧ tl ≠ qa ∧ Same H H' ∧ H pa = none ∧ H qa = none ∧ out ++ play s cs = PyUw08.answers ns ∧ out.length + Uw08Neutral.many s cs + cs.length ≤ 1000040 ∧ Uw08Neutral.many s cs ≤ 1000000 ∧ CompN (fun c => c ≠ tl) H' x pa,
      ⟨_, Uw08Neutral.start, pa, qa, [], ns, [], cs0, rfl, rfl, rfl, hleft, hcalls, hC1.same S2, wf_init, upd_same, (ne_of_none hA1 htl).symm, (ne_of_none hpa1 htl).symm, (ne_of_none hqa1 htl).symm, S12, n_of _ npa, n_of _ nqa, hans.symm, by show 0 + _ + _ ≤ _; omega, hmany, (hC1.off htl).same S2⟩, ?_⟩
    rintro m σ H' ⟨s, pa, qa, pre, rest, out, cs, rfl, rfl, hns, hL, hcs, hC, wf, htl', n1, n2, n3, S, m1, m2, hout, hsz, hmn, hcn⟩
    have hS' := S.seq hS
    have hnl : (ns.map V.int).length = ns.length := List.length_map ..
    refine ⟨_, rfl, _, rfl, a, _, rfl, .inl hS', _, _, rfl, rfl, _, rfl, ?_⟩
    cases hL with
    | nil =>
      rw [List.append_nil] at hns
      refine (if_neg ?_).mpr ?_
      · intro z
        have z := of_decide_eq_true z
        rw [hnl, hns] at z
        omega
      · refine ⟨_, rfl, k _ tl ?_⟩
        rw [play_nil, List.append_nil] at hout
        rw [← hout]
        exact htl'
    | cons c r cs hL =>
      obtain ⟨y, hy⟩ := hcs c (List.mem_cons_self ..)
      obtain ⟨l, hl, said⟩ := callOf_said hy
      have hlt : pre.length < ns.length := by rw [hns, List.length_append, List.length_cons, List.length_cons]; omega
      refine (if_pos (decide_eq_true (by rw [hnl]; omega))).mpr ?_
      refine ⟨fun σ' H'' => ∃ m', m' < (0 :: (c.length : Int) :: (c ++ r)).length ∧ ∃ (s : Uw08.Season) (pa qa : Addr) (pre rest out : List Int) (cs : List (List Int)), m' = rest.length ∧ σ' = [some (.ref a), some (.ref x), some (.ref tl), some (.int ((pre.length : Nat) : Int))] ∧ ns = pre ++ rest ∧ Left rest cs ∧ (∀ c ∈ cs, ∃ y, Uw08Neutral.callOf c = some y) ∧
        CompAt t H'' x pa qa s ∧ WF s ∧ RowI H'' tl out ∧ tl ≠ x ∧ tl ≠ pa ∧ tl ≠ qa ∧ Same H H'' ∧ H pa = none ∧ H qa = none ∧ out ++ play s cs = PyUw08.answers ns ∧ out.length + Uw08Neutral.many s cs + cs.length ≤ 1000040 ∧ Uw08Neutral.many s cs ≤ 1000000 ∧ CompN (fun c => c ≠ tl) H'' x pa, fun σ' H'' h => h, ?_⟩
      have epl : ((pre ++ [0]).length : Int) = ((pre.length : Nat) : Int) + 1 := by rw [List.length_append]; simp
      have ens : ns = (pre ++ [0]) ++ (c.length : Int) :: (c ++ r) := by rw [hns, List.append_assoc]; rfl
      rw [play_cons hy] at hout
      rw [many_cons hy, List.length_cons] at hsz
      rw [many_cons hy] at hmn
      refine ⟨_, rfl, .inl ⟨rfl, _, SqL.of htl'⟩, _, rfl, _, rfl, _, rfl, _, _, rfl, rfl, a, pre ++ [0], c, r, by rw [epl]; rfl, by rw [← ens]; exact hS', fun H2 rc S2 hR nr => ?_⟩
      refine ⟨x, pa, qa, rc, s, l, y, rfl, hC.same S2, wf, by rw [hl] at hR; exact hR, said, fun H3 ra pa' qa' hC3 hra keep hp hq hNN => ?_⟩
      have htl3 : RowI H3 tl out := keep _ _ (S2 _ _ htl') n1 n2 n3
      refine ⟨ra, _, rfl, hra, by omega, fun H4 rw4 S4 hrw _ => ⟨tl, rw4, _, _, rfl, rfl, S4 _ _ htl3, hrw, by rw [List.length_map, List.length_map, List.length_cons]; omega, ?_⟩⟩
      have npa' : H pa' = none := by
        rcases hp with e | e
        · rw [e]; exact m1
        · exact (S.trans S2).free e
      have nqa' : H qa' = none := by
        rcases hq with e | e
        · rw [e]; exact m2
        · exact (S.trans S2).free e
      have nx0 : H x = none := nx
      have S3 : Same H H3 := fun b o e => keep b o (S2 _ _ (S _ _ e)) (ne_of_none e nx0) (ne_of_none e m1) (ne_of_none e m2)
      have ntl : H tl = none := S1.free htl
      have S5 : Same H (upd H4 tl (.lst (out.map V.int ++ (((Uw08Neutral.out (Uw08.step s y).2).length : Int) :: Uw08Neutral.out (Uw08.step s y).2).map V.int))) := fun b o e => by rw [upd_ne (ne_of_none e ntl)]; exact S4 _ _ (S3 _ _ e)
      have n2' : tl ≠ pa' := by
        rcases hp with e | e
        · rw [e]; exact n2
        · exact ne_of_none (S2 _ _ htl') e
      have n3' : tl ≠ qa' := by
        rcases hq with e | e
        · rw [e]; exact n3
        · exact ne_of_none (S2 _ _ htl') e
      have hN3 : CompN (fun c => c ≠ tl) H3 x pa' := hNN _ (hcn.same S2) fun c hc => (ne_of_none (S2 _ _ htl') hc).symm
      have hC5 := CompAt.put (out.map V.int ++ (((Uw08Neutral.out (Uw08.step s y).2).length : Int) :: Uw08Neutral.out (Uw08.step s y).2).map V.int) (hC3.same S4) (hN3.same S4) (S4 _ _ htl3) n2' n3'
      have hN5 : CompN (fun c => c ≠ tl) (upd H4 tl (.lst (out.map V.int ++ (((Uw08Neutral.out (Uw08.step s y).2).length : Int) :: Uw08Neutral.out (Uw08.step s y).2).map V.int))) x pa' := by
        obtain ⟨⟨C', d', fs', ca', w1, w2, w3⟩, as', w4, w5⟩ := hN3.same S4
        have h4 := S4 _ _ htl3
        refine ⟨⟨C', d', fs', ca', by rw [upd_ne (ne_of w1 h4 (by intro z; cases z))]; exact w1, w2, w3⟩, as', by rw [upd_ne n2'.symm]; exact w4, fun z hz => ?_⟩
        obtain ⟨C'', d'', fs'', br, v1, v2, v3⟩ := w5 z hz
        exact ⟨C'', d'', fs'', br, by rw [upd_ne (ne_of v1 h4 (by intro u; cases u))]; exact v1, v2, v3⟩
      have eat : (ns.map V.int)[pre.length + 1]? = some (V.int (c.length : Int)) := by
        rw [ens, List.getElem?_map, List.getElem?_append_right (by rw [List.length_append]; simp), List.length_append]
        simp
      refine ⟨_, rfl, _, rfl, _, rfl, _, _, rfl, rfl, a, _, _, _, rfl, rfl, S5.seq hS, at_of (j := pre.length + 1) (by omega) eat, _, _, rfl, rfl, _, _, rfl, rfl, r.length, ?_, (Uw08.step s y).1, pa', qa', pre ++ 0 :: (c.length : Int) :: c, r, out ++ (((Uw08Neutral.out (Uw08.step s y).2).length : Int) :: Uw08Neutral.out (Uw08.step s y).2), cs, rfl, ?_, ?_, hL, fun d hd => hcs d (List.mem_cons_of_mem _ hd), hC5, wf_step wf y, ?_, n1, n2', n3', S5, npa', nqa', ?_, ?_, by omega, hN5⟩
      · rw [List.length_cons, List.length_cons, List.length_append]; omega
      · have q : (((pre.length : Nat)) : Int) + (2 + ((c.length : Nat) : Int)) = (((pre ++ 0 :: (c.length : Int) :: c).length : Nat) : Int) := by
          rw [List.length_append, List.length_cons, List.length_cons]; omega
        show [_, _, _, some (V.int _)] = [_, _, _, some (V.int _)]
        rw [← q]
      · rw [hns, List.append_assoc]; rfl
      · show upd _ tl _ tl = _
        rw [upd_same, List.map_append]
      · rw [← hout, List.append_assoc]; rfl
      · rw [List.length_append, List.length_cons]; omega
end
end Ps
end
section
set_option Elab.async false
set_option linter.all false
set_option maxRecDepth 100000
set_option maxHeartbeats 4000000
namespace Ps
open PySem PySem.Spec PyProof.Rows L2
@[elab_as_elim] theorem el1 {α : Type} {C : List α → Prop} (us : List α) (hl : us.length = 1) (h : ∀ a1, C [a1]) : C us := by
  cases us with
  | nil => cases hl
  | cons a us => exact (List.length_eq_zero_iff.mp (Nat.succ.inj hl)) ▸ h a
@[elab_as_elim] theorem el2 {α : Type} {C : List α → Prop} (us : List α) (hl : us.length = 2) (h : ∀ a1 a2, C [a1, a2]) : C us := by
  cases us with
  | nil => cases hl
  | cons a us => exact @el1 _ (fun l => C (a :: l)) us (Nat.succ.inj hl) (h a)
@[elab_as_elim] theorem el3 {α : Type} {C : List α → Prop} (us : List α) (hl : us.length = 3) (h : ∀ a1 a2 a3, C [a1, a2, a3]) : C us := by
  cases us with
  | nil => cases hl
  | cons a us => exact @el2 _ (fun l => C (a :: l)) us (Nat.succ.inj hl) (h a)
@[elab_as_elim] theorem el4 {α : Type} {C : List α → Prop} (us : List α) (hl : us.length = 4) (h : ∀ a1 a2 a3 a4, C [a1, a2, a3, a4]) : C us := by
  cases us with
  | nil => cases hl
  | cons a us => exact @el3 _ (fun l => C (a :: l)) us (Nat.succ.inj hl) (h a)
@[elab_as_elim] theorem el5 {α : Type} {C : List α → Prop} (us : List α) (hl : us.length = 5) (h : ∀ a1 a2 a3 a4 a5, C [a1, a2, a3, a4, a5]) : C us := by
  cases us with
  | nil => cases hl
  | cons a us => exact @el4 _ (fun l => C (a :: l)) us (Nat.succ.inj hl) (h a)
@[elab_as_elim] theorem el6 {α : Type} {C : List α → Prop} (us : List α) (hl : us.length = 6) (h : ∀ a1 a2 a3 a4 a5 a6, C [a1, a2, a3, a4, a5, a6]) : C us := by
  cases us with
  | nil => cases hl
  | cons a us => exact @el5 _ (fun l => C (a :: l)) us (Nat.succ.inj hl) (h a)
@[elab_as_elim] theorem el7 {α : Type} {C : List α → Prop} (us : List α) (hl : us.length = 7) (h : ∀ a1 a2 a3 a4 a5 a6 a7, C [a1, a2, a3, a4, a5, a6, a7]) : C us := by
  cases us with
  | nil => cases hl
  | cons a us => exact @el6 _ (fun l => C (a :: l)) us (Nat.succ.inj hl) (h a)
theorem txt_mk {K : PySem.W.Frag} {h : Heap} {mg : Str → Option Value} (X : K.In h) (G : h.Ns mainGlobals mg)
    {CPlay IPlay : Addr} {odPlay anPlay : Option Addr} {slPlay : Array (Option Value)} {ocPlay kVPlay dcPlay pmPlay cdPlay ctPlay : Value}
    {CCompany ICompany : Addr} {odCompany anCompany : Option Addr} {slCompany : Array (Option Value)} {ocCompany kVCompany dcCompany pmCompany cdCompany ctCompany : Value}
    {CStanding IStanding : Addr} {odStanding anStanding : Option Addr} {slStanding : Array (Option Value)} {ocStanding kVStanding dcStanding pmStanding cdStanding ctStanding : Value}
    {tk_NOT_AS_TOLD : Tok}
    {tk_NO_ROOM : Tok}
    {tk_NO_RIGHT_PLAN : Tok}
    {tk_MOST_NIGHTS : Tok}
    {tk_MOST_OF_A_HUNDRED : Tok}
    {tk_MOST_MONEY : Tok}
    {tk_MOST_PLAYS : Tok}
    {tk_MOST_OF_A_PLAY : Tok}
    {tk_MOST_BRINGS : Tok}
    {tk_MOST_SHARERS : Tok}
    {tk_MOST_PARTS : Tok}
    {tk_MOST_WEEKS : Tok}
    {tk_RUNS_THOUGH_IT_MAY_NOT : Tok}
    {tk_TOO_SELDOM : Tok}
    {tk_TOO_OFTEN : Tok}
    {tk_BEGINS : Tok}
    {tk_PLAY : Tok}
    {tk_JOIN : Tok}
    {tk_BEST : Tok}
    {tk_PLAIN : Tok}
    {tk_CHECK : Tok}
    {f_opening : Addr} {od_opening an_opening : Option Addr} {sl_opening : Array (Option Value)} {oc_opening kV_opening dc_opening pm_opening cd_opening ct_opening : Value}
    {f_wrong_with : Addr} {od_wrong_with an_wrong_with : Option Addr} {sl_wrong_with : Array (Option Value)} {oc_wrong_with kV_wrong_with dc_wrong_with pm_wrong_with cd_wrong_with ct_wrong_with : Value}
    {f_all_bills : Addr} {od_all_bills an_all_bills : Option Addr} {sl_all_bills : Array (Option Value)} {oc_all_bills kV_all_bills dc_all_bills pm_all_bills cd_all_bills ct_all_bills : Value}
    {f_right_bills : Addr} {od_right_bills an_right_bills : Option Addr} {sl_right_bills : Array (Option Value)} {oc_right_bills kV_right_bills dc_right_bills pm_right_bills cd_right_bills ct_right_bills : Value}
    {f_work_of : Addr} {od_work_of an_work_of : Option Addr} {sl_work_of : Array (Option Value)} {oc_work_of kV_work_of dc_work_of pm_work_of cd_work_of ct_work_of : Value}
    {f_given_behind : Addr} {od_given_behind an_given_behind : Option Addr} {sl_given_behind : Array (Option Value)} {oc_given_behind kV_given_behind dc_given_behind pm_given_behind cd_given_behind ct_given_behind : Value}
    {f_taken_by : Addr} {od_taken_by an_taken_by : Option Addr} {sl_taken_by : Array (Option Value)} {oc_taken_by kV_taken_by dc_taken_by pm_taken_by cd_taken_by ct_taken_by : Value}
    {f_leaves : Addr} {od_leaves an_leaves : Option Addr} {sl_leaves : Array (Option Value)} {oc_leaves kV_leaves dc_leaves pm_leaves cd_leaves ct_leaves : Value}
    {f_settle : Addr} {od_settle an_settle : Option Addr} {sl_settle : Array (Option Value)} {oc_settle kV_settle dc_settle pm_settle cd_settle ct_settle : Value}
    {f_behind_week : Addr} {od_behind_week an_behind_week : Option Addr} {sl_behind_week : Array (Option Value)} {oc_behind_week kV_behind_week dc_behind_week pm_behind_week cd_behind_week ct_behind_week : Value}
    {f_behind_plan : Addr} {od_behind_plan an_behind_plan : Option Addr} {sl_behind_plan : Array (Option Value)} {oc_behind_plan kV_behind_plan dc_behind_plan pm_behind_plan cd_behind_plan ct_behind_plan : Value}
    {f_behind_all_plans : Addr} {od_behind_all_plans an_behind_all_plans : Option Addr} {sl_behind_all_plans : Array (Option Value)} {oc_behind_all_plans kV_behind_all_plans dc_behind_all_plans pm_behind_all_plans cd_behind_all_plans ct_behind_all_plans : Value}
    {f_bill_that_leaves_most : Addr} {od_bill_that_leaves_most an_bill_that_leaves_most : Option Addr} {sl_bill_that_leaves_most : Array (Option Value)} {oc_bill_that_leaves_most kV_bill_that_leaves_most dc_bill_that_leaves_most pm_bill_that_leaves_most cd_bill_that_leaves_most ct_bill_that_leaves_most : Value}
    {f_most_owed : Addr} {od_most_owed an_most_owed : Option Addr} {sl_most_owed : Array (Option Value)} {oc_most_owed kV_most_owed dc_most_owed pm_most_owed cd_most_owed ct_most_owed : Value}
    {f_paid_behind : Addr} {od_paid_behind an_paid_behind : Option Addr} {sl_paid_behind : Array (Option Value)} {oc_paid_behind kV_paid_behind dc_paid_behind pm_paid_behind cd_paid_behind ct_paid_behind : Value}
    {f_with_length : Addr} {od_with_length an_with_length : Option Addr} {sl_with_length : Array (Option Value)} {oc_with_length kV_with_length dc_with_length pm_with_length cd_with_length ct_with_length : Value}
    {f_told_of_weeks : Addr} {od_told_of_weeks an_told_of_weeks : Option Addr} {sl_told_of_weeks : Array (Option Value)} {oc_told_of_weeks kV_told_of_weeks dc_told_of_weeks pm_told_of_weeks cd_told_of_weeks ct_told_of_weeks : Value}
    {f_begins_as_told : Addr} {od_begins_as_told an_begins_as_told : Option Addr} {sl_begins_as_told : Array (Option Value)} {oc_begins_as_told kV_begins_as_told dc_begins_as_told pm_begins_as_told cd_begins_as_told ct_begins_as_told : Value}
    {f_begin_season : Addr} {od_begin_season an_begin_season : Option Addr} {sl_begin_season : Array (Option Value)} {oc_begin_season kV_begin_season dc_begin_season pm_begin_season cd_begin_season ct_begin_season : Value}
    {f_play_as_told : Addr} {od_play_as_told an_play_as_told : Option Addr} {sl_play_as_told : Array (Option Value)} {oc_play_as_told kV_play_as_told dc_play_as_told pm_play_as_told cd_play_as_told ct_play_as_told : Value}
    {f_add_play : Addr} {od_add_play an_add_play : Option Addr} {sl_add_play : Array (Option Value)} {oc_add_play kV_add_play dc_add_play pm_add_play cd_add_play ct_add_play : Value}
    {f_join_company : Addr} {od_join_company an_join_company : Option Addr} {sl_join_company : Array (Option Value)} {oc_join_company kV_join_company dc_join_company pm_join_company cd_join_company ct_join_company : Value}
    {f_refusal_of_weeks : Addr} {od_refusal_of_weeks an_refusal_of_weeks : Option Addr} {sl_refusal_of_weeks : Array (Option Value)} {oc_refusal_of_weeks kV_refusal_of_weeks dc_refusal_of_weeks pm_refusal_of_weeks cd_refusal_of_weeks ct_refusal_of_weeks : Value}
    {f_best_plan : Addr} {od_best_plan an_best_plan : Option Addr} {sl_best_plan : Array (Option Value)} {oc_best_plan kV_best_plan dc_best_plan pm_best_plan cd_best_plan ct_best_plan : Value}
    {f_plain_plan : Addr} {od_plain_plan an_plain_plan : Option Addr} {sl_plain_plan : Array (Option Value)} {oc_plain_plan kV_plain_plan dc_plain_plan pm_plain_plan cd_plain_plan ct_plain_plan : Value}
    {f_plan_as_told : Addr} {od_plan_as_told an_plan_as_told : Option Addr} {sl_plan_as_told : Array (Option Value)} {oc_plan_as_told kV_plan_as_told dc_plan_as_told pm_plan_as_told cd_plan_as_told ct_plan_as_told : Value}
    {f_check_plan : Addr} {od_check_plan an_check_plan : Option Addr} {sl_check_plan : Array (Option Value)} {oc_check_plan kV_check_plan dc_check_plan pm_check_plan cd_check_plan ct_check_plan : Value}
    {f_put_into_fund : Addr} {od_put_into_fund an_put_into_fund : Option Addr} {sl_put_into_fund : Array (Option Value)} {oc_put_into_fund kV_put_into_fund dc_put_into_fund pm_put_into_fund cd_put_into_fund ct_put_into_fund : Value}
    {f_row_at : Addr} {od_row_at an_row_at : Option Addr} {sl_row_at : Array (Option Value)} {oc_row_at kV_row_at dc_row_at pm_row_at cd_row_at ct_row_at : Value}
    {f_plan_in : Addr} {od_plan_in an_plan_in : Option Addr} {sl_plan_in : Array (Option Value)} {oc_plan_in kV_plan_in dc_plan_in pm_plan_in cd_plan_in ct_plan_in : Value}
    {f_answer : Addr} {od_answer an_answer : Option Addr} {sl_answer : Array (Option Value)} {oc_answer kV_answer dc_answer pm_answer cd_answer ct_answer : Value}
    {f_answers : Addr} {od_answers an_answers : Option Addr} {sl_answers : Array (Option Value)} {oc_answers kV_answers dc_answers pm_answers cd_answers ct_answers : Value}
    (aCPlay : PySem.W.nsIn K mainGlobals "Play" = some (some (.ref CPlay)))
    (aPlay : PySem.W.findIn K (.ref CPlay) "__init__" = some (some (.ref IPlay)))
    (iPlay : PySem.W.isFn K (.ref IPlay) = true)
    (lPlay : K.lookup IPlay = some ⟨ocPlay, odPlay, .func (PySem.W.fnOf "__init__" "Play.__init__" (defArgs sPlayInit) (defBody sPlayInit) (defScope sPlayInit) .none kVPlay dcPlay pmPlay anPlay cdPlay ctPlay), slPlay⟩)
    (cPlay : PySem.W.codeIn K cdPlay "Play.__init__" = true)
    (kPlay : PySem.W.keepIn K (.ref IPlay) = true)
    (pgPlay : PySem.W.plainGet K CPlay Str.empty = true)
    (hdPlay : PySem.W.hasDictIn K CPlay = true)
    (poPlay : PySem.W.plainOver K CPlay = true)
    (saPlay : PySem.W.findIn K (.ref CPlay) "__setattr__" = some (some (.builtin "object.__setattr__")))
    (mkPlay : PySem.W.makesIn K CPlay = true)
    (kcPlay : PySem.W.keepIn K (.ref CPlay) = true)
    (nPlay_setting : PySem.W.findIn K (.ref CPlay) "setting" = some none)
    (nPlay_striking : PySem.W.findIn K (.ref CPlay) "striking" = some none)
    (nPlay_may_run : PySem.W.findIn K (.ref CPlay) "may_run" = some none)
    (nPlay_least : PySem.W.findIn K (.ref CPlay) "least" = some none)
    (nPlay_most : PySem.W.findIn K (.ref CPlay) "most" = some none)
    (nPlay_brings : PySem.W.findIn K (.ref CPlay) "brings" = some none)
    (aCCompany : PySem.W.nsIn K mainGlobals "Company" = some (some (.ref CCompany)))
    (aCompany : PySem.W.findIn K (.ref CCompany) "__init__" = some (some (.ref ICompany)))
    (iCompany : PySem.W.isFn K (.ref ICompany) = true)
    (lCompany : K.lookup ICompany = some ⟨ocCompany, odCompany, .func (PySem.W.fnOf "__init__" "Company.__init__" (defArgs sCompanyInit) (defBody sCompanyInit) (defScope sCompanyInit) .none kVCompany dcCompany pmCompany anCompany cdCompany ctCompany), slCompany⟩)
    (cCompany : PySem.W.codeIn K cdCompany "Company.__init__" = true)
    (kCompany : PySem.W.keepIn K (.ref ICompany) = true)
    (pgCompany : PySem.W.plainGet K CCompany Str.empty = true)
    (hdCompany : PySem.W.hasDictIn K CCompany = true)
    (poCompany : PySem.W.plainOver K CCompany = true)
    (saCompany : PySem.W.findIn K (.ref CCompany) "__setattr__" = some (some (.builtin "object.__setattr__")))
    (mkCompany : PySem.W.makesIn K CCompany = true)
    (kcCompany : PySem.W.keepIn K (.ref CCompany) = true)
    (nCompany_costs : PySem.W.findIn K (.ref CCompany) "costs" = some none)
    (nCompany_fund_limit : PySem.W.findIn K (.ref CCompany) "fund_limit" = some none)
    (nCompany_wages : PySem.W.findIn K (.ref CCompany) "wages" = some none)
    (nCompany_crowds : PySem.W.findIn K (.ref CCompany) "crowds" = some none)
    (nCompany_fund : PySem.W.findIn K (.ref CCompany) "fund" = some none)
    (nCompany_plays : PySem.W.findIn K (.ref CCompany) "plays" = some none)
    (nCompany_parts : PySem.W.findIn K (.ref CCompany) "parts" = some none)
    (aCStanding : PySem.W.nsIn K mainGlobals "Standing" = some (some (.ref CStanding)))
    (aStanding : PySem.W.findIn K (.ref CStanding) "__init__" = some (some (.ref IStanding)))
    (iStanding : PySem.W.isFn K (.ref IStanding) = true)
    (lStanding : K.lookup IStanding = some ⟨ocStanding, odStanding, .func (PySem.W.fnOf "__init__" "Standing.__init__" (defArgs sStandingInit) (defBody sStandingInit) (defScope sStandingInit) .none kVStanding dcStanding pmStanding anStanding cdStanding ctStanding), slStanding⟩)
    (cStanding : PySem.W.codeIn K cdStanding "Standing.__init__" = true)
    (kStanding : PySem.W.keepIn K (.ref IStanding) = true)
    (pgStanding : PySem.W.plainGet K CStanding Str.empty = true)
    (hdStanding : PySem.W.hasDictIn K CStanding = true)
    (poStanding : PySem.W.plainOver K CStanding = true)
    (saStanding : PySem.W.findIn K (.ref CStanding) "__setattr__" = some (some (.builtin "object.__setattr__")))
    (mkStanding : PySem.W.makesIn K CStanding = true)
    (kcStanding : PySem.W.keepIn K (.ref CStanding) = true)
    (nStanding_given : PySem.W.findIn K (.ref CStanding) "given" = some none)
    (nStanding_fund : PySem.W.findIn K (.ref CStanding) "fund" = some none)
    (nStanding_debt : PySem.W.findIn K (.ref CStanding) "debt" = some none)
    (nStanding_bills : PySem.W.findIn K (.ref CStanding) "bills" = some none)
    (nStanding_payouts : PySem.W.findIn K (.ref CStanding) "payouts" = some none)
    (k_NOT_AS_TOLD : PySem.W.nsIn K mainGlobals "NOT_AS_TOLD" = some (some (Value.int (-1) tk_NOT_AS_TOLD)))
    (k_NO_ROOM : PySem.W.nsIn K mainGlobals "NO_ROOM" = some (some (Value.int (-5) tk_NO_ROOM)))
    (k_NO_RIGHT_PLAN : PySem.W.nsIn K mainGlobals "NO_RIGHT_PLAN" = some (some (Value.int (-6) tk_NO_RIGHT_PLAN)))
    (k_MOST_NIGHTS : PySem.W.nsIn K mainGlobals "MOST_NIGHTS" = some (some (Value.int (2) tk_MOST_NIGHTS)))
    (k_MOST_OF_A_HUNDRED : PySem.W.nsIn K mainGlobals "MOST_OF_A_HUNDRED" = some (some (Value.int (300) tk_MOST_OF_A_HUNDRED)))
    (k_MOST_MONEY : PySem.W.nsIn K mainGlobals "MOST_MONEY" = some (some (Value.int (1000) tk_MOST_MONEY)))
    (k_MOST_PLAYS : PySem.W.nsIn K mainGlobals "MOST_PLAYS" = some (some (Value.int (3) tk_MOST_PLAYS)))
    (k_MOST_OF_A_PLAY : PySem.W.nsIn K mainGlobals "MOST_OF_A_PLAY" = some (some (Value.int (100) tk_MOST_OF_A_PLAY)))
    (k_MOST_BRINGS : PySem.W.nsIn K mainGlobals "MOST_BRINGS" = some (some (Value.int (6) tk_MOST_BRINGS)))
    (k_MOST_SHARERS : PySem.W.nsIn K mainGlobals "MOST_SHARERS" = some (some (Value.int (5) tk_MOST_SHARERS)))
    (k_MOST_PARTS : PySem.W.nsIn K mainGlobals "MOST_PARTS" = some (some (Value.int (24) tk_MOST_PARTS)))
    (k_MOST_WEEKS : PySem.W.nsIn K mainGlobals "MOST_WEEKS" = some (some (Value.int (3) tk_MOST_WEEKS)))
    (k_RUNS_THOUGH_IT_MAY_NOT : PySem.W.nsIn K mainGlobals "RUNS_THOUGH_IT_MAY_NOT" = some (some (Value.int (1) tk_RUNS_THOUGH_IT_MAY_NOT)))
    (k_TOO_SELDOM : PySem.W.nsIn K mainGlobals "TOO_SELDOM" = some (some (Value.int (2) tk_TOO_SELDOM)))
    (k_TOO_OFTEN : PySem.W.nsIn K mainGlobals "TOO_OFTEN" = some (some (Value.int (3) tk_TOO_OFTEN)))
    (k_BEGINS : PySem.W.nsIn K mainGlobals "BEGINS" = some (some (Value.int (0) tk_BEGINS)))
    (k_PLAY : PySem.W.nsIn K mainGlobals "PLAY" = some (some (Value.int (1) tk_PLAY)))
    (k_JOIN : PySem.W.nsIn K mainGlobals "JOIN" = some (some (Value.int (2) tk_JOIN)))
    (k_BEST : PySem.W.nsIn K mainGlobals "BEST" = some (some (Value.int (3) tk_BEST)))
    (k_PLAIN : PySem.W.nsIn K mainGlobals "PLAIN" = some (some (Value.int (4) tk_PLAIN)))
    (k_CHECK : PySem.W.nsIn K mainGlobals "CHECK" = some (some (Value.int (5) tk_CHECK)))
    (z_len : PySem.W.nsIn K mainGlobals "len" = some none)
    (z_range : PySem.W.nsIn K mainGlobals "range" = some none)
    (z_max : PySem.W.nsIn K mainGlobals "max" = some none)
    (z_min : PySem.W.nsIn K mainGlobals "min" = some none)
    (z_sum : PySem.W.nsIn K mainGlobals "sum" = some none)
    (z_list : PySem.W.nsIn K mainGlobals "list" = some none)
    (z_zip : PySem.W.nsIn K mainGlobals "zip" = some none)
    (z_enumerate : PySem.W.nsIn K mainGlobals "enumerate" = some none)
    (a_opening : PySem.W.nsIn K mainGlobals "opening" = some (some (.ref f_opening)))
    (l_opening : K.lookup f_opening = some ⟨oc_opening, od_opening, .func (PySem.W.fnOf "opening" "opening" (defArgs s_opening) (defBody s_opening) (defScope s_opening) .none kV_opening dc_opening pm_opening an_opening cd_opening ct_opening), sl_opening⟩)
    (c_opening : PySem.W.codeIn K cd_opening "opening" = true)
    (k__opening : PySem.W.keepIn K (.ref f_opening) = true)
    (a_wrong_with : PySem.W.nsIn K mainGlobals "wrong_with" = some (some (.ref f_wrong_with)))
    (l_wrong_with : K.lookup f_wrong_with = some ⟨oc_wrong_with, od_wrong_with, .func (PySem.W.fnOf "wrong_with" "wrong_with" (defArgs s_wrong_with) (defBody s_wrong_with) (defScope s_wrong_with) .none kV_wrong_with dc_wrong_with pm_wrong_with an_wrong_with cd_wrong_with ct_wrong_with), sl_wrong_with⟩)
    (c_wrong_with : PySem.W.codeIn K cd_wrong_with "wrong_with" = true)
    (k__wrong_with : PySem.W.keepIn K (.ref f_wrong_with) = true)
    (a_all_bills : PySem.W.nsIn K mainGlobals "all_bills" = some (some (.ref f_all_bills)))
    (l_all_bills : K.lookup f_all_bills = some ⟨oc_all_bills, od_all_bills, .func (PySem.W.fnOf "all_bills" "all_bills" (defArgs s_all_bills) (defBody s_all_bills) (defScope s_all_bills) .none kV_all_bills dc_all_bills pm_all_bills an_all_bills cd_all_bills ct_all_bills), sl_all_bills⟩)
    (c_all_bills : PySem.W.codeIn K cd_all_bills "all_bills" = true)
    (k__all_bills : PySem.W.keepIn K (.ref f_all_bills) = true)
    (a_right_bills : PySem.W.nsIn K mainGlobals "right_bills" = some (some (.ref f_right_bills)))
    (l_right_bills : K.lookup f_right_bills = some ⟨oc_right_bills, od_right_bills, .func (PySem.W.fnOf "right_bills" "right_bills" (defArgs s_right_bills) (defBody s_right_bills) (defScope s_right_bills) .none kV_right_bills dc_right_bills pm_right_bills an_right_bills cd_right_bills ct_right_bills), sl_right_bills⟩)
    (c_right_bills : PySem.W.codeIn K cd_right_bills "right_bills" = true)
    (k__right_bills : PySem.W.keepIn K (.ref f_right_bills) = true)
    (a_work_of : PySem.W.nsIn K mainGlobals "work_of" = some (some (.ref f_work_of)))
    (l_work_of : K.lookup f_work_of = some ⟨oc_work_of, od_work_of, .func (PySem.W.fnOf "work_of" "work_of" (defArgs s_work_of) (defBody s_work_of) (defScope s_work_of) .none kV_work_of dc_work_of pm_work_of an_work_of cd_work_of ct_work_of), sl_work_of⟩)
    (c_work_of : PySem.W.codeIn K cd_work_of "work_of" = true)
    (k__work_of : PySem.W.keepIn K (.ref f_work_of) = true)
    (a_given_behind : PySem.W.nsIn K mainGlobals "given_behind" = some (some (.ref f_given_behind)))
    (l_given_behind : K.lookup f_given_behind = some ⟨oc_given_behind, od_given_behind, .func (PySem.W.fnOf "given_behind" "given_behind" (defArgs s_given_behind) (defBody s_given_behind) (defScope s_given_behind) .none kV_given_behind dc_given_behind pm_given_behind an_given_behind cd_given_behind ct_given_behind), sl_given_behind⟩)
    (c_given_behind : PySem.W.codeIn K cd_given_behind "given_behind" = true)
    (k__given_behind : PySem.W.keepIn K (.ref f_given_behind) = true)
    (a_taken_by : PySem.W.nsIn K mainGlobals "taken_by" = some (some (.ref f_taken_by)))
    (l_taken_by : K.lookup f_taken_by = some ⟨oc_taken_by, od_taken_by, .func (PySem.W.fnOf "taken_by" "taken_by" (defArgs s_taken_by) (defBody s_taken_by) (defScope s_taken_by) .none kV_taken_by dc_taken_by pm_taken_by an_taken_by cd_taken_by ct_taken_by), sl_taken_by⟩)
    (c_taken_by : PySem.W.codeIn K cd_taken_by "taken_by" = true)
    (k__taken_by : PySem.W.keepIn K (.ref f_taken_by) = true)
    (a_leaves : PySem.W.nsIn K mainGlobals "leaves" = some (some (.ref f_leaves)))
    (l_leaves : K.lookup f_leaves = some ⟨oc_leaves, od_leaves, .func (PySem.W.fnOf "leaves" "leaves" (defArgs s_leaves) (defBody s_leaves) (defScope s_leaves) .none kV_leaves dc_leaves pm_leaves an_leaves cd_leaves ct_leaves), sl_leaves⟩)
    (c_leaves : PySem.W.codeIn K cd_leaves "leaves" = true)
    (k__leaves : PySem.W.keepIn K (.ref f_leaves) = true)
    (a_settle : PySem.W.nsIn K mainGlobals "settle" = some (some (.ref f_settle)))
    (l_settle : K.lookup f_settle = some ⟨oc_settle, od_settle, .func (PySem.W.fnOf "settle" "settle" (defArgs s_settle) (defBody s_settle) (defScope s_settle) .none kV_settle dc_settle pm_settle an_settle cd_settle ct_settle), sl_settle⟩)
    (c_settle : PySem.W.codeIn K cd_settle "settle" = true)
    (k__settle : PySem.W.keepIn K (.ref f_settle) = true)
    (a_behind_week : PySem.W.nsIn K mainGlobals "behind_week" = some (some (.ref f_behind_week)))
    (l_behind_week : K.lookup f_behind_week = some ⟨oc_behind_week, od_behind_week, .func (PySem.W.fnOf "behind_week" "behind_week" (defArgs s_behind_week) (defBody s_behind_week) (defScope s_behind_week) .none kV_behind_week dc_behind_week pm_behind_week an_behind_week cd_behind_week ct_behind_week), sl_behind_week⟩)
    (c_behind_week : PySem.W.codeIn K cd_behind_week "behind_week" = true)
    (k__behind_week : PySem.W.keepIn K (.ref f_behind_week) = true)
    (a_behind_plan : PySem.W.nsIn K mainGlobals "behind_plan" = some (some (.ref f_behind_plan)))
    (l_behind_plan : K.lookup f_behind_plan = some ⟨oc_behind_plan, od_behind_plan, .func (PySem.W.fnOf "behind_plan" "behind_plan" (defArgs s_behind_plan) (defBody s_behind_plan) (defScope s_behind_plan) .none kV_behind_plan dc_behind_plan pm_behind_plan an_behind_plan cd_behind_plan ct_behind_plan), sl_behind_plan⟩)
    (c_behind_plan : PySem.W.codeIn K cd_behind_plan "behind_plan" = true)
    (k__behind_plan : PySem.W.keepIn K (.ref f_behind_plan) = true)
    (a_behind_all_plans : PySem.W.nsIn K mainGlobals "behind_all_plans" = some (some (.ref f_behind_all_plans)))
    (l_behind_all_plans : K.lookup f_behind_all_plans = some ⟨oc_behind_all_plans, od_behind_all_plans, .func (PySem.W.fnOf "behind_all_plans" "behind_all_plans" (defArgs s_behind_all_plans) (defBody s_behind_all_plans) (defScope s_behind_all_plans) .none kV_behind_all_plans dc_behind_all_plans pm_behind_all_plans an_behind_all_plans cd_behind_all_plans ct_behind_all_plans), sl_behind_all_plans⟩)
    (c_behind_all_plans : PySem.W.codeIn K cd_behind_all_plans "behind_all_plans" = true)
    (k__behind_all_plans : PySem.W.keepIn K (.ref f_behind_all_plans) = true)
    (a_bill_that_leaves_most : PySem.W.nsIn K mainGlobals "bill_that_leaves_most" = some (some (.ref f_bill_that_leaves_most)))
    (l_bill_that_leaves_most : K.lookup f_bill_that_leaves_most = some ⟨oc_bill_that_leaves_most, od_bill_that_leaves_most, .func (PySem.W.fnOf "bill_that_leaves_most" "bill_that_leaves_most" (defArgs s_bill_that_leaves_most) (defBody s_bill_that_leaves_most) (defScope s_bill_that_leaves_most) .none kV_bill_that_leaves_most dc_bill_that_leaves_most pm_bill_that_leaves_most an_bill_that_leaves_most cd_bill_that_leaves_most ct_bill_that_leaves_most), sl_bill_that_leaves_most⟩)
    (c_bill_that_leaves_most : PySem.W.codeIn K cd_bill_that_leaves_most "bill_that_leaves_most" = true)
    (k__bill_that_leaves_most : PySem.W.keepIn K (.ref f_bill_that_leaves_most) = true)
    (a_most_owed : PySem.W.nsIn K mainGlobals "most_owed" = some (some (.ref f_most_owed)))
    (l_most_owed : K.lookup f_most_owed = some ⟨oc_most_owed, od_most_owed, .func (PySem.W.fnOf "most_owed" "most_owed" (defArgs s_most_owed) (defBody s_most_owed) (defScope s_most_owed) .none kV_most_owed dc_most_owed pm_most_owed an_most_owed cd_most_owed ct_most_owed), sl_most_owed⟩)
    (c_most_owed : PySem.W.codeIn K cd_most_owed "most_owed" = true)
    (k__most_owed : PySem.W.keepIn K (.ref f_most_owed) = true)
    (a_paid_behind : PySem.W.nsIn K mainGlobals "paid_behind" = some (some (.ref f_paid_behind)))
    (l_paid_behind : K.lookup f_paid_behind = some ⟨oc_paid_behind, od_paid_behind, .func (PySem.W.fnOf "paid_behind" "paid_behind" (defArgs s_paid_behind) (defBody s_paid_behind) (defScope s_paid_behind) .none kV_paid_behind dc_paid_behind pm_paid_behind an_paid_behind cd_paid_behind ct_paid_behind), sl_paid_behind⟩)
    (c_paid_behind : PySem.W.codeIn K cd_paid_behind "paid_behind" = true)
    (k__paid_behind : PySem.W.keepIn K (.ref f_paid_behind) = true)
    (a_with_length : PySem.W.nsIn K mainGlobals "with_length" = some (some (.ref f_with_length)))
    (l_with_length : K.lookup f_with_length = some ⟨oc_with_length, od_with_length, .func (PySem.W.fnOf "with_length" "with_length" (defArgs s_with_length) (defBody s_with_length) (defScope s_with_length) .none kV_with_length dc_with_length pm_with_length an_with_length cd_with_length ct_with_length), sl_with_length⟩)
    (c_with_length : PySem.W.codeIn K cd_with_length "with_length" = true)
    (k__with_length : PySem.W.keepIn K (.ref f_with_length) = true)
    (a_told_of_weeks : PySem.W.nsIn K mainGlobals "told_of_weeks" = some (some (.ref f_told_of_weeks)))
    (l_told_of_weeks : K.lookup f_told_of_weeks = some ⟨oc_told_of_weeks, od_told_of_weeks, .func (PySem.W.fnOf "told_of_weeks" "told_of_weeks" (defArgs s_told_of_weeks) (defBody s_told_of_weeks) (defScope s_told_of_weeks) .none kV_told_of_weeks dc_told_of_weeks pm_told_of_weeks an_told_of_weeks cd_told_of_weeks ct_told_of_weeks), sl_told_of_weeks⟩)
    (c_told_of_weeks : PySem.W.codeIn K cd_told_of_weeks "told_of_weeks" = true)
    (k__told_of_weeks : PySem.W.keepIn K (.ref f_told_of_weeks) = true)
    (a_begins_as_told : PySem.W.nsIn K mainGlobals "begins_as_told" = some (some (.ref f_begins_as_told)))
    (l_begins_as_told : K.lookup f_begins_as_told = some ⟨oc_begins_as_told, od_begins_as_told, .func (PySem.W.fnOf "begins_as_told" "begins_as_told" (defArgs s_begins_as_told) (defBody s_begins_as_told) (defScope s_begins_as_told) .none kV_begins_as_told dc_begins_as_told pm_begins_as_told an_begins_as_told cd_begins_as_told ct_begins_as_told), sl_begins_as_told⟩)
    (c_begins_as_told : PySem.W.codeIn K cd_begins_as_told "begins_as_told" = true)
    (k__begins_as_told : PySem.W.keepIn K (.ref f_begins_as_told) = true)
    (a_begin_season : PySem.W.nsIn K mainGlobals "begin_season" = some (some (.ref f_begin_season)))
    (l_begin_season : K.lookup f_begin_season = some ⟨oc_begin_season, od_begin_season, .func (PySem.W.fnOf "begin_season" "begin_season" (defArgs s_begin_season) (defBody s_begin_season) (defScope s_begin_season) .none kV_begin_season dc_begin_season pm_begin_season an_begin_season cd_begin_season ct_begin_season), sl_begin_season⟩)
    (c_begin_season : PySem.W.codeIn K cd_begin_season "begin_season" = true)
    (k__begin_season : PySem.W.keepIn K (.ref f_begin_season) = true)
    (a_play_as_told : PySem.W.nsIn K mainGlobals "play_as_told" = some (some (.ref f_play_as_told)))
    (l_play_as_told : K.lookup f_play_as_told = some ⟨oc_play_as_told, od_play_as_told, .func (PySem.W.fnOf "play_as_told" "play_as_told" (defArgs s_play_as_told) (defBody s_play_as_told) (defScope s_play_as_told) .none kV_play_as_told dc_play_as_told pm_play_as_told an_play_as_told cd_play_as_told ct_play_as_told), sl_play_as_told⟩)
    (c_play_as_told : PySem.W.codeIn K cd_play_as_told "play_as_told" = true)
    (k__play_as_told : PySem.W.keepIn K (.ref f_play_as_told) = true)
    (a_add_play : PySem.W.nsIn K mainGlobals "add_play" = some (some (.ref f_add_play)))
    (l_add_play : K.lookup f_add_play = some ⟨oc_add_play, od_add_play, .func (PySem.W.fnOf "add_play" "add_play" (defArgs s_add_play) (defBody s_add_play) (defScope s_add_play) .none kV_add_play dc_add_play pm_add_play an_add_play cd_add_play ct_add_play), sl_add_play⟩)
    (c_add_play : PySem.W.codeIn K cd_add_play "add_play" = true)
    (k__add_play : PySem.W.keepIn K (.ref f_add_play) = true)
    (a_join_company : PySem.W.nsIn K mainGlobals "join_company" = some (some (.ref f_join_company)))
    (l_join_company : K.lookup f_join_company = some ⟨oc_join_company, od_join_company, .func (PySem.W.fnOf "join_company" "join_company" (defArgs s_join_company) (defBody s_join_company) (defScope s_join_company) .none kV_join_company dc_join_company pm_join_company an_join_company cd_join_company ct_join_company), sl_join_company⟩)
    (c_join_company : PySem.W.codeIn K cd_join_company "join_company" = true)
    (k__join_company : PySem.W.keepIn K (.ref f_join_company) = true)
    (a_refusal_of_weeks : PySem.W.nsIn K mainGlobals "refusal_of_weeks" = some (some (.ref f_refusal_of_weeks)))
    (l_refusal_of_weeks : K.lookup f_refusal_of_weeks = some ⟨oc_refusal_of_weeks, od_refusal_of_weeks, .func (PySem.W.fnOf "refusal_of_weeks" "refusal_of_weeks" (defArgs s_refusal_of_weeks) (defBody s_refusal_of_weeks) (defScope s_refusal_of_weeks) .none kV_refusal_of_weeks dc_refusal_of_weeks pm_refusal_of_weeks an_refusal_of_weeks cd_refusal_of_weeks ct_refusal_of_weeks), sl_refusal_of_weeks⟩)
    (c_refusal_of_weeks : PySem.W.codeIn K cd_refusal_of_weeks "refusal_of_weeks" = true)
    (k__refusal_of_weeks : PySem.W.keepIn K (.ref f_refusal_of_weeks) = true)
    (a_best_plan : PySem.W.nsIn K mainGlobals "best_plan" = some (some (.ref f_best_plan)))
    (l_best_plan : K.lookup f_best_plan = some ⟨oc_best_plan, od_best_plan, .func (PySem.W.fnOf "best_plan" "best_plan" (defArgs s_best_plan) (defBody s_best_plan) (defScope s_best_plan) .none kV_best_plan dc_best_plan pm_best_plan an_best_plan cd_best_plan ct_best_plan), sl_best_plan⟩)
    (c_best_plan : PySem.W.codeIn K cd_best_plan "best_plan" = true)
    (k__best_plan : PySem.W.keepIn K (.ref f_best_plan) = true)
    (a_plain_plan : PySem.W.nsIn K mainGlobals "plain_plan" = some (some (.ref f_plain_plan)))
    (l_plain_plan : K.lookup f_plain_plan = some ⟨oc_plain_plan, od_plain_plan, .func (PySem.W.fnOf "plain_plan" "plain_plan" (defArgs s_plain_plan) (defBody s_plain_plan) (defScope s_plain_plan) .none kV_plain_plan dc_plain_plan pm_plain_plan an_plain_plan cd_plain_plan ct_plain_plan), sl_plain_plan⟩)
    (c_plain_plan : PySem.W.codeIn K cd_plain_plan "plain_plan" = true)
    (k__plain_plan : PySem.W.keepIn K (.ref f_plain_plan) = true)
    (a_plan_as_told : PySem.W.nsIn K mainGlobals "plan_as_told" = some (some (.ref f_plan_as_told)))
    (l_plan_as_told : K.lookup f_plan_as_told = some ⟨oc_plan_as_told, od_plan_as_told, .func (PySem.W.fnOf "plan_as_told" "plan_as_told" (defArgs s_plan_as_told) (defBody s_plan_as_told) (defScope s_plan_as_told) .none kV_plan_as_told dc_plan_as_told pm_plan_as_told an_plan_as_told cd_plan_as_told ct_plan_as_told), sl_plan_as_told⟩)
    (c_plan_as_told : PySem.W.codeIn K cd_plan_as_told "plan_as_told" = true)
    (k__plan_as_told : PySem.W.keepIn K (.ref f_plan_as_told) = true)
    (a_check_plan : PySem.W.nsIn K mainGlobals "check_plan" = some (some (.ref f_check_plan)))
    (l_check_plan : K.lookup f_check_plan = some ⟨oc_check_plan, od_check_plan, .func (PySem.W.fnOf "check_plan" "check_plan" (defArgs s_check_plan) (defBody s_check_plan) (defScope s_check_plan) .none kV_check_plan dc_check_plan pm_check_plan an_check_plan cd_check_plan ct_check_plan), sl_check_plan⟩)
    (c_check_plan : PySem.W.codeIn K cd_check_plan "check_plan" = true)
    (k__check_plan : PySem.W.keepIn K (.ref f_check_plan) = true)
    (a_put_into_fund : PySem.W.nsIn K mainGlobals "put_into_fund" = some (some (.ref f_put_into_fund)))
    (l_put_into_fund : K.lookup f_put_into_fund = some ⟨oc_put_into_fund, od_put_into_fund, .func (PySem.W.fnOf "put_into_fund" "put_into_fund" (defArgs s_put_into_fund) (defBody s_put_into_fund) (defScope s_put_into_fund) .none kV_put_into_fund dc_put_into_fund pm_put_into_fund an_put_into_fund cd_put_into_fund ct_put_into_fund), sl_put_into_fund⟩)
    (c_put_into_fund : PySem.W.codeIn K cd_put_into_fund "put_into_fund" = true)
    (k__put_into_fund : PySem.W.keepIn K (.ref f_put_into_fund) = true)
    (a_row_at : PySem.W.nsIn K mainGlobals "row_at" = some (some (.ref f_row_at)))
    (l_row_at : K.lookup f_row_at = some ⟨oc_row_at, od_row_at, .func (PySem.W.fnOf "row_at" "row_at" (defArgs s_row_at) (defBody s_row_at) (defScope s_row_at) .none kV_row_at dc_row_at pm_row_at an_row_at cd_row_at ct_row_at), sl_row_at⟩)
    (c_row_at : PySem.W.codeIn K cd_row_at "row_at" = true)
    (k__row_at : PySem.W.keepIn K (.ref f_row_at) = true)
    (a_plan_in : PySem.W.nsIn K mainGlobals "plan_in" = some (some (.ref f_plan_in)))
    (l_plan_in : K.lookup f_plan_in = some ⟨oc_plan_in, od_plan_in, .func (PySem.W.fnOf "plan_in" "plan_in" (defArgs s_plan_in) (defBody s_plan_in) (defScope s_plan_in) .none kV_plan_in dc_plan_in pm_plan_in an_plan_in cd_plan_in ct_plan_in), sl_plan_in⟩)
    (c_plan_in : PySem.W.codeIn K cd_plan_in "plan_in" = true)
    (k__plan_in : PySem.W.keepIn K (.ref f_plan_in) = true)
    (a_answer : PySem.W.nsIn K mainGlobals "answer" = some (some (.ref f_answer)))
    (l_answer : K.lookup f_answer = some ⟨oc_answer, od_answer, .func (PySem.W.fnOf "answer" "answer" (defArgs s_answer) (defBody s_answer) (defScope s_answer) .none kV_answer dc_answer pm_answer an_answer cd_answer ct_answer), sl_answer⟩)
    (c_answer : PySem.W.codeIn K cd_answer "answer" = true)
    (k__answer : PySem.W.keepIn K (.ref f_answer) = true)
    (a_answers : PySem.W.nsIn K mainGlobals "answers" = some (some (.ref f_answers)))
    (l_answers : K.lookup f_answers = some ⟨oc_answers, od_answers, .func (PySem.W.fnOf "answers" "answers" (defArgs s_answers) (defBody s_answers) (defScope s_answers) .none kV_answers dc_answers pm_answers an_answers cd_answers ct_answers), sl_answers⟩)
    (c_answers : PySem.W.codeIn K cd_answers "answers" = true)
    (k__answers : PySem.W.keepIn K (.ref f_answers) = true)
    : ∃ t : Adr, Txt K mg t := by
  refine ⟨{ cPlay := CPlay, iPlay := IPlay, dPlay := PySem.W.fnOf "__init__" "Play.__init__" (defArgs sPlayInit) (defBody sPlayInit) (defScope sPlayInit) .none kVPlay dcPlay pmPlay anPlay cdPlay ctPlay, cCompany := CCompany, iCompany := ICompany, dCompany := PySem.W.fnOf "__init__" "Company.__init__" (defArgs sCompanyInit) (defBody sCompanyInit) (defScope sCompanyInit) .none kVCompany dcCompany pmCompany anCompany cdCompany ctCompany, cStanding := CStanding, iStanding := IStanding, dStanding := PySem.W.fnOf "__init__" "Standing.__init__" (defArgs sStandingInit) (defBody sStandingInit) (defScope sStandingInit) .none kVStanding dcStanding pmStanding anStanding cdStanding ctStanding, f_opening := f_opening, d_opening := PySem.W.fnOf "opening" "opening" (defArgs s_opening) (defBody s_opening) (defScope s_opening) .none kV_opening dc_opening pm_opening an_opening cd_opening ct_opening, f_wrong_with := f_wrong_with, d_wrong_with := PySem.W.fnOf "wrong_with" "wrong_with" (defArgs s_wrong_with) (defBody s_wrong_with) (defScope s_wrong_with) .none kV_wrong_with dc_wrong_with pm_wrong_with an_wrong_with cd_wrong_with ct_wrong_with, f_all_bills := f_all_bills, d_all_bills := PySem.W.fnOf "all_bills" "all_bills" (defArgs s_all_bills) (defBody s_all_bills) (defScope s_all_bills) .none kV_all_bills dc_all_bills pm_all_bills an_all_bills cd_all_bills ct_all_bills, f_right_bills := f_right_bills, d_right_bills := PySem.W.fnOf "right_bills" "right_bills" (defArgs s_right_bills) (defBody s_right_bills) (defScope s_right_bills) .none kV_right_bills dc_right_bills pm_right_bills an_right_bills cd_right_bills ct_right_bills, f_work_of := f_work_of, d_work_of := PySem.W.fnOf "work_of" "work_of" (defArgs s_work_of) (defBody s_work_of) (defScope s_work_of) .none kV_work_of dc_work_of pm_work_of an_work_of cd_work_of ct_work_of, f_given_behind := f_given_behind, d_given_behind := PySem.W.fnOf "given_behind" "given_behind" (defArgs s_given_behind) (defBody s_given_behind) (defScope s_given_behind) .none kV_given_behind dc_given_behind pm_given_behind an_given_behind cd_given_behind ct_given_behind, f_taken_by := f_taken_by, d_taken_by := PySem.W.fnOf "taken_by" "taken_by" (defArgs s_taken_by) (defBody s_taken_by) (defScope s_taken_by) .none kV_taken_by dc_taken_by pm_taken_by an_taken_by cd_taken_by ct_taken_by, f_leaves := f_leaves, d_leaves := PySem.W.fnOf "leaves" "leaves" (defArgs s_leaves) (defBody s_leaves) (defScope s_leaves) .none kV_leaves dc_leaves pm_leaves an_leaves cd_leaves ct_leaves, f_settle := f_settle, d_settle := PySem.W.fnOf "settle" "settle" (defArgs s_settle) (defBody s_settle) (defScope s_settle) .none kV_settle dc_settle pm_settle an_settle cd_settle ct_settle, f_behind_week := f_behind_week, d_behind_week := PySem.W.fnOf "behind_week" "behind_week" (defArgs s_behind_week) (defBody s_behind_week) (defScope s_behind_week) .none kV_behind_week dc_behind_week pm_behind_week an_behind_week cd_behind_week ct_behind_week, f_behind_plan := f_behind_plan, d_behind_plan := PySem.W.fnOf "behind_plan" "behind_plan" (defArgs s_behind_plan) (defBody s_behind_plan) (defScope s_behind_plan) .none kV_behind_plan dc_behind_plan pm_behind_plan an_behind_plan cd_behind_plan ct_behind_plan, f_behind_all_plans := f_behind_all_plans, d_behind_all_plans := PySem.W.fnOf "behind_all_plans" "behind_all_plans" (defArgs s_behind_all_plans) (defBody s_behind_all_plans) (defScope s_behind_all_plans) .none kV_behind_all_plans dc_behind_all_plans pm_behind_all_plans an_behind_all_plans cd_behind_all_plans ct_behind_all_plans, f_bill_that_leaves_most := f_bill_that_leaves_most, d_bill_that_leaves_most := PySem.W.fnOf "bill_that_leaves_most" "bill_that_leaves_most" (defArgs s_bill_that_leaves_most) (defBody s_bill_that_leaves_most) (defScope s_bill_that_leaves_most) .none kV_bill_that_leaves_most dc_bill_that_leaves_most pm_bill_that_leaves_most an_bill_that_leaves_most cd_bill_that_leaves_most ct_bill_that_leaves_most, f_most_owed := f_most_owed, d_most_owed := PySem.W.fnOf "most_owed" "most_owed" (defArgs s_most_owed) (defBody s_most_owed) (defScope s_most_owed) .none kV_most_owed dc_most_owed pm_most_owed an_most_owed cd_most_owed ct_most_owed, f_paid_behind := f_paid_behind, d_paid_behind := PySem.W.fnOf "paid_behind" "paid_behind" (defArgs s_paid_behind) (defBody s_paid_behind) (defScope s_paid_behind) .none kV_paid_behind dc_paid_behind pm_paid_behind an_paid_behind cd_paid_behind ct_paid_behind, f_with_length := f_with_length, d_with_length := PySem.W.fnOf "with_length" "with_length" (defArgs s_with_length) (defBody s_with_length) (defScope s_with_length) .none kV_with_length dc_with_length pm_with_length an_with_length cd_with_length ct_with_length, f_told_of_weeks := f_told_of_weeks, d_told_of_weeks := PySem.W.fnOf "told_of_weeks" "told_of_weeks" (defArgs s_told_of_weeks) (defBody s_told_of_weeks) (defScope s_told_of_weeks) .none kV_told_of_weeks dc_told_of_weeks pm_told_of_weeks an_told_of_weeks cd_told_of_weeks ct_told_of_weeks, f_begins_as_told := f_begins_as_told, d_begins_as_told := PySem.W.fnOf "begins_as_told" "begins_as_told" (defArgs s_begins_as_told) (defBody s_begins_as_told) (defScope s_begins_as_told) .none kV_begins_as_told dc_begins_as_told pm_begins_as_told an_begins_as_told cd_begins_as_told ct_begins_as_told, f_begin_season := f_begin_season, d_begin_season := PySem.W.fnOf "begin_season" "begin_season" (defArgs s_begin_season) (defBody s_begin_season) (defScope s_begin_season) .none kV_begin_season dc_begin_season pm_begin_season an_begin_season cd_begin_season ct_begin_season, f_play_as_told := f_play_as_told, d_play_as_told := PySem.W.fnOf "play_as_told" "play_as_told" (defArgs s_play_as_told) (defBody s_play_as_told) (defScope s_play_as_told) .none kV_play_as_told dc_play_as_told pm_play_as_told an_play_as_told cd_play_as_told ct_play_as_told, f_add_play := f_add_play, d_add_play := PySem.W.fnOf "add_play" "add_play" (defArgs s_add_play) (defBody s_add_play) (defScope s_add_play) .none kV_add_play dc_add_play pm_add_play an_add_play cd_add_play ct_add_play, f_join_company := f_join_company, d_join_company := PySem.W.fnOf "join_company" "join_company" (defArgs s_join_company) (defBody s_join_company) (defScope s_join_company) .none kV_join_company dc_join_company pm_join_company an_join_company cd_join_company ct_join_company, f_refusal_of_weeks := f_refusal_of_weeks, d_refusal_of_weeks := PySem.W.fnOf "refusal_of_weeks" "refusal_of_weeks" (defArgs s_refusal_of_weeks) (defBody s_refusal_of_weeks) (defScope s_refusal_of_weeks) .none kV_refusal_of_weeks dc_refusal_of_weeks pm_refusal_of_weeks an_refusal_of_weeks cd_refusal_of_weeks ct_refusal_of_weeks, f_best_plan := f_best_plan, d_best_plan := PySem.W.fnOf "best_plan" "best_plan" (defArgs s_best_plan) (defBody s_best_plan) (defScope s_best_plan) .none kV_best_plan dc_best_plan pm_best_plan an_best_plan cd_best_plan ct_best_plan, f_plain_plan := f_plain_plan, d_plain_plan := PySem.W.fnOf "plain_plan" "plain_plan" (defArgs s_plain_plan) (defBody s_plain_plan) (defScope s_plain_plan) .none kV_plain_plan dc_plain_plan pm_plain_plan an_plain_plan cd_plain_plan ct_plain_plan, f_plan_as_told := f_plan_as_told, d_plan_as_told := PySem.W.fnOf "plan_as_told" "plan_as_told" (defArgs s_plan_as_told) (defBody s_plan_as_told) (defScope s_plan_as_told) .none kV_plan_as_told dc_plan_as_told pm_plan_as_told an_plan_as_told cd_plan_as_told ct_plan_as_told, f_check_plan := f_check_plan, d_check_plan := PySem.W.fnOf "check_plan" "check_plan" (defArgs s_check_plan) (defBody s_check_plan) (defScope s_check_plan) .none kV_check_plan dc_check_plan pm_check_plan an_check_plan cd_check_plan ct_check_plan, f_put_into_fund := f_put_into_fund, d_put_into_fund := PySem.W.fnOf "put_into_fund" "put_into_fund" (defArgs s_put_into_fund) (defBody s_put_into_fund) (defScope s_put_into_fund) .none kV_put_into_fund dc_put_into_fund pm_put_into_fund an_put_into_fund cd_put_into_fund ct_put_into_fund, f_row_at := f_row_at, d_row_at := PySem.W.fnOf "row_at" "row_at" (defArgs s_row_at) (defBody s_row_at) (defScope s_row_at) .none kV_row_at dc_row_at pm_row_at an_row_at cd_row_at ct_row_at, f_plan_in := f_plan_in, d_plan_in := PySem.W.fnOf "plan_in" "plan_in" (defArgs s_plan_in) (defBody s_plan_in) (defScope s_plan_in) .none kV_plan_in dc_plan_in pm_plan_in an_plan_in cd_plan_in ct_plan_in, f_answer := f_answer, d_answer := PySem.W.fnOf "answer" "answer" (defArgs s_answer) (defBody s_answer) (defScope s_answer) .none kV_answer dc_answer pm_answer an_answer cd_answer ct_answer, f_answers := f_answers, d_answers := PySem.W.fnOf "answers" "answers" (defArgs s_answers) (defBody s_answers) (defScope s_answers) .none kV_answers dc_answers pm_answers an_answers cd_answers ct_answers }, ?_⟩
  constructor
  · exact ⟨pgPlay, hdPlay, poPlay, saPlay⟩
  · exact ⟨mkPlay, aPlay, iPlay, kcPlay⟩
  · exact PySem.W.mg_of X G aCPlay
  · exact fun_mk (st := sPlayInit) lPlay cPlay kPlay
  · exact (fun_mk (st := sPlayInit) lPlay cPlay kPlay).binds (ps := ["self", "setting", "striking", "may_run", "least", "most", "brings"]) fun _ _ _ _ _ _ us hl => el7 us hl fun _ _ _ _ _ _ _ => rfl
  · exact nPlay_setting
  · exact nPlay_striking
  · exact nPlay_may_run
  · exact nPlay_least
  · exact nPlay_most
  · exact nPlay_brings
  · exact ⟨pgCompany, hdCompany, poCompany, saCompany⟩
  · exact ⟨mkCompany, aCompany, iCompany, kcCompany⟩
  · exact PySem.W.mg_of X G aCCompany
  · exact fun_mk (st := sCompanyInit) lCompany cCompany kCompany
  · exact (fun_mk (st := sCompanyInit) lCompany cCompany kCompany).binds (ps := ["self"]) fun _ _ _ _ _ _ us hl => el1 us hl fun _ => rfl
  · exact nCompany_costs
  · exact nCompany_fund_limit
  · exact nCompany_wages
  · exact nCompany_crowds
  · exact nCompany_fund
  · exact nCompany_plays
  · exact nCompany_parts
  · exact ⟨pgStanding, hdStanding, poStanding, saStanding⟩
  · exact ⟨mkStanding, aStanding, iStanding, kcStanding⟩
  · exact PySem.W.mg_of X G aCStanding
  · exact fun_mk (st := sStandingInit) lStanding cStanding kStanding
  · exact (fun_mk (st := sStandingInit) lStanding cStanding kStanding).binds (ps := ["self", "given", "fund", "debt", "bills", "payouts"]) fun _ _ _ _ _ _ us hl => el6 us hl fun _ _ _ _ _ _ => rfl
  · exact nStanding_given
  · exact nStanding_fund
  · exact nStanding_debt
  · exact nStanding_bills
  · exact nStanding_payouts
  · exact ⟨_, PySem.W.mg_of X G k_NOT_AS_TOLD⟩
  · exact ⟨_, PySem.W.mg_of X G k_NO_ROOM⟩
  · exact ⟨_, PySem.W.mg_of X G k_NO_RIGHT_PLAN⟩
  · exact ⟨_, PySem.W.mg_of X G k_MOST_NIGHTS⟩
  · exact ⟨_, PySem.W.mg_of X G k_MOST_OF_A_HUNDRED⟩
  · exact ⟨_, PySem.W.mg_of X G k_MOST_MONEY⟩
  · exact ⟨_, PySem.W.mg_of X G k_MOST_PLAYS⟩
  · exact ⟨_, PySem.W.mg_of X G k_MOST_OF_A_PLAY⟩
  · exact ⟨_, PySem.W.mg_of X G k_MOST_BRINGS⟩
  · exact ⟨_, PySem.W.mg_of X G k_MOST_SHARERS⟩
  · exact ⟨_, PySem.W.mg_of X G k_MOST_PARTS⟩
  · exact ⟨_, PySem.W.mg_of X G k_MOST_WEEKS⟩
  · exact ⟨_, PySem.W.mg_of X G k_RUNS_THOUGH_IT_MAY_NOT⟩
  · exact ⟨_, PySem.W.mg_of X G k_TOO_SELDOM⟩
  · exact ⟨_, PySem.W.mg_of X G k_TOO_OFTEN⟩
  · exact ⟨_, PySem.W.mg_of X G k_BEGINS⟩
  · exact ⟨_, PySem.W.mg_of X G k_PLAY⟩
  · exact ⟨_, PySem.W.mg_of X G k_JOIN⟩
  · exact ⟨_, PySem.W.mg_of X G k_BEST⟩
  · exact ⟨_, PySem.W.mg_of X G k_PLAIN⟩
  · exact ⟨_, PySem.W.mg_of X G k_CHECK⟩
  · exact PySem.W.mg_none_of X G z_len
  · exact PySem.W.mg_none_of X G z_range
  · exact PySem.W.mg_none_of X G z_max
  · exact PySem.W.mg_none_of X G z_min
  · exact PySem.W.mg_none_of X G z_sum
  · exact PySem.W.mg_none_of X G z_list
  · exact PySem.W.mg_none_of X G z_zip
  · exact PySem.W.mg_none_of X G z_enumerate
  · exact PySem.W.mg_of X G a_opening
  · exact fun_mk (st := s_opening) l_opening c_opening k__opening
  · exact (fun_mk (st := s_opening) l_opening c_opening k__opening).binds (ps := ["company"]) fun _ _ _ _ _ _ us hl => el1 us hl fun _ => rfl
  · exact PySem.W.mg_of X G a_wrong_with
  · exact fun_mk (st := s_wrong_with) l_wrong_with c_wrong_with k__wrong_with
  · exact (fun_mk (st := s_wrong_with) l_wrong_with c_wrong_with k__wrong_with).binds (ps := ["plays", "bill"]) fun _ _ _ _ _ _ us hl => el2 us hl fun _ _ => rfl
  · exact PySem.W.mg_of X G a_all_bills
  · exact fun_mk (st := s_all_bills) l_all_bills c_all_bills k__all_bills
  · exact (fun_mk (st := s_all_bills) l_all_bills c_all_bills k__all_bills).binds (ps := ["company"]) fun _ _ _ _ _ _ us hl => el1 us hl fun _ => rfl
  · exact PySem.W.mg_of X G a_right_bills
  · exact fun_mk (st := s_right_bills) l_right_bills c_right_bills k__right_bills
  · exact (fun_mk (st := s_right_bills) l_right_bills c_right_bills k__right_bills).binds (ps := ["company"]) fun _ _ _ _ _ _ us hl => el1 us hl fun _ => rfl
  · exact PySem.W.mg_of X G a_work_of
  · exact fun_mk (st := s_work_of) l_work_of c_work_of k__work_of
  · exact (fun_mk (st := s_work_of) l_work_of c_work_of k__work_of).binds (ps := ["plays", "bill"]) fun _ _ _ _ _ _ us hl => el2 us hl fun _ _ => rfl
  · exact PySem.W.mg_of X G a_given_behind
  · exact fun_mk (st := s_given_behind) l_given_behind c_given_behind k__given_behind
  · exact (fun_mk (st := s_given_behind) l_given_behind c_given_behind k__given_behind).binds (ps := ["given", "bill"]) fun _ _ _ _ _ _ us hl => el2 us hl fun _ _ => rfl
  · exact PySem.W.mg_of X G a_taken_by
  · exact fun_mk (st := s_taken_by) l_taken_by c_taken_by k__taken_by
  · exact (fun_mk (st := s_taken_by) l_taken_by c_taken_by k__taken_by).binds (ps := ["company", "given", "bill"]) fun _ _ _ _ _ _ us hl => el3 us hl fun _ _ _ => rfl
  · exact PySem.W.mg_of X G a_leaves
  · exact fun_mk (st := s_leaves) l_leaves c_leaves k__leaves
  · exact (fun_mk (st := s_leaves) l_leaves c_leaves k__leaves).binds (ps := ["company", "given", "bill"]) fun _ _ _ _ _ _ us hl => el3 us hl fun _ _ _ => rfl
  · exact PySem.W.mg_of X G a_settle
  · exact fun_mk (st := s_settle) l_settle c_settle k__settle
  · exact (fun_mk (st := s_settle) l_settle c_settle k__settle).binds (ps := ["company", "fund", "debt", "left"]) fun _ _ _ _ _ _ us hl => el4 us hl fun _ _ _ _ => rfl
  · exact PySem.W.mg_of X G a_behind_week
  · exact fun_mk (st := s_behind_week) l_behind_week c_behind_week k__behind_week
  · exact (fun_mk (st := s_behind_week) l_behind_week c_behind_week k__behind_week).binds (ps := ["company", "standing", "bill"]) fun _ _ _ _ _ _ us hl => el3 us hl fun _ _ _ => rfl
  · exact PySem.W.mg_of X G a_behind_plan
  · exact fun_mk (st := s_behind_plan) l_behind_plan c_behind_plan k__behind_plan
  · exact (fun_mk (st := s_behind_plan) l_behind_plan c_behind_plan k__behind_plan).binds (ps := ["company", "plan"]) fun _ _ _ _ _ _ us hl => el2 us hl fun _ _ => rfl
  · exact PySem.W.mg_of X G a_behind_all_plans
  · exact fun_mk (st := s_behind_all_plans) l_behind_all_plans c_behind_all_plans k__behind_all_plans
  · exact (fun_mk (st := s_behind_all_plans) l_behind_all_plans c_behind_all_plans k__behind_all_plans).binds (ps := ["company", "bills", "weeks"]) fun _ _ _ _ _ _ us hl => el3 us hl fun _ _ _ => rfl
  · exact PySem.W.mg_of X G a_bill_that_leaves_most
  · exact fun_mk (st := s_bill_that_leaves_most) l_bill_that_leaves_most c_bill_that_leaves_most k__bill_that_leaves_most
  · exact (fun_mk (st := s_bill_that_leaves_most) l_bill_that_leaves_most c_bill_that_leaves_most k__bill_that_leaves_most).binds (ps := ["company", "given", "bills"]) fun _ _ _ _ _ _ us hl => el3 us hl fun _ _ _ => rfl
  · exact PySem.W.mg_of X G a_most_owed
  · exact fun_mk (st := s_most_owed) l_most_owed c_most_owed k__most_owed
  · exact (fun_mk (st := s_most_owed) l_most_owed c_most_owed k__most_owed).binds (ps := ["parts", "paid"]) fun _ _ _ _ _ _ us hl => el2 us hl fun _ _ => rfl
  · exact PySem.W.mg_of X G a_paid_behind
  · exact fun_mk (st := s_paid_behind) l_paid_behind c_paid_behind k__paid_behind
  · exact (fun_mk (st := s_paid_behind) l_paid_behind c_paid_behind k__paid_behind).binds (ps := ["parts", "paid", "payout"]) fun _ _ _ _ _ _ us hl => el3 us hl fun _ _ _ => rfl
  · exact PySem.W.mg_of X G a_with_length
  · exact fun_mk (st := s_with_length) l_with_length c_with_length k__with_length
  · exact (fun_mk (st := s_with_length) l_with_length c_with_length k__with_length).binds (ps := ["row"]) fun _ _ _ _ _ _ us hl => el1 us hl fun _ => rfl
  · exact PySem.W.mg_of X G a_told_of_weeks
  · exact fun_mk (st := s_told_of_weeks) l_told_of_weeks c_told_of_weeks k__told_of_weeks
  · exact (fun_mk (st := s_told_of_weeks) l_told_of_weeks c_told_of_weeks k__told_of_weeks).binds (ps := ["company", "standing"]) fun _ _ _ _ _ _ us hl => el2 us hl fun _ _ => rfl
  · exact PySem.W.mg_of X G a_begins_as_told
  · exact fun_mk (st := s_begins_as_told) l_begins_as_told c_begins_as_told k__begins_as_told
  · exact (fun_mk (st := s_begins_as_told) l_begins_as_told c_begins_as_told k__begins_as_told).binds (ps := ["costs", "fund_limit", "wages", "crowds"]) fun _ _ _ _ _ _ us hl => el4 us hl fun _ _ _ _ => rfl
  · exact PySem.W.mg_of X G a_begin_season
  · exact fun_mk (st := s_begin_season) l_begin_season c_begin_season k__begin_season
  · exact (fun_mk (st := s_begin_season) l_begin_season c_begin_season k__begin_season).binds (ps := ["company", "costs", "fund_limit", "wages", "crowds"]) fun _ _ _ _ _ _ us hl => el5 us hl fun _ _ _ _ _ => rfl
  · exact PySem.W.mg_of X G a_play_as_told
  · exact fun_mk (st := s_play_as_told) l_play_as_told c_play_as_told k__play_as_told
  · exact (fun_mk (st := s_play_as_told) l_play_as_told c_play_as_told k__play_as_told).binds (ps := ["play", "nights"]) fun _ _ _ _ _ _ us hl => el2 us hl fun _ _ => rfl
  · exact PySem.W.mg_of X G a_add_play
  · exact fun_mk (st := s_add_play) l_add_play c_add_play k__add_play
  · exact (fun_mk (st := s_add_play) l_add_play c_add_play k__add_play).binds (ps := ["company", "play"]) fun _ _ _ _ _ _ us hl => el2 us hl fun _ _ => rfl
  · exact PySem.W.mg_of X G a_join_company
  · exact fun_mk (st := s_join_company) l_join_company c_join_company k__join_company
  · exact (fun_mk (st := s_join_company) l_join_company c_join_company k__join_company).binds (ps := ["company", "parts"]) fun _ _ _ _ _ _ us hl => el2 us hl fun _ _ => rfl
  · exact PySem.W.mg_of X G a_refusal_of_weeks
  · exact fun_mk (st := s_refusal_of_weeks) l_refusal_of_weeks c_refusal_of_weeks k__refusal_of_weeks
  · exact (fun_mk (st := s_refusal_of_weeks) l_refusal_of_weeks c_refusal_of_weeks k__refusal_of_weeks).binds (ps := ["weeks", "bills"]) fun _ _ _ _ _ _ us hl => el2 us hl fun _ _ => rfl
  · exact PySem.W.mg_of X G a_best_plan
  · exact fun_mk (st := s_best_plan) l_best_plan c_best_plan k__best_plan
  · exact (fun_mk (st := s_best_plan) l_best_plan c_best_plan k__best_plan).binds (ps := ["company", "weeks"]) fun _ _ _ _ _ _ us hl => el2 us hl fun _ _ => rfl
  · exact PySem.W.mg_of X G a_plain_plan
  · exact fun_mk (st := s_plain_plan) l_plain_plan c_plain_plan k__plain_plan
  · exact (fun_mk (st := s_plain_plan) l_plain_plan c_plain_plan k__plain_plan).binds (ps := ["company", "weeks"]) fun _ _ _ _ _ _ us hl => el2 us hl fun _ _ => rfl
  · exact PySem.W.mg_of X G a_plan_as_told
  · exact fun_mk (st := s_plan_as_told) l_plan_as_told c_plan_as_told k__plan_as_told
  · exact (fun_mk (st := s_plan_as_told) l_plan_as_told c_plan_as_told k__plan_as_told).binds (ps := ["company", "plan"]) fun _ _ _ _ _ _ us hl => el2 us hl fun _ _ => rfl
  · exact PySem.W.mg_of X G a_check_plan
  · exact fun_mk (st := s_check_plan) l_check_plan c_check_plan k__check_plan
  · exact (fun_mk (st := s_check_plan) l_check_plan c_check_plan k__check_plan).binds (ps := ["company", "plan"]) fun _ _ _ _ _ _ us hl => el2 us hl fun _ _ => rfl
  · exact PySem.W.mg_of X G a_put_into_fund
  · exact fun_mk (st := s_put_into_fund) l_put_into_fund c_put_into_fund k__put_into_fund
  · exact (fun_mk (st := s_put_into_fund) l_put_into_fund c_put_into_fund k__put_into_fund).binds (ps := ["company", "money"]) fun _ _ _ _ _ _ us hl => el2 us hl fun _ _ => rfl
  · exact PySem.W.mg_of X G a_row_at
  · exact fun_mk (st := s_row_at) l_row_at c_row_at k__row_at
  · exact (fun_mk (st := s_row_at) l_row_at c_row_at k__row_at).binds (ps := ["call", "place"]) fun _ _ _ _ _ _ us hl => el2 us hl fun _ _ => rfl
  · exact PySem.W.mg_of X G a_plan_in
  · exact fun_mk (st := s_plan_in) l_plan_in c_plan_in k__plan_in
  · exact (fun_mk (st := s_plan_in) l_plan_in c_plan_in k__plan_in).binds (ps := ["call"]) fun _ _ _ _ _ _ us hl => el1 us hl fun _ => rfl
  · exact PySem.W.mg_of X G a_answer
  · exact fun_mk (st := s_answer) l_answer c_answer k__answer
  · exact (fun_mk (st := s_answer) l_answer c_answer k__answer).binds (ps := ["company", "call"]) fun _ _ _ _ _ _ us hl => el2 us hl fun _ _ => rfl
  · exact PySem.W.mg_of X G a_answers
  · exact fun_mk (st := s_answers) l_answers c_answers k__answers
  · exact (fun_mk (st := s_answers) l_answers c_answers k__answers).binds (ps := ["calls"]) fun _ _ _ _ _ _ us hl => el1 us hl fun _ => rfl
end Ps
end
open PySem PySem.W PyProof.Rows
set_option Elab.async false
set_option maxRecDepth 100000 in
set_option maxHeartbeats 0 in
theorem PySem.Challenge.cw_playseason_s01_answers_holds : PySem.Challenge.rw_playseason_s01_answers.Holds := by
  w_on; k_headS; (case hw => exact ⟨[.list [.int 0, .int 2, .int 6, .int 0]], by decide +kernel, by decide +kernel⟩)
  k_fillS
  refine L2.walk_specK (r := PySem.Challenge.rw_playseason_s01_answers) (k := 7) (CX := L2.CX0) (ps := ["calls"]) (sp := Ps.spAnswers) (by decide +kernel) rfl rfl ⟨rfl, by decide, by decide⟩ (fun w h Y => PySem.W.kIn_of Y) ?F ?S (fun _ _ _ _ z => z)
  case F =>
    intro w mg fa h Y KX G hmg
    have T : ∃ t : Ps.Adr, Ps.Txt (L2.KOf KX) mg t := by
      dsimp only [L2.KOf]
      refine' Ps.txt_mk KX G ?aCPlay ?aPlay ?iPlay ?lPlay ?cPlay ?kPlay ?pgPlay ?hdPlay ?poPlay ?saPlay ?mkPlay ?kcPlay ?nPlay_setting ?nPlay_striking ?nPlay_may_run ?nPlay_least ?nPlay_most ?nPlay_brings ?aCCompany ?aCompany ?iCompany ?lCompany ?cCompany ?kCompany ?pgCompany ?hdCompany ?poCompany ?saCompany ?mkCompany ?kcCompany ?nCompany_costs ?nCompany_fund_limit ?nCompany_wages ?nCompany_crowds ?nCompany_fund ?nCompany_plays ?nCompany_parts ?aCStanding ?aStanding ?iStanding ?lStanding ?cStanding ?kStanding ?pgStanding ?hdStanding ?poStanding ?saStanding ?mkStanding ?kcStanding ?nStanding_given ?nStanding_fund ?nStanding_debt ?nStanding_bills ?nStanding_payouts ?k_NOT_AS_TOLD ?k_NO_ROOM ?k_NO_RIGHT_PLAN ?k_MOST_NIGHTS ?k_MOST_OF_A_HUNDRED ?k_MOST_MONEY ?k_MOST_PLAYS ?k_MOST_OF_A_PLAY ?k_MOST_BRINGS ?k_MOST_SHARERS ?k_MOST_PARTS ?k_MOST_WEEKS ?k_RUNS_THOUGH_IT_MAY_NOT ?k_TOO_SELDOM ?k_TOO_OFTEN ?k_BEGINS ?k_PLAY ?k_JOIN ?k_BEST ?k_PLAIN ?k_CHECK ?z_len ?z_range ?z_max ?z_min ?z_sum ?z_list ?z_zip ?z_enumerate ?a_opening ?l_opening ?c_opening ?k__opening ?a_wrong_with ?l_wrong_with ?c_wrong_with ?k__wrong_with ?a_all_bills ?l_all_bills ?c_all_bills ?k__all_bills ?a_right_bills ?l_right_bills ?c_right_bills ?k__right_bills ?a_work_of ?l_work_of ?c_work_of ?k__work_of ?a_given_behind ?l_given_behind ?c_given_behind ?k__given_behind ?a_taken_by ?l_taken_by ?c_taken_by ?k__taken_by ?a_leaves ?l_leaves ?c_leaves ?k__leaves ?a_settle ?l_settle ?c_settle ?k__settle ?a_behind_week ?l_behind_week ?c_behind_week ?k__behind_week ?a_behind_plan ?l_behind_plan ?c_behind_plan ?k__behind_plan ?a_behind_all_plans ?l_behind_all_plans ?c_behind_all_plans ?k__behind_all_plans ?a_bill_that_leaves_most ?l_bill_that_leaves_most ?c_bill_that_leaves_most ?k__bill_that_leaves_most ?a_most_owed ?l_most_owed ?c_most_owed ?k__most_owed ?a_paid_behind ?l_paid_behind ?c_paid_behind ?k__paid_behind ?a_with_length ?l_with_length ?c_with_length ?k__with_length ?a_told_of_weeks ?l_told_of_weeks ?c_told_of_weeks ?k__told_of_weeks ?a_begins_as_told ?l_begins_as_told ?c_begins_as_told ?k__begins_as_told ?a_begin_season ?l_begin_season ?c_begin_season ?k__begin_season ?a_play_as_told ?l_play_as_told ?c_play_as_told ?k__play_as_told ?a_add_play ?l_add_play ?c_add_play ?k__add_play ?a_join_company ?l_join_company ?c_join_company ?k__join_company ?a_refusal_of_weeks ?l_refusal_of_weeks ?c_refusal_of_weeks ?k__refusal_of_weeks ?a_best_plan ?l_best_plan ?c_best_plan ?k__best_plan ?a_plain_plan ?l_plain_plan ?c_plain_plan ?k__plain_plan ?a_plan_as_told ?l_plan_as_told ?c_plan_as_told ?k__plan_as_told ?a_check_plan ?l_check_plan ?c_check_plan ?k__check_plan ?a_put_into_fund ?l_put_into_fund ?c_put_into_fund ?k__put_into_fund ?a_row_at ?l_row_at ?c_row_at ?k__row_at ?a_plan_in ?l_plan_in ?c_plan_in ?k__plan_in ?a_answer ?l_answer ?c_answer ?k__answer ?a_answers ?l_answers ?c_answers ?k__answers
      (case aCPlay => k_is)
      (case aPlay => k_is)
      (case iPlay => k_is)
      (case lPlay => k_is)
      (case cPlay => k_is)
      (case kPlay => k_is)
      (case pgPlay => k_is)
      (case hdPlay => k_is)
      (case poPlay => k_is)
      (case saPlay => k_is)
      (case mkPlay => k_is)
      (case kcPlay => k_is)
      (case nPlay_setting => k_is)
      (case nPlay_striking => k_is)
      (case nPlay_may_run => k_is)
      (case nPlay_least => k_is)
      (case nPlay_most => k_is)
      (case nPlay_brings => k_is)
      (case aCCompany => k_is)
      (case aCompany => k_is)
      (case iCompany => k_is)
      (case lCompany => k_is)
      (case cCompany => k_is)
      (case kCompany => k_is)
      (case pgCompany => k_is)
      (case hdCompany => k_is)
      (case poCompany => k_is)
      (case saCompany => k_is)
      (case mkCompany => k_is)
      (case kcCompany => k_is)
      (case nCompany_costs => k_is)
      (case nCompany_fund_limit => k_is)
      (case nCompany_wages => k_is)
      (case nCompany_crowds => k_is)
      (case nCompany_fund => k_is)
      (case nCompany_plays => k_is)
      (case nCompany_parts => k_is)
      (case aCStanding => k_is)
      (case aStanding => k_is)
      (case iStanding => k_is)
      (case lStanding => k_is)
      (case cStanding => k_is)
      (case kStanding => k_is)
      (case pgStanding => k_is)
      (case hdStanding => k_is)
      (case poStanding => k_is)
      (case saStanding => k_is)
      (case mkStanding => k_is)
      (case kcStanding => k_is)
      (case nStanding_given => k_is)
      (case nStanding_fund => k_is)
      (case nStanding_debt => k_is)
      (case nStanding_bills => k_is)
      (case nStanding_payouts => k_is)
      (case k_NOT_AS_TOLD => k_is)
      (case k_NO_ROOM => k_is)
      (case k_NO_RIGHT_PLAN => k_is)
      (case k_MOST_NIGHTS => k_is)
      (case k_MOST_OF_A_HUNDRED => k_is)
      (case k_MOST_MONEY => k_is)
      (case k_MOST_PLAYS => k_is)
      (case k_MOST_OF_A_PLAY => k_is)
      (case k_MOST_BRINGS => k_is)
      (case k_MOST_SHARERS => k_is)
      (case k_MOST_PARTS => k_is)
      (case k_MOST_WEEKS => k_is)
      (case k_RUNS_THOUGH_IT_MAY_NOT => k_is)
      (case k_TOO_SELDOM => k_is)
      (case k_TOO_OFTEN => k_is)
      (case k_BEGINS => k_is)
      (case k_PLAY => k_is)
      (case k_JOIN => k_is)
      (case k_BEST => k_is)
      (case k_PLAIN => k_is)
      (case k_CHECK => k_is)
      (case z_len => k_is)
      (case z_range => k_is)
      (case z_max => k_is)
      (case z_min => k_is)
      (case z_sum => k_is)
      (case z_list => k_is)
      (case z_zip => k_is)
      (case z_enumerate => k_is)
      (case a_opening => k_is)
      (case l_opening => k_is)
      (case c_opening => k_is)
      (case k__opening => k_is)
      (case a_wrong_with => k_is)
      (case l_wrong_with => k_is)
      (case c_wrong_with => k_is)
      (case k__wrong_with => k_is)
      (case a_all_bills => k_is)
      (case l_all_bills => k_is)
      (case c_all_bills => k_is)
      (case k__all_bills => k_is)
      (case a_right_bills => k_is)
      (case l_right_bills => k_is)
      (case c_right_bills => k_is)
      (case k__right_bills => k_is)
      (case a_work_of => k_is)
      (case l_work_of => k_is)
      (case c_work_of => k_is)
      (case k__work_of => k_is)
      (case a_given_behind => k_is)
      (case l_given_behind => k_is)
      (case c_given_behind => k_is)
      (case k__given_behind => k_is)
      (case a_taken_by => k_is)
      (case l_taken_by => k_is)
      (case c_taken_by => k_is)
      (case k__taken_by => k_is)
      (case a_leaves => k_is)
      (case l_leaves => k_is)
      (case c_leaves => k_is)
      (case k__leaves => k_is)
      (case a_settle => k_is)
      (case l_settle => k_is)
      (case c_settle => k_is)
      (case k__settle => k_is)
      (case a_behind_week => k_is)
      (case l_behind_week => k_is)
      (case c_behind_week => k_is)
      (case k__behind_week => k_is)
      (case a_behind_plan => k_is)
      (case l_behind_plan => k_is)
      (case c_behind_plan => k_is)
      (case k__behind_plan => k_is)
      (case a_behind_all_plans => k_is)
      (case l_behind_all_plans => k_is)
      (case c_behind_all_plans => k_is)
      (case k__behind_all_plans => k_is)
      (case a_bill_that_leaves_most => k_is)
      (case l_bill_that_leaves_most => k_is)
      (case c_bill_that_leaves_most => k_is)
      (case k__bill_that_leaves_most => k_is)
      (case a_most_owed => k_is)
      (case l_most_owed => k_is)
      (case c_most_owed => k_is)
      (case k__most_owed => k_is)
      (case a_paid_behind => k_is)
      (case l_paid_behind => k_is)
      (case c_paid_behind => k_is)
      (case k__paid_behind => k_is)
      (case a_with_length => k_is)
      (case l_with_length => k_is)
      (case c_with_length => k_is)
      (case k__with_length => k_is)
      (case a_told_of_weeks => k_is)
      (case l_told_of_weeks => k_is)
      (case c_told_of_weeks => k_is)
      (case k__told_of_weeks => k_is)
      (case a_begins_as_told => k_is)
      (case l_begins_as_told => k_is)
      (case c_begins_as_told => k_is)
      (case k__begins_as_told => k_is)
      (case a_begin_season => k_is)
      (case l_begin_season => k_is)
      (case c_begin_season => k_is)
      (case k__begin_season => k_is)
      (case a_play_as_told => k_is)
      (case l_play_as_told => k_is)
      (case c_play_as_told => k_is)
      (case k__play_as_told => k_is)
      (case a_add_play => k_is)
      (case l_add_play => k_is)
      (case c_add_play => k_is)
      (case k__add_play => k_is)
      (case a_join_company => k_is)
      (case l_join_company => k_is)
      (case c_join_company => k_is)
      (case k__join_company => k_is)
      (case a_refusal_of_weeks => k_is)
      (case l_refusal_of_weeks => k_is)
      (case c_refusal_of_weeks => k_is)
      (case k__refusal_of_weeks => k_is)
      (case a_best_plan => k_is)
      (case l_best_plan => k_is)
      (case c_best_plan => k_is)
      (case k__best_plan => k_is)
      (case a_plain_plan => k_is)
      (case l_plain_plan => k_is)
      (case c_plain_plan => k_is)
      (case k__plain_plan => k_is)
      (case a_plan_as_told => k_is)
      (case l_plan_as_told => k_is)
      (case c_plan_as_told => k_is)
      (case k__plan_as_told => k_is)
      (case a_check_plan => k_is)
      (case l_check_plan => k_is)
      (case c_check_plan => k_is)
      (case k__check_plan => k_is)
      (case a_put_into_fund => k_is)
      (case l_put_into_fund => k_is)
      (case c_put_into_fund => k_is)
      (case k__put_into_fund => k_is)
      (case a_row_at => k_is)
      (case l_row_at => k_is)
      (case c_row_at => k_is)
      (case k__row_at => k_is)
      (case a_plan_in => k_is)
      (case l_plan_in => k_is)
      (case c_plan_in => k_is)
      (case k__plan_in => k_is)
      (case a_answer => k_is)
      (case l_answer => k_is)
      (case c_answer => k_is)
      (case k__answer => k_is)
      (case a_answers => k_is)
      (case l_answers => k_is)
      (case c_answers => k_is)
      (case k__answers => k_is)
    obtain ⟨t, T⟩ := T
    have e0 := hmg.symm.trans T.g_answers
    cases e0
    obtain ⟨oc, od, kV, doc, pm, an, cdv, ct, osl, hfd, _, _⟩ := T.F_answers.ex
    exact ⟨t.d_answers, fun s us hu => by rw [hfd]; exact match us, hu with | [_], _ => .of_eq rfl, fun base _ _ => Ps.ok_answers T⟩
  case S =>
    intro K H xs a hO hwi hask hx
    cases hx with
    | cons h1 h2 =>
      cases h2
      cases h1 with
      | lst hs ha =>
        have e := L2.ints_dw a.1 _ ha
        subst e
        have q : ((Codec.inLen 0 31000 a.1 && a.1.all (Codec.inInt 0 4294967295)) && true) = true := hwi
        rw [Bool.and_eq_true, Bool.and_eq_true] at q
        exact ⟨_, a.1, rfl, hs, (Codec.inNat_iff.mp q.1.1).2, hask, fun H' p hp => .lst (L2.SqL.of hp) (L2.dw_ints _)⟩
#print axioms PySem.Challenge.cw_playseason_s01_answers_holds
