import PyProof.Rows.All
import Wide.All
import OpenK.AllK
import Wide.FinOn
import PyProof.EqAt
import PyProof.EqKinds
import PyProof.TupleCall
import KE.BitLaws
import Open.SpecLaws
import KE.OsHead
import KE.OsGo
import KE.IntBitsLaws
import PySem.Challenge.RW_daringdie_s01_answers
set_option Elab.async false
set_option linter.all false
set_option maxRecDepth 100000
namespace L2
open PySem PySem.Spec PyProof.Rows
abbrev Key := Sum Int Str
def keyIs : Key → Value → Bool
  | .inl k, v => Value.isInt k v
  | .inr x, v => Value.isStrOf x v
def keyH (w : World) : Key → Int
  | .inl k => hashInt k
  | .inr x => hashStr w x
theorem keyIs_shape : ∀ {k : Key} {v : Value}, keyIs k v = true → (∃ i t, k = Sum.inl i ∧ v = Value.int i t) ∨ (∃ x t, k = Sum.inr x ∧ v = Value.str x t)
  | .inl i, v, h => by
    obtain ⟨t, e⟩ := Value.isInt_shape (k := i) (v := v) h
    exact .inl ⟨i, t, rfl, e⟩
  | .inr x, v, h => by
    obtain ⟨t, e⟩ := Value.isStrOf_shape (x := x) (v := v) h
    exact .inr ⟨x, t, rfl, e⟩
theorem key_ll (a b : Int) : decide ((Sum.inl a : Key) = Sum.inl b) = (a == b) := by
  by_cases e : a = b
  · subst e; simp
  · have h : ¬ (Sum.inl a : Key) = Sum.inl b := fun q => e (Sum.inl.inj q)
    rw [decide_eq_false h]
    exact (beq_eq_false_iff_ne.mpr e).symm
theorem key_rr (a b : Str) : decide ((Sum.inr a : Key) = Sum.inr b) = decide (a = b) := by
  by_cases e : a = b
  · subst e; simp
  · have h : ¬ (Sum.inr a : Key) = Sum.inr b := fun q => e (Sum.inr.inj q)
    rw [decide_eq_false h, decide_eq_false e]
theorem key_lr (a : Int) (b : Str) : decide ((Sum.inl a : Key) = Sum.inr b) = false := decide_eq_false (fun q => nomatch q)
theorem key_rl (a : Str) (b : Int) : decide ((Sum.inr a : Key) = Sum.inl b) = false := decide_eq_false (fun q => nomatch q)
def mixKind (prog : Program) (w : World) : PySem.KeyKind prog w Key where
  is := keyIs
  hash := keyH w
  inj := fun v a b ha hb => by
    rcases keyIs_shape ha with ⟨i, t, rfl, rfl⟩ | ⟨x, t, rfl, rfl⟩
    · rcases keyIs_shape hb with ⟨j, u, rfl, e⟩ | ⟨y, u, rfl, e⟩
      · injection e with e1 _; rw [e1]
      · exact nomatch e
    · rcases keyIs_shape hb with ⟨j, u, rfl, e⟩ | ⟨y, u, rfl, e⟩
      · exact nomatch e
      · injection e with e1 _; rw [e1]
  byValue := fun k v h => by
    rcases keyIs_shape h with ⟨i, t, rfl, rfl⟩ | ⟨x, t, rfl, rfl⟩ <;> rfl
  pyHash := fun hv h => by
    rcases keyIs_shape hv with ⟨i, t, rfl, rfl⟩ | ⟨x, t, rfl, rfl⟩
    · exact wpAny_pyHash_int h
    · exact wpAny_pyHash_str h
  eqBool := fun hu hv h => by
    rcases keyIs_shape hu with ⟨i, t, rfl, rfl⟩ | ⟨x, t, rfl, rfl⟩
    · rcases keyIs_shape hv with ⟨j, u, rfl, rfl⟩ | ⟨y, u, rfl, rfl⟩
      · rw [key_ll] at h; exact wpAny_eqBool_int h
      · rw [key_lr] at h; exact SeqAt.EqAt.int_str i t y u _ _ _ _ h
    · rcases keyIs_shape hv with ⟨j, u, rfl, rfl⟩ | ⟨y, u, rfl, rfl⟩
      · rw [key_rl] at h; exact SeqAt.EqAt.str_int x t j u _ _ _ _ h
      · rw [key_rr] at h; exact wpAny_eqBool_str h
  «strs» := fun k x t v h => by
    rcases keyIs_shape h with ⟨i, u, rfl, e⟩ | ⟨y, u, rfl, e⟩
    · exact nomatch e
    · injection e with e1 _
      subst e1
      cases v <;> rfl
end L2
namespace L2
open PySem PySem.Spec PyProof.Rows
inductive V where
  | non | bl (b : Bool) | int (i : Int) | str (x : Str) | byt (b : Array UInt8) | flt (b : UInt64) | ref (a : Addr) | ty (n : String)
  deriving DecidableEq
def RelV : V → Value → Prop
  | .non, u => u = Value.none
  | .bl b, u => u = Value.bool b
  | .int i, u => ∃ t, u = Value.int i t
  | .str x, u => ∃ t, u = Value.str x t
  | .byt b, u => ∃ t, u = Value.bytes b t
  | .flt b, u => ∃ t, u = Value.float b t
  | .ref a, u => u = Value.ref a
  | .ty n, u => u = Value.type n
abbrev Vals : List V → List Value → Prop := Paired RelV
theorem Vals.length {xs : List V} {us : List Value} (r : Vals xs us) : xs.length = us.length := Paired.length r
theorem Vals.get : ∀ {xs : List V} {us : List Value} {i : Nat} {x : V}, Vals xs us → xs[i]? = some x → ∃ u, us[i]? = some u ∧ RelV x u
  | _, _, _, _, .nil, e => by simp at e
  | _, _, 0, _, .cons r _, e => by simp at e; subst e; exact ⟨_, rfl, r⟩
  | _, _, i + 1, x, .cons _ t, e => by
    obtain ⟨u, h1, h2⟩ := Vals.get (i := i) (x := x) t (by simpa using e)
    exact ⟨u, by simpa using h1, h2⟩
theorem Vals.set {x : V} {u : Value} (r : RelV x u) : ∀ {xs : List V} {us : List Value} (i : Nat), Vals xs us → Vals (xs.set i x) (us.set i u)
  | _, _, _, .nil => .nil
  | _, _, 0, .cons _ t => .cons r t
  | _, _, i + 1, .cons q t => .cons q (Vals.set r i t)
theorem Vals.append : ∀ {xs ys : List V} {us ws : List Value}, Vals xs us → Vals ys ws → Vals (xs ++ ys) (us ++ ws)
  | _, _, _, _, .nil, s => s
  | _, _, _, _, .cons r t, s => .cons r (Vals.append t s)
theorem Vals.take : ∀ {xs : List V} {us : List Value} (n : Nat), Vals xs us → Vals (xs.take n) (us.take n)
  | _, _, 0, _ => .nil
  | _, _, _ + 1, .nil => .nil
  | _, _, n + 1, .cons r t => .cons r (Vals.take n t)
theorem Vals.drop : ∀ {xs : List V} {us : List Value} (n : Nat), Vals xs us → Vals (xs.drop n) (us.drop n)
  | _, _, 0, r => r
  | _, _, _ + 1, .nil => .nil
  | _, _, n + 1, .cons _ t => Vals.drop n t
theorem Vals.none_of : ∀ {xs : List V} {us : List Value} {i : Nat}, Vals xs us → xs[i]? = none → us[i]? = none := fun {xs us i} r e => by
  have h1 := r.length
  have h2 : xs.length ≤ i := List.getElem?_eq_none_iff.mp e
  exact List.getElem?_eq_none_iff.mpr (by omega)
def RelO : Option V → Option Value → Prop
  | some v, some u => RelV v u
  | none, none => True
  | _, _ => False
def KV {κ : Type} : List (κ × V) → List (κ × Value) → Prop := Paired fun (p : κ × V) (q : κ × Value) => p.1 = q.1 ∧ RelV p.2 q.2
def kV : Key → V
  | .inl i => .int i
  | .inr x => .str x
inductive HO where
  /-- a list -/
  | lst (xs : List V)
  /-- a tuple (never changes) -/
  | tup (xs : List V)
  /-- a dict whose keys are ints and texts; one whose keys are tuples of ints and texts (the empty one is both) -/
  | dK (kvs : List (Key × V)) | dT (kvs : List (List Key × V))
  /-- a set of ints: its members, its size -/
  | set (S : Int → Bool) (n : Nat)
  /-- an instance of the class at C, its dict at dx, its attributes -/
  | ins (C dx : Addr) (fs : List (Str × V))
  /-- the dict of the instance at x -/
  | own (x : Addr)
  /-- the dict of an exception -/
  | xd (fs : List (Str × V))
  /-- a bound method, f of x -/
  | met (f x : Addr)
  /-- a range object lo, lo + 1, .. below hi -/
  | rng (lo hi : Int)
  /-- a thing that is known to the object (the script; a dict while a loop walks it): read, never written while it is so -/
  | frz (o : Obj) (u : HO)
  /-- a code object's table -/
  | tbl (ps : Array Value)
  /-- any other thing, by what is true of its one object (a def of one's own: SetO a S n := HO.ext fun h => ..) -/
  | ext (φ : Heap → Prop)
abbrev Hp := Addr → Option HO
def upd (H : Hp) (a : Addr) (o : HO) : Hp := fun b => if b = a then some o else H b
theorem upd_same {H : Hp} {a : Addr} {o : HO} : upd H a o a = some o := by unfold upd; rw [if_pos rfl]
theorem upd_ne {H : Hp} {a b : Addr} {o : HO} (h : b ≠ a) : upd H a o b = H b := by unfold upd; rw [if_neg h]
theorem ne_of_none {H : Hp} {a b : Addr} {o : HO} (h : H a = some o) (h' : H b = none) : a ≠ b := by
  intro e; subst e; rw [h] at h'; cases h'
section
variable (P : Program) (w : World)
def ObjOk (H : Hp) (h : Heap) (a : Addr) : HO → Prop
  | .lst xs => xs.length ≤ sizeLine ∧ ∃ (its : List Value) (n : Nat), Vals xs its ∧ h.get? a = some { cls := .type "list", data := .seq its.toArray n }
  | .tup xs => xs.length ≤ sizeLine ∧ ∃ its : List Value, Vals xs its ∧ IsTup h a its.toArray
  | .dK kvs => kvs.length ≤ sizeLine ∧ (a == sysModules) = false ∧ ∃ vs, KV kvs vs ∧ h.DictOf (mixKind P w) a vs
  | .dT kvs => kvs.length ≤ sizeLine ∧ (a == sysModules) = false ∧ ∃ xs : List (List Key × Addr × Value),
      Paired (fun (p : List Key × V) (q : List Key × Addr × Value) => p.1 = q.1 ∧ H q.2.1 = some (.tup (p.1.map kV)) ∧ RelV p.2 q.2.2) kvs xs ∧
      ∃ o es ep, h.get? a = some o ∧ o.ExactDict ∧ o.data = .dict es ep ∧ es.toList = xs.map (entryOfKey (tupleKind (mixKind P w))) ∧ (xs.map (·.1)).Nodup
  | .set S n => h.SetOf (intKind P w) a S n
  | .ins C dx fs => H dx = some (.own a) ∧ fs.length ≤ 1000 ∧ dx ≠ a ∧ h.get? a = some (PySem.W.instObj C dx) ∧
      ∃ mA, h.Ns1 dx mA ∧ (∀ f, RelO (fs.lookup f) (mA f)) ∧ PySem.Within mA (fs.map (·.1))
  | .own _ => ∃ o, h.get? a = some o
  | .xd fs => ∃ mA, h.Ns1 a mA ∧ ∀ f, RelO (fs.lookup f) (mA f)
  | .rng lo hi => ∃ t u v, h.get? a = some { cls := .type "range", data := .fields #[.int lo t, .int hi u, .int 1 v] }
  | .frz o u => h.get? a = some o ∧ ObjOk H h a u
  | .tbl ps => h.get? a = some { cls := .none, data := .fields ps }
  | .met f x => h.get? a = some (PySem.W.methodObj (.ref f) (.ref x))
  | .ext φ => φ h ∧ (∃ o, h.get? a = some o) ∧ ∀ h1 h2 : Heap, φ h1 → (∀ o, h1.get? a = some o → h2.get? a = some o) → φ h2
def HOk (H : Hp) (h : Heap) : Prop := ∀ a o, H a = some o → ObjOk P w H h a o
end
section
variable {P : Program} {w : World} {H H' : Hp} {h h' : Heap} {a : Addr} {o : HO}
theorem ObjOk.lt (x : ObjOk P w H h a o) : a < h.objs.size := by
  cases o with
  | lst xs => obtain ⟨_, _, _, _, e⟩ := x; exact Heap.lt_size e
  | tup xs => obtain ⟨_, _, _, p⟩ := x; exact p.lt
  | dK kvs => obtain ⟨_, _, _, _, o, _, _, e, _⟩ := x; exact Heap.lt_size e
  | dT kvs => obtain ⟨_, _, _, _, o, _, _, e, _⟩ := x; exact Heap.lt_size e
  | set S n => obtain ⟨o, _, _, _, e, _⟩ := x; exact Heap.lt_size e
  | ins C dx fs => obtain ⟨_, _, _, e, _⟩ := x; exact Heap.lt_size e
  | own y => obtain ⟨_, e⟩ := x; exact Heap.lt_size e
  | xd fs => obtain ⟨_, ⟨_, _, _, e, _⟩, _⟩ := x; exact Heap.lt_size e
  | rng lo hi => obtain ⟨_, _, _, e⟩ := x; exact Heap.lt_size e
  | frz ob u => obtain ⟨e, _⟩ := x; exact Heap.lt_size e
  | tbl ps => exact Heap.lt_size (show h.get? a = some _ from x)
  | met f y => exact Heap.lt_size (show h.get? a = some _ from x)
  | ext φ => obtain ⟨_, ⟨_, e⟩, _⟩ := x; exact Heap.lt_size e
theorem Paired.mapP {α β : Type} {F G : α → β → Prop} : ∀ {l₁ : List α} {l₂ : List β}, Paired F l₁ l₂ → (∀ a b, F a b → G a b) → Paired G l₁ l₂
  | _, _, .nil, _ => .nil
  | _, _, .cons r t, f => .cons (f _ _ r) (Paired.mapP t f)
theorem ObjOk.stay (x : ObjOk P w H h a o) (k : ∀ b u, (b = a ∨ H b = some (.own a)) → h.get? b = some u → h'.get? b = some u)
    (ho : ∀ b, H b = some (.own a) → H' b = some (.own a)) (ht : ∀ b xs, H b = some (.tup xs) → H' b = some (.tup xs)) : ObjOk P w H' h' a o := by
  induction o with
  | lst xs => obtain ⟨z, its, n, r, e⟩ := x; exact ⟨z, its, n, r, k _ _ (.inl rfl) e⟩
  | tup xs => obtain ⟨z, its, r, ob, e, c⟩ := x; exact ⟨z, its, r, ob, k _ _ (.inl rfl) e, c⟩
  | dK kvs => obtain ⟨z, y, vs, r, ob, es, ep, e, c⟩ := x; exact ⟨z, y, vs, r, ob, es, ep, k _ _ (.inl rfl) e, c⟩
  | dT kvs =>
    obtain ⟨z, y, xs, r, ob, es, ep, e, c⟩ := x
    exact ⟨z, y, xs, Paired.mapP r fun p q z => ⟨z.1, ht _ _ z.2.1, z.2.2⟩, ob, es, ep, k _ _ (.inl rfl) e, c⟩
  | set S n => obtain ⟨ob, es, ep, t, e, c⟩ := x; exact ⟨ob, es, ep, t, k _ _ (.inl rfl) e, c⟩
  | ins C dx fs =>
    obtain ⟨d, z, ne, e, mA, ⟨od, es, ep, e2, c⟩, r⟩ := x
    exact ⟨ho _ d, z, ne, k _ _ (.inl rfl) e, mA, ⟨od, es, ep, k _ _ (.inr d) e2, c⟩, r⟩
  | own y => obtain ⟨ob, e⟩ := x; exact ⟨ob, k _ _ (.inl rfl) e⟩
  | xd fs => obtain ⟨mA, ⟨od, es, ep, e, c⟩, r⟩ := x; exact ⟨mA, ⟨od, es, ep, k _ _ (.inl rfl) e, c⟩, r⟩
  | rng lo hi => obtain ⟨t, u, v, e⟩ := x; exact ⟨t, u, v, k _ _ (.inl rfl) e⟩
  | frz ob u ih => obtain ⟨e, q⟩ := x; exact ⟨k _ _ (.inl rfl) e, ih q⟩
  | tbl ps =>
    have e : h.get? a = some { cls := .none, data := .fields ps } := x
    show h'.get? a = some { cls := .none, data := .fields ps }
    exact k a _ (.inl rfl) e
  | met f y =>
    have e : h.get? a = some (PySem.W.methodObj (.ref f) (.ref y)) := x
    show h'.get? a = some (PySem.W.methodObj (.ref f) (.ref y))
    exact k a _ (.inl rfl) e
  | ext φ => obtain ⟨p, ⟨o, e⟩, st⟩ := x; exact ⟨st _ _ p fun o q => k _ _ (.inl rfl) q, ⟨o, k _ _ (.inl rfl) e⟩, st⟩
theorem HOk.lt (x : HOk P w H h) (e : H a = some o) : a < h.objs.size := (x a o e).lt
theorem HOk.fresh (x : HOk P w H h) (e : h.objs.size ≤ a) : H a = none := by
  cases q : H a with
  | none => rfl
  | some u => exact absurd (Nat.lt_of_lt_of_le (x.lt q) e) (Nat.lt_irrefl _)
theorem HOk.kept (x : HOk P w H h) (k : ∀ b u, h.get? b = some u → h'.get? b = some u) : HOk P w H h' := fun a o e =>
  (x a o e).stay (fun b u _ q => k b u q) (fun _ q => q) fun _ _ q => q
theorem HOk.laid (x : HOk P w H h) (k : ∀ b u, h.get? b = some u → h'.get? b = some u) (hp : h.objs.size ≤ a) (new : ObjOk P w (upd H a o) h' a o) : HOk P w (upd H a o) h' := fun b u e => by
  have hn := x.fresh hp
  by_cases hb : b = a
  · subst hb; rw [upd_same] at e; cases e; exact new
  · rw [upd_ne hb] at e
    exact (x b u e).stay (fun c v _ q => k c v q) (fun c q => by rw [upd_ne (ne_of_none q hn)]; exact q) fun c xs q => by rw [upd_ne (ne_of_none q hn)]; exact q
end
def Rd (H : Hp) (a : Addr) (u : HO) : Prop := H a = some u ∨ ∃ o, H a = some (.frz o u)
theorem Rd.of {H : Hp} {a : Addr} {u : HO} (h : H a = some u) : Rd H a u := .inl h
theorem Rd.ok {P : Program} {w : World} {H : Hp} {h : Heap} {a : Addr} {u : HO} (r : Rd H a u) (x : HOk P w H h) : ObjOk P w H h a u := by
  rcases r with r | ⟨o, r⟩
  · exact x a u r
  · obtain ⟨_, q⟩ := x a _ r
    exact q
def Mut : Option HO → Prop
  | some (.lst _) => True
  | some (.dK _) => True
  | some (.dT _) => True
  | some (.set _ _) => True
  | some (.ins _ _ _) => True
  | some (.ext _) => True
  | _ => False
section
variable {P : Program} {w : World} {H : Hp} {h h' : Heap} {x e : Addr} {o' : HO}
theorem HOk.write (ok : HOk P w H h) (mu : Mut (H x)) (he : e = x ∨ H e = some (.own x)) (k : ∀ b u, b ≠ e → h.get? b = some u → h'.get? b = some u) (heo : ∃ u, h'.get? e = some u)
    (new : ObjOk P w (upd H x o') h' x o') : HOk P w (upd H x o') h' := fun b u q => by
  have nown : ∀ c y, H c = some (.own y) → c ≠ x := fun c y r z => by subst z; rw [r] at mu; exact mu
  have ntup : ∀ c xs, H c = some (.tup xs) → c ≠ x := fun c xs r z => by subst z; rw [r] at mu; exact mu
  by_cases hb : b = x
  · subst hb; rw [upd_same] at q; cases q; exact new
  · rw [upd_ne hb] at q
    by_cases hbe : b = e
    · have q' : H b = some (.own x) := by
        rcases he with z | z
        · exact absurd (hbe.trans z) hb
        · rw [hbe]; exact z
      rw [q] at q'; cases q'
      obtain ⟨v, hv⟩ := heo
      exact ⟨v, by rw [hbe]; exact hv⟩
    · refine (ok b u q).stay (fun c v hc r => k c v ?_ r) (fun c r => by rw [upd_ne (nown c b r)]; exact r) fun c xs r => by rw [upd_ne (ntup c xs r)]; exact r
      rcases hc with rfl | hc
      · exact hbe
      · rintro rfl
        rcases he with z | z
        · exact nown c b hc z
        · rw [hc] at z; cases z; exact hb rfl
end
structure Un (fs ex : List Addr) (H H' : Hp) (h h' : Heap) : Prop where
  keep : ∀ b o, h.get? b = some o → H b = none → b ∉ fs → b ∉ ex → h'.get? b = some o
  slot : ∀ b o, h.get? b = some o → H b = none → b ∈ fs → b ∉ ex → ∃ sl, h'.get? b = some { o with slots := sl }
  free : ∀ b o, h.get? b = some o → H b = none → b ∉ ex → H' b = none
  there : ∀ b o, h.get? b = some o → b ∉ ex → ∃ o', h'.get? b = some o'
  tups : ∀ b xs, H b = some (.tup xs) → H' b = some (.tup xs)
  frzs : ∀ b o u, H b = some (.frz o u) → H' b = some (.frz o u)
  tbls : ∀ b ps, H b = some (.tbl ps) → ∃ more, H' b = some (.tbl (ps ++ more))
section
variable {fs fs' ex ex' : List Addr} {H H1 H2 : Hp} {h h1 h2 h' : Heap} {a x e : Addr} {o : HO}
theorem Un.any (u : Un fs ex H H1 h h1) {b : Addr} {ob : Obj} (q : h.get? b = some ob) (n : H b = none) (hx : b ∉ ex) : ∃ sl, h1.get? b = some { ob with slots := sl } := by
  by_cases hb : b ∈ fs
  · exact u.slot b ob q n hb hx
  · exact ⟨ob.slots, u.keep b ob q n hb hx⟩
theorem Un.trans (a : Un fs ex H H1 h h1) (b : Un fs ex H1 H2 h1 h2) : Un fs ex H H2 h h2 where
  keep := fun c ob q n hc hx => b.keep c ob (a.keep c ob q n hc hx) (a.free c ob q n hx) hc hx
  slot := fun c ob q n hc hx => by
    obtain ⟨sl, e1⟩ := a.slot c ob q n hc hx
    obtain ⟨sl', e2⟩ := b.slot c _ e1 (a.free c ob q n hx) hc hx
    exact ⟨sl', e2⟩
  free := fun c ob q n hx => by
    obtain ⟨o', e1⟩ := a.there c ob q hx
    exact b.free c o' e1 (a.free c ob q n hx) hx
  there := fun c ob q hx => by
    obtain ⟨o', e1⟩ := a.there c ob q hx
    exact b.there c o' e1 hx
  tups := fun c xs q => b.tups c xs (a.tups c xs q)
  frzs := fun c ob xs q => b.frzs c ob xs (a.frzs c ob xs q)
  tbls := fun c ps q => by
    obtain ⟨m1, e1⟩ := a.tbls c ps q
    obtain ⟨m2, e2⟩ := b.tbls c _ e1
    exact ⟨m1 ++ m2, by rw [e2, Array.append_assoc]⟩
theorem Un.kept (k : ∀ b u, h.get? b = some u → h'.get? b = some u) : Un fs ex H H h h' :=
  ⟨fun b ob q _ _ _ => k b ob q, fun b ob q _ _ _ => ⟨ob.slots, k b ob q⟩, fun _ _ _ n _ => n, fun b ob q _ => ⟨ob, k b ob q⟩, fun _ _ q => q, fun _ _ _ q => q, fun _ ps q => ⟨#[], by rw [q]; simp⟩⟩
theorem Un.refl : Un fs ex H H h h := Un.kept fun _ _ q => q
theorem Un.laid (k : ∀ b u, h.get? b = some u → h'.get? b = some u) (hp : h.objs.size ≤ a) (hn : H a = none) : Un fs ex H (upd H a o) h h' where
  keep := fun b u q _ _ _ => k b u q
  slot := fun b u q _ _ _ => ⟨u.slots, k b u q⟩
  free := fun b u q n _ => by rw [upd_ne (Nat.ne_of_lt (Nat.lt_of_lt_of_le (Heap.lt_size q) hp))]; exact n
  there := fun b u q _ => ⟨u, k b u q⟩
  tups := fun b xs q => by rw [upd_ne (ne_of_none q hn)]; exact q
  frzs := fun b u xs q => by rw [upd_ne (ne_of_none q hn)]; exact q
  tbls := fun b ps q => ⟨#[], by rw [upd_ne (ne_of_none q hn), q]; simp⟩
theorem Un.write (mu : Mut (H x)) (he : e = x ∨ H e = some (.own x)) (k : ∀ b u, b ≠ e → h.get? b = some u → h'.get? b = some u) (heo : ∃ u, h'.get? e = some u) : Un fs ex H (upd H x o) h h' := by
  have hx : ∀ b, H b = none → b ≠ x := fun b n z => by subst z; rw [n] at mu; exact mu
  have hb : ∀ b, H b = none → b ≠ e := fun b n z => by
    subst z
    rcases he with r | r
    · exact hx b n r
    · rw [n] at r; cases r
  have hm : ∀ b u, H b = some u → ¬ Mut (some u) → b ≠ x := fun b u q nm z => by subst z; rw [q] at mu; exact nm mu
  refine ⟨fun b u q n _ _ => k b u (hb b n) q, fun b u q n _ _ => ⟨u.slots, k b u (hb b n) q⟩, fun b u q n _ => by rw [upd_ne (hx b n)]; exact n, fun b u q _ => ?_,
    fun b xs q => by rw [upd_ne (hm b _ q fun z => z)]; exact q, fun b u xs q => by rw [upd_ne (hm b _ q fun z => z)]; exact q, fun b ps q => ⟨#[], by rw [upd_ne (hm b _ q fun z => z), q]; simp⟩⟩
  by_cases hbe : b = e
  · subst hbe; exact heo
  · exact ⟨u, k b u hbe q⟩
theorem Un.mono (u : Un fs ex H H1 h h1) (hs : ∀ b ∈ fs, b ∈ fs') (hx : ∀ b ∈ ex, b ∈ ex') : Un fs' ex' H H1 h h1 :=
  ⟨fun b ob q n hb he => u.keep b ob q n (fun z => hb (hs b z)) fun z => he (hx b z), fun _ _ q n _ he => u.any q n fun z => he (hx _ z), fun b ob q n he => u.free b ob q n fun z => he (hx b z), fun b ob q he => u.there b ob q fun z => he (hx b z), u.tups, u.frzs, u.tbls⟩
end
def trk (h : Heap) (H : Hp) : List Addr := (List.range h.objs.size).filter fun a => (H a).isSome
def hidT (h : Heap) (H : Hp) : Heap := PySem.W.hideAll h (trk h H)
theorem hidT_size (h : Heap) (H : Hp) : (hidT h H).objs.size = h.objs.size := PySem.W.hideAll_size _ _
theorem hidT_get {h : Heap} {H : Hp} {b : Addr} {o : Obj} (e : h.get? b = some o) (n : H b = none) : (hidT h H).get? b = some o :=
  PySem.W.hideAll_get _ e fun hm => by
    have q : (H b).isSome = true := (List.mem_filter.mp hm).2
    rw [n] at q; simp at q
theorem of_hidT {h : Heap} {H : Hp} {b : Addr} {o : Obj} (e : (hidT h H).get? b = some o) : h.get? b = some o ∧ H b = none := by
  have e' : h.get? b = some o := PySem.W.of_hideAll (trk h H) e
  refine ⟨e', ?_⟩
  cases q : H b with
  | none => rfl
  | some x =>
    have hm : b ∈ trk h H := List.mem_filter.mpr ⟨List.mem_range.mpr (Heap.lt_size e'), by simp [q]⟩
    have z : (hidT h H).get? b = none := PySem.W.hideAll_none (trk h H) hm
    rw [z] at e; cases e
def allNews (g h : Heap) (L : Addr) : List (Addr × Obj) := (List.range h.objs.size).filterMap fun a => if a = L ∨ (g.get? a).isSome = true then none else (h.get? a).map fun o => (a, o)
def rest (g h : Heap) (L d : Addr) : List (Addr × Obj) := (allNews g h L).filter fun p => decide (p.1 ≠ d)
end L2
namespace L2
open PySem PySem.Spec PyProof.Rows
structure Mod (K : PySem.W.Frag) (mg : Str → Option Value) (base : Heap) : Prop where
  kin : K.In base
  glob : base.Ns mainGlobals mg
  blt : ∃ mb, base.Ns builtinsNs mb ∧ ∀ x : Str, x ≠ "__name__" → mb x = bootBuiltins x
  nolimit : base.NoLimit
structure Cx where
  prog : Program
  w : World
  K : PySem.W.Frag
  mg : Str → Option Value
  base : Heap
  A : Around
  N : List Str
  s_0 : Shared
  H_0 : Hp
  env : Env
  outer : List Env
  stack : List Env
  ex : List Addr
  fn : Str → Bool
  calm : Bool
  pn : List (Addr × Obj)
  xe : Value → Shared → Prop
def frs (l : List Env) : List Addr := l.filterMap (·.frame)
abbrev Cx.fs (X : Cx) : List Addr := frs X.outer
def Vis (sc : Scope) (x : Str) : Prop := sc.names.lookup x = some .local ∨ sc.names.lookup x = some .cell ∨ sc.names.lookup x = some .free
def Loc (sc : Scope) (x : Str) : Prop := sc.names.lookup x = some .local ∨ sc.names.lookup x = some .cell
def Look (env : Env) (h : Heap) (m : Str → Option Value) (x : Str) (u : Value) : Prop :=
  (env.kindOf x = some .local ∧ m x = some u) ∨ ((env.kindOf x = some .cell ∨ env.kindOf x = some .free) ∧ ∃ c, env.cells.lookup x = some c ∧ h.IsCell c (some u))
structure Cx.Ok (X : Cx) : Prop where
  mod : Mod X.K X.mg X.base
  kind : X.env.scope.kind = .function
  glob : X.env.globals = mainGlobals
  blt : X.env.builtins = builtinsNs
  above : X.s_0.heap.objs.size ≤ X.env.locals
  inj : ∀ x y c, X.env.cells.lookup x = some c → X.env.cells.lookup y = some c → x = y
  has : ∀ x, (X.env.kindOf x = some .cell ∨ X.env.kindOf x = some .free) → ∃ c, X.env.cells.lookup x = some c
  cab : ∀ x c, X.fn x = true → X.env.cells.lookup x = some c → X.s_0.heap.objs.size ≤ c
  hd : X.calm = true → X.A.handled = none
  frames : X.A.frames = some X.stack
  stk : X.stack = X.outer ∨ (X.stack = X.env :: X.outer ∧ X.env.frame = some X.env.locals)
  exf : ∀ b ∈ X.ex, b ≠ X.env.locals ∧ ∀ x c, X.env.cells.lookup x = some c → c ≠ b
  bs : ∀ b o, X.base.get? b = some o → X.s_0.heap.get? b = some o ∧ X.H_0 b = none
  bsz : X.base.objs.size ≤ X.s_0.heap.objs.size
  noex : ∀ b o, X.base.get? b = some o → b ∉ X.ex
  exfs : ∀ b ∈ X.ex, b ∉ X.fs
  funs : X.s_0.heap.FunFrames X.base X.outer
  frf : ∀ b ∈ X.fs, X.H_0 b = none
structure Inv (X : Cx) (pins : List (Addr × Obj)) (σ : List (Option V)) (H : Hp) (s : Shared) : Prop where
  ok : X.Ok
  os : s.os = X.s_0.os
  bare : AllBare s.gens
  base : Un X.fs X.ex X.H_0 H X.s_0.heap s.heap
  loc : ∃ m, s.heap.Ns X.env.locals m ∧ ∀ (i : Nat) (x : Str) (v : V), X.N[i]? = some x → σ[i]? = some (some v) → Vis X.env.scope x → ∃ u, RelV v u ∧ Look X.env s.heap m x u
  cell : ∀ x c, X.env.cells.lookup x = some c → ∃ v, s.heap.IsCell c v
  free : H X.env.locals = none
  freeC : ∀ x c, X.env.cells.lookup x = some c → H c = none
  pin : ∀ p ∈ X.pn ++ pins, s.heap.get? p.1 = some p.2 ∧ H p.1 = none ∧ p.1 ≠ X.env.locals ∧ p.1 ∉ X.fs ∧ ∀ v, p.2.data ≠ .cell v
  hok : HOk X.prog X.w H s.heap
  len : σ.length = X.N.length
section
variable {X : Cx} {pins : List (Addr × Obj)} {σ : List (Option V)} {H H' : Hp} {s : Shared} {h' : Heap}
theorem Cx.Ok.nofr (ok : X.Ok) {b : Addr} {o : Obj} (e : X.base.get? b = some o) : b ∉ X.fs := fun hb => by
  have := (ok.funs.mem hb).1
  rw [e] at this; cases this
theorem Inv.bs (I : Inv X pins σ H s) : ∀ b o, X.base.get? b = some o → s.heap.get? b = some o ∧ H b = none := fun b o e =>
  ⟨I.base.keep b o (I.ok.bs b o e).1 (I.ok.bs b o e).2 (I.ok.nofr e) (I.ok.noex b o e), I.base.free b o (I.ok.bs b o e).1 (I.ok.bs b o e).2 (I.ok.noex b o e)⟩
theorem Inv.bk (I : Inv X pins σ H s) : ∀ b o, X.base.get? b = some o → s.heap.get? b = some o := fun b o e => (I.bs b o e).1
theorem Inv.mod (I : Inv X pins σ H s) : Mod X.K X.mg X.base := I.ok.mod
theorem Inv.kIn (I : Inv X pins σ H s) : X.K.In s.heap := I.ok.mod.kin.keeps I.bk
theorem Inv.nolimit (I : Inv X pins σ H s) : s.heap.NoLimit := I.ok.mod.nolimit.keeps I.bk
theorem Inv.lt (I : Inv X pins σ H s) : X.env.locals < s.heap.objs.size := let ⟨_, hn, _⟩ := I.loc; hn.lt
theorem Inv.sz (I : Inv X pins σ H s) : X.s_0.heap.objs.size ≤ s.heap.objs.size := Nat.le_trans I.ok.above (Nat.le_of_lt I.lt)
theorem Inv.nofs (I : Inv X pins σ H s) {a : Addr} (h : s.heap.objs.size ≤ a) : a ∉ X.fs := fun hb => by
  obtain ⟨_, o, ho, _⟩ := I.ok.funs.mem hb
  exact absurd (Nat.lt_of_lt_of_le (Heap.lt_size ho) (Nat.le_trans I.sz h)) (Nat.lt_irrefl _)
theorem Inv.cne (I : Inv X pins σ H s) : ∀ x c, X.env.cells.lookup x = some c → c ≠ X.env.locals := fun x c e z => by
  obtain ⟨v, o, ho, hd⟩ := I.cell x c e
  obtain ⟨m, ⟨o', es, ep, ho', hd', _⟩, _⟩ := I.loc
  rw [z, ho'] at ho; cases ho; rw [hd'] at hd; cases hd
theorem Inv.funs (I : Inv X pins σ H s) : s.heap.FunFrames X.base X.outer := by
  have all : ∀ (l : List Env), (∀ b ∈ frs l, b ∈ X.fs) → X.s_0.heap.FunFrames X.base l → s.heap.FunFrames X.base l := by
    intro l
    induction l with
    | nil => intro _ _; trivial
    | cons env r ih =>
      intro hs hl
      obtain ⟨hk, ⟨L, o, hf, hn, ho, hd⟩, hr⟩ := hl
      have hL : L ∈ X.fs := hs L (by unfold frs; rw [List.filterMap_cons, hf]; exact List.mem_cons_self)
      obtain ⟨sl, e⟩ := I.base.slot L o ho (I.ok.frf L hL) hL fun z => I.ok.exfs L z hL
      exact ⟨hk, ⟨L, _, hf, hn, e, hd⟩, ih (fun b hb => hs b (by unfold frs; rw [List.filterMap_cons, hf]; exact List.mem_cons_of_mem _ hb)) hr⟩
  exact all X.outer (fun _ hb => hb) I.ok.funs
theorem Inv.stack (I : Inv X pins σ H s) : s.heap.FunFrames X.base X.stack := by
  rcases I.ok.stk with e | ⟨e, hf⟩
  · rw [e]; exact I.funs
  · rw [e]
    obtain ⟨m, hn, _⟩ := I.loc
    refine .cons (by rw [I.ok.kind]; decide) hf hn ?_ I.funs
    exact Heap.get?_none_of_le (Nat.le_trans I.ok.bsz I.ok.above)
theorem Inv.stkSub (I : Inv X pins σ H s) : ∀ b ∈ frs X.stack, b ∈ X.env.locals :: X.fs := fun b hb => by
  rcases I.ok.stk with e | ⟨e, hf⟩
  · rw [e] at hb; exact List.mem_cons_of_mem _ hb
  · rw [e] at hb
    unfold frs at hb
    rw [List.filterMap_cons, hf] at hb
    exact hb
theorem Inv.stkFree (I : Inv X pins σ H s) : ∀ b ∈ frs X.stack, H b = none := fun b hb => by
  rcases List.mem_cons.mp (I.stkSub b hb) with e | hb
  · rw [e]; exact I.free
  · obtain ⟨_, o, ho, _⟩ := I.ok.funs.mem hb
    exact I.base.free b o ho (I.ok.frf b hb) fun z => I.ok.exfs b z hb
theorem Inv.step {g' : Array GenState} {t' : Nat} {d' : Drawn} {ch : List Addr} (I : Inv X pins σ H s)
    (hch : ∀ b ∈ ch, (b ∈ X.ex ∨ X.s_0.heap.objs.size ≤ b) ∧ b ≠ X.env.locals ∧ (∀ x c, X.env.cells.lookup x = some c → c ≠ b) ∧ ∀ p ∈ X.pn ++ pins, p.1 ≠ b)
    (keep : ∀ b o, b ≠ X.env.locals → b ∉ X.fs → b ∉ ch → s.heap.get? b = some o → H b = none → h'.get? b = some o)
    (slot : ∀ b o, b ≠ X.env.locals → b ∈ X.fs → b ∉ ch → s.heap.get? b = some o → H b = none → ∃ sl, h'.get? b = some { o with slots := sl }) (free : ∀ b o, b ∉ ch → s.heap.get? b = some o → H b = none → H' b = none)
    (there : ∀ b o, b ∉ ch → s.heap.get? b = some o → ∃ o', h'.get? b = some o')
    (tups : ∀ b xs, H b = some (.tup xs) → H' b = some (.tup xs)) (frzs : ∀ b o u, H b = some (.frz o u) → H' b = some (.frz o u)) (tbls : ∀ b ps, H b = some (.tbl ps) → ∃ more, H' b = some (.tbl (ps ++ more)))
    (ns : ∀ m, s.heap.Ns X.env.locals m → h'.Ns X.env.locals m) (hok : HOk X.prog X.w H' h') (hg : AllBare g') :
    Inv X pins σ H' { s with heap := h', gens := g', drawn := d', toks := t' } := by
  have neL : ∀ b o, X.s_0.heap.get? b = some o → b ≠ X.env.locals := fun b o e => Nat.ne_of_lt (Nat.lt_of_lt_of_le (Heap.lt_size e) I.ok.above)
  have neC : ∀ b o, X.s_0.heap.get? b = some o → b ∉ X.ex → b ∉ ch := fun b o e hx hb => by
    rcases (hch b hb).1 with z | z
    · exact hx z
    · exact absurd (Nat.lt_of_lt_of_le (Heap.lt_size e) z) (Nat.lt_irrefl _)
  have cellK : ∀ x c, X.env.cells.lookup x = some c → ∀ v, s.heap.IsCell c v → h'.IsCell c v := fun x c e v ⟨o, ho, hd⟩ => by
    have nch : c ∉ ch := fun z => (hch c z).2.2.1 x c e rfl
    by_cases hc : c ∈ X.fs
    · obtain ⟨sl, q⟩ := slot c o (I.cne x c e) hc nch ho (I.freeC x c e)
      exact ⟨_, q, hd⟩
    · exact ⟨o, keep c o (I.cne x c e) hc nch ho (I.freeC x c e), hd⟩
  refine ⟨I.ok, I.os, hg, ⟨fun b o e n hb hx => ?_, fun b o e n hb hx => ?_, fun b o e n hx => ?_, fun b o e hx => ?_, fun b xs e => tups b xs (I.base.tups b xs e), fun b o xs e => frzs b o xs (I.base.frzs b o xs e), fun b ps e => ?_⟩, ?_, fun x c e => ?_, ?_, fun x c e => ?_, fun p hp => ?_, hok, I.len⟩
  · exact keep b o (neL b o e) hb (neC b o e hx) (I.base.keep b o e n hb hx) (I.base.free b o e n hx)
  · obtain ⟨sl, e1⟩ := I.base.slot b o e n hb hx
    obtain ⟨sl', e2⟩ := slot b _ (neL b o e) hb (neC b o e hx) e1 (I.base.free b o e n hx)
    exact ⟨sl', e2⟩
  · obtain ⟨o', e1⟩ := I.base.there b o e hx
    exact free b o' (neC b o e hx) e1 (I.base.free b o e n hx)
  · obtain ⟨o', e1⟩ := I.base.there b o e hx
    exact there b o' (neC b o e hx) e1
  · obtain ⟨m1, e1⟩ := I.base.tbls b ps e
    obtain ⟨m2, e2⟩ := tbls b _ e1
    exact ⟨m1 ++ m2, by rw [e2, Array.append_assoc]⟩
  · obtain ⟨m, hn, hl⟩ := I.loc
    refine ⟨m, ns m hn, fun i x v e1 e2 e3 => ?_⟩
    obtain ⟨u, r, l⟩ := hl i x v e1 e2 e3
    refine ⟨u, r, ?_⟩
    rcases l with l | ⟨k, c, e, z⟩
    · exact .inl l
    · exact .inr ⟨k, c, e, cellK x c e _ z⟩
  · obtain ⟨v, z⟩ := I.cell x c e
    exact ⟨v, cellK x c e v z⟩
  · obtain ⟨m, ⟨o, _, _, ho, _⟩, _⟩ := I.loc
    exact free _ o (fun z => (hch _ z).2.1 rfl) ho I.free
  · obtain ⟨v, o, ho, hd⟩ := I.cell x c e
    exact free c o (fun z => (hch c z).2.2.1 x c e rfl) ho (I.freeC x c e)
  · obtain ⟨e, n, ne, nf, d⟩ := I.pin p hp
    have nch : p.1 ∉ ch := fun z => (hch p.1 z).2.2.2 p hp rfl
    exact ⟨keep p.1 p.2 ne nf nch e n, free p.1 p.2 nch e n, ne, nf, d⟩
theorem Inv.un {t' : Nat} (I : Inv X pins σ H s) (u : Un X.fs [] H H' s.heap h') (hok : HOk X.prog X.w H' h') : Inv X pins σ H' { s with heap := h', toks := t' } := by
  obtain ⟨m, ⟨o, es, ep, ho, r⟩, _⟩ := id I.loc
  obtain ⟨sl, hL⟩ := u.any ho I.free (by simp)
  exact I.step (g' := s.gens) (d' := s.drawn) (ch := []) (fun _ z => nomatch z) (fun b o _ hb _ e n => u.keep b o e n hb (by simp)) (fun b o _ hb _ e n => u.slot b o e n hb (by simp)) (fun b o _ e n => u.free b o e n (by simp)) (fun b o _ e => u.there b o e (by simp)) u.tups u.frzs u.tbls (fun m' hm => by
    obtain ⟨o', es', ep', ho', r'⟩ := hm
    rw [ho] at ho'; cases ho'
    exact ⟨_, es', ep', hL, r'⟩) hok I.bare
theorem Inv.call {g' : Array GenState} {t' : Nat} {d' : Drawn} {ch : List Addr} (I : Inv X pins σ H s) (u : Un (frs X.stack) ch H H' s.heap h') (hok : HOk X.prog X.w H' h') (hg : AllBare g')
    (hch : ∀ b ∈ ch, (b ∈ X.ex ∨ X.s_0.heap.objs.size ≤ b) ∧ b ≠ X.env.locals ∧ (∀ x c, X.env.cells.lookup x = some c → c ≠ b) ∧ ∀ p ∈ X.pn ++ pins, p.1 ≠ b) :
    Inv X pins σ H' { s with heap := h', gens := g', drawn := d', toks := t' } := by
  obtain ⟨m, ⟨o, es, ep, ho, r⟩, _⟩ := id I.loc
  obtain ⟨sl, hL⟩ := u.any ho I.free fun z => (hch _ z).2.1 rfl
  exact I.step (ch := ch) hch (fun b o hL hb hc e n => u.keep b o e n (fun z => (List.mem_cons.mp (I.stkSub b z)).elim hL hb) hc) (fun b o _ _ hc e n => u.any e n hc) (fun b o hc e n => u.free b o e n hc) (fun b o hc e => u.there b o e hc) u.tups u.frzs u.tbls (fun m' hm => by
    obtain ⟨o', es', ep', ho', r'⟩ := hm
    rw [ho] at ho'; cases ho'
    exact ⟨_, es', ep', hL, r'⟩) hok hg
theorem Inv.turned {t' : Nat} {it : Addr} (I : Inv X pins σ H s) (k : ∀ b o, b ≠ it → s.heap.get? b = some o → h'.get? b = some o) (hn : H it = none) (hL : it ≠ X.env.locals)
    (h1 : it ∈ X.ex ∨ X.s_0.heap.objs.size ≤ it) (h2 : ∀ x c, X.env.cells.lookup x = some c → c ≠ it) (h3 : ∀ p ∈ X.pn ++ pins, p.1 ≠ it) : Inv X pins σ H { s with heap := h', toks := t' } := by
  have nit : ∀ b u, H b = some u → b ≠ it := fun b u e z => by rw [z, hn] at e; cases e
  refine I.step (g' := s.gens) (d' := s.drawn) (ch := [it]) (fun b hb => ?_) (fun b o _ _ hc e _ => k b o (fun z => hc (by simp [z])) e) (fun b o _ _ hc e _ => ⟨o.slots, k b o (fun z => hc (by simp [z])) e⟩) (fun _ _ _ _ n => n)
    (fun b o hc e => ⟨o, k b o (fun z => hc (by simp [z])) e⟩) (fun _ _ e => e) (fun _ _ _ e => e) (fun b ps e => ⟨#[], by rw [e]; simp⟩) (fun m hm => ?_) (fun b u e => ?_) I.bare
  · have e : b = it := by simpa using hb
    subst e
    exact ⟨h1, hL, h2, h3⟩
  · obtain ⟨o, es, ep, ho, r⟩ := hm
    exact ⟨o, es, ep, k _ o (Ne.symm hL) ho, r⟩
  · refine (I.hok b u e).stay (fun c v hc q => k c v ?_ q) (fun _ q => q) fun _ _ q => q
    rcases hc with z | z
    · rw [z]; exact nit b u e
    · exact nit c _ z
theorem Inv.tok (I : Inv X pins σ H s) (t : Nat) : Inv X pins σ H { s with toks := t } := I.un (h' := s.heap) (t' := t) Un.refl I.hok
theorem Inv.kept {t' : Nat} (I : Inv X pins σ H s) (k : ∀ b u, s.heap.get? b = some u → h'.get? b = some u) : Inv X pins σ H { s with heap := h', toks := t' } := I.un (Un.kept k) (I.hok.kept k)
theorem Inv.laid {a : Addr} {o : HO} {t' : Nat} (I : Inv X pins σ H s) (k : ∀ b u, s.heap.get? b = some u → h'.get? b = some u) (hp : s.heap.objs.size ≤ a) (new : ObjOk X.prog X.w (upd H a o) h' a o) :
    Inv X pins σ (upd H a o) { s with heap := h', toks := t' } := I.un (Un.laid k hp (I.hok.fresh hp)) (I.hok.laid k hp new)
theorem Inv.write {x e : Addr} {o : HO} {t' : Nat} (I : Inv X pins σ H s) (mu : Mut (H x)) (he : e = x ∨ H e = some (.own x)) (k : ∀ b u, b ≠ e → s.heap.get? b = some u → h'.get? b = some u) (heo : ∃ u, h'.get? e = some u)
    (new : ObjOk X.prog X.w (upd H x o) h' x o) : Inv X pins σ (upd H x o) { s with heap := h', toks := t' } := I.un (Un.write mu he k heo) (I.hok.write mu he k heo new)
theorem Inv.weak {σ' : List (Option V)} (I : Inv X pins σ H s) (hl : σ'.length = σ.length) (w : ∀ (i : Nat) v, σ'[i]? = some (some v) → σ[i]? = some (some v)) : Inv X pins σ' H s :=
  ⟨I.ok, I.os, I.bare, I.base, let ⟨m, hn, hl'⟩ := I.loc; ⟨m, hn, fun i x v e1 e2 e3 => hl' i x v e1 (w i v e2) e3⟩, I.cell, I.free, I.freeC, I.pin, I.hok, hl.trans I.len⟩
theorem Inv.pins_of {pins' : List (Addr × Obj)} (I : Inv X pins σ H s) (h : ∀ p ∈ pins', s.heap.get? p.1 = some p.2 ∧ H p.1 = none ∧ p.1 ≠ X.env.locals ∧ p.1 ∉ X.fs ∧ ∀ v, p.2.data ≠ .cell v) : Inv X pins' σ H s :=
  ⟨I.ok, I.os, I.bare, I.base, I.loc, I.cell, I.free, I.freeC, fun p hp => (List.mem_append.mp hp).elim (fun z => I.pin p (List.mem_append_left _ z)) (h p), I.hok, I.len⟩
theorem nodup_ix {N : List Str} (hN : N.Nodup) {i j : Nat} {x : Str} (a : N[i]? = some x) (b : N[j]? = some x) : i = j := by
  obtain ⟨h1, e1⟩ := List.getElem?_eq_some_iff.mp a
  obtain ⟨h2, e2⟩ := List.getElem?_eq_some_iff.mp b
  exact (List.getElem_inj hN).mp (e1.trans e2.symm)
theorem store_ok2 {M : Model} {A : Around} {E : Value → Shared → Prop} {i : Nat} {x : Str} {v : V} {u : Value} {Q : Unit → Shared → Prop} (I : Inv X pins σ H s) (hN : X.N.Nodup) (hi : X.N[i]? = some x) (hx : Loc X.env.scope x) (r : RelV v u)
    (h : ∀ s', Inv X pins (σ.set i (some v)) H s' → (∃ a, Heap.SameBut a s.heap s'.heap ∧ (a = X.env.locals ∨ X.env.cells.lookup x = some a)) → Q () s') (hf : X.fn x = true ∨ X.env.scope.names.lookup x = some .local := by first | exact .inl rfl | exact .inr rfl | assumption) : wpAny M A (storeName X.env x u) Q E s := by
  obtain ⟨m, hn, hl⟩ := id I.loc
  have hcls : (X.env.scope.kind == .class || (X.env.scope.kind == .module && X.env.locals != X.env.globals)) = false := by rw [I.ok.kind]; rfl
  have hiσ : i < σ.length := by rw [I.len]; exact (List.getElem?_eq_some_iff.mp hi).1
  have cne := I.cne
  have tracked : ∀ {a : Addr} {h' : Heap}, (∃ o, s.heap.get? a = some o ∧ H a = none) → Heap.SameBut a s.heap h' → HOk X.prog X.w H h' := fun {a h'} ha hs b ob e => by
    obtain ⟨_, _, hfree⟩ := ha
    refine (I.hok b ob e).stay (fun c w' hc q => (hs.2 c ?_).trans q) (fun _ q => q) fun _ _ q => q
    rintro rfl
    rcases hc with rfl | hc
    · rw [hfree] at e; cases e
    · rw [hfree] at hc; cases hc
  rcases hx with hk | hk
  · refine wpAny_storeName_local hk hn (fun h' hn' hs => ?_) hcls
    obtain ⟨oL, _, _, hoL, _⟩ := id hn
    refine h _ ⟨I.ok, I.os, I.bare, ⟨fun b o e n hb hx => ?_, fun b o e n hb hx => ?_, I.base.free, fun b o e hx => ?_, I.base.tups, I.base.frzs, I.base.tbls⟩, ⟨_, hn', fun j y v' e1 e2 e3 => ?_⟩, fun y c e => ?_, I.free, I.freeC, fun p hp => ?_, tracked ⟨oL, hoL, I.free⟩ hs, by simpa using I.len⟩ ⟨_, hs, .inl rfl⟩
    · exact (hs.2 b (Nat.ne_of_lt (Nat.lt_of_lt_of_le (Heap.lt_size e) I.ok.above))).trans (I.base.keep b o e n hb hx)
    · obtain ⟨sl, e1⟩ := I.base.slot b o e n hb hx
      exact ⟨sl, (hs.2 b (Nat.ne_of_lt (Nat.lt_of_lt_of_le (Heap.lt_size e) I.ok.above))).trans e1⟩
    · obtain ⟨o', e1⟩ := I.base.there b o e hx
      exact ⟨o', (hs.2 b (Nat.ne_of_lt (Nat.lt_of_lt_of_le (Heap.lt_size e) I.ok.above))).trans e1⟩
    · by_cases hj : j = i
      · subst hj
        rw [hi] at e1; cases e1
        rw [List.getElem?_set_self hiσ] at e2
        cases e2
        exact ⟨u, r, .inl ⟨hk, by simp⟩⟩
      · rw [List.getElem?_set_ne (Ne.symm hj)] at e2
        obtain ⟨u', r', q⟩ := hl j y v' e1 e2 e3
        refine ⟨u', r', ?_⟩
        rcases q with ⟨k, e⟩ | ⟨k, c, e, z⟩
        · refine .inl ⟨k, ?_⟩
          have : y ≠ x := fun e => hj (nodup_ix hN e1 (e ▸ hi))
          simp [this, e]
        · exact .inr ⟨k, c, e, z.sameBut hs (cne y c e)⟩
    · obtain ⟨w', z⟩ := I.cell y c e
      exact ⟨w', z.sameBut hs (cne y c e)⟩
    · obtain ⟨e, n, ne, nf, d⟩ := I.pin p hp
      exact ⟨(hs.2 p.1 ne).trans e, n, ne, nf, d⟩
  · have hfn : X.fn x = true := by
      rcases hf with z | z
      · exact z
      · rw [z] at hk; cases hk
    obtain ⟨c, hc⟩ := I.ok.has x (.inl hk)
    obtain ⟨w', z⟩ := I.cell x c hc
    refine wpAny_storeName_cell I.ok.kind hk hc z (fun h' hc' hs => ?_)
    obtain ⟨oc, hoc, hocd⟩ := id z
    refine h { s with heap := h' } ⟨I.ok, I.os, I.bare, ⟨fun b o e n hb hx => ?_, fun b o e n hb hx => ?_, I.base.free, fun b o e hx => ?_, I.base.tups, I.base.frzs, I.base.tbls⟩, ⟨m, hn.sameBut hs (Ne.symm (cne x c hc)), fun j y v' e1 e2 e3 => ?_⟩, fun y c' e => ?_, I.free, I.freeC, fun p hp => ?_, tracked ⟨oc, hoc, I.freeC x c hc⟩ hs, by simpa using I.len⟩ ⟨c, hs, .inr hc⟩
    · exact (hs.2 b (Nat.ne_of_lt (Nat.lt_of_lt_of_le (Heap.lt_size e) (I.ok.cab x c hfn hc)))).trans (I.base.keep b o e n hb hx)
    · obtain ⟨sl, e1⟩ := I.base.slot b o e n hb hx
      exact ⟨sl, (hs.2 b (Nat.ne_of_lt (Nat.lt_of_lt_of_le (Heap.lt_size e) (I.ok.cab x c hfn hc)))).trans e1⟩
    · obtain ⟨o', e1⟩ := I.base.there b o e hx
      exact ⟨o', (hs.2 b (Nat.ne_of_lt (Nat.lt_of_lt_of_le (Heap.lt_size e) (I.ok.cab x c hfn hc)))).trans e1⟩
    · by_cases hj : j = i
      · subst hj
        rw [hi] at e1; cases e1
        rw [List.getElem?_set_self hiσ] at e2
        cases e2
        exact ⟨u, r, .inr ⟨.inl hk, c, hc, hc'⟩⟩
      · rw [List.getElem?_set_ne (Ne.symm hj)] at e2
        obtain ⟨u', r', q⟩ := hl j y v' e1 e2 e3
        refine ⟨u', r', ?_⟩
        rcases q with q | ⟨k, c', e, z'⟩
        · exact .inl q
        · refine .inr ⟨k, c', e, z'.sameBut hs ?_⟩
          rintro rfl
          exact hj (nodup_ix hN e1 (I.ok.inj _ _ _ e hc ▸ hi))
    · by_cases hcc : c' = c
      · subst hcc; exact ⟨_, hc'⟩
      · obtain ⟨w2, z2⟩ := I.cell y c' e
        exact ⟨w2, z2.sameBut hs hcc⟩
    · obtain ⟨e, n, ne, nf, d⟩ := I.pin p hp
      refine ⟨(hs.2 p.1 ?_).trans e, n, ne, nf, d⟩
      intro q
      rw [q, hoc] at e
      have q' : oc = p.2 := Option.some.inj e
      exact d w' (by rw [← q']; exact hocd)
theorem store_ok {M : Model} {A : Around} {E : Value → Shared → Prop} {i : Nat} {x : Str} {v : V} {u : Value} {Q : Unit → Shared → Prop} (I : Inv X pins σ H s) (hN : X.N.Nodup) (hi : X.N[i]? = some x) (hx : Loc X.env.scope x) (r : RelV v u)
    (h : ∀ s', Inv X pins (σ.set i (some v)) H s' → Q () s') (hf : X.fn x = true ∨ X.env.scope.names.lookup x = some .local := by first | exact .inl rfl | exact .inr rfl | assumption) : wpAny M A (storeName X.env x u) Q E s :=
  store_ok2 I hN hi hx r (fun s' I' _ => h s' I') hf
theorem Inv.call' {s' : Shared} {ch : List Addr} (I : Inv X pins σ H s) (ho : s'.os = s.os) (u : Un (frs X.stack) ch H H' s.heap s'.heap) (hok : HOk X.prog X.w H' s'.heap) (hg : AllBare s'.gens)
    (hch : ∀ b ∈ ch, (b ∈ X.ex ∨ X.s_0.heap.objs.size ≤ b) ∧ b ≠ X.env.locals ∧ (∀ x c, X.env.cells.lookup x = some c → c ≠ b) ∧ ∀ p ∈ X.pn ++ pins, p.1 ≠ b) : Inv X pins σ H' s' := by
  obtain ⟨h', g', d', t', o'⟩ := s'
  have e : o' = s.os := ho
  subst e
  exact I.call (g' := g') (t' := t') (d' := d') u hok hg hch
end
abbrev XK := Value → Option Addr → Hp → Prop
abbrev St := List (Option V)
abbrev VK := V → Hp → Prop
abbrev TE := St → Hp → VK → Prop
abbrev TT := St → Hp → (Bool → Hp → Prop) → Prop
abbrev TA := St → Hp → (List V → Hp → Prop) → Prop
structure Ends where
  nx : St → Hp → Prop
  rt : VK
  bk : St → Hp → Prop := fun _ _ => False
  ct : St → Hp → Prop := fun _ _ => False
abbrev TS := Ends → St → Hp → Prop
def EP (X : Cx) (pins : List (Addr × Obj)) (σ : St) (Q : VK) (u : Value) (s' : Shared) : Prop := ∃ v H', Inv X pins σ H' s' ∧ RelV v u ∧ Q v H'
def TP (X : Cx) (pins : List (Addr × Obj)) (σ : St) (Q : Bool → Hp → Prop) (b : Bool) (s' : Shared) : Prop := ∃ H', Inv X pins σ H' s' ∧ Q b H'
def AP (X : Cx) (pins : List (Addr × Obj)) (σ : St) (Q : List V → Hp → Prop) (us : List Value) (s' : Shared) : Prop := ∃ vs H', Inv X pins σ H' s' ∧ Vals vs us ∧ Q vs H'
def SP (X : Cx) (pins : List (Addr × Obj)) (D : Ends) (f : Flow) (s' : Shared) : Prop :=
  match f with
  | .next => ∃ σ' H', Inv X pins σ' H' s' ∧ D.nx σ' H'
  | .brk => ∃ σ' H', Inv X pins σ' H' s' ∧ D.bk σ' H'
  | .cont => ∃ σ' H', Inv X pins σ' H' s' ∧ D.ct σ' H'
  | .ret u => ∃ v σ' H', Inv X pins σ' H' s' ∧ RelV v u ∧ D.rt v H'
def PE (X : Cx) (e : Expr) (t : TE) : Prop :=
  ∀ (pins : List (Addr × Obj)) (s : Shared) (σ : St) (H : Hp) (Q : VK), Inv X pins σ H s → t σ H Q → wpAny (model X.prog X.w) X.A (eval e X.env) (EP X pins σ Q) X.xe s
def PT (X : Cx) (e : Expr) (t : TT) : Prop :=
  ∀ (pins : List (Addr × Obj)) (s : Shared) (σ : St) (H : Hp) (Q : Bool → Hp → Prop), Inv X pins σ H s → t σ H Q → wpAny (model X.prog X.w) X.A (isTrue e X.env (eval e X.env)) (TP X pins σ Q) X.xe s
def PW (X : Cx) (e : Expr) (t : TT) : Prop :=
  ∀ (whole : Sem Value) (pins : List (Addr × Obj)) (s : Shared) (σ : St) (H : Hp) (Q : Bool → Hp → Prop), Inv X pins σ H s → t σ H Q → wpAny (model X.prog X.w) X.A (isTrue e X.env whole) (TP X pins σ Q) X.xe s
theorem PW.pt {X : Cx} {e : Expr} {t : TT} (h : PW X e t) : PT X e t := h _
def PA (X : Cx) (es : List Expr) (t : TA) : Prop :=
  ∀ (pos : Pos) (pins : List (Addr × Obj)) (s : Shared) (σ : St) (H : Hp) (Q : List V → Hp → Prop), Inv X pins σ H s → t σ H Q → wpAny (model X.prog X.w) X.A (spliced (backTo pos (starEach es X.env))) (AP X pins σ Q) X.xe s
def PS (X : Cx) (st : Stmt) (t : TS) : Prop :=
  ∀ (pins : List (Addr × Obj)) (s : Shared) (σ : St) (H : Hp) (D : Ends), Inv X pins σ H s → t D σ H → wpAny (model X.prog X.w) X.A (exec st X.env) (SP X pins D) X.xe s
def PSs (X : Cx) (st : List Stmt) (t : TS) : Prop :=
  ∀ (pins : List (Addr × Obj)) (s : Shared) (σ : St) (H : Hp) (D : Ends), Inv X pins σ H s → t D σ H → wpAny (model X.prog X.w) X.A (execs st X.env) (SP X pins D) X.xe s
theorem thn {α : Type} {t : Sem α} {Q Q' : α → Shared → Prop} {M : Model} {A : Around} {E : Value → Shared → Prop} {s : Shared} (h : wpAny M A t Q E s) (hQ : ∀ a s, Q a s → Q' a s) : wpAny M A t Q' E s := wpAny_mono h hQ fun _ _ x => x
end L2
namespace L2
open PySem PySem.Spec PyProof.Rows
section
variable {X : Cx}
def tVar (i : Nat) : TE := fun σ H Q => ∃ v, σ[i]? = some (some v) ∧ Q v H
def tC (v : V) : TE := fun _ H Q => Q v H
theorem pe_var {i : Nat} {x : Str} {pos : Pos} (hN : X.N[i]? = some x) (hv : Vis X.env.scope x) (hd : (x == ("__debug__" : Str)) = false := by decide) (hcd : (x == ("__classdict__" : Str)) = false := by decide) : PE X (.Name x pos) (tVar i) := by
  intro pins s σ H Q I h
  obtain ⟨v, e, h⟩ := h
  obtain ⟨m, hn, hl⟩ := I.loc
  obtain ⟨u, r, l⟩ := hl i x v hN e hv
  have fin : EP X pins σ Q u s := ⟨v, H, I, r, h⟩
  rcases l with ⟨hk, hm⟩ | ⟨hk, c, hc, hcell⟩
  · exact wpAny_Name (wpAny_loadName_local I.ok.kind hk hn hm fin) hd
  · rcases hk with hk | hk
    · exact wpAny_Name (wpAny_loadName_cell I.ok.kind hk hc hcell fin) hd
    · exact wpAny_Name (wpAny_loadName_free I.ok.kind hk hc hcell fin hcd) hd
theorem pe_int {i j pos} : PE X (.Constant (.int i) j pos) (tC (.int i)) := fun _ _ _ H _ I h => wpAny_Constant_int ⟨.int i, H, I.tok _, ⟨_, rfl⟩, h⟩
def Gl (X : Cx) (x : Str) : Prop := X.env.kindOf x = some .globalImplicit
theorem ld_glob {E : Value → Shared → Prop} {pins : List (Addr × Obj)} {s : Shared} {σ : St} {H : Hp} {x : Str} {u : Value} {pos : Pos} {Q : Value → Shared → Prop} (I : Inv X pins σ H s) (hg : Gl X x) (hm : X.mg x = some u) (h : Q u s)
    (hd : (x == ("__debug__" : Str)) = false := by decide) : wpAny (model X.prog X.w) X.A (eval (.Name x pos) X.env) Q E s :=
  Calls.Name_function_global I.ok.kind hg (Calls.loadGlobal_global (by rw [I.ok.glob]; exact I.mod.glob.keeps I.bk) hm h) hd
theorem ld_blt {E : Value → Shared → Prop} {pins : List (Addr × Obj)} {s : Shared} {σ : St} {H : Hp} {x : Str} {u : Value} {pos : Pos} {Q : Value → Shared → Prop} (I : Inv X pins σ H s) (hg : Gl X x) (hm : X.mg x = none) (hv : bootBuiltins x = some u) (h : Q u s)
    (hn : x ≠ "__name__" := by decide) (hd : (x == ("__debug__" : Str)) = false := by decide) : wpAny (model X.prog X.w) X.A (eval (.Name x pos) X.env) Q E s := by
  obtain ⟨mb, h1, h2⟩ := I.mod.blt
  exact Calls.Name_function_global I.ok.kind hg (Calls.loadGlobal_builtin (by rw [I.ok.glob]; exact I.mod.glob.keeps I.bk) hm (by rw [I.ok.blt]; exact h1.keeps I.bk) ((h2 x hn).trans hv) h) hd
theorem pe_glob {x : Str} {v : V} {u : Value} {pos : Pos} (hg : Gl X x) (hm : X.mg x = some u) (r : RelV v u) (hd : (x == ("__debug__" : Str)) = false := by decide) : PE X (.Name x pos) (tC v) :=
  fun _ _ _ H _ I h => ld_glob I hg hm ⟨v, H, I, r, h⟩ hd
variable {a b : Expr} {ta tb : TE} {pos : Pos}
def tB (t : TE) : TT := fun σ H Q => t σ H fun x H1 => ∃ c, x = .bl c ∧ Q c H1
theorem pt_val {e : Expr} {t : TE} (h : PE X e t) (he : ∀ whole, isTrue e X.env whole = (do let v ← whole; standAt e.pos; holding [v] (truthy v)) := by intro _; rfl) : PT X e (tB t) := by
  intro pins s σ H Q I hw
  refine isTrue_plain (thn (h pins s σ H _ I hw) fun v s1 ⟨x, H1, I1, r1, q1⟩ => ?_) (he _)
  obtain ⟨d, rfl, q⟩ := q1
  cases r1
  exact wpAny_truthy_bool ⟨H1, I1, q⟩
variable {tA tB' : TT} {rest : List Expr}
def tOr (t u : TT) : TT := fun σ H Q => t σ H fun c H1 => if c = true then Q true H1 else u σ H1 Q
def tNot (t : TT) : TT := fun σ H Q => t σ H fun c H1 => Q (!c) H1
theorem pw_or1 (ha : PT X a tA) : PW X (.BoolOp .Or [a] pos) tA := by
  intro wh pins s σ H Q I h
  refine isTrue_or (thn (ha pins s σ H Q I h) fun c s1 e => ?_)
  cases c with
  | false => exact isTrue_or_nil e
  | true => exact e
theorem pw_or (ha : PT X a tA) (hb : PW X (.BoolOp .Or (b :: rest) pos) tB') : PW X (.BoolOp .Or (a :: b :: rest) pos) (tOr tA tB') := by
  intro wh pins s σ H Q I h
  refine isTrue_or (thn (ha pins s σ H _ I h) fun c s1 ⟨H1, I1, q1⟩ => ?_)
  cases c with
  | true => exact ⟨H1, I1, q1⟩
  | false => exact hb wh pins s1 σ H1 Q I1 q1
theorem pt_not (ha : PT X a tA) : PT X (.UnaryOp .Not a pos) (tNot tA) := by
  intro pins s σ H Q I h
  exact isTrue_not (ha pins s σ H (fun c H1 => Q (!c) H1) I h)
end
end L2
namespace L2
open PySem PySem.Spec PyProof.Rows
def SqL (K : PySem.W.Frag) (H : Hp) (a : Addr) (xs : List V) : Prop :=
  Rd H a (.lst xs) ∨
    ∃ (o : Obj) (its : Array Value) (n : Nat), K.lookup a = some o ∧ o.cls = .type "list" ∧ o.dict = none ∧ o.data = .seq its n ∧ its.size ≤ sizeLine ∧ Vals xs its.toList
def SqT (K : PySem.W.Frag) (H : Hp) (a : Addr) (xs : List V) : Prop :=
  Rd H a (.tup xs) ∨
    ∃ (o : Obj) (its : Array Value) (n : Nat), K.lookup a = some o ∧ o.cls = .type "tuple" ∧ o.data = .seq its n ∧ its.size ≤ sizeLine ∧ Vals xs its.toList
def absV : Value → Option V
  | .none => some .non
  | .bool b => some (.bl b)
  | .int i _ => some (.int i)
  | .str x _ => some (.str x)
  | .bytes b _ => some (.byt b)
  | .float b _ => some (.flt b)
  | .ref a => some (.ref a)
  | .type n => some (.ty n)
  | _ => none
theorem RelV.abs {x : V} {u : Value} (r : RelV x u) : absV u = some x := by
  cases x with
  | non => cases r; rfl
  | bl _ => cases r; rfl
  | int _ => obtain ⟨t, rfl⟩ := r; rfl
  | str _ => obtain ⟨t, rfl⟩ := r; rfl
  | byt _ => obtain ⟨t, rfl⟩ := r; rfl
  | flt _ => obtain ⟨t, rfl⟩ := r; rfl
  | ref _ => cases r; rfl
  | ty _ => cases r; rfl
theorem RelV.inj {x y : V} {u : Value} (r : RelV x u) (q : RelV y u) : x = y := Option.some.inj (r.abs.symm.trans q.abs)
theorem Vals.inj : ∀ {xs ys : List V} {us : List Value}, Vals xs us → Vals ys us → xs = ys
  | _, _, _, .nil, .nil => rfl
  | _, _, _, .cons r t, .cons r' t' => by rw [r.inj r', Vals.inj t t']
section
variable {X : Cx} {pins : List (Addr × Obj)} {σ : St} {H : Hp} {s : Shared} {a : Addr} {xs ys : List V}
theorem SqL.of {K : PySem.W.Frag} (h : H a = some (.lst xs)) : SqL K H a xs := .inl (.inl h)
theorem SqT.of {K : PySem.W.Frag} (h : H a = some (.tup xs)) : SqT K H a xs := .inl (.inl h)
theorem Inv.list (I : Inv X pins σ H s) (h : SqL X.K H a xs) : ∃ its : List Value, Vals xs its ∧ PlainL s.heap a its.toArray ∧ xs.length ≤ sizeLine := by
  rcases h with h | ⟨o, its, n, hk, hc, hd, hs, hz, r⟩
  · obtain ⟨z, its, n, r, e⟩ := h.ok I.hok
    exact ⟨its, r, ⟨_, n, e, rfl, rfl, rfl⟩, z⟩
  · refine ⟨its.toList, r, ⟨o, n, I.kIn a o hk, hc, hd, by simpa using hs⟩, ?_⟩
    have e := r.length
    simp only [Array.length_toList] at e
    omega
theorem Inv.tuple (I : Inv X pins σ H s) (h : SqT X.K H a xs) : ∃ its : List Value, Vals xs its ∧ IsTup s.heap a its.toArray ∧ xs.length ≤ sizeLine := by
  rcases h with h | ⟨o, its, n, hk, hc, hs, hz, r⟩
  · obtain ⟨z, its, r, p⟩ := h.ok I.hok
    exact ⟨its, r, p, z⟩
  · refine ⟨its.toList, r, ⟨o, I.kIn a o hk, hc, n, by simpa using hs⟩, ?_⟩
    have e := r.length
    simp only [Array.length_toList] at e
    omega
theorem Inv.list_inj (I : Inv X pins σ H s) (h : SqL X.K H a xs) (h' : SqL X.K H a ys) : xs = ys := by
  obtain ⟨its, r, ⟨o, n, e, _, _, d⟩, _⟩ := I.list h
  obtain ⟨its', r', ⟨o', n', e', _, _, d'⟩, _⟩ := I.list h'
  rw [e] at e'; cases e'
  rw [d] at d'
  injection d' with d1 _
  have : its = its' := by simpa using congrArg Array.toList d1
  subst this
  exact r.inj r'
end
abbrev Cx.wish (X : Cx) (E : Value → Shared → Prop) : Cx := { X with xe := E }
abbrev Cx.nox (X : Cx) : Cx := X.wish fun _ _ => False
theorem Cx.Ok.wish {X : Cx} (ok : X.Ok) (E : Value → Shared → Prop) : (X.wish E).Ok :=
  ⟨ok.mod, ok.kind, ok.glob, ok.blt, ok.above, ok.inj, ok.has, ok.cab, ok.hd, ok.frames, ok.stk, ok.exf, ok.bs, ok.bsz, ok.noex, ok.exfs, ok.funs, ok.frf⟩
theorem Cx.Ok.unwish {X : Cx} {E : Value → Shared → Prop} (ok : (X.wish E).Ok) : X.Ok :=
  ⟨ok.mod, ok.kind, ok.glob, ok.blt, ok.above, ok.inj, ok.has, ok.cab, ok.hd, ok.frames, ok.stk, ok.exf, ok.bs, ok.bsz, ok.noex, ok.exfs, ok.funs, ok.frf⟩
section
variable {X : Cx} {pins : List (Addr × Obj)} {σ : St} {H : Hp} {s : Shared} {E : Value → Shared → Prop}
theorem Inv.wish (I : Inv X pins σ H s) (E : Value → Shared → Prop) : Inv (X.wish E) pins σ H s := ⟨I.ok.wish E, I.os, I.bare, I.base, I.loc, I.cell, I.free, I.freeC, I.pin, I.hok, I.len⟩
theorem Inv.unwish (I : Inv (X.wish E) pins σ H s) : Inv X pins σ H s := ⟨I.ok.unwish, I.os, I.bare, I.base, I.loc, I.cell, I.free, I.freeC, I.pin, I.hok, I.len⟩
theorem SP.unwish {D : Ends} {f : Flow} {s' : Shared} (h : SP (X.wish E) pins D f s') : SP X pins D f s' := by
  cases f with
  | next => obtain ⟨σ', H', I, q⟩ := h; exact ⟨σ', H', I.unwish, q⟩
  | brk => obtain ⟨σ', H', I, q⟩ := h; exact ⟨σ', H', I.unwish, q⟩
  | cont => obtain ⟨σ', H', I, q⟩ := h; exact ⟨σ', H', I.unwish, q⟩
  | ret u => obtain ⟨v, σ', H', I, r, q⟩ := h; exact ⟨v, σ', H', I.unwish, r, q⟩
theorem PE.nox {e : Expr} {t : TE} (h : PE X.nox e t) : PE X e t := fun pins s σ H Q I hw =>
  wpAny_mono (h pins s σ H Q (I.wish _) hw) (fun _ _ ⟨v, H', I', r, q⟩ => ⟨v, H', I'.unwish, r, q⟩) fun _ _ z => False.elim z
theorem PT.nox {e : Expr} {t : TT} (h : PT X.nox e t) : PT X e t := fun pins s σ H Q I hw =>
  wpAny_mono (h pins s σ H Q (I.wish _) hw) (fun _ _ ⟨H', I', q⟩ => ⟨H', I'.unwish, q⟩) fun _ _ z => False.elim z
theorem PSs.nox {st : List Stmt} {t : TS} (h : PSs X.nox st t) : PSs X st t := fun pins s σ H D I hw =>
  wpAny_mono (h pins s σ H D (I.wish _) hw) (fun _ _ q => q.unwish) fun _ _ z => False.elim z
end
section
variable {X : Cx} {st : Stmt} {rest : List Stmt} {t u : TS} {e : Expr} {te : TE} {pos : Pos}
def tNext : TS := fun D σ H => D.nx σ H
def tSeq (t u : TS) : TS := fun D σ H => t { D with nx := u D } σ H
theorem pss_nil : PSs X [] tNext := fun _ _ σ H _ I h => wpAny_execs_nil ⟨σ, H, I, h⟩
theorem pss_cons (h1 : PS X st t) (h2 : PSs X rest u) : PSs X (st :: rest) (tSeq t u) := by
  intro pins s σ H D I h
  refine wpAny_execs_cons (thn (h1 pins s σ H { D with nx := u D } I h) fun f s1 q => ?_)
  cases f with
  | next =>
    obtain ⟨σ', H', I', q⟩ := q
    exact h2 pins s1 σ' H' D I' q
  | ret v => exact q
  | brk => exact q
  | cont => exact q
theorem pss_one (h1 : PS X st t) : PSs X [st] t := by
  intro pins s σ H D I h
  refine wpAny_execs_cons (thn (h1 pins s σ H D I h) fun f s1 q => ?_)
  cases f with
  | next => exact wpAny_execs_nil q
  | ret v => exact q
  | brk => exact q
  | cont => exact q
theorem Inv.quiet {pins : List (Addr × Obj)} {σ : St} {H : Hp} {s : Shared} (I : Inv X pins σ H s) : interactive X.env = false := by simp [interactive, I.ok.kind]
def tDrop (te : TE) : TS := fun D σ H => te σ H fun _ H1 => D.nx σ H1
theorem ps_expr (he : PE X e te) (hs : swapsWith e none pos.line X.env = pure false := by rfl) : PS X (.Expr e pos) (tDrop te) := by
  intro pins s σ H D I h
  exact wpAny_Expr_any (thn (he pins s σ H _ I h) fun v s1 ⟨x, H1, I1, r1, q1⟩ => ⟨σ, H1, I1, q1⟩) I.quiet hs
def tRet (te : TE) : TS := fun D σ H => te σ H D.rt
theorem ps_ret (he : PE X e te) : PS X (.Return (some e) pos) (tRet te) := by
  intro pins s σ H D I h
  exact wpAny_Return_some (thn (he pins s σ H _ I h) fun v s1 ⟨x, H1, I1, r1, q1⟩ => ⟨x, σ, H1, I1, r1, q1⟩)
def tIfS (c : TT) (t u : TS) : TS := fun D σ H => c σ H fun b H1 => if b = true then t D σ H1 else u D σ H1
theorem ps_if {c : Expr} {a b : List Stmt} {tc : TT} (hc : PT X c tc) (ha : PSs X a t) (hb : PSs X b u) : PS X (.If c a b pos) (tIfS tc t u) := by
  intro pins s σ H D I h
  refine wpAny_If (thn (hc pins s σ H _ I h) fun d s1 ⟨H1, I1, q1⟩ => ?_)
  cases d with
  | true => exact ha pins s1 σ H1 D I1 q1
  | false => exact hb pins s1 σ H1 D I1 q1
end
abbrev TG := V → St → Hp → (St → Hp → Prop) → Prop
def PG (X : Cx) (target : Expr) (t : TG) : Prop :=
  ∀ (pins : List (Addr × Obj)) (s : Shared) (σ : St) (H : Hp) (v : V) (u : Value) (Q : St → Hp → Prop), Inv X pins σ H s → RelV v u → t v σ H Q →
    wpAny (model X.prog X.w) X.A (assign target X.env u) (fun _ s' => ∃ σ' H', Inv X pins σ' H' s' ∧ Q σ' H') X.xe s
abbrev TSet := V → V → V → Hp → (Hp → Prop) → Prop
def PSet (X : Cx) (t : TSet) : Prop :=
  ∀ (pins : List (Addr × Obj)) (s : Shared) (σ : St) (H : Hp) (o i v : V) (ov iv u : Value) (Q : Hp → Prop), Inv X pins σ H s → RelV o ov → RelV i iv → RelV v u → t o i v H Q →
    wpAny (model X.prog X.w) X.A (setItem ov iv u) (fun _ s' => ∃ H', Inv X pins σ H' s' ∧ Q H') X.xe s
abbrev TIp := V → V → Hp → VK → Prop
def PIp (X : Cx) (op : Operator) (t : TIp) : Prop :=
  ∀ (pins : List (Addr × Obj)) (s : Shared) (σ : St) (H : Hp) (x y : V) (v u : Value) (Q : VK), Inv X pins σ H s → RelV x v → RelV y u → t x y H Q →
    wpAny (model X.prog X.w) X.A (inplaceOp op v u) (EP X pins σ Q) X.xe s
section
variable {X : Cx} {pos : Pos}
def gName (i : Nat) : TG := fun v σ H Q => Q (σ.set i (some v)) H
theorem pg_name {i : Nat} {x : Str} (hN : X.N.Nodup) (hi : X.N[i]? = some x) (hx : Loc X.env.scope x) (hf : X.fn x = true ∨ X.env.scope.names.lookup x = some .local := by first | exact .inl rfl | exact .inr rfl | assumption) : PG X (.Name x pos) (gName i) := by
  intro pins s σ H v u Q I r h
  exact wpAny_assign_Name (store_ok I hN hi hx r (fun s' I' => ⟨_, H, I', h⟩) hf)
def gSub (to ti : TE) (t : TSet) : TG := fun v σ H Q => to σ H fun o H1 => ti σ H1 fun i H2 => t o i v H2 fun H3 => Q σ H3
theorem pg_sub {o i : Expr} {to ti : TE} {t : TSet} (ho : PE X o to) (hi : PE X i ti) (hs : PSet X t)
    (ha : ∀ v, assign (.Subscript o i pos) X.env v = (do
      let ov ← holding [v] (eval o X.env)
      let iv ← holding [v, ov] (eval i X.env)
      standAt pos
      holding [v, ov, iv] (setItem ov iv v)
      release [v, ov, iv] []) := by intro _; rfl) : PG X (.Subscript o i pos) (gSub to ti t) := by
  intro pins s σ H v u Q I r h
  rw [ha]
  refine wpAny_bind (wpAny_holding (thn (ho pins s σ H _ I h) fun ov s1 ⟨x, H1, I1, r1, q1⟩ => ?_))
  refine wpAny_bind (wpAny_holding (thn (hi pins s1 σ H1 _ I1 q1) fun iv s2 ⟨y, H2, I2, r2, q2⟩ => ?_))
  refine wpAny_bind (wpAny_standAt (wpAny_bind (wpAny_holding (thn (hs pins s2 σ H2 x y v ov iv u _ I2 r1 r2 r q2) fun _ s3 ⟨H3, I3, q3⟩ => ?_))))
  exact wpAny_release ⟨σ, H3, I3, q3⟩
def tAsg (te : TE) (g : TG) : TS := fun D σ H => te σ H fun x H1 => g x σ H1 D.nx
theorem ps_asg {tg e : Expr} {te : TE} {g : TG} (he : PE X e te) (hg : PG X tg g) (hs : swapsWithSole [tg] e pos.line X.env = pure false := by rfl) (hw : swappedStores [tg] e X.env = pure none := by rfl)
    (h1 : (assignEach [tg] X.env).map (·.2) = [assign tg X.env] := by rfl) : PS X (.Assign [tg] e pos) (tAsg te g) := by
  intro pins s σ H D I h
  refine wpAny_Assign_stores (thn (he pins s σ H _ I h) fun v s1 ⟨x, H1, I1, r1, q1⟩ => ?_) hs hw
  rw [h1]
  exact thn (hg pins s1 σ H1 x v _ I1 r1 q1) fun _ s2 q => q
theorem ps_set {i : Nat} {x : Str} {e : Expr} {te : TE} {pos' : Pos} (hN : X.N.Nodup) (hi : X.N[i]? = some x) (hx : Loc X.env.scope x) (he : PE X e te) (hs : swapsWith e (some (.Name x pos')) pos.line X.env = pure false := by rfl) (hf : X.fn x = true ∨ X.env.scope.names.lookup x = some .local := by first | exact .inl rfl | exact .inr rfl | assumption) :
    PS X (.Assign [.Name x pos'] e pos) (tAsg te (gName i)) := by
  intro pins s σ H D I h
  refine wpAny_Assign_Name (thn (he pins s σ H _ I h) fun v s1 ⟨y, H1, I1, r1, q1⟩ => ?_) hs
  exact store_ok I1 hN hi hx r1 (fun s2 I2 => ⟨_, H1, I2, q1⟩) hf
def tAug (i : Nat) (te : TE) (ti : TIp) : TS := fun D σ H => ∃ x, σ[i]? = some (some x) ∧ te σ H fun y H1 => ti x y H1 fun z H2 => D.nx (σ.set i (some z)) H2
theorem ps_aug {i : Nat} {x : Str} {e : Expr} {te : TE} {op : Operator} {ti : TIp} {pos' : Pos} (hN : X.N.Nodup) (hi : X.N[i]? = some x) (hx : Loc X.env.scope x) (he : PE X e te) (ho : PIp X op ti) (hf : X.fn x = true ∨ X.env.scope.names.lookup x = some .local := by first | exact .inl rfl | exact .inr rfl | assumption) :
    PS X (.AugAssign (.Name x pos') op e pos) (tAug i te ti) := by
  intro pins s σ H D I h
  obtain ⟨v, e1, h⟩ := h
  obtain ⟨m, hn, hl⟩ := I.loc
  have vis : Vis X.env.scope x := by rcases hx with k | k; exact .inl k; exact .inr (.inl k)
  obtain ⟨u, r, l⟩ := hl i x v hi e1 vis
  refine wpAny_AugAssign_Name ?_
  have go : wpAny (model X.prog X.w) X.A (eval e X.env) (fun w s₂ => wpAny (model X.prog X.w) X.A (inplaceOp op u w) (fun r s₃ => wpAny (model X.prog X.w) X.A (storeName X.env x r) (fun _ => SP X pins D .next) X.xe s₃) X.xe s₂) X.xe s := by
    refine thn (he pins s σ H _ I h) fun w s1 ⟨y, H1, I1, r1, q1⟩ => ?_
    refine thn (ho pins s1 σ H1 v y u w _ I1 r r1 q1) fun z s2 ⟨zv, H2, I2, r2, q2⟩ => ?_
    exact store_ok I2 hN hi hx r2 (fun s3 I3 => ⟨_, H2, I3, q2⟩) hf
  rcases l with ⟨hk, hm⟩ | ⟨hk, c, hc, hcell⟩
  · exact wpAny_loadName_local I.ok.kind hk hn hm go
  · rcases hk with hk | hk
    · exact wpAny_loadName_cell I.ok.kind hk hc hcell go
    · rcases hx with k | k
      · have : X.env.scope.names.lookup x = some .free := hk
        rw [k] at this; cases this
      · have : X.env.scope.names.lookup x = some .free := hk
        rw [k] at this; cases this
def tAugS (to ti te : TE) (tget : V → V → Hp → VK → Prop) (tip : TIp) (tset : TSet) : TS := fun D σ H => to σ H fun o H1 => ti σ H1 fun i H2 => tget o i H2 fun x H3 => te σ H3 fun y H4 => tip x y H4 fun z H5 => tset o i z H5 fun H6 => D.nx σ H6
def PGet (X : Cx) (t : V → V → Hp → VK → Prop) : Prop :=
  ∀ (pins : List (Addr × Obj)) (s : Shared) (σ : St) (H : Hp) (o i : V) (ov iv : Value) (Q : VK), Inv X pins σ H s → RelV o ov → RelV i iv → t o i H Q →
    wpAny (model X.prog X.w) X.A (getItem ov iv) (EP X pins σ Q) X.xe s
theorem ps_augS {o i e : Expr} {to ti te : TE} {tget : V → V → Hp → VK → Prop} {tip : TIp} {tset : TSet} {op : Operator} {tpos : Pos} (ho : PE X o to) (hi : PE X i ti) (hg : PGet X tget) (he : PE X e te) (hp : PIp X op tip) (hs : PSet X tset)
    (ha : ∀ ov iv new, augStore i ov iv new = (do holding [new, ov, iv] (setItem ov iv new); release [new, ov, iv] []; pure .next) := by intros; rfl) : PS X (.AugAssign (.Subscript o i tpos) op e pos) (tAugS to ti te tget tip tset) := by
  intro pins s σ H D I h
  refine wpAny_AugAssign_SubscriptAny (thn (ho pins s σ H _ I h) fun ov s1 ⟨x1, H1, I1, r1, q1⟩ => ?_) ha
  refine thn (hi pins s1 σ H1 _ I1 q1) fun iv s2 ⟨x2, H2, I2, r2, q2⟩ => ?_
  refine thn (hg pins s2 σ H2 x1 x2 ov iv _ I2 r1 r2 q2) fun old s3 ⟨x3, H3, I3, r3, q3⟩ => ?_
  refine thn (he pins s3 σ H3 _ I3 q3) fun v s4 ⟨x4, H4, I4, r4, q4⟩ => ?_
  refine thn (hp pins s4 σ H4 x3 x4 old v _ I4 r3 r4 q4) fun new s5 ⟨x5, H5, I5, r5, q5⟩ => ?_
  exact thn (hs pins s5 σ H5 x1 x2 x5 ov iv new _ I5 r1 r2 r5 q5) fun _ s6 ⟨H6, I6, q6⟩ => ⟨σ, H6, I6, q6⟩
def ipI (f : Int → Int → Int) : TIp := fun x y H Q => ∃ i j, x = .int i ∧ y = .int j ∧ Q (.int (f i j)) H
theorem ip_add : PIp X .Add (ipI fun i j => i + j) := by
  intro pins s σ H x y v u Q I r1 r2 h
  obtain ⟨i, j, e1, e2, q⟩ := h
  subst e1; subst e2
  obtain ⟨t, rfl⟩ := r1
  obtain ⟨t', rfl⟩ := r2
  exact iadd_int ⟨.int _, H, I.tok _, ⟨_, rfl⟩, q⟩
end
section
variable {X : Cx} {pos : Pos}
def tWhile (c : TT) (tb : TS) : TS := fun D σ H => ∃ W : Nat → St → Hp → Prop, (∃ m, W m σ H) ∧ ∀ m σ H, W m σ H →
  c σ H fun b H1 => if b = true then ∃ N : St → Hp → Prop, (∀ σ' H', N σ' H' → ∃ m', m' < m ∧ W m' σ' H') ∧ tb { D with nx := N, ct := N, bk := D.nx } σ H1 else D.nx σ H1
theorem ps_while {c : Expr} {body : List Stmt} {tc : TT} {tb : TS} (hp : PassesOwn (model X.prog X.w) X.A X.env X.xe) (hc : PT X c tc) (hb : PSs X body tb) : PS X (.While c body [] pos) (tWhile tc tb) := by
  intro pins s σ H D I h
  obtain ⟨W, ⟨m0, w0⟩, turn⟩ := h
  refine wpAny_While (codeAny_whileLoop (fun n s' => ∃ σ' H', Inv X pins σ' H' s' ∧ W n σ' H') ?_ m0 ⟨σ, H, I, w0⟩)
  rintro n s1 ⟨σ1, H1, I1, w1⟩
  refine wpAny_passesOwn hp (thn (hc pins s1 σ1 H1 _ I1 (turn n σ1 H1 w1)) fun b s2 ⟨H2, I2, q2⟩ => ?_)
  cases b with
  | true =>
    obtain ⟨N, hN, q2⟩ := q2
    rw [if_pos rfl]
    refine wpAny_passesOwn hp (thn (hb pins s2 σ1 H2 _ I2 q2) fun f s3 q3 => ?_)
    cases f with
    | next =>
      obtain ⟨σ3, H3, I3, n3⟩ := q3
      obtain ⟨m', hm, w3⟩ := hN σ3 H3 n3
      exact ⟨m', hm, σ3, H3, I3, w3⟩
    | cont =>
      obtain ⟨σ3, H3, I3, n3⟩ := q3
      obtain ⟨m', hm, w3⟩ := hN σ3 H3 n3
      exact ⟨m', hm, σ3, H3, I3, w3⟩
    | brk => exact q3
    | ret v => exact q3
  | false =>
    rw [if_neg Bool.false_ne_true]
    exact wpAny_execs_nil ⟨σ1, H2, I2, q2⟩
end
structure It where
  go : Nat → Hp → Prop
  yld : Nat → Hp → V → Hp → Prop
  stop : Nat → Hp → Prop
def FpOk (X : Cx) (pins : List (Addr × Obj)) (H : Hp) (b : Addr) : Prop :=
  H b = none ∧ b ≠ X.env.locals ∧ b ∉ X.fs ∧ (b ∈ X.ex ∨ X.s_0.heap.objs.size ≤ b) ∧ (∀ x c, X.env.cells.lookup x = some c → c ≠ b) ∧ ∀ p ∈ X.pn ++ pins, p.1 ≠ b
theorem Inv.fpOk {X : Cx} {pins : List (Addr × Obj)} {σ : St} {H H' : Hp} {s : Shared} {b : Addr} (I : Inv X pins σ H s) (hb : s.heap.objs.size ≤ b) (hn : H' b = none) : FpOk X pins H' b := by
  refine ⟨hn, Nat.ne_of_gt (Nat.lt_of_lt_of_le I.lt hb), I.nofs hb, .inr (Nat.le_trans I.sz hb), fun x c e z => ?_, fun p hp z => ?_⟩
  · obtain ⟨v, q⟩ := I.cell x c e
    exact absurd (Nat.lt_of_lt_of_le q.lt (by rw [z]; exact hb)) (Nat.lt_irrefl _)
  · exact absurd (Nat.lt_of_lt_of_le (Heap.lt_size (I.pin p hp).1) (by rw [z]; exact hb)) (Nat.lt_irrefl _)
structure Turn (P : Program) (w : World) (K : PySem.W.Frag) (tg : Expr) (J : It) (fp : List Addr) (it : Addr) (tn : Nat → Heap → Prop) : Prop where
  mem : it ∈ fp
  obj : ∀ i h, tn i h → ∀ b ∈ fp, ∃ o, h.get? b = some o ∧ ∀ v, o.data ≠ .cell v
  keep : ∀ i h h', tn i h → (∀ b ∈ fp, ∀ o, h.get? b = some o → h'.get? b = some o) → tn i h'
  item : ∀ (X : Cx), X.prog = P → X.w = w → X.K = K → X.calm = true → ∀ (i : Nat) (pins : List (Addr × Obj)) (s : Shared) (σ : St) (H : Hp) (E : Value → Shared → Prop), Inv X pins σ H s → (∀ b ∈ fp, FpOk X pins H b) → tn i s.heap → J.go i H →
    wpAny (model P w) X.A (pyNext (.ref it)) (fun r s1 => ∃ u, r = some u ∧
      wpAny (model P w) X.A (letOwnedTupleGo tg (.ref it) u) (fun _ s2 => ∃ x H', Inv X pins σ H' s2 ∧ RelV x u ∧ J.yld i H x H' ∧ tn (i + 1) s2.heap ∧ ∀ b ∈ fp, H' b = none) E s1) E s
  done : ∀ (X : Cx), X.prog = P → X.w = w → X.K = K → X.calm = true → ∀ (i : Nat) (pins : List (Addr × Obj)) (s : Shared) (σ : St) (H : Hp) (E : Value → Shared → Prop), Inv X pins σ H s → (∀ b ∈ fp, FpOk X pins H b) → tn i s.heap → J.stop i H →
    wpAny (model P w) X.A (pyNext (.ref it)) (fun r s1 => r = none ∧ Inv X pins σ H s1) E s
  self : ∀ (A : Around) (i : Nat) (s : Shared) (Q : Value → Shared → Prop) (E : Value → Shared → Prop), tn i s.heap → Q (.ref it) s → wpAny (model P w) A (pyIter (.ref it)) Q E s
abbrev TI := St → Hp → (It → Hp → Prop) → Prop
def PIE (X : Cx) (pins : List (Addr × Obj)) (σ : St) (tg : Expr) (R : It → Hp → Prop) (itv : Value) (s2 : Shared) : Prop :=
  ∃ (it : Addr) (fp : List Addr) (tn : Nat → Heap → Prop) (J : It) (H' : Hp), itv = .ref it ∧ Inv X pins σ H' s2 ∧ Turn X.prog X.w X.K tg J fp it tn ∧ tn 0 s2.heap ∧ (∀ b ∈ fp, FpOk X pins H' b) ∧ R J H'
def PI (X : Cx) (tg iter : Expr) (wi : TI) : Prop :=
  ∀ (pins : List (Addr × Obj)) (s : Shared) (σ : St) (H : Hp) (R : It → Hp → Prop), Inv X pins σ H s → wi σ H R →
    wpAny (model X.prog X.w) X.A (eval iter X.env) (fun v s1 => wpAny (model X.prog X.w) X.A (pyIter v) (PIE X pins σ tg R) X.xe s1) X.xe s
theorem go_of {M : Model} {A : Around} {E : Value → Shared → Prop} {s : Shared} {tg : Expr} {it : Addr} {u : Value} {o : Obj} {n : String} {vs : Array Value} {Q : Unit → Shared → Prop} (ho : s.heap.get? it = some o) (hc : o.cls = .type n) (hd : o.data = .fields vs)
    (hn : ["enumerate", "zip", "dict_itemiterator", "dict_reverseitemiterator", "odict_iterator", "itertools.zip_longest", "itertools.pairwise"].contains n = false) (hQ : Q () s) : wpAny M A (letOwnedTupleGo tg (.ref it) u) Q E s := by
  unfold letOwnedTupleGo
  cases tg <;> first
    | exact wpAny_pure hQ
    | (cases u <;> first
        | exact wpAny_pure hQ
        | (refine wpAny_bind (wpAny_load ho ?_)
           rw [hc, hd]
           show wpAny M A (if (["enumerate", "zip", "dict_itemiterator", "dict_reverseitemiterator", "odict_iterator", "itertools.zip_longest", "itertools.pairwise"].contains n && vs[0]? == some (rawInt _)) = true then _ else _) Q E s
           rw [if_neg (by intro h; rw [hn, Bool.false_and] at h; cases h)]
           exact wpAny_pure hQ))
def Itl (K : PySem.W.Frag) (a : Addr) : It :=
  ⟨fun i H => ∃ xs x, SqL K H a xs ∧ xs[i]? = some x, fun i H x H' => H' = H ∧ ∀ xs, SqL K H a xs → xs[i]? = some x, fun i H => ∃ xs, SqL K H a xs ∧ xs.length ≤ i⟩
def Itr (lo : Int) (n : Nat) : It := ⟨fun i _ => i < n, fun i H x H' => H' = H ∧ x = .int (lo + i), fun i _ => n ≤ i⟩
theorem turn_list {P : Program} {w : World} {K : PySem.W.Frag} {tg : Expr} (a it : Addr) : Turn P w K tg (Itl K a) [it] it (fun i h => h.IsListIter it a i) where
  mem := by simp
  obj := fun i h st b hb => by
    have e : b = it := by simpa using hb
    subst e
    obtain ⟨o, e, c, d⟩ := st
    exact ⟨o, e, fun v z => by rw [d] at z; cases z⟩
  keep := fun i h h' st k => st.at fun o e => k it (by simp) o e
  item := by
    intro X hP hw hK hc i pins s σ H E I hf st hg
    subst hP hw hK
    obtain ⟨xs, x, hq, hx⟩ := hg
    obtain ⟨its, rv, p, hz⟩ := I.list hq
    obtain ⟨u, hu, ru⟩ := rv.get hx
    obtain ⟨f0, f1, f2, f3, f4, f5⟩ := hf it (by simp)
    refine wpAny_pyNext_list_item st p.isList (x := u) (by simpa using hu) fun h' st' sb => ?_
    have I1 : Inv X pins σ H { s with heap := h' } := I.turned (t' := s.toks) (fun b o hb e => (sb.2 b hb).trans e) f0 f1 f3 f4 f5
    obtain ⟨o, e, c, d⟩ := id st'
    exact ⟨u, rfl, go_of (s := { s with heap := h' }) e c d (by decide) ⟨x, H, I1, ru, ⟨rfl, fun ys hy => by rw [I.list_inj hy hq]; exact hx⟩, st', fun b hb => (hf b hb).1⟩⟩
  done := by
    intro X hP hw hK hc i pins s σ H E I hf st hg
    subst hP hw hK
    obtain ⟨xs, hq, hx⟩ := hg
    obtain ⟨its, rv, p, hz⟩ := I.list hq
    obtain ⟨f0, f1, f2, f3, f4, f5⟩ := hf it (by simp)
    have hl := rv.length
    exact wpAny_pyNext_list_end (I.ok.hd hc) st p.isList (by simp; omega) fun h' eb => ⟨rfl, I.turned (t' := s.toks) (fun b o hb e => eb b o hb e) f0 f1 f3 f4 f5⟩
  self := fun _ _ _ _ _ st h => wpAny_pyIter_listiter st h
theorem turn_range {P : Program} {w : World} {K : PySem.W.Frag} {tg : Expr} (it : Addr) (lo : Int) (n : Nat) : Turn P w K tg (Itr lo n) [it] it (fun i h => IsRangeIter h it (lo + (i : Nat) * 1) ((n : Int) - (i : Nat)) 1) where
  mem := by simp
  obj := fun i h st b hb => by
    have e : b = it := by simpa using hb
    subst e
    exact ⟨_, st, fun v z => by
      have z' : Data.fields _ = Data.cell v := z
      cases z'⟩
  keep := fun i h h' st k => k it (by simp) _ st
  item := by
    intro X hP hw hK hc i pins s σ H E I hf st hg
    subst hP hw hK
    obtain ⟨f0, f1, f2, f3, f4, f5⟩ := hf it (by simp)
    have W := Walks.range (prog := X.prog) (w := X.w) (I.ok.hd hc) it lo 1 n
    refine W.item i s _ _ hg st fun v h' tk hv st' kk => ?_
    obtain ⟨t, rfl⟩ := hv
    have I1 : Inv X pins σ H { s with heap := h', toks := tk } := I.turned (fun b o hb e => kk b o (by simpa using hb) e) f0 f1 f3 f4 f5
    refine ⟨_, rfl, go_of (s := { s with heap := h', toks := tk }) (n := "range_iterator") st' rfl rfl (by decide) ⟨.int (lo + i), H, I1, ⟨t, ?_⟩, ⟨rfl, rfl⟩, st', fun b hb => (hf b hb).1⟩⟩
    rw [Int.mul_one]
  done := by
    intro X hP hw hK hc i pins s σ H E I hf st hg
    subst hP hw hK
    obtain ⟨f0, f1, f2, f3, f4, f5⟩ := hf it (by simp)
    exact wpAny_pyNext_range_end (I.ok.hd hc) st (by have : n ≤ i := hg; omega) fun h' eb => ⟨rfl, I.turned (t' := s.toks) (fun b o hb e => eb b o hb e) f0 f1 f3 f4 f5⟩
  self := fun _ _ _ _ _ st h => wpAny_pyIter_rangeiter st h
end L2
namespace L2
open PySem PySem.Spec PyProof.Rows
section
variable {X : Cx} {tg : Expr}
def iList (K : PySem.W.Frag) (tl : TE) : TI := fun σ H R => tl σ H fun x H1 => ∃ a, x = .ref a ∧ (∃ xs, SqL K H1 a xs) ∧ R (Itl K a) H1
theorem pi_list {l : Expr} {tl : TE} (hl : PE X l tl) : PI X tg l (iList X.K tl) := by
  intro pins s σ H R I h
  refine thn (hl pins s σ H _ I h) fun v s1 ⟨x, H1, I1, r1, q1⟩ => ?_
  obtain ⟨a, e, ⟨xs, hq⟩, q⟩ := q1
  subst e
  cases r1
  obtain ⟨its, rv, p, hz⟩ := I1.list hq
  refine wpAny_pyIter_list p.isList ?_
  refine ⟨s1.heap.objs.size, [s1.heap.objs.size], _, _, H1, rfl, I1.kept (t' := s1.toks) fun b o e => Heap.get?_push_of_some _ e, turn_list a _, ⟨_, Heap.get?_push_size _ rfl, rfl, rfl⟩, fun b hb => ?_, q⟩
  have e : b = s1.heap.objs.size := by simpa using hb
  subst e
  exact I1.fpOk (Nat.le_refl _) (I1.hok.fresh (Nat.le_refl _))
theorem range_it {pins : List (Addr × Obj)} {σ : St} {H : Hp} {s : Shared} {R : It → Hp → Prop} {E : Value → Shared → Prop} {lo hi : Int} {t u v : Tok} {tk : Nat} (I : Inv X pins σ H s) (h1 : -(2 ^ 62) ≤ lo) (h2 : lo < 2 ^ 62) (h3 : -(2 ^ 62) ≤ hi) (h4 : hi < 2 ^ 62)
    (q : R (Itr lo (hi - lo).toNat) H) : wpAny (model X.prog X.w) X.A (pyIter (.ref s.heap.objs.size)) (PIE X pins σ tg R) E { s with heap := s.heap.push { cls := .type "range", data := .fields #[.int lo t, .int hi u, .int 1 v] }, toks := tk } := by
  refine wpAny_pyIter_range (IsRange.new ..) (small_one h1 h2 h3 h4) ?_
  have I1 : Inv X pins σ H { s with heap := s.heap.push { cls := .type "range", data := .fields #[.int lo t, .int hi u, .int 1 v] }, toks := tk } := I.kept fun b o e => Heap.get?_push_of_some _ e
  refine ⟨(s.heap.push { cls := .type "range", data := .fields #[.int lo t, .int hi u, .int 1 v] }).objs.size, [(s.heap.push { cls := .type "range", data := .fields #[.int lo t, .int hi u, .int 1 v] }).objs.size], _, _, H, rfl,
    I1.kept (t' := tk) fun b o e => Heap.get?_push_of_some _ e, turn_range _ lo (hi - lo).toNat, ?_, fun b hb => ?_, q⟩
  · have e1 : lo + ((0 : Nat) : Int) * 1 = lo := by simp
    have e2 : (((hi - lo).toNat : Nat) : Int) - ((0 : Nat) : Int) = Builtin.Range.rangeSize lo hi 1 := by rw [rangeSize_one]; split <;> omega
    show IsRangeIter _ _ (lo + ((0 : Nat) : Int) * 1) ((((hi - lo).toNat : Nat) : Int) - ((0 : Nat) : Int)) 1
    rw [e1, e2]
    exact Heap.get?_push_size _ rfl
  · have e : b = (s.heap.push { cls := .type "range", data := .fields #[.int lo t, .int hi u, .int 1 v] }).objs.size := by simpa using hb
    subst e
    exact I1.fpOk (Nat.le_refl _) (I1.hok.fresh (Nat.le_refl _))
def iRng1 (ta : TA) : TI := fun σ H R => ta σ H fun vs H1 => ∃ j : Int, vs = [.int j] ∧ -(2 ^ 62) ≤ j ∧ j < 2 ^ 62 ∧ R (Itr 0 j.toNat) H1
def iRng2 (ta : TA) : TI := fun σ H R => ta σ H fun vs H1 => ∃ i j : Int, vs = [.int i, .int j] ∧ (-(2 ^ 62) ≤ i ∧ i < 2 ^ 62 ∧ -(2 ^ 62) ≤ j ∧ j < 2 ^ 62) ∧ R (Itr i (j - i).toNat) H1
theorem pi_range1 {a : Expr} {ta : TA} {p pos : Pos} (hg : Gl X "range") (hm : X.mg "range" = none) (ha : PA X [a] ta) (hs : starEach [a] X.env = [(false, eval a X.env)] := by rfl) : PI X tg (.Call (.Name "range" p) [a] [] pos) (iRng1 ta) := by
  intro pins s σ H R I h
  refine Call_ (ld_blt I hg hm boot_range (PyProof.Rows.callWith_type1 (thn (ha pos pins s σ H _ I h) fun us s1 ⟨vs, H1, I1, r1, q1⟩ => ?_) hs rfl))
  obtain ⟨j, e, q1, q2, q⟩ := q1
  subst e
  cases r1 with
  | cons r rr =>
    cases rr
    obtain ⟨t, rfl⟩ := r
    exact call_range_1 (range_it I1 (by omega) (by omega) q1 q2 (by simpa using q))
theorem pi_range2 {a b : Expr} {ta : TA} {p pos : Pos} (hg : Gl X "range") (hm : X.mg "range" = none) (ha : PA X [a, b] ta) (hs : starEach [a, b] X.env = [(false, eval a X.env), (false, eval b X.env)] := by rfl) (hs2 : starEach [b] X.env = [(false, eval b X.env)] := by rfl) :
    PI X tg (.Call (.Name "range" p) [a, b] [] pos) (iRng2 ta) := by
  intro pins s σ H R I h
  refine Call_ (ld_blt I hg hm boot_range (PyProof.Rows.callWith_type1 (thn (ha pos pins s σ H _ I h) fun us s1 ⟨vs, H1, I1, r1, q1⟩ => ?_) (by rw [hs, hs2]) (by rw [hs2]; rfl)))
  obtain ⟨i, j, e, ⟨q1, q2, q3, q4⟩, q⟩ := q1
  subst e
  cases r1 with
  | cons r rr =>
    cases rr with
    | cons r' rr =>
      cases rr
      obtain ⟨t, rfl⟩ := r
      obtain ⟨t', rfl⟩ := r'
      exact call_range_2 (range_it I1 q1 q2 q3 q4 q)
def tFor (wi : TI) (g : TG) (tb : TS) : TS := fun D σ H => wi σ H fun J H1 => ∃ W : Nat → Nat → St → Hp → Prop, (∃ m, W 0 m σ H1) ∧ ∀ i m σ H, W i m σ H →
  (J.stop i H ∧ D.nx σ H) ∨ (J.go i H ∧ ∃ N : St → Hp → Prop, (∀ σ' H', N σ' H' → ∃ m', m' < m ∧ W (i + 1) m' σ' H') ∧ ∀ x H', J.yld i H x H' → g x σ H' fun σ2 H2 => tb { D with nx := N, ct := N, bk := D.nx } σ2 H2)
def pinsAt (fp : List Addr) (h : Heap) : List (Addr × Obj) := fp.filterMap fun b => (h.get? b).map fun o => (b, o)
theorem mem_pinsAt {fp : List Addr} {h : Heap} {b : Addr} {o : Obj} (hb : b ∈ fp) (e : h.get? b = some o) : (b, o) ∈ pinsAt fp h := List.mem_filterMap.mpr ⟨b, hb, by rw [e]; rfl⟩
theorem of_pinsAt {fp : List Addr} {h : Heap} {p : Addr × Obj} (hp : p ∈ pinsAt fp h) : p.1 ∈ fp ∧ h.get? p.1 = some p.2 := by
  obtain ⟨b, hb, e⟩ := List.mem_filterMap.mp hp
  cases q : h.get? b with
  | none => rw [q] at e; cases e
  | some o =>
    rw [q] at e
    have e' : (b, o) = p := Option.some.inj e
    subst e'
    exact ⟨hb, q⟩
theorem Inv.pinned {pins : List (Addr × Obj)} {σ : St} {H : Hp} {s : Shared} {fp : List Addr} (I : Inv X pins σ H s) (hf : ∀ b ∈ fp, FpOk X pins H b) (ho : ∀ b ∈ fp, ∃ o, s.heap.get? b = some o ∧ ∀ v, o.data ≠ .cell v) : Inv X (pins ++ pinsAt fp s.heap) σ H s :=
  I.pins_of fun p hp => (List.mem_append.mp hp).elim (fun z => I.pin p (List.mem_append_right _ z)) fun z => by
    obtain ⟨hb, e⟩ := of_pinsAt z
    obtain ⟨f0, f1, f2, _⟩ := hf p.1 hb
    obtain ⟨o, e', d⟩ := ho p.1 hb
    rw [e] at e'; cases e'
    exact ⟨e, f0, f1, f2, d⟩
theorem Inv.unpinned {pins pl : List (Addr × Obj)} {σ : St} {H : Hp} {s : Shared} (I : Inv X (pins ++ pl) σ H s) : Inv X pins σ H s := I.pins_of fun p hp => I.pin p (List.mem_append_right _ (List.mem_append_left _ hp))
theorem ps_for {iter : Expr} {body : List Stmt} {wi : TI} {g : TG} {tb : TS} {pos : Pos} (hp : PassesOwn (model X.prog X.w) X.A X.env X.xe) (hc : X.calm = true) (hi : PI X tg iter wi) (hg : PG X tg g) (hb : PSs X body tb)
    (hs : ∀ x, foldedSetIterable iter X.env x = pure x := by intro _; rfl) : PS X (.For tg iter body [] pos) (tFor wi g tb) := by
  intro pins s σ H D I h
  refine wpAny_For (thn (hi pins s σ H _ I h) fun v s1 h1 => thn h1 fun itv s2 h2 => ?_) hs
  obtain ⟨it, fp, tn, J, H2, e, I2, T, st2, f2, W, ⟨m0, w0⟩, turn⟩ := h2
  subst e
  -- what stays true of the iterator's objects through the loop
  have stat : ∀ {H' : Hp}, (∀ b ∈ fp, H' b = none) → ∀ b ∈ fp, FpOk X pins H' b := fun hn b hb => ⟨hn b hb, (f2 b hb).2⟩
  refine codeAny_forLoop_any (fun n s' => ∃ i σ' H', Inv X pins σ' H' s' ∧ tn i s'.heap ∧ (∀ b ∈ fp, H' b = none) ∧ W i n σ' H') ?_ m0 ⟨0, σ, H2, I2, st2, fun b hb => (f2 b hb).1, w0⟩
  rintro n s3 ⟨i, σ3, H3, I3, st3, fr3, w3⟩
  rcases turn i n σ3 H3 w3 with ⟨stop, qn⟩ | ⟨go, N, hN, step⟩
  · refine wpAny_passesOwn hp (thn (T.done X rfl rfl rfl hc i pins s3 σ3 H3 X.xe I3 (stat fr3) st3 stop) fun r s4 ⟨hr, I4⟩ => ?_)
    subst hr
    exact wpAny_execs_nil ⟨σ3, H3, I4, qn⟩
  · refine wpAny_passesOwn hp (thn (T.item X rfl rfl rfl hc i pins s3 σ3 H3 X.xe I3 (stat fr3) st3 go) fun r s4 ⟨u, hr, h4⟩ => ?_)
    subst hr
    refine wpAny_passesOwn hp (thn h4 fun _ s5 ⟨x, H5, I5, r5, y5, st5, fr5⟩ => ?_)
    have I5' := I5.pinned (stat fr5) (T.obj _ _ st5)
    refine wpAny_passesOwn hp (thn (hg _ s5 σ3 H5 x u _ I5' r5 (step x H5 y5)) fun _ s6 ⟨σ6, H6, I6, q6⟩ => ?_)
    refine wpAny_passesOwn hp (thn (hb _ s6 σ6 H6 _ I6 q6) fun f s7 q7 => ?_)
    have again : ∀ {σ7 : St} {H7 : Hp}, Inv X (pins ++ pinsAt fp s5.heap) σ7 H7 s7 → N σ7 H7 → ∃ m, m < n ∧ ∃ i σ' H', Inv X pins σ' H' s7 ∧ tn i s7.heap ∧ (∀ b ∈ fp, H' b = none) ∧ W i m σ' H' := fun {σ7 H7} I7 n7 => by
      obtain ⟨m', hm, w7⟩ := hN σ7 H7 n7
      refine ⟨m', hm, i + 1, σ7, H7, I7.unpinned, T.keep _ _ _ st5 fun b hb o e => (I7.pin (b, o) (List.mem_append_right _ (List.mem_append_right _ (mem_pinsAt hb e)))).1, fun b hb => ?_, w7⟩
      obtain ⟨o, e, d⟩ := T.obj _ _ st5 b hb
      exact (I7.pin (b, o) (List.mem_append_right _ (List.mem_append_right _ (mem_pinsAt hb e)))).2.1
    cases f with
    | next => obtain ⟨σ7, H7, I7, n7⟩ := q7; exact again I7 n7
    | cont => obtain ⟨σ7, H7, I7, n7⟩ := q7; exact again I7 n7
    | brk => obtain ⟨σ7, H7, I7, q7⟩ := q7; exact ⟨σ7, H7, I7.unpinned, q7⟩
    | ret v => obtain ⟨x7, σ7, H7, I7, r7, q7⟩ := q7; exact ⟨x7, σ7, H7, I7.unpinned, r7, q7⟩
end
theorem for_list {K : PySem.W.Frag} {a : Addr} {xs : List V} {g : TG} {tb : TS} {D : Ends} {σ : St} {H : Hp} (Pv : Nat → St → Hp → Prop) (h0 : Pv 0 σ H) (hl : ∀ i σ H, i ≤ xs.length → Pv i σ H → SqL K H a xs)
    (hs : ∀ i x σ H, xs[i]? = some x → Pv i σ H → g x σ H fun σ2 H2 => tb { D with nx := Pv (i + 1), ct := Pv (i + 1), bk := D.nx } σ2 H2) (hd : ∀ σ H, Pv xs.length σ H → D.nx σ H) :
    ∃ W : Nat → Nat → St → Hp → Prop, (∃ m, W 0 m σ H) ∧ ∀ i m σ H, W i m σ H →
      ((Itl K a).stop i H ∧ D.nx σ H) ∨ ((Itl K a).go i H ∧ ∃ N : St → Hp → Prop, (∀ σ' H', N σ' H' → ∃ m', m' < m ∧ W (i + 1) m' σ' H') ∧ ∀ x H', (Itl K a).yld i H x H' → g x σ H' fun σ2 H2 => tb { D with nx := N, ct := N, bk := D.nx } σ2 H2) := by
  refine ⟨fun i m σ H => m = xs.length - i ∧ i ≤ xs.length ∧ Pv i σ H, ⟨xs.length, by simp, Nat.zero_le _, h0⟩, ?_⟩
  rintro i m σ H ⟨rfl, hi, p⟩
  have q := hl i σ H hi p
  by_cases hlt : i < xs.length
  · refine .inr ⟨⟨xs, xs[i], q, by simp [hlt]⟩, Pv (i + 1), fun σ' H' p' => ⟨xs.length - (i + 1), by omega, rfl, hlt, p'⟩, fun x H' y => ?_⟩
    obtain ⟨e, y⟩ := y
    subst e
    exact hs i x σ _ (y xs q) p
  · have e : i = xs.length := by omega
    subst e
    exact .inl ⟨⟨xs, q, Nat.le_refl _⟩, hd σ H p⟩
theorem for_range {lo : Int} {n : Nat} {g : TG} {tb : TS} {D : Ends} {σ : St} {H : Hp} (Pv : Nat → St → Hp → Prop) (h0 : Pv 0 σ H)
    (hs : ∀ i σ H, i < n → Pv i σ H → g (.int (lo + i)) σ H fun σ2 H2 => tb { D with nx := Pv (i + 1), ct := Pv (i + 1), bk := D.nx } σ2 H2) (hd : ∀ σ H, Pv n σ H → D.nx σ H) :
    ∃ W : Nat → Nat → St → Hp → Prop, (∃ m, W 0 m σ H) ∧ ∀ i m σ H, W i m σ H →
      ((Itr lo n).stop i H ∧ D.nx σ H) ∨ ((Itr lo n).go i H ∧ ∃ N : St → Hp → Prop, (∀ σ' H', N σ' H' → ∃ m', m' < m ∧ W (i + 1) m' σ' H') ∧ ∀ x H', (Itr lo n).yld i H x H' → g x σ H' fun σ2 H2 => tb { D with nx := N, ct := N, bk := D.nx } σ2 H2) := by
  refine ⟨fun i m σ H => m = n - i ∧ i ≤ n ∧ Pv i σ H, ⟨n, by simp, Nat.zero_le _, h0⟩, ?_⟩
  rintro i m σ H ⟨rfl, hi, p⟩
  by_cases hlt : i < n
  · refine .inr ⟨hlt, Pv (i + 1), fun σ' H' p' => ⟨n - (i + 1), by omega, rfl, hlt, p'⟩, fun x H' y => ?_⟩
    obtain ⟨e, y⟩ := y
    subst e y
    exact hs i σ _ hlt p
  · have e : i = n := by omega
    subst e
    exact .inl ⟨Nat.le_refl _, hd σ H p⟩
theorem while_by {c : TT} {tb : TS} {D : Ends} {σ : St} {H : Hp} (Pv : St → Hp → Prop) (μ : St → Hp → Nat) (h0 : Pv σ H)
    (hs : ∀ σ H, Pv σ H → c σ H fun b H1 => if b = true then tb { D with nx := fun σ' H' => Pv σ' H' ∧ μ σ' H' < μ σ H, ct := fun σ' H' => Pv σ' H' ∧ μ σ' H' < μ σ H, bk := D.nx } σ H1 else D.nx σ H1)
    (mono : ∀ σ H Q Q', (∀ b H1, Q b H1 → Q' b H1) → c σ H Q → c σ H Q') : tWhile c tb D σ H := by
  refine ⟨fun m σ H => m = μ σ H ∧ Pv σ H, ⟨_, rfl, h0⟩, ?_⟩
  rintro m σ H ⟨rfl, p⟩
  refine mono σ H _ _ (fun b H1 q => ?_) (hs σ H p)
  cases b with
  | true => exact ⟨_, fun σ' H' ⟨p', l⟩ => ⟨_, l, rfl, p'⟩, q⟩
  | false => exact q
end L2
namespace L2
open PySem PySem.Spec PyProof.Rows
abbrev R2 := V → V → Hp → VK → Prop
def OpR (X : Cx) (f : Value → Value → Sem Value) (r : R2) : Prop :=
  ∀ (pins : List (Addr × Obj)) (s : Shared) (σ : St) (H : Hp) (x y : V) (v u : Value) (Q : VK), Inv X pins σ H s → RelV x v → RelV y u → r x y H Q →
    wpAny (model X.prog X.w) X.A (f v u) (EP X pins σ Q) X.xe s
def UnR (X : Cx) (f : Value → Sem Value) (r : V → Hp → VK → Prop) : Prop :=
  ∀ (pins : List (Addr × Obj)) (s : Shared) (σ : St) (H : Hp) (x : V) (v : Value) (Q : VK), Inv X pins σ H s → RelV x v → r x H Q →
    wpAny (model X.prog X.w) X.A (f v) (EP X pins σ Q) X.xe s
def CallR (X : Cx) (f : Value) (r : List V → Hp → VK → Prop) : Prop :=
  ∀ (pins : List (Addr × Obj)) (s : Shared) (σ : St) (H : Hp) (xs : List V) (us : List Value) (Q : VK), Inv X pins σ H s → Vals xs us → r xs H Q →
    wpAny (model X.prog X.w) X.A (call f us) (EP X pins σ Q) X.xe s
def tOp (r : R2) (ta tb : TE) : TE := fun σ H Q => ta σ H fun x H1 => tb σ H1 fun y H2 => r x y H2 Q
def tUn (r : V → Hp → VK → Prop) (ta : TE) : TE := fun σ H Q => ta σ H fun x H1 => r x H1 Q
def rI (C : Int → Int → Prop) (g : Int → Int → V) : R2 := fun x y H Q => ∃ i j, x = .int i ∧ y = .int j ∧ C i j ∧ Q (g i j) H
def rI0 (g : Int → Int → V) : R2 := fun x y H Q => ∃ i j, x = .int i ∧ y = .int j ∧ Q (g i j) H
def rU (g : Int → V) : V → Hp → VK → Prop := fun x H Q => ∃ i, x = .int i ∧ Q (g i) H
section
variable {X : Cx} {a b c : Expr} {ta tb tc : TE} {pos : Pos}
theorem binT (ha : PE X a ta) (hb : PE X b tb) {pins : List (Addr × Obj)} {s : Shared} {σ : St} {H : Hp} {R : V → V → Hp → Prop} (I : Inv X pins σ H s)
    (h : ta σ H fun x H1 => tb σ H1 fun y H2 => R x y H2) {Q : Value → Shared → Prop} {f : Value → Value → Sem Value}
    (hf : ∀ v u s2 x y H2, Inv X pins σ H2 s2 → RelV x v → RelV y u → R x y H2 → wpAny (model X.prog X.w) X.A (f v u) Q X.xe s2) :
    wpAny (model X.prog X.w) X.A (eval a X.env) (fun v s₁ => wpAny (model X.prog X.w) X.A (eval b X.env) (fun u s₂ => wpAny (model X.prog X.w) X.A (f v u) Q X.xe s₂) X.xe s₁) X.xe s := by
  refine thn (ha pins s σ H _ I h) fun v s1 ⟨x, H1, I1, r1, q1⟩ => ?_
  refine thn (hb pins s1 σ H1 _ I1 q1) fun u s2 ⟨y, H2, I2, r2, q2⟩ => ?_
  exact hf v u s2 x y H2 I2 r1 r2 q2
theorem pe_op {op : Operator} {r : R2} (ho : OpR X (binaryOp op) r) (ha : PE X a ta) (hb : PE X b tb) : PE X (.BinOp a op b pos) (tOp r ta tb) := by
  intro pins s σ H Q I h
  exact wpAny_BinOp (binT ha hb I h fun v u s2 x y H2 I2 rx ry q => ho pins s2 σ H2 x y v u Q I2 rx ry q)
theorem pe_un {op : UnaryOp} {r : V → Hp → VK → Prop} (ho : UnR X (unaryOp op) r) (ha : PE X a ta) : PE X (.UnaryOp op a pos) (tUn r ta) := by
  intro pins s σ H Q I h
  exact UnaryOp_ (thn (ha pins s σ H _ I h) fun v s1 ⟨x, H1, I1, r1, q1⟩ => ho pins s1 σ H1 x v Q I1 r1 q1)
theorem opI {f : Value → Value → Sem Value} {C : Int → Int → Prop} {g : Int → Int → Int}
    (rule : ∀ (i j : Int) (t u : Tok) (s : Shared) (Q : Value → Shared → Prop) (E : Value → Shared → Prop), C i j → Q (.int (g i j) s.toks) { s with toks := s.toks + 1 } → wpAny (model X.prog X.w) X.A (f (.int i t) (.int j u)) Q E s) :
    OpR X f (rI C fun i j => .int (g i j)) := by
  intro pins s σ H x y v u Q I rx ry h
  obtain ⟨i, j, rfl, rfl, hc, q⟩ := h
  obtain ⟨t, rfl⟩ := rx
  obtain ⟨t', rfl⟩ := ry
  exact rule i j t t' s _ _ hc ⟨.int (g i j), H, I.tok _, ⟨_, rfl⟩, q⟩
theorem opI0 {f : Value → Value → Sem Value} {g : Int → Int → Int}
    (rule : ∀ (i j : Int) (t u : Tok) (s : Shared) (Q : Value → Shared → Prop) (E : Value → Shared → Prop), Q (.int (g i j) s.toks) { s with toks := s.toks + 1 } → wpAny (model X.prog X.w) X.A (f (.int i t) (.int j u)) Q E s) :
    OpR X f (rI0 fun i j => .int (g i j)) := by
  intro pins s σ H x y v u Q I rx ry h
  obtain ⟨i, j, rfl, rfl, q⟩ := h
  obtain ⟨t, rfl⟩ := rx
  obtain ⟨t', rfl⟩ := ry
  exact rule i j t t' s _ _ ⟨.int (g i j), H, I.tok _, ⟨_, rfl⟩, q⟩
theorem opB0 {f : Value → Value → Sem Value} {g : Int → Int → Bool}
    (rule : ∀ (i j : Int) (t u : Tok) (s : Shared) (Q : Value → Shared → Prop) (E : Value → Shared → Prop), Q (.bool (g i j)) s → wpAny (model X.prog X.w) X.A (f (.int i t) (.int j u)) Q E s) :
    OpR X f (rI0 fun i j => .bl (g i j)) := by
  intro pins s σ H x y v u Q I rx ry h
  obtain ⟨i, j, rfl, rfl, q⟩ := h
  obtain ⟨t, rfl⟩ := rx
  obtain ⟨t', rfl⟩ := ry
  exact rule i j t t' s _ _ ⟨.bl (g i j), H, I, rfl, q⟩
def CMul (i j : Int) : Prop := (-(2 ^ 64) < i ∧ i < 2 ^ 64) ∨ (-(2 ^ 64) < j ∧ j < 2 ^ 64)
theorem CMul.ok {i j : Int} (h : CMul i j) : IntMulOk i j := by
  rcases h with ⟨h1, h2⟩ | ⟨h1, h2⟩
  · exact .of_left (intBits_le_64 h1 h2)
  · exact .of_right (intBits_le_64 h1 h2)
theorem op_add : OpR X (binaryOp .Add) (rI0 fun i j => .int (i + j)) := opI0 fun _ _ _ _ _ _ _ q => add_int q
theorem op_sub : OpR X (binaryOp .Sub) (rI0 fun i j => .int (i - j)) := opI0 fun _ _ _ _ _ _ _ q => sub_int q
theorem op_mod : OpR X (binaryOp .Mod) (rI (fun _ j => 0 < j) fun i j => .int (i % j)) := opI fun i j _ _ _ _ _ hc q => by
  have h1 : (0 : Int) < j := hc
  exact mod_int' (by omega) (by rw [Int.fmod_eq_emod_of_nonneg i (by omega)]; exact q)
theorem unI {f : Value → Sem Value} {g : Int → Int}
    (rule : ∀ (i : Int) (t : Tok) (s : Shared) (Q : Value → Shared → Prop) (E : Value → Shared → Prop), Q (.int (g i) s.toks) { s with toks := s.toks + 1 } → wpAny (model X.prog X.w) X.A (f (.int i t)) Q E s) :
    UnR X f (rU fun i => .int (g i)) := by
  intro pins s σ H x v Q I rx h
  obtain ⟨i, rfl, q⟩ := h
  obtain ⟨t, rfl⟩ := rx
  exact rule i t s _ _ ⟨.int (g i), H, I.tok _, ⟨_, rfl⟩, q⟩
theorem un_neg : UnR X (unaryOp .USub) (rU fun i => .int (-i)) := unI fun _ _ _ _ _ q => neg_int q
end
def scal : V → V → Bool
  | .non, .non => true | .non, .int _ => true | .int _, .non => true | .non, .bl _ => true | .bl _, .non => true | .non, .str _ => true | .str _, .non => true
  | .int _, .int _ => true | .bl _, .bl _ => true | .str _, .str _ => true | .byt _, .byt _ => true
  | .int _, .str _ => true | .str _, .int _ => true | .bl _, .str _ => true | .str _, .bl _ => true
  | _, _ => false
def rEq : R2 := fun x y H Q => scal x y = true ∧ Q (.bl (decide (x = y))) H
theorem dec_int {i j : Int} : decide (V.int i = V.int j) = (i == j) := by
  rw [Bool.eq_iff_iff]
  simp
theorem dec_bl {i j : Bool} : decide (V.bl i = V.bl j) = (i == j) := by
  rw [Bool.eq_iff_iff]
  simp
theorem dec_str {i j : Str} : decide (V.str i = V.str j) = (i == j) := by
  rw [Bool.eq_iff_iff]
  simp
theorem dec_byt {i j : Array UInt8} : decide (V.byt i = V.byt j) = (i.toList == j.toList) := by
  rw [Bool.eq_iff_iff]
  cases i
  cases j
  simp
section
variable {X : Cx} {a b c : Expr} {ta tb tc : TE} {pos : Pos}
theorem fin_bl {pins : List (Addr × Obj)} {σ : St} {H : Hp} {s : Shared} {Q : VK} {k k' : Bool} (I : Inv X pins σ H s) (q : Q (.bl k) H) (e : k = k') : EP X pins σ Q (.bool k') s := by
  subst e
  exact ⟨.bl k, H, I, rfl, q⟩
theorem op_eq : OpR X (compareOp .Eq) rEq := by
  intro pins s σ H x y v u Q I rx ry h
  obtain ⟨hs, q⟩ := h
  cases x with
  | non =>
    cases rx
    cases y with
    | non => cases ry; exact PySem.EqNone.eq_none_none (fin_bl I q (by simp))
    | bl j => cases ry; exact PySem.EqNone.eq_none_bool (fin_bl I q (by simp))
    | int j => obtain ⟨t', rfl⟩ := ry; exact PySem.EqNone.eq_none_int (fin_bl I q (by simp))
    | str j => obtain ⟨t', rfl⟩ := ry; exact PySem.EqNone.eq_none_str (fin_bl I q (by simp))
    | _ => exact absurd (show false = true from hs) Bool.false_ne_true
  | bl i =>
    cases rx
    cases y with
    | non => cases ry; exact PySem.EqNone.eq_bool_none (fin_bl I q (by simp))
    | bl j => cases ry; exact eq_bool (fin_bl I q dec_bl)
    | str j => obtain ⟨t', rfl⟩ := ry; exact PySem.EqMixed.eq_bool_str (fin_bl I q (by simp))
    | _ => exact absurd (show false = true from hs) Bool.false_ne_true
  | int i =>
    obtain ⟨t, rfl⟩ := rx
    cases y with
    | non => cases ry; exact PySem.EqNone.eq_int_none (fin_bl I q (by simp))
    | int j => obtain ⟨t', rfl⟩ := ry; exact eq_int (fin_bl I q dec_int)
    | str j => obtain ⟨t', rfl⟩ := ry; exact PySem.EqMixed.eq_int_str (fin_bl I q (by simp))
    | _ => exact absurd (show false = true from hs) Bool.false_ne_true
  | str i =>
    obtain ⟨t, rfl⟩ := rx
    cases y with
    | non => cases ry; exact PySem.EqNone.eq_str_none (fin_bl I q (by simp))
    | bl j => cases ry; exact PySem.EqMixed.eq_str_bool (fin_bl I q (by simp))
    | int j => obtain ⟨t', rfl⟩ := ry; exact PySem.EqMixed.eq_str_int (fin_bl I q (by simp))
    | str j => obtain ⟨t', rfl⟩ := ry; exact eq_str (fin_bl I q dec_str)
    | _ => exact absurd (show false = true from hs) Bool.false_ne_true
  | byt i =>
    obtain ⟨t, rfl⟩ := rx
    cases y with
    | byt j => obtain ⟨t', rfl⟩ := ry; exact PySem.W.eq_bytes (fin_bl I q dec_byt)
    | _ => exact absurd (show false = true from hs) Bool.false_ne_true
  | _ => cases y <;> exact absurd (show false = true from hs) Bool.false_ne_true
theorem op_lt : OpR X (compareOp .Lt) (rI0 fun i j => .bl (decide (i < j))) := opB0 fun _ _ _ _ _ _ _ q => lt_int q
theorem op_le : OpR X (compareOp .LtE) (rI0 fun i j => .bl (decide (i ≤ j))) := opB0 fun _ _ _ _ _ _ _ q => le_int q
theorem op_gt : OpR X (compareOp .Gt) (rI0 fun i j => .bl (decide (j < i))) := opB0 fun _ _ _ _ _ _ _ q => gt_int q
theorem op_ge : OpR X (compareOp .GtE) (rI0 fun i j => .bl (decide (j ≤ i))) := opB0 fun _ _ _ _ _ _ _ q => ge_int q
theorem nomark (b : Expr) {op : CmpOp} (h : op ≠ .In := by decide) (h2 : op ≠ .NotIn := by decide) : behindInMarks op b = false := by
  have e1 : (op == CmpOp.In) = false := by cases op <;> first | rfl | exact absurd rfl h
  have e2 : (op == CmpOp.NotIn) = false := by cases op <;> first | rfl | exact absurd rfl h2
  cases b <;> simp [behindInMarks, e1, e2]
theorem pe_cmpR {op : CmpOp} {r : R2} (ho : OpR X (compareOp op) r) (ha : PE X a ta) (hb : PE X b tb) (hm : behindInMarks op b = false) : PE X (.Compare a [op] [b] pos) (tOp r ta tb) := by
  intro pins s σ H Q I h
  exact wpAny_Compare1 (binT ha hb I h fun v u s2 x y H2 I2 rx ry q => ho pins s2 σ H2 x y v u Q I2 rx ry q) hm
def tTest (t : TE) : TT := fun σ H Q => t σ H fun x H' => ∃ k, x = .bl k ∧ Q k H'
theorem pt_cmpR {op : CmpOp} {r : R2} (ho : OpR X (compareOp op) r) (ha : PE X a ta) (hb : PE X b tb) (hm : behindInMarks op b = false) : PT X (.Compare a [op] [b] pos) (tTest (tOp r ta tb)) := by
  intro pins s σ H Q I h
  refine wpAny_isTrue_Compare1 (thn (ha pins s σ H _ I h) fun v s1 ⟨x, H1, I1, r1, q1⟩ => thn (hb pins s1 σ H1 _ I1 q1) fun u s2 ⟨y, H2, I2, r2, q2⟩ =>
    thn (ho pins s2 σ H2 x y v u _ I2 r1 r2 q2) fun c s3 ⟨z, H3, I3, r3, k, e, q3⟩ => ?_) hm
  subst e
  cases r3
  exact wpAny_truthy_bool ⟨H3, I3, q3⟩
def tChain (r r' : R2) (ta tb tc : TE) : TE := fun σ H Q => ta σ H fun x H1 => tb σ H1 fun y H2 => r x y H2 fun z H3 => ∃ k, z = .bl k ∧
  (if k = true then tc σ H3 fun w' H4 => r' y w' H4 Q else Q (.bl false) H3)
theorem pe_chain {op op' : CmpOp} {r r' : R2} (ho : OpR X (compareOp op) r) (ho' : OpR X (compareOp op') r') (ha : PE X a ta) (hb : PE X b tb) (hc : PE X c tc)
    (hm : lastMarks [op, op'] [b, c] = false := by with_unfolding_all rfl) : PE X (.Compare a [op, op'] [b, c] pos) (tChain r r' ta tb tc) := by
  intro pins s σ H Q I h
  refine Compare_chain (thn (ha pins s σ H _ I h) fun v s1 ⟨x, H1, I1, r1, q1⟩ => chain_link (thn (hb pins s1 σ H1 _ I1 q1) fun u s2 ⟨y, H2, I2, r2, q2⟩ =>
    thn (ho pins s2 σ H2 x y v u _ I2 r1 r2 q2) fun d s3 ⟨z, H3, I3, r3, k, e, q3⟩ => ?_)) hm
  subst e
  cases r3
  refine wpAny_truthy_bool ?_
  cases k with
  | false => exact ite_ff ⟨.bl false, H3, I3, rfl, q3⟩
  | true => exact ite_tt (chain_last (thn (hc pins s3 σ H3 _ I3 q3) fun w' s4 ⟨z', H4, I4, r4, q4⟩ => ho' pins s4 σ H4 y z' u w' Q I4 r2 r4 q4))
theorem pt_chain {op op' : CmpOp} {r r' : R2} (ho : OpR X (compareOp op) r) (ho' : OpR X (compareOp op') r') (ha : PE X a ta) (hb : PE X b tb) (hc : PE X c tc)
    (hm : lastMarks [op, op'] [b, c] = false := by with_unfolding_all rfl) : PT X (.Compare a [op, op'] [b, c] pos) (tTest (tChain r r' ta tb tc)) := by
  intro pins s σ H Q I h
  refine isTrue_chain (thn (ha pins s σ H _ I h) fun v s1 ⟨x, H1, I1, r1, q1⟩ => test_link (thn (hb pins s1 σ H1 _ I1 q1) fun u s2 ⟨y, H2, I2, r2, q2⟩ =>
    thn (ho pins s2 σ H2 x y v u _ I2 r1 r2 q2) fun d s3 ⟨z, H3, I3, r3, k, e, q3⟩ => ?_)) hm
  subst e
  cases r3
  refine wpAny_truthy_bool ?_
  cases k with
  | false =>
    obtain ⟨k', e', q'⟩ := q3
    cases e'
    exact ite_ff ⟨H3, I3, q'⟩
  | true =>
    refine ite_tt (test_last (thn (hc pins s3 σ H3 _ I3 q3) fun w' s4 ⟨z', H4, I4, r4, q4⟩ => thn (ho' pins s4 σ H4 y z' u w' _ I4 r2 r4 q4) fun d' s5 ⟨z2, H5, I5, r5, k2, e2, q5⟩ => ?_))
    subst e2
    cases r5
    exact wpAny_truthy_bool ⟨H5, I5, q5⟩
theorem line63 : (sizeLine : Nat) < 2 ^ 63 := by rw [sizeLine_eq]; decide
theorem vals1 {x : V} {us : List Value} (r : Vals [x] us) : ∃ u, us = [u] ∧ RelV x u := by
  cases r with
  | cons r1 r2 => cases r2; exact ⟨_, rfl, r1⟩
theorem vals2 {x y : V} {us : List Value} (r : Vals [x, y] us) : ∃ u w', us = [u, w'] ∧ RelV x u ∧ RelV y w' := by
  cases r with
  | cons r1 r2 =>
    cases r2 with
    | cons r3 r4 => cases r4; exact ⟨_, _, rfl, r1, r3⟩
theorem call_max2 (hc : X.calm = true) : CallR X (.builtin "max") (fun xs H Q => ∃ i j, xs = [.int i, .int j] ∧ Q (.int (if j > i then j else i)) H) := by
  intro pins s σ H xs us Q I r h
  obtain ⟨i, j, rfl, q⟩ := h
  obtain ⟨u, w', rfl, ⟨t, rfl⟩, ⟨t', rfl⟩⟩ := vals2 r
  refine max_two_ints (I.ok.hd hc) fun h' tk k => ⟨_, H, I.kept k, ?_, q⟩
  by_cases hj : j > i
  · rw [if_pos hj, if_pos hj]; exact ⟨_, rfl⟩
  · rw [if_neg hj, if_neg hj]; exact ⟨_, rfl⟩
theorem call_min2 (hc : X.calm = true) : CallR X (.builtin "min") (fun xs H Q => ∃ i j, xs = [.int i, .int j] ∧ Q (.int (if j < i then j else i)) H) := by
  intro pins s σ H xs us Q I r h
  obtain ⟨i, j, rfl, q⟩ := h
  obtain ⟨u, w', rfl, ⟨t, rfl⟩, ⟨t', rfl⟩⟩ := vals2 r
  refine min_two_ints (I.ok.hd hc) fun h' tk k => ⟨_, H, I.kept k, ?_, q⟩
  by_cases hj : j < i
  · rw [if_pos hj, if_pos hj]; exact ⟨_, rfl⟩
  · rw [if_neg hj, if_neg hj]; exact ⟨_, rfl⟩
end
end L2
namespace L2
open PySem PySem.Spec PyProof.Rows
structure ObjM (h : Heap) (x dx C : Addr) (mA : Str → Option Value) : Prop where
  obj : h.get? x = some (PySem.W.instObj C dx)
  ns : h.Ns1 dx mA
  ne : dx ≠ x
theorem lookIn_ns {h : Heap} {dx : Addr} {mA : Str → Option Value} (n : h.Ns1 dx mA) : ∃ od, h.get? dx = some od ∧ ∀ name, PySem.W.lookIn name od = some (mA name) := by
  obtain ⟨o, es, ep, ho, hd, hk, _, hm⟩ := n
  refine ⟨o, ho, fun name => ?_⟩
  have e := hm name
  unfold nsFind findBy at e
  rw [← Array.find?_toList] at e
  unfold PySem.W.lookIn
  rw [hd]
  dsimp only
  split
  · rename_i y q
    rw [q] at e
    exact congrArg some e
  · rename_i q
    rw [q] at e
    have a : es.toList.any (·.refKey) = false := by
      rw [List.any_eq_false]
      intro y hy
      obtain ⟨z, t, hkey⟩ := hk y (Array.mem_toList_iff.mp hy)
      simp [DictEntry.refKey, hkey]
    have a' : ¬ es.toList.any (·.refKey) = true := by rw [a]; exact Bool.false_ne_true
    rw [if_neg a']
    exact congrArg some e
theorem ObjM.look {h : Heap} {x dx C : Addr} {mA : Str → Option Value} (I : ObjM h x dx C mA) : ∃ od, PySem.W.InstAt h x (PySem.W.instObj C dx) C (some od) ∧ ∀ name, PySem.W.lookIn name od = some (mA name) :=
  let ⟨od, ho, hl⟩ := lookIn_ns I.ns
  ⟨od, ⟨I.obj, rfl, rfl, ho⟩, hl⟩
section
variable {prog : Program} {w : World} {A : Around} {E : Value → Shared → Prop} {s : Shared} {K : PySem.W.Frag} {x dx C f : Addr} {mA : Str → Option Value} {name : Str} {v : Value}
theorem get_map {expr : Bool} {Q : Value → Shared → Prop} (X : K.In s.heap) (I : ObjM s.heap x dx C mA) (hg : PySem.W.plainGet K C name = true) (hh : PySem.W.hasDictIn K C = true)
    (ha : PySem.W.findIn K (.ref C) name = some none) (hv : mA name = some v) (hv' : PySem.W.handedIn v = true) (h : Q v { s with toks := s.toks + 1 }) :
    wpAny (model prog w) A (getAttr (.ref x) name expr) Q E s := by
  obtain ⟨od, J, hl⟩ := I.look
  exact PySem.W.get_value X J (PySem.W.plainGet_of hg).1 (PySem.W.findObj_own hh ha rfl (by rw [hl, hv])) hv' h
theorem get_meth {pl : Sem Bool} {Q : Value × List Value → Shared → Prop} (X : K.In s.heap) (I : ObjM s.heap x dx C mA) (hg : PySem.W.plainGet K C name = true)
    (hf : PySem.W.findIn K (.ref C) name = some (some (.ref f))) (ht : PySem.W.isFn K (.ref f) = true) (hv : mA name = none) (h : Q (.ref f, [.ref x]) s) :
    wpAny (model prog w) A (getMethod (.ref x) name pl) Q E s := by
  obtain ⟨od, J, hl⟩ := I.look
  exact PySem.W.method_fn X J (PySem.W.plainGet_of hg).1 (PySem.W.plainGet_of hg).2 hf (beq_iff_eq.mp ht) (by show (PySem.W.lookIn name od).map (·.isSome) = some false; rw [hl, hv]; rfl) h
theorem set_map {ns : List Str} {Q : Unit → Shared → Prop} (X : K.In s.heap) (I : ObjM s.heap x dx C mA)
    (hs : PySem.W.findIn K (.ref C) "__setattr__" = some (some (.builtin "object.__setattr__"))) (hp : PySem.W.plainOver K C = true) (ht : PySem.W.takerIn K C name = some none) (hh : PySem.W.hasDictIn K C = true)
    (hw : PySem.Within mA ns) (hsz : ns.length ≤ sizeLine)
    (h : ∀ h', ObjM h' x dx C (fun y => if y = name then some v else mA y) → Heap.SameBut dx s.heap h' → Q () { s with heap := h', toks := s.toks + 2 }) :
    wpAny (model prog w) A (setAttr (.ref x) name v) Q E s := by
  obtain ⟨od, J, hl⟩ := I.look
  refine PySem.W.set_plain X J hs (PySem.W.osa_open (s := { s with toks := s.toks + 1 }) (r := none) X J hp ht fun b => ?_)
  obtain ⟨cd, hc, hd'⟩ := PySem.W.any_some hh
  have hx : s.heap.get? x = some ⟨.ref C, some dx, .plain, #[]⟩ := I.obj
  refine wpAny_bind (wpAny_pure (wpAny_bind (wpAny_bind (wpAny_loadPart hx (wpAny_bind (PySem.W.Looks.here (s := { s with toks := s.toks + 1 }) (PySem.W.looks_clsIn X hc) ?_))))))
  rw [hd']
  refine wpAny_pure (a := some dx) (wpAny_bind (wpAny_pure (wpAny_bind ?_)))
  refine wpAny_nsSet1 (s := { s with toks := s.toks + 1 }) I.ns fun h' hn2 hs2 => ?_
  obtain ⟨oD, esD, epD, hoD, hdD, hcD⟩ := hn2.count (PySem.Within.cons name v hw)
  refine wpAny_bind (wpAny_lookBehind hoD (by rw [hdD]; exact pastItsLine_dict (Nat.le_trans hcD (by rw [List.length_cons]; omega))) ?_)
  exact wpAny_pure (h _ ⟨(hs2.2 _ (Ne.symm I.ne)).trans I.obj, hn2, I.ne⟩ hs2)
theorem make_map {R : Result → Shared → Prop} {vs : List Value} {kw : List (Str × Value)} (X : K.In s.heap) (hm : PySem.W.makesIn K C = true)
    (hi : PySem.W.findIn K (.ref C) "__init__" = some (some (.ref f))) (hf : PySem.W.typeIn K (.ref f) = some (.type "function"))
    (h : codeAny (model prog w) (A.under (.builtin "type.__call__" ⟨.ref C :: vs, kw⟩)) (.call (.ref f) ⟨.ref (s.heap.objs.size + 1) :: vs, kw⟩) (PySem.W.InitBack (s.heap.objs.size + 1) R)
      { s with heap := (s.heap.push PySem.W.emptyDict).push (PySem.W.instObj C s.heap.objs.size) }) :
    codeAny (model prog w) A (.call (.ref C) ⟨vs, kw⟩) R s := by
  obtain ⟨hh, g, d, t, os⟩ := s
  exact PySem.W.make_core (PySem.W.makes_of X hm) (PySem.W.looks_findIn X hi) (fun self => PySem.W.bind_fn X self hf) (.inl rfl) h
end
def putF (f : Str) (v : V) : List (Str × V) → List (Str × V)
  | [] => [(f, v)]
  | (g, x) :: r => if g = f then (g, v) :: r else (g, x) :: putF f v r
theorem lookup_putF (f g : Str) (v : V) : ∀ fs : List (Str × V), (putF f v fs).lookup g = if g = f then some v else fs.lookup g
  | [] => by
    show List.lookup g [(f, v)] = _
    by_cases h : g = f
    · have hb : (g == f) = true := beq_iff_eq.mpr h
      simp only [List.lookup, hb, if_pos h]
    · have hb : (g == f) = false := beq_eq_false_iff_ne.mpr h
      simp only [List.lookup, hb, if_neg h]
  | (k, x) :: r => by
    have ih := lookup_putF f g v r
    rw [show putF f v ((k, x) :: r) = (if k = f then (k, v) :: r else (k, x) :: putF f v r) from rfl]
    by_cases hk : k = f
    · rw [if_pos hk]
      by_cases h : g = k
      · have hb : (g == k) = true := beq_iff_eq.mpr h
        simp only [List.lookup, hb, if_pos (h.trans hk)]
      · have hb : (g == k) = false := beq_eq_false_iff_ne.mpr h
        simp only [List.lookup, hb, if_neg (fun e : g = f => h (e.trans hk.symm))]
    · rw [if_neg hk]
      by_cases h : g = k
      · have hb : (g == k) = true := beq_iff_eq.mpr h
        simp only [List.lookup, hb, if_neg (fun e : g = f => hk (h.symm.trans e))]
      · have hb : (g == k) = false := beq_eq_false_iff_ne.mpr h
        simp only [List.lookup, hb]
        exact ih
theorem keys_putF (f : Str) (v : V) : ∀ fs : List (Str × V), f ∈ (putF f v fs).map (·.1) ∧ ∀ g, g ∈ fs.map (·.1) → g ∈ (putF f v fs).map (·.1)
  | [] => ⟨by simp [putF], fun g h => by simp at h⟩
  | (k, x) :: r => by
    obtain ⟨i1, i2⟩ := keys_putF f v r
    rw [show putF f v ((k, x) :: r) = (if k = f then (k, v) :: r else (k, x) :: putF f v r) from rfl]
    by_cases hk : k = f
    · rw [if_pos hk]
      subst hk
      exact ⟨by simp, fun g h => by simpa using h⟩
    · rw [if_neg hk]
      refine ⟨?_, fun g h => ?_⟩
      · rw [List.map_cons]
        exact List.mem_cons_of_mem _ i1
      · rw [List.map_cons] at h ⊢
        rcases List.mem_cons.mp h with e | e
        · exact List.mem_cons.mpr (.inl e)
        · exact List.mem_cons_of_mem _ (i2 g e)
theorem length_putF (f : Str) (v : V) : ∀ fs : List (Str × V), (putF f v fs).length ≤ fs.length + 1
  | [] => by simp [putF]
  | (k, x) :: r => by
    have ih := length_putF f v r
    rw [show putF f v ((k, x) :: r) = (if k = f then (k, v) :: r else (k, x) :: putF f v r) from rfl]
    by_cases hk : k = f
    · rw [if_pos hk, List.length_cons, List.length_cons]; omega
    · rw [if_neg hk, List.length_cons, List.length_cons]; omega
theorem RelO.some_of {v : V} {o : Option Value} (r : RelO (some v) o) : ∃ u, o = some u ∧ RelV v u := by
  cases o with
  | none => exact (show False from r).elim
  | some u => exact ⟨u, rfl, r⟩
theorem RelO.none_of {o : Option Value} (r : RelO none o) : o = none := by
  cases o with
  | none => rfl
  | some u => exact (show False from r).elim
theorem handed_of {v : V} {u : Value} (r : RelV v u) : PySem.W.handedIn u = true := by
  cases v with
  | non => cases (show u = Value.none from r); rfl
  | bl b => cases (show u = Value.bool b from r); rfl
  | int i => obtain ⟨t, e⟩ := (show ∃ t, u = Value.int i t from r); cases e; rfl
  | str x => obtain ⟨t, e⟩ := (show ∃ t, u = Value.str x t from r); cases e; rfl
  | byt b => obtain ⟨t, e⟩ := (show ∃ t, u = Value.bytes b t from r); cases e; rfl
  | flt b => obtain ⟨t, e⟩ := (show ∃ t, u = Value.float b t from r); cases e; rfl
  | ref a => cases (show u = Value.ref a from r); rfl
  | ty n => cases (show u = Value.type n from r); rfl
section
variable {P : Program} {w : World} {H H' : Hp} {h h' : Heap} {a C dx : Addr} {fs fs' : List (Str × V)}
theorem ins_get (hok : HOk P w H h) (e : H a = some (.ins C dx fs)) : ∃ mA, ObjM h a dx C mA ∧ (∀ f, RelO (fs.lookup f) (mA f)) ∧ PySem.Within mA (fs.map (·.1)) ∧ fs.length ≤ 1000 ∧ H dx = some (.own a) := by
  obtain ⟨d, z, ne, ob, mA, n, r, q⟩ := (show ObjOk P w H h a (.ins C dx fs) from hok a _ e)
  exact ⟨mA, ⟨ob, n, ne⟩, r, q, z, d⟩
end
structure Cls (K : PySem.W.Frag) (C : Addr) : Prop where
  pg : PySem.W.plainGet K C Str.empty = true
  hd : PySem.W.hasDictIn K C = true
  po : PySem.W.plainOver K C = true
  sa : PySem.W.findIn K (.ref C) "__setattr__" = some (some (.builtin "object.__setattr__"))
theorem Cls.get {K : PySem.W.Frag} {C : Addr} (c : Cls K C) (f : Str) : PySem.W.plainGet K C f = true := c.pg
def NoAttr (K : PySem.W.Frag) (C : Addr) (f : Str) : Prop := PySem.W.findIn K (.ref C) f = some none
theorem NoAttr.taker {K : PySem.W.Frag} {C : Addr} {f : Str} (n : NoAttr K C f) : PySem.W.takerIn K C f = some none := by
  unfold PySem.W.takerIn
  rw [show PySem.W.findIn K (.ref C) f = some none from n]
  rfl
structure Meth (K : PySem.W.Frag) (C : Addr) (m : Str) (f : Addr) : Prop where
  at_ : PySem.W.findIn K (.ref C) m = some (some (.ref f))
  fn : PySem.W.isFn K (.ref f) = true
  kp : PySem.W.keepIn K (.ref f) = true
section
variable {X : Cx} {pins : List (Addr × Obj)} {σ : St} {H : Hp} {s : Shared} {a C dx : Addr} {fs : List (Str × V)} {f : Str} {v : V} {A : Around} {E : Value → Shared → Prop}
theorem getattr_ok {b : Bool} {Q : Value → Shared → Prop} (I : Inv X pins σ H s) (e : H a = some (.ins C dx fs)) (c : Cls X.K C) (n : NoAttr X.K C f) (l : fs.lookup f = some v)
    (h : ∀ u s', Inv X pins σ H s' → RelV v u → Q u s') : wpAny (model X.prog X.w) A (getAttr (.ref a) f b) Q E s := by
  obtain ⟨mA, O, r, _, _, _⟩ := ins_get I.hok e
  obtain ⟨u, hu, ru⟩ := RelO.some_of (v := v) (o := mA f) (by rw [← l]; exact r f)
  exact get_map I.kIn O (c.get f) c.hd n hu (handed_of ru) (h u _ (I.tok _) ru)
theorem getmeth_ok {m : Str} {g : Addr} {pl : Sem Bool} {Q : Value × List Value → Shared → Prop} (I : Inv X pins σ H s) (e : H a = some (.ins C dx fs)) (c : Cls X.K C) (k : Meth X.K C m g) (l : fs.lookup m = none)
    (h : Q (.ref g, [.ref a]) s) : wpAny (model X.prog X.w) A (getMethod (.ref a) m pl) Q E s := by
  obtain ⟨mA, O, r, _, _, _⟩ := ins_get I.hok e
  have hn : mA m = none := RelO.none_of (by rw [← l]; exact r m)
  exact get_meth I.kIn O (c.get m) k.at_ k.fn hn h
theorem setattr_ok {y : V} {u : Value} {Q : Unit → Shared → Prop} (I : Inv X pins σ H s) (e : H a = some (.ins C dx fs)) (c : Cls X.K C) (n : NoAttr X.K C f) (hl : fs.length < 1000) (ry : RelV y u)
    (h : ∀ s', Inv X pins σ (upd H a (.ins C dx (putF f y fs))) s' → Q () s') : wpAny (model X.prog X.w) A (setAttr (.ref a) f u) Q E s := by
  obtain ⟨mA, O, r, wi, _, ho⟩ := ins_get I.hok e
  have hz : (fs.map (·.1)).length ≤ sizeLine := by rw [List.length_map, sizeLine_eq]; omega
  refine set_map I.kIn O c.sa c.po n.taker c.hd wi hz fun h' O' sb => h _ ?_
  have hd : ∃ o, h'.get? dx = some o := let ⟨o, _, _, e', _⟩ := O'.ns; ⟨o, e'⟩
  refine I.write (x := a) (e := dx) (by rw [e]; exact True.intro) (.inr ho) (fun b q hb z => (sb.2 b hb).trans z) hd ?_
  refine ⟨by rw [upd_ne O.ne]; exact ho, ?_, O.ne, O'.obj, _, O'.ns, fun g => ?_, fun g hg => ?_⟩
  · have := length_putF f y fs; omega
  · show RelO ((putF f y fs).lookup g) (if g = f then some u else mA g)
    rw [lookup_putF]
    by_cases q : g = f
    · rw [if_pos q, if_pos q]; exact ry
    · rw [if_neg q, if_neg q]; exact r g
  · by_cases q : g = f
    · rw [q]; exact (keys_putF f y fs).1
    · refine (keys_putF f y fs).2 g (wi g fun z => hg ?_)
      show (if g = f then some u else mA g) = none
      rw [if_neg q]; exact z
theorem Inv.made (I : Inv X pins σ H s) : Inv X pins σ (upd (upd H s.heap.objs.size (.own (s.heap.objs.size + 1))) (s.heap.objs.size + 1) (.ins C s.heap.objs.size []))
    { s with heap := (s.heap.push PySem.W.emptyDict).push (PySem.W.instObj C s.heap.objs.size) } := by
  have e1 : (s.heap.push PySem.W.emptyDict).get? s.heap.objs.size = some PySem.W.emptyDict := Heap.get?_push_size s.heap rfl
  have e2 : ((s.heap.push PySem.W.emptyDict).push (PySem.W.instObj C s.heap.objs.size)).get? (s.heap.objs.size + 1) = some (PySem.W.instObj C s.heap.objs.size) := by
    have := Heap.get?_push_size (s.heap.push PySem.W.emptyDict) (o := PySem.W.instObj C s.heap.objs.size) rfl
    rwa [Heap.size_push] at this
  have e3 : (s.heap.push PySem.W.emptyDict).Ns s.heap.objs.size (fun _ => none) := ⟨PySem.W.emptyDict, #[], _, e1, rfl, (fun e he => absurd he (by simp)), fun _ => rfl⟩
  have I1 := I.laid (a := s.heap.objs.size) (o := .own (s.heap.objs.size + 1)) (h' := s.heap.push PySem.W.emptyDict) (t' := s.toks) (fun b u q => Heap.get?_push_of_some _ q) (Nat.le_refl _) ⟨_, e1⟩
  refine I1.laid (a := s.heap.objs.size + 1) (o := .ins C s.heap.objs.size []) (t' := s.toks) (fun b u q => Heap.get?_push_of_some _ q) (Nat.le_of_eq (Heap.size_push _ _)) ?_
  have ne : s.heap.objs.size ≠ s.heap.objs.size + 1 := Nat.ne_of_lt (Nat.lt_succ_self _)
  refine ⟨by rw [upd_ne ne, upd_same], Nat.zero_le _, ne, e2, fun _ => none, (Heap.Ns1.of_empty e3).at fun o q => Heap.get?_push_of_some _ q, fun _ => True.intro, fun y hy => absurd rfl hy⟩
theorem attr_of {prog : Program} {w : World} {env : Env} {e : Expr} {f : Str} {pos : Pos} {s : Shared} {Q : Value → Shared → Prop} (hb : attributeBase e f env (eval e env) = eval e env)
    (h : wpAny (model prog w) A (eval e env) (fun o s₁ => wpAny (model prog w) A (getAttr o f true) Q E s₁) E s) : wpAny (model prog w) A (eval (.Attribute e f pos) env) Q E s :=
  Attribute_any_ h (by rw [arm_eval_Attribute, hb])
end
def tFld (K : PySem.W.Frag) (ta : TE) (f : Str) : TE := fun σ H Q => ta σ H fun x H1 => ∃ a C dx fs v, x = .ref a ∧ H1 a = some (.ins C dx fs) ∧ Cls K C ∧ NoAttr K C f ∧ fs.lookup f = some v ∧ Q v H1
def sFld (K : PySem.W.Frag) (ta tv : TE) (f : Str) : TS := fun D σ H => tv σ H fun y H1 => ta σ H1 fun x H2 => ∃ a C dx fs, x = .ref a ∧ H2 a = some (.ins C dx fs) ∧ Cls K C ∧ NoAttr K C f ∧ fs.length < 1000 ∧
  D.nx σ (upd H2 a (.ins C dx (putF f y fs)))
section
variable {X : Cx} {o e value : Expr} {f : Str} {pos pos' tpos : Pos} {ta tv : TE}
theorem pe_fld (he : PE X e ta) (hb : attributeBase e f X.env (eval e X.env) = eval e X.env) : PE X (.Attribute e f pos) (tFld X.K ta f) := by
  intro pins s σ H Q I h
  refine attr_of hb (thn (he pins s σ H _ I h) fun u s1 ⟨x, H1, I1, rx, a, C, dx, fs, v, ex, ea, c, n, l, q⟩ => ?_)
  subst ex
  obtain rfl : u = Value.ref a := rx
  exact getattr_ok I1 ea c n l fun u' s2 I2 ru => ⟨v, H1, I2, ru, q⟩
theorem ps_fld (ha : PE X o ta) (hv : PE X value tv) (hs : swapsWith value (some (.Attribute o f pos')) pos.line X.env = pure false) : PS X (.Assign [.Attribute o f pos'] value pos) (sFld X.K ta tv f) := by
  intro pins s σ H D I h
  refine plainObj_wpAny_Assign_Attribute (thn (hv pins s σ H _ I h) fun u s1 ⟨y, H1, I1, ry, q⟩ => thn (ha pins s1 σ H1 _ I1 q) fun ov s2 ⟨x, H2, I2, rx, a, C, dx, fs, ex, ea, c, n, l, q2⟩ => ?_) hs
  subst ex
  obtain rfl : ov = Value.ref a := rx
  exact setattr_ok I2 ea c n l ry fun s3 I3 => ⟨σ, _, I3, q2⟩
end
section
variable {X : Cx} {pins : List (Addr × Obj)} {σ : St} {H : Hp} {s : Shared} {A : Around} {E : Value → Shared → Prop} {Q : Value → Shared → Prop} {c : Value} {b : Bool}
end
end L2
namespace L2
open PySem PySem.Spec PyProof.Rows
structure Room (k : Nat) (A : Around) : Prop where
  hd : A.handled = none
  dp : A.depth + 3 * k + 5 < recursionLimit
  un : A.units + 16 * k + 200 < cLine
theorem Room.mono {j k : Nat} {A : Around} (r : Room k A) (h : j ≤ k) : Room j A := ⟨r.hd, by have := r.dp; omega, by have := r.un; omega⟩
theorem Room.deeper {k : Nat} {A : Around} (r : Room (k + 1) A) (env : Env) : Room k (A.deeper env) :=
  ⟨r.hd, by have := r.dp; show A.depth + 1 + 3 * k + 5 < _; omega, by have := r.un; show A.units + 3 + 16 * k + 200 < _; omega⟩
theorem make_depth {A : Around} {C : Addr} {us : List Value} {kw : List (Str × Value)} : (A.under (.builtin "type.__call__" ⟨.ref C :: us, kw⟩)).depth = A.depth + 1 := by
  first | rfl | simp [Around.under, Code.weight, Code.isCreation, Code.isGuard, Code.isCaller, Code.frames, Code.isFrame, guardIds]
theorem make_units {A : Around} {C : Addr} {us : List Value} {kw : List (Str × Value)} : (A.under (.builtin "type.__call__" ⟨.ref C :: us, kw⟩)).units = A.units + 1 := by
  first | rfl | simp [Around.under, Code.cUnits, Code.frames, Code.isFrame]
theorem Room.make {k : Nat} {A : Around} (r : Room (k + 1) A) (C : Addr) (us : List Value) (kw : List (Str × Value)) : Room k (A.under (.builtin "type.__call__" ⟨.ref C :: us, kw⟩)) :=
  ⟨r.hd, by have := r.dp; rw [make_depth]; omega, by have := r.un; rw [make_units]; omega⟩
theorem Room.depth {k : Nat} {A : Around} (r : Room k A) : A.depth < recursionLimit := by have := r.dp; omega
theorem Room.units {k : Nat} {A : Around} (r : Room k A) : A.units + 64 < cLine := by have := r.un; omega
def tNil : TA := fun _ H Q => Q [] H
def tCons (ta : TE) (tr : TA) : TA := fun σ H Q => ta σ H fun x H1 => tr σ H1 fun xs H2 => Q (x :: xs) H2
section
variable {X : Cx} {e : Expr} {es : List Expr} {te : TE} {t : TA} {pos : Pos}
theorem pa_nil : PA X [] tNil := fun _ _ _ _ H Q I h => Calls.spliced_nil ⟨[], H, I, .nil, h⟩
theorem pa_cons (ha : PE X e te) (hr : PA X es t) (hs : starEach (e :: es) X.env = (false, eval e X.env) :: starEach es X.env := by rfl) : PA X (e :: es) (tCons te t) := by
  intro pos pins s σ H Q I h
  rw [hs]
  show wpAny _ _ (spliced ((false, eval e X.env) :: backTo pos (starEach es X.env))) _ _ s
  refine Calls.spliced_cons (thn (ha pins s σ H _ I h) fun u s1 ⟨x, H1, I1, r1, q1⟩ => ?_)
  exact thn (hr pos pins s1 σ H1 _ I1 q1) fun us s2 ⟨xs, H2, I2, r2, q2⟩ => ⟨x :: xs, H2, I2, .cons r1 r2, q2⟩
def tLst (t : TA) : TE := fun σ H Q => t σ H fun xs H1 => xs.length ≤ sizeLine ∧ ∀ p, H1 p = none → Q (.ref p) (upd H1 p (.lst xs))
theorem pe_lst (h : PA X es t) : PE X (.List es pos) (tLst t) := by
  intro pins s σ H Q I hq
  refine wpAny_List_spliced (thn (h pos pins s σ H _ I hq) fun us s1 ⟨xs, H1, I1, r, z, q⟩ => ⟨by rw [← r.length]; exact z, ?_⟩)
  have hf : H1 s1.heap.objs.size = none := I1.hok.fresh (Nat.le_refl _)
  refine ⟨.ref s1.heap.objs.size, upd H1 s1.heap.objs.size (.lst xs), I1.laid (t' := s1.toks) (fun b u e => Heap.get?_push_of_some _ e) (Nat.le_refl _) ?_, rfl, q _ hf⟩
  exact ⟨z, us, 0, r, Heap.get?_push_size _ rfl⟩
end
abbrev Sp := List V → Hp → VK → XK → Prop
abbrev CXT := List Env → Hp → Shared → XK → Value → Shared → Prop
structure Env0 (P : Program) (w : World) (K : PySem.W.Frag) (mg : Str → Option Value) (base : Heap) (A : Around) (outer : List Env) (s : Shared) (H : Hp) : Prop where
  frames : A.frames = some outer
  mod : Mod K mg base
  bs : ∀ b o, base.get? b = some o → s.heap.get? b = some o ∧ H b = none
  bsz : base.objs.size ≤ s.heap.objs.size
  funs : s.heap.FunFrames base outer
  frf : ∀ b ∈ frs outer, H b = none
  hok : HOk P w H s.heap
  bare : AllBare s.gens
def CE (outer : List Env) (P : Program) (w : World) (H : Hp) (s : Shared) (Q : VK) (u : Value) (s' : Shared) : Prop :=
  ∃ v H', s'.os = s.os ∧ AllBare s'.gens ∧ Un (frs outer) [] H H' s.heap s'.heap ∧ HOk P w H' s'.heap ∧ RelV v u ∧ Q v H'
def CR (CX : CXT) (outer : List Env) (P : Program) (w : World) (H : Hp) (s : Shared) (Q : VK) (E : XK) (r : Result) (s' : Shared) : Prop :=
  match r with
  | .ok (.ret u) => CE outer P w H s Q u s'
  | .ok _ => False
  | .error e => CX outer H s E e s'
structure FnOk (P : Program) (w : World) (K : PySem.W.Frag) (mg : Str → Option Value) (base : Heap) (CX : CXT) (k : Nat) (f : Addr) (fd : FuncData) (ps : List Str) (sp : Sp) : Prop where
  len : ∀ vs H Q E, sp vs H Q E → vs.length = ps.length
  run : ∀ (A : Around) (outer : List Env) (s : Shared) (H : Hp) (args : Args) (us : List Value) (vs : List V) (Q : VK) (E : XK), Room k A → Env0 P w K mg base A outer s H → BindsTo s fd args (ps.zip us) → Vals vs us → sp vs H Q E →
    codeAny (model P w) A (.call (.ref f) args) (CR CX outer P w H s Q E) s
theorem FnOk.mono {P : Program} {w : World} {K : PySem.W.Frag} {mg : Str → Option Value} {base : Heap} {CX : CXT} {j k : Nat} {f : Addr} {fd : FuncData} {ps : List Str} {sp : Sp} (F : FnOk P w K mg base CX j f fd ps sp) (h : j ≤ k) :
    FnOk P w K mg base CX k f fd ps sp := ⟨F.len, fun A outer s H args us vs Q E hr => F.run A outer s H args us vs Q E (hr.mono h)⟩
theorem Env0.make {P : Program} {w : World} {K : PySem.W.Frag} {mg : Str → Option Value} {base : Heap} {A : Around} {outer : List Env} {s : Shared} {H : Hp} (e : Env0 P w K mg base A outer s H) (C : Addr) (us : List Value) (kw : List (Str × Value)) :
    Env0 P w K mg base (A.under (.builtin "type.__call__" ⟨.ref C :: us, kw⟩)) outer s H := ⟨by first | exact e.frames | (simpa [Around.under, Code.envs, Code.isFrame, pushEnvs] using e.frames), e.mod, e.bs, e.bsz, e.funs, e.frf, e.hok, e.bare⟩
section
variable {X : Cx} {pins : List (Addr × Obj)} {σ : St} {H : Hp} {s s' : Shared}
theorem Inv.env0 (I : Inv X pins σ H s) : Env0 X.prog X.w X.K X.mg X.base X.A X.stack s H :=
  ⟨I.ok.frames, I.ok.mod, I.bs, Nat.le_trans I.ok.bsz I.sz, I.stack, I.stkFree, I.hok, I.bare⟩
theorem Inv.after {Q : VK} {u : Value} (I : Inv X pins σ H s) (h : CE X.stack X.prog X.w H s Q u s') : EP X pins σ Q u s' := by
  obtain ⟨v, H', os, bare, un, hok, r, q⟩ := h
  obtain ⟨hh, g, d, t, os'⟩ := s'
  obtain rfl : os' = s.os := os
  exact ⟨v, H', I.call (h' := hh) (g' := g) (d' := d) (t' := t) (ch := []) un hok bare (fun b z => absurd z (by simp)), r, q⟩
end
def tCall (sp : Sp) (dvs : List V) (E : XK) (t : TA) : TE := fun σ H Q => t σ H fun vs H1 => sp (vs ++ dvs) H1 Q E
def tMeth (C : Addr) (m : Str) (sp : Sp) (dvs : List V) (E : XK) (ta : TE) (t : TA) : TE := fun σ H Q => ta σ H fun x H1 => ∃ a dx fs, x = .ref a ∧ H1 a = some (.ins C dx fs) ∧ fs.lookup m = none ∧
  t σ H1 fun vs H2 => sp (x :: (vs ++ dvs)) H2 Q E
def tMake (C : Addr) (sp : Sp) (dvs : List V) (E : XK) (t : TA) : TE := fun σ H Q => t σ H fun vs H1 => ∀ x dx, H1 x = none → H1 dx = none → dx ≠ x →
  sp (.ref x :: (vs ++ dvs)) (upd (upd H1 dx (.own x)) x (.ins C dx [])) (fun v H2 => v = .non ∧ Q (.ref x) H2) E
def Binds (K : PySem.W.Frag) (fd : FuncData) (ps : List Str) (ds : List Value) : Prop :=
  ∀ (s : Shared) (us : List Value), K.In s.heap → (us ++ ds).length = ps.length → BindsTo s fd ⟨us, []⟩ (ps.zip (us ++ ds))
theorem Binds.all {K : PySem.W.Frag} {fd : FuncData} {ps : List Str} (h : ∀ us : List Value, us.length = ps.length → bindArgs fd ⟨us, []⟩ = pure (ps.zip us)) : Binds K fd ps [] := fun s us _ hl => by
  rw [List.append_nil] at hl ⊢
  exact .of_eq (h us hl)
def Passes (CX : CXT) (X : Cx) (E : XK) : Prop := ∀ (pins : List (Addr × Obj)) (σ : St) (H : Hp) (s : Shared) (e : Value) (s' : Shared), Inv X pins σ H s → CX X.stack H s E e s' → X.xe e s'
section
variable {X : Cx} {CX : CXT} {k : Nat} {f C : Addr} {fd : FuncData} {ps : List Str} {sp : Sp} {dvs : List V} {ds : List Value} {E : XK} {x m : Str} {p pos apos : Pos} {e o : Expr} {es : List Expr} {ta : TE} {t : TA}
theorem run_fn {pins : List (Addr × Obj)} {σ : St} {H : Hp} {s : Shared} {Q : VK} {us : List Value} {vs : List V} (F : FnOk X.prog X.w X.K X.mg X.base CX k f fd ps sp) (hr : Room k X.A) (hb : Binds X.K fd ps ds) (hd : Vals dvs ds) (hx : Passes CX X E)
    (I : Inv X pins σ H s) (r : Vals vs us) (h : sp (vs ++ dvs) H Q E) : wpAny (model X.prog X.w) X.A (call (.ref f) us) (EP X pins σ Q) X.xe s := by
  have r2 : Vals (vs ++ dvs) (us ++ ds) := r.append hd
  have hl : (us ++ ds).length = ps.length := by rw [← r2.length]; exact F.len _ _ _ _ h
  refine wpAny_call (codeAny_mono (F.run X.A X.stack s H ⟨us, []⟩ (us ++ ds) (vs ++ dvs) Q E hr I.env0 (hb s us I.kIn hl) r2 h) fun r s' hq => ?_)
  cases r with
  | error e => exact hx pins σ H s e s' I hq
  | ok fl =>
    cases fl with
    | ret u => exact I.after hq
    | next => exact False.elim hq
    | brk => exact False.elim hq
    | cont => exact False.elim hq
theorem pe_call (F : FnOk X.prog X.w X.K X.mg X.base CX k f fd ps sp) (hr : Room k X.A) (hg : Gl X x) (hm : X.mg x = some (.ref f)) (hk : PySem.W.keepIn X.K (.ref f) = true) (hb : Binds X.K fd ps ds) (hd : Vals dvs ds) (hx : Passes CX X E)
    (ha : PA X (e :: es) t) (hdb : (x == ("__debug__" : Str)) = false := by decide) (he : starEach (e :: es) X.env = (false, eval e X.env) :: starEach es X.env := by rfl) (hpl : (backTo pos (starEach es X.env)).any (·.1) = false := by rfl) :
    PE X (.Call (.Name x p) (e :: es) [] pos) (tCall sp dvs E t) := by
  intro pins s σ H Q I h
  refine wpAny_Call_Name_kw (ld_glob I hg hm ?_ hdb)
  refine PySem.W.callWith_K (h₀ := X.base) I.ok.mod.kin hk (thn (ha pos pins s σ H _ I h) fun us s1 ⟨vs, H1, I1, r, q⟩ => ⟨I1.kIn, ?_⟩) he hpl
  exact run_fn F hr hb hd hx I1 r q
theorem pe_meth {pl : Sem Bool} (he : PE X o ta) (c : Cls X.K C) (hm : Meth X.K C m f) (F : FnOk X.prog X.w X.K X.mg X.base CX k f fd ps sp) (hr : Room k X.A) (hb : Binds X.K fd ps ds) (hd : Vals dvs ds) (hx : Passes CX X E) (ha : PA X (e :: es) t)
    (hst : starEach (e :: es) X.env = (false, eval e X.env) :: starEach es X.env := by rfl) (hpl : (backTo pos (starEach es X.env)).any (·.1) = false := by rfl)
    (ht : eval (.Call (.Attribute o m apos) (e :: es) [] pos) X.env = (do
      let ov ← eval o X.env
      standAt apos.atName
      let (f, first) ← holding [ov] (getMethod ov m pl)
      callWith pos f first (backTo pos (starEach (e :: es) X.env)) (backToKw pos (keywordEach [] X.env))) := by rfl) :
    PE X (.Call (.Attribute o m apos) (e :: es) [] pos) (tMeth C m sp dvs E ta t) := by
  intro pins s σ H Q I h
  refine PySem.W.methodCall_KW (pl := pl) (thn (he pins s σ H _ I h) fun u s1 ⟨x, H1, I1, rx, a, dx, fs, ex, ea, l, q⟩ => ?_) ht
  subst ex
  obtain rfl : u = Value.ref a := rx
  refine getmeth_ok I1 ea c hm l ?_
  refine PySem.W.callWith_K (first := [.ref a]) (h₀ := X.base) I.ok.mod.kin hm.kp (thn (ha pos pins s1 σ H1 _ I1 q) fun us s2 ⟨vs, H2, I2, r, q2⟩ => ⟨I2.kIn, ?_⟩) hst hpl
  exact run_fn (us := .ref a :: us) (vs := .ref a :: vs) F hr hb hd hx I2 (.cons rfl r) q2
theorem pe_meth0 {pl : Sem Bool} (he : PE X o ta) (c : Cls X.K C) (hm : Meth X.K C m f) (F : FnOk X.prog X.w X.K X.mg X.base CX k f fd ps sp) (hr : Room k X.A) (hb : Binds X.K fd ps ds) (hd : Vals dvs ds) (hx : Passes CX X E)
    (ht : eval (.Call (.Attribute o m apos) [] [] pos) X.env = (do
      let ov ← eval o X.env
      standAt apos.atName
      let (f, first) ← holding [ov] (getMethod ov m pl)
      callWith pos f first (backTo pos (starEach [] X.env)) (backToKw pos (keywordEach [] X.env))) := by rfl) :
    PE X (.Call (.Attribute o m apos) [] [] pos) (tMeth C m sp dvs E ta tNil) := by
  intro pins s σ H Q I h
  refine PySem.W.methodCall_KW (pl := pl) (thn (he pins s σ H _ I h) fun u s1 ⟨x, H1, I1, rx, a, dx, fs, ex, ea, l, q⟩ => ?_) ht
  subst ex
  obtain rfl : u = Value.ref a := rx
  refine getmeth_ok I1 ea c hm l ?_
  exact PySem.W.callWith_K0 (first := [.ref a]) I1.kIn hm.kp (run_fn (us := [.ref a]) (vs := [.ref a]) F hr hb hd hx I1 (.cons rfl .nil) q)
structure Mk (K : PySem.W.Frag) (C f : Addr) : Prop where
  makes : PySem.W.makesIn K C = true
  init : PySem.W.findIn K (.ref C) "__init__" = some (some (.ref f))
  fn : PySem.W.isFn K (.ref f) = true
  kp : PySem.W.keepIn K (.ref C) = true
theorem run_make {pins : List (Addr × Obj)} {σ : St} {H : Hp} {s : Shared} {Q : VK} {us : List Value} {vs : List V} (M : Mk X.K C f) (F : FnOk X.prog X.w X.K X.mg X.base CX k f fd ps sp) (hr : Room (k + 1) X.A) (hb : Binds X.K fd ps ds) (hd : Vals dvs ds)
    (hx : Passes CX X E) (I : Inv X pins σ H s) (r : Vals vs us)
    (h : ∀ x dx, H x = none → H dx = none → dx ≠ x → sp (.ref x :: (vs ++ dvs)) (upd (upd H dx (.own x)) x (.ins C dx [])) (fun v H2 => v = .non ∧ Q (.ref x) H2) E) :
    wpAny (model X.prog X.w) X.A (call (.ref C) us) (EP X pins σ Q) X.xe s := by
  have hq := h (s.heap.objs.size + 1) s.heap.objs.size (I.hok.fresh (Nat.le_succ _)) (I.hok.fresh (Nat.le_refl _)) (Nat.ne_of_lt (Nat.lt_succ_self _))
  have I2 := Inv.made (C := C) I
  have r2 : Vals (V.ref (s.heap.objs.size + 1) :: (vs ++ dvs)) (Value.ref (s.heap.objs.size + 1) :: (us ++ ds)) := .cons rfl (r.append hd)
  have hl : (Value.ref (s.heap.objs.size + 1) :: us ++ ds).length = ps.length := by
    have e := r2.length
    rw [F.len _ _ _ _ hq] at e
    exact e.symm
  refine wpAny_call (make_map (f := f) I.kIn M.makes M.init (beq_iff_eq.mp M.fn) (codeAny_mono (F.run _ X.stack _ _ ⟨Value.ref (s.heap.objs.size + 1) :: us, []⟩ (Value.ref (s.heap.objs.size + 1) :: (us ++ ds)) _ _ E (hr.make C us [])
    (I2.env0.make C us []) (hb _ (Value.ref (s.heap.objs.size + 1) :: us) I2.kIn hl) r2 hq) fun r s' hq' => ?_))
  cases r with
  | error e => exact hx pins σ _ _ e s' I2 hq'
  | ok fl =>
    cases fl with
    | ret u =>
      obtain ⟨v, H', I3, rv, ev, q3⟩ := I2.after hq'
      subst ev
      exact ⟨rv, ⟨V.ref (s.heap.objs.size + 1), H', I3, rfl, q3⟩⟩
    | next => exact False.elim hq'
    | brk => exact False.elim hq'
    | cont => exact False.elim hq'
theorem pe_make0 (M : Mk X.K C f) (F : FnOk X.prog X.w X.K X.mg X.base CX k f fd ps sp) (hr : Room (k + 1) X.A) (hg : Gl X x) (hm : X.mg x = some (.ref C)) (hb : Binds X.K fd ps ds) (hd : Vals dvs ds) (hx : Passes CX X E)
    (hdb : (x == ("__debug__" : Str)) = false := by decide) : PE X (.Call (.Name x p) [] [] pos) (tMake C sp dvs E tNil) := by
  intro pins s σ H Q I h
  refine wpAny_Call_Name_kw (ld_glob I hg hm ?_ hdb)
  exact PySem.W.callWith_K0 I.kIn M.kp (run_make (us := []) M F hr hb hd hx I .nil h)
end
section
variable {X : Cx} {CX : CXT} {k : Nat} {f C : Addr} {fd : FuncData} {ps ks : List Str} {sp : Sp} {E : XK} {x m : Str} {p pos apos kpos : Pos} {e o : Expr} {es : List Expr} {kws : List Keyword} {te ta : TE} {t tk : TA} {nm : Option Str}
variable {g : List Value → List Value → List Value} {gV : List V → List V → List V}
end
structure FnScope (N P : List Str) (sc : Scope) : Prop where
  kind : sc.kind = .function
  co : sc.isCoroutine = false
  gen : sc.isGenerator = false
  nd : N.Nodup
  pre : N.take P.length = P
  par : ∀ x ∈ P, sc.names.lookup x = some .local ∨ sc.names.lookup x = some .cell
  nofree : ∀ y ∈ sc.names, y.2 ≠ .free
theorem bindL_out {kindOf : Str → Option NameKind} {x : Str} : ∀ {binds : List (Str × Value)} {m : Str → Option Value}, (∀ v, (x, v) ∉ binds) → bindL kindOf binds m x = m x
  | [], _, _ => rfl
  | (n, v) :: r, m, h => by
    unfold bindL
    rw [bindL_out fun w hw => h w (List.mem_cons_of_mem _ hw)]
    split
    · have : x ≠ n := by rintro rfl; exact h v List.mem_cons_self
      simp [this]
    · rfl
theorem bindC_out {kindOf : Str → Option NameKind} {x : Str} : ∀ {binds : List (Str × Value)} {m : Str → Option Value}, (∀ v, (x, v) ∉ binds) → bindC kindOf binds m x = m x
  | [], _, _ => rfl
  | (n, v) :: r, m, h => by
    unfold bindC
    rw [bindC_out fun w hw => h w (List.mem_cons_of_mem _ hw)]
    split
    · rfl
    · have : x ≠ n := by rintro rfl; exact h v List.mem_cons_self
      simp [this]
theorem bindL_get {kindOf : Str → Option NameKind} {x : Str} {v : Value} : ∀ {P : List Str} {vs : List Value} {i : Nat} {m : Str → Option Value}, P.Nodup → P[i]? = some x → vs[i]? = some v → kindOf x = some .local →
    bindL kindOf (P.zip vs) m x = some v
  | [], _, _, _, _, h, _, _ => by simp at h
  | _ :: _, [], _, _, _, _, h, _ => by simp at h
  | p :: P, w :: vs, 0, m, nd, h1, h2, hk => by
    simp at h1 h2; subst h1; subst h2
    show bindL kindOf ((p, w) :: P.zip vs) m p = _
    unfold bindL
    rw [bindL_out fun v hv => (List.nodup_cons.mp nd).1 (List.of_mem_zip hv).1, if_pos hk]
    simp
  | p :: P, w :: vs, i + 1, m, nd, h1, h2, hk => by
    show bindL kindOf ((p, w) :: P.zip vs) m x = _
    unfold bindL
    exact bindL_get (i := i) (List.nodup_cons.mp nd).2 (by simpa using h1) (by simpa using h2) hk
theorem bindC_get {kindOf : Str → Option NameKind} {x : Str} {v : Value} : ∀ {P : List Str} {vs : List Value} {i : Nat} {m : Str → Option Value}, P.Nodup → P[i]? = some x → vs[i]? = some v → kindOf x ≠ some .local →
    bindC kindOf (P.zip vs) m x = some v
  | [], _, _, _, _, h, _, _ => by simp at h
  | _ :: _, [], _, _, _, _, h, _ => by simp at h
  | p :: P, w :: vs, 0, m, nd, h1, h2, hk => by
    simp at h1 h2; subst h1; subst h2
    show bindC kindOf ((p, w) :: P.zip vs) m p = _
    unfold bindC
    rw [bindC_out fun v hv => (List.nodup_cons.mp nd).1 (List.of_mem_zip hv).1, if_neg hk]
    simp
  | p :: P, w :: vs, i + 1, m, nd, h1, h2, hk => by
    show bindC kindOf ((p, w) :: P.zip vs) m x = _
    unfold bindC
    exact bindC_get (i := i) (List.nodup_cons.mp nd).2 (by simpa using h1) (by simpa using h2) hk
def start (N : List Str) (vs : List V) : St := vs.map some ++ List.replicate (N.length - vs.length) none
def cxOf (CX : CXT) (P : Program) (w : World) (K : PySem.W.Frag) (mg : Str → Option Value) (base : Heap) (N : List Str) (qual : Str) (scope : Scope) (f : Addr) (cd : Value) (A : Around) (outer : List Env) (s : Shared) (H : Hp) (E : XK) : Cx where
  prog := P
  w := w
  K := K
  mg := mg
  base := base
  A := A.deeper (envOfC qual scope s.heap.objs.size f cd)
  N := N
  s_0 := s
  H_0 := H
  env := envOfC qual scope s.heap.objs.size f cd
  outer := outer
  stack := envOfC qual scope s.heap.objs.size f cd :: outer
  ex := []
  calm := true
  fn := fun _ => true
  pn := []
  xe := fun e s' => wpAny (model P w) (A.deeper (envOfC qual scope s.heap.objs.size f cd)) (leaving (envOfC qual scope s.heap.objs.size f cd) e) (fun _ s'' => CX outer H s E e s'') (fun e' s'' => CX outer H s E e' s'') s'
theorem cell_has {sc : Scope} {n : Nat} {x : Str} (h : sc.names.lookup x = some .cell) : ∃ c, (cellsFrom n sc.names []).lookup x = some c := by
  have q := PySem.W.cellsFrom_some sc.names n [] (.inl h)
  exact Option.isSome_iff_exists.mp q
theorem inv_start {CX : CXT} {P : Program} {w : World} {K : PySem.W.Frag} {mg : Str → Option Value} {base : Heap} {N ps : List Str} {qual : Str} {scope : Scope} {f : Addr} {cd : Value} {A : Around} {outer : List Env} {s s1 : Shared} {H : Hp} {E : XK} {us : List Value} {vs : List V}
    (S : FnScope N ps scope) (hd : A.handled = none) (e0 : Env0 P w K mg base A outer s H) (hl : vs.length = ps.length) (r : Vals vs us)
    (x : InCallC s s.heap.objs.size (bindL (envOfC qual scope s.heap.objs.size f cd).kindOf (ps.zip us) fun _ => none) (cellsFrom (s.heap.objs.size + 1) scope.names []) (bindC (envOfC qual scope s.heap.objs.size f cd).kindOf (ps.zip us) fun _ => none) s1) :
    Inv (cxOf CX P w K mg base N qual scope f cd A outer s H E) [] (start N vs) H s1 := by
  have hpl : ps.length ≤ N.length := by have := congrArg List.length S.pre; rw [List.length_take] at this; omega
  obtain ⟨h1, tk, rfl, hk⟩ := x.done
  have noA : ∀ b : Addr, b ∉ (cxOf CX P w K mg base N qual scope f cd A outer s H E).ex := fun b z => absurd (show b ∈ ([] : List Addr) from z) (by simp)
  refine ⟨⟨e0.mod, S.kind, rfl, rfl, Nat.le_refl _, fun y z c h1 h2 => ?_, fun y hy => ?_, fun y c _ h => ?_, fun _ => hd, Around.frames_deeper e0.frames, .inr ⟨rfl, rfl⟩, fun b z => absurd z (noA b), e0.bs, e0.bsz, fun b _ _ => noA b, fun b z => absurd z (noA b), e0.funs, e0.frf⟩,
    rfl, e0.bare, Un.kept hk, ⟨_, x.toInCall.ns, fun i y v h1 h2 h3 => ?_⟩, fun y c h => ⟨_, x.cell y c h⟩, e0.hok.fresh (Nat.le_refl _), fun y c h => ?_, fun p hp => absurd (show p ∈ ([] : List (Addr × Obj)) from hp) (by simp), e0.hok.kept hk, ?_⟩
  · exact name_of_addr x.apart (PySem.mem_of_lookup h1) (PySem.mem_of_lookup h2)
  · have hy : scope.names.lookup y = some .cell ∨ scope.names.lookup y = some .free := hy
    rcases hy with hy | hy
    · exact cell_has hy
    · exact absurd rfl (S.nofree _ (PySem.mem_of_lookup hy))
  · exact Nat.le_of_lt (x.above y c (PySem.mem_of_lookup h))
  · have hi : i < vs.length := by
      unfold start at h2
      by_cases hi : i < vs.length
      · exact hi
      · rw [List.getElem?_append_right (by simpa using hi)] at h2
        rw [List.getElem?_replicate] at h2
        split at h2 <;> cases h2
    have ha : vs[i]? = some v := by
      unfold start at h2
      rw [List.getElem?_append_left (by simpa using hi), List.getElem?_map] at h2
      cases e : vs[i]? with
      | none => rw [e] at h2; cases h2
      | some a => rw [e] at h2; cases h2; rfl
    obtain ⟨u, hu, rv⟩ := r.get ha
    have hp : ps[i]? = some y := by
      rw [← S.pre, List.getElem?_take_of_lt (by omega)]; exact h1
    have ndP : ps.Nodup := by rw [← S.pre]; exact S.nd.sublist (List.take_sublist _ _)
    refine ⟨u, rv, ?_⟩
    rcases S.par y (List.mem_of_getElem? hp) with k | k
    · exact .inl ⟨k, bindL_get ndP hp hu k⟩
    · obtain ⟨c, e⟩ := cell_has (n := s.heap.objs.size + 1) k
      refine .inr ⟨.inl k, c, e, ?_⟩
      have q := x.cell y c e
      rw [bindC_get ndP hp hu (by show scope.names.lookup y ≠ _; rw [k]; decide)] at q
      exact q
  · exact e0.hok.fresh (Nat.le_of_lt (x.above y c (PySem.mem_of_lookup h)))
  · unfold start
    show _ = N.length
    rw [List.length_append, List.length_map, List.length_replicate]
    omega
theorem fn_of {CX : CXT} {P : Program} {w : World} {K : PySem.W.Frag} {mg : Str → Option Value} {base : Heap} {k : Nat} {f : Addr} {name qual : Str} {params : Arguments} {body : List Stmt} {scope : Scope} {dV kV doc pm cdv ct oc : Value} {an od : Option Addr}
    {osl : Array (Option Value)} {N ps : List Str} {sp : Sp} (lk : K.lookup f = some ⟨oc, od, .func (PySem.W.fnOf name qual params body scope dV kV doc pm an cdv ct), osl⟩) (hcd : PySem.W.codeIn K cdv qual = true) (S : FnScope N ps scope)
    (len : ∀ vs H Q E, sp vs H Q E → vs.length = ps.length)
    (hbody : ∀ (A : Around) (outer : List Env) (s : Shared) (H : Hp) (vs : List V) (Q : VK) (E : XK), Room k (A.deeper (envOfC qual scope s.heap.objs.size f cdv)) → sp vs H Q E →
      ∃ t, PSs (cxOf CX P w K mg base N qual scope f cdv A outer s H E) body t ∧ t { nx := fun _ H' => Q .non H', rt := Q } (start N vs) H) :
    FnOk P w K mg base CX (k + 1) f (PySem.W.fnOf name qual params body scope dV kV doc pm an cdv ct) ps sp := by
  refine ⟨len, fun A outer s H args us vs Q E hr e0 hb r hsp => ?_⟩
  have hl := len _ _ _ _ hsp
  have KX : K.In s.heap := e0.mod.kin.keeps fun b o e => (e0.bs b o e).1
  have lim : s.heap.NoLimit := e0.mod.nolimit.keeps fun b o e => (e0.bs b o e).1
  have hkind : ∀ y ∈ ps.zip us, scope.names.lookup y.1 = some .local ∨ (scope.names.lookup y.1 = some .cell ∧ ((cellsFrom (s.heap.objs.size + 1) scope.names []).lookup y.1).isSome = true) := fun ⟨n, v⟩ hy => by
    rcases S.par n (List.of_mem_zip hy).1 with q | q
    · exact .inl q
    · exact .inr ⟨q, PySem.W.cellsFrom_some _ _ _ (.inl q)⟩
  refine codeAny_call_function hr.depth (KX _ _ lk) rfl S.co S.gen rfl (PySem.W.codeRec_of KX hcd) (hb _ _ _ _ ?_)
  refine wpAny_newFunctionEnv_cells S.kind hkind fun env he s1 x => ?_
  subst he
  refine ⟨lim.keeps x.toInCall.keep, codeAny_func ?_⟩
  obtain ⟨t, ht, hq⟩ := hbody A outer s H vs Q E (hr.deeper _) hsp
  have I : Inv (cxOf CX P w K mg base N qual scope f cdv A outer s H E) [] (start N vs) H s1 := inv_start S hr.hd e0 hl r x
  refine wpAny_mono (ht [] s1 (start N vs) H _ I hq) (fun fl s' hs => ?_) fun e s' hs => hs
  have fin : ∀ {σ' : St} {H' : Hp} {v : V} {u : Value}, Inv (cxOf CX P w K mg base N qual scope f cdv A outer s H E) [] σ' H' s' → RelV v u → Q v H' → CE outer P w H s Q u s' :=
    fun {σ' H' v u} J rv q => ⟨v, H', J.os, J.bare, J.base, J.hok, rv, q⟩
  cases fl with
  | ret u =>
    obtain ⟨v, σ', H', J, rv, q⟩ := hs
    exact fin J rv q
  | next =>
    obtain ⟨σ', H', J, q⟩ := hs
    exact fin (v := V.non) (u := Value.none) J rfl q
  | brk =>
    obtain ⟨_, _, _, q⟩ := hs
    exact False.elim q
  | cont =>
    obtain ⟨_, _, _, q⟩ := hs
    exact False.elim q
end L2
namespace L2
open PySem PySem.Spec PyProof.Rows
section
variable {X : Cx} {x : Str} {p pos : Pos} {e : Expr} {es : List Expr} {t : TA} {id T : String} {r : List V → Hp → VK → Prop}
def tCB (r : List V → Hp → VK → Prop) (t : TA) : TE := fun σ H Q => t σ H fun vs H1 => r vs H1 Q
theorem pe_callB (hc : CallR X (.builtin id) r) (hg : Gl X x) (hm : X.mg x = none) (hv : bootBuiltins x = some (.builtin id)) (ha : PA X (e :: es) t) (hn : x ≠ "__name__" := by decide) (hdb : (x == ("__debug__" : Str)) = false := by decide)
    (he : starEach (e :: es) X.env = (false, eval e X.env) :: starEach es X.env := by rfl) (hpl : (backTo pos (starEach es X.env)).any (·.1) = false := by rfl) : PE X (.Call (.Name x p) (e :: es) [] pos) (tCB r t) := by
  intro pins s σ H Q I h
  refine wpAny_Call_Name_kw (ld_blt I hg hm hv ?_ hn hdb)
  exact PyProof.Rows.callWith_builtin1 (thn (ha pos pins s σ H _ I h) fun us s1 ⟨vs, H1, I1, r1, q1⟩ => hc pins s1 σ H1 vs us Q I1 r1 q1) he hpl
end
end L2
namespace HT
open PySem PyProof.Rows
section
open PySem.SeqAt
open PySem.AutoSeq1 (wpAny_loadPart')
open PySem.MeetsSeq PySem.MeetsSeq2 PySem.MeetsSeq3
end
section
variable {prog : Program} {w : World} {A : Around} {E : Value → Shared → Prop} {s : Shared}
def sIx (n d : Nat) : Option Int → Nat
  | none => d
  | some v => if v < 0 then (v + (n : Int)).toNat else min v.toNat n
theorem sIx_none (n d : Nat) : sIx n d none = d := rfl
theorem sIx_nat (n d k : Nat) : sIx n d (some (k : Int)) = min k n := by
  show (if (k : Int) < 0 then ((k : Int) + (n : Int)).toNat else min (k : Int).toNat n) = min k n
  rw [if_neg (by omega), Int.toNat_natCast]
end
end HT
namespace L2
open PySem PySem.Spec PyProof.Rows
abbrev TO := St → Hp → (Option Int → Hp → Prop) → Prop
def PO (X : Cx) (e : Option Expr) (t : TO) : Prop :=
  ∀ (pins : List (Addr × Obj)) (s : Shared) (σ : St) (H : Hp) (Q : Option Int → Hp → Prop), Inv X pins σ H s → t σ H Q →
    wpAny (model X.prog X.w) X.A (evalPart e X.env) (fun u s' => ∃ o H', Inv X pins σ H' s' ∧ IsPart u o ∧ Q o H') X.xe s
def tNoPart : TO := fun _ H Q => Q none H
def tPart (t : TE) : TO := fun σ H Q => t σ H fun x H1 => ∃ i, x = .int i ∧ Q (some i) H1
section
variable {X : Cx} {e : Expr} {te : TE} {lo hi : Option Expr} {tl th : TO} {pos p2 : Pos}
theorem po_none : PO X none tNoPart := by
  intro pins s σ H Q I h
  rw [evalPart_none]
  exact wpAny_pure ⟨none, H, I, .none, h⟩
theorem po_some (h : PE X e te) : PO X (some e) (tPart te) := by
  intro pins s σ H Q I hw
  rw [evalPart_some]
  refine thn (h pins s σ H _ I hw) fun u s1 ⟨x, H1, I1, r1, q1⟩ => ?_
  obtain ⟨i, rfl, q⟩ := q1
  obtain ⟨t, rfl⟩ := r1
  exact ⟨some i, H1, I1, .int i t, q⟩
def SlR (X : Cx) (r : V → Option Int → Option Int → Hp → VK → Prop) : Prop :=
  ∀ (pins : List (Addr × Obj)) (s : Shared) (σ : St) (H : Hp) (x : V) (v vl vu : Value) (lo hi : Option Int) (sl : Addr) (Q : VK), Inv X pins σ H s → RelV x v → s.heap.IsSliceOf sl vl vu .none → IsPart vl lo → IsPart vu hi → r x lo hi H Q →
    ∃ T id, typeLookup (.type T) "__getitem__" = pure (some (.builtin id)) ∧ s.TypeIs v T ∧ wpAny (model X.prog X.w) X.A (getItem v (.ref sl)) (EP X pins σ Q) X.xe s
def tSl (r : V → Option Int → Option Int → Hp → VK → Prop) (te : TE) (tl th : TO) : TE := fun σ H Q => te σ H fun x H1 => tl σ H1 fun l H2 => th σ H2 fun u H3 => r x l u H3 Q
theorem pe_slice {r : V → Option Int → Option Int → Hp → VK → Prop} (hr : SlR X r) (he : PE X e te) (hl : PO X lo tl) (hu : PO X hi th) : PE X (.Subscript e (.Slice lo hi none p2) pos) (tSl r te tl th) := by
  intro pins s σ H Q I h
  refine Subscript_ (thn (he pins s σ H _ I h) fun v s1 ⟨x, H1, I1, r1, q1⟩ => ?_)
  refine wpAny_Slice (thn (hl pins s1 σ H1 _ I1 q1) fun vl s2 ⟨l, H2, I2, pl, q2⟩ => thn (hu pins s2 σ H2 _ I2 q2) fun vu s3 ⟨u, H3, I3, pu, q3⟩ => ?_)
  rw [evalPart_none]
  refine wpAny_pure ?_
  have I4 : Inv X pins σ H3 { s3 with heap := s3.heap.push { cls := .type "slice", data := .fields #[vl, vu, .none] } } := I3.kept (t' := s3.toks) fun b ob q => Heap.get?_push_of_some _ q
  obtain ⟨T, id, hT, ht, hg⟩ := hr pins { s3 with heap := s3.heap.push { cls := .type "slice", data := .fields #[vl, vu, .none] } } σ H3 x v vl vu l u s3.heap.objs.size Q I4 r1 (Heap.IsSliceOf.new ..) pl pu q3
  show wpAny (model X.prog X.w) X.A (subscriptTail e (.Slice lo hi none p2) v (.ref s3.heap.objs.size)) (EP X pins σ Q) X.xe { s3 with heap := s3.heap.push { cls := .type "slice", data := .fields #[vl, vu, .none] } }
  exact tail_any (ops := [.ref s3.heap.objs.size, v]) ht hT hg (by with_unfolding_all rfl)
def cutV (xs : List V) (lo hi : Option Int) : List V := (xs.drop (HT.sIx xs.length 0 lo)).take (HT.sIx xs.length xs.length hi - HT.sIx xs.length 0 lo)
theorem cutV_length (xs : List V) (lo hi : Option Int) : (cutV xs lo hi).length ≤ xs.length := by
  unfold cutV
  rw [List.length_take, List.length_drop]
  omega
end
end L2
namespace L2
open PySem PySem.Spec PyProof.Rows
def ixN (n : Nat) (i : Int) : Option Nat := if 0 ≤ i then (if i < n then some i.toNat else none) else if -(n : Int) ≤ i then some (i + n).toNat else none
def atI {α : Type} (xs : List α) (i : Int) : Option α := (ixN xs.length i).bind fun j => xs[j]?
theorem ixN_seq {n : Nat} {i : Int} {j : Nat} (h : ixN n i = some j) : seqIndex? i n = some j ∧ j < n ∧ -(n : Int) ≤ i ∧ i < n := by
  unfold ixN at h
  by_cases h0 : 0 ≤ i
  · rw [if_pos h0] at h
    by_cases h1 : i < n
    · rw [if_pos h1] at h
      have e : i.toNat = j := Option.some.inj h
      exact ⟨by rw [seqIndex_of h0 h1, e], by omega, by omega, h1⟩
    · rw [if_neg h1] at h; cases h
  · rw [if_neg h0] at h
    by_cases h1 : -(n : Int) ≤ i
    · rw [if_pos h1] at h
      have e : (i + n).toNat = j := Option.some.inj h
      exact ⟨by rw [seqIndex_neg (by omega) h1, e], by omega, h1, by omega⟩
    · rw [if_neg h1] at h; cases h
theorem atI_get {α : Type} {xs : List α} {i : Int} {v : α} (h : atI xs i = some v) : ∃ j, seqIndex? i xs.length = some j ∧ xs[j]? = some v ∧ j < xs.length ∧ -(xs.length : Int) ≤ i ∧ i < xs.length := by
  unfold atI at h
  cases e : ixN xs.length i with
  | none => rw [e] at h; cases h
  | some j =>
    rw [e] at h
    obtain ⟨h1, h2, h3, h4⟩ := ixN_seq e
    exact ⟨j, h1, h, h2, h3, h4⟩
theorem atI_nat {α : Type} {xs : List α} {j : Nat} {v : α} (h : xs[j]? = some v) : atI xs (j : Int) = some v := by
  have hj : j < xs.length := (List.getElem?_eq_some_iff.mp h).1
  have e : ixN xs.length (j : Int) = some j := by
    unfold ixN
    rw [if_pos (by omega), if_pos (by omega)]; simp
  unfold atI; rw [e]; exact h
def PlainIx (b : Expr) : Prop := ∀ o i, subscripted b false o i = operate [o, i] (getItem o i)
def IxR (X : Cx) (r : R2) : Prop :=
  ∀ (value slice : Expr) (pins : List (Addr × Obj)) (s : Shared) (σ : St) (H : Hp) (x y : V) (v u : Value) (Q : VK), Inv X pins σ H s → RelV x v → RelV y u → r x y H Q →
    subscripted slice false v u = operate [v, u] (getItem v u) → wpAny (model X.prog X.w) X.A (subscriptTail value slice v u) (EP X pins σ Q) X.xe s
def MtR (X : Cx) (id : String) (r : V → List V → Hp → VK → Prop) : Prop :=
  ∀ (pins : List (Addr × Obj)) (s : Shared) (σ : St) (H : Hp) (x : V) (xs : List V) (v : Value) (us : List Value) (Q : VK), Inv X pins σ H s → RelV x v → Vals xs us → r x xs H Q →
    wpAny (model X.prog X.w) X.A (call (.builtin id) (v :: us)) (EP X pins σ Q) X.xe s
section
variable {X : Cx} {a b : Expr} {ta tb : TE} {pos : Pos}
theorem pe_ix {r : R2} (hr : IxR X r) (ha : PE X a ta) (hb : PE X b tb) (hs : PlainIx b) : PE X (.Subscript a b pos) (tOp r ta tb) := by
  intro pins s σ H Q I h
  exact Subscript_ (binT ha hb I h fun v u s2 x y H2 I2 rx ry q => hr a b pins s2 σ H2 x y v u Q I2 rx ry q (hs _ _))
def rIxL (K : PySem.W.Frag) : R2 := fun x y H Q => ∃ p xs i v, x = .ref p ∧ y = .int i ∧ SqL K H p xs ∧ atI xs i = some v ∧ Q v H
def rIxT (K : PySem.W.Frag) : R2 := fun x y H Q => ∃ p xs i v, x = .ref p ∧ y = .int i ∧ SqT K H p xs ∧ atI xs i = some v ∧ Q v H
theorem ix_list : IxR X (rIxL X.K) := by
  intro value slice pins s σ H x y v u Q I rx ry h hs
  obtain ⟨p, xs, i, z, rfl, rfl, hq, he, q⟩ := h
  cases rx
  obtain ⟨t, rfl⟩ := ry
  obtain ⟨its, r, pl, hz⟩ := I.list hq
  obtain ⟨j, h1, h2, h3, h4, h5⟩ := atI_get he
  obtain ⟨w, ew, rw'⟩ := r.get h2
  have hl := r.length
  have hn := line63
  have fin : EP X pins σ Q w s := ⟨z, H, I, rw', q⟩
  by_cases h0 : 0 ≤ i
  · have hj : i.toNat = j := by
      rw [seqIndex_of h0 h5] at h1
      exact Option.some.inj h1
    exact item_listR pl.isList h0 (by omega) (by rw [hj]; simpa using ew) fin hs
  · have hj : (i + (its.toArray.size : Int)).toNat = j := by
      rw [seqIndex_neg (by omega) h4] at h1
      rw [List.size_toArray, ← hl]
      exact Option.some.inj h1
    exact subscriptTail_builtinR (x := w) pl.isList.typeIs slot_list_getitem.lookup
      (wpAny_getItem_list_neg (Q := fun r s' => r = w ∧ EP X pins σ Q r s') pl.isList (by omega) (by rw [List.size_toArray] <;> omega) (by omega) (by rw [hj]; simpa using ew) ⟨rfl, fin⟩) hs
theorem ix_tup : IxR X (rIxT X.K) := by
  intro value slice pins s σ H x y v u Q I rx ry h hs
  obtain ⟨p, xs, i, z, rfl, rfl, hq, he, q⟩ := h
  cases rx
  obtain ⟨t, rfl⟩ := ry
  obtain ⟨its, r, pl, hz⟩ := I.tuple hq
  obtain ⟨j, h1, h2, h3, h4, h5⟩ := atI_get he
  obtain ⟨w, ew, rw'⟩ := r.get h2
  have hl := r.length
  have hn := line63
  have fin : EP X pins σ Q w s := ⟨z, H, I, rw', q⟩
  exact subscriptTail_builtinR (x := w) pl.typeIs slot_tuple_getitem.lookup
    (getItem_tuple (j := j) (Q := fun r s' => r = w ∧ EP X pins σ Q r s') pl (by omega) (by omega) (by rw [List.size_toArray, ← hl]; exact h1) (by simpa using ew) ⟨rfl, fin⟩) hs
theorem mapSeq_set (its : List Value) (n j : Nat) (u : Value) : Obj.mapSeq (·.setIfInBounds j u) { cls := .type "list", data := .seq its.toArray n } = { cls := .type "list", data := .seq (its.set j u).toArray n } := by
  simp [Obj.mapSeq]
theorem Inv.lst {pins : List (Addr × Obj)} {σ : St} {H : Hp} {s : Shared} {p : Addr} {xs : List V} (I : Inv X pins σ H s) (h : H p = some (.lst xs)) :
    ∃ (its : List Value) (n : Nat), Vals xs its ∧ s.heap.get? p = some { cls := .type "list", data := .seq its.toArray n } ∧ xs.length ≤ sizeLine := by
  obtain ⟨z, its, n, r, e⟩ := I.hok p _ h
  exact ⟨its, n, r, e, z⟩
theorem Inv.lstUpd {pins : List (Addr × Obj)} {σ : St} {H : Hp} {s : Shared} {p : Addr} {xs ys : List V} {its its' : List Value} {n n' : Nat} {f : Obj → Obj} (I : Inv X pins σ H s) (h : H p = some (.lst xs))
    (ho : s.heap.get? p = some { cls := .type "list", data := .seq its.toArray n }) (hf : f { cls := .type "list", data := .seq its.toArray n } = { cls := .type "list", data := .seq its'.toArray n' }) (r : Vals ys its') (hz : ys.length ≤ sizeLine) (t : Nat) :
    Inv X pins σ (upd H p (.lst ys)) { s with heap := s.heap.update p f, toks := t } := by
  have e : (s.heap.update p f).get? p = some { cls := .type "list", data := .seq its'.toArray n' } := by
    rw [Heap.get?_update_self f ho (by rw [hf] <;> rfl), hf]
  refine I.write (x := p) (e := p) (by rw [h]; trivial) (.inl rfl) (fun b u hb q => (Heap.get?_update_other _ _ (Ne.symm hb)).trans q) ⟨_, e⟩ ?_
  exact ⟨hz, its', n', r, e⟩
def rSetL : V → V → V → Hp → (Hp → Prop) → Prop := fun o i v H Q => ∃ p xs k j, o = .ref p ∧ i = .int k ∧ H p = some (.lst xs) ∧ ixN xs.length k = some j ∧ Q (upd H p (.lst (xs.set j v)))
theorem set_list : PSet X rSetL := by
  intro pins s σ H o i v ov iv u Q I ro ri rv h
  obtain ⟨p, xs, k, j, rfl, rfl, hp, hj, q⟩ := h
  cases ro
  obtain ⟨t, rfl⟩ := ri
  obtain ⟨its, n, r, ho, hz⟩ := I.lst hp
  obtain ⟨h1, h2, h3, h4⟩ := ixN_seq hj
  have hl := r.length
  have hn := line63
  have I' : Inv X pins σ (upd H p (.lst (xs.set j v))) { s with heap := s.heap.update p (Obj.mapSeq (·.setIfInBounds j u)) } :=
    I.lstUpd hp ho (mapSeq_set its n j u) (r.set rv j) (by rw [List.length_set]; exact hz) s.toks
  by_cases h0 : 0 ≤ k
  · have hk : k.toNat = j := by
      rw [seqIndex_of h0 h4] at h1
      exact Option.some.inj h1
    exact PySem.W.ki_setAt ho h0 (by omega) (by rw [List.size_toArray, ← hl]; exact h4) (by rw [hk]; exact ⟨_, I', q⟩)
  · have hk : (k + (its.toArray.size : Int)).toNat = j := by
      rw [seqIndex_neg (by omega) h3] at h1
      rw [List.size_toArray, ← hl]
      exact Option.some.inj h1
    exact PySem.W.ki_setBack ho (by omega) (by rw [List.size_toArray, ← hl]; exact h3) (by omega) (by rw [hk]; exact ⟨_, I', q⟩)
theorem slice_bounds (lo hi : Option Int) (n : Nat) : (sliceBounds lo hi none n).1 = ((HT.sIx n 0 lo : Nat) : Int) ∧ (sliceBounds lo hi none n).2.1 = ((HT.sIx n n hi : Nat) : Int) ∧ (sliceBounds lo hi none n).2.2 = 1 := by
  refine ⟨?_, ?_, rfl⟩
  · cases lo with
    | none => simp [sliceBounds, HT.sIx]
    | some i =>
      simp only [sliceBounds, HT.sIx, Option.getD_none, show (1 : Int) > 0 by decide, if_true]
      by_cases h : i < 0
      · simp only [h, if_true] <;> omega
      · simp only [h, if_false] <;> omega
  · cases hi with
    | none => simp [sliceBounds, HT.sIx]
    | some i =>
      simp only [sliceBounds, HT.sIx, Option.getD_none, show (1 : Int) > 0 by decide, if_true]
      by_cases h : i < 0
      · simp only [h, if_true] <;> omega
      · simp only [h, if_false] <;> omega
theorem slicePick_cut (its : List Value) (lo hi : Option Int) : slicePick its.toArray lo hi none = ((its.drop (HT.sIx its.length 0 lo)).take (HT.sIx its.length its.length hi - HT.sIx its.length 0 lo)).toArray := by
  obtain ⟨h1, h2, h3⟩ := slice_bounds lo hi its.toArray.size
  unfold slicePick
  rw [h1, h2, h3]
  simp only [sliceRange_one, pick_run, List.size_toArray] <;> rfl
def rSlL (K : PySem.W.Frag) : V → Option Int → Option Int → Hp → VK → Prop := fun x lo hi H Q => ∃ a xs, x = .ref a ∧ SqL K H a xs ∧ ∀ p, H p = none → Q (.ref p) (upd H p (.lst (cutV xs lo hi)))
theorem sl_list : SlR X (rSlL X.K) := by
  intro pins s σ H x v vl vu lo hi sl Q I rx hs pl pu h
  obtain ⟨a, xs, rfl, hx, q⟩ := h
  cases rx
  obtain ⟨its, r, ht, hz⟩ := I.list hx
  have hlen := r.length
  refine ⟨"list", _, slot_list_getitem.lookup, ht.isList.typeIs, ?_⟩
  refine wpAny_getItem_list_slice ht.isList hs pl pu .none (by simp) ?_ (by rw [List.size_toArray] <;> omega)
  rw [slicePick_cut, ← hlen]
  refine ⟨.ref s.heap.objs.size, _, I.laid (t' := s.toks) (o := .lst (cutV xs lo hi)) (fun b ob q => Heap.get?_push_of_some _ q) (Nat.le_refl _) ?_, rfl, q _ (I.hok.fresh (Nat.le_refl _))⟩
  exact ⟨Nat.le_trans (cutV_length xs lo hi) hz, _, 0, (r.drop (HT.sIx xs.length 0 lo)).take (HT.sIx xs.length xs.length hi - HT.sIx xs.length 0 lo), Heap.get?_push_size _ rfl⟩
def flatV : V → Bool
  | .non => true
  | .bl _ => true
  | .int _ => true
  | .str _ => true
  | _ => false
def eqV : V → V → Bool
  | .non, .non => true
  | .bl a, .bl b => a == b
  | .bl a, .int b => (if a then 1 else 0) == b
  | .int a, .bl b => a == (if b then 1 else 0)
  | .int a, .int b => a == b
  | .str a, .str b => a == b
  | _, _ => false
theorem eqAt_V {A : Around} {s : Shared} {y x : V} {u v : Value} (ry : RelV y u) (rx : RelV x v) (fy : flatV y = true) (fx : flatV x = true) : SeqAt.EqAt A s u v (eqV y x) := by
  cases y with
  | non =>
    cases ry
    cases x with
    | non => cases rx; exact SeqAt.EqAt.same _
    | bl b => cases rx; exact SeqAt.EqAt.none_bool b
    | int b => obtain ⟨t, rfl⟩ := rx; exact SeqAt.EqAt.none_int b t
    | str b => obtain ⟨t, rfl⟩ := rx; exact SeqAt.EqAt.none_str b t
    | _ => exact absurd (show false = true from fx) Bool.false_ne_true
  | bl a =>
    cases ry
    cases x with
    | non => cases rx; exact SeqAt.EqAt.bool_none a
    | bl b => cases rx; exact SeqAt.EqAt.bool_bool a b
    | int b => obtain ⟨t, rfl⟩ := rx; exact SeqAt.EqAt.bool_int a b t
    | str b => obtain ⟨t, rfl⟩ := rx; exact SeqAt.EqAt.bool_str a b t
    | _ => exact absurd (show false = true from fx) Bool.false_ne_true
  | int a =>
    obtain ⟨t', rfl⟩ := ry
    cases x with
    | non => cases rx; exact SeqAt.EqAt.int_none a t'
    | bl b => cases rx; exact SeqAt.EqAt.int_bool a t' b
    | int b => obtain ⟨t, rfl⟩ := rx; exact SeqAt.EqAt.int_int a t' b t
    | str b => obtain ⟨t, rfl⟩ := rx; exact SeqAt.EqAt.int_str a t' b t
    | _ => exact absurd (show false = true from fx) Bool.false_ne_true
  | str a =>
    obtain ⟨t', rfl⟩ := ry
    cases x with
    | non => cases rx; exact SeqAt.EqAt.str_none a t'
    | bl b => cases rx; exact SeqAt.EqAt.str_bool a t' b
    | int b => obtain ⟨t, rfl⟩ := rx; exact SeqAt.EqAt.str_int a t' b t
    | str b => obtain ⟨t, rfl⟩ := rx; exact SeqAt.EqAt.str_str a t' b t
    | _ => exact absurd (show false = true from fx) Bool.false_ne_true
  | _ => exact absurd (show false = true from fy) Bool.false_ne_true
def eqU (x : V) (u : Value) : Bool := match u with
  | .none => eqV .non x
  | .bool b => eqV (.bl b) x
  | .int i _ => eqV (.int i) x
  | .str z _ => eqV (.str z) x
  | _ => false
theorem eqU_of {x y : V} {u : Value} (r : RelV y u) (f : flatV y = true) : eqU x u = eqV y x := by
  cases y with
  | non => cases r; rfl
  | bl b => cases r; rfl
  | int i => obtain ⟨t, rfl⟩ := r; rfl
  | str z => obtain ⟨t, rfl⟩ := r; rfl
  | _ => exact absurd (show false = true from f) Bool.false_ne_true
theorem any_eqU {x : V} : ∀ {xs : List V} {us : List Value}, Vals xs us → xs.all flatV = true → us.any (eqU x) = xs.any fun y => eqV y x
  | _, _, .nil, _ => rfl
  | y :: xs, u :: us, .cons r t, f => by
    rw [List.all_cons, Bool.and_eq_true] at f
    rw [List.any_cons, List.any_cons, eqU_of r f.1, any_eqU t f.2]
theorem mem_eqAt {A : Around} {s : Shared} {x : V} {v : Value} (rx : RelV x v) (fx : flatV x = true) : ∀ {xs : List V} {us : List Value}, Vals xs us → xs.all flatV = true → ∀ u ∈ us, SeqAt.EqAt A s u v (eqU x u)
  | _, _, .nil, _ => fun u hu => by cases hu
  | y :: xs, u :: us, .cons r t, f => fun u' hu => by
    rw [List.all_cons, Bool.and_eq_true] at f
    rcases List.mem_cons.mp hu with rfl | hu
    · rw [eqU_of r f.1]; exact eqAt_V r rx f.1 fx
    · exact mem_eqAt rx fx t f.2 u' hu
def inV (x : V) (xs : List V) : Bool := xs.any fun y => eqV y x
def rIn (K : PySem.W.Frag) (neg : Bool) : R2 := fun x y H Q => ∃ p xs, y = .ref p ∧ (SqL K H p xs ∨ SqT K H p xs) ∧ flatV x = true ∧ xs.all flatV = true ∧ Q (.bl (if neg then !inV x xs else inV x xs)) H
theorem op_in_seq : OpR X (compareOp .In) (rIn X.K false) := by
  intro pins s σ H x y v u Q I rx ry h
  obtain ⟨p, xs, rfl, hq, fx, fs, q⟩ := h
  cases ry
  rcases hq with hq | hq
  · obtain ⟨its, r, pl, hz⟩ := I.list hq
    refine SeqAt.in_listAt (eqU x) pl.isList (fun w hw => mem_eqAt rx fx r fs w (by simpa using hw)) ⟨.bl _, H, I, rfl, ?_⟩
    rw [show its.toArray.any (eqU x) = its.any (eqU x) by simp, any_eqU r fs]
    exact q
  · obtain ⟨its, r, pl, hz⟩ := I.tuple hq
    refine SeqAt.in_tupleAt (eqU x) pl (fun w hw => mem_eqAt rx fx r fs w (by simpa using hw)) ⟨.bl _, H, I, rfl, ?_⟩
    rw [show its.toArray.any (eqU x) = its.any (eqU x) by simp, any_eqU r fs]
    exact q
theorem call_len_seq : CallR X (.builtin "len") (fun xs H Q => ∃ p ys, xs = [.ref p] ∧ (SqL X.K H p ys ∨ SqT X.K H p ys) ∧ Q (.int ys.length) H) := by
  intro pins s σ H xs us Q I r h
  obtain ⟨p, ys, rfl, hq, q⟩ := h
  obtain ⟨u, rfl, rx⟩ := vals1 r
  cases rx
  have hn := line63
  rcases hq with hq | hq
  · obtain ⟨its, r', pl, hz⟩ := I.list hq
    have hlen := r'.length
    exact Calls.call_len_list pl.isList (by simp only [List.size_toArray] <;> omega) ⟨.int ys.length, H, I.tok _, ⟨s.toks + 1, by rw [List.size_toArray, hlen]⟩, q⟩
  · obtain ⟨its, r', pl, hz⟩ := I.tuple hq
    have hlen := r'.length
    exact len_tuple pl (by simp only [List.size_toArray] <;> omega) ⟨.int ys.length, H, I.tok _, ⟨s.toks + 1, by rw [List.size_toArray, hlen]⟩, q⟩
def tyV (K : PySem.W.Frag) (T : String) (x : V) (H : Hp) : Prop := match x with
  | .str _ => T = "str"
  | .int _ => T = "int"
  | .ref p => (T = "list" ∧ ∃ xs, SqL K H p xs) ∨ (T = "tuple" ∧ ∃ o, K.lookup p = some o ∧ o.cls = .type "tuple" ∧ o.dict = none) ∨
      (T = "dict" ∧ ((∃ kvs, H p = some (.dK kvs)) ∨ ∃ kvs, H p = some (.dT kvs))) ∨ (T = "set" ∧ ∃ S n, H p = some (.set S n))
  | _ => False
theorem tyV_is {pins : List (Addr × Obj)} {σ : St} {H : Hp} {s : Shared} {T : String} {x : V} {v : Value} (I : Inv X pins σ H s) (r : RelV x v) (ty : tyV X.K T x H) :
    s.TypeIs v T ∧ ∀ a, v = .ref a → ∃ ob, s.heap.get? a = some ob ∧ ob.dict = none := by
  cases x with
  | str z =>
    obtain ⟨t, rfl⟩ := r
    cases (show T = "str" from ty)
    exact ⟨typeIs_str s z t, fun _ e => nomatch e⟩
  | int i =>
    obtain ⟨t, rfl⟩ := r
    cases (show T = "int" from ty)
    exact ⟨typeIs_int s i t, fun _ e => nomatch e⟩
  | ref p =>
    cases r
    rcases ty with ⟨rfl, xs, hq⟩ | ⟨rfl, o, hk, hc, hd⟩ | ⟨rfl, hk⟩ | ⟨rfl, S, n, hk⟩
    · obtain ⟨its, _, pl, _⟩ := I.list hq
      refine ⟨pl.isList.typeIs, fun a e => ?_⟩
      cases e
      obtain ⟨o, n, e, c, hd, _⟩ := pl
      exact ⟨o, e, hd⟩
    · refine ⟨⟨o, I.kIn p o hk, hc⟩, fun a e => ?_⟩
      cases e
      exact ⟨o, I.kIn _ o hk, hd⟩
    · have z : ∃ o, s.heap.get? p = some o ∧ o.ExactDict := by
        rcases hk with ⟨kvs, hk⟩ | ⟨kvs, hk⟩
        · obtain ⟨_, _, _, _, o, _, _, e, ex, _⟩ := I.hok p _ hk
          exact ⟨o, e, ex⟩
        · obtain ⟨_, _, _, _, o, _, _, e, ex, _⟩ := I.hok p _ hk
          exact ⟨o, e, ex⟩
      obtain ⟨o, e, ex⟩ := z
      refine ⟨⟨o, e, ex.1⟩, fun a e2 => ?_⟩
      cases e2
      exact ⟨o, e, ex.2.1⟩
    · obtain ⟨o, _, _, _, e, ex, _⟩ := I.hok p _ hk
      refine ⟨⟨o, e, ex.1⟩, fun a e2 => ?_⟩
      cases e2
      exact ⟨o, e, ex.2.1⟩
  | _ => exact False.elim ty
def tBM (K : PySem.W.Frag) (T : String) (r : V → List V → Hp → VK → Prop) (to : TE) (t : TA) : TE := fun σ H Q => to σ H fun x H1 => tyV K T x H1 ∧ t σ H1 fun xs H2 => r x xs H2 Q
variable {o e : Expr} {es : List Expr} {to : TE} {t : TA} {name : Str} {apos cpos : Pos} {T id : String} {r : V → List V → Hp → VK → Prop}
theorem pe_bm (pa : PlainAttrs T) (slot : Slot T name id) (hty : typeOf (.builtin id) = pure (.type "method_descriptor")) (hm : MtR X id r) (ho : PE X o to) (ha : PA X (e :: es) t)
    (hbase : attributeBase o name X.env (eval o X.env) = eval o X.env := by rfl)
    (hfew : ((backTo cpos (starEach (e :: es) X.env)).all (fun x => !x.1) && (backToKw cpos (keywordEach [] X.env)).all (fun x => x.1.isSome)
      && decide ((e :: es).length + ([] : List Keyword).length + (if ([] : List Keyword).isEmpty then 0 else 1) < 30)) = true := by rfl)
    (hline : (apos.endLine == cpos.line) = true := by rfl) (hs : starEach (e :: es) X.env = (false, eval e X.env) :: starEach es X.env := by rfl) (hplain : (backTo cpos (starEach es X.env)).any (·.1) = false := by rfl) :
    PE X (.Call (.Attribute o name apos) (e :: es) [] cpos) (tBM X.K T r to t) := by
  intro pins s σ H Q I h
  refine wpAny_Call_method_late hbase hfew hline rfl (thn (ho pins s σ H _ I h) fun v s1 ⟨x, H1, I1, r1, ty, q1⟩ => ?_)
  obtain ⟨h1, h2⟩ := tyV_is I1 r1 ty
  refine ⟨T, id, pa, slot, hty, h1, h2, ?_⟩
  have hA := ha cpos pins s1 σ H1 _ I1 q1
  rw [hs] at hA ⊢
  refine Calls.callWith_builtin (by show (false || (backTo cpos (starEach es X.env)).any (·.1)) = false; rw [hplain] <;> rfl) (Calls.evalArgs_plain ?_)
  exact thn hA fun us s2 ⟨vs, H2, I2, r2, q2⟩ => hm pins s2 σ H2 x vs v us Q I2 r1 r2 q2
end
end L2
namespace L2
open PySem PySem.Spec PyProof.Rows
def MtM (X : Cx) (id : String) (r : V → List V → Hp → VK → Prop) : Prop :=
  ∀ (pins : List (Addr × Obj)) (s : Shared) (σ : St) (H : Hp) (x : V) (xs : List V) (v : Value) (us : List Value) (Q : VK), Inv X pins σ H s → RelV x v → Vals xs us → r x xs H Q →
    wpAny (model X.prog X.w) X.A (call (.builtin id) (v :: us)) (EP X pins σ Q) X.xe s
theorem Vals.one : ∀ {x : V} {us : List Value}, Vals [x] us → ∃ u, us = [u] ∧ RelV x u
  | _, _, .cons r .nil => ⟨_, rfl, r⟩
theorem Vals.two : ∀ {x y : V} {us : List Value}, Vals [x, y] us → ∃ u v, us = [u, v] ∧ RelV x u ∧ RelV y v
  | _, _, _, .cons r (.cons q .nil) => ⟨_, _, rfl, r, q⟩
theorem Vals.zero : ∀ {us : List Value}, Vals [] us → us = []
  | _, .nil => rfl
theorem Vals.rep {xs : List V} {us : List Value} (h : Vals xs us) : ∀ k : Nat, Vals (List.replicate k xs).flatten (List.replicate k us).flatten
  | 0 => .nil
  | k + 1 => by
    rw [List.replicate_succ, List.replicate_succ, List.flatten_cons, List.flatten_cons]
    exact Vals.append h (Vals.rep h k)
theorem foldl_rep (its : List Value) : ∀ (k : Nat) (acc : List Value),
    List.foldl (fun x1 x2 => x1 ++ x2) acc.toArray (List.replicate k its.toArray) = (acc ++ (List.replicate k its).flatten).toArray
  | 0, acc => by simp
  | k + 1, acc => by
    have e : acc.toArray ++ its.toArray = (acc ++ its).toArray := by simp
    have e2 : (acc ++ its) ++ (List.replicate k its).flatten = acc ++ (List.replicate (k + 1) its).flatten := by
      rw [List.replicate_succ, List.flatten_cons, List.append_assoc]
    rw [← e2, ← foldl_rep its k (acc ++ its), ← e, List.replicate_succ, List.foldl_cons]
section
variable {X : Cx} {pins : List (Addr × Obj)} {σ : St} {H : Hp} {s : Shared} {l b : Addr} {xs ys zs : List V}
theorem Inv.lset {its its' : List Value} {n : Nat} {f : Array Value → Array Value} {t' : Nat} (I : Inv X pins σ H s) (hH : H l = some (.lst xs))
    (e : s.heap.get? l = some { cls := .type "list", data := .seq its.toArray n }) (hf : f its.toArray = its'.toArray) (hv : Vals ys its') (hz : ys.length ≤ sizeLine) :
    Inv X pins σ (upd H l (.lst ys)) { s with heap := s.heap.update l (Obj.mapSeq f), toks := t' } := by
  have q := PySem.IsL.update e f
  rw [hf] at q
  refine I.write (x := l) (e := l) (by rw [hH]; exact trivial) (.inl rfl) (fun b' u hb hu => (Heap.get?_update_other s.heap (Obj.mapSeq f) (Ne.symm hb)).trans hu) ⟨_, q⟩ ?_
  exact ⟨hz, its', _, hv, q⟩
theorem Inv.lnew {its : List Value} {t' : Nat} (I : Inv X pins σ H s) (hv : Vals ys its) (hz : ys.length ≤ sizeLine) :
    Inv X pins σ (upd H s.heap.objs.size (.lst ys)) { s with heap := s.heap.push { cls := .type "list", data := .seq its.toArray }, toks := t' } :=
  I.laid (fun _ _ q => Heap.get?_push_of_some _ q) (Nat.le_refl _) ⟨hz, its, 0, hv, Heap.get?_push_size _ rfl⟩
theorem Inv.fresh (I : Inv X pins σ H s) : H s.heap.objs.size = none := I.hok.fresh (Nat.le_refl _)
theorem Inv.lstM (I : Inv X pins σ H s) (hH : H l = some (.lst xs)) : xs.length ≤ sizeLine ∧ ∃ (its : List Value) (n : Nat), Vals xs its ∧ xs.length = its.length ∧ s.heap.get? l = some { cls := .type "list", data := .seq its.toArray n } := by
  obtain ⟨z, its, n, r, e⟩ := I.hok l _ hH
  exact ⟨z, its, n, r, r.length, e⟩
theorem notLongL {n : Nat} (h : n ≤ sizeLine) : Builtin.List.listTooLong n = false := by
  unfold Builtin.List.listTooLong
  exact decide_eq_false (by omega)
end
section
variable {X : Cx}
def rAppend : V → List V → Hp → VK → Prop := fun x vs H Q => ∃ l xs y, x = .ref l ∧ vs = [y] ∧ H l = some (.lst xs) ∧ xs.length < sizeLine ∧ Q .non (upd H l (.lst (xs ++ [y])))
theorem mt_append : MtM X "list.append" rAppend := by
  intro pins s σ H x vs v us Q I rx rv h
  obtain ⟨l, xs, y, rfl, rfl, hH, hz, q⟩ := h
  cases rx
  obtain ⟨u, rfl, ru⟩ := rv.one
  obtain ⟨z, its, n, r, hl, e⟩ := I.lstM hH
  refine call_meets F.slot_list_append ⟨_, e, rfl⟩ F.entry_list_append (F.args_list_append_2 _ _) (PySem.list_append l its.toArray n u (by rw [List.size_toArray]; omega)) ⟨e, ?_⟩
  refine ⟨.non, _, I.lset (its' := its ++ [u]) hH e (by simp) (r.append (.cons ru .nil)) ?_, rfl, q⟩
  rw [List.length_append, List.length_singleton]
  omega
def rExtend : V → List V → Hp → VK → Prop := fun x vs H Q => ∃ l b xs zs, x = .ref l ∧ vs = [.ref b] ∧ H l = some (.lst xs) ∧ H b = some (.lst zs) ∧ xs.length + zs.length ≤ sizeLine ∧ Q .non (upd H l (.lst (xs ++ zs)))
theorem mt_extend : MtM X "list.extend" rExtend := by
  intro pins s σ H x vs v us Q I rx rv h
  obtain ⟨l, b, xs, zs, rfl, rfl, hH, hB, hz, q⟩ := h
  cases rx
  obtain ⟨u, rfl, ru⟩ := rv.one
  cases ru
  obtain ⟨z, its, n, r, hl, e⟩ := I.lstM hH
  obtain ⟨z2, its2, n2, r2, hl2, e2⟩ := I.lstM hB
  have hsz : its.toArray.size + its2.toArray.size ≤ sizeLine := by rw [List.size_toArray, List.size_toArray]; omega
  have hlong : ¬ (!its.toArray.isEmpty && Builtin.List.listTooLong (its.toArray.size + its2.toArray.size)) = true := by
    rw [notLongL hsz, Bool.and_false]
    exact Bool.false_ne_true
  refine call_meets F.slot_list_extend ⟨_, e, rfl⟩ F.entry_list_extend (F.args_list_extend_2 _ _)
    (AutoSeq1.list_extend_list_list_0 l its.toArray n b its2.toArray n2 hlong (by rw [List.size_toArray]; omega) (by omega)) ⟨e, e2, ?_⟩
  refine ⟨.non, _, I.lset (its' := its ++ its2) hH e (by simp) (r.append r2) ?_, rfl, q⟩
  rw [List.length_append]
  omega
def rCat : R2 := fun x y H Q => ∃ l b xs zs, x = .ref l ∧ y = .ref b ∧ H l = some (.lst xs) ∧ H b = some (.lst zs) ∧ xs.length + zs.length ≤ sizeLine ∧ ∀ p, H p = none → Q (.ref p) (upd H p (.lst (xs ++ zs)))
theorem op_cat : OpR X (binaryOp .Add) rCat := by
  intro pins s σ H x y v u Q I rx ry h
  obtain ⟨l, b, xs, zs, rfl, rfl, hH, hB, hz, q⟩ := h
  cases rx
  cases ry
  obtain ⟨z, its, n, r, hl, e⟩ := I.lstM hH
  obtain ⟨z2, its2, n2, r2, hl2, e2⟩ := I.lstM hB
  refine PySem.P.add_list e e2 ?_ (by rw [List.size_toArray, List.size_toArray]; omega)
  have ea : its.toArray ++ its2.toArray = (its ++ its2).toArray := by simp
  rw [ea]
  exact ⟨.ref _, _, I.lnew (t' := s.toks) (r.append r2) (by rw [List.length_append]; omega), rfl, q _ I.fresh⟩
def rRep : R2 := fun x y H Q => ∃ l k xs, x = .ref l ∧ y = .int k ∧ H l = some (.lst xs) ∧ -(2 ^ 63) ≤ k ∧ k < 2 ^ 63 ∧ xs.length * k.toNat ≤ sizeLine ∧
  ∀ p, H p = none → Q (.ref p) (upd H p (.lst (List.replicate k.toNat xs).flatten))
theorem len_rep {α : Type} (xs : List α) (k : Nat) : (List.replicate k xs).flatten.length = k * xs.length := by
  induction k with
  | zero => simp
  | succ k ih => rw [List.replicate_succ, List.flatten_cons, List.length_append, ih, Nat.succ_mul, Nat.add_comm]
theorem op_rep : OpR X (binaryOp .Mult) rRep := by
  intro pins s σ H x y v u Q I rx ry h
  obtain ⟨l, k, xs, rfl, rfl, hH, h1, h2, hz, q⟩ := h
  cases rx
  obtain ⟨t, rfl⟩ := ry
  obtain ⟨z, its, n, r, hl, e⟩ := I.lstM hH
  have hlen : its.toArray.size * k.toNat ≤ sizeLine := by rw [List.size_toArray, ← hl]; exact hz
  have hcap : ¬ its.toArray.size * k.toNat > (2 ^ 63 - 1) / 8 := by
    have : (sizeLine : Nat) ≤ (2 ^ 63 - 1) / 8 := by decide
    omega
  have hfit : ¬ (!Builtin.List.listFitsIndex k) = true := by
    rw [fitsIndex_both h1 h2]
    exact Bool.false_ne_true
  have hlong : ¬ Builtin.List.listTooLong (its.toArray.size * k.toNat) = true := by
    rw [notLongL hlen]
    exact Bool.false_ne_true
  have hnew : List.foldl (fun x1 x2 => x1 ++ x2) #[] (List.replicate (if its.toArray.isEmpty = true then 0 else k.toNat) its.toArray) = (List.replicate k.toNat its).flatten.toArray := by
    have f0 : ∀ m : Nat, List.foldl (fun x1 x2 => x1 ++ x2) #[] (List.replicate m its.toArray) = (List.replicate m its).flatten.toArray := fun m => by
      have := foldl_rep its m []
      rw [List.nil_append] at this
      exact this
    rw [f0]
    cases its with
    | nil => simp
    | cons a r' => rw [if_neg (by simp)]
  refine wpAny_binaryOp_repeat_ref (T := "list") (U := "int") (by decide) ⟨_, e, rfl⟩ (fun s' => typeIs_int s' k t) noFill_list_mul F.fills_int_mul F.slot_int_rmul repeat_list F.slot_int_index.lookup
    (call_meets F.slot_int_rmul (typeIs_int s k t) F.entry_int_rmul (F.args_int_rmul_2 _ _) (int___rmul___int_list k t l its.toArray n)
      ⟨e, rfl, ⟨_, e, rfl⟩, call_meets F.slot_list_mul ⟨_, e, rfl⟩ F.entry_list_mul (F.args_list_mul_2 _ _) (AutoListH.list___mul___list_int_3 l its.toArray n k t hfit hcap hlong) ⟨e, ?_⟩⟩)
  rw [hnew]
  exact ⟨.ref _, _, I.lnew (t' := s.toks) (r.rep k.toNat) (by rw [len_rep, Nat.mul_comm]; exact hz), rfl, q _ I.fresh⟩
end
section
variable {prog : Program} {w : World} {A : Around} {E : Value → Shared → Prop} {s : Shared}
set_option maxRecDepth 100000 in
end
section
variable {X : Cx}
end
end L2
namespace L2
open PySem PySem.Spec PyProof.Rows
theorem Vals.ints : ∀ {ns : List Int} {us : List Value}, Vals (ns.map V.int) us → IntsAre us ns
  | [], us, h => by
    rw [List.map_nil] at h
    cases h
    exact IntsAre.nil
  | n :: ns, us, h => by
    rw [List.map_cons] at h
    cases h with
    | cons r t =>
      obtain ⟨k, rfl⟩ := r
      exact IntsAre.cons n k (Vals.ints t)
theorem Vals.strs : ∀ {xs : List Str} {us : List Value}, Vals (xs.map V.str) us → StrsAre us xs
  | [], us, h => by
    rw [List.map_nil] at h
    cases h
    exact StrsAre.nil
  | x :: xs, us, h => by
    rw [List.map_cons] at h
    cases h with
    | cons r t =>
      obtain ⟨k, rfl⟩ := r
      exact StrsAre.cons x k (Vals.strs t)
theorem Vals.ref1 {a : Addr} {us : List Value} (r : Vals [V.ref a] us) : us = [Value.ref a] := by
  cases r with
  | cons r t =>
    cases t
    cases r
    rfl
section
variable {prog : Program} {w : World} {A : Around} {E : Value → Shared → Prop} {s : Shared} {l : Addr} {its : List Value} {ns : List Int} {Q : Value → Shared → Prop}
theorem sum_raw (hh : A.handled = none) (hl : s.heap.IsList l its.toArray) (hi : IntsAre its ns)
    (h : ∀ h' tk t', (∀ b o, s.heap.get? b = some o → h'.get? b = some o) → Q (.int ns.sum t') { s with heap := h', toks := tk }) : wpAny (model prog w) A (call (.builtin "sum") [.ref l]) Q E s := by
  obtain ⟨xs, e⟩ := hi.allInts.items
  have hn : numsOf (intItems xs).toList = ns := by rw [← e]; exact hi.numsOf
  rw [nums_intItems] at hn
  rw [e] at hl
  refine PySem.sum_intListG hh hl fun h' tk t' hk => ?_
  have := h h' tk t' hk
  rw [preSum_eq, List.take_of_length_le (by simp), hn]; exact this
end
section
variable {X : Cx}
def rSum (K : PySem.W.Frag) : List V → Hp → VK → Prop := fun vs H Q => ∃ (a : Addr) (ns : List Int), vs = [V.ref a] ∧ SqL K H a (ns.map V.int) ∧ Q (.int ns.sum) H
theorem cr_sum (hc : X.calm = true) : CallR X (.builtin "sum") (rSum X.K) := by
  intro pins s σ H vs us Q I r h
  obtain ⟨a, ns, rfl, hs, q⟩ := h
  obtain ⟨its, rv, hl, _⟩ := I.list hs
  rw [Vals.ref1 r]
  exact sum_raw (I.ok.hd hc) hl.isList rv.ints fun h' tk t' hk => ⟨.int _, H, I.kept hk, ⟨_, rfl⟩, q⟩
end
section
variable {X : Cx}
def rIndex (K : PySem.W.Frag) : V → List V → Hp → VK → Prop := fun x xs H Q => ∃ (a : Addr) (ys : List V) (y : V) (j : Nat) (z : V), x = V.ref a ∧ xs = [y] ∧ SqL K H a ys ∧ flatV y = true ∧ ys.all flatV = true ∧ ys[j]? = some z ∧ eqV z y = true ∧
  (∀ (m : Nat) (z' : V), m < j → ys[m]? = some z' → eqV z' y = false) ∧ Q (.int (j : Nat)) H
theorem flat_at {ys : List V} (f : ys.all flatV = true) {j : Nat} {z : V} (h : ys[j]? = some z) : flatV z = true := List.all_eq_true.mp f z (List.mem_of_getElem? h)
theorem mt_index : MtR X "list.index" (rIndex X.K) := by
  intro pins s σ H x xs v us Q I rx rxs h
  obtain ⟨a, ys, y, j, z, rfl, rfl, hs, fy, fys, hz, hzj, hno, q⟩ := h
  cases rx
  cases rxs with
  | cons ry rt =>
    rename_i uy ut
    cases rt
    obtain ⟨its, rv, ⟨⟨cls, dd, data, sl⟩, n, ho, hc, hdn, hd⟩, hlen⟩ := I.list hs
    simp only at hc hd
    subst hc hd
    obtain ⟨u, hu, ru⟩ := rv.get hz
    obtain ⟨hjl, hje⟩ := List.getElem?_eq_some_iff.mp hu
    have hvl := rv.length
    have hj : j < its.toArray.size := by simpa using hjl
    have hsl := sizeLine_eq
    refine call_meets PySem.F.slot_list_index ⟨_, ho, rfl⟩ PySem.F.entry_list_index (PySem.F.args_list_index_2 _ _)
      (SeqAt.list_indexAt a its.toArray n dd sl uy (eqU y) j hj (by omega) ?_ ?_) ⟨ho, fun u' hu' => mem_eqAt ry fy rv fys u' (by simpa using hu'), ?_⟩
    · have e1 : its.toArray[j] = u := by simpa using hje
      rw [e1, eqU_of ru (flat_at fys hz)]
      exact hzj
    · intro m hm hmj
      have hml : m < its.length := by simpa using hm
      have hmy : m < ys.length := by omega
      have hy' : ys[m]? = some ys[m] := List.getElem?_eq_getElem hmy
      obtain ⟨u2, hu2, ru2⟩ := rv.get hy'
      obtain ⟨_, hme⟩ := List.getElem?_eq_some_iff.mp hu2
      have e1 : its.toArray[m] = u2 := by simpa using hme
      rw [e1, eqU_of ru2 (flat_at fys hy')]
      exact hno m _ hmj hy'
    · exact ⟨.int (j : Nat), H, I.tok _, ⟨_, rfl⟩, q⟩
end
section
variable {X : Cx}
end
theorem all_range : ∀ bs : List Bool, (List.range bs.length).all (fun i => bs.getD i false) = bs.all id
  | [] => rfl
  | b :: bs => by
    rw [List.length_cons, List.range_succ_eq_map, List.all_cons, List.all_map, List.all_cons, ← all_range bs]
    all_goals rfl
section
variable {X : Cx}
end
mutual
inductive Dp (K : PySem.W.Frag) (H : Hp) : V → PyData → Prop
  | non : Dp K H .non .none
  | bl (b : Bool) : Dp K H (.bl b) (.bool b)
  | int (i : Int) : Dp K H (.int i) (.int i)
  | str (x : Str) : Dp K H (.str x) (.str x)
  | lst {a : Addr} {xs : List V} {ds : List PyData} : SqL K H a xs → DpAll K H xs ds → Dp K H (.ref a) (.list ds)
  | tup {a : Addr} {xs : List V} {ds : List PyData} : SqT K H a xs → DpAll K H xs ds → Dp K H (.ref a) (.tuple ds)
inductive DpAll (K : PySem.W.Frag) (H : Hp) : List V → List PyData → Prop
  | nil : DpAll K H [] []
  | cons {v : V} {vs : List V} {d : PyData} {ds : List PyData} : Dp K H v d → DpAll K H vs ds → DpAll K H (v :: vs) (d :: ds)
end
section
variable {X : Cx} {pins : List (Addr × Obj)} {σ : St} {H : Hp} {s : Shared}
mutual
theorem Dp.reads (I : Inv X pins σ H s) : ∀ (d : PyData) (v : V) (u : Value), Dp X.K H v d → RelV v u → ∃ as, Reads s.heap u d as
  | .none, _, _, h, r => by
    cases h
    cases r
    exact ⟨_, Reads.none⟩
  | .bool b, _, _, h, r => by
    cases h
    cases r
    exact ⟨_, Reads.bool b⟩
  | .int i, _, _, h, r => by
    cases h
    obtain ⟨t, rfl⟩ := r
    exact ⟨_, Reads.int i t⟩
  | .str x, _, _, h, r => by
    cases h
    obtain ⟨t, rfl⟩ := r
    exact ⟨_, Reads.str x t⟩
  | .list ds, _, _, h, r => by
    cases h with
    | lst hs ha =>
      cases r
      obtain ⟨its, rv, ⟨o, n, ho, hc, _, hd⟩, _⟩ := I.list hs
      obtain ⟨as, hr⟩ := Dp.readsAll I ds _ its ha rv
      exact ⟨_, Reads.list ho hc hd hr⟩
  | .tuple ds, _, _, h, r => by
    cases h with
    | tup hs ha =>
      cases r
      obtain ⟨its, rv, ⟨o, ho, hc, n, hd⟩, _⟩ := I.tuple hs
      obtain ⟨as, hr⟩ := Dp.readsAll I ds _ its ha rv
      exact ⟨_, Reads.tuple ho hc hd hr⟩
  | .dict _, _, _, h, _ => by cases h
theorem Dp.readsAll (I : Inv X pins σ H s) : ∀ (ds : List PyData) (vs : List V) (us : List Value), DpAll X.K H vs ds → Vals vs us → ∃ as, ReadsAll s.heap us ds as
  | [], _, _, h, r => by
    cases h
    cases r
    exact ⟨_, ReadsAll.nil⟩
  | d :: ds, _, _, h, r => by
    cases h with
    | cons h1 h2 =>
      cases r with
      | cons r1 r2 =>
        obtain ⟨as, q1⟩ := Dp.reads I d _ _ h1 r1
        obtain ⟨bs, q2⟩ := Dp.readsAll I ds _ _ h2 r2
        exact ⟨_, ReadsAll.cons q1 q2⟩
end
end
section
variable {X : Cx}
end
end L2
namespace L2
open PySem PySem.Spec PyProof.Rows
abbrev CellAt (h : Heap) (c : Addr) (v : Option Value) : Prop := h.IsCell c v
def relS (scope sc : Scope) : Scope :=
  { scope with names := scope.names.map fun (n, k) => if (k == .free && sc.kind == .function && sc.names.lookup n == some .cell) then (n, .cell) else (n, k) }
def cloFrom (cells : List (Str × Addr)) : List (Str × NameKind) → List (Str × Addr) → List (Str × Addr)
  | [], acc => acc
  | (n, k) :: r, acc => if k == .free then cloFrom cells r ((n, (cells.lookup n).getD 0) :: acc) else cloFrom cells r acc
theorem closure_loop (env : Env) (f : Str × NameKind → List (Str × Addr) → Sem (ForInStep (List (Str × Addr))))
    (hf : ∀ n k c, f (n, k) c = if k == .free then (do let a ← cellOf env n; pure (.yield ((n, a) :: c))) else pure (.yield c)) :
    ∀ (names : List (Str × NameKind)) (acc : List (Str × Addr)), (∀ y ∈ names, y.2 = .free → ∃ c, env.cells.lookup y.1 = some c) → forIn names acc f = pure (cloFrom env.cells names acc)
  | [], acc, _ => by rw [List.forIn_nil]; rfl
  | (n, k) :: r, acc, h => by
    rw [List.forIn_cons, hf]
    have ih := fun acc => closure_loop env f hf r acc fun y hy => h y (List.mem_cons_of_mem _ hy)
    unfold cloFrom
    by_cases hk : (k == NameKind.free) = true
    · rw [if_pos hk, if_pos hk]
      obtain ⟨c, hc⟩ := h (n, k) List.mem_cons_self (by simpa using hk)
      have e : cellOf env n = pure c := by unfold cellOf; rw [hc]
      rw [e]
      have e2 : (env.cells.lookup n).getD 0 = c := by rw [hc]; rfl
      rw [e2]
      exact ih _
    · rw [if_neg hk, if_neg hk]
      exact ih _
theorem closure_ok {scope : Scope} {env : Env} (h : ∀ y ∈ scope.names, y.2 = .free → ∃ c, env.cells.lookup y.1 = some c) : closureFor scope env = pure (cloFrom env.cells scope.names []) := by
  simp only [closureFor]
  rw [closure_loop env _ (fun n k c => rfl) scope.names [] h]
  rfl
theorem mem_lookup {α : Type} : ∀ {l : List (Str × α)} {n : Str} {c : α}, (n, c) ∈ l → ∃ c', l.lookup n = some c'
  | (k, v) :: r, n, c, h => by
    rw [List.lookup_cons]
    cases hb : n == k with
    | true => exact ⟨_, rfl⟩
    | false =>
      rcases List.mem_cons.mp h with e | h
      · cases e; simp at hb
      · exact mem_lookup h
theorem cloFrom_mem {cells : List (Str × Addr)} : ∀ {names : List (Str × NameKind)} {acc : List (Str × Addr)} {n : Str} {c : Addr}, (n, c) ∈ cloFrom cells names acc → (n, c) ∈ acc ∨ ((n, .free) ∈ names ∧ c = (cells.lookup n).getD 0)
  | [], _, _, _, h => .inl h
  | (m, k) :: r, acc, n, c, h => by
    unfold cloFrom at h
    split at h
    · rename_i hk
      have hk : k = .free := by simpa using hk
      rcases cloFrom_mem h with h | ⟨h1, h2⟩
      · rcases List.mem_cons.mp h with e | h
        · cases e; exact .inr ⟨hk ▸ List.mem_cons_self, rfl⟩
        · exact .inl h
      · exact .inr ⟨List.mem_cons_of_mem _ h1, h2⟩
    · rcases cloFrom_mem h with h | ⟨h1, h2⟩
      · exact .inl h
      · exact .inr ⟨List.mem_cons_of_mem _ h1, h2⟩
theorem cloFrom_acc {cells : List (Str × Addr)} : ∀ {names : List (Str × NameKind)} {acc : List (Str × Addr)} {p : Str × Addr}, p ∈ acc → p ∈ cloFrom cells names acc
  | [], _, _, h => h
  | (m, k) :: r, acc, p, h => by
    unfold cloFrom
    split
    · exact cloFrom_acc (List.mem_cons_of_mem _ h)
    · exact cloFrom_acc h
theorem cloFrom_has {cells : List (Str × Addr)} : ∀ {names : List (Str × NameKind)} {acc : List (Str × Addr)} {n : Str}, (n, .free) ∈ names → (n, (cells.lookup n).getD 0) ∈ cloFrom cells names acc
  | (m, k) :: r, acc, n, h => by
    unfold cloFrom
    rcases List.mem_cons.mp h with e | h
    · cases e
      exact cloFrom_acc List.mem_cons_self
    · split
      · exact cloFrom_has h
      · exact cloFrom_has h
theorem cells_mem : ∀ {names : List (Str × NameKind)} {h : Heap} {acc : List (Str × Addr)} {x : Str} {c : Addr}, (x, c) ∈ cellsFrom h.objs.size names acc →
    (x, c) ∈ acc ∨ ((x, .cell) ∈ names ∧ h.objs.size ≤ c ∧ CellAt (pushCells h names) c none)
  | [], _, _, _, _, h => .inl h
  | (n, k) :: r, h, acc, x, c, hm => by
    unfold cellsFrom at hm
    unfold pushCells
    split at hm
    · rename_i hk
      rw [if_pos hk]
      have hk : k = .cell := by simpa using hk
      rw [← Heap.size_push h { cls := .type "cell", data := .cell none }] at hm
      rcases cells_mem hm with hm | ⟨h1, h2, h3⟩
      · rcases List.mem_cons.mp hm with e | hm
        · cases e
          exact .inr ⟨hk ▸ List.mem_cons_self, Nat.le_refl _, _, pushCells_keeps r _ _ _ (Heap.get?_push_size _ rfl), rfl⟩
        · exact .inl hm
      · rw [Heap.size_push] at h2
        exact .inr ⟨List.mem_cons_of_mem _ h1, Nat.le_of_succ_le h2, h3⟩
    · rename_i hk
      rw [if_neg hk]
      rcases cells_mem hm with hm | ⟨h1, h2, h3⟩
      · exact .inl hm
      · exact .inr ⟨List.mem_cons_of_mem _ h1, h2, h3⟩
theorem cells_acc : ∀ {names : List (Str × NameKind)} {n : Nat} {acc : List (Str × Addr)} {p : Str × Addr}, p ∈ acc → p ∈ cellsFrom n names acc
  | [], _, _, _, h => h
  | (m, k) :: r, n, acc, p, h => by
    unfold cellsFrom
    split
    · exact cells_acc (List.mem_cons_of_mem _ h)
    · exact cells_acc h
theorem cells_has : ∀ {names : List (Str × NameKind)} {n : Nat} {acc : List (Str × Addr)} {x : Str}, (x, .cell) ∈ names → ∃ c, (x, c) ∈ cellsFrom n names acc
  | (m, k) :: r, n, acc, x, h => by
    unfold cellsFrom
    rcases List.mem_cons.mp h with e | h
    · cases e
      exact ⟨n, cells_acc List.mem_cons_self⟩
    · split
      · exact cells_has h
      · exact cells_has h
theorem cells_inj : ∀ {names : List (Str × NameKind)} {h : Heap} {acc : List (Str × Addr)} {x y : Str} {c : Addr}, (∀ p ∈ acc, p.2 < h.objs.size) → (∀ x y c, (x, c) ∈ acc → (y, c) ∈ acc → x = y) →
    (x, c) ∈ cellsFrom h.objs.size names acc → (y, c) ∈ cellsFrom h.objs.size names acc → x = y
  | [], _, _, _, _, _, _, hi, h1, h2 => hi _ _ _ h1 h2
  | (n, k) :: r, h, acc, x, y, c, hl, hi, h1, h2 => by
    unfold cellsFrom at h1 h2
    split at h1
    · rename_i hk
      rw [if_pos hk] at h2
      rw [← Heap.size_push h { cls := .type "cell", data := .cell none }] at h1 h2
      refine cells_inj (h := h.push _) (fun p hp => ?_) (fun x y c a b => ?_) h1 h2
      · rw [Heap.size_push]
        rcases List.mem_cons.mp hp with rfl | hp
        · exact Nat.lt_succ_self _
        · exact Nat.lt_succ_of_lt (hl p hp)
      · rcases List.mem_cons.mp a with e | a <;> rcases List.mem_cons.mp b with e' | b
        · cases e; cases e'; rfl
        · cases e; exact absurd (hl _ b) (Nat.lt_irrefl _)
        · cases e'; exact absurd (hl _ a) (Nat.lt_irrefl _)
        · exact hi _ _ _ a b
    · rename_i hk
      rw [if_neg hk] at h2
      exact cells_inj hl hi h1 h2
theorem newEnv_comp {M : Model} {A : Around} {E : Value → Shared → Prop} {s : Shared} {scope : Scope} {globals : Addr} {closure : List (Str × Addr)} {qual : Str} {func : Option Addr} {code : Value} {around : Env} {builtins : Addr} {Q : Env → Shared → Prop}
    (h : Q (newEnv scope s.heap.objs.size globals (cellsFrom (s.heap.objs.size + 1) scope.names closure) qual func code (some around) builtins)
      { s with heap := pushCells (s.heap.push { cls := .type "dict", data := .dict #[] }) scope.names }) :
    wpAny M A (newFunctionEnv scope globals closure [] qual func code (some around) builtins) Q E s := by
  simp only [newFunctionEnv, Option.isSome_some, if_true]
  refine wpAny_bind (wpAny_alloc ?_)
  refine wpAny_bind (wpAny_layCells _ (fun n k c => rfl) scope.names closure _ _ ?_)
  rw [show ({ s with heap := s.heap.push { cls := .type "dict", data := .dict #[] } } : Shared).heap.objs.size = s.heap.objs.size + 1 from Heap.size_push ..]
  rw [List.forIn_nil]
  exact wpAny_bind (wpAny_pure (wpAny_pure h))
theorem lookup_relS {sc : Scope} : ∀ {names : List (Str × NameKind)} {x : Str} {k : NameKind},
    (names.map fun (n, k) => if (k == NameKind.free && sc.kind == .function && sc.names.lookup n == some .cell) then (n, NameKind.cell) else (n, k)).lookup x = some k →
    ∃ k', names.lookup x = some k' ∧ (k = k' ∨ (k' = .free ∧ k = .cell))
  | [], _, _, h => by simp at h
  | (n, k₀) :: r, x, k, h => by
    have ih := @lookup_relS sc r x k
    have h' : List.lookup x ((if (k₀ == NameKind.free && sc.kind == .function && sc.names.lookup n == some .cell) = true then (n, NameKind.cell) else (n, k₀)) :: (r.map _)) = some k := h
    cases hx : x == n with
    | true =>
      simp only [List.lookup_cons, hx]
      by_cases hc : (k₀ == NameKind.free && sc.kind == .function && sc.names.lookup n == some .cell) = true
      · rw [if_pos hc] at h'
        simp only [List.lookup_cons, hx] at h'
        cases h'
        simp only [Bool.and_eq_true, beq_iff_eq] at hc
        exact ⟨k₀, rfl, .inr ⟨hc.1.1, rfl⟩⟩
      · rw [if_neg hc] at h'
        simp only [List.lookup_cons, hx] at h'
        cases h'
        exact ⟨_, rfl, .inl rfl⟩
    | false =>
      simp only [List.lookup_cons, hx]
      by_cases hc : (k₀ == NameKind.free && sc.kind == .function && sc.names.lookup n == some .cell) = true
      · rw [if_pos hc] at h'
        simp only [List.lookup_cons, hx] at h'
        exact ih h'
      · rw [if_neg hc] at h'
        simp only [List.lookup_cons, hx] at h'
        exact ih h'
structure BlkOk (N : List Str) (sc scope : Scope) (own : List (Str × Nat)) : Prop where
  kind : scope.kind = .function
  uniq : ∀ y ∈ scope.names, scope.names.lookup y.1 = some y.2
  ix : ∀ p ∈ own, N[p.2]? = some p.1
  free : ∀ y ∈ scope.names, y.2 = .free → sc.names.lookup y.1 = some .cell ∨ sc.names.lookup y.1 = some .free
  own : ∀ y ∈ scope.names, y.2 = .local ∨ y.2 = .cell → y.1 ∈ own.map (·.1) ∨ y.1 ∉ N
def wipe (σ : St) : List Nat → St
  | [] => σ
  | v :: vs => (wipe σ vs).set v none
theorem wipe_length (σ : St) : ∀ vs : List Nat, (wipe σ vs).length = σ.length
  | [] => rfl
  | v :: vs => by unfold wipe; rw [List.length_set, wipe_length σ vs]
theorem wipe_some {σ : St} {i : Nat} {x : V} : ∀ {vs : List Nat}, (wipe σ vs)[i]? = some (some x) → σ[i]? = some (some x) ∧ i ∉ vs
  | [], h => ⟨h, by simp⟩
  | v :: vs, h => by
    unfold wipe at h
    by_cases hi : v = i
    · subst hi
      by_cases hv : v < (wipe σ vs).length
      · rw [List.getElem?_set_self hv] at h; cases h
      · rw [List.getElem?_eq_none (by simpa using hv)] at h; cases h
    · rw [List.getElem?_set_ne hi] at h
      obtain ⟨h1, h2⟩ := wipe_some h
      exact ⟨h1, by simp only [List.mem_cons, not_or]; exact ⟨fun e => hi e.symm, h2⟩⟩
abbrev Cx.blk (X : Cx) (s : Shared) (H : Hp) (scope : Scope) (cenv : Env) (fp : List Addr) : Cx := { X with s_0 := s, H_0 := H, env := cenv, outer := X.stack, ex := fp, fn := fun x => scope.names.lookup x == some .cell, pn := [], xe := fun _ _ => False }
section
variable {X : Cx} {pins : List (Addr × Obj)} {σ : St} {H : Hp} {s : Shared}
theorem block_start {scope : Scope} {own : List (Str × Nat)} {fp : List Addr} (I : Inv X pins σ H s) (ok : BlkOk X.N X.env.scope scope own) (hN : X.N.Nodup) (hfp : ∀ b ∈ fp, FpOk X pins H b ∧ b < s.heap.objs.size) :
    Inv (X.blk s H scope (compEnvC scope (cellsFrom (s.heap.objs.size + 1) scope.names (cloFrom X.env.cells scope.names [])) s.heap.objs.size X.env) fp) [] (wipe σ (own.map (·.2))) H { s with heap := pushCells (s.heap.push { cls := .type "dict", data := .dict #[] }) scope.names } := by
  have hfree : ∀ y ∈ scope.names, y.2 = .free → ∃ c, X.env.cells.lookup y.1 = some c := fun y hy e => by
    rcases ok.free y hy e with k | k
    · exact I.ok.has _ (.inl k)
    · exact I.ok.has _ (.inr k)
  generalize hcenv : compEnvC scope (cellsFrom (s.heap.objs.size + 1) scope.names (cloFrom X.env.cells scope.names [])) s.heap.objs.size X.env = cenv
  have kp : ∀ b o, s.heap.get? b = some o → (pushCells (s.heap.push { cls := .type "dict", data := .dict #[] }) scope.names).get? b = some o := fun b o e => pushCells_keeps _ _ _ _ (Heap.get?_push_of_some _ e)
  have hL : cenv.locals = s.heap.objs.size := by rw [← hcenv]; rfl
  have hcl : cenv.cells = cellsFrom (s.heap.objs.size + 1) scope.names (cloFrom X.env.cells scope.names []) := by rw [← hcenv]; rfl
  have hsc : cenv.scope = relS scope X.env.scope := by rw [← hcenv]; rfl
  rw [← Heap.size_push s.heap { cls := .type "dict", data := .dict #[] }] at hcl
  have cm : ∀ {y c}, (y, c) ∈ cloFrom X.env.cells scope.names [] → X.env.cells.lookup y = some c ∧ c < s.heap.objs.size := fun {y c} hm => by
    rcases cloFrom_mem hm with hm | ⟨h1, rfl⟩
    · cases hm
    · obtain ⟨c, hc⟩ := hfree _ h1 rfl
      rw [hc]
      obtain ⟨w, z⟩ := I.cell _ _ hc
      exact ⟨rfl, z.lt⟩
  have mem : ∀ {y c}, cenv.cells.lookup y = some c → (X.env.cells.lookup y = some c ∧ c < s.heap.objs.size) ∨ (s.heap.objs.size + 1 ≤ c ∧ CellAt (pushCells (s.heap.push { cls := .type "dict", data := .dict #[] }) scope.names) c none) := fun {y c} e => by
    rw [hcl] at e
    rcases cells_mem (PySem.mem_of_lookup e) with hm | ⟨_, h2, h3⟩
    · exact .inl (cm hm)
    · rw [Heap.size_push] at h2; exact .inr ⟨h2, h3⟩
  have look : ∀ {y}, scope.names.lookup y = some .free → ∃ c, cenv.cells.lookup y = some c ∧ X.env.cells.lookup y = some c := fun {y} hl => by
    have hy : (y, NameKind.free) ∈ scope.names := PySem.mem_of_lookup hl
    obtain ⟨c', e'⟩ := mem_lookup (cells_acc (names := scope.names) (n := (s.heap.push { cls := .type "dict", data := .dict #[] }).objs.size) (cloFrom_has (cells := X.env.cells) (acc := []) hy))
    rw [← hcl] at e'
    refine ⟨c', e', ?_⟩
    rw [hcl] at e'
    rcases cells_mem (PySem.mem_of_lookup e') with hm | ⟨h1, _, _⟩
    · exact (cm hm).1
    · have := ok.uniq _ h1
      rw [hl] at this; cases this
  have okB : (X.blk s H scope cenv fp).Ok := by
    refine ⟨I.ok.mod, by show cenv.scope.kind = _; rw [hsc]; exact ok.kind, by show cenv.globals = _; rw [← hcenv]; exact I.ok.glob, by show cenv.builtins = _; rw [← hcenv]; exact I.ok.blt, by show s.heap.objs.size ≤ cenv.locals; rw [hL]; exact Nat.le_refl _,
      fun y z c e1 e2 => ?_, fun y hy => ?_, fun y c z e => ?_, I.ok.hd, I.ok.frames, .inl rfl, fun b hb => ⟨?_, fun y c e z => ?_⟩, I.bs, Nat.le_trans I.ok.bsz I.sz, fun b o e hb => ?_, fun b hb z => ?_, I.stack, I.stkFree⟩
    · have e1 : cenv.cells.lookup y = some c := e1
      have e2 : cenv.cells.lookup z = some c := e2
      rw [hcl] at e1 e2
      refine cells_inj (fun p hp => ?_) (fun y z c a b => I.ok.inj y z c (cm a).1 (cm b).1) (PySem.mem_of_lookup e1) (PySem.mem_of_lookup e2)
      rw [Heap.size_push]
      exact Nat.lt_succ_of_lt (cm (y := p.1) (c := p.2) hp).2
    · show ∃ c, cenv.cells.lookup y = some c
      have key : ∀ k, cenv.kindOf y = some k → (k = .cell ∨ k = .free) → ∃ c, cenv.cells.lookup y = some c := fun k hk hk' => by
        unfold Env.kindOf at hk
        rw [hsc] at hk
        obtain ⟨k', e, r⟩ := lookup_relS hk
        have : k' = .cell ∨ k' = .free := by
          rcases r with rfl | ⟨rfl, _⟩
          · exact hk'
          · exact .inr rfl
        rcases this with rfl | rfl
        · obtain ⟨c, hm⟩ := cells_has (n := (s.heap.push { cls := .type "dict", data := .dict #[] }).objs.size) (acc := cloFrom X.env.cells scope.names []) (PySem.mem_of_lookup e)
          obtain ⟨c', e'⟩ := mem_lookup hm
          exact ⟨c', by rw [hcl]; exact e'⟩
        · obtain ⟨c, h1, _⟩ := look e
          exact ⟨c, h1⟩
      rcases hy with hy | hy
      · exact key _ hy (.inl rfl)
      · exact key _ hy (.inr rfl)
    · have z : (scope.names.lookup y == some NameKind.cell) = true := z
      have z : scope.names.lookup y = some .cell := by simpa using z
      have e : cenv.cells.lookup y = some c := e
      rw [hcl] at e
      rcases cells_mem (PySem.mem_of_lookup e) with hm | ⟨_, h2, _⟩
      · rcases cloFrom_mem hm with hm | ⟨h1, _⟩
        · cases hm
        · have q := ok.uniq _ h1
          rw [z] at q; cases q
      · rw [Heap.size_push] at h2
        exact Nat.le_of_succ_le h2
    · show b ≠ cenv.locals
      rw [hL]; exact Nat.ne_of_lt (hfp b hb).2
    · have e : cenv.cells.lookup y = some c := e
      rcases mem e with ⟨h1, _⟩ | ⟨h1, _⟩
      · exact (hfp b hb).1.2.2.2.2.1 y c h1 z
      · have h2 : s.heap.objs.size + 1 ≤ b := by rw [← z]; exact h1
        exact absurd (Nat.lt_of_lt_of_le (hfp b hb).2 (Nat.le_of_succ_le h2)) (Nat.lt_irrefl _)
    · rcases (hfp b hb).1.2.2.2.1 with z | z
      · exact I.ok.noex b o e z
      · exact absurd (Nat.lt_of_lt_of_le (Heap.lt_size e) (Nat.le_trans I.ok.bsz z)) (Nat.lt_irrefl _)
    · rcases List.mem_cons.mp (I.stkSub b z) with z | z
      · exact (hfp b hb).1.2.1 z
      · exact (hfp b hb).1.2.2.1 z
  refine ⟨okB, rfl, I.bare, Un.kept kp, ⟨fun _ => none, ?_, fun i y av e1 e2 e3 => ?_⟩, fun y c e => ?_, ?_, fun y c e => ?_, fun p hp => ?_, I.hok.kept kp, by rw [wipe_length]; exact I.len⟩
  · show Heap.Ns _ cenv.locals _
    rw [hL]
    exact Heap.Ns.keeps (Heap.Ns.new ..) fun b o e => pushCells_keeps _ _ _ _ e
  · obtain ⟨e2, hne⟩ := wipe_some e2
    have hfr : scope.names.lookup y = some .free ∧ (cenv.kindOf y = some .cell ∨ cenv.kindOf y = some .free) := by
      have key : ∀ k, cenv.scope.names.lookup y = some k → k = .local ∨ k = .cell ∨ k = .free → scope.names.lookup y = some .free ∧ (cenv.kindOf y = some .cell ∨ cenv.kindOf y = some .free) := fun k hk hk' => by
        have hk0 := hk
        rw [hsc] at hk
        obtain ⟨k', e, r⟩ := lookup_relS hk
        have no : ¬ (k' = .local ∨ k' = .cell) := fun hh => by
          rcases ok.own _ (PySem.mem_of_lookup e) hh with e' | e'
          · obtain ⟨p, hp, hpy⟩ := List.mem_map.mp e'
            have e3 := ok.ix p hp
            have : p.1 = y := hpy
            rw [this] at e3
            exact hne (List.mem_map.mpr ⟨p, hp, nodup_ix hN e3 e1⟩)
          · exact e' (List.mem_of_getElem? e1)
        rcases r with rfl | ⟨rfl, rfl⟩
        · rcases hk' with rfl | rfl | rfl
          · exact absurd (.inl rfl) no
          · exact absurd (.inr rfl) no
          · exact ⟨e, .inr hk0⟩
        · exact ⟨e, .inl hk0⟩
      have e3 : Vis cenv.scope y := e3
      rcases e3 with e3 | e3 | e3
      · exact key _ e3 (.inl rfl)
      · exact key _ e3 (.inr (.inl rfl))
      · exact key _ e3 (.inr (.inr rfl))
    obtain ⟨m, hn, hl⟩ := I.loc
    have hvis : Vis X.env.scope y := (ok.free _ (PySem.mem_of_lookup hfr.1) rfl).elim (fun k => .inr (.inl k)) (fun k => .inr (.inr k))
    obtain ⟨w, r, q⟩ := hl i y av e1 e2 hvis
    refine ⟨w, r, .inr ⟨hfr.2, ?_⟩⟩
    obtain ⟨c, h1, h2⟩ := look hfr.1
    rcases q with ⟨k, _⟩ | ⟨_, c', e', z⟩
    · have k : X.env.scope.names.lookup y = some .local := k
      rcases ok.free _ (PySem.mem_of_lookup hfr.1) rfl with k' | k' <;> rw [show X.env.scope.names.lookup y = _ from k'] at k <;> cases k
    · rw [h2] at e'; cases e'
      exact ⟨c, h1, z.keeps kp⟩
  · have e : cenv.cells.lookup y = some c := e
    rcases mem e with ⟨h1, _⟩ | ⟨_, z⟩
    · obtain ⟨w, z⟩ := I.cell y c h1
      exact ⟨w, z.keeps kp⟩
    · exact ⟨_, z⟩
  · show H cenv.locals = none
    rw [hL]; exact I.hok.fresh (Nat.le_refl _)
  · have e : cenv.cells.lookup y = some c := e
    rcases mem e with ⟨h1, _⟩ | ⟨h1, _⟩
    · exact I.freeC y c h1
    · exact I.hok.fresh (Nat.le_of_succ_le h1)
  · exact absurd (show p ∈ ([] : List (Addr × Obj)) ++ [] from hp) (by simp)
theorem app_ok {E : Value → Shared → Prop} {D : Addr} {xs : List V} {y : V} {v : Value} {Q : Value → Shared → Prop} (I : Inv X pins σ H s) (hD : H D = some (.lst xs)) (hz : xs.length < sizeLine) (r : RelV y v)
    (h : ∀ s', Inv X pins σ (upd H D (.lst (xs ++ [y]))) s' → Q .none s') : wpAny (model X.prog X.w) X.A (call (.builtin "list.append") [.ref D, v]) Q E s := by
  obtain ⟨hz', its, n, ri, e⟩ := I.hok D _ hD
  have hl := ri.length
  refine append_at (hsz := by rw [List.size_toArray]; omega) e fun h' sb ho' => ?_
  refine h { s with heap := h' } (I.write (t' := s.toks) (by rw [hD]; trivial) (.inl rfl) (fun b u hb q => (sb.2 b hb).trans q) ⟨_, ho'⟩ ⟨by rw [List.length_append]; exact hz, its ++ [v], n + 1, ri.append (.cons r .nil), ?_⟩)
  rw [ho']
  simp
def PTs (X : Cx) (ifs : List Expr) (t : TT) : Prop :=
  ∀ (pins : List (Addr × Obj)) (s : Shared) (σ : St) (H : Hp) (Q : Bool → Hp → Prop), Inv X pins σ H s → t σ H Q →
    wpAny (model X.prog X.w) X.A (forIn ifs true fun c r => if r = true then do let ok ← isTrue c X.env (eval c X.env); pure (ForInStep.yield ok) else pure (ForInStep.yield r)) (TP X pins σ Q) X.xe s
def tYes : TT := fun _ H Q => Q true H
theorem pts_nil : PTs X [] tYes := fun _ _ _ H _ I h => wpAny_tests_nil ⟨H, I, h⟩
theorem pts_one {c : Expr} {t : TT} (h : PT X c t) : PTs X [c] t := fun pins s σ H Q I hw => wpAny_tests_one (h pins s σ H Q I hw)
end
theorem thnF {α : Type} {t : Sem α} {Q Q' : α → Shared → Prop} {M : Model} {A : Around} {E : Value → Shared → Prop} {s : Shared} (h : wpAny M A t Q (fun _ _ => False) s) (hQ : ∀ a s, Q a s → Q' a s) : wpAny M A t Q' E s := wpAny_mono h hQ fun _ _ z => False.elim z
theorem compLoop_any {prog : Program} {w : World} {A : Around} {R : Result → Shared → Prop} {s : Shared} {elt target iter : Expr} {ifs : List Expr} {scope : Scope} {pos : Pos} {it acc : Value} {env : Env} (I : Nat → Shared → Prop)
    (turn : ∀ n s, I n s → wpAny (model prog w) A (pyNext it) (fun r s₁ => match r with
      | none => R (.ok .next) s₁
      | some v => wpAny (model prog w) A (letOwnedTupleGo target it v) (fun _ s₁' => wpAny (model prog w) A (assign target env v) (fun _ s₂ =>
          wpAny (model prog w) A (forIn ifs true fun c r => if r = true then do let ok ← isTrue c env (eval c env); pure (ForInStep.yield ok) else pure (ForInStep.yield r)) (fun ok s₃ =>
            if ok = true then wpAny (model prog w) A (eval elt env) (fun x s₄ =>
              wpAny (model prog w) A (call (.builtin "list.append") [acc, x]) (fun _ s₅ => ∃ m, m < n ∧ I m s₅) (notedBy (model prog w) A env fun e s' => R (.error e) s') s₄) (notedBy (model prog w) A env fun e s' => R (.error e) s') s₃
            else ∃ m, m < n ∧ I m s₃) (notedBy (model prog w) A env fun e s' => R (.error e) s') s₂) (notedBy (model prog w) A env fun e s' => R (.error e) s') s₁') (notedBy (model prog w) A env fun e s' => R (.error e) s') s₁) (notedBy (model prog w) A env fun e s' => R (.error e) s') s)
    (n : Nat) (h : I n s) :
    codeAny (model prog w) A (.compLoop (.ListComp elt [⟨target, iter, ifs, 0⟩] scope pos) 0 it acc env) R s := by
  refine codeAny_loop rfl I (fun n s hI => ?_) n h
  show wpAny _ A ((compTurn (.ListComp elt [⟨target, iter, ifs, 0⟩] scope pos) 0 it acc env).onRaise (fun x => do noteFrame x env; theTreesLotGoes x)) _ _ s
  refine wpAny_noted ?_
  rw [compTurn_list]
  refine wpAny_bind (wpAny_standAt (wpAny_bind (wpAny_mono (turn n s hI) (fun r s₁ h₁ => ?_) fun _ _ h' => h')))
  cases r with
  | none => exact wpAny_pure h₁
  | some v =>
    refine wpAny_bind (wpAny_mono h₁ (fun _ s₁' h₁' => ?_) fun _ _ h' => h')
    refine wpAny_bind (wpAny_mono h₁' (fun _ s₂ h₂ => wpAny_bind (wpAny_mono h₂ (fun ok s₃ h₃ => ?_) fun _ _ h' => h')) fun _ _ h' => h')
    cases ok with
    | false => exact wpAny_pure ⟨rfl, h₃⟩
    | true =>
      exact wpAny_bind (wpAny_bind (wpAny_mono h₃ (fun x s₄ h₄ => wpAny_bind (wpAny_mono h₄ (fun _ s₅ h₅ => wpAny_pure (wpAny_pure ⟨rfl, h₅⟩)) fun _ _ h' => h')) fun _ _ h' => h'))
section
variable {X : Cx}
def tLc (wi : TI) (g : TG) (tt : TT) (te : TE) (vs : List Nat) : TE := fun σ H Q => wi σ H fun J H1 => ∀ D, H1 D = none → ∃ W : Nat → Nat → Hp → Prop, (∃ m, W 0 m (upd H1 D (.lst []))) ∧ ∀ i m H, W i m H →
  (J.stop i H ∧ Q (.ref D) H) ∨ (J.go i H ∧ ∃ Nx : Hp → Prop, (∀ H', Nx H' → ∃ m', m' < m ∧ W (i + 1) m' H') ∧ ∀ x H', J.yld i H x H' → g x (wipe σ vs) H' fun σ2 H2 => wipe σ2 vs = wipe σ vs ∧ tt σ2 H2 fun b H3 =>
    if b = true then te σ2 H3 fun y H4 => ∃ acc, H4 D = some (.lst acc) ∧ acc.length < sizeLine ∧ Nx (upd H4 D (.lst (acc ++ [y]))) else Nx H3)
theorem lc_core {pins : List (Addr × Obj)} {s : Shared} {σ : St} {H : Hp} {Q : VK} {elt tg iter : Expr} {ifs : List Expr} {scope : Scope} {own : List (Str × Nat)} {pos pos' : Pos} {wi : TI} {g : TG} {tt : TT} {te : TE} {use : Option (Value → Sem Unit)} {Qf : Value → Shared → Prop}
    (hc : X.calm = true) (hN : X.N.Nodup) (I : Inv X pins σ H s) (hi : PI X tg iter wi) (ok : BlkOk X.N X.env.scope scope own)
    (hg : ∀ (s : Shared) (H : Hp) (C : Addr) (cl : List (Str × Addr)) (fp : List Addr), PG (X.blk s H scope (compEnvC scope cl C X.env) fp) tg g) (ht : ∀ (s : Shared) (H : Hp) (C : Addr) (cl : List (Str × Addr)) (fp : List Addr), PTs (X.blk s H scope (compEnvC scope cl C X.env) fp) ifs tt)
    (he : ∀ (s : Shared) (H : Hp) (C : Addr) (cl : List (Str × Addr)) (fp : List Addr), PE (X.blk s H scope (compEnvC scope cl C X.env) fp) elt te) (hs : ∀ x, foldedSetIterable iter X.env x = pure x)
    (h : tLc wi g tt te (own.map (·.2)) σ H Q)
    (hRR : ∀ D C s' m H', Inv X pins σ H' s' → Q (.ref D) H' → s'.heap.Ns C m → FpOk X pins H' C → compPost (model X.prog X.w) X.A X.xe use Qf (.ref D) C (.ok .next) s') :
    wpAny (model X.prog X.w) X.A (comprehension (.ListComp elt [⟨tg, iter, ifs, 0⟩] scope pos) scope X.env pos' (newList []) false (eval iter X.env) use) Qf X.xe s := by
  have hfree : ∀ y ∈ scope.names, y.2 = .free → ∃ c, X.env.cells.lookup y.1 = some c := fun y hy e => by
    rcases ok.free y hy e with k | k
    · exact I.ok.has _ (.inl k)
    · exact I.ok.has _ (.inr k)
  refine wpAny_comprehension_free (use := use) rfl hs (closure_ok hfree) ok.kind (fun y hy e => by rw [ok.uniq y hy, e])
    (thn (hi pins s σ H _ I h) fun xv s1 hx => thn hx fun itv s2 h2 => ?_)
  obtain ⟨it, fp, tn, J, H2, e, I2, T, st2, f2, q⟩ := h2
  subst e
  refine wpAny_newObj_type (newEnv_comp ?_) (by show 0 ≤ sizeLine; decide)
  generalize hD : s2.heap.objs.size = D
  have hDn : H2 D = none := I2.hok.fresh (Nat.le_of_eq hD)
  obtain ⟨W, ⟨m0, w0⟩, turn⟩ := q D hDn
  -- the new list
  generalize hs3 : ({ s2 with heap := s2.heap.push { cls := .type "list", data := .seq ([] : List Value).toArray } } : Shared) = s3
  have I3 : Inv X pins σ (upd H2 D (.lst [])) s3 := by
    rw [← hs3]
    refine I2.laid (t' := s2.toks) (fun b o e => Heap.get?_push_of_some _ e) (Nat.le_of_eq hD) ⟨Nat.zero_le _, [], 0, .nil, ?_⟩
    rw [← hD]
    exact Heap.get?_push_size _ rfl
  have h3 : s3.heap = s2.heap.push { cls := .type "list", data := .seq ([] : List Value).toArray } := by rw [← hs3]
  have sz : ∀ b ∈ fp, b < s2.heap.objs.size := fun b hb => by
    obtain ⟨o, e, _⟩ := T.obj _ _ st2 b hb
    exact Heap.lt_size e
  have f3 : ∀ b ∈ fp, FpOk X pins (upd H2 D (.lst [])) b ∧ b < s3.heap.objs.size := fun b hb => by
    have hlt := sz b hb
    refine ⟨⟨?_, (f2 b hb).2⟩, by rw [h3, Heap.size_push]; exact Nat.lt_succ_of_lt hlt⟩
    rw [upd_ne (by rw [← hD]; exact Nat.ne_of_lt hlt)]
    exact (f2 b hb).1
  have st3 : tn 0 s3.heap := T.keep _ _ _ st2 fun b _ o e => by rw [h3]; exact Heap.get?_push_of_some _ e
  have I4 := block_start I3 ok hN f3
  have pg := hg s3 (upd H2 D (.lst [])) s3.heap.objs.size (cellsFrom (s3.heap.objs.size + 1) scope.names (cloFrom X.env.cells scope.names [])) fp
  have pt := ht s3 (upd H2 D (.lst [])) s3.heap.objs.size (cellsFrom (s3.heap.objs.size + 1) scope.names (cloFrom X.env.cells scope.names [])) fp
  have pe := he s3 (upd H2 D (.lst [])) s3.heap.objs.size (cellsFrom (s3.heap.objs.size + 1) scope.names (cloFrom X.env.cells scope.names [])) fp
  show codeAny _ _ (.compStart (.ListComp elt [⟨tg, iter, ifs, 0⟩] scope pos) 0 (.ref it) (.ref D) (compEnvC scope (cellsFrom (s3.heap.objs.size + 1) scope.names (cloFrom X.env.cells scope.names [])) s3.heap.objs.size X.env)) (compPost (model X.prog X.w) X.A X.xe use Qf (.ref D) s3.heap.objs.size) { s3 with heap := pushCells (s3.heap.push { cls := .type "dict", data := .dict #[] }) scope.names }
  have nfp : ∀ b ∈ fp, (upd H2 D (.lst [])) b = none := fun b hb => (f3 b hb).1.1
  generalize hce : compEnvC scope (cellsFrom (s3.heap.objs.size + 1) scope.names (cloFrom X.env.cells scope.names [])) s3.heap.objs.size X.env = ce at I4 pg pt pe ⊢
  have cL : ce.locals = s3.heap.objs.size := by subst hce; rfl
  generalize hH3 : upd H2 D (.lst []) = H3 at I3 I4 pg pt pe w0 nfp f3
  generalize hs4 : ({ s3 with heap := pushCells (s3.heap.push { cls := .type "dict", data := .dict #[] }) scope.names } : Shared) = s4 at I4 ⊢
  have st4 : tn 0 s4.heap := T.keep _ _ _ st3 fun b _ o e => by rw [← hs4]; exact pushCells_keeps _ _ _ _ (Heap.get?_push_of_some _ e)
  have stat : ∀ {σ' : St} {H' : Hp} {s' : Shared}, Inv (X.blk s3 H3 scope ce fp) [] σ' H' s' → (∀ b ∈ fp, H' b = none) → ∀ b ∈ fp, FpOk (X.blk s3 H3 scope ce fp) [] H' b := fun {σ' H' s'} I' hn b hb =>
    ⟨hn b hb, (I'.ok.exf b hb).1, I'.ok.exfs b hb, .inl hb, fun x c e => (I'.ok.exf b hb).2 x c e, fun p hp => absurd (show p ∈ ([] : List (Addr × Obj)) ++ [] from hp) (by simp)⟩
  have loop : codeAny (model X.prog X.w) X.A (.compLoop (.ListComp elt [⟨tg, iter, ifs, 0⟩] scope pos) 0 (.ref it) (.ref D) ce) (compPost (model X.prog X.w) X.A X.xe use Qf (.ref D) s3.heap.objs.size) s4 := by
    refine compLoop_any (fun n s' => ∃ i H', Inv (X.blk s3 H3 scope ce fp) [] (wipe σ (own.map (·.2))) H' s' ∧ tn i s'.heap ∧ (∀ b ∈ fp, H' b = none) ∧ W i n H') ?_ m0 ⟨0, H3, I4, st4, nfp, w0⟩
    rintro n s5 ⟨i, H5, I5, st5, n5, w5⟩
    rcases turn i n H5 w5 with ⟨stop, qq⟩ | ⟨go, Nx, hNx, step⟩
    · have td := T.done (X.blk s3 H3 scope ce fp) rfl rfl rfl hc i [] s5 _ H5 (fun _ _ => False) I5 (stat I5 n5) st5 stop
      refine thnF td fun r s6 ⟨hr, I6⟩ => ?_
      subst hr
      -- back in the def's context
      have I7 : Inv X pins σ H5 s6 := I3.call' (ch := fp) I6.os I6.base I6.hok I6.bare fun b hb => ⟨(f3 b hb).1.2.2.2.1, (f3 b hb).1.2.1, (f3 b hb).1.2.2.2.2.1, (f3 b hb).1.2.2.2.2.2⟩
      have nC : H5 s3.heap.objs.size = none := by
        have z : H5 ce.locals = none := I6.free
        rw [cL] at z
        exact z
      obtain ⟨m, hn, _⟩ := I6.loc
      have hn : s6.heap.Ns ce.locals m := hn
      rw [cL] at hn
      exact hRR D s3.heap.objs.size s6 m H5 I7 qq hn (I3.fpOk (Nat.le_refl _) nC)
    · have ti := T.item (X.blk s3 H3 scope ce fp) rfl rfl rfl hc i [] s5 _ H5 (fun _ _ => False) I5 (stat I5 n5) st5 go
      refine thnF ti fun r s6 ⟨u, hr, h6⟩ => ?_
      subst hr
      refine thnF h6 fun _ s7 ⟨x, H7, I7, r7, y7, st7, n7⟩ => ?_
      have I7' := I7.pinned (stat I7 n7) (T.obj _ _ st7)
      refine thnF (pg _ s7 _ H7 x u _ I7' r7 (step x H7 y7)) fun _ s8 ⟨σ8, H8, I8, hw8, q8⟩ => ?_
      refine thnF (pt _ s8 σ8 H8 _ I8 q8) fun b s9 ⟨H9, I9, q9⟩ => ?_
      -- the turn's end
      have fin : ∀ {s' : Shared} {H' : Hp}, Inv (X.blk s3 H3 scope ce fp) ([] ++ pinsAt fp s7.heap) σ8 H' s' → Nx H' → ∃ m, m < n ∧ ∃ i H', Inv (X.blk s3 H3 scope ce fp) [] (wipe σ (own.map (·.2))) H' s' ∧ tn i s'.heap ∧ (∀ b ∈ fp, H' b = none) ∧ W i m H' := fun {s' H'} I' nx => by
        obtain ⟨m', hm, w'⟩ := hNx H' nx
        have pin' : ∀ b ∈ fp, ∀ o, s7.heap.get? b = some o → s'.heap.get? b = some o ∧ H' b = none := fun b hb o e =>
          let z := I'.pin (b, o) (List.mem_append_right _ (List.mem_append_right _ (mem_pinsAt hb e)))
          ⟨z.1, z.2.1⟩
        have hl : (wipe σ (own.map (·.2))).length = σ8.length := by rw [← hw8, wipe_length]
        refine ⟨m', hm, i + 1, H', (I'.unpinned (pins := [])).weak hl (fun j v e => ?_), T.keep _ _ _ st7 fun b hb o e => (pin' b hb o e).1, fun b hb => ?_, w'⟩
        · rw [← hw8] at e
          exact (wipe_some e).1
        · obtain ⟨o, e, _⟩ := T.obj _ _ st7 b hb
          exact (pin' b hb o e).2
      cases b with
      | false =>
        simp only [Bool.false_eq_true, if_false] at q9 ⊢
        exact fin I9 q9
      | true =>
        simp only [if_true] at q9 ⊢
        refine thnF (pe _ s9 σ8 H9 _ I9 q9) fun z s10 ⟨yv, H10, I10, r10, acc, hD10, hz10, nx⟩ => ?_
        exact app_ok (X := X.blk s3 H3 scope ce fp) I10 hD10 hz10 r10 fun s11 I11 => fin I11 nx
  exact codeAny_compStart_list loop (T.self X.A 0 _ _ _ st4 loop)
theorem pe_lc {elt tg iter : Expr} {ifs : List Expr} {scope : Scope} {own : List (Str × Nat)} {pos : Pos} {wi : TI} {g : TG} {tt : TT} {te : TE} (hc : X.calm = true) (hN : X.N.Nodup) (hi : PI X tg iter wi) (ok : BlkOk X.N X.env.scope scope own)
    (hg : ∀ (s : Shared) (H : Hp) (C : Addr) (cl : List (Str × Addr)) (fp : List Addr), PG (X.blk s H scope (compEnvC scope cl C X.env) fp) tg g) (ht : ∀ (s : Shared) (H : Hp) (C : Addr) (cl : List (Str × Addr)) (fp : List Addr), PTs (X.blk s H scope (compEnvC scope cl C X.env) fp) ifs tt)
    (he : ∀ (s : Shared) (H : Hp) (C : Addr) (cl : List (Str × Addr)) (fp : List Addr), PE (X.blk s H scope (compEnvC scope cl C X.env) fp) elt te) (hs : ∀ x, foldedSetIterable iter X.env x = pure x := by intro _; rfl) :
    PE X (.ListComp elt [⟨tg, iter, ifs, 0⟩] scope pos) (tLc wi g tt te (own.map (·.2))) := by
  intro pins s σ H Q I h
  rw [eval_ListComp]
  refine lc_core hc hN I hi ok hg ht he hs h fun D C s' m H' I' q hn f => ⟨m, hn, fun h'' sb => ?_⟩
  obtain ⟨f0, f1, f2, f3, f4, f5⟩ := f
  exact ⟨.ref D, H', I'.turned (t' := s'.toks) (fun b o hb e => (sb.2 b hb).trans e) f0 f1 f3 f4 f5, rfl, q⟩
theorem ps_setLc {i : Nat} {y : Str} {py : Pos} {elt tg iter : Expr} {ifs : List Expr} {scope : Scope} {own : List (Str × Nat)} {pos spos : Pos} {wi : TI} {g : TG} {tt : TT} {te : TE} (hc : X.calm = true) (hN : X.N.Nodup) (hy : X.N[i]? = some y) (hyl : X.env.scope.names.lookup y = some .local)
    (hsw : swapsWith (.ListComp elt [⟨tg, iter, ifs, 0⟩] scope pos) (some (.Name y py)) spos.line X.env = pure true) (hi : PI X tg iter wi) (ok : BlkOk X.N X.env.scope scope own)
    (hg : ∀ (s : Shared) (H : Hp) (C : Addr) (cl : List (Str × Addr)) (fp : List Addr), PG (X.blk s H scope (compEnvC scope cl C X.env) fp) tg g) (ht : ∀ (s : Shared) (H : Hp) (C : Addr) (cl : List (Str × Addr)) (fp : List Addr), PTs (X.blk s H scope (compEnvC scope cl C X.env) fp) ifs tt)
    (he : ∀ (s : Shared) (H : Hp) (C : Addr) (cl : List (Str × Addr)) (fp : List Addr), PE (X.blk s H scope (compEnvC scope cl C X.env) fp) elt te) (hs : ∀ x, foldedSetIterable iter X.env x = pure x := by intro _; rfl) :
    PS X (.Assign [.Name y py] (.ListComp elt [⟨tg, iter, ifs, 0⟩] scope pos) spos) (tAsg (tLc wi g tt te (own.map (·.2))) (gName i)) := by
  intro pins s σ H D I h
  rw [exec_Assign_Name_used _ _ _ _ hsw]
  refine wpAny_bind (wpAny_standAt (wpAny_bind ?_))
  show wpAny _ X.A (do let _ ← comprehension (.ListComp elt [⟨tg, iter, ifs, 0⟩] scope pos) scope X.env (firstIterPos [⟨tg, iter, ifs, 0⟩] pos) (newList []) false (eval iter X.env) (some (assign (.Name y py) X.env))) _ _ s
  have h : tLc wi g tt te (own.map (·.2)) σ H (fun x H1 => gName i x σ H1 D.nx) := h
  refine wpAny_bind (thn (lc_core (Qf := fun _ s' => SP X pins D .next s') hc hN I hi ok hg ht he hs h fun L C s' m H' I' q hn f => ?_) fun _ s' hq => wpAny_pure (wpAny_pure hq))
  show wpAny _ _ (assign (.Name y py) X.env (.ref L)) _ _ _
  refine wpAny_assign_Name (store_ok2 (v := V.ref L) I' hN hy (.inl hyl) rfl (fun s2 I2 ⟨a, sb, ha⟩ => ?_) (.inr hyl))
  obtain ⟨f0, f1, f2, f3, f4, f5⟩ := f
  have haC : C ≠ a := by
    rcases ha with z | z
    · rw [z]; exact f1
    · exact fun e => f4 y a z e.symm
  refine ⟨m, hn.sameBut sb haC, fun h3 sb3 => ?_⟩
  exact ⟨_, H', I2.turned (t' := s2.toks) (fun b o hb e => (sb3.2 b hb).trans e) f0 f1 f3 f4 f5, q⟩
theorem sw_true {elt : Expr} {gs : List Comprehension} {scope : Scope} {pos py : Pos} {y : Str} {l : Nat} {env : Env} (hk : env.scope.kind = .function) (hy : env.scope.names.lookup y = some .local) (hl : (py.line == pos.line) = true)
    (ha : (scope.names.any fun (n, k) => n == y && (k == .local || k == .cell)) = false) : swapsWith (.ListComp elt gs scope pos) (some (.Name y py)) l env = pure true := by
  have ky : env.kindOf y = some .local := hy
  have hb : env.blockKind = .function := by unfold Env.blockKind; rw [hk]; rfl
  unfold swapsWith
  simp only [hb, ky, ha, Expr.pos, hl]
  rfl
end
theorem lc_range {lo : Int} {n : Nat} {g : TG} {tt : TT} {te : TE} {vs : List Nat} {σ : St} {H1 : Hp} {D : Addr} {Qd : Hp → Prop} (Pv : Nat → Hp → Prop) (h0 : Pv 0 (upd H1 D (.lst [])))
    (hs : ∀ i H, i < n → Pv i H → g (.int (lo + i)) (wipe σ vs) H fun σ2 H2 => wipe σ2 vs = wipe σ vs ∧ tt σ2 H2 fun b H3 =>
      if b = true then te σ2 H3 fun y H4 => ∃ acc, H4 D = some (.lst acc) ∧ acc.length < sizeLine ∧ Pv (i + 1) (upd H4 D (.lst (acc ++ [y]))) else Pv (i + 1) H3) (hd : ∀ H, Pv n H → Qd H) :
    ∃ W : Nat → Nat → Hp → Prop, (∃ m, W 0 m (upd H1 D (.lst []))) ∧ ∀ i m H, W i m H →
      ((Itr lo n).stop i H ∧ Qd H) ∨ ((Itr lo n).go i H ∧ ∃ Nx : Hp → Prop, (∀ H', Nx H' → ∃ m', m' < m ∧ W (i + 1) m' H') ∧ ∀ x H', (Itr lo n).yld i H x H' → g x (wipe σ vs) H' fun σ2 H2 => wipe σ2 vs = wipe σ vs ∧ tt σ2 H2 fun b H3 =>
        if b = true then te σ2 H3 fun y H4 => ∃ acc, H4 D = some (.lst acc) ∧ acc.length < sizeLine ∧ Nx (upd H4 D (.lst (acc ++ [y]))) else Nx H3) := by
  refine ⟨fun i m H => m = n - i ∧ i ≤ n ∧ Pv i H, ⟨n, by simp, Nat.zero_le _, h0⟩, ?_⟩
  rintro i m H ⟨rfl, hi, p⟩
  by_cases hlt : i < n
  · refine .inr ⟨hlt, Pv (i + 1), fun H' p' => ⟨n - (i + 1), by omega, rfl, hlt, p'⟩, fun x H' y => ?_⟩
    obtain ⟨e, y⟩ := y
    subst e y
    exact hs i _ hlt p
  · have e : i = n := by omega
    subst e
    exact .inl ⟨Nat.le_refl _, hd H p⟩
theorem lc_list {K : PySem.W.Frag} {a : Addr} {xs : List V} {g : TG} {tt : TT} {te : TE} {vs : List Nat} {σ : St} {H1 : Hp} {D : Addr} {Qd : Hp → Prop} (Pv : Nat → Hp → Prop) (h0 : Pv 0 (upd H1 D (.lst []))) (hl : ∀ i H, i ≤ xs.length → Pv i H → SqL K H a xs)
    (hs : ∀ i x H, xs[i]? = some x → Pv i H → g x (wipe σ vs) H fun σ2 H2 => wipe σ2 vs = wipe σ vs ∧ tt σ2 H2 fun b H3 =>
      if b = true then te σ2 H3 fun y H4 => ∃ acc, H4 D = some (.lst acc) ∧ acc.length < sizeLine ∧ Pv (i + 1) (upd H4 D (.lst (acc ++ [y]))) else Pv (i + 1) H3) (hd : ∀ H, Pv xs.length H → Qd H) :
    ∃ W : Nat → Nat → Hp → Prop, (∃ m, W 0 m (upd H1 D (.lst []))) ∧ ∀ i m H, W i m H →
      ((Itl K a).stop i H ∧ Qd H) ∨ ((Itl K a).go i H ∧ ∃ Nx : Hp → Prop, (∀ H', Nx H' → ∃ m', m' < m ∧ W (i + 1) m' H') ∧ ∀ x H', (Itl K a).yld i H x H' → g x (wipe σ vs) H' fun σ2 H2 => wipe σ2 vs = wipe σ vs ∧ tt σ2 H2 fun b H3 =>
        if b = true then te σ2 H3 fun y H4 => ∃ acc, H4 D = some (.lst acc) ∧ acc.length < sizeLine ∧ Nx (upd H4 D (.lst (acc ++ [y]))) else Nx H3) := by
  refine ⟨fun i m H => m = xs.length - i ∧ i ≤ xs.length ∧ Pv i H, ⟨xs.length, by simp, Nat.zero_le _, h0⟩, ?_⟩
  rintro i m H ⟨rfl, hi, p⟩
  have q := hl i H hi p
  by_cases hlt : i < xs.length
  · refine .inr ⟨⟨xs, xs[i], q, by simp [hlt]⟩, Pv (i + 1), fun H' p' => ⟨xs.length - (i + 1), by omega, rfl, hlt, p'⟩, fun x H' y => ?_⟩
    obtain ⟨e, y⟩ := y
    subst e
    exact hs i x _ (y xs q) p
  · have e : i = xs.length := by omega
    subst e
    exact .inl ⟨⟨xs, q, Nat.le_refl _⟩, hd H p⟩
def blkC (N : List Str) (sc scope : Scope) (own : List (Str × Nat)) : Bool :=
  (match scope.kind with | .function => true | _ => false) && (scope.names.all fun y => decide (scope.names.lookup y.1 = some y.2)) && (own.all fun p => decide (N[p.2]? = some p.1)) &&
    (scope.names.all fun y => match y.2 with
      | .free => (match sc.names.lookup y.1 with | some .cell => true | some .free => true | _ => false)
      | .local => decide (y.1 ∈ own.map (·.1)) || decide (y.1 ∉ N)
      | .cell => decide (y.1 ∈ own.map (·.1)) || decide (y.1 ∉ N)
      | _ => true)
theorem blkOk_by {N : List Str} {sc scope : Scope} {own : List (Str × Nat)} (h : blkC N sc scope own = true) : BlkOk N sc scope own := by
  unfold blkC at h
  simp only [Bool.and_eq_true, List.all_eq_true, decide_eq_true_eq] at h
  obtain ⟨⟨⟨h1, h2⟩, h3⟩, h4⟩ := h
  refine ⟨?_, h2, h3, fun y hy e => ?_, fun y hy e => ?_⟩
  · split at h1
    · assumption
    · cases h1
  · have q := h4 y hy
    simp only [e] at q
    split at q <;> first | exact .inl (by assumption) | exact .inr (by assumption) | cases q
  · have q := h4 y hy
    rcases e with e | e <;> (simp only [e, Bool.or_eq_true, decide_eq_true_eq] at q; exact q)
end L2
namespace L2
open PySem PySem.Spec PyProof.Rows
section
variable {prog : Program} {w : World} {A : Around} {R : Result → Shared → Prop} {s : Shared} {elt t0 i0 t1 i1 : Expr} {ifs0 ifs1 : List Expr} {scope : Scope} {pos : Pos} {it acc : Value} {env : Env}
end
section
variable {X : Cx}
end
end L2
namespace L2
open PySem PySem.Spec PyProof.Rows
section
variable {κ : Type} [DecidableEq κ]
def valV (kvs : List (κ × V)) (k : κ) : Option V := (kvs.find? fun kv => decide (kv.1 = k)).map (·.2)
def putK (kvs : List (κ × V)) (k : κ) (v : V) : List (κ × V) :=
  if (kvs.any fun kv => decide (kv.1 = k)) = true then kvs.map (fun kv => if kv.1 = k then (kv.1, v) else kv) else kvs ++ [(k, v)]
def dropK (kvs : List (κ × V)) (k : κ) : List (κ × V) := kvs.filter fun kv => decide (kv.1 ≠ k)
theorem valV_pos {p : κ × V} {r : List (κ × V)} {k : κ} (e : p.1 = k) : valV (p :: r) k = some p.2 := by simp [valV, List.find?_cons, e]
theorem valV_neg {p : κ × V} {r : List (κ × V)} {k : κ} (e : ¬ p.1 = k) : valV (p :: r) k = valV r k := by simp [valV, List.find?_cons, e]
theorem valV_any (k : κ) : ∀ kvs : List (κ × V), (kvs.any fun kv => decide (kv.1 = k)) = (valV kvs k).isSome
  | [] => rfl
  | p :: r => by
    rw [List.any_cons]
    by_cases e : p.1 = k
    · simp only [valV_pos e, decide_eq_true e, Bool.true_or, Option.isSome_some]
    · rw [valV_neg e, decide_eq_false e, Bool.false_or]; exact valV_any k r
theorem RelO.isSome_eq {o : Option V} {u : Option Value} (r : RelO o u) : o.isSome = u.isSome := by
  cases o with
  | none => cases u with
    | none => rfl
    | some _ => exact (show False from r).elim
  | some _ => cases u with
    | none => exact (show False from r).elim
    | some _ => rfl
theorem RelO.getD {o : Option V} {u : Option Value} {d : V} {d' : Value} (r : RelO o u) (rd : RelV d d') : RelV (o.getD d) (u.getD d') := by
  cases o with
  | none => cases u with
    | none => exact rd
    | some _ => exact (show False from r).elim
  | some _ => cases u with
    | none => exact (show False from r).elim
    | some _ => exact r
theorem KV.val {kvs : List (κ × V)} {vs : List (κ × Value)} (r : KV kvs vs) (k : κ) : RelO (valV kvs k) (valueAt vs k) := by
  unfold KV at r
  induction r with
  | nil => exact True.intro
  | @cons p q ps qs h t ih =>
    obtain ⟨h1, h2⟩ := h
    by_cases e : p.1 = k
    · have e' : q.1 = k := h1.symm.trans e
      have b : valueAt (q :: qs) k = some q.2 := by simp [valueAt, List.find?_cons, e']
      rw [valV_pos e, b]; exact h2
    · have e' : ¬ q.1 = k := fun z => e (h1.trans z)
      have b : valueAt (q :: qs) k = valueAt qs k := by simp [valueAt, List.find?_cons, e']
      rw [valV_neg e, b]; exact ih
theorem KV.any {kvs : List (κ × V)} {vs : List (κ × Value)} (r : KV kvs vs) (k : κ) : (kvs.any fun kv => decide (kv.1 = k)) = vs.any fun kv => decide (kv.1 = k) := by
  unfold KV at r
  induction r with
  | nil => rfl
  | cons h t ih => rw [List.any_cons, List.any_cons, ih, h.1]
theorem KV.repl {kvs : List (κ × V)} {vs : List (κ × Value)} (r : KV kvs vs) (k : κ) {y : V} {u : Value} (ry : RelV y u) :
    KV (kvs.map fun kv => if kv.1 = k then (kv.1, y) else kv) (vs.map fun kv => if kv.1 = k then (kv.1, u) else kv) := by
  unfold KV at r ⊢
  induction r with
  | nil => exact .nil
  | @cons p q ps qs h t ih =>
    rw [List.map_cons, List.map_cons]
    refine .cons ?_ ih
    obtain ⟨h1, h2⟩ := h
    by_cases e : p.1 = k
    · rw [if_pos e, if_pos (h1.symm.trans e)]; exact ⟨h1, ry⟩
    · rw [if_neg e, if_neg (fun z => e (h1.trans z))]; exact ⟨h1, h2⟩
theorem KV.put {kvs : List (κ × V)} {vs : List (κ × Value)} (r : KV kvs vs) (k : κ) {y : V} {u : Value} (ry : RelV y u) : KV (putK kvs k y) (stored vs k u) := by
  unfold putK stored
  rw [r.any k]
  by_cases e : (vs.any fun kv => decide (kv.1 = k)) = true
  · rw [if_pos e, if_pos e]; exact r.repl k ry
  · rw [if_neg e, if_neg e]; exact Paired.snoc r ⟨rfl, ry⟩
theorem KV.drop {kvs : List (κ × V)} {vs : List (κ × Value)} (r : KV kvs vs) (k : κ) : KV (dropK kvs k) (without vs k) := by
  unfold KV at r ⊢
  unfold dropK without
  induction r with
  | nil => exact .nil
  | @cons p q ps qs h t ih =>
    obtain ⟨h1, h2⟩ := h
    rw [List.filter_cons, List.filter_cons]
    by_cases e : p.1 = k
    · have a : ¬ decide (p.1 ≠ k) = true := by simp [e]
      have b : ¬ decide (q.1 ≠ k) = true := by simp [h1.symm.trans e]
      rw [if_neg a, if_neg b]; exact ih
    · have e' : ¬ q.1 = k := fun z => e (h1.trans z)
      have a : decide (p.1 ≠ k) = true := by simp [e]
      have b : decide (q.1 ≠ k) = true := by simp [e']
      rw [if_pos a, if_pos b]; exact .cons ⟨h1, h2⟩ ih
theorem KV.keys {kvs : List (κ × V)} {vs : List (κ × Value)} (r : KV kvs vs) : kvs.map (·.1) = vs.map (·.1) := by
  unfold KV at r
  induction r with
  | nil => rfl
  | cons h t ih => rw [List.map_cons, List.map_cons, ih, h.1]
theorem KV.length {kvs : List (κ × V)} {vs : List (κ × Value)} (r : KV kvs vs) : kvs.length = vs.length := Paired.length r
end
abbrev KT (H : Hp) : List (List Key × V) → List (List Key × Addr × Value) → Prop := Paired fun p q => p.1 = q.1 ∧ H q.2.1 = some (.tup (p.1.map kV)) ∧ RelV p.2 q.2.2
theorem KT.val {H : Hp} {kvs : List (List Key × V)} {xs : List (List Key × Addr × Value)} (r : KT H kvs xs) (k : List Key) : RelO (valV kvs k) ((atKey xs k).map (·.2)) := by
  induction r with
  | nil => exact True.intro
  | @cons p q ps qs h t ih =>
    obtain ⟨h1, _, h2⟩ := h
    by_cases e : p.1 = k
    · have e' : q.1 = k := h1.symm.trans e
      have b : atKey (q :: qs) k = some q.2 := by simp [atKey, List.find?_cons, e']
      rw [valV_pos e, b]; exact h2
    · have e' : ¬ q.1 = k := fun z => e (h1.trans z)
      have b : atKey (q :: qs) k = atKey qs k := by simp [atKey, List.find?_cons, e']
      rw [valV_neg e, b]; exact ih
theorem KT.repl {H : Hp} {kvs : List (List Key × V)} {xs : List (List Key × Addr × Value)} (r : KT H kvs xs) (k : List Key) {y : V} {u : Value} (ry : RelV y u) :
    KT H (kvs.map fun kv => if kv.1 = k then (kv.1, y) else kv) (xs.map (putAt k u)) := by
  induction r with
  | nil => exact .nil
  | @cons p q ps qs h t ih =>
    rw [List.map_cons, List.map_cons]
    refine .cons ?_ ih
    obtain ⟨h1, h2, h3⟩ := h
    unfold putAt
    by_cases e : p.1 = k
    · rw [if_pos e, if_pos (h1.symm.trans e)]; exact ⟨h1, h2, ry⟩
    · rw [if_neg e, if_neg (fun z => e (h1.trans z))]; exact ⟨h1, h2, h3⟩
theorem KT.put {H : Hp} {kvs : List (List Key × V)} {xs : List (List Key × Addr × Value)} (r : KT H kvs xs) (k : List Key) {b : Addr} {y : V} {u : Value} (hb : H b = some (.tup (k.map kV))) (ry : RelV y u) :
    KT H (putK kvs k y) (storedH xs k b u) := by
  have e : (kvs.any fun kv => decide (kv.1 = k)) = (atKey xs k).isSome := by
    rw [valV_any, (r.val k).isSome_eq, Option.isSome_map]
  unfold putK storedH
  rw [e]
  by_cases q : (atKey xs k).isSome = true
  · rw [if_pos q, if_pos q]; exact r.repl k ry
  · rw [if_neg q, if_neg q]; exact Paired.snoc r ⟨rfl, hb, ry⟩
theorem KT.keeps {H H' : Hp} {kvs : List (List Key × V)} {xs : List (List Key × Addr × Value)} (r : KT H kvs xs) (ht : ∀ b ys, H b = some (.tup ys) → H' b = some (.tup ys)) : KT H' kvs xs :=
  Paired.mapP r fun _ _ z => ⟨z.1, ht _ _ z.2.1, z.2.2⟩
section
variable {P : Program} {w : World} {H : Hp} {h : Heap} {a : Addr}
end
def DGet (H : Hp) (a : Addr) (y : V) (r : Option V) : Prop :=
  (∃ kvs k, Rd H a (.dK kvs) ∧ y = kV k ∧ r = valV kvs k) ∨ ∃ kvs k b, Rd H a (.dT kvs) ∧ y = .ref b ∧ H b = some (.tup (k.map kV)) ∧ r = valV kvs k
def DPut (H : Hp) (a : Addr) (y v : V) (H' : Hp) : Prop :=
  (∃ kvs k, H a = some (.dK kvs) ∧ y = kV k ∧ kvs.length < sizeLine ∧ H' = upd H a (.dK (putK kvs k v))) ∨
  ∃ kvs k b, H a = some (.dT kvs) ∧ y = .ref b ∧ H b = some (.tup (k.map kV)) ∧ kvs.length < sizeLine ∧ H' = upd H a (.dT (putK kvs k v))
theorem DGet.k {H : Hp} {a : Addr} {kvs : List (Key × V)} {k : Key} (e : H a = some (.dK kvs)) : DGet H a (kV k) (valV kvs k) := .inl ⟨kvs, k, .inl e, rfl, rfl⟩
theorem DGet.t {H : Hp} {a b : Addr} {kvs : List (List Key × V)} {k : List Key} (e : H a = some (.dT kvs)) (eb : H b = some (.tup (k.map kV))) : DGet H a (.ref b) (valV kvs k) := .inr ⟨kvs, k, b, .inl e, rfl, eb, rfl⟩
theorem DPut.k {H : Hp} {a : Addr} {kvs : List (Key × V)} {k : Key} {v : V} (e : H a = some (.dK kvs)) (hl : kvs.length < sizeLine) : DPut H a (kV k) v (upd H a (.dK (putK kvs k v))) := .inl ⟨kvs, k, e, rfl, hl, rfl⟩
theorem DPut.t {H : Hp} {a b : Addr} {kvs : List (List Key × V)} {k : List Key} {v : V} (e : H a = some (.dT kvs)) (eb : H b = some (.tup (k.map kV))) (hl : kvs.length < sizeLine) :
    DPut H a (.ref b) v (upd H a (.dT (putK kvs k v))) := .inr ⟨kvs, k, b, e, rfl, eb, hl, rfl⟩
section
variable {X : Cx} {pins : List (Addr × Obj)} {σ : St} {H : Hp} {s : Shared} {a : Addr} {y v : V} {u r : Value} {o : Option V} {A : Around} {E : Value → Shared → Prop}
theorem Inv.big (I : Inv X pins σ H s) : sysModules < s.heap.objs.size := by
  have h : mainGlobals < s.heap.objs.size := (I.mod.glob.keeps I.bk).lt
  exact Nat.lt_trans (by decide) h
end
section
variable {X : Cx} {pins : List (Addr × Obj)} {σ : St} {H : Hp} {s : Shared} {a : Addr} {kvs : List (Key × V)} {k : Key} {u : Value} {A : Around} {E : Value → Shared → Prop}
end
section
variable {X : Cx} {o i e value : Expr} {pos pos' tpos : Pos} {td ty tv : TE}
end
section
variable {X : Cx} {pos : Pos}
end
section
variable {X : Cx} {pins : List (Addr × Obj)} {σ : St} {H : Hp} {s : Shared} {a : Addr} {y d : V} {u r : Value} {o : Option V} {A : Around} {E : Value → Shared → Prop}
end
section
variable {X : Cx} {o e f : Expr} {apos cpos : Pos} {td ty tx : TE}
end
section
variable {X : Cx} {pins : List (Addr × Obj)} {σ : St} {H : Hp} {s : Shared} {a : Addr} {kvs : List (Key × V)} {A : Around} {E : Value → Shared → Prop}
end
section
variable {X : Cx} {pins : List (Addr × Obj)} {σ : St} {H : Hp} {s : Shared} {a : Addr} {y : V} {u : Value} {A : Around} {E : Value → Shared → Prop}
end
end L2
namespace L2
open PySem PySem.Spec PyProof.Rows
section
variable {prog : Program} {w : World} {A : Around} {E : Value → Shared → Prop}
end
section
variable {X : Cx}
end
end L2
namespace L2
open PySem PySem.Spec PyProof.Rows
section
variable {X : Cx} {pins : List (Addr × Obj)} {σ : St} {H : Hp} {s : Shared} {h' : Heap}
end
section
variable {X : Cx}
end
def RgC (i j c : Int) (n : Nat) : Prop := c ≠ 0 ∧ c.natAbs < 1073741824 ∧ Builtin.Range.small i j c = true ∧ Builtin.Range.rangeSize i j c = n
theorem RgC.neg {i j : Int} (ha : -(2 ^ 62) ≤ i) (ha' : i < 2 ^ 62) (hb : -(2 ^ 62) ≤ j) (hb' : j < 2 ^ 62) : RgC i j (-1) (i - j).toNat :=
  ⟨by decide, by decide, PySem.W.small_down ha ha' hb hb', PySem.W.rangeSize_downNat i j⟩
section
variable {X : Cx} {tg : Expr}
end
section
variable {X : Cx} {tg : Expr}
end
section
variable {prog : Program} {w : World} {A : Around} {E : Value → Shared → Prop} {s : Shared}
end
section
variable {X : Cx} {pins : List (Addr × Obj)} {σ : St} {H : Hp} {s : Shared} {d : Addr} {o : Obj}
end
section
variable {P : Program} {w : World} {K : PySem.W.Frag} {tg : Expr} {d : Addr} {o : Obj} {es : Array DictEntry} {ep : Nat}
end
section
variable {X : Cx} {tg e : Expr} {td : TE} {apos cpos : Pos}
end
end L2
section 
namespace Bits
open PySem PyProof.Rows
end Bits
end 
section 
namespace TL
open PySem PySem.Builtin PySem.Builtin.Str PySem.StrLaws
abbrev tl (x : Str) : List Nat := x.cps.toList
theorem len_tl (x : Str) : x.length = (tl x).length := by simp [tl, Str.length]
def pre (S l : List Nat) : Bool := l.take S.length == S
def par (S : List Nat) : List Nat → List Nat → Option (List Nat × List Nat)
  | _, [] => none
  | acc, c :: r => if pre S (c :: r) = true then some (acc, (c :: r).drop S.length) else par S (acc ++ [c]) r
theorem len1 {y : Str} (hy : tl y ≠ []) : 1 ≤ y.length := by
  have e2 : 0 < (tl y).length := List.length_pos_iff.mpr hy
  rw [len_tl y]
  exact e2
end TL
end 
namespace L2
open PySem PySem.Spec PyProof.Rows
section
variable {X : Cx} {pins : List (Addr × Obj)} {σ : St} {H : Hp} {s : Shared} {Q : VK}
end
section
variable {X : Cx}
end
section
variable {X : Cx} {o e : Expr} {to te : TE}
end
end L2
namespace L2
open PySem PySem.Spec PyProof.Rows
section
variable {X : Cx}
end
theorem IsPart.raw {v : Value} {o : Option Int} (p : IsPart v o) : ∃ l : Option (Int × Tok), v = partValue l ∧ l.map (·.1) = o := by
  cases p with
  | none => exact ⟨none, rfl, rfl⟩
  | int i t => exact ⟨some (i, t), rfl, rfl⟩
end L2
namespace Att
open PySem PySem.W PySem.Calls PyProof.Rows
section
variable {prog : Program} {w : World} {A : Around} {E : Value → Shared → Prop} {s : Shared} {K : Frag}
end
end Att
namespace L2
open PySem PySem.Spec PyProof.Rows
end L2
namespace L2
open PySem PySem.Spec PyProof.Rows
abbrev KOf {K : PySem.W.Frag} {h : Heap} (_ : K.In h) : PySem.W.Frag := K
end L2
namespace L2
open PySem PySem.Spec PyProof.Rows
def inClass (s : Stmt) (j : Nat) : Stmt := match s with
  | .ClassDef _ _ _ body _ _ _ _ _ _ _ => body.getD j (.Pass ⟨0, 0, 0, 0⟩)
  | _ => .Pass ⟨0, 0, 0, 0⟩
def defArgs (s : Stmt) : Arguments := match s with
  | .FunctionDef _ a _ _ _ _ _ _ _ _ => a
  | _ => { posonlyargs := [], args := [], vararg := none, kwonlyargs := [], kw_defaults := [], kwarg := none, defaults := [] }
def defBody (s : Stmt) : List Stmt := match s with
  | .FunctionDef _ _ b _ _ _ _ _ _ _ => b
  | _ => []
def defScope (s : Stmt) : Scope := match s with
  | .FunctionDef _ _ _ _ _ _ sc _ _ _ => sc
  | _ => { kind := .function, names := [], isGenerator := false, isCoroutine := false }
abbrev CX0 : CXT := fun _ _ _ _ _ _ => False
abbrev E0 : XK := fun _ _ _ => False
theorem pass0 {X : Cx} : Passes CX0 X E0 := fun _ _ _ _ _ _ _ h => h.elim
structure Fun (K : PySem.W.Frag) (x qual : Str) (st : Stmt) (f : Addr) (fd : FuncData) : Prop where
  ex : ∃ (oc : Value) (od : Option Addr) (kV doc pm : Value) (an : Option Addr) (cdv ct : Value) (osl : Array (Option Value)),
    fd = PySem.W.fnOf x qual (defArgs st) (defBody st) (defScope st) .none kV doc pm an cdv ct ∧ K.lookup f = some ⟨oc, od, .func fd, osl⟩ ∧ PySem.W.codeIn K cdv qual = true
  kp : PySem.W.keepIn K (.ref f) = true
section
variable {P : Program} {w : World} {K : PySem.W.Frag} {mg : Str → Option Value} {base : Heap}
theorem Fun.ok {x qual : Str} {st : Stmt} {f : Addr} {fd : FuncData} {N ps : List Str} {k : Nat} {sp : Sp} (F : Fun K x qual st f fd) (S : FnScope N ps (defScope st)) (len : ∀ vs H Q E, sp vs H Q E → vs.length = ps.length)
    (hbody : ∀ (cdv : Value) (A : Around) (outer : List Env) (s : Shared) (H : Hp) (vs : List V) (Q : VK) (E : XK), Room k (A.deeper (envOfC qual (defScope st) s.heap.objs.size f cdv)) → sp vs H Q E →
      ∃ t, PSs (cxOf CX0 P w K mg base N qual (defScope st) f cdv A outer s H E).nox (defBody st) t ∧ t { nx := fun _ H' => Q .non H', rt := Q } (start N vs) H) : FnOk P w K mg base CX0 (k + 1) f fd ps sp := by
  obtain ⟨oc, od, kV, doc, pm, an, cdv, ct, osl, rfl, lk, hcd⟩ := F.ex
  refine fn_of lk hcd S len fun A outer s H vs Q E hr hsp => ?_
  obtain ⟨t, h, q⟩ := hbody cdv A outer s H vs Q E hr hsp
  exact ⟨t, h.nox, q⟩
theorem Fun.binds {x qual : Str} {st : Stmt} {f : Addr} {fd : FuncData} {ps : List Str} (F : Fun K x qual st f fd)
    (h : ∀ (kV doc pm : Value) (an : Option Addr) (cdv ct : Value) (us : List Value), us.length = ps.length → bindArgs (PySem.W.fnOf x qual (defArgs st) (defBody st) (defScope st) .none kV doc pm an cdv ct) ⟨us, []⟩ = pure (ps.zip us)) : Binds K fd ps [] := by
  obtain ⟨oc, od, kV, doc, pm, an, cdv, ct, osl, rfl, lk, hcd⟩ := F.ex
  exact .all (h kV doc pm an cdv ct)
theorem fun_mk {x qual : Str} {st : Stmt} {f : Addr} {oc : Value} {od an : Option Addr} {osl : Array (Option Value)} {kV doc pm cdv ct : Value} (l : K.lookup f = some ⟨oc, od, .func (PySem.W.fnOf x qual (defArgs st) (defBody st) (defScope st) .none kV doc pm an cdv ct), osl⟩)
    (c : PySem.W.codeIn K cdv qual = true) (k : PySem.W.keepIn K (.ref f) = true) : Fun K x qual st f (PySem.W.fnOf x qual (defArgs st) (defBody st) (defScope st) .none kV doc pm an cdv ct) := ⟨⟨oc, od, kV, doc, pm, an, cdv, ct, osl, rfl, l, c⟩, k⟩
end
section
variable {X : Cx}
theorem pv (i : Nat) {x : Str} {pos : Pos} (hN : X.N[i]? = some x := by rfl) (hv : Vis X.env.scope x := by first | exact Or.inl rfl | exact Or.inr (Or.inl rfl) | exact Or.inr (Or.inr rfl)) (hd : (x == ("__debug__" : Str)) = false := by decide)
    (hcd : (x == ("__classdict__" : Str)) = false := by decide) : PE X (.Name x pos) (tVar i) := pe_var hN hv hd hcd
end
theorem ite2 {c A B : Prop} [Decidable c] (h1 : c → A) (h2 : ¬ c → B) : if c then A else B := by
  by_cases h : c
  · rw [if_pos h]
    exact h1 h
  · rw [if_neg h]
    exact h2 h
def Same (H H' : Hp) : Prop := ∀ b o, H b = some o → H' b = some o
theorem Same.refl (H : Hp) : Same H H := fun _ _ h => h
theorem Same.trans {H H1 H2 : Hp} (a : Same H H1) (b : Same H1 H2) : Same H H2 := fun c o h => b c o (a c o h)
theorem Same.free {H H' : Hp} (e : Same H H') {l : Addr} (h : H' l = Option.none) : H l = Option.none := by
  cases q : H l with
  | none => rfl
  | some o =>
    rw [e l o q] at h
    cases h
theorem Same.seq {K : PySem.W.Frag} {H H' : Hp} {a : Addr} {xs : List V} (e : Same H H') (h : SqL K H a xs) : SqL K H' a xs := by
  rcases h with (h | ⟨o, h⟩) | h
  · exact .inl (.inl (e _ _ h))
  · exact .inl (.inr ⟨o, e _ _ h⟩)
  · exact .inr h
section
variable {κ : Type} [DecidableEq κ]
end
theorem at_of {xs : List V} {z : Int} {j : Nat} {v : V} (e : z = (j : Int)) (h : xs[j]? = some v) : atI xs z = some v := by
  rw [e]
  exact atI_nat h
theorem Same.made {H H1 : Hp} {x dx C : Addr} (nx : H x = Option.none) (nd : H dx = Option.none) (k : ∀ b o, (upd (upd H dx (.own x)) x (.ins C dx [])) b = some o → b ≠ x → H1 b = some o) : Same H H1 := fun b o e =>
  k b o (by rw [upd_ne (ne_of_none e nx), upd_ne (ne_of_none e nd)]; exact e) (ne_of_none e nx)
end L2
section
set_option Elab.async false
set_option linter.all false
set_option maxRecDepth 100000
set_option maxHeartbeats 2000000
namespace L2
open PySem PySem.Spec PyProof.Rows
open PySem.W (WData Codec OpenSpec Well WellAll ReadsW ReadsAllW)
mutual
/-- x stands for the datum d, lists and tuples all the way -/
inductive Dw (K : PySem.W.Frag) (H : Hp) : V → WData → Prop
  | non : Dw K H .non .none
  | bl (b : Bool) : Dw K H (.bl b) (.bool b)
  | int (i : Int) : Dw K H (.int i) (.int i)
  | str (x : Str) : Dw K H (.str x) (.str x)
  | byt (b : Array UInt8) : Dw K H (.byt b) (.bytes b.toList)
  | lst {a : Addr} {xs : List V} {ds : List WData} : SqL K H a xs → DwAll K H xs ds → Dw K H (.ref a) (.list ds)
  | tup {a : Addr} {xs : List V} {ds : List WData} : SqT K H a xs → DwAll K H xs ds → Dw K H (.ref a) (.tuple ds)
inductive DwAll (K : PySem.W.Frag) (H : Hp) : List V → List WData → Prop
  | nil : DwAll K H [] []
  | cons {v : V} {vs : List V} {d : WData} {ds : List WData} : Dw K H v d → DwAll K H vs ds → DwAll K H (v :: vs) (d :: ds)
end
theorem dw_ints {K : PySem.W.Frag} {H : Hp} : ∀ ns : List Int, DwAll K H (ns.map V.int) (ns.map WData.int)
  | [] => .nil
  | n :: r => .cons (.int n) (dw_ints r)
theorem ints_dw {K : PySem.W.Frag} {H : Hp} : ∀ (ns : List Int) (xs : List V), DwAll K H xs (ns.map WData.int) → xs = ns.map V.int
  | [], xs, h => by
    cases h
    rfl
  | n :: r, xs, h => by
    cases h with
    | cons h1 h2 =>
      cases h1
      rw [ints_dw r _ h2] <;> rfl
section
variable {P : Program} {w : World} {K : PySem.W.Frag} {H : Hp} {h : Heap} {R : PySem.W.WRecords} {cl : Str → Option Addr}
theorem sqL_at {a : Addr} {xs : List V} (hok : HOk P w H h) (KX : K.In h) (q : SqL K H a xs) : ∃ (its : List Value) (o : Obj) (n : Nat), Vals xs its ∧ h.get? a = some o ∧ o.cls = .type "list" ∧ o.data = .seq its.toArray n := by
  rcases q with q | ⟨o, its, n, e, hc, _, hd, _, hv⟩
  · obtain ⟨_, its, n, hv, e⟩ := (show ObjOk P w H h a (.lst xs) from q.ok hok)
    exact ⟨its, _, n, hv, e, rfl, rfl⟩
  · exact ⟨its.toList, o, n, hv, KX _ _ e, hc, by simp [hd]⟩
theorem sqT_at {a : Addr} {xs : List V} (hok : HOk P w H h) (KX : K.In h) (q : SqT K H a xs) : ∃ (its : List Value) (o : Obj) (n : Nat), Vals xs its ∧ h.get? a = some o ∧ o.cls = .type "tuple" ∧ o.data = .seq its.toArray n := by
  rcases q with q | ⟨o, its, n, e, hc, hd, _, hv⟩
  · obtain ⟨_, its, hv, o, e, hc, n, hd⟩ := (show ObjOk P w H h a (.tup xs) from q.ok hok)
    exact ⟨its, o, n, hv, e, hc, hd⟩
  · exact ⟨its.toList, o, n, hv, KX _ _ e, hc, by simp [hd]⟩
mutual
theorem Dw.reads (hok : HOk P w H h) (KX : K.In h) : ∀ (d : WData) (v : V) (u : Value), Dw K H v d → RelV v u → ∃ as, ReadsW R cl h u d as
  | .none, _, _, x, r => by
    cases x
    cases r
    exact ⟨_, ReadsW.none⟩
  | .bool b, _, _, x, r => by
    cases x
    cases r
    exact ⟨_, ReadsW.bool b⟩
  | .int i, _, _, x, r => by
    cases x
    obtain ⟨t, rfl⟩ := r
    exact ⟨_, ReadsW.int i t⟩
  | .str s, _, _, x, r => by
    cases x
    obtain ⟨t, rfl⟩ := r
    exact ⟨_, ReadsW.str s t⟩
  | .bytes b, _, _, x, r => by
    cases x
    obtain ⟨t, rfl⟩ := r
    exact ⟨_, ReadsW.bytes _ t⟩
  | .list ds, _, _, x, r => by
    cases x with
    | lst hs ha =>
      cases r
      obtain ⟨its, o, n, rv, ho, hc, hd⟩ := sqL_at hok KX hs
      obtain ⟨as, hr⟩ := Dw.readsAll hok KX ds _ its ha rv
      exact ⟨_, ReadsW.list ho hc hd hr⟩
  | .tuple ds, _, _, x, r => by
    cases x with
    | tup hs ha =>
      cases r
      obtain ⟨its, o, n, rv, ho, hc, hd⟩ := sqT_at hok KX hs
      obtain ⟨as, hr⟩ := Dw.readsAll hok KX ds _ its ha rv
      exact ⟨_, ReadsW.tuple ho hc hd hr⟩
  | .float _, _, _, x, _ => by cases x
  | .dict _, _, _, x, _ => by cases x
  | .bytearray _, _, _, x, _ => by cases x
  | .set _, _, _, x, _ => by cases x
  | .frozenset _, _, _, x, _ => by cases x
  | .obj _ _, _, _, x, _ => by cases x
theorem Dw.readsAll (hok : HOk P w H h) (KX : K.In h) : ∀ (ds : List WData) (vs : List V) (us : List Value), DwAll K H vs ds → Vals vs us → ∃ as, ReadsAllW R cl h us ds as
  | [], _, _, x, r => by
    cases x
    cases r
    exact ⟨_, ReadsAllW.nil⟩
  | d :: ds, _, _, x, r => by
    cases x with
    | cons h1 h2 =>
      cases r with
      | cons r1 r2 =>
        obtain ⟨as, q1⟩ := Dw.reads hok KX d _ _ h1 r1
        obtain ⟨bs, q2⟩ := Dw.readsAll hok KX ds _ _ h2 r2
        exact ⟨_, ReadsAllW.cons q1 q2⟩
end
end
mutual
/-- data that a codec tells -/
def plW : WData → Bool
  | .none => true
  | .bool _ => true
  | .int _ => true
  | .str _ => true
  | .bytes _ => true
  | .list xs => plWs xs
  | .tuple xs => plWs xs
  | _ => false
def plWs : List WData → Bool
  | [] => true
  | x :: r => plW x && plWs r
end
theorem plWs_map {α : Type} {f : α → WData} (h : ∀ a, plW (f a) = true) : ∀ l : List α, plWs (l.map f) = true
  | [] => rfl
  | x :: r => by
    show (plW (f x) && plWs (r.map f)) = true
    rw [h x, plWs_map h r] <;> rfl
theorem pl_enc : ∀ (c : Codec) (a : c.denote), plW (c.enc a) = true
  | .unit, _ => rfl
  | .bool, _ => rfl
  | .int _ _, _ => rfl
  | .nat _ _, _ => rfl
  | .u8, _ => rfl
  | .bytes _ _, _ => rfl
  | .text _ _ _ _, _ => rfl
  | .list _ _ c, a => plWs_map (fun x => pl_enc c x) a
  | .pair c d, a => by
    show (plW (c.enc a.1) && (plW (d.enc a.2) && true)) = true
    rw [pl_enc c a.1, pl_enc d a.2] <;> rfl
  | .triple c d e, a => by
    show (plW (c.enc a.1) && (plW (d.enc a.2.1) && (plW (e.enc a.2.2) && true))) = true
    rw [pl_enc c a.1, pl_enc d a.2.1, pl_enc e a.2.2] <;> rfl
  | .option c, none => rfl
  | .option c, some x => pl_enc c x
theorem pl_encAll : ∀ (cs : List Codec) (a : Codec.denoteAll cs), plWs (Codec.encAll cs a) = true
  | [], _ => rfl
  | c :: cs, a => by
    show (plW (c.enc a.1) && plWs (Codec.encAll cs a.2)) = true
    rw [pl_enc c a.1, pl_encAll cs a.2] <;> rfl
theorem weight_mem : ∀ {xs : List WData} {d : WData}, d ∈ xs → d.weight ≤ WData.weightAll xs
  | [], d, h => absurd h (by simp)
  | x :: r, d, h => by
    show d.weight ≤ x.weight + 1 + WData.weightAll r
    rcases List.mem_cons.mp h with e | m
    · rw [e]
      omega
    · have z := weight_mem m
      omega
def toV : Value → V
  | .none => .non
  | .bool b => .bl b
  | .int i _ => .int i
  | .str x _ => .str x
  | .bytes b _ => .byt b
  | .ref a => .ref a
  | _ => .non
def OkU (A : List Addr) : Value → Prop
  | .none => True
  | .bool _ => True
  | .int _ _ => True
  | .str _ _ => True
  | .bytes _ _ => True
  | .ref a => a ∈ A
  | _ => False
theorem OkU.mono {A B : List Addr} (h : ∀ a ∈ A, a ∈ B) : ∀ {u : Value}, OkU A u → OkU B u := fun {u} x => by
  cases u with
  | ref a => exact h a x
  | none => trivial
  | bool b => trivial
  | int i t => trivial
  | str s t => trivial
  | bytes b t => trivial
  | _ => exact False.elim x
theorem relV_toV {A : List Addr} {u : Value} (x : OkU A u) : RelV (toV u) u := by
  cases u with
  | ref a => rfl
  | none => rfl
  | bool b => rfl
  | int i t => exact ⟨t, rfl⟩
  | str s t => exact ⟨t, rfl⟩
  | bytes b t => exact ⟨t, rfl⟩
  | _ => exact False.elim x
theorem vals_toV {A : List Addr} : ∀ {vs : List Value}, (∀ u ∈ vs, OkU A u) → Vals (vs.map toV) vs
  | [], _ => .nil
  | u :: r, h => .cons (relV_toV (h u (List.mem_cons_self ..))) (vals_toV fun x hx => h x (List.mem_cons_of_mem _ hx))
def ArgOb (h : Heap) (A : List Addr) (a : Addr) : Prop := ∃ vs : List Value, vs.length ≤ sizeLine ∧ (∀ u ∈ vs, OkU A u) ∧
  (h.get? a = some { cls := .type "list", data := .seq vs.toArray } ∨ h.get? a = some { cls := .type "tuple", data := .seq vs.toArray })
theorem ArgOb.mono {h : Heap} {A B : List Addr} {a : Addr} (k : ∀ a ∈ A, a ∈ B) (x : ArgOb h A a) : ArgOb h B a := by
  obtain ⟨vs, h1, h2, h3⟩ := x
  exact ⟨vs, h1, fun u hu => (h2 u hu).mono k, h3⟩
theorem wellAll_len {P : Params} {h : Heap} : ∀ {vs : List Value} {ds : List WData}, WellAll P h vs ds → vs.length = ds.length
  | _, _, .nil => rfl
  | _, _, .cons _ b => by
    show _ + 1 = _ + 1
    rw [wellAll_len b]
theorem well_list {P : Params} {h : Heap} {v : Value} {ds : List WData} (x : Well P h v (.list ds)) : ∃ (a : Addr) (vs : List Value), v = .ref a ∧ h.get? a = some { cls := .type "list", data := .seq vs.toArray } ∧ WellAll P h vs ds := by
  cases x with
  | list ho hall => exact ⟨_, _, rfl, ho, hall⟩
theorem well_tuple {P : Params} {h : Heap} {v : Value} {ds : List WData} (x : Well P h v (.tuple ds)) : ∃ (a : Addr) (vs : List Value), v = .ref a ∧ h.get? a = some { cls := .type "tuple", data := .seq vs.toArray } ∧ WellAll P h vs ds := by
  cases x with
  | tuple ho hall => exact ⟨_, _, rfl, ho, hall⟩
theorem well_cons {P : Params} {h : Heap} {us : List Value} {d : WData} {ds : List WData} (x : WellAll P h us (d :: ds)) : ∃ (v : Value) (vs : List Value), us = v :: vs ∧ Well P h v d ∧ WellAll P h vs ds := by
  cases x with
  | cons a b => exact ⟨_, _, rfl, a, b⟩
theorem line_of {n : Nat} (h : n ≤ 1048576) : n ≤ sizeLine := Nat.le_trans h (by decide)
section
variable {P : Params} {h : Heap}
mutual
theorem area_one : ∀ (d : WData) (v : Value), Well P h v d → plW d = true → d.weight ≤ 1048576 → ∃ A : List Addr, OkU A v ∧ ∀ a ∈ A, ArgOb h A a
  | .none, _, x, _, _ => by
    cases x
    exact ⟨[], trivial, fun a m => absurd m (by simp)⟩
  | .bool b, _, x, _, _ => by
    cases x
    exact ⟨[], trivial, fun a m => absurd m (by simp)⟩
  | .int i, _, x, _, _ => by
    cases x
    exact ⟨[], trivial, fun a m => absurd m (by simp)⟩
  | .str s, _, x, _, _ => by
    cases x
    exact ⟨[], trivial, fun a m => absurd m (by simp)⟩
  | .bytes b, _, x, _, _ => by
    cases x
    exact ⟨[], trivial, fun a m => absurd m (by simp)⟩
  | .list ds, _, x, p, z => by
    obtain ⟨a, vs, rfl, ho, hall⟩ := well_list x
    have z2 : WData.weightAll ds ≤ 1048576 := z
    obtain ⟨A, h1, h2⟩ := area_all ds _ hall p fun d hd => Nat.le_trans (weight_mem hd) z2
    have k : ∀ b ∈ A, b ∈ a :: A := fun b hb => List.mem_cons_of_mem _ hb
    refine ⟨a :: A, List.mem_cons_self .., fun b hb => ?_⟩
    rcases List.mem_cons.mp hb with e | m
    · rw [e]
      exact ⟨vs, line_of (by rw [wellAll_len hall]; exact Nat.le_trans (PySem.W.length_le_weightAllW ds) z2), fun u hu => (h1 u hu).mono k, .inl ho⟩
    · exact (h2 b m).mono k
  | .tuple ds, _, x, p, z => by
    obtain ⟨a, vs, rfl, ho, hall⟩ := well_tuple x
    have z2 : WData.weightAll ds ≤ 1048576 := z
    obtain ⟨A, h1, h2⟩ := area_all ds _ hall p fun d hd => Nat.le_trans (weight_mem hd) z2
    have k : ∀ b ∈ A, b ∈ a :: A := fun b hb => List.mem_cons_of_mem _ hb
    refine ⟨a :: A, List.mem_cons_self .., fun b hb => ?_⟩
    rcases List.mem_cons.mp hb with e | m
    · rw [e]
      exact ⟨vs, line_of (by rw [wellAll_len hall]; exact Nat.le_trans (PySem.W.length_le_weightAllW ds) z2), fun u hu => (h1 u hu).mono k, .inr ho⟩
    · exact (h2 b m).mono k
  | .float _, _, _, p, _ => Bool.noConfusion (show false = true from p)
  | .dict _, _, _, p, _ => Bool.noConfusion (show false = true from p)
  | .bytearray _, _, _, p, _ => Bool.noConfusion (show false = true from p)
  | .set _, _, _, p, _ => Bool.noConfusion (show false = true from p)
  | .frozenset _, _, _, p, _ => Bool.noConfusion (show false = true from p)
  | .obj _ _, _, _, p, _ => Bool.noConfusion (show false = true from p)
theorem area_all : ∀ (ds : List WData) (vs : List Value), WellAll P h vs ds → plWs ds = true → (∀ d ∈ ds, d.weight ≤ 1048576) → ∃ A : List Addr, (∀ u ∈ vs, OkU A u) ∧ ∀ a ∈ A, ArgOb h A a
  | [], _, x, _, _ => by
    cases x
    exact ⟨[], fun u m => absurd m (by simp), fun a m => absurd m (by simp)⟩
  | d :: ds, _, x, p, z => by
    obtain ⟨v, vs, rfl, x1, x2⟩ := well_cons x
    have q : plW d = true ∧ plWs ds = true := Bool.and_eq_true_iff.mp p
    obtain ⟨A, a1, a2⟩ := area_one d v x1 q.1 (z d (List.mem_cons_self ..))
    obtain ⟨B, b1, b2⟩ := area_all ds vs x2 q.2 fun e he => z e (List.mem_cons_of_mem _ he)
    have kA : ∀ b ∈ A, b ∈ A ++ B := fun b hb => List.mem_append.mpr (.inl hb)
    have kB : ∀ b ∈ B, b ∈ A ++ B := fun b hb => List.mem_append.mpr (.inr hb)
    refine ⟨A ++ B, fun u hu => ?_, fun b hb => ?_⟩
    · rcases List.mem_cons.mp hu with e | m
      · rw [e]
        exact a1.mono kA
      · exact (b1 u m).mono kB
    · rcases List.mem_append.mp hb with m | m
      · exact (a2 b m).mono kA
      · exact (b2 b m).mono kB
end
end
def hoOf (o : Obj) : Option HO := match o.data with
  | .seq vs _ => if (o.cls == Value.type "list") = true then some (.frz o (.lst (vs.toList.map toV))) else some (.frz o (.tup (vs.toList.map toV)))
  | _ => none
def argH (K : PySem.W.Frag) (h : Heap) (A : List Addr) : Hp := fun b => if b ∈ A then (if (K.lookup b).isNone = true then (h.get? b).bind hoOf else none) else none
def OnlyF (H : Hp) : Prop := ∀ b, H b = none ∨ ∃ o u, H b = some (.frz o u)
theorem hoOf_lst (vs : List Value) : hoOf { cls := .type "list", data := .seq vs.toArray } = some (.frz { cls := .type "list", data := .seq vs.toArray } (.lst (vs.map toV))) := by
  show (if (Value.type "list" == Value.type "list") = true then some (HO.frz { cls := .type "list", data := .seq vs.toArray } (.lst (vs.toArray.toList.map toV))) else some (HO.frz { cls := .type "list", data := .seq vs.toArray } (.tup (vs.toArray.toList.map toV)))) = _
  rw [if_pos (beq_self_eq_true _)]
theorem hoOf_tup (vs : List Value) : hoOf { cls := .type "tuple", data := .seq vs.toArray } = some (.frz { cls := .type "tuple", data := .seq vs.toArray } (.tup (vs.map toV))) := by
  show (if (Value.type "tuple" == Value.type "list") = true then some (HO.frz { cls := .type "tuple", data := .seq vs.toArray } (.lst (vs.toArray.toList.map toV))) else some (HO.frz { cls := .type "tuple", data := .seq vs.toArray } (.tup (vs.toArray.toList.map toV)))) = _
  rw [if_neg (by decide)]
section
variable {P : Program} {w : World} {K : PySem.W.Frag} {h : Heap} {A : List Addr}
theorem argH_at {b : Addr} {o : Obj} (hb : b ∈ A) (hk : K.lookup b = none) (e : h.get? b = some o) : argH K h A b = hoOf o := by
  unfold argH
  rw [if_pos hb, hk, if_pos (show (none : Option Obj).isNone = true from rfl), e] <;> rfl
theorem of_argH {b : Addr} {u : HO} (q : argH K h A b = some u) : b ∈ A ∧ K.lookup b = none := by
  unfold argH at q
  by_cases hb : b ∈ A
  · rw [if_pos hb] at q
    cases hk : K.lookup b with
    | none => exact ⟨hb, rfl⟩
    | some o =>
      rw [hk, if_neg (by simp)] at q
      cases q
  · rw [if_neg hb] at q
    cases q
theorem argH_is (ar : ∀ a ∈ A, ArgOb h A a) {b : Addr} {u : HO} (q : argH K h A b = some u) : K.lookup b = none ∧ ∃ vs : List Value, vs.length ≤ sizeLine ∧ (∀ u ∈ vs, OkU A u) ∧
    ((h.get? b = some { cls := .type "list", data := .seq vs.toArray } ∧ u = .frz { cls := .type "list", data := .seq vs.toArray } (.lst (vs.map toV))) ∨
     (h.get? b = some { cls := .type "tuple", data := .seq vs.toArray } ∧ u = .frz { cls := .type "tuple", data := .seq vs.toArray } (.tup (vs.map toV)))) := by
  obtain ⟨hb, hk⟩ := of_argH q
  obtain ⟨vs, h1, h2, h3⟩ := ar b hb
  refine ⟨hk, vs, h1, h2, ?_⟩
  rcases h3 with e | e
  · rw [argH_at hb hk e, hoOf_lst] at q
    exact .inl ⟨e, (Option.some.inj q).symm⟩
  · rw [argH_at hb hk e, hoOf_tup] at q
    exact .inr ⟨e, (Option.some.inj q).symm⟩
theorem argH_only (ar : ∀ a ∈ A, ArgOb h A a) : OnlyF (argH K h A) := fun b => by
  cases q : argH K h A b with
  | none => exact .inl rfl
  | some u =>
    obtain ⟨_, vs, _, _, ⟨_, e⟩ | ⟨_, e⟩⟩ := argH_is ar q
    · exact .inr ⟨_, _, by rw [e]⟩
    · exact .inr ⟨_, _, by rw [e]⟩
theorem argH_ok (ar : ∀ a ∈ A, ArgOb h A a) : HOk P w (argH K h A) h := fun b u q => by
  obtain ⟨_, vs, h1, h2, ⟨e, rfl⟩ | ⟨e, rfl⟩⟩ := argH_is ar q
  · exact ⟨e, by rw [List.length_map]; exact h1, vs, _, vals_toV h2, e⟩
  · exact ⟨e, by rw [List.length_map]; exact h1, vs, vals_toV h2, _, e, rfl, _, rfl⟩
theorem seq_inj {c c' : Value} {vs us : List Value} (e : (some { cls := c, data := .seq vs.toArray } : Option Obj) = some { cls := c', data := .seq us.toArray }) : c = c' ∧ vs = us := by
  have e1 := Option.some.inj e
  have e2 : c = c' := congrArg Obj.cls e1
  have e3 : Data.seq vs.toArray = Data.seq us.toArray := congrArg Obj.data e1
  injection e3 with e4
  refine ⟨e2, ?_⟩
  have e5 := congrArg Array.toList e4
  simpa using e5
theorem argL (KX : K.In h) (ar : ∀ a ∈ A, ArgOb h A a) {a : Addr} {vs : List Value} (ha : a ∈ A) (e : h.get? a = some { cls := .type "list", data := .seq vs.toArray }) : (∀ u ∈ vs, OkU A u) ∧ SqL K (argH K h A) a (vs.map toV) := by
  obtain ⟨us, h1, h2, h3⟩ := ar a ha
  have hu : us = vs := by
    rcases h3 with q | q
    · rw [e] at q
      exact (seq_inj q).2.symm
    · rw [e] at q
      exact absurd (Value.type.inj (seq_inj q).1) (by decide)
  subst hu
  refine ⟨h2, ?_⟩
  cases hk : K.lookup a with
  | none => exact .inl (.inr ⟨_, by rw [argH_at ha hk e, hoOf_lst]⟩)
  | some o =>
    have e2 := KX a o hk
    rw [e] at e2
    obtain rfl := Option.some.inj e2
    exact .inr ⟨_, us.toArray, _, hk, rfl, rfl, rfl, by rw [List.size_toArray]; exact h1, by simpa using vals_toV h2⟩
theorem argT (KX : K.In h) (ar : ∀ a ∈ A, ArgOb h A a) {a : Addr} {vs : List Value} (ha : a ∈ A) (e : h.get? a = some { cls := .type "tuple", data := .seq vs.toArray }) : (∀ u ∈ vs, OkU A u) ∧ SqT K (argH K h A) a (vs.map toV) := by
  obtain ⟨us, h1, h2, h3⟩ := ar a ha
  have hu : us = vs := by
    rcases h3 with q | q
    · rw [e] at q
      exact absurd (Value.type.inj (seq_inj q).1) (by decide)
    · rw [e] at q
      exact (seq_inj q).2.symm
  subst hu
  refine ⟨h2, ?_⟩
  cases hk : K.lookup a with
  | none => exact .inl (.inr ⟨_, by rw [argH_at ha hk e, hoOf_tup]⟩)
  | some o =>
    have e2 := KX a o hk
    rw [e] at e2
    obtain rfl := Option.some.inj e2
    exact .inr ⟨_, us.toArray, _, hk, rfl, rfl, by rw [List.size_toArray]; exact h1, by simpa using vals_toV h2⟩
mutual
theorem dw_one {Pm : Params} (KX : K.In h) (ar : ∀ a ∈ A, ArgOb h A a) : ∀ (d : WData) (v : Value), Well Pm h v d → plW d = true → OkU A v → Dw K (argH K h A) (toV v) d
  | .none, _, x, _, _ => by
    cases x
    exact .non
  | .bool b, _, x, _, _ => by
    cases x
    exact .bl b
  | .int i, _, x, _, _ => by
    cases x
    exact .int i
  | .str s, _, x, _, _ => by
    cases x
    exact .str s
  | .bytes b, _, x, _, _ => by
    cases x
    have z := Dw.byt (K := K) (H := argH K h A) b.toArray
    exact z
  | .list ds, _, x, p, hu => by
    obtain ⟨a, vs, rfl, ho, hall⟩ := well_list x
    obtain ⟨h2, hs⟩ := argL KX ar hu ho
    exact .lst hs (dw_all KX ar ds _ hall p h2)
  | .tuple ds, _, x, p, hu => by
    obtain ⟨a, vs, rfl, ho, hall⟩ := well_tuple x
    obtain ⟨h2, hs⟩ := argT KX ar hu ho
    exact .tup hs (dw_all KX ar ds _ hall p h2)
  | .float _, _, _, p, _ => Bool.noConfusion (show false = true from p)
  | .dict _, _, _, p, _ => Bool.noConfusion (show false = true from p)
  | .bytearray _, _, _, p, _ => Bool.noConfusion (show false = true from p)
  | .set _, _, _, p, _ => Bool.noConfusion (show false = true from p)
  | .frozenset _, _, _, p, _ => Bool.noConfusion (show false = true from p)
  | .obj _ _, _, _, p, _ => Bool.noConfusion (show false = true from p)
theorem dw_all {Pm : Params} (KX : K.In h) (ar : ∀ a ∈ A, ArgOb h A a) : ∀ (ds : List WData) (vs : List Value), WellAll Pm h vs ds → plWs ds = true → (∀ u ∈ vs, OkU A u) → DwAll K (argH K h A) (vs.map toV) ds
  | [], _, x, _, _ => by
    cases x
    exact .nil
  | d :: ds, _, x, p, hu => by
    obtain ⟨v, vs, rfl, x1, x2⟩ := well_cons x
    have q : plW d = true ∧ plWs ds = true := Bool.and_eq_true_iff.mp p
    exact .cons (dw_one KX ar d v x1 q.1 (hu _ (List.mem_cons_self ..))) (dw_all KX ar ds vs x2 q.2 fun u m => hu u (List.mem_cons_of_mem _ m))
end
end
theorem spec_call {P : Program} {w : World} {K : PySem.W.Frag} {mg mb : Str → Option Value} {CX : CXT} {k : Nat} {fa : Addr} {fd : FuncData} {ps : List Str} {sp : Sp} {s₁ : Shared} {vals : List Value} {ds : List WData} {R : PySem.W.WRecords} {cl : Str → Option Addr} {d0 : WData}
    (KX : K.In s₁.heap) (hns : s₁.heap.Ns mainGlobals mg) (hb : s₁.heap.Ns builtinsNs mb) (hbb : ∀ x : Str, x ≠ "__name__" → mb x = bootBuiltins x) (hlim : s₁.heap.NoLimit) (hg : s₁.gens = #[])
    (hwl : WellAll w.params s₁.heap vals ds) (hpl : plWs ds = true) (hwt : ∀ d ∈ ds, d.weight ≤ 1048576) (hr : Room k callerA)
    (F : ∀ base : Heap, K.In base → base.Ns mainGlobals mg → FnOk P w K mg base CX k fa fd ps sp) (hbind : ∀ (s : Shared) (us : List Value), us.length = ps.length → BindsTo s fd ⟨us, []⟩ (ps.zip us)) (hlen : ds.length = ps.length)
    (hsp : ∀ (H : Hp) (xs : List V), OnlyF H → DwAll K H xs ds → sp xs H (fun v H' => Dw K H' v d0) fun _ _ _ => False)
    (hCX : ∀ H e s', CX [] H s₁ (fun _ _ _ => False) e s' → False) :
    codeAny (model P w) callerA (.call (.ref fa) ⟨vals, []⟩) (fun r s' => ∃ u as, r = .ok (.ret u) ∧ ReadsW R cl s'.heap u d0 as ∧ OldK s₁.heap s'.heap ∧ s'.os = s₁.os ∧ AllBare s'.gens) s₁ := by
  obtain ⟨A, ho, ar⟩ := area_all ds vals hwl hpl hwt
  have hO : OnlyF (argH K s₁.heap A) := argH_only ar
  have hok : HOk P w (argH K s₁.heap A) s₁.heap := argH_ok ar
  have hS := dw_all KX ar ds vals hwl hpl ho
  have hV := vals_toV ho
  have hK : ∀ b u, argH K s₁.heap A b = some u → K.lookup b = none := fun b u q => (argH_is ar q).1
  have noA : ∀ {b : Addr} {o : Obj} {es : Array DictEntry} {ep : Nat}, s₁.heap.get? b = some o → o.data = .dict es ep → argH K s₁.heap A b = none := fun {b o es ep} e d => by
    cases q : argH K s₁.heap A b with
    | none => rfl
    | some u =>
      obtain ⟨_, vs, _, _, ⟨e2, _⟩ | ⟨e2, _⟩⟩ := argH_is ar q
      · rw [e2] at e
        cases e
        have d' : Data.seq vs.toArray _ = Data.dict es ep := d
        cases d'
      · rw [e2] at e
        cases e
        have d' : Data.seq vs.toArray _ = Data.dict es ep := d
        cases d'
  generalize argH K s₁.heap A = H at hO hok hS hK noA
  have base_of : ∀ {b : Addr} {o : Obj}, s₁.heap.get? b = some o → H b = none → (hidT s₁.heap H).get? b = some o := fun e n => hidT_get e n
  have nsK : ∀ {b : Addr} {m : Str → Option Value}, s₁.heap.Ns b m → (hidT s₁.heap H).Ns b m := fun {b m} ⟨o, es, ep, e, d, r⟩ => ⟨o, es, ep, base_of e (noA e d), d, r⟩
  have nK : ∀ b o, K.lookup b = some o → H b = none := fun b o e => by
    cases q : H b with
    | none => rfl
    | some u =>
      rw [hK b u q] at e
      cases e
  have hKb : K.In (hidT s₁.heap H) := fun b o e => base_of (KX b o e) (nK b o e)
  have hM : Mod K mg (hidT s₁.heap H) := ⟨hKb, nsK hns, ⟨mb, nsK hb, hbb⟩, let ⟨mc, h1, h2⟩ := hlim; ⟨mc, nsK h1, h2⟩⟩
  have e0 : Env0 P w K mg (hidT s₁.heap H) callerA [] s₁ H := ⟨rfl, hM, fun b o e => of_hidT e, Nat.le_of_eq (hidT_size _ _), trivial, fun b hb => absurd (show b ∈ ([] : List Addr) from hb) (by simp), hok, .of_eq hg⟩
  have hl : vals.length = ps.length := by rw [wellAll_len hwl]; exact hlen
  refine codeAny_mono ((F _ hKb (nsK hns)).run callerA [] s₁ H ⟨vals, []⟩ vals (vals.map toV) _ _ hr e0 (hbind s₁ vals hl) hV (hsp H _ hO hS)) fun r s' x => ?_
  cases r with
  | error e => exact (hCX H e s' x).elim
  | ok fl =>
    cases fl with
    | next => exact False.elim x
    | brk => exact False.elim x
    | cont => exact False.elim x
    | ret u =>
      obtain ⟨v, H', os, bare, un, hok', r', q⟩ := x
      have kept : ∀ b o, s₁.heap.get? b = some o → s'.heap.get? b = some o := fun b o e => by
        cases q2 : H b with
        | none => exact un.keep b o e q2 (by intro z; exact absurd (show b ∈ ([] : List Addr) from z) (by simp)) (by simp)
        | some u2 =>
          rcases hO b with z | ⟨ob, u3, z⟩
          · rw [q2] at z
            cases z
          · have z2 := un.frzs b ob _ z
            obtain ⟨e1, _⟩ := hok b _ z
            obtain ⟨e2, _⟩ := hok' b _ z2
            rw [e] at e1
            cases e1
            exact e2
      have KX' : K.In s'.heap := fun b o e => kept b o (KX b o e)
      obtain ⟨as, hrd⟩ := Dw.reads (R := R) (cl := cl) hok' KX' d0 v u q r'
      exact ⟨u, as, rfl, hrd, OldK.of_keep kept, os, bare⟩
theorem layable_weight {ds : List WData} (h : WData.layableAll ds = true) : ∀ d ∈ ds, d.weight ≤ 1048576 := fun d hd =>
  (PySem.W.layableW_iff.mp (List.all_eq_true.mp h d hd)).2.2
theorem encAll_len : ∀ (cs : List Codec) (a : Codec.denoteAll cs), (Codec.encAll cs a).length = cs.length
  | [], _ => rfl
  | c :: cs, a => by
    show (Codec.encAll cs a.2).length + 1 = cs.length + 1
    rw [encAll_len cs a.2]
theorem walk_spec {r : OpenSpec} {k : Nat} {q : Program} {loose : List Str} {XP : (Str → Option Value) → Heap → Prop} {YP : World → Heap → Prop} {d : DefRec} {K : Params → PySem.W.Frag} {CX : World → CXT} {ps : List Str} {sp : World → Sp}
    (hwell : r.wellSaid = true) (hdf : d.params.defaults = []) (hlen : r.args.length = ps.length) (hr : Room k callerA)
    (hY : ∀ (w : World) (h : Heap), YP w h → (K w.params).In h)
    (F : ∀ (w : World) (mg : Str → Option Value) (fa : Addr) (h : Heap), YP w h → (K w.params).In h → h.Ns mainGlobals mg → mg d.name = some (.ref fa) →
      ∃ fd : FuncData, (∀ (s : Shared) (us : List Value), us.length = ps.length → BindsTo s fd ⟨us, []⟩ (ps.zip us)) ∧
        ∀ base : Heap, (K w.params).In base → base.Ns mainGlobals mg → FnOk r.prog w (K w.params) mg base (CX w) k fa fd ps (sp w))
    (hsp : ∀ (w : World) (H : Hp) (xs : List V) (a : Codec.denoteAll r.args), OnlyF H → Codec.withinAll r.args a = true → Codec.app r.args r.asked a = true → DwAll (K w.params) H xs (Codec.encAll r.args a) →
      sp w xs H (fun v H' => Dw (K w.params) H' v (r.ret.enc (Codec.app r.args r.f a))) fun _ _ _ => False)
    (hCX : ∀ (w : World) (H : Hp) (s : Shared) (e : Value) (s' : Shared), CX w [] H s (fun _ _ _ => False) e s' → False) :
    PySem.W.WalkOS q loose XP YP r d [] (fun f vs => PySem.call f vs) := by
  intro w s_0 s₁ mg mb G Y fa o pm cd doc dV kV ho hd hcd hD hmg hg args vals as hpre hlay hrd hwl hlo
  obtain ⟨a, e1, e2⟩ := PySem.W.os_pre_some hpre
  obtain ⟨e3, hwi⟩ := Codec.encAll_of_decAll r.args args a e1
  subst e3
  have KX := hY w _ Y
  obtain ⟨fd, hb, hF⟩ := F w mg fa _ Y KX G.T.g hmg
  refine PySem.W.enter_call (codeAny_mono (spec_call (R := []) (cl := classAt s_0.heap) (d0 := r.ret.enc (Codec.app r.args r.f a)) KX G.T.g G.T.b G.T.builtins G.T.nolimit hg hwl (pl_encAll _ _) (layable_weight hlay) hr hF hb (by rw [encAll_len]; exact hlen)
    (fun H xs hO hS => hsp w H xs a hO hwi e2 hS) fun H e s' => hCX w H s₁ e s') fun r' s' hq => ?_)
  obtain ⟨u, as', rfl, h1, h2, h3, h4⟩ := hq
  exact ⟨.inl ⟨u, _, as', rfl, fun _ => rfl, h1, (OpenSpec.post_iff hwell hwi _ _).mpr rfl, fun z => Bool.noConfusion (show false = true from z)⟩, h2, h3, h4⟩
theorem walk_specK {r : OpenSpec} {k : Nat} {q : Program} {loose : List Str} {XP : (Str → Option Value) → Heap → Prop} {YP : World → Heap → Prop} {d : DefRec} {K : Params → PySem.W.Frag} {CX : CXT} {ps : List Str} {sp : PySem.W.Frag → Sp}
    (hwell : r.wellSaid = true) (hdf : d.params.defaults = []) (hlen : r.args.length = ps.length) (hr : Room k callerA)
    (hY : ∀ (w : World) (h : Heap), YP w h → (K w.params).In h)
    (F : ∀ (w : World) (mg : Str → Option Value) (fa : Addr) (h : Heap), YP w h → (K w.params).In h → h.Ns mainGlobals mg → mg d.name = some (.ref fa) →
      ∃ fd : FuncData, (∀ (s : Shared) (us : List Value), us.length = ps.length → BindsTo s fd ⟨us, []⟩ (ps.zip us)) ∧
        ∀ base : Heap, (K w.params).In base → base.Ns mainGlobals mg → FnOk r.prog w (K w.params) mg base CX k fa fd ps (sp (K w.params)))
    (hsp : ∀ (K : PySem.W.Frag) (H : Hp) (xs : List V) (a : Codec.denoteAll r.args), OnlyF H → Codec.withinAll r.args a = true → Codec.app r.args r.asked a = true → DwAll K H xs (Codec.encAll r.args a) →
      sp K xs H (fun v H' => Dw K H' v (r.ret.enc (Codec.app r.args r.f a))) fun _ _ _ => False)
    (hCX : ∀ (H : Hp) (s : Shared) (e : Value) (s' : Shared), CX [] H s (fun _ _ _ => False) e s' → False) :
    PySem.W.WalkOS q loose XP YP r d [] (fun f vs => PySem.call f vs) :=
  walk_spec (K := K) (CX := fun _ => CX) (sp := fun w => sp (K w.params)) hwell hdf hlen hr hY F (fun w H xs a h1 h2 h3 h4 => hsp (K w.params) H xs a h1 h2 h3 h4) fun _ H s e s' => hCX H s e s'
end L2
-- rests on (row put in by the clerk, for the bench that shows a file only what it spells): KE.SpHead KE.OsShapes
end
set_option linter.all false
namespace Dm
open Uw96 (Frac)
/-- a fraction's worth -/
def q (a : Frac) : Rat := (a.u : Rat) / (a.l : Rat)
structure Ok (a : Frac) : Prop where
  pos : 0 < a.l
  cop : Nat.gcd a.u a.l = 1
theorem cast_ne {n : Nat} (h : 0 < n) : (n : Rat) ≠ 0 := by
  intro e
  have : (n : Rat) = ((0 : Nat) : Rat) := by rw [e]; rfl
  have := Rat.natCast_inj.mp this
  omega
theorem cast_pos {n : Nat} (h : 0 < n) : (0 : Rat) < (n : Rat) := by
  exact_mod_cast h
theorem frac_ok (u : Nat) {l : Nat} (h : 0 < l) : Ok (Uw96.frac u l) := by
  unfold Uw96.frac
  split
  · exact ⟨by decide, by decide⟩
  · rename_i hu
    have hg : 0 < Nat.gcd u l := Nat.gcd_pos_of_pos_right _ h
    refine ⟨?_, ?_⟩
    · exact Nat.div_pos (Nat.le_of_dvd h (Nat.gcd_dvd_right u l)) hg
    · exact Nat.coprime_div_gcd_div_gcd hg
theorem frac_q (u : Nat) {l : Nat} (h : 0 < l) : q (Uw96.frac u l) = (u : Rat) / (l : Rat) := by
  unfold Uw96.frac q
  split
  · rename_i hu
    subst hu
    simp only [Rat.natCast_ofNat]
    grind
  · rename_i hu
    have hg : 0 < Nat.gcd u l := Nat.gcd_pos_of_pos_right _ h
    obtain ⟨a, ha⟩ := Nat.gcd_dvd_left u l
    obtain ⟨b, hb⟩ := Nat.gcd_dvd_right u l
    generalize Nat.gcd u l = g at *
    subst ha hb
    have hb0 : 0 < b := Nat.pos_of_mul_pos_left h
    rw [Nat.mul_div_cancel_left _ hg, Nat.mul_div_cancel_left _ hg]
    have e1 := cast_ne hg
    have e2 := cast_ne hb0
    simp only [Rat.natCast_mul]
    grind
theorem Ok.ext {a b : Frac} (ha : Ok a) (hb : Ok b) (h : q a = q b) : a = b := by
  have e1 := cast_ne ha.pos
  have e2 := cast_ne hb.pos
  have e : (a.u : Rat) * (b.l : Rat) = (b.u : Rat) * (a.l : Rat) := by
    unfold q at h
    grind
  have e : a.u * b.l = b.u * a.l := by exact_mod_cast e
  have d1 : a.l ∣ b.l := by
    have : a.l ∣ a.u * b.l := ⟨b.u, by rw [e, Nat.mul_comm]⟩
    exact (Nat.Coprime.symm ha.cop).dvd_of_dvd_mul_left this
  have d2 : b.l ∣ a.l := by
    have : b.l ∣ b.u * a.l := ⟨a.u, by rw [← e, Nat.mul_comm]⟩
    exact (Nat.Coprime.symm hb.cop).dvd_of_dvd_mul_left this
  have el : a.l = b.l := Nat.dvd_antisymm d1 d2
  have eu : a.u = b.u := by
    rw [el] at e
    exact Nat.eq_of_mul_eq_mul_right hb.pos e
  cases a
  cases b
  simp_all
theorem zero_ok : Ok Uw96.zero := ⟨by decide, by decide⟩
theorem one_ok : Ok Uw96.one := ⟨by decide, by decide⟩
theorem zero_q : q Uw96.zero = 0 := by simp only [q, Uw96.zero, Rat.natCast_ofNat]; grind
theorem one_q : q Uw96.one = 1 := by simp only [q, Uw96.one, Rat.natCast_ofNat]; grind
theorem whole_ok (n : Nat) : Ok (Uw96.whole n) := ⟨Nat.zero_lt_one, Nat.gcd_one_right n⟩
theorem whole_q (n : Nat) : q (Uw96.whole n) = (n : Rat) := by
  simp only [q, Uw96.whole]
  have : ((1 : Nat) : Rat) = 1 := rfl
  rw [this]; grind
theorem q_nonneg (a : Frac) : 0 ≤ q a := by
  unfold q
  rcases Nat.eq_zero_or_pos a.l with h | h
  · rw [h]
    have : (a.u : Rat) / ((0 : Nat) : Rat) = 0 := by simp only [Rat.natCast_ofNat]; grind
    rw [this]; exact Rat.le_refl
  · have e := cast_pos h
    apply Rat.not_lt.mp
    rw [Rat.div_lt_iff e, Rat.not_lt]
    have : (0 : Rat) ≤ (a.u : Rat) := by exact_mod_cast Nat.zero_le _
    grind
theorem plus_ok {a b : Frac} (ha : Ok a) (hb : Ok b) : Ok (Uw96.plus a b) := frac_ok _ (Nat.mul_pos ha.pos hb.pos)
theorem plus_q {a b : Frac} (ha : Ok a) (hb : Ok b) : q (Uw96.plus a b) = q a + q b := by
  unfold Uw96.plus
  rw [frac_q _ (Nat.mul_pos ha.pos hb.pos)]
  have e1 := cast_ne ha.pos
  have e2 := cast_ne hb.pos
  simp only [Rat.natCast_add, Rat.natCast_mul, q]
  grind
theorem times_ok {a b : Frac} (ha : Ok a) (hb : Ok b) : Ok (Uw96.times a b) := frac_ok _ (Nat.mul_pos ha.pos hb.pos)
theorem times_q {a b : Frac} (ha : Ok a) (hb : Ok b) : q (Uw96.times a b) = q a * q b := by
  unfold Uw96.times
  rw [frac_q _ (Nat.mul_pos ha.pos hb.pos)]
  have e1 := cast_ne ha.pos
  have e2 := cast_ne hb.pos
  simp only [Rat.natCast_mul, q]
  grind
theorem q_le_one {a : Frac} (ha : Ok a) : q a ≤ 1 ↔ a.u ≤ a.l := by
  have e1 := cast_pos ha.pos
  unfold q
  rw [← Rat.not_lt, Rat.lt_div_iff e1, Rat.one_mul, Rat.not_lt]
  exact_mod_cast Iff.rfl
theorem rest_ok {a : Frac} (ha : Ok a) : Ok (Uw96.rest a) := frac_ok _ ha.pos
theorem rest_q {a : Frac} (ha : Ok a) (h : q a ≤ 1) : q (Uw96.rest a) = 1 - q a := by
  have hl := (q_le_one ha).mp h
  unfold Uw96.rest
  rw [frac_q _ ha.pos]
  have e1 := cast_ne ha.pos
  have e3 : ((a.l - a.u : Nat) : Rat) = (a.l : Rat) - (a.u : Rat) := by
    have : a.l = (a.l - a.u) + a.u := by omega
    have : (a.l : Rat) = ((a.l - a.u : Nat) : Rat) + (a.u : Rat) := by exact_mod_cast this
    grind
  rw [e3]
  unfold q
  grind
theorem u_pos {a : Frac} (ha : Ok a) (h : q a ≠ 0) : 0 < a.u := by
  apply Nat.pos_of_ne_zero
  intro e
  apply h
  unfold q
  rw [e]
  simp only [Rat.natCast_ofNat]
  grind
theorem over_ok {a b : Frac} (ha : Ok a) (hb : Ok b) (h : q b ≠ 0) : Ok (Uw96.over a b) := frac_ok _ (Nat.mul_pos ha.pos (u_pos hb h))
theorem over_q {a b : Frac} (ha : Ok a) (hb : Ok b) (h : q b ≠ 0) : q (Uw96.over a b) = q a / q b := by
  unfold Uw96.over
  rw [frac_q _ (Nat.mul_pos ha.pos (u_pos hb h))]
  have e1 := cast_ne ha.pos
  have e2 := cast_ne hb.pos
  have e3 := cast_ne (u_pos hb h)
  simp only [Rat.natCast_mul, q]
  grind
theorem less_q {a b : Frac} (ha : Ok a) (hb : Ok b) : Uw96.less a b = decide (q a < q b) := by
  unfold Uw96.less
  have e1 := cast_pos ha.pos
  have e2 := cast_pos hb.pos
  refine decide_eq_decide.mpr ?_
  unfold q
  rw [Rat.div_lt_iff e1]
  have : (b.u : Rat) / b.l * a.l = (b.u * a.l) / b.l := by grind
  rw [this, Rat.lt_div_iff e2]
  exact_mod_cast Iff.rfl
theorem foldl_plus : ∀ (l : List Frac) (a : Frac), Ok a → (∀ x ∈ l, Ok x) → Ok (l.foldl Uw96.plus a) ∧ q (l.foldl Uw96.plus a) = q a + (l.map q).sum
  | [], a, ha, _ => by simp; exact ⟨ha, by grind⟩
  | x :: l, a, ha, h => by
    have hx := h x (by simp)
    have ih := foldl_plus l (Uw96.plus a x) (plus_ok ha hx) (fun y hy => h y (by simp [hy]))
    rw [List.foldl_cons]
    refine ⟨ih.1, ?_⟩
    rw [ih.2, plus_q ha hx, List.map_cons, List.sum_cons]
    grind
theorem sum_ok {l : List Frac} (h : ∀ x ∈ l, Ok x) : Ok (Uw96.sum l) := (foldl_plus l _ zero_ok h).1
theorem sum_q {l : List Frac} (h : ∀ x ∈ l, Ok x) : q (Uw96.sum l) = (l.map q).sum := by
  have := (foldl_plus l _ zero_ok h).2
  rw [zero_q] at this
  unfold Uw96.sum
  rw [this]; grind
end Dm
set_option linter.all false
namespace Dm
open Uw96 (Frac)
/-! ### sums -/
def S : Nat → (Nat → Rat) → Rat
  | 0, _ => 0
  | n + 1, g => S n g + g n
theorem sum_snocQ : ∀ (l : List Rat) (x : Rat), (l ++ [x]).sum = l.sum + x
  | [], x => by simp only [List.nil_append, List.sum_cons, List.sum_nil]; grind
  | a :: l, x => by
    rw [List.cons_append, List.sum_cons, List.sum_cons, sum_snocQ l x]
    grind
theorem range_S (g : Nat → Rat) : ∀ n, ((List.range n).map g).sum = S n g
  | 0 => rfl
  | n + 1 => by
    rw [List.range_succ, List.map_append, List.map_singleton, sum_snocQ, range_S g n]
    rfl
theorem S_congr {f g : Nat → Rat} : ∀ {n : Nat}, (∀ i, i < n → f i = g i) → S n f = S n g
  | 0, _ => rfl
  | n + 1, h => by
    show S n f + f n = S n g + g n
    rw [S_congr fun i hi => h i (by omega), h n (by omega)]
theorem S_add (f g : Nat → Rat) : ∀ n, S n (fun i => f i + g i) = S n f + S n g
  | 0 => by simp only [S]; grind
  | n + 1 => by simp only [S, S_add f g n]; grind
theorem S_mul (c : Rat) (f : Nat → Rat) : ∀ n, S n (fun i => c * f i) = c * S n f
  | 0 => by simp only [S]; grind
  | n + 1 => by simp only [S, S_mul c f n]; grind
theorem S_nonneg {f : Nat → Rat} : ∀ {n : Nat}, (∀ i, i < n → 0 ≤ f i) → 0 ≤ S n f
  | 0, _ => Rat.le_refl
  | n + 1, h => by
    have h1 := S_nonneg (f := f) (n := n) fun i hi => h i (by omega)
    have h2 := h n (by omega)
    show 0 ≤ S n f + f n
    grind
theorem S_le {f g : Nat → Rat} : ∀ {n : Nat}, (∀ i, i < n → f i ≤ g i) → S n f ≤ S n g
  | 0, _ => Rat.le_refl
  | n + 1, h => by
    have h1 := S_le (f := f) (g := g) (n := n) fun i hi => h i (by omega)
    have h2 := h n (by omega)
    show S n f + f n ≤ S n g + g n
    grind
/-- one place of a sum of things that aren't below 0 -/
theorem S_ge {f : Nat → Rat} : ∀ {n : Nat} (k : Nat), k < n → (∀ i, i < n → 0 ≤ f i) → f k ≤ S n f
  | n + 1, k, hk, h => by
    have h0 := S_nonneg (f := f) (n := n) fun i hi => h i (by omega)
    have h2 := h n (by omega)
    show f k ≤ S n f + f n
    by_cases e : k = n
    · subst e; grind
    · have h1 := S_ge (f := f) (n := n) k (by omega) fun i hi => h i (by omega)
      grind
theorem S_split (f : Nat → Rat) (a : Nat) : ∀ b, S (a + b) f = S a f + S b (fun i => f (a + i))
  | 0 => by simp only [S, Nat.add_zero]; grind
  | b + 1 => by
    show S (a + b) f + f (a + b) = S a f + (S b (fun i => f (a + i)) + f (a + b))
    rw [S_split f a b]; grind
theorem S_ind (v : Rat) (a b : Nat) : ∀ n, S n (fun i => if a ≤ i ∧ i < b then v else 0) = v * ((min n b - min n a : Nat) : Rat)
  | 0 => by
    have : min 0 b - min 0 a = 0 := by omega
    rw [this]; simp only [S, Rat.natCast_ofNat]; grind
  | n + 1 => by
    show S n _ + (if a ≤ n ∧ n < b then v else 0) = _
    rw [S_ind v a b n]
    by_cases h : a ≤ n ∧ n < b
    · rw [if_pos h]
      have e : min (n + 1) b - min (n + 1) a = (min n b - min n a) + 1 := by omega
      rw [e]
      simp only [Rat.natCast_add, Rat.natCast_ofNat]
      grind
    · rw [if_neg h]
      have e : min (n + 1) b - min (n + 1) a = (min n b - min n a) := by omega
      rw [e]; grind
theorem S_zero : ∀ n, S n (fun _ => 0) = 0
  | 0 => rfl
  | n + 1 => by simp only [S, S_zero n]; grind
/-! ### a list that is built item by item -/
section
variable {α : Type}
def build (F : List α → Nat → α) : Nat → List α
  | 0 => []
  | n + 1 => build F n ++ [F (build F n) n]
theorem fold_build (F : List α → Nat → α) : ∀ n, (List.range n).foldl (fun l i => l ++ [F l i]) [] = build F n
  | 0 => rfl
  | n + 1 => by
    rw [List.range_succ, List.foldl_append, fold_build F n]
    rfl
theorem build_length (F : List α → Nat → α) : ∀ n, (build F n).length = n
  | 0 => rfl
  | n + 1 => by
    show (build F n ++ [_]).length = n + 1
    rw [List.length_append, build_length F n]; rfl
theorem build_get (F : List α → Nat → α) {i : Nat} : ∀ {n : Nat}, i < n → (build F n)[i]? = some (F (build F i) i)
  | n + 1, h => by
    show (build F n ++ [_])[i]? = _
    by_cases e : i = n
    · subst e
      rw [List.getElem?_append_right (by rw [build_length]; omega), build_length, Nat.sub_self]
      rfl
    · rw [List.getElem?_append_left (by rw [build_length]; omega)]
      exact build_get F (by omega)
theorem build_getD (F : List α → Nat → α) {i n : Nat} (d : α) (h : i < n) : (build F n).getD i d = F (build F i) i := by
  rw [List.getD_eq_getElem?_getD, build_get F h]; rfl
/-- two places in the making show the same item -/
theorem build_same (F : List α → Nat → α) {i m n : Nat} (d : α) (h : i < m) (h' : i < n) : (build F m).getD i d = (build F n).getD i d := by
  rw [build_getD F d h, build_getD F d h']
theorem build_all {P : α → Prop} (F : List α → Nat → α) : ∀ n, (∀ i, i < n → (∀ x ∈ build F i, P x) → P (F (build F i) i)) → ∀ x ∈ build F n, P x
  | 0, _, x, h => by cases h
  | n + 1, st, x, h => by
    have h : x ∈ build F n ++ [F (build F n) n] := h
    rw [List.mem_append] at h
    have ih := build_all F n fun i hi => st i (by omega)
    rcases h with h | h
    · exact ih x h
    · rw [List.mem_singleton] at h
      subst h
      exact st n (by omega) ih
end
theorem getD_ok {l : List Frac} (h : ∀ x ∈ l, Ok x) (i : Nat) : Ok (l.getD i Uw96.zero) := by
  rw [List.getD_eq_getElem?_getD]
  cases e : l[i]? with
  | none => exact zero_ok
  | some x => exact h x (List.mem_of_getElem? e)
/-! ### how likely each sum comes -/
def comesF (s h : Nat) (l : List Frac) (n : Nat) : Frac := if n = 0 then Uw96.one else Uw96.times (Uw96.frac 1 s) (Uw96.sum ((Uw96.good s).map fun f => if f ≤ n ∧ n - f < h then l.getD (n - f) Uw96.zero else Uw96.zero))
theorem comes_build (s h : Nat) : Uw96.comes s h = build (comesF s h) (h + s) := fold_build (comesF s h) (h + s)
theorem comes_length (s h : Nat) : (Uw96.comes s h).length = h + s := by rw [comes_build, build_length]
theorem comesF_ok {s h : Nat} (hs : 0 < s) {l : List Frac} (hl : ∀ x ∈ l, Ok x) (n : Nat) : Ok (comesF s h l n) := by
  unfold comesF
  split
  · exact one_ok
  · refine times_ok (frac_ok _ hs) (sum_ok ?_)
    intro x hx
    obtain ⟨f, _, rfl⟩ := List.mem_map.mp hx
    split
    · exact getD_ok hl _
    · exact zero_ok
theorem build_ok {s h : Nat} (hs : 0 < s) (n : Nat) : ∀ x ∈ build (comesF s h) n, Ok x := build_all _ n fun i _ hl => comesF_ok hs hl i
theorem comes_ok {s h : Nat} (hs : 0 < s) : ∀ x ∈ Uw96.comes s h, Ok x := by rw [comes_build]; exact build_ok hs _
/-- how likely the sum comes to n, as a number -/
def c (s h n : Nat) : Rat := q ((build (comesF s h) (n + 1)).getD n Uw96.zero)
theorem comes_c {s h n : Nat} (hn : n < h + s) : q ((Uw96.comes s h).getD n Uw96.zero) = c s h n := by
  rw [comes_build, build_same _ _ hn (Nat.lt_succ_self n)]; rfl
theorem c_nonneg (s h n : Nat) : 0 ≤ c s h n := q_nonneg _
theorem c_zero (s h : Nat) : c s h 0 = 1 := by
  unfold c
  rw [build_getD _ _ (Nat.lt_succ_self 0)]
  exact one_q
/-- what comes to n from the sums below t -/
def C (s h t n : Nat) : Rat := S (s - 1) fun i => if i + 2 ≤ n ∧ n - (i + 2) < t then c s h (n - (i + 2)) else 0
theorem c_step {s h n : Nat} (hs : 0 < s) (hn : 0 < n) : c s h n = 1 / (s : Rat) * C s h h n := by
  have e0 : c s h n = q (comesF s h (build (comesF s h) n) n) := by
    unfold c
    rw [build_getD _ _ (Nat.lt_succ_self n)]
  have e2 : ∀ l, comesF s h l n = Uw96.times (Uw96.frac 1 s) (Uw96.sum ((Uw96.good s).map fun f => if f ≤ n ∧ n - f < h then l.getD (n - f) Uw96.zero else Uw96.zero)) := by
    intro l
    unfold comesF
    rw [if_neg (by omega)]
  rw [e0, e2]
  have hok : ∀ x ∈ (Uw96.good s).map (fun f => if f ≤ n ∧ n - f < h then (build (comesF s h) n).getD (n - f) Uw96.zero else Uw96.zero), Ok x := by
    intro x hx
    obtain ⟨f, _, rfl⟩ := List.mem_map.mp hx
    split
    · exact getD_ok (build_ok hs n) _
    · exact zero_ok
  rw [times_q (frac_ok _ hs) (sum_ok hok), frac_q _ hs, sum_q hok]
  have e1 : ((1 : Nat) : Rat) = 1 := rfl
  rw [e1]
  congr 1
  unfold Uw96.good C
  rw [List.map_map, List.map_map, range_S]
  apply S_congr
  intro i hi
  dsimp only [Function.comp]
  by_cases hc : i + 2 ≤ n ∧ n - (i + 2) < h
  · rw [if_pos hc, if_pos hc]
    unfold c
    rw [build_same _ _ (show n - (i + 2) < n by omega) (Nat.lt_succ_self _)]
  · rw [if_neg hc, if_neg hc]
    exact zero_q
theorem C_zero (s h n : Nat) : C s h 0 n = 0 := by
  unfold C
  refine Eq.trans (S_congr (g := fun _ => 0) ?_) (S_zero (s - 1))
  intro i _
  rw [if_neg (by omega)]
theorem C_succ (s h t n : Nat) : C s h (t + 1) n = C s h t n + if t + 2 ≤ n ∧ n < t + s + 1 then c s h t else 0 := by
  unfold C
  have e : S (s - 1) (fun i => if i + 2 ≤ n ∧ n - (i + 2) < t + 1 then c s h (n - (i + 2)) else 0) =
      S (s - 1) (fun i => (if i + 2 ≤ n ∧ n - (i + 2) < t then c s h (n - (i + 2)) else 0) + (if (n - t - 2) ≤ i ∧ i < (if t + 2 ≤ n then n - t - 1 else 0) then c s h t else 0)) := by
    apply S_congr
    intro i hi
    by_cases h1 : i + 2 ≤ n ∧ n - (i + 2) < t
    · rw [if_pos h1, if_pos (by omega), if_neg (by split <;> omega)]; grind
    · rw [if_neg h1]
      by_cases h2 : i + 2 ≤ n ∧ n - (i + 2) < t + 1
      · have h3 : n - (i + 2) = t := by omega
        rw [if_pos h2, if_pos (by rw [if_pos (by omega)]; omega), h3]; grind
      · rw [if_neg h2, if_neg (by split <;> omega)]; grind
  rw [e, S_add, S_ind]
  congr 1
  by_cases h1 : t + 2 ≤ n ∧ n < t + s + 1
  · rw [if_pos h1, if_pos h1.1]
    have : min (s - 1) (n - t - 1) - min (s - 1) (n - t - 2) = 1 := by omega
    rw [this]; simp only [Rat.natCast_ofNat]; grind
  · rw [if_neg h1]
    have : min (s - 1) (if t + 2 ≤ n then n - t - 1 else 0) - min (s - 1) (n - t - 2) = 0 := by
      split <;> omega
    rw [this]; simp only [Rat.natCast_ofNat]; grind
/-! ### the program's weights: shared out from each sum on -/
def Wt (s k : Nat) : Nat → Nat → Nat
  | 0, n => if n = 0 then s ^ k else 0
  | t + 1, n => Wt s k t n + if t + 2 ≤ n ∧ n < t + s + 1 then Wt s k t t / s else 0
theorem Wt_dvd {s k h : Nat} (hs : 0 < s) (hk : h + 1 ≤ 2 * k + 1) : ∀ t, t ≤ h → ∀ n, s ^ (k - n / 2) ∣ Wt s k t n
  | 0, _, n => by
    show _ ∣ (if n = 0 then s ^ k else 0)
    split
    · exact Nat.pow_dvd_pow s (by omega)
    · exact Nat.dvd_zero _
  | t + 1, ht, n => by
    have ih := Wt_dvd hs hk t (by omega)
    refine Nat.dvd_add (ih n) ?_
    split
    · rename_i hc
      have h1 := ih t
      have e : k - t / 2 = (k - t / 2 - 1) + 1 := by omega
      rw [e, Nat.pow_succ] at h1
      obtain ⟨m, hm⟩ := h1
      have : Wt s k t t / s = s ^ (k - t / 2 - 1) * m := by
        rw [hm, Nat.mul_right_comm, Nat.mul_div_cancel _ hs]
      rw [this]
      exact Nat.dvd_trans (Nat.pow_dvd_pow s (by omega)) (Nat.dvd_mul_right _ _)
    · exact Nat.dvd_zero _
theorem Wt_div {s k h t : Nat} (hs : 0 < s) (hk : h + 1 ≤ 2 * k + 1) (ht : t < h) : s ∣ Wt s k t t := by
  have h1 := Wt_dvd hs hk t (by omega) t
  refine Nat.dvd_trans ?_ h1
  have e : k - t / 2 = (k - t / 2 - 1) + 1 := by omega
  rw [e, Nat.pow_succ]
  exact Nat.dvd_mul_left _ _
theorem cast_div {a s : Nat} (hs : 0 < s) (h : s ∣ a) : ((a / s : Nat) : Rat) = (a : Rat) / (s : Rat) := by
  obtain ⟨m, rfl⟩ := h
  rw [Nat.mul_div_cancel_left _ hs]
  have := cast_ne hs
  simp only [Rat.natCast_mul]
  grind
/-- the weights are the chances, times the whole -/
theorem Wt_c {s k h : Nat} (hs : 0 < s) (hk : h + 1 ≤ 2 * k + 1) : ∀ t, t ≤ h → ∀ n, (Wt s k t n : Rat) = if n = 0 then ((s ^ k : Nat) : Rat) else ((s ^ k : Nat) : Rat) / (s : Rat) * C s h t n
  | 0, _, n => by
    show ((if n = 0 then s ^ k else 0 : Nat) : Rat) = _
    by_cases hn : n = 0
    · rw [if_pos hn, if_pos hn]
    · rw [if_neg hn, if_neg hn, C_zero]; simp only [Rat.natCast_ofNat]; grind
  | t + 1, ht, n => by
    have ih := Wt_c hs hk t (by omega)
    have hd := Wt_div hs hk (show t < h by omega)
    have et : (Wt s k t t : Rat) = ((s ^ k : Nat) : Rat) * c s h t := by
      rw [ih t]
      by_cases h0 : t = 0
      · rw [if_pos h0]; subst h0; rw [c_zero]; grind
      · rw [if_neg h0, c_step hs (by omega)]
        have : C s h h t = C s h t t := by
          unfold C
          apply S_congr
          intro i hi
          by_cases hc : i + 2 ≤ t
          · rw [if_pos (by omega), if_pos (by omega)]
          · rw [if_neg (by omega), if_neg (by omega)]
        rw [this]; grind
    have e : (Wt s k (t + 1) n : Rat) = (Wt s k t n : Rat) + if t + 2 ≤ n ∧ n < t + s + 1 then (Wt s k t t : Rat) / s else 0 := by
      show ((Wt s k t n + if t + 2 ≤ n ∧ n < t + s + 1 then Wt s k t t / s else 0 : Nat) : Rat) = _
      rw [Rat.natCast_add]
      congr 1
      split
      · exact cast_div hs hd
      · rfl
    rw [e, ih n, et, C_succ]
    by_cases hn : n = 0
    · rw [if_pos hn, if_pos hn, if_neg (by omega)]; grind
    · rw [if_neg hn, if_neg hn]
      split <;> grind
theorem Wt_all {s k h n : Nat} (hs : 0 < s) (hk : h + 1 ≤ 2 * k + 1) : (Wt s k h n : Rat) = ((s ^ k : Nat) : Rat) * c s h n := by
  rw [Wt_c hs hk h (Nat.le_refl h) n]
  by_cases hn : n = 0
  · rw [if_pos hn, hn, c_zero]; grind
  · rw [if_neg hn, c_step hs (by omega)]; grind
/-! ### the whole is one -/
theorem C_mass {s h : Nat} (hs : 0 < s) : ∀ t, t ≤ h → S (h + s) (C s h t) = ((s - 1 : Nat) : Rat) * S t (c s h)
  | 0, _ => by
    rw [show S (h + s) (C s h 0) = S (h + s) (fun _ => 0) from S_congr fun i _ => C_zero s h i, S_zero]
    simp only [S]; grind
  | t + 1, ht => by
    rw [show S (h + s) (C s h (t + 1)) = S (h + s) (fun n => C s h t n + if t + 2 ≤ n ∧ n < t + s + 1 then c s h t else 0) from S_congr fun i _ => C_succ s h t i,
      S_add, C_mass hs t (by omega), S_ind]
    have : min (h + s) (t + s + 1) - min (h + s) (t + 2) = s - 1 := by omega
    rw [this]; simp only [S]; grind
theorem cast_pred {s : Nat} (hs : 0 < s) : ((s - 1 : Nat) : Rat) = (s : Rat) - 1 := by
  have : s = (s - 1) + 1 := by omega
  have : (s : Rat) = ((s - 1 : Nat) : Rat) + 1 := by exact_mod_cast this
  grind
/-- the ends together: 1 less a one at each throw -/
theorem ends_mass {s h : Nat} (hs : 0 < s) (hh : 0 < h) : S s (fun i => c s h (h + i)) = 1 - S h (c s h) / (s : Rat) := by
  have e1 := C_mass hs h (Nat.le_refl h)
  have e2 : S (h + s) (c s h) = 1 + 1 / (s : Rat) * S (h + s) (C s h h) := by
    have hC0 : C s h h 0 = 0 := by
      unfold C
      refine Eq.trans (S_congr (g := fun _ => 0) ?_) (S_zero (s - 1))
      intro i _
      rw [if_neg (by omega)]
    have : S (h + s) (c s h) = S (h + s) (fun n => (if 0 ≤ n ∧ n < 1 then 1 else 0) + 1 / (s : Rat) * C s h h n) := by
      apply S_congr
      intro i hi
      by_cases h0 : i = 0
      · subst h0
        rw [if_pos (by omega), c_zero, hC0]; grind
      · rw [if_neg (by omega), c_step hs (by omega)]; grind
    rw [this, S_add, S_mul, S_ind]
    have : min (h + s) 1 - min (h + s) 0 = 1 := by omega
    rw [this]; simp only [Rat.natCast_ofNat]; grind
  rw [S_split] at e2
  rw [S_split] at e1
  have e3 := cast_ne hs
  have e4 := cast_pred hs
  rw [S_split, e1, e4] at e2 <;> skip
  grind
end Dm
set_option linter.all false
namespace Dm
open Uw96 (Frac Die)
theorem getD_map {α β : Type} (f : α → β) (l : List α) (i : Nat) (d : α) (d' : β) (h : f d = d') : (l.map f).getD i d' = f (l.getD i d) := by
  rw [List.getD_eq_getElem?_getD, List.getD_eq_getElem?_getD, List.getElem?_map]
  cases l[i]? with
  | none => exact h.symm
  | some x => rfl
theorem zipIdx_range {α β : Type} (d : α) (f : α × Nat → β) (l : List α) : l.zipIdx.map f = (List.range l.length).map fun i => f (l.getD i d, i) := by
  apply List.ext_getElem?
  intro i
  rw [List.getElem?_map, List.getElem?_map, List.getElem?_zipIdx]
  by_cases h : i < l.length
  · rw [List.getElem?_range h, List.getElem?_eq_getElem h]
    simp [List.getD_eq_getElem?_getD, List.getElem?_eq_getElem h]
  · rw [List.getElem?_eq_none (by omega), List.getElem?_eq_none (by rw [List.length_range]; omega)]
    rfl
theorem map_range_q {α : Type} (f : Nat → Frac) (n : Nat) : (((List.range n).map f).map q).sum = S n fun i => q (f i) := by
  rw [List.map_map, range_S]; rfl
theorem all_range {P : Frac → Prop} {f : Nat → Frac} {n : Nat} (h : ∀ i, i < n → P (f i)) : ∀ x ∈ (List.range n).map f, P x := by
  intro x hx
  obtain ⟨i, hi, rfl⟩ := List.mem_map.mp hx
  exact h i (List.mem_range.mp hi)
theorem sumR_ok {f : Nat → Frac} {n : Nat} (h : ∀ i, i < n → Ok (f i)) : Ok (Uw96.sum ((List.range n).map f)) := sum_ok (all_range h)
theorem sumR_q {f : Nat → Frac} {n : Nat} (h : ∀ i, i < n → Ok (f i)) : q (Uw96.sum ((List.range n).map f)) = S n fun i => q (f i) := by
  rw [sum_q (all_range h), map_range_q (α := Nat)]
theorem self_range (d : Frac) (l : List Frac) : l = (List.range l.length).map fun i => l.getD i d := by
  apply List.ext_getElem?
  intro i
  rw [List.getElem?_map]
  by_cases h : i < l.length
  · rw [List.getElem?_range h, List.getElem?_eq_getElem h]
    simp [List.getD_eq_getElem?_getD, List.getElem?_eq_getElem h]
  · rw [List.getElem?_eq_none (by omega), List.getElem?_eq_none (by rw [List.length_range]; omega)]
    rfl
/-! ### a turn -/
/-- how likely a turn held at h brings h + i -/
def e (s h i : Nat) : Rat := c s h (h + i)
theorem e_nonneg (s h i : Nat) : 0 ≤ e s h i := c_nonneg _ _ _
/-- how likely it brings something -/
def E (s h : Nat) : Rat := S s (e s h)
theorem ends_length (s h : Nat) : (Uw96.ends s h).length = s := by
  unfold Uw96.ends
  rw [List.length_drop, comes_length]; omega
theorem ends_getD (s h i : Nat) : (Uw96.ends s h).getD i Uw96.zero = (Uw96.comes s h).getD (h + i) Uw96.zero := by
  unfold Uw96.ends
  rw [List.getD_eq_getElem?_getD, List.getD_eq_getElem?_getD, List.getElem?_drop]
theorem ends_ok {s h : Nat} (hs : 0 < s) : ∀ x ∈ Uw96.ends s h, Ok x := fun x hx => comes_ok hs x (List.mem_of_mem_drop hx)
theorem ends_e {s h i : Nat} (hi : i < s) : q ((Uw96.ends s h).getD i Uw96.zero) = e s h i := by
  rw [ends_getD, comes_c (by omega)]; rfl
theorem ends_sum_ok {s h : Nat} (hs : 0 < s) : Ok (Uw96.sum (Uw96.ends s h)) := sum_ok (ends_ok hs)
theorem ends_sum {s h : Nat} (hs : 0 < s) : q (Uw96.sum (Uw96.ends s h)) = E s h := by
  rw [sum_q (ends_ok hs), self_range Uw96.zero (Uw96.ends s h), ends_length, map_range_q (α := Nat)]
  exact S_congr fun i hi => ends_e hi
/-- a sum over the ends with their places -/
theorem ends_zip_ok {s h : Nat} (hs : 0 < s) {f : Frac × Nat → Frac} (hf : ∀ i, i < s → Ok (f ((Uw96.ends s h).getD i Uw96.zero, i))) : Ok (Uw96.sum ((Uw96.ends s h).zipIdx.map f)) := by
  rw [zipIdx_range Uw96.zero, ends_length]
  exact sumR_ok hf
theorem ends_zip_q {s h : Nat} (hs : 0 < s) {f : Frac × Nat → Frac} (hf : ∀ i, i < s → Ok (f ((Uw96.ends s h).getD i Uw96.zero, i))) :
    q (Uw96.sum ((Uw96.ends s h).zipIdx.map f)) = S s fun i => q (f ((Uw96.ends s h).getD i Uw96.zero, i)) := by
  rw [zipIdx_range Uw96.zero, ends_length]
  exact sumR_q hf
theorem brings_ok {s h : Nat} (hs : 0 < s) : Ok (Uw96.brings s h) := ends_zip_ok hs fun i _ => times_ok (getD_ok (ends_ok hs) i) (whole_ok _)
theorem brings_q {s h : Nat} (hs : 0 < s) : q (Uw96.brings s h) = S s fun i => e s h i * ((h + i : Nat) : Rat) := by
  unfold Uw96.brings
  rw [ends_zip_q hs fun i _ => times_ok (getD_ok (ends_ok hs) i) (whole_ok _)]
  apply S_congr
  intro i hi
  rw [times_q (getD_ok (ends_ok hs) i) (whole_ok _), whole_q, ends_e hi]
theorem throws_eq (s h : Nat) : Uw96.throws s h = Uw96.sum ((List.range h).map fun i => (Uw96.comes s h).getD i Uw96.zero) := by
  unfold Uw96.throws
  congr 1
  have hl : ((Uw96.comes s h).take h).length = h := by rw [List.length_take, comes_length]; omega
  rw [self_range Uw96.zero ((Uw96.comes s h).take h), hl]
  apply List.map_congr_left
  intro i hi
  have := List.mem_range.mp hi
  rw [List.getD_eq_getElem?_getD, List.getD_eq_getElem?_getD, List.getElem?_take_of_lt this]
theorem throws_ok {s h : Nat} (hs : 0 < s) : Ok (Uw96.throws s h) := by
  rw [throws_eq]; exact sumR_ok fun i _ => getD_ok (comes_ok hs) i
theorem throws_q {s h : Nat} (hs : 0 < s) : q (Uw96.throws s h) = S h (c s h) := by
  rw [throws_eq, sumR_q fun i _ => getD_ok (comes_ok hs) i]
  exact S_congr fun i hi => comes_c (by omega)
theorem inv_nonneg {s : Nat} (hs : 0 < s) : (0 : Rat) < 1 / (s : Rat) := by
  have e1 := cast_pos hs
  rw [Rat.lt_div_iff e1]
  grind
theorem mul_nonneg {a b : Rat} (ha : 0 ≤ a) (hb : 0 ≤ b) : 0 ≤ a * b := Rat.mul_nonneg ha hb
theorem E_eq {s h : Nat} (hs : 0 < s) (hh : 0 < h) : E s h = 1 - S h (c s h) / (s : Rat) := ends_mass hs hh
theorem E_nonneg (s h : Nat) : 0 ≤ E s h := S_nonneg fun i _ => e_nonneg s h i
theorem E_lt {s h : Nat} (hs : 0 < s) (hh : 0 < h) : E s h < 1 := by
  rw [E_eq hs hh]
  have h1 : 1 ≤ S h (c s h) := by
    rw [← c_zero s h]
    exact S_ge 0 hh fun i _ => c_nonneg s h i
  have h2 := inv_nonneg hs
  have h3 : 0 ≤ (S h (c s h) - 1) * (1 / (s : Rat)) := mul_nonneg (by grind) (by grind)
  have h4 : S h (c s h) / (s : Rat) = (S h (c s h) - 1) * (1 / (s : Rat)) + 1 / (s : Rat) := by grind
  grind
theorem nothing_ok {s h : Nat} (hs : 0 < s) : Ok (Uw96.nothing s h) := rest_ok (ends_sum_ok hs)
theorem nothing_q {s h : Nat} (hs : 0 < s) (hh : 0 < h) : q (Uw96.nothing s h) = 1 - E s h := by
  unfold Uw96.nothing
  have := E_lt hs hh
  rw [rest_q (ends_sum_ok hs) (by rw [ends_sum hs]; grind), ends_sum hs]
/-- twos alone come to every even sum within reach -/
theorem c_even {s h : Nat} (hs : 2 ≤ s) : ∀ k, 2 * k < h + 2 → 0 < c s h (2 * k)
  | 0, _ => by rw [c_zero]; decide
  | k + 1, hk => by
    have ih := c_even (h := h) hs k (by omega)
    rw [c_step (by omega) (by omega)]
    refine Rat.mul_pos (inv_nonneg (by omega)) ?_
    have h1 : (fun i => if i + 2 ≤ 2 * (k + 1) ∧ 2 * (k + 1) - (i + 2) < h then c s h (2 * (k + 1) - (i + 2)) else 0) 0 ≤ C s h h (2 * (k + 1)) := by
      unfold C
      refine S_ge (f := fun i => if i + 2 ≤ 2 * (k + 1) ∧ 2 * (k + 1) - (i + 2) < h then c s h (2 * (k + 1) - (i + 2)) else 0) 0 (by omega) fun i _ => ?_
      split
      · exact c_nonneg _ _ _
      · exact Rat.le_refl
    dsimp only at h1
    rw [if_pos (by omega), show 2 * (k + 1) - (0 + 2) = 2 * k by omega] at h1
    grind
theorem E_pos {s h : Nat} (hs : 2 ≤ s) (hh : 0 < h) : 0 < E s h := by
  have h1 := c_even (s := s) (h := h) hs ((h + 1) / 2) (by omega)
  have h2 : e s h (2 * ((h + 1) / 2) - h) ≤ E s h := S_ge _ (by omega) fun i _ => e_nonneg s h i
  unfold e at h2
  rw [show h + (2 * ((h + 1) / 2) - h) = 2 * ((h + 1) / 2) by omega] at h2
  grind
/-! ### the best of some -/
def bestN (better : Frac → Frac → Bool) (f : Nat → Frac) : Nat → Nat × Frac
  | 0 => (1, f 1)
  | n + 1 => if better (f (n + 2)) (bestN better f n).2 = true then (n + 2, f (n + 2)) else bestN better f n
theorem upTo_succ (n : Nat) : Uw96.upTo (n + 1) = Uw96.upTo n ++ [n + 1] := by
  unfold Uw96.upTo
  rw [List.range_succ, List.map_append]; rfl
theorem upTo_head : ∀ n, ∃ r, Uw96.upTo (n + 1) = 1 :: r
  | 0 => ⟨[], rfl⟩
  | n + 1 => by
    obtain ⟨r, hr⟩ := upTo_head n
    exact ⟨r ++ [n + 2], by rw [upTo_succ, hr]; rfl⟩
theorem bestOf_snoc (better : Frac → Frac → Bool) (f : Nat → Frac) (x y : Nat) (r : List Nat) : Uw96.bestOf better f (x :: r ++ [y]) = if better (f y) (Uw96.bestOf better f (x :: r)).2 = true then (y, f y) else Uw96.bestOf better f (x :: r) := by
  show (r ++ [y]).foldl _ _ = _
  rw [List.foldl_append]
  rfl
theorem bestOf_upTo (better : Frac → Frac → Bool) (f : Nat → Frac) : ∀ n, Uw96.bestOf better f (Uw96.upTo (n + 1)) = bestN better f n
  | 0 => rfl
  | n + 1 => by
    obtain ⟨r, hr⟩ := upTo_head n
    have ih := bestOf_upTo better f n
    rw [hr] at ih
    rw [upTo_succ, hr, bestOf_snoc, ih]
    rfl
/-! ### turns -/
def turnF (d : Die) (h x : Nat) (l : List Frac) : Frac :=
  Uw96.over (Uw96.plus Uw96.one (Uw96.sum ((Uw96.ends d.s (Uw96.heldAt d.t h x)).zipIdx.map fun y => if d.t ≤ x + (Uw96.heldAt d.t h x + y.2) then Uw96.zero else Uw96.times y.1 (l.getD (Uw96.heldAt d.t h x + y.2 - 1) Uw96.zero)))) (Uw96.sum (Uw96.ends d.s (Uw96.heldAt d.t h x)))
def turnL (d : Die) (h : Nat) : Nat → List Frac
  | 0 => []
  | n + 1 => turnF d h (d.t - 1 - n) (turnL d h n) :: turnL d h n
theorem turnsFrom_eq (d : Die) (h : Nat) : Uw96.turnsFrom d h = turnL d h d.t := by
  have : ∀ n, (List.range n).foldl (fun l i => turnF d h (d.t - 1 - i) l :: l) [] = turnL d h n := by
    intro n
    induction n with
    | zero => rfl
    | succ n ih => rw [List.range_succ, List.foldl_append, ih]; rfl
  exact this d.t
theorem turnL_length (d : Die) (h : Nat) : ∀ n, (turnL d h n).length = n
  | 0 => rfl
  | n + 1 => by
    show (_ :: turnL d h n).length = n + 1
    rw [List.length_cons, turnL_length d h n]
theorem heldAt_pos {t h x : Nat} (hh : 0 < h) (hx : x < t) : 0 < Uw96.heldAt t h x := by unfold Uw96.heldAt; omega
theorem turnF_ok {d : Die} {h x : Nat} {l : List Frac} (hs : 2 ≤ d.s) (hh : 0 < h) (hx : x < d.t) (hl : ∀ y ∈ l, Ok y) : Ok (turnF d h x l) := by
  have h1 := E_pos hs (heldAt_pos hh hx)
  refine over_ok (plus_ok one_ok (ends_zip_ok (by omega) fun i _ => ?_)) (ends_sum_ok (by omega)) (by rw [ends_sum (by omega)]; grind)
  split
  · exact zero_ok
  · exact times_ok (getD_ok (ends_ok (by omega)) _) (getD_ok hl _)
theorem turnL_ok {d : Die} {h : Nat} (hs : 2 ≤ d.s) (hh : 0 < h) : ∀ n, n ≤ d.t → ∀ y ∈ turnL d h n, Ok y
  | 0, _, y, hy => by cases hy
  | n + 1, hn, y, hy => by
    have ih := turnL_ok hs hh n (by omega)
    have hy : y ∈ turnF d h (d.t - 1 - n) (turnL d h n) :: turnL d h n := hy
    rcases List.mem_cons.mp hy with rfl | hy
    · exact turnF_ok hs hh (by omega) ih
    · exact ih y hy
theorem turnL_getD (d : Die) (h : Nat) {n : Nat} : ∀ m {i : Nat}, i < n → (turnL d h (n + m)).getD (m + i) Uw96.zero = (turnL d h n).getD i Uw96.zero
  | 0, i, _ => by rw [Nat.zero_add]; rfl
  | m + 1, i, hi => by
    show (_ :: turnL d h (n + m)).getD (m + 1 + i) Uw96.zero = _
    rw [show m + 1 + i = (m + i) + 1 by omega, List.getD_cons_succ, turnL_getD d h m hi]
/-- how many turns from x -/
def tv (d : Die) (h x : Nat) : Rat := q (Uw96.turns d h x)
theorem turns_ok {d : Die} {h : Nat} (hs : 2 ≤ d.s) (hh : 0 < h) (x : Nat) : Ok (Uw96.turns d h x) := by
  unfold Uw96.turns
  rw [turnsFrom_eq]
  exact getD_ok (turnL_ok hs hh _ (Nat.le_refl _)) x
theorem tv_step {d : Die} {h x : Nat} (hs : 2 ≤ d.s) (hh : 0 < h) (hx : x < d.t) :
    tv d h x = (1 + S d.s fun i => if d.t ≤ x + (Uw96.heldAt d.t h x + i) then 0 else e d.s (Uw96.heldAt d.t h x) i * tv d h (x + (Uw96.heldAt d.t h x + i))) / E d.s (Uw96.heldAt d.t h x) := by
  have hk := heldAt_pos hh hx
  have h1 := E_pos hs hk
  have hn : ∃ n, d.t = (n + 1) + x ∧ d.t - 1 - n = x := ⟨d.t - 1 - x, by omega, by omega⟩
  obtain ⟨n, hn, hn'⟩ := hn
  have e1 : Uw96.turns d h x = turnF d h x (turnL d h n) := by
    unfold Uw96.turns
    rw [turnsFrom_eq]
    have : turnL d h d.t = turnL d h ((n + 1) + x) := by rw [← hn]
    rw [this]
    refine Eq.trans (turnL_getD d h x (n := n + 1) (i := 0) (by omega)) ?_
    show (turnF d h (d.t - 1 - n) (turnL d h n) :: turnL d h n).getD 0 Uw96.zero = _
    rw [hn']; rfl
  have e2 : ∀ j, j < n → Uw96.turns d h (x + (j + 1)) = (turnL d h n).getD j Uw96.zero := by
    intro j hj
    unfold Uw96.turns
    rw [turnsFrom_eq]
    have : turnL d h d.t = turnL d h (n + (x + 1)) := by rw [show n + (x + 1) = d.t by omega]
    rw [this, show x + (j + 1) = (x + 1) + j by omega, turnL_getD d h (x + 1) hj]
  have hl := turnL_ok hs hh n (by omega)
  have ho : ∀ i, i < d.s → Ok (if d.t ≤ x + (Uw96.heldAt d.t h x + i) then Uw96.zero else Uw96.times ((Uw96.ends d.s (Uw96.heldAt d.t h x)).getD i Uw96.zero) ((turnL d h n).getD (Uw96.heldAt d.t h x + i - 1) Uw96.zero)) := by
    intro i hi
    split
    · exact zero_ok
    · exact times_ok (getD_ok (ends_ok (by omega)) _) (getD_ok hl _)
  unfold tv
  rw [e1]
  unfold turnF
  rw [over_q (plus_ok one_ok (ends_zip_ok (by omega) ho)) (ends_sum_ok (by omega)) (by rw [ends_sum (by omega)]; grind), ends_sum (by omega),
    plus_q one_ok (ends_zip_ok (by omega) ho), one_q, ends_zip_q (by omega) ho]
  congr 2
  apply S_congr
  intro i hi
  by_cases hc : d.t ≤ x + (Uw96.heldAt d.t h x + i)
  · rw [if_pos hc, if_pos hc, zero_q]
  · rw [if_neg hc, if_neg hc, times_q (getD_ok (ends_ok (by omega)) _) (getD_ok hl _), ends_e hi, ← e2 _ (by omega)]
    congr 3
    omega
end Dm
set_option linter.all false
namespace Dm
open Uw96 (Frac Die Table)
structure Good (z : Frac × Frac) : Prop where
  o1 : Ok z.1
  o2 : Ok z.2
  l1 : q z.1 ≤ 1
  l2 : q z.2 ≤ 1
theorem good_zero : Good (Uw96.zero, Uw96.zero) := ⟨zero_ok, zero_ok, by rw [zero_q]; decide, by rw [zero_q]; decide⟩
theorem getD_good {l : List (Frac × Frac)} (h : ∀ z ∈ l, Good z) (i : Nat) : Good (l.getD i (Uw96.zero, Uw96.zero)) := by
  rw [List.getD_eq_getElem?_getD]
  cases e : l[i]? with
  | none => exact good_zero
  | some x => exact h x (List.mem_of_getElem? e)
def AllGood (l : Table) : Prop := ∀ r ∈ l, ∀ z ∈ r, Good z
theorem at_good {l : Table} (h : AllGood l) (t x y : Nat) : Good (Uw96.at_ l t x y) := by
  unfold Uw96.at_
  refine getD_good ?_ _
  rw [List.getD_eq_getElem?_getD]
  cases e : l[t - 1 - x]? with
  | none => intro z hz; cases hz
  | some r => exact h r (List.mem_of_getElem? e)
/-- what comes of turns that bring something -/
def winQ (s t x k : Nat) (o : Nat → Rat) : Rat := S s fun i => e s k i * (if t ≤ x + k + i then 1 else 1 - o (x + k + i))
theorem winning_ok {s t x k : Nat} (hs : 0 < s) {o : Nat → Frac} (ho : ∀ z, Ok (o z)) : Ok (Uw96.winning t x k (Uw96.ends s k) o) := by
  unfold Uw96.winning
  refine ends_zip_ok hs fun i _ => times_ok (getD_ok (ends_ok hs) i) ?_
  split
  · exact one_ok
  · exact rest_ok (ho _)
theorem winning_q {s t x k : Nat} (hs : 0 < s) {o : Nat → Frac} (ho : ∀ z, Ok (o z)) (hl : ∀ z, q (o z) ≤ 1) : q (Uw96.winning t x k (Uw96.ends s k) o) = winQ s t x k fun z => q (o z) := by
  unfold Uw96.winning
  have h1 : ∀ i, i < s → Ok (Uw96.times ((Uw96.ends s k).getD i Uw96.zero) (if t ≤ x + k + i then Uw96.one else Uw96.rest (o (x + k + i)))) := by
    intro i _
    refine times_ok (getD_ok (ends_ok hs) i) ?_
    split
    · exact one_ok
    · exact rest_ok (ho _)
  rw [ends_zip_q hs h1]
  apply S_congr
  intro i hi
  have h2 : Ok (if t ≤ x + k + i then Uw96.one else Uw96.rest (o (x + k + i))) := by
    split
    · exact one_ok
    · exact rest_ok (ho _)
  show q (Uw96.times _ (if t ≤ x + k + i then Uw96.one else Uw96.rest (o (x + k + i)))) = _
  rw [times_q (getD_ok (ends_ok hs) i) h2, ends_e hi]
  congr 1
  split
  · exact one_q
  · exact rest_q (ho _) (hl _)
theorem winQ_nonneg {s t x k : Nat} {o : Nat → Rat} (hl : ∀ z, o z ≤ 1) : 0 ≤ winQ s t x k o := by
  unfold winQ
  refine S_nonneg fun i _ => mul_nonneg (e_nonneg s k i) ?_
  split
  · decide
  · have := hl (x + k + i); grind
theorem winQ_le {s t x k : Nat} {o : Nat → Rat} (h0 : ∀ z, 0 ≤ o z) : winQ s t x k o ≤ E s k := by
  unfold winQ E
  refine S_le fun i _ => ?_
  have h1 := e_nonneg s k i
  split
  · grind
  · have h2 := mul_nonneg h1 (h0 (x + k + i))
    grind
theorem winQ_congr {s t x k : Nat} {o o' : Nat → Rat} (h : ∀ z, x < z → z < t → o z = o' z) (hk : 0 < k) : winQ s t x k o = winQ s t x k o' := by
  unfold winQ
  apply S_congr
  intro i _
  split
  · rfl
  · rw [h _ (by omega) (by omega)]
/-- both stands at once -/
def vOf (p r c e : Rat) : Rat := (c + p * (1 - e - r)) / (1 - p * r)
theorem div_nonneg' {a b : Rat} (ha : 0 ≤ a) (hb : 0 < b) : 0 ≤ a / b := by
  apply Rat.not_lt.mp
  rw [Rat.div_lt_iff hb, Rat.not_lt]
  grind
theorem div_le_one' {a b : Rat} (ha : a ≤ b) (hb : 0 < b) : a / b ≤ 1 := by
  apply Rat.not_lt.mp
  rw [Rat.lt_div_iff hb, Rat.not_lt]
  grind
theorem pr_lt {p r : Rat} (hp0 : 0 ≤ p) (hp : p < 1) (hr0 : 0 ≤ r) (hr : r < 1) : 0 < 1 - p * r := by
  have h1 : 0 ≤ p * (1 - r) := mul_nonneg hp0 (by grind)
  grind
theorem vOf_nonneg {p r c e : Rat} (hp0 : 0 ≤ p) (hp : p < 1) (hr0 : 0 ≤ r) (hr : r < 1) (hc : 0 ≤ c) (he : e ≤ 1 - r) : 0 ≤ vOf p r c e := by
  unfold vOf
  refine div_nonneg' ?_ (pr_lt hp0 hp hr0 hr)
  have := mul_nonneg hp0 (show 0 ≤ 1 - e - r by grind)
  grind
theorem vOf_le {p r c e : Rat} (hp0 : 0 ≤ p) (hp : p < 1) (hr0 : 0 ≤ r) (hr : r < 1) (hc : c ≤ 1 - p) (he : 0 ≤ e) : vOf p r c e ≤ 1 := by
  unfold vOf
  refine div_le_one' ?_ (pr_lt hp0 hp hr0 hr)
  have := mul_nonneg hp0 he
  grind
section
variable {d : Die} {h g : Nat}
theorem cell_all {x y : Nat} {l : Table} {row : List (Frac × Frac)} (hs : 2 ≤ d.s) (hh : 0 < h) (hg : 0 < g) (hx : x < d.t) (hy : y < d.t) (hl : AllGood l) (hr : ∀ z ∈ row, Good z) :
    Good (Uw96.cell d h g x y l row) ∧
    q (Uw96.cell d h g x y l row).1 = vOf (1 - E d.s (Uw96.heldAt d.t h x)) (1 - E d.s (Uw96.heldAt d.t g y)) (winQ d.s d.t x (Uw96.heldAt d.t h x) fun z => q (Uw96.at_ l d.t z y).2) (winQ d.s d.t y (Uw96.heldAt d.t g y) fun z => q (row.getD (d.t - 1 - z) (Uw96.zero, Uw96.zero)).1) ∧
    q (Uw96.cell d h g x y l row).2 = vOf (1 - E d.s (Uw96.heldAt d.t g y)) (1 - E d.s (Uw96.heldAt d.t h x)) (winQ d.s d.t y (Uw96.heldAt d.t g y) fun z => q (row.getD (d.t - 1 - z) (Uw96.zero, Uw96.zero)).1) (winQ d.s d.t x (Uw96.heldAt d.t h x) fun z => q (Uw96.at_ l d.t z y).2) := by
  have hk := heldAt_pos hh hx
  have hm := heldAt_pos hg hy
  have s0 : 0 < d.s := by omega
  have p1 := E_pos hs hk
  have p2 := E_pos hs hm
  have p3 := E_lt s0 hk
  have p4 := E_lt s0 hm
  unfold Uw96.cell
  dsimp only
  generalize Uw96.heldAt d.t h x = k at *
  generalize Uw96.heldAt d.t g y = m at *
  have oc : ∀ z, Ok (Uw96.at_ l d.t z y).2 := fun z => (at_good hl _ _ _).o2
  have lc : ∀ z, q (Uw96.at_ l d.t z y).2 ≤ 1 := fun z => (at_good hl _ _ _).l2
  have oe : ∀ z, Ok (row.getD (d.t - 1 - z) (Uw96.zero, Uw96.zero)).1 := fun z => (getD_good hr _).o1
  have le : ∀ z, q (row.getD (d.t - 1 - z) (Uw96.zero, Uw96.zero)).1 ≤ 1 := fun z => (getD_good hr _).l1
  have C1 := winning_ok (t := d.t) (x := x) (k := k) s0 oc
  have C2 := winning_q (t := d.t) (x := x) (k := k) s0 oc lc
  have D1 := winning_ok (t := d.t) (x := y) (k := m) s0 oe
  have D2 := winning_q (t := d.t) (x := y) (k := m) s0 oe le
  have C3 := winQ_nonneg (s := d.s) (t := d.t) (x := x) (k := k) lc
  have C4 := winQ_le (s := d.s) (t := d.t) (x := x) (k := k) (o := fun z => q (Uw96.at_ l d.t z y).2) fun z => q_nonneg _
  have D3 := winQ_nonneg (s := d.s) (t := d.t) (x := y) (k := m) le
  have D4 := winQ_le (s := d.s) (t := d.t) (x := y) (k := m) (o := fun z => q (row.getD (d.t - 1 - z) (Uw96.zero, Uw96.zero)).1) fun z => q_nonneg _
  generalize Uw96.winning d.t x k (Uw96.ends d.s k) (fun z => (Uw96.at_ l d.t z y).2) = c at *
  generalize Uw96.winning d.t y m (Uw96.ends d.s m) (fun z => (row.getD (d.t - 1 - z) (Uw96.zero, Uw96.zero)).1) = e at *
  have P1 := nothing_ok (s := d.s) (h := k) s0
  have P2 := nothing_q (s := d.s) (h := k) s0 hk
  have R1 := nothing_ok (s := d.s) (h := m) s0
  have R2 := nothing_q (s := d.s) (h := m) s0 hm
  generalize Uw96.nothing d.s k = p at *
  generalize Uw96.nothing d.s m = r at *
  rw [← C2] at C3 C4
  rw [← D2] at D3 D4
  have hpr := pr_lt (p := q p) (r := q r) (by grind) (by grind) (by grind) (by grind)
  have hT1 := times_ok P1 R1
  have hT2 := times_q P1 R1
  have hT3 : q (Uw96.rest (Uw96.times p r)) = 1 - q p * q r := by rw [rest_q hT1 (by grind), hT2]
  have hT4 := rest_ok hT1
  have hne : q (Uw96.rest (Uw96.times p r)) ≠ 0 := by grind
  have a1 := plus_ok D1 R1
  have a2 : q (Uw96.rest (Uw96.plus e r)) = 1 - (q e + q r) := by rw [rest_q a1 (by rw [plus_q D1 R1]; grind), plus_q D1 R1]
  have a3 := times_ok P1 (rest_ok a1)
  have a4 := plus_ok C1 a3
  have a5 : q (Uw96.plus c (Uw96.times p (Uw96.rest (Uw96.plus e r)))) = q c + q p * (1 - (q e + q r)) := by rw [plus_q C1 a3, times_q P1 (rest_ok a1), a2]
  have b1 := plus_ok C1 P1
  have b2 : q (Uw96.rest (Uw96.plus c p)) = 1 - (q c + q p) := by rw [rest_q b1 (by rw [plus_q C1 P1]; grind), plus_q C1 P1]
  have b3 := times_ok R1 (rest_ok b1)
  have b4 := plus_ok D1 b3
  have b5 : q (Uw96.plus e (Uw96.times r (Uw96.rest (Uw96.plus c p)))) = q e + q r * (1 - (q c + q p)) := by rw [plus_q D1 b3, times_q R1 (rest_ok b1), b2]
  have v1 : q (Uw96.over (Uw96.plus c (Uw96.times p (Uw96.rest (Uw96.plus e r)))) (Uw96.rest (Uw96.times p r))) = vOf (q p) (q r) (q c) (q e) := by
    rw [over_q a4 hT4 hne, a5, hT3]; unfold vOf; grind
  have w1 : q (Uw96.over (Uw96.plus e (Uw96.times r (Uw96.rest (Uw96.plus c p)))) (Uw96.rest (Uw96.times p r))) = vOf (q r) (q p) (q e) (q c) := by
    rw [over_q b4 hT4 hne, b5, hT3]; unfold vOf; grind
  refine ⟨⟨over_ok a4 hT4 hne, over_ok b4 hT4 hne, ?_, ?_⟩, ?_, ?_⟩
  · dsimp only
    rw [v1]
    exact vOf_le (by grind) (by grind) (by grind) (by grind) (by grind) D3
  · dsimp only
    rw [w1]
    exact vOf_le (by grind) (by grind) (by grind) (by grind) (by grind) C3
  · rw [v1, P2, R2, C2, D2]
  · rw [w1, P2, R2, C2, D2]
end
/-! ### the table -/
def rowF (d : Die) (h g x : Nat) (l : Table) (row : List (Frac × Frac)) (j : Nat) : Frac × Frac := Uw96.cell d h g x (d.t - 1 - j) l row
def tabF (d : Die) (h g : Nat) (l : Table) (i : Nat) : List (Frac × Frac) := build (rowF d h g (d.t - 1 - i) l) d.t
theorem table_eq (d : Die) (h g : Nat) : Uw96.table d h g = build (tabF d h g) d.t := by
  have : ∀ (l : Table) i, (List.range d.t).foldl (fun row j => row ++ [Uw96.cell d h g (d.t - 1 - i) (d.t - 1 - j) l row]) [] = tabF d h g l i := fun l i => fold_build (rowF d h g (d.t - 1 - i) l) d.t
  unfold Uw96.table
  rw [← fold_build]
  congr 1
  funext l i
  rw [this]
section
variable {d : Die} {h g : Nat}
theorem row_good {x : Nat} {l : Table} (hs : 2 ≤ d.s) (hh : 0 < h) (hg : 0 < g) (hx : x < d.t) (hl : AllGood l) : ∀ n, n ≤ d.t → ∀ z ∈ build (rowF d h g x l) n, Good z := fun n hn =>
  build_all _ n fun j hj ih => (cell_all hs hh hg hx (by omega) hl ih).1
theorem tab_good (hs : 2 ≤ d.s) (hh : 0 < h) (hg : 0 < g) : ∀ n, n ≤ d.t → AllGood (build (tabF d h g) n) := fun n hn =>
  build_all (P := fun r => ∀ z ∈ r, Good z) _ n fun i hi ih => row_good hs hh hg (by omega) ih d.t (Nat.le_refl _)
def vq (d : Die) (h g x y : Nat) : Rat := q (Uw96.at_ (Uw96.table d h g) d.t x y).1
def wq (d : Die) (h g x y : Nat) : Rat := q (Uw96.at_ (Uw96.table d h g) d.t x y).2
theorem duel_v (x y : Nat) : q (Uw96.duel d h x g y) = vq d h g x y := rfl
theorem duel_ok (hs : 2 ≤ d.s) (hh : 0 < h) (hg : 0 < g) (x y : Nat) : Ok (Uw96.duel d h x g y) := by
  unfold Uw96.duel
  rw [table_eq]
  exact (at_good (tab_good hs hh hg _ (Nat.le_refl _)) _ _ _).o1
theorem vq_nonneg (x y : Nat) : 0 ≤ vq d h g x y := q_nonneg _
theorem wq_nonneg (x y : Nat) : 0 ≤ wq d h g x y := q_nonneg _
theorem vq_le (hs : 2 ≤ d.s) (hh : 0 < h) (hg : 0 < g) (x y : Nat) : vq d h g x y ≤ 1 := by
  unfold vq
  rw [table_eq]
  exact (at_good (tab_good hs hh hg _ (Nat.le_refl _)) _ _ _).l1
theorem wq_le (hs : 2 ≤ d.s) (hh : 0 < h) (hg : 0 < g) (x y : Nat) : wq d h g x y ≤ 1 := by
  unfold wq
  rw [table_eq]
  exact (at_good (tab_good hs hh hg _ (Nat.le_refl _)) _ _ _).l2
theorem at_build {n x y : Nat} (hx : x < d.t) (hn : d.t - 1 - x < n) (hn' : n ≤ d.t) : Uw96.at_ (build (tabF d h g) n) d.t x y = Uw96.at_ (build (tabF d h g) d.t) d.t x y := by
  unfold Uw96.at_
  rw [build_same _ _ hn (show d.t - 1 - x < d.t by omega)]
theorem at_cell {x y : Nat} (hx : x < d.t) (hy : y < d.t) :
    Uw96.at_ (Uw96.table d h g) d.t x y = Uw96.cell d h g x y (build (tabF d h g) (d.t - 1 - x)) (build (rowF d h g x (build (tabF d h g) (d.t - 1 - x))) (d.t - 1 - y)) := by
  rw [table_eq]
  unfold Uw96.at_
  rw [build_getD _ _ (show d.t - 1 - x < d.t by omega)]
  unfold tabF
  rw [show d.t - 1 - (d.t - 1 - x) = x by omega, build_getD _ _ (show d.t - 1 - y < d.t by omega)]
  unfold rowF
  rw [show d.t - 1 - (d.t - 1 - y) = y by omega]
theorem row_at {x z : Nat} {n : Nat} (hx : x < d.t) (hz : z < d.t) (hn : d.t - 1 - z < n) :
    (build (rowF d h g x (build (tabF d h g) (d.t - 1 - x))) n).getD (d.t - 1 - z) (Uw96.zero, Uw96.zero) = Uw96.at_ (Uw96.table d h g) d.t x z := by
  rw [at_cell hx hz, build_getD _ _ hn]
  unfold rowF
  rw [show d.t - 1 - (d.t - 1 - z) = z by omega]
/-- **the chances, each by those further on** -/
theorem vw_step {x y : Nat} (hs : 2 ≤ d.s) (hh : 0 < h) (hg : 0 < g) (hx : x < d.t) (hy : y < d.t) :
    vq d h g x y = vOf (1 - E d.s (Uw96.heldAt d.t h x)) (1 - E d.s (Uw96.heldAt d.t g y)) (winQ d.s d.t x (Uw96.heldAt d.t h x) fun z => wq d h g z y) (winQ d.s d.t y (Uw96.heldAt d.t g y) fun z => vq d h g x z) ∧
    wq d h g x y = vOf (1 - E d.s (Uw96.heldAt d.t g y)) (1 - E d.s (Uw96.heldAt d.t h x)) (winQ d.s d.t y (Uw96.heldAt d.t g y) fun z => vq d h g x z) (winQ d.s d.t x (Uw96.heldAt d.t h x) fun z => wq d h g z y) := by
  have hc := cell_all (x := x) (y := y) hs hh hg hx hy (tab_good hs hh hg (d.t - 1 - x) (by omega)) (row_good hs hh hg hx (tab_good hs hh hg (d.t - 1 - x) (by omega)) (d.t - 1 - y) (by omega))
  have w1 : (winQ d.s d.t x (Uw96.heldAt d.t h x) fun z => q (Uw96.at_ (build (tabF d h g) (d.t - 1 - x)) d.t z y).2) = winQ d.s d.t x (Uw96.heldAt d.t h x) fun z => wq d h g z y := by
    refine winQ_congr (fun z h1 h2 => ?_) (heldAt_pos hh hx)
    unfold wq
    rw [at_build h2 (by omega) (by omega), table_eq]
  have w2 : (winQ d.s d.t y (Uw96.heldAt d.t g y) fun z => q ((build (rowF d h g x (build (tabF d h g) (d.t - 1 - x))) (d.t - 1 - y)).getD (d.t - 1 - z) (Uw96.zero, Uw96.zero)).1) = winQ d.s d.t y (Uw96.heldAt d.t g y) fun z => vq d h g x z := by
    refine winQ_congr (fun z h1 h2 => ?_) (heldAt_pos hg hy)
    unfold vq
    rw [row_at hx h2 (by omega)]
  rw [w1, w2] at hc
  rw [show vq d h g x y = q (Uw96.at_ (Uw96.table d h g) d.t x y).1 from rfl, show wq d h g x y = q (Uw96.at_ (Uw96.table d h g) d.t x y).2 from rfl, at_cell hx hy]
  exact hc.2
end
end Dm
set_option linter.all false
namespace Dm
open Uw96 (Frac Die Table)
/-- whoever is at turn: the second one's chances are the first one's of the duel told the other way round -/
theorem vw_swap {d : Die} {h g : Nat} (hs : 2 ≤ d.s) (hh : 0 < h) (hg : 0 < g) : ∀ (n x y : Nat), x < d.t → y < d.t → (d.t - x) + (d.t - y) ≤ n → wq d h g x y = vq d g h y x ∧ vq d h g x y = wq d g h y x
  | 0, x, y, hx, hy, hn => by omega
  | n + 1, x, y, hx, hy, hn => by
    have a := vw_step (x := x) (y := y) hs hh hg hx hy
    have b := vw_step (x := y) (y := x) hs hg hh hy hx
    have w1 : (winQ d.s d.t x (Uw96.heldAt d.t h x) fun z => wq d h g z y) = winQ d.s d.t x (Uw96.heldAt d.t h x) fun z => vq d g h y z :=
      winQ_congr (fun z h1 h2 => (vw_swap hs hh hg n z y h2 hy (by omega)).1) (heldAt_pos hh hx)
    have w2 : (winQ d.s d.t y (Uw96.heldAt d.t g y) fun z => vq d h g x z) = winQ d.s d.t y (Uw96.heldAt d.t g y) fun z => wq d g h z x :=
      winQ_congr (fun z h1 h2 => (vw_swap hs hh hg n x z hx h2 (by omega)).2) (heldAt_pos hg hy)
    rw [a.1, a.2, b.1, b.2, w1, w2]
    exact ⟨rfl, rfl⟩
theorem wq_swap {d : Die} {h g x y : Nat} (hs : 2 ≤ d.s) (hh : 0 < h) (hg : 0 < g) (hx : x < d.t) (hy : y < d.t) : wq d h g x y = vq d g h y x := (vw_swap hs hh hg _ x y hx hy (Nat.le_refl _)).1
/-- one's own chance by the other's: v = c + p (1 - w) -/
theorem v_by_w {d : Die} {h g x y : Nat} (hs : 2 ≤ d.s) (hh : 0 < h) (hg : 0 < g) (hx : x < d.t) (hy : y < d.t) :
    vq d h g x y = (winQ d.s d.t x (Uw96.heldAt d.t h x) fun z => vq d g h y z) + (1 - E d.s (Uw96.heldAt d.t h x)) * (1 - vq d g h y x) := by
  have a := vw_step (x := x) (y := y) hs hh hg hx hy
  have w1 : (winQ d.s d.t x (Uw96.heldAt d.t h x) fun z => wq d h g z y) = winQ d.s d.t x (Uw96.heldAt d.t h x) fun z => vq d g h y z :=
    winQ_congr (fun z h1 h2 => wq_swap hs hh hg h2 hy) (heldAt_pos hh hx)
  rw [← wq_swap hs hh hg hx hy, a.1, a.2, w1]
  have s0 : 0 < d.s := by omega
  have p1 := E_pos hs (heldAt_pos hh hx)
  have p2 := E_pos hs (heldAt_pos hg hy)
  have p3 := E_lt s0 (heldAt_pos hh hx)
  have p4 := E_lt s0 (heldAt_pos hg hy)
  have hpr := pr_lt (p := 1 - E d.s (Uw96.heldAt d.t h x)) (r := 1 - E d.s (Uw96.heldAt d.t g y)) (by grind) (by grind) (by grind) (by grind)
  unfold vOf
  generalize 1 - E d.s (Uw96.heldAt d.t h x) = p at *
  generalize 1 - E d.s (Uw96.heldAt d.t g y) = r at *
  generalize (winQ d.s d.t x (Uw96.heldAt d.t h x) fun z => vq d g h y z) = c
  generalize (winQ d.s d.t y (Uw96.heldAt d.t g y) fun z => vq d h g x z) = e
  have hne : 1 - p * r ≠ 0 := by grind
  have hne' : 1 - r * p ≠ 0 := by grind
  grind
end Dm
set_option linter.all false
namespace Dm
open Uw96 (Frac Die Table)
theorem frac_div (a : Nat) {b : Nat} (hb : 0 < b) : Uw96.frac a b = ⟨a / Nat.gcd a b, b / Nat.gcd a b⟩ := by
  unfold Uw96.frac
  split
  · rename_i h
    subst h
    rw [Nat.gcd_zero_left, Nat.zero_div, Nat.div_self hb]
  · rfl
/-- a fraction by its worth -/
theorem frac_is {u l : Nat} {a : Frac} (hl : 0 < l) (ha : Ok a) (h : (u : Rat) / (l : Rat) = q a) : Uw96.frac u l = a :=
  (frac_ok u hl).ext ha (by rw [frac_q u hl]; exact h)
/-- how often the whole is shared -/
def kOf (h : Nat) : Nat := (h + 1) / 2
def W (s h n : Nat) : Nat := Wt s (kOf h) h n
theorem W_c {s h n : Nat} (hs : 0 < s) : (W s h n : Rat) = ((s ^ kOf h : Nat) : Rat) * c s h n := Wt_all hs (by unfold kOf; omega)
theorem W_zero {s h : Nat} (hs : 0 < s) : W s h 0 = s ^ kOf h := by
  have := W_c (s := s) (h := h) (n := 0) hs
  rw [c_zero] at this
  have e : (W s h 0 : Rat) = ((s ^ kOf h : Nat) : Rat) := by grind
  exact Rat.natCast_inj.mp e
theorem pow_pos' {s : Nat} (hs : 0 < s) (k : Nat) : 0 < s ^ k := Nat.pow_pos hs
def Sn : Nat → (Nat → Nat) → Nat
  | 0, _ => 0
  | n + 1, g => Sn n g + g n
theorem Sn_S (g : Nat → Nat) : ∀ n, (Sn n g : Rat) = S n fun i => (g i : Rat)
  | 0 => rfl
  | n + 1 => by simp only [Sn, S, Rat.natCast_add, Sn_S g n]
theorem brings_is {s h : Nat} (hs : 0 < s) : Uw96.frac (Sn s fun i => (h + i) * W s h (h + i)) (s ^ kOf h) = Uw96.brings s h := by
  refine frac_is (pow_pos' hs _) (brings_ok hs) ?_
  rw [brings_q hs, Sn_S]
  have hp := cast_ne (pow_pos' hs (kOf h))
  have : (S s fun i => (((h + i) * W s h (h + i) : Nat) : Rat)) = ((s ^ kOf h : Nat) : Rat) * S s fun i => e s h i * ((h + i : Nat) : Rat) := by
    rw [← S_mul]
    apply S_congr
    intro i _
    rw [Rat.natCast_mul, W_c hs]
    unfold e
    grind
  rw [this]
  grind
theorem ends_sumW {s h : Nat} (hs : 0 < s) : ((Sn s fun i => W s h (h + i) : Nat) : Rat) = ((s ^ kOf h : Nat) : Rat) * E s h := by
  rw [Sn_S]
  unfold E
  rw [← S_mul]
  apply S_congr
  intro i _
  exact W_c hs
theorem ends_sum_le {s h : Nat} (hs : 0 < s) (hh : 0 < h) : (Sn s fun i => W s h (h + i)) ≤ s ^ kOf h := by
  have h1 := ends_sumW (s := s) (h := h) hs
  have h2 := E_lt hs hh
  have h3 := cast_pos (pow_pos' hs (kOf h))
  have h4 : 0 ≤ ((s ^ kOf h : Nat) : Rat) * (1 - E s h) := mul_nonneg (by grind) (by grind)
  have h5 : ((Sn s fun i => W s h (h + i) : Nat) : Rat) ≤ ((s ^ kOf h : Nat) : Rat) := by grind
  exact_mod_cast h5
theorem nothing_is {s h : Nat} (hs : 0 < s) (hh : 0 < h) : Uw96.frac (s ^ kOf h - Sn s fun i => W s h (h + i)) (s ^ kOf h) = Uw96.nothing s h := by
  refine frac_is (pow_pos' hs _) (nothing_ok hs) ?_
  rw [nothing_q hs hh]
  have hp := cast_ne (pow_pos' hs (kOf h))
  have hle := ends_sum_le hs hh
  have e1 := ends_sumW (s := s) (h := h) hs
  have e2 : ((s ^ kOf h - (Sn s fun i => W s h (h + i)) : Nat) : Rat) = ((s ^ kOf h : Nat) : Rat) - ((Sn s fun i => W s h (h + i) : Nat) : Rat) := by
    have : s ^ kOf h = (s ^ kOf h - (Sn s fun i => W s h (h + i))) + (Sn s fun i => W s h (h + i)) := by omega
    have : ((s ^ kOf h : Nat) : Rat) = ((s ^ kOf h - (Sn s fun i => W s h (h + i)) : Nat) : Rat) + ((Sn s fun i => W s h (h + i) : Nat) : Rat) := by exact_mod_cast this
    grind
  rw [e2, e1]
  grind
theorem end_is {s h i : Nat} (hs : 0 < s) (hi : i < s) : Uw96.frac (W s h (h + i)) (s ^ kOf h) = (Uw96.ends s h).getD i Uw96.zero := by
  refine frac_is (pow_pos' hs _) (getD_ok (ends_ok hs) i) ?_
  rw [ends_e hi, W_c hs]
  have hp := cast_ne (pow_pos' hs (kOf h))
  unfold e
  grind
theorem frac_zero {u l : Nat} (hl : 0 < l) : Uw96.frac u l = Uw96.zero ↔ u = 0 := by
  constructor
  · intro h
    have := frac_q u hl
    rw [h, zero_q] at this
    have hp := cast_ne hl
    have e : (u : Rat) = 0 := by grind
    exact_mod_cast e
  · rintro rfl
    rfl
theorem throws_is {s h : Nat} (hs : 0 < s) : Uw96.frac (Sn h fun i => W s h i) (s ^ kOf h) = Uw96.throws s h := by
  refine frac_is (pow_pos' hs _) (throws_ok hs) ?_
  rw [throws_q hs, Sn_S]
  have hp := cast_ne (pow_pos' hs (kOf h))
  have : (S h fun i => ((W s h i : Nat) : Rat)) = ((s ^ kOf h : Nat) : Rat) * S h (c s h) := by
    rw [← S_mul]
    apply S_congr
    intro i _
    exact W_c hs
  rw [this]
  grind
/-! ### bounds -/
theorem S_one : ∀ m, (S m fun _ => 1) = (m : Rat)
  | 0 => rfl
  | m + 1 => by simp only [S, S_one m, Rat.natCast_add]; rfl
theorem c_le {s h : Nat} (hs : 0 < s) (n : Nat) : c s h n ≤ 1 := by
  induction n using Nat.strongRecOn with
  | _ n ih =>
    by_cases h0 : n = 0
    · subst h0; rw [c_zero]; exact Rat.le_refl
    · rw [c_step hs (by omega)]
      have h1 : C s h h n ≤ S (s - 1) fun _ => 1 := by
        unfold C
        refine S_le fun i hi => ?_
        split
        · exact ih _ (by omega)
        · decide
      rw [S_one] at h1
      have h3 := inv_nonneg hs
      have h4 := cast_ne hs
      have h5 := cast_pred hs
      have h6 : 0 ≤ 1 / (s : Rat) * (((s - 1 : Nat) : Rat) - C s h h n) := mul_nonneg (by grind) (by grind)
      have h7 : 1 / (s : Rat) * (((s - 1 : Nat) : Rat) - C s h h n) = 1 - 1 / (s : Rat) - 1 / (s : Rat) * C s h h n := by rw [h5]; grind
      rw [h7] at h6
      generalize 1 / (s : Rat) * C s h h n = z at *
      generalize 1 / (s : Rat) = y at *
      grind
theorem W_le {s h : Nat} (n : Nat) (hs : 0 < s) : W s h n ≤ s ^ kOf h := by
  have h1 := W_c (s := s) (h := h) (n := n) hs
  have h2 := c_le (h := h) hs n
  have h3 := cast_pos (pow_pos' hs (kOf h))
  have h4 : 0 ≤ ((s ^ kOf h : Nat) : Rat) * (1 - c s h n) := mul_nonneg (by grind) (by grind)
  have h5 : ((W s h n : Nat) : Rat) ≤ ((s ^ kOf h : Nat) : Rat) := by grind
  exact_mod_cast h5
theorem pow_le {s h : Nat} (hs : s ≤ 10) (hh : h ≤ 100) : s ^ kOf h ≤ 10 ^ 50 := Nat.le_trans (Nat.pow_le_pow_left hs _) (Nat.pow_le_pow_right (by decide) (by unfold kOf; omega))
theorem best_is (s n : Nat) : Uw96.best s (n + 1) = bestN (fun a b => Uw96.less b a) (Uw96.brings s) n := bestOf_upTo _ _ n
end Dm
set_option linter.all false
namespace Dm
open Uw96 (Frac Die Table Call)
/-! ### how big the fractions are -/
/-- r times M is a whole number that isn't below 0 -/
def IsN (M : Nat) (r : Rat) : Prop := ∃ n : Nat, r * (M : Rat) = (n : Rat)
theorem IsN.add {M : Nat} {a b : Rat} (ha : IsN M a) (hb : IsN M b) : IsN M (a + b) := by
  obtain ⟨m, hm⟩ := ha
  obtain ⟨n, hn⟩ := hb
  refine ⟨m + n, ?_⟩
  rw [Rat.natCast_add, ← hm, ← hn]
  grind
theorem IsN.mul {M N : Nat} {a b : Rat} (ha : IsN M a) (hb : IsN N b) : IsN (M * N) (a * b) := by
  obtain ⟨m, hm⟩ := ha
  obtain ⟨n, hn⟩ := hb
  refine ⟨m * n, ?_⟩
  rw [Rat.natCast_mul, Rat.natCast_mul, ← hm, ← hn]
  grind
theorem IsN.up {M N : Nat} {a : Rat} (ha : IsN M a) (h : M ∣ N) : IsN N a := by
  obtain ⟨m, hm⟩ := ha
  obtain ⟨k, rfl⟩ := h
  refine ⟨m * k, ?_⟩
  rw [Rat.natCast_mul, Rat.natCast_mul, ← hm]
  grind
theorem IsN.rest {M : Nat} {a : Rat} (ha : IsN M a) (h : a ≤ 1) : IsN M (1 - a) := by
  obtain ⟨m, hm⟩ := ha
  have hM : (0 : Rat) ≤ (M : Rat) := by exact_mod_cast Nat.zero_le M
  have h1 : 0 ≤ (1 - a) * (M : Rat) := mul_nonneg (by grind) hM
  have h2 : (m : Rat) ≤ (M : Rat) := by grind
  have h2 : m ≤ M := by exact_mod_cast h2
  refine ⟨M - m, ?_⟩
  have : (M : Rat) = ((M - m : Nat) : Rat) + (m : Rat) := by
    have : M = (M - m) + m := by omega
    exact_mod_cast this
  grind
theorem IsN.zero (M : Nat) : IsN M 0 := ⟨0, by simp only [Rat.natCast_ofNat]; grind⟩
theorem IsN.one (M : Nat) : IsN M 1 := ⟨M, by grind⟩
theorem IsN.sum {M : Nat} {f : Nat → Rat} : ∀ {n : Nat}, (∀ i, i < n → IsN M (f i)) → IsN M (S n f)
  | 0, _ => IsN.zero M
  | n + 1, h => (IsN.sum (f := f) (n := n) fun i hi => h i (by omega)).add (h n (by omega))
theorem IsN.low {M : Nat} {a : Frac} (ha : Ok a) (h : IsN M (q a)) : a.l ∣ M := by
  obtain ⟨n, hn⟩ := h
  have e1 := cast_ne ha.pos
  have e : (a.u : Rat) * (M : Rat) = (n : Rat) * (a.l : Rat) := by
    unfold q at hn
    grind
  have e : a.u * M = n * a.l := by exact_mod_cast e
  exact (Nat.Coprime.symm ha.cop).dvd_of_dvd_mul_left ⟨n, by rw [e, Nat.mul_comm]⟩
theorem e_isN {s k i : Nat} (hs : 0 < s) : IsN (s ^ kOf k) (e s k i) := ⟨W s k (k + i), by rw [W_c hs]; unfold e; grind⟩
theorem E_isN {s k : Nat} (hs : 0 < s) : IsN (s ^ kOf k) (E s k) := IsN.sum fun i _ => e_isN hs
/-- what the numbers of a row leave: the whole less both losses -/
def loss (s k : Nat) : Nat := s ^ kOf k - Sn s fun i => W s k (k + i)
theorem loss_q {s k : Nat} (hs : 0 < s) (hk : 0 < k) : (1 - E s k) * ((s ^ kOf k : Nat) : Rat) = (loss s k : Rat) := by
  have h1 := ends_sumW (s := s) (h := k) hs
  have h2 := ends_sum_le hs hk
  have : ((s ^ kOf k : Nat) : Rat) = (loss s k : Rat) + ((Sn s fun i => W s k (k + i) : Nat) : Rat) := by
    have : s ^ kOf k = loss s k + (Sn s fun i => W s k (k + i)) := by unfold loss; omega
    exact_mod_cast this
  grind
def both (s k m : Nat) : Nat := s ^ kOf k * s ^ kOf m - loss s k * loss s m
theorem loss_lt {s k : Nat} (hs : 2 ≤ s) (hk : 0 < k) : loss s k < s ^ kOf k := by
  have h1 := loss_q (s := s) (k := k) (by omega) hk
  have h2 := E_pos hs hk
  have h3 := cast_pos (pow_pos' (show 0 < s by omega) (kOf k))
  have h4 := Rat.mul_pos h2 h3
  have : (loss s k : Rat) < ((s ^ kOf k : Nat) : Rat) := by grind
  exact_mod_cast this
theorem both_q {s k m : Nat} (hs : 2 ≤ s) (hk : 0 < k) (hm : 0 < m) : (1 - (1 - E s k) * (1 - E s m)) * (((s ^ kOf k : Nat) : Rat) * ((s ^ kOf m : Nat) : Rat)) = (both s k m : Rat) := by
  have h1 := loss_q (s := s) (k := k) (by omega) hk
  have h2 := loss_q (s := s) (k := m) (by omega) hm
  have h3 := loss_lt hs hk
  have h4 := loss_lt hs hm
  have h5 : loss s k * loss s m ≤ s ^ kOf k * s ^ kOf m := Nat.mul_le_mul (Nat.le_of_lt h3) (Nat.le_of_lt h4)
  have : ((s ^ kOf k : Nat) : Rat) * ((s ^ kOf m : Nat) : Rat) = (both s k m : Rat) + (loss s k : Rat) * (loss s m : Rat) := by
    have : s ^ kOf k * s ^ kOf m = both s k m + loss s k * loss s m := by unfold both; omega
    exact_mod_cast this
  grind
theorem both_pos {s k m : Nat} (hs : 2 ≤ s) (hk : 0 < k) (hm : 0 < m) : 0 < both s k m := by
  have h3 := loss_lt hs hk
  have h4 := loss_lt hs hm
  have : loss s k * loss s m < s ^ kOf k * s ^ kOf m := Nat.mul_lt_mul_of_lt_of_le h3 (Nat.le_of_lt h4) (by omega)
  unfold both
  omega
theorem winQ_isN {s t x k M : Nat} {o : Nat → Rat} (hs : 0 < s) (hk : 0 < k) (ho : ∀ z, x < z → z < t → IsN M (o z)) (hl : ∀ z, o z ≤ 1) : IsN (s ^ kOf k * M) (winQ s t x k o) := by
  unfold winQ
  refine IsN.sum fun i _ => (e_isN hs).mul ?_
  split
  · exact IsN.one M
  · exact (ho _ (by omega) (by omega)).rest (hl _)
theorem vOf_isN {s k m M : Nat} {c e : Rat} (hs : 2 ≤ s) (hk : 0 < k) (hm : 0 < m) (hc : IsN (s ^ kOf k * M) c) (he : IsN (s ^ kOf m * M) e) (hle : e ≤ E s m) : IsN (both s k m * M) (vOf (1 - E s k) (1 - E s m) c e) := by
  have s0 : 0 < s := by omega
  have hpr : 0 < 1 - (1 - E s k) * (1 - E s m) := pr_lt (by have := E_lt s0 hk; grind) (by have := E_pos hs hk; grind) (by have := E_lt s0 hm; grind) (by have := E_pos hs hm; grind)
  have hb := both_q hs hk hm
  -- the number above
  have h1 : IsN (s ^ kOf k) (1 - E s k) := (E_isN s0).rest (by have := E_lt s0 hk; grind)
  have h2 : IsN (s ^ kOf m * M) (1 - e - (1 - E s m)) := by
    obtain ⟨n1, e1⟩ := (E_isN (s := s) (k := m) s0).up (Nat.dvd_mul_right (s ^ kOf m) M)
    obtain ⟨n2, e2⟩ := he
    have hM : (0 : Rat) ≤ ((s ^ kOf m * M : Nat) : Rat) := by exact_mod_cast Nat.zero_le _
    have h3 : 0 ≤ (E s m - e) * ((s ^ kOf m * M : Nat) : Rat) := mul_nonneg (by grind) hM
    have h4 : (n2 : Rat) ≤ (n1 : Rat) := by grind
    have h4 : n2 ≤ n1 := by exact_mod_cast h4
    refine ⟨n1 - n2, ?_⟩
    have : (n1 : Rat) = ((n1 - n2 : Nat) : Rat) + (n2 : Rat) := by
      have : n1 = (n1 - n2) + n2 := by omega
      exact_mod_cast this
    grind
  have h5 : IsN (s ^ kOf k * (s ^ kOf m * M)) (c + (1 - E s k) * (1 - e - (1 - E s m))) := by
    refine IsN.add (hc.up ?_) (h1.mul h2)
    exact Nat.mul_dvd_mul_left _ (Nat.dvd_mul_left _ _)
  obtain ⟨n, hn⟩ := h5
  refine ⟨n, ?_⟩
  unfold vOf
  have hne : 1 - (1 - E s k) * (1 - E s m) ≠ 0 := by grind
  rw [Rat.natCast_mul, ← hb, ← hn]
  simp only [Rat.natCast_mul]
  grind
section
variable (d : Die) (h g : Nat)
/-- what a stand's chances are divided by -/
def cellN (x y : Nat) : Nat := both d.s (Uw96.heldAt d.t h x) (Uw96.heldAt d.t g y)
def rowP (x : Nat) : Nat → Nat
  | 0 => 1
  | j + 1 => cellN d h g x (d.t - 1 - j) * rowP x j
def tabP : Nat → Nat → Nat
  | 0, _ => 1
  | i + 1, j => rowP d h g (d.t - 1 - i) j * tabP i j
end
section
variable {d : Die} {h g : Nat}
theorem rowP_dvd (x : Nat) {j : Nat} : ∀ m, rowP d h g x j ∣ rowP d h g x (j + m)
  | 0 => Nat.dvd_refl _
  | m + 1 => Nat.dvd_trans (rowP_dvd x m) (Nat.dvd_mul_left _ _)
theorem tabP_dvd_j {j : Nat} (m : Nat) : ∀ i, tabP d h g i j ∣ tabP d h g i (j + m)
  | 0 => Nat.dvd_refl _
  | i + 1 => Nat.mul_dvd_mul (rowP_dvd _ m) (tabP_dvd_j m i)
theorem tabP_dvd_i {i j : Nat} : ∀ m, tabP d h g i j ∣ tabP d h g (i + m) j
  | 0 => Nat.dvd_refl _
  | m + 1 => Nat.dvd_trans (tabP_dvd_i m) (Nat.dvd_mul_left _ _)
theorem tabP_dvd {i j i' j' : Nat} (hi : i ≤ i') (hj : j ≤ j') : tabP d h g i j ∣ tabP d h g i' j' := by
  have a := tabP_dvd_i (d := d) (h := h) (g := g) (i := i) (j := j) (i' - i)
  have b := tabP_dvd_j (d := d) (h := h) (g := g) (j := j) (j' - j) i'
  rw [show i + (i' - i) = i' by omega] at a
  rw [show j + (j' - j) = j' by omega] at b
  exact Nat.dvd_trans a b
theorem vw_isN (hs : 2 ≤ d.s) (hh : 0 < h) (hg : 0 < g) : ∀ (n x y : Nat), x < d.t → y < d.t → (d.t - x) + (d.t - y) ≤ n → IsN (tabP d h g (d.t - x) (d.t - y)) (vq d h g x y) ∧ IsN (tabP d h g (d.t - x) (d.t - y)) (wq d h g x y)
  | 0, x, y, hx, hy, hn => by omega
  | n + 1, x, y, hx, hy, hn => by
    have s0 : 0 < d.s := by omega
    have hk := heldAt_pos hh hx
    have hm := heldAt_pos hg hy
    have a := vw_step (x := x) (y := y) hs hh hg hx hy
    have ex : d.t - x = (d.t - x - 1) + 1 := by omega
    have ey : d.t - y = (d.t - y - 1) + 1 := by omega
    -- the others' common one
    have hM : ∃ M, M = rowP d h g x (d.t - y - 1) * tabP d h g (d.t - x - 1) (d.t - y) ∧ tabP d h g (d.t - x) (d.t - y) = cellN d h g x y * M := by
      refine ⟨_, rfl, ?_⟩
      have e1 : tabP d h g (d.t - x) (d.t - y) = rowP d h g (d.t - 1 - (d.t - x - 1)) (d.t - y) * tabP d h g (d.t - x - 1) (d.t - y) := by
        conv => lhs; rw [ex]
        rfl
      have e2 : rowP d h g x (d.t - y) = cellN d h g x (d.t - 1 - (d.t - y - 1)) * rowP d h g x (d.t - y - 1) := by
        conv => lhs; rw [ey]
        rfl
      rw [e1, show d.t - 1 - (d.t - x - 1) = x by omega, e2, show d.t - 1 - (d.t - y - 1) = y by omega, Nat.mul_assoc]
    obtain ⟨M, hM1, hM2⟩ := hM
    have hw : ∀ z, x < z → z < d.t → IsN M (wq d h g z y) := fun z h1 h2 => by
      refine (vw_isN hs hh hg n z y h2 hy (by omega)).2.up ?_
      rw [hM1]
      exact Nat.dvd_trans (tabP_dvd (by omega) (Nat.le_refl _)) (Nat.dvd_mul_left _ _)
    have hv : ∀ z, y < z → z < d.t → IsN M (vq d h g x z) := fun z h1 h2 => by
      refine (vw_isN hs hh hg n x z hx h2 (by omega)).1.up ?_
      rw [hM1]
      have e1 : tabP d h g (d.t - x) (d.t - z) = rowP d h g (d.t - 1 - (d.t - x - 1)) (d.t - z) * tabP d h g (d.t - x - 1) (d.t - z) := by
        conv => lhs; rw [ex]
        rfl
      rw [e1, show d.t - 1 - (d.t - x - 1) = x by omega]
      refine Nat.mul_dvd_mul ?_ (tabP_dvd (Nat.le_refl _) (by omega))
      have := rowP_dvd (d := d) (h := h) (g := g) x (j := d.t - z) (d.t - y - 1 - (d.t - z))
      rw [show d.t - z + (d.t - y - 1 - (d.t - z)) = d.t - y - 1 by omega] at this
      exact this
    have c1 := winQ_isN (s := d.s) (t := d.t) (x := x) (k := Uw96.heldAt d.t h x) (M := M) (o := fun z => wq d h g z y) s0 hk hw (fun z => wq_le hs hh hg z y)
    have c2 := winQ_isN (s := d.s) (t := d.t) (x := y) (k := Uw96.heldAt d.t g y) (M := M) (o := fun z => vq d h g x z) s0 hm hv (fun z => vq_le hs hh hg x z)
    have l1 := winQ_le (s := d.s) (t := d.t) (x := x) (k := Uw96.heldAt d.t h x) (o := fun z => wq d h g z y) fun z => wq_nonneg z y
    have l2 := winQ_le (s := d.s) (t := d.t) (x := y) (k := Uw96.heldAt d.t g y) (o := fun z => vq d h g x z) fun z => vq_nonneg x z
    rw [a.1, a.2, hM2]
    refine ⟨vOf_isN hs hk hm c1 c2 l2, ?_⟩
    have := vOf_isN hs hm hk c2 c1 l1
    unfold cellN
    rw [show both d.s (Uw96.heldAt d.t h x) (Uw96.heldAt d.t g y) = both d.s (Uw96.heldAt d.t g y) (Uw96.heldAt d.t h x) by unfold both; rw [Nat.mul_comm, Nat.mul_comm (loss _ _)]]
    exact this
theorem kOf5 {t h x : Nat} (ht : t ≤ 10) : kOf (Uw96.heldAt t h x) ≤ 5 := by
  unfold kOf Uw96.heldAt
  omega
theorem cellN_le (hs : d.s ≤ 10) (s0 : 0 < d.s) (ht : d.t ≤ 10) (x y : Nat) : cellN d h g x y ≤ 10 ^ 10 := by
  have h1 : d.s ^ kOf (Uw96.heldAt d.t h x) ≤ 10 ^ 5 := Nat.le_trans (Nat.pow_le_pow_left hs _) (Nat.pow_le_pow_right (by decide) (kOf5 ht))
  have h2 : d.s ^ kOf (Uw96.heldAt d.t g y) ≤ 10 ^ 5 := Nat.le_trans (Nat.pow_le_pow_left hs _) (Nat.pow_le_pow_right (by decide) (kOf5 ht))
  unfold cellN both
  refine Nat.le_trans (Nat.sub_le _ _) (Nat.le_trans (Nat.mul_le_mul h1 h2) (by decide))
theorem rowP_le (hs : d.s ≤ 10) (s0 : 0 < d.s) (ht : d.t ≤ 10) (x : Nat) : ∀ j, rowP d h g x j ≤ (10 ^ 10) ^ j
  | 0 => Nat.le_refl _
  | j + 1 => by
    show cellN d h g x _ * rowP d h g x j ≤ _
    rw [Nat.pow_succ, Nat.mul_comm]
    exact Nat.mul_le_mul (rowP_le hs s0 ht x j) (cellN_le hs s0 ht _ _)
theorem tabP_le (hs : d.s ≤ 10) (s0 : 0 < d.s) (ht : d.t ≤ 10) (j : Nat) : ∀ i, tabP d h g i j ≤ ((10 ^ 10) ^ j) ^ i
  | 0 => Nat.le_refl _
  | i + 1 => by
    show rowP d h g _ j * tabP d h g i j ≤ _
    rw [Nat.pow_succ, Nat.mul_comm]
    exact Nat.mul_le_mul (tabP_le hs s0 ht j i) (rowP_le hs s0 ht _ j)
theorem tabP_pos (hs : 2 ≤ d.s) (hh : 0 < h) (hg : 0 < g) : ∀ i j, i ≤ d.t → j ≤ d.t → 0 < tabP d h g i j := by
  have hr : ∀ x, x < d.t → ∀ j, j ≤ d.t → 0 < rowP d h g x j := by
    intro x hx j
    induction j with
    | zero => intro _; exact Nat.zero_lt_one
    | succ j ih =>
      intro hj
      exact Nat.mul_pos (both_pos hs (heldAt_pos hh hx) (heldAt_pos hg (by omega))) (ih (by omega))
  intro i
  induction i with
  | zero => intro j _ _; exact Nat.zero_lt_one
  | succ i ih =>
    intro j hi hj
    exact Nat.mul_pos (hr _ (by omega) j hj) (ih j (by omega) hj)
/-- a duel's fraction is no bigger than that -/
theorem duel_le (hs : 2 ≤ d.s) (hs' : d.s ≤ 10) (ht : d.t ≤ 10) (hh : 0 < h) (hg : 0 < g) {x y : Nat} (hx : x < d.t) (hy : y < d.t) : (Uw96.duel d h x g y).l ≤ 10 ^ 1000 ∧ (Uw96.duel d h x g y).u ≤ 10 ^ 1000 := by
  have ok := duel_ok (d := d) hs hh hg x y
  have h1 := IsN.low ok (by rw [duel_v]; exact (vw_isN hs hh hg _ x y hx hy (Nat.le_refl _)).1)
  have h2 : (Uw96.duel d h x g y).l ≤ 10 ^ 1000 := by
    refine Nat.le_trans (Nat.le_of_dvd (tabP_pos hs hh hg _ _ (by omega) (by omega)) h1) ?_
    refine Nat.le_trans (tabP_le hs' (by omega) ht _ _) ?_
    rw [← Nat.pow_mul, ← Nat.pow_mul]
    refine Nat.pow_le_pow_right (by decide) ?_
    have e1 : d.t - x ≤ 10 := by omega
    have e2 : d.t - y ≤ 10 := by omega
    have := Nat.mul_le_mul e2 e1
    exact Nat.le_trans (Nat.mul_le_mul_left 10 this) (by decide)
  have h3 := (q_le_one ok).mp (by rw [duel_v]; exact vq_le hs hh hg x y)
  exact ⟨h2, Nat.le_trans h3 h2⟩
/-! ### turns -/
/-- what is left of a row -/
def gain (s k : Nat) : Nat := Sn s fun i => W s k (k + i)
theorem gain_q {s k : Nat} (hs : 0 < s) : E s k * ((s ^ kOf k : Nat) : Rat) = (gain s k : Rat) := by
  have h1 := ends_sumW (s := s) (h := k) hs
  unfold gain
  grind
theorem gain_pos {s k : Nat} (hs : 2 ≤ s) (hk : 0 < k) : 0 < gain s k := by
  have h1 := gain_q (s := s) (k := k) (by omega)
  have h2 := E_pos hs hk
  have h3 := cast_pos (pow_pos' (show 0 < s by omega) (kOf k))
  have h4 := Rat.mul_pos h2 h3
  rw [h1] at h4
  exact_mod_cast h4
def turnP (d : Die) (h : Nat) : Nat → Nat
  | 0 => 1
  | i + 1 => gain d.s (Uw96.heldAt d.t h (d.t - 1 - i)) * turnP d h i
theorem turnP_dvd {i : Nat} : ∀ m, turnP d h i ∣ turnP d h (i + m)
  | 0 => Nat.dvd_refl _
  | m + 1 => Nat.dvd_trans (turnP_dvd m) (Nat.dvd_mul_left _ _)
theorem tv_isN (hs : 2 ≤ d.s) (hh : 0 < h) : ∀ (n x : Nat), x < d.t → d.t - x ≤ n → IsN (turnP d h (d.t - x)) (tv d h x)
  | 0, x, hx, hn => by omega
  | n + 1, x, hx, hn => by
    have s0 : 0 < d.s := by omega
    have hk := heldAt_pos hh hx
    have ex : d.t - x = (d.t - x - 1) + 1 := by omega
    have e1 : turnP d h (d.t - x) = gain d.s (Uw96.heldAt d.t h x) * turnP d h (d.t - x - 1) := by
      have : turnP d h (d.t - x) = gain d.s (Uw96.heldAt d.t h (d.t - 1 - (d.t - x - 1))) * turnP d h (d.t - x - 1) := by
        conv => lhs; rw [ex]
        rfl
      rw [this, show d.t - 1 - (d.t - x - 1) = x by omega]
    rw [tv_step hs hh hx, e1]
    have h1 : IsN (d.s ^ kOf (Uw96.heldAt d.t h x) * turnP d h (d.t - x - 1)) (1 + S d.s fun i => if d.t ≤ x + (Uw96.heldAt d.t h x + i) then 0 else e d.s (Uw96.heldAt d.t h x) i * tv d h (x + (Uw96.heldAt d.t h x + i))) := by
      refine (IsN.one _).add (IsN.sum fun i _ => ?_)
      split
      · exact IsN.zero _
      · refine (e_isN s0).mul ((tv_isN hs hh n _ (by omega) (by omega)).up ?_)
        have := turnP_dvd (d := d) (h := h) (i := d.t - (x + (Uw96.heldAt d.t h x + i))) (d.t - x - 1 - (d.t - (x + (Uw96.heldAt d.t h x + i))))
        rw [show d.t - (x + (Uw96.heldAt d.t h x + i)) + (d.t - x - 1 - (d.t - (x + (Uw96.heldAt d.t h x + i)))) = d.t - x - 1 by omega] at this
        exact this
    obtain ⟨m, hm⟩ := h1
    refine ⟨m, ?_⟩
    have hE := E_pos hs hk
    have hne : E d.s (Uw96.heldAt d.t h x) ≠ 0 := by grind
    rw [Rat.natCast_mul, ← gain_q s0, ← hm]
    simp only [Rat.natCast_mul]
    grind
theorem gain_le {t h x : Nat} {s : Nat} (hs : s ≤ 10) (s0 : 0 < s) (ht : t ≤ 10) (hk : 0 < Uw96.heldAt t h x) : gain s (Uw96.heldAt t h x) ≤ 10 ^ 5 := by
  refine Nat.le_trans (ends_sum_le s0 hk) ?_
  exact Nat.le_trans (Nat.pow_le_pow_left hs _) (Nat.pow_le_pow_right (by decide) (kOf5 ht))
theorem turnP_le (hs : d.s ≤ 10) (s0 : 0 < d.s) (ht : d.t ≤ 10) (hh : 0 < h) : ∀ i, i ≤ d.t → turnP d h i ≤ (10 ^ 5) ^ i
  | 0, _ => Nat.le_refl _
  | i + 1, hi => by
    show gain d.s _ * turnP d h i ≤ _
    rw [Nat.pow_succ, Nat.mul_comm]
    exact Nat.mul_le_mul (turnP_le hs s0 ht hh i (by omega)) (gain_le hs s0 ht (heldAt_pos hh (by omega)))
theorem turnP_pos (hs : 2 ≤ d.s) (hh : 0 < h) : ∀ i, i ≤ d.t → 0 < turnP d h i
  | 0, _ => Nat.zero_lt_one
  | i + 1, hi => Nat.mul_pos (gain_pos hs (heldAt_pos hh (by omega))) (turnP_pos hs hh i (by omega))
theorem tv_nonneg (x : Nat) : 0 ≤ tv d h x := q_nonneg _
/-- no more than so many turns -/
theorem tv_le (hs : 2 ≤ d.s) (hs' : d.s ≤ 10) (ht : d.t ≤ 10) (hh : 0 < h) : ∀ (n x : Nat), x < d.t → d.t - x ≤ n → tv d h x ≤ ((10 ^ 5 * (d.t - x) : Nat) : Rat)
  | 0, x, hx, hn => by omega
  | n + 1, x, hx, hn => by
    have s0 : 0 < d.s := by omega
    have hk := heldAt_pos hh hx
    have hE := E_pos hs hk
    have hA : d.s ^ kOf (Uw96.heldAt d.t h x) ≤ 10 ^ 5 := Nat.le_trans (Nat.pow_le_pow_left hs' _) (Nat.pow_le_pow_right (by decide) (kOf5 ht))
    have hg := gain_pos hs hk
    have hq := gain_q (s := d.s) (k := Uw96.heldAt d.t h x) s0
    -- 1 is at most 10^5 of E
    have h1 : (1 : Rat) ≤ E d.s (Uw96.heldAt d.t h x) * ((10 ^ 5 : Nat) : Rat) := by
      have a1 : (1 : Rat) ≤ (gain d.s (Uw96.heldAt d.t h x) : Rat) := by exact_mod_cast hg
      have a2 : ((d.s ^ kOf (Uw96.heldAt d.t h x) : Nat) : Rat) ≤ ((10 ^ 5 : Nat) : Rat) := by exact_mod_cast hA
      have a3 : 0 ≤ E d.s (Uw96.heldAt d.t h x) * (((10 ^ 5 : Nat) : Rat) - ((d.s ^ kOf (Uw96.heldAt d.t h x) : Nat) : Rat)) := mul_nonneg (by grind) (by grind)
      grind
    rw [tv_step hs hh hx]
    have h2 : (S d.s fun i => if d.t ≤ x + (Uw96.heldAt d.t h x + i) then 0 else e d.s (Uw96.heldAt d.t h x) i * tv d h (x + (Uw96.heldAt d.t h x + i))) ≤ S d.s fun i => ((10 ^ 5 * (d.t - x - 1) : Nat) : Rat) * e d.s (Uw96.heldAt d.t h x) i := by
      refine S_le fun i _ => ?_
      have he := e_nonneg d.s (Uw96.heldAt d.t h x) i
      have hc0 : (0 : Rat) ≤ ((10 ^ 5 * (d.t - x - 1) : Nat) : Rat) := by exact_mod_cast Nat.zero_le _
      split
      · exact mul_nonneg hc0 he
      · have ih := tv_le hs hs' ht hh n (x + (Uw96.heldAt d.t h x + i)) (by omega) (by omega)
        have ih2 : ((10 ^ 5 * (d.t - (x + (Uw96.heldAt d.t h x + i))) : Nat) : Rat) ≤ ((10 ^ 5 * (d.t - x - 1) : Nat) : Rat) := by
          have : 10 ^ 5 * (d.t - (x + (Uw96.heldAt d.t h x + i))) ≤ 10 ^ 5 * (d.t - x - 1) := Nat.mul_le_mul_left _ (by omega)
          exact_mod_cast this
        have := mul_nonneg he (show 0 ≤ ((10 ^ 5 * (d.t - x - 1) : Nat) : Rat) - tv d h (x + (Uw96.heldAt d.t h x + i)) by grind)
        grind
    rw [S_mul] at h2
    have h3 : (S d.s fun i => e d.s (Uw96.heldAt d.t h x) i) = E d.s (Uw96.heldAt d.t h x) := rfl
    rw [h3] at h2
    have h4 : ((10 ^ 5 * (d.t - x) : Nat) : Rat) = ((10 ^ 5 * (d.t - x - 1) : Nat) : Rat) + ((10 ^ 5 : Nat) : Rat) := by
      have : 10 ^ 5 * (d.t - x) = 10 ^ 5 * (d.t - x - 1) + 10 ^ 5 := by
        have : d.t - x = (d.t - x - 1) + 1 := by omega
        omega
      exact_mod_cast this
    apply Rat.not_lt.mp
    rw [Rat.lt_div_iff hE, Rat.not_lt, h4]
    grind
theorem turns_le (hs : 2 ≤ d.s) (hs' : d.s ≤ 10) (ht : d.t ≤ 10) (hh : 0 < h) {x : Nat} (hx : x < d.t) : (Uw96.turns d h x).l ≤ 10 ^ 50 ∧ (Uw96.turns d h x).u ≤ 10 ^ 56 := by
  have ok := turns_ok (d := d) hs hh x
  have h1 := IsN.low ok (tv_isN hs hh _ x hx (Nat.le_refl _))
  have h2 : (Uw96.turns d h x).l ≤ 10 ^ 50 := by
    refine Nat.le_trans (Nat.le_of_dvd (turnP_pos hs hh _ (by omega)) h1) ?_
    refine Nat.le_trans (turnP_le hs' (by omega) ht hh _ (by omega)) ?_
    rw [← Nat.pow_mul]
    exact Nat.pow_le_pow_right (by decide) (by omega)
  have h3 := tv_le hs hs' ht hh _ x hx (Nat.le_refl _)
  have e1 := cast_pos ok.pos
  have h4 : ((Uw96.turns d h x).u : Rat) ≤ ((10 ^ 5 * (d.t - x) * (Uw96.turns d h x).l : Nat) : Rat) := by
    have : tv d h x = ((Uw96.turns d h x).u : Rat) / ((Uw96.turns d h x).l : Rat) := rfl
    rw [this] at h3
    have h3 := Rat.not_lt.mpr h3
    rw [Rat.lt_div_iff e1, Rat.not_lt] at h3
    rw [Rat.natCast_mul]
    exact h3
  have h4 : (Uw96.turns d h x).u ≤ 10 ^ 5 * (d.t - x) * (Uw96.turns d h x).l := by exact_mod_cast h4
  refine ⟨h2, Nat.le_trans h4 (Nat.le_trans (Nat.mul_le_mul (Nat.mul_le_mul_left _ (show d.t - x ≤ 10 by omega)) h2) (by decide))⟩
end
end Dm
set_option linter.all false
namespace Dm
open Uw96 (Frac Die Table Call)
/-! ### the weights behind a turn in a race -/
theorem S_pick (f : Nat → Rat) (t : Nat) (v : Rat) : ∀ m, S m (fun j => (if t = j then v else 0) * f j) = if t < m then v * f t else 0
  | 0 => by rw [if_neg (by omega)]; rfl
  | m + 1 => by
    show S m _ + (if t = m then v else 0) * f m = _
    rw [S_pick f t v m]
    by_cases h : t = m
    · subst h
      rw [if_neg (by omega), if_pos rfl, if_pos (by omega)]
      grind
    · rw [if_neg h]
      by_cases h2 : t < m
      · rw [if_pos h2, if_pos (by omega)]; grind
      · rw [if_neg h2, if_neg (by omega)]; grind
theorem S_swap {m : Nat} (f : Nat → Rat) (t g : Nat → Nat) : ∀ n, (∀ i, i < n → t i < m) → S m (fun j => ((Sn n fun i => if t i = j then g i else 0 : Nat) : Rat) * f j) = S n fun i => (g i : Rat) * f (t i)
  | 0, _ => by
    refine Eq.trans (S_congr (g := fun _ => 0) fun i _ => ?_) (S_zero m)
    show ((0 : Nat) : Rat) * f i = 0
    simp only [Rat.natCast_ofNat]; grind
  | n + 1, h => by
    show _ = S n (fun i => (g i : Rat) * f (t i)) + (g n : Rat) * f (t n)
    rw [← S_swap f t g n fun i hi => h i (by omega)]
    have e := S_pick f (t n) (g n : Rat) m
    rw [if_pos (h n (by omega))] at e
    rw [← e, ← S_add]
    apply S_congr
    intro j _
    show (((Sn n fun i => if t i = j then g i else 0) + (if t n = j then g n else 0) : Nat) : Rat) * f j = _
    rw [Rat.natCast_add]
    have : ((if t n = j then g n else 0 : Nat) : Rat) = if t n = j then (g n : Rat) else 0 := by split <;> rfl
    rw [this]
    grind
/-- the weight that j are missing behind a turn held at h with m missing -/
def Mw (s h m j : Nat) : Nat := if j = m then loss s (min h m) else Sn s fun i => if m - (min h m + i) = j then W s (min h m) (min h m + i) else 0
theorem Mw_last (s h m : Nat) : Mw s h m m = loss s (min h m) := if_pos rfl
theorem Mw_S {s h m : Nat} (hh : 0 < h) (hm : 0 < m) (f : Nat → Rat) : S m (fun j => (Mw s h m j : Rat) * f j) = S s fun i => (W s (min h m) (min h m + i) : Rat) * f (m - (min h m + i)) := by
  rw [← S_swap (m := m) f (fun i => m - (min h m + i)) (fun i => W s (min h m) (min h m + i)) s (fun i _ => by omega)]
  apply S_congr
  intro j hj
  unfold Mw
  rw [if_neg (by omega)]
theorem S_ones {g : Nat → Nat} (n : Nat) : S n (fun i => (g i : Rat) * 1) = ((Sn n g : Nat) : Rat) := by
  rw [Sn_S]
  apply S_congr
  intro i _
  grind
theorem Mw_gain {s h m : Nat} (hh : 0 < h) (hm : 0 < m) : Sn m (Mw s h m) = gain s (min h m) := by
  have e := Mw_S (s := s) hh hm (fun _ => 1)
  rw [S_ones, S_ones] at e
  exact Rat.natCast_inj.mp e
theorem loss_gain {s k : Nat} (hs : 0 < s) (hk : 0 < k) : gain s k + loss s k = s ^ kOf k := by
  have := ends_sum_le (s := s) (h := k) hs hk
  unfold gain loss
  omega
theorem Mw_total {s h m : Nat} (hs : 0 < s) (hh : 0 < h) (hm : 0 < m) : Sn (m + 1) (Mw s h m) = s ^ kOf (min h m) := by
  show Sn m (Mw s h m) + Mw s h m m = _
  rw [Mw_gain hh hm, Mw_last, loss_gain hs (by omega)]
/-- the sum of the weights before the last one is told -/
theorem Mw_before {s h m : Nat} (hh : 0 < h) (hm : 0 < m) : (Sn (m + 1) fun j => Sn s fun i => if m - (min h m + i) = j then W s (min h m) (min h m + i) else 0) = gain s (min h m) := by
  have e := S_swap (m := m + 1) (fun _ => 1) (fun i => m - (min h m + i)) (fun i => W s (min h m) (min h m + i)) s (fun i _ => by omega)
  rw [S_ones, S_ones] at e
  exact Rat.natCast_inj.mp e
theorem Sn_ge {g : Nat → Nat} : ∀ {n : Nat} (k : Nat), k < n → g k ≤ Sn n g
  | n + 1, k, hk => by
    show g k ≤ Sn n g + g n
    by_cases e : k = n
    · subst e; omega
    · have := Sn_ge (g := g) (n := n) k (by omega)
      omega
theorem Mw_le {s h m j : Nat} (hs : 0 < s) (hh : 0 < h) (hm : 0 < m) (hj : j ≤ m) : Mw s h m j ≤ s ^ kOf (min h m) := by
  rw [← Mw_total hs hh hm]
  exact Sn_ge j (by omega)
theorem pow5 {s h m : Nat} (hs : s ≤ 10) (hm : m ≤ 10) : s ^ kOf (min h m) ≤ 10 ^ 5 :=
  Nat.le_trans (Nat.pow_le_pow_left hs _) (Nat.pow_le_pow_right (by decide) (by unfold kOf; omega))
/-! ### fractions that are taken as often as told -/
def tot (w : Nat → Nat) (f : Nat → Frac) : Nat → Frac
  | 0 => Uw96.zero
  | n + 1 => if 0 < w n then Uw96.frac ((tot w f n).u * (f n).l + w n * (f n).u * (tot w f n).l) ((tot w f n).l * (f n).l) else tot w f n
theorem tot_all {w : Nat → Nat} {f : Nat → Frac} : ∀ n, (∀ i, i < n → Ok (f i)) → Ok (tot w f n) ∧ q (tot w f n) = S n fun i => (w i : Rat) * q (f i)
  | 0, _ => ⟨zero_ok, zero_q⟩
  | n + 1, h => by
    have ih := tot_all (w := w) n fun i hi => h i (by omega)
    have hn := h n (by omega)
    have hp : 0 < (tot w f n).l * (f n).l := Nat.mul_pos ih.1.pos hn.pos
    by_cases c : 0 < w n
    · have e : tot w f (n + 1) = Uw96.frac ((tot w f n).u * (f n).l + w n * (f n).u * (tot w f n).l) ((tot w f n).l * (f n).l) := if_pos c
      rw [e]
      refine ⟨frac_ok _ hp, ?_⟩
      rw [frac_q _ hp]
      show _ = (S n fun i => (w i : Rat) * q (f i)) + (w n : Rat) * q (f n)
      rw [← ih.2]
      have e1 := cast_ne ih.1.pos
      have e2 := cast_ne hn.pos
      simp only [Rat.natCast_add, Rat.natCast_mul, q]
      grind
    · have e : tot w f (n + 1) = tot w f n := if_neg c
      rw [e]
      refine ⟨ih.1, ?_⟩
      show _ = (S n fun i => (w i : Rat) * q (f i)) + (w n : Rat) * q (f n)
      rw [← ih.2, show w n = 0 by omega]
      simp only [Rat.natCast_ofNat]
      grind
def sharedF (n : Nat) (w : Nat → Nat) (f : Nat → Frac) (v : Nat) : Frac := Uw96.frac (tot w f n).u ((tot w f n).l * v)
theorem sharedF_ok {n v : Nat} {w : Nat → Nat} {f : Nat → Frac} (hf : ∀ i, i < n → Ok (f i)) (hv : 0 < v) : Ok (sharedF n w f v) := frac_ok _ (Nat.mul_pos (tot_all n hf).1.pos hv)
theorem sharedF_q {n v : Nat} {w : Nat → Nat} {f : Nat → Frac} (hf : ∀ i, i < n → Ok (f i)) (hv : 0 < v) : q (sharedF n w f v) = (S n fun i => (w i : Rat) * q (f i)) / (v : Rat) := by
  have h := tot_all (w := w) n hf
  unfold sharedF
  rw [frac_q _ (Nat.mul_pos h.1.pos hv), ← h.2]
  have e1 := cast_ne h.1.pos
  have e2 := cast_ne hv
  simp only [Rat.natCast_mul, q]
  grind
theorem sharedF_is {n v : Nat} {w : Nat → Nat} {f : Nat → Frac} {r : Frac} (hf : ∀ i, i < n → Ok (f i)) (hv : 0 < v) (hr : Ok r) (h : q r * (v : Rat) = S n fun i => (w i : Rat) * q (f i)) : sharedF n w f v = r := by
  refine (sharedF_ok hf hv).ext hr ?_
  rw [sharedF_q hf hv, ← h]
  have e2 := cast_ne hv
  grind
/-- what is asked of such a sum: all fit -/
structure Shares (n : Nat) (w : Nat → Nat) (f : Nat → Frac) (v : Nat) : Prop where
  n20 : n ≤ 20
  common : ∃ D : Nat, 0 < D ∧ D ≤ 10 ^ 1000 ∧ ∀ i, i < n → IsN D (q (f i))
  ok : ∀ i, i < n → Ok (f i)
  fle : ∀ i, i < n → q (f i) ≤ ((10 ^ 10 : Nat) : Rat)
  wle : ∀ i, i < n → w i ≤ 10 ^ 10
  v0 : 0 < v
  v10 : v ≤ 10 ^ 10
theorem IsN.nat {M : Nat} {a : Rat} (h : IsN M a) (n : Nat) : IsN M ((n : Rat) * a) := by
  obtain ⟨m, hm⟩ := h
  refine ⟨n * m, ?_⟩
  rw [Rat.natCast_mul, ← hm]
  grind
theorem u_le {a : Frac} {B D : Nat} (ha : Ok a) (hl : a.l ≤ D) (h : q a ≤ (B : Rat)) : a.u ≤ B * D := by
  have e1 := cast_pos ha.pos
  have h := Rat.not_lt.mpr h
  unfold q at h
  rw [Rat.lt_div_iff e1, Rat.not_lt] at h
  have h : a.u ≤ B * a.l := by exact_mod_cast h
  exact Nat.le_trans h (Nat.mul_le_mul_left _ hl)
theorem S_const (c : Rat) : ∀ n, S n (fun _ => c) = (n : Rat) * c
  | 0 => by simp only [S, Rat.natCast_ofNat]; grind
  | n + 1 => by simp only [S, S_const c n, Rat.natCast_add, Rat.natCast_ofNat]; grind
theorem Shares.tot {n v : Nat} {w : Nat → Nat} {f : Nat → Frac} (h : Shares n w f v) {i : Nat} (hi : i ≤ n) : (tot w f i).l ≤ 10 ^ 1000 ∧ (tot w f i).u ≤ 10 ^ 1030 := by
  obtain ⟨D, D0, D1, hD⟩ := h.common
  have ht := tot_all (w := w) (f := f) i fun j hj => h.ok j (by omega)
  have hN : IsN D (q (Dm.tot w f i)) := by
    rw [ht.2]
    exact IsN.sum fun j hj => (hD j (by omega)).nat _
  have hl : (Dm.tot w f i).l ≤ 10 ^ 1000 := Nat.le_trans (Nat.le_of_dvd D0 (IsN.low ht.1 hN)) D1
  refine ⟨hl, ?_⟩
  have hq : q (Dm.tot w f i) ≤ ((20 * (10 ^ 10 * 10 ^ 10) : Nat) : Rat) := by
    rw [ht.2]
    have h1 : (S i fun j => (w j : Rat) * q (f j)) ≤ S i fun _ => ((10 ^ 10 * 10 ^ 10 : Nat) : Rat) := by
      refine S_le fun j hj => ?_
      have a1 : (w j : Rat) ≤ ((10 ^ 10 : Nat) : Rat) := by exact_mod_cast h.wle j (by omega)
      have a2 := h.fle j (by omega)
      have a3 := q_nonneg (f j)
      have a4 : (0 : Rat) ≤ ((10 ^ 10 : Nat) : Rat) := by exact_mod_cast Nat.zero_le _
      have a5 := mul_nonneg (show 0 ≤ ((10 ^ 10 : Nat) : Rat) - (w j : Rat) by grind) a3
      have a6 := mul_nonneg a4 (show 0 ≤ ((10 ^ 10 : Nat) : Rat) - q (f j) by grind)
      rw [Rat.natCast_mul]
      generalize ((10 ^ 10 : Nat) : Rat) = T at *
      grind
    rw [S_const] at h1
    have h2 : (i : Rat) ≤ ((20 : Nat) : Rat) := by exact_mod_cast Nat.le_trans hi h.n20
    have h3 : (0 : Rat) ≤ ((10 ^ 10 * 10 ^ 10 : Nat) : Rat) := by exact_mod_cast Nat.zero_le _
    have h4 := mul_nonneg (show 0 ≤ ((20 : Nat) : Rat) - (i : Rat) by grind) h3
    rw [Rat.natCast_mul]
    generalize ((10 ^ 10 * 10 ^ 10 : Nat) : Rat) = T at *
    grind
  exact Nat.le_trans (u_le ht.1 hl hq) (by decide +kernel)
theorem Shares.f {n v : Nat} {w : Nat → Nat} {f : Nat → Frac} (h : Shares n w f v) {i : Nat} (hi : i < n) : (f i).l ≤ 10 ^ 1000 ∧ (f i).u ≤ 10 ^ 1030 := by
  obtain ⟨D, D0, D1, hD⟩ := h.common
  have hl : (f i).l ≤ 10 ^ 1000 := Nat.le_trans (Nat.le_of_dvd D0 (IsN.low (h.ok i hi) (hD i hi))) D1
  exact ⟨hl, Nat.le_trans (u_le (h.ok i hi) hl (h.fle i hi)) (by decide +kernel)⟩
/-! ### turns -/
theorem turns_goal (d : Die) (h : Nat) : Uw96.turns d h d.t = Uw96.zero := by
  unfold Uw96.turns
  rw [turnsFrom_eq, List.getD_eq_getElem?_getD, List.getElem?_eq_none (by rw [turnL_length]; omega)]
  rfl
theorem heldAt_m {t h m : Nat} (hm : m ≤ t) : Uw96.heldAt t h (t - m) = min h m := by
  unfold Uw96.heldAt
  rw [show t - (t - m) = m by omega]
theorem turn_step {d : Die} {h m : Nat} (hs : 2 ≤ d.s) (hh : 0 < h) (hm : 0 < m) (hmt : m ≤ d.t) :
    q (Uw96.turns d h (d.t - m)) * ((gain d.s (min h m) : Nat) : Rat) = ((d.s ^ kOf (min h m) : Nat) : Rat) * 1 + S m fun j => (Mw d.s h m j : Rat) * q (Uw96.turns d h (d.t - j)) := by
  have s0 : 0 < d.s := by omega
  have st := tv_step (d := d) (h := h) (x := d.t - m) hs hh (by omega)
  rw [heldAt_m hmt] at st
  rw [show q (Uw96.turns d h (d.t - m)) = tv d h (d.t - m) from rfl, st, Mw_S hh hm fun j => q (Uw96.turns d h (d.t - j)), ← gain_q s0]
  have hE := E_pos (s := d.s) (h := min h m) hs (by omega)
  have e1 : (S d.s fun i => (W d.s (min h m) (min h m + i) : Rat) * q (Uw96.turns d h (d.t - (m - (min h m + i))))) =
      ((d.s ^ kOf (min h m) : Nat) : Rat) * S d.s fun i => if d.t ≤ d.t - m + (min h m + i) then 0 else e d.s (min h m) i * tv d h (d.t - m + (min h m + i)) := by
    rw [← S_mul]
    apply S_congr
    intro i _
    rw [W_c s0]
    by_cases c : d.t ≤ d.t - m + (min h m + i)
    · rw [if_pos c, show d.t - (m - (min h m + i)) = d.t by omega, turns_goal, zero_q]
      grind
    · rw [if_neg c, show d.t - (m - (min h m + i)) = d.t - m + (min h m + i) by omega]
      unfold e tv
      grind
  rw [e1]
  have hne : E d.s (min h m) ≠ 0 := by grind
  grind
/-! ### the duel -/
section
variable {d : Die} {h g : Nat}
def fA (d : Die) (h g a b : Nat) : Frac := if b = 0 then Uw96.zero else (Uw96.at_ (Uw96.table d h g) d.t (d.t - a) (d.t - b)).1
def fB (d : Die) (h g a b : Nat) : Frac := if a = 0 then Uw96.one else Uw96.rest (Uw96.at_ (Uw96.table d h g) d.t (d.t - a) (d.t - b)).2
theorem fA_zero (a : Nat) : fA d h g a 0 = Uw96.zero := rfl
theorem fB_zero (b : Nat) : fB d h g 0 b = Uw96.one := rfl
theorem fA_duel {a b : Nat} (hb : 0 < b) : fA d h g a b = Uw96.duel d h (d.t - a) g (d.t - b) := by
  unfold fA
  rw [if_neg (by omega)]
  rfl
theorem tabGood (hs : 2 ≤ d.s) (hh : 0 < h) (hg : 0 < g) (x y : Nat) : Good (Uw96.at_ (Uw96.table d h g) d.t x y) := by
  rw [table_eq]
  exact at_good (tab_good hs hh hg _ (Nat.le_refl _)) _ _ _
theorem fA_ok (hs : 2 ≤ d.s) (hh : 0 < h) (hg : 0 < g) (a b : Nat) : Ok (fA d h g a b) := by
  unfold fA
  split
  · exact zero_ok
  · exact (tabGood hs hh hg _ _).o1
theorem fB_ok (hs : 2 ≤ d.s) (hh : 0 < h) (hg : 0 < g) (a b : Nat) : Ok (fB d h g a b) := by
  unfold fB
  split
  · exact one_ok
  · exact rest_ok (tabGood hs hh hg _ _).o2
theorem fA_q {a b : Nat} (hb : 0 < b) : q (fA d h g a b) = vq d h g (d.t - a) (d.t - b) := by
  rw [fA_duel hb]; rfl
theorem fB_q {a b : Nat} (hs : 2 ≤ d.s) (hh : 0 < h) (hg : 0 < g) (ha : 0 < a) : q (fB d h g a b) = 1 - wq d h g (d.t - a) (d.t - b) := by
  unfold fB
  rw [if_neg (by omega), rest_q (tabGood hs hh hg _ _).o2 (tabGood hs hh hg _ _).l2]
  rfl
theorem fA_le (hs : 2 ≤ d.s) (hh : 0 < h) (hg : 0 < g) (a b : Nat) : q (fA d h g a b) ≤ 1 := by
  by_cases c : 0 < b
  · rw [fA_q c]; exact vq_le hs hh hg _ _
  · rw [show b = 0 by omega, fA_zero, zero_q]; decide
theorem fB_le (hs : 2 ≤ d.s) (hh : 0 < h) (hg : 0 < g) (a b : Nat) : q (fB d h g a b) ≤ 1 := by
  by_cases c : 0 < a
  · rw [fB_q hs hh hg c]
    have := wq_nonneg (d := d) (h := h) (g := g) (d.t - a) (d.t - b)
    grind
  · rw [show a = 0 by omega, fB_zero, one_q]; exact Rat.le_refl
theorem fA_isN {a b b' : Nat} (hs : 2 ≤ d.s) (hh : 0 < h) (hg : 0 < g) (ha : 0 < a) (hat : a ≤ d.t) (hbb : b' ≤ b) (hbt : b ≤ d.t) : IsN (tabP d h g a b) (q (fA d h g a b')) := by
  by_cases c : 0 < b'
  · rw [fA_q c]
    have := (vw_isN (d := d) hs hh hg _ (d.t - a) (d.t - b') (by omega) (by omega) (Nat.le_refl _)).1
    rw [show d.t - (d.t - a) = a by omega, show d.t - (d.t - b') = b' by omega] at this
    exact this.up (tabP_dvd (Nat.le_refl _) hbb)
  · rw [show b' = 0 by omega, fA_zero, zero_q]; exact IsN.zero _
theorem fB_isN {a b a' : Nat} (hs : 2 ≤ d.s) (hh : 0 < h) (hg : 0 < g) (hb : 0 < b) (hat : a ≤ d.t) (haa : a' ≤ a) (hbt : b ≤ d.t) : IsN (tabP d h g a b) (q (fB d h g a' b)) := by
  by_cases c : 0 < a'
  · rw [fB_q hs hh hg c]
    have := (vw_isN (d := d) hs hh hg _ (d.t - a') (d.t - b) (by omega) (by omega) (Nat.le_refl _)).2
    rw [show d.t - (d.t - a') = a' by omega, show d.t - (d.t - b) = b by omega] at this
    exact (this.up (tabP_dvd haa (Nat.le_refl _))).rest (wq_le hs hh hg _ _)
  · rw [show a' = 0 by omega, fB_zero, one_q]; exact IsN.one _
theorem tabP_1000 {a b : Nat} (hs' : d.s ≤ 10) (hs : 0 < d.s) (ht : d.t ≤ 10) (hat : a ≤ d.t) (hbt : b ≤ d.t) : tabP d h g a b ≤ 10 ^ 1000 := by
  refine Nat.le_trans (tabP_le hs' hs ht _ _) ?_
  rw [← Nat.pow_mul, ← Nat.pow_mul]
  refine Nat.pow_le_pow_right (by decide) ?_
  have := Nat.mul_le_mul (show b ≤ 10 by omega) (show a ≤ 10 by omega)
  exact Nat.le_trans (Nat.mul_le_mul_left 10 this) (by decide)
/-- both stands by those before -/
theorem AB_step {a b : Nat} (hs : 2 ≤ d.s) (hh : 0 < h) (hg : 0 < g) (ha : 0 < a) (hat : a ≤ d.t) (hb : 0 < b) (hbt : b ≤ d.t) :
    q (fA d h g a b) * ((both d.s (min h a) (min g b) : Nat) : Rat) = ((d.s ^ kOf (min g b) : Nat) : Rat) * (S a fun j => (Mw d.s h a j : Rat) * q (fB d h g j b)) + (loss d.s (min h a) : Rat) * (S b fun j => (Mw d.s g b j : Rat) * q (fA d h g a j)) ∧
    q (fB d h g a b) * ((d.s ^ kOf (min g b) : Nat) : Rat) = (S b fun j => (Mw d.s g b j : Rat) * q (fA d h g a j)) + (loss d.s (min g b) : Rat) * q (fA d h g a b) := by
  have s0 : 0 < d.s := by omega
  have k0 : 0 < min h a := by omega
  have m0 : 0 < min g b := by omega
  have st := vw_step (d := d) (h := h) (g := g) (x := d.t - a) (y := d.t - b) hs hh hg (by omega) (by omega)
  rw [heldAt_m hat, heldAt_m hbt] at st
  rw [fA_q hb, fB_q hs hh hg ha, Mw_S hh ha fun j => q (fB d h g j b), Mw_S hg hb fun j => q (fA d h g a j), st.1, st.2, ← both_q hs k0 m0, ← loss_q s0 k0, ← loss_q s0 m0]
  have c1 : (S d.s fun i => (W d.s (min h a) (min h a + i) : Rat) * q (fB d h g (a - (min h a + i)) b)) = ((d.s ^ kOf (min h a) : Nat) : Rat) * winQ d.s d.t (d.t - a) (min h a) fun z => wq d h g z (d.t - b) := by
    unfold winQ
    rw [← S_mul]
    apply S_congr
    intro i _
    rw [W_c s0]
    unfold e
    by_cases c : d.t ≤ d.t - a + min h a + i
    · rw [if_pos c, show a - (min h a + i) = 0 by omega, fB_zero, one_q]; grind
    · rw [if_neg c, fB_q hs hh hg (by omega), show d.t - (a - (min h a + i)) = d.t - a + min h a + i by omega]; grind
  have c2 : (S d.s fun i => (W d.s (min g b) (min g b + i) : Rat) * q (fA d h g a (b - (min g b + i)))) = ((d.s ^ kOf (min g b) : Nat) : Rat) * (E d.s (min g b) - winQ d.s d.t (d.t - b) (min g b) fun z => vq d h g (d.t - a) z) := by
    have : E d.s (min g b) - (winQ d.s d.t (d.t - b) (min g b) fun z => vq d h g (d.t - a) z) = S d.s fun i => e d.s (min g b) i * q (fA d h g a (b - (min g b + i))) := by
      have h1 : E d.s (min g b) = (winQ d.s d.t (d.t - b) (min g b) fun z => vq d h g (d.t - a) z) + S d.s fun i => e d.s (min g b) i * q (fA d h g a (b - (min g b + i))) := by
        unfold E winQ
        rw [← S_add]
        apply S_congr
        intro i _
        by_cases c : d.t ≤ d.t - b + min g b + i
        · rw [if_pos c, show b - (min g b + i) = 0 by omega, fA_zero, zero_q]; grind
        · rw [if_neg c, fA_q (by omega), show d.t - (b - (min g b + i)) = d.t - b + min g b + i by omega]; grind
      grind
    rw [this, ← S_mul]
    apply S_congr
    intro i _
    rw [W_c s0]
    unfold e
    grind
  rw [c1, c2]
  have p1 := E_pos hs k0
  have p2 := E_pos hs m0
  have p3 := E_lt s0 k0
  have p4 := E_lt s0 m0
  have hpr := pr_lt (p := 1 - E d.s (min h a)) (r := 1 - E d.s (min g b)) (by grind) (by grind) (by grind) (by grind)
  unfold vOf
  generalize (winQ d.s d.t (d.t - a) (min h a) fun z => wq d h g z (d.t - b)) = c at *
  generalize (winQ d.s d.t (d.t - b) (min g b) fun z => vq d h g (d.t - a) z) = e at *
  generalize ((d.s ^ kOf (min h a) : Nat) : Rat) = A at *
  generalize ((d.s ^ kOf (min g b) : Nat) : Rat) = B at *
  have e1 : E d.s (min h a) = 1 - (1 - E d.s (min h a)) := by grind
  have e2 : E d.s (min g b) = 1 - (1 - E d.s (min g b)) := by grind
  generalize 1 - E d.s (min h a) = p at *
  generalize 1 - E d.s (min g b) = r at *
  rw [e2]
  have hne : 1 - p * r ≠ 0 := by grind
  have hne' : 1 - r * p ≠ 0 := by grind
  clear e1 e2 p1 p2 p3 p4 hpr c1 c2 st
  constructor
  · grind
  · grind
end
/-! ### the first of the highest -/
def fh (g l : Nat → Int) : Nat → Nat
  | 0 => 0
  | k + 1 => if g (fh g l k) * l (k + 1) < g (k + 1) * l (fh g l k) then k + 1 else fh g l k
theorem fh_le (g l : Nat → Int) : ∀ n, fh g l n ≤ n
  | 0 => Nat.le_refl _
  | n + 1 => by
    show (if g (fh g l n) * l (n + 1) < g (n + 1) * l (fh g l n) then n + 1 else fh g l n) ≤ n + 1
    have := fh_le g l n
    split
    · exact Nat.le_refl _
    · exact Nat.le_trans this (Nat.le_succ n)
theorem best_fh {better : Frac → Frac → Bool} {f : Nat → Frac} {g l : Nat → Int} (h : ∀ i j, decide (g j * l i < g i * l j) = better (f (i + 1)) (f (j + 1))) : ∀ n, bestN better f n = (fh g l n + 1, f (fh g l n + 1))
  | 0 => rfl
  | n + 1 => by
    show (if better (f (n + 2)) (bestN better f n).2 = true then (n + 2, f (n + 2)) else bestN better f n) = _
    rw [best_fh h n, ← h (n + 1) (fh g l n)]
    show _ = ((if g (fh g l n) * l (n + 1) < g (n + 1) * l (fh g l n) then n + 1 else fh g l n) + 1, f ((if g (fh g l n) * l (n + 1) < g (n + 1) * l (fh g l n) then n + 1 else fh g l n) + 1))
    by_cases c : g (fh g l n) * l (n + 1) < g (n + 1) * l (fh g l n)
    · rw [if_pos (decide_eq_true c), if_pos c]
    · rw [if_neg (by simpa using c), if_neg c]
theorem more_less (f : Nat → Frac) (i j : Nat) : decide (((f (j + 1)).u : Int) * ((f (i + 1)).l : Int) < ((f (i + 1)).u : Int) * ((f (j + 1)).l : Int)) = Uw96.less (f (j + 1)) (f (i + 1)) := by
  unfold Uw96.less
  refine decide_eq_decide.mpr ?_
  rw [← Int.natCast_mul, ← Int.natCast_mul]
  exact Int.ofNat_lt
theorem less_less (f : Nat → Frac) (i j : Nat) : decide (-((f (j + 1)).u : Int) * ((f (i + 1)).l : Int) < -((f (i + 1)).u : Int) * ((f (j + 1)).l : Int)) = Uw96.less (f (i + 1)) (f (j + 1)) := by
  unfold Uw96.less
  refine decide_eq_decide.mpr ?_
  rw [Int.neg_mul, Int.neg_mul, Int.neg_lt_neg_iff, ← Int.natCast_mul, ← Int.natCast_mul]
  exact Int.ofNat_lt
end Dm
set_option linter.all false
namespace Dm
open Uw96 (Frac Die Table Call)
def consF {α : Type} (x : α) (g : Nat → α) : Nat → α
  | 0 => x
  | j + 1 => g j
theorem S_cons (f : Nat → Rat) : ∀ n, S (n + 1) f = f 0 + S n fun i => f (i + 1)
  | 0 => by simp only [S]; grind
  | n + 1 => by
    show S (n + 1) f + f (n + 1) = f 0 + (S n (fun i => f (i + 1)) + f (n + 1))
    rw [S_cons f n]; grind
theorem turnP_50 {d : Die} {h m : Nat} (hs : d.s ≤ 10) (s0 : 0 < d.s) (ht : d.t ≤ 10) (hh : 0 < h) (hm : m ≤ d.t) : turnP d h m ≤ 10 ^ 1000 := by
  refine Nat.le_trans (turnP_le hs s0 ht hh m hm) ?_
  rw [← Nat.pow_mul]
  exact Nat.pow_le_pow_right (by decide) (by omega)
theorem t_isN {d : Die} {h m j : Nat} (hs : 2 ≤ d.s) (hh : 0 < h) (hj : j ≤ m) (hm : m ≤ d.t) : IsN (turnP d h m) (q (Uw96.turns d h (d.t - j))) := by
  by_cases c : j = 0
  · subst c
    rw [Nat.sub_zero, turns_goal, zero_q]
    exact IsN.zero _
  · have h1 := tv_isN (d := d) hs hh _ (d.t - j) (by omega) (Nat.le_refl _)
    rw [show d.t - (d.t - j) = j by omega] at h1
    refine h1.up ?_
    have := turnP_dvd (d := d) (h := h) (i := j) (m - j)
    rw [show j + (m - j) = m by omega] at this
    exact this
theorem t_le {d : Die} {h j : Nat} (hs : 2 ≤ d.s) (hs' : d.s ≤ 10) (ht : d.t ≤ 10) (hh : 0 < h) (hj : j ≤ d.t) : q (Uw96.turns d h (d.t - j)) ≤ ((10 ^ 10 : Nat) : Rat) := by
  by_cases c : j = 0
  · subst c
    rw [Nat.sub_zero, turns_goal, zero_q]
    exact_mod_cast Nat.zero_le _
  · have h1 := tv_le (d := d) hs hs' ht hh _ (d.t - j) (by omega) (Nat.le_refl _)
    have h2 : ((10 ^ 5 * (d.t - (d.t - j)) : Nat) : Rat) ≤ ((10 ^ 10 : Nat) : Rat) := by
      have : 10 ^ 5 * (d.t - (d.t - j)) ≤ 10 ^ 10 := Nat.le_trans (Nat.mul_le_mul_left _ (show d.t - (d.t - j) ≤ 10 by omega)) (by decide)
      exact_mod_cast this
    exact Rat.le_trans h1 h2
theorem one_le10 : (1 : Rat) ≤ ((10 ^ 10 : Nat) : Rat) := by
  have : ((1 : Nat) : Rat) ≤ ((10 ^ 10 : Nat) : Rat) := by exact_mod_cast (by decide : 1 ≤ 10 ^ 10)
  exact this
section
variable {d : Die} {h m : Nat}
theorem turn_shares (hs : 2 ≤ d.s) (hs' : d.s ≤ 10) (ht : d.t ≤ 10) (hh : 0 < h) (hm : 0 < m) (hmt : m ≤ d.t) :
    Shares (m + 1) (consF (d.s ^ kOf (min h m)) (Mw d.s h m)) (consF Uw96.one fun j => Uw96.turns d h (d.t - j)) (gain d.s (min h m)) := by
  have s0 : 0 < d.s := by omega
  have p5 := pow5 (s := d.s) (h := h) (m := m) hs' (by omega)
  refine ⟨by omega, ⟨turnP d h m, turnP_pos hs hh m hmt, turnP_50 hs' s0 ht hh hmt, ?_⟩, ?_, ?_, ?_, gain_pos hs (by omega), ?_⟩
  · intro i hi
    cases i with
    | zero =>
      show IsN _ (q Uw96.one)
      rw [one_q]
      exact IsN.one _
    | succ i => exact t_isN hs hh (by omega) hmt
  · intro i hi
    cases i with
    | zero => exact one_ok
    | succ i => exact turns_ok hs hh _
  · intro i hi
    cases i with
    | zero =>
      show q Uw96.one ≤ _
      rw [one_q]
      exact one_le10
    | succ i => exact t_le hs hs' ht hh (by omega)
  · intro i hi
    cases i with
    | zero => exact Nat.le_trans p5 (by decide)
    | succ i => exact Nat.le_trans (Nat.le_trans (Mw_le s0 hh hm (by omega)) p5) (by decide)
  · have := loss_gain (s := d.s) (k := min h m) s0 (by omega)
    exact Nat.le_trans (show gain d.s (min h m) ≤ d.s ^ kOf (min h m) by omega) (Nat.le_trans p5 (by decide))
theorem turn_is (hs : 2 ≤ d.s) (hs' : d.s ≤ 10) (ht : d.t ≤ 10) (hh : 0 < h) (hm : 0 < m) (hmt : m ≤ d.t) :
    sharedF (m + 1) (consF (d.s ^ kOf (min h m)) (Mw d.s h m)) (consF Uw96.one fun j => Uw96.turns d h (d.t - j)) (gain d.s (min h m)) = Uw96.turns d h (d.t - m) := by
  have sh := turn_shares hs hs' ht hh hm hmt
  refine sharedF_is sh.ok sh.v0 (turns_ok hs hh _) ?_
  rw [turn_step hs hh hm hmt, S_cons]
  show _ = ((d.s ^ kOf (min h m) : Nat) : Rat) * q Uw96.one + _
  rw [one_q]
  rfl
end
structure DuelOk (d : Die) (h g a b : Nat) : Prop where
  s2 : 2 ≤ d.s
  s10 : d.s ≤ 10
  t10 : d.t ≤ 10
  h0 : 0 < h
  g0 : 0 < g
  a0 : 0 < a
  at_ : a ≤ d.t
  b0 : 0 < b
  bt : b ≤ d.t
def moved (d : Die) (h g a b : Nat) : Frac := sharedF a (Mw d.s h a) (fun j => fB d h g j b) 1
def letgo (d : Die) (h g a b : Nat) : Frac := sharedF b (Mw d.s g b) (fun j => fA d h g a j) 1
theorem Sw_le {s h m : Nat} {f : Nat → Rat} (hs : 0 < s) (hs' : s ≤ 10) (hh : 0 < h) (hm : 0 < m) (hm' : m ≤ 10) (hf : ∀ j, f j ≤ 1) : (S m fun j => (Mw s h m j : Rat) * f j) ≤ ((10 ^ 10 : Nat) : Rat) := by
  have h1 : (S m fun j => (Mw s h m j : Rat) * f j) ≤ S m fun j => (Mw s h m j : Rat) * 1 := by
    refine S_le fun j _ => ?_
    have a : (0 : Rat) ≤ (Mw s h m j : Rat) := by exact_mod_cast Nat.zero_le _
    have := mul_nonneg a (show 0 ≤ 1 - f j by have := hf j; grind)
    grind
  rw [S_ones, Mw_gain hh hm] at h1
  have h2 : gain s (min h m) ≤ 10 ^ 10 := by
    have := loss_gain (s := s) (k := min h m) hs (by omega)
    exact Nat.le_trans (show gain s (min h m) ≤ s ^ kOf (min h m) by omega) (Nat.le_trans (pow5 hs' hm') (by decide))
  have h3 : ((gain s (min h m) : Nat) : Rat) ≤ ((10 ^ 10 : Nat) : Rat) := by exact_mod_cast h2
  exact Rat.le_trans h1 h3
section
variable {d : Die} {h g a b : Nat}
theorem DuelOk.common (o : DuelOk d h g a b) : 0 < tabP d h g a b ∧ tabP d h g a b ≤ 10 ^ 1000 :=
  ⟨tabP_pos o.s2 o.h0 o.g0 a b o.at_ o.bt, tabP_1000 o.s10 (by have := o.s2; omega) o.t10 o.at_ o.bt⟩
theorem le_ten {r : Rat} (h : r ≤ 1) : r ≤ ((10 ^ 10 : Nat) : Rat) := Rat.le_trans h one_le10
theorem moved_shares (o : DuelOk d h g a b) : Shares a (Mw d.s h a) (fun j => fB d h g j b) 1 := by
  have s0 : 0 < d.s := by have := o.s2; omega
  have ha := o.at_
  have ht := o.t10
  refine ⟨by omega, ⟨_, o.common.1, o.common.2, fun i hi => fB_isN o.s2 o.h0 o.g0 o.b0 o.at_ (by omega) o.bt⟩, fun i _ => fB_ok o.s2 o.h0 o.g0 _ _, fun i _ => le_ten (fB_le o.s2 o.h0 o.g0 _ _), fun i hi => ?_, by decide, by decide⟩
  exact Nat.le_trans (Nat.le_trans (Mw_le s0 o.h0 o.a0 (by omega)) (pow5 o.s10 (by omega))) (by decide)
theorem letgo_shares (o : DuelOk d h g a b) : Shares b (Mw d.s g b) (fun j => fA d h g a j) 1 := by
  have s0 : 0 < d.s := by have := o.s2; omega
  have ha := o.bt
  have ht := o.t10
  refine ⟨by omega, ⟨_, o.common.1, o.common.2, fun i hi => fA_isN o.s2 o.h0 o.g0 o.a0 o.at_ (by omega) o.bt⟩, fun i _ => fA_ok o.s2 o.h0 o.g0 _ _, fun i _ => le_ten (fA_le o.s2 o.h0 o.g0 _ _), fun i hi => ?_, by decide, by decide⟩
  exact Nat.le_trans (Nat.le_trans (Mw_le s0 o.g0 o.b0 (by omega)) (pow5 o.s10 (by omega))) (by decide)
theorem shared_one {n : Nat} {w : Nat → Nat} {f : Nat → Frac} (hs : Shares n w f 1) : q (sharedF n w f 1) = S n fun i => (w i : Rat) * q (f i) := by
  rw [sharedF_q hs.ok hs.v0]
  have : ((1 : Nat) : Rat) = 1 := rfl
  rw [this]; grind
theorem moved_all (o : DuelOk d h g a b) : Ok (moved d h g a b) ∧ (q (moved d h g a b) = S a fun j => (Mw d.s h a j : Rat) * q (fB d h g j b)) ∧ IsN (tabP d h g a b) (q (moved d h g a b)) ∧ q (moved d h g a b) ≤ ((10 ^ 10 : Nat) : Rat) := by
  have s0 : 0 < d.s := by have := o.s2; omega
  have ha := o.at_
  have ht := o.t10
  have sh := moved_shares o
  have e := shared_one sh
  refine ⟨sharedF_ok sh.ok sh.v0, e, ?_, ?_⟩
  · unfold moved
    rw [e]
    exact IsN.sum fun i hi => (fB_isN o.s2 o.h0 o.g0 o.b0 o.at_ (by omega) o.bt).nat _
  · unfold moved
    rw [e]
    exact Sw_le s0 o.s10 o.h0 o.a0 (by omega) fun j => fB_le o.s2 o.h0 o.g0 _ _
theorem letgo_all (o : DuelOk d h g a b) : Ok (letgo d h g a b) ∧ (q (letgo d h g a b) = S b fun j => (Mw d.s g b j : Rat) * q (fA d h g a j)) ∧ IsN (tabP d h g a b) (q (letgo d h g a b)) ∧ q (letgo d h g a b) ≤ ((10 ^ 10 : Nat) : Rat) := by
  have s0 : 0 < d.s := by have := o.s2; omega
  have ha := o.bt
  have ht := o.t10
  have sh := letgo_shares o
  have e := shared_one sh
  refine ⟨sharedF_ok sh.ok sh.v0, e, ?_, ?_⟩
  · unfold letgo
    rw [e]
    exact IsN.sum fun i hi => (fA_isN o.s2 o.h0 o.g0 o.a0 o.at_ (by omega) o.bt).nat _
  · unfold letgo
    rw [e]
    exact Sw_le s0 o.s10 o.g0 o.b0 (by omega) fun j => fA_le o.s2 o.h0 o.g0 _ _
theorem shares2 {x y v D : Nat} {s t : Frac} (hx : x ≤ 10 ^ 10) (hy : y ≤ 10 ^ 10) (hv0 : 0 < v) (hv : v ≤ 10 ^ 10) (D0 : 0 < D) (D1 : D ≤ 10 ^ 1000) (hs : Ok s ∧ IsN D (q s) ∧ q s ≤ ((10 ^ 10 : Nat) : Rat)) (ht : Ok t ∧ IsN D (q t) ∧ q t ≤ ((10 ^ 10 : Nat) : Rat)) :
    Shares 2 (consF x fun _ => y) (consF s fun _ => t) v := by
  refine ⟨by decide, ⟨D, D0, D1, ?_⟩, ?_, ?_, ?_, hv0, hv⟩ <;>
  · intro i hi
    match i, hi with
    | 0, _ => first | exact hs.2.1 | exact hs.1 | exact hs.2.2 | exact hx
    | 1, _ => first | exact ht.2.1 | exact ht.1 | exact ht.2.2 | exact hy
theorem S_two (x y : Nat) (s t : Frac) : (S 2 fun i => ((consF x (fun _ => y) i : Nat) : Rat) * q (consF s (fun _ => t) i)) = (x : Rat) * q s + (y : Rat) * q t := by
  show 0 + (x : Rat) * q s + (y : Rat) * q t = _
  grind
theorem chance_shares (o : DuelOk d h g a b) : Shares 2 (consF (d.s ^ kOf (min g b)) fun _ => loss d.s (min h a)) (consF (moved d h g a b) fun _ => letgo d h g a b) (both d.s (min h a) (min g b)) := by
  have s2 := o.s2
  have h0 := o.h0
  have g0 := o.g0
  have a0 := o.a0
  have b0 := o.b0
  have ha := o.at_
  have hb := o.bt
  have ht := o.t10
  have m := moved_all o
  have l := letgo_all o
  have p1 := pow5 (s := d.s) (h := h) (m := a) o.s10 (by omega)
  have p2 := pow5 (s := d.s) (h := g) (m := b) o.s10 (by omega)
  refine shares2 (Nat.le_trans p2 (by decide)) ?_ (both_pos s2 (by omega) (by omega)) ?_ o.common.1 o.common.2 ⟨m.1, m.2.2.1, m.2.2.2⟩ ⟨l.1, l.2.2.1, l.2.2.2⟩
  · have := loss_lt (s := d.s) (k := min h a) s2 (by omega)
    exact Nat.le_trans (Nat.le_of_lt this) (Nat.le_trans p1 (by decide))
  · unfold both
    exact Nat.le_trans (Nat.sub_le _ _) (Nat.le_trans (Nat.mul_le_mul p1 p2) (by decide))
theorem chance_is (o : DuelOk d h g a b) : sharedF 2 (consF (d.s ^ kOf (min g b)) fun _ => loss d.s (min h a)) (consF (moved d h g a b) fun _ => letgo d h g a b) (both d.s (min h a) (min g b)) = fA d h g a b := by
  have sh := chance_shares o
  refine sharedF_is sh.ok sh.v0 (fA_ok o.s2 o.h0 o.g0 _ _) ?_
  rw [S_two, (moved_all o).2.1, (letgo_all o).2.1]
  exact (AB_step o.s2 o.h0 o.g0 o.a0 o.at_ o.b0 o.bt).1
theorem wait_shares (o : DuelOk d h g a b) : Shares 2 (consF 1 fun _ => loss d.s (min g b)) (consF (letgo d h g a b) fun _ => fA d h g a b) (d.s ^ kOf (min g b)) := by
  have s2 := o.s2
  have h0 := o.h0
  have g0 := o.g0
  have a0 := o.a0
  have b0 := o.b0
  have ha := o.at_
  have hb := o.bt
  have ht := o.t10
  have l := letgo_all o
  have p2 := pow5 (s := d.s) (h := g) (m := b) o.s10 (by omega)
  refine shares2 (by decide) ?_ (pow_pos' (by omega) _) (Nat.le_trans p2 (by decide)) o.common.1 o.common.2 ⟨l.1, l.2.2.1, l.2.2.2⟩ ⟨fA_ok s2 h0 g0 _ _, fA_isN s2 h0 g0 a0 ha (Nat.le_refl _) hb, le_ten (fA_le s2 h0 g0 _ _)⟩
  have := loss_lt (s := d.s) (k := min g b) s2 (by omega)
  exact Nat.le_trans (Nat.le_of_lt this) (Nat.le_trans p2 (by decide))
theorem wait_is (o : DuelOk d h g a b) : sharedF 2 (consF 1 fun _ => loss d.s (min g b)) (consF (letgo d h g a b) fun _ => fA d h g a b) (d.s ^ kOf (min g b)) = fB d h g a b := by
  have sh := wait_shares o
  refine sharedF_is sh.ok sh.v0 (fB_ok o.s2 o.h0 o.g0 _ _) ?_
  rw [S_two, (letgo_all o).2.1, (AB_step o.s2 o.h0 o.g0 o.a0 o.at_ o.b0 o.bt).2]
  have : ((1 : Nat) : Rat) = 1 := rfl
  rw [this]; grind
theorem ending_is (o : DuelOk d h g a b) : (d.s ^ kOf (min h a) * d.s ^ kOf (min g b) : Nat) = both d.s (min h a) (min g b) + loss d.s (min h a) * loss d.s (min g b) := by
  have h0 := o.h0
  have g0 := o.g0
  have a0 := o.a0
  have b0 := o.b0
  have h3 := loss_lt (s := d.s) (k := min h a) o.s2 (by omega)
  have h4 := loss_lt (s := d.s) (k := min g b) o.s2 (by omega)
  have h5 := Nat.mul_le_mul (Nat.le_of_lt h3) (Nat.le_of_lt h4)
  unfold both
  omega
end
end Dm
set_option linter.all false
namespace Dm
open Uw96 (Frac Die Table Call)
/-- a line's next call, and what stands behind it -/
inductive Told : List Int → Call → List Int → Prop
  | die (x y : Nat) (t : List Int) : Told (0 :: (x : Int) :: (y : Int) :: t) (.die x y) t
  | shows (t : List Int) : Told (1 :: t) .shows t
  | brings (x : Nat) (t : List Int) : Told (2 :: (x : Int) :: t) (.brings x) t
  | nothing (x : Nat) (t : List Int) : Told (3 :: (x : Int) :: t) (.nothing x) t
  | ends (x : Nat) (t : List Int) : Told (4 :: (x : Int) :: t) (.ends x) t
  | best (x : Nat) (t : List Int) : Told (5 :: (x : Int) :: t) (.best x) t
  | throws (x : Nat) (t : List Int) : Told (6 :: (x : Int) :: t) (.throws x) t
  | turns (h x : Nat) (t : List Int) : Told (7 :: (h : Int) :: (x : Int) :: t) (.turns h x) t
  | quick (x : Nat) (t : List Int) : Told (8 :: (x : Int) :: t) (.quick x) t
  | duel (h x g y : Nat) (t : List Int) : Told (9 :: (h : Int) :: (x : Int) :: (g : Int) :: (y : Int) :: t) (.duel h x g y) t
  | answer (x g y : Nat) (t : List Int) : Told (10 :: (x : Int) :: (g : Int) :: (y : Int) :: t) (.answer x g y) t
  | go (fs : List Nat) (t : List Int) : Told (11 :: (fs.length : Int) :: (Uw96.ints fs ++ t)) (.go fs) t
inductive Line : List Int → List Call → Prop
  | nil : Line [] []
  | cons {r t : List Int} {c : Call} {cs : List Call} : Told r c t → Line t cs → Line r (c :: cs)
/-- the calls' answers, one after another -/
def plays : Die → List Call → List (List Int)
  | _, [] => []
  | d, c :: cs => (Uw96.step d c).2 :: plays (Uw96.step d c).1 cs
theorem toNat_of {x : Int} (h : PyInside.within 0 4294967295 x = true) : ∃ n : Nat, x = (n : Int) ∧ n < 4294967296 := by
  unfold PyInside.within at h
  simp at h
  exact ⟨x.toNat, by omega, by omega⟩
theorem nat_ok {n : Nat} (h : n < 4294967296) : Uw96Neutral.nat (n : Int) = true := by
  unfold Uw96Neutral.nat
  simp
  omega
theorem ints_of {r : List Int} (h : r.all (PyInside.within 0 4294967295) = true) : ∃ fs : List Nat, r = Uw96.ints fs ∧ ∀ n ∈ fs, n < 4294967296 := by
  induction r with
  | nil => exact ⟨[], rfl, fun n hn => nomatch hn⟩
  | cons x r ih =>
    rw [List.all_cons, Bool.and_eq_true] at h
    obtain ⟨n, rfl, hn⟩ := toNat_of h.1
    obtain ⟨fs, rfl, hf⟩ := ih h.2
    exact ⟨n :: fs, rfl, fun m hm => by
      rcases List.mem_cons.mp hm with rfl | hm
      · exact hn
      · exact hf m hm⟩
theorem ints_nat {fs : List Nat} (h : ∀ n ∈ fs, n < 4294967296) : (Uw96.ints fs).all Uw96Neutral.nat = true := by
  rw [List.all_eq_true]
  intro x hx
  obtain ⟨n, hn, rfl⟩ := List.mem_map.mp hx
  exact nat_ok (h n hn)
theorem ints_toNat (fs : List Nat) : (Uw96.ints fs).map Int.toNat = fs := by
  unfold Uw96.ints
  rw [List.map_map]
  exact (List.map_congr_left (g := id) fun x _ => Int.toNat_natCast x).trans (List.map_id _)
def sOf (d : Die) (c : List (List Int)) : Die × List Int := Uw96Neutral.step d ((PyUw96.whole c).headD [])
theorem step_of {d : Die} {l : List Int} {c : Call} (h : Uw96Neutral.callOf l = some c) : Uw96Neutral.step d l = Uw96.step d c := by
  unfold Uw96Neutral.step
  rw [h]
  rfl
theorem callOf_nat {fs : List Nat} (h : ∀ n ∈ fs, n < 4294967296) : Uw96Neutral.callOf (Uw96.ints fs) = Uw96Neutral.callIn fs := by
  unfold Uw96Neutral.callOf
  rw [if_neg (by rw [ints_nat h]; simp), ints_toNat]
theorem len1 {r : List Int} (h : ¬ r.length < 1) : ∃ x t, r = x :: t := by
  cases r with
  | nil => simp at h
  | cons x t => exact ⟨x, t, rfl⟩
theorem len2 {r : List Int} (h : ¬ r.length < 2) : ∃ x y t, r = x :: y :: t := by
  obtain ⟨x, t, rfl⟩ := len1 (r := r) (by omega)
  obtain ⟨y, t, rfl⟩ := len1 (r := t) (by simp at h; omega)
  exact ⟨x, y, t, rfl⟩
theorem len3 {r : List Int} (h : ¬ r.length < 3) : ∃ x y z t, r = x :: y :: z :: t := by
  obtain ⟨x, t, rfl⟩ := len1 (r := r) (by omega)
  obtain ⟨y, z, t, rfl⟩ := len2 (r := t) (by simp at h; omega)
  exact ⟨x, y, z, t, rfl⟩
theorem len4 {r : List Int} (h : ¬ r.length < 4) : ∃ x y z u t, r = x :: y :: z :: u :: t := by
  obtain ⟨x, t, rfl⟩ := len1 (r := r) (by omega)
  obtain ⟨y, z, u, t, rfl⟩ := len3 (r := t) (by simp at h; omega)
  exact ⟨x, y, z, u, t, rfl⟩
theorem rows0 (r : List Int) : PyFlat.rows 0 r = some ([], r) := rfl
/-- a call as the document has it -/
theorem call_told {r t : List Int} {c : List (List Int)} (h : PyFlat.call PyUw96.shape r = some (c, t)) (hb : PyInside.call PyUw96.bound c = true) : ∃ k : Call, Told r k t ∧ ∀ d, sOf d c = Uw96.step d k := by
  cases r with
  | nil => cases h
  | cons p r =>
    unfold PyFlat.call at h
    dsimp only at h
    unfold PyUw96.shape at h
    by_cases h0 : p = 0
    · subst h0
      rw [if_pos rfl] at h
      simp only [rows0] at h
      split at h
      · cases h
      · rename_i hl
        obtain ⟨x, y, t', rfl⟩ := len2 hl
        cases h
        simp [PyInside.call, PyUw96.bound, PyInside.each, PyInside.lists] at hb
        obtain ⟨x, rfl, hx⟩ := toNat_of hb.1
        obtain ⟨y, rfl, hy⟩ := toNat_of hb.2
        exact ⟨.die x y, Told.die x y _, fun d => step_of (callOf_nat (fs := [0, x, y]) (by simp; omega))⟩
    by_cases h1 : p = 1
    · subst h1
      rw [if_neg (by decide), if_pos rfl] at h
      simp only [rows0] at h
      split at h
      · cases h
      · rename_i hl
        cases h
        exact ⟨.shows, Told.shows _, fun d => step_of (callOf_nat (fs := [1]) (by simp))⟩
    by_cases h2 : p = 2
    · subst h2
      rw [if_neg (by decide), if_neg (by decide), if_pos rfl] at h
      simp only [rows0] at h
      split at h
      · cases h
      · rename_i hl
        obtain ⟨x, t', rfl⟩ := len1 hl
        cases h
        simp [PyInside.call, PyUw96.bound, PyInside.each, PyInside.lists] at hb
        obtain ⟨x, rfl, hx⟩ := toNat_of hb
        exact ⟨.brings x, Told.brings x _, fun d => step_of (callOf_nat (fs := [2, x]) (by simp; omega))⟩
    by_cases h3 : p = 3
    · subst h3
      rw [if_neg (by decide), if_neg (by decide), if_neg (by decide), if_pos rfl] at h
      simp only [rows0] at h
      split at h
      · cases h
      · rename_i hl
        obtain ⟨x, t', rfl⟩ := len1 hl
        cases h
        simp [PyInside.call, PyUw96.bound, PyInside.each, PyInside.lists] at hb
        obtain ⟨x, rfl, hx⟩ := toNat_of hb
        exact ⟨.nothing x, Told.nothing x _, fun d => step_of (callOf_nat (fs := [3, x]) (by simp; omega))⟩
    by_cases h4 : p = 4
    · subst h4
      rw [if_neg (by decide), if_neg (by decide), if_neg (by decide), if_neg (by decide), if_pos rfl] at h
      simp only [rows0] at h
      split at h
      · cases h
      · rename_i hl
        obtain ⟨x, t', rfl⟩ := len1 hl
        cases h
        simp [PyInside.call, PyUw96.bound, PyInside.each, PyInside.lists] at hb
        obtain ⟨x, rfl, hx⟩ := toNat_of hb
        exact ⟨.ends x, Told.ends x _, fun d => step_of (callOf_nat (fs := [4, x]) (by simp; omega))⟩
    by_cases h5 : p = 5
    · subst h5
      rw [if_neg (by decide), if_neg (by decide), if_neg (by decide), if_neg (by decide), if_neg (by decide), if_pos rfl] at h
      simp only [rows0] at h
      split at h
      · cases h
      · rename_i hl
        obtain ⟨x, t', rfl⟩ := len1 hl
        cases h
        simp [PyInside.call, PyUw96.bound, PyInside.each, PyInside.lists] at hb
        obtain ⟨x, rfl, hx⟩ := toNat_of hb
        exact ⟨.best x, Told.best x _, fun d => step_of (callOf_nat (fs := [5, x]) (by simp; omega))⟩
    by_cases h6 : p = 6
    · subst h6
      rw [if_neg (by decide), if_neg (by decide), if_neg (by decide), if_neg (by decide), if_neg (by decide), if_neg (by decide), if_pos rfl] at h
      simp only [rows0] at h
      split at h
      · cases h
      · rename_i hl
        obtain ⟨x, t', rfl⟩ := len1 hl
        cases h
        simp [PyInside.call, PyUw96.bound, PyInside.each, PyInside.lists] at hb
        obtain ⟨x, rfl, hx⟩ := toNat_of hb
        exact ⟨.throws x, Told.throws x _, fun d => step_of (callOf_nat (fs := [6, x]) (by simp; omega))⟩
    by_cases h7 : p = 7
    · subst h7
      rw [if_neg (by decide), if_neg (by decide), if_neg (by decide), if_neg (by decide), if_neg (by decide), if_neg (by decide), if_neg (by decide), if_pos rfl] at h
      simp only [rows0] at h
      split at h
      · cases h
      · rename_i hl
        obtain ⟨x, y, t', rfl⟩ := len2 hl
        cases h
        simp [PyInside.call, PyUw96.bound, PyInside.each, PyInside.lists] at hb
        obtain ⟨x, rfl, hx⟩ := toNat_of hb.1
        obtain ⟨y, rfl, hy⟩ := toNat_of hb.2
        exact ⟨.turns x y, Told.turns x y _, fun d => step_of (callOf_nat (fs := [7, x, y]) (by simp; omega))⟩
    by_cases h8 : p = 8
    · subst h8
      rw [if_neg (by decide), if_neg (by decide), if_neg (by decide), if_neg (by decide), if_neg (by decide), if_neg (by decide), if_neg (by decide), if_neg (by decide), if_pos rfl] at h
      simp only [rows0] at h
      split at h
      · cases h
      · rename_i hl
        obtain ⟨x, t', rfl⟩ := len1 hl
        cases h
        simp [PyInside.call, PyUw96.bound, PyInside.each, PyInside.lists] at hb
        obtain ⟨x, rfl, hx⟩ := toNat_of hb
        exact ⟨.quick x, Told.quick x _, fun d => step_of (callOf_nat (fs := [8, x]) (by simp; omega))⟩
    by_cases h9 : p = 9
    · subst h9
      rw [if_neg (by decide), if_neg (by decide), if_neg (by decide), if_neg (by decide), if_neg (by decide), if_neg (by decide), if_neg (by decide), if_neg (by decide), if_neg (by decide), if_pos rfl] at h
      simp only [rows0] at h
      split at h
      · cases h
      · rename_i hl
        obtain ⟨x, y, z, u, t', rfl⟩ := len4 hl
        cases h
        simp [PyInside.call, PyUw96.bound, PyInside.each, PyInside.lists] at hb
        obtain ⟨x, rfl, hx⟩ := toNat_of hb.1
        obtain ⟨y, rfl, hy⟩ := toNat_of hb.2.1
        obtain ⟨z, rfl, hz⟩ := toNat_of hb.2.2.1
        obtain ⟨u, rfl, hu⟩ := toNat_of hb.2.2.2
        exact ⟨.duel x y z u, Told.duel x y z u _, fun d => step_of (callOf_nat (fs := [9, x, y, z, u]) (by simp; omega))⟩
    by_cases h10 : p = 10
    · subst h10
      rw [if_neg (by decide), if_neg (by decide), if_neg (by decide), if_neg (by decide), if_neg (by decide), if_neg (by decide), if_neg (by decide), if_neg (by decide), if_neg (by decide), if_neg (by decide), if_pos rfl] at h
      simp only [rows0] at h
      split at h
      · cases h
      · rename_i hl
        obtain ⟨x, y, z, t', rfl⟩ := len3 hl
        cases h
        simp [PyInside.call, PyUw96.bound, PyInside.each, PyInside.lists] at hb
        obtain ⟨x, rfl, hx⟩ := toNat_of hb.1
        obtain ⟨y, rfl, hy⟩ := toNat_of hb.2.1
        obtain ⟨z, rfl, hz⟩ := toNat_of hb.2.2
        exact ⟨.answer x y z, Told.answer x y z _, fun d => step_of (callOf_nat (fs := [10, x, y, z]) (by simp; omega))⟩
    by_cases h11 : p = 11
    · subst h11
      rw [if_neg (by decide), if_neg (by decide), if_neg (by decide), if_neg (by decide), if_neg (by decide), if_neg (by decide), if_neg (by decide), if_neg (by decide), if_neg (by decide), if_neg (by decide), if_neg (by decide), if_pos rfl] at h
      dsimp only at h
      rw [if_neg (by omega)] at h
      unfold PyFlat.rows at h
      cases r with
      | nil => simp [PyFlat.row] at h
      | cons n r =>
        simp only [List.drop_zero, PyFlat.row] at h
        by_cases hn : 0 ≤ n ∧ n.toNat ≤ r.length
        · rw [if_pos hn] at h
          simp only [PyFlat.rows] at h
          cases h
          simp [PyInside.call, PyUw96.bound, PyInside.each, PyInside.lists] at hb
          obtain ⟨fs, hf, hfs⟩ := ints_of (r := r.take n.toNat) (by
            rw [List.all_eq_true]
            intro x hx
            exact hb.2 x hx)
          have hlen : fs.length = n.toNat := by
            have := congrArg List.length hf
            unfold Uw96.ints at this
            rw [List.length_take, List.length_map] at this
            omega
          refine ⟨.go fs, ?_, fun d => ?_⟩
          · have e := Told.go fs (r.drop n.toNat)
            rw [← hf, List.take_append_drop, hlen, show ((n.toNat : Nat) : Int) = n by omega] at e
            exact e
          · have e : sOf d [[11], r.take n.toNat] = Uw96Neutral.step d (11 :: r.take n.toNat) := rfl
            show sOf d [[11], r.take n.toNat] = _
            rw [e, hf]
            refine step_of ((callOf_nat (fs := 11 :: fs) ?_).trans rfl)
            intro m hm
            rcases List.mem_cons.mp hm with rfl | hm
            · decide
            · exact hfs m hm
        · rw [if_neg hn] at h
          cases h
    · rw [if_neg h0, if_neg h1, if_neg h2, if_neg h3, if_neg h4, if_neg h5, if_neg h6, if_neg h7, if_neg h8, if_neg h9, if_neg h10, if_neg h11] at h
      cases h
theorem calls_line : ∀ (f : Nat) (l : List Int) (raw : List (List (List Int))), PyFlat.calls PyUw96.shape f l = some raw → PyInside.calls PyUw96.bound raw = true →
    ∃ cs, Line l cs ∧ cs.length = raw.length ∧ ∀ d, PyFlat.played (fun s c => Uw96Neutral.step s (c.headD [])) d (raw.map PyUw96.whole) = plays d cs
  | f, [], raw, h, hb => by
    have e : raw = [] := by
      cases f <;> · simp [PyFlat.calls] at h; exact h
    subst e
    exact ⟨[], .nil, rfl, fun d => rfl⟩
  | 0, p :: r, raw, h, hb => by simp [PyFlat.calls] at h
  | f + 1, p :: r, raw, h, hb => by
    unfold PyFlat.calls at h
    split at h
    · cases h
    · rename_i c t hc
      split at h
      · cases h
      · rename_i raw' hr
        cases h
        unfold PyInside.calls at hb
        rw [List.all_cons, Bool.and_eq_true] at hb
        obtain ⟨k, hk, hs⟩ := call_told hc hb.1
        obtain ⟨cs, hl, hn, hp⟩ := calls_line f t raw' hr hb.2
        refine ⟨k :: cs, .cons hk hl, by rw [List.length_cons, List.length_cons, hn], fun d => ?_⟩
        show (sOf d c).2 :: PyFlat.played _ (sOf d c).1 (raw'.map PyUw96.whole) = _
        rw [hs, hp]
        rfl
/-- what is asked, and what is due -/
theorem asked_line {l : List Int} (h : PyUw96.answers_asked l = true) : ∃ cs, Line l cs ∧ cs.length ≤ 40 ∧ PyUw96.answers l = PyFlat.told (plays Uw96.init cs) ∧ (PyUw96.answers l).length ≤ 10000000 := by
  unfold PyUw96.answers_asked at h
  split at h
  · cases h
  · rename_i raw hr
    simp only [Bool.and_eq_true] at h
    obtain ⟨⟨⟨⟨h1, h2⟩, h3⟩, h4⟩, h5⟩ := h
    obtain ⟨cs, hl, hn, hp⟩ := calls_line _ _ _ hr h3
    refine ⟨cs, hl, ?_, ?_, ?_⟩
    · rw [hn]
      simpa [PyFlat.atMost] using h2
    · unfold PyUw96.answers PyUw96.calls
      rw [hr]
      show PyFlat.told (PyFlat.played _ _ (raw.map PyUw96.whole)) = _
      rw [hp]
      rfl
    · simpa [PyFlat.short] using h5
end Dm
set_option Elab.async false
set_option linter.all false
set_option maxRecDepth 100000
namespace L2
open PySem PySem.Spec PyProof.Rows
section
variable {X : Cx}
/-- a product of two numbers of any size that fits -/
theorem op_mulB : OpR X (binaryOp .Mult) (rI (fun i j => IntMulOk i j) fun i j => .int (i * j)) := opI fun _ _ _ _ _ _ _ hc q => mul_int q hc
def CDivL (_ j : Int) : Prop := 0 < j ∧ j.natAbs.log2 < 9000
/-- a floor by a divisor of less than 9000 bits -/
theorem op_fdivL : OpR X (binaryOp .FloorDiv) (rI CDivL fun i j => .int (i / j)) := opI fun i j _ _ _ _ _ hc q => by
  have h1 : (0 : Int) < j := hc.1
  exact floordiv_int (by omega) (by rw [Int.fdiv_eq_ediv_of_nonneg i (by omega)]; exact q) (.inl (PyProof.noPylong_of_log2 hc.2))
def ipB : TIp := fun x y H Q => ∃ i j, x = .int i ∧ y = .int j ∧ IntMulOk i j ∧ Q (.int (i * j)) H
theorem ip_mulB : PIp X .Mult ipB := by
  intro pins s σ H x y v u Q I r1 r2 h
  obtain ⟨i, j, rfl, rfl, hm, q⟩ := h
  obtain ⟨t, rfl⟩ := r1
  obtain ⟨t', rfl⟩ := r2
  exact imul_int ⟨.int _, H, I.tok _, ⟨_, rfl⟩, q⟩ hm
/-- xs[i] by values, i not below 0 -/
def rGetL (K : PySem.W.Frag) : V → V → Hp → VK → Prop := fun x y H Q => ∃ (p : Addr) (xs : List V) (j : Nat) (v : V), x = .ref p ∧ y = .int j ∧ SqL K H p xs ∧ xs[j]? = some v ∧ Q v H
theorem pget_list : PGet X (rGetL X.K) := by
  intro pins s σ H o i ov iv Q I r1 r2 h
  obtain ⟨p, xs, j, z, rfl, rfl, hq, he, q⟩ := h
  cases r1
  obtain ⟨t, rfl⟩ := r2
  obtain ⟨its, r, pl, hz⟩ := I.list hq
  obtain ⟨w, ew, rw'⟩ := r.get he
  have hl := r.length
  have hn := line63
  have hlt : j < its.length := (List.getElem?_eq_some_iff.mp ew).1
  exact wpAny_getItem_list pl.isList (Int.natCast_nonneg j) (by omega) (by simpa using ew) ⟨z, H, I, rw', q⟩
/-- xs[i] = v by values, i not below 0 -/
theorem ixN_nat {n j : Nat} (h : j < n) : ixN n (j : Int) = some j := by
  unfold ixN
  rw [if_pos (Int.natCast_nonneg j), if_pos (by omega), Int.toNat_natCast]
end
/-- lo <= x <= hi -/
theorem rd_chain {σ : L2.St} {H : Hp} {Q : VK} {i : Nat} {lo hi x : Int} (e : σ[i]? = some (some (.int x))) (h : Q (.bl (decide (lo ≤ x) && decide (x ≤ hi))) H) :
    tChain (rI0 fun i j => .bl (decide (i ≤ j))) (rI0 fun i j => .bl (decide (i ≤ j))) (tC (.int lo)) (tVar i) (tC (.int hi)) σ H Q := by
  refine ⟨_, e, _, _, rfl, rfl, _, rfl, ite2 (fun c => ?_) (fun c => ?_)⟩
  · rw [c, Bool.true_and] at h
    exact ⟨_, _, rfl, rfl, h⟩
  · rw [show decide (lo ≤ x) = false by simpa using c, Bool.false_and] at h
    exact h
/-! ### heaps -/
theorem Same.upd {H H' : Hp} {p : Addr} {o : HO} (s : Same H H') (n : H' p = Option.none) : Same H (L2.upd H' p o) := fun b u e => by
  rw [upd_ne (ne_of_none (s _ _ e) n)]
  exact s _ _ e
/-- what was new is written -/
theorem Same.put {H H' : Hp} {p : Addr} {o : HO} (s : Same H H') (n : H p = Option.none) : Same H (L2.upd H' p o) := fun b u e => by
  rw [upd_ne (ne_of_none e n)]
  exact s _ _ e
/-- a new list is handed back, all that was tracked is as it was -/
def NewL (xs : List V) (H : Hp) (Q : VK) : Prop := ∀ (H' : Hp) (p : Addr), Same H H' → H p = none → H' p = some (.lst xs) → Q (.ref p) H'
theorem NewL.of {xs : List V} {H : Hp} {Q : VK} {H' : Hp} (h : NewL xs H Q) (s : Same H H') (p : Addr) (n : H' p = none) : Q (.ref p) (L2.upd H' p (.lst xs)) :=
  h _ p (s.upd n) (s.free n) upd_same
theorem NewL.mono {xs : List V} {H H1 : Hp} {Q : VK} (h : NewL xs H Q) (s : Same H H1) : NewL xs H1 Q := fun H' p s' n e => h H' p (s.trans s') (s.free n) e
theorem log2_le {a b : Nat} (h : a ≤ b) (hb : b.log2 < 9000) : a.log2 < 9000 := by
  by_cases ha : a = 0
  · subst ha; decide
  · have hb0 : b ≠ 0 := by omega
    rw [Nat.log2_lt ha]
    rw [Nat.log2_lt hb0] at hb
    omega
end L2
set_option Elab.async false
set_option linter.all false
set_option maxRecDepth 100000
set_option maxHeartbeats 2000000
namespace Dp
open PySem PySem.Spec PyProof.Rows L2
open Uw96 (Frac)
def top (i : Nat) : Stmt := PySem.Challenge.pw_daringdie_s01_answers.main.body.getD i (.Pass ⟨0, 0, 0, 0⟩)
/-- a fraction as the program has it -/
def V2 (a : Frac) : List V := [.int (a.u : Int), .int (a.l : Int)]
def spLowest : Sp := fun vs H Q _ => ∃ a b : Nat, vs = [.int a, .int b] ∧ 0 < b ∧ b.log2 < 9000 ∧ NewL (V2 (Uw96.frac a b)) H Q
section
variable {P : Program} {w : World} {K : PySem.W.Frag} {mg : Str → Option Value} {base : Heap}
abbrev s_lowest : Stmt := top 1
theorem sc_lowest : FnScope ["above", "below", "divisor", "rest", "smaller"] ["above", "below"] (defScope s_lowest) := ⟨rfl, rfl, rfl, by decide +kernel, rfl, by decide +kernel, by decide +kernel⟩
theorem ok_lowest {f : Addr} {fd : FuncData} (F : Fun K "lowest" "lowest" s_lowest f fd) : FnOk P w K mg base CX0 1 f fd ["above", "below"] spLowest := by
  refine F.ok sc_lowest (fun vs H Q E h => ?_) (fun cdv A outer s H vs Q E hr h => ?_)
  · obtain ⟨a, b, rfl, _⟩ := h
    rfl
  · obtain ⟨a, b, rfl, hb, hlg, k⟩ := h
    refine ⟨_, (pss_cons (ps_set (i := 2) sc_lowest.nd rfl (by first | exact Or.inl rfl | exact Or.inr rfl) (pv 0))
      (pss_cons (ps_set (i := 3) sc_lowest.nd rfl (by first | exact Or.inl rfl | exact Or.inr rfl) (pv 1))
      (pss_cons (ps_while PassesOwn.never (pt_cmpR op_gt (pv 3) pe_int (nomark _)) (pss_cons (ps_set (i := 4) sc_lowest.nd rfl (by first | exact Or.inl rfl | exact Or.inr rfl) (pe_op op_mod (pv 2) (pv 3)))
        (pss_cons (ps_set (i := 2) sc_lowest.nd rfl (by first | exact Or.inl rfl | exact Or.inr rfl) (pv 3))
        (pss_one (ps_set (i := 3) sc_lowest.nd rfl (by first | exact Or.inl rfl | exact Or.inr rfl) (pv 4))))))
      (pss_one (ps_ret (pe_lst (pa_cons (pe_op op_fdivL (pv 0) (pv 2)) (pa_cons (pe_op op_fdivL (pv 1) (pv 2)) pa_nil)))))))), ?_⟩
    refine ⟨_, rfl, _, rfl, ?_⟩
    refine while_by (fun σ H' => ∃ (x y : Nat) (z : Option V), σ = [some (.int a), some (.int b), some (.int x), some (.int y), z] ∧ H' = H ∧ Nat.gcd x y = Nat.gcd a b)
      (fun (σ : L2.St) _ => match σ[3]? with | some (some (V.int i)) => i.toNat | _ => 0) ⟨a, b, none, rfl, rfl, rfl⟩ ?_ ?_
    · rintro σ H' ⟨x, y, z, rfl, rfl, hg⟩
      refine ⟨_, rfl, _, _, rfl, rfl, _, rfl, ?_⟩
      refine ite2 (fun hc => ?_) (fun hc => ?_)
      · have hy : (0 : Int) < (y : Int) := of_decide_eq_true hc
        refine ⟨_, rfl, _, rfl, _, _, rfl, rfl, hy, ?_⟩
        refine ⟨_, rfl, _, rfl, ?_⟩
        refine ⟨⟨y, x % y, some (.int ((x % y : Nat) : Int)), rfl, rfl, ?_⟩, ?_⟩
        · rw [← hg, Nat.gcd_comm x y, Nat.gcd_rec y x, Nat.gcd_comm]
        · show ((x : Int) % (y : Int)).toNat < (y : Int).toNat
          have h1 := Int.emod_lt_of_pos (x : Int) hy
          have h2 := Int.emod_nonneg (x : Int) (show (y : Int) ≠ 0 by omega)
          omega
      · have hy : ¬ (0 : Int) < (y : Int) := fun q => hc (decide_eq_true q)
        have hy0 : y = 0 := by omega
        subst hy0
        rw [Nat.gcd_zero_right] at hg
        subst hg
        have hgp : 0 < Nat.gcd a b := Nat.gcd_pos_of_pos_right _ hb
        have hcd : CDivL (a : Int) ((Nat.gcd a b : Nat) : Int) := ⟨by omega, by
          rw [Int.natAbs_natCast]
          exact log2_le (Nat.le_of_dvd hb (Nat.gcd_dvd_right a b)) hlg⟩
        refine ⟨_, rfl, _, rfl, _, _, rfl, rfl, hcd, _, rfl, _, rfl, _, _, rfl, rfl, hcd, (by show 2 ≤ sizeLine; decide), fun p hp => ?_⟩
        rw [Dm.frac_div a hb] at k
        exact k.of (fun b o e => e) p hp
    · rintro σ H1 Q1 Q2 hm ⟨v, e, i, j, e1, e2, kk, e3, h⟩
      exact ⟨v, e, i, j, e1, e2, kk, e3, hm _ _ h⟩
end
end Dp
set_option Elab.async false
set_option linter.all false
set_option maxRecDepth 100000
set_option maxHeartbeats 2000000
namespace Dp
open PySem PySem.Spec PyProof.Rows L2
open Uw96 (Frac)
/-- a list by its places -/
def byN (n : Nat) (g : Nat → Nat) : List V := (List.range n).map fun i => V.int (g i : Int)
theorem byN_length (n : Nat) (g : Nat → Nat) : (byN n g).length = n := by unfold byN; rw [List.length_map, List.length_range]
theorem byN_get {n i : Nat} (g : Nat → Nat) (h : i < n) : (byN n g)[i]? = some (.int (g i : Int)) := by
  unfold byN
  rw [List.getElem?_map, List.getElem?_range h]
  rfl
theorem byN_set {n i : Nat} (g : Nat → Nat) (v : Nat) (h : i < n) : (byN n g).set i (.int (v : Int)) = byN n fun k => if k = i then v else g k := by
  apply List.ext_getElem?
  intro k
  by_cases hk : k < n
  · rw [byN_get _ hk, List.getElem?_set]
    by_cases e : i = k
    · subst e
      rw [if_pos rfl, if_pos (by rw [byN_length]; exact h), if_pos rfl]
    · rw [if_neg e, byN_get _ hk, if_neg (fun q => e q.symm)]
  · rw [List.getElem?_eq_none (by rw [List.length_set, byN_length]; omega), List.getElem?_eq_none (by rw [byN_length]; omega)]
theorem byN_congr {n : Nat} {f g : Nat → Nat} (h : ∀ i, i < n → f i = g i) : byN n f = byN n g := by
  unfold byN
  apply List.map_congr_left
  intro i hi
  rw [h i (List.mem_range.mp hi)]
theorem zeros (k : Nat) : (List.replicate k [V.int 0]).flatten = byN k fun _ => 0 := by
  unfold byN
  rw [List.flatten_replicate_singleton]
  apply List.ext_getElem?
  intro i
  rw [List.getElem?_replicate, List.getElem?_map]
  by_cases h : i < k
  · rw [if_pos h, List.getElem?_range h]; rfl
  · rw [if_neg h, List.getElem?_eq_none (by rw [List.length_range]; omega)]; rfl
structure Held (s h : Nat) : Prop where
  s2 : 2 ≤ s
  s10 : s ≤ 10
  h1 : 1 ≤ h
  h100 : h ≤ 100
def spWhole : Sp := fun vs H Q _ => ∃ s h : Nat, vs = [.int s, .int h] ∧ Held s h ∧ Q (.int ((s ^ Dm.kOf h : Nat) : Int)) H
def spWeights : Sp := fun vs H Q _ => ∃ s h : Nat, vs = [.int s, .int h] ∧ Held s h ∧ NewL (byN (h + s) (Dm.W s h)) H Q
structure Bi (mg : Str → Option Value) : Prop where
  n_range : mg "range" = none
  n_len : mg "len" = none
  n_sum : mg "sum" = none
  n_min : mg "min" = none
  n_max : mg "max" = none
section
variable {P : Program} {w : World} {K : PySem.W.Frag} {mg : Str → Option Value} {base : Heap}
abbrev s_whole_weight : Stmt := top 2
theorem sc_whole_weight : FnScope ["faces", "hold", "weight", "throw"] ["faces", "hold"] (defScope s_whole_weight) := ⟨rfl, rfl, rfl, by decide +kernel, rfl, by decide +kernel, by decide +kernel⟩
theorem ok_whole_weight {f : Addr} {fd : FuncData} (F : Fun K "whole_weight" "whole_weight" s_whole_weight f fd) (T : Bi mg) : FnOk P w K mg base CX0 1 f fd ["faces", "hold"] spWhole := by
  refine F.ok sc_whole_weight (fun vs H Q E h => ?_) (fun cdv A outer s H vs Q E hr h => ?_)
  · obtain ⟨a, b, rfl, _⟩ := h
    rfl
  · obtain ⟨n, h, rfl, hd, k⟩ := h
    have hs10 := hd.s10
    have hh := hd.h100
    refine ⟨_, (pss_cons (ps_set (i := 2) sc_whole_weight.nd rfl (by first | exact Or.inl rfl | exact Or.inr rfl) pe_int)
      (pss_cons (ps_for PassesOwn.never rfl (pi_range1 rfl T.n_range (pa_cons (pe_op op_fdivL (pe_op op_add (pv 1) pe_int) pe_int) pa_nil)) (pg_name (i := 3) sc_whole_weight.nd rfl (by first | exact Or.inl rfl | exact Or.inr rfl)) (pss_one (ps_aug (i := 2) sc_whole_weight.nd rfl (by first | exact Or.inl rfl | exact Or.inr rfl) (pv 0) ip_mulB)))
      (pss_one (ps_ret (pv 2))))), ?_⟩
    refine ⟨_, rfl, _, _, rfl, rfl, _, _, rfl, rfl, ⟨by decide, by decide +kernel⟩, _, rfl, by omega, by omega, ?_⟩
    refine for_range (fun i σ H' => ∃ z : Option V, σ = [some (.int n), some (.int h), some (.int ((n ^ i : Nat) : Int)), z] ∧ H' = H) ⟨none, rfl, rfl⟩ ?_ ?_
    · rintro i σ H' hi ⟨z, rfl, rfl⟩
      refine ⟨_, rfl, _, rfl, _, _, rfl, rfl, IntMulOk.of_right (intBits_le_64 (by omega) (by omega)), ?_⟩
      exact ⟨_, by rw [Nat.pow_succ, Int.natCast_mul]; rfl, rfl⟩
    · rintro σ H' ⟨z, rfl, rfl⟩
      have e : (((h : Int) + 1) / 2).toNat = Dm.kOf h := by unfold Dm.kOf; omega
      rw [e]
      exact ⟨_, rfl, k⟩
abbrev s_weights_of_sums : Stmt := top 3
theorem sc_weights_of_sums : FnScope ["faces", "hold", "weights", "total", "share", "face"] ["faces", "hold"] (defScope s_weights_of_sums) := ⟨rfl, rfl, rfl, by decide +kernel, rfl, by decide +kernel, by decide +kernel⟩
theorem ok_weights_of_sums {f f1 : Addr} {fd fd1 : FuncData} (F : Fun K "weights_of_sums" "weights_of_sums" s_weights_of_sums f fd) (T : Bi mg)
    (F_whole_weight : Fun K "whole_weight" "whole_weight" s_whole_weight f1 fd1) (b_whole_weight : Binds K fd1 ["faces", "hold"] []) (m_whole_weight : mg "whole_weight" = some (.ref f1)) : FnOk P w K mg base CX0 2 f fd ["faces", "hold"] spWeights := by
  have G_whole_weight : FnOk P w K mg base CX0 1 f1 fd1 ["faces", "hold"] spWhole := ok_whole_weight F_whole_weight T
  refine F.ok sc_weights_of_sums (fun vs H Q E h => ?_) (fun cdv A outer s H vs Q E hr h => ?_)
  · obtain ⟨a, b, rfl, _⟩ := h
    rfl
  · obtain ⟨n, h, rfl, hd, k⟩ := h
    have hs2 := hd.s2
    have hs10 := hd.s10
    have hh1 := hd.h1
    have hh := hd.h100
    refine ⟨_, (pss_cons (ps_set (i := 2) sc_weights_of_sums.nd rfl (by first | exact Or.inl rfl | exact Or.inr rfl) (pe_op op_rep (pe_lst (pa_cons pe_int pa_nil)) (pe_op op_add (pv 1) (pv 0))))
      (pss_cons (ps_asg (pe_call G_whole_weight hr rfl m_whole_weight F_whole_weight.kp b_whole_weight .nil pass0 (pa_cons (pv 0) (pa_cons (pv 1) pa_nil))) (pg_sub (pv 2) pe_int set_list))
      (pss_cons (ps_for PassesOwn.never rfl (pi_range1 rfl T.n_range (pa_cons (pv 1) pa_nil)) (pg_name (i := 3) sc_weights_of_sums.nd rfl (by first | exact Or.inl rfl | exact Or.inr rfl)) (pss_cons (ps_set (i := 4) sc_weights_of_sums.nd rfl (by first | exact Or.inl rfl | exact Or.inr rfl) (pe_op op_fdivL (pe_ix ix_list (pv 2) (pv 3) (fun _ _ => rfl)) (pv 0)))
        (pss_one (ps_for PassesOwn.never rfl (pi_range2 rfl T.n_range (pa_cons pe_int (pa_cons (pe_op op_add (pv 0) pe_int) pa_nil))) (pg_name (i := 5) sc_weights_of_sums.nd rfl (by first | exact Or.inl rfl | exact Or.inr rfl)) (pss_one (ps_augS (pv 2) (pe_op op_add (pv 3) (pv 5)) pget_list (pv 4) ip_add set_list))))))
      (pss_one (ps_ret (pv 2)))))), ?_⟩
    -- weights = [0] * (hold + faces)
    refine ⟨(by show 1 ≤ sizeLine; decide), fun p0 hp0 => ⟨_, rfl, _, rfl, _, _, rfl, rfl, p0, _, _, rfl, rfl, upd_same, by omega, by omega, ?_, fun p hp => ?_⟩⟩
    · show 1 * ((h : Int) + (n : Int)).toNat ≤ sizeLine
      have : (200 : Nat) ≤ sizeLine := by decide
      omega
    have s1 : Same H (upd H p0 (.lst [.int 0])) := Same.upd (fun b o e => e) hp0
    have np : H p = none := s1.free hp
    have ez : ((h : Int) + (n : Int)).toNat = h + n := by omega
    -- weights[0] = whole_weight(faces, hold)
    refine ⟨_, rfl, _, rfl, n, h, rfl, hd, _, rfl, p, _, _, 0, rfl, rfl, upd_same, ?_, ?_⟩
    · rw [zeros, byN_length, ez]
      exact ixN_nat (n := h + n) (j := 0) (by omega)
    rw [zeros, ez, byN_set _ _ (show 0 < h + n by omega)]
    -- the loops
    refine ⟨_, rfl, _, rfl, by omega, by omega, ?_⟩
    refine for_range (fun t σ H' => ∃ z3 z4 z5 : Option V, σ = [some (.int n), some (.int h), some (.ref p), z3, z4, z5] ∧ Same H H' ∧ H' p = some (.lst (byN (h + n) (Dm.Wt n (Dm.kOf h) t)))) ⟨none, none, none, rfl, ?_, ?_⟩ ?_ ?_
    · exact (s1.put np).put np
    · rw [upd_same]
      rfl
    · rintro t σ H' ht ⟨z3, z4, z5, rfl, sm, hL⟩
      have ht : t < h := by have : ((h : Int)).toNat = h := by omega
                            omega
      refine ⟨_, rfl, _, rfl, p, _, _, _, rfl, rfl, SqL.of hL, at_of (j := t) (by omega) (byN_get _ (by omega)), _, rfl, _, _, rfl, rfl, ⟨by omega, ?_⟩, ?_⟩
      · rw [Int.natAbs_natCast]
        exact log2_le (b := 10) hs10 (by decide +kernel)
      refine ⟨_, rfl, _, _, rfl, rfl, _, _, rfl, ⟨by decide, by decide, by omega, by omega⟩, ?_⟩
      refine for_range (fun j σ H2 => ∃ z5 : Option V, σ = [some (.int n), some (.int h), some (.ref p), some (.int (0 + (t : Int))), some (.int ((Dm.Wt n (Dm.kOf h) t t / n : Nat) : Int)), z5] ∧ Same H H2 ∧
        H2 p = some (.lst (byN (h + n) fun i => Dm.Wt n (Dm.kOf h) t i + if t + 2 ≤ i ∧ i < t + 2 + j then Dm.Wt n (Dm.kOf h) t t / n else 0))) ⟨_, rfl, sm, ?_⟩ ?_ ?_
      · rw [hL]
        refine congrArg (fun l => some (HO.lst l)) (byN_congr fun i _ => ?_)
        rw [if_neg (by omega), Nat.add_zero]
      · rintro j σ H2 hj ⟨z5, rfl, sm2, hL2⟩
        have hj : j < n - 1 := by omega
        refine ⟨_, rfl, _, rfl, _, rfl, _, _, rfl, rfl, p, _, t + 2 + j, _, rfl, congrArg V.int (by omega), SqL.of hL2, byN_get _ (by omega), _, rfl, _, _, rfl, rfl, p, _, _, t + 2 + j, rfl, rfl, hL2, ?_, ?_⟩
        · rw [byN_length, show (0 : Int) + (t : Int) + (2 + (j : Int)) = ((t + 2 + j : Nat) : Int) by omega]
          exact ixN_nat (by omega)
        · refine ⟨_, rfl, sm2.put np, ?_⟩
          rw [upd_same]
          refine congrArg (fun l => some (HO.lst l)) ((byN_set _ _ (by omega)).trans (byN_congr fun i _ => ?_))
          by_cases e : i = t + 2 + j
          · subst e
            rw [if_pos rfl, if_neg (by omega), if_pos (by omega), Nat.add_zero]
          · rw [if_neg e]
            by_cases e2 : t + 2 ≤ i ∧ i < t + 2 + j
            · rw [if_pos e2, if_pos (by omega)]
            · rw [if_neg e2, if_neg (by omega)]
      · rintro σ H2 ⟨z5, rfl, sm2, hL2⟩
        refine ⟨_, _, _, rfl, sm2, ?_⟩
        rw [hL2]
        refine congrArg (fun l => some (HO.lst l)) (byN_congr fun i _ => ?_)
        show _ = Dm.Wt n (Dm.kOf h) t i + if t + 2 ≤ i ∧ i < t + n + 1 then Dm.Wt n (Dm.kOf h) t t / n else 0
        have e : t + 2 + ((n : Int) + 1 - 2).toNat = t + n + 1 := by omega
        rw [e]
    · rintro σ H' ⟨z3, z4, z5, rfl, sm, hL⟩
      rw [Int.toNat_natCast] at hL
      exact ⟨_, rfl, k H' p sm np hL⟩
end
end Dp
set_option Elab.async false
set_option linter.all false
set_option maxRecDepth 100000
set_option maxHeartbeats 2000000
namespace Dp
open PySem PySem.Spec PyProof.Rows L2
open Uw96 (Frac)
theorem byN_ints (n : Nat) (g : Nat → Nat) : byN n g = ((List.range n).map fun i => ((g i : Nat) : Int)).map V.int := by
  unfold byN
  rw [List.map_map]
  rfl
theorem sumI_snoc : ∀ (l : List Int) (z : Int), (l ++ [z]).sum = l.sum + z
  | [], z => by
    show ([z] : List Int).sum = ([] : List Int).sum + z
    rw [List.sum_cons]
    exact Int.add_comm _ _
  | a :: l, z => by
    show (a :: (l ++ [z])).sum = (a :: l).sum + z
    rw [List.sum_cons, List.sum_cons, sumI_snoc l z]
    omega
theorem sum_byN (g : Nat → Nat) : ∀ n, ((List.range n).map fun i => ((g i : Nat) : Int)).sum = ((Dm.Sn n g : Nat) : Int)
  | 0 => rfl
  | n + 1 => by
    rw [List.range_succ, List.map_append, List.map_singleton, sumI_snoc, sum_byN g n]
    rfl
theorem byN_snoc (n : Nat) (g : Nat → Nat) : byN n g ++ [V.int (g n : Int)] = byN (n + 1) g := by
  unfold byN
  rw [List.range_succ, List.map_append]
  rfl
theorem big_log2 {n : Nat} (h : n ≤ 10 ^ 50) : n.log2 < 9000 := by
  have h1 : (10 ^ 50 : Nat) < 2 ^ 9000 := by decide +kernel
  by_cases h0 : n = 0
  · subst h0; decide
  · rw [Nat.log2_lt h0]
    omega
theorem cut_from (m n : Nat) (g : Nat → Nat) (k : Nat) (hk : k ≤ m) (hn : n = m - k) : cutV (byN m g) (some (k : Int)) none = byN n fun i => g (k + i) := by
  unfold cutV
  rw [byN_length, HT.sIx_nat, HT.sIx_none, Nat.min_eq_left hk]
  apply List.ext_getElem?
  intro i
  by_cases hi : i < n
  · rw [List.getElem?_take_of_lt (by omega), List.getElem?_drop, byN_get _ (by omega), byN_get _ hi]
  · rw [List.getElem?_eq_none (by rw [List.length_take]; omega), List.getElem?_eq_none (by rw [byN_length]; omega)]
def spFrac (g : Nat → Nat → Frac) : Sp := fun vs H Q _ => ∃ s h : Nat, vs = [.int s, .int h] ∧ Held s h ∧ NewL (V2 (g s h)) H Q
section
variable {P : Program} {w : World} {K : PySem.W.Frag} {mg : Str → Option Value} {base : Heap}
abbrev s_average : Stmt := top 4
theorem sc_average : FnScope ["faces", "hold", "weights", "gained", "total"] ["faces", "hold"] (defScope s_average) := ⟨rfl, rfl, rfl, by decide +kernel, rfl, by decide +kernel, by decide +kernel⟩
theorem ok_average {f f1 f2 : Addr} {fd fd1 fd2 : FuncData} (F : Fun K "average" "average" s_average f fd) (T : Bi mg)
    (F_lowest : Fun K "lowest" "lowest" s_lowest f1 fd1) (b_lowest : Binds K fd1 ["above", "below"] []) (m_lowest : mg "lowest" = some (.ref f1))
    (F_weights_of_sums : Fun K "weights_of_sums" "weights_of_sums" s_weights_of_sums f2 fd2) (b_weights_of_sums : Binds K fd2 ["faces", "hold"] []) (m_weights_of_sums : mg "weights_of_sums" = some (.ref f2))
    (G_weights_of_sums : FnOk P w K mg base CX0 2 f2 fd2 ["faces", "hold"] spWeights) : FnOk P w K mg base CX0 3 f fd ["faces", "hold"] (spFrac Uw96.brings) := by
  have G_lowest : FnOk P w K mg base CX0 1 f1 fd1 ["above", "below"] spLowest := ok_lowest F_lowest
  refine F.ok sc_average (fun vs H Q E h => ?_) (fun cdv A outer s H vs Q E hr h => ?_)
  · obtain ⟨a, b, rfl, _⟩ := h
    rfl
  · obtain ⟨n, h, rfl, hd, k⟩ := h
    have hs2 := hd.s2
    have hs10 := hd.s10
    have hh1 := hd.h1
    have hh := hd.h100
    have hr1 : Room 1 _ := hr.mono (by decide)
    refine ⟨_, (pss_cons (ps_set (i := 2) sc_average.nd rfl (by first | exact Or.inl rfl | exact Or.inr rfl) (pe_call G_weights_of_sums hr rfl m_weights_of_sums F_weights_of_sums.kp b_weights_of_sums .nil pass0 (pa_cons (pv 0) (pa_cons (pv 1) pa_nil))))
      (pss_cons (ps_set (i := 3) sc_average.nd rfl (by first | exact Or.inl rfl | exact Or.inr rfl) (pe_callB (cr_sum rfl) (by rfl) T.n_sum boot_sum (pa_cons (pe_lc (by rfl) sc_average.nd (pi_range2 rfl T.n_range (pa_cons (pv 1) (pa_cons (pe_op op_add (pv 1) (pv 0)) pa_nil))) (blkOk_by (own := [("total", 4)]) (by show blkC ["faces", "hold", "weights", "gained", "total"] (defScope s_average) _ _ = true; decide +kernel)) (fun _ _ _ _ _ => pg_name (i := 4) sc_average.nd rfl (by first | exact Or.inl rfl | exact Or.inr rfl)) (fun _ _ _ _ _ => pts_nil) (fun _ _ _ _ _ => (pe_op op_mulB (pv 4) (pe_ix (show IxR _ (rIxL K) from ix_list) (pv 2) (pv 4) (fun _ _ => rfl))))) pa_nil)))
      (pss_one (ps_ret (pe_call G_lowest hr1 rfl m_lowest F_lowest.kp b_lowest .nil pass0 (pa_cons (pv 3) (pa_cons (pe_ix ix_list (pv 2) pe_int (fun _ _ => rfl)) pa_nil))))))), ?_⟩
    refine ⟨_, rfl, _, rfl, n, h, rfl, hd, fun H1 p sm np hL => ?_⟩
    refine ⟨_, rfl, _, rfl, _, rfl, _, _, rfl, rfl, _, _, rfl, ⟨by omega, by omega, by omega, by omega⟩, fun D hD => ?_⟩
    have nD : H D = none := sm.free hD
    refine lc_range (fun i H' => Same H1 H' ∧ H' D = some (.lst (byN i fun j => (h + j) * Dm.W n h (h + j)))) ⟨Same.put (fun b o e => e) hD, upd_same⟩ ?_ ?_
    · rintro i H' hi ⟨sm2, hD2⟩
      have hi : i < n := by omega
      refine ⟨rfl, _, rfl, _, rfl, _, rfl, p, _, _, _, rfl, rfl, SqL.of (sm2 _ _ hL), at_of (j := h + i) (by omega) (byN_get _ (by omega)), _, _, rfl, rfl, IntMulOk.of_left (intBits_le_64 (by omega) (by omega)), _, hD2, ?_, sm2.put hD, ?_⟩
      · rw [byN_length]
        have : (200 : Nat) ≤ sizeLine := by decide
        omega
      · rw [upd_same, ← byN_snoc]
        rfl
    · rintro H' ⟨sm2, hD2⟩
      have e : ((h : Int) + (n : Int) - (h : Int)).toNat = n := by omega
      rw [e, byN_ints] at hD2
      refine ⟨D, _, rfl, SqL.of hD2, ?_⟩
      rw [sum_byN]
      have hp : 0 < n ^ Dm.kOf h := Nat.pow_pos (by omega)
      refine ⟨_, rfl, _, rfl, p, _, _, _, rfl, rfl, SqL.of (sm2 _ _ hL), at_of (j := 0) rfl (byN_get _ (by omega)), _, _, rfl, ?_, ?_, ?_⟩
      · rw [Dm.W_zero (by omega)]
        exact hp
      · rw [Dm.W_zero (by omega)]
        exact big_log2 (Dm.pow_le hs10 hh)
      · rw [Dm.W_zero (by omega), Dm.brings_is (by omega)]
        exact k.mono (sm.trans sm2)
abbrev s_chance_of_nothing : Stmt := top 5
theorem sc_chance_of_nothing : FnScope ["faces", "hold", "weights"] ["faces", "hold"] (defScope s_chance_of_nothing) := ⟨rfl, rfl, rfl, by decide +kernel, rfl, by decide +kernel, by decide +kernel⟩
theorem ok_chance_of_nothing {f f1 f2 : Addr} {fd fd1 fd2 : FuncData} (F : Fun K "chance_of_nothing" "chance_of_nothing" s_chance_of_nothing f fd) (T : Bi mg)
    (F_lowest : Fun K "lowest" "lowest" s_lowest f1 fd1) (b_lowest : Binds K fd1 ["above", "below"] []) (m_lowest : mg "lowest" = some (.ref f1))
    (F_weights_of_sums : Fun K "weights_of_sums" "weights_of_sums" s_weights_of_sums f2 fd2) (b_weights_of_sums : Binds K fd2 ["faces", "hold"] []) (m_weights_of_sums : mg "weights_of_sums" = some (.ref f2))
    (G_weights_of_sums : FnOk P w K mg base CX0 2 f2 fd2 ["faces", "hold"] spWeights) : FnOk P w K mg base CX0 3 f fd ["faces", "hold"] (spFrac Uw96.nothing) := by
  have G_lowest : FnOk P w K mg base CX0 1 f1 fd1 ["above", "below"] spLowest := ok_lowest F_lowest
  refine F.ok sc_chance_of_nothing (fun vs H Q E h => ?_) (fun cdv A outer s H vs Q E hr h => ?_)
  · obtain ⟨a, b, rfl, _⟩ := h
    rfl
  · obtain ⟨n, h, rfl, hd, k⟩ := h
    have hs2 := hd.s2
    have hs10 := hd.s10
    have hh1 := hd.h1
    have hh := hd.h100
    have hr1 : Room 1 _ := hr.mono (by decide)
    refine ⟨_, (pss_cons (ps_set (i := 2) sc_chance_of_nothing.nd rfl (by first | exact Or.inl rfl | exact Or.inr rfl) (pe_call G_weights_of_sums hr rfl m_weights_of_sums F_weights_of_sums.kp b_weights_of_sums .nil pass0 (pa_cons (pv 0) (pa_cons (pv 1) pa_nil))))
      (pss_one (ps_ret (pe_call G_lowest hr1 rfl m_lowest F_lowest.kp b_lowest .nil pass0 (pa_cons (pe_op op_sub (pe_ix ix_list (pv 2) pe_int (fun _ _ => rfl)) (pe_callB (cr_sum rfl) (by rfl) T.n_sum boot_sum (pa_cons (pe_slice sl_list (pv 2) (po_some (pv 1)) po_none) pa_nil))) (pa_cons (pe_ix ix_list (pv 2) pe_int (fun _ _ => rfl)) pa_nil)))))), ?_⟩
    refine ⟨_, rfl, _, rfl, n, h, rfl, hd, fun H1 p sm np hL => ?_⟩
    refine ⟨_, rfl, p, _, _, _, rfl, rfl, SqL.of hL, at_of (j := 0) rfl (byN_get _ (by omega)), _, rfl, _, rfl, _, rfl, p, _, rfl, SqL.of hL, fun D hD => ?_⟩
    rw [cut_from (h + n) n _ h (by omega) (by omega), byN_ints]
    have sm2 : Same H1 (upd H1 D (.lst (((List.range n).map fun i => ((Dm.W n h (h + i) : Nat) : Int)).map V.int))) := Same.put (fun b o e => e) hD
    refine ⟨D, _, rfl, SqL.of upd_same, _, _, rfl, rfl, ?_⟩
    rw [sum_byN]
    have hp : 0 < n ^ Dm.kOf h := Nat.pow_pos (by omega)
    have hle := Dm.ends_sum_le (s := n) (h := h) (by omega) (by omega)
    have ez := Dm.W_zero (s := n) (h := h) (by omega)
    refine ⟨_, rfl, p, _, _, _, rfl, rfl, SqL.of (sm2 _ _ hL), at_of (j := 0) rfl (byN_get _ (by omega)), n ^ Dm.kOf h - Dm.Sn n (fun i => Dm.W n h (h + i)), n ^ Dm.kOf h, ?_, hp, big_log2 (Dm.pow_le hs10 hh), ?_⟩
    · rw [ez]
      refine congrArg (fun z => [V.int z, V.int ((n ^ Dm.kOf h : Nat) : Int)]) ?_
      omega
    · rw [Dm.nothing_is (by omega) (by omega)]
      exact k.mono (sm.trans sm2)
end
end Dp
set_option Elab.async false
set_option linter.all false
set_option maxRecDepth 100000
set_option maxHeartbeats 2000000
namespace Dp
open PySem PySem.Spec PyProof.Rows L2
open Uw96 (Frac)
/-! ### the mathematics -/
theorem mulOk {a b : Nat} {m n : Nat} (ha : a < 2 ^ m) (hb : b < 2 ^ n) (h : m + n ≤ 134217728) : IntMulOk (a : Int) (b : Int) :=
  IntMulOk.of_le (intBits_le_iff.mpr (by rw [Int.natAbs_natCast]; exact ha)) (intBits_le_iff.mpr (by rw [Int.natAbs_natCast]; exact hb)) h
/-- a fraction of at most m bits -/
structure Bits (m : Nat) (a : Frac) : Prop where
  u : a.u < 2 ^ m
  l : a.l < 2 ^ m
theorem frac_le (u : Nat) {l : Nat} (hl : 0 < l) : (Uw96.frac u l).u ≤ u ∧ (Uw96.frac u l).l ≤ l := by
  rw [Dm.frac_div u hl]
  exact ⟨Nat.div_le_self _ _, Nat.div_le_self _ _⟩
theorem frac_bits {u l m : Nat} (hl : 0 < l) (hu : u < 2 ^ m) (h : l < 2 ^ m) : Bits m (Uw96.frac u l) := ⟨Nat.lt_of_le_of_lt (frac_le u hl).1 hu, Nat.lt_of_le_of_lt (frac_le u hl).2 h⟩
theorem Sn_le {g : Nat → Nat} {b : Nat} : ∀ {n : Nat}, (∀ i, i < n → g i ≤ b) → Dm.Sn n g ≤ n * b
  | 0, _ => Nat.zero_le _
  | n + 1, h => by
    have h1 := Sn_le (g := g) (b := b) (n := n) fun i hi => h i (by omega)
    have h2 := h n (by omega)
    show Dm.Sn n g + g n ≤ (n + 1) * b
    rw [Nat.succ_mul]
    omega
theorem brings_bits {s h : Nat} (hd : Held s h) : Bits 200 (Uw96.brings s h) := by
  have hs2 := hd.s2
  have hp : 0 < s ^ Dm.kOf h := Nat.pow_pos (by omega)
  have hle := Dm.pow_le hd.s10 hd.h100
  rw [← Dm.brings_is (s := s) (h := h) (by omega)]
  refine frac_bits hp ?_ (Nat.lt_of_le_of_lt hle (by decide))
  have h1 : Dm.Sn s (fun i => (h + i) * Dm.W s h (h + i)) ≤ s * (110 * 10 ^ 50) := by
    refine Sn_le fun i hi => Nat.mul_le_mul ?_ (Nat.le_trans (Dm.W_le _ (by omega)) hle)
    have := hd.s10
    have := hd.h100
    omega
  have h2 : s * (110 * 10 ^ 50) ≤ 10 * (110 * 10 ^ 50) := Nat.mul_le_mul_right _ hd.s10
  exact Nat.lt_of_le_of_lt (Nat.le_trans h1 h2) (by decide)
/-- the places above which the turn can end -/
def reach (s h n : Nat) : List Nat := (List.range n).filter fun k => decide (0 < Dm.W s h (h + k))
theorem reach_succ (s h n : Nat) : reach s h (n + 1) = reach s h n ++ if 0 < Dm.W s h (h + n) then [n] else [] := by
  unfold reach
  rw [List.range_succ, List.filter_append]
  congr 1
  by_cases c : 0 < Dm.W s h (h + n)
  · rw [if_pos c, List.filter_cons, if_pos (decide_eq_true c)]
    rfl
  · rw [if_neg c, List.filter_cons, if_neg (by simpa using c)]
    rfl
def E3 (s h k : Nat) : List Int := [((h + k : Nat) : Int), (((Uw96.ends s h).getD k Uw96.zero).u : Int), (((Uw96.ends s h).getD k Uw96.zero).l : Int)]
theorem reach_is {s h : Nat} (hs : 0 < s) : ((Uw96.ends s h).zipIdx.filter fun x => x.1 != Uw96.zero) = (reach s h s).map fun k => ((Uw96.ends s h).getD k Uw96.zero, k) := by
  have e : (Uw96.ends s h).zipIdx = (List.range s).map fun k => ((Uw96.ends s h).getD k Uw96.zero, k) := by
    have := Dm.zipIdx_range Uw96.zero (fun x : Frac × Nat => x) (Uw96.ends s h)
    rw [Dm.ends_length, List.map_id'] at this
    exact this
  rw [e, List.filter_map]
  congr 1
  unfold reach
  apply List.filter_congr
  intro k hk
  have hk := List.mem_range.mp hk
  show ((Uw96.ends s h).getD k Uw96.zero != Uw96.zero) = _
  have hp : 0 < s ^ Dm.kOf h := Nat.pow_pos hs
  have hz := Dm.frac_zero (u := Dm.W s h (h + k)) hp
  rw [Dm.end_is hs hk] at hz
  by_cases c : 0 < Dm.W s h (h + k)
  · rw [decide_eq_true c, bne_iff_ne]
    intro q
    have := hz.mp q
    omega
  · rw [decide_eq_false c]
    have : Dm.W s h (h + k) = 0 := by omega
    rw [hz.mpr this, bne_self_eq_false]
/-! ### lists of lists -/
def ListsAt (H : Hp) (ps : List Addr) (Ls : List (List V)) : Prop := ps.length = Ls.length ∧ ∀ (j : Nat) (a : Addr), ps[j]? = some a → ∃ L, Ls[j]? = some L ∧ H a = some (.lst L)
theorem ListsAt.nil (H : Hp) : ListsAt H [] [] := ⟨rfl, fun j a h => by simp at h⟩
theorem ListsAt.same {H H' : Hp} {ps : List Addr} {Ls : List (List V)} (h : ListsAt H ps Ls) (s : Same H H') : ListsAt H' ps Ls := ⟨h.1, fun j a e => let ⟨L, e1, e2⟩ := h.2 j a e; ⟨L, e1, s _ _ e2⟩⟩
theorem ListsAt.put {H : Hp} {ps : List Addr} {Ls : List (List V)} {D : Addr} {o : HO} (h : ListsAt H ps Ls) (n : ∀ a ∈ ps, a ≠ D) : ListsAt (upd H D o) ps Ls := ⟨h.1, fun j a e => by
  obtain ⟨L, e1, e2⟩ := h.2 j a e
  exact ⟨L, e1, by rw [upd_ne (n a (List.mem_of_getElem? e))]; exact e2⟩⟩
theorem ListsAt.snoc {H : Hp} {ps : List Addr} {Ls : List (List V)} {a : Addr} {L : List V} (h : ListsAt H ps Ls) (e : H a = some (.lst L)) : ListsAt H (ps ++ [a]) (Ls ++ [L]) := by
  refine ⟨by rw [List.length_append, List.length_append, h.1]; rfl, fun j b q => ?_⟩
  by_cases hj : j < ps.length
  · rw [List.getElem?_append_left hj] at q
    obtain ⟨L', e1, e2⟩ := h.2 j b q
    exact ⟨L', by rw [List.getElem?_append_left (by rw [← h.1]; exact hj)]; exact e1, e2⟩
  · have hj2 : j = ps.length := by
      have := (List.getElem?_eq_some_iff.mp q).1
      rw [List.length_append] at this
      simp at this
      omega
    subst hj2
    rw [List.getElem?_append_right (Nat.le_refl _), Nat.sub_self] at q
    have : a = b := Option.some.inj q
    subst this
    exact ⟨L, by rw [List.getElem?_append_right (by rw [h.1]; exact Nat.le_refl _), h.1, Nat.sub_self]; rfl, e⟩
def EL (s h : Nat) : List (List V) := (reach s h s).map fun k => (E3 s h k).map V.int
def spEnds : Sp := fun vs H Q _ => ∃ s h : Nat, vs = [.int s, .int h] ∧ Held s h ∧ ∀ (H' : Hp) (p : Addr) (ps : List Addr), Same H H' → H p = none → H' p = some (.lst (ps.map V.ref)) → ListsAt H' ps (EL s h) → Q (.ref p) H'
def spBest : Sp := fun vs H Q _ => ∃ s n : Nat, vs = [.int s, .int n] ∧ Held s n ∧ NewL ((Uw96.toldBest (Uw96.best s n)).map V.int) H Q
theorem Bits.mono {m n : Nat} {a : Frac} (h : Bits m a) (hm : m ≤ n) : Bits n a := ⟨Nat.lt_of_lt_of_le h.u (Nat.pow_le_pow_right (by decide) hm), Nat.lt_of_lt_of_le h.l (Nat.pow_le_pow_right (by decide) hm)⟩
section
variable {P : Program} {w : World} {K : PySem.W.Frag} {mg : Str → Option Value} {base : Heap}
abbrev s_chances_of_ends : Stmt := top 7
theorem sc_chances_of_ends : FnScope ["faces", "hold", "weights", "reached", "total"] ["faces", "hold"] (defScope s_chances_of_ends) := ⟨rfl, rfl, rfl, by decide +kernel, rfl, by decide +kernel, by decide +kernel⟩
theorem ok_chances_of_ends {f f1 f2 : Addr} {fd fd1 fd2 : FuncData} (F : Fun K "chances_of_ends" "chances_of_ends" s_chances_of_ends f fd) (T : Bi mg)
    (F_lowest : Fun K "lowest" "lowest" s_lowest f1 fd1) (b_lowest : Binds K fd1 ["above", "below"] []) (m_lowest : mg "lowest" = some (.ref f1))
    (F_weights_of_sums : Fun K "weights_of_sums" "weights_of_sums" s_weights_of_sums f2 fd2) (b_weights_of_sums : Binds K fd2 ["faces", "hold"] []) (m_weights_of_sums : mg "weights_of_sums" = some (.ref f2))
    (G_weights_of_sums : FnOk P w K mg base CX0 2 f2 fd2 ["faces", "hold"] spWeights) : FnOk P w K mg base CX0 3 f fd ["faces", "hold"] spEnds := by
  have G_lowest : FnOk P w K mg base CX0 1 f1 fd1 ["above", "below"] spLowest := ok_lowest F_lowest
  refine F.ok sc_chances_of_ends (fun vs H Q E h => ?_) (fun cdv A outer s H vs Q E hr h => ?_)
  · obtain ⟨a, b, rfl, _⟩ := h
    rfl
  · obtain ⟨n, h, rfl, hd, k⟩ := h
    have hs2 := hd.s2
    have hs10 := hd.s10
    have hh1 := hd.h1
    have hh := hd.h100
    have hr1 : Room 1 _ := hr.mono (by decide)
    have hp : 0 < n ^ Dm.kOf h := Nat.pow_pos (by omega)
    have big : (200 : Nat) ≤ sizeLine := by decide
    refine ⟨_, (pss_cons (ps_set (i := 2) sc_chances_of_ends.nd rfl (by first | exact Or.inl rfl | exact Or.inr rfl) (pe_call G_weights_of_sums hr rfl m_weights_of_sums F_weights_of_sums.kp b_weights_of_sums .nil pass0 (pa_cons (pv 0) (pa_cons (pv 1) pa_nil))))
      (pss_cons (ps_setLc (i := 3) (by rfl) sc_chances_of_ends.nd rfl rfl (sw_true rfl rfl rfl (by decide +kernel)) (pi_range2 rfl T.n_range (pa_cons (pv 1) (pa_cons (pe_op op_add (pv 1) (pv 0)) pa_nil))) (blkOk_by (own := [("total", 4)]) (by show blkC ["faces", "hold", "weights", "reached", "total"] (defScope s_chances_of_ends) _ _ = true; decide +kernel)) (fun _ _ _ _ _ => pg_name (i := 4) sc_chances_of_ends.nd rfl (by first | exact Or.inl rfl | exact Or.inr rfl)) (fun _ _ _ _ _ => (pts_one (pt_cmpR op_gt (pe_ix (show IxR _ (rIxL K) from ix_list) (pv 2) (pv 4) (fun _ _ => rfl)) pe_int (nomark _)))) (fun _ _ _ _ _ => (pv 4)))
      (pss_one (ps_ret (pe_lc (by rfl) sc_chances_of_ends.nd (pi_list (pv 3)) (blkOk_by (own := [("total", 4)]) (by show blkC ["faces", "hold", "weights", "reached", "total"] (defScope s_chances_of_ends) _ _ = true; decide +kernel)) (fun _ _ _ _ _ => pg_name (i := 4) sc_chances_of_ends.nd rfl (by first | exact Or.inl rfl | exact Or.inr rfl)) (fun _ _ _ _ _ => pts_nil) (fun _ _ _ _ _ => (pe_op op_cat (pe_lst (pa_cons (pv 4) pa_nil)) (pe_call G_lowest hr1 rfl m_lowest F_lowest.kp b_lowest .nil pass0 (pa_cons (pe_ix (show IxR _ (rIxL K) from ix_list) (pv 2) (pv 4) (fun _ _ => rfl)) (pa_cons (pe_ix (show IxR _ (rIxL K) from ix_list) (pv 2) pe_int (fun _ _ => rfl)) pa_nil)))))))))), ?_⟩
    refine ⟨_, rfl, _, rfl, n, h, rfl, hd, fun H1 p sm np hL => ?_⟩
    -- reached
    refine ⟨_, rfl, _, rfl, _, rfl, _, _, rfl, rfl, _, _, rfl, ⟨by omega, by omega, by omega, by omega⟩, fun D hD => ?_⟩
    refine lc_range (fun i H' => Same H1 H' ∧ H' D = some (.lst ((reach n h i).map fun j => V.int ((h + j : Nat) : Int)))) ⟨Same.put (fun b o e => e) hD, upd_same⟩ ?_ ?_
    · rintro i H' hi ⟨sm2, hD2⟩
      have hi : i < n := by omega
      refine ⟨rfl, _, rfl, _, rfl, p, _, _, _, rfl, rfl, SqL.of (sm2 _ _ hL), at_of (j := h + i) (by omega) (byN_get _ (by omega)), _, _, rfl, rfl, _, rfl, ?_⟩
      have hlen : (reach n h i).length ≤ i := by
        unfold reach
        exact Nat.le_trans (List.length_filter_le _ _) (by rw [List.length_range]; exact Nat.le_refl _)
      refine ite2 (fun c => ?_) (fun c => ?_)
      · have c : (0 : Int) < ((Dm.W n h (h + i) : Nat) : Int) := of_decide_eq_true c
        refine ⟨_, rfl, _, hD2, by rw [List.length_map]; omega, sm2.put hD, ?_⟩
        rw [upd_same, reach_succ, if_pos (by omega), List.map_append]
        rfl
      · have c : ¬ (0 : Int) < ((Dm.W n h (h + i) : Nat) : Int) := fun q => c (decide_eq_true q)
        refine ⟨sm2, ?_⟩
        rw [hD2, reach_succ, if_neg (by omega), List.append_nil]
    · rintro H2 ⟨sm2, hD2⟩
      have e : ((h : Int) + (n : Int) - (h : Int)).toNat = n := by omega
      rw [e] at hD2
      -- [[total] + lowest(..) for total in reached]
      refine ⟨_, rfl, D, rfl, ⟨_, SqL.of hD2⟩, fun C hC => ?_⟩
      have hlen : (reach n h n).length ≤ n := by
        unfold reach
        exact Nat.le_trans (List.length_filter_le _ _) (by rw [List.length_range]; exact Nat.le_refl _)
      refine lc_list (xs := (reach n h n).map fun j => V.int ((h + j : Nat) : Int)) (fun i H' => Same H2 H' ∧ ∃ ps : List Addr, H' C = some (.lst (ps.map V.ref)) ∧ ListsAt H' ps ((EL n h).take i) ∧ ∀ a ∈ ps, a ≠ C)
        ⟨Same.put (fun b o e => e) hC, [], upd_same, ListsAt.nil _, fun a ha => nomatch ha⟩ (fun i H' _ ⟨s3, _⟩ => SqL.of (s3 _ _ hD2)) ?_ ?_
      · rintro i x H' hx ⟨sm3, ps, hC3, hps, hne⟩
        obtain ⟨j, hj, rfl⟩ : ∃ j, (reach n h n)[i]? = some j ∧ x = V.int ((h + j : Nat) : Int) := by
          rw [List.getElem?_map] at hx
          cases q : (reach n h n)[i]? with
          | none =>
            rw [q] at hx
            cases hx
          | some z =>
            rw [q] at hx
            exact ⟨z, rfl, (Option.some.inj hx).symm⟩
        have hjn : j < n := by
          have := List.mem_of_getElem? hj
          unfold reach at this
          exact List.mem_range.mp (List.mem_filter.mp this).1
        have hi : i < (reach n h n).length := (List.getElem?_eq_some_iff.mp hj).1
        have hpl : ps.length = i := by
          rw [hps.1, List.length_take]
          unfold EL
          rw [List.length_map]
          omega
        refine ⟨rfl, _, rfl, (by show 1 ≤ sizeLine; decide), fun a1 ha1 => ?_⟩
        have s4 : Same H' (upd H' a1 (.lst [V.int ((h + j : Nat) : Int)])) := Same.put (fun b o e => e) ha1
        have hL4 := s4 _ _ (sm3 _ _ (sm2 _ _ hL))
        refine ⟨_, rfl, _, rfl, p, _, _, _, rfl, rfl, SqL.of hL4, at_of (j := h + j) rfl (byN_get _ (by omega)), _, rfl, p, _, _, _, rfl, rfl, SqL.of hL4, at_of (j := 0) rfl (byN_get _ (by omega)), _, _, rfl, ?_, ?_, ?_⟩
        · rw [Dm.W_zero (by omega)]
          exact hp
        · rw [Dm.W_zero (by omega)]
          exact big_log2 (Dm.pow_le hs10 hh)
        · rw [Dm.W_zero (by omega), Dm.end_is (by omega) hjn]
          intro H5 a2 s5 n2 hL5
          refine ⟨a1, a2, _, _, rfl, rfl, s5 _ _ upd_same, hL5, (by show 1 + 2 ≤ sizeLine; decide), fun a3 ha3 => ?_⟩
          have s6 : Same H5 (upd H5 a3 (.lst ([V.int ((h + j : Nat) : Int)] ++ V2 ((Uw96.ends n h).getD j Uw96.zero)))) := Same.put (fun b o e => e) ha3
          have hC6 := s6 _ _ (s5 _ _ (s4 _ _ hC3))
          have s36 : Same H' (upd H5 a3 (.lst ([V.int ((h + j : Nat) : Int)] ++ V2 ((Uw96.ends n h).getD j Uw96.zero)))) := (s4.trans s5).trans s6
          have nC : a3 ≠ C := fun q => by
            have := s5 _ _ (s4 _ _ hC3)
            rw [← q, ha3] at this
            cases this
          refine ⟨_, hC6, by rw [List.length_map]; omega, (sm3.trans s36).put hC, ps ++ [a3], ?_, ?_, ?_⟩
          · rw [upd_same, List.map_append]
            rfl
          · have et : (EL n h).take (i + 1) = (EL n h).take i ++ [(E3 n h j).map V.int] := by
              rw [List.take_add_one]
              congr 1
              unfold EL
              rw [List.getElem?_map, hj]
              rfl
            rw [et]
            refine ListsAt.put ((hps.same s36).snoc upd_same) fun a ha => ?_
            rcases List.mem_append.mp ha with q | q
            · exact hne a q
            · rw [List.mem_singleton.mp q]
              exact nC
          · intro a ha
            rcases List.mem_append.mp ha with q | q
            · exact hne a q
            · rw [List.mem_singleton.mp q]
              exact nC
      · rintro H' ⟨sm3, ps, hC3, hps, hne⟩
        rw [List.length_map] at hps
        have et : (EL n h).take (reach n h n).length = EL n h := by
          apply List.take_of_length_le
          unfold EL
          rw [List.length_map]
          exact Nat.le_refl _
        rw [et] at hps
        exact k H' C ps ((sm.trans sm2).trans sm3) ((sm.trans sm2).free hC) hC3 hps
end
end Dp
set_option Elab.async false
set_option linter.all false
set_option maxRecDepth 100000
set_option maxHeartbeats 2000000
namespace Dp
open PySem PySem.Spec PyProof.Rows L2
open Uw96 (Frac Die)
/-- a def of the text that the module binds by its name -/
structure Has (K : PySem.W.Frag) (mg : Str → Option Value) (x : Str) (st : Stmt) (ps : List Str) (f : Addr) (fd : FuncData) : Prop where
  F : Fun K x x st f fd
  b : L2.Binds K fd ps []
  m : mg x = some (.ref f)
/-! ### a list of lists -/
def LsAt (H : Hp) (p : Addr) (n : Nat) (L : Nat → List V) : Prop := ∃ ps : List Addr, H p = some (.lst (ps.map V.ref)) ∧ ps.length = n ∧ ∀ j, j < n → ∃ a, ps[j]? = some a ∧ H a = some (.lst (L j))
/-- a list that begins with a number -/
def Ints (L : List V) : Prop := ∃ i r, L = V.int i :: r
theorem ref_ne {H : Hp} {p a : Addr} {ps : List Addr} {L : List V} (h : H p = some (.lst (ps.map V.ref))) (e : H a = some (.lst L)) (i : Ints L) : a ≠ p := by
  rintro rfl
  obtain ⟨z, r, rfl⟩ := i
  rw [h] at e
  cases ps with
  | nil => simp at e
  | cons b ps => simp at e
theorem V2_ints (a : Frac) : Ints (V2 a) := ⟨_, _, rfl⟩
theorem byN_Ints (n : Nat) (g : Nat → Nat) : Ints (byN (n + 1) g) := by
  unfold byN
  rw [List.range_succ_eq_map, List.map_cons]
  exact ⟨_, _, rfl⟩
theorem LsAt.same {H H' : Hp} {p : Addr} {n : Nat} {L : Nat → List V} (h : LsAt H p n L) (s : Same H H') : LsAt H' p n L := by
  obtain ⟨ps, e, hl, h⟩ := h
  exact ⟨ps, s _ _ e, hl, fun j hj => let ⟨a, e1, e2⟩ := h j hj; ⟨a, e1, s _ _ e2⟩⟩
theorem LsAt.new {H : Hp} {p : Addr} {L : Nat → List V} (e : H p = some (.lst [])) : LsAt H p 0 L := ⟨[], e, rfl, fun j hj => by omega⟩
theorem LsAt.get {H : Hp} {p : Addr} {n : Nat} {L : Nat → List V} (h : LsAt H p n L) : ∃ xs : List V, H p = some (.lst xs) ∧ xs.length = n ∧ ∀ j, j < n → ∃ a, xs[j]? = some (.ref a) ∧ H a = some (.lst (L j)) := by
  obtain ⟨ps, e, hl, h⟩ := h
  refine ⟨_, e, by rw [List.length_map, hl], fun j hj => ?_⟩
  obtain ⟨a, e1, e2⟩ := h j hj
  exact ⟨a, by rw [List.getElem?_map, e1]; rfl, e2⟩
theorem LsAt.congr {H : Hp} {p : Addr} {n : Nat} {L L' : Nat → List V} (h : LsAt H p n L) (e : ∀ j, j < n → L j = L' j) : LsAt H p n L' := by
  obtain ⟨ps, e0, hl, h⟩ := h
  exact ⟨ps, e0, hl, fun j hj => by rw [← e j hj]; exact h j hj⟩
/-- another refs' list is written -/
theorem LsAt.put {H : Hp} {p D : Addr} {n : Nat} {L : Nat → List V} {rs : List Addr} {o : HO} (h : LsAt H p n L) (hI : ∀ j, j < n → Ints (L j)) (hD : H D = some (.lst (rs.map V.ref))) (ne : p ≠ D) : LsAt (upd H D o) p n L := by
  obtain ⟨ps, e, hl, h⟩ := h
  refine ⟨ps, by rw [upd_ne ne]; exact e, hl, fun j hj => ?_⟩
  obtain ⟨a, e1, e2⟩ := h j hj
  exact ⟨a, e1, by rw [upd_ne (ref_ne hD e2 (hI j hj))]; exact e2⟩
/-- one more -/
theorem LsAt.push {H : Hp} {p a : Addr} {n : Nat} {L : Nat → List V} (h : LsAt H p n L) (hI : ∀ j, j ≤ n → Ints (L j)) (ha : H a = some (.lst (L n))) : ∃ xs, H p = some (.lst xs) ∧ xs.length = n ∧ LsAt (upd H p (.lst (xs ++ [.ref a]))) p (n + 1) L := by
  obtain ⟨ps, e, hl, h⟩ := h
  refine ⟨_, e, by rw [List.length_map, hl], ps ++ [a], by rw [upd_same, List.map_append]; rfl, by rw [List.length_append, hl]; rfl, fun j hj => ?_⟩
  by_cases c : j < n
  · obtain ⟨b, e1, e2⟩ := h j c
    exact ⟨b, by rw [List.getElem?_append_left (by omega)]; exact e1, by rw [upd_ne (ref_ne e e2 (hI j (by omega)))]; exact e2⟩
  · have : j = n := by omega
    subst this
    exact ⟨a, by rw [List.getElem?_append_right (by omega), hl, Nat.sub_self]; rfl, by rw [upd_ne (ref_ne e ha (hI _ (Nat.le_refl _)))]; exact ha⟩
theorem mulOkI {a b : Int} {m n : Nat} (ha : a.natAbs < 2 ^ m) (hb : b.natAbs < 2 ^ n) (h : m + n ≤ 134217728) : IntMulOk a b :=
  IntMulOk.of_le (intBits_le_iff.mpr ha) (intBits_le_iff.mpr hb) h
def spMore : Sp := fun vs H Q _ => ∃ (p r : Addr) (a b c d : Int), vs = [.ref p, .ref r] ∧ H p = some (.lst [.int a, .int b]) ∧ H r = some (.lst [.int c, .int d]) ∧ a.natAbs < 2 ^ 1000000 ∧ b.natAbs < 2 ^ 1000000 ∧ c.natAbs < 2 ^ 1000000 ∧ d.natAbs < 2 ^ 1000000 ∧ Q (.bl (decide (c * b < a * d))) H
def spFirst : Sp := fun vs H Q _ => ∃ (p : Addr) (n : Nat) (g l : Nat → Int), vs = [.ref p] ∧ LsAt H p (n + 1) (fun i => [.int (g i), .int (l i)]) ∧ n ≤ 1000 ∧ (∀ i, i ≤ n → (g i).natAbs < 2 ^ 1000000 ∧ (l i).natAbs < 2 ^ 1000000) ∧ Q (.int (Dm.fh g l n : Int)) H
def spHold : Sp := fun vs H Q _ => ∃ x : Nat, vs = [.int x] ∧ Q (.bl (Uw96.isHold x)) H
theorem cut_to (m : Nat) (g : Nat → Nat) (k : Nat) (hk : k ≤ m) : cutV (byN m g) none (some (k : Int)) = byN k g := by
  unfold cutV
  rw [byN_length, HT.sIx_nat, HT.sIx_none, Nat.min_eq_left hk]
  apply List.ext_getElem?
  intro i
  by_cases hi : i < k
  · rw [List.getElem?_take_of_lt (by omega), List.getElem?_drop, byN_get _ (by omega), byN_get _ hi, Nat.zero_add]
  · rw [List.getElem?_eq_none (by rw [List.length_take]; omega), List.getElem?_eq_none (by rw [byN_length]; omega)]
section
variable {P : Program} {w : World} {K : PySem.W.Frag} {mg : Str → Option Value} {base : Heap}
abbrev s_average_throws : Stmt := top 6
theorem sc_average_throws : FnScope ["faces", "hold", "weights"] ["faces", "hold"] (defScope s_average_throws) := ⟨rfl, rfl, rfl, by decide +kernel, rfl, by decide +kernel, by decide +kernel⟩
theorem ok_average_throws {f f1 f2 : Addr} {fd fd1 fd2 : FuncData} (F : Fun K "average_throws" "average_throws" s_average_throws f fd) (T : Bi mg)
    (A_lowest : Has K mg "lowest" s_lowest ["above", "below"] f1 fd1) (A_weights_of_sums : Has K mg "weights_of_sums" s_weights_of_sums ["faces", "hold"] f2 fd2)
    (G_weights_of_sums : FnOk P w K mg base CX0 2 f2 fd2 ["faces", "hold"] spWeights) : FnOk P w K mg base CX0 3 f fd ["faces", "hold"] (spFrac Uw96.throws) := by
  have G_lowest : FnOk P w K mg base CX0 1 f1 fd1 ["above", "below"] spLowest := ok_lowest A_lowest.F
  refine F.ok sc_average_throws (fun vs H Q E h => ?_) (fun cdv A outer s H vs Q E hr h => ?_)
  · obtain ⟨a, b, rfl, _⟩ := h
    rfl
  · obtain ⟨n, h, rfl, hd, k⟩ := h
    have hs2 := hd.s2
    have hs10 := hd.s10
    have hh1 := hd.h1
    have hh := hd.h100
    refine ⟨_, (pss_cons (ps_set (i := 2) sc_average_throws.nd rfl (by first | exact Or.inl rfl | exact Or.inr rfl) (pe_call G_weights_of_sums (hr.mono (by decide)) rfl A_weights_of_sums.m A_weights_of_sums.F.kp A_weights_of_sums.b .nil pass0 (pa_cons (pv 0) (pa_cons (pv 1) pa_nil))))
      (pss_one (ps_ret (pe_call G_lowest (hr.mono (by decide)) rfl A_lowest.m A_lowest.F.kp A_lowest.b .nil pass0 (pa_cons (pe_callB (cr_sum rfl) (by rfl) T.n_sum boot_sum (pa_cons (pe_slice sl_list (pv 2) po_none (po_some (pv 1))) pa_nil)) (pa_cons (pe_ix ix_list (pv 2) pe_int (fun _ _ => rfl)) pa_nil)))))), ?_⟩
    refine ⟨_, rfl, _, rfl, n, h, rfl, hd, fun H1 p sm np hL => ?_⟩
    refine ⟨_, rfl, _, rfl, _, rfl, p, _, rfl, SqL.of hL, fun D hD => ?_⟩
    rw [cut_to (h + n) _ h (by omega), byN_ints]
    have sm2 : Same H1 (upd H1 D (.lst (((List.range h).map fun i => ((Dm.W n h i : Nat) : Int)).map V.int))) := Same.put (fun b o e => e) hD
    refine ⟨D, _, rfl, SqL.of upd_same, ?_⟩
    rw [sum_byN]
    have hp : 0 < n ^ Dm.kOf h := Nat.pow_pos (by omega)
    have ez := Dm.W_zero (s := n) (h := h) (by omega)
    refine ⟨_, rfl, p, _, _, _, rfl, rfl, SqL.of (sm2 _ _ hL), at_of (j := 0) rfl (byN_get _ (by omega)), Dm.Sn h (fun i => Dm.W n h i), n ^ Dm.kOf h, ?_, hp, big_log2 (Dm.pow_le hs10 hh), ?_⟩
    · rw [ez]
      rfl
    · rw [Dm.throws_is (by omega)]
      exact k.mono (sm.trans sm2)
abbrev s_is_more : Stmt := top 8
theorem sc_is_more : FnScope ["one", "other"] ["one", "other"] (defScope s_is_more) := ⟨rfl, rfl, rfl, by decide +kernel, rfl, by decide +kernel, by decide +kernel⟩
theorem ok_is_more {f : Addr} {fd : FuncData} (F : Fun K "is_more" "is_more" s_is_more f fd) : FnOk P w K mg base CX0 1 f fd ["one", "other"] spMore := by
  refine F.ok sc_is_more (fun vs H Q E h => ?_) (fun cdv A outer s H vs Q E hr h => ?_)
  · obtain ⟨p, r, a, b, c, d, rfl, _⟩ := h
    rfl
  · obtain ⟨p, r, a, b, c, d, rfl, hp, hq, ha, hb, hc, hd, k⟩ := h
    refine ⟨_, (pss_one (ps_ret (pe_cmpR op_gt (pe_op op_mulB (pe_ix ix_list (pv 0) pe_int (fun _ _ => rfl)) (pe_ix ix_list (pv 1) pe_int (fun _ _ => rfl))) (pe_op op_mulB (pe_ix ix_list (pv 1) pe_int (fun _ _ => rfl)) (pe_ix ix_list (pv 0) pe_int (fun _ _ => rfl))) (nomark _)))), ?_⟩
    exact ⟨_, rfl, p, _, _, _, rfl, rfl, SqL.of hp, at_of (j := 0) rfl rfl, _, rfl, r, _, _, _, rfl, rfl, SqL.of hq, at_of (j := 1) rfl rfl, _, _, rfl, rfl, mulOkI ha hd (by decide),
      _, rfl, r, _, _, _, rfl, rfl, SqL.of hq, at_of (j := 0) rfl rfl, _, rfl, p, _, _, _, rfl, rfl, SqL.of hp, at_of (j := 1) rfl rfl, _, _, rfl, rfl, mulOkI hc hb (by decide), _, _, rfl, rfl, k⟩
abbrev s_first_highest : Stmt := top 9
theorem sc_first_highest : FnScope ["fractions", "found", "place"] ["fractions"] (defScope s_first_highest) := ⟨rfl, rfl, rfl, by decide +kernel, rfl, by decide +kernel, by decide +kernel⟩
theorem ok_first_highest {f f1 : Addr} {fd fd1 : FuncData} (F : Fun K "first_highest" "first_highest" s_first_highest f fd) (T : Bi mg)
    (A_is_more : Has K mg "is_more" s_is_more ["one", "other"] f1 fd1) : FnOk P w K mg base CX0 2 f fd ["fractions"] spFirst := by
  have G_is_more : FnOk P w K mg base CX0 1 f1 fd1 ["one", "other"] spMore := ok_is_more A_is_more.F
  refine F.ok sc_first_highest (fun vs H Q E h => ?_) (fun cdv A outer s H vs Q E hr h => ?_)
  · obtain ⟨p, n, g, l, rfl, _⟩ := h
    rfl
  · obtain ⟨p, n, g, l, rfl, hL, hn, hb, k⟩ := h
    obtain ⟨xs, hp, hlen, hx⟩ := hL.get
    refine ⟨_, (pss_cons (ps_set (i := 1) sc_first_highest.nd rfl (by first | exact Or.inl rfl | exact Or.inr rfl) pe_int)
      (pss_cons (ps_for PassesOwn.never rfl (pi_range2 rfl T.n_range (pa_cons pe_int (pa_cons (pe_callB call_len_seq (by rfl) T.n_len PySem.boot_len (pa_cons (pv 0) pa_nil)) pa_nil))) (pg_name (i := 2) sc_first_highest.nd rfl (by first | exact Or.inl rfl | exact Or.inr rfl)) (pss_one (ps_if (pt_val (pe_call G_is_more (hr.mono (by decide)) rfl A_is_more.m A_is_more.F.kp A_is_more.b .nil pass0 (pa_cons (pe_ix ix_list (pv 0) (pv 2) (fun _ _ => rfl)) (pa_cons (pe_ix ix_list (pv 0) (pv 1) (fun _ _ => rfl)) pa_nil)))) (pss_one (ps_set (i := 1) sc_first_highest.nd rfl (by first | exact Or.inl rfl | exact Or.inr rfl) (pv 2))) pss_nil)))
      (pss_one (ps_ret (pv 1))))), ?_⟩
    refine ⟨_, rfl, p, _, rfl, .inl (SqL.of hp), _, _, rfl, ⟨by decide, by decide, by omega, by omega⟩, ?_⟩
    refine for_range (fun i σ H' => ∃ z : Option V, σ = [some (.ref p), some (.int (Dm.fh g l i : Int)), z] ∧ H' = H) ⟨none, rfl, rfl⟩ ?_ ?_
    · rintro i σ H' hi ⟨z, rfl, rfl⟩
      have hi : i + 1 ≤ n := by omega
      have hf := Dm.fh_le g l i
      obtain ⟨a, ea, ha⟩ := hx (i + 1) (by omega)
      obtain ⟨b, eb, hb'⟩ := hx (Dm.fh g l i) (by omega)
      refine ⟨_, rfl, _, rfl, p, _, _, _, rfl, rfl, SqL.of hp, at_of (j := i + 1) (by omega) ea, _, rfl, _, rfl, p, _, _, _, rfl, rfl, SqL.of hp, at_of (j := Dm.fh g l i) rfl eb,
        a, b, _, _, _, _, rfl, ha, hb', (hb _ hi).1, (hb _ hi).2, (hb _ (by omega)).1, (hb _ (by omega)).2, _, rfl, ?_⟩
      refine ite2 (fun c => ?_) (fun c => ?_)
      · have c : g (Dm.fh g l i) * l (i + 1) < g (i + 1) * l (Dm.fh g l i) := of_decide_eq_true c
        have e : Dm.fh g l (i + 1) = i + 1 := if_pos c
        refine ⟨_, rfl, some (V.int (1 + (i : Int))), ?_, rfl⟩
        rw [e]
        exact congrArg (fun z => [some (V.ref p), some (V.int z), some (V.int (1 + (i : Int)))]) (by omega)
      · have c : ¬ g (Dm.fh g l i) * l (i + 1) < g (i + 1) * l (Dm.fh g l i) := fun q => c (decide_eq_true q)
        have e : Dm.fh g l (i + 1) = Dm.fh g l i := if_neg c
        rw [e]
        exact ⟨_, rfl, rfl⟩
    · rintro σ H' ⟨z, rfl, rfl⟩
      have e : ((xs.length : Int) - 1).toNat = n := by omega
      rw [e]
      exact ⟨_, rfl, k⟩
abbrev s_best_hold : Stmt := top 10
theorem sc_best_hold : FnScope ["faces", "most", "averages", "hold", "found"] ["faces", "most"] (defScope s_best_hold) := ⟨rfl, rfl, rfl, by decide +kernel, rfl, by decide +kernel, by decide +kernel⟩
theorem ok_best_hold {f f1 f2 : Addr} {fd fd1 fd2 : FuncData} (F : Fun K "best_hold" "best_hold" s_best_hold f fd) (T : Bi mg)
    (A_average : Has K mg "average" s_average ["faces", "hold"] f1 fd1) (G_average : FnOk P w K mg base CX0 3 f1 fd1 ["faces", "hold"] (spFrac Uw96.brings))
    (A_first_highest : Has K mg "first_highest" s_first_highest ["fractions"] f2 fd2) (G_first_highest : FnOk P w K mg base CX0 2 f2 fd2 ["fractions"] spFirst) : FnOk P w K mg base CX0 4 f fd ["faces", "most"] spBest := by
  refine F.ok sc_best_hold (fun vs H Q E h => ?_) (fun cdv A outer s H vs Q E hr h => ?_)
  · obtain ⟨a, b, rfl, _⟩ := h
    rfl
  · obtain ⟨n, m, rfl, hd, k⟩ := h
    have hs2 := hd.s2
    have hs10 := hd.s10
    have hh1 := hd.h1
    have hh := hd.h100
    have big : (200 : Nat) ≤ sizeLine := by decide
    refine ⟨_, (pss_cons (ps_setLc (i := 2) (by rfl) sc_best_hold.nd rfl rfl (sw_true rfl rfl rfl (by decide +kernel)) (pi_range2 rfl T.n_range (pa_cons pe_int (pa_cons (pe_op op_add (pv 1) pe_int) pa_nil))) (blkOk_by (own := [("hold", 3)]) (by show blkC ["faces", "most", "averages", "hold", "found"] (defScope s_best_hold) _ _ = true; decide +kernel)) (fun _ _ _ _ _ => pg_name (i := 3) sc_best_hold.nd rfl (by first | exact Or.inl rfl | exact Or.inr rfl)) (fun _ _ _ _ _ => pts_nil) (fun _ _ _ _ _ => (pe_call G_average (hr.mono (by decide)) rfl A_average.m A_average.F.kp A_average.b .nil pass0 (pa_cons (pv 0) (pa_cons (pv 3) pa_nil)))))
      (pss_cons (ps_set (i := 4) sc_best_hold.nd rfl (by first | exact Or.inl rfl | exact Or.inr rfl) (pe_call G_first_highest (hr.mono (by decide)) rfl A_first_highest.m A_first_highest.F.kp A_first_highest.b .nil pass0 (pa_cons (pv 2) pa_nil)))
      (pss_one (ps_ret (pe_op op_cat (pe_lst (pa_cons (pe_op op_add (pv 4) pe_int) pa_nil)) (pe_ix ix_list (pv 2) (pv 4) (fun _ _ => rfl))))))), ?_⟩
    refine ⟨_, rfl, _, _, rfl, rfl, _, _, rfl, ⟨by decide, by decide, by omega, by omega⟩, fun D hD => ?_⟩
    refine lc_range (fun i H' => Same H H' ∧ LsAt H' D i (fun j => V2 (Uw96.brings n (j + 1)))) ⟨Same.put (fun b o e => e) hD, LsAt.new upd_same⟩ ?_ ?_
    · rintro i H' hi ⟨sm2, hD2⟩
      have hi : i < m := by omega
      refine ⟨rfl, _, rfl, _, rfl, n, i + 1, ?_, ⟨hs2, hs10, by omega, by omega⟩, fun H3 a s3 n3 ha => ?_⟩
      · exact congrArg (fun z => [V.int (n : Int), V.int z]) (by omega)
      obtain ⟨xs, e1, e2, e3⟩ := (hD2.same s3).push (fun j _ => V2_ints _) ha
      exact ⟨_, e1, by omega, (sm2.trans s3).put hD, e3⟩
    · rintro H' ⟨sm2, hD2⟩
      have e : ((m : Int) + 1 - 1).toNat = (m - 1) + 1 := by omega
      rw [e] at hD2
      refine ⟨_, rfl, D, m - 1, fun i => ((Uw96.brings n (i + 1)).u : Int), fun i => ((Uw96.brings n (i + 1)).l : Int), rfl, hD2, by omega, fun i hi => ?_, ?_⟩
      · have := (brings_bits (s := n) (h := i + 1) ⟨hs2, hs10, by omega, by omega⟩).mono (show 200 ≤ 1000000 by decide)
        exact ⟨by rw [Int.natAbs_natCast]; exact this.u, by rw [Int.natAbs_natCast]; exact this.l⟩
      have hb : Uw96.best n m = Dm.bestN (fun a b => Uw96.less b a) (Uw96.brings n) (m - 1) := by
        have := Dm.best_is n (m - 1)
        rw [show m - 1 + 1 = m by omega] at this
        exact this
      rw [Dm.best_fh (g := fun i => ((Uw96.brings n (i + 1)).u : Int)) (l := fun i => ((Uw96.brings n (i + 1)).l : Int)) (fun i j => Dm.more_less (Uw96.brings n) i j)] at hb
      have hf := Dm.fh_le (fun i => ((Uw96.brings n (i + 1)).u : Int)) (fun i => ((Uw96.brings n (i + 1)).l : Int)) (m - 1)
      generalize Dm.fh (fun i => ((Uw96.brings n (i + 1)).u : Int)) (fun i => ((Uw96.brings n (i + 1)).l : Int)) (m - 1) = z at *
      refine ⟨_, rfl, _, _, rfl, rfl, (by show 1 ≤ sizeLine; decide), fun a1 ha1 => ?_⟩
      have s4 : Same H' (upd H' a1 (.lst [V.int ((z : Int) + 1)])) := Same.put (fun b o e => e) ha1
      obtain ⟨xs, hp, hlen, hx⟩ := (hD2.same s4).get
      obtain ⟨c, ec, hc⟩ := hx z (by omega)
      refine ⟨_, rfl, _, rfl, D, _, _, _, rfl, rfl, SqL.of hp, at_of (j := z) rfl ec, a1, c, _, _, rfl, rfl, upd_same, hc, (by show 1 + 2 ≤ sizeLine; decide), fun a3 ha3 => ?_⟩
      rw [hb] at k
      exact NewL.of k (sm2.trans s4) a3 ha3
abbrev s_is_hold : Stmt := top 26
theorem sc_is_hold : FnScope ["number"] ["number"] (defScope s_is_hold) := ⟨rfl, rfl, rfl, by decide +kernel, rfl, by decide +kernel, by decide +kernel⟩
theorem ok_is_hold {f : Addr} {fd : FuncData} (F : Fun K "is_hold" "is_hold" s_is_hold f fd) : FnOk P w K mg base CX0 1 f fd ["number"] spHold := by
  refine F.ok sc_is_hold (fun vs H Q E h => ?_) (fun cdv A outer s H vs Q E hr h => ?_)
  · obtain ⟨x, rfl, _⟩ := h
    rfl
  · obtain ⟨x, rfl, k⟩ := h
    refine ⟨_, (pss_one (ps_ret (pe_chain op_le op_le pe_int (pv 0) pe_int))), ?_⟩
    refine ⟨_, rfl, _, _, rfl, rfl, _, rfl, ite2 (fun c => ?_) (fun c => ?_)⟩
    · have c : (1 : Int) ≤ (x : Int) := of_decide_eq_true c
      refine ⟨_, _, rfl, rfl, ?_⟩
      have e : Uw96.isHold x = decide ((x : Int) ≤ 100) := by
        unfold Uw96.isHold
        rw [decide_eq_true (show 1 ≤ x by omega), Bool.true_and]
        exact decide_eq_decide.mpr (by omega)
      show Q (V.bl (decide ((x : Int) ≤ 100))) H
      rw [← e]
      exact k
    · have c : ¬ (1 : Int) ≤ (x : Int) := fun q => c (decide_eq_true q)
      have e : Uw96.isHold x = false := by
        unfold Uw96.isHold
        rw [decide_eq_false (show ¬ 1 ≤ x by omega), Bool.false_and]
      rw [e] at k
      exact k
end
end Dp
set_option Elab.async false
set_option linter.all false
set_option maxRecDepth 100000
set_option maxHeartbeats 2000000
set_option exponentiation.threshold 100000
namespace Dp
open PySem PySem.Spec PyProof.Rows L2
open Uw96 (Frac Die)
def spShared : Sp := fun vs H Q _ => ∃ (pw pf : Addr) (n m v : Nat) (w : Nat → Nat) (f : Nat → Frac), vs = [.ref pw, .ref pf, .int v] ∧ H pw = some (.lst (byN n w)) ∧ LsAt H pf m (fun i => V2 (f i)) ∧ n ≤ m ∧ Dm.Shares n w f v ∧ NewL (V2 (Dm.sharedF n w f v)) H Q
def NewLs (n : Nat) (L : Nat → List V) (H : Hp) (Q : VK) : Prop := ∀ (H' : Hp) (p : Addr), Same H H' → H p = none → LsAt H' p n L → Q (.ref p) H'
theorem NewLs.mono {n : Nat} {L : Nat → List V} {H H1 : Hp} {Q : VK} (h : NewLs n L H Q) (s : Same H H1) : NewLs n L H1 Q := fun H' p s' n e => h H' p (s.trans s') (s.free n) e
def spMissing : Sp := fun vs H Q _ => ∃ s h m : Nat, vs = [.int s, .int h, .int m] ∧ Held s h ∧ 1 ≤ m ∧ m ≤ 10 ∧ NewL (byN (m + 1) (Dm.Mw s h m)) H Q
def spInRace : Sp := fun vs H Q _ => ∃ s h m : Nat, vs = [.int s, .int h, .int m] ∧ Held s h ∧ 1 ≤ m ∧ m ≤ 10 ∧ NewLs m (fun i => byN (i + 2) (Dm.Mw s h (i + 1))) H Q
theorem b4000 {n : Nat} (h : n ≤ 10 ^ 1030) : n < 2 ^ 4000 := Nat.lt_of_le_of_lt h (by decide +kernel)
theorem l9000 {n : Nat} (h : n ≤ 10 ^ 2010) : n.log2 < 9000 := log2_le h (by decide +kernel)
section
variable {P : Program} {w : World} {K : PySem.W.Frag} {mg : Str → Option Value} {base : Heap}
abbrev s_shared_sum : Stmt := top 11
theorem sc_shared_sum : FnScope ["weights", "fractions", "whole", "total", "place", "fraction", "above"] ["weights", "fractions", "whole"] (defScope s_shared_sum) := ⟨rfl, rfl, rfl, by decide +kernel, rfl, by decide +kernel, by decide +kernel⟩
theorem ok_shared_sum {f f1 : Addr} {fd fd1 : FuncData} (F : Fun K "shared_sum" "shared_sum" s_shared_sum f fd) (T : Bi mg)
    (A_lowest : Has K mg "lowest" s_lowest ["above", "below"] f1 fd1) : FnOk P w K mg base CX0 2 f fd ["weights", "fractions", "whole"] spShared := by
  have G_lowest : FnOk P w K mg base CX0 1 f1 fd1 ["above", "below"] spLowest := ok_lowest A_lowest.F
  refine F.ok sc_shared_sum (fun vs H Q E h => ?_) (fun cdv A outer s H vs Q E hr h => ?_)
  · obtain ⟨_, _, _, _, _, _, _, rfl, _⟩ := h
    rfl
  · obtain ⟨pw, pf, n, m, v, wt, ft, rfl, hw, hf, hnm, hS, k⟩ := h
    obtain ⟨xs, hp, hlen, hx⟩ := hf.get
    have n20 := hS.n20
    refine ⟨_, (pss_cons (ps_set (i := 3) sc_shared_sum.nd rfl (by first | exact Or.inl rfl | exact Or.inr rfl) (pe_lst (pa_cons pe_int (pa_cons pe_int pa_nil))))
      (pss_cons (ps_for PassesOwn.never rfl (pi_range1 rfl T.n_range (pa_cons (pe_callB call_len_seq (by rfl) T.n_len PySem.boot_len (pa_cons (pv 0) pa_nil)) pa_nil)) (pg_name (i := 4) sc_shared_sum.nd rfl (by first | exact Or.inl rfl | exact Or.inr rfl)) (pss_one (ps_if (pt_cmpR op_gt (pe_ix ix_list (pv 0) (pv 4) (fun _ _ => rfl)) pe_int (nomark _)) (pss_cons (ps_set (i := 5) sc_shared_sum.nd rfl (by first | exact Or.inl rfl | exact Or.inr rfl) (pe_ix ix_list (pv 1) (pv 4) (fun _ _ => rfl)))
          (pss_cons (ps_set (i := 6) sc_shared_sum.nd rfl (by first | exact Or.inl rfl | exact Or.inr rfl) (pe_op op_add (pe_op op_mulB (pe_ix ix_list (pv 3) pe_int (fun _ _ => rfl)) (pe_ix ix_list (pv 5) pe_int (fun _ _ => rfl))) (pe_op op_mulB (pe_op op_mulB (pe_ix ix_list (pv 0) (pv 4) (fun _ _ => rfl)) (pe_ix ix_list (pv 5) pe_int (fun _ _ => rfl))) (pe_ix ix_list (pv 3) pe_int (fun _ _ => rfl)))))
          (pss_one (ps_set (i := 3) sc_shared_sum.nd rfl (by first | exact Or.inl rfl | exact Or.inr rfl) (pe_call G_lowest (hr.mono (by decide)) rfl A_lowest.m A_lowest.F.kp A_lowest.b .nil pass0 (pa_cons (pv 6) (pa_cons (pe_op op_mulB (pe_ix ix_list (pv 3) pe_int (fun _ _ => rfl)) (pe_ix ix_list (pv 5) pe_int (fun _ _ => rfl))) pa_nil))))))) pss_nil)))
      (pss_one (ps_ret (pe_call G_lowest (hr.mono (by decide)) rfl A_lowest.m A_lowest.F.kp A_lowest.b .nil pass0 (pa_cons (pe_ix ix_list (pv 3) pe_int (fun _ _ => rfl)) (pa_cons (pe_op op_mulB (pe_ix ix_list (pv 3) pe_int (fun _ _ => rfl)) (pv 2)) pa_nil))))))), ?_⟩
    refine ⟨(by show 2 ≤ sizeLine; decide), fun p0 hp0 => ?_⟩
    have s0 : Same H (upd H p0 (.lst [.int 0, .int 1])) := Same.put (fun b o e => e) hp0
    refine ⟨_, rfl, pw, _, rfl, .inl (SqL.of (s0 _ _ hw)), _, rfl, by rw [byN_length]; omega, by rw [byN_length]; omega, ?_⟩
    refine for_range (fun i σ H' => ∃ (pt : Addr) (z4 z5 z6 : Option V), σ = [some (.ref pw), some (.ref pf), some (.int v), some (.ref pt), z4, z5, z6] ∧ Same H H' ∧ H' pt = some (.lst (V2 (Dm.tot wt ft i)))) ⟨p0, none, none, none, rfl, s0, upd_same⟩ ?_ ?_
    · rintro i σ H' hi ⟨pt, z4, z5, z6, rfl, sm, ht⟩
      rw [byN_length] at hi
      have hi : i < n := by omega
      have hw' := sm _ _ hw
      have hp' := sm _ _ hp
      obtain ⟨a, ea, ha⟩ := hx i (by omega)
      have ha' := sm _ _ ha
      have b1 := hS.tot (Nat.le_of_lt hi)
      have b2 := hS.f hi
      have b3 := hS.wle i hi
      have o1 := (Dm.tot_all (w := wt) (f := ft) i fun j hj => hS.ok j (by omega)).1
      have o2 := hS.ok i hi
      refine ⟨_, rfl, _, rfl, pw, _, _, _, rfl, rfl, SqL.of hw', at_of (j := i) (by omega) (byN_get _ hi), _, _, rfl, rfl, _, rfl, ite2 (fun c => ?_) (fun c => ?_)⟩
      · have c : (0 : Int) < ((wt i : Nat) : Int) := of_decide_eq_true c
        have e : Dm.tot wt ft (i + 1) = Uw96.frac ((Dm.tot wt ft i).u * (ft i).l + wt i * (ft i).u * (Dm.tot wt ft i).l) ((Dm.tot wt ft i).l * (ft i).l) := if_pos (by omega)
        have t10 : (10 ^ 10 : Nat) ≤ 10 ^ 1030 := by decide +kernel
        have t1000 : (10 ^ 1000 : Nat) ≤ 10 ^ 1030 := by decide +kernel
        have m1 : IntMulOk ((Dm.tot wt ft i).u : Int) ((ft i).l : Int) := mulOk (b4000 b1.2) (b4000 (Nat.le_trans b2.1 t1000)) (by decide)
        have m2 : IntMulOk ((wt i : Nat) : Int) ((ft i).u : Int) := mulOk (b4000 (Nat.le_trans b3 t10)) (b4000 b2.2) (by decide)
        have m3 : IntMulOk (((wt i : Nat) : Int) * ((ft i).u : Int)) ((Dm.tot wt ft i).l : Int) := by
          rw [← Int.natCast_mul]
          refine mulOk (m := 8000) ?_ (b4000 (Nat.le_trans b1.1 t1000)) (by decide)
          rw [show (2 : Nat) ^ 8000 = 2 ^ 4000 * 2 ^ 4000 by rw [← Nat.pow_add]]
          exact Nat.mul_lt_mul'' (b4000 (Nat.le_trans b3 t10)) (b4000 b2.2)
        have m4 : IntMulOk ((Dm.tot wt ft i).l : Int) ((ft i).l : Int) := mulOk (b4000 (Nat.le_trans b1.1 t1000)) (b4000 (Nat.le_trans b2.1 t1000)) (by decide)
        refine ⟨_, rfl, _, rfl, pf, _, _, _, rfl, rfl, SqL.of hp', at_of (j := i) (by omega) ea,
          _, rfl, pt, _, _, _, rfl, rfl, SqL.of ht, at_of (j := 0) rfl rfl, _, rfl, a, _, _, _, rfl, rfl, SqL.of ha', at_of (j := 1) rfl rfl, _, _, rfl, rfl, m1,
          _, rfl, _, rfl, pw, _, _, _, rfl, rfl, SqL.of hw', at_of (j := i) (by omega) (byN_get _ hi), _, rfl, a, _, _, _, rfl, rfl, SqL.of ha', at_of (j := 0) rfl rfl, _, _, rfl, rfl, m2,
          _, rfl, pt, _, _, _, rfl, rfl, SqL.of ht, at_of (j := 1) rfl rfl, _, _, rfl, rfl, m3, _, _, rfl, rfl,
          _, rfl, _, rfl, pt, _, _, _, rfl, rfl, SqL.of ht, at_of (j := 1) rfl rfl, _, rfl, a, _, _, _, rfl, rfl, SqL.of ha', at_of (j := 1) rfl rfl, _, _, rfl, rfl, m4,
          (Dm.tot wt ft i).u * (ft i).l + wt i * (ft i).u * (Dm.tot wt ft i).l, (Dm.tot wt ft i).l * (ft i).l, ?_, Nat.mul_pos o1.pos o2.pos, ?_, fun H3 p3 s3 n3 hL3 => ?_⟩
        · rw [Int.natCast_add, Int.natCast_mul, Int.natCast_mul, Int.natCast_mul, Int.natCast_mul]
          rfl
        · exact l9000 (Nat.le_trans (Nat.mul_le_mul b1.1 b2.1) (by decide +kernel))
        · rw [← e] at hL3
          exact ⟨p3, _, _, _, rfl, sm.trans s3, hL3⟩
      · have c : ¬ (0 : Int) < ((wt i : Nat) : Int) := fun q => c (decide_eq_true q)
        have e : Dm.tot wt ft (i + 1) = Dm.tot wt ft i := if_neg (by omega)
        rw [e]
        exact ⟨pt, _, _, _, rfl, sm, ht⟩
    · rintro σ H' ⟨pt, z4, z5, z6, rfl, sm, ht⟩
      rw [byN_length, Int.toNat_natCast] at ht
      have b1 := hS.tot (Nat.le_refl n)
      have o1 := (Dm.tot_all (w := wt) (f := ft) n hS.ok).1
      have t10 : (10 ^ 10 : Nat) ≤ 10 ^ 1030 := by decide +kernel
      have t1000 : (10 ^ 1000 : Nat) ≤ 10 ^ 1030 := by decide +kernel
      refine ⟨_, rfl, pt, _, _, _, rfl, rfl, SqL.of ht, at_of (j := 0) rfl rfl, _, rfl, pt, _, _, _, rfl, rfl, SqL.of ht, at_of (j := 1) rfl rfl, _, rfl, _, _, rfl, rfl,
        mulOk (b4000 (Nat.le_trans b1.1 t1000)) (b4000 (Nat.le_trans hS.v10 t10)) (by decide), (Dm.tot wt ft n).u, (Dm.tot wt ft n).l * v, rfl, Nat.mul_pos o1.pos hS.v0, ?_, k.mono sm⟩
      exact l9000 (Nat.le_trans (Nat.mul_le_mul b1.1 hS.v10) (by decide +kernel))
end
end Dp
set_option Elab.async false
set_option linter.all false
set_option maxRecDepth 100000
set_option maxHeartbeats 2000000
namespace Dp
open PySem PySem.Spec PyProof.Rows L2
open Uw96 (Frac Die)
section
variable {P : Program} {w : World} {K : PySem.W.Frag} {mg : Str → Option Value} {base : Heap}
abbrev s_weights_of_missing : Stmt := top 12
theorem sc_weights_of_missing : FnScope ["faces", "hold", "missing", "held", "sums", "weights", "total"] ["faces", "hold", "missing"] (defScope s_weights_of_missing) := ⟨rfl, rfl, rfl, by decide +kernel, rfl, by decide +kernel, by decide +kernel⟩
theorem ok_weights_of_missing {f f1 : Addr} {fd fd1 : FuncData} (F : Fun K "weights_of_missing" "weights_of_missing" s_weights_of_missing f fd) (T : Bi mg)
    (A_weights_of_sums : Has K mg "weights_of_sums" s_weights_of_sums ["faces", "hold"] f1 fd1) (G_weights_of_sums : FnOk P w K mg base CX0 2 f1 fd1 ["faces", "hold"] spWeights) : FnOk P w K mg base CX0 3 f fd ["faces", "hold", "missing"] spMissing := by
  refine F.ok sc_weights_of_missing (fun vs H Q E h => ?_) (fun cdv A outer s H vs Q E hr h => ?_)
  · obtain ⟨_, _, _, rfl, _⟩ := h
    rfl
  · obtain ⟨n, h, m, rfl, hd, hm1, hm10, k⟩ := h
    have hs2 := hd.s2
    have hs10 := hd.s10
    have hh1 := hd.h1
    have hh := hd.h100
    refine ⟨_, (pss_cons (ps_set (i := 3) sc_weights_of_missing.nd rfl (by first | exact Or.inl rfl | exact Or.inr rfl) (pe_callB (call_min2 rfl) (by rfl) T.n_min boot_min (pa_cons (pv 1) (pa_cons (pv 2) pa_nil))))
      (pss_cons (ps_set (i := 4) sc_weights_of_missing.nd rfl (by first | exact Or.inl rfl | exact Or.inr rfl) (pe_call G_weights_of_sums (hr.mono (by decide)) rfl A_weights_of_sums.m A_weights_of_sums.F.kp A_weights_of_sums.b .nil pass0 (pa_cons (pv 0) (pa_cons (pv 3) pa_nil))))
      (pss_cons (ps_set (i := 5) sc_weights_of_missing.nd rfl (by first | exact Or.inl rfl | exact Or.inr rfl) (pe_op op_rep (pe_lst (pa_cons pe_int pa_nil)) (pe_op op_add (pv 2) pe_int)))
      (pss_cons (ps_for PassesOwn.never rfl (pi_range2 rfl T.n_range (pa_cons (pv 3) (pa_cons (pe_op op_add (pv 3) (pv 0)) pa_nil))) (pg_name (i := 6) sc_weights_of_missing.nd rfl (by first | exact Or.inl rfl | exact Or.inr rfl)) (pss_one (ps_augS (pv 5) (pe_callB (call_max2 rfl) (by rfl) T.n_max boot_max (pa_cons (pe_op op_sub (pv 2) (pv 6)) (pa_cons pe_int pa_nil))) pget_list (pe_ix ix_list (pv 4) (pv 6) (fun _ _ => rfl)) ip_add set_list)))
      (pss_cons (ps_asg (pe_op op_sub (pe_ix ix_list (pv 4) pe_int (fun _ _ => rfl)) (pe_callB (cr_sum rfl) (by rfl) T.n_sum boot_sum (pa_cons (pv 5) pa_nil))) (pg_sub (pv 5) (pv 2) set_list))
      (pss_one (ps_ret (pv 5)))))))), ?_⟩
    refine ⟨_, rfl, _, rfl, _, _, rfl, ?_⟩
    have emin : (if (m : Int) < (h : Int) then (m : Int) else (h : Int)) = ((min h m : Nat) : Int) := by split <;> omega
    rw [emin]
    have hkp : 0 < min h m := by omega
    have hkm : min h m ≤ m := by omega
    have hk1 : min h m ≤ 100 := by omega
    have hbef := Dm.Mw_before (s := n) (h := h) (m := m) (by omega) (by omega)
    have hlg := Dm.loss_gain (s := n) (k := min h m) (by omega) hkp
    have hMw : ∀ j, Dm.Mw n h m j = if j = m then Dm.loss n (min h m) else Dm.Sn n fun i => if m - (min h m + i) = j then Dm.W n (min h m) (min h m + i) else 0 := fun j => rfl
    generalize min h m = c at *
    refine ⟨_, rfl, _, rfl, n, c, rfl, ⟨hs2, hs10, hkp, hk1⟩, fun H1 p sm np hL => ?_⟩
    refine ⟨(by show 1 ≤ sizeLine; decide), fun p0 hp0 => ⟨_, rfl, _, _, rfl, rfl, p0, _, _, rfl, rfl, upd_same, by omega, by omega, ?_, fun pz hpz => ?_⟩⟩
    · show 1 * ((m : Int) + 1).toNat ≤ sizeLine
      have : (200 : Nat) ≤ sizeLine := by decide
      omega
    have s1 : Same H1 (upd H1 p0 (.lst [.int 0])) := Same.upd (fun b o e => e) hp0
    have nz1 : H1 pz = none := s1.free hpz
    have nz : H pz = none := sm.free nz1
    have ez : ((m : Int) + 1).toNat = m + 1 := by omega
    rw [zeros, ez]
    have hs0 : 0 < n ^ Dm.kOf c := Nat.pow_pos (by omega)
    have eW := Dm.W_zero (s := n) (h := c) (by omega)
    refine ⟨_, rfl, _, rfl, _, rfl, _, _, rfl, rfl, _, _, rfl, ⟨by omega, by omega, by omega, by omega⟩, ?_⟩
    refine for_range (fun t σ H' => ∃ z : Option V, σ = [some (.int n), some (.int h), some (.int m), some (.int c), some (.ref p), some (.ref pz), z] ∧ Same H1 H' ∧ H' pz = some (.lst (byN (m + 1) fun j => Dm.Sn t fun i => if m - (c + i) = j then Dm.W n c (c + i) else 0))) ⟨none, rfl, s1.put nz1, upd_same⟩ ?_ ?_
    · rintro t σ H' ht ⟨z, rfl, s2, hz⟩
      have ht : t < n := by omega
      have emax : (if (0 : Int) > (m : Int) - ((c : Int) + (t : Int)) then (0 : Int) else (m : Int) - ((c : Int) + (t : Int))) = ((m - (c + t) : Nat) : Int) := by split <;> omega
      refine ⟨_, rfl, _, rfl, _, rfl, _, _, rfl, rfl, _, _, rfl, pz, _, m - (c + t), _, rfl, congrArg V.int emax, SqL.of hz, byN_get _ (by omega), _, rfl, _, rfl, p, _, _, _, rfl, rfl, SqL.of (s2 _ _ hL), at_of (j := c + t) (by omega) (byN_get _ (by omega)), _, _, rfl, rfl, pz, _, _, m - (c + t), rfl, rfl, hz, ?_, ?_⟩
      · rw [byN_length, emax]
        exact ixN_nat (by omega)
      · refine ⟨_, rfl, s2.put nz1, ?_⟩
        rw [upd_same]
        refine congrArg (fun l => some (HO.lst l)) ((byN_set _ _ (by omega)).trans (byN_congr fun j _ => ?_))
        show _ = (Dm.Sn t fun i => if m - (c + i) = j then Dm.W n c (c + i) else 0) + if m - (c + t) = j then Dm.W n c (c + t) else 0
        by_cases e : j = m - (c + t)
        · subst e
          rw [if_pos rfl, if_pos rfl]
        · rw [if_neg e, if_neg (fun q => e q.symm), Nat.add_zero]
    · rintro σ H' ⟨z, rfl, s2, hz⟩
      have et : ((c : Int) + (n : Int) - (c : Int)).toNat = n := by omega
      rw [et] at hz
      have hz' := hz
      rw [byN_ints] at hz'
      refine ⟨_, rfl, p, _, _, _, rfl, rfl, SqL.of (s2 _ _ hL), at_of (j := 0) rfl (byN_get _ (by omega)), _, rfl, pz, _, rfl, SqL.of hz', _, _, rfl, rfl, _, rfl, _, rfl, pz, _, _, m, rfl, rfl, hz, ?_, ?_⟩
      · rw [byN_length]
        exact ixN_nat (by omega)
      · rw [sum_byN, hbef, eW, show ((fun i j : Int => V.int (i - j)) ((n ^ Dm.kOf c : Nat) : Int) ((Dm.gain n c : Nat) : Int)) = V.int ((Dm.loss n c : Nat) : Int) from congrArg V.int (by omega)]
        refine ⟨_, rfl, k _ pz (sm.trans (s2.put nz1)) nz ?_⟩
        rw [upd_same]
        refine congrArg (fun l => some (HO.lst l)) ((byN_set _ _ (by omega)).trans (byN_congr fun j _ => ?_))
        rw [hMw]
abbrev s_weights_in_race : Stmt := top 13
theorem sc_weights_in_race : FnScope ["faces", "hold", "missing", "still"] ["faces", "hold", "missing"] (defScope s_weights_in_race) := ⟨rfl, rfl, rfl, by decide +kernel, rfl, by decide +kernel, by decide +kernel⟩
theorem ok_weights_in_race {f f1 : Addr} {fd fd1 : FuncData} (F : Fun K "weights_in_race" "weights_in_race" s_weights_in_race f fd) (T : Bi mg)
    (A_weights_of_missing : Has K mg "weights_of_missing" s_weights_of_missing ["faces", "hold", "missing"] f1 fd1) (G_weights_of_missing : FnOk P w K mg base CX0 3 f1 fd1 ["faces", "hold", "missing"] spMissing) : FnOk P w K mg base CX0 4 f fd ["faces", "hold", "missing"] spInRace := by
  refine F.ok sc_weights_in_race (fun vs H Q E h => ?_) (fun cdv A outer s H vs Q E hr h => ?_)
  · obtain ⟨_, _, _, rfl, _⟩ := h
    rfl
  · obtain ⟨n, h, m, rfl, hd, hm1, hm10, k⟩ := h
    have big : (200 : Nat) ≤ sizeLine := by decide
    refine ⟨_, (pss_one (ps_ret (pe_lc (by rfl) sc_weights_in_race.nd (pi_range2 rfl T.n_range (pa_cons pe_int (pa_cons (pe_op op_add (pv 2) pe_int) pa_nil))) (blkOk_by (own := [("still", 3)]) (by show blkC ["faces", "hold", "missing", "still"] (defScope s_weights_in_race) _ _ = true; decide +kernel)) (fun _ _ _ _ _ => pg_name (i := 3) sc_weights_in_race.nd rfl (by first | exact Or.inl rfl | exact Or.inr rfl)) (fun _ _ _ _ _ => pts_nil) (fun _ _ _ _ _ => (pe_call G_weights_of_missing (hr.mono (by decide)) rfl A_weights_of_missing.m A_weights_of_missing.F.kp A_weights_of_missing.b .nil pass0 (pa_cons (pv 0) (pa_cons (pv 1) (pa_cons (pv 3) pa_nil)))))))), ?_⟩
    refine ⟨_, rfl, _, _, rfl, rfl, _, _, rfl, ⟨by decide, by decide, by omega, by omega⟩, fun D hD => ?_⟩
    refine lc_range (fun i H' => Same H H' ∧ LsAt H' D i (fun i => byN (i + 2) (Dm.Mw n h (i + 1)))) ⟨Same.put (fun b o e => e) hD, LsAt.new upd_same⟩ ?_ ?_
    · rintro i H' hi ⟨sm2, hD2⟩
      have hi : i < m := by omega
      refine ⟨rfl, _, rfl, _, rfl, _, rfl, n, h, i + 1, ?_, hd, by omega, by omega, fun H3 a s3 n3 ha => ?_⟩
      · exact congrArg (fun z => [V.int (n : Int), V.int (h : Int), V.int z]) (by omega)
      obtain ⟨xs, e1, e2, e3⟩ := (hD2.same s3).push (fun j _ => byN_Ints _ _) ha
      exact ⟨_, e1, by omega, (sm2.trans s3).put hD, e3⟩
    · rintro H' ⟨sm2, hD2⟩
      have e : ((m : Int) + 1 - 1).toNat = m := by omega
      rw [e] at hD2
      exact k H' D sm2 hD hD2
end
end Dp
set_option Elab.async false
set_option linter.all false
set_option maxRecDepth 100000
set_option maxHeartbeats 2000000
set_option exponentiation.threshold 100000
namespace Dp
open PySem PySem.Spec PyProof.Rows L2
open Uw96 (Frac Die)
open Dm (consF)
structure DieOk (d : Die) : Prop where
  s2 : 2 ≤ d.s
  s10 : d.s ≤ 10
  t1 : 1 ≤ d.t
  t10 : d.t ≤ 10
/-- with the places told -/
def LsP (H : Hp) (p : Addr) (ps : List Addr) (n : Nat) (L : Nat → List V) : Prop := H p = some (.lst (ps.map V.ref)) ∧ ps.length = n ∧ ∀ j, j < n → ∃ a, ps[j]? = some a ∧ H a = some (.lst (L j))
theorem LsP.same {H H' : Hp} {p : Addr} {ps : List Addr} {n : Nat} {L : Nat → List V} (h : LsP H p ps n L) (s : Same H H') : LsP H' p ps n L :=
  ⟨s _ _ h.1, h.2.1, fun j hj => let ⟨a, e1, e2⟩ := h.2.2 j hj; ⟨a, e1, s _ _ e2⟩⟩
theorem LsP.put {H : Hp} {p D : Addr} {ps rs : List Addr} {n : Nat} {L : Nat → List V} {o : HO} (h : LsP H p ps n L) (hI : ∀ j, j < n → Ints (L j)) (hD : H D = some (.lst (rs.map V.ref))) (ne : p ≠ D) : LsP (upd H D o) p ps n L :=
  ⟨by rw [upd_ne ne]; exact h.1, h.2.1, fun j hj => let ⟨a, e1, e2⟩ := h.2.2 j hj; ⟨a, e1, by rw [upd_ne (ref_ne hD e2 (hI j hj))]; exact e2⟩⟩
theorem LsP.item {H : Hp} {p : Addr} {ps : List Addr} {n : Nat} {L : Nat → List V} (h : LsP H p ps n L) {i : Nat} {x : V} (hx : (ps.map V.ref)[i]? = some x) : ∃ a, i < n ∧ x = .ref a ∧ H a = some (.lst (L i)) := by
  rw [List.getElem?_map] at hx
  have hi : i < n := by
    cases q : ps[i]? with
    | none => rw [q] at hx; cases hx
    | some z => have := (List.getElem?_eq_some_iff.mp q).1; have := h.2.1; omega
  obtain ⟨a, e1, e2⟩ := h.2.2 i hi
  rw [e1] at hx
  exact ⟨a, hi, (Option.some.inj hx).symm, e2⟩
theorem LsAt.cons {H : Hp} {p c c1 : Addr} {n : Nat} {L : Nat → List V} {L0 : List V} {xs : List V} (h : LsAt H p n L) (e : H p = some (.lst xs)) (e1 : H c1 = some (.lst L0)) (e3 : H c = some (.lst ([.ref c1] ++ xs))) : LsAt H c (n + 1) (consF L0 L) := by
  obtain ⟨ps, e0, hl, h⟩ := h
  rw [e] at e0
  have : xs = ps.map V.ref := by
    have := Option.some.inj e0
    injection this
  subst this
  refine ⟨c1 :: ps, e3, by rw [List.length_cons, hl], fun j hj => ?_⟩
  cases j with
  | zero => exact ⟨c1, rfl, e1⟩
  | succ j => exact h j (by omega)
theorem byN_cons (v m : Nat) (g : Nat → Nat) : [V.int (v : Int)] ++ byN m g = byN (m + 1) (consF v g) := by
  apply List.ext_getElem?
  intro i
  cases i with
  | zero => rw [byN_get _ (by omega)]; rfl
  | succ i =>
    show (byN m g)[i]? = _
    by_cases h : i < m
    · rw [byN_get _ h, byN_get _ (by omega)]; rfl
    · rw [List.getElem?_eq_none (by rw [byN_length]; omega), List.getElem?_eq_none (by rw [byN_length]; omega)]
theorem cut_last (m : Nat) (g : Nat → Nat) : cutV (byN (m + 1) g) none (some (-1)) = byN m g := by
  have : HT.sIx (m + 1) (m + 1) (some (-1)) = m := by
    show (if (-1 : Int) < 0 then ((-1 : Int) + ((m + 1 : Nat) : Int)).toNat else min (-1 : Int).toNat (m + 1)) = m
    rw [if_pos (by decide)]
    omega
  unfold cutV
  rw [byN_length, this, HT.sIx_none]
  apply List.ext_getElem?
  intro i
  by_cases hi : i < m
  · rw [List.getElem?_take_of_lt (by omega), List.getElem?_drop, byN_get _ (by omega), byN_get _ hi, Nat.zero_add]
  · rw [List.getElem?_eq_none (by rw [List.length_take]; omega), List.getElem?_eq_none (by rw [byN_length]; omega)]
theorem at_last (m : Nat) (g : Nat → Nat) : atI (byN (m + 1) g) (-1) = some (.int (g m : Int)) := by
  unfold atI
  have : ixN (byN (m + 1) g).length (-1) = some m := by
    unfold ixN
    rw [byN_length, if_neg (by decide), if_pos (by omega)]
    refine congrArg some ?_
    omega
  rw [this]
  exact byN_get g (Nat.lt_succ_self m)
theorem turns_bits {d : Die} {h x : Nat} (hd : DieOk d) (hh : 0 < h) (hx : x < d.t) : Bits 200 (Uw96.turns d h x) := by
  have := Dm.turns_le hd.s2 hd.s10 hd.t10 hh hx
  exact ⟨Nat.lt_of_le_of_lt this.2 (by decide +kernel), Nat.lt_of_le_of_lt this.1 (by decide +kernel)⟩
/-- a list is handed back, all that was tracked is as it was -/
def GotL (xs : List V) (H : Hp) (Q : VK) : Prop := ∀ (H' : Hp) (p : Addr), Same H H' → H' p = some (.lst xs) → Q (.ref p) H'
def spTurns : Sp := fun vs H Q _ => ∃ (d : Die) (h m : Nat), vs = [.int d.s, .int h, .int m] ∧ DieOk d ∧ Held d.s h ∧ 1 ≤ m ∧ m ≤ d.t ∧ GotL (V2 (Uw96.turns d h (d.t - m))) H Q
def spQuick : Sp := fun vs H Q _ => ∃ (d : Die) (m : Nat), vs = [.int d.s, .int d.t, .int m] ∧ DieOk d ∧ 1 ≤ m ∧ m ≤ d.t ∧ NewL ((Uw96.toldBest (Uw96.quick d (d.t - m))).map V.int) H Q
section
variable {P : Program} {w : World} {K : PySem.W.Frag} {mg : Str → Option Value} {base : Heap}
abbrev s_average_turns : Stmt := top 14
theorem sc_average_turns : FnScope ["faces", "hold", "missing", "averages", "weights", "whole"] ["faces", "hold", "missing"] (defScope s_average_turns) := ⟨rfl, rfl, rfl, by decide +kernel, rfl, by decide +kernel, by decide +kernel⟩
theorem ok_average_turns {f f1 f2 : Addr} {fd fd1 fd2 : FuncData} (F : Fun K "average_turns" "average_turns" s_average_turns f fd) (T : Bi mg)
    (A_weights_in_race : Has K mg "weights_in_race" s_weights_in_race ["faces", "hold", "missing"] f1 fd1) (G_weights_in_race : FnOk P w K mg base CX0 4 f1 fd1 ["faces", "hold", "missing"] spInRace)
    (A_shared_sum : Has K mg "shared_sum" s_shared_sum ["weights", "fractions", "whole"] f2 fd2) (G_shared_sum : FnOk P w K mg base CX0 2 f2 fd2 ["weights", "fractions", "whole"] spShared) : FnOk P w K mg base CX0 5 f fd ["faces", "hold", "missing"] spTurns := by
  refine F.ok sc_average_turns (fun vs H Q E h => ?_) (fun cdv A outer s H vs Q E hr h => ?_)
  · obtain ⟨_, _, _, rfl, _⟩ := h
    rfl
  · obtain ⟨d, h, m, rfl, hD, hd, hm1, hmt, k⟩ := h
    have hs2 := hD.s2
    have hs10 := hD.s10
    have ht10 := hD.t10
    have hh1 := hd.h1
    have big : (200 : Nat) ≤ sizeLine := by decide
    refine ⟨_, (pss_cons (ps_set (i := 3) sc_average_turns.nd rfl (by first | exact Or.inl rfl | exact Or.inr rfl) (pe_lst (pa_cons (pe_lst (pa_cons pe_int (pa_cons pe_int pa_nil))) pa_nil)))
      (pss_cons (ps_for PassesOwn.never rfl (pi_list (pe_call G_weights_in_race (hr.mono (by decide)) rfl A_weights_in_race.m A_weights_in_race.F.kp A_weights_in_race.b .nil pass0 (pa_cons (pv 0) (pa_cons (pv 1) (pa_cons (pv 2) pa_nil))))) (pg_name (i := 4) sc_average_turns.nd rfl (by first | exact Or.inl rfl | exact Or.inr rfl)) (pss_cons (ps_set (i := 5) sc_average_turns.nd rfl (by first | exact Or.inl rfl | exact Or.inr rfl) (pe_callB (cr_sum rfl) (by rfl) T.n_sum boot_sum (pa_cons (pv 4) pa_nil)))
        (pss_one (ps_expr (pe_bm PySem.F.plainAttrs_list PySem.F.slot_list_append PySem.F.type_list_append mt_append (pv 3) (pa_cons (pe_call G_shared_sum (hr.mono (by decide)) rfl A_shared_sum.m A_shared_sum.F.kp A_shared_sum.b .nil pass0 (pa_cons (pe_op op_cat (pe_lst (pa_cons (pv 5) pa_nil)) (pe_slice sl_list (pv 4) po_none (po_some (pe_un un_neg pe_int)))) (pa_cons (pe_op op_cat (pe_lst (pa_cons (pe_lst (pa_cons pe_int (pa_cons pe_int pa_nil))) pa_nil)) (pv 3)) (pa_cons (pe_op op_sub (pv 5) (pe_ix ix_list (pv 4) (pe_un un_neg pe_int) (fun _ _ => rfl))) pa_nil)))) pa_nil))))))
      (pss_one (ps_ret (pe_ix ix_list (pv 3) (pv 2) (fun _ _ => rfl)))))), ?_⟩
    refine ⟨(by show 2 ≤ sizeLine; decide), fun p0 hp0 => ⟨(by show 1 ≤ sizeLine; decide), fun pA hpA => ?_⟩⟩
    have s0 : Same H (upd H p0 (.lst [.int 0, .int 1])) := Same.put (fun b o e => e) hp0
    have nA : H pA = none := s0.free hpA
    have s1 : Same (upd H p0 (.lst [.int 0, .int 1])) (upd (upd H p0 (.lst [.int 0, .int 1])) pA (.lst [.ref p0])) := Same.put (fun b o e => e) hpA
    have hA : LsAt (upd (upd H p0 (.lst [.int 0, .int 1])) pA (.lst [.ref p0])) pA 1 (fun j => V2 (Uw96.turns d h (d.t - j))) := by
      refine ⟨[p0], upd_same, rfl, fun j hj => ?_⟩
      have : j = 0 := by omega
      subst this
      refine ⟨p0, rfl, ?_⟩
      show _ = some (HO.lst (V2 (Uw96.turns d h d.t)))
      rw [Dm.turns_goal]
      exact s1 _ _ upd_same
    refine ⟨_, rfl, _, rfl, _, rfl, d.s, h, m, rfl, hd, hm1, by omega, fun H2 pr s2 nr hR => ?_⟩
    have hAr : pr ≠ pA := by
      rintro rfl
      rw [upd_same] at nr
      cases nr
    obtain ⟨ps, hP⟩ := hR
    have hP : LsP H2 pr ps m (fun i => byN (i + 2) (Dm.Mw d.s h (i + 1))) := hP
    refine ⟨pr, rfl, ⟨_, SqL.of hP.1⟩, for_list (K := K) (a := pr) (xs := ps.map V.ref) (fun i σ H' => ∃ z4 z5 : Option V, σ = [some (.int d.s), some (.int h), some (.int m), some (.ref pA), z4, z5] ∧ Same H H' ∧
      LsAt H' pA (i + 1) (fun j => V2 (Uw96.turns d h (d.t - j))) ∧ LsP H' pr ps m (fun i => byN (i + 2) (Dm.Mw d.s h (i + 1)))) ⟨none, none, rfl, (s0.trans s1).trans s2, hA.same s2, hP⟩ (fun i σ H' _ ⟨_, _, _, _, _, hP⟩ => SqL.of hP.1) ?_ ?_⟩
    · rintro i x σ H' hx ⟨z4, z5, rfl, sm, hA, hP⟩
      obtain ⟨a, hi, rfl, ha⟩ := hP.item hx
      have ha' := ha
      rw [byN_ints] at ha'
      refine ⟨_, rfl, a, _, rfl, SqL.of ha', ?_⟩
      rw [sum_byN, Dm.Mw_total (by omega) (by omega) (by omega)]
      obtain ⟨xs, eA, eAl, _⟩ := hA.get
      refine ⟨_, rfl, .inl ⟨rfl, _, SqL.of eA⟩, _, rfl, (by show 1 ≤ sizeLine; decide), fun b1 hb1 => ?_⟩
      have t1 : Same H' (upd H' b1 (.lst [.int ((d.s ^ Dm.kOf (min h (i + 1)) : Nat) : Int)])) := Same.put (fun b o e => e) hb1
      refine ⟨_, rfl, _, rfl, _, rfl, a, _, rfl, SqL.of (t1 _ _ ha), fun b2 hb2 => ?_⟩
      rw [show (-1 : Int) = -1 from rfl, cut_last]
      have t2 := t1.trans (Same.put (o := .lst (byN (i + 1) (Dm.Mw d.s h (i + 1)))) (fun b o e => e) hb2)
      refine ⟨b1, b2, _, _, rfl, rfl, (Same.put (fun b o e => e) hb2) _ _ upd_same, upd_same, ?_, fun b3 hb3 => ?_⟩
      · rw [byN_length]
        show 1 + (i + 1) ≤ sizeLine
        omega
      rw [byN_cons]
      have t3 := t2.trans (Same.put (o := .lst (byN (i + 1 + 1) (consF (d.s ^ Dm.kOf (min h (i + 1))) (Dm.Mw d.s h (i + 1))))) (fun b o e => e) hb3)
      generalize hH3 : upd (upd (upd H' b1 (.lst [.int ((d.s ^ Dm.kOf (min h (i + 1)) : Nat) : Int)])) b2 (.lst (byN (i + 1) (Dm.Mw d.s h (i + 1))))) b3 (.lst (byN (i + 1 + 1) (consF (d.s ^ Dm.kOf (min h (i + 1))) (Dm.Mw d.s h (i + 1))))) = H3 at *
      have e3 : H3 b3 = some (.lst (byN (i + 1 + 1) (consF (d.s ^ Dm.kOf (min h (i + 1))) (Dm.Mw d.s h (i + 1))))) := by rw [← hH3]; exact upd_same
      refine ⟨(by show 2 ≤ sizeLine; decide), fun c1 hc1 => ⟨(by show 1 ≤ sizeLine; decide), fun c2 hc2 => ?_⟩⟩
      have u1 : Same H3 (upd H3 c1 (.lst [.int 1, .int 1])) := Same.put (fun b o e => e) hc1
      have u2 : Same (upd H3 c1 (.lst [.int 1, .int 1])) (upd (upd H3 c1 (.lst [.int 1, .int 1])) c2 (.lst [.ref c1])) := Same.put (fun b o e => e) hc2
      have t4 := t3.trans (u1.trans u2)
      refine ⟨_, rfl, c2, pA, _, _, rfl, rfl, upd_same, t4 _ _ eA, ?_, fun c3 hc3 => ?_⟩
      · show 1 + xs.length ≤ sizeLine
        omega
      have u3 : Same (upd (upd H3 c1 (.lst [.int 1, .int 1])) c2 (.lst [.ref c1])) (upd (upd (upd H3 c1 (.lst [.int 1, .int 1])) c2 (.lst [.ref c1])) c3 (.lst ([.ref c1] ++ xs))) := Same.put (fun b o e => e) hc3
      have hc1' : upd (upd (upd H3 c1 (.lst [.int 1, .int 1])) c2 (.lst [.ref c1])) c3 (.lst ([.ref c1] ++ xs)) c1 = some (.lst [.int 1, .int 1]) := u3 _ _ (u2 _ _ upd_same)
      have hc3' : upd (upd (upd H3 c1 (.lst [.int 1, .int 1])) c2 (.lst [.ref c1])) c3 (.lst ([.ref c1] ++ xs)) c3 = some (.lst ([.ref c1] ++ xs)) := upd_same
      have e3' := u3 _ _ (u2 _ _ (u1 _ _ e3))
      have t5 := t4.trans u3
      generalize upd (upd (upd H3 c1 (.lst [.int 1, .int 1])) c2 (.lst [.ref c1])) c3 (.lst ([.ref c1] ++ xs)) = H4 at *
      have hg := Dm.loss_gain (s := d.s) (k := min h (i + 1)) (by omega) (by omega)
      refine ⟨_, rfl, _, rfl, _, rfl, a, _, _, _, rfl, rfl, SqL.of (t5 _ _ ha), at_last _ _, _, _, rfl, rfl, b3, c3, i + 1 + 1, i + 1 + 1, Dm.gain d.s (min h (i + 1)), consF (d.s ^ Dm.kOf (min h (i + 1))) (Dm.Mw d.s h (i + 1)), consF Uw96.one (fun j => Uw96.turns d h (d.t - j)), ?_, e3', ?_, Nat.le_refl _, Dm.turn_shares hs2 hs10 ht10 (by omega) (by omega) (by omega), ?_⟩
      · refine congrArg (fun z => [V.ref b3, V.ref c3, V.int z]) ?_
        rw [Dm.Mw_last]
        omega
      · refine ((hA.same t5).cons (t5 _ _ eA) hc1' hc3').congr fun j _ => ?_
        cases j <;> rfl
      rw [Dm.turn_is hs2 hs10 ht10 (by omega) (by omega) (by omega)]
      intro H5 r s5 nr5 hr5
      obtain ⟨ys, eA5, eAl5, hpush⟩ := ((hA.same t5).same s5).push (fun j _ => V2_ints _) hr5
      obtain ⟨ps5, eps5, _⟩ := (hA.same t5).same s5
      exact ⟨pA, _, _, rfl, rfl, eA5, by omega, _, _, rfl, ((sm.trans t5).trans s5).put nA, hpush, ((hP.same t5).same s5).put (fun j _ => byN_Ints _ _) eps5 hAr⟩
    · rintro σ H' ⟨z4, z5, rfl, sm, hA, hP⟩
      rw [List.length_map, hP.2.1] at hA
      obtain ⟨xs, eA, eAl, hx⟩ := hA.get
      obtain ⟨a, ea, ha⟩ := hx m (by omega)
      exact ⟨_, rfl, _, rfl, pA, _, _, _, rfl, rfl, SqL.of eA, at_of (j := m) rfl ea, k H' a sm ha⟩
abbrev s_quick_hold : Stmt := top 15
theorem sc_quick_hold : FnScope ["faces", "most", "missing", "averages", "hold", "found", "turns"] ["faces", "most", "missing"] (defScope s_quick_hold) := ⟨rfl, rfl, rfl, by decide +kernel, rfl, by decide +kernel, by decide +kernel⟩
theorem ok_quick_hold {f f1 f2 : Addr} {fd fd1 fd2 : FuncData} (F : Fun K "quick_hold" "quick_hold" s_quick_hold f fd) (T : Bi mg)
    (A_average_turns : Has K mg "average_turns" s_average_turns ["faces", "hold", "missing"] f1 fd1) (G_average_turns : FnOk P w K mg base CX0 5 f1 fd1 ["faces", "hold", "missing"] spTurns)
    (A_first_highest : Has K mg "first_highest" s_first_highest ["fractions"] f2 fd2) (G_first_highest : FnOk P w K mg base CX0 2 f2 fd2 ["fractions"] spFirst) : FnOk P w K mg base CX0 6 f fd ["faces", "most", "missing"] spQuick := by
  refine F.ok sc_quick_hold (fun vs H Q E h => ?_) (fun cdv A outer s H vs Q E hr h => ?_)
  · obtain ⟨_, _, rfl, _⟩ := h
    rfl
  · obtain ⟨d, m, rfl, hd, hm1, hmt, k⟩ := h
    have hs2 := hd.s2
    have hs10 := hd.s10
    have ht1 := hd.t1
    have ht10 := hd.t10
    have big : (200 : Nat) ≤ sizeLine := by decide
    refine ⟨_, (pss_cons (ps_setLc (i := 3) (by rfl) sc_quick_hold.nd rfl rfl (sw_true rfl rfl rfl (by decide +kernel)) (pi_range2 rfl T.n_range (pa_cons pe_int (pa_cons (pe_op op_add (pv 1) pe_int) pa_nil))) (blkOk_by (own := [("hold", 4)]) (by show blkC ["faces", "most", "missing", "averages", "hold", "found", "turns"] (defScope s_quick_hold) _ _ = true; decide +kernel)) (fun _ _ _ _ _ => pg_name (i := 4) sc_quick_hold.nd rfl (by first | exact Or.inl rfl | exact Or.inr rfl)) (fun _ _ _ _ _ => pts_nil) (fun _ _ _ _ _ => (pe_call G_average_turns (hr.mono (by decide)) rfl A_average_turns.m A_average_turns.F.kp A_average_turns.b .nil pass0 (pa_cons (pv 0) (pa_cons (pv 4) (pa_cons (pv 2) pa_nil))))))
      (pss_cons (ps_set (i := 5) sc_quick_hold.nd rfl (by first | exact Or.inl rfl | exact Or.inr rfl) (pe_call G_first_highest (hr.mono (by decide)) rfl A_first_highest.m A_first_highest.F.kp A_first_highest.b .nil pass0 (pa_cons (pe_lc (by rfl) sc_quick_hold.nd (pi_list (pv 3)) (blkOk_by (own := [("turns", 6)]) (by show blkC ["faces", "most", "missing", "averages", "hold", "found", "turns"] (defScope s_quick_hold) _ _ = true; decide +kernel)) (fun _ _ _ _ _ => pg_name (i := 6) sc_quick_hold.nd rfl (by first | exact Or.inl rfl | exact Or.inr rfl)) (fun _ _ _ _ _ => pts_nil) (fun _ _ _ _ _ => (pe_lst (pa_cons (pe_un un_neg (pe_ix (show IxR _ (rIxL K) from ix_list) (pv 6) pe_int (fun _ _ => rfl))) (pa_cons (pe_ix (show IxR _ (rIxL K) from ix_list) (pv 6) pe_int (fun _ _ => rfl)) pa_nil))))) pa_nil)))
      (pss_one (ps_ret (pe_op op_cat (pe_lst (pa_cons (pe_op op_add (pv 5) pe_int) pa_nil)) (pe_ix ix_list (pv 3) (pv 5) (fun _ _ => rfl))))))), ?_⟩
    refine ⟨_, rfl, _, _, rfl, rfl, _, _, rfl, ⟨by decide, by decide, by omega, by omega⟩, fun D hD => ?_⟩
    refine lc_range (fun i H' => Same H H' ∧ LsAt H' D i (fun j => V2 (Uw96.turns d (j + 1) (d.t - m)))) ⟨Same.put (fun b o e => e) hD, LsAt.new upd_same⟩ ?_ ?_
    · rintro i H' hi ⟨sm2, hD2⟩
      have hi : i < d.t := by omega
      refine ⟨rfl, _, rfl, _, rfl, _, rfl, d, i + 1, m, ?_, hd, ⟨hs2, hs10, by omega, by omega⟩, hm1, hmt, fun H3 a s3 ha => ?_⟩
      · exact congrArg (fun z => [V.int (d.s : Int), V.int z, V.int (m : Int)]) (by omega)
      obtain ⟨xs, e1, e2, e3⟩ := (hD2.same s3).push (fun j _ => V2_ints _) ha
      exact ⟨_, e1, by omega, (sm2.trans s3).put hD, e3⟩
    · rintro H1 ⟨sm1, hD1⟩
      have e : ((d.t : Int) + 1 - 1).toNat = (d.t - 1) + 1 := by omega
      rw [e] at hD1
      obtain ⟨ps, hP⟩ := id hD1
      have hP : LsP H1 D ps (d.t - 1 + 1) (fun j => V2 (Uw96.turns d (j + 1) (d.t - m))) := hP
      refine ⟨_, rfl, D, rfl, ⟨_, SqL.of hP.1⟩, fun C hC => ?_⟩
      refine lc_list (xs := ps.map V.ref) (fun i H' => Same H1 H' ∧ LsAt H' C i (fun j => [V.int (-((Uw96.turns d (j + 1) (d.t - m)).u : Int)), V.int ((Uw96.turns d (j + 1) (d.t - m)).l : Int)]))
        ⟨Same.put (fun b o e => e) hC, LsAt.new upd_same⟩ (fun i H' _ ⟨s3, _⟩ => SqL.of (s3 _ _ hP.1)) ?_ ?_
      · rintro i x H' hx ⟨sm2, hC2⟩
        obtain ⟨a, hi, rfl, ha⟩ := (hP.same sm2).item hx
        refine ⟨rfl, _, rfl, a, _, _, _, rfl, rfl, SqL.of ha, at_of (j := 0) rfl rfl, _, rfl, _, rfl, a, _, _, _, rfl, rfl, SqL.of ha, at_of (j := 1) rfl rfl, (by show 2 ≤ sizeLine; decide), fun b hb => ?_⟩
        have s3 : Same H' (upd H' b (.lst [V.int (-((Uw96.turns d (i + 1) (d.t - m)).u : Int)), V.int ((Uw96.turns d (i + 1) (d.t - m)).l : Int)])) := Same.put (fun b o e => e) hb
        obtain ⟨xs, e1, e2, e3⟩ := (hC2.same s3).push (fun j _ => ⟨_, _, rfl⟩) upd_same
        exact ⟨_, e1, by omega, (sm2.trans s3).put hC, e3⟩
      · rintro H2 ⟨sm2, hC2⟩
        rw [List.length_map, hP.2.1] at hC2
        refine ⟨C, d.t - 1, fun i => -((Uw96.turns d (i + 1) (d.t - m)).u : Int), fun i => ((Uw96.turns d (i + 1) (d.t - m)).l : Int), rfl, hC2, by omega, fun i hi => ?_, ?_⟩
        · have := (turns_bits (d := d) (h := i + 1) (x := d.t - m) hd (by omega) (by omega)).mono (show 200 ≤ 1000000 by decide)
          exact ⟨by rw [Int.natAbs_neg, Int.natAbs_natCast]; exact this.u, by rw [Int.natAbs_natCast]; exact this.l⟩
        have hb : Uw96.quick d (d.t - m) = Dm.bestN Uw96.less (fun h => Uw96.turns d h (d.t - m)) (d.t - 1) := by
          have := Dm.bestOf_upTo Uw96.less (fun h => Uw96.turns d h (d.t - m)) (d.t - 1)
          rw [show d.t - 1 + 1 = d.t by omega] at this
          exact this
        rw [Dm.best_fh (g := fun i => -((Uw96.turns d (i + 1) (d.t - m)).u : Int)) (l := fun i => ((Uw96.turns d (i + 1) (d.t - m)).l : Int)) (fun i j => Dm.less_less (fun h => Uw96.turns d h (d.t - m)) i j)] at hb
        have hf := Dm.fh_le (fun i => -((Uw96.turns d (i + 1) (d.t - m)).u : Int)) (fun i => ((Uw96.turns d (i + 1) (d.t - m)).l : Int)) (d.t - 1)
        generalize Dm.fh (fun i => -((Uw96.turns d (i + 1) (d.t - m)).u : Int)) (fun i => ((Uw96.turns d (i + 1) (d.t - m)).l : Int)) (d.t - 1) = z at *
        refine ⟨_, rfl, _, _, rfl, rfl, (by show 1 ≤ sizeLine; decide), fun a1 ha1 => ?_⟩
        have s4 : Same H2 (upd H2 a1 (.lst [V.int ((z : Int) + 1)])) := Same.put (fun b o e => e) ha1
        obtain ⟨xs, hp, hlen, hx⟩ := ((hD1.same sm2).same s4).get
        obtain ⟨c, ec, hc⟩ := hx z (by omega)
        refine ⟨_, rfl, _, rfl, D, _, _, _, rfl, rfl, SqL.of hp, at_of (j := z) rfl ec, a1, c, _, _, rfl, rfl, upd_same, hc, (by show 1 + 2 ≤ sizeLine; decide), fun a3 ha3 => ?_⟩
        rw [hb] at k
        exact NewL.of k ((sm1.trans sm2).trans s4) a3 ha3
end
end Dp
set_option Elab.async false
set_option linter.all false
set_option maxRecDepth 100000
set_option maxHeartbeats 2000000
set_option exponentiation.threshold 100000
namespace Dp
open PySem PySem.Spec PyProof.Rows L2
open Uw96 (Frac Die)
open Dm (consF)
theorem byN_two (x y : Nat) : [V.int (x : Int), V.int (y : Int)] = byN 2 (consF x fun _ => y) := rfl
theorem LsAt.two {H : Hp} {c x y : Addr} {s t : Frac} (e : H c = some (.lst [.ref x, .ref y])) (ex : H x = some (.lst (V2 s))) (ey : H y = some (.lst (V2 t))) : LsAt H c 2 (fun j => V2 (consF s (fun _ => t) j)) := by
  refine ⟨[x, y], e, rfl, fun j hj => ?_⟩
  match j, hj with
  | 0, _ => exact ⟨x, rfl, ex⟩
  | 1, _ => exact ⟨y, rfl, ey⟩
def spTwo : Sp := fun vs H Q _ => ∃ (d : Die) (h g a b : Nat) (po pw pq pt : Addr), vs = [.ref po, .ref pw, .ref pq, .ref pt] ∧ Dm.DuelOk d h g a b ∧ H po = some (.lst (byN (a + 1) (Dm.Mw d.s h a))) ∧ LsAt H pw a (fun j => V2 (Dm.fB d h g j b)) ∧
  H pq = some (.lst (byN (b + 1) (Dm.Mw d.s g b))) ∧ LsAt H pt b (fun j => V2 (Dm.fA d h g a j)) ∧ ∀ (H' : Hp) (p x y : Addr), Same H H' → H p = none → H' p = some (.lst [.ref x, .ref y]) → H' x = some (.lst (V2 (Dm.fA d h g a b))) → H' y = some (.lst (V2 (Dm.fB d h g a b))) → Q (.ref p) H'
def spWin : Sp := fun vs H Q _ => ∃ (d : Die) (h g a b : Nat) (po pq : Addr), vs = [.ref po, .ref pq] ∧ Dm.DuelOk d h g a b ∧ LsAt H po a (fun i => byN (i + 2) (Dm.Mw d.s h (i + 1))) ∧ LsAt H pq b (fun i => byN (i + 2) (Dm.Mw d.s g (i + 1))) ∧ GotL (V2 (Dm.fA d h g a b)) H Q
section
variable {P : Program} {w : World} {K : PySem.W.Frag} {mg : Str → Option Value} {base : Heap}
abbrev s_chances_of_two : Stmt := top 16
theorem sc_chances_of_two : FnScope ["own", "waiting", "other", "at_turn", "other_whole", "moved", "let_go_on", "ending", "chance"] ["own", "waiting", "other", "at_turn"] (defScope s_chances_of_two) := ⟨rfl, rfl, rfl, by decide +kernel, rfl, by decide +kernel, by decide +kernel⟩
theorem ok_chances_of_two {f f1 : Addr} {fd fd1 : FuncData} (F : Fun K "chances_of_two" "chances_of_two" s_chances_of_two f fd) (T : Bi mg)
    (A_shared_sum : Has K mg "shared_sum" s_shared_sum ["weights", "fractions", "whole"] f1 fd1) (G_shared_sum : FnOk P w K mg base CX0 2 f1 fd1 ["weights", "fractions", "whole"] spShared) : FnOk P w K mg base CX0 3 f fd ["own", "waiting", "other", "at_turn"] spTwo := by
  refine F.ok sc_chances_of_two (fun vs H Q E h => ?_) (fun cdv A outer s H vs Q E hr h => ?_)
  · obtain ⟨_, _, _, _, _, _, _, _, _, rfl, _⟩ := h
    rfl
  · obtain ⟨d, h, g, a, b, po, pw, pq, pt, rfl, o, hpo, hpw, hpq, hpt, k⟩ := h
    have s0 : 0 < d.s := by have := o.s2; omega
    have two : (2 : Nat) ≤ sizeLine := by decide
    have ha := o.at_
    have hb := o.bt
    have ht := o.t10
    have p1 := Dm.pow5 (s := d.s) (h := h) (m := a) o.s10 (by omega)
    have p2 := Dm.pow5 (s := d.s) (h := g) (m := b) o.s10 (by omega)
    have l1 := Dm.loss_lt (s := d.s) (k := min h a) o.s2 (by have := o.h0; have := o.a0; omega)
    have l2 := Dm.loss_lt (s := d.s) (k := min g b) o.s2 (by have := o.g0; have := o.b0; omega)
    have small : ∀ n : Nat, n ≤ 10 ^ 5 → n < 2 ^ 64 := fun n hn => Nat.lt_of_le_of_lt hn (by decide)
    refine ⟨_, (pss_cons (ps_set (i := 4) sc_chances_of_two.nd rfl (by first | exact Or.inl rfl | exact Or.inr rfl) (pe_callB (cr_sum rfl) (by rfl) T.n_sum boot_sum (pa_cons (pv 2) pa_nil)))
      (pss_cons (ps_set (i := 5) sc_chances_of_two.nd rfl (by first | exact Or.inl rfl | exact Or.inr rfl) (pe_call G_shared_sum (hr.mono (by decide)) rfl A_shared_sum.m A_shared_sum.F.kp A_shared_sum.b .nil pass0 (pa_cons (pe_slice sl_list (pv 0) po_none (po_some (pe_un un_neg pe_int))) (pa_cons (pv 1) (pa_cons pe_int pa_nil)))))
      (pss_cons (ps_set (i := 6) sc_chances_of_two.nd rfl (by first | exact Or.inl rfl | exact Or.inr rfl) (pe_call G_shared_sum (hr.mono (by decide)) rfl A_shared_sum.m A_shared_sum.F.kp A_shared_sum.b .nil pass0 (pa_cons (pe_slice sl_list (pv 2) po_none (po_some (pe_un un_neg pe_int))) (pa_cons (pv 3) (pa_cons pe_int pa_nil)))))
      (pss_cons (ps_set (i := 7) sc_chances_of_two.nd rfl (by first | exact Or.inl rfl | exact Or.inr rfl) (pe_op op_sub (pe_op op_mulB (pe_callB (cr_sum rfl) (by rfl) T.n_sum boot_sum (pa_cons (pv 0) pa_nil)) (pv 4)) (pe_op op_mulB (pe_ix ix_list (pv 0) (pe_un un_neg pe_int) (fun _ _ => rfl)) (pe_ix ix_list (pv 2) (pe_un un_neg pe_int) (fun _ _ => rfl)))))
      (pss_cons (ps_set (i := 8) sc_chances_of_two.nd rfl (by first | exact Or.inl rfl | exact Or.inr rfl) (pe_call G_shared_sum (hr.mono (by decide)) rfl A_shared_sum.m A_shared_sum.F.kp A_shared_sum.b .nil pass0 (pa_cons (pe_lst (pa_cons (pv 4) (pa_cons (pe_ix ix_list (pv 0) (pe_un un_neg pe_int) (fun _ _ => rfl)) pa_nil))) (pa_cons (pe_lst (pa_cons (pv 5) (pa_cons (pv 6) pa_nil))) (pa_cons (pv 7) pa_nil)))))
      (pss_one (ps_ret (pe_lst (pa_cons (pv 8) (pa_cons (pe_call G_shared_sum (hr.mono (by decide)) rfl A_shared_sum.m A_shared_sum.F.kp A_shared_sum.b .nil pass0 (pa_cons (pe_lst (pa_cons pe_int (pa_cons (pe_ix ix_list (pv 2) (pe_un un_neg pe_int) (fun _ _ => rfl)) pa_nil))) (pa_cons (pe_lst (pa_cons (pv 6) (pa_cons (pv 8) pa_nil))) (pa_cons (pv 4) pa_nil)))) pa_nil)))))))))), ?_⟩
    -- other_whole
    have iq := hpq
    rw [byN_ints] at iq
    have io := hpo
    rw [byN_ints] at io
    refine ⟨_, rfl, pq, _, rfl, SqL.of iq, ?_⟩
    rw [sum_byN, Dm.Mw_total s0 o.g0 o.b0]
    -- moved
    refine ⟨_, rfl, _, rfl, _, rfl, po, _, rfl, SqL.of hpo, fun b1 hb1 => ?_⟩
    rw [cut_last]
    have t1 : Same H (upd H b1 (.lst (byN a (Dm.Mw d.s h a)))) := Same.put (fun b o e => e) hb1
    refine ⟨_, rfl, b1, pw, a, a, 1, Dm.Mw d.s h a, fun j => Dm.fB d h g j b, rfl, upd_same, hpw.same t1, Nat.le_refl _, Dm.moved_shares o, fun H2 pm s2 nm hm => ?_⟩
    have hm : H2 pm = some (.lst (V2 (Dm.moved d h g a b))) := hm
    have t2 := t1.trans s2
    generalize upd H b1 (.lst (byN a (Dm.Mw d.s h a))) = H1 at *
    -- let_go_on
    refine ⟨_, rfl, _, rfl, _, rfl, pq, _, rfl, SqL.of (t2 _ _ hpq), fun b2 hb2 => ?_⟩
    rw [cut_last]
    have t3' : Same H2 (upd H2 b2 (.lst (byN b (Dm.Mw d.s g b)))) := Same.put (fun b o e => e) hb2
    have t3 := t2.trans t3'
    refine ⟨_, rfl, b2, pt, b, b, 1, Dm.Mw d.s g b, fun j => Dm.fA d h g a j, rfl, upd_same, hpt.same t3, Nat.le_refl _, Dm.letgo_shares o, fun H4 pl s4 nl hl => ?_⟩
    have hl : H4 pl = some (.lst (V2 (Dm.letgo d h g a b))) := hl
    have t4 := t3.trans s4
    have hm4 := s4 _ _ (t3' _ _ hm)
    generalize upd H2 b2 (.lst (byN b (Dm.Mw d.s g b))) = H3 at *
    -- ending
    refine ⟨_, rfl, po, _, rfl, SqL.of (t4 _ _ io), ?_⟩
    rw [sum_byN, Dm.Mw_total s0 o.h0 o.a0]
    refine ⟨_, rfl, _, _, rfl, rfl, mulOk (small _ p1) (small _ p2) (by decide), _, rfl, _, rfl, po, _, _, _, rfl, rfl, SqL.of (t4 _ _ hpo), at_last _ _, _, rfl, _, rfl, pq, _, _, _, rfl, rfl, SqL.of (t4 _ _ hpq), at_last _ _, _, _, rfl, rfl, ?_, _, _, rfl, rfl, ?_⟩
    · rw [Dm.Mw_last, Dm.Mw_last]
      exact mulOk (small _ (by omega)) (small _ (by omega)) (by decide)
    -- chance
    refine ⟨_, rfl, _, rfl, _, rfl, po, _, _, _, rfl, rfl, SqL.of (t4 _ _ hpo), at_last _ _, two, fun c1 hc1 => ⟨_, rfl, _, rfl, two, fun c2 hc2 => ?_⟩⟩
    have u1 : Same H4 (upd H4 c1 (.lst [.int ((d.s ^ Dm.kOf (min g b) : Nat) : Int), .int ((Dm.Mw d.s h a a : Nat) : Int)])) := Same.put (fun b o e => e) hc1
    have e1 : upd H4 c1 (.lst [.int ((d.s ^ Dm.kOf (min g b) : Nat) : Int), .int ((Dm.Mw d.s h a a : Nat) : Int)]) c1 = some (.lst (byN 2 (consF (d.s ^ Dm.kOf (min g b)) fun _ => Dm.loss d.s (min h a)))) := by
      rw [upd_same, Dm.Mw_last]
      rfl
    generalize upd H4 c1 (.lst [.int ((d.s ^ Dm.kOf (min g b) : Nat) : Int), .int ((Dm.Mw d.s h a a : Nat) : Int)]) = H5 at *
    have u2 : Same H5 (upd H5 c2 (.lst [.ref pm, .ref pl])) := Same.put (fun b o e => e) hc2
    have t6 := (t4.trans u1).trans u2
    have e2 : LsAt (upd H5 c2 (.lst [.ref pm, .ref pl])) c2 2 (fun j => V2 (consF (Dm.moved d h g a b) (fun _ => Dm.letgo d h g a b) j)) := LsAt.two upd_same (u2 _ _ (u1 _ _ hm4)) (u2 _ _ (u1 _ _ hl))
    have e1' := u2 _ _ e1
    have hl6 := u2 _ _ (u1 _ _ hl)
    generalize upd H5 c2 (.lst [.ref pm, .ref pl]) = H6 at *
    refine ⟨_, rfl, c1, c2, 2, 2, Dm.both d.s (min h a) (min g b), _, _, ?_, e1', e2, Nat.le_refl _, Dm.chance_shares o, ?_⟩
    · refine congrArg (fun z => [V.ref c1, V.ref c2, V.int z]) ?_
      rw [Dm.Mw_last, Dm.Mw_last, ← Int.natCast_mul, ← Int.natCast_mul, Dm.ending_is o]
      omega
    rw [Dm.chance_is o]
    intro H7 pc s7 nc hc
    have t7 := t6.trans s7
    have hl7 := s7 _ _ hl6
    -- the other one
    refine ⟨_, rfl, _, rfl, _, rfl, pq, _, _, _, rfl, rfl, SqL.of (t7 _ _ hpq), at_last _ _, two, fun c3 hc3 => ⟨_, rfl, _, rfl, two, fun c4 hc4 => ?_⟩⟩
    have u3 : Same H7 (upd H7 c3 (.lst [.int 1, .int ((Dm.Mw d.s g b b : Nat) : Int)])) := Same.put (fun b o e => e) hc3
    have e3 : upd H7 c3 (.lst [.int 1, .int ((Dm.Mw d.s g b b : Nat) : Int)]) c3 = some (.lst (byN 2 (consF 1 fun _ => Dm.loss d.s (min g b)))) := by
      rw [upd_same, Dm.Mw_last]
      rfl
    generalize upd H7 c3 (.lst [.int 1, .int ((Dm.Mw d.s g b b : Nat) : Int)]) = H8 at *
    have u4 : Same H8 (upd H8 c4 (.lst [.ref pl, .ref pc])) := Same.put (fun b o e => e) hc4
    have e4 : LsAt (upd H8 c4 (.lst [.ref pl, .ref pc])) c4 2 (fun j => V2 (consF (Dm.letgo d h g a b) (fun _ => Dm.fA d h g a b) j)) := LsAt.two upd_same (u4 _ _ (u3 _ _ hl7)) (u4 _ _ (u3 _ _ hc))
    have t9 := (t7.trans u3).trans u4
    have hc9 := u4 _ _ (u3 _ _ hc)
    have e3' := u4 _ _ e3
    generalize upd H8 c4 (.lst [.ref pl, .ref pc]) = H9 at *
    refine ⟨_, rfl, c3, c4, 2, 2, d.s ^ Dm.kOf (min g b), _, _, rfl, e3', e4, Nat.le_refl _, Dm.wait_shares o, ?_⟩
    rw [Dm.wait_is o]
    intro H10 py s10 ny hy
    refine ⟨two, fun pr hpr => ?_⟩
    have u5 : Same H10 (upd H10 pr (.lst [.ref pc, .ref py])) := Same.put (fun b o e => e) hpr
    exact k _ pr pc py ((t9.trans s10).trans u5) ((t9.trans s10).free hpr) upd_same (u5 _ _ (s10 _ _ hc9)) (u5 _ _ hy)
end
end Dp
set_option Elab.async false
set_option linter.all false
set_option maxRecDepth 100000
set_option maxHeartbeats 2000000
namespace Dp
open PySem PySem.Spec PyProof.Rows L2
open Uw96 (Frac Die)
open Dm (consF)
/-- a list of lists of lists, each of the middle ones its own -/
structure WtAt (H : Hp) (pw : Addr) (ws : List Addr) (cnt : Nat → Nat) (L : Nat → Nat → List V) : Prop where
  e : H pw = some (.lst (ws.map V.ref))
  inj : ∀ (i j : Nat) (x : Addr), ws[i]? = some x → ws[j]? = some x → i = j
  ne : ∀ x ∈ ws, x ≠ pw
  row : ∀ (b : Nat) (x : Addr), ws[b]? = some x → LsAt H x (cnt b) (L b)
section
variable {H : Hp} {pw : Addr} {ws : List Addr} {cnt : Nat → Nat} {L : Nat → Nat → List V}
theorem WtAt.same {H' : Hp} (h : WtAt H pw ws cnt L) (s : Same H H') : WtAt H' pw ws cnt L := ⟨s _ _ h.e, h.inj, h.ne, fun b x e => (h.row b x e).same s⟩
theorem WtAt.congr {cnt' : Nat → Nat} (h : WtAt H pw ws cnt L) (e : ∀ b, b < ws.length → cnt b = cnt' b) : WtAt H pw ws cnt' L := ⟨h.e, h.inj, h.ne, fun b x q => by
  rw [← e b (List.getElem?_eq_some_iff.mp q).1]
  exact h.row b x q⟩
theorem WtAt.put {D : Addr} {rs : List Addr} {o : HO} (h : WtAt H pw ws cnt L) (hI : ∀ b j, Ints (L b j)) (hD : H D = some (.lst (rs.map V.ref))) (n1 : pw ≠ D) (n2 : ∀ x ∈ ws, x ≠ D) : WtAt (upd H D o) pw ws cnt L :=
  ⟨by rw [upd_ne n1]; exact h.e, h.inj, h.ne, fun b x e => (h.row b x e).put (fun j _ => hI b j) hD (n2 x (List.mem_of_getElem? e))⟩
theorem WtAt.push {j : Nat} {x v : Addr} (h : WtAt H pw ws cnt L) (hI : ∀ b j, Ints (L b j)) (hx : ws[j]? = some x) (hv : H v = some (.lst (L j (cnt j)))) :
    ∃ xs, H x = some (.lst xs) ∧ xs.length = cnt j ∧ WtAt (upd H x (.lst (xs ++ [.ref v]))) pw ws (fun b => if b = j then cnt j + 1 else cnt b) L := by
  obtain ⟨rs, er, _⟩ := h.row j x hx
  obtain ⟨xs, e1, e2, e3⟩ := (h.row j x hx).push (fun k _ => hI j k) hv
  refine ⟨xs, e1, e2, ?_, h.inj, h.ne, fun b y hy => ?_⟩
  · rw [upd_ne (h.ne x (List.mem_of_getElem? hx)).symm]
    exact h.e
  · by_cases c : b = j
    · subst c
      rw [hx] at hy
      have : x = y := Option.some.inj hy
      subst this
      rw [if_pos rfl]
      exact e3
    · rw [if_neg c]
      refine (h.row b y hy).put (fun k _ => hI b k) er fun q => c ?_
      subst q
      exact h.inj b j y hy hx
end
section
variable {P : Program} {w : World} {K : PySem.W.Frag} {mg : Str → Option Value} {base : Heap}
abbrev s_chance_to_win : Stmt := top 17
theorem sc_chance_to_win : FnScope ["own", "other", "waiting", "place", "at_turn", "weights", "both"] ["own", "other"] (defScope s_chance_to_win) := ⟨rfl, rfl, rfl, by decide +kernel, rfl, by decide +kernel, by decide +kernel⟩
theorem ok_chance_to_win {f f1 : Addr} {fd fd1 : FuncData} (F : Fun K "chance_to_win" "chance_to_win" s_chance_to_win f fd) (T : Bi mg)
    (A_chances_of_two : Has K mg "chances_of_two" s_chances_of_two ["own", "waiting", "other", "at_turn"] f1 fd1) (G_chances_of_two : FnOk P w K mg base CX0 3 f1 fd1 ["own", "waiting", "other", "at_turn"] spTwo) : FnOk P w K mg base CX0 4 f fd ["own", "other"] spWin := by
  refine F.ok sc_chance_to_win (fun vs H Q E h => ?_) (fun cdv A outer s H vs Q E hr h => ?_)
  · obtain ⟨_, _, _, _, _, _, _, rfl, _⟩ := h
    rfl
  · obtain ⟨d, h, g, a, b, po, pq, rfl, o, hpo, hpq, k⟩ := h
    have two : (2 : Nat) ≤ sizeLine := by decide
    have one : (1 : Nat) ≤ sizeLine := by decide
    have big : (200 : Nat) ≤ sizeLine := by decide
    have ha := o.at_
    have hb := o.bt
    have ht := o.t10
    obtain ⟨ys, eq, eql, hq⟩ := hpq.get
    obtain ⟨pso, hO⟩ := hpo
    have hO : LsP H po pso a (fun i => byN (i + 2) (Dm.Mw d.s h (i + 1))) := hO
    have hI : ∀ c j, Ints ((fun (c j : Nat) => V2 (Dm.fB d h g j (c + 1))) c j) := fun c j => V2_ints _
    refine ⟨_, (pss_cons (ps_setLc (i := 2) (by rfl) sc_chance_to_win.nd rfl rfl (sw_true rfl rfl rfl (by decide +kernel)) (pi_range1 rfl T.n_range (pa_cons (pe_callB call_len_seq (by rfl) T.n_len PySem.boot_len (pa_cons (pv 1) pa_nil)) pa_nil)) (blkOk_by (own := [("place", 3)]) (by show blkC ["own", "other", "waiting", "place", "at_turn", "weights", "both"] (defScope s_chance_to_win) _ _ = true; decide +kernel)) (fun _ _ _ _ _ => pg_name (i := 3) sc_chance_to_win.nd rfl (by first | exact Or.inl rfl | exact Or.inr rfl)) (fun _ _ _ _ _ => pts_nil) (fun _ _ _ _ _ => (pe_lst (pa_cons (pe_lst (pa_cons pe_int (pa_cons pe_int pa_nil))) pa_nil))))
      (pss_cons (ps_set (i := 4) sc_chance_to_win.nd rfl (by first | exact Or.inl rfl | exact Or.inr rfl) (pe_lst pa_nil))
      (pss_cons (ps_for PassesOwn.never rfl (pi_list (pv 0)) (pg_name (i := 5) sc_chance_to_win.nd rfl (by first | exact Or.inl rfl | exact Or.inr rfl)) (pss_cons (ps_set (i := 4) sc_chance_to_win.nd rfl (by first | exact Or.inl rfl | exact Or.inr rfl) (pe_lst (pa_cons (pe_lst (pa_cons pe_int (pa_cons pe_int pa_nil))) pa_nil)))
        (pss_one (ps_for PassesOwn.never rfl (pi_range1 rfl T.n_range (pa_cons (pe_callB call_len_seq (by rfl) T.n_len PySem.boot_len (pa_cons (pv 1) pa_nil)) pa_nil)) (pg_name (i := 3) sc_chance_to_win.nd rfl (by first | exact Or.inl rfl | exact Or.inr rfl)) (pss_cons (ps_set (i := 6) sc_chance_to_win.nd rfl (by first | exact Or.inl rfl | exact Or.inr rfl) (pe_call G_chances_of_two (hr.mono (by decide)) rfl A_chances_of_two.m A_chances_of_two.F.kp A_chances_of_two.b .nil pass0 (pa_cons (pv 5) (pa_cons (pe_ix ix_list (pv 2) (pv 3) (fun _ _ => rfl)) (pa_cons (pe_ix ix_list (pv 1) (pv 3) (fun _ _ => rfl)) (pa_cons (pv 4) pa_nil))))))
          (pss_cons (ps_expr (pe_bm PySem.F.plainAttrs_list PySem.F.slot_list_append PySem.F.type_list_append mt_append (pv 4) (pa_cons (pe_ix ix_list (pv 6) pe_int (fun _ _ => rfl)) pa_nil)))
          (pss_one (ps_expr (pe_bm PySem.F.plainAttrs_list PySem.F.slot_list_append PySem.F.type_list_append mt_append (pe_ix ix_list (pv 2) (pv 3) (fun _ _ => rfl)) (pa_cons (pe_ix ix_list (pv 6) pe_int (fun _ _ => rfl)) pa_nil))))))))))
      (pss_one (ps_ret (pe_ix ix_list (pv 4) (pe_callB call_len_seq (by rfl) T.n_len PySem.boot_len (pa_cons (pv 1) pa_nil)) (fun _ _ => rfl))))))), ?_⟩
    -- waiting
    refine ⟨_, rfl, pq, _, rfl, .inl (SqL.of eq), _, rfl, by omega, by omega, fun pw hpw => ?_⟩
    refine lc_range (fun i H' => Same H H' ∧ ∃ ws : List Addr, ws.length = i ∧ (∀ x ∈ ws, H x = none) ∧ WtAt H' pw ws (fun _ => 1) (fun c j => V2 (Dm.fB d h g j (c + 1)))) ⟨Same.put (fun b o e => e) hpw, [], rfl, (fun x hx => (nomatch hx)), upd_same, (fun i j x hx => by simp at hx), (fun x hx => (nomatch hx)), (fun b x hx => by simp at hx)⟩ ?_ ?_
    · rintro i H' hi ⟨sm, ws, hwl, hwn, hW⟩
      refine ⟨rfl, two, fun c1 hc1 => ⟨one, fun c2 hc2 => ?_⟩⟩
      have u1 : Same H' (upd H' c1 (.lst [.int 1, .int 1])) := Same.put (fun b o e => e) hc1
      have e1 : upd H' c1 (.lst [.int 1, .int 1]) c1 = some (.lst (V2 Uw96.one)) := upd_same
      generalize upd H' c1 (.lst [.int 1, .int 1]) = H1 at *
      have u2 : Same H1 (upd H1 c2 (.lst [.ref c1])) := Same.put (fun b o e => e) hc2
      have t2 := u1.trans u2
      have n2 : H c2 = none := (sm.trans u1).free hc2
      have n2' : ∀ x ∈ ws, x ≠ c2 := fun x hx q => by
        obtain ⟨j, hj⟩ := List.mem_iff_getElem?.mp hx
        obtain ⟨rs, er, _⟩ := hW.row j x hj
        have := u1 _ _ er
        rw [q, hc2] at this
        cases this
      have n2w : c2 ≠ pw := fun q => by
        have := u1 _ _ hW.e
        rw [← q, hc2] at this
        cases this
      have hr2 : LsAt (upd H1 c2 (.lst [.ref c1])) c2 1 (fun j => V2 (Dm.fB d h g j (i + 1))) := by
        refine ⟨[c1], upd_same, rfl, fun j hj => ?_⟩
        have : j = 0 := by omega
        subst this
        exact ⟨c1, rfl, u2 _ _ e1⟩
      have hW2 := hW.same t2
      generalize upd H1 c2 (.lst [.ref c1]) = H2 at *
      refine ⟨_, hW2.e, by rw [List.length_map]; omega, (sm.trans t2).put hpw, ws ++ [c2], by rw [List.length_append, hwl]; rfl, ?_, ?_, ?_, ?_, ?_⟩
      · intro x hx
        rcases List.mem_append.mp hx with q | q
        · exact hwn x q
        · rw [List.mem_singleton.mp q]
          exact n2
      · rw [upd_same, List.map_append]
        rfl
      · have hlast : ∀ i' : Nat, ∀ x : Addr, (ws ++ [c2])[i']? = some x → (ws[i']? = some x ∧ i' < i) ∨ (x = c2 ∧ i' = i) := by
          intro i' x hx
          by_cases c : i' < ws.length
          · rw [List.getElem?_append_left c] at hx
            exact .inl ⟨hx, by omega⟩
          · have hl := (List.getElem?_eq_some_iff.mp hx).1
            rw [List.length_append] at hl
            have hl : i' < ws.length + 1 := hl
            have : i' = ws.length := by omega
            subst this
            rw [List.getElem?_append_right (Nat.le_refl _), Nat.sub_self] at hx
            exact .inr ⟨(Option.some.inj hx).symm, hwl⟩
        intro i' j' x hx hy
        rcases hlast i' x hx with ⟨q1, q2⟩ | ⟨q1, q2⟩
        · rcases hlast j' x hy with ⟨q3, q4⟩ | ⟨q3, q4⟩
          · exact hW.inj i' j' x q1 q3
          · exact absurd q3 (n2' x (List.mem_of_getElem? q1))
        · rcases hlast j' x hy with ⟨q3, q4⟩ | ⟨q3, q4⟩
          · exact absurd q1 (n2' x (List.mem_of_getElem? q3))
          · omega
      · intro x hx
        rcases List.mem_append.mp hx with q | q
        · exact hW.ne x q
        · rw [List.mem_singleton.mp q]
          exact n2w
      · intro c x hx
        by_cases cc : c < ws.length
        · rw [List.getElem?_append_left cc] at hx
          exact (hW2.row c x hx).put (fun j _ => V2_ints _) hW2.e (hW.ne x (List.mem_of_getElem? hx))
        · have hl := (List.getElem?_eq_some_iff.mp hx).1
          rw [List.length_append] at hl
          have hl : c < ws.length + 1 := hl
          have : c = ws.length := by omega
          subst this
          rw [List.getElem?_append_right (Nat.le_refl _), Nat.sub_self] at hx
          have : c2 = x := Option.some.inj hx
          subst this
          rw [hwl]
          exact hr2.put (fun j _ => V2_ints _) hW2.e n2w
    · rintro H1 ⟨s1, ws, hwl, hwn, hW⟩
      rw [Int.toNat_natCast, eql] at hwl
      refine ⟨(by show 0 ≤ sizeLine; decide), fun p0 hp0 => ?_⟩
      have u0 : Same H1 (upd H1 p0 (.lst [])) := Same.put (fun b o e => e) hp0
      have s2 := s1.trans u0
      have hW2 := hW.same u0
      generalize upd H1 p0 (.lst []) = H2 at *
      refine ⟨_, rfl, po, rfl, ⟨_, SqL.of (s2 _ _ hO.1)⟩, for_list (K := K) (a := po) (xs := pso.map V.ref) (fun i σ H' => ∃ (z3 z5 z6 : Option V) (pt : Addr), σ = [some (.ref po), some (.ref pq), some (.ref pw), z3, some (.ref pt), z5, z6] ∧ Same H H' ∧
        WtAt H' pw ws (fun _ => i + 1) (fun c j => V2 (Dm.fB d h g j (c + 1))) ∧ (0 < i → LsAt H' pt (b + 1) (fun j => V2 (Dm.fA d h g i j)))) ⟨none, none, none, p0, rfl, s2, hW2, fun q => by omega⟩ (fun i σ H' _ ⟨_, _, _, _, _, s3, _⟩ => SqL.of (s3 _ _ hO.1)) ?_ ?_⟩
      · rintro i x σ H' hx ⟨z3, z5, z6, pt0, rfl, sm, hW, _⟩
        obtain ⟨wa, hi, rfl, hwa⟩ := hO.item hx
        refine ⟨two, fun c1 hc1 => ⟨one, fun pt hpt => ?_⟩⟩
        have u1 : Same H' (upd H' c1 (.lst [.int 0, .int 1])) := Same.put (fun b o e => e) hc1
        have e1 : upd H' c1 (.lst [.int 0, .int 1]) c1 = some (.lst (V2 Uw96.zero)) := upd_same
        generalize upd H' c1 (.lst [.int 0, .int 1]) = H3 at *
        have u2 : Same H3 (upd H3 pt (.lst [.ref c1])) := Same.put (fun b o e => e) hpt
        have t2 := u1.trans u2
        have np : H pt = none := (sm.trans u1).free hpt
        have npw : pt ≠ pw := fun q => by
          have := u1 _ _ hW.e
          rw [← q, hpt] at this
          cases this
        have npx : ∀ x ∈ ws, x ≠ pt := fun x hx q => by
          obtain ⟨j, hj⟩ := List.mem_iff_getElem?.mp hx
          obtain ⟨rs, er, _⟩ := hW.row j x hj
          have := u1 _ _ er
          rw [q, hpt] at this
          cases this
        have hT : LsAt (upd H3 pt (.lst [.ref c1])) pt 1 (fun j => V2 (Dm.fA d h g (i + 1) j)) := by
          refine ⟨[c1], upd_same, rfl, fun j hj => ?_⟩
          have : j = 0 := by omega
          subst this
          exact ⟨c1, rfl, u2 _ _ e1⟩
        have hW3 := hW.same t2
        have s3 := sm.trans t2
        generalize upd H3 pt (.lst [.ref c1]) = H4 at *
        refine ⟨_, rfl, pq, _, rfl, .inl (SqL.of (s3 _ _ eq)), _, rfl, by omega, by omega, ?_⟩
        refine for_range (fun j σ H' => ∃ (z3 z6 : Option V), σ = [some (.ref po), some (.ref pq), some (.ref pw), z3, some (.ref pt), some (.ref wa), z6] ∧ Same H H' ∧
          WtAt H' pw ws (fun c => if c < j then i + 2 else i + 1) (fun c j => V2 (Dm.fB d h g j (c + 1))) ∧ LsAt H' pt (j + 1) (fun j => V2 (Dm.fA d h g (i + 1) j))) ⟨z3, z6, rfl, s3, hW3.congr fun c _ => by rw [if_neg (by omega)], hT⟩ ?_ ?_
        · rintro j σ H5 hj ⟨z3, z6, rfl, s5, hW5, hT5⟩
          rw [eql, Int.toNat_natCast] at hj
          obtain ⟨x, hx⟩ : ∃ x, ws[j]? = some x := ⟨_, List.getElem?_eq_getElem (show j < ws.length by omega)⟩
          have hxw : (ws.map V.ref)[j]? = some (.ref x) := by rw [List.getElem?_map, hx]; rfl
          have hrow := hW5.row j x hx
          rw [if_neg (show ¬ j < j by omega)] at hrow
          obtain ⟨oa, eoa, hoa⟩ := hq j (by omega)
          refine ⟨_, rfl, _, rfl, _, rfl, pw, _, _, _, rfl, rfl, SqL.of hW5.e, at_of (j := j) (by omega) hxw, _, rfl, _, rfl, pq, _, _, _, rfl, rfl, SqL.of (s5 _ _ eq), at_of (j := j) (by omega) eoa, _, rfl,
            d, h, g, i + 1, j + 1, wa, x, oa, pt, rfl, ⟨o.s2, o.s10, o.t10, o.h0, o.g0, by omega, by omega, by omega, by omega⟩, s5 _ _ hwa, hrow, s5 _ _ hoa, hT5, fun H6 p6 u v s6 n6 hp6 hu hv => ?_⟩
          have hT6 := hT5.same s6
          have hW6 := hW5.same s6
          have s56 := s5.trans s6
          have np6 : p6 ≠ pt := fun q => by
            obtain ⟨rs, er, _⟩ := hT5
            rw [← q, n6] at er
            cases er
          obtain ⟨rs, er, _⟩ := id hT6
          obtain ⟨xs, ex, exl, hT7⟩ := hT6.push (fun j _ => V2_ints _) hu
          -- at_turn.append(both[0])
          refine ⟨_, rfl, .inl ⟨rfl, _, SqL.of ex⟩, _, rfl, p6, _, _, _, rfl, rfl, SqL.of hp6, at_of (j := 0) rfl rfl, pt, _, _, rfl, rfl, ex, by omega, ?_⟩
          have hW7 := hW6.put (o := .lst (xs ++ [.ref u])) hI er npw.symm npx
          have hp7 : upd H6 pt (.lst (xs ++ [.ref u])) p6 = some (.lst [.ref u, .ref v]) := by rw [upd_ne np6]; exact hp6
          have hv7 : upd H6 pt (.lst (xs ++ [.ref u])) v = some (.lst (V2 (Dm.fB d h g (i + 1) (j + 1)))) := by rw [upd_ne (ref_ne er hv (V2_ints _))]; exact hv
          have s7 : Same H (upd H6 pt (.lst (xs ++ [.ref u]))) := s56.put np
          generalize upd H6 pt (.lst (xs ++ [.ref u])) = H7 at *
          -- waiting[place].append(both[1])
          have hv7' : H7 v = some (.lst ((fun (c j : Nat) => V2 (Dm.fB d h g j (c + 1))) j ((fun c => if c < j then i + 2 else i + 1) j))) := by
            show H7 v = some (.lst (V2 (Dm.fB d h g (if j < j then i + 2 else i + 1) (j + 1))))
            rw [if_neg (show ¬ j < j by omega)]
            exact hv7
          obtain ⟨zs, ez, ezl, hW8⟩ := hW7.push hI hx hv7'
          have ezl : zs.length = if j < j then i + 2 else i + 1 := ezl
          rw [if_neg (show ¬ j < j by omega)] at ezl
          refine ⟨_, rfl, _, rfl, pw, _, _, _, rfl, rfl, SqL.of hW7.e, at_of (j := j) (by omega) hxw, .inl ⟨rfl, _, SqL.of ez⟩, _, rfl, p6, _, _, _, rfl, rfl, SqL.of hp7, at_of (j := 1) rfl rfl, x, _, _, rfl, rfl, ez, by omega, ?_⟩
          obtain ⟨rz, erz, _⟩ := hW7.row j x hx
          refine ⟨_, _, rfl, s7.put (hwn x (List.mem_of_getElem? hx)), hW8.congr fun c _ => ?_, hT7.put (fun j _ => V2_ints _) erz (npx x (List.mem_of_getElem? hx)).symm⟩
          by_cases cj : c = j
          · subst cj
            rw [if_pos rfl, if_neg (by omega), if_pos (by omega)]
          · rw [if_neg cj]
            by_cases cl : c < j
            · rw [if_pos cl, if_pos (by omega)]
            · rw [if_neg cl, if_neg (by omega)]
        · rintro σ H5 ⟨z3, z6, rfl, s5, hW5, hT5⟩
          rw [eql, Int.toNat_natCast] at hW5 hT5
          exact ⟨z3, _, z6, pt, rfl, s5, hW5.congr fun c hc => by rw [if_pos (by omega)], fun _ => hT5⟩
      · rintro σ H' ⟨z3, z5, z6, pt, rfl, sm, hW, hT⟩
        rw [List.length_map, hO.2.1] at hT
        obtain ⟨xs, ex, exl, hx⟩ := (hT o.a0).get
        obtain ⟨c, ec, hc⟩ := hx b (by omega)
        exact ⟨_, rfl, _, rfl, pq, _, rfl, .inl (SqL.of (sm _ _ eq)), pt, _, _, _, rfl, rfl, SqL.of ex, at_of (j := b) (by omega) ec, k H' c sm hc⟩
end
end Dp
set_option Elab.async false
set_option linter.all false
set_option maxRecDepth 100000
set_option maxHeartbeats 2000000
set_option exponentiation.threshold 100000
namespace Dp
open PySem PySem.Spec PyProof.Rows L2
open Uw96 (Frac Die)
open Dm (consF)
def spDuel : Sp := fun vs H Q _ => ∃ (d : Die) (h m g n : Nat), vs = [.int d.s, .int h, .int m, .int g, .int n] ∧ DieOk d ∧ Held d.s h ∧ Held d.s g ∧ 1 ≤ m ∧ m ≤ d.t ∧ 1 ≤ n ∧ n ≤ d.t ∧ GotL (V2 (Uw96.duel d h (d.t - m) g (d.t - n))) H Q
def spAnswer : Sp := fun vs H Q _ => ∃ (d : Die) (m g n : Nat), vs = [.int d.s, .int d.t, .int m, .int g, .int n] ∧ DieOk d ∧ Held d.s g ∧ 1 ≤ m ∧ m ≤ d.t ∧ 1 ≤ n ∧ n ≤ d.t ∧ NewL ((Uw96.toldBest (Uw96.answer d (d.t - m) g (d.t - n))).map V.int) H Q
def spBrought : Sp := fun vs H Q _ => ∃ (p : Addr) (fs : List Nat), vs = [.ref p] ∧ H p = some (.lst ((Uw96.ints fs).map V.int)) ∧ NewL ((Uw96.ints [(Uw96.went fs 0 0).1, (Uw96.went fs 0 0).2]).map V.int) H Q
theorem duel_bits {d : Die} {h g x y : Nat} (hd : DieOk d) (hh : 0 < h) (hg : 0 < g) (hx : x < d.t) (hy : y < d.t) : Bits 4000 (Uw96.duel d h x g y) := by
  have := Dm.duel_le hd.s2 hd.s10 hd.t10 hh hg hx hy
  exact ⟨Nat.lt_of_le_of_lt this.2 (by decide +kernel), Nat.lt_of_le_of_lt this.1 (by decide +kernel)⟩
theorem first_one : ∀ fs : List Nat, 1 ∈ fs → ∃ j : Nat, fs[j]? = some 1 ∧ ∀ m : Nat, m < j → fs[m]? ≠ some 1
  | [], h => nomatch h
  | x :: fs, h => by
    by_cases c : x = 1
    · subst c
      exact ⟨0, rfl, fun m hm => by omega⟩
    · have h : 1 ∈ fs := by
        rcases List.mem_cons.mp h with q | q
        · exact absurd q.symm c
        · exact q
      obtain ⟨j, h1, h2⟩ := first_one fs h
      refine ⟨j + 1, h1, fun m hm => ?_⟩
      cases m with
      | zero =>
        intro q
        exact c (Option.some.inj q)
      | succ m => exact h2 m (by omega)
theorem went_one : ∀ (fs : List Nat) (b n j : Nat), fs[j]? = some 1 → (∀ m : Nat, m < j → fs[m]? ≠ some 1) → Uw96.went fs b n = (0, n + j + 1)
  | [], b, n, j, h, _ => by simp at h
  | x :: fs, b, n, j, h, hn => by
    unfold Uw96.went
    cases j with
    | zero =>
      have : x = 1 := Option.some.inj h
      rw [if_pos this]
    | succ j =>
      have : x ≠ 1 := fun q => hn 0 (by omega) (by rw [q]; rfl)
      rw [if_neg this, went_one fs (b + x) (n + 1) j h (fun m hm => hn (m + 1) (by omega))]
      exact congrArg (Prod.mk 0) (by omega)
theorem went_none : ∀ (fs : List Nat) (b n : Nat), ¬ 1 ∈ fs → Uw96.went fs b n = (b + fs.sum, n + fs.length)
  | [], b, n, _ => rfl
  | x :: fs, b, n, h => by
    unfold Uw96.went
    have h1 : x ≠ 1 := fun q => h (by rw [q]; exact List.mem_cons_self)
    have h2 : ¬ 1 ∈ fs := fun q => h (List.mem_cons_of_mem _ q)
    rw [if_neg h1, went_none fs (b + x) (n + 1) h2, List.sum_cons, List.length_cons]
    exact congr (congrArg Prod.mk (by omega)) (by omega)
theorem ints_get (fs : List Nat) (j : Nat) : ((Uw96.ints fs).map V.int)[j]? = (fs[j]?).map (fun (n : Nat) => V.int (n : Int)) := by
  unfold Uw96.ints
  rw [List.map_map, List.getElem?_map]
  rfl
theorem ints_flat (fs : List Nat) : ((Uw96.ints fs).map V.int).all flatV = true := by
  rw [List.all_eq_true]
  intro x hx
  obtain ⟨i, _, rfl⟩ := List.mem_map.mp hx
  rfl
theorem ints_in (fs : List Nat) : inV (.int 1) ((Uw96.ints fs).map V.int) = decide (1 ∈ fs) := by
  unfold inV Uw96.ints
  rw [List.map_map, List.any_map, ← List.contains_eq_mem, List.contains_eq_any_beq]
  congr 1
  funext n
  show ((n : Int) == 1) = (1 == n)
  by_cases c : n = 1
  · subst c; rfl
  · rw [beq_eq_false_iff_ne.mpr (by omega), beq_eq_false_iff_ne.mpr (by omega)]
theorem ints_sum : ∀ fs : List Nat, (Uw96.ints fs).sum = ((fs.sum : Nat) : Int)
  | [] => rfl
  | x :: fs => by
    show ((x : Int) :: Uw96.ints fs).sum = _
    rw [List.sum_cons, List.sum_cons, ints_sum fs]
    rfl
section
variable {P : Program} {w : World} {K : PySem.W.Frag} {mg : Str → Option Value} {base : Heap}
abbrev s_duel_chance : Stmt := top 18
theorem sc_duel_chance : FnScope ["faces", "hold", "missing", "other_hold", "other_missing", "own"] ["faces", "hold", "missing", "other_hold", "other_missing"] (defScope s_duel_chance) := ⟨rfl, rfl, rfl, by decide +kernel, rfl, by decide +kernel, by decide +kernel⟩
theorem ok_duel_chance {f f1 f2 : Addr} {fd fd1 fd2 : FuncData} (F : Fun K "duel_chance" "duel_chance" s_duel_chance f fd) (T : Bi mg)
    (A_weights_in_race : Has K mg "weights_in_race" s_weights_in_race ["faces", "hold", "missing"] f1 fd1) (G_weights_in_race : FnOk P w K mg base CX0 4 f1 fd1 ["faces", "hold", "missing"] spInRace)
    (A_chance_to_win : Has K mg "chance_to_win" s_chance_to_win ["own", "other"] f2 fd2) (G_chance_to_win : FnOk P w K mg base CX0 4 f2 fd2 ["own", "other"] spWin) : FnOk P w K mg base CX0 5 f fd ["faces", "hold", "missing", "other_hold", "other_missing"] spDuel := by
  refine F.ok sc_duel_chance (fun vs H Q E h => ?_) (fun cdv A outer s H vs Q E hr h => ?_)
  · obtain ⟨_, _, _, _, _, rfl, _⟩ := h
    rfl
  · obtain ⟨d, h, m, g, n, rfl, hd, hh, hg, hm1, hmt, hn1, hnt, k⟩ := h
    have ht := hd.t10
    refine ⟨_, (pss_cons (ps_set (i := 5) sc_duel_chance.nd rfl (by first | exact Or.inl rfl | exact Or.inr rfl) (pe_call G_weights_in_race (hr.mono (by decide)) rfl A_weights_in_race.m A_weights_in_race.F.kp A_weights_in_race.b .nil pass0 (pa_cons (pv 0) (pa_cons (pv 1) (pa_cons (pv 2) pa_nil)))))
      (pss_one (ps_ret (pe_call G_chance_to_win (hr.mono (by decide)) rfl A_chance_to_win.m A_chance_to_win.F.kp A_chance_to_win.b .nil pass0 (pa_cons (pv 5) (pa_cons (pe_call G_weights_in_race (hr.mono (by decide)) rfl A_weights_in_race.m A_weights_in_race.F.kp A_weights_in_race.b .nil pass0 (pa_cons (pv 0) (pa_cons (pv 3) (pa_cons (pv 4) pa_nil)))) pa_nil)))))), ?_⟩
    refine ⟨_, rfl, _, rfl, _, rfl, d.s, h, m, rfl, hh, hm1, by omega, fun H1 po s1 n1 hO => ?_⟩
    refine ⟨_, rfl, _, rfl, _, rfl, _, rfl, d.s, g, n, rfl, hg, hn1, by omega, fun H2 pq s2 n2 hQ => ?_⟩
    refine ⟨d, h, g, m, n, po, pq, rfl, ⟨hd.s2, hd.s10, hd.t10, hh.h1, hg.h1, hm1, hmt, hn1, hnt⟩, hO.same s2, hQ, fun H3 p s3 hp => ?_⟩
    rw [Dm.fA_duel hn1] at hp
    exact k H3 p ((s1.trans s2).trans s3) hp
abbrev s_answer_hold : Stmt := top 19
theorem sc_answer_hold : FnScope ["faces", "most", "missing", "other_hold", "other_missing", "chances", "hold", "found"] ["faces", "most", "missing", "other_hold", "other_missing"] (defScope s_answer_hold) := ⟨rfl, rfl, rfl, by decide +kernel, rfl, by decide +kernel, by decide +kernel⟩
theorem ok_answer_hold {f f1 f2 : Addr} {fd fd1 fd2 : FuncData} (F : Fun K "answer_hold" "answer_hold" s_answer_hold f fd) (T : Bi mg)
    (A_duel_chance : Has K mg "duel_chance" s_duel_chance ["faces", "hold", "missing", "other_hold", "other_missing"] f1 fd1) (G_duel_chance : FnOk P w K mg base CX0 5 f1 fd1 ["faces", "hold", "missing", "other_hold", "other_missing"] spDuel)
    (A_first_highest : Has K mg "first_highest" s_first_highest ["fractions"] f2 fd2) (G_first_highest : FnOk P w K mg base CX0 2 f2 fd2 ["fractions"] spFirst) : FnOk P w K mg base CX0 6 f fd ["faces", "most", "missing", "other_hold", "other_missing"] spAnswer := by
  refine F.ok sc_answer_hold (fun vs H Q E h => ?_) (fun cdv A outer s H vs Q E hr h => ?_)
  · obtain ⟨_, _, _, _, rfl, _⟩ := h
    rfl
  · obtain ⟨d, m, g, n, rfl, hd, hg, hm1, hmt, hn1, hnt, k⟩ := h
    have hs2 := hd.s2
    have hs10 := hd.s10
    have ht1 := hd.t1
    have ht10 := hd.t10
    have hg1 := hg.h1
    have big : (200 : Nat) ≤ sizeLine := by decide
    refine ⟨_, (pss_cons (ps_setLc (i := 5) (by rfl) sc_answer_hold.nd rfl rfl (sw_true rfl rfl rfl (by decide +kernel)) (pi_range2 rfl T.n_range (pa_cons pe_int (pa_cons (pe_op op_add (pv 1) pe_int) pa_nil))) (blkOk_by (own := [("hold", 6)]) (by show blkC ["faces", "most", "missing", "other_hold", "other_missing", "chances", "hold", "found"] (defScope s_answer_hold) _ _ = true; decide +kernel)) (fun _ _ _ _ _ => pg_name (i := 6) sc_answer_hold.nd rfl (by first | exact Or.inl rfl | exact Or.inr rfl)) (fun _ _ _ _ _ => pts_nil) (fun _ _ _ _ _ => (pe_call G_duel_chance (hr.mono (by decide)) rfl A_duel_chance.m A_duel_chance.F.kp A_duel_chance.b .nil pass0 (pa_cons (pv 0) (pa_cons (pv 6) (pa_cons (pv 2) (pa_cons (pv 3) (pa_cons (pv 4) pa_nil))))))))
      (pss_cons (ps_set (i := 7) sc_answer_hold.nd rfl (by first | exact Or.inl rfl | exact Or.inr rfl) (pe_call G_first_highest (hr.mono (by decide)) rfl A_first_highest.m A_first_highest.F.kp A_first_highest.b .nil pass0 (pa_cons (pv 5) pa_nil)))
      (pss_one (ps_ret (pe_op op_cat (pe_lst (pa_cons (pe_op op_add (pv 7) pe_int) pa_nil)) (pe_ix ix_list (pv 5) (pv 7) (fun _ _ => rfl))))))), ?_⟩
    refine ⟨_, rfl, _, _, rfl, rfl, _, _, rfl, ⟨by decide, by decide, by omega, by omega⟩, fun D hD => ?_⟩
    refine lc_range (fun i H' => Same H H' ∧ LsAt H' D i (fun j => V2 (Uw96.duel d (j + 1) (d.t - m) g (d.t - n)))) ⟨Same.put (fun b o e => e) hD, LsAt.new upd_same⟩ ?_ ?_
    · rintro i H' hi ⟨sm2, hD2⟩
      have hi : i < d.t := by omega
      refine ⟨rfl, _, rfl, _, rfl, _, rfl, _, rfl, _, rfl, d, i + 1, m, g, n, ?_, hd, ⟨hs2, hs10, by omega, by omega⟩, hg, hm1, hmt, hn1, hnt, fun H3 a s3 ha => ?_⟩
      · exact congrArg (fun z => [V.int (d.s : Int), V.int z, V.int (m : Int), V.int (g : Int), V.int (n : Int)]) (by omega)
      obtain ⟨xs, e1, e2, e3⟩ := (hD2.same s3).push (fun j _ => V2_ints _) ha
      exact ⟨_, e1, by omega, (sm2.trans s3).put hD, e3⟩
    · rintro H' ⟨sm2, hD2⟩
      have e : ((d.t : Int) + 1 - 1).toNat = (d.t - 1) + 1 := by omega
      rw [e] at hD2
      refine ⟨_, rfl, D, d.t - 1, fun i => ((Uw96.duel d (i + 1) (d.t - m) g (d.t - n)).u : Int), fun i => ((Uw96.duel d (i + 1) (d.t - m) g (d.t - n)).l : Int), rfl, hD2, by omega, fun i hi => ?_, ?_⟩
      · have := (duel_bits (d := d) (h := i + 1) (g := g) (x := d.t - m) (y := d.t - n) hd (by omega) hg1 (by omega) (by omega)).mono (show 4000 ≤ 1000000 by decide)
        exact ⟨by rw [Int.natAbs_natCast]; exact this.u, by rw [Int.natAbs_natCast]; exact this.l⟩
      have hb : Uw96.answer d (d.t - m) g (d.t - n) = Dm.bestN (fun a b => Uw96.less b a) (fun h => Uw96.duel d h (d.t - m) g (d.t - n)) (d.t - 1) := by
        have := Dm.bestOf_upTo (fun a b => Uw96.less b a) (fun h => Uw96.duel d h (d.t - m) g (d.t - n)) (d.t - 1)
        rw [show d.t - 1 + 1 = d.t by omega] at this
        exact this
      rw [Dm.best_fh (g := fun i => ((Uw96.duel d (i + 1) (d.t - m) g (d.t - n)).u : Int)) (l := fun i => ((Uw96.duel d (i + 1) (d.t - m) g (d.t - n)).l : Int)) (fun i j => Dm.more_less (fun h => Uw96.duel d h (d.t - m) g (d.t - n)) i j)] at hb
      have hf := Dm.fh_le (fun i => ((Uw96.duel d (i + 1) (d.t - m) g (d.t - n)).u : Int)) (fun i => ((Uw96.duel d (i + 1) (d.t - m) g (d.t - n)).l : Int)) (d.t - 1)
      generalize Dm.fh (fun i => ((Uw96.duel d (i + 1) (d.t - m) g (d.t - n)).u : Int)) (fun i => ((Uw96.duel d (i + 1) (d.t - m) g (d.t - n)).l : Int)) (d.t - 1) = z at *
      refine ⟨_, rfl, _, _, rfl, rfl, (by show 1 ≤ sizeLine; decide), fun a1 ha1 => ?_⟩
      have s4 : Same H' (upd H' a1 (.lst [V.int ((z : Int) + 1)])) := Same.put (fun b o e => e) ha1
      obtain ⟨xs, hp, hlen, hx⟩ := (hD2.same s4).get
      obtain ⟨c, ec, hc⟩ := hx z (by omega)
      refine ⟨_, rfl, _, rfl, D, _, _, _, rfl, rfl, SqL.of hp, at_of (j := z) rfl ec, a1, c, _, _, rfl, rfl, upd_same, hc, (by show 1 + 2 ≤ sizeLine; decide), fun a3 ha3 => ?_⟩
      rw [hb] at k
      exact NewL.of k (sm2.trans s4) a3 ha3
abbrev s_brought_by : Stmt := top 20
theorem sc_brought_by : FnScope ["thrown"] ["thrown"] (defScope s_brought_by) := ⟨rfl, rfl, rfl, by decide +kernel, rfl, by decide +kernel, by decide +kernel⟩
theorem ok_brought_by {f : Addr} {fd : FuncData} (F : Fun K "brought_by" "brought_by" s_brought_by f fd) (T : Bi mg) : FnOk P w K mg base CX0 1 f fd ["thrown"] spBrought := by
  refine F.ok sc_brought_by (fun vs H Q E h => ?_) (fun cdv A outer s H vs Q E hr h => ?_)
  · obtain ⟨_, _, rfl, _⟩ := h
    rfl
  · obtain ⟨p, fs, rfl, hp, k⟩ := h
    have two : (2 : Nat) ≤ sizeLine := by decide
    refine ⟨_, (pss_cons (ps_if (pt_cmpR op_in_seq pe_int (pv 0) (by with_unfolding_all rfl)) (pss_one (ps_ret (pe_lst (pa_cons pe_int (pa_cons (pe_op op_add (pe_bm PySem.F.plainAttrs_list PySem.F.slot_list_index PySem.F.type_list_index mt_index (pv 0) (pa_cons pe_int pa_nil)) pe_int) pa_nil))))) pss_nil)
      (pss_one (ps_ret (pe_lst (pa_cons (pe_callB (cr_sum rfl) (by rfl) T.n_sum boot_sum (pa_cons (pv 0) pa_nil)) (pa_cons (pe_callB call_len_seq (by rfl) T.n_len PySem.boot_len (pa_cons (pv 0) pa_nil)) pa_nil)))))), ?_⟩
    refine ⟨_, rfl, p, _, rfl, .inl (SqL.of hp), rfl, ints_flat fs, _, rfl, ite2 (fun c => ?_) (fun c => ?_)⟩
    · have c : 1 ∈ fs := by
        have c : inV (.int 1) ((Uw96.ints fs).map V.int) = true := c
        rw [ints_in] at c
        exact of_decide_eq_true c
      obtain ⟨j, h1, h2⟩ := first_one fs c
      refine ⟨_, rfl, .inl ⟨rfl, _, SqL.of hp⟩, p, _, _, j, .int 1, rfl, rfl, SqL.of hp, rfl, ints_flat fs, ?_, rfl, ?_, _, _, rfl, rfl, two, fun r hr => ?_⟩
      · rw [ints_get, h1]
        rfl
      · intro m z hm hz
        rw [ints_get] at hz
        cases q : fs[m]? with
        | none => rw [q] at hz; cases hz
        | some y =>
          rw [q] at hz
          have hy : y ≠ 1 := fun e => h2 m hm (by rw [q, e])
          rw [← Option.some.inj hz]
          show ((y : Int) == 1) = false
          exact beq_eq_false_iff_ne.mpr (by omega)
      · rw [went_one fs 0 0 j h1 h2] at k
        have e : ((j : Int) + 1) = ((0 + j + 1 : Nat) : Int) := by omega
        have k' := k.of (fun b o e => e) r hr
        rw [show (Uw96.ints [0, 0 + j + 1]).map V.int = [V.int 0, V.int ((0 + j + 1 : Nat) : Int)] from rfl, ← e] at k'
        exact k'
    · have c : ¬ 1 ∈ fs := fun q => c (by
        show inV (.int 1) ((Uw96.ints fs).map V.int) = true
        rw [ints_in]
        exact decide_eq_true q)
      refine ⟨_, rfl, p, _, rfl, SqL.of hp, _, rfl, p, _, rfl, .inl (SqL.of hp), two, fun r hr => ?_⟩
      rw [went_none fs 0 0 c] at k
      have k' := k.of (fun b o e => e) r hr
      rw [ints_sum]
      have e2 : ((Uw96.ints fs).map V.int).length = fs.length := by unfold Uw96.ints; rw [List.length_map, List.length_map]
      rw [e2]
      rw [show (Uw96.ints [0 + fs.sum, 0 + fs.length]).map V.int = [V.int ((0 + fs.sum : Nat) : Int), V.int ((0 + fs.length : Nat) : Int)] from rfl, Nat.zero_add, Nat.zero_add] at k'
      exact k'
end
end Dp
set_option Elab.async false
set_option linter.all false
set_option maxRecDepth 100000
set_option maxHeartbeats 2000000
namespace Dp
open PySem PySem.Spec PyProof.Rows L2
open Uw96 (Frac Die Call)
/-! ### the object -/
def rf (d : Die) : List (Str × V) := [("faces", .int (d.s : Int)), ("goal", .int (d.t : Int))]
theorem rf_faces (d : Die) : (rf d).lookup ("faces" : Str) = some (.int (d.s : Int)) := by
  unfold rf
  rw [List.lookup_cons, show (("faces" : Str) == "faces") = true by decide +kernel]
theorem rf_goal (d : Die) : (rf d).lookup ("goal" : Str) = some (.int (d.t : Int)) := by
  unfold rf
  rw [List.lookup_cons, show (("goal" : Str) == "faces") = false by decide +kernel]
  show List.lookup _ _ = _
  rw [List.lookup_cons, show (("goal" : Str) == "goal") = true by decide +kernel]
theorem rf_no (d : Die) {m : Str} (h1 : (m == ("faces" : Str)) = false) (h2 : (m == ("goal" : Str)) = false) : (rf d).lookup m = none := by
  unfold rf
  rw [List.lookup_cons, h1]
  show List.lookup _ _ = _
  rw [List.lookup_cons, h2]
  rfl
theorem rf_new (s t : Nat) : putF "goal" (.int (t : Int)) (putF "faces" (.int (s : Int)) []) = rf ⟨s, t⟩ := by
  show (if ("faces" : Str) = "goal" then _ else _) = _
  rw [if_neg (by decide +kernel)]
  rfl
theorem rf_put_faces (d : Die) (x : Nat) : putF "faces" (.int (x : Int)) (rf d) = rf ⟨x, d.t⟩ := by
  show (if ("faces" : Str) = "faces" then _ else _) = _
  rw [if_pos rfl]
  rfl
theorem rf_put_goal (d : Die) (x : Nat) : putF "goal" (.int (x : Int)) (rf d) = rf ⟨d.s, x⟩ := by
  show (if ("faces" : Str) = "goal" then _ else _ :: (if ("goal" : Str) = "goal" then _ else _)) = _
  rw [if_neg (by decide +kernel), if_pos rfl]
  rfl
def RaceAt (C : Addr) (H : Hp) (a : Addr) (d : Die) : Prop := ∃ dx, H a = some (.ins C dx (rf d))
theorem RaceAt.same {C : Addr} {H H' : Hp} {a : Addr} {d : Die} (h : RaceAt C H a d) (s : Same H H') : RaceAt C H' a d := let ⟨dx, e⟩ := h; ⟨dx, s _ _ e⟩
/-- what a call hands back, and the object behind it -/
def Stepped (C a : Addr) (d : Die) (c : Call) (H : Hp) (Q : VK) : Prop := ∀ (H' : Hp) (p : Addr), RaceAt C H' a (Uw96.step d c).1 → (∀ b o, H b = some o → b ≠ a → H' b = some o) → H p = none →
  H' p = some (.lst ((Uw96.step d c).2.map V.int)) → Q (.ref p) H'
theorem Stepped.keep {C a : Addr} {d : Die} {c : Call} {H : Hp} {Q : VK} (h : Stepped C a d c H Q) (r : RaceAt C H a d) (e : (Uw96.step d c).1 = d) {l : List Int} (el : (Uw96.step d c).2 = l) : NewL (l.map V.int) H Q := fun H' p s n q =>
  h H' p (by rw [e]; exact r.same s) (fun b o z _ => s b o z) n (by rw [el]; exact q)
def spInit (C : Addr) : Sp := fun vs H Q _ => ∃ (p dx : Addr), vs = [.ref p] ∧ H p = some (.ins C dx []) ∧ ∀ H' : Hp, RaceAt C H' p Uw96.init → (∀ b o, H b = some o → b ≠ p → H' b = some o) → Q .non H'
def spM0 (C : Addr) (c : Call) : Sp := fun vs H Q _ => ∃ (a : Addr) (d : Die), vs = [.ref a] ∧ RaceAt C H a d ∧ DieOk d ∧ Stepped C a d c H Q
def spM1 (C : Addr) (c : Nat → Call) : Sp := fun vs H Q _ => ∃ (a : Addr) (d : Die) (x : Nat), vs = [.ref a, .int x] ∧ RaceAt C H a d ∧ DieOk d ∧ Stepped C a d (c x) H Q
def spM2 (C : Addr) (c : Nat → Nat → Call) : Sp := fun vs H Q _ => ∃ (a : Addr) (d : Die) (x y : Nat), vs = [.ref a, .int x, .int y] ∧ RaceAt C H a d ∧ DieOk d ∧ Stepped C a d (c x y) H Q
def spM3 (C : Addr) (c : Nat → Nat → Nat → Call) : Sp := fun vs H Q _ => ∃ (a : Addr) (d : Die) (x y z : Nat), vs = [.ref a, .int x, .int y, .int z] ∧ RaceAt C H a d ∧ DieOk d ∧ Stepped C a d (c x y z) H Q
def spM4 (C : Addr) (c : Nat → Nat → Nat → Nat → Call) : Sp := fun vs H Q _ => ∃ (a : Addr) (d : Die) (x y z u : Nat), vs = [.ref a, .int x, .int y, .int z, .int u] ∧ RaceAt C H a d ∧ DieOk d ∧ Stepped C a d (c x y z u) H Q
def spGo (C : Addr) : Sp := fun vs H Q _ => ∃ (a p : Addr) (d : Die) (fs : List Nat), vs = [.ref a, .ref p] ∧ RaceAt C H a d ∧ DieOk d ∧ H p = some (.lst ((Uw96.ints fs).map V.int)) ∧ Stepped C a d (.go fs) H Q
theorem step_hold {d : Die} {f : Unit → List Int} {x : Nat} (h : Uw96.isHold x = true) : (Uw96.onHold d x f) = (d, f ()) := by
  unfold Uw96.onHold
  rw [h]
  rfl
theorem step_nohold {d : Die} {f : Unit → List Int} {x : Nat} (h : ¬ Uw96.isHold x = true) : (Uw96.onHold d x f) = (d, [-1]) := by
  unfold Uw96.onHold
  rw [show Uw96.isHold x = false by simpa using h]
  rfl
theorem isHold_held {d : Die} (hd : DieOk d) {x : Nat} (h : Uw96.isHold x = true) : Held d.s x := by
  unfold Uw96.isHold at h
  simp at h
  exact ⟨hd.s2, hd.s10, h.1, h.2⟩
structure Txt (K : PySem.W.Frag) (mg : Str → Option Value) (C : Addr) : Prop extends Bi mg where
  cl : Cls K C
  nF : NoAttr K C "faces"
  nG : NoAttr K C "goal"
  oor : ∃ t, mg "OUT_OF_RANGE" = some (.int (-1) t)
  atg : ∃ t, mg "AT_GOAL" = some (.int (-3) t)
theorem rd_chainT {σ : L2.St} {H : Hp} {Q : VK} {i : Nat} {lo hi x : Int} {tc : TE} (e : σ[i]? = some (some (.int x))) (hc : ∀ Q' : VK, Q' (.int hi) H → tc σ H Q') (h : Q (.bl (decide (lo ≤ x) && decide (x ≤ hi))) H) :
    tChain (rI0 fun i j => .bl (decide (i ≤ j))) (rI0 fun i j => .bl (decide (i ≤ j))) (tC (.int lo)) (tVar i) tc σ H Q := by
  refine ⟨_, e, _, _, rfl, rfl, _, rfl, ite2 (fun c => ?_) (fun c => ?_)⟩
  · rw [c, Bool.true_and] at h
    exact hc _ ⟨_, _, rfl, rfl, h⟩
  · rw [show decide (lo ≤ x) = false by simpa using c, Bool.false_and] at h
    exact h
section
variable {P : Program} {w : World} {K : PySem.W.Frag} {mg : Str → Option Value} {base : Heap}
abbrev s___init__ : Stmt := inClass (top 27) 0
theorem sc___init__ : FnScope ["self"] ["self"] (defScope s___init__) := ⟨rfl, rfl, rfl, by decide +kernel, rfl, by decide +kernel, by decide +kernel⟩
theorem ok___init__ {f C : Addr} {fd : FuncData} (F : Fun K "__init__" "Race.__init__" s___init__ f fd) (T : Txt K mg C) : FnOk P w K mg base CX0 1 f fd ["self"] (spInit C) := by
  refine F.ok sc___init__ (fun vs H Q E h => ?_) (fun cdv A outer s H vs Q E hr h => ?_)
  · obtain ⟨p, dx, rfl, _⟩ := h
    rfl
  · obtain ⟨p, dx, rfl, hp, k⟩ := h
    refine ⟨_, (pss_cons (ps_fld (pv 0) pe_int rfl)
      (pss_one (ps_fld (pv 0) pe_int rfl))), ?_⟩
    refine ⟨_, rfl, p, C, dx, [], rfl, hp, T.cl, T.nF, (by show 0 < 1000; decide), ?_⟩
    refine ⟨_, rfl, p, C, dx, _, rfl, upd_same, T.cl, T.nG, (by show 1 < 1000; decide), ?_⟩
    exact k _ ⟨dx, Eq.trans upd_same (congrArg (fun q => some (HO.ins C dx q)) (rf_new 6 10))⟩ fun b o e hb => by rw [upd_ne hb, upd_ne hb]; exact e
abbrev s_die : Stmt := inClass (top 27) 1
theorem sc_die : FnScope ["self", "faces", "goal"] ["self", "faces", "goal"] (defScope s_die) := ⟨rfl, rfl, rfl, by decide +kernel, rfl, by decide +kernel, by decide +kernel⟩
theorem ok_die {f C : Addr} {fd : FuncData} (F : Fun K "die" "Race.die" s_die f fd) (T : Txt K mg C) : FnOk P w K mg base CX0 1 f fd ["self", "faces", "goal"] (spM2 C .die) := by
  obtain ⟨tk, g_OUT_OF_RANGE⟩ := T.oor
  refine F.ok sc_die (fun vs H Q E h => ?_) (fun cdv A outer s H vs Q E hr h => ?_)
  · obtain ⟨a, d, x, y, rfl, _⟩ := h
    rfl
  · obtain ⟨a, d, x, y, rfl, hR, hd, k⟩ := h
    refine ⟨_, (pss_cons (ps_if (PW.pt (pw_or (pt_not (pt_chain op_le op_le pe_int (pv 1) pe_int)) (pw_or1 (pt_not (pt_chain op_le op_le pe_int (pv 2) pe_int))))) (pss_one (ps_ret (pe_lst (pa_cons (pe_glob rfl g_OUT_OF_RANGE (show RelV (.int (-1)) _ from ⟨_, rfl⟩)) pa_nil)))) pss_nil)
      (pss_cons (ps_fld (pv 0) (pv 1) rfl)
      (pss_cons (ps_fld (pv 0) (pv 2) rfl)
      (pss_one (ps_ret (pe_lst (pa_cons pe_int pa_nil))))))), ?_⟩
    have bad : (x < 2 ∨ 10 < x ∨ y < 1 ∨ 10 < y) → ∀ p, H p = none → Q (.ref p) (upd H p (.lst [.int (-1)])) := fun c p hp => by
      have e : Uw96.step d (.die x y) = (d, [-1]) := if_pos c
      exact (k.keep hR (congrArg Prod.fst e) (congrArg Prod.snd e)).of (fun b o e => e) p hp
    have one : (1 : Nat) ≤ sizeLine := by decide
    have good : ¬ (x < 2 ∨ 10 < x ∨ y < 1 ∨ 10 < y) → (tSeq (sFld K (tVar 0) (tVar 1) "faces") (tSeq (sFld K (tVar 0) (tVar 2) "goal") (tRet (tLst (tCons (tC (.int 0)) tNil))))) { nx := fun _ H' => Q .non H', rt := Q } [some (.ref a), some (.int x), some (.int y)] H := fun c => by
      have e : Uw96.step d (.die x y) = (⟨x, y⟩, [0]) := if_neg c
      obtain ⟨dx, hR⟩ := hR
      refine ⟨_, rfl, _, rfl, a, C, dx, _, rfl, hR, T.cl, T.nF, (by show 2 < 1000; decide), ?_⟩
      refine ⟨_, rfl, _, rfl, a, C, dx, _, rfl, upd_same, T.cl, T.nG, (by rw [rf_put_faces]; show 2 < 1000; decide), one, fun p hp => ?_⟩
      rw [rf_put_faces, rf_put_goal] at hp ⊢
      have na : p ≠ a := fun q => by
        rw [q, upd_same] at hp
        cases hp
      have hp0 : H p = none := by
        rw [upd_ne na, upd_ne na] at hp
        exact hp
      refine k _ p ⟨dx, ?_⟩ (fun b o z hb => ?_) hp0 ?_
      · rw [upd_ne na.symm, upd_same, e]
      · rw [upd_ne (ne_of_none z hp0), upd_ne hb, upd_ne hb]
        exact z
      · rw [upd_same, e]
        rfl
    refine rd_chain rfl ⟨_, rfl, ite2 (fun c1 => ?_) (fun c1 => rd_chain rfl ⟨_, rfl, ite2 (fun c2 => ?_) (fun c2 => ?_)⟩)⟩
    · simp at c1
      exact ⟨one, bad (by omega)⟩
    · simp at c2
      exact ⟨one, bad (by omega)⟩
    · simp at c1 c2
      exact good (by omega)
abbrev s_shows : Stmt := inClass (top 27) 2
theorem sc_shows : FnScope ["self"] ["self"] (defScope s_shows) := ⟨rfl, rfl, rfl, by decide +kernel, rfl, by decide +kernel, by decide +kernel⟩
theorem ok_shows {f C : Addr} {fd : FuncData} (F : Fun K "shows" "Race.shows" s_shows f fd) (T : Txt K mg C) : FnOk P w K mg base CX0 1 f fd ["self"] (spM0 C .shows) := by
  refine F.ok sc_shows (fun vs H Q E h => ?_) (fun cdv A outer s H vs Q E hr h => ?_)
  · obtain ⟨a, d, rfl, _⟩ := h
    rfl
  · obtain ⟨a, d, rfl, hR, hd, k⟩ := h
    refine ⟨_, (pss_one (ps_ret (pe_lst (pa_cons (pe_fld (pv 0) rfl) (pa_cons (pe_fld (pv 0) rfl) pa_nil))))), ?_⟩
    have k' := k.keep hR rfl rfl
    obtain ⟨dx, hR⟩ := hR
    refine ⟨_, rfl, a, C, dx, _, _, rfl, hR, T.cl, T.nF, rf_faces d, _, rfl, a, C, dx, _, _, rfl, hR, T.cl, T.nG, rf_goal d, (by show 2 ≤ sizeLine; decide), fun p hp => ?_⟩
    exact k'.of (fun b o e => e) p hp
abbrev s_brings : Stmt := inClass (top 27) 3
theorem sc_brings : FnScope ["self", "hold"] ["self", "hold"] (defScope s_brings) := ⟨rfl, rfl, rfl, by decide +kernel, rfl, by decide +kernel, by decide +kernel⟩
theorem ok_brings {f C f1 f2 : Addr} {fd fd1 fd2 : FuncData} (F : Fun K "brings" "Race.brings" s_brings f fd) (T : Txt K mg C)
    (A_is_hold : Has K mg "is_hold" s_is_hold ["number"] f1 fd1) (A_average : Has K mg "average" s_average ["faces", "hold"] f2 fd2)
    (G_average : FnOk P w K mg base CX0 3 f2 fd2 ["faces", "hold"] (spFrac Uw96.brings)) : FnOk P w K mg base CX0 4 f fd ["self", "hold"] (spM1 C .brings) := by
  obtain ⟨tk, g_OUT_OF_RANGE⟩ := T.oor
  have G_is_hold : FnOk P w K mg base CX0 1 f1 fd1 ["number"] spHold := ok_is_hold A_is_hold.F
  refine F.ok sc_brings (fun vs H Q E h => ?_) (fun cdv A outer s H vs Q E hr h => ?_)
  · obtain ⟨a, d, x, rfl, _⟩ := h
    rfl
  · obtain ⟨a, d, x, rfl, hR, hd, k⟩ := h
    have one : (1 : Nat) ≤ sizeLine := by decide
    refine ⟨_, (pss_cons (ps_if (pt_not (pt_val (pe_call G_is_hold (hr.mono (by decide)) rfl A_is_hold.m A_is_hold.F.kp A_is_hold.b .nil pass0 (pa_cons (pv 1) pa_nil)))) (pss_one (ps_ret (pe_lst (pa_cons (pe_glob rfl g_OUT_OF_RANGE (show RelV (.int (-1)) _ from ⟨_, rfl⟩)) pa_nil)))) pss_nil)
      (pss_one (ps_ret (pe_op op_cat (pe_lst (pa_cons pe_int pa_nil)) (pe_call G_average (hr.mono (by decide)) rfl A_average.m A_average.F.kp A_average.b .nil pass0 (pa_cons (pe_fld (pv 0) rfl) (pa_cons (pv 1) pa_nil))))))), ?_⟩
    refine ⟨_, rfl, x, rfl, _, rfl, ite2 (fun c => ?_) (fun c => ?_)⟩
    · have e : Uw96.step d (.brings x) = (d, [-1]) := show Uw96.onHold d x (fun _ => Uw96.told (Uw96.brings d.s x)) = _ from step_nohold (by simpa using c)
      exact ⟨one, fun p hp => (k.keep hR (congrArg Prod.fst e) (congrArg Prod.snd e)).of (fun b o e => e) p hp⟩
    · have c : Uw96.isHold x = true := by simpa using c
      have e : Uw96.step d (.brings x) = (d, Uw96.told (Uw96.brings d.s x)) := show Uw96.onHold d x (fun _ => Uw96.told (Uw96.brings d.s x)) = _ from step_hold c
      have k' := k.keep hR (congrArg Prod.fst e) (congrArg Prod.snd e)
      obtain ⟨dx, hR⟩ := hR
      refine ⟨one, fun p hp => ?_⟩
      have s1 : Same H (upd H p (.lst [.int 0])) := Same.put (fun b o e => e) hp
      refine ⟨_, rfl, a, C, dx, _, _, rfl, s1 _ _ hR, T.cl, T.nF, rf_faces d, _, rfl, d.s, x, rfl, isHold_held hd c, fun H2 q s2 n2 hq => ?_⟩
      exact ⟨p, q, _, _, rfl, rfl, s2 _ _ upd_same, hq, (by show 1 + 2 ≤ sizeLine; decide), fun r hr => k'.of (s1.trans s2) r hr⟩
abbrev s_nothing : Stmt := inClass (top 27) 4
theorem sc_nothing : FnScope ["self", "hold"] ["self", "hold"] (defScope s_nothing) := ⟨rfl, rfl, rfl, by decide +kernel, rfl, by decide +kernel, by decide +kernel⟩
theorem ok_nothing {f C f1 f2 : Addr} {fd fd1 fd2 : FuncData} (F : Fun K "nothing" "Race.nothing" s_nothing f fd) (T : Txt K mg C)
    (A_is_hold : Has K mg "is_hold" s_is_hold ["number"] f1 fd1) (A_chance_of_nothing : Has K mg "chance_of_nothing" s_chance_of_nothing ["faces", "hold"] f2 fd2)
    (G_chance_of_nothing : FnOk P w K mg base CX0 3 f2 fd2 ["faces", "hold"] (spFrac Uw96.nothing)) : FnOk P w K mg base CX0 4 f fd ["self", "hold"] (spM1 C .nothing) := by
  obtain ⟨tk, g_OUT_OF_RANGE⟩ := T.oor
  have G_is_hold : FnOk P w K mg base CX0 1 f1 fd1 ["number"] spHold := ok_is_hold A_is_hold.F
  refine F.ok sc_nothing (fun vs H Q E h => ?_) (fun cdv A outer s H vs Q E hr h => ?_)
  · obtain ⟨a, d, x, rfl, _⟩ := h
    rfl
  · obtain ⟨a, d, x, rfl, hR, hd, k⟩ := h
    have one : (1 : Nat) ≤ sizeLine := by decide
    refine ⟨_, (pss_cons (ps_if (pt_not (pt_val (pe_call G_is_hold (hr.mono (by decide)) rfl A_is_hold.m A_is_hold.F.kp A_is_hold.b .nil pass0 (pa_cons (pv 1) pa_nil)))) (pss_one (ps_ret (pe_lst (pa_cons (pe_glob rfl g_OUT_OF_RANGE (show RelV (.int (-1)) _ from ⟨_, rfl⟩)) pa_nil)))) pss_nil)
      (pss_one (ps_ret (pe_op op_cat (pe_lst (pa_cons pe_int pa_nil)) (pe_call G_chance_of_nothing (hr.mono (by decide)) rfl A_chance_of_nothing.m A_chance_of_nothing.F.kp A_chance_of_nothing.b .nil pass0 (pa_cons (pe_fld (pv 0) rfl) (pa_cons (pv 1) pa_nil))))))), ?_⟩
    refine ⟨_, rfl, x, rfl, _, rfl, ite2 (fun c => ?_) (fun c => ?_)⟩
    · have e : Uw96.step d (.nothing x) = (d, [-1]) := show Uw96.onHold d x (fun _ => Uw96.told (Uw96.nothing d.s x)) = _ from step_nohold (by simpa using c)
      exact ⟨one, fun p hp => (k.keep hR (congrArg Prod.fst e) (congrArg Prod.snd e)).of (fun b o e => e) p hp⟩
    · have c : Uw96.isHold x = true := by simpa using c
      have e : Uw96.step d (.nothing x) = (d, Uw96.told (Uw96.nothing d.s x)) := show Uw96.onHold d x (fun _ => Uw96.told (Uw96.nothing d.s x)) = _ from step_hold c
      have k' := k.keep hR (congrArg Prod.fst e) (congrArg Prod.snd e)
      obtain ⟨dx, hR⟩ := hR
      refine ⟨one, fun p hp => ?_⟩
      have s1 : Same H (upd H p (.lst [.int 0])) := Same.put (fun b o e => e) hp
      refine ⟨_, rfl, a, C, dx, _, _, rfl, s1 _ _ hR, T.cl, T.nF, rf_faces d, _, rfl, d.s, x, rfl, isHold_held hd c, fun H2 q s2 n2 hq => ?_⟩
      exact ⟨p, q, _, _, rfl, rfl, s2 _ _ upd_same, hq, (by show 1 + 2 ≤ sizeLine; decide), fun r hr => k'.of (s1.trans s2) r hr⟩
abbrev s_throws : Stmt := inClass (top 27) 7
theorem sc_throws : FnScope ["self", "hold"] ["self", "hold"] (defScope s_throws) := ⟨rfl, rfl, rfl, by decide +kernel, rfl, by decide +kernel, by decide +kernel⟩
theorem ok_throws {f C f1 f2 : Addr} {fd fd1 fd2 : FuncData} (F : Fun K "throws" "Race.throws" s_throws f fd) (T : Txt K mg C)
    (A_is_hold : Has K mg "is_hold" s_is_hold ["number"] f1 fd1) (A_average_throws : Has K mg "average_throws" s_average_throws ["faces", "hold"] f2 fd2)
    (G_average_throws : FnOk P w K mg base CX0 3 f2 fd2 ["faces", "hold"] (spFrac Uw96.throws)) : FnOk P w K mg base CX0 4 f fd ["self", "hold"] (spM1 C .throws) := by
  obtain ⟨tk, g_OUT_OF_RANGE⟩ := T.oor
  have G_is_hold : FnOk P w K mg base CX0 1 f1 fd1 ["number"] spHold := ok_is_hold A_is_hold.F
  refine F.ok sc_throws (fun vs H Q E h => ?_) (fun cdv A outer s H vs Q E hr h => ?_)
  · obtain ⟨a, d, x, rfl, _⟩ := h
    rfl
  · obtain ⟨a, d, x, rfl, hR, hd, k⟩ := h
    have one : (1 : Nat) ≤ sizeLine := by decide
    refine ⟨_, (pss_cons (ps_if (pt_not (pt_val (pe_call G_is_hold (hr.mono (by decide)) rfl A_is_hold.m A_is_hold.F.kp A_is_hold.b .nil pass0 (pa_cons (pv 1) pa_nil)))) (pss_one (ps_ret (pe_lst (pa_cons (pe_glob rfl g_OUT_OF_RANGE (show RelV (.int (-1)) _ from ⟨_, rfl⟩)) pa_nil)))) pss_nil)
      (pss_one (ps_ret (pe_op op_cat (pe_lst (pa_cons pe_int pa_nil)) (pe_call G_average_throws (hr.mono (by decide)) rfl A_average_throws.m A_average_throws.F.kp A_average_throws.b .nil pass0 (pa_cons (pe_fld (pv 0) rfl) (pa_cons (pv 1) pa_nil))))))), ?_⟩
    refine ⟨_, rfl, x, rfl, _, rfl, ite2 (fun c => ?_) (fun c => ?_)⟩
    · have e : Uw96.step d (.throws x) = (d, [-1]) := show Uw96.onHold d x (fun _ => Uw96.told (Uw96.throws d.s x)) = _ from step_nohold (by simpa using c)
      exact ⟨one, fun p hp => (k.keep hR (congrArg Prod.fst e) (congrArg Prod.snd e)).of (fun b o e => e) p hp⟩
    · have c : Uw96.isHold x = true := by simpa using c
      have e : Uw96.step d (.throws x) = (d, Uw96.told (Uw96.throws d.s x)) := show Uw96.onHold d x (fun _ => Uw96.told (Uw96.throws d.s x)) = _ from step_hold c
      have k' := k.keep hR (congrArg Prod.fst e) (congrArg Prod.snd e)
      obtain ⟨dx, hR⟩ := hR
      refine ⟨one, fun p hp => ?_⟩
      have s1 : Same H (upd H p (.lst [.int 0])) := Same.put (fun b o e => e) hp
      refine ⟨_, rfl, a, C, dx, _, _, rfl, s1 _ _ hR, T.cl, T.nF, rf_faces d, _, rfl, d.s, x, rfl, isHold_held hd c, fun H2 q s2 n2 hq => ?_⟩
      exact ⟨p, q, _, _, rfl, rfl, s2 _ _ upd_same, hq, (by show 1 + 2 ≤ sizeLine; decide), fun r hr => k'.of (s1.trans s2) r hr⟩
abbrev s_ends : Stmt := inClass (top 27) 5
theorem sc_ends : FnScope ["self", "hold", "found", "told", "end"] ["self", "hold"] (defScope s_ends) := ⟨rfl, rfl, rfl, by decide +kernel, rfl, by decide +kernel, by decide +kernel⟩
theorem told_ends {s h : Nat} (hs : 0 < s) : (let l := (Uw96.ends s h).zipIdx.filter fun x => x.1 != Uw96.zero
    (l.length : Int) :: l.flatMap fun x => Uw96.ints [h + x.2, x.1.u, x.1.l]) = ((reach s h s).length : Int) :: ((reach s h s).map (E3 s h)).flatten := by
  dsimp only
  rw [reach_is hs, List.length_map, List.flatMap_def, List.map_map]
  rfl
theorem ok_ends {f C f1 f2 : Addr} {fd fd1 fd2 : FuncData} (F : Fun K "ends" "Race.ends" s_ends f fd) (T : Txt K mg C)
    (A_is_hold : Has K mg "is_hold" s_is_hold ["number"] f1 fd1) (A_chances_of_ends : Has K mg "chances_of_ends" s_chances_of_ends ["faces", "hold"] f2 fd2)
    (G_chances_of_ends : FnOk P w K mg base CX0 3 f2 fd2 ["faces", "hold"] spEnds) : FnOk P w K mg base CX0 4 f fd ["self", "hold"] (spM1 C .ends) := by
  obtain ⟨tk, g_OUT_OF_RANGE⟩ := T.oor
  have G_is_hold : FnOk P w K mg base CX0 1 f1 fd1 ["number"] spHold := ok_is_hold A_is_hold.F
  refine F.ok sc_ends (fun vs H Q E h => ?_) (fun cdv A outer s H vs Q E hr h => ?_)
  · obtain ⟨a, d, x, rfl, _⟩ := h
    rfl
  · obtain ⟨a, d, x, rfl, hR, hd, k⟩ := h
    have hr1 : Room 1 _ := hr.mono (by decide)
    have one : (1 : Nat) ≤ sizeLine := by decide
    refine ⟨_, (pss_cons (ps_if (pt_not (pt_val (pe_call G_is_hold (hr.mono (by decide)) rfl A_is_hold.m A_is_hold.F.kp A_is_hold.b .nil pass0 (pa_cons (pv 1) pa_nil)))) (pss_one (ps_ret (pe_lst (pa_cons (pe_glob rfl g_OUT_OF_RANGE (show RelV (.int (-1)) _ from ⟨_, rfl⟩)) pa_nil)))) pss_nil)
      (pss_cons (ps_set (i := 2) sc_ends.nd rfl (by first | exact Or.inl rfl | exact Or.inr rfl) (pe_call G_chances_of_ends (hr.mono (by decide)) rfl A_chances_of_ends.m A_chances_of_ends.F.kp A_chances_of_ends.b .nil pass0 (pa_cons (pe_fld (pv 0) rfl) (pa_cons (pv 1) pa_nil))))
      (pss_cons (ps_set (i := 3) sc_ends.nd rfl (by first | exact Or.inl rfl | exact Or.inr rfl) (pe_lst (pa_cons (pe_callB call_len_seq (by rfl) T.n_len PySem.boot_len (pa_cons (pv 2) pa_nil)) pa_nil)))
      (pss_cons (ps_for PassesOwn.never rfl (pi_list (pv 2)) (pg_name (i := 4) sc_ends.nd rfl (by first | exact Or.inl rfl | exact Or.inr rfl)) (pss_one (ps_expr (pe_bm PySem.F.plainAttrs_list PySem.F.slot_list_extend PySem.F.type_list_extend mt_extend (pv 3) (pa_cons (pv 4) pa_nil)))))
      (pss_one (ps_ret (pv 3))))))), ?_⟩
    refine ⟨_, rfl, x, rfl, _, rfl, ite2 (fun c => ?_) (fun c => ?_)⟩
    · have e : Uw96.step d (.ends x) = (d, [-1]) := show Uw96.onHold d x (fun _ => let l := (Uw96.ends d.s x).zipIdx.filter fun x => x.1 != Uw96.zero; (l.length : Int) :: l.flatMap fun y => Uw96.ints [x + y.2, y.1.u, y.1.l]) = _ from step_nohold (by simpa using c)
      exact ⟨one, fun p hp => (k.keep hR (congrArg Prod.fst e) (congrArg Prod.snd e)).of (fun b o e => e) p hp⟩
    · have c : Uw96.isHold x = true := by simpa using c
      have hh := isHold_held hd c
      have e : Uw96.step d (.ends x) = (d, ((reach d.s x d.s).length : Int) :: ((reach d.s x d.s).map (E3 d.s x)).flatten) := show Uw96.onHold d x (fun _ => let l := (Uw96.ends d.s x).zipIdx.filter fun x => x.1 != Uw96.zero; (l.length : Int) :: l.flatMap fun y => Uw96.ints [x + y.2, y.1.u, y.1.l]) = _ from (step_hold c).trans (congrArg (Prod.mk d) (told_ends (s := d.s) (h := x) (Nat.lt_of_lt_of_le (by decide) hd.s2)))
      have k' := k.keep hR (congrArg Prod.fst e) (congrArg Prod.snd e)
      obtain ⟨dx, hR⟩ := hR
      refine ⟨_, rfl, a, C, dx, _, _, rfl, hR, T.cl, T.nF, rf_faces d, _, rfl, d.s, x, rfl, hh, fun H1 p ps s1 n1 hp hps => ?_⟩
      -- told = [len(found)]
      refine ⟨_, rfl, p, _, rfl, .inl (SqL.of hp), one, fun q hq => ?_⟩
      have s2 : Same H1 (upd H1 q (.lst [.int ((ps.map V.ref).length : Int)])) := Same.put (fun b o e => e) hq
      have nq : H q = none := s1.free hq
      have hlen : (reach d.s x d.s).length ≤ d.s := by
        unfold reach
        exact Nat.le_trans (List.length_filter_le _ _) (by rw [List.length_range]; exact Nat.le_refl _)
      have epl : ps.length = (reach d.s x d.s).length := by
        rw [hps.1]
        unfold EL
        rw [List.length_map]
      -- the loop
      refine ⟨_, rfl, p, rfl, ⟨_, SqL.of (s2 _ _ hp)⟩, for_list (K := K) (a := p) (xs := ps.map V.ref) (fun i σ H' => ∃ z : Option V, σ = [some (.ref a), some (.int x), some (.ref p), some (.ref q), z] ∧ Same H1 H' ∧
        H' q = some (.lst (.int ((reach d.s x d.s).length : Int) :: ((EL d.s x).take i).flatten)) ∧ ((EL d.s x).take i).flatten.length = 3 * i) ⟨none, rfl, s2, ?_, rfl⟩ (fun i σ H' _ ⟨_, _, s3, _⟩ => SqL.of (s3 _ _ hp)) ?_ ?_⟩
      · rw [upd_same, List.length_map, epl]
        rfl
      · rintro i y σ H' hy ⟨z, rfl, s3, hq3, hl3⟩
        obtain ⟨b, hb, rfl⟩ : ∃ b, ps[i]? = some b ∧ y = V.ref b := by
          rw [List.getElem?_map] at hy
          cases q : ps[i]? with
          | none =>
            rw [q] at hy
            cases hy
          | some z =>
            rw [q] at hy
            exact ⟨z, rfl, (Option.some.inj hy).symm⟩
        obtain ⟨L, hL, hbL⟩ := hps.2 i b hb
        have hi : i < ps.length := (List.getElem?_eq_some_iff.mp hb).1
        have hL3 : L.length = 3 := by
          have hL' : (EL d.s x)[i]? = some L := hL
          unfold EL at hL'
          rw [List.getElem?_map] at hL'
          cases q : (reach d.s x d.s)[i]? with
          | none =>
            rw [q] at hL'
            cases hL'
          | some z =>
            rw [q] at hL'
            rw [← Option.some.inj hL']
            rfl
        have big : (1000 : Nat) ≤ sizeLine := by decide
        have hs10 := hd.s10
        have et : (EL d.s x).take (i + 1) = (EL d.s x).take i ++ [L] := by
          rw [List.take_add_one, hL]
          rfl
        refine ⟨_, rfl, .inl ⟨rfl, _, SqL.of hq3⟩, _, rfl, q, b, _, _, rfl, rfl, hq3, s3 _ _ hbL, ?_, _, rfl, s3.put hq, ?_, ?_⟩
        · rw [List.length_cons, hl3, hL3]
          omega
        · rw [upd_same, et, List.flatten_append, List.flatten_singleton]
          rfl
        · rw [et, List.flatten_append, List.flatten_singleton, List.length_append, hl3, hL3]
          omega
      · rintro σ H' ⟨z, rfl, s3, hq3, hl3⟩
        refine ⟨_, rfl, k' H' q (s1.trans s3) nq ?_⟩
        rw [hq3, List.length_map, List.take_of_length_le (by rw [hps.1]; exact Nat.le_refl _)]
        unfold EL
        rw [List.map_cons, List.map_flatten, List.map_map]
        rfl
abbrev s_best : Stmt := inClass (top 27) 6
theorem sc_best : FnScope ["self", "most"] ["self", "most"] (defScope s_best) := ⟨rfl, rfl, rfl, by decide +kernel, rfl, by decide +kernel, by decide +kernel⟩
theorem ok_best {f C f1 f2 : Addr} {fd fd1 fd2 : FuncData} (F : Fun K "best" "Race.best" s_best f fd) (T : Txt K mg C)
    (A_is_hold : Has K mg "is_hold" s_is_hold ["number"] f1 fd1) (A_best_hold : Has K mg "best_hold" s_best_hold ["faces", "most"] f2 fd2)
    (G_best_hold : FnOk P w K mg base CX0 4 f2 fd2 ["faces", "most"] spBest) : FnOk P w K mg base CX0 5 f fd ["self", "most"] (spM1 C .best) := by
  obtain ⟨tk, g_OUT_OF_RANGE⟩ := T.oor
  have G_is_hold : FnOk P w K mg base CX0 1 f1 fd1 ["number"] spHold := ok_is_hold A_is_hold.F
  refine F.ok sc_best (fun vs H Q E h => ?_) (fun cdv A outer s H vs Q E hr h => ?_)
  · obtain ⟨a, d, x, rfl, _⟩ := h
    rfl
  · obtain ⟨a, d, x, rfl, hR, hd, k⟩ := h
    have one : (1 : Nat) ≤ sizeLine := by decide
    refine ⟨_, (pss_cons (ps_if (pt_not (pt_val (pe_call G_is_hold (hr.mono (by decide)) rfl A_is_hold.m A_is_hold.F.kp A_is_hold.b .nil pass0 (pa_cons (pv 1) pa_nil)))) (pss_one (ps_ret (pe_lst (pa_cons (pe_glob rfl g_OUT_OF_RANGE (show RelV (.int (-1)) _ from ⟨_, rfl⟩)) pa_nil)))) pss_nil)
      (pss_one (ps_ret (pe_call G_best_hold (hr.mono (by decide)) rfl A_best_hold.m A_best_hold.F.kp A_best_hold.b .nil pass0 (pa_cons (pe_fld (pv 0) rfl) (pa_cons (pv 1) pa_nil)))))), ?_⟩
    refine ⟨_, rfl, x, rfl, _, rfl, ite2 (fun c => ?_) (fun c => ?_)⟩
    · have c : Uw96.isHold x = false := by simpa using c
      have e : Uw96.step d (.best x) = (d, [-1]) := congrArg (Prod.mk d) (if_pos c)
      exact ⟨one, fun p hp => (k.keep hR (congrArg Prod.fst e) (congrArg Prod.snd e)).of (fun b o e => e) p hp⟩
    · have c : Uw96.isHold x = true := by simpa using c
      have e : Uw96.step d (.best x) = (d, Uw96.toldBest (Uw96.best d.s x)) := congrArg (Prod.mk d) (if_neg (by rw [c]; decide))
      have k' := k.keep hR (congrArg Prod.fst e) (congrArg Prod.snd e)
      obtain ⟨dx, hR⟩ := hR
      exact ⟨_, rfl, a, C, dx, _, _, rfl, hR, T.cl, T.nF, rf_faces d, _, rfl, d.s, x, rfl, isHold_held hd c, k'⟩
end
end Dp
set_option Elab.async false
set_option linter.all false
set_option maxRecDepth 100000
set_option maxHeartbeats 2000000
namespace Dp
open PySem PySem.Spec PyProof.Rows L2
open Uw96 (Frac Die Call)
section
variable {P : Program} {w : World} {K : PySem.W.Frag} {mg : Str → Option Value} {base : Heap}
abbrev s_turns : Stmt := inClass (top 27) 8
theorem sc_turns : FnScope ["self", "hold", "points"] ["self", "hold", "points"] (defScope s_turns) := ⟨rfl, rfl, rfl, by decide +kernel, rfl, by decide +kernel, by decide +kernel⟩
theorem ok_turns {f C f1 f2 : Addr} {fd fd1 fd2 : FuncData} (F : Fun K "turns" "Race.turns" s_turns f fd) (T : Txt K mg C)
    (A_is_hold : Has K mg "is_hold" s_is_hold ["number"] f1 fd1) (A_average_turns : Has K mg "average_turns" s_average_turns ["faces", "hold", "missing"] f2 fd2)
    (G_average_turns : FnOk P w K mg base CX0 5 f2 fd2 ["faces", "hold", "missing"] spTurns) : FnOk P w K mg base CX0 6 f fd ["self", "hold", "points"] (spM2 C .turns) := by
  obtain ⟨tk, g_OUT_OF_RANGE⟩ := T.oor
  obtain ⟨tg, g_AT_GOAL⟩ := T.atg
  have G_is_hold : FnOk P w K mg base CX0 1 f1 fd1 ["number"] spHold := ok_is_hold A_is_hold.F
  refine F.ok sc_turns (fun vs H Q E h => ?_) (fun cdv A outer s H vs Q E hr h => ?_)
  · obtain ⟨a, d, x, y, rfl, _⟩ := h
    rfl
  · obtain ⟨a, d, h, x, rfl, hR, hd, k⟩ := h
    have one : (1 : Nat) ≤ sizeLine := by decide
    refine ⟨_, (pss_cons (ps_if (pt_not (pt_val (pe_call G_is_hold (hr.mono (by decide)) rfl A_is_hold.m A_is_hold.F.kp A_is_hold.b .nil pass0 (pa_cons (pv 1) pa_nil)))) (pss_one (ps_ret (pe_lst (pa_cons (pe_glob rfl g_OUT_OF_RANGE (show RelV (.int (-1)) _ from ⟨_, rfl⟩)) pa_nil)))) pss_nil)
      (pss_cons (ps_if (pt_cmpR op_ge (pv 2) (pe_fld (pv 0) rfl) (nomark _)) (pss_one (ps_ret (pe_lst (pa_cons (pe_glob rfl g_AT_GOAL (show RelV (.int (-3)) _ from ⟨_, rfl⟩)) pa_nil)))) pss_nil)
      (pss_one (ps_ret (pe_op op_cat (pe_lst (pa_cons pe_int pa_nil)) (pe_call G_average_turns (hr.mono (by decide)) rfl A_average_turns.m A_average_turns.F.kp A_average_turns.b .nil pass0 (pa_cons (pe_fld (pv 0) rfl) (pa_cons (pv 1) (pa_cons (pe_op op_sub (pe_fld (pv 0) rfl) (pv 2)) pa_nil))))))))), ?_⟩
    have est : Uw96.step d (.turns h x) = (d, if Uw96.isHold h = false then [-1] else if d.t ≤ x then [-3] else Uw96.told (Uw96.turns d h x)) := rfl
    refine ⟨_, rfl, h, rfl, _, rfl, ite2 (fun c => ?_) (fun c => ?_)⟩
    · have c : Uw96.isHold h = false := by simpa using c
      rw [if_pos c] at est
      exact ⟨one, fun p hp => (k.keep hR (congrArg Prod.fst est) (congrArg Prod.snd est)).of (fun b o e => e) p hp⟩
    · have c : Uw96.isHold h = true := by simpa using c
      rw [if_neg (by rw [c]; decide)] at est
      have hR' := hR
      obtain ⟨dx, hR'⟩ := hR'
      refine ⟨_, rfl, _, rfl, a, C, dx, _, _, rfl, hR', T.cl, T.nG, rf_goal d, _, _, rfl, rfl, _, rfl, ite2 (fun c2 => ?_) (fun c2 => ?_)⟩
      · have c2 : (d.t : Int) ≤ (x : Int) := of_decide_eq_true c2
        rw [if_pos (by omega)] at est
        exact ⟨one, fun p hp => (k.keep hR (congrArg Prod.fst est) (congrArg Prod.snd est)).of (fun b o e => e) p hp⟩
      · have c2 : ¬ (d.t : Int) ≤ (x : Int) := fun q => c2 (decide_eq_true q)
        rw [if_neg (by omega)] at est
        have k' := k.keep hR (congrArg Prod.fst est) (congrArg Prod.snd est)
        refine ⟨one, fun p hp => ?_⟩
        have s1 : Same H (upd H p (.lst [.int 0])) := Same.put (fun b o e => e) hp
        refine ⟨_, rfl, a, C, dx, _, _, rfl, s1 _ _ hR', T.cl, T.nF, rf_faces d, _, rfl, _, rfl, a, C, dx, _, _, rfl, s1 _ _ hR', T.cl, T.nG, rf_goal d, _, rfl, _, _, rfl, rfl, d, h, d.t - x, ?_, hd, isHold_held hd c, by omega, by omega, fun H2 q s2 hq => ?_⟩
        · exact congrArg (fun z => [V.int (d.s : Int), V.int (h : Int), V.int z]) (by omega)
        rw [show d.t - (d.t - x) = x by omega] at hq
        exact ⟨p, q, _, _, rfl, rfl, s2 _ _ upd_same, hq, (by show 1 + 2 ≤ sizeLine; decide), fun r hr => k'.of (s1.trans s2) r hr⟩
abbrev s_quick : Stmt := inClass (top 27) 9
theorem sc_quick : FnScope ["self", "points"] ["self", "points"] (defScope s_quick) := ⟨rfl, rfl, rfl, by decide +kernel, rfl, by decide +kernel, by decide +kernel⟩
theorem ok_quick {f C f2 : Addr} {fd fd2 : FuncData} (F : Fun K "quick" "Race.quick" s_quick f fd) (T : Txt K mg C)
    (A_quick_hold : Has K mg "quick_hold" s_quick_hold ["faces", "most", "missing"] f2 fd2)
    (G_quick_hold : FnOk P w K mg base CX0 6 f2 fd2 ["faces", "most", "missing"] spQuick) : FnOk P w K mg base CX0 7 f fd ["self", "points"] (spM1 C .quick) := by
  obtain ⟨tg, g_AT_GOAL⟩ := T.atg
  refine F.ok sc_quick (fun vs H Q E h => ?_) (fun cdv A outer s H vs Q E hr h => ?_)
  · obtain ⟨a, d, x, rfl, _⟩ := h
    rfl
  · obtain ⟨a, d, x, rfl, hR, hd, k⟩ := h
    have one : (1 : Nat) ≤ sizeLine := by decide
    refine ⟨_, (pss_cons (ps_if (pt_cmpR op_ge (pv 1) (pe_fld (pv 0) rfl) (nomark _)) (pss_one (ps_ret (pe_lst (pa_cons (pe_glob rfl g_AT_GOAL (show RelV (.int (-3)) _ from ⟨_, rfl⟩)) pa_nil)))) pss_nil)
      (pss_one (ps_ret (pe_call G_quick_hold (hr.mono (by decide)) rfl A_quick_hold.m A_quick_hold.F.kp A_quick_hold.b .nil pass0 (pa_cons (pe_fld (pv 0) rfl) (pa_cons (pe_fld (pv 0) rfl) (pa_cons (pe_op op_sub (pe_fld (pv 0) rfl) (pv 1)) pa_nil))))))), ?_⟩
    have est : Uw96.step d (.quick x) = (d, if d.t ≤ x then [-3] else Uw96.toldBest (Uw96.quick d x)) := rfl
    have hR' := hR
    obtain ⟨dx, hR'⟩ := hR'
    refine ⟨_, rfl, _, rfl, a, C, dx, _, _, rfl, hR', T.cl, T.nG, rf_goal d, _, _, rfl, rfl, _, rfl, ite2 (fun c2 => ?_) (fun c2 => ?_)⟩
    · have c2 : (d.t : Int) ≤ (x : Int) := of_decide_eq_true c2
      rw [if_pos (by omega)] at est
      exact ⟨one, fun p hp => (k.keep hR (congrArg Prod.fst est) (congrArg Prod.snd est)).of (fun b o e => e) p hp⟩
    · have c2 : ¬ (d.t : Int) ≤ (x : Int) := fun q => c2 (decide_eq_true q)
      rw [if_neg (by omega)] at est
      have k' := k.keep hR (congrArg Prod.fst est) (congrArg Prod.snd est)
      refine ⟨_, rfl, a, C, dx, _, _, rfl, hR', T.cl, T.nF, rf_faces d, _, rfl, a, C, dx, _, _, rfl, hR', T.cl, T.nG, rf_goal d, _, rfl, a, C, dx, _, _, rfl, hR', T.cl, T.nG, rf_goal d, _, rfl, _, _, rfl, rfl, d, d.t - x, ?_, hd, by omega, by omega, ?_⟩
      · exact congrArg (fun z => [V.int (d.s : Int), V.int (d.t : Int), V.int z]) (by omega)
      rw [show d.t - (d.t - x) = x by omega]
      exact k'
abbrev s_duel : Stmt := inClass (top 27) 10
theorem sc_duel : FnScope ["self", "hold", "points", "other_hold", "other_points"] ["self", "hold", "points", "other_hold", "other_points"] (defScope s_duel) := ⟨rfl, rfl, rfl, by decide +kernel, rfl, by decide +kernel, by decide +kernel⟩
theorem ok_duel {f C f1 f2 : Addr} {fd fd1 fd2 : FuncData} (F : Fun K "duel" "Race.duel" s_duel f fd) (T : Txt K mg C)
    (A_is_hold : Has K mg "is_hold" s_is_hold ["number"] f1 fd1) (A_duel_chance : Has K mg "duel_chance" s_duel_chance ["faces", "hold", "missing", "other_hold", "other_missing"] f2 fd2)
    (G_duel_chance : FnOk P w K mg base CX0 5 f2 fd2 ["faces", "hold", "missing", "other_hold", "other_missing"] spDuel) : FnOk P w K mg base CX0 6 f fd ["self", "hold", "points", "other_hold", "other_points"] (spM4 C .duel) := by
  obtain ⟨tk, g_OUT_OF_RANGE⟩ := T.oor
  obtain ⟨tg, g_AT_GOAL⟩ := T.atg
  have G_is_hold : FnOk P w K mg base CX0 1 f1 fd1 ["number"] spHold := ok_is_hold A_is_hold.F
  refine F.ok sc_duel (fun vs H Q E h => ?_) (fun cdv A outer s H vs Q E hr h => ?_)
  · obtain ⟨a, d, x, y, z, u, rfl, _⟩ := h
    rfl
  · obtain ⟨a, d, h, x, g, y, rfl, hR, hd, k⟩ := h
    have one : (1 : Nat) ≤ sizeLine := by decide
    refine ⟨_, (pss_cons (ps_if (PW.pt (pw_or (pt_not (pt_val (pe_call G_is_hold (hr.mono (by decide)) rfl A_is_hold.m A_is_hold.F.kp A_is_hold.b .nil pass0 (pa_cons (pv 1) pa_nil)))) (pw_or1 (pt_not (pt_val (pe_call G_is_hold (hr.mono (by decide)) rfl A_is_hold.m A_is_hold.F.kp A_is_hold.b .nil pass0 (pa_cons (pv 3) pa_nil))))))) (pss_one (ps_ret (pe_lst (pa_cons (pe_glob rfl g_OUT_OF_RANGE (show RelV (.int (-1)) _ from ⟨_, rfl⟩)) pa_nil)))) pss_nil)
      (pss_cons (ps_if (PW.pt (pw_or (pt_cmpR op_ge (pv 2) (pe_fld (pv 0) rfl) (nomark _)) (pw_or1 (pt_cmpR op_ge (pv 4) (pe_fld (pv 0) rfl) (nomark _))))) (pss_one (ps_ret (pe_lst (pa_cons (pe_glob rfl g_AT_GOAL (show RelV (.int (-3)) _ from ⟨_, rfl⟩)) pa_nil)))) pss_nil)
      (pss_one (ps_ret (pe_op op_cat (pe_lst (pa_cons pe_int pa_nil)) (pe_call G_duel_chance (hr.mono (by decide)) rfl A_duel_chance.m A_duel_chance.F.kp A_duel_chance.b .nil pass0 (pa_cons (pe_fld (pv 0) rfl) (pa_cons (pv 1) (pa_cons (pe_op op_sub (pe_fld (pv 0) rfl) (pv 2)) (pa_cons (pv 3) (pa_cons (pe_op op_sub (pe_fld (pv 0) rfl) (pv 4)) pa_nil))))))))))), ?_⟩
    have est : Uw96.step d (.duel h x g y) = (d, if Uw96.isHold h = false ∨ Uw96.isHold g = false then [-1] else if d.t ≤ x ∨ d.t ≤ y then [-3] else Uw96.told (Uw96.duel d h x g y)) := rfl
    have bad1 : Uw96.isHold h = false ∨ Uw96.isHold g = false → ∀ p, H p = none → Q (.ref p) (upd H p (.lst [.int (-1)])) := fun c p hp => by
      rw [if_pos c] at est
      exact (k.keep hR (congrArg Prod.fst est) (congrArg Prod.snd est)).of (fun b o e => e) p hp
    refine ⟨_, rfl, h, rfl, _, rfl, ite2 (fun c => ⟨one, bad1 (.inl (by simpa using c))⟩) (fun c => ⟨_, rfl, g, rfl, _, rfl, ite2 (fun c2 => ⟨one, bad1 (.inr (by simpa using c2))⟩) (fun c2 => ?_)⟩)⟩
    have c : Uw96.isHold h = true := by simpa using c
    have c2 : Uw96.isHold g = true := by simpa using c2
    rw [if_neg (by rw [c, c2]; decide)] at est
    have bad3 : d.t ≤ x ∨ d.t ≤ y → ∀ p, H p = none → Q (.ref p) (upd H p (.lst [.int (-3)])) := fun c p hp => by
      rw [if_pos c] at est
      exact (k.keep hR (congrArg Prod.fst est) (congrArg Prod.snd est)).of (fun b o e => e) p hp
    have hR' := hR
    obtain ⟨dx, hR'⟩ := hR'
    refine ⟨_, rfl, _, rfl, a, C, dx, _, _, rfl, hR', T.cl, T.nG, rf_goal d, _, _, rfl, rfl, _, rfl, ite2 (fun c3 => ⟨one, bad3 (.inl ?_)⟩) (fun c3 => ⟨_, rfl, _, rfl, a, C, dx, _, _, rfl, hR', T.cl, T.nG, rf_goal d, _, _, rfl, rfl, _, rfl, ite2 (fun c4 => ⟨one, bad3 (.inr ?_)⟩) (fun c4 => ?_)⟩)⟩
    · have c3 : (d.t : Int) ≤ (x : Int) := of_decide_eq_true c3
      omega
    · have c4 : (d.t : Int) ≤ (y : Int) := of_decide_eq_true c4
      omega
    have c3 : ¬ (d.t : Int) ≤ (x : Int) := fun q => c3 (decide_eq_true q)
    have c4 : ¬ (d.t : Int) ≤ (y : Int) := fun q => c4 (decide_eq_true q)
    rw [if_neg (by omega)] at est
    have k' := k.keep hR (congrArg Prod.fst est) (congrArg Prod.snd est)
    refine ⟨one, fun p hp => ?_⟩
    have s1 : Same H (upd H p (.lst [.int 0])) := Same.put (fun b o e => e) hp
    refine ⟨_, rfl, a, C, dx, _, _, rfl, s1 _ _ hR', T.cl, T.nF, rf_faces d, _, rfl, _, rfl, a, C, dx, _, _, rfl, s1 _ _ hR', T.cl, T.nG, rf_goal d, _, rfl, _, _, rfl, rfl, _, rfl, _, rfl, a, C, dx, _, _, rfl, s1 _ _ hR', T.cl, T.nG, rf_goal d, _, rfl, _, _, rfl, rfl,
      d, h, d.t - x, g, d.t - y, ?_, hd, isHold_held hd c, isHold_held hd c2, by omega, by omega, by omega, by omega, fun H2 q s2 hq => ?_⟩
    · have e1 : (d.t : Int) - (x : Int) = ((d.t - x : Nat) : Int) := by omega
      have e2 : (d.t : Int) - (y : Int) = ((d.t - y : Nat) : Int) := by omega
      show [V.int (d.s : Int), V.int (h : Int), V.int ((d.t : Int) - (x : Int)), V.int (g : Int), V.int ((d.t : Int) - (y : Int))] = _
      rw [e1, e2]
    rw [show d.t - (d.t - x) = x by omega, show d.t - (d.t - y) = y by omega] at hq
    exact ⟨p, q, _, _, rfl, rfl, s2 _ _ upd_same, hq, (by show 1 + 2 ≤ sizeLine; decide), fun r hr => k'.of (s1.trans s2) r hr⟩
abbrev s_answer : Stmt := inClass (top 27) 11
theorem sc_answer : FnScope ["self", "points", "other_hold", "other_points"] ["self", "points", "other_hold", "other_points"] (defScope s_answer) := ⟨rfl, rfl, rfl, by decide +kernel, rfl, by decide +kernel, by decide +kernel⟩
theorem ok_answer {f C f1 f2 : Addr} {fd fd1 fd2 : FuncData} (F : Fun K "answer" "Race.answer" s_answer f fd) (T : Txt K mg C)
    (A_is_hold : Has K mg "is_hold" s_is_hold ["number"] f1 fd1) (A_answer_hold : Has K mg "answer_hold" s_answer_hold ["faces", "most", "missing", "other_hold", "other_missing"] f2 fd2)
    (G_answer_hold : FnOk P w K mg base CX0 6 f2 fd2 ["faces", "most", "missing", "other_hold", "other_missing"] spAnswer) : FnOk P w K mg base CX0 7 f fd ["self", "points", "other_hold", "other_points"] (spM3 C .answer) := by
  obtain ⟨tk, g_OUT_OF_RANGE⟩ := T.oor
  obtain ⟨tg, g_AT_GOAL⟩ := T.atg
  have G_is_hold : FnOk P w K mg base CX0 1 f1 fd1 ["number"] spHold := ok_is_hold A_is_hold.F
  refine F.ok sc_answer (fun vs H Q E h => ?_) (fun cdv A outer s H vs Q E hr h => ?_)
  · obtain ⟨a, d, x, y, z, rfl, _⟩ := h
    rfl
  · obtain ⟨a, d, x, g, y, rfl, hR, hd, k⟩ := h
    have one : (1 : Nat) ≤ sizeLine := by decide
    refine ⟨_, (pss_cons (ps_if (pt_not (pt_val (pe_call G_is_hold (hr.mono (by decide)) rfl A_is_hold.m A_is_hold.F.kp A_is_hold.b .nil pass0 (pa_cons (pv 2) pa_nil)))) (pss_one (ps_ret (pe_lst (pa_cons (pe_glob rfl g_OUT_OF_RANGE (show RelV (.int (-1)) _ from ⟨_, rfl⟩)) pa_nil)))) pss_nil)
      (pss_cons (ps_if (PW.pt (pw_or (pt_cmpR op_ge (pv 1) (pe_fld (pv 0) rfl) (nomark _)) (pw_or1 (pt_cmpR op_ge (pv 3) (pe_fld (pv 0) rfl) (nomark _))))) (pss_one (ps_ret (pe_lst (pa_cons (pe_glob rfl g_AT_GOAL (show RelV (.int (-3)) _ from ⟨_, rfl⟩)) pa_nil)))) pss_nil)
      (pss_one (ps_ret (pe_call G_answer_hold (hr.mono (by decide)) rfl A_answer_hold.m A_answer_hold.F.kp A_answer_hold.b .nil pass0 (pa_cons (pe_fld (pv 0) rfl) (pa_cons (pe_fld (pv 0) rfl) (pa_cons (pe_op op_sub (pe_fld (pv 0) rfl) (pv 1)) (pa_cons (pv 2) (pa_cons (pe_op op_sub (pe_fld (pv 0) rfl) (pv 3)) pa_nil)))))))))), ?_⟩
    have est : Uw96.step d (.answer x g y) = (d, if Uw96.isHold g = false then [-1] else if d.t ≤ x ∨ d.t ≤ y then [-3] else Uw96.toldBest (Uw96.answer d x g y)) := rfl
    refine ⟨_, rfl, g, rfl, _, rfl, ite2 (fun c => ?_) (fun c => ?_)⟩
    · have c : Uw96.isHold g = false := by simpa using c
      rw [if_pos c] at est
      exact ⟨one, fun p hp => (k.keep hR (congrArg Prod.fst est) (congrArg Prod.snd est)).of (fun b o e => e) p hp⟩
    have c : Uw96.isHold g = true := by simpa using c
    rw [if_neg (by rw [c]; decide)] at est
    have bad3 : d.t ≤ x ∨ d.t ≤ y → ∀ p, H p = none → Q (.ref p) (upd H p (.lst [.int (-3)])) := fun c p hp => by
      rw [if_pos c] at est
      exact (k.keep hR (congrArg Prod.fst est) (congrArg Prod.snd est)).of (fun b o e => e) p hp
    have hR' := hR
    obtain ⟨dx, hR'⟩ := hR'
    refine ⟨_, rfl, _, rfl, a, C, dx, _, _, rfl, hR', T.cl, T.nG, rf_goal d, _, _, rfl, rfl, _, rfl, ite2 (fun c3 => ⟨one, bad3 (.inl ?_)⟩) (fun c3 => ⟨_, rfl, _, rfl, a, C, dx, _, _, rfl, hR', T.cl, T.nG, rf_goal d, _, _, rfl, rfl, _, rfl, ite2 (fun c4 => ⟨one, bad3 (.inr ?_)⟩) (fun c4 => ?_)⟩)⟩
    · have c3 : (d.t : Int) ≤ (x : Int) := of_decide_eq_true c3
      omega
    · have c4 : (d.t : Int) ≤ (y : Int) := of_decide_eq_true c4
      omega
    have c3 : ¬ (d.t : Int) ≤ (x : Int) := fun q => c3 (decide_eq_true q)
    have c4 : ¬ (d.t : Int) ≤ (y : Int) := fun q => c4 (decide_eq_true q)
    rw [if_neg (by omega)] at est
    have k' := k.keep hR (congrArg Prod.fst est) (congrArg Prod.snd est)
    refine ⟨_, rfl, a, C, dx, _, _, rfl, hR', T.cl, T.nF, rf_faces d, _, rfl, a, C, dx, _, _, rfl, hR', T.cl, T.nG, rf_goal d, _, rfl, a, C, dx, _, _, rfl, hR', T.cl, T.nG, rf_goal d, _, rfl, _, _, rfl, rfl, _, rfl, _, rfl, a, C, dx, _, _, rfl, hR', T.cl, T.nG, rf_goal d, _, rfl, _, _, rfl, rfl,
      d, d.t - x, g, d.t - y, ?_, hd, isHold_held hd c, by omega, by omega, by omega, by omega, ?_⟩
    · have e1 : (d.t : Int) - (x : Int) = ((d.t - x : Nat) : Int) := by omega
      have e2 : (d.t : Int) - (y : Int) = ((d.t - y : Nat) : Int) := by omega
      show [V.int (d.s : Int), V.int (d.t : Int), V.int ((d.t : Int) - (x : Int)), V.int (g : Int), V.int ((d.t : Int) - (y : Int))] = _
      rw [e1, e2]
    rw [show d.t - (d.t - x) = x by omega, show d.t - (d.t - y) = y by omega]
    exact k'
abbrev s_go : Stmt := inClass (top 27) 12
theorem sc_go : FnScope ["self", "thrown", "face"] ["self", "thrown"] (defScope s_go) := ⟨rfl, rfl, rfl, by decide +kernel, rfl, by decide +kernel, by decide +kernel⟩
theorem ok_go {f C f2 : Addr} {fd fd2 : FuncData} (F : Fun K "go" "Race.go" s_go f fd) (T : Txt K mg C)
    (A_brought_by : Has K mg "brought_by" s_brought_by ["thrown"] f2 fd2)
    (G_brought_by : FnOk P w K mg base CX0 1 f2 fd2 ["thrown"] spBrought) : FnOk P w K mg base CX0 2 f fd ["self", "thrown"] (spGo C) := by
  obtain ⟨tk, g_OUT_OF_RANGE⟩ := T.oor
  refine F.ok sc_go (fun vs H Q E h => ?_) (fun cdv A outer s H vs Q E hr h => ?_)
  · obtain ⟨a, p, d, fs, rfl, _⟩ := h
    rfl
  · obtain ⟨a, p, d, fs, rfl, hR, hd, hp, k⟩ := h
    have one : (1 : Nat) ≤ sizeLine := by decide
    refine ⟨_, (pss_cons (ps_for PassesOwn.never rfl (pi_list (pv 1)) (pg_name (i := 2) sc_go.nd rfl (by first | exact Or.inl rfl | exact Or.inr rfl)) (pss_one (ps_if (pt_not (pt_chain op_le op_le pe_int (pv 2) (pe_fld (pv 0) rfl))) (pss_one (ps_ret (pe_lst (pa_cons (pe_glob rfl g_OUT_OF_RANGE (show RelV (.int (-1)) _ from ⟨_, rfl⟩)) pa_nil)))) pss_nil)))
      (pss_one (ps_ret (pe_call G_brought_by (hr.mono (by decide)) rfl A_brought_by.m A_brought_by.F.kp A_brought_by.b .nil pass0 (pa_cons (pv 1) pa_nil))))), ?_⟩
    have est : Uw96.step d (.go fs) = (d, if fs.any (fun f => decide (f < 1) || decide (d.s < f)) = true then [-1] else Uw96.ints [(Uw96.went fs 0 0).1, (Uw96.went fs 0 0).2]) := rfl
    have hR' := hR
    obtain ⟨dx, hR'⟩ := hR'
    refine ⟨_, rfl, p, rfl, ⟨_, SqL.of hp⟩, for_list (K := K) (a := p) (xs := (Uw96.ints fs).map V.int) (fun i σ H' => ∃ z : Option V, σ = [some (.ref a), some (.ref p), z] ∧ H' = H ∧ ∀ m : Nat, m < i → ∀ y : Nat, fs[m]? = some y → 1 ≤ y ∧ y ≤ d.s) ⟨none, rfl, rfl, fun m hm => by omega⟩ (fun i σ H' _ ⟨_, _, e, _⟩ => by rw [e]; exact SqL.of hp) ?_ ?_⟩
    · rintro i x σ H' hx ⟨z, rfl, rfl, hall⟩
      rw [ints_get] at hx
      obtain ⟨y, hy, rfl⟩ : ∃ y, fs[i]? = some y ∧ x = V.int (y : Int) := by
        cases q : fs[i]? with
        | none => rw [q] at hx; cases hx
        | some z => rw [q] at hx; exact ⟨z, rfl, (Option.some.inj hx).symm⟩
      refine rd_chainT (hi := (d.s : Int)) rfl (fun Q' q => ⟨_, rfl, a, C, dx, _, _, rfl, hR', T.cl, T.nF, rf_faces d, q⟩) ⟨_, rfl, ite2 (fun c => ?_) (fun c => ?_)⟩
      · simp at c
        have : fs.any (fun f => decide (f < 1) || decide (d.s < f)) = true := by
          rw [List.any_eq_true]
          refine ⟨y, List.mem_of_getElem? hy, ?_⟩
          simp
          omega
        rw [if_pos this] at est
        exact ⟨one, fun r hr => (k.keep hR (congrArg Prod.fst est) (congrArg Prod.snd est)).of (fun b o e => e) r hr⟩
      · simp at c
        refine ⟨_, rfl, rfl, fun m hm y' hy' => ?_⟩
        by_cases e : m = i
        · subst e
          rw [hy] at hy'
          have := Option.some.inj hy'
          omega
        · exact hall m (by omega) y' hy'
    · rintro σ H' ⟨z, rfl, rfl, hall⟩
      have hno : ¬ fs.any (fun f => decide (f < 1) || decide (d.s < f)) = true := by
        intro q
        rw [List.any_eq_true] at q
        obtain ⟨y, hy, hb⟩ := q
        obtain ⟨m, hm⟩ := List.mem_iff_getElem?.mp hy
        have hl : m < ((Uw96.ints fs).map V.int).length := by
          unfold Uw96.ints
          rw [List.length_map, List.length_map]
          exact (List.getElem?_eq_some_iff.mp hm).1
        have := hall m hl y hm
        simp at hb
        omega
      rw [if_neg hno] at est
      exact ⟨_, rfl, p, fs, rfl, hp, k.keep hR (congrArg Prod.fst est) (congrArg Prod.snd est)⟩
end
end Dp
set_option Elab.async false
set_option linter.all false
set_option maxRecDepth 100000
set_option maxHeartbeats 2000000
namespace Dp
open PySem PySem.Spec PyProof.Rows L2
open Uw96 (Frac Die Call)
/-- a call's number and what stands behind it -/
inductive Args : Int → List Int → Call → Prop
  | die (x : Nat) (y : Nat) : Args 0 [(x : Int), (y : Int)] (.die x y)
  | shows : Args 1 [] .shows
  | brings (x : Nat) : Args 2 [(x : Int)] (.brings x)
  | nothing (x : Nat) : Args 3 [(x : Int)] (.nothing x)
  | ends (x : Nat) : Args 4 [(x : Int)] (.ends x)
  | best (x : Nat) : Args 5 [(x : Int)] (.best x)
  | throws (x : Nat) : Args 6 [(x : Int)] (.throws x)
  | turns (x : Nat) (y : Nat) : Args 7 [(x : Int), (y : Int)] (.turns x y)
  | quick (x : Nat) : Args 8 [(x : Int)] (.quick x)
  | duel (x : Nat) (y : Nat) (z : Nat) (u : Nat) : Args 9 [(x : Int), (y : Int), (z : Int), (u : Int)] (.duel x y z u)
  | answer (x : Nat) (y : Nat) (z : Nat) : Args 10 [(x : Int), (y : Int), (z : Int)] (.answer x y z)
  | go (fs : List Nat) : Args 11 ((fs.length : Int) :: Uw96.ints fs) (.go fs)
theorem told_args {r t : List Int} {c : Call} (h : Dm.Told r c t) : ∃ p args, r = p :: (args ++ t) ∧ Args p args c := by
  cases h with
  | die x y => exact ⟨_, _, rfl, .die x y⟩
  | shows => exact ⟨_, _, rfl, .shows⟩
  | brings x => exact ⟨_, _, rfl, .brings x⟩
  | nothing x => exact ⟨_, _, rfl, .nothing x⟩
  | ends x => exact ⟨_, _, rfl, .ends x⟩
  | best x => exact ⟨_, _, rfl, .best x⟩
  | throws x => exact ⟨_, _, rfl, .throws x⟩
  | turns x y => exact ⟨_, _, rfl, .turns x y⟩
  | quick x => exact ⟨_, _, rfl, .quick x⟩
  | duel x y z u => exact ⟨_, _, rfl, .duel x y z u⟩
  | answer x y z => exact ⟨_, _, rfl, .answer x y z⟩
  | go fs => exact ⟨_, _, rfl, .go fs⟩
/-- a method of the class at C -/
structure HasM (K : PySem.W.Frag) (C : Addr) (x qual : Str) (st : Stmt) (ps : List Str) (f : Addr) (fd : FuncData) : Prop where
  F : Fun K x qual st f fd
  b : L2.Binds K fd ps []
  m : Meth K C x f
structure HasI (K : PySem.W.Frag) (C : Addr) (qual : Str) (st : Stmt) (ps : List Str) (f : Addr) (fd : FuncData) : Prop where
  F : Fun K "__init__" qual st f fd
  b : L2.Binds K fd ps []
  M : Mk K C f
theorem eq_no {i j : Int} (h : i ≠ j) : ¬ decide (V.int i = V.int j) = true := fun c => by
  have := of_decide_eq_true c
  injection this with e
  exact h e
theorem eq_yes {i : Int} : decide (V.int i = V.int i) = true := decide_eq_true rfl
theorem Stepped.mono {C a : Addr} {d : Die} {c : Call} {H H1 : Hp} {Q : VK} (h : Stepped C a d c H Q) (s : Same H H1) : Stepped C a d c H1 Q := fun H' p hR keep n e => h H' p hR (fun b o z hb => keep b o (s _ _ z) hb) (s.free n) e
theorem cut_one (x : Int) (l : List Int) : cutV ((x :: l).map V.int) (some 1) none = l.map V.int := by
  unfold cutV
  rw [show (1 : Int) = ((1 : Nat) : Int) from rfl, HT.sIx_nat, HT.sIx_none, List.length_map, List.length_cons, Nat.min_eq_left (by omega)]
  show (l.map V.int).take (l.length + 1 - 1) = _
  rw [Nat.add_sub_cancel, List.take_of_length_le (by rw [List.length_map]; exact Nat.le_refl _)]
def spCall (C : Addr) : Sp := fun vs H Q _ => ∃ (a pl : Addr) (d : Die) (p : Int) (args : List Int) (c : Call), vs = [.ref a, .int p, .ref pl] ∧ RaceAt C H a d ∧ DieOk d ∧ H pl = some (.lst (args.map V.int)) ∧ Args p args c ∧ Stepped C a d c H Q
def counts : List V := [.int 2, .int 0, .int 1, .int 1, .int 1, .int 1, .int 1, .int 2, .int 1, .int 4, .int 3]
theorem Args.count {p : Int} {args : List Int} {c : Call} (h : Args p args c) (hp : p ≠ 11) : atI counts p = some (.int (args.length : Int)) := by
  cases h <;> first | exact absurd rfl hp | rfl
def spEnd (K : PySem.W.Frag) : Sp := fun vs H Q _ => ∃ (a : Addr) (l : List Int) (i : Nat) (p : Int) (args t : List Int) (c : Call), vs = [.ref a, .int i] ∧ SqL K H a (l.map V.int) ∧ l.drop i = p :: (args ++ t) ∧ Args p args c ∧ Q (.int ((i + 1 + args.length : Nat) : Int)) H
theorem drop_get {l : List Int} {i : Nat} {p : Int} {r : List Int} (h : l.drop i = p :: r) (j : Nat) : (l.map V.int)[i + j]? = ((p :: r)[j]?).map V.int := by
  rw [List.getElem?_map, ← h, List.getElem?_drop]
section
variable {P : Program} {w : World} {K : PySem.W.Frag} {mg : Str → Option Value} {base : Heap}
abbrev s_answer_call : Stmt := top 28
theorem sc_answer_call : FnScope ["race", "number", "arguments"] ["race", "number", "arguments"] (defScope s_answer_call) := ⟨rfl, rfl, rfl, by decide +kernel, rfl, by decide +kernel, by decide +kernel⟩
theorem ok_answer_call {f C g0 g1 g2 g3 g4 g5 g6 g7 g8 g9 g10 g11 : Addr} {fd gd0 gd1 gd2 gd3 gd4 gd5 gd6 gd7 gd8 gd9 gd10 gd11 : FuncData} (F : Fun K "answer_call" "answer_call" s_answer_call f fd) (T : Txt K mg C)
    (M_die : HasM K C "die" "Race.die" s_die ["self", "faces", "goal"] g0 gd0) (G_die : FnOk P w K mg base CX0 1 g0 gd0 ["self", "faces", "goal"] (spM2 C .die))
    (M_shows : HasM K C "shows" "Race.shows" s_shows ["self"] g1 gd1) (G_shows : FnOk P w K mg base CX0 1 g1 gd1 ["self"] (spM0 C .shows))
    (M_brings : HasM K C "brings" "Race.brings" s_brings ["self", "hold"] g2 gd2) (G_brings : FnOk P w K mg base CX0 4 g2 gd2 ["self", "hold"] (spM1 C .brings))
    (M_nothing : HasM K C "nothing" "Race.nothing" s_nothing ["self", "hold"] g3 gd3) (G_nothing : FnOk P w K mg base CX0 4 g3 gd3 ["self", "hold"] (spM1 C .nothing))
    (M_ends : HasM K C "ends" "Race.ends" s_ends ["self", "hold"] g4 gd4) (G_ends : FnOk P w K mg base CX0 4 g4 gd4 ["self", "hold"] (spM1 C .ends))
    (M_best : HasM K C "best" "Race.best" s_best ["self", "most"] g5 gd5) (G_best : FnOk P w K mg base CX0 5 g5 gd5 ["self", "most"] (spM1 C .best))
    (M_throws : HasM K C "throws" "Race.throws" s_throws ["self", "hold"] g6 gd6) (G_throws : FnOk P w K mg base CX0 4 g6 gd6 ["self", "hold"] (spM1 C .throws))
    (M_turns : HasM K C "turns" "Race.turns" s_turns ["self", "hold", "points"] g7 gd7) (G_turns : FnOk P w K mg base CX0 6 g7 gd7 ["self", "hold", "points"] (spM2 C .turns))
    (M_quick : HasM K C "quick" "Race.quick" s_quick ["self", "points"] g8 gd8) (G_quick : FnOk P w K mg base CX0 7 g8 gd8 ["self", "points"] (spM1 C .quick))
    (M_duel : HasM K C "duel" "Race.duel" s_duel ["self", "hold", "points", "other_hold", "other_points"] g9 gd9) (G_duel : FnOk P w K mg base CX0 6 g9 gd9 ["self", "hold", "points", "other_hold", "other_points"] (spM4 C .duel))
    (M_answer : HasM K C "answer" "Race.answer" s_answer ["self", "points", "other_hold", "other_points"] g10 gd10) (G_answer : FnOk P w K mg base CX0 7 g10 gd10 ["self", "points", "other_hold", "other_points"] (spM3 C .answer))
    (M_go : HasM K C "go" "Race.go" s_go ["self", "thrown"] g11 gd11) (G_go : FnOk P w K mg base CX0 2 g11 gd11 ["self", "thrown"] (spGo C)) : FnOk P w K mg base CX0 8 f fd ["race", "number", "arguments"] (spCall C) := by
  refine F.ok sc_answer_call (fun vs H Q E h => ?_) (fun cdv A outer s H vs Q E hr h => ?_)
  · obtain ⟨_, _, _, _, _, _, rfl, _⟩ := h
    rfl
  · obtain ⟨a, pl, d, p, args, c, rfl, ⟨dx, hR⟩, hd, hpl, hA, k⟩ := h
    refine ⟨_, (pss_cons (ps_if (pt_cmpR op_eq (pv 1) pe_int (nomark _)) (pss_one (ps_ret (pe_meth (pv 0) T.cl M_die.m G_die (hr.mono (by decide)) M_die.b .nil pass0 (pa_cons (pe_ix ix_list (pv 2) pe_int (fun _ _ => rfl)) (pa_cons (pe_ix ix_list (pv 2) pe_int (fun _ _ => rfl)) pa_nil))))) pss_nil)
      (pss_cons (ps_if (pt_cmpR op_eq (pv 1) pe_int (nomark _)) (pss_one (ps_ret (pe_meth0 (pv 0) T.cl M_shows.m G_shows (hr.mono (by decide)) M_shows.b .nil pass0))) pss_nil)
      (pss_cons (ps_if (pt_cmpR op_eq (pv 1) pe_int (nomark _)) (pss_one (ps_ret (pe_meth (pv 0) T.cl M_brings.m G_brings (hr.mono (by decide)) M_brings.b .nil pass0 (pa_cons (pe_ix ix_list (pv 2) pe_int (fun _ _ => rfl)) pa_nil)))) pss_nil)
      (pss_cons (ps_if (pt_cmpR op_eq (pv 1) pe_int (nomark _)) (pss_one (ps_ret (pe_meth (pv 0) T.cl M_nothing.m G_nothing (hr.mono (by decide)) M_nothing.b .nil pass0 (pa_cons (pe_ix ix_list (pv 2) pe_int (fun _ _ => rfl)) pa_nil)))) pss_nil)
      (pss_cons (ps_if (pt_cmpR op_eq (pv 1) pe_int (nomark _)) (pss_one (ps_ret (pe_meth (pv 0) T.cl M_ends.m G_ends (hr.mono (by decide)) M_ends.b .nil pass0 (pa_cons (pe_ix ix_list (pv 2) pe_int (fun _ _ => rfl)) pa_nil)))) pss_nil)
      (pss_cons (ps_if (pt_cmpR op_eq (pv 1) pe_int (nomark _)) (pss_one (ps_ret (pe_meth (pv 0) T.cl M_best.m G_best (hr.mono (by decide)) M_best.b .nil pass0 (pa_cons (pe_ix ix_list (pv 2) pe_int (fun _ _ => rfl)) pa_nil)))) pss_nil)
      (pss_cons (ps_if (pt_cmpR op_eq (pv 1) pe_int (nomark _)) (pss_one (ps_ret (pe_meth (pv 0) T.cl M_throws.m G_throws (hr.mono (by decide)) M_throws.b .nil pass0 (pa_cons (pe_ix ix_list (pv 2) pe_int (fun _ _ => rfl)) pa_nil)))) pss_nil)
      (pss_cons (ps_if (pt_cmpR op_eq (pv 1) pe_int (nomark _)) (pss_one (ps_ret (pe_meth (pv 0) T.cl M_turns.m G_turns (hr.mono (by decide)) M_turns.b .nil pass0 (pa_cons (pe_ix ix_list (pv 2) pe_int (fun _ _ => rfl)) (pa_cons (pe_ix ix_list (pv 2) pe_int (fun _ _ => rfl)) pa_nil))))) pss_nil)
      (pss_cons (ps_if (pt_cmpR op_eq (pv 1) pe_int (nomark _)) (pss_one (ps_ret (pe_meth (pv 0) T.cl M_quick.m G_quick (hr.mono (by decide)) M_quick.b .nil pass0 (pa_cons (pe_ix ix_list (pv 2) pe_int (fun _ _ => rfl)) pa_nil)))) pss_nil)
      (pss_cons (ps_if (pt_cmpR op_eq (pv 1) pe_int (nomark _)) (pss_one (ps_ret (pe_meth (pv 0) T.cl M_duel.m G_duel (hr.mono (by decide)) M_duel.b .nil pass0 (pa_cons (pe_ix ix_list (pv 2) pe_int (fun _ _ => rfl)) (pa_cons (pe_ix ix_list (pv 2) pe_int (fun _ _ => rfl)) (pa_cons (pe_ix ix_list (pv 2) pe_int (fun _ _ => rfl)) (pa_cons (pe_ix ix_list (pv 2) pe_int (fun _ _ => rfl)) pa_nil))))))) pss_nil)
      (pss_cons (ps_if (pt_cmpR op_eq (pv 1) pe_int (nomark _)) (pss_one (ps_ret (pe_meth (pv 0) T.cl M_answer.m G_answer (hr.mono (by decide)) M_answer.b .nil pass0 (pa_cons (pe_ix ix_list (pv 2) pe_int (fun _ _ => rfl)) (pa_cons (pe_ix ix_list (pv 2) pe_int (fun _ _ => rfl)) (pa_cons (pe_ix ix_list (pv 2) pe_int (fun _ _ => rfl)) pa_nil)))))) pss_nil)
      (pss_one (ps_ret (pe_meth (pv 0) T.cl M_go.m G_go (hr.mono (by decide)) M_go.b .nil pass0 (pa_cons (pe_slice sl_list (pv 2) (po_some pe_int) po_none) pa_nil))))))))))))))), ?_⟩
    cases hA with
    | die x y =>
      refine ⟨_, rfl, rfl, _, rfl, ite2 (fun _ => ?_) (fun c => absurd eq_yes c)⟩
      exact ⟨_, rfl, a, dx, _, rfl, hR, rf_no d (by decide +kernel) (by decide +kernel), _, rfl, pl, _, _, _, rfl, rfl, SqL.of hpl, at_of (j := 0) rfl rfl, _, rfl, pl, _, _, _, rfl, rfl, SqL.of hpl, at_of (j := 1) rfl rfl, a, d, x, y, rfl, ⟨dx, hR⟩, hd, k⟩
    | shows =>
      refine ⟨_, rfl, rfl, _, rfl, ite2 (fun c => absurd c (eq_no (by decide))) (fun _ => ?_)⟩
      refine ⟨_, rfl, rfl, _, rfl, ite2 (fun _ => ?_) (fun c => absurd eq_yes c)⟩
      exact ⟨_, rfl, a, dx, _, rfl, hR, rf_no d (by decide +kernel) (by decide +kernel), a, d, rfl, ⟨dx, hR⟩, hd, k⟩
    | brings x =>
      refine ⟨_, rfl, rfl, _, rfl, ite2 (fun c => absurd c (eq_no (by decide))) (fun _ => ?_)⟩
      refine ⟨_, rfl, rfl, _, rfl, ite2 (fun c => absurd c (eq_no (by decide))) (fun _ => ?_)⟩
      refine ⟨_, rfl, rfl, _, rfl, ite2 (fun _ => ?_) (fun c => absurd eq_yes c)⟩
      exact ⟨_, rfl, a, dx, _, rfl, hR, rf_no d (by decide +kernel) (by decide +kernel), _, rfl, pl, _, _, _, rfl, rfl, SqL.of hpl, at_of (j := 0) rfl rfl, a, d, x, rfl, ⟨dx, hR⟩, hd, k⟩
    | nothing x =>
      refine ⟨_, rfl, rfl, _, rfl, ite2 (fun c => absurd c (eq_no (by decide))) (fun _ => ?_)⟩
      refine ⟨_, rfl, rfl, _, rfl, ite2 (fun c => absurd c (eq_no (by decide))) (fun _ => ?_)⟩
      refine ⟨_, rfl, rfl, _, rfl, ite2 (fun c => absurd c (eq_no (by decide))) (fun _ => ?_)⟩
      refine ⟨_, rfl, rfl, _, rfl, ite2 (fun _ => ?_) (fun c => absurd eq_yes c)⟩
      exact ⟨_, rfl, a, dx, _, rfl, hR, rf_no d (by decide +kernel) (by decide +kernel), _, rfl, pl, _, _, _, rfl, rfl, SqL.of hpl, at_of (j := 0) rfl rfl, a, d, x, rfl, ⟨dx, hR⟩, hd, k⟩
    | ends x =>
      refine ⟨_, rfl, rfl, _, rfl, ite2 (fun c => absurd c (eq_no (by decide))) (fun _ => ?_)⟩
      refine ⟨_, rfl, rfl, _, rfl, ite2 (fun c => absurd c (eq_no (by decide))) (fun _ => ?_)⟩
      refine ⟨_, rfl, rfl, _, rfl, ite2 (fun c => absurd c (eq_no (by decide))) (fun _ => ?_)⟩
      refine ⟨_, rfl, rfl, _, rfl, ite2 (fun c => absurd c (eq_no (by decide))) (fun _ => ?_)⟩
      refine ⟨_, rfl, rfl, _, rfl, ite2 (fun _ => ?_) (fun c => absurd eq_yes c)⟩
      exact ⟨_, rfl, a, dx, _, rfl, hR, rf_no d (by decide +kernel) (by decide +kernel), _, rfl, pl, _, _, _, rfl, rfl, SqL.of hpl, at_of (j := 0) rfl rfl, a, d, x, rfl, ⟨dx, hR⟩, hd, k⟩
    | best x =>
      refine ⟨_, rfl, rfl, _, rfl, ite2 (fun c => absurd c (eq_no (by decide))) (fun _ => ?_)⟩
      refine ⟨_, rfl, rfl, _, rfl, ite2 (fun c => absurd c (eq_no (by decide))) (fun _ => ?_)⟩
      refine ⟨_, rfl, rfl, _, rfl, ite2 (fun c => absurd c (eq_no (by decide))) (fun _ => ?_)⟩
      refine ⟨_, rfl, rfl, _, rfl, ite2 (fun c => absurd c (eq_no (by decide))) (fun _ => ?_)⟩
      refine ⟨_, rfl, rfl, _, rfl, ite2 (fun c => absurd c (eq_no (by decide))) (fun _ => ?_)⟩
      refine ⟨_, rfl, rfl, _, rfl, ite2 (fun _ => ?_) (fun c => absurd eq_yes c)⟩
      exact ⟨_, rfl, a, dx, _, rfl, hR, rf_no d (by decide +kernel) (by decide +kernel), _, rfl, pl, _, _, _, rfl, rfl, SqL.of hpl, at_of (j := 0) rfl rfl, a, d, x, rfl, ⟨dx, hR⟩, hd, k⟩
    | throws x =>
      refine ⟨_, rfl, rfl, _, rfl, ite2 (fun c => absurd c (eq_no (by decide))) (fun _ => ?_)⟩
      refine ⟨_, rfl, rfl, _, rfl, ite2 (fun c => absurd c (eq_no (by decide))) (fun _ => ?_)⟩
      refine ⟨_, rfl, rfl, _, rfl, ite2 (fun c => absurd c (eq_no (by decide))) (fun _ => ?_)⟩
      refine ⟨_, rfl, rfl, _, rfl, ite2 (fun c => absurd c (eq_no (by decide))) (fun _ => ?_)⟩
      refine ⟨_, rfl, rfl, _, rfl, ite2 (fun c => absurd c (eq_no (by decide))) (fun _ => ?_)⟩
      refine ⟨_, rfl, rfl, _, rfl, ite2 (fun c => absurd c (eq_no (by decide))) (fun _ => ?_)⟩
      refine ⟨_, rfl, rfl, _, rfl, ite2 (fun _ => ?_) (fun c => absurd eq_yes c)⟩
      exact ⟨_, rfl, a, dx, _, rfl, hR, rf_no d (by decide +kernel) (by decide +kernel), _, rfl, pl, _, _, _, rfl, rfl, SqL.of hpl, at_of (j := 0) rfl rfl, a, d, x, rfl, ⟨dx, hR⟩, hd, k⟩
    | turns x y =>
      refine ⟨_, rfl, rfl, _, rfl, ite2 (fun c => absurd c (eq_no (by decide))) (fun _ => ?_)⟩
      refine ⟨_, rfl, rfl, _, rfl, ite2 (fun c => absurd c (eq_no (by decide))) (fun _ => ?_)⟩
      refine ⟨_, rfl, rfl, _, rfl, ite2 (fun c => absurd c (eq_no (by decide))) (fun _ => ?_)⟩
      refine ⟨_, rfl, rfl, _, rfl, ite2 (fun c => absurd c (eq_no (by decide))) (fun _ => ?_)⟩
      refine ⟨_, rfl, rfl, _, rfl, ite2 (fun c => absurd c (eq_no (by decide))) (fun _ => ?_)⟩
      refine ⟨_, rfl, rfl, _, rfl, ite2 (fun c => absurd c (eq_no (by decide))) (fun _ => ?_)⟩
      refine ⟨_, rfl, rfl, _, rfl, ite2 (fun c => absurd c (eq_no (by decide))) (fun _ => ?_)⟩
      refine ⟨_, rfl, rfl, _, rfl, ite2 (fun _ => ?_) (fun c => absurd eq_yes c)⟩
      exact ⟨_, rfl, a, dx, _, rfl, hR, rf_no d (by decide +kernel) (by decide +kernel), _, rfl, pl, _, _, _, rfl, rfl, SqL.of hpl, at_of (j := 0) rfl rfl, _, rfl, pl, _, _, _, rfl, rfl, SqL.of hpl, at_of (j := 1) rfl rfl, a, d, x, y, rfl, ⟨dx, hR⟩, hd, k⟩
    | quick x =>
      refine ⟨_, rfl, rfl, _, rfl, ite2 (fun c => absurd c (eq_no (by decide))) (fun _ => ?_)⟩
      refine ⟨_, rfl, rfl, _, rfl, ite2 (fun c => absurd c (eq_no (by decide))) (fun _ => ?_)⟩
      refine ⟨_, rfl, rfl, _, rfl, ite2 (fun c => absurd c (eq_no (by decide))) (fun _ => ?_)⟩
      refine ⟨_, rfl, rfl, _, rfl, ite2 (fun c => absurd c (eq_no (by decide))) (fun _ => ?_)⟩
      refine ⟨_, rfl, rfl, _, rfl, ite2 (fun c => absurd c (eq_no (by decide))) (fun _ => ?_)⟩
      refine ⟨_, rfl, rfl, _, rfl, ite2 (fun c => absurd c (eq_no (by decide))) (fun _ => ?_)⟩
      refine ⟨_, rfl, rfl, _, rfl, ite2 (fun c => absurd c (eq_no (by decide))) (fun _ => ?_)⟩
      refine ⟨_, rfl, rfl, _, rfl, ite2 (fun c => absurd c (eq_no (by decide))) (fun _ => ?_)⟩
      refine ⟨_, rfl, rfl, _, rfl, ite2 (fun _ => ?_) (fun c => absurd eq_yes c)⟩
      exact ⟨_, rfl, a, dx, _, rfl, hR, rf_no d (by decide +kernel) (by decide +kernel), _, rfl, pl, _, _, _, rfl, rfl, SqL.of hpl, at_of (j := 0) rfl rfl, a, d, x, rfl, ⟨dx, hR⟩, hd, k⟩
    | duel x y z u =>
      refine ⟨_, rfl, rfl, _, rfl, ite2 (fun c => absurd c (eq_no (by decide))) (fun _ => ?_)⟩
      refine ⟨_, rfl, rfl, _, rfl, ite2 (fun c => absurd c (eq_no (by decide))) (fun _ => ?_)⟩
      refine ⟨_, rfl, rfl, _, rfl, ite2 (fun c => absurd c (eq_no (by decide))) (fun _ => ?_)⟩
      refine ⟨_, rfl, rfl, _, rfl, ite2 (fun c => absurd c (eq_no (by decide))) (fun _ => ?_)⟩
      refine ⟨_, rfl, rfl, _, rfl, ite2 (fun c => absurd c (eq_no (by decide))) (fun _ => ?_)⟩
      refine ⟨_, rfl, rfl, _, rfl, ite2 (fun c => absurd c (eq_no (by decide))) (fun _ => ?_)⟩
      refine ⟨_, rfl, rfl, _, rfl, ite2 (fun c => absurd c (eq_no (by decide))) (fun _ => ?_)⟩
      refine ⟨_, rfl, rfl, _, rfl, ite2 (fun c => absurd c (eq_no (by decide))) (fun _ => ?_)⟩
      refine ⟨_, rfl, rfl, _, rfl, ite2 (fun c => absurd c (eq_no (by decide))) (fun _ => ?_)⟩
      refine ⟨_, rfl, rfl, _, rfl, ite2 (fun _ => ?_) (fun c => absurd eq_yes c)⟩
      exact ⟨_, rfl, a, dx, _, rfl, hR, rf_no d (by decide +kernel) (by decide +kernel), _, rfl, pl, _, _, _, rfl, rfl, SqL.of hpl, at_of (j := 0) rfl rfl, _, rfl, pl, _, _, _, rfl, rfl, SqL.of hpl, at_of (j := 1) rfl rfl, _, rfl, pl, _, _, _, rfl, rfl, SqL.of hpl, at_of (j := 2) rfl rfl, _, rfl, pl, _, _, _, rfl, rfl, SqL.of hpl, at_of (j := 3) rfl rfl, a, d, x, y, z, u, rfl, ⟨dx, hR⟩, hd, k⟩
    | answer x y z =>
      refine ⟨_, rfl, rfl, _, rfl, ite2 (fun c => absurd c (eq_no (by decide))) (fun _ => ?_)⟩
      refine ⟨_, rfl, rfl, _, rfl, ite2 (fun c => absurd c (eq_no (by decide))) (fun _ => ?_)⟩
      refine ⟨_, rfl, rfl, _, rfl, ite2 (fun c => absurd c (eq_no (by decide))) (fun _ => ?_)⟩
      refine ⟨_, rfl, rfl, _, rfl, ite2 (fun c => absurd c (eq_no (by decide))) (fun _ => ?_)⟩
      refine ⟨_, rfl, rfl, _, rfl, ite2 (fun c => absurd c (eq_no (by decide))) (fun _ => ?_)⟩
      refine ⟨_, rfl, rfl, _, rfl, ite2 (fun c => absurd c (eq_no (by decide))) (fun _ => ?_)⟩
      refine ⟨_, rfl, rfl, _, rfl, ite2 (fun c => absurd c (eq_no (by decide))) (fun _ => ?_)⟩
      refine ⟨_, rfl, rfl, _, rfl, ite2 (fun c => absurd c (eq_no (by decide))) (fun _ => ?_)⟩
      refine ⟨_, rfl, rfl, _, rfl, ite2 (fun c => absurd c (eq_no (by decide))) (fun _ => ?_)⟩
      refine ⟨_, rfl, rfl, _, rfl, ite2 (fun c => absurd c (eq_no (by decide))) (fun _ => ?_)⟩
      refine ⟨_, rfl, rfl, _, rfl, ite2 (fun _ => ?_) (fun c => absurd eq_yes c)⟩
      exact ⟨_, rfl, a, dx, _, rfl, hR, rf_no d (by decide +kernel) (by decide +kernel), _, rfl, pl, _, _, _, rfl, rfl, SqL.of hpl, at_of (j := 0) rfl rfl, _, rfl, pl, _, _, _, rfl, rfl, SqL.of hpl, at_of (j := 1) rfl rfl, _, rfl, pl, _, _, _, rfl, rfl, SqL.of hpl, at_of (j := 2) rfl rfl, a, d, x, y, z, rfl, ⟨dx, hR⟩, hd, k⟩
    | go fs =>
      refine ⟨_, rfl, rfl, _, rfl, ite2 (fun c => absurd c (eq_no (by decide))) (fun _ => ?_)⟩
      refine ⟨_, rfl, rfl, _, rfl, ite2 (fun c => absurd c (eq_no (by decide))) (fun _ => ?_)⟩
      refine ⟨_, rfl, rfl, _, rfl, ite2 (fun c => absurd c (eq_no (by decide))) (fun _ => ?_)⟩
      refine ⟨_, rfl, rfl, _, rfl, ite2 (fun c => absurd c (eq_no (by decide))) (fun _ => ?_)⟩
      refine ⟨_, rfl, rfl, _, rfl, ite2 (fun c => absurd c (eq_no (by decide))) (fun _ => ?_)⟩
      refine ⟨_, rfl, rfl, _, rfl, ite2 (fun c => absurd c (eq_no (by decide))) (fun _ => ?_)⟩
      refine ⟨_, rfl, rfl, _, rfl, ite2 (fun c => absurd c (eq_no (by decide))) (fun _ => ?_)⟩
      refine ⟨_, rfl, rfl, _, rfl, ite2 (fun c => absurd c (eq_no (by decide))) (fun _ => ?_)⟩
      refine ⟨_, rfl, rfl, _, rfl, ite2 (fun c => absurd c (eq_no (by decide))) (fun _ => ?_)⟩
      refine ⟨_, rfl, rfl, _, rfl, ite2 (fun c => absurd c (eq_no (by decide))) (fun _ => ?_)⟩
      refine ⟨_, rfl, rfl, _, rfl, ite2 (fun c => absurd c (eq_no (by decide))) (fun _ => ?_)⟩
      refine ⟨_, rfl, a, dx, _, rfl, hR, rf_no d (by decide +kernel) (by decide +kernel), _, rfl, _, rfl, pl, _, rfl, SqL.of hpl, fun r hr => ?_⟩
      rw [cut_one]
      have s1 : Same H (upd H r (.lst ((Uw96.ints fs).map V.int))) := Same.put (fun b o e => e) hr
      exact ⟨a, r, d, fs, rfl, ⟨dx, s1 _ _ hR⟩, hd, upd_same, k.mono s1⟩
abbrev s_end_of_call : Stmt := top 29
theorem sc_end_of_call : FnScope ["calls", "place", "number"] ["calls", "place"] (defScope s_end_of_call) := ⟨rfl, rfl, rfl, by decide +kernel, rfl, by decide +kernel, by decide +kernel⟩
theorem ok_end_of_call {f ta : Addr} {fd : FuncData} (F : Fun K "end_of_call" "end_of_call" s_end_of_call f fd) (gGO : ∃ t, mg "GO" = some (.int 11 t)) (g_ARGUMENT_COUNTS : mg "ARGUMENT_COUNTS" = some (.ref ta)) (hT : ∀ H : Hp, SqT K H ta counts) : FnOk P w K mg base CX0 1 f fd ["calls", "place"] (spEnd K) := by
  obtain ⟨tk, g_GO⟩ := gGO
  refine F.ok sc_end_of_call (fun vs H Q E h => ?_) (fun cdv A outer s H vs Q E hr h => ?_)
  · obtain ⟨_, _, _, _, _, _, _, rfl, _⟩ := h
    rfl
  · obtain ⟨a, l, i, p, args, t, c, rfl, hs, hl, hA, k⟩ := h
    refine ⟨_, (pss_cons (ps_set (i := 2) sc_end_of_call.nd rfl (by first | exact Or.inl rfl | exact Or.inr rfl) (pe_ix ix_list (pv 0) (pv 1) (fun _ _ => rfl)))
      (pss_cons (ps_if (pt_cmpR op_eq (pv 2) (pe_glob rfl g_GO (show RelV (.int 11) _ from ⟨_, rfl⟩)) (nomark _)) (pss_one (ps_ret (pe_op op_add (pe_op op_add (pv 1) pe_int) (pe_ix ix_list (pv 0) (pe_op op_add (pv 1) pe_int) (fun _ _ => rfl))))) pss_nil)
      (pss_one (ps_ret (pe_op op_add (pe_op op_add (pv 1) pe_int) (pe_ix ix_tup (pe_glob rfl g_ARGUMENT_COUNTS (show RelV (.ref ta) _ from rfl)) (pv 2) (fun _ _ => rfl))))))), ?_⟩
    have g0 := drop_get hl 0
    refine ⟨_, rfl, _, rfl, a, _, _, _, rfl, rfl, hs, at_of (j := i) rfl g0, ?_⟩
    by_cases hp : p = 11
    · subst hp
      cases hA with
      | go fs =>
        refine ⟨_, rfl, rfl, _, rfl, ite2 (fun _ => ?_) (fun c => absurd eq_yes c)⟩
        have g1 := drop_get hl 1
        refine ⟨_, rfl, _, _, rfl, rfl, _, rfl, _, rfl, _, _, rfl, rfl, a, _, _, _, rfl, rfl, hs, at_of (j := i + 1) (by omega) g1, _, _, rfl, rfl, ?_⟩
        have e : ((i + 1 + ((fs.length : Int) :: Uw96.ints fs).length : Nat) : Int) = (i : Int) + 2 + (fs.length : Int) := by
          unfold Uw96.ints
          rw [List.length_cons, List.length_map]
          omega
        rw [e] at k
        exact k
    · refine ⟨_, rfl, rfl, _, rfl, ite2 (fun c => absurd c (eq_no hp)) (fun _ => ?_)⟩
      refine ⟨_, rfl, _, _, rfl, rfl, _, rfl, ta, _, _, _, rfl, rfl, hT H, hA.count hp, _, _, rfl, rfl, ?_⟩
      have e : ((i + 1 + args.length : Nat) : Int) = (i : Int) + 1 + (args.length : Int) := by omega
      rw [e] at k
      exact k
end
end Dp
set_option Elab.async false
set_option linter.all false
set_option maxRecDepth 100000
set_option maxHeartbeats 2000000
namespace Dp
open PySem PySem.Spec PyProof.Rows L2
open Uw96 (Frac Die Call)
def spAns (K : PySem.W.Frag) : Sp := fun vs H Q _ => ∃ (a : Addr) (l : List Int) (cs : List Call), vs = [.ref a] ∧ SqL K H a (l.map V.int) ∧ l.length ≤ 30000 ∧ Dm.Line l cs ∧ (PyFlat.told (Dm.plays Uw96.init cs)).length ≤ 10000000 ∧
  ∀ (H' : Hp) (p : Addr), H' p = some (.lst ((PyFlat.told (Dm.plays Uw96.init cs)).map V.int)) → Q (.ref p) H'
theorem SqL.keep {K : PySem.W.Frag} {H H' : Hp} {a : Addr} {xs : List V} (h : SqL K H a xs) (k : ∀ o, H a = some o → H' a = some o) : SqL K H' a xs := by
  rcases h with h | h
  · rcases h with h | ⟨o, h⟩
    · exact .inl (.inl (k _ h))
    · exact .inl (.inr ⟨o, k _ h⟩)
  · exact .inr h
theorem cut_mid {l : List Int} {i : Nat} {p : Int} {args t : List Int} (h : l.drop i = p :: (args ++ t)) : cutV (l.map V.int) (some ((i : Int) + 1)) (some ((i + 1 + args.length : Nat) : Int)) = args.map V.int := by
  have hl := congrArg List.length h
  rw [List.length_drop, List.length_cons, List.length_append] at hl
  have hd : l.drop (i + 1) = args ++ t := by
    rw [← List.drop_drop, h]
    rfl
  unfold cutV
  rw [show (i : Int) + 1 = ((i + 1 : Nat) : Int) by omega, List.length_map, HT.sIx_nat, HT.sIx_nat, Nat.min_eq_left (by omega), Nat.min_eq_left (by omega), ← List.map_drop, hd, show i + 1 + args.length - (i + 1) = args.length by omega, ← List.map_take, List.take_left']
  rfl
theorem step_ok {d : Die} {c : Call} (h : DieOk d) : DieOk (Uw96.step d c).1 := by
  cases c with
  | die s t =>
    show DieOk (if s < 2 ∨ 10 < s ∨ t < 1 ∨ 10 < t then (d, [-1]) else (⟨s, t⟩, [0]) : Die × List Int).1
    split
    · exact h
    · rename_i q
      exact ⟨by show 2 ≤ s; omega, by show s ≤ 10; omega, by show 1 ≤ t; omega, by show t ≤ 10; omega⟩
  | _ => exact h
section
variable {P : Program} {w : World} {K : PySem.W.Frag} {mg : Str → Option Value} {base : Heap}
abbrev s_answers : Stmt := top 30
theorem sc_answers : FnScope ["calls", "race", "told", "place", "behind", "answer"] ["calls"] (defScope s_answers) := ⟨rfl, rfl, rfl, by decide +kernel, rfl, by decide +kernel, by decide +kernel⟩
theorem ok_answers {f C fi f1 f2 : Addr} {fd fdi fd1 fd2 : FuncData} (F : Fun K "answers" "answers" s_answers f fd) (T : Txt K mg C) (m_Race : mg "Race" = some (.ref C))
    (I_Race : HasI K C "Race.__init__" s___init__ ["self"] fi fdi) (G___init__ : FnOk P w K mg base CX0 1 fi fdi ["self"] (spInit C))
    (A_answer_call : Has K mg "answer_call" s_answer_call ["race", "number", "arguments"] f1 fd1) (G_answer_call : FnOk P w K mg base CX0 8 f1 fd1 ["race", "number", "arguments"] (spCall C))
    (A_end_of_call : Has K mg "end_of_call" s_end_of_call ["calls", "place"] f2 fd2) (G_end_of_call : FnOk P w K mg base CX0 1 f2 fd2 ["calls", "place"] (spEnd K)) : FnOk P w K mg base CX0 9 f fd ["calls"] (spAns K) := by
  refine F.ok sc_answers (fun vs H Q E h => ?_) (fun cdv A outer s H vs Q E hr h => ?_)
  · obtain ⟨_, _, _, rfl, _⟩ := h
    rfl
  · obtain ⟨a, l, cs, rfl, hs, hlen, hline, hbig, k⟩ := h
    have big : (10000001 : Nat) ≤ sizeLine := by decide
    refine ⟨_, (pss_cons (ps_set (i := 1) sc_answers.nd rfl (by first | exact Or.inl rfl | exact Or.inr rfl) (pe_make0 I_Race.M G___init__ (hr.mono (by decide)) rfl m_Race I_Race.b .nil pass0))
      (pss_cons (ps_set (i := 2) sc_answers.nd rfl (by first | exact Or.inl rfl | exact Or.inr rfl) (pe_lst pa_nil))
      (pss_cons (ps_set (i := 3) sc_answers.nd rfl (by first | exact Or.inl rfl | exact Or.inr rfl) pe_int)
      (pss_cons (ps_while PassesOwn.never (pt_cmpR op_lt (pv 3) (pe_callB call_len_seq (by rfl) T.n_len PySem.boot_len (pa_cons (pv 0) pa_nil)) (nomark _)) (pss_cons (ps_set (i := 4) sc_answers.nd rfl (by first | exact Or.inl rfl | exact Or.inr rfl) (pe_call G_end_of_call (hr.mono (by decide)) rfl A_end_of_call.m A_end_of_call.F.kp A_end_of_call.b .nil pass0 (pa_cons (pv 0) (pa_cons (pv 3) pa_nil))))
        (pss_cons (ps_set (i := 5) sc_answers.nd rfl (by first | exact Or.inl rfl | exact Or.inr rfl) (pe_call G_answer_call (hr.mono (by decide)) rfl A_answer_call.m A_answer_call.F.kp A_answer_call.b .nil pass0 (pa_cons (pv 1) (pa_cons (pe_ix ix_list (pv 0) (pv 3) (fun _ _ => rfl)) (pa_cons (pe_slice sl_list (pv 0) (po_some (pe_op op_add (pv 3) pe_int)) (po_some (pv 4))) pa_nil)))))
        (pss_cons (ps_expr (pe_bm PySem.F.plainAttrs_list PySem.F.slot_list_append PySem.F.type_list_append mt_append (pv 2) (pa_cons (pe_callB call_len_seq (by rfl) T.n_len PySem.boot_len (pa_cons (pv 5) pa_nil)) pa_nil)))
        (pss_cons (ps_expr (pe_bm PySem.F.plainAttrs_list PySem.F.slot_list_extend PySem.F.type_list_extend mt_extend (pv 2) (pa_cons (pv 5) pa_nil)))
        (pss_one (ps_set (i := 3) sc_answers.nd rfl (by first | exact Or.inl rfl | exact Or.inr rfl) (pv 4))))))))
      (pss_one (ps_ret (pv 2))))))), ?_⟩
    refine fun pr dx hpr hdx hne => ⟨pr, dx, rfl, upd_same, fun H1 hR1 keep1 => ⟨rfl, ?_⟩⟩
    have ka1 : ∀ o, H a = some o → H1 a = some o := fun o e => by
      have n1 : a ≠ pr := ne_of_none e hpr
      have n2 : a ≠ dx := ne_of_none e hdx
      exact keep1 a o (by rw [upd_ne n1, upd_ne n2]; exact e) n1
    refine ⟨(by show 0 ≤ sizeLine; decide), fun pt hpt => ?_⟩
    have s2 : Same H1 (upd H1 pt (.lst [])) := Same.put (fun b o e => e) hpt
    have hR2 := hR1.same s2
    have ka2 : ∀ o, H a = some o → upd H1 pt (.lst []) a = some o := fun o e => s2 _ _ (ka1 o e)
    have napt : ∀ o, H a = some o → a ≠ pt := fun o e => ne_of_none (ka1 o e) hpt
    have napr : ∀ o, H a = some o → a ≠ pr := fun o e => ne_of_none e hpr
    have ht2 : upd H1 pt (.lst []) pt = some (.lst (([] : List Int).map V.int)) := upd_same
    have hpa : ∀ {H' : Hp} {d : Die} {out : List Int}, RaceAt C H' pr d → H' pt = some (.lst (out.map V.int)) → pt ≠ pr := fun ⟨dx, h1⟩ h2 q => by
      rw [q, h1] at h2
      cases h2
    generalize upd H1 pt (.lst []) = H2 at *
    refine while_by (fun σ H' => ∃ (i : Nat) (d : Die) (cs' : List Call) (out : List Int) (z4 z5 : Option V), σ = [some (.ref a), some (.ref pr), some (.ref pt), some (.int i), z4, z5] ∧ (∀ o, H a = some o → H' a = some o) ∧ RaceAt C H' pr d ∧ DieOk d ∧ H' pt = some (.lst (out.map V.int)) ∧
        Dm.Line (l.drop i) cs' ∧ i ≤ l.length ∧ out ++ PyFlat.told (Dm.plays d cs') = PyFlat.told (Dm.plays Uw96.init cs))
      (fun (σ : L2.St) _ => match σ[3]? with | some (some (V.int i)) => l.length - i.toNat | _ => 0) ⟨0, Uw96.init, cs, [], none, none, rfl, ka2, hR2, ⟨by decide, by decide, by decide, by decide⟩, ht2, hline, Nat.zero_le _, rfl⟩ ?_ ?_
    · rintro σ H' ⟨i, d, cs', out, z4, z5, rfl, ka, hR, hd, ht, hL, hi, hout⟩
      have hs' : SqL K H' a (l.map V.int) := SqL.keep hs ka
      refine ⟨_, rfl, _, rfl, a, _, rfl, .inl hs', _, _, rfl, rfl, _, rfl, ite2 (fun c => ?_) (fun c => ?_)⟩
      · have c : (i : Int) < (((l.map V.int).length : Nat) : Int) := of_decide_eq_true c
        rw [List.length_map] at c
        have hdl : (l.drop i).length = l.length - i := List.length_drop
        generalize hr : l.drop i = r at *
        cases hL with
        | nil =>
          rw [List.length_nil] at hdl
          omega
        | @cons r t c cs' hT hL =>
          obtain ⟨p, args, hra, hA⟩ := told_args hT
          subst hra
          have g0 := drop_get hr 0
          have hlen2 : i + 1 + args.length + t.length = l.length := by
            rw [List.length_cons, List.length_append] at hdl
            omega
          refine ⟨_, rfl, _, rfl, a, l, i, p, args, t, c, rfl, hs', hr, hA, ?_⟩
          refine ⟨_, rfl, _, rfl, _, rfl, a, _, _, _, rfl, rfl, hs', at_of (j := i) rfl g0, _, rfl, _, rfl, _, _, rfl, rfl, _, rfl, _, rfl, _, rfl, a, _, rfl, hs', fun q hq => ?_⟩
          rw [cut_mid hr]
          have s3 : Same H' (upd H' q (.lst (args.map V.int))) := Same.put (fun b o e => e) hq
          refine ⟨pr, q, d, p, args, c, rfl, hR.same s3, hd, upd_same, hA, fun H3 p3 hR3 keep3 n3 hp3 => ?_⟩
          have hpr3 : pt ≠ pr := hpa hR ht
          have ht3 : H3 pt = some (.lst (out.map V.int)) := keep3 _ _ (s3 _ _ ht) hpr3
          have n3t : p3 ≠ pt := fun e => by
            have := s3 _ _ ht
            rw [← e, n3] at this
            cases this
          have hp3pr : p3 ≠ pr := fun e => by
            obtain ⟨dx, hR⟩ := hR
            have := s3 _ _ hR
            rw [← e, n3] at this
            cases this
          have hsum : PyFlat.told (Dm.plays d (c :: cs')) = (((Uw96.step d c).2.length : Int) :: (Uw96.step d c).2) ++ PyFlat.told (Dm.plays (Uw96.step d c).1 cs') := rfl
          have hol : out.length + ((Uw96.step d c).2.length + 1) ≤ 10000000 := by
            have := congrArg List.length hout
            rw [hsum, List.length_append, List.length_append, List.length_cons] at this
            omega
          refine ⟨_, rfl, .inl ⟨rfl, _, SqL.of ht3⟩, _, rfl, p3, _, rfl, .inl (SqL.of hp3), pt, _, _, rfl, rfl, ht3, by rw [List.length_map]; omega, ?_⟩
          have hp4 : upd H3 pt (.lst (out.map V.int ++ [V.int ((((Uw96.step d c).2.map V.int).length : Nat) : Int)])) p3 = some (.lst ((Uw96.step d c).2.map V.int)) := by rw [upd_ne n3t]; exact hp3
          refine ⟨_, rfl, .inl ⟨rfl, _, SqL.of upd_same⟩, _, rfl, pt, p3, _, _, rfl, rfl, upd_same, hp4, ?_, ?_⟩
          · rw [List.length_append, List.length_map, List.length_map]
            show out.length + 1 + (Uw96.step d c).2.length ≤ sizeLine
            omega
          refine ⟨_, rfl, ⟨i + 1 + args.length, (Uw96.step d c).1, cs', out ++ (((Uw96.step d c).2.length : Int) :: (Uw96.step d c).2), _, _, rfl, ?_, ?_, step_ok hd, ?_, ?_, by omega, ?_⟩, ?_⟩
          · intro o e
            rw [upd_ne (napt o e), upd_ne (napt o e)]
            exact keep3 _ _ (s3 _ _ (ka o e)) (napr o e)
          · obtain ⟨dx, hR3⟩ := hR3
            exact ⟨dx, by rw [upd_ne hpr3.symm, upd_ne hpr3.symm]; exact hR3⟩
          · rw [upd_same, List.length_map, List.map_append, List.append_assoc]
            rfl
          · have : l.drop (i + 1 + args.length) = t := by
              rw [show i + 1 + args.length = i + (1 + args.length) by omega, ← List.drop_drop, hr, Nat.add_comm 1, List.drop_succ_cons, List.drop_left']
              rfl
            rw [this]
            exact hL
          · rw [← hout, hsum, List.append_assoc]
          · show l.length - ((i + 1 + args.length : Nat) : Int).toNat < l.length - (i : Int).toNat
            omega
      · have c : ¬ (i : Int) < (((l.map V.int).length : Nat) : Int) := fun q => c (decide_eq_true q)
        rw [List.length_map] at c
        have : i = l.length := by omega
        subst this
        rw [List.drop_length] at hL
        generalize hz : ([] : List Int) = z at hL
        cases hL with
        | cons hT _ =>
          subst hz
          cases hT
        | nil =>
        have hout : out ++ [] = PyFlat.told (Dm.plays Uw96.init cs) := hout
        rw [List.append_nil] at hout
        rw [hout] at ht
        exact ⟨_, rfl, k H' pt ht⟩
    · rintro σ H1 Q1 Q2 hm ⟨v, e, v0, e0, p, xs, e2, h2, i, j, e3, e4, kk, e5, h⟩
      exact ⟨v, e, v0, e0, p, xs, e2, h2, i, j, e3, e4, kk, e5, hm _ _ h⟩
end
end Dp
set_option Elab.async false
set_option linter.all false
set_option maxRecDepth 100000
set_option maxHeartbeats 2000000
namespace Dp
open PySem PySem.Spec PyProof.Rows L2
open PySem.W (Codec)
theorem has_mk {K : PySem.W.Frag} {h : Heap} {mg : Str → Option Value} {x : Str} {st : Stmt} {ps : List Str} {f : Addr} (X : K.In h) (G : h.Ns mainGlobals mg) {od an : Option Addr} {sl : Array (Option Value)} {oc kV dc pm cd ct : Value}
    (a : PySem.W.nsIn K mainGlobals x = some (some (.ref f))) (l : K.lookup f = some ⟨oc, od, .func (PySem.W.fnOf x x (defArgs st) (defBody st) (defScope st) .none kV dc pm an cd ct), sl⟩) (c : PySem.W.codeIn K cd x = true) (k : PySem.W.keepIn K (.ref f) = true)
    (hb : ∀ (kV doc pm : Value) (an : Option Addr) (cdv ct : Value) (us : List Value), us.length = ps.length → bindArgs (PySem.W.fnOf x x (defArgs st) (defBody st) (defScope st) .none kV doc pm an cdv ct) ⟨us, []⟩ = pure (ps.zip us)) : ∃ f fd, Has K mg x st ps f fd :=
  ⟨f, _, fun_mk (st := st) l c k, (fun_mk (st := st) l c k).binds hb, PySem.W.mg_of X G a⟩
theorem hasM_mk {K : PySem.W.Frag} {C : Addr} {x qual : Str} {st : Stmt} {ps : List Str} {f : Addr} {od an : Option Addr} {sl : Array (Option Value)} {oc kV dc pm cd ct : Value}
    (a : PySem.W.findIn K (.ref C) x = some (some (.ref f))) (i : PySem.W.isFn K (.ref f) = true) (l : K.lookup f = some ⟨oc, od, .func (PySem.W.fnOf x qual (defArgs st) (defBody st) (defScope st) .none kV dc pm an cd ct), sl⟩) (c : PySem.W.codeIn K cd qual = true) (k : PySem.W.keepIn K (.ref f) = true)
    (hb : ∀ (kV doc pm : Value) (an : Option Addr) (cdv ct : Value) (us : List Value), us.length = ps.length → bindArgs (PySem.W.fnOf x qual (defArgs st) (defBody st) (defScope st) .none kV doc pm an cdv ct) ⟨us, []⟩ = pure (ps.zip us)) : ∃ f fd, HasM K C x qual st ps f fd :=
  ⟨f, _, fun_mk (st := st) l c k, (fun_mk (st := st) l c k).binds hb, ⟨a, i, k⟩⟩
theorem hasI_mk {K : PySem.W.Frag} {C : Addr} {qual : Str} {st : Stmt} {ps : List Str} {f : Addr} {od an : Option Addr} {sl : Array (Option Value)} {oc kV dc pm cd ct : Value}
    (mk : PySem.W.makesIn K C = true) (kc : PySem.W.keepIn K (.ref C) = true)
    (a : PySem.W.findIn K (.ref C) "__init__" = some (some (.ref f))) (i : PySem.W.isFn K (.ref f) = true) (l : K.lookup f = some ⟨oc, od, .func (PySem.W.fnOf "__init__" qual (defArgs st) (defBody st) (defScope st) .none kV dc pm an cd ct), sl⟩) (c : PySem.W.codeIn K cd qual = true) (k : PySem.W.keepIn K (.ref f) = true)
    (hb : ∀ (kV doc pm : Value) (an : Option Addr) (cdv ct : Value) (us : List Value), us.length = ps.length → bindArgs (PySem.W.fnOf "__init__" qual (defArgs st) (defBody st) (defScope st) .none kV doc pm an cdv ct) ⟨us, []⟩ = pure (ps.zip us)) : ∃ f fd, HasI K C qual st ps f fd :=
  ⟨f, _, fun_mk (st := st) l c k, (fun_mk (st := st) l c k).binds hb, ⟨mk, a, i, kc⟩⟩
theorem hasB_mk {K : PySem.W.Frag} {h : Heap} {mg : Str → Option Value} {x : Str} {st : Stmt} {ps : List Str} {f : Addr} (X : K.In h) (G : h.Ns mainGlobals mg) {od an : Option Addr} {sl : Array (Option Value)} {oc kV dc pm cd ct : Value}
    (a : PySem.W.nsIn K mainGlobals x = some (some (.ref f))) (l : K.lookup f = some ⟨oc, od, .func (PySem.W.fnOf x x (defArgs st) (defBody st) (defScope st) .none kV dc pm an cd ct), sl⟩) (c : PySem.W.codeIn K cd x = true) (k : PySem.W.keepIn K (.ref f) = true)
    (hb : ∀ (kV doc pm : Value) (an : Option Addr) (cdv ct : Value) (us : List Value), us.length = ps.length → bindArgs (PySem.W.fnOf x x (defArgs st) (defBody st) (defScope st) .none kV doc pm an cdv ct) ⟨us, []⟩ = pure (ps.zip us)) : ∃ f fd, Has K mg x st ps f fd ∧ ∀ (s : Shared) (us : List Value), us.length = ps.length → BindsTo s fd ⟨us, []⟩ (ps.zip us) :=
  ⟨f, _, ⟨fun_mk (st := st) l c k, (fun_mk (st := st) l c k).binds hb, PySem.W.mg_of X G a⟩, fun s us hu => .of_eq (hb _ _ _ _ _ _ us hu)⟩
structure ClsT (K : PySem.W.Frag) (mg : Str → Option Value) (C : Addr) : Prop where
  cl : Cls K C
  m : mg "Race" = some (.ref C)
  nF : NoAttr K C "faces"
  nG : NoAttr K C "goal"
theorem cls_mk {K : PySem.W.Frag} {h : Heap} {mg : Str → Option Value} {C : Addr} (X : K.In h) (G : h.Ns mainGlobals mg) (a : PySem.W.nsIn K mainGlobals "Race" = some (some (.ref C)))
    (pg : PySem.W.plainGet K C Str.empty = true) (hd : PySem.W.hasDictIn K C = true) (po : PySem.W.plainOver K C = true) (sa : PySem.W.findIn K (.ref C) "__setattr__" = some (some (.builtin "object.__setattr__")))
    (nF : PySem.W.findIn K (.ref C) "faces" = some none) (nG : PySem.W.findIn K (.ref C) "goal" = some none) : ClsT K mg C :=
  ⟨⟨pg, hd, po, sa⟩, PySem.W.mg_of X G a, nF, nG⟩
theorem int_mk {K : PySem.W.Frag} {h : Heap} {mg : Str → Option Value} {x : Str} {i : Int} {t : Tok} (X : K.In h) (G : h.Ns mainGlobals mg) (a : PySem.W.nsIn K mainGlobals x = some (some (.int i t))) : ∃ t, mg x = some (.int i t) := ⟨t, PySem.W.mg_of X G a⟩
theorem tup_mk {K : PySem.W.Frag} {h : Heap} {mg : Str → Option Value} {x : Str} {ta : Addr} {od : Option Addr} {sl : Array (Option Value)} {its : Array Value} {n : Nat} {xs : List V} (X : K.In h) (G : h.Ns mainGlobals mg) (a : PySem.W.nsIn K mainGlobals x = some (some (.ref ta)))
    (l : K.lookup ta = some ⟨.type "tuple", od, .seq its n, sl⟩) (z : its.size ≤ sizeLine) (v : Vals xs its.toList) : ∃ ta, mg x = some (.ref ta) ∧ ∀ H : Hp, SqT K H ta xs :=
  ⟨ta, PySem.W.mg_of X G a, fun H => .inr ⟨_, its, n, l, rfl, rfl, z, v⟩⟩
theorem all_ok {P : Program} {w : World} {K : PySem.W.Frag} {mg : Str → Option Value} {C : Addr} (Tb : Bi mg) (HC : ClsT K mg C) (oor : ∃ t, mg "OUT_OF_RANGE" = some (.int (-1) t)) (atg : ∃ t, mg "AT_GOAL" = some (.int (-3) t)) (gGO : ∃ t, mg "GO" = some (.int 11 t)) (gAC : ∃ ta, mg "ARGUMENT_COUNTS" = some (.ref ta) ∧ ∀ H : Hp, SqT K H ta counts)
    {f_lowest : Addr} {fd_lowest : FuncData} (A_lowest : Has K mg "lowest" s_lowest ["above", "below"] f_lowest fd_lowest)
    {f_whole_weight : Addr} {fd_whole_weight : FuncData} (A_whole_weight : Has K mg "whole_weight" s_whole_weight ["faces", "hold"] f_whole_weight fd_whole_weight)
    {f_weights_of_sums : Addr} {fd_weights_of_sums : FuncData} (A_weights_of_sums : Has K mg "weights_of_sums" s_weights_of_sums ["faces", "hold"] f_weights_of_sums fd_weights_of_sums)
    {f_average : Addr} {fd_average : FuncData} (A_average : Has K mg "average" s_average ["faces", "hold"] f_average fd_average)
    {f_chance_of_nothing : Addr} {fd_chance_of_nothing : FuncData} (A_chance_of_nothing : Has K mg "chance_of_nothing" s_chance_of_nothing ["faces", "hold"] f_chance_of_nothing fd_chance_of_nothing)
    {f_average_throws : Addr} {fd_average_throws : FuncData} (A_average_throws : Has K mg "average_throws" s_average_throws ["faces", "hold"] f_average_throws fd_average_throws)
    {f_chances_of_ends : Addr} {fd_chances_of_ends : FuncData} (A_chances_of_ends : Has K mg "chances_of_ends" s_chances_of_ends ["faces", "hold"] f_chances_of_ends fd_chances_of_ends)
    {f_is_more : Addr} {fd_is_more : FuncData} (A_is_more : Has K mg "is_more" s_is_more ["one", "other"] f_is_more fd_is_more)
    {f_first_highest : Addr} {fd_first_highest : FuncData} (A_first_highest : Has K mg "first_highest" s_first_highest ["fractions"] f_first_highest fd_first_highest)
    {f_best_hold : Addr} {fd_best_hold : FuncData} (A_best_hold : Has K mg "best_hold" s_best_hold ["faces", "most"] f_best_hold fd_best_hold)
    {f_shared_sum : Addr} {fd_shared_sum : FuncData} (A_shared_sum : Has K mg "shared_sum" s_shared_sum ["weights", "fractions", "whole"] f_shared_sum fd_shared_sum)
    {f_weights_of_missing : Addr} {fd_weights_of_missing : FuncData} (A_weights_of_missing : Has K mg "weights_of_missing" s_weights_of_missing ["faces", "hold", "missing"] f_weights_of_missing fd_weights_of_missing)
    {f_weights_in_race : Addr} {fd_weights_in_race : FuncData} (A_weights_in_race : Has K mg "weights_in_race" s_weights_in_race ["faces", "hold", "missing"] f_weights_in_race fd_weights_in_race)
    {f_average_turns : Addr} {fd_average_turns : FuncData} (A_average_turns : Has K mg "average_turns" s_average_turns ["faces", "hold", "missing"] f_average_turns fd_average_turns)
    {f_quick_hold : Addr} {fd_quick_hold : FuncData} (A_quick_hold : Has K mg "quick_hold" s_quick_hold ["faces", "most", "missing"] f_quick_hold fd_quick_hold)
    {f_chances_of_two : Addr} {fd_chances_of_two : FuncData} (A_chances_of_two : Has K mg "chances_of_two" s_chances_of_two ["own", "waiting", "other", "at_turn"] f_chances_of_two fd_chances_of_two)
    {f_chance_to_win : Addr} {fd_chance_to_win : FuncData} (A_chance_to_win : Has K mg "chance_to_win" s_chance_to_win ["own", "other"] f_chance_to_win fd_chance_to_win)
    {f_duel_chance : Addr} {fd_duel_chance : FuncData} (A_duel_chance : Has K mg "duel_chance" s_duel_chance ["faces", "hold", "missing", "other_hold", "other_missing"] f_duel_chance fd_duel_chance)
    {f_answer_hold : Addr} {fd_answer_hold : FuncData} (A_answer_hold : Has K mg "answer_hold" s_answer_hold ["faces", "most", "missing", "other_hold", "other_missing"] f_answer_hold fd_answer_hold)
    {f_brought_by : Addr} {fd_brought_by : FuncData} (A_brought_by : Has K mg "brought_by" s_brought_by ["thrown"] f_brought_by fd_brought_by)
    {f_is_hold : Addr} {fd_is_hold : FuncData} (A_is_hold : Has K mg "is_hold" s_is_hold ["number"] f_is_hold fd_is_hold)
    {f_answer_call : Addr} {fd_answer_call : FuncData} (A_answer_call : Has K mg "answer_call" s_answer_call ["race", "number", "arguments"] f_answer_call fd_answer_call)
    {f_end_of_call : Addr} {fd_end_of_call : FuncData} (A_end_of_call : Has K mg "end_of_call" s_end_of_call ["calls", "place"] f_end_of_call fd_end_of_call)
    {f_answers : Addr} {fd_answers : FuncData} (A_answers : Has K mg "answers" s_answers ["calls"] f_answers fd_answers)
    {g___init__ : Addr} {gd___init__ : FuncData} (M___init__ : HasI K C "Race.__init__" s___init__ ["self"] g___init__ gd___init__)
    {g_die : Addr} {gd_die : FuncData} (M_die : HasM K C "die" "Race.die" s_die ["self", "faces", "goal"] g_die gd_die)
    {g_shows : Addr} {gd_shows : FuncData} (M_shows : HasM K C "shows" "Race.shows" s_shows ["self"] g_shows gd_shows)
    {g_brings : Addr} {gd_brings : FuncData} (M_brings : HasM K C "brings" "Race.brings" s_brings ["self", "hold"] g_brings gd_brings)
    {g_nothing : Addr} {gd_nothing : FuncData} (M_nothing : HasM K C "nothing" "Race.nothing" s_nothing ["self", "hold"] g_nothing gd_nothing)
    {g_ends : Addr} {gd_ends : FuncData} (M_ends : HasM K C "ends" "Race.ends" s_ends ["self", "hold"] g_ends gd_ends)
    {g_best : Addr} {gd_best : FuncData} (M_best : HasM K C "best" "Race.best" s_best ["self", "most"] g_best gd_best)
    {g_throws : Addr} {gd_throws : FuncData} (M_throws : HasM K C "throws" "Race.throws" s_throws ["self", "hold"] g_throws gd_throws)
    {g_turns : Addr} {gd_turns : FuncData} (M_turns : HasM K C "turns" "Race.turns" s_turns ["self", "hold", "points"] g_turns gd_turns)
    {g_quick : Addr} {gd_quick : FuncData} (M_quick : HasM K C "quick" "Race.quick" s_quick ["self", "points"] g_quick gd_quick)
    {g_duel : Addr} {gd_duel : FuncData} (M_duel : HasM K C "duel" "Race.duel" s_duel ["self", "hold", "points", "other_hold", "other_points"] g_duel gd_duel)
    {g_answer : Addr} {gd_answer : FuncData} (M_answer : HasM K C "answer" "Race.answer" s_answer ["self", "points", "other_hold", "other_points"] g_answer gd_answer)
    {g_go : Addr} {gd_go : FuncData} (M_go : HasM K C "go" "Race.go" s_go ["self", "thrown"] g_go gd_go)
    (base : Heap) : FnOk P w K mg base CX0 9 f_answers fd_answers ["calls"] (spAns K) := by
  obtain ⟨ta, gAC, hT⟩ := gAC
  have T : Txt K mg C := ⟨Tb, HC.cl, HC.nF, HC.nG, oor, atg⟩
  have G_weights_of_sums : FnOk P w K mg base CX0 2 f_weights_of_sums fd_weights_of_sums ["faces", "hold"] (spWeights) := ok_weights_of_sums A_weights_of_sums.F Tb A_whole_weight.F A_whole_weight.b A_whole_weight.m
  have G_average : FnOk P w K mg base CX0 3 f_average fd_average ["faces", "hold"] (spFrac Uw96.brings) := ok_average A_average.F Tb A_lowest.F A_lowest.b A_lowest.m A_weights_of_sums.F A_weights_of_sums.b A_weights_of_sums.m G_weights_of_sums
  have G_chance_of_nothing : FnOk P w K mg base CX0 3 f_chance_of_nothing fd_chance_of_nothing ["faces", "hold"] (spFrac Uw96.nothing) := ok_chance_of_nothing A_chance_of_nothing.F Tb A_lowest.F A_lowest.b A_lowest.m A_weights_of_sums.F A_weights_of_sums.b A_weights_of_sums.m G_weights_of_sums
  have G_average_throws : FnOk P w K mg base CX0 3 f_average_throws fd_average_throws ["faces", "hold"] (spFrac Uw96.throws) := ok_average_throws A_average_throws.F Tb A_lowest A_weights_of_sums G_weights_of_sums
  have G_chances_of_ends : FnOk P w K mg base CX0 3 f_chances_of_ends fd_chances_of_ends ["faces", "hold"] (spEnds) := ok_chances_of_ends A_chances_of_ends.F Tb A_lowest.F A_lowest.b A_lowest.m A_weights_of_sums.F A_weights_of_sums.b A_weights_of_sums.m G_weights_of_sums
  have G_first_highest : FnOk P w K mg base CX0 2 f_first_highest fd_first_highest ["fractions"] (spFirst) := ok_first_highest A_first_highest.F Tb A_is_more
  have G_best_hold : FnOk P w K mg base CX0 4 f_best_hold fd_best_hold ["faces", "most"] (spBest) := ok_best_hold A_best_hold.F Tb A_average G_average A_first_highest G_first_highest
  have G_shared_sum : FnOk P w K mg base CX0 2 f_shared_sum fd_shared_sum ["weights", "fractions", "whole"] (spShared) := ok_shared_sum A_shared_sum.F Tb A_lowest
  have G_weights_of_missing : FnOk P w K mg base CX0 3 f_weights_of_missing fd_weights_of_missing ["faces", "hold", "missing"] (spMissing) := ok_weights_of_missing A_weights_of_missing.F Tb A_weights_of_sums G_weights_of_sums
  have G_weights_in_race : FnOk P w K mg base CX0 4 f_weights_in_race fd_weights_in_race ["faces", "hold", "missing"] (spInRace) := ok_weights_in_race A_weights_in_race.F Tb A_weights_of_missing G_weights_of_missing
  have G_average_turns : FnOk P w K mg base CX0 5 f_average_turns fd_average_turns ["faces", "hold", "missing"] (spTurns) := ok_average_turns A_average_turns.F Tb A_weights_in_race G_weights_in_race A_shared_sum G_shared_sum
  have G_quick_hold : FnOk P w K mg base CX0 6 f_quick_hold fd_quick_hold ["faces", "most", "missing"] (spQuick) := ok_quick_hold A_quick_hold.F Tb A_average_turns G_average_turns A_first_highest G_first_highest
  have G_chances_of_two : FnOk P w K mg base CX0 3 f_chances_of_two fd_chances_of_two ["own", "waiting", "other", "at_turn"] (spTwo) := ok_chances_of_two A_chances_of_two.F Tb A_shared_sum G_shared_sum
  have G_chance_to_win : FnOk P w K mg base CX0 4 f_chance_to_win fd_chance_to_win ["own", "other"] (spWin) := ok_chance_to_win A_chance_to_win.F Tb A_chances_of_two G_chances_of_two
  have G_duel_chance : FnOk P w K mg base CX0 5 f_duel_chance fd_duel_chance ["faces", "hold", "missing", "other_hold", "other_missing"] (spDuel) := ok_duel_chance A_duel_chance.F Tb A_weights_in_race G_weights_in_race A_chance_to_win G_chance_to_win
  have G_answer_hold : FnOk P w K mg base CX0 6 f_answer_hold fd_answer_hold ["faces", "most", "missing", "other_hold", "other_missing"] (spAnswer) := ok_answer_hold A_answer_hold.F Tb A_duel_chance G_duel_chance A_first_highest G_first_highest
  have G_brought_by : FnOk P w K mg base CX0 1 f_brought_by fd_brought_by ["thrown"] (spBrought) := ok_brought_by A_brought_by.F Tb
  have N___init__ : FnOk P w K mg base CX0 1 g___init__ gd___init__ ["self"] (spInit C) := ok___init__ M___init__.F T
  have N_die : FnOk P w K mg base CX0 1 g_die gd_die ["self", "faces", "goal"] (spM2 C .die) := ok_die M_die.F T
  have N_shows : FnOk P w K mg base CX0 1 g_shows gd_shows ["self"] (spM0 C .shows) := ok_shows M_shows.F T
  have N_brings : FnOk P w K mg base CX0 4 g_brings gd_brings ["self", "hold"] (spM1 C .brings) := ok_brings M_brings.F T A_is_hold A_average G_average
  have N_nothing : FnOk P w K mg base CX0 4 g_nothing gd_nothing ["self", "hold"] (spM1 C .nothing) := ok_nothing M_nothing.F T A_is_hold A_chance_of_nothing G_chance_of_nothing
  have N_ends : FnOk P w K mg base CX0 4 g_ends gd_ends ["self", "hold"] (spM1 C .ends) := ok_ends M_ends.F T A_is_hold A_chances_of_ends G_chances_of_ends
  have N_best : FnOk P w K mg base CX0 5 g_best gd_best ["self", "most"] (spM1 C .best) := ok_best M_best.F T A_is_hold A_best_hold G_best_hold
  have N_throws : FnOk P w K mg base CX0 4 g_throws gd_throws ["self", "hold"] (spM1 C .throws) := ok_throws M_throws.F T A_is_hold A_average_throws G_average_throws
  have N_turns : FnOk P w K mg base CX0 6 g_turns gd_turns ["self", "hold", "points"] (spM2 C .turns) := ok_turns M_turns.F T A_is_hold A_average_turns G_average_turns
  have N_quick : FnOk P w K mg base CX0 7 g_quick gd_quick ["self", "points"] (spM1 C .quick) := ok_quick M_quick.F T A_quick_hold G_quick_hold
  have N_duel : FnOk P w K mg base CX0 6 g_duel gd_duel ["self", "hold", "points", "other_hold", "other_points"] (spM4 C .duel) := ok_duel M_duel.F T A_is_hold A_duel_chance G_duel_chance
  have N_answer : FnOk P w K mg base CX0 7 g_answer gd_answer ["self", "points", "other_hold", "other_points"] (spM3 C .answer) := ok_answer M_answer.F T A_is_hold A_answer_hold G_answer_hold
  have N_go : FnOk P w K mg base CX0 2 g_go gd_go ["self", "thrown"] (spGo C) := ok_go M_go.F T A_brought_by G_brought_by
  have G_answer_call : FnOk P w K mg base CX0 8 f_answer_call fd_answer_call ["race", "number", "arguments"] (spCall C) := ok_answer_call A_answer_call.F T M_die N_die M_shows N_shows M_brings N_brings M_nothing N_nothing M_ends N_ends M_best N_best M_throws N_throws M_turns N_turns M_quick N_quick M_duel N_duel M_answer N_answer M_go N_go
  have G_end_of_call : FnOk P w K mg base CX0 1 f_end_of_call fd_end_of_call ["calls", "place"] (spEnd K) := ok_end_of_call A_end_of_call.F gGO gAC hT
  exact ok_answers A_answers.F T HC.m M___init__ N___init__ A_answer_call G_answer_call A_end_of_call G_end_of_call
end Dp
open PySem PySem.W PyProof.Rows
set_option maxRecDepth 100000 in
set_option maxHeartbeats 0 in
theorem PySem.Challenge.cw_daringdie_s01_answers_holds : PySem.Challenge.rw_daringdie_s01_answers.Holds := by
  w_on; k_headS; (case hw => exact ⟨[.list [.int 1]], by decide +kernel, by decide +kernel⟩)
  k_fillS
  refine L2.walk_specK (r := PySem.Challenge.rw_daringdie_s01_answers) (k := 9) (CX := L2.CX0) (ps := ["calls"]) (sp := Dp.spAns) (by decide +kernel) rfl rfl ⟨rfl, by decide, by decide⟩ (fun w h Y => PySem.W.kIn_of Y) ?F ?S (fun _ _ _ _ z => z)
  case F =>
    intro w mg fa h Y KX G hmg
    have Tb : Dp.Bi mg := by
      refine' ⟨PySem.W.mg_none_of KX G ?b1, PySem.W.mg_none_of KX G ?b2, PySem.W.mg_none_of KX G ?b3, PySem.W.mg_none_of KX G ?b4, PySem.W.mg_none_of KX G ?b5⟩
      (case b1 => k_is); (case b2 => k_is); (case b3 => k_is); (case b4 => k_is); (case b5 => k_is)
    have oor : ∃ t, mg "OUT_OF_RANGE" = some (.int (-1) t) := by
      refine' Dp.int_mk KX G ?a
      (case a => k_is)
    have atg : ∃ t, mg "AT_GOAL" = some (.int (-3) t) := by
      refine' Dp.int_mk KX G ?a
      (case a => k_is)
    have gGO : ∃ t, mg "GO" = some (.int 11 t) := by
      refine' Dp.int_mk KX G ?a
      (case a => k_is)
    have gAC : ∃ ta, mg "ARGUMENT_COUNTS" = some (.ref ta) ∧ ∀ H : L2.Hp, L2.SqT (L2.KOf KX) H ta Dp.counts := by
      dsimp only [L2.KOf]
      refine' Dp.tup_mk KX G ?a ?l ?z ?v
      (case a => k_is); (case l => k_is)
      (case z => exact (by show 11 ≤ sizeLine; decide))
      (case v => exact .cons ⟨_, rfl⟩ (.cons ⟨_, rfl⟩ (.cons ⟨_, rfl⟩ (.cons ⟨_, rfl⟩ (.cons ⟨_, rfl⟩ (.cons ⟨_, rfl⟩ (.cons ⟨_, rfl⟩ (.cons ⟨_, rfl⟩ (.cons ⟨_, rfl⟩ (.cons ⟨_, rfl⟩ (.cons ⟨_, rfl⟩ .nil)))))))))))
    have ⟨f_lowest, fd_lowest, A_lowest⟩ : ∃ f fd, Dp.Has (L2.KOf KX) mg "lowest" Dp.s_lowest ["above", "below"] f fd := by
      dsimp only [L2.KOf]
      refine' Dp.has_mk KX G ?a ?l ?c ?k (fun _ _ _ _ _ _ us hl => match us, hl with | [_, _], _ => rfl)
      (case a => k_is); (case l => k_is); (case c => k_is); (case k => k_is)
    have ⟨f_whole_weight, fd_whole_weight, A_whole_weight⟩ : ∃ f fd, Dp.Has (L2.KOf KX) mg "whole_weight" Dp.s_whole_weight ["faces", "hold"] f fd := by
      dsimp only [L2.KOf]
      refine' Dp.has_mk KX G ?a ?l ?c ?k (fun _ _ _ _ _ _ us hl => match us, hl with | [_, _], _ => rfl)
      (case a => k_is); (case l => k_is); (case c => k_is); (case k => k_is)
    have ⟨f_weights_of_sums, fd_weights_of_sums, A_weights_of_sums⟩ : ∃ f fd, Dp.Has (L2.KOf KX) mg "weights_of_sums" Dp.s_weights_of_sums ["faces", "hold"] f fd := by
      dsimp only [L2.KOf]
      refine' Dp.has_mk KX G ?a ?l ?c ?k (fun _ _ _ _ _ _ us hl => match us, hl with | [_, _], _ => rfl)
      (case a => k_is); (case l => k_is); (case c => k_is); (case k => k_is)
    have ⟨f_average, fd_average, A_average⟩ : ∃ f fd, Dp.Has (L2.KOf KX) mg "average" Dp.s_average ["faces", "hold"] f fd := by
      dsimp only [L2.KOf]
      refine' Dp.has_mk KX G ?a ?l ?c ?k (fun _ _ _ _ _ _ us hl => match us, hl with | [_, _], _ => rfl)
      (case a => k_is); (case l => k_is); (case c => k_is); (case k => k_is)
    have ⟨f_chance_of_nothing, fd_chance_of_nothing, A_chance_of_nothing⟩ : ∃ f fd, Dp.Has (L2.KOf KX) mg "chance_of_nothing" Dp.s_chance_of_nothing ["faces", "hold"] f fd := by
      dsimp only [L2.KOf]
      refine' Dp.has_mk KX G ?a ?l ?c ?k (fun _ _ _ _ _ _ us hl => match us, hl with | [_, _], _ => rfl)
      (case a => k_is); (case l => k_is); (case c => k_is); (case k => k_is)
    have ⟨f_average_throws, fd_average_throws, A_average_throws⟩ : ∃ f fd, Dp.Has (L2.KOf KX) mg "average_throws" Dp.s_average_throws ["faces", "hold"] f fd := by
      dsimp only [L2.KOf]
      refine' Dp.has_mk KX G ?a ?l ?c ?k (fun _ _ _ _ _ _ us hl => match us, hl with | [_, _], _ => rfl)
      (case a => k_is); (case l => k_is); (case c => k_is); (case k => k_is)
    have ⟨f_chances_of_ends, fd_chances_of_ends, A_chances_of_ends⟩ : ∃ f fd, Dp.Has (L2.KOf KX) mg "chances_of_ends" Dp.s_chances_of_ends ["faces", "hold"] f fd := by
      dsimp only [L2.KOf]
      refine' Dp.has_mk KX G ?a ?l ?c ?k (fun _ _ _ _ _ _ us hl => match us, hl with | [_, _], _ => rfl)
      (case a => k_is); (case l => k_is); (case c => k_is); (case k => k_is)
    have ⟨f_is_more, fd_is_more, A_is_more⟩ : ∃ f fd, Dp.Has (L2.KOf KX) mg "is_more" Dp.s_is_more ["one", "other"] f fd := by
      dsimp only [L2.KOf]
      refine' Dp.has_mk KX G ?a ?l ?c ?k (fun _ _ _ _ _ _ us hl => match us, hl with | [_, _], _ => rfl)
      (case a => k_is); (case l => k_is); (case c => k_is); (case k => k_is)
    have ⟨f_first_highest, fd_first_highest, A_first_highest⟩ : ∃ f fd, Dp.Has (L2.KOf KX) mg "first_highest" Dp.s_first_highest ["fractions"] f fd := by
      dsimp only [L2.KOf]
      refine' Dp.has_mk KX G ?a ?l ?c ?k (fun _ _ _ _ _ _ us hl => match us, hl with | [_], _ => rfl)
      (case a => k_is); (case l => k_is); (case c => k_is); (case k => k_is)
    have ⟨f_best_hold, fd_best_hold, A_best_hold⟩ : ∃ f fd, Dp.Has (L2.KOf KX) mg "best_hold" Dp.s_best_hold ["faces", "most"] f fd := by
      dsimp only [L2.KOf]
      refine' Dp.has_mk KX G ?a ?l ?c ?k (fun _ _ _ _ _ _ us hl => match us, hl with | [_, _], _ => rfl)
      (case a => k_is); (case l => k_is); (case c => k_is); (case k => k_is)
    have ⟨f_shared_sum, fd_shared_sum, A_shared_sum⟩ : ∃ f fd, Dp.Has (L2.KOf KX) mg "shared_sum" Dp.s_shared_sum ["weights", "fractions", "whole"] f fd := by
      dsimp only [L2.KOf]
      refine' Dp.has_mk KX G ?a ?l ?c ?k (fun _ _ _ _ _ _ us hl => match us, hl with | [_, _, _], _ => rfl)
      (case a => k_is); (case l => k_is); (case c => k_is); (case k => k_is)
    have ⟨f_weights_of_missing, fd_weights_of_missing, A_weights_of_missing⟩ : ∃ f fd, Dp.Has (L2.KOf KX) mg "weights_of_missing" Dp.s_weights_of_missing ["faces", "hold", "missing"] f fd := by
      dsimp only [L2.KOf]
      refine' Dp.has_mk KX G ?a ?l ?c ?k (fun _ _ _ _ _ _ us hl => match us, hl with | [_, _, _], _ => rfl)
      (case a => k_is); (case l => k_is); (case c => k_is); (case k => k_is)
    have ⟨f_weights_in_race, fd_weights_in_race, A_weights_in_race⟩ : ∃ f fd, Dp.Has (L2.KOf KX) mg "weights_in_race" Dp.s_weights_in_race ["faces", "hold", "missing"] f fd := by
      dsimp only [L2.KOf]
      refine' Dp.has_mk KX G ?a ?l ?c ?k (fun _ _ _ _ _ _ us hl => match us, hl with | [_, _, _], _ => rfl)
      (case a => k_is); (case l => k_is); (case c => k_is); (case k => k_is)
    have ⟨f_average_turns, fd_average_turns, A_average_turns⟩ : ∃ f fd, Dp.Has (L2.KOf KX) mg "average_turns" Dp.s_average_turns ["faces", "hold", "missing"] f fd := by
      dsimp only [L2.KOf]
      refine' Dp.has_mk KX G ?a ?l ?c ?k (fun _ _ _ _ _ _ us hl => match us, hl with | [_, _, _], _ => rfl)
      (case a => k_is); (case l => k_is); (case c => k_is); (case k => k_is)
    have ⟨f_quick_hold, fd_quick_hold, A_quick_hold⟩ : ∃ f fd, Dp.Has (L2.KOf KX) mg "quick_hold" Dp.s_quick_hold ["faces", "most", "missing"] f fd := by
      dsimp only [L2.KOf]
      refine' Dp.has_mk KX G ?a ?l ?c ?k (fun _ _ _ _ _ _ us hl => match us, hl with | [_, _, _], _ => rfl)
      (case a => k_is); (case l => k_is); (case c => k_is); (case k => k_is)
    have ⟨f_chances_of_two, fd_chances_of_two, A_chances_of_two⟩ : ∃ f fd, Dp.Has (L2.KOf KX) mg "chances_of_two" Dp.s_chances_of_two ["own", "waiting", "other", "at_turn"] f fd := by
      dsimp only [L2.KOf]
      refine' Dp.has_mk KX G ?a ?l ?c ?k (fun _ _ _ _ _ _ us hl => match us, hl with | [_, _, _, _], _ => rfl)
      (case a => k_is); (case l => k_is); (case c => k_is); (case k => k_is)
    have ⟨f_chance_to_win, fd_chance_to_win, A_chance_to_win⟩ : ∃ f fd, Dp.Has (L2.KOf KX) mg "chance_to_win" Dp.s_chance_to_win ["own", "other"] f fd := by
      dsimp only [L2.KOf]
      refine' Dp.has_mk KX G ?a ?l ?c ?k (fun _ _ _ _ _ _ us hl => match us, hl with | [_, _], _ => rfl)
      (case a => k_is); (case l => k_is); (case c => k_is); (case k => k_is)
    have ⟨f_duel_chance, fd_duel_chance, A_duel_chance⟩ : ∃ f fd, Dp.Has (L2.KOf KX) mg "duel_chance" Dp.s_duel_chance ["faces", "hold", "missing", "other_hold", "other_missing"] f fd := by
      dsimp only [L2.KOf]
      refine' Dp.has_mk KX G ?a ?l ?c ?k (fun _ _ _ _ _ _ us hl => match us, hl with | [_, _, _, _, _], _ => rfl)
      (case a => k_is); (case l => k_is); (case c => k_is); (case k => k_is)
    have ⟨f_answer_hold, fd_answer_hold, A_answer_hold⟩ : ∃ f fd, Dp.Has (L2.KOf KX) mg "answer_hold" Dp.s_answer_hold ["faces", "most", "missing", "other_hold", "other_missing"] f fd := by
      dsimp only [L2.KOf]
      refine' Dp.has_mk KX G ?a ?l ?c ?k (fun _ _ _ _ _ _ us hl => match us, hl with | [_, _, _, _, _], _ => rfl)
      (case a => k_is); (case l => k_is); (case c => k_is); (case k => k_is)
    have ⟨f_brought_by, fd_brought_by, A_brought_by⟩ : ∃ f fd, Dp.Has (L2.KOf KX) mg "brought_by" Dp.s_brought_by ["thrown"] f fd := by
      dsimp only [L2.KOf]
      refine' Dp.has_mk KX G ?a ?l ?c ?k (fun _ _ _ _ _ _ us hl => match us, hl with | [_], _ => rfl)
      (case a => k_is); (case l => k_is); (case c => k_is); (case k => k_is)
    have ⟨f_is_hold, fd_is_hold, A_is_hold⟩ : ∃ f fd, Dp.Has (L2.KOf KX) mg "is_hold" Dp.s_is_hold ["number"] f fd := by
      dsimp only [L2.KOf]
      refine' Dp.has_mk KX G ?a ?l ?c ?k (fun _ _ _ _ _ _ us hl => match us, hl with | [_], _ => rfl)
      (case a => k_is); (case l => k_is); (case c => k_is); (case k => k_is)
    have ⟨f_answer_call, fd_answer_call, A_answer_call⟩ : ∃ f fd, Dp.Has (L2.KOf KX) mg "answer_call" Dp.s_answer_call ["race", "number", "arguments"] f fd := by
      dsimp only [L2.KOf]
      refine' Dp.has_mk KX G ?a ?l ?c ?k (fun _ _ _ _ _ _ us hl => match us, hl with | [_, _, _], _ => rfl)
      (case a => k_is); (case l => k_is); (case c => k_is); (case k => k_is)
    have ⟨f_end_of_call, fd_end_of_call, A_end_of_call⟩ : ∃ f fd, Dp.Has (L2.KOf KX) mg "end_of_call" Dp.s_end_of_call ["calls", "place"] f fd := by
      dsimp only [L2.KOf]
      refine' Dp.has_mk KX G ?a ?l ?c ?k (fun _ _ _ _ _ _ us hl => match us, hl with | [_, _], _ => rfl)
      (case a => k_is); (case l => k_is); (case c => k_is); (case k => k_is)
    have ⟨f_answers, fd_answers, A_answers, bAns⟩ : ∃ f fd, Dp.Has (L2.KOf KX) mg "answers" Dp.s_answers ["calls"] f fd ∧ ∀ (s : Shared) (us : List Value), us.length = (["calls"] : List Str).length → BindsTo s fd ⟨us, []⟩ ((["calls"] : List Str).zip us) := by
      dsimp only [L2.KOf]
      refine' Dp.hasB_mk KX G ?a ?l ?c ?k (fun _ _ _ _ _ _ us hl => match us, hl with | [_], _ => rfl)
      (case a => k_is); (case l => k_is); (case c => k_is); (case k => k_is)
    have ⟨C, HC, ⟨g___init__, gd___init__, M___init__⟩, ⟨g_die, gd_die, M_die⟩, ⟨g_shows, gd_shows, M_shows⟩, ⟨g_brings, gd_brings, M_brings⟩, ⟨g_nothing, gd_nothing, M_nothing⟩, ⟨g_ends, gd_ends, M_ends⟩, ⟨g_best, gd_best, M_best⟩, ⟨g_throws, gd_throws, M_throws⟩, ⟨g_turns, gd_turns, M_turns⟩, ⟨g_quick, gd_quick, M_quick⟩, ⟨g_duel, gd_duel, M_duel⟩, ⟨g_answer, gd_answer, M_answer⟩, ⟨g_go, gd_go, M_go⟩⟩ : ∃ C, Dp.ClsT (L2.KOf KX) mg C ∧ (∃ f fd, Dp.HasI (L2.KOf KX) C "Race.__init__" Dp.s___init__ ["self"] f fd) ∧ (∃ f fd, Dp.HasM (L2.KOf KX) C "die" "Race.die" Dp.s_die ["self", "faces", "goal"] f fd) ∧ (∃ f fd, Dp.HasM (L2.KOf KX) C "shows" "Race.shows" Dp.s_shows ["self"] f fd) ∧ (∃ f fd, Dp.HasM (L2.KOf KX) C "brings" "Race.brings" Dp.s_brings ["self", "hold"] f fd) ∧ (∃ f fd, Dp.HasM (L2.KOf KX) C "nothing" "Race.nothing" Dp.s_nothing ["self", "hold"] f fd) ∧ (∃ f fd, Dp.HasM (L2.KOf KX) C "ends" "Race.ends" Dp.s_ends ["self", "hold"] f fd) ∧ (∃ f fd, Dp.HasM (L2.KOf KX) C "best" "Race.best" Dp.s_best ["self", "most"] f fd) ∧ (∃ f fd, Dp.HasM (L2.KOf KX) C "throws" "Race.throws" Dp.s_throws ["self", "hold"] f fd) ∧ (∃ f fd, Dp.HasM (L2.KOf KX) C "turns" "Race.turns" Dp.s_turns ["self", "hold", "points"] f fd) ∧ (∃ f fd, Dp.HasM (L2.KOf KX) C "quick" "Race.quick" Dp.s_quick ["self", "points"] f fd) ∧ (∃ f fd, Dp.HasM (L2.KOf KX) C "duel" "Race.duel" Dp.s_duel ["self", "hold", "points", "other_hold", "other_points"] f fd) ∧ (∃ f fd, Dp.HasM (L2.KOf KX) C "answer" "Race.answer" Dp.s_answer ["self", "points", "other_hold", "other_points"] f fd) ∧ (∃ f fd, Dp.HasM (L2.KOf KX) C "go" "Race.go" Dp.s_go ["self", "thrown"] f fd) := by
      dsimp only [L2.KOf]
      refine' ⟨_, Dp.cls_mk KX G ?a ?pg ?hd ?po ?sa ?nF ?nG, Dp.hasI_mk ?mk ?kc ?ai ?ii ?li ?ci ?ki (fun _ _ _ _ _ _ us hl => match us, hl with | [_], _ => rfl), Dp.hasM_mk ?a0 ?i0 ?l0 ?c0 ?k0 (fun _ _ _ _ _ _ us hl => match us, hl with | [_, _, _], _ => rfl), Dp.hasM_mk ?a1 ?i1 ?l1 ?c1 ?k1 (fun _ _ _ _ _ _ us hl => match us, hl with | [_], _ => rfl), Dp.hasM_mk ?a2 ?i2 ?l2 ?c2 ?k2 (fun _ _ _ _ _ _ us hl => match us, hl with | [_, _], _ => rfl), Dp.hasM_mk ?a3 ?i3 ?l3 ?c3 ?k3 (fun _ _ _ _ _ _ us hl => match us, hl with | [_, _], _ => rfl), Dp.hasM_mk ?a4 ?i4 ?l4 ?c4 ?k4 (fun _ _ _ _ _ _ us hl => match us, hl with | [_, _], _ => rfl), Dp.hasM_mk ?a5 ?i5 ?l5 ?c5 ?k5 (fun _ _ _ _ _ _ us hl => match us, hl with | [_, _], _ => rfl), Dp.hasM_mk ?a6 ?i6 ?l6 ?c6 ?k6 (fun _ _ _ _ _ _ us hl => match us, hl with | [_, _], _ => rfl), Dp.hasM_mk ?a7 ?i7 ?l7 ?c7 ?k7 (fun _ _ _ _ _ _ us hl => match us, hl with | [_, _, _], _ => rfl), Dp.hasM_mk ?a8 ?i8 ?l8 ?c8 ?k8 (fun _ _ _ _ _ _ us hl => match us, hl with | [_, _], _ => rfl), Dp.hasM_mk ?a9 ?i9 ?l9 ?c9 ?k9 (fun _ _ _ _ _ _ us hl => match us, hl with | [_, _, _, _, _], _ => rfl), Dp.hasM_mk ?a10 ?i10 ?l10 ?c10 ?k10 (fun _ _ _ _ _ _ us hl => match us, hl with | [_, _, _, _], _ => rfl), Dp.hasM_mk ?a11 ?i11 ?l11 ?c11 ?k11 (fun _ _ _ _ _ _ us hl => match us, hl with | [_, _], _ => rfl)⟩
      (case a => k_is); (case pg => k_is); (case hd => k_is); (case po => k_is); (case sa => k_is); (case nF => k_is); (case nG => k_is); (case mk => k_is); (case kc => k_is)
      (case ai => k_is); (case ii => k_is); (case li => k_is); (case ci => k_is); (case ki => k_is)
      (case a0 => k_is); (case i0 => k_is); (case l0 => k_is); (case c0 => k_is); (case k0 => k_is)
      (case a1 => k_is); (case i1 => k_is); (case l1 => k_is); (case c1 => k_is); (case k1 => k_is)
      (case a2 => k_is); (case i2 => k_is); (case l2 => k_is); (case c2 => k_is); (case k2 => k_is)
      (case a3 => k_is); (case i3 => k_is); (case l3 => k_is); (case c3 => k_is); (case k3 => k_is)
      (case a4 => k_is); (case i4 => k_is); (case l4 => k_is); (case c4 => k_is); (case k4 => k_is)
      (case a5 => k_is); (case i5 => k_is); (case l5 => k_is); (case c5 => k_is); (case k5 => k_is)
      (case a6 => k_is); (case i6 => k_is); (case l6 => k_is); (case c6 => k_is); (case k6 => k_is)
      (case a7 => k_is); (case i7 => k_is); (case l7 => k_is); (case c7 => k_is); (case k7 => k_is)
      (case a8 => k_is); (case i8 => k_is); (case l8 => k_is); (case c8 => k_is); (case k8 => k_is)
      (case a9 => k_is); (case i9 => k_is); (case l9 => k_is); (case c9 => k_is); (case k9 => k_is)
      (case a10 => k_is); (case i10 => k_is); (case l10 => k_is); (case c10 => k_is); (case k10 => k_is)
      (case a11 => k_is); (case i11 => k_is); (case l11 => k_is); (case c11 => k_is); (case k11 => k_is)
    have e := hmg.symm.trans A_answers.m
    cases e
    exact ⟨fd_answers, bAns, fun base _ _ => Dp.all_ok Tb HC oor atg gGO gAC A_lowest A_whole_weight A_weights_of_sums A_average A_chance_of_nothing A_average_throws A_chances_of_ends A_is_more A_first_highest A_best_hold A_shared_sum A_weights_of_missing A_weights_in_race A_average_turns A_quick_hold A_chances_of_two A_chance_to_win A_duel_chance A_answer_hold A_brought_by A_is_hold A_answer_call A_end_of_call A_answers M___init__ M_die M_shows M_brings M_nothing M_ends M_best M_throws M_turns M_quick M_duel M_answer M_go base⟩
  case S =>
    intro K H xs a hO hwi hask hx
    cases hx with
    | cons h1 h2 =>
      cases h2
      cases h1 with
      | lst hs ha =>
        have e := L2.ints_dw a.1 _ ha
        subst e
        have q : ((Codec.inLen 0 30000 a.1 && a.1.all (Codec.inInt 0 4294967295)) && true) = true := hwi
        rw [Bool.and_eq_true, Bool.and_eq_true] at q
        have hask : PyUw96.answers_asked a.1 = true := hask
        obtain ⟨cs, h1, h2, h3, h4⟩ := Dm.asked_line hask
        rw [h3] at h4
        refine ⟨_, a.1, cs, rfl, hs, (Codec.inNat_iff.mp q.1.1).2, h1, h4, fun H' p hp => ?_⟩
        have e3 : Codec.app [Codec.list 0 30000 (Codec.int 0 4294967295)] PyUw96.answers a = PyUw96.answers a.1 := rfl
        rw [← h3] at hp
        exact .lst (L2.SqL.of hp) (L2.dw_ints _)
