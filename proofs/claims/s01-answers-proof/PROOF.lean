import PyProof.Rows.All
import Wide.All
import OpenK.AllK
import Wide.FinOn
import PyProof.EqAt
import PyProof.EqKinds
import PyProof.TupleCall
import KE.BitLaws
import Open.SpecLaws
import KE.OsHead
import KE.OsGo
import PySem.Challenge.RW_doorcards_s01_answers
section
set_option Elab.async false
set_option linter.all false
set_option maxRecDepth 100000
namespace L2
open PySem PySem.Spec PyProof.Rows
abbrev Key := Sum Int Str
def keyIs : Key → Value → Bool
  | .inl k, v => Value.isInt k v
  | .inr x, v => Value.isStrOf x v
def keyH (w : World) : Key → Int
  | .inl k => hashInt k
  | .inr x => hashStr w x
theorem keyIs_shape : ∀ {k : Key} {v : Value}, keyIs k v = true → (∃ i t, k = Sum.inl i ∧ v = Value.int i t) ∨ (∃ x t, k = Sum.inr x ∧ v = Value.str x t)
  | .inl i, v, h => by
    obtain ⟨t, e⟩ := Value.isInt_shape (k := i) (v := v) h
    exact .inl ⟨i, t, rfl, e⟩
  | .inr x, v, h => by
    obtain ⟨t, e⟩ := Value.isStrOf_shape (x := x) (v := v) h
    exact .inr ⟨x, t, rfl, e⟩
theorem key_ll (a b : Int) : decide ((Sum.inl a : Key) = Sum.inl b) = (a == b) := by
  by_cases e : a = b
  · subst e; simp
  · have h : ¬ (Sum.inl a : Key) = Sum.inl b := fun q => e (Sum.inl.inj q)
    rw [decide_eq_false h]
    exact (beq_eq_false_iff_ne.mpr e).symm
theorem key_rr (a b : Str) : decide ((Sum.inr a : Key) = Sum.inr b) = decide (a = b) := by
  by_cases e : a = b
  · subst e; simp
  · have h : ¬ (Sum.inr a : Key) = Sum.inr b := fun q => e (Sum.inr.inj q)
    rw [decide_eq_false h, decide_eq_false e]
theorem key_lr (a : Int) (b : Str) : decide ((Sum.inl a : Key) = Sum.inr b) = false := decide_eq_false (fun q => nomatch q)
theorem key_rl (a : Str) (b : Int) : decide ((Sum.inr a : Key) = Sum.inl b) = false := decide_eq_false (fun q => nomatch q)
def mixKind (prog : Program) (w : World) : PySem.KeyKind prog w Key where
  is := keyIs
  hash := keyH w
  inj := fun v a b ha hb => by
    rcases keyIs_shape ha with ⟨i, t, rfl, rfl⟩ | ⟨x, t, rfl, rfl⟩
    · rcases keyIs_shape hb with ⟨j, u, rfl, e⟩ | ⟨y, u, rfl, e⟩
      · injection e with e1 _; rw [e1]
      · exact nomatch e
    · rcases keyIs_shape hb with ⟨j, u, rfl, e⟩ | ⟨y, u, rfl, e⟩
      · exact nomatch e
      · injection e with e1 _; rw [e1]
  byValue := fun k v h => by
    rcases keyIs_shape h with ⟨i, t, rfl, rfl⟩ | ⟨x, t, rfl, rfl⟩ <;> rfl
  pyHash := fun hv h => by
    rcases keyIs_shape hv with ⟨i, t, rfl, rfl⟩ | ⟨x, t, rfl, rfl⟩
    · exact wpAny_pyHash_int h
    · exact wpAny_pyHash_str h
  eqBool := fun hu hv h => by
    rcases keyIs_shape hu with ⟨i, t, rfl, rfl⟩ | ⟨x, t, rfl, rfl⟩
    · rcases keyIs_shape hv with ⟨j, u, rfl, rfl⟩ | ⟨y, u, rfl, rfl⟩
      · rw [key_ll] at h; exact wpAny_eqBool_int h
      · rw [key_lr] at h; exact SeqAt.EqAt.int_str i t y u _ _ _ _ h
    · rcases keyIs_shape hv with ⟨j, u, rfl, rfl⟩ | ⟨y, u, rfl, rfl⟩
      · rw [key_rl] at h; exact SeqAt.EqAt.str_int x t j u _ _ _ _ h
      · rw [key_rr] at h; exact wpAny_eqBool_str h
  «strs» := fun k x t v h => by
    rcases keyIs_shape h with ⟨i, u, rfl, e⟩ | ⟨y, u, rfl, e⟩
    · exact nomatch e
    · injection e with e1 _
      subst e1
      cases v <;> rfl
end L2
namespace L2
open PySem PySem.Spec PyProof.Rows
inductive V where
  | non | bl (b : Bool) | int (i : Int) | str (x : Str) | byt (b : Array UInt8) | flt (b : UInt64) | ref (a : Addr) | ty (n : String)
  deriving DecidableEq
def RelV : V → Value → Prop
  | .non, u => u = Value.none
  | .bl b, u => u = Value.bool b
  | .int i, u => ∃ t, u = Value.int i t
  | .str x, u => ∃ t, u = Value.str x t
  | .byt b, u => ∃ t, u = Value.bytes b t
  | .flt b, u => ∃ t, u = Value.float b t
  | .ref a, u => u = Value.ref a
  | .ty n, u => u = Value.type n
abbrev Vals : List V → List Value → Prop := Paired RelV
theorem Vals.length {xs : List V} {us : List Value} (r : Vals xs us) : xs.length = us.length := Paired.length r
theorem Vals.get : ∀ {xs : List V} {us : List Value} {i : Nat} {x : V}, Vals xs us → xs[i]? = some x → ∃ u, us[i]? = some u ∧ RelV x u
  | _, _, _, _, .nil, e => by simp at e
  | _, _, 0, _, .cons r _, e => by simp at e; subst e; exact ⟨_, rfl, r⟩
  | _, _, i + 1, x, .cons _ t, e => by
    obtain ⟨u, h1, h2⟩ := Vals.get (i := i) (x := x) t (by simpa using e)
    exact ⟨u, by simpa using h1, h2⟩
theorem Vals.append : ∀ {xs ys : List V} {us ws : List Value}, Vals xs us → Vals ys ws → Vals (xs ++ ys) (us ++ ws)
  | _, _, _, _, .nil, s => s
  | _, _, _, _, .cons r t, s => .cons r (Vals.append t s)
theorem Vals.take : ∀ {xs : List V} {us : List Value} (n : Nat), Vals xs us → Vals (xs.take n) (us.take n)
  | _, _, 0, _ => .nil
  | _, _, _ + 1, .nil => .nil
  | _, _, n + 1, .cons r t => .cons r (Vals.take n t)
theorem Vals.drop : ∀ {xs : List V} {us : List Value} (n : Nat), Vals xs us → Vals (xs.drop n) (us.drop n)
  | _, _, 0, r => r
  | _, _, _ + 1, .nil => .nil
  | _, _, n + 1, .cons _ t => Vals.drop n t
def RelO : Option V → Option Value → Prop
  | some v, some u => RelV v u
  | none, none => True
  | _, _ => False
def KV {κ : Type} : List (κ × V) → List (κ × Value) → Prop := Paired fun (p : κ × V) (q : κ × Value) => p.1 = q.1 ∧ RelV p.2 q.2
def kV : Key → V
  | .inl i => .int i
  | .inr x => .str x
inductive HO where
  /-- a list -/
  | lst (xs : List V)
  /-- a tuple (never changes) -/
  | tup (xs : List V)
  /-- a dict whose keys are ints and texts; one whose keys are tuples of ints and texts (the empty one is both) -/
  | dK (kvs : List (Key × V)) | dT (kvs : List (List Key × V))
  /-- a set of ints: its members, its size -/
  | set (S : Int → Bool) (n : Nat)
  /-- an instance of the class at C, its dict at dx, its attributes -/
  | ins (C dx : Addr) (fs : List (Str × V))
  /-- the dict of the instance at x -/
  | own (x : Addr)
  /-- the dict of an exception -/
  | xd (fs : List (Str × V))
  /-- a bound method, f of x -/
  | met (f x : Addr)
  /-- a range object lo, lo + 1, .. below hi -/
  | rng (lo hi : Int)
  /-- a thing that is known to the object (the script; a dict while a loop walks it): read, never written while it is so -/
  | frz (o : Obj) (u : HO)
  /-- a code object's table -/
  | tbl (ps : Array Value)
  /-- any other thing, by what is true of its one object (a def of one's own: SetO a S n := HO.ext fun h => ..) -/
  | ext (φ : Heap → Prop)
abbrev Hp := Addr → Option HO
def upd (H : Hp) (a : Addr) (o : HO) : Hp := fun b => if b = a then some o else H b
theorem upd_same {H : Hp} {a : Addr} {o : HO} : upd H a o a = some o := by unfold upd; rw [if_pos rfl]
theorem upd_ne {H : Hp} {a b : Addr} {o : HO} (h : b ≠ a) : upd H a o b = H b := by unfold upd; rw [if_neg h]
theorem ne_of {H : Hp} {a b : Addr} {o u : HO} (h : H a = some o) (h' : H b = some u) (d : o ≠ u) : a ≠ b := by
  intro e; subst e; rw [h] at h'; exact d (Option.some.inj h')
theorem ne_of_none {H : Hp} {a b : Addr} {o : HO} (h : H a = some o) (h' : H b = none) : a ≠ b := by
  intro e; subst e; rw [h] at h'; cases h'
section
variable (P : Program) (w : World)
def ObjOk (H : Hp) (h : Heap) (a : Addr) : HO → Prop
  | .lst xs => xs.length ≤ sizeLine ∧ ∃ (its : List Value) (n : Nat), Vals xs its ∧ h.get? a = some { cls := .type "list", data := .seq its.toArray n }
  | .tup xs => xs.length ≤ sizeLine ∧ ∃ its : List Value, Vals xs its ∧ IsTup h a its.toArray
  | .dK kvs => kvs.length ≤ sizeLine ∧ (a == sysModules) = false ∧ ∃ vs, KV kvs vs ∧ h.DictOf (mixKind P w) a vs
  | .dT kvs => kvs.length ≤ sizeLine ∧ (a == sysModules) = false ∧ ∃ xs : List (List Key × Addr × Value),
      Paired (fun (p : List Key × V) (q : List Key × Addr × Value) => p.1 = q.1 ∧ H q.2.1 = some (.tup (p.1.map kV)) ∧ RelV p.2 q.2.2) kvs xs ∧
      ∃ o es ep, h.get? a = some o ∧ o.ExactDict ∧ o.data = .dict es ep ∧ es.toList = xs.map (entryOfKey (tupleKind (mixKind P w))) ∧ (xs.map (·.1)).Nodup
  | .set S n => h.SetOf (intKind P w) a S n
  | .ins C dx fs => H dx = some (.own a) ∧ fs.length ≤ 1000 ∧ dx ≠ a ∧ h.get? a = some (PySem.W.instObj C dx) ∧
      ∃ mA, h.Ns1 dx mA ∧ (∀ f, RelO (fs.lookup f) (mA f)) ∧ PySem.Within mA (fs.map (·.1))
  | .own _ => ∃ o, h.get? a = some o
  | .xd fs => ∃ mA, h.Ns1 a mA ∧ ∀ f, RelO (fs.lookup f) (mA f)
  | .rng lo hi => ∃ t u v, h.get? a = some { cls := .type "range", data := .fields #[.int lo t, .int hi u, .int 1 v] }
  | .frz o u => h.get? a = some o ∧ ObjOk H h a u
  | .tbl ps => h.get? a = some { cls := .none, data := .fields ps }
  | .met f x => h.get? a = some (PySem.W.methodObj (.ref f) (.ref x))
  | .ext φ => φ h ∧ (∃ o, h.get? a = some o) ∧ ∀ h1 h2 : Heap, φ h1 → (∀ o, h1.get? a = some o → h2.get? a = some o) → φ h2
def HOk (H : Hp) (h : Heap) : Prop := ∀ a o, H a = some o → ObjOk P w H h a o
end
section
variable {P : Program} {w : World} {H H' : Hp} {h h' : Heap} {a : Addr} {o : HO}
theorem ObjOk.lt (x : ObjOk P w H h a o) : a < h.objs.size := by
  cases o with
  | lst xs => obtain ⟨_, _, _, _, e⟩ := x; exact Heap.lt_size e
  | tup xs => obtain ⟨_, _, _, p⟩ := x; exact p.lt
  | dK kvs => obtain ⟨_, _, _, _, o, _, _, e, _⟩ := x; exact Heap.lt_size e
  | dT kvs => obtain ⟨_, _, _, _, o, _, _, e, _⟩ := x; exact Heap.lt_size e
  | set S n => obtain ⟨o, _, _, _, e, _⟩ := x; exact Heap.lt_size e
  | ins C dx fs => obtain ⟨_, _, _, e, _⟩ := x; exact Heap.lt_size e
  | own y => obtain ⟨_, e⟩ := x; exact Heap.lt_size e
  | xd fs => obtain ⟨_, ⟨_, _, _, e, _⟩, _⟩ := x; exact Heap.lt_size e
  | rng lo hi => obtain ⟨_, _, _, e⟩ := x; exact Heap.lt_size e
  | frz ob u => obtain ⟨e, _⟩ := x; exact Heap.lt_size e
  | tbl ps => exact Heap.lt_size (show h.get? a = some _ from x)
  | met f y => exact Heap.lt_size (show h.get? a = some _ from x)
  | ext φ => obtain ⟨_, ⟨_, e⟩, _⟩ := x; exact Heap.lt_size e
theorem Paired.mapP {α β : Type} {F G : α → β → Prop} : ∀ {l₁ : List α} {l₂ : List β}, Paired F l₁ l₂ → (∀ a b, F a b → G a b) → Paired G l₁ l₂
  | _, _, .nil, _ => .nil
  | _, _, .cons r t, f => .cons (f _ _ r) (Paired.mapP t f)
theorem ObjOk.stay (x : ObjOk P w H h a o) (k : ∀ b u, (b = a ∨ H b = some (.own a)) → h.get? b = some u → h'.get? b = some u)
    (ho : ∀ b, H b = some (.own a) → H' b = some (.own a)) (ht : ∀ b xs, H b = some (.tup xs) → H' b = some (.tup xs)) : ObjOk P w H' h' a o := by
  induction o with
  | lst xs => obtain ⟨z, its, n, r, e⟩ := x; exact ⟨z, its, n, r, k _ _ (.inl rfl) e⟩
  | tup xs => obtain ⟨z, its, r, ob, e, c⟩ := x; exact ⟨z, its, r, ob, k _ _ (.inl rfl) e, c⟩
  | dK kvs => obtain ⟨z, y, vs, r, ob, es, ep, e, c⟩ := x; exact ⟨z, y, vs, r, ob, es, ep, k _ _ (.inl rfl) e, c⟩
  | dT kvs =>
    obtain ⟨z, y, xs, r, ob, es, ep, e, c⟩ := x
    exact ⟨z, y, xs, Paired.mapP r fun p q z => ⟨z.1, ht _ _ z.2.1, z.2.2⟩, ob, es, ep, k _ _ (.inl rfl) e, c⟩
  | set S n => obtain ⟨ob, es, ep, t, e, c⟩ := x; exact ⟨ob, es, ep, t, k _ _ (.inl rfl) e, c⟩
  | ins C dx fs =>
    obtain ⟨d, z, ne, e, mA, ⟨od, es, ep, e2, c⟩, r⟩ := x
    exact ⟨ho _ d, z, ne, k _ _ (.inl rfl) e, mA, ⟨od, es, ep, k _ _ (.inr d) e2, c⟩, r⟩
  | own y => obtain ⟨ob, e⟩ := x; exact ⟨ob, k _ _ (.inl rfl) e⟩
  | xd fs => obtain ⟨mA, ⟨od, es, ep, e, c⟩, r⟩ := x; exact ⟨mA, ⟨od, es, ep, k _ _ (.inl rfl) e, c⟩, r⟩
  | rng lo hi => obtain ⟨t, u, v, e⟩ := x; exact ⟨t, u, v, k _ _ (.inl rfl) e⟩
  | frz ob u ih => obtain ⟨e, q⟩ := x; exact ⟨k _ _ (.inl rfl) e, ih q⟩
  | tbl ps =>
    have e : h.get? a = some { cls := .none, data := .fields ps } := x
    show h'.get? a = some { cls := .none, data := .fields ps }
    exact k a _ (.inl rfl) e
  | met f y =>
    have e : h.get? a = some (PySem.W.methodObj (.ref f) (.ref y)) := x
    show h'.get? a = some (PySem.W.methodObj (.ref f) (.ref y))
    exact k a _ (.inl rfl) e
  | ext φ => obtain ⟨p, ⟨o, e⟩, st⟩ := x; exact ⟨st _ _ p fun o q => k _ _ (.inl rfl) q, ⟨o, k _ _ (.inl rfl) e⟩, st⟩
theorem HOk.lt (x : HOk P w H h) (e : H a = some o) : a < h.objs.size := (x a o e).lt
theorem HOk.fresh (x : HOk P w H h) (e : h.objs.size ≤ a) : H a = none := by
  cases q : H a with
  | none => rfl
  | some u => exact absurd (Nat.lt_of_lt_of_le (x.lt q) e) (Nat.lt_irrefl _)
theorem HOk.kept (x : HOk P w H h) (k : ∀ b u, h.get? b = some u → h'.get? b = some u) : HOk P w H h' := fun a o e =>
  (x a o e).stay (fun b u _ q => k b u q) (fun _ q => q) fun _ _ q => q
theorem HOk.laid (x : HOk P w H h) (k : ∀ b u, h.get? b = some u → h'.get? b = some u) (hp : h.objs.size ≤ a) (new : ObjOk P w (upd H a o) h' a o) : HOk P w (upd H a o) h' := fun b u e => by
  have hn := x.fresh hp
  by_cases hb : b = a
  · subst hb; rw [upd_same] at e; cases e; exact new
  · rw [upd_ne hb] at e
    exact (x b u e).stay (fun c v _ q => k c v q) (fun c q => by rw [upd_ne (ne_of_none q hn)]; exact q) fun c xs q => by rw [upd_ne (ne_of_none q hn)]; exact q
end
def Rd (H : Hp) (a : Addr) (u : HO) : Prop := H a = some u ∨ ∃ o, H a = some (.frz o u)
theorem Rd.ok {P : Program} {w : World} {H : Hp} {h : Heap} {a : Addr} {u : HO} (r : Rd H a u) (x : HOk P w H h) : ObjOk P w H h a u := by
  rcases r with r | ⟨o, r⟩
  · exact x a u r
  · obtain ⟨_, q⟩ := x a _ r
    exact q
def Mut : Option HO → Prop
  | some (.lst _) => True
  | some (.dK _) => True
  | some (.dT _) => True
  | some (.set _ _) => True
  | some (.ins _ _ _) => True
  | some (.ext _) => True
  | _ => False
section
variable {P : Program} {w : World} {H : Hp} {h h' : Heap} {x e : Addr} {o' : HO}
theorem HOk.write (ok : HOk P w H h) (mu : Mut (H x)) (he : e = x ∨ H e = some (.own x)) (k : ∀ b u, b ≠ e → h.get? b = some u → h'.get? b = some u) (heo : ∃ u, h'.get? e = some u)
    (new : ObjOk P w (upd H x o') h' x o') : HOk P w (upd H x o') h' := fun b u q => by
  have nown : ∀ c y, H c = some (.own y) → c ≠ x := fun c y r z => by subst z; rw [r] at mu; exact mu
  have ntup : ∀ c xs, H c = some (.tup xs) → c ≠ x := fun c xs r z => by subst z; rw [r] at mu; exact mu
  by_cases hb : b = x
  · subst hb; rw [upd_same] at q; cases q; exact new
  · rw [upd_ne hb] at q
    by_cases hbe : b = e
    · have q' : H b = some (.own x) := by
        rcases he with z | z
        · exact absurd (hbe.trans z) hb
        · rw [hbe]; exact z
      rw [q] at q'; cases q'
      obtain ⟨v, hv⟩ := heo
      exact ⟨v, by rw [hbe]; exact hv⟩
    · refine (ok b u q).stay (fun c v hc r => k c v ?_ r) (fun c r => by rw [upd_ne (nown c b r)]; exact r) fun c xs r => by rw [upd_ne (ntup c xs r)]; exact r
      rcases hc with rfl | hc
      · exact hbe
      · rintro rfl
        rcases he with z | z
        · exact nown c b hc z
        · rw [hc] at z; cases z; exact hb rfl
end
structure Un (fs ex : List Addr) (H H' : Hp) (h h' : Heap) : Prop where
  keep : ∀ b o, h.get? b = some o → H b = none → b ∉ fs → b ∉ ex → h'.get? b = some o
  slot : ∀ b o, h.get? b = some o → H b = none → b ∈ fs → b ∉ ex → ∃ sl, h'.get? b = some { o with slots := sl }
  free : ∀ b o, h.get? b = some o → H b = none → b ∉ ex → H' b = none
  there : ∀ b o, h.get? b = some o → b ∉ ex → ∃ o', h'.get? b = some o'
  tups : ∀ b xs, H b = some (.tup xs) → H' b = some (.tup xs)
  frzs : ∀ b o u, H b = some (.frz o u) → H' b = some (.frz o u)
  tbls : ∀ b ps, H b = some (.tbl ps) → ∃ more, H' b = some (.tbl (ps ++ more))
section
variable {fs fs' ex ex' : List Addr} {H H1 H2 : Hp} {h h1 h2 h' : Heap} {a x e : Addr} {o : HO}
theorem Un.any (u : Un fs ex H H1 h h1) {b : Addr} {ob : Obj} (q : h.get? b = some ob) (n : H b = none) (hx : b ∉ ex) : ∃ sl, h1.get? b = some { ob with slots := sl } := by
  by_cases hb : b ∈ fs
  · exact u.slot b ob q n hb hx
  · exact ⟨ob.slots, u.keep b ob q n hb hx⟩
theorem Un.kept (k : ∀ b u, h.get? b = some u → h'.get? b = some u) : Un fs ex H H h h' :=
  ⟨fun b ob q _ _ _ => k b ob q, fun b ob q _ _ _ => ⟨ob.slots, k b ob q⟩, fun _ _ _ n _ => n, fun b ob q _ => ⟨ob, k b ob q⟩, fun _ _ q => q, fun _ _ _ q => q, fun _ ps q => ⟨#[], by rw [q]; simp⟩⟩
theorem Un.refl : Un fs ex H H h h := Un.kept fun _ _ q => q
theorem Un.laid (k : ∀ b u, h.get? b = some u → h'.get? b = some u) (hp : h.objs.size ≤ a) (hn : H a = none) : Un fs ex H (upd H a o) h h' where
  keep := fun b u q _ _ _ => k b u q
  slot := fun b u q _ _ _ => ⟨u.slots, k b u q⟩
  free := fun b u q n _ => by rw [upd_ne (Nat.ne_of_lt (Nat.lt_of_lt_of_le (Heap.lt_size q) hp))]; exact n
  there := fun b u q _ => ⟨u, k b u q⟩
  tups := fun b xs q => by rw [upd_ne (ne_of_none q hn)]; exact q
  frzs := fun b u xs q => by rw [upd_ne (ne_of_none q hn)]; exact q
  tbls := fun b ps q => ⟨#[], by rw [upd_ne (ne_of_none q hn), q]; simp⟩
theorem Un.write (mu : Mut (H x)) (he : e = x ∨ H e = some (.own x)) (k : ∀ b u, b ≠ e → h.get? b = some u → h'.get? b = some u) (heo : ∃ u, h'.get? e = some u) : Un fs ex H (upd H x o) h h' := by
  have hx : ∀ b, H b = none → b ≠ x := fun b n z => by subst z; rw [n] at mu; exact mu
  have hb : ∀ b, H b = none → b ≠ e := fun b n z => by
    subst z
    rcases he with r | r
    · exact hx b n r
    · rw [n] at r; cases r
  have hm : ∀ b u, H b = some u → ¬ Mut (some u) → b ≠ x := fun b u q nm z => by subst z; rw [q] at mu; exact nm mu
  refine ⟨fun b u q n _ _ => k b u (hb b n) q, fun b u q n _ _ => ⟨u.slots, k b u (hb b n) q⟩, fun b u q n _ => by rw [upd_ne (hx b n)]; exact n, fun b u q _ => ?_,
    fun b xs q => by rw [upd_ne (hm b _ q fun z => z)]; exact q, fun b u xs q => by rw [upd_ne (hm b _ q fun z => z)]; exact q, fun b ps q => ⟨#[], by rw [upd_ne (hm b _ q fun z => z), q]; simp⟩⟩
  by_cases hbe : b = e
  · subst hbe; exact heo
  · exact ⟨u, k b u hbe q⟩
end
def trk (h : Heap) (H : Hp) : List Addr := (List.range h.objs.size).filter fun a => (H a).isSome
def hidT (h : Heap) (H : Hp) : Heap := PySem.W.hideAll h (trk h H)
theorem hidT_size (h : Heap) (H : Hp) : (hidT h H).objs.size = h.objs.size := PySem.W.hideAll_size _ _
theorem hidT_get {h : Heap} {H : Hp} {b : Addr} {o : Obj} (e : h.get? b = some o) (n : H b = none) : (hidT h H).get? b = some o :=
  PySem.W.hideAll_get _ e fun hm => by
    have q : (H b).isSome = true := (List.mem_filter.mp hm).2
    rw [n] at q; simp at q
theorem of_hidT {h : Heap} {H : Hp} {b : Addr} {o : Obj} (e : (hidT h H).get? b = some o) : h.get? b = some o ∧ H b = none := by
  have e' : h.get? b = some o := PySem.W.of_hideAll (trk h H) e
  refine ⟨e', ?_⟩
  cases q : H b with
  | none => rfl
  | some x =>
    have hm : b ∈ trk h H := List.mem_filter.mpr ⟨List.mem_range.mpr (Heap.lt_size e'), by simp [q]⟩
    have z : (hidT h H).get? b = none := PySem.W.hideAll_none (trk h H) hm
    rw [z] at e; cases e
end L2
namespace L2
open PySem PySem.Spec PyProof.Rows
structure Mod (K : PySem.W.Frag) (mg : Str → Option Value) (base : Heap) : Prop where
  kin : K.In base
  glob : base.Ns mainGlobals mg
  blt : ∃ mb, base.Ns builtinsNs mb ∧ ∀ x : Str, x ≠ "__name__" → mb x = bootBuiltins x
  nolimit : base.NoLimit
structure Cx where
  prog : Program
  w : World
  K : PySem.W.Frag
  mg : Str → Option Value
  base : Heap
  A : Around
  N : List Str
  s_0 : Shared
  H_0 : Hp
  env : Env
  outer : List Env
  stack : List Env
  ex : List Addr
  fn : Str → Bool
  calm : Bool
  pn : List (Addr × Obj)
  xe : Value → Shared → Prop
def frs (l : List Env) : List Addr := l.filterMap (·.frame)
abbrev Cx.fs (X : Cx) : List Addr := frs X.outer
def Vis (sc : Scope) (x : Str) : Prop := sc.names.lookup x = some .local ∨ sc.names.lookup x = some .cell ∨ sc.names.lookup x = some .free
def Loc (sc : Scope) (x : Str) : Prop := sc.names.lookup x = some .local ∨ sc.names.lookup x = some .cell
def Look (env : Env) (h : Heap) (m : Str → Option Value) (x : Str) (u : Value) : Prop :=
  (env.kindOf x = some .local ∧ m x = some u) ∨ ((env.kindOf x = some .cell ∨ env.kindOf x = some .free) ∧ ∃ c, env.cells.lookup x = some c ∧ h.IsCell c (some u))
structure Cx.Ok (X : Cx) : Prop where
  mod : Mod X.K X.mg X.base
  kind : X.env.scope.kind = .function
  glob : X.env.globals = mainGlobals
  blt : X.env.builtins = builtinsNs
  above : X.s_0.heap.objs.size ≤ X.env.locals
  inj : ∀ x y c, X.env.cells.lookup x = some c → X.env.cells.lookup y = some c → x = y
  has : ∀ x, (X.env.kindOf x = some .cell ∨ X.env.kindOf x = some .free) → ∃ c, X.env.cells.lookup x = some c
  cab : ∀ x c, X.fn x = true → X.env.cells.lookup x = some c → X.s_0.heap.objs.size ≤ c
  hd : X.calm = true → X.A.handled = none
  frames : X.A.frames = some X.stack
  stk : X.stack = X.outer ∨ (X.stack = X.env :: X.outer ∧ X.env.frame = some X.env.locals)
  exf : ∀ b ∈ X.ex, b ≠ X.env.locals ∧ ∀ x c, X.env.cells.lookup x = some c → c ≠ b
  bs : ∀ b o, X.base.get? b = some o → X.s_0.heap.get? b = some o ∧ X.H_0 b = none
  bsz : X.base.objs.size ≤ X.s_0.heap.objs.size
  noex : ∀ b o, X.base.get? b = some o → b ∉ X.ex
  exfs : ∀ b ∈ X.ex, b ∉ X.fs
  funs : X.s_0.heap.FunFrames X.base X.outer
  frf : ∀ b ∈ X.fs, X.H_0 b = none
structure Inv (X : Cx) (pins : List (Addr × Obj)) (σ : List (Option V)) (H : Hp) (s : Shared) : Prop where
  ok : X.Ok
  os : s.os = X.s_0.os
  bare : AllBare s.gens
  base : Un X.fs X.ex X.H_0 H X.s_0.heap s.heap
  loc : ∃ m, s.heap.Ns X.env.locals m ∧ ∀ (i : Nat) (x : Str) (v : V), X.N[i]? = some x → σ[i]? = some (some v) → Vis X.env.scope x → ∃ u, RelV v u ∧ Look X.env s.heap m x u
  cell : ∀ x c, X.env.cells.lookup x = some c → ∃ v, s.heap.IsCell c v
  free : H X.env.locals = none
  freeC : ∀ x c, X.env.cells.lookup x = some c → H c = none
  pin : ∀ p ∈ X.pn ++ pins, s.heap.get? p.1 = some p.2 ∧ H p.1 = none ∧ p.1 ≠ X.env.locals ∧ p.1 ∉ X.fs ∧ ∀ v, p.2.data ≠ .cell v
  hok : HOk X.prog X.w H s.heap
  len : σ.length = X.N.length
section
variable {X : Cx} {pins : List (Addr × Obj)} {σ : List (Option V)} {H H' : Hp} {s : Shared} {h' : Heap}
theorem Cx.Ok.nofr (ok : X.Ok) {b : Addr} {o : Obj} (e : X.base.get? b = some o) : b ∉ X.fs := fun hb => by
  have := (ok.funs.mem hb).1
  rw [e] at this; cases this
theorem Inv.bs (I : Inv X pins σ H s) : ∀ b o, X.base.get? b = some o → s.heap.get? b = some o ∧ H b = none := fun b o e =>
  ⟨I.base.keep b o (I.ok.bs b o e).1 (I.ok.bs b o e).2 (I.ok.nofr e) (I.ok.noex b o e), I.base.free b o (I.ok.bs b o e).1 (I.ok.bs b o e).2 (I.ok.noex b o e)⟩
theorem Inv.bk (I : Inv X pins σ H s) : ∀ b o, X.base.get? b = some o → s.heap.get? b = some o := fun b o e => (I.bs b o e).1
theorem Inv.mod (I : Inv X pins σ H s) : Mod X.K X.mg X.base := I.ok.mod
theorem Inv.kIn (I : Inv X pins σ H s) : X.K.In s.heap := I.ok.mod.kin.keeps I.bk
theorem Inv.lt (I : Inv X pins σ H s) : X.env.locals < s.heap.objs.size := let ⟨_, hn, _⟩ := I.loc; hn.lt
theorem Inv.sz (I : Inv X pins σ H s) : X.s_0.heap.objs.size ≤ s.heap.objs.size := Nat.le_trans I.ok.above (Nat.le_of_lt I.lt)
theorem Inv.nofs (I : Inv X pins σ H s) {a : Addr} (h : s.heap.objs.size ≤ a) : a ∉ X.fs := fun hb => by
  obtain ⟨_, o, ho, _⟩ := I.ok.funs.mem hb
  exact absurd (Nat.lt_of_lt_of_le (Heap.lt_size ho) (Nat.le_trans I.sz h)) (Nat.lt_irrefl _)
theorem Inv.cne (I : Inv X pins σ H s) : ∀ x c, X.env.cells.lookup x = some c → c ≠ X.env.locals := fun x c e z => by
  obtain ⟨v, o, ho, hd⟩ := I.cell x c e
  obtain ⟨m, ⟨o', es, ep, ho', hd', _⟩, _⟩ := I.loc
  rw [z, ho'] at ho; cases ho; rw [hd'] at hd; cases hd
theorem Inv.funs (I : Inv X pins σ H s) : s.heap.FunFrames X.base X.outer := by
  have all : ∀ (l : List Env), (∀ b ∈ frs l, b ∈ X.fs) → X.s_0.heap.FunFrames X.base l → s.heap.FunFrames X.base l := by
    intro l
    induction l with
    | nil => intro _ _; trivial
    | cons env r ih =>
      intro hs hl
      obtain ⟨hk, ⟨L, o, hf, hn, ho, hd⟩, hr⟩ := hl
      have hL : L ∈ X.fs := hs L (by unfold frs; rw [List.filterMap_cons, hf]; exact List.mem_cons_self)
      obtain ⟨sl, e⟩ := I.base.slot L o ho (I.ok.frf L hL) hL fun z => I.ok.exfs L z hL
      exact ⟨hk, ⟨L, _, hf, hn, e, hd⟩, ih (fun b hb => hs b (by unfold frs; rw [List.filterMap_cons, hf]; exact List.mem_cons_of_mem _ hb)) hr⟩
  exact all X.outer (fun _ hb => hb) I.ok.funs
theorem Inv.stack (I : Inv X pins σ H s) : s.heap.FunFrames X.base X.stack := by
  rcases I.ok.stk with e | ⟨e, hf⟩
  · rw [e]; exact I.funs
  · rw [e]
    obtain ⟨m, hn, _⟩ := I.loc
    refine .cons (by rw [I.ok.kind]; decide) hf hn ?_ I.funs
    exact Heap.get?_none_of_le (Nat.le_trans I.ok.bsz I.ok.above)
theorem Inv.stkSub (I : Inv X pins σ H s) : ∀ b ∈ frs X.stack, b ∈ X.env.locals :: X.fs := fun b hb => by
  rcases I.ok.stk with e | ⟨e, hf⟩
  · rw [e] at hb; exact List.mem_cons_of_mem _ hb
  · rw [e] at hb
    unfold frs at hb
    rw [List.filterMap_cons, hf] at hb
    exact hb
theorem Inv.stkFree (I : Inv X pins σ H s) : ∀ b ∈ frs X.stack, H b = none := fun b hb => by
  rcases List.mem_cons.mp (I.stkSub b hb) with e | hb
  · rw [e]; exact I.free
  · obtain ⟨_, o, ho, _⟩ := I.ok.funs.mem hb
    exact I.base.free b o ho (I.ok.frf b hb) fun z => I.ok.exfs b z hb
theorem Inv.step {g' : Array GenState} {t' : Nat} {d' : Drawn} {ch : List Addr} (I : Inv X pins σ H s)
    (hch : ∀ b ∈ ch, (b ∈ X.ex ∨ X.s_0.heap.objs.size ≤ b) ∧ b ≠ X.env.locals ∧ (∀ x c, X.env.cells.lookup x = some c → c ≠ b) ∧ ∀ p ∈ X.pn ++ pins, p.1 ≠ b)
    (keep : ∀ b o, b ≠ X.env.locals → b ∉ X.fs → b ∉ ch → s.heap.get? b = some o → H b = none → h'.get? b = some o)
    (slot : ∀ b o, b ≠ X.env.locals → b ∈ X.fs → b ∉ ch → s.heap.get? b = some o → H b = none → ∃ sl, h'.get? b = some { o with slots := sl }) (free : ∀ b o, b ∉ ch → s.heap.get? b = some o → H b = none → H' b = none)
    (there : ∀ b o, b ∉ ch → s.heap.get? b = some o → ∃ o', h'.get? b = some o')
    (tups : ∀ b xs, H b = some (.tup xs) → H' b = some (.tup xs)) (frzs : ∀ b o u, H b = some (.frz o u) → H' b = some (.frz o u)) (tbls : ∀ b ps, H b = some (.tbl ps) → ∃ more, H' b = some (.tbl (ps ++ more)))
    (ns : ∀ m, s.heap.Ns X.env.locals m → h'.Ns X.env.locals m) (hok : HOk X.prog X.w H' h') (hg : AllBare g') :
    Inv X pins σ H' { s with heap := h', gens := g', drawn := d', toks := t' } := by
  have neL : ∀ b o, X.s_0.heap.get? b = some o → b ≠ X.env.locals := fun b o e => Nat.ne_of_lt (Nat.lt_of_lt_of_le (Heap.lt_size e) I.ok.above)
  have neC : ∀ b o, X.s_0.heap.get? b = some o → b ∉ X.ex → b ∉ ch := fun b o e hx hb => by
    rcases (hch b hb).1 with z | z
    · exact hx z
    · exact absurd (Nat.lt_of_lt_of_le (Heap.lt_size e) z) (Nat.lt_irrefl _)
  have cellK : ∀ x c, X.env.cells.lookup x = some c → ∀ v, s.heap.IsCell c v → h'.IsCell c v := fun x c e v ⟨o, ho, hd⟩ => by
    have nch : c ∉ ch := fun z => (hch c z).2.2.1 x c e rfl
    by_cases hc : c ∈ X.fs
    · obtain ⟨sl, q⟩ := slot c o (I.cne x c e) hc nch ho (I.freeC x c e)
      exact ⟨_, q, hd⟩
    · exact ⟨o, keep c o (I.cne x c e) hc nch ho (I.freeC x c e), hd⟩
  refine ⟨I.ok, I.os, hg, ⟨fun b o e n hb hx => ?_, fun b o e n hb hx => ?_, fun b o e n hx => ?_, fun b o e hx => ?_, fun b xs e => tups b xs (I.base.tups b xs e), fun b o xs e => frzs b o xs (I.base.frzs b o xs e), fun b ps e => ?_⟩, ?_, fun x c e => ?_, ?_, fun x c e => ?_, fun p hp => ?_, hok, I.len⟩
  · exact keep b o (neL b o e) hb (neC b o e hx) (I.base.keep b o e n hb hx) (I.base.free b o e n hx)
  · obtain ⟨sl, e1⟩ := I.base.slot b o e n hb hx
    obtain ⟨sl', e2⟩ := slot b _ (neL b o e) hb (neC b o e hx) e1 (I.base.free b o e n hx)
    exact ⟨sl', e2⟩
  · obtain ⟨o', e1⟩ := I.base.there b o e hx
    exact free b o' (neC b o e hx) e1 (I.base.free b o e n hx)
  · obtain ⟨o', e1⟩ := I.base.there b o e hx
    exact there b o' (neC b o e hx) e1
  · obtain ⟨m1, e1⟩ := I.base.tbls b ps e
    obtain ⟨m2, e2⟩ := tbls b _ e1
    exact ⟨m1 ++ m2, by rw [e2, Array.append_assoc]⟩
  · obtain ⟨m, hn, hl⟩ := I.loc
    refine ⟨m, ns m hn, fun i x v e1 e2 e3 => ?_⟩
    obtain ⟨u, r, l⟩ := hl i x v e1 e2 e3
    refine ⟨u, r, ?_⟩
    rcases l with l | ⟨k, c, e, z⟩
    · exact .inl l
    · exact .inr ⟨k, c, e, cellK x c e _ z⟩
  · obtain ⟨v, z⟩ := I.cell x c e
    exact ⟨v, cellK x c e v z⟩
  · obtain ⟨m, ⟨o, _, _, ho, _⟩, _⟩ := I.loc
    exact free _ o (fun z => (hch _ z).2.1 rfl) ho I.free
  · obtain ⟨v, o, ho, hd⟩ := I.cell x c e
    exact free c o (fun z => (hch c z).2.2.1 x c e rfl) ho (I.freeC x c e)
  · obtain ⟨e, n, ne, nf, d⟩ := I.pin p hp
    have nch : p.1 ∉ ch := fun z => (hch p.1 z).2.2.2 p hp rfl
    exact ⟨keep p.1 p.2 ne nf nch e n, free p.1 p.2 nch e n, ne, nf, d⟩
theorem Inv.un {t' : Nat} (I : Inv X pins σ H s) (u : Un X.fs [] H H' s.heap h') (hok : HOk X.prog X.w H' h') : Inv X pins σ H' { s with heap := h', toks := t' } := by
  obtain ⟨m, ⟨o, es, ep, ho, r⟩, _⟩ := id I.loc
  obtain ⟨sl, hL⟩ := u.any ho I.free (by simp)
  exact I.step (g' := s.gens) (d' := s.drawn) (ch := []) (fun _ z => nomatch z) (fun b o _ hb _ e n => u.keep b o e n hb (by simp)) (fun b o _ hb _ e n => u.slot b o e n hb (by simp)) (fun b o _ e n => u.free b o e n (by simp)) (fun b o _ e => u.there b o e (by simp)) u.tups u.frzs u.tbls (fun m' hm => by
    obtain ⟨o', es', ep', ho', r'⟩ := hm
    rw [ho] at ho'; cases ho'
    exact ⟨_, es', ep', hL, r'⟩) hok I.bare
theorem Inv.call {g' : Array GenState} {t' : Nat} {d' : Drawn} {ch : List Addr} (I : Inv X pins σ H s) (u : Un (frs X.stack) ch H H' s.heap h') (hok : HOk X.prog X.w H' h') (hg : AllBare g')
    (hch : ∀ b ∈ ch, (b ∈ X.ex ∨ X.s_0.heap.objs.size ≤ b) ∧ b ≠ X.env.locals ∧ (∀ x c, X.env.cells.lookup x = some c → c ≠ b) ∧ ∀ p ∈ X.pn ++ pins, p.1 ≠ b) :
    Inv X pins σ H' { s with heap := h', gens := g', drawn := d', toks := t' } := by
  obtain ⟨m, ⟨o, es, ep, ho, r⟩, _⟩ := id I.loc
  obtain ⟨sl, hL⟩ := u.any ho I.free fun z => (hch _ z).2.1 rfl
  exact I.step (ch := ch) hch (fun b o hL hb hc e n => u.keep b o e n (fun z => (List.mem_cons.mp (I.stkSub b z)).elim hL hb) hc) (fun b o _ _ hc e n => u.any e n hc) (fun b o hc e n => u.free b o e n hc) (fun b o hc e => u.there b o e hc) u.tups u.frzs u.tbls (fun m' hm => by
    obtain ⟨o', es', ep', ho', r'⟩ := hm
    rw [ho] at ho'; cases ho'
    exact ⟨_, es', ep', hL, r'⟩) hok hg
theorem Inv.turned {t' : Nat} {it : Addr} (I : Inv X pins σ H s) (k : ∀ b o, b ≠ it → s.heap.get? b = some o → h'.get? b = some o) (hn : H it = none) (hL : it ≠ X.env.locals)
    (h1 : it ∈ X.ex ∨ X.s_0.heap.objs.size ≤ it) (h2 : ∀ x c, X.env.cells.lookup x = some c → c ≠ it) (h3 : ∀ p ∈ X.pn ++ pins, p.1 ≠ it) : Inv X pins σ H { s with heap := h', toks := t' } := by
  have nit : ∀ b u, H b = some u → b ≠ it := fun b u e z => by rw [z, hn] at e; cases e
  refine I.step (g' := s.gens) (d' := s.drawn) (ch := [it]) (fun b hb => ?_) (fun b o _ _ hc e _ => k b o (fun z => hc (by simp [z])) e) (fun b o _ _ hc e _ => ⟨o.slots, k b o (fun z => hc (by simp [z])) e⟩) (fun _ _ _ _ n => n)
    (fun b o hc e => ⟨o, k b o (fun z => hc (by simp [z])) e⟩) (fun _ _ e => e) (fun _ _ _ e => e) (fun b ps e => ⟨#[], by rw [e]; simp⟩) (fun m hm => ?_) (fun b u e => ?_) I.bare
  · have e : b = it := by simpa using hb
    subst e
    exact ⟨h1, hL, h2, h3⟩
  · obtain ⟨o, es, ep, ho, r⟩ := hm
    exact ⟨o, es, ep, k _ o (Ne.symm hL) ho, r⟩
  · refine (I.hok b u e).stay (fun c v hc q => k c v ?_ q) (fun _ q => q) fun _ _ q => q
    rcases hc with z | z
    · rw [z]; exact nit b u e
    · exact nit c _ z
theorem Inv.tok (I : Inv X pins σ H s) (t : Nat) : Inv X pins σ H { s with toks := t } := I.un (h' := s.heap) (t' := t) Un.refl I.hok
theorem Inv.kept {t' : Nat} (I : Inv X pins σ H s) (k : ∀ b u, s.heap.get? b = some u → h'.get? b = some u) : Inv X pins σ H { s with heap := h', toks := t' } := I.un (Un.kept k) (I.hok.kept k)
theorem Inv.laid {a : Addr} {o : HO} {t' : Nat} (I : Inv X pins σ H s) (k : ∀ b u, s.heap.get? b = some u → h'.get? b = some u) (hp : s.heap.objs.size ≤ a) (new : ObjOk X.prog X.w (upd H a o) h' a o) :
    Inv X pins σ (upd H a o) { s with heap := h', toks := t' } := I.un (Un.laid k hp (I.hok.fresh hp)) (I.hok.laid k hp new)
theorem Inv.write {x e : Addr} {o : HO} {t' : Nat} (I : Inv X pins σ H s) (mu : Mut (H x)) (he : e = x ∨ H e = some (.own x)) (k : ∀ b u, b ≠ e → s.heap.get? b = some u → h'.get? b = some u) (heo : ∃ u, h'.get? e = some u)
    (new : ObjOk X.prog X.w (upd H x o) h' x o) : Inv X pins σ (upd H x o) { s with heap := h', toks := t' } := I.un (Un.write mu he k heo) (I.hok.write mu he k heo new)
theorem Inv.weak {σ' : List (Option V)} (I : Inv X pins σ H s) (hl : σ'.length = σ.length) (w : ∀ (i : Nat) v, σ'[i]? = some (some v) → σ[i]? = some (some v)) : Inv X pins σ' H s :=
  ⟨I.ok, I.os, I.bare, I.base, let ⟨m, hn, hl'⟩ := I.loc; ⟨m, hn, fun i x v e1 e2 e3 => hl' i x v e1 (w i v e2) e3⟩, I.cell, I.free, I.freeC, I.pin, I.hok, hl.trans I.len⟩
theorem Inv.pins_of {pins' : List (Addr × Obj)} (I : Inv X pins σ H s) (h : ∀ p ∈ pins', s.heap.get? p.1 = some p.2 ∧ H p.1 = none ∧ p.1 ≠ X.env.locals ∧ p.1 ∉ X.fs ∧ ∀ v, p.2.data ≠ .cell v) : Inv X pins' σ H s :=
  ⟨I.ok, I.os, I.bare, I.base, I.loc, I.cell, I.free, I.freeC, fun p hp => (List.mem_append.mp hp).elim (fun z => I.pin p (List.mem_append_left _ z)) (h p), I.hok, I.len⟩
theorem nodup_ix {N : List Str} (hN : N.Nodup) {i j : Nat} {x : Str} (a : N[i]? = some x) (b : N[j]? = some x) : i = j := by
  obtain ⟨h1, e1⟩ := List.getElem?_eq_some_iff.mp a
  obtain ⟨h2, e2⟩ := List.getElem?_eq_some_iff.mp b
  exact (List.getElem_inj hN).mp (e1.trans e2.symm)
theorem store_ok2 {M : Model} {A : Around} {E : Value → Shared → Prop} {i : Nat} {x : Str} {v : V} {u : Value} {Q : Unit → Shared → Prop} (I : Inv X pins σ H s) (hN : X.N.Nodup) (hi : X.N[i]? = some x) (hx : Loc X.env.scope x) (r : RelV v u)
    (h : ∀ s', Inv X pins (σ.set i (some v)) H s' → (∃ a, Heap.SameBut a s.heap s'.heap ∧ (a = X.env.locals ∨ X.env.cells.lookup x = some a)) → Q () s') (hf : X.fn x = true ∨ X.env.scope.names.lookup x = some .local := by first | exact .inl rfl | exact .inr rfl | assumption) : wpAny M A (storeName X.env x u) Q E s := by
  obtain ⟨m, hn, hl⟩ := id I.loc
  have hcls : (X.env.scope.kind == .class || (X.env.scope.kind == .module && X.env.locals != X.env.globals)) = false := by rw [I.ok.kind]; rfl
  have hiσ : i < σ.length := by rw [I.len]; exact (List.getElem?_eq_some_iff.mp hi).1
  have cne := I.cne
  have tracked : ∀ {a : Addr} {h' : Heap}, (∃ o, s.heap.get? a = some o ∧ H a = none) → Heap.SameBut a s.heap h' → HOk X.prog X.w H h' := fun {a h'} ha hs b ob e => by
    obtain ⟨_, _, hfree⟩ := ha
    refine (I.hok b ob e).stay (fun c w' hc q => (hs.2 c ?_).trans q) (fun _ q => q) fun _ _ q => q
    rintro rfl
    rcases hc with rfl | hc
    · rw [hfree] at e; cases e
    · rw [hfree] at hc; cases hc
  rcases hx with hk | hk
  · refine wpAny_storeName_local hk hn (fun h' hn' hs => ?_) hcls
    obtain ⟨oL, _, _, hoL, _⟩ := id hn
    refine h _ ⟨I.ok, I.os, I.bare, ⟨fun b o e n hb hx => ?_, fun b o e n hb hx => ?_, I.base.free, fun b o e hx => ?_, I.base.tups, I.base.frzs, I.base.tbls⟩, ⟨_, hn', fun j y v' e1 e2 e3 => ?_⟩, fun y c e => ?_, I.free, I.freeC, fun p hp => ?_, tracked ⟨oL, hoL, I.free⟩ hs, by simpa using I.len⟩ ⟨_, hs, .inl rfl⟩
    · exact (hs.2 b (Nat.ne_of_lt (Nat.lt_of_lt_of_le (Heap.lt_size e) I.ok.above))).trans (I.base.keep b o e n hb hx)
    · obtain ⟨sl, e1⟩ := I.base.slot b o e n hb hx
      exact ⟨sl, (hs.2 b (Nat.ne_of_lt (Nat.lt_of_lt_of_le (Heap.lt_size e) I.ok.above))).trans e1⟩
    · obtain ⟨o', e1⟩ := I.base.there b o e hx
      exact ⟨o', (hs.2 b (Nat.ne_of_lt (Nat.lt_of_lt_of_le (Heap.lt_size e) I.ok.above))).trans e1⟩
    · by_cases hj : j = i
      · subst hj
        rw [hi] at e1; cases e1
        rw [List.getElem?_set_self hiσ] at e2
        cases e2
        exact ⟨u, r, .inl ⟨hk, by simp⟩⟩
      · rw [List.getElem?_set_ne (Ne.symm hj)] at e2
        obtain ⟨u', r', q⟩ := hl j y v' e1 e2 e3
        refine ⟨u', r', ?_⟩
        rcases q with ⟨k, e⟩ | ⟨k, c, e, z⟩
        · refine .inl ⟨k, ?_⟩
          have : y ≠ x := fun e => hj (nodup_ix hN e1 (e ▸ hi))
          simp [this, e]
        · exact .inr ⟨k, c, e, z.sameBut hs (cne y c e)⟩
    · obtain ⟨w', z⟩ := I.cell y c e
      exact ⟨w', z.sameBut hs (cne y c e)⟩
    · obtain ⟨e, n, ne, nf, d⟩ := I.pin p hp
      exact ⟨(hs.2 p.1 ne).trans e, n, ne, nf, d⟩
  · have hfn : X.fn x = true := by
      rcases hf with z | z
      · exact z
      · rw [z] at hk; cases hk
    obtain ⟨c, hc⟩ := I.ok.has x (.inl hk)
    obtain ⟨w', z⟩ := I.cell x c hc
    refine wpAny_storeName_cell I.ok.kind hk hc z (fun h' hc' hs => ?_)
    obtain ⟨oc, hoc, hocd⟩ := id z
    refine h { s with heap := h' } ⟨I.ok, I.os, I.bare, ⟨fun b o e n hb hx => ?_, fun b o e n hb hx => ?_, I.base.free, fun b o e hx => ?_, I.base.tups, I.base.frzs, I.base.tbls⟩, ⟨m, hn.sameBut hs (Ne.symm (cne x c hc)), fun j y v' e1 e2 e3 => ?_⟩, fun y c' e => ?_, I.free, I.freeC, fun p hp => ?_, tracked ⟨oc, hoc, I.freeC x c hc⟩ hs, by simpa using I.len⟩ ⟨c, hs, .inr hc⟩
    · exact (hs.2 b (Nat.ne_of_lt (Nat.lt_of_lt_of_le (Heap.lt_size e) (I.ok.cab x c hfn hc)))).trans (I.base.keep b o e n hb hx)
    · obtain ⟨sl, e1⟩ := I.base.slot b o e n hb hx
      exact ⟨sl, (hs.2 b (Nat.ne_of_lt (Nat.lt_of_lt_of_le (Heap.lt_size e) (I.ok.cab x c hfn hc)))).trans e1⟩
    · obtain ⟨o', e1⟩ := I.base.there b o e hx
      exact ⟨o', (hs.2 b (Nat.ne_of_lt (Nat.lt_of_lt_of_le (Heap.lt_size e) (I.ok.cab x c hfn hc)))).trans e1⟩
    · by_cases hj : j = i
      · subst hj
        rw [hi] at e1; cases e1
        rw [List.getElem?_set_self hiσ] at e2
        cases e2
        exact ⟨u, r, .inr ⟨.inl hk, c, hc, hc'⟩⟩
      · rw [List.getElem?_set_ne (Ne.symm hj)] at e2
        obtain ⟨u', r', q⟩ := hl j y v' e1 e2 e3
        refine ⟨u', r', ?_⟩
        rcases q with q | ⟨k, c', e, z'⟩
        · exact .inl q
        · refine .inr ⟨k, c', e, z'.sameBut hs ?_⟩
          rintro rfl
          exact hj (nodup_ix hN e1 (I.ok.inj _ _ _ e hc ▸ hi))
    · by_cases hcc : c' = c
      · subst hcc; exact ⟨_, hc'⟩
      · obtain ⟨w2, z2⟩ := I.cell y c' e
        exact ⟨w2, z2.sameBut hs hcc⟩
    · obtain ⟨e, n, ne, nf, d⟩ := I.pin p hp
      refine ⟨(hs.2 p.1 ?_).trans e, n, ne, nf, d⟩
      intro q
      rw [q, hoc] at e
      have q' : oc = p.2 := Option.some.inj e
      exact d w' (by rw [← q']; exact hocd)
theorem store_ok {M : Model} {A : Around} {E : Value → Shared → Prop} {i : Nat} {x : Str} {v : V} {u : Value} {Q : Unit → Shared → Prop} (I : Inv X pins σ H s) (hN : X.N.Nodup) (hi : X.N[i]? = some x) (hx : Loc X.env.scope x) (r : RelV v u)
    (h : ∀ s', Inv X pins (σ.set i (some v)) H s' → Q () s') (hf : X.fn x = true ∨ X.env.scope.names.lookup x = some .local := by first | exact .inl rfl | exact .inr rfl | assumption) : wpAny M A (storeName X.env x u) Q E s :=
  store_ok2 I hN hi hx r (fun s' I' _ => h s' I') hf
theorem Inv.call' {s' : Shared} {ch : List Addr} (I : Inv X pins σ H s) (ho : s'.os = s.os) (u : Un (frs X.stack) ch H H' s.heap s'.heap) (hok : HOk X.prog X.w H' s'.heap) (hg : AllBare s'.gens)
    (hch : ∀ b ∈ ch, (b ∈ X.ex ∨ X.s_0.heap.objs.size ≤ b) ∧ b ≠ X.env.locals ∧ (∀ x c, X.env.cells.lookup x = some c → c ≠ b) ∧ ∀ p ∈ X.pn ++ pins, p.1 ≠ b) : Inv X pins σ H' s' := by
  obtain ⟨h', g', d', t', o'⟩ := s'
  have e : o' = s.os := ho
  subst e
  exact I.call (g' := g') (t' := t') (d' := d') u hok hg hch
end
abbrev XK := Value → Option Addr → Hp → Prop
abbrev St := List (Option V)
abbrev VK := V → Hp → Prop
abbrev TE := St → Hp → VK → Prop
abbrev TT := St → Hp → (Bool → Hp → Prop) → Prop
abbrev TA := St → Hp → (List V → Hp → Prop) → Prop
structure Ends where
  nx : St → Hp → Prop
  rt : VK
  bk : St → Hp → Prop := fun _ _ => False
  ct : St → Hp → Prop := fun _ _ => False
abbrev TS := Ends → St → Hp → Prop
def EP (X : Cx) (pins : List (Addr × Obj)) (σ : St) (Q : VK) (u : Value) (s' : Shared) : Prop := ∃ v H', Inv X pins σ H' s' ∧ RelV v u ∧ Q v H'
def TP (X : Cx) (pins : List (Addr × Obj)) (σ : St) (Q : Bool → Hp → Prop) (b : Bool) (s' : Shared) : Prop := ∃ H', Inv X pins σ H' s' ∧ Q b H'
def AP (X : Cx) (pins : List (Addr × Obj)) (σ : St) (Q : List V → Hp → Prop) (us : List Value) (s' : Shared) : Prop := ∃ vs H', Inv X pins σ H' s' ∧ Vals vs us ∧ Q vs H'
def SP (X : Cx) (pins : List (Addr × Obj)) (D : Ends) (f : Flow) (s' : Shared) : Prop :=
  match f with
  | .next => ∃ σ' H', Inv X pins σ' H' s' ∧ D.nx σ' H'
  | .brk => ∃ σ' H', Inv X pins σ' H' s' ∧ D.bk σ' H'
  | .cont => ∃ σ' H', Inv X pins σ' H' s' ∧ D.ct σ' H'
  | .ret u => ∃ v σ' H', Inv X pins σ' H' s' ∧ RelV v u ∧ D.rt v H'
def PE (X : Cx) (e : Expr) (t : TE) : Prop :=
  ∀ (pins : List (Addr × Obj)) (s : Shared) (σ : St) (H : Hp) (Q : VK), Inv X pins σ H s → t σ H Q → wpAny (model X.prog X.w) X.A (eval e X.env) (EP X pins σ Q) X.xe s
def PT (X : Cx) (e : Expr) (t : TT) : Prop :=
  ∀ (pins : List (Addr × Obj)) (s : Shared) (σ : St) (H : Hp) (Q : Bool → Hp → Prop), Inv X pins σ H s → t σ H Q → wpAny (model X.prog X.w) X.A (isTrue e X.env (eval e X.env)) (TP X pins σ Q) X.xe s
def PW (X : Cx) (e : Expr) (t : TT) : Prop :=
  ∀ (whole : Sem Value) (pins : List (Addr × Obj)) (s : Shared) (σ : St) (H : Hp) (Q : Bool → Hp → Prop), Inv X pins σ H s → t σ H Q → wpAny (model X.prog X.w) X.A (isTrue e X.env whole) (TP X pins σ Q) X.xe s
theorem PW.pt {X : Cx} {e : Expr} {t : TT} (h : PW X e t) : PT X e t := h _
def PA (X : Cx) (es : List Expr) (t : TA) : Prop :=
  ∀ (pos : Pos) (pins : List (Addr × Obj)) (s : Shared) (σ : St) (H : Hp) (Q : List V → Hp → Prop), Inv X pins σ H s → t σ H Q → wpAny (model X.prog X.w) X.A (spliced (backTo pos (starEach es X.env))) (AP X pins σ Q) X.xe s
def PS (X : Cx) (st : Stmt) (t : TS) : Prop :=
  ∀ (pins : List (Addr × Obj)) (s : Shared) (σ : St) (H : Hp) (D : Ends), Inv X pins σ H s → t D σ H → wpAny (model X.prog X.w) X.A (exec st X.env) (SP X pins D) X.xe s
def PSs (X : Cx) (st : List Stmt) (t : TS) : Prop :=
  ∀ (pins : List (Addr × Obj)) (s : Shared) (σ : St) (H : Hp) (D : Ends), Inv X pins σ H s → t D σ H → wpAny (model X.prog X.w) X.A (execs st X.env) (SP X pins D) X.xe s
theorem thn {α : Type} {t : Sem α} {Q Q' : α → Shared → Prop} {M : Model} {A : Around} {E : Value → Shared → Prop} {s : Shared} (h : wpAny M A t Q E s) (hQ : ∀ a s, Q a s → Q' a s) : wpAny M A t Q' E s := wpAny_mono h hQ fun _ _ x => x
end L2
namespace L2
open PySem PySem.Spec PyProof.Rows
section
variable {X : Cx}
def tVar (i : Nat) : TE := fun σ H Q => ∃ v, σ[i]? = some (some v) ∧ Q v H
def tC (v : V) : TE := fun _ H Q => Q v H
theorem pe_var {i : Nat} {x : Str} {pos : Pos} (hN : X.N[i]? = some x) (hv : Vis X.env.scope x) (hd : (x == ("__debug__" : Str)) = false := by decide) (hcd : (x == ("__classdict__" : Str)) = false := by decide) : PE X (.Name x pos) (tVar i) := by
  intro pins s σ H Q I h
  obtain ⟨v, e, h⟩ := h
  obtain ⟨m, hn, hl⟩ := I.loc
  obtain ⟨u, r, l⟩ := hl i x v hN e hv
  have fin : EP X pins σ Q u s := ⟨v, H, I, r, h⟩
  rcases l with ⟨hk, hm⟩ | ⟨hk, c, hc, hcell⟩
  · exact wpAny_Name (wpAny_loadName_local I.ok.kind hk hn hm fin) hd
  · rcases hk with hk | hk
    · exact wpAny_Name (wpAny_loadName_cell I.ok.kind hk hc hcell fin) hd
    · exact wpAny_Name (wpAny_loadName_free I.ok.kind hk hc hcell fin hcd) hd
theorem pe_int {i j pos} : PE X (.Constant (.int i) j pos) (tC (.int i)) := fun _ _ _ H _ I h => wpAny_Constant_int ⟨.int i, H, I.tok _, ⟨_, rfl⟩, h⟩
theorem pe_bl {b j pos} : PE X (.Constant (.bool b) j pos) (tC (.bl b)) := fun _ _ _ H _ I h => Constant_bool ⟨.bl b, H, I, rfl, h⟩
theorem pe_non {j pos} : PE X (.Constant .none j pos) (tC .non) := fun _ _ _ H _ I h => Constant_none ⟨.non, H, I, rfl, h⟩
def Gl (X : Cx) (x : Str) : Prop := X.env.kindOf x = some .globalImplicit
theorem ld_glob {E : Value → Shared → Prop} {pins : List (Addr × Obj)} {s : Shared} {σ : St} {H : Hp} {x : Str} {u : Value} {pos : Pos} {Q : Value → Shared → Prop} (I : Inv X pins σ H s) (hg : Gl X x) (hm : X.mg x = some u) (h : Q u s)
    (hd : (x == ("__debug__" : Str)) = false := by decide) : wpAny (model X.prog X.w) X.A (eval (.Name x pos) X.env) Q E s :=
  Calls.Name_function_global I.ok.kind hg (Calls.loadGlobal_global (by rw [I.ok.glob]; exact I.mod.glob.keeps I.bk) hm h) hd
theorem ld_blt {E : Value → Shared → Prop} {pins : List (Addr × Obj)} {s : Shared} {σ : St} {H : Hp} {x : Str} {u : Value} {pos : Pos} {Q : Value → Shared → Prop} (I : Inv X pins σ H s) (hg : Gl X x) (hm : X.mg x = none) (hv : bootBuiltins x = some u) (h : Q u s)
    (hn : x ≠ "__name__" := by decide) (hd : (x == ("__debug__" : Str)) = false := by decide) : wpAny (model X.prog X.w) X.A (eval (.Name x pos) X.env) Q E s := by
  obtain ⟨mb, h1, h2⟩ := I.mod.blt
  exact Calls.Name_function_global I.ok.kind hg (Calls.loadGlobal_builtin (by rw [I.ok.glob]; exact I.mod.glob.keeps I.bk) hm (by rw [I.ok.blt]; exact h1.keeps I.bk) ((h2 x hn).trans hv) h) hd
theorem pe_glob {x : Str} {v : V} {u : Value} {pos : Pos} (hg : Gl X x) (hm : X.mg x = some u) (r : RelV v u) (hd : (x == ("__debug__" : Str)) = false := by decide) : PE X (.Name x pos) (tC v) :=
  fun _ _ _ H _ I h => ld_glob I hg hm ⟨v, H, I, r, h⟩ hd
variable {a b : Expr} {ta tb : TE} {pos : Pos}
def PC (X : Cx) (op : CmpOp) (a b : Expr) (t : TE) : Prop :=
  ∀ (pins : List (Addr × Obj)) (s : Shared) (σ : St) (H : Hp) (Q : VK), Inv X pins σ H s → t σ H Q →
    wpAny (model X.prog X.w) X.A (eval a X.env) (fun v s₁ => wpAny (model X.prog X.w) X.A (eval b X.env) (fun u s₂ => wpAny (model X.prog X.w) X.A (compareOp op v u) (EP X pins σ Q) X.xe s₂) X.xe s₁) X.xe s
theorem nobehind (b : Expr) {op : CmpOp} (h : op ≠ .In) (h2 : op ≠ .NotIn) : behindInMarks op b = false := by
  have e1 : (op == CmpOp.In) = false := by cases op <;> first | rfl | exact absurd rfl h
  have e2 : (op == CmpOp.NotIn) = false := by cases op <;> first | rfl | exact absurd rfl h2
  cases b <;> simp [behindInMarks, e1, e2]
def tIsN (ta : TE) : TE := fun σ H Q => ta σ H fun x H1 => Q (.bl (decide (x = .non))) H1
def tNotN (ta : TE) : TE := fun σ H Q => ta σ H fun x H1 => Q (.bl (!decide (x = .non))) H1
theorem RelV.none_iff {x : V} {v : Value} (r : RelV x v) : (v == Value.none) = decide (x = .non) := by
  cases x with
  | non => cases r; rfl
  | bl _ => cases r; rfl
  | int _ => obtain ⟨t, rfl⟩ := r; rfl
  | str _ => obtain ⟨t, rfl⟩ := r; rfl
  | byt _ => obtain ⟨t, rfl⟩ := r; rfl
  | flt _ => obtain ⟨t, rfl⟩ := r; rfl
  | ref _ => cases r; rfl
  | ty _ => cases r; rfl
theorem pc_isN {j pos'} (ha : PE X a ta) : PC X .Is a (.Constant .none j pos') (tIsN ta) := by
  intro pins s σ H Q I h
  refine thn (ha pins s σ H _ I h) fun v s1 ⟨x, H1, I1, r1, q1⟩ => ?_
  exact Constant_none (is_none_gen ⟨.bl _, H1, I1, by rw [r1.none_iff]; rfl, q1⟩)
theorem pc_notN {j pos'} (ha : PE X a ta) : PC X .IsNot a (.Constant .none j pos') (tNotN ta) := by
  intro pins s σ H Q I h
  refine thn (ha pins s σ H _ I h) fun v s1 ⟨x, H1, I1, r1, q1⟩ => ?_
  exact Constant_none (isnot_none_gen ⟨.bl _, H1, I1, by rw [r1.none_iff]; rfl, q1⟩)
def tB (t : TE) : TT := fun σ H Q => t σ H fun x H1 => ∃ c, x = .bl c ∧ Q c H1
theorem pe_cmp {op : CmpOp} {t : TE} (h : PC X op a b t) (h1 : behindInMarks op b = false := by first | exact nobehind _ (by decide) (by decide) | rfl) : PE X (.Compare a [op] [b] pos) t := fun pins s σ H Q I hw => wpAny_Compare1 (h pins s σ H Q I hw) h1
theorem pt_cmp {op : CmpOp} {t : TE} (h : PC X op a b t) (h1 : behindInMarks op b = false := by first | exact nobehind _ (by decide) (by decide) | rfl) : PT X (.Compare a [op] [b] pos) (tB t) := by
  intro pins s σ H Q I hw
  refine wpAny_isTrue_Compare1 (thn (h pins s σ H _ I hw) fun v s1 h1 => thn h1 fun u s2 h2 => thn h2 fun c s3 ⟨x, H1, I1, r1, q1⟩ => ?_) h1
  obtain ⟨d, rfl, q⟩ := q1
  cases r1
  exact wpAny_truthy_bool ⟨H1, I1, q⟩
theorem pt_val {e : Expr} {t : TE} (h : PE X e t) (he : ∀ whole, isTrue e X.env whole = (do let v ← whole; standAt e.pos; holding [v] (truthy v)) := by intro _; rfl) : PT X e (tB t) := by
  intro pins s σ H Q I hw
  refine isTrue_plain (thn (h pins s σ H _ I hw) fun v s1 ⟨x, H1, I1, r1, q1⟩ => ?_) (he _)
  obtain ⟨d, rfl, q⟩ := q1
  cases r1
  exact wpAny_truthy_bool ⟨H1, I1, q⟩
variable {tA tB' : TT} {rest : List Expr}
def tAnd (t u : TT) : TT := fun σ H Q => t σ H fun c H1 => if c = true then u σ H1 Q else Q false H1
def tOr (t u : TT) : TT := fun σ H Q => t σ H fun c H1 => if c = true then Q true H1 else u σ H1 Q
def tNot (t : TT) : TT := fun σ H Q => t σ H fun c H1 => Q (!c) H1
theorem pw_and1 (ha : PT X a tA) : PW X (.BoolOp .And [a] pos) tA := by
  intro wh pins s σ H Q I h
  refine isTrue_and (thn (ha pins s σ H Q I h) fun c s1 e => ?_)
  cases c with
  | true => exact isTrue_and_nil e
  | false => exact e
theorem pw_or1 (ha : PT X a tA) : PW X (.BoolOp .Or [a] pos) tA := by
  intro wh pins s σ H Q I h
  refine isTrue_or (thn (ha pins s σ H Q I h) fun c s1 e => ?_)
  cases c with
  | false => exact isTrue_or_nil e
  | true => exact e
theorem pw_and (ha : PT X a tA) (hb : PW X (.BoolOp .And (b :: rest) pos) tB') : PW X (.BoolOp .And (a :: b :: rest) pos) (tAnd tA tB') := by
  intro wh pins s σ H Q I h
  refine isTrue_and (thn (ha pins s σ H _ I h) fun c s1 ⟨H1, I1, q1⟩ => ?_)
  cases c with
  | true => exact hb wh pins s1 σ H1 Q I1 q1
  | false => exact ⟨H1, I1, q1⟩
theorem pw_or (ha : PT X a tA) (hb : PW X (.BoolOp .Or (b :: rest) pos) tB') : PW X (.BoolOp .Or (a :: b :: rest) pos) (tOr tA tB') := by
  intro wh pins s σ H Q I h
  refine isTrue_or (thn (ha pins s σ H _ I h) fun c s1 ⟨H1, I1, q1⟩ => ?_)
  cases c with
  | true => exact ⟨H1, I1, q1⟩
  | false => exact hb wh pins s1 σ H1 Q I1 q1
theorem pt_not (ha : PT X a tA) : PT X (.UnaryOp .Not a pos) (tNot tA) := by
  intro pins s σ H Q I h
  exact isTrue_not (ha pins s σ H (fun c H1 => Q (!c) H1) I h)
def tAndV (ta tb : TE) : TE := fun σ H Q => ta σ H fun x H1 => ∃ c, x = .bl c ∧ if c = true then tb σ H1 Q else Q (.bl false) H1
def tOrV (ta tb : TE) : TE := fun σ H Q => ta σ H fun x H1 => ∃ c, x = .bl c ∧ if c = true then Q (.bl true) H1 else tb σ H1 Q
theorem pe_one {op} {t : TE} (h : PE X a t) : PE X (.BoolOp op [a] pos) t := fun pins s σ H Q I hw => BoolOp_one (h pins s σ H Q I hw)
theorem pe_and (ha : PE X a ta) (hb : PE X (.BoolOp .And (b :: rest) pos) tb) : PE X (.BoolOp .And (a :: b :: rest) pos) (tAndV ta tb) := by
  intro pins s σ H Q I h
  refine BoolOp_and (thn (ha pins s σ H _ I h) fun v s1 ⟨x, H1, I1, r1, q1⟩ => ?_)
  obtain ⟨c, rfl, q1⟩ := q1
  cases r1
  refine wpAny_truthy_bool ?_
  cases c with
  | true => exact hb pins s1 σ H1 Q I1 q1
  | false => exact ⟨.bl false, H1, I1, rfl, q1⟩
theorem pe_or (ha : PE X a ta) (hb : PE X (.BoolOp .Or (b :: rest) pos) tb) : PE X (.BoolOp .Or (a :: b :: rest) pos) (tOrV ta tb) := by
  intro pins s σ H Q I h
  refine BoolOp_or (thn (ha pins s σ H _ I h) fun v s1 ⟨x, H1, I1, r1, q1⟩ => ?_)
  obtain ⟨c, rfl, q1⟩ := q1
  cases r1
  refine wpAny_truthy_bool ?_
  cases c with
  | false => exact hb pins s1 σ H1 Q I1 q1
  | true => exact ⟨.bl true, H1, I1, rfl, q1⟩
def tIf (t : TT) (ta tb : TE) : TE := fun σ H Q => t σ H fun c H1 => if c = true then ta σ H1 Q else tb σ H1 Q
theorem pe_ifExp {c : Expr} (hc : PT X c tA) (ha : PE X a ta) (hb : PE X b tb) : PE X (.IfExp c a b pos) (tIf tA ta tb) := by
  intro pins s σ H Q I h
  refine wpAny_IfExp (thn (hc pins s σ H _ I h) fun d s1 ⟨H1, I1, q1⟩ => ?_)
  cases d with
  | true => exact ha pins s1 σ H1 Q I1 q1
  | false => exact hb pins s1 σ H1 Q I1 q1
end
end L2
namespace L2
open PySem PySem.Spec PyProof.Rows
def SqL (K : PySem.W.Frag) (H : Hp) (a : Addr) (xs : List V) : Prop :=
  Rd H a (.lst xs) ∨
    ∃ (o : Obj) (its : Array Value) (n : Nat), K.lookup a = some o ∧ o.cls = .type "list" ∧ o.dict = none ∧ o.data = .seq its n ∧ its.size ≤ sizeLine ∧ Vals xs its.toList
def SqT (K : PySem.W.Frag) (H : Hp) (a : Addr) (xs : List V) : Prop :=
  Rd H a (.tup xs) ∨
    ∃ (o : Obj) (its : Array Value) (n : Nat), K.lookup a = some o ∧ o.cls = .type "tuple" ∧ o.data = .seq its n ∧ its.size ≤ sizeLine ∧ Vals xs its.toList
def absV : Value → Option V
  | .none => some .non
  | .bool b => some (.bl b)
  | .int i _ => some (.int i)
  | .str x _ => some (.str x)
  | .bytes b _ => some (.byt b)
  | .float b _ => some (.flt b)
  | .ref a => some (.ref a)
  | .type n => some (.ty n)
  | _ => none
theorem RelV.abs {x : V} {u : Value} (r : RelV x u) : absV u = some x := by
  cases x with
  | non => cases r; rfl
  | bl _ => cases r; rfl
  | int _ => obtain ⟨t, rfl⟩ := r; rfl
  | str _ => obtain ⟨t, rfl⟩ := r; rfl
  | byt _ => obtain ⟨t, rfl⟩ := r; rfl
  | flt _ => obtain ⟨t, rfl⟩ := r; rfl
  | ref _ => cases r; rfl
  | ty _ => cases r; rfl
theorem RelV.inj {x y : V} {u : Value} (r : RelV x u) (q : RelV y u) : x = y := Option.some.inj (r.abs.symm.trans q.abs)
theorem Vals.inj : ∀ {xs ys : List V} {us : List Value}, Vals xs us → Vals ys us → xs = ys
  | _, _, _, .nil, .nil => rfl
  | _, _, _, .cons r t, .cons r' t' => by rw [r.inj r', Vals.inj t t']
section
variable {X : Cx} {pins : List (Addr × Obj)} {σ : St} {H : Hp} {s : Shared} {a : Addr} {xs ys : List V}
theorem SqL.of {K : PySem.W.Frag} (h : H a = some (.lst xs)) : SqL K H a xs := .inl (.inl h)
theorem SqT.of {K : PySem.W.Frag} (h : H a = some (.tup xs)) : SqT K H a xs := .inl (.inl h)
theorem Inv.list (I : Inv X pins σ H s) (h : SqL X.K H a xs) : ∃ its : List Value, Vals xs its ∧ PlainL s.heap a its.toArray ∧ xs.length ≤ sizeLine := by
  rcases h with h | ⟨o, its, n, hk, hc, hd, hs, hz, r⟩
  · obtain ⟨z, its, n, r, e⟩ := h.ok I.hok
    exact ⟨its, r, ⟨_, n, e, rfl, rfl, rfl⟩, z⟩
  · refine ⟨its.toList, r, ⟨o, n, I.kIn a o hk, hc, hd, by simpa using hs⟩, ?_⟩
    have e := r.length
    simp only [Array.length_toList] at e
    omega
theorem Inv.tuple (I : Inv X pins σ H s) (h : SqT X.K H a xs) : ∃ its : List Value, Vals xs its ∧ IsTup s.heap a its.toArray ∧ xs.length ≤ sizeLine := by
  rcases h with h | ⟨o, its, n, hk, hc, hs, hz, r⟩
  · obtain ⟨z, its, r, p⟩ := h.ok I.hok
    exact ⟨its, r, p, z⟩
  · refine ⟨its.toList, r, ⟨o, I.kIn a o hk, hc, n, by simpa using hs⟩, ?_⟩
    have e := r.length
    simp only [Array.length_toList] at e
    omega
theorem Inv.list_inj (I : Inv X pins σ H s) (h : SqL X.K H a xs) (h' : SqL X.K H a ys) : xs = ys := by
  obtain ⟨its, r, ⟨o, n, e, _, _, d⟩, _⟩ := I.list h
  obtain ⟨its', r', ⟨o', n', e', _, _, d'⟩, _⟩ := I.list h'
  rw [e] at e'; cases e'
  rw [d] at d'
  injection d' with d1 _
  have : its = its' := by simpa using congrArg Array.toList d1
  subst this
  exact r.inj r'
end
abbrev Cx.wish (X : Cx) (E : Value → Shared → Prop) : Cx := { X with xe := E }
abbrev Cx.nox (X : Cx) : Cx := X.wish fun _ _ => False
theorem Cx.Ok.wish {X : Cx} (ok : X.Ok) (E : Value → Shared → Prop) : (X.wish E).Ok :=
  ⟨ok.mod, ok.kind, ok.glob, ok.blt, ok.above, ok.inj, ok.has, ok.cab, ok.hd, ok.frames, ok.stk, ok.exf, ok.bs, ok.bsz, ok.noex, ok.exfs, ok.funs, ok.frf⟩
theorem Cx.Ok.unwish {X : Cx} {E : Value → Shared → Prop} (ok : (X.wish E).Ok) : X.Ok :=
  ⟨ok.mod, ok.kind, ok.glob, ok.blt, ok.above, ok.inj, ok.has, ok.cab, ok.hd, ok.frames, ok.stk, ok.exf, ok.bs, ok.bsz, ok.noex, ok.exfs, ok.funs, ok.frf⟩
section
variable {X : Cx} {pins : List (Addr × Obj)} {σ : St} {H : Hp} {s : Shared} {E : Value → Shared → Prop}
theorem Inv.wish (I : Inv X pins σ H s) (E : Value → Shared → Prop) : Inv (X.wish E) pins σ H s := ⟨I.ok.wish E, I.os, I.bare, I.base, I.loc, I.cell, I.free, I.freeC, I.pin, I.hok, I.len⟩
theorem Inv.unwish (I : Inv (X.wish E) pins σ H s) : Inv X pins σ H s := ⟨I.ok.unwish, I.os, I.bare, I.base, I.loc, I.cell, I.free, I.freeC, I.pin, I.hok, I.len⟩
theorem SP.unwish {D : Ends} {f : Flow} {s' : Shared} (h : SP (X.wish E) pins D f s') : SP X pins D f s' := by
  cases f with
  | next => obtain ⟨σ', H', I, q⟩ := h; exact ⟨σ', H', I.unwish, q⟩
  | brk => obtain ⟨σ', H', I, q⟩ := h; exact ⟨σ', H', I.unwish, q⟩
  | cont => obtain ⟨σ', H', I, q⟩ := h; exact ⟨σ', H', I.unwish, q⟩
  | ret u => obtain ⟨v, σ', H', I, r, q⟩ := h; exact ⟨v, σ', H', I.unwish, r, q⟩
theorem PSs.nox {st : List Stmt} {t : TS} (h : PSs X.nox st t) : PSs X st t := fun pins s σ H D I hw =>
  wpAny_mono (h pins s σ H D (I.wish _) hw) (fun _ _ q => q.unwish) fun _ _ z => False.elim z
end
section
variable {X : Cx} {st : Stmt} {rest : List Stmt} {t u : TS} {e : Expr} {te : TE} {pos : Pos}
def tNext : TS := fun D σ H => D.nx σ H
def tSeq (t u : TS) : TS := fun D σ H => t { D with nx := u D } σ H
theorem pss_nil : PSs X [] tNext := fun _ _ σ H _ I h => wpAny_execs_nil ⟨σ, H, I, h⟩
theorem pss_cons (h1 : PS X st t) (h2 : PSs X rest u) : PSs X (st :: rest) (tSeq t u) := by
  intro pins s σ H D I h
  refine wpAny_execs_cons (thn (h1 pins s σ H { D with nx := u D } I h) fun f s1 q => ?_)
  cases f with
  | next =>
    obtain ⟨σ', H', I', q⟩ := q
    exact h2 pins s1 σ' H' D I' q
  | ret v => exact q
  | brk => exact q
  | cont => exact q
theorem pss_one (h1 : PS X st t) : PSs X [st] t := by
  intro pins s σ H D I h
  refine wpAny_execs_cons (thn (h1 pins s σ H D I h) fun f s1 q => ?_)
  cases f with
  | next => exact wpAny_execs_nil q
  | ret v => exact q
  | brk => exact q
  | cont => exact q
theorem Inv.quiet {pins : List (Addr × Obj)} {σ : St} {H : Hp} {s : Shared} (I : Inv X pins σ H s) : interactive X.env = false := by simp [interactive, I.ok.kind]
def tDrop (te : TE) : TS := fun D σ H => te σ H fun _ H1 => D.nx σ H1
theorem ps_expr (he : PE X e te) (hs : swapsWith e none pos.line X.env = pure false := by rfl) : PS X (.Expr e pos) (tDrop te) := by
  intro pins s σ H D I h
  exact wpAny_Expr_any (thn (he pins s σ H _ I h) fun v s1 ⟨x, H1, I1, r1, q1⟩ => ⟨σ, H1, I1, q1⟩) I.quiet hs
def tRet (te : TE) : TS := fun D σ H => te σ H D.rt
theorem ps_ret (he : PE X e te) : PS X (.Return (some e) pos) (tRet te) := by
  intro pins s σ H D I h
  exact wpAny_Return_some (thn (he pins s σ H _ I h) fun v s1 ⟨x, H1, I1, r1, q1⟩ => ⟨x, σ, H1, I1, r1, q1⟩)
def tIfS (c : TT) (t u : TS) : TS := fun D σ H => c σ H fun b H1 => if b = true then t D σ H1 else u D σ H1
theorem ps_if {c : Expr} {a b : List Stmt} {tc : TT} (hc : PT X c tc) (ha : PSs X a t) (hb : PSs X b u) : PS X (.If c a b pos) (tIfS tc t u) := by
  intro pins s σ H D I h
  refine wpAny_If (thn (hc pins s σ H _ I h) fun d s1 ⟨H1, I1, q1⟩ => ?_)
  cases d with
  | true => exact ha pins s1 σ H1 D I1 q1
  | false => exact hb pins s1 σ H1 D I1 q1
end
abbrev TG := V → St → Hp → (St → Hp → Prop) → Prop
abbrev TGs := List V → St → Hp → (St → Hp → Prop) → Prop
def PG (X : Cx) (target : Expr) (t : TG) : Prop :=
  ∀ (pins : List (Addr × Obj)) (s : Shared) (σ : St) (H : Hp) (v : V) (u : Value) (Q : St → Hp → Prop), Inv X pins σ H s → RelV v u → t v σ H Q →
    wpAny (model X.prog X.w) X.A (assign target X.env u) (fun _ s' => ∃ σ' H', Inv X pins σ' H' s' ∧ Q σ' H') X.xe s
def PGs (X : Cx) (ts : List Expr) (t : TGs) : Prop :=
  ∀ (pins : List (Addr × Obj)) (s : Shared) (σ : St) (H : Hp) (vs : List V) (us : List Value) (Q : St → Hp → Prop), Inv X pins σ H s → Vals vs us → t vs σ H Q →
    wpAny (model X.prog X.w) X.A (assignInOrder ((assignEach ts X.env).map (·.2)) us) (fun _ s' => ∃ σ' H', Inv X pins σ' H' s' ∧ Q σ' H') X.xe s
section
variable {X : Cx} {pos : Pos}
def gName (i : Nat) : TG := fun v σ H Q => Q (σ.set i (some v)) H
theorem pg_name {i : Nat} {x : Str} (hN : X.N.Nodup) (hi : X.N[i]? = some x) (hx : Loc X.env.scope x) (hf : X.fn x = true ∨ X.env.scope.names.lookup x = some .local := by first | exact .inl rfl | exact .inr rfl | assumption) : PG X (.Name x pos) (gName i) := by
  intro pins s σ H v u Q I r h
  exact wpAny_assign_Name (store_ok I hN hi hx r (fun s' I' => ⟨_, H, I', h⟩) hf)
def gNil : TGs := fun vs σ H Q => vs = [] ∧ Q σ H
def gCons (t : TG) (u : TGs) : TGs := fun vs σ H Q => ∃ v r, vs = v :: r ∧ t v σ H fun σ' H' => u r σ' H' Q
theorem pgs_nil : PGs X [] gNil := by
  intro pins s σ H vs us Q I r h
  obtain ⟨e, h⟩ := h
  subst e
  cases r
  exact assignInOrder_nil ⟨σ, H, I, h⟩
theorem pgs_cons {e : Expr} {es : List Expr} {t : TG} {u : TGs} (h1 : PG X e t) (h2 : PGs X es u)
    (hs : (assignEach (e :: es) X.env).map (·.2) = assign e X.env :: (assignEach es X.env).map (·.2) := by rfl) : PGs X (e :: es) (gCons t u) := by
  intro pins s σ H vs us Q I r h
  obtain ⟨v, vr, e1, h⟩ := h
  subst e1
  cases r with
  | cons r rr =>
    rw [hs]
    refine assignInOrder_cons (thn (h1 pins s σ H _ _ _ I r h) fun _ s1 ⟨σ1, H1, I1, q1⟩ => ?_)
    exact h2 pins s1 σ1 H1 _ _ Q I1 rr q1
def gTup (K : PySem.W.Frag) (n : Nat) (t : TGs) : TG := fun v σ H Q => ∃ a xs, v = .ref a ∧ SqT K H a xs ∧ xs.length = n ∧ t xs σ H Q
theorem pg_tup {es : List Expr} {k : Nat} {t : TGs} {n : Nat} (hc : X.calm = true) (h : PGs X es t)
    (hn : (assignEach es X.env).length = n := by rfl) (hst : (assignEach es X.env).findIdx? (·.1) = none := by rfl) : PG X (.Tuple es k pos) (gTup X.K n t) := by
  intro pins s σ H v u Q I r hw
  obtain ⟨a, xs, e1, hq, hl, hw⟩ := hw
  subst e1
  cases r
  obtain ⟨its, rv, ht, hz⟩ := I.tuple hq
  refine assign_Tuple_tuple (I.ok.hd hc) ht (by simp [hn, ← hl, rv.length]) hst fun h' hx => ?_
  have I1 : Inv X pins σ H { s with heap := h' } := I.kept (t' := s.toks) fun b o e => hx b o (Nat.ne_of_lt (Heap.lt_size e)) e
  exact h pins _ σ H xs _ Q I1 (by simpa using rv) hw
def tAsg (te : TE) (g : TG) : TS := fun D σ H => te σ H fun x H1 => g x σ H1 D.nx
theorem ps_set {i : Nat} {x : Str} {e : Expr} {te : TE} {pos' : Pos} (hN : X.N.Nodup) (hi : X.N[i]? = some x) (hx : Loc X.env.scope x) (he : PE X e te) (hs : swapsWith e (some (.Name x pos')) pos.line X.env = pure false := by rfl) (hf : X.fn x = true ∨ X.env.scope.names.lookup x = some .local := by first | exact .inl rfl | exact .inr rfl | assumption) :
    PS X (.Assign [.Name x pos'] e pos) (tAsg te (gName i)) := by
  intro pins s σ H D I h
  refine wpAny_Assign_Name (thn (he pins s σ H _ I h) fun v s1 ⟨y, H1, I1, r1, q1⟩ => ?_) hs
  exact store_ok I1 hN hi hx r1 (fun s2 I2 => ⟨_, H1, I2, q1⟩) hf
end
section
variable {X : Cx} {pos : Pos}
def tWhile (c : TT) (tb : TS) : TS := fun D σ H => ∃ W : Nat → St → Hp → Prop, (∃ m, W m σ H) ∧ ∀ m σ H, W m σ H →
  c σ H fun b H1 => if b = true then ∃ N : St → Hp → Prop, (∀ σ' H', N σ' H' → ∃ m', m' < m ∧ W m' σ' H') ∧ tb { D with nx := N, ct := N, bk := D.nx } σ H1 else D.nx σ H1
theorem ps_while {c : Expr} {body : List Stmt} {tc : TT} {tb : TS} (hp : PassesOwn (model X.prog X.w) X.A X.env X.xe) (hc : PT X c tc) (hb : PSs X body tb) : PS X (.While c body [] pos) (tWhile tc tb) := by
  intro pins s σ H D I h
  obtain ⟨W, ⟨m0, w0⟩, turn⟩ := h
  refine wpAny_While (codeAny_whileLoop (fun n s' => ∃ σ' H', Inv X pins σ' H' s' ∧ W n σ' H') ?_ m0 ⟨σ, H, I, w0⟩)
  rintro n s1 ⟨σ1, H1, I1, w1⟩
  refine wpAny_passesOwn hp (thn (hc pins s1 σ1 H1 _ I1 (turn n σ1 H1 w1)) fun b s2 ⟨H2, I2, q2⟩ => ?_)
  cases b with
  | true =>
    obtain ⟨N, hN, q2⟩ := q2
    rw [if_pos rfl]
    refine wpAny_passesOwn hp (thn (hb pins s2 σ1 H2 _ I2 q2) fun f s3 q3 => ?_)
    cases f with
    | next =>
      obtain ⟨σ3, H3, I3, n3⟩ := q3
      obtain ⟨m', hm, w3⟩ := hN σ3 H3 n3
      exact ⟨m', hm, σ3, H3, I3, w3⟩
    | cont =>
      obtain ⟨σ3, H3, I3, n3⟩ := q3
      obtain ⟨m', hm, w3⟩ := hN σ3 H3 n3
      exact ⟨m', hm, σ3, H3, I3, w3⟩
    | brk => exact q3
    | ret v => exact q3
  | false =>
    rw [if_neg Bool.false_ne_true]
    exact wpAny_execs_nil ⟨σ1, H2, I2, q2⟩
end
structure It where
  go : Nat → Hp → Prop
  yld : Nat → Hp → V → Hp → Prop
  stop : Nat → Hp → Prop
def FpOk (X : Cx) (pins : List (Addr × Obj)) (H : Hp) (b : Addr) : Prop :=
  H b = none ∧ b ≠ X.env.locals ∧ b ∉ X.fs ∧ (b ∈ X.ex ∨ X.s_0.heap.objs.size ≤ b) ∧ (∀ x c, X.env.cells.lookup x = some c → c ≠ b) ∧ ∀ p ∈ X.pn ++ pins, p.1 ≠ b
theorem Inv.fpOk {X : Cx} {pins : List (Addr × Obj)} {σ : St} {H H' : Hp} {s : Shared} {b : Addr} (I : Inv X pins σ H s) (hb : s.heap.objs.size ≤ b) (hn : H' b = none) : FpOk X pins H' b := by
  refine ⟨hn, Nat.ne_of_gt (Nat.lt_of_lt_of_le I.lt hb), I.nofs hb, .inr (Nat.le_trans I.sz hb), fun x c e z => ?_, fun p hp z => ?_⟩
  · obtain ⟨v, q⟩ := I.cell x c e
    exact absurd (Nat.lt_of_lt_of_le q.lt (by rw [z]; exact hb)) (Nat.lt_irrefl _)
  · exact absurd (Nat.lt_of_lt_of_le (Heap.lt_size (I.pin p hp).1) (by rw [z]; exact hb)) (Nat.lt_irrefl _)
structure Turn (P : Program) (w : World) (K : PySem.W.Frag) (tg : Expr) (J : It) (fp : List Addr) (it : Addr) (tn : Nat → Heap → Prop) : Prop where
  mem : it ∈ fp
  obj : ∀ i h, tn i h → ∀ b ∈ fp, ∃ o, h.get? b = some o ∧ ∀ v, o.data ≠ .cell v
  keep : ∀ i h h', tn i h → (∀ b ∈ fp, ∀ o, h.get? b = some o → h'.get? b = some o) → tn i h'
  item : ∀ (X : Cx), X.prog = P → X.w = w → X.K = K → X.calm = true → ∀ (i : Nat) (pins : List (Addr × Obj)) (s : Shared) (σ : St) (H : Hp) (E : Value → Shared → Prop), Inv X pins σ H s → (∀ b ∈ fp, FpOk X pins H b) → tn i s.heap → J.go i H →
    wpAny (model P w) X.A (pyNext (.ref it)) (fun r s1 => ∃ u, r = some u ∧
      wpAny (model P w) X.A (letOwnedTupleGo tg (.ref it) u) (fun _ s2 => ∃ x H', Inv X pins σ H' s2 ∧ RelV x u ∧ J.yld i H x H' ∧ tn (i + 1) s2.heap ∧ ∀ b ∈ fp, H' b = none) E s1) E s
  done : ∀ (X : Cx), X.prog = P → X.w = w → X.K = K → X.calm = true → ∀ (i : Nat) (pins : List (Addr × Obj)) (s : Shared) (σ : St) (H : Hp) (E : Value → Shared → Prop), Inv X pins σ H s → (∀ b ∈ fp, FpOk X pins H b) → tn i s.heap → J.stop i H →
    wpAny (model P w) X.A (pyNext (.ref it)) (fun r s1 => r = none ∧ Inv X pins σ H s1) E s
  self : ∀ (A : Around) (i : Nat) (s : Shared) (Q : Value → Shared → Prop) (E : Value → Shared → Prop), tn i s.heap → Q (.ref it) s → wpAny (model P w) A (pyIter (.ref it)) Q E s
abbrev TI := St → Hp → (It → Hp → Prop) → Prop
def PIE (X : Cx) (pins : List (Addr × Obj)) (σ : St) (tg : Expr) (R : It → Hp → Prop) (itv : Value) (s2 : Shared) : Prop :=
  ∃ (it : Addr) (fp : List Addr) (tn : Nat → Heap → Prop) (J : It) (H' : Hp), itv = .ref it ∧ Inv X pins σ H' s2 ∧ Turn X.prog X.w X.K tg J fp it tn ∧ tn 0 s2.heap ∧ (∀ b ∈ fp, FpOk X pins H' b) ∧ R J H'
def PI (X : Cx) (tg iter : Expr) (wi : TI) : Prop :=
  ∀ (pins : List (Addr × Obj)) (s : Shared) (σ : St) (H : Hp) (R : It → Hp → Prop), Inv X pins σ H s → wi σ H R →
    wpAny (model X.prog X.w) X.A (eval iter X.env) (fun v s1 => wpAny (model X.prog X.w) X.A (pyIter v) (PIE X pins σ tg R) X.xe s1) X.xe s
theorem go_of {M : Model} {A : Around} {E : Value → Shared → Prop} {s : Shared} {tg : Expr} {it : Addr} {u : Value} {o : Obj} {n : String} {vs : Array Value} {Q : Unit → Shared → Prop} (ho : s.heap.get? it = some o) (hc : o.cls = .type n) (hd : o.data = .fields vs)
    (hn : ["enumerate", "zip", "dict_itemiterator", "dict_reverseitemiterator", "odict_iterator", "itertools.zip_longest", "itertools.pairwise"].contains n = false) (hQ : Q () s) : wpAny M A (letOwnedTupleGo tg (.ref it) u) Q E s := by
  unfold letOwnedTupleGo
  cases tg <;> first
    | exact wpAny_pure hQ
    | (cases u <;> first
        | exact wpAny_pure hQ
        | (refine wpAny_bind (wpAny_load ho ?_)
           rw [hc, hd]
           show wpAny M A (if (["enumerate", "zip", "dict_itemiterator", "dict_reverseitemiterator", "odict_iterator", "itertools.zip_longest", "itertools.pairwise"].contains n && vs[0]? == some (rawInt _)) = true then _ else _) Q E s
           rw [if_neg (by intro h; rw [hn, Bool.false_and] at h; cases h)]
           exact wpAny_pure hQ))
def Itl (K : PySem.W.Frag) (a : Addr) : It :=
  ⟨fun i H => ∃ xs x, SqL K H a xs ∧ xs[i]? = some x, fun i H x H' => H' = H ∧ ∀ xs, SqL K H a xs → xs[i]? = some x, fun i H => ∃ xs, SqL K H a xs ∧ xs.length ≤ i⟩
def Itr (lo : Int) (n : Nat) : It := ⟨fun i _ => i < n, fun i H x H' => H' = H ∧ x = .int (lo + i), fun i _ => n ≤ i⟩
theorem turn_list {P : Program} {w : World} {K : PySem.W.Frag} {tg : Expr} (a it : Addr) : Turn P w K tg (Itl K a) [it] it (fun i h => h.IsListIter it a i) where
  mem := by simp
  obj := fun i h st b hb => by
    have e : b = it := by simpa using hb
    subst e
    obtain ⟨o, e, c, d⟩ := st
    exact ⟨o, e, fun v z => by rw [d] at z; cases z⟩
  keep := fun i h h' st k => st.at fun o e => k it (by simp) o e
  item := by
    intro X hP hw hK hc i pins s σ H E I hf st hg
    subst hP hw hK
    obtain ⟨xs, x, hq, hx⟩ := hg
    obtain ⟨its, rv, p, hz⟩ := I.list hq
    obtain ⟨u, hu, ru⟩ := rv.get hx
    obtain ⟨f0, f1, f2, f3, f4, f5⟩ := hf it (by simp)
    refine wpAny_pyNext_list_item st p.isList (x := u) (by simpa using hu) fun h' st' sb => ?_
    have I1 : Inv X pins σ H { s with heap := h' } := I.turned (t' := s.toks) (fun b o hb e => (sb.2 b hb).trans e) f0 f1 f3 f4 f5
    obtain ⟨o, e, c, d⟩ := id st'
    exact ⟨u, rfl, go_of (s := { s with heap := h' }) e c d (by decide) ⟨x, H, I1, ru, ⟨rfl, fun ys hy => by rw [I.list_inj hy hq]; exact hx⟩, st', fun b hb => (hf b hb).1⟩⟩
  done := by
    intro X hP hw hK hc i pins s σ H E I hf st hg
    subst hP hw hK
    obtain ⟨xs, hq, hx⟩ := hg
    obtain ⟨its, rv, p, hz⟩ := I.list hq
    obtain ⟨f0, f1, f2, f3, f4, f5⟩ := hf it (by simp)
    have hl := rv.length
    exact wpAny_pyNext_list_end (I.ok.hd hc) st p.isList (by simp; omega) fun h' eb => ⟨rfl, I.turned (t' := s.toks) (fun b o hb e => eb b o hb e) f0 f1 f3 f4 f5⟩
  self := fun _ _ _ _ _ st h => wpAny_pyIter_listiter st h
theorem turn_range {P : Program} {w : World} {K : PySem.W.Frag} {tg : Expr} (it : Addr) (lo : Int) (n : Nat) : Turn P w K tg (Itr lo n) [it] it (fun i h => IsRangeIter h it (lo + (i : Nat) * 1) ((n : Int) - (i : Nat)) 1) where
  mem := by simp
  obj := fun i h st b hb => by
    have e : b = it := by simpa using hb
    subst e
    exact ⟨_, st, fun v z => by
      have z' : Data.fields _ = Data.cell v := z
      cases z'⟩
  keep := fun i h h' st k => k it (by simp) _ st
  item := by
    intro X hP hw hK hc i pins s σ H E I hf st hg
    subst hP hw hK
    obtain ⟨f0, f1, f2, f3, f4, f5⟩ := hf it (by simp)
    have W := Walks.range (prog := X.prog) (w := X.w) (I.ok.hd hc) it lo 1 n
    refine W.item i s _ _ hg st fun v h' tk hv st' kk => ?_
    obtain ⟨t, rfl⟩ := hv
    have I1 : Inv X pins σ H { s with heap := h', toks := tk } := I.turned (fun b o hb e => kk b o (by simpa using hb) e) f0 f1 f3 f4 f5
    refine ⟨_, rfl, go_of (s := { s with heap := h', toks := tk }) (n := "range_iterator") st' rfl rfl (by decide) ⟨.int (lo + i), H, I1, ⟨t, ?_⟩, ⟨rfl, rfl⟩, st', fun b hb => (hf b hb).1⟩⟩
    rw [Int.mul_one]
  done := by
    intro X hP hw hK hc i pins s σ H E I hf st hg
    subst hP hw hK
    obtain ⟨f0, f1, f2, f3, f4, f5⟩ := hf it (by simp)
    exact wpAny_pyNext_range_end (I.ok.hd hc) st (by have : n ≤ i := hg; omega) fun h' eb => ⟨rfl, I.turned (t' := s.toks) (fun b o hb e => eb b o hb e) f0 f1 f3 f4 f5⟩
  self := fun _ _ _ _ _ st h => wpAny_pyIter_rangeiter st h
end L2
namespace L2
open PySem PySem.Spec PyProof.Rows
section
variable {X : Cx} {tg : Expr}
def iList (K : PySem.W.Frag) (tl : TE) : TI := fun σ H R => tl σ H fun x H1 => ∃ a, x = .ref a ∧ (∃ xs, SqL K H1 a xs) ∧ R (Itl K a) H1
theorem pi_list {l : Expr} {tl : TE} (hl : PE X l tl) : PI X tg l (iList X.K tl) := by
  intro pins s σ H R I h
  refine thn (hl pins s σ H _ I h) fun v s1 ⟨x, H1, I1, r1, q1⟩ => ?_
  obtain ⟨a, e, ⟨xs, hq⟩, q⟩ := q1
  subst e
  cases r1
  obtain ⟨its, rv, p, hz⟩ := I1.list hq
  refine wpAny_pyIter_list p.isList ?_
  refine ⟨s1.heap.objs.size, [s1.heap.objs.size], _, _, H1, rfl, I1.kept (t' := s1.toks) fun b o e => Heap.get?_push_of_some _ e, turn_list a _, ⟨_, Heap.get?_push_size _ rfl, rfl, rfl⟩, fun b hb => ?_, q⟩
  have e : b = s1.heap.objs.size := by simpa using hb
  subst e
  exact I1.fpOk (Nat.le_refl _) (I1.hok.fresh (Nat.le_refl _))
theorem range_it {pins : List (Addr × Obj)} {σ : St} {H : Hp} {s : Shared} {R : It → Hp → Prop} {E : Value → Shared → Prop} {lo hi : Int} {t u v : Tok} {tk : Nat} (I : Inv X pins σ H s) (h1 : -(2 ^ 62) ≤ lo) (h2 : lo < 2 ^ 62) (h3 : -(2 ^ 62) ≤ hi) (h4 : hi < 2 ^ 62)
    (q : R (Itr lo (hi - lo).toNat) H) : wpAny (model X.prog X.w) X.A (pyIter (.ref s.heap.objs.size)) (PIE X pins σ tg R) E { s with heap := s.heap.push { cls := .type "range", data := .fields #[.int lo t, .int hi u, .int 1 v] }, toks := tk } := by
  refine wpAny_pyIter_range (IsRange.new ..) (small_one h1 h2 h3 h4) ?_
  have I1 : Inv X pins σ H { s with heap := s.heap.push { cls := .type "range", data := .fields #[.int lo t, .int hi u, .int 1 v] }, toks := tk } := I.kept fun b o e => Heap.get?_push_of_some _ e
  refine ⟨(s.heap.push { cls := .type "range", data := .fields #[.int lo t, .int hi u, .int 1 v] }).objs.size, [(s.heap.push { cls := .type "range", data := .fields #[.int lo t, .int hi u, .int 1 v] }).objs.size], _, _, H, rfl,
    I1.kept (t' := tk) fun b o e => Heap.get?_push_of_some _ e, turn_range _ lo (hi - lo).toNat, ?_, fun b hb => ?_, q⟩
  · have e1 : lo + ((0 : Nat) : Int) * 1 = lo := by simp
    have e2 : (((hi - lo).toNat : Nat) : Int) - ((0 : Nat) : Int) = Builtin.Range.rangeSize lo hi 1 := by rw [rangeSize_one]; split <;> omega
    show IsRangeIter _ _ (lo + ((0 : Nat) : Int) * 1) ((((hi - lo).toNat : Nat) : Int) - ((0 : Nat) : Int)) 1
    rw [e1, e2]
    exact Heap.get?_push_size _ rfl
  · have e : b = (s.heap.push { cls := .type "range", data := .fields #[.int lo t, .int hi u, .int 1 v] }).objs.size := by simpa using hb
    subst e
    exact I1.fpOk (Nat.le_refl _) (I1.hok.fresh (Nat.le_refl _))
def iRng1 (ta : TA) : TI := fun σ H R => ta σ H fun vs H1 => ∃ j : Int, vs = [.int j] ∧ -(2 ^ 62) ≤ j ∧ j < 2 ^ 62 ∧ R (Itr 0 j.toNat) H1
theorem pi_range1 {a : Expr} {ta : TA} {p pos : Pos} (hg : Gl X "range") (hm : X.mg "range" = none) (ha : PA X [a] ta) (hs : starEach [a] X.env = [(false, eval a X.env)] := by rfl) : PI X tg (.Call (.Name "range" p) [a] [] pos) (iRng1 ta) := by
  intro pins s σ H R I h
  refine Call_ (ld_blt I hg hm boot_range (PyProof.Rows.callWith_type1 (thn (ha pos pins s σ H _ I h) fun us s1 ⟨vs, H1, I1, r1, q1⟩ => ?_) hs rfl))
  obtain ⟨j, e, q1, q2, q⟩ := q1
  subst e
  cases r1 with
  | cons r rr =>
    cases rr
    obtain ⟨t, rfl⟩ := r
    exact call_range_1 (range_it I1 (by omega) (by omega) q1 q2 (by simpa using q))
def tFor (wi : TI) (g : TG) (tb : TS) : TS := fun D σ H => wi σ H fun J H1 => ∃ W : Nat → Nat → St → Hp → Prop, (∃ m, W 0 m σ H1) ∧ ∀ i m σ H, W i m σ H →
  (J.stop i H ∧ D.nx σ H) ∨ (J.go i H ∧ ∃ N : St → Hp → Prop, (∀ σ' H', N σ' H' → ∃ m', m' < m ∧ W (i + 1) m' σ' H') ∧ ∀ x H', J.yld i H x H' → g x σ H' fun σ2 H2 => tb { D with nx := N, ct := N, bk := D.nx } σ2 H2)
def pinsAt (fp : List Addr) (h : Heap) : List (Addr × Obj) := fp.filterMap fun b => (h.get? b).map fun o => (b, o)
theorem mem_pinsAt {fp : List Addr} {h : Heap} {b : Addr} {o : Obj} (hb : b ∈ fp) (e : h.get? b = some o) : (b, o) ∈ pinsAt fp h := List.mem_filterMap.mpr ⟨b, hb, by rw [e]; rfl⟩
theorem of_pinsAt {fp : List Addr} {h : Heap} {p : Addr × Obj} (hp : p ∈ pinsAt fp h) : p.1 ∈ fp ∧ h.get? p.1 = some p.2 := by
  obtain ⟨b, hb, e⟩ := List.mem_filterMap.mp hp
  cases q : h.get? b with
  | none => rw [q] at e; cases e
  | some o =>
    rw [q] at e
    have e' : (b, o) = p := Option.some.inj e
    subst e'
    exact ⟨hb, q⟩
theorem Inv.pinned {pins : List (Addr × Obj)} {σ : St} {H : Hp} {s : Shared} {fp : List Addr} (I : Inv X pins σ H s) (hf : ∀ b ∈ fp, FpOk X pins H b) (ho : ∀ b ∈ fp, ∃ o, s.heap.get? b = some o ∧ ∀ v, o.data ≠ .cell v) : Inv X (pins ++ pinsAt fp s.heap) σ H s :=
  I.pins_of fun p hp => (List.mem_append.mp hp).elim (fun z => I.pin p (List.mem_append_right _ z)) fun z => by
    obtain ⟨hb, e⟩ := of_pinsAt z
    obtain ⟨f0, f1, f2, _⟩ := hf p.1 hb
    obtain ⟨o, e', d⟩ := ho p.1 hb
    rw [e] at e'; cases e'
    exact ⟨e, f0, f1, f2, d⟩
theorem Inv.unpinned {pins pl : List (Addr × Obj)} {σ : St} {H : Hp} {s : Shared} (I : Inv X (pins ++ pl) σ H s) : Inv X pins σ H s := I.pins_of fun p hp => I.pin p (List.mem_append_right _ (List.mem_append_left _ hp))
theorem ps_for {iter : Expr} {body : List Stmt} {wi : TI} {g : TG} {tb : TS} {pos : Pos} (hp : PassesOwn (model X.prog X.w) X.A X.env X.xe) (hc : X.calm = true) (hi : PI X tg iter wi) (hg : PG X tg g) (hb : PSs X body tb)
    (hs : ∀ x, foldedSetIterable iter X.env x = pure x := by intro _; rfl) : PS X (.For tg iter body [] pos) (tFor wi g tb) := by
  intro pins s σ H D I h
  refine wpAny_For (thn (hi pins s σ H _ I h) fun v s1 h1 => thn h1 fun itv s2 h2 => ?_) hs
  obtain ⟨it, fp, tn, J, H2, e, I2, T, st2, f2, W, ⟨m0, w0⟩, turn⟩ := h2
  subst e
  -- what stays true of the iterator's objects through the loop
  have stat : ∀ {H' : Hp}, (∀ b ∈ fp, H' b = none) → ∀ b ∈ fp, FpOk X pins H' b := fun hn b hb => ⟨hn b hb, (f2 b hb).2⟩
  refine codeAny_forLoop_any (fun n s' => ∃ i σ' H', Inv X pins σ' H' s' ∧ tn i s'.heap ∧ (∀ b ∈ fp, H' b = none) ∧ W i n σ' H') ?_ m0 ⟨0, σ, H2, I2, st2, fun b hb => (f2 b hb).1, w0⟩
  rintro n s3 ⟨i, σ3, H3, I3, st3, fr3, w3⟩
  rcases turn i n σ3 H3 w3 with ⟨stop, qn⟩ | ⟨go, N, hN, step⟩
  · refine wpAny_passesOwn hp (thn (T.done X rfl rfl rfl hc i pins s3 σ3 H3 X.xe I3 (stat fr3) st3 stop) fun r s4 ⟨hr, I4⟩ => ?_)
    subst hr
    exact wpAny_execs_nil ⟨σ3, H3, I4, qn⟩
  · refine wpAny_passesOwn hp (thn (T.item X rfl rfl rfl hc i pins s3 σ3 H3 X.xe I3 (stat fr3) st3 go) fun r s4 ⟨u, hr, h4⟩ => ?_)
    subst hr
    refine wpAny_passesOwn hp (thn h4 fun _ s5 ⟨x, H5, I5, r5, y5, st5, fr5⟩ => ?_)
    have I5' := I5.pinned (stat fr5) (T.obj _ _ st5)
    refine wpAny_passesOwn hp (thn (hg _ s5 σ3 H5 x u _ I5' r5 (step x H5 y5)) fun _ s6 ⟨σ6, H6, I6, q6⟩ => ?_)
    refine wpAny_passesOwn hp (thn (hb _ s6 σ6 H6 _ I6 q6) fun f s7 q7 => ?_)
    have again : ∀ {σ7 : St} {H7 : Hp}, Inv X (pins ++ pinsAt fp s5.heap) σ7 H7 s7 → N σ7 H7 → ∃ m, m < n ∧ ∃ i σ' H', Inv X pins σ' H' s7 ∧ tn i s7.heap ∧ (∀ b ∈ fp, H' b = none) ∧ W i m σ' H' := fun {σ7 H7} I7 n7 => by
      obtain ⟨m', hm, w7⟩ := hN σ7 H7 n7
      refine ⟨m', hm, i + 1, σ7, H7, I7.unpinned, T.keep _ _ _ st5 fun b hb o e => (I7.pin (b, o) (List.mem_append_right _ (List.mem_append_right _ (mem_pinsAt hb e)))).1, fun b hb => ?_, w7⟩
      obtain ⟨o, e, d⟩ := T.obj _ _ st5 b hb
      exact (I7.pin (b, o) (List.mem_append_right _ (List.mem_append_right _ (mem_pinsAt hb e)))).2.1
    cases f with
    | next => obtain ⟨σ7, H7, I7, n7⟩ := q7; exact again I7 n7
    | cont => obtain ⟨σ7, H7, I7, n7⟩ := q7; exact again I7 n7
    | brk => obtain ⟨σ7, H7, I7, q7⟩ := q7; exact ⟨σ7, H7, I7.unpinned, q7⟩
    | ret v => obtain ⟨x7, σ7, H7, I7, r7, q7⟩ := q7; exact ⟨x7, σ7, H7, I7.unpinned, r7, q7⟩
end
theorem for_list {K : PySem.W.Frag} {a : Addr} {xs : List V} {g : TG} {tb : TS} {D : Ends} {σ : St} {H : Hp} (Pv : Nat → St → Hp → Prop) (h0 : Pv 0 σ H) (hl : ∀ i σ H, i ≤ xs.length → Pv i σ H → SqL K H a xs)
    (hs : ∀ i x σ H, xs[i]? = some x → Pv i σ H → g x σ H fun σ2 H2 => tb { D with nx := Pv (i + 1), ct := Pv (i + 1), bk := D.nx } σ2 H2) (hd : ∀ σ H, Pv xs.length σ H → D.nx σ H) :
    ∃ W : Nat → Nat → St → Hp → Prop, (∃ m, W 0 m σ H) ∧ ∀ i m σ H, W i m σ H →
      ((Itl K a).stop i H ∧ D.nx σ H) ∨ ((Itl K a).go i H ∧ ∃ N : St → Hp → Prop, (∀ σ' H', N σ' H' → ∃ m', m' < m ∧ W (i + 1) m' σ' H') ∧ ∀ x H', (Itl K a).yld i H x H' → g x σ H' fun σ2 H2 => tb { D with nx := N, ct := N, bk := D.nx } σ2 H2) := by
  refine ⟨fun i m σ H => m = xs.length - i ∧ i ≤ xs.length ∧ Pv i σ H, ⟨xs.length, by simp, Nat.zero_le _, h0⟩, ?_⟩
  rintro i m σ H ⟨rfl, hi, p⟩
  have q := hl i σ H hi p
  by_cases hlt : i < xs.length
  · refine .inr ⟨⟨xs, xs[i], q, by simp [hlt]⟩, Pv (i + 1), fun σ' H' p' => ⟨xs.length - (i + 1), by omega, rfl, hlt, p'⟩, fun x H' y => ?_⟩
    obtain ⟨e, y⟩ := y
    subst e
    exact hs i x σ _ (y xs q) p
  · have e : i = xs.length := by omega
    subst e
    exact .inl ⟨⟨xs, q, Nat.le_refl _⟩, hd σ H p⟩
theorem for_range {lo : Int} {n : Nat} {g : TG} {tb : TS} {D : Ends} {σ : St} {H : Hp} (Pv : Nat → St → Hp → Prop) (h0 : Pv 0 σ H)
    (hs : ∀ i σ H, i < n → Pv i σ H → g (.int (lo + i)) σ H fun σ2 H2 => tb { D with nx := Pv (i + 1), ct := Pv (i + 1), bk := D.nx } σ2 H2) (hd : ∀ σ H, Pv n σ H → D.nx σ H) :
    ∃ W : Nat → Nat → St → Hp → Prop, (∃ m, W 0 m σ H) ∧ ∀ i m σ H, W i m σ H →
      ((Itr lo n).stop i H ∧ D.nx σ H) ∨ ((Itr lo n).go i H ∧ ∃ N : St → Hp → Prop, (∀ σ' H', N σ' H' → ∃ m', m' < m ∧ W (i + 1) m' σ' H') ∧ ∀ x H', (Itr lo n).yld i H x H' → g x σ H' fun σ2 H2 => tb { D with nx := N, ct := N, bk := D.nx } σ2 H2) := by
  refine ⟨fun i m σ H => m = n - i ∧ i ≤ n ∧ Pv i σ H, ⟨n, by simp, Nat.zero_le _, h0⟩, ?_⟩
  rintro i m σ H ⟨rfl, hi, p⟩
  by_cases hlt : i < n
  · refine .inr ⟨hlt, Pv (i + 1), fun σ' H' p' => ⟨n - (i + 1), by omega, rfl, hlt, p'⟩, fun x H' y => ?_⟩
    obtain ⟨e, y⟩ := y
    subst e y
    exact hs i σ _ hlt p
  · have e : i = n := by omega
    subst e
    exact .inl ⟨Nat.le_refl _, hd σ H p⟩
end L2
namespace L2
open PySem PySem.Spec PyProof.Rows
abbrev R2 := V → V → Hp → VK → Prop
def OpR (X : Cx) (f : Value → Value → Sem Value) (r : R2) : Prop :=
  ∀ (pins : List (Addr × Obj)) (s : Shared) (σ : St) (H : Hp) (x y : V) (v u : Value) (Q : VK), Inv X pins σ H s → RelV x v → RelV y u → r x y H Q →
    wpAny (model X.prog X.w) X.A (f v u) (EP X pins σ Q) X.xe s
def CallR (X : Cx) (f : Value) (r : List V → Hp → VK → Prop) : Prop :=
  ∀ (pins : List (Addr × Obj)) (s : Shared) (σ : St) (H : Hp) (xs : List V) (us : List Value) (Q : VK), Inv X pins σ H s → Vals xs us → r xs H Q →
    wpAny (model X.prog X.w) X.A (call f us) (EP X pins σ Q) X.xe s
def tOp (r : R2) (ta tb : TE) : TE := fun σ H Q => ta σ H fun x H1 => tb σ H1 fun y H2 => r x y H2 Q
def rI (C : Int → Int → Prop) (g : Int → Int → V) : R2 := fun x y H Q => ∃ i j, x = .int i ∧ y = .int j ∧ C i j ∧ Q (g i j) H
def rI0 (g : Int → Int → V) : R2 := fun x y H Q => ∃ i j, x = .int i ∧ y = .int j ∧ Q (g i j) H
section
variable {X : Cx} {a b c : Expr} {ta tb tc : TE} {pos : Pos}
theorem binT (ha : PE X a ta) (hb : PE X b tb) {pins : List (Addr × Obj)} {s : Shared} {σ : St} {H : Hp} {R : V → V → Hp → Prop} (I : Inv X pins σ H s)
    (h : ta σ H fun x H1 => tb σ H1 fun y H2 => R x y H2) {Q : Value → Shared → Prop} {f : Value → Value → Sem Value}
    (hf : ∀ v u s2 x y H2, Inv X pins σ H2 s2 → RelV x v → RelV y u → R x y H2 → wpAny (model X.prog X.w) X.A (f v u) Q X.xe s2) :
    wpAny (model X.prog X.w) X.A (eval a X.env) (fun v s₁ => wpAny (model X.prog X.w) X.A (eval b X.env) (fun u s₂ => wpAny (model X.prog X.w) X.A (f v u) Q X.xe s₂) X.xe s₁) X.xe s := by
  refine thn (ha pins s σ H _ I h) fun v s1 ⟨x, H1, I1, r1, q1⟩ => ?_
  refine thn (hb pins s1 σ H1 _ I1 q1) fun u s2 ⟨y, H2, I2, r2, q2⟩ => ?_
  exact hf v u s2 x y H2 I2 r1 r2 q2
theorem pe_op {op : Operator} {r : R2} (ho : OpR X (binaryOp op) r) (ha : PE X a ta) (hb : PE X b tb) : PE X (.BinOp a op b pos) (tOp r ta tb) := by
  intro pins s σ H Q I h
  exact wpAny_BinOp (binT ha hb I h fun v u s2 x y H2 I2 rx ry q => ho pins s2 σ H2 x y v u Q I2 rx ry q)
theorem opI {f : Value → Value → Sem Value} {C : Int → Int → Prop} {g : Int → Int → Int}
    (rule : ∀ (i j : Int) (t u : Tok) (s : Shared) (Q : Value → Shared → Prop) (E : Value → Shared → Prop), C i j → Q (.int (g i j) s.toks) { s with toks := s.toks + 1 } → wpAny (model X.prog X.w) X.A (f (.int i t) (.int j u)) Q E s) :
    OpR X f (rI C fun i j => .int (g i j)) := by
  intro pins s σ H x y v u Q I rx ry h
  obtain ⟨i, j, rfl, rfl, hc, q⟩ := h
  obtain ⟨t, rfl⟩ := rx
  obtain ⟨t', rfl⟩ := ry
  exact rule i j t t' s _ _ hc ⟨.int (g i j), H, I.tok _, ⟨_, rfl⟩, q⟩
theorem opI0 {f : Value → Value → Sem Value} {g : Int → Int → Int}
    (rule : ∀ (i j : Int) (t u : Tok) (s : Shared) (Q : Value → Shared → Prop) (E : Value → Shared → Prop), Q (.int (g i j) s.toks) { s with toks := s.toks + 1 } → wpAny (model X.prog X.w) X.A (f (.int i t) (.int j u)) Q E s) :
    OpR X f (rI0 fun i j => .int (g i j)) := by
  intro pins s σ H x y v u Q I rx ry h
  obtain ⟨i, j, rfl, rfl, q⟩ := h
  obtain ⟨t, rfl⟩ := rx
  obtain ⟨t', rfl⟩ := ry
  exact rule i j t t' s _ _ ⟨.int (g i j), H, I.tok _, ⟨_, rfl⟩, q⟩
theorem opB0 {f : Value → Value → Sem Value} {g : Int → Int → Bool}
    (rule : ∀ (i j : Int) (t u : Tok) (s : Shared) (Q : Value → Shared → Prop) (E : Value → Shared → Prop), Q (.bool (g i j)) s → wpAny (model X.prog X.w) X.A (f (.int i t) (.int j u)) Q E s) :
    OpR X f (rI0 fun i j => .bl (g i j)) := by
  intro pins s σ H x y v u Q I rx ry h
  obtain ⟨i, j, rfl, rfl, q⟩ := h
  obtain ⟨t, rfl⟩ := rx
  obtain ⟨t', rfl⟩ := ry
  exact rule i j t t' s _ _ ⟨.bl (g i j), H, I, rfl, q⟩
def CDiv (i j : Int) : Prop := 0 < j ∧ j < 1073741824
def CPow (i j : Int) : Prop := 0 ≤ j ∧ j ≤ 1000000 ∧ i.natAbs < 2 ^ 64
def CMul (i j : Int) : Prop := (-(2 ^ 64) < i ∧ i < 2 ^ 64) ∨ (-(2 ^ 64) < j ∧ j < 2 ^ 64)
theorem CMul.ok {i j : Int} (h : CMul i j) : IntMulOk i j := by
  rcases h with ⟨h1, h2⟩ | ⟨h1, h2⟩
  · exact .of_left (intBits_le_64 h1 h2)
  · exact .of_right (intBits_le_64 h1 h2)
theorem two_pow_nn (k : Nat) : (0 : Int) ≤ 2 ^ k := by
  rw [two_pow_cast]
  exact Int.natCast_nonneg _
theorem op_add : OpR X (binaryOp .Add) (rI0 fun i j => .int (i + j)) := opI0 fun _ _ _ _ _ _ _ q => add_int q
theorem op_sub : OpR X (binaryOp .Sub) (rI0 fun i j => .int (i - j)) := opI0 fun _ _ _ _ _ _ _ q => sub_int q
theorem op_mul : OpR X (binaryOp .Mult) (rI CMul fun i j => .int (i * j)) := opI fun _ _ _ _ _ _ _ hc q => mul_int q hc.ok
theorem op_fdiv : OpR X (binaryOp .FloorDiv) (rI CDiv fun i j => .int (i / j)) := opI fun i j _ _ _ _ _ hc q => by
  have h1 : (0 : Int) < j := hc.1
  have h2 : j < 1073741824 := hc.2
  exact floordiv_int (by omega) (by rw [Int.fdiv_eq_ediv_of_nonneg i (by omega)]; exact q) (.inl (PyProof.noPylong_small (by omega)))
theorem op_mod : OpR X (binaryOp .Mod) (rI (fun _ j => 0 < j) fun i j => .int (i % j)) := opI fun i j _ _ _ _ _ hc q => by
  have h1 : (0 : Int) < j := hc
  exact mod_int' (by omega) (by rw [Int.fmod_eq_emod_of_nonneg i (by omega)]; exact q)
theorem op_shl : OpR X (binaryOp .LShift) (rI CPow fun i j => .int (i * 2 ^ j.toNat)) := opI fun _ _ _ _ _ _ _ hc q => lshift_int_small hc.1 hc.2.1 hc.2.2 q
theorem op_shr : OpR X (binaryOp .RShift) (rI (fun _ j => 0 ≤ j) fun i j => .int (i / 2 ^ j.toNat)) := opI fun i j _ _ _ _ _ hc q =>
  rshift_int hc (by rw [Int.fdiv_eq_ediv_of_nonneg i (two_pow_nn _)]; exact q)
theorem op_and : OpR X (binaryOp .BitAnd) (rI0 fun i j => .int (Builtin.bitAnd i j)) := opI0 fun _ _ _ _ _ _ _ q => and_int q
theorem op_or : OpR X (binaryOp .BitOr) (rI0 fun i j => .int (Builtin.bitOr i j)) := opI0 fun _ _ _ _ _ _ _ q => or_int q
theorem op_xor : OpR X (binaryOp .BitXor) (rI0 fun i j => .int (Builtin.bitXor i j)) := opI0 fun _ _ _ _ _ _ _ q => xor_int q
end
def scal : V → V → Bool
  | .non, .non => true | .non, .int _ => true | .int _, .non => true | .non, .bl _ => true | .bl _, .non => true | .non, .str _ => true | .str _, .non => true
  | .int _, .int _ => true | .bl _, .bl _ => true | .str _, .str _ => true | .byt _, .byt _ => true
  | .int _, .str _ => true | .str _, .int _ => true | .bl _, .str _ => true | .str _, .bl _ => true
  | _, _ => false
def rEq : R2 := fun x y H Q => scal x y = true ∧ Q (.bl (decide (x = y))) H
def rNe : R2 := fun x y H Q => scal x y = true ∧ Q (.bl (!decide (x = y))) H
theorem dec_int {i j : Int} : decide (V.int i = V.int j) = (i == j) := by
  rw [Bool.eq_iff_iff]
  simp
theorem dec_bl {i j : Bool} : decide (V.bl i = V.bl j) = (i == j) := by
  rw [Bool.eq_iff_iff]
  simp
theorem dec_str {i j : Str} : decide (V.str i = V.str j) = (i == j) := by
  rw [Bool.eq_iff_iff]
  simp
theorem dec_byt {i j : Array UInt8} : decide (V.byt i = V.byt j) = (i.toList == j.toList) := by
  rw [Bool.eq_iff_iff]
  cases i
  cases j
  simp
section
variable {X : Cx} {a b c : Expr} {ta tb tc : TE} {pos : Pos}
theorem fin_bl {pins : List (Addr × Obj)} {σ : St} {H : Hp} {s : Shared} {Q : VK} {k k' : Bool} (I : Inv X pins σ H s) (q : Q (.bl k) H) (e : k = k') : EP X pins σ Q (.bool k') s := by
  subst e
  exact ⟨.bl k, H, I, rfl, q⟩
theorem op_eq : OpR X (compareOp .Eq) rEq := by
  intro pins s σ H x y v u Q I rx ry h
  obtain ⟨hs, q⟩ := h
  cases x with
  | non =>
    cases rx
    cases y with
    | non => cases ry; exact PySem.EqNone.eq_none_none (fin_bl I q (by simp))
    | bl j => cases ry; exact PySem.EqNone.eq_none_bool (fin_bl I q (by simp))
    | int j => obtain ⟨t', rfl⟩ := ry; exact PySem.EqNone.eq_none_int (fin_bl I q (by simp))
    | str j => obtain ⟨t', rfl⟩ := ry; exact PySem.EqNone.eq_none_str (fin_bl I q (by simp))
    | _ => exact absurd (show false = true from hs) Bool.false_ne_true
  | bl i =>
    cases rx
    cases y with
    | non => cases ry; exact PySem.EqNone.eq_bool_none (fin_bl I q (by simp))
    | bl j => cases ry; exact eq_bool (fin_bl I q dec_bl)
    | str j => obtain ⟨t', rfl⟩ := ry; exact PySem.EqMixed.eq_bool_str (fin_bl I q (by simp))
    | _ => exact absurd (show false = true from hs) Bool.false_ne_true
  | int i =>
    obtain ⟨t, rfl⟩ := rx
    cases y with
    | non => cases ry; exact PySem.EqNone.eq_int_none (fin_bl I q (by simp))
    | int j => obtain ⟨t', rfl⟩ := ry; exact eq_int (fin_bl I q dec_int)
    | str j => obtain ⟨t', rfl⟩ := ry; exact PySem.EqMixed.eq_int_str (fin_bl I q (by simp))
    | _ => exact absurd (show false = true from hs) Bool.false_ne_true
  | str i =>
    obtain ⟨t, rfl⟩ := rx
    cases y with
    | non => cases ry; exact PySem.EqNone.eq_str_none (fin_bl I q (by simp))
    | bl j => cases ry; exact PySem.EqMixed.eq_str_bool (fin_bl I q (by simp))
    | int j => obtain ⟨t', rfl⟩ := ry; exact PySem.EqMixed.eq_str_int (fin_bl I q (by simp))
    | str j => obtain ⟨t', rfl⟩ := ry; exact eq_str (fin_bl I q dec_str)
    | _ => exact absurd (show false = true from hs) Bool.false_ne_true
  | byt i =>
    obtain ⟨t, rfl⟩ := rx
    cases y with
    | byt j => obtain ⟨t', rfl⟩ := ry; exact PySem.W.eq_bytes (fin_bl I q dec_byt)
    | _ => exact absurd (show false = true from hs) Bool.false_ne_true
  | _ => cases y <;> exact absurd (show false = true from hs) Bool.false_ne_true
theorem op_ne : OpR X (compareOp .NotEq) rNe := by
  intro pins s σ H x y v u Q I rx ry h
  obtain ⟨hs, q⟩ := h
  cases x with
  | non =>
    cases rx
    cases y with
    | non => cases ry; exact PySem.EqNone.ne_none_none (fin_bl I q (by simp))
    | bl j => cases ry; exact PySem.EqNone.ne_none_bool (fin_bl I q (by simp))
    | int j => obtain ⟨t', rfl⟩ := ry; exact PySem.EqNone.ne_none_int (fin_bl I q (by simp))
    | str j => obtain ⟨t', rfl⟩ := ry; exact PySem.EqNone.ne_none_str (fin_bl I q (by simp))
    | _ => exact absurd (show false = true from hs) Bool.false_ne_true
  | bl i =>
    cases rx
    cases y with
    | non => cases ry; exact PySem.EqNone.ne_bool_none (fin_bl I q (by simp))
    | bl j => cases ry; exact ne_bool (fin_bl I q (congrArg not dec_bl))
    | str j => obtain ⟨t', rfl⟩ := ry; exact PySem.EqMixed.ne_bool_str (fin_bl I q (by simp))
    | _ => exact absurd (show false = true from hs) Bool.false_ne_true
  | int i =>
    obtain ⟨t, rfl⟩ := rx
    cases y with
    | non => cases ry; exact PySem.EqNone.ne_int_none (fin_bl I q (by simp))
    | int j => obtain ⟨t', rfl⟩ := ry; exact ne_int (fin_bl I q (congrArg not dec_int))
    | str j => obtain ⟨t', rfl⟩ := ry; exact PySem.EqMixed.ne_int_str (fin_bl I q (by simp))
    | _ => exact absurd (show false = true from hs) Bool.false_ne_true
  | str i =>
    obtain ⟨t, rfl⟩ := rx
    cases y with
    | non => cases ry; exact PySem.EqNone.ne_str_none (fin_bl I q (by simp))
    | bl j => cases ry; exact PySem.EqMixed.ne_str_bool (fin_bl I q (by simp))
    | int j => obtain ⟨t', rfl⟩ := ry; exact PySem.EqMixed.ne_str_int (fin_bl I q (by simp))
    | str j => obtain ⟨t', rfl⟩ := ry; exact ne_str (fin_bl I q (congrArg not dec_str))
    | _ => exact absurd (show false = true from hs) Bool.false_ne_true
  | byt i =>
    obtain ⟨t, rfl⟩ := rx
    cases y with
    | byt j => obtain ⟨t', rfl⟩ := ry; exact PySem.W.ne_bytes (fin_bl I q (congrArg not dec_byt))
    | _ => exact absurd (show false = true from hs) Bool.false_ne_true
  | _ => cases y <;> exact absurd (show false = true from hs) Bool.false_ne_true
theorem op_lt : OpR X (compareOp .Lt) (rI0 fun i j => .bl (decide (i < j))) := opB0 fun _ _ _ _ _ _ _ q => lt_int q
theorem op_le : OpR X (compareOp .LtE) (rI0 fun i j => .bl (decide (i ≤ j))) := opB0 fun _ _ _ _ _ _ _ q => le_int q
theorem op_gt : OpR X (compareOp .Gt) (rI0 fun i j => .bl (decide (j < i))) := opB0 fun _ _ _ _ _ _ _ q => gt_int q
theorem op_ge : OpR X (compareOp .GtE) (rI0 fun i j => .bl (decide (j ≤ i))) := opB0 fun _ _ _ _ _ _ _ q => ge_int q
theorem nomark (b : Expr) {op : CmpOp} (h : op ≠ .In := by decide) (h2 : op ≠ .NotIn := by decide) : behindInMarks op b = false := by
  have e1 : (op == CmpOp.In) = false := by cases op <;> first | rfl | exact absurd rfl h
  have e2 : (op == CmpOp.NotIn) = false := by cases op <;> first | rfl | exact absurd rfl h2
  cases b <;> simp [behindInMarks, e1, e2]
theorem pe_cmpR {op : CmpOp} {r : R2} (ho : OpR X (compareOp op) r) (ha : PE X a ta) (hb : PE X b tb) (hm : behindInMarks op b = false) : PE X (.Compare a [op] [b] pos) (tOp r ta tb) := by
  intro pins s σ H Q I h
  exact wpAny_Compare1 (binT ha hb I h fun v u s2 x y H2 I2 rx ry q => ho pins s2 σ H2 x y v u Q I2 rx ry q) hm
def tTest (t : TE) : TT := fun σ H Q => t σ H fun x H' => ∃ k, x = .bl k ∧ Q k H'
theorem pt_cmpR {op : CmpOp} {r : R2} (ho : OpR X (compareOp op) r) (ha : PE X a ta) (hb : PE X b tb) (hm : behindInMarks op b = false) : PT X (.Compare a [op] [b] pos) (tTest (tOp r ta tb)) := by
  intro pins s σ H Q I h
  refine wpAny_isTrue_Compare1 (thn (ha pins s σ H _ I h) fun v s1 ⟨x, H1, I1, r1, q1⟩ => thn (hb pins s1 σ H1 _ I1 q1) fun u s2 ⟨y, H2, I2, r2, q2⟩ =>
    thn (ho pins s2 σ H2 x y v u _ I2 r1 r2 q2) fun c s3 ⟨z, H3, I3, r3, k, e, q3⟩ => ?_) hm
  subst e
  cases r3
  exact wpAny_truthy_bool ⟨H3, I3, q3⟩
theorem line63 : (sizeLine : Nat) < 2 ^ 63 := by rw [sizeLine_eq]; decide
theorem vals1 {x : V} {us : List Value} (r : Vals [x] us) : ∃ u, us = [u] ∧ RelV x u := by
  cases r with
  | cons r1 r2 => cases r2; exact ⟨_, rfl, r1⟩
end
end L2
namespace L2
open PySem PySem.Spec PyProof.Rows
structure ObjM (h : Heap) (x dx C : Addr) (mA : Str → Option Value) : Prop where
  obj : h.get? x = some (PySem.W.instObj C dx)
  ns : h.Ns1 dx mA
  ne : dx ≠ x
theorem lookIn_ns {h : Heap} {dx : Addr} {mA : Str → Option Value} (n : h.Ns1 dx mA) : ∃ od, h.get? dx = some od ∧ ∀ name, PySem.W.lookIn name od = some (mA name) := by
  obtain ⟨o, es, ep, ho, hd, hk, _, hm⟩ := n
  refine ⟨o, ho, fun name => ?_⟩
  have e := hm name
  unfold nsFind findBy at e
  rw [← Array.find?_toList] at e
  unfold PySem.W.lookIn
  rw [hd]
  dsimp only
  split
  · rename_i y q
    rw [q] at e
    exact congrArg some e
  · rename_i q
    rw [q] at e
    have a : es.toList.any (·.refKey) = false := by
      rw [List.any_eq_false]
      intro y hy
      obtain ⟨z, t, hkey⟩ := hk y (Array.mem_toList_iff.mp hy)
      simp [DictEntry.refKey, hkey]
    have a' : ¬ es.toList.any (·.refKey) = true := by rw [a]; exact Bool.false_ne_true
    rw [if_neg a']
    exact congrArg some e
theorem ObjM.look {h : Heap} {x dx C : Addr} {mA : Str → Option Value} (I : ObjM h x dx C mA) : ∃ od, PySem.W.InstAt h x (PySem.W.instObj C dx) C (some od) ∧ ∀ name, PySem.W.lookIn name od = some (mA name) :=
  let ⟨od, ho, hl⟩ := lookIn_ns I.ns
  ⟨od, ⟨I.obj, rfl, rfl, ho⟩, hl⟩
section
variable {prog : Program} {w : World} {A : Around} {E : Value → Shared → Prop} {s : Shared} {K : PySem.W.Frag} {x dx C f : Addr} {mA : Str → Option Value} {name : Str} {v : Value}
theorem get_map {expr : Bool} {Q : Value → Shared → Prop} (X : K.In s.heap) (I : ObjM s.heap x dx C mA) (hg : PySem.W.plainGet K C name = true) (hh : PySem.W.hasDictIn K C = true)
    (ha : PySem.W.findIn K (.ref C) name = some none) (hv : mA name = some v) (hv' : PySem.W.handedIn v = true) (h : Q v { s with toks := s.toks + 1 }) :
    wpAny (model prog w) A (getAttr (.ref x) name expr) Q E s := by
  obtain ⟨od, J, hl⟩ := I.look
  exact PySem.W.get_value X J (PySem.W.plainGet_of hg).1 (PySem.W.findObj_own hh ha rfl (by rw [hl, hv])) hv' h
theorem set_map {ns : List Str} {Q : Unit → Shared → Prop} (X : K.In s.heap) (I : ObjM s.heap x dx C mA)
    (hs : PySem.W.findIn K (.ref C) "__setattr__" = some (some (.builtin "object.__setattr__"))) (hp : PySem.W.plainOver K C = true) (ht : PySem.W.takerIn K C name = some none) (hh : PySem.W.hasDictIn K C = true)
    (hw : PySem.Within mA ns) (hsz : ns.length ≤ sizeLine)
    (h : ∀ h', ObjM h' x dx C (fun y => if y = name then some v else mA y) → Heap.SameBut dx s.heap h' → Q () { s with heap := h', toks := s.toks + 2 }) :
    wpAny (model prog w) A (setAttr (.ref x) name v) Q E s := by
  obtain ⟨od, J, hl⟩ := I.look
  refine PySem.W.set_plain X J hs (PySem.W.osa_open (s := { s with toks := s.toks + 1 }) (r := none) X J hp ht fun b => ?_)
  obtain ⟨cd, hc, hd'⟩ := PySem.W.any_some hh
  have hx : s.heap.get? x = some ⟨.ref C, some dx, .plain, #[]⟩ := I.obj
  refine wpAny_bind (wpAny_pure (wpAny_bind (wpAny_bind (wpAny_loadPart hx (wpAny_bind (PySem.W.Looks.here (s := { s with toks := s.toks + 1 }) (PySem.W.looks_clsIn X hc) ?_))))))
  rw [hd']
  refine wpAny_pure (a := some dx) (wpAny_bind (wpAny_pure (wpAny_bind ?_)))
  refine wpAny_nsSet1 (s := { s with toks := s.toks + 1 }) I.ns fun h' hn2 hs2 => ?_
  obtain ⟨oD, esD, epD, hoD, hdD, hcD⟩ := hn2.count (PySem.Within.cons name v hw)
  refine wpAny_bind (wpAny_lookBehind hoD (by rw [hdD]; exact pastItsLine_dict (Nat.le_trans hcD (by rw [List.length_cons]; omega))) ?_)
  exact wpAny_pure (h _ ⟨(hs2.2 _ (Ne.symm I.ne)).trans I.obj, hn2, I.ne⟩ hs2)
theorem make_map {R : Result → Shared → Prop} {vs : List Value} {kw : List (Str × Value)} (X : K.In s.heap) (hm : PySem.W.makesIn K C = true)
    (hi : PySem.W.findIn K (.ref C) "__init__" = some (some (.ref f))) (hf : PySem.W.typeIn K (.ref f) = some (.type "function"))
    (h : codeAny (model prog w) (A.under (.builtin "type.__call__" ⟨.ref C :: vs, kw⟩)) (.call (.ref f) ⟨.ref (s.heap.objs.size + 1) :: vs, kw⟩) (PySem.W.InitBack (s.heap.objs.size + 1) R)
      { s with heap := (s.heap.push PySem.W.emptyDict).push (PySem.W.instObj C s.heap.objs.size) }) :
    codeAny (model prog w) A (.call (.ref C) ⟨vs, kw⟩) R s := by
  obtain ⟨hh, g, d, t, os⟩ := s
  exact PySem.W.make_core (PySem.W.makes_of X hm) (PySem.W.looks_findIn X hi) (fun self => PySem.W.bind_fn X self hf) (.inl rfl) h
end
def putF (f : Str) (v : V) : List (Str × V) → List (Str × V)
  | [] => [(f, v)]
  | (g, x) :: r => if g = f then (g, v) :: r else (g, x) :: putF f v r
theorem lookup_putF (f g : Str) (v : V) : ∀ fs : List (Str × V), (putF f v fs).lookup g = if g = f then some v else fs.lookup g
  | [] => by
    show List.lookup g [(f, v)] = _
    by_cases h : g = f
    · have hb : (g == f) = true := beq_iff_eq.mpr h
      simp only [List.lookup, hb, if_pos h]
    · have hb : (g == f) = false := beq_eq_false_iff_ne.mpr h
      simp only [List.lookup, hb, if_neg h]
  | (k, x) :: r => by
    have ih := lookup_putF f g v r
    rw [show putF f v ((k, x) :: r) = (if k = f then (k, v) :: r else (k, x) :: putF f v r) from rfl]
    by_cases hk : k = f
    · rw [if_pos hk]
      by_cases h : g = k
      · have hb : (g == k) = true := beq_iff_eq.mpr h
        simp only [List.lookup, hb, if_pos (h.trans hk)]
      · have hb : (g == k) = false := beq_eq_false_iff_ne.mpr h
        simp only [List.lookup, hb, if_neg (fun e : g = f => h (e.trans hk.symm))]
    · rw [if_neg hk]
      by_cases h : g = k
      · have hb : (g == k) = true := beq_iff_eq.mpr h
        simp only [List.lookup, hb, if_neg (fun e : g = f => hk (h.symm.trans e))]
      · have hb : (g == k) = false := beq_eq_false_iff_ne.mpr h
        simp only [List.lookup, hb]
        exact ih
theorem keys_putF (f : Str) (v : V) : ∀ fs : List (Str × V), f ∈ (putF f v fs).map (·.1) ∧ ∀ g, g ∈ fs.map (·.1) → g ∈ (putF f v fs).map (·.1)
  | [] => ⟨by simp [putF], fun g h => by simp at h⟩
  | (k, x) :: r => by
    obtain ⟨i1, i2⟩ := keys_putF f v r
    rw [show putF f v ((k, x) :: r) = (if k = f then (k, v) :: r else (k, x) :: putF f v r) from rfl]
    by_cases hk : k = f
    · rw [if_pos hk]
      subst hk
      exact ⟨by simp, fun g h => by simpa using h⟩
    · rw [if_neg hk]
      refine ⟨?_, fun g h => ?_⟩
      · rw [List.map_cons]
        exact List.mem_cons_of_mem _ i1
      · rw [List.map_cons] at h ⊢
        rcases List.mem_cons.mp h with e | e
        · exact List.mem_cons.mpr (.inl e)
        · exact List.mem_cons_of_mem _ (i2 g e)
theorem length_putF (f : Str) (v : V) : ∀ fs : List (Str × V), (putF f v fs).length ≤ fs.length + 1
  | [] => by simp [putF]
  | (k, x) :: r => by
    have ih := length_putF f v r
    rw [show putF f v ((k, x) :: r) = (if k = f then (k, v) :: r else (k, x) :: putF f v r) from rfl]
    by_cases hk : k = f
    · rw [if_pos hk, List.length_cons, List.length_cons]; omega
    · rw [if_neg hk, List.length_cons, List.length_cons]; omega
theorem RelO.some_of {v : V} {o : Option Value} (r : RelO (some v) o) : ∃ u, o = some u ∧ RelV v u := by
  cases o with
  | none => exact (show False from r).elim
  | some u => exact ⟨u, rfl, r⟩
theorem handed_of {v : V} {u : Value} (r : RelV v u) : PySem.W.handedIn u = true := by
  cases v with
  | non => cases (show u = Value.none from r); rfl
  | bl b => cases (show u = Value.bool b from r); rfl
  | int i => obtain ⟨t, e⟩ := (show ∃ t, u = Value.int i t from r); cases e; rfl
  | str x => obtain ⟨t, e⟩ := (show ∃ t, u = Value.str x t from r); cases e; rfl
  | byt b => obtain ⟨t, e⟩ := (show ∃ t, u = Value.bytes b t from r); cases e; rfl
  | flt b => obtain ⟨t, e⟩ := (show ∃ t, u = Value.float b t from r); cases e; rfl
  | ref a => cases (show u = Value.ref a from r); rfl
  | ty n => cases (show u = Value.type n from r); rfl
section
variable {P : Program} {w : World} {H H' : Hp} {h h' : Heap} {a C dx : Addr} {fs fs' : List (Str × V)}
theorem ins_get (hok : HOk P w H h) (e : H a = some (.ins C dx fs)) : ∃ mA, ObjM h a dx C mA ∧ (∀ f, RelO (fs.lookup f) (mA f)) ∧ PySem.Within mA (fs.map (·.1)) ∧ fs.length ≤ 1000 ∧ H dx = some (.own a) := by
  obtain ⟨d, z, ne, ob, mA, n, r, q⟩ := (show ObjOk P w H h a (.ins C dx fs) from hok a _ e)
  exact ⟨mA, ⟨ob, n, ne⟩, r, q, z, d⟩
end
structure Cls (K : PySem.W.Frag) (C : Addr) : Prop where
  pg : PySem.W.plainGet K C Str.empty = true
  hd : PySem.W.hasDictIn K C = true
  po : PySem.W.plainOver K C = true
  sa : PySem.W.findIn K (.ref C) "__setattr__" = some (some (.builtin "object.__setattr__"))
theorem Cls.get {K : PySem.W.Frag} {C : Addr} (c : Cls K C) (f : Str) : PySem.W.plainGet K C f = true := c.pg
def NoAttr (K : PySem.W.Frag) (C : Addr) (f : Str) : Prop := PySem.W.findIn K (.ref C) f = some none
theorem NoAttr.taker {K : PySem.W.Frag} {C : Addr} {f : Str} (n : NoAttr K C f) : PySem.W.takerIn K C f = some none := by
  unfold PySem.W.takerIn
  rw [show PySem.W.findIn K (.ref C) f = some none from n]
  rfl
section
variable {X : Cx} {pins : List (Addr × Obj)} {σ : St} {H : Hp} {s : Shared} {a C dx : Addr} {fs : List (Str × V)} {f : Str} {v : V} {A : Around} {E : Value → Shared → Prop}
theorem getattr_ok {b : Bool} {Q : Value → Shared → Prop} (I : Inv X pins σ H s) (e : H a = some (.ins C dx fs)) (c : Cls X.K C) (n : NoAttr X.K C f) (l : fs.lookup f = some v)
    (h : ∀ u s', Inv X pins σ H s' → RelV v u → Q u s') : wpAny (model X.prog X.w) A (getAttr (.ref a) f b) Q E s := by
  obtain ⟨mA, O, r, _, _, _⟩ := ins_get I.hok e
  obtain ⟨u, hu, ru⟩ := RelO.some_of (v := v) (o := mA f) (by rw [← l]; exact r f)
  exact get_map I.kIn O (c.get f) c.hd n hu (handed_of ru) (h u _ (I.tok _) ru)
theorem setattr_ok {y : V} {u : Value} {Q : Unit → Shared → Prop} (I : Inv X pins σ H s) (e : H a = some (.ins C dx fs)) (c : Cls X.K C) (n : NoAttr X.K C f) (hl : fs.length < 1000) (ry : RelV y u)
    (h : ∀ s', Inv X pins σ (upd H a (.ins C dx (putF f y fs))) s' → Q () s') : wpAny (model X.prog X.w) A (setAttr (.ref a) f u) Q E s := by
  obtain ⟨mA, O, r, wi, _, ho⟩ := ins_get I.hok e
  have hz : (fs.map (·.1)).length ≤ sizeLine := by rw [List.length_map, sizeLine_eq]; omega
  refine set_map I.kIn O c.sa c.po n.taker c.hd wi hz fun h' O' sb => h _ ?_
  have hd : ∃ o, h'.get? dx = some o := let ⟨o, _, _, e', _⟩ := O'.ns; ⟨o, e'⟩
  refine I.write (x := a) (e := dx) (by rw [e]; exact True.intro) (.inr ho) (fun b q hb z => (sb.2 b hb).trans z) hd ?_
  refine ⟨by rw [upd_ne O.ne]; exact ho, ?_, O.ne, O'.obj, _, O'.ns, fun g => ?_, fun g hg => ?_⟩
  · have := length_putF f y fs; omega
  · show RelO ((putF f y fs).lookup g) (if g = f then some u else mA g)
    rw [lookup_putF]
    by_cases q : g = f
    · rw [if_pos q, if_pos q]; exact ry
    · rw [if_neg q, if_neg q]; exact r g
  · by_cases q : g = f
    · rw [q]; exact (keys_putF f y fs).1
    · refine (keys_putF f y fs).2 g (wi g fun z => hg ?_)
      show (if g = f then some u else mA g) = none
      rw [if_neg q]; exact z
theorem Inv.made (I : Inv X pins σ H s) : Inv X pins σ (upd (upd H s.heap.objs.size (.own (s.heap.objs.size + 1))) (s.heap.objs.size + 1) (.ins C s.heap.objs.size []))
    { s with heap := (s.heap.push PySem.W.emptyDict).push (PySem.W.instObj C s.heap.objs.size) } := by
  have e1 : (s.heap.push PySem.W.emptyDict).get? s.heap.objs.size = some PySem.W.emptyDict := Heap.get?_push_size s.heap rfl
  have e2 : ((s.heap.push PySem.W.emptyDict).push (PySem.W.instObj C s.heap.objs.size)).get? (s.heap.objs.size + 1) = some (PySem.W.instObj C s.heap.objs.size) := by
    have := Heap.get?_push_size (s.heap.push PySem.W.emptyDict) (o := PySem.W.instObj C s.heap.objs.size) rfl
    rwa [Heap.size_push] at this
  have e3 : (s.heap.push PySem.W.emptyDict).Ns s.heap.objs.size (fun _ => none) := ⟨PySem.W.emptyDict, #[], _, e1, rfl, (fun e he => absurd he (by simp)), fun _ => rfl⟩
  have I1 := I.laid (a := s.heap.objs.size) (o := .own (s.heap.objs.size + 1)) (h' := s.heap.push PySem.W.emptyDict) (t' := s.toks) (fun b u q => Heap.get?_push_of_some _ q) (Nat.le_refl _) ⟨_, e1⟩
  refine I1.laid (a := s.heap.objs.size + 1) (o := .ins C s.heap.objs.size []) (t' := s.toks) (fun b u q => Heap.get?_push_of_some _ q) (Nat.le_of_eq (Heap.size_push _ _)) ?_
  have ne : s.heap.objs.size ≠ s.heap.objs.size + 1 := Nat.ne_of_lt (Nat.lt_succ_self _)
  refine ⟨by rw [upd_ne ne, upd_same], Nat.zero_le _, ne, e2, fun _ => none, (Heap.Ns1.of_empty e3).at fun o q => Heap.get?_push_of_some _ q, fun _ => True.intro, fun y hy => absurd rfl hy⟩
theorem attr_of {prog : Program} {w : World} {env : Env} {e : Expr} {f : Str} {pos : Pos} {s : Shared} {Q : Value → Shared → Prop} (hb : attributeBase e f env (eval e env) = eval e env)
    (h : wpAny (model prog w) A (eval e env) (fun o s₁ => wpAny (model prog w) A (getAttr o f true) Q E s₁) E s) : wpAny (model prog w) A (eval (.Attribute e f pos) env) Q E s :=
  Attribute_any_ h (by rw [arm_eval_Attribute, hb])
end
def tFld (K : PySem.W.Frag) (ta : TE) (f : Str) : TE := fun σ H Q => ta σ H fun x H1 => ∃ a C dx fs v, x = .ref a ∧ H1 a = some (.ins C dx fs) ∧ Cls K C ∧ NoAttr K C f ∧ fs.lookup f = some v ∧ Q v H1
def sFld (K : PySem.W.Frag) (ta tv : TE) (f : Str) : TS := fun D σ H => tv σ H fun y H1 => ta σ H1 fun x H2 => ∃ a C dx fs, x = .ref a ∧ H2 a = some (.ins C dx fs) ∧ Cls K C ∧ NoAttr K C f ∧ fs.length < 1000 ∧
  D.nx σ (upd H2 a (.ins C dx (putF f y fs)))
section
variable {X : Cx} {o e value : Expr} {f : Str} {pos pos' tpos : Pos} {ta tv : TE}
theorem pe_fld (he : PE X e ta) (hb : attributeBase e f X.env (eval e X.env) = eval e X.env) : PE X (.Attribute e f pos) (tFld X.K ta f) := by
  intro pins s σ H Q I h
  refine attr_of hb (thn (he pins s σ H _ I h) fun u s1 ⟨x, H1, I1, rx, a, C, dx, fs, v, ex, ea, c, n, l, q⟩ => ?_)
  subst ex
  obtain rfl : u = Value.ref a := rx
  exact getattr_ok I1 ea c n l fun u' s2 I2 ru => ⟨v, H1, I2, ru, q⟩
theorem ps_fld (ha : PE X o ta) (hv : PE X value tv) (hs : swapsWith value (some (.Attribute o f pos')) pos.line X.env = pure false) : PS X (.Assign [.Attribute o f pos'] value pos) (sFld X.K ta tv f) := by
  intro pins s σ H D I h
  refine plainObj_wpAny_Assign_Attribute (thn (hv pins s σ H _ I h) fun u s1 ⟨y, H1, I1, ry, q⟩ => thn (ha pins s1 σ H1 _ I1 q) fun ov s2 ⟨x, H2, I2, rx, a, C, dx, fs, ex, ea, c, n, l, q2⟩ => ?_) hs
  subst ex
  obtain rfl : ov = Value.ref a := rx
  exact setattr_ok I2 ea c n l ry fun s3 I3 => ⟨σ, _, I3, q2⟩
end
section
variable {X : Cx} {pins : List (Addr × Obj)} {σ : St} {H : Hp} {s : Shared} {A : Around} {E : Value → Shared → Prop} {Q : Value → Shared → Prop} {c : Value} {b : Bool}
end
end L2
namespace L2
open PySem PySem.Spec PyProof.Rows
structure Room (k : Nat) (A : Around) : Prop where
  hd : A.handled = none
  dp : A.depth + 3 * k + 5 < recursionLimit
  un : A.units + 16 * k + 200 < cLine
theorem Room.mono {j k : Nat} {A : Around} (r : Room k A) (h : j ≤ k) : Room j A := ⟨r.hd, by have := r.dp; omega, by have := r.un; omega⟩
theorem Room.deeper {k : Nat} {A : Around} (r : Room (k + 1) A) (env : Env) : Room k (A.deeper env) :=
  ⟨r.hd, by have := r.dp; show A.depth + 1 + 3 * k + 5 < _; omega, by have := r.un; show A.units + 3 + 16 * k + 200 < _; omega⟩
theorem make_depth {A : Around} {C : Addr} {us : List Value} {kw : List (Str × Value)} : (A.under (.builtin "type.__call__" ⟨.ref C :: us, kw⟩)).depth = A.depth + 1 := by
  first | rfl | simp [Around.under, Code.weight, Code.isCreation, Code.isGuard, Code.isCaller, Code.frames, Code.isFrame, guardIds]
theorem make_units {A : Around} {C : Addr} {us : List Value} {kw : List (Str × Value)} : (A.under (.builtin "type.__call__" ⟨.ref C :: us, kw⟩)).units = A.units + 1 := by
  first | rfl | simp [Around.under, Code.cUnits, Code.frames, Code.isFrame]
theorem Room.make {k : Nat} {A : Around} (r : Room (k + 1) A) (C : Addr) (us : List Value) (kw : List (Str × Value)) : Room k (A.under (.builtin "type.__call__" ⟨.ref C :: us, kw⟩)) :=
  ⟨r.hd, by have := r.dp; rw [make_depth]; omega, by have := r.un; rw [make_units]; omega⟩
theorem Room.depth {k : Nat} {A : Around} (r : Room k A) : A.depth < recursionLimit := by have := r.dp; omega
theorem Room.units {k : Nat} {A : Around} (r : Room k A) : A.units + 64 < cLine := by have := r.un; omega
def tNil : TA := fun _ H Q => Q [] H
def tCons (ta : TE) (tr : TA) : TA := fun σ H Q => ta σ H fun x H1 => tr σ H1 fun xs H2 => Q (x :: xs) H2
section
variable {X : Cx} {e : Expr} {es : List Expr} {te : TE} {t : TA} {pos : Pos}
theorem pa_nil : PA X [] tNil := fun _ _ _ _ H Q I h => Calls.spliced_nil ⟨[], H, I, .nil, h⟩
theorem pa_cons (ha : PE X e te) (hr : PA X es t) (hs : starEach (e :: es) X.env = (false, eval e X.env) :: starEach es X.env := by rfl) : PA X (e :: es) (tCons te t) := by
  intro pos pins s σ H Q I h
  rw [hs]
  show wpAny _ _ (spliced ((false, eval e X.env) :: backTo pos (starEach es X.env))) _ _ s
  refine Calls.spliced_cons (thn (ha pins s σ H _ I h) fun u s1 ⟨x, H1, I1, r1, q1⟩ => ?_)
  exact thn (hr pos pins s1 σ H1 _ I1 q1) fun us s2 ⟨xs, H2, I2, r2, q2⟩ => ⟨x :: xs, H2, I2, .cons r1 r2, q2⟩
def tTup (t : TA) : TE := fun σ H Q => t σ H fun xs H1 => xs.length ≤ sizeLine ∧ ∀ p, H1 p = none → Q (.ref p) (upd H1 p (.tup xs))
def tLst (t : TA) : TE := fun σ H Q => t σ H fun xs H1 => xs.length ≤ sizeLine ∧ ∀ p, H1 p = none → Q (.ref p) (upd H1 p (.lst xs))
theorem pe_tup {x1} (h : PA X es t) : PE X (.Tuple es x1 pos) (tTup t) := by
  intro pins s σ H Q I hq
  refine wpAny_Tuple_spliced (thn (h pos pins s σ H _ I hq) fun us s1 ⟨xs, H1, I1, r, z, q⟩ => ⟨by rw [← r.length]; exact z, ?_⟩)
  have hf : H1 s1.heap.objs.size = none := I1.hok.fresh (Nat.le_refl _)
  refine ⟨.ref s1.heap.objs.size, upd H1 s1.heap.objs.size (.tup xs), I1.laid (t' := s1.toks) (fun b u e => Heap.get?_push_of_some _ e) (Nat.le_refl _) ?_, rfl, q _ hf⟩
  exact ⟨z, us, r, ⟨_, Heap.get?_push_size _ rfl, rfl, _, rfl⟩⟩
theorem pe_lst (h : PA X es t) : PE X (.List es pos) (tLst t) := by
  intro pins s σ H Q I hq
  refine wpAny_List_spliced (thn (h pos pins s σ H _ I hq) fun us s1 ⟨xs, H1, I1, r, z, q⟩ => ⟨by rw [← r.length]; exact z, ?_⟩)
  have hf : H1 s1.heap.objs.size = none := I1.hok.fresh (Nat.le_refl _)
  refine ⟨.ref s1.heap.objs.size, upd H1 s1.heap.objs.size (.lst xs), I1.laid (t' := s1.toks) (fun b u e => Heap.get?_push_of_some _ e) (Nat.le_refl _) ?_, rfl, q _ hf⟩
  exact ⟨z, us, 0, r, Heap.get?_push_size _ rfl⟩
end
abbrev Sp := List V → Hp → VK → XK → Prop
abbrev CXT := List Env → Hp → Shared → XK → Value → Shared → Prop
structure Env0 (P : Program) (w : World) (K : PySem.W.Frag) (mg : Str → Option Value) (base : Heap) (A : Around) (outer : List Env) (s : Shared) (H : Hp) : Prop where
  frames : A.frames = some outer
  mod : Mod K mg base
  bs : ∀ b o, base.get? b = some o → s.heap.get? b = some o ∧ H b = none
  bsz : base.objs.size ≤ s.heap.objs.size
  funs : s.heap.FunFrames base outer
  frf : ∀ b ∈ frs outer, H b = none
  hok : HOk P w H s.heap
  bare : AllBare s.gens
def CE (outer : List Env) (P : Program) (w : World) (H : Hp) (s : Shared) (Q : VK) (u : Value) (s' : Shared) : Prop :=
  ∃ v H', s'.os = s.os ∧ AllBare s'.gens ∧ Un (frs outer) [] H H' s.heap s'.heap ∧ HOk P w H' s'.heap ∧ RelV v u ∧ Q v H'
def CR (CX : CXT) (outer : List Env) (P : Program) (w : World) (H : Hp) (s : Shared) (Q : VK) (E : XK) (r : Result) (s' : Shared) : Prop :=
  match r with
  | .ok (.ret u) => CE outer P w H s Q u s'
  | .ok _ => False
  | .error e => CX outer H s E e s'
structure FnOk (P : Program) (w : World) (K : PySem.W.Frag) (mg : Str → Option Value) (base : Heap) (CX : CXT) (k : Nat) (f : Addr) (fd : FuncData) (ps : List Str) (sp : Sp) : Prop where
  len : ∀ vs H Q E, sp vs H Q E → vs.length = ps.length
  run : ∀ (A : Around) (outer : List Env) (s : Shared) (H : Hp) (args : Args) (us : List Value) (vs : List V) (Q : VK) (E : XK), Room k A → Env0 P w K mg base A outer s H → BindsTo s fd args (ps.zip us) → Vals vs us → sp vs H Q E →
    codeAny (model P w) A (.call (.ref f) args) (CR CX outer P w H s Q E) s
theorem Env0.make {P : Program} {w : World} {K : PySem.W.Frag} {mg : Str → Option Value} {base : Heap} {A : Around} {outer : List Env} {s : Shared} {H : Hp} (e : Env0 P w K mg base A outer s H) (C : Addr) (us : List Value) (kw : List (Str × Value)) :
    Env0 P w K mg base (A.under (.builtin "type.__call__" ⟨.ref C :: us, kw⟩)) outer s H := ⟨by first | exact e.frames | (simpa [Around.under, Code.envs, Code.isFrame, pushEnvs] using e.frames), e.mod, e.bs, e.bsz, e.funs, e.frf, e.hok, e.bare⟩
section
variable {X : Cx} {pins : List (Addr × Obj)} {σ : St} {H : Hp} {s s' : Shared}
theorem Inv.env0 (I : Inv X pins σ H s) : Env0 X.prog X.w X.K X.mg X.base X.A X.stack s H :=
  ⟨I.ok.frames, I.ok.mod, I.bs, Nat.le_trans I.ok.bsz I.sz, I.stack, I.stkFree, I.hok, I.bare⟩
theorem Inv.after {Q : VK} {u : Value} (I : Inv X pins σ H s) (h : CE X.stack X.prog X.w H s Q u s') : EP X pins σ Q u s' := by
  obtain ⟨v, H', os, bare, un, hok, r, q⟩ := h
  obtain ⟨hh, g, d, t, os'⟩ := s'
  obtain rfl : os' = s.os := os
  exact ⟨v, H', I.call (h' := hh) (g' := g) (d' := d) (t' := t) (ch := []) un hok bare (fun b z => absurd z (by simp)), r, q⟩
end
def tCall (sp : Sp) (dvs : List V) (E : XK) (t : TA) : TE := fun σ H Q => t σ H fun vs H1 => sp (vs ++ dvs) H1 Q E
def tMake (C : Addr) (sp : Sp) (dvs : List V) (E : XK) (t : TA) : TE := fun σ H Q => t σ H fun vs H1 => ∀ x dx, H1 x = none → H1 dx = none → dx ≠ x →
  sp (.ref x :: (vs ++ dvs)) (upd (upd H1 dx (.own x)) x (.ins C dx [])) (fun v H2 => v = .non ∧ Q (.ref x) H2) E
def Binds (K : PySem.W.Frag) (fd : FuncData) (ps : List Str) (ds : List Value) : Prop :=
  ∀ (s : Shared) (us : List Value), K.In s.heap → (us ++ ds).length = ps.length → BindsTo s fd ⟨us, []⟩ (ps.zip (us ++ ds))
theorem Binds.all {K : PySem.W.Frag} {fd : FuncData} {ps : List Str} (h : ∀ us : List Value, us.length = ps.length → bindArgs fd ⟨us, []⟩ = pure (ps.zip us)) : Binds K fd ps [] := fun s us _ hl => by
  rw [List.append_nil] at hl ⊢
  exact .of_eq (h us hl)
def Passes (CX : CXT) (X : Cx) (E : XK) : Prop := ∀ (pins : List (Addr × Obj)) (σ : St) (H : Hp) (s : Shared) (e : Value) (s' : Shared), Inv X pins σ H s → CX X.stack H s E e s' → X.xe e s'
section
variable {X : Cx} {CX : CXT} {k : Nat} {f C : Addr} {fd : FuncData} {ps : List Str} {sp : Sp} {dvs : List V} {ds : List Value} {E : XK} {x m : Str} {p pos apos : Pos} {e o : Expr} {es : List Expr} {ta : TE} {t : TA}
theorem run_fn {pins : List (Addr × Obj)} {σ : St} {H : Hp} {s : Shared} {Q : VK} {us : List Value} {vs : List V} (F : FnOk X.prog X.w X.K X.mg X.base CX k f fd ps sp) (hr : Room k X.A) (hb : Binds X.K fd ps ds) (hd : Vals dvs ds) (hx : Passes CX X E)
    (I : Inv X pins σ H s) (r : Vals vs us) (h : sp (vs ++ dvs) H Q E) : wpAny (model X.prog X.w) X.A (call (.ref f) us) (EP X pins σ Q) X.xe s := by
  have r2 : Vals (vs ++ dvs) (us ++ ds) := r.append hd
  have hl : (us ++ ds).length = ps.length := by rw [← r2.length]; exact F.len _ _ _ _ h
  refine wpAny_call (codeAny_mono (F.run X.A X.stack s H ⟨us, []⟩ (us ++ ds) (vs ++ dvs) Q E hr I.env0 (hb s us I.kIn hl) r2 h) fun r s' hq => ?_)
  cases r with
  | error e => exact hx pins σ H s e s' I hq
  | ok fl =>
    cases fl with
    | ret u => exact I.after hq
    | next => exact False.elim hq
    | brk => exact False.elim hq
    | cont => exact False.elim hq
theorem pe_call (F : FnOk X.prog X.w X.K X.mg X.base CX k f fd ps sp) (hr : Room k X.A) (hg : Gl X x) (hm : X.mg x = some (.ref f)) (hk : PySem.W.keepIn X.K (.ref f) = true) (hb : Binds X.K fd ps ds) (hd : Vals dvs ds) (hx : Passes CX X E)
    (ha : PA X (e :: es) t) (hdb : (x == ("__debug__" : Str)) = false := by decide) (he : starEach (e :: es) X.env = (false, eval e X.env) :: starEach es X.env := by rfl) (hpl : (backTo pos (starEach es X.env)).any (·.1) = false := by rfl) :
    PE X (.Call (.Name x p) (e :: es) [] pos) (tCall sp dvs E t) := by
  intro pins s σ H Q I h
  refine wpAny_Call_Name_kw (ld_glob I hg hm ?_ hdb)
  refine PySem.W.callWith_K (h₀ := X.base) I.ok.mod.kin hk (thn (ha pos pins s σ H _ I h) fun us s1 ⟨vs, H1, I1, r, q⟩ => ⟨I1.kIn, ?_⟩) he hpl
  exact run_fn F hr hb hd hx I1 r q
structure Mk (K : PySem.W.Frag) (C f : Addr) : Prop where
  makes : PySem.W.makesIn K C = true
  init : PySem.W.findIn K (.ref C) "__init__" = some (some (.ref f))
  fn : PySem.W.isFn K (.ref f) = true
  kp : PySem.W.keepIn K (.ref C) = true
theorem run_make {pins : List (Addr × Obj)} {σ : St} {H : Hp} {s : Shared} {Q : VK} {us : List Value} {vs : List V} (M : Mk X.K C f) (F : FnOk X.prog X.w X.K X.mg X.base CX k f fd ps sp) (hr : Room (k + 1) X.A) (hb : Binds X.K fd ps ds) (hd : Vals dvs ds)
    (hx : Passes CX X E) (I : Inv X pins σ H s) (r : Vals vs us)
    (h : ∀ x dx, H x = none → H dx = none → dx ≠ x → sp (.ref x :: (vs ++ dvs)) (upd (upd H dx (.own x)) x (.ins C dx [])) (fun v H2 => v = .non ∧ Q (.ref x) H2) E) :
    wpAny (model X.prog X.w) X.A (call (.ref C) us) (EP X pins σ Q) X.xe s := by
  have hq := h (s.heap.objs.size + 1) s.heap.objs.size (I.hok.fresh (Nat.le_succ _)) (I.hok.fresh (Nat.le_refl _)) (Nat.ne_of_lt (Nat.lt_succ_self _))
  have I2 := Inv.made (C := C) I
  have r2 : Vals (V.ref (s.heap.objs.size + 1) :: (vs ++ dvs)) (Value.ref (s.heap.objs.size + 1) :: (us ++ ds)) := .cons rfl (r.append hd)
  have hl : (Value.ref (s.heap.objs.size + 1) :: us ++ ds).length = ps.length := by
    have e := r2.length
    rw [F.len _ _ _ _ hq] at e
    exact e.symm
  refine wpAny_call (make_map (f := f) I.kIn M.makes M.init (beq_iff_eq.mp M.fn) (codeAny_mono (F.run _ X.stack _ _ ⟨Value.ref (s.heap.objs.size + 1) :: us, []⟩ (Value.ref (s.heap.objs.size + 1) :: (us ++ ds)) _ _ E (hr.make C us [])
    (I2.env0.make C us []) (hb _ (Value.ref (s.heap.objs.size + 1) :: us) I2.kIn hl) r2 hq) fun r s' hq' => ?_))
  cases r with
  | error e => exact hx pins σ _ _ e s' I2 hq'
  | ok fl =>
    cases fl with
    | ret u =>
      obtain ⟨v, H', I3, rv, ev, q3⟩ := I2.after hq'
      subst ev
      exact ⟨rv, ⟨V.ref (s.heap.objs.size + 1), H', I3, rfl, q3⟩⟩
    | next => exact False.elim hq'
    | brk => exact False.elim hq'
    | cont => exact False.elim hq'
theorem pe_make (M : Mk X.K C f) (F : FnOk X.prog X.w X.K X.mg X.base CX k f fd ps sp) (hr : Room (k + 1) X.A) (hg : Gl X x) (hm : X.mg x = some (.ref C)) (hb : Binds X.K fd ps ds) (hd : Vals dvs ds) (hx : Passes CX X E)
    (ha : PA X (e :: es) t) (hdb : (x == ("__debug__" : Str)) = false := by decide) (he : starEach (e :: es) X.env = (false, eval e X.env) :: starEach es X.env := by rfl) (hpl : (backTo pos (starEach es X.env)).any (·.1) = false := by rfl) :
    PE X (.Call (.Name x p) (e :: es) [] pos) (tMake C sp dvs E t) := by
  intro pins s σ H Q I h
  refine wpAny_Call_Name_kw (ld_glob I hg hm ?_ hdb)
  refine PySem.W.callWith_K (h₀ := X.base) I.ok.mod.kin M.kp (thn (ha pos pins s σ H _ I h) fun us s1 ⟨vs, H1, I1, r, q⟩ => ⟨I1.kIn, ?_⟩) he hpl
  exact run_make M F hr hb hd hx I1 r q
theorem pe_make0 (M : Mk X.K C f) (F : FnOk X.prog X.w X.K X.mg X.base CX k f fd ps sp) (hr : Room (k + 1) X.A) (hg : Gl X x) (hm : X.mg x = some (.ref C)) (hb : Binds X.K fd ps ds) (hd : Vals dvs ds) (hx : Passes CX X E)
    (hdb : (x == ("__debug__" : Str)) = false := by decide) : PE X (.Call (.Name x p) [] [] pos) (tMake C sp dvs E tNil) := by
  intro pins s σ H Q I h
  refine wpAny_Call_Name_kw (ld_glob I hg hm ?_ hdb)
  exact PySem.W.callWith_K0 I.kIn M.kp (run_make (us := []) M F hr hb hd hx I .nil h)
end
section
variable {X : Cx} {CX : CXT} {k : Nat} {f C : Addr} {fd : FuncData} {ps ks : List Str} {sp : Sp} {E : XK} {x m : Str} {p pos apos kpos : Pos} {e o : Expr} {es : List Expr} {kws : List Keyword} {te ta : TE} {t tk : TA} {nm : Option Str}
variable {g : List Value → List Value → List Value} {gV : List V → List V → List V}
end
structure FnScope (N P : List Str) (sc : Scope) : Prop where
  kind : sc.kind = .function
  co : sc.isCoroutine = false
  gen : sc.isGenerator = false
  nd : N.Nodup
  pre : N.take P.length = P
  par : ∀ x ∈ P, sc.names.lookup x = some .local ∨ sc.names.lookup x = some .cell
  nofree : ∀ y ∈ sc.names, y.2 ≠ .free
theorem bindL_out {kindOf : Str → Option NameKind} {x : Str} : ∀ {binds : List (Str × Value)} {m : Str → Option Value}, (∀ v, (x, v) ∉ binds) → bindL kindOf binds m x = m x
  | [], _, _ => rfl
  | (n, v) :: r, m, h => by
    unfold bindL
    rw [bindL_out fun w hw => h w (List.mem_cons_of_mem _ hw)]
    split
    · have : x ≠ n := by rintro rfl; exact h v List.mem_cons_self
      simp [this]
    · rfl
theorem bindC_out {kindOf : Str → Option NameKind} {x : Str} : ∀ {binds : List (Str × Value)} {m : Str → Option Value}, (∀ v, (x, v) ∉ binds) → bindC kindOf binds m x = m x
  | [], _, _ => rfl
  | (n, v) :: r, m, h => by
    unfold bindC
    rw [bindC_out fun w hw => h w (List.mem_cons_of_mem _ hw)]
    split
    · rfl
    · have : x ≠ n := by rintro rfl; exact h v List.mem_cons_self
      simp [this]
theorem bindL_get {kindOf : Str → Option NameKind} {x : Str} {v : Value} : ∀ {P : List Str} {vs : List Value} {i : Nat} {m : Str → Option Value}, P.Nodup → P[i]? = some x → vs[i]? = some v → kindOf x = some .local →
    bindL kindOf (P.zip vs) m x = some v
  | [], _, _, _, _, h, _, _ => by simp at h
  | _ :: _, [], _, _, _, _, h, _ => by simp at h
  | p :: P, w :: vs, 0, m, nd, h1, h2, hk => by
    simp at h1 h2; subst h1; subst h2
    show bindL kindOf ((p, w) :: P.zip vs) m p = _
    unfold bindL
    rw [bindL_out fun v hv => (List.nodup_cons.mp nd).1 (List.of_mem_zip hv).1, if_pos hk]
    simp
  | p :: P, w :: vs, i + 1, m, nd, h1, h2, hk => by
    show bindL kindOf ((p, w) :: P.zip vs) m x = _
    unfold bindL
    exact bindL_get (i := i) (List.nodup_cons.mp nd).2 (by simpa using h1) (by simpa using h2) hk
theorem bindC_get {kindOf : Str → Option NameKind} {x : Str} {v : Value} : ∀ {P : List Str} {vs : List Value} {i : Nat} {m : Str → Option Value}, P.Nodup → P[i]? = some x → vs[i]? = some v → kindOf x ≠ some .local →
    bindC kindOf (P.zip vs) m x = some v
  | [], _, _, _, _, h, _, _ => by simp at h
  | _ :: _, [], _, _, _, _, h, _ => by simp at h
  | p :: P, w :: vs, 0, m, nd, h1, h2, hk => by
    simp at h1 h2; subst h1; subst h2
    show bindC kindOf ((p, w) :: P.zip vs) m p = _
    unfold bindC
    rw [bindC_out fun v hv => (List.nodup_cons.mp nd).1 (List.of_mem_zip hv).1, if_neg hk]
    simp
  | p :: P, w :: vs, i + 1, m, nd, h1, h2, hk => by
    show bindC kindOf ((p, w) :: P.zip vs) m x = _
    unfold bindC
    exact bindC_get (i := i) (List.nodup_cons.mp nd).2 (by simpa using h1) (by simpa using h2) hk
def start (N : List Str) (vs : List V) : St := vs.map some ++ List.replicate (N.length - vs.length) none
def cxOf (CX : CXT) (P : Program) (w : World) (K : PySem.W.Frag) (mg : Str → Option Value) (base : Heap) (N : List Str) (qual : Str) (scope : Scope) (f : Addr) (cd : Value) (A : Around) (outer : List Env) (s : Shared) (H : Hp) (E : XK) : Cx where
  prog := P
  w := w
  K := K
  mg := mg
  base := base
  A := A.deeper (envOfC qual scope s.heap.objs.size f cd)
  N := N
  s_0 := s
  H_0 := H
  env := envOfC qual scope s.heap.objs.size f cd
  outer := outer
  stack := envOfC qual scope s.heap.objs.size f cd :: outer
  ex := []
  calm := true
  fn := fun _ => true
  pn := []
  xe := fun e s' => wpAny (model P w) (A.deeper (envOfC qual scope s.heap.objs.size f cd)) (leaving (envOfC qual scope s.heap.objs.size f cd) e) (fun _ s'' => CX outer H s E e s'') (fun e' s'' => CX outer H s E e' s'') s'
theorem cell_has {sc : Scope} {n : Nat} {x : Str} (h : sc.names.lookup x = some .cell) : ∃ c, (cellsFrom n sc.names []).lookup x = some c := by
  have q := PySem.W.cellsFrom_some sc.names n [] (.inl h)
  exact Option.isSome_iff_exists.mp q
theorem inv_start {CX : CXT} {P : Program} {w : World} {K : PySem.W.Frag} {mg : Str → Option Value} {base : Heap} {N ps : List Str} {qual : Str} {scope : Scope} {f : Addr} {cd : Value} {A : Around} {outer : List Env} {s s1 : Shared} {H : Hp} {E : XK} {us : List Value} {vs : List V}
    (S : FnScope N ps scope) (hd : A.handled = none) (e0 : Env0 P w K mg base A outer s H) (hl : vs.length = ps.length) (r : Vals vs us)
    (x : InCallC s s.heap.objs.size (bindL (envOfC qual scope s.heap.objs.size f cd).kindOf (ps.zip us) fun _ => none) (cellsFrom (s.heap.objs.size + 1) scope.names []) (bindC (envOfC qual scope s.heap.objs.size f cd).kindOf (ps.zip us) fun _ => none) s1) :
    Inv (cxOf CX P w K mg base N qual scope f cd A outer s H E) [] (start N vs) H s1 := by
  have hpl : ps.length ≤ N.length := by have := congrArg List.length S.pre; rw [List.length_take] at this; omega
  obtain ⟨h1, tk, rfl, hk⟩ := x.done
  have noA : ∀ b : Addr, b ∉ (cxOf CX P w K mg base N qual scope f cd A outer s H E).ex := fun b z => absurd (show b ∈ ([] : List Addr) from z) (by simp)
  refine ⟨⟨e0.mod, S.kind, rfl, rfl, Nat.le_refl _, fun y z c h1 h2 => ?_, fun y hy => ?_, fun y c _ h => ?_, fun _ => hd, Around.frames_deeper e0.frames, .inr ⟨rfl, rfl⟩, fun b z => absurd z (noA b), e0.bs, e0.bsz, fun b _ _ => noA b, fun b z => absurd z (noA b), e0.funs, e0.frf⟩,
    rfl, e0.bare, Un.kept hk, ⟨_, x.toInCall.ns, fun i y v h1 h2 h3 => ?_⟩, fun y c h => ⟨_, x.cell y c h⟩, e0.hok.fresh (Nat.le_refl _), fun y c h => ?_, fun p hp => absurd (show p ∈ ([] : List (Addr × Obj)) from hp) (by simp), e0.hok.kept hk, ?_⟩
  · exact name_of_addr x.apart (PySem.mem_of_lookup h1) (PySem.mem_of_lookup h2)
  · have hy : scope.names.lookup y = some .cell ∨ scope.names.lookup y = some .free := hy
    rcases hy with hy | hy
    · exact cell_has hy
    · exact absurd rfl (S.nofree _ (PySem.mem_of_lookup hy))
  · exact Nat.le_of_lt (x.above y c (PySem.mem_of_lookup h))
  · have hi : i < vs.length := by
      unfold start at h2
      by_cases hi : i < vs.length
      · exact hi
      · rw [List.getElem?_append_right (by simpa using hi)] at h2
        rw [List.getElem?_replicate] at h2
        split at h2 <;> cases h2
    have ha : vs[i]? = some v := by
      unfold start at h2
      rw [List.getElem?_append_left (by simpa using hi), List.getElem?_map] at h2
      cases e : vs[i]? with
      | none => rw [e] at h2; cases h2
      | some a => rw [e] at h2; cases h2; rfl
    obtain ⟨u, hu, rv⟩ := r.get ha
    have hp : ps[i]? = some y := by
      rw [← S.pre, List.getElem?_take_of_lt (by omega)]; exact h1
    have ndP : ps.Nodup := by rw [← S.pre]; exact S.nd.sublist (List.take_sublist _ _)
    refine ⟨u, rv, ?_⟩
    rcases S.par y (List.mem_of_getElem? hp) with k | k
    · exact .inl ⟨k, bindL_get ndP hp hu k⟩
    · obtain ⟨c, e⟩ := cell_has (n := s.heap.objs.size + 1) k
      refine .inr ⟨.inl k, c, e, ?_⟩
      have q := x.cell y c e
      rw [bindC_get ndP hp hu (by show scope.names.lookup y ≠ _; rw [k]; decide)] at q
      exact q
  · exact e0.hok.fresh (Nat.le_of_lt (x.above y c (PySem.mem_of_lookup h)))
  · unfold start
    show _ = N.length
    rw [List.length_append, List.length_map, List.length_replicate]
    omega
theorem fn_of {CX : CXT} {P : Program} {w : World} {K : PySem.W.Frag} {mg : Str → Option Value} {base : Heap} {k : Nat} {f : Addr} {name qual : Str} {params : Arguments} {body : List Stmt} {scope : Scope} {dV kV doc pm cdv ct oc : Value} {an od : Option Addr}
    {osl : Array (Option Value)} {N ps : List Str} {sp : Sp} (lk : K.lookup f = some ⟨oc, od, .func (PySem.W.fnOf name qual params body scope dV kV doc pm an cdv ct), osl⟩) (hcd : PySem.W.codeIn K cdv qual = true) (S : FnScope N ps scope)
    (len : ∀ vs H Q E, sp vs H Q E → vs.length = ps.length)
    (hbody : ∀ (A : Around) (outer : List Env) (s : Shared) (H : Hp) (vs : List V) (Q : VK) (E : XK), Room k (A.deeper (envOfC qual scope s.heap.objs.size f cdv)) → sp vs H Q E →
      ∃ t, PSs (cxOf CX P w K mg base N qual scope f cdv A outer s H E) body t ∧ t { nx := fun _ H' => Q .non H', rt := Q } (start N vs) H) :
    FnOk P w K mg base CX (k + 1) f (PySem.W.fnOf name qual params body scope dV kV doc pm an cdv ct) ps sp := by
  refine ⟨len, fun A outer s H args us vs Q E hr e0 hb r hsp => ?_⟩
  have hl := len _ _ _ _ hsp
  have KX : K.In s.heap := e0.mod.kin.keeps fun b o e => (e0.bs b o e).1
  have lim : s.heap.NoLimit := e0.mod.nolimit.keeps fun b o e => (e0.bs b o e).1
  have hkind : ∀ y ∈ ps.zip us, scope.names.lookup y.1 = some .local ∨ (scope.names.lookup y.1 = some .cell ∧ ((cellsFrom (s.heap.objs.size + 1) scope.names []).lookup y.1).isSome = true) := fun ⟨n, v⟩ hy => by
    rcases S.par n (List.of_mem_zip hy).1 with q | q
    · exact .inl q
    · exact .inr ⟨q, PySem.W.cellsFrom_some _ _ _ (.inl q)⟩
  refine codeAny_call_function hr.depth (KX _ _ lk) rfl S.co S.gen rfl (PySem.W.codeRec_of KX hcd) (hb _ _ _ _ ?_)
  refine wpAny_newFunctionEnv_cells S.kind hkind fun env he s1 x => ?_
  subst he
  refine ⟨lim.keeps x.toInCall.keep, codeAny_func ?_⟩
  obtain ⟨t, ht, hq⟩ := hbody A outer s H vs Q E (hr.deeper _) hsp
  have I : Inv (cxOf CX P w K mg base N qual scope f cdv A outer s H E) [] (start N vs) H s1 := inv_start S hr.hd e0 hl r x
  refine wpAny_mono (ht [] s1 (start N vs) H _ I hq) (fun fl s' hs => ?_) fun e s' hs => hs
  have fin : ∀ {σ' : St} {H' : Hp} {v : V} {u : Value}, Inv (cxOf CX P w K mg base N qual scope f cdv A outer s H E) [] σ' H' s' → RelV v u → Q v H' → CE outer P w H s Q u s' :=
    fun {σ' H' v u} J rv q => ⟨v, H', J.os, J.bare, J.base, J.hok, rv, q⟩
  cases fl with
  | ret u =>
    obtain ⟨v, σ', H', J, rv, q⟩ := hs
    exact fin J rv q
  | next =>
    obtain ⟨σ', H', J, q⟩ := hs
    exact fin (v := V.non) (u := Value.none) J rfl q
  | brk =>
    obtain ⟨_, _, _, q⟩ := hs
    exact False.elim q
  | cont =>
    obtain ⟨_, _, _, q⟩ := hs
    exact False.elim q
end L2
namespace L2
open PySem PySem.Spec PyProof.Rows
section
variable {X : Cx} {x : Str} {p pos : Pos} {e : Expr} {es : List Expr} {t : TA} {id T : String} {r : List V → Hp → VK → Prop}
def tCB (r : List V → Hp → VK → Prop) (t : TA) : TE := fun σ H Q => t σ H fun vs H1 => r vs H1 Q
theorem pe_callB (hc : CallR X (.builtin id) r) (hg : Gl X x) (hm : X.mg x = none) (hv : bootBuiltins x = some (.builtin id)) (ha : PA X (e :: es) t) (hn : x ≠ "__name__" := by decide) (hdb : (x == ("__debug__" : Str)) = false := by decide)
    (he : starEach (e :: es) X.env = (false, eval e X.env) :: starEach es X.env := by rfl) (hpl : (backTo pos (starEach es X.env)).any (·.1) = false := by rfl) : PE X (.Call (.Name x p) (e :: es) [] pos) (tCB r t) := by
  intro pins s σ H Q I h
  refine wpAny_Call_Name_kw (ld_blt I hg hm hv ?_ hn hdb)
  exact PyProof.Rows.callWith_builtin1 (thn (ha pos pins s σ H _ I h) fun us s1 ⟨vs, H1, I1, r1, q1⟩ => hc pins s1 σ H1 vs us Q I1 r1 q1) he hpl
end
end L2
namespace HT
open PySem PyProof.Rows
section
open PySem.SeqAt
open PySem.AutoSeq1 (wpAny_loadPart')
open PySem.MeetsSeq PySem.MeetsSeq2 PySem.MeetsSeq3
end
section
variable {prog : Program} {w : World} {A : Around} {E : Value → Shared → Prop} {s : Shared}
def sIx (n d : Nat) : Option Int → Nat
  | none => d
  | some v => if v < 0 then (v + (n : Int)).toNat else min v.toNat n
end
end HT
namespace L2
open PySem PySem.Spec PyProof.Rows
abbrev TO := St → Hp → (Option Int → Hp → Prop) → Prop
def PO (X : Cx) (e : Option Expr) (t : TO) : Prop :=
  ∀ (pins : List (Addr × Obj)) (s : Shared) (σ : St) (H : Hp) (Q : Option Int → Hp → Prop), Inv X pins σ H s → t σ H Q →
    wpAny (model X.prog X.w) X.A (evalPart e X.env) (fun u s' => ∃ o H', Inv X pins σ H' s' ∧ IsPart u o ∧ Q o H') X.xe s
def tNoPart : TO := fun _ H Q => Q none H
def tPart (t : TE) : TO := fun σ H Q => t σ H fun x H1 => ∃ i, x = .int i ∧ Q (some i) H1
section
variable {X : Cx} {e : Expr} {te : TE} {lo hi : Option Expr} {tl th : TO} {pos p2 : Pos}
theorem po_none : PO X none tNoPart := by
  intro pins s σ H Q I h
  rw [evalPart_none]
  exact wpAny_pure ⟨none, H, I, .none, h⟩
theorem po_some (h : PE X e te) : PO X (some e) (tPart te) := by
  intro pins s σ H Q I hw
  rw [evalPart_some]
  refine thn (h pins s σ H _ I hw) fun u s1 ⟨x, H1, I1, r1, q1⟩ => ?_
  obtain ⟨i, rfl, q⟩ := q1
  obtain ⟨t, rfl⟩ := r1
  exact ⟨some i, H1, I1, .int i t, q⟩
def SlR (X : Cx) (r : V → Option Int → Option Int → Hp → VK → Prop) : Prop :=
  ∀ (pins : List (Addr × Obj)) (s : Shared) (σ : St) (H : Hp) (x : V) (v vl vu : Value) (lo hi : Option Int) (sl : Addr) (Q : VK), Inv X pins σ H s → RelV x v → s.heap.IsSliceOf sl vl vu .none → IsPart vl lo → IsPart vu hi → r x lo hi H Q →
    ∃ T id, typeLookup (.type T) "__getitem__" = pure (some (.builtin id)) ∧ s.TypeIs v T ∧ wpAny (model X.prog X.w) X.A (getItem v (.ref sl)) (EP X pins σ Q) X.xe s
def tSl (r : V → Option Int → Option Int → Hp → VK → Prop) (te : TE) (tl th : TO) : TE := fun σ H Q => te σ H fun x H1 => tl σ H1 fun l H2 => th σ H2 fun u H3 => r x l u H3 Q
theorem pe_slice {r : V → Option Int → Option Int → Hp → VK → Prop} (hr : SlR X r) (he : PE X e te) (hl : PO X lo tl) (hu : PO X hi th) : PE X (.Subscript e (.Slice lo hi none p2) pos) (tSl r te tl th) := by
  intro pins s σ H Q I h
  refine Subscript_ (thn (he pins s σ H _ I h) fun v s1 ⟨x, H1, I1, r1, q1⟩ => ?_)
  refine wpAny_Slice (thn (hl pins s1 σ H1 _ I1 q1) fun vl s2 ⟨l, H2, I2, pl, q2⟩ => thn (hu pins s2 σ H2 _ I2 q2) fun vu s3 ⟨u, H3, I3, pu, q3⟩ => ?_)
  rw [evalPart_none]
  refine wpAny_pure ?_
  have I4 : Inv X pins σ H3 { s3 with heap := s3.heap.push { cls := .type "slice", data := .fields #[vl, vu, .none] } } := I3.kept (t' := s3.toks) fun b ob q => Heap.get?_push_of_some _ q
  obtain ⟨T, id, hT, ht, hg⟩ := hr pins { s3 with heap := s3.heap.push { cls := .type "slice", data := .fields #[vl, vu, .none] } } σ H3 x v vl vu l u s3.heap.objs.size Q I4 r1 (Heap.IsSliceOf.new ..) pl pu q3
  show wpAny (model X.prog X.w) X.A (subscriptTail e (.Slice lo hi none p2) v (.ref s3.heap.objs.size)) (EP X pins σ Q) X.xe { s3 with heap := s3.heap.push { cls := .type "slice", data := .fields #[vl, vu, .none] } }
  exact tail_any (ops := [.ref s3.heap.objs.size, v]) ht hT hg (by with_unfolding_all rfl)
def cutV (xs : List V) (lo hi : Option Int) : List V := (xs.drop (HT.sIx xs.length 0 lo)).take (HT.sIx xs.length xs.length hi - HT.sIx xs.length 0 lo)
theorem cutV_length (xs : List V) (lo hi : Option Int) : (cutV xs lo hi).length ≤ xs.length := by
  unfold cutV
  rw [List.length_take, List.length_drop]
  omega
end
end L2
namespace L2
open PySem PySem.Spec PyProof.Rows
def ixN (n : Nat) (i : Int) : Option Nat := if 0 ≤ i then (if i < n then some i.toNat else none) else if -(n : Int) ≤ i then some (i + n).toNat else none
def atI {α : Type} (xs : List α) (i : Int) : Option α := (ixN xs.length i).bind fun j => xs[j]?
theorem ixN_seq {n : Nat} {i : Int} {j : Nat} (h : ixN n i = some j) : seqIndex? i n = some j ∧ j < n ∧ -(n : Int) ≤ i ∧ i < n := by
  unfold ixN at h
  by_cases h0 : 0 ≤ i
  · rw [if_pos h0] at h
    by_cases h1 : i < n
    · rw [if_pos h1] at h
      have e : i.toNat = j := Option.some.inj h
      exact ⟨by rw [seqIndex_of h0 h1, e], by omega, by omega, h1⟩
    · rw [if_neg h1] at h; cases h
  · rw [if_neg h0] at h
    by_cases h1 : -(n : Int) ≤ i
    · rw [if_pos h1] at h
      have e : (i + n).toNat = j := Option.some.inj h
      exact ⟨by rw [seqIndex_neg (by omega) h1, e], by omega, h1, by omega⟩
    · rw [if_neg h1] at h; cases h
theorem atI_get {α : Type} {xs : List α} {i : Int} {v : α} (h : atI xs i = some v) : ∃ j, seqIndex? i xs.length = some j ∧ xs[j]? = some v ∧ j < xs.length ∧ -(xs.length : Int) ≤ i ∧ i < xs.length := by
  unfold atI at h
  cases e : ixN xs.length i with
  | none => rw [e] at h; cases h
  | some j =>
    rw [e] at h
    obtain ⟨h1, h2, h3, h4⟩ := ixN_seq e
    exact ⟨j, h1, h, h2, h3, h4⟩
theorem atI_nat {α : Type} {xs : List α} {j : Nat} {v : α} (h : xs[j]? = some v) : atI xs (j : Int) = some v := by
  have hj : j < xs.length := (List.getElem?_eq_some_iff.mp h).1
  have e : ixN xs.length (j : Int) = some j := by
    unfold ixN
    rw [if_pos (by omega), if_pos (by omega)]; simp
  unfold atI; rw [e]; exact h
def PlainIx (b : Expr) : Prop := ∀ o i, subscripted b false o i = operate [o, i] (getItem o i)
def IxR (X : Cx) (r : R2) : Prop :=
  ∀ (value slice : Expr) (pins : List (Addr × Obj)) (s : Shared) (σ : St) (H : Hp) (x y : V) (v u : Value) (Q : VK), Inv X pins σ H s → RelV x v → RelV y u → r x y H Q →
    subscripted slice false v u = operate [v, u] (getItem v u) → wpAny (model X.prog X.w) X.A (subscriptTail value slice v u) (EP X pins σ Q) X.xe s
def MtR (X : Cx) (id : String) (r : V → List V → Hp → VK → Prop) : Prop :=
  ∀ (pins : List (Addr × Obj)) (s : Shared) (σ : St) (H : Hp) (x : V) (xs : List V) (v : Value) (us : List Value) (Q : VK), Inv X pins σ H s → RelV x v → Vals xs us → r x xs H Q →
    wpAny (model X.prog X.w) X.A (call (.builtin id) (v :: us)) (EP X pins σ Q) X.xe s
section
variable {X : Cx} {a b : Expr} {ta tb : TE} {pos : Pos}
theorem pe_ix {r : R2} (hr : IxR X r) (ha : PE X a ta) (hb : PE X b tb) (hs : PlainIx b) : PE X (.Subscript a b pos) (tOp r ta tb) := by
  intro pins s σ H Q I h
  exact Subscript_ (binT ha hb I h fun v u s2 x y H2 I2 rx ry q => hr a b pins s2 σ H2 x y v u Q I2 rx ry q (hs _ _))
def rIxL (K : PySem.W.Frag) : R2 := fun x y H Q => ∃ p xs i v, x = .ref p ∧ y = .int i ∧ SqL K H p xs ∧ atI xs i = some v ∧ Q v H
def rIxT (K : PySem.W.Frag) : R2 := fun x y H Q => ∃ p xs i v, x = .ref p ∧ y = .int i ∧ SqT K H p xs ∧ atI xs i = some v ∧ Q v H
theorem ix_list : IxR X (rIxL X.K) := by
  intro value slice pins s σ H x y v u Q I rx ry h hs
  obtain ⟨p, xs, i, z, rfl, rfl, hq, he, q⟩ := h
  cases rx
  obtain ⟨t, rfl⟩ := ry
  obtain ⟨its, r, pl, hz⟩ := I.list hq
  obtain ⟨j, h1, h2, h3, h4, h5⟩ := atI_get he
  obtain ⟨w, ew, rw'⟩ := r.get h2
  have hl := r.length
  have hn := line63
  have fin : EP X pins σ Q w s := ⟨z, H, I, rw', q⟩
  by_cases h0 : 0 ≤ i
  · have hj : i.toNat = j := by
      rw [seqIndex_of h0 h5] at h1
      exact Option.some.inj h1
    exact item_listR pl.isList h0 (by omega) (by rw [hj]; simpa using ew) fin hs
  · have hj : (i + (its.toArray.size : Int)).toNat = j := by
      rw [seqIndex_neg (by omega) h4] at h1
      rw [List.size_toArray, ← hl]
      exact Option.some.inj h1
    exact subscriptTail_builtinR (x := w) pl.isList.typeIs slot_list_getitem.lookup
      (wpAny_getItem_list_neg (Q := fun r s' => r = w ∧ EP X pins σ Q r s') pl.isList (by omega) (by rw [List.size_toArray] <;> omega) (by omega) (by rw [hj]; simpa using ew) ⟨rfl, fin⟩) hs
theorem ix_tup : IxR X (rIxT X.K) := by
  intro value slice pins s σ H x y v u Q I rx ry h hs
  obtain ⟨p, xs, i, z, rfl, rfl, hq, he, q⟩ := h
  cases rx
  obtain ⟨t, rfl⟩ := ry
  obtain ⟨its, r, pl, hz⟩ := I.tuple hq
  obtain ⟨j, h1, h2, h3, h4, h5⟩ := atI_get he
  obtain ⟨w, ew, rw'⟩ := r.get h2
  have hl := r.length
  have hn := line63
  have fin : EP X pins σ Q w s := ⟨z, H, I, rw', q⟩
  exact subscriptTail_builtinR (x := w) pl.typeIs slot_tuple_getitem.lookup
    (getItem_tuple (j := j) (Q := fun r s' => r = w ∧ EP X pins σ Q r s') pl (by omega) (by omega) (by rw [List.size_toArray, ← hl]; exact h1) (by simpa using ew) ⟨rfl, fin⟩) hs
theorem slice_bounds (lo hi : Option Int) (n : Nat) : (sliceBounds lo hi none n).1 = ((HT.sIx n 0 lo : Nat) : Int) ∧ (sliceBounds lo hi none n).2.1 = ((HT.sIx n n hi : Nat) : Int) ∧ (sliceBounds lo hi none n).2.2 = 1 := by
  refine ⟨?_, ?_, rfl⟩
  · cases lo with
    | none => simp [sliceBounds, HT.sIx]
    | some i =>
      simp only [sliceBounds, HT.sIx, Option.getD_none, show (1 : Int) > 0 by decide, if_true]
      by_cases h : i < 0
      · simp only [h, if_true] <;> omega
      · simp only [h, if_false] <;> omega
  · cases hi with
    | none => simp [sliceBounds, HT.sIx]
    | some i =>
      simp only [sliceBounds, HT.sIx, Option.getD_none, show (1 : Int) > 0 by decide, if_true]
      by_cases h : i < 0
      · simp only [h, if_true] <;> omega
      · simp only [h, if_false] <;> omega
theorem slicePick_cut (its : List Value) (lo hi : Option Int) : slicePick its.toArray lo hi none = ((its.drop (HT.sIx its.length 0 lo)).take (HT.sIx its.length its.length hi - HT.sIx its.length 0 lo)).toArray := by
  obtain ⟨h1, h2, h3⟩ := slice_bounds lo hi its.toArray.size
  unfold slicePick
  rw [h1, h2, h3]
  simp only [sliceRange_one, pick_run, List.size_toArray] <;> rfl
def rSlL (K : PySem.W.Frag) : V → Option Int → Option Int → Hp → VK → Prop := fun x lo hi H Q => ∃ a xs, x = .ref a ∧ SqL K H a xs ∧ ∀ p, H p = none → Q (.ref p) (upd H p (.lst (cutV xs lo hi)))
theorem sl_list : SlR X (rSlL X.K) := by
  intro pins s σ H x v vl vu lo hi sl Q I rx hs pl pu h
  obtain ⟨a, xs, rfl, hx, q⟩ := h
  cases rx
  obtain ⟨its, r, ht, hz⟩ := I.list hx
  have hlen := r.length
  refine ⟨"list", _, slot_list_getitem.lookup, ht.isList.typeIs, ?_⟩
  refine wpAny_getItem_list_slice ht.isList hs pl pu .none (by simp) ?_ (by rw [List.size_toArray] <;> omega)
  rw [slicePick_cut, ← hlen]
  refine ⟨.ref s.heap.objs.size, _, I.laid (t' := s.toks) (o := .lst (cutV xs lo hi)) (fun b ob q => Heap.get?_push_of_some _ q) (Nat.le_refl _) ?_, rfl, q _ (I.hok.fresh (Nat.le_refl _))⟩
  exact ⟨Nat.le_trans (cutV_length xs lo hi) hz, _, 0, (r.drop (HT.sIx xs.length 0 lo)).take (HT.sIx xs.length xs.length hi - HT.sIx xs.length 0 lo), Heap.get?_push_size _ rfl⟩
def flatV : V → Bool
  | .non => true
  | .bl _ => true
  | .int _ => true
  | .str _ => true
  | _ => false
def eqV : V → V → Bool
  | .non, .non => true
  | .bl a, .bl b => a == b
  | .bl a, .int b => (if a then 1 else 0) == b
  | .int a, .bl b => a == (if b then 1 else 0)
  | .int a, .int b => a == b
  | .str a, .str b => a == b
  | _, _ => false
theorem eqAt_V {A : Around} {s : Shared} {y x : V} {u v : Value} (ry : RelV y u) (rx : RelV x v) (fy : flatV y = true) (fx : flatV x = true) : SeqAt.EqAt A s u v (eqV y x) := by
  cases y with
  | non =>
    cases ry
    cases x with
    | non => cases rx; exact SeqAt.EqAt.same _
    | bl b => cases rx; exact SeqAt.EqAt.none_bool b
    | int b => obtain ⟨t, rfl⟩ := rx; exact SeqAt.EqAt.none_int b t
    | str b => obtain ⟨t, rfl⟩ := rx; exact SeqAt.EqAt.none_str b t
    | _ => exact absurd (show false = true from fx) Bool.false_ne_true
  | bl a =>
    cases ry
    cases x with
    | non => cases rx; exact SeqAt.EqAt.bool_none a
    | bl b => cases rx; exact SeqAt.EqAt.bool_bool a b
    | int b => obtain ⟨t, rfl⟩ := rx; exact SeqAt.EqAt.bool_int a b t
    | str b => obtain ⟨t, rfl⟩ := rx; exact SeqAt.EqAt.bool_str a b t
    | _ => exact absurd (show false = true from fx) Bool.false_ne_true
  | int a =>
    obtain ⟨t', rfl⟩ := ry
    cases x with
    | non => cases rx; exact SeqAt.EqAt.int_none a t'
    | bl b => cases rx; exact SeqAt.EqAt.int_bool a t' b
    | int b => obtain ⟨t, rfl⟩ := rx; exact SeqAt.EqAt.int_int a t' b t
    | str b => obtain ⟨t, rfl⟩ := rx; exact SeqAt.EqAt.int_str a t' b t
    | _ => exact absurd (show false = true from fx) Bool.false_ne_true
  | str a =>
    obtain ⟨t', rfl⟩ := ry
    cases x with
    | non => cases rx; exact SeqAt.EqAt.str_none a t'
    | bl b => cases rx; exact SeqAt.EqAt.str_bool a t' b
    | int b => obtain ⟨t, rfl⟩ := rx; exact SeqAt.EqAt.str_int a t' b t
    | str b => obtain ⟨t, rfl⟩ := rx; exact SeqAt.EqAt.str_str a t' b t
    | _ => exact absurd (show false = true from fx) Bool.false_ne_true
  | _ => exact absurd (show false = true from fy) Bool.false_ne_true
def eqU (x : V) (u : Value) : Bool := match u with
  | .none => eqV .non x
  | .bool b => eqV (.bl b) x
  | .int i _ => eqV (.int i) x
  | .str z _ => eqV (.str z) x
  | _ => false
theorem eqU_of {x y : V} {u : Value} (r : RelV y u) (f : flatV y = true) : eqU x u = eqV y x := by
  cases y with
  | non => cases r; rfl
  | bl b => cases r; rfl
  | int i => obtain ⟨t, rfl⟩ := r; rfl
  | str z => obtain ⟨t, rfl⟩ := r; rfl
  | _ => exact absurd (show false = true from f) Bool.false_ne_true
theorem any_eqU {x : V} : ∀ {xs : List V} {us : List Value}, Vals xs us → xs.all flatV = true → us.any (eqU x) = xs.any fun y => eqV y x
  | _, _, .nil, _ => rfl
  | y :: xs, u :: us, .cons r t, f => by
    rw [List.all_cons, Bool.and_eq_true] at f
    rw [List.any_cons, List.any_cons, eqU_of r f.1, any_eqU t f.2]
theorem mem_eqAt {A : Around} {s : Shared} {x : V} {v : Value} (rx : RelV x v) (fx : flatV x = true) : ∀ {xs : List V} {us : List Value}, Vals xs us → xs.all flatV = true → ∀ u ∈ us, SeqAt.EqAt A s u v (eqU x u)
  | _, _, .nil, _ => fun u hu => by cases hu
  | y :: xs, u :: us, .cons r t, f => fun u' hu => by
    rw [List.all_cons, Bool.and_eq_true] at f
    rcases List.mem_cons.mp hu with rfl | hu
    · rw [eqU_of r f.1]; exact eqAt_V r rx f.1 fx
    · exact mem_eqAt rx fx t f.2 u' hu
def inV (x : V) (xs : List V) : Bool := xs.any fun y => eqV y x
def rIn (K : PySem.W.Frag) (neg : Bool) : R2 := fun x y H Q => ∃ p xs, y = .ref p ∧ (SqL K H p xs ∨ SqT K H p xs) ∧ flatV x = true ∧ xs.all flatV = true ∧ Q (.bl (if neg then !inV x xs else inV x xs)) H
theorem op_in_seq : OpR X (compareOp .In) (rIn X.K false) := by
  intro pins s σ H x y v u Q I rx ry h
  obtain ⟨p, xs, rfl, hq, fx, fs, q⟩ := h
  cases ry
  rcases hq with hq | hq
  · obtain ⟨its, r, pl, hz⟩ := I.list hq
    refine SeqAt.in_listAt (eqU x) pl.isList (fun w hw => mem_eqAt rx fx r fs w (by simpa using hw)) ⟨.bl _, H, I, rfl, ?_⟩
    rw [show its.toArray.any (eqU x) = its.any (eqU x) by simp, any_eqU r fs]
    exact q
  · obtain ⟨its, r, pl, hz⟩ := I.tuple hq
    refine SeqAt.in_tupleAt (eqU x) pl (fun w hw => mem_eqAt rx fx r fs w (by simpa using hw)) ⟨.bl _, H, I, rfl, ?_⟩
    rw [show its.toArray.any (eqU x) = its.any (eqU x) by simp, any_eqU r fs]
    exact q
theorem call_len_seq : CallR X (.builtin "len") (fun xs H Q => ∃ p ys, xs = [.ref p] ∧ (SqL X.K H p ys ∨ SqT X.K H p ys) ∧ Q (.int ys.length) H) := by
  intro pins s σ H xs us Q I r h
  obtain ⟨p, ys, rfl, hq, q⟩ := h
  obtain ⟨u, rfl, rx⟩ := vals1 r
  cases rx
  have hn := line63
  rcases hq with hq | hq
  · obtain ⟨its, r', pl, hz⟩ := I.list hq
    have hlen := r'.length
    exact Calls.call_len_list pl.isList (by simp only [List.size_toArray] <;> omega) ⟨.int ys.length, H, I.tok _, ⟨s.toks + 1, by rw [List.size_toArray, hlen]⟩, q⟩
  · obtain ⟨its, r', pl, hz⟩ := I.tuple hq
    have hlen := r'.length
    exact len_tuple pl (by simp only [List.size_toArray] <;> omega) ⟨.int ys.length, H, I.tok _, ⟨s.toks + 1, by rw [List.size_toArray, hlen]⟩, q⟩
def tyV (K : PySem.W.Frag) (T : String) (x : V) (H : Hp) : Prop := match x with
  | .str _ => T = "str"
  | .int _ => T = "int"
  | .ref p => (T = "list" ∧ ∃ xs, SqL K H p xs) ∨ (T = "tuple" ∧ ∃ o, K.lookup p = some o ∧ o.cls = .type "tuple" ∧ o.dict = none) ∨
      (T = "dict" ∧ ((∃ kvs, H p = some (.dK kvs)) ∨ ∃ kvs, H p = some (.dT kvs))) ∨ (T = "set" ∧ ∃ S n, H p = some (.set S n))
  | _ => False
theorem tyV_is {pins : List (Addr × Obj)} {σ : St} {H : Hp} {s : Shared} {T : String} {x : V} {v : Value} (I : Inv X pins σ H s) (r : RelV x v) (ty : tyV X.K T x H) :
    s.TypeIs v T ∧ ∀ a, v = .ref a → ∃ ob, s.heap.get? a = some ob ∧ ob.dict = none := by
  cases x with
  | str z =>
    obtain ⟨t, rfl⟩ := r
    cases (show T = "str" from ty)
    exact ⟨typeIs_str s z t, fun _ e => nomatch e⟩
  | int i =>
    obtain ⟨t, rfl⟩ := r
    cases (show T = "int" from ty)
    exact ⟨typeIs_int s i t, fun _ e => nomatch e⟩
  | ref p =>
    cases r
    rcases ty with ⟨rfl, xs, hq⟩ | ⟨rfl, o, hk, hc, hd⟩ | ⟨rfl, hk⟩ | ⟨rfl, S, n, hk⟩
    · obtain ⟨its, _, pl, _⟩ := I.list hq
      refine ⟨pl.isList.typeIs, fun a e => ?_⟩
      cases e
      obtain ⟨o, n, e, c, hd, _⟩ := pl
      exact ⟨o, e, hd⟩
    · refine ⟨⟨o, I.kIn p o hk, hc⟩, fun a e => ?_⟩
      cases e
      exact ⟨o, I.kIn _ o hk, hd⟩
    · have z : ∃ o, s.heap.get? p = some o ∧ o.ExactDict := by
        rcases hk with ⟨kvs, hk⟩ | ⟨kvs, hk⟩
        · obtain ⟨_, _, _, _, o, _, _, e, ex, _⟩ := I.hok p _ hk
          exact ⟨o, e, ex⟩
        · obtain ⟨_, _, _, _, o, _, _, e, ex, _⟩ := I.hok p _ hk
          exact ⟨o, e, ex⟩
      obtain ⟨o, e, ex⟩ := z
      refine ⟨⟨o, e, ex.1⟩, fun a e2 => ?_⟩
      cases e2
      exact ⟨o, e, ex.2.1⟩
    · obtain ⟨o, _, _, _, e, ex, _⟩ := I.hok p _ hk
      refine ⟨⟨o, e, ex.1⟩, fun a e2 => ?_⟩
      cases e2
      exact ⟨o, e, ex.2.1⟩
  | _ => exact False.elim ty
def tBM (K : PySem.W.Frag) (T : String) (r : V → List V → Hp → VK → Prop) (to : TE) (t : TA) : TE := fun σ H Q => to σ H fun x H1 => tyV K T x H1 ∧ t σ H1 fun xs H2 => r x xs H2 Q
variable {o e : Expr} {es : List Expr} {to : TE} {t : TA} {name : Str} {apos cpos : Pos} {T id : String} {r : V → List V → Hp → VK → Prop}
theorem pe_bm (pa : PlainAttrs T) (slot : Slot T name id) (hty : typeOf (.builtin id) = pure (.type "method_descriptor")) (hm : MtR X id r) (ho : PE X o to) (ha : PA X (e :: es) t)
    (hbase : attributeBase o name X.env (eval o X.env) = eval o X.env := by rfl)
    (hfew : ((backTo cpos (starEach (e :: es) X.env)).all (fun x => !x.1) && (backToKw cpos (keywordEach [] X.env)).all (fun x => x.1.isSome)
      && decide ((e :: es).length + ([] : List Keyword).length + (if ([] : List Keyword).isEmpty then 0 else 1) < 30)) = true := by rfl)
    (hline : (apos.endLine == cpos.line) = true := by rfl) (hs : starEach (e :: es) X.env = (false, eval e X.env) :: starEach es X.env := by rfl) (hplain : (backTo cpos (starEach es X.env)).any (·.1) = false := by rfl) :
    PE X (.Call (.Attribute o name apos) (e :: es) [] cpos) (tBM X.K T r to t) := by
  intro pins s σ H Q I h
  refine wpAny_Call_method_late hbase hfew hline rfl (thn (ho pins s σ H _ I h) fun v s1 ⟨x, H1, I1, r1, ty, q1⟩ => ?_)
  obtain ⟨h1, h2⟩ := tyV_is I1 r1 ty
  refine ⟨T, id, pa, slot, hty, h1, h2, ?_⟩
  have hA := ha cpos pins s1 σ H1 _ I1 q1
  rw [hs] at hA ⊢
  refine Calls.callWith_builtin (by show (false || (backTo cpos (starEach es X.env)).any (·.1)) = false; rw [hplain] <;> rfl) (Calls.evalArgs_plain ?_)
  exact thn hA fun us s2 ⟨vs, H2, I2, r2, q2⟩ => hm pins s2 σ H2 x vs v us Q I2 r1 r2 q2
end
end L2
namespace L2
open PySem PySem.Spec PyProof.Rows
def MtM (X : Cx) (id : String) (r : V → List V → Hp → VK → Prop) : Prop :=
  ∀ (pins : List (Addr × Obj)) (s : Shared) (σ : St) (H : Hp) (x : V) (xs : List V) (v : Value) (us : List Value) (Q : VK), Inv X pins σ H s → RelV x v → Vals xs us → r x xs H Q →
    wpAny (model X.prog X.w) X.A (call (.builtin id) (v :: us)) (EP X pins σ Q) X.xe s
theorem Vals.one : ∀ {x : V} {us : List Value}, Vals [x] us → ∃ u, us = [u] ∧ RelV x u
  | _, _, .cons r .nil => ⟨_, rfl, r⟩
section
variable {X : Cx} {pins : List (Addr × Obj)} {σ : St} {H : Hp} {s : Shared} {l b : Addr} {xs ys zs : List V}
theorem Inv.lset {its its' : List Value} {n : Nat} {f : Array Value → Array Value} {t' : Nat} (I : Inv X pins σ H s) (hH : H l = some (.lst xs))
    (e : s.heap.get? l = some { cls := .type "list", data := .seq its.toArray n }) (hf : f its.toArray = its'.toArray) (hv : Vals ys its') (hz : ys.length ≤ sizeLine) :
    Inv X pins σ (upd H l (.lst ys)) { s with heap := s.heap.update l (Obj.mapSeq f), toks := t' } := by
  have q := PySem.IsL.update e f
  rw [hf] at q
  refine I.write (x := l) (e := l) (by rw [hH]; exact trivial) (.inl rfl) (fun b' u hb hu => (Heap.get?_update_other s.heap (Obj.mapSeq f) (Ne.symm hb)).trans hu) ⟨_, q⟩ ?_
  exact ⟨hz, its', _, hv, q⟩
theorem Inv.lnew {its : List Value} {t' : Nat} (I : Inv X pins σ H s) (hv : Vals ys its) (hz : ys.length ≤ sizeLine) :
    Inv X pins σ (upd H s.heap.objs.size (.lst ys)) { s with heap := s.heap.push { cls := .type "list", data := .seq its.toArray }, toks := t' } :=
  I.laid (fun _ _ q => Heap.get?_push_of_some _ q) (Nat.le_refl _) ⟨hz, its, 0, hv, Heap.get?_push_size _ rfl⟩
theorem Inv.fresh (I : Inv X pins σ H s) : H s.heap.objs.size = none := I.hok.fresh (Nat.le_refl _)
theorem Inv.lstM (I : Inv X pins σ H s) (hH : H l = some (.lst xs)) : xs.length ≤ sizeLine ∧ ∃ (its : List Value) (n : Nat), Vals xs its ∧ xs.length = its.length ∧ s.heap.get? l = some { cls := .type "list", data := .seq its.toArray n } := by
  obtain ⟨z, its, n, r, e⟩ := I.hok l _ hH
  exact ⟨z, its, n, r, r.length, e⟩
theorem notLongL {n : Nat} (h : n ≤ sizeLine) : Builtin.List.listTooLong n = false := by
  unfold Builtin.List.listTooLong
  exact decide_eq_false (by omega)
end
section
variable {X : Cx}
def rAppend : V → List V → Hp → VK → Prop := fun x vs H Q => ∃ l xs y, x = .ref l ∧ vs = [y] ∧ H l = some (.lst xs) ∧ xs.length < sizeLine ∧ Q .non (upd H l (.lst (xs ++ [y])))
theorem mt_append : MtM X "list.append" rAppend := by
  intro pins s σ H x vs v us Q I rx rv h
  obtain ⟨l, xs, y, rfl, rfl, hH, hz, q⟩ := h
  cases rx
  obtain ⟨u, rfl, ru⟩ := rv.one
  obtain ⟨z, its, n, r, hl, e⟩ := I.lstM hH
  refine call_meets F.slot_list_append ⟨_, e, rfl⟩ F.entry_list_append (F.args_list_append_2 _ _) (PySem.list_append l its.toArray n u (by rw [List.size_toArray]; omega)) ⟨e, ?_⟩
  refine ⟨.non, _, I.lset (its' := its ++ [u]) hH e (by simp) (r.append (.cons ru .nil)) ?_, rfl, q⟩
  rw [List.length_append, List.length_singleton]
  omega
def rExtend : V → List V → Hp → VK → Prop := fun x vs H Q => ∃ l b xs zs, x = .ref l ∧ vs = [.ref b] ∧ H l = some (.lst xs) ∧ H b = some (.lst zs) ∧ xs.length + zs.length ≤ sizeLine ∧ Q .non (upd H l (.lst (xs ++ zs)))
theorem mt_extend : MtM X "list.extend" rExtend := by
  intro pins s σ H x vs v us Q I rx rv h
  obtain ⟨l, b, xs, zs, rfl, rfl, hH, hB, hz, q⟩ := h
  cases rx
  obtain ⟨u, rfl, ru⟩ := rv.one
  cases ru
  obtain ⟨z, its, n, r, hl, e⟩ := I.lstM hH
  obtain ⟨z2, its2, n2, r2, hl2, e2⟩ := I.lstM hB
  have hsz : its.toArray.size + its2.toArray.size ≤ sizeLine := by rw [List.size_toArray, List.size_toArray]; omega
  have hlong : ¬ (!its.toArray.isEmpty && Builtin.List.listTooLong (its.toArray.size + its2.toArray.size)) = true := by
    rw [notLongL hsz, Bool.and_false]
    exact Bool.false_ne_true
  refine call_meets F.slot_list_extend ⟨_, e, rfl⟩ F.entry_list_extend (F.args_list_extend_2 _ _)
    (AutoSeq1.list_extend_list_list_0 l its.toArray n b its2.toArray n2 hlong (by rw [List.size_toArray]; omega) (by omega)) ⟨e, e2, ?_⟩
  refine ⟨.non, _, I.lset (its' := its ++ its2) hH e (by simp) (r.append r2) ?_, rfl, q⟩
  rw [List.length_append]
  omega
def rCat : R2 := fun x y H Q => ∃ l b xs zs, x = .ref l ∧ y = .ref b ∧ H l = some (.lst xs) ∧ H b = some (.lst zs) ∧ xs.length + zs.length ≤ sizeLine ∧ ∀ p, H p = none → Q (.ref p) (upd H p (.lst (xs ++ zs)))
theorem op_cat : OpR X (binaryOp .Add) rCat := by
  intro pins s σ H x y v u Q I rx ry h
  obtain ⟨l, b, xs, zs, rfl, rfl, hH, hB, hz, q⟩ := h
  cases rx
  cases ry
  obtain ⟨z, its, n, r, hl, e⟩ := I.lstM hH
  obtain ⟨z2, its2, n2, r2, hl2, e2⟩ := I.lstM hB
  refine PySem.P.add_list e e2 ?_ (by rw [List.size_toArray, List.size_toArray]; omega)
  have ea : its.toArray ++ its2.toArray = (its ++ its2).toArray := by simp
  rw [ea]
  exact ⟨.ref _, _, I.lnew (t' := s.toks) (r.append r2) (by rw [List.length_append]; omega), rfl, q _ I.fresh⟩
end
section
variable {prog : Program} {w : World} {A : Around} {E : Value → Shared → Prop} {s : Shared}
set_option maxRecDepth 100000 in
end
section
variable {X : Cx}
end
end L2
namespace L2
open PySem PySem.Spec PyProof.Rows
section
variable {prog : Program} {w : World} {A : Around} {E : Value → Shared → Prop} {s : Shared} {l : Addr} {its : List Value} {ns : List Int} {Q : Value → Shared → Prop}
end
section
variable {X : Cx}
end
section
variable {X : Cx}
end
section
variable {X : Cx}
end
section
variable {X : Cx}
end
mutual
inductive Dp (K : PySem.W.Frag) (H : Hp) : V → PyData → Prop
  | non : Dp K H .non .none
  | bl (b : Bool) : Dp K H (.bl b) (.bool b)
  | int (i : Int) : Dp K H (.int i) (.int i)
  | str (x : Str) : Dp K H (.str x) (.str x)
  | lst {a : Addr} {xs : List V} {ds : List PyData} : SqL K H a xs → DpAll K H xs ds → Dp K H (.ref a) (.list ds)
  | tup {a : Addr} {xs : List V} {ds : List PyData} : SqT K H a xs → DpAll K H xs ds → Dp K H (.ref a) (.tuple ds)
inductive DpAll (K : PySem.W.Frag) (H : Hp) : List V → List PyData → Prop
  | nil : DpAll K H [] []
  | cons {v : V} {vs : List V} {d : PyData} {ds : List PyData} : Dp K H v d → DpAll K H vs ds → DpAll K H (v :: vs) (d :: ds)
end
section
variable {X : Cx} {pins : List (Addr × Obj)} {σ : St} {H : Hp} {s : Shared}
mutual
theorem Dp.reads (I : Inv X pins σ H s) : ∀ (d : PyData) (v : V) (u : Value), Dp X.K H v d → RelV v u → ∃ as, Reads s.heap u d as
  | .none, _, _, h, r => by
    cases h
    cases r
    exact ⟨_, Reads.none⟩
  | .bool b, _, _, h, r => by
    cases h
    cases r
    exact ⟨_, Reads.bool b⟩
  | .int i, _, _, h, r => by
    cases h
    obtain ⟨t, rfl⟩ := r
    exact ⟨_, Reads.int i t⟩
  | .str x, _, _, h, r => by
    cases h
    obtain ⟨t, rfl⟩ := r
    exact ⟨_, Reads.str x t⟩
  | .list ds, _, _, h, r => by
    cases h with
    | lst hs ha =>
      cases r
      obtain ⟨its, rv, ⟨o, n, ho, hc, _, hd⟩, _⟩ := I.list hs
      obtain ⟨as, hr⟩ := Dp.readsAll I ds _ its ha rv
      exact ⟨_, Reads.list ho hc hd hr⟩
  | .tuple ds, _, _, h, r => by
    cases h with
    | tup hs ha =>
      cases r
      obtain ⟨its, rv, ⟨o, ho, hc, n, hd⟩, _⟩ := I.tuple hs
      obtain ⟨as, hr⟩ := Dp.readsAll I ds _ its ha rv
      exact ⟨_, Reads.tuple ho hc hd hr⟩
  | .dict _, _, _, h, _ => by cases h
theorem Dp.readsAll (I : Inv X pins σ H s) : ∀ (ds : List PyData) (vs : List V) (us : List Value), DpAll X.K H vs ds → Vals vs us → ∃ as, ReadsAll s.heap us ds as
  | [], _, _, h, r => by
    cases h
    cases r
    exact ⟨_, ReadsAll.nil⟩
  | d :: ds, _, _, h, r => by
    cases h with
    | cons h1 h2 =>
      cases r with
      | cons r1 r2 =>
        obtain ⟨as, q1⟩ := Dp.reads I d _ _ h1 r1
        obtain ⟨bs, q2⟩ := Dp.readsAll I ds _ _ h2 r2
        exact ⟨_, ReadsAll.cons q1 q2⟩
end
end
section
variable {X : Cx}
def rEqD (K : PySem.W.Frag) : R2 := fun x y H Q => ∃ d e, Dp K H x d ∧ Dp K H y e ∧ SeqAt.shaped d = true ∧ SeqAt.shaped e = true ∧ Q (.bl (PyData.eqv d e)) H
theorem op_eqD (hu : X.A.units + 64 < cLine) : OpR X (compareOp .Eq) (rEqD X.K) := by
  intro pins s σ H x y v u Q I rx ry h
  obtain ⟨d, e, hd, he, sd, se, q⟩ := h
  obtain ⟨as, r1⟩ := Dp.reads I d x v hd rx
  obtain ⟨bs, r2⟩ := Dp.reads I e y u he ry
  exact SeqAt.compareEq_shaped r1 r2 sd se hu ⟨.bl _, H, I, rfl, q⟩
end
end L2
namespace L2
open PySem PySem.Spec PyProof.Rows
abbrev CellAt (h : Heap) (c : Addr) (v : Option Value) : Prop := h.IsCell c v
def relS (scope sc : Scope) : Scope :=
  { scope with names := scope.names.map fun (n, k) => if (k == .free && sc.kind == .function && sc.names.lookup n == some .cell) then (n, .cell) else (n, k) }
def cloFrom (cells : List (Str × Addr)) : List (Str × NameKind) → List (Str × Addr) → List (Str × Addr)
  | [], acc => acc
  | (n, k) :: r, acc => if k == .free then cloFrom cells r ((n, (cells.lookup n).getD 0) :: acc) else cloFrom cells r acc
theorem closure_loop (env : Env) (f : Str × NameKind → List (Str × Addr) → Sem (ForInStep (List (Str × Addr))))
    (hf : ∀ n k c, f (n, k) c = if k == .free then (do let a ← cellOf env n; pure (.yield ((n, a) :: c))) else pure (.yield c)) :
    ∀ (names : List (Str × NameKind)) (acc : List (Str × Addr)), (∀ y ∈ names, y.2 = .free → ∃ c, env.cells.lookup y.1 = some c) → forIn names acc f = pure (cloFrom env.cells names acc)
  | [], acc, _ => by rw [List.forIn_nil]; rfl
  | (n, k) :: r, acc, h => by
    rw [List.forIn_cons, hf]
    have ih := fun acc => closure_loop env f hf r acc fun y hy => h y (List.mem_cons_of_mem _ hy)
    unfold cloFrom
    by_cases hk : (k == NameKind.free) = true
    · rw [if_pos hk, if_pos hk]
      obtain ⟨c, hc⟩ := h (n, k) List.mem_cons_self (by simpa using hk)
      have e : cellOf env n = pure c := by unfold cellOf; rw [hc]
      rw [e]
      have e2 : (env.cells.lookup n).getD 0 = c := by rw [hc]; rfl
      rw [e2]
      exact ih _
    · rw [if_neg hk, if_neg hk]
      exact ih _
theorem closure_ok {scope : Scope} {env : Env} (h : ∀ y ∈ scope.names, y.2 = .free → ∃ c, env.cells.lookup y.1 = some c) : closureFor scope env = pure (cloFrom env.cells scope.names []) := by
  simp only [closureFor]
  rw [closure_loop env _ (fun n k c => rfl) scope.names [] h]
  rfl
theorem mem_lookup {α : Type} : ∀ {l : List (Str × α)} {n : Str} {c : α}, (n, c) ∈ l → ∃ c', l.lookup n = some c'
  | (k, v) :: r, n, c, h => by
    rw [List.lookup_cons]
    cases hb : n == k with
    | true => exact ⟨_, rfl⟩
    | false =>
      rcases List.mem_cons.mp h with e | h
      · cases e; simp at hb
      · exact mem_lookup h
theorem cloFrom_mem {cells : List (Str × Addr)} : ∀ {names : List (Str × NameKind)} {acc : List (Str × Addr)} {n : Str} {c : Addr}, (n, c) ∈ cloFrom cells names acc → (n, c) ∈ acc ∨ ((n, .free) ∈ names ∧ c = (cells.lookup n).getD 0)
  | [], _, _, _, h => .inl h
  | (m, k) :: r, acc, n, c, h => by
    unfold cloFrom at h
    split at h
    · rename_i hk
      have hk : k = .free := by simpa using hk
      rcases cloFrom_mem h with h | ⟨h1, h2⟩
      · rcases List.mem_cons.mp h with e | h
        · cases e; exact .inr ⟨hk ▸ List.mem_cons_self, rfl⟩
        · exact .inl h
      · exact .inr ⟨List.mem_cons_of_mem _ h1, h2⟩
    · rcases cloFrom_mem h with h | ⟨h1, h2⟩
      · exact .inl h
      · exact .inr ⟨List.mem_cons_of_mem _ h1, h2⟩
theorem cloFrom_acc {cells : List (Str × Addr)} : ∀ {names : List (Str × NameKind)} {acc : List (Str × Addr)} {p : Str × Addr}, p ∈ acc → p ∈ cloFrom cells names acc
  | [], _, _, h => h
  | (m, k) :: r, acc, p, h => by
    unfold cloFrom
    split
    · exact cloFrom_acc (List.mem_cons_of_mem _ h)
    · exact cloFrom_acc h
theorem cloFrom_has {cells : List (Str × Addr)} : ∀ {names : List (Str × NameKind)} {acc : List (Str × Addr)} {n : Str}, (n, .free) ∈ names → (n, (cells.lookup n).getD 0) ∈ cloFrom cells names acc
  | (m, k) :: r, acc, n, h => by
    unfold cloFrom
    rcases List.mem_cons.mp h with e | h
    · cases e
      exact cloFrom_acc List.mem_cons_self
    · split
      · exact cloFrom_has h
      · exact cloFrom_has h
theorem cells_mem : ∀ {names : List (Str × NameKind)} {h : Heap} {acc : List (Str × Addr)} {x : Str} {c : Addr}, (x, c) ∈ cellsFrom h.objs.size names acc →
    (x, c) ∈ acc ∨ ((x, .cell) ∈ names ∧ h.objs.size ≤ c ∧ CellAt (pushCells h names) c none)
  | [], _, _, _, _, h => .inl h
  | (n, k) :: r, h, acc, x, c, hm => by
    unfold cellsFrom at hm
    unfold pushCells
    split at hm
    · rename_i hk
      rw [if_pos hk]
      have hk : k = .cell := by simpa using hk
      rw [← Heap.size_push h { cls := .type "cell", data := .cell none }] at hm
      rcases cells_mem hm with hm | ⟨h1, h2, h3⟩
      · rcases List.mem_cons.mp hm with e | hm
        · cases e
          exact .inr ⟨hk ▸ List.mem_cons_self, Nat.le_refl _, _, pushCells_keeps r _ _ _ (Heap.get?_push_size _ rfl), rfl⟩
        · exact .inl hm
      · rw [Heap.size_push] at h2
        exact .inr ⟨List.mem_cons_of_mem _ h1, Nat.le_of_succ_le h2, h3⟩
    · rename_i hk
      rw [if_neg hk]
      rcases cells_mem hm with hm | ⟨h1, h2, h3⟩
      · exact .inl hm
      · exact .inr ⟨List.mem_cons_of_mem _ h1, h2, h3⟩
theorem cells_acc : ∀ {names : List (Str × NameKind)} {n : Nat} {acc : List (Str × Addr)} {p : Str × Addr}, p ∈ acc → p ∈ cellsFrom n names acc
  | [], _, _, _, h => h
  | (m, k) :: r, n, acc, p, h => by
    unfold cellsFrom
    split
    · exact cells_acc (List.mem_cons_of_mem _ h)
    · exact cells_acc h
theorem cells_has : ∀ {names : List (Str × NameKind)} {n : Nat} {acc : List (Str × Addr)} {x : Str}, (x, .cell) ∈ names → ∃ c, (x, c) ∈ cellsFrom n names acc
  | (m, k) :: r, n, acc, x, h => by
    unfold cellsFrom
    rcases List.mem_cons.mp h with e | h
    · cases e
      exact ⟨n, cells_acc List.mem_cons_self⟩
    · split
      · exact cells_has h
      · exact cells_has h
theorem cells_inj : ∀ {names : List (Str × NameKind)} {h : Heap} {acc : List (Str × Addr)} {x y : Str} {c : Addr}, (∀ p ∈ acc, p.2 < h.objs.size) → (∀ x y c, (x, c) ∈ acc → (y, c) ∈ acc → x = y) →
    (x, c) ∈ cellsFrom h.objs.size names acc → (y, c) ∈ cellsFrom h.objs.size names acc → x = y
  | [], _, _, _, _, _, _, hi, h1, h2 => hi _ _ _ h1 h2
  | (n, k) :: r, h, acc, x, y, c, hl, hi, h1, h2 => by
    unfold cellsFrom at h1 h2
    split at h1
    · rename_i hk
      rw [if_pos hk] at h2
      rw [← Heap.size_push h { cls := .type "cell", data := .cell none }] at h1 h2
      refine cells_inj (h := h.push _) (fun p hp => ?_) (fun x y c a b => ?_) h1 h2
      · rw [Heap.size_push]
        rcases List.mem_cons.mp hp with rfl | hp
        · exact Nat.lt_succ_self _
        · exact Nat.lt_succ_of_lt (hl p hp)
      · rcases List.mem_cons.mp a with e | a <;> rcases List.mem_cons.mp b with e' | b
        · cases e; cases e'; rfl
        · cases e; exact absurd (hl _ b) (Nat.lt_irrefl _)
        · cases e'; exact absurd (hl _ a) (Nat.lt_irrefl _)
        · exact hi _ _ _ a b
    · rename_i hk
      rw [if_neg hk] at h2
      exact cells_inj hl hi h1 h2
theorem newEnv_comp {M : Model} {A : Around} {E : Value → Shared → Prop} {s : Shared} {scope : Scope} {globals : Addr} {closure : List (Str × Addr)} {qual : Str} {func : Option Addr} {code : Value} {around : Env} {builtins : Addr} {Q : Env → Shared → Prop}
    (h : Q (newEnv scope s.heap.objs.size globals (cellsFrom (s.heap.objs.size + 1) scope.names closure) qual func code (some around) builtins)
      { s with heap := pushCells (s.heap.push { cls := .type "dict", data := .dict #[] }) scope.names }) :
    wpAny M A (newFunctionEnv scope globals closure [] qual func code (some around) builtins) Q E s := by
  simp only [newFunctionEnv, Option.isSome_some, if_true]
  refine wpAny_bind (wpAny_alloc ?_)
  refine wpAny_bind (wpAny_layCells _ (fun n k c => rfl) scope.names closure _ _ ?_)
  rw [show ({ s with heap := s.heap.push { cls := .type "dict", data := .dict #[] } } : Shared).heap.objs.size = s.heap.objs.size + 1 from Heap.size_push ..]
  rw [List.forIn_nil]
  exact wpAny_bind (wpAny_pure (wpAny_pure h))
theorem lookup_relS {sc : Scope} : ∀ {names : List (Str × NameKind)} {x : Str} {k : NameKind},
    (names.map fun (n, k) => if (k == NameKind.free && sc.kind == .function && sc.names.lookup n == some .cell) then (n, NameKind.cell) else (n, k)).lookup x = some k →
    ∃ k', names.lookup x = some k' ∧ (k = k' ∨ (k' = .free ∧ k = .cell))
  | [], _, _, h => by simp at h
  | (n, k₀) :: r, x, k, h => by
    have ih := @lookup_relS sc r x k
    have h' : List.lookup x ((if (k₀ == NameKind.free && sc.kind == .function && sc.names.lookup n == some .cell) = true then (n, NameKind.cell) else (n, k₀)) :: (r.map _)) = some k := h
    cases hx : x == n with
    | true =>
      simp only [List.lookup_cons, hx]
      by_cases hc : (k₀ == NameKind.free && sc.kind == .function && sc.names.lookup n == some .cell) = true
      · rw [if_pos hc] at h'
        simp only [List.lookup_cons, hx] at h'
        cases h'
        simp only [Bool.and_eq_true, beq_iff_eq] at hc
        exact ⟨k₀, rfl, .inr ⟨hc.1.1, rfl⟩⟩
      · rw [if_neg hc] at h'
        simp only [List.lookup_cons, hx] at h'
        cases h'
        exact ⟨_, rfl, .inl rfl⟩
    | false =>
      simp only [List.lookup_cons, hx]
      by_cases hc : (k₀ == NameKind.free && sc.kind == .function && sc.names.lookup n == some .cell) = true
      · rw [if_pos hc] at h'
        simp only [List.lookup_cons, hx] at h'
        exact ih h'
      · rw [if_neg hc] at h'
        simp only [List.lookup_cons, hx] at h'
        exact ih h'
structure BlkOk (N : List Str) (sc scope : Scope) (own : List (Str × Nat)) : Prop where
  kind : scope.kind = .function
  uniq : ∀ y ∈ scope.names, scope.names.lookup y.1 = some y.2
  ix : ∀ p ∈ own, N[p.2]? = some p.1
  free : ∀ y ∈ scope.names, y.2 = .free → sc.names.lookup y.1 = some .cell ∨ sc.names.lookup y.1 = some .free
  own : ∀ y ∈ scope.names, y.2 = .local ∨ y.2 = .cell → y.1 ∈ own.map (·.1) ∨ y.1 ∉ N
def wipe (σ : St) : List Nat → St
  | [] => σ
  | v :: vs => (wipe σ vs).set v none
theorem wipe_length (σ : St) : ∀ vs : List Nat, (wipe σ vs).length = σ.length
  | [] => rfl
  | v :: vs => by unfold wipe; rw [List.length_set, wipe_length σ vs]
theorem wipe_some {σ : St} {i : Nat} {x : V} : ∀ {vs : List Nat}, (wipe σ vs)[i]? = some (some x) → σ[i]? = some (some x) ∧ i ∉ vs
  | [], h => ⟨h, by simp⟩
  | v :: vs, h => by
    unfold wipe at h
    by_cases hi : v = i
    · subst hi
      by_cases hv : v < (wipe σ vs).length
      · rw [List.getElem?_set_self hv] at h; cases h
      · rw [List.getElem?_eq_none (by simpa using hv)] at h; cases h
    · rw [List.getElem?_set_ne hi] at h
      obtain ⟨h1, h2⟩ := wipe_some h
      exact ⟨h1, by simp only [List.mem_cons, not_or]; exact ⟨fun e => hi e.symm, h2⟩⟩
abbrev Cx.blk (X : Cx) (s : Shared) (H : Hp) (scope : Scope) (cenv : Env) (fp : List Addr) : Cx := { X with s_0 := s, H_0 := H, env := cenv, outer := X.stack, ex := fp, fn := fun x => scope.names.lookup x == some .cell, pn := [], xe := fun _ _ => False }
section
variable {X : Cx} {pins : List (Addr × Obj)} {σ : St} {H : Hp} {s : Shared}
theorem block_start {scope : Scope} {own : List (Str × Nat)} {fp : List Addr} (I : Inv X pins σ H s) (ok : BlkOk X.N X.env.scope scope own) (hN : X.N.Nodup) (hfp : ∀ b ∈ fp, FpOk X pins H b ∧ b < s.heap.objs.size) :
    Inv (X.blk s H scope (compEnvC scope (cellsFrom (s.heap.objs.size + 1) scope.names (cloFrom X.env.cells scope.names [])) s.heap.objs.size X.env) fp) [] (wipe σ (own.map (·.2))) H { s with heap := pushCells (s.heap.push { cls := .type "dict", data := .dict #[] }) scope.names } := by
  have hfree : ∀ y ∈ scope.names, y.2 = .free → ∃ c, X.env.cells.lookup y.1 = some c := fun y hy e => by
    rcases ok.free y hy e with k | k
    · exact I.ok.has _ (.inl k)
    · exact I.ok.has _ (.inr k)
  generalize hcenv : compEnvC scope (cellsFrom (s.heap.objs.size + 1) scope.names (cloFrom X.env.cells scope.names [])) s.heap.objs.size X.env = cenv
  have kp : ∀ b o, s.heap.get? b = some o → (pushCells (s.heap.push { cls := .type "dict", data := .dict #[] }) scope.names).get? b = some o := fun b o e => pushCells_keeps _ _ _ _ (Heap.get?_push_of_some _ e)
  have hL : cenv.locals = s.heap.objs.size := by rw [← hcenv]; rfl
  have hcl : cenv.cells = cellsFrom (s.heap.objs.size + 1) scope.names (cloFrom X.env.cells scope.names []) := by rw [← hcenv]; rfl
  have hsc : cenv.scope = relS scope X.env.scope := by rw [← hcenv]; rfl
  rw [← Heap.size_push s.heap { cls := .type "dict", data := .dict #[] }] at hcl
  have cm : ∀ {y c}, (y, c) ∈ cloFrom X.env.cells scope.names [] → X.env.cells.lookup y = some c ∧ c < s.heap.objs.size := fun {y c} hm => by
    rcases cloFrom_mem hm with hm | ⟨h1, rfl⟩
    · cases hm
    · obtain ⟨c, hc⟩ := hfree _ h1 rfl
      rw [hc]
      obtain ⟨w, z⟩ := I.cell _ _ hc
      exact ⟨rfl, z.lt⟩
  have mem : ∀ {y c}, cenv.cells.lookup y = some c → (X.env.cells.lookup y = some c ∧ c < s.heap.objs.size) ∨ (s.heap.objs.size + 1 ≤ c ∧ CellAt (pushCells (s.heap.push { cls := .type "dict", data := .dict #[] }) scope.names) c none) := fun {y c} e => by
    rw [hcl] at e
    rcases cells_mem (PySem.mem_of_lookup e) with hm | ⟨_, h2, h3⟩
    · exact .inl (cm hm)
    · rw [Heap.size_push] at h2; exact .inr ⟨h2, h3⟩
  have look : ∀ {y}, scope.names.lookup y = some .free → ∃ c, cenv.cells.lookup y = some c ∧ X.env.cells.lookup y = some c := fun {y} hl => by
    have hy : (y, NameKind.free) ∈ scope.names := PySem.mem_of_lookup hl
    obtain ⟨c', e'⟩ := mem_lookup (cells_acc (names := scope.names) (n := (s.heap.push { cls := .type "dict", data := .dict #[] }).objs.size) (cloFrom_has (cells := X.env.cells) (acc := []) hy))
    rw [← hcl] at e'
    refine ⟨c', e', ?_⟩
    rw [hcl] at e'
    rcases cells_mem (PySem.mem_of_lookup e') with hm | ⟨h1, _, _⟩
    · exact (cm hm).1
    · have := ok.uniq _ h1
      rw [hl] at this; cases this
  have okB : (X.blk s H scope cenv fp).Ok := by
    refine ⟨I.ok.mod, by show cenv.scope.kind = _; rw [hsc]; exact ok.kind, by show cenv.globals = _; rw [← hcenv]; exact I.ok.glob, by show cenv.builtins = _; rw [← hcenv]; exact I.ok.blt, by show s.heap.objs.size ≤ cenv.locals; rw [hL]; exact Nat.le_refl _,
      fun y z c e1 e2 => ?_, fun y hy => ?_, fun y c z e => ?_, I.ok.hd, I.ok.frames, .inl rfl, fun b hb => ⟨?_, fun y c e z => ?_⟩, I.bs, Nat.le_trans I.ok.bsz I.sz, fun b o e hb => ?_, fun b hb z => ?_, I.stack, I.stkFree⟩
    · have e1 : cenv.cells.lookup y = some c := e1
      have e2 : cenv.cells.lookup z = some c := e2
      rw [hcl] at e1 e2
      refine cells_inj (fun p hp => ?_) (fun y z c a b => I.ok.inj y z c (cm a).1 (cm b).1) (PySem.mem_of_lookup e1) (PySem.mem_of_lookup e2)
      rw [Heap.size_push]
      exact Nat.lt_succ_of_lt (cm (y := p.1) (c := p.2) hp).2
    · show ∃ c, cenv.cells.lookup y = some c
      have key : ∀ k, cenv.kindOf y = some k → (k = .cell ∨ k = .free) → ∃ c, cenv.cells.lookup y = some c := fun k hk hk' => by
        unfold Env.kindOf at hk
        rw [hsc] at hk
        obtain ⟨k', e, r⟩ := lookup_relS hk
        have : k' = .cell ∨ k' = .free := by
          rcases r with rfl | ⟨rfl, _⟩
          · exact hk'
          · exact .inr rfl
        rcases this with rfl | rfl
        · obtain ⟨c, hm⟩ := cells_has (n := (s.heap.push { cls := .type "dict", data := .dict #[] }).objs.size) (acc := cloFrom X.env.cells scope.names []) (PySem.mem_of_lookup e)
          obtain ⟨c', e'⟩ := mem_lookup hm
          exact ⟨c', by rw [hcl]; exact e'⟩
        · obtain ⟨c, h1, _⟩ := look e
          exact ⟨c, h1⟩
      rcases hy with hy | hy
      · exact key _ hy (.inl rfl)
      · exact key _ hy (.inr rfl)
    · have z : (scope.names.lookup y == some NameKind.cell) = true := z
      have z : scope.names.lookup y = some .cell := by simpa using z
      have e : cenv.cells.lookup y = some c := e
      rw [hcl] at e
      rcases cells_mem (PySem.mem_of_lookup e) with hm | ⟨_, h2, _⟩
      · rcases cloFrom_mem hm with hm | ⟨h1, _⟩
        · cases hm
        · have q := ok.uniq _ h1
          rw [z] at q; cases q
      · rw [Heap.size_push] at h2
        exact Nat.le_of_succ_le h2
    · show b ≠ cenv.locals
      rw [hL]; exact Nat.ne_of_lt (hfp b hb).2
    · have e : cenv.cells.lookup y = some c := e
      rcases mem e with ⟨h1, _⟩ | ⟨h1, _⟩
      · exact (hfp b hb).1.2.2.2.2.1 y c h1 z
      · have h2 : s.heap.objs.size + 1 ≤ b := by rw [← z]; exact h1
        exact absurd (Nat.lt_of_lt_of_le (hfp b hb).2 (Nat.le_of_succ_le h2)) (Nat.lt_irrefl _)
    · rcases (hfp b hb).1.2.2.2.1 with z | z
      · exact I.ok.noex b o e z
      · exact absurd (Nat.lt_of_lt_of_le (Heap.lt_size e) (Nat.le_trans I.ok.bsz z)) (Nat.lt_irrefl _)
    · rcases List.mem_cons.mp (I.stkSub b z) with z | z
      · exact (hfp b hb).1.2.1 z
      · exact (hfp b hb).1.2.2.1 z
  refine ⟨okB, rfl, I.bare, Un.kept kp, ⟨fun _ => none, ?_, fun i y av e1 e2 e3 => ?_⟩, fun y c e => ?_, ?_, fun y c e => ?_, fun p hp => ?_, I.hok.kept kp, by rw [wipe_length]; exact I.len⟩
  · show Heap.Ns _ cenv.locals _
    rw [hL]
    exact Heap.Ns.keeps (Heap.Ns.new ..) fun b o e => pushCells_keeps _ _ _ _ e
  · obtain ⟨e2, hne⟩ := wipe_some e2
    have hfr : scope.names.lookup y = some .free ∧ (cenv.kindOf y = some .cell ∨ cenv.kindOf y = some .free) := by
      have key : ∀ k, cenv.scope.names.lookup y = some k → k = .local ∨ k = .cell ∨ k = .free → scope.names.lookup y = some .free ∧ (cenv.kindOf y = some .cell ∨ cenv.kindOf y = some .free) := fun k hk hk' => by
        have hk0 := hk
        rw [hsc] at hk
        obtain ⟨k', e, r⟩ := lookup_relS hk
        have no : ¬ (k' = .local ∨ k' = .cell) := fun hh => by
          rcases ok.own _ (PySem.mem_of_lookup e) hh with e' | e'
          · obtain ⟨p, hp, hpy⟩ := List.mem_map.mp e'
            have e3 := ok.ix p hp
            have : p.1 = y := hpy
            rw [this] at e3
            exact hne (List.mem_map.mpr ⟨p, hp, nodup_ix hN e3 e1⟩)
          · exact e' (List.mem_of_getElem? e1)
        rcases r with rfl | ⟨rfl, rfl⟩
        · rcases hk' with rfl | rfl | rfl
          · exact absurd (.inl rfl) no
          · exact absurd (.inr rfl) no
          · exact ⟨e, .inr hk0⟩
        · exact ⟨e, .inl hk0⟩
      have e3 : Vis cenv.scope y := e3
      rcases e3 with e3 | e3 | e3
      · exact key _ e3 (.inl rfl)
      · exact key _ e3 (.inr (.inl rfl))
      · exact key _ e3 (.inr (.inr rfl))
    obtain ⟨m, hn, hl⟩ := I.loc
    have hvis : Vis X.env.scope y := (ok.free _ (PySem.mem_of_lookup hfr.1) rfl).elim (fun k => .inr (.inl k)) (fun k => .inr (.inr k))
    obtain ⟨w, r, q⟩ := hl i y av e1 e2 hvis
    refine ⟨w, r, .inr ⟨hfr.2, ?_⟩⟩
    obtain ⟨c, h1, h2⟩ := look hfr.1
    rcases q with ⟨k, _⟩ | ⟨_, c', e', z⟩
    · have k : X.env.scope.names.lookup y = some .local := k
      rcases ok.free _ (PySem.mem_of_lookup hfr.1) rfl with k' | k' <;> rw [show X.env.scope.names.lookup y = _ from k'] at k <;> cases k
    · rw [h2] at e'; cases e'
      exact ⟨c, h1, z.keeps kp⟩
  · have e : cenv.cells.lookup y = some c := e
    rcases mem e with ⟨h1, _⟩ | ⟨_, z⟩
    · obtain ⟨w, z⟩ := I.cell y c h1
      exact ⟨w, z.keeps kp⟩
    · exact ⟨_, z⟩
  · show H cenv.locals = none
    rw [hL]; exact I.hok.fresh (Nat.le_refl _)
  · have e : cenv.cells.lookup y = some c := e
    rcases mem e with ⟨h1, _⟩ | ⟨h1, _⟩
    · exact I.freeC y c h1
    · exact I.hok.fresh (Nat.le_of_succ_le h1)
  · exact absurd (show p ∈ ([] : List (Addr × Obj)) ++ [] from hp) (by simp)
theorem app_ok {E : Value → Shared → Prop} {D : Addr} {xs : List V} {y : V} {v : Value} {Q : Value → Shared → Prop} (I : Inv X pins σ H s) (hD : H D = some (.lst xs)) (hz : xs.length < sizeLine) (r : RelV y v)
    (h : ∀ s', Inv X pins σ (upd H D (.lst (xs ++ [y]))) s' → Q .none s') : wpAny (model X.prog X.w) X.A (call (.builtin "list.append") [.ref D, v]) Q E s := by
  obtain ⟨hz', its, n, ri, e⟩ := I.hok D _ hD
  have hl := ri.length
  refine append_at (hsz := by rw [List.size_toArray]; omega) e fun h' sb ho' => ?_
  refine h { s with heap := h' } (I.write (t' := s.toks) (by rw [hD]; trivial) (.inl rfl) (fun b u hb q => (sb.2 b hb).trans q) ⟨_, ho'⟩ ⟨by rw [List.length_append]; exact hz, its ++ [v], n + 1, ri.append (.cons r .nil), ?_⟩)
  rw [ho']
  simp
def PTs (X : Cx) (ifs : List Expr) (t : TT) : Prop :=
  ∀ (pins : List (Addr × Obj)) (s : Shared) (σ : St) (H : Hp) (Q : Bool → Hp → Prop), Inv X pins σ H s → t σ H Q →
    wpAny (model X.prog X.w) X.A (forIn ifs true fun c r => if r = true then do let ok ← isTrue c X.env (eval c X.env); pure (ForInStep.yield ok) else pure (ForInStep.yield r)) (TP X pins σ Q) X.xe s
theorem pts_one {c : Expr} {t : TT} (h : PT X c t) : PTs X [c] t := fun pins s σ H Q I hw => wpAny_tests_one (h pins s σ H Q I hw)
end
theorem thnF {α : Type} {t : Sem α} {Q Q' : α → Shared → Prop} {M : Model} {A : Around} {E : Value → Shared → Prop} {s : Shared} (h : wpAny M A t Q (fun _ _ => False) s) (hQ : ∀ a s, Q a s → Q' a s) : wpAny M A t Q' E s := wpAny_mono h hQ fun _ _ z => False.elim z
theorem compLoop_any {prog : Program} {w : World} {A : Around} {R : Result → Shared → Prop} {s : Shared} {elt target iter : Expr} {ifs : List Expr} {scope : Scope} {pos : Pos} {it acc : Value} {env : Env} (I : Nat → Shared → Prop)
    (turn : ∀ n s, I n s → wpAny (model prog w) A (pyNext it) (fun r s₁ => match r with
      | none => R (.ok .next) s₁
      | some v => wpAny (model prog w) A (letOwnedTupleGo target it v) (fun _ s₁' => wpAny (model prog w) A (assign target env v) (fun _ s₂ =>
          wpAny (model prog w) A (forIn ifs true fun c r => if r = true then do let ok ← isTrue c env (eval c env); pure (ForInStep.yield ok) else pure (ForInStep.yield r)) (fun ok s₃ =>
            if ok = true then wpAny (model prog w) A (eval elt env) (fun x s₄ =>
              wpAny (model prog w) A (call (.builtin "list.append") [acc, x]) (fun _ s₅ => ∃ m, m < n ∧ I m s₅) (notedBy (model prog w) A env fun e s' => R (.error e) s') s₄) (notedBy (model prog w) A env fun e s' => R (.error e) s') s₃
            else ∃ m, m < n ∧ I m s₃) (notedBy (model prog w) A env fun e s' => R (.error e) s') s₂) (notedBy (model prog w) A env fun e s' => R (.error e) s') s₁') (notedBy (model prog w) A env fun e s' => R (.error e) s') s₁) (notedBy (model prog w) A env fun e s' => R (.error e) s') s)
    (n : Nat) (h : I n s) :
    codeAny (model prog w) A (.compLoop (.ListComp elt [⟨target, iter, ifs, 0⟩] scope pos) 0 it acc env) R s := by
  refine codeAny_loop rfl I (fun n s hI => ?_) n h
  show wpAny _ A ((compTurn (.ListComp elt [⟨target, iter, ifs, 0⟩] scope pos) 0 it acc env).onRaise (fun x => do noteFrame x env; theTreesLotGoes x)) _ _ s
  refine wpAny_noted ?_
  rw [compTurn_list]
  refine wpAny_bind (wpAny_standAt (wpAny_bind (wpAny_mono (turn n s hI) (fun r s₁ h₁ => ?_) fun _ _ h' => h')))
  cases r with
  | none => exact wpAny_pure h₁
  | some v =>
    refine wpAny_bind (wpAny_mono h₁ (fun _ s₁' h₁' => ?_) fun _ _ h' => h')
    refine wpAny_bind (wpAny_mono h₁' (fun _ s₂ h₂ => wpAny_bind (wpAny_mono h₂ (fun ok s₃ h₃ => ?_) fun _ _ h' => h')) fun _ _ h' => h')
    cases ok with
    | false => exact wpAny_pure ⟨rfl, h₃⟩
    | true =>
      exact wpAny_bind (wpAny_bind (wpAny_mono h₃ (fun x s₄ h₄ => wpAny_bind (wpAny_mono h₄ (fun _ s₅ h₅ => wpAny_pure (wpAny_pure ⟨rfl, h₅⟩)) fun _ _ h' => h')) fun _ _ h' => h'))
section
variable {X : Cx}
def tLc (wi : TI) (g : TG) (tt : TT) (te : TE) (vs : List Nat) : TE := fun σ H Q => wi σ H fun J H1 => ∀ D, H1 D = none → ∃ W : Nat → Nat → Hp → Prop, (∃ m, W 0 m (upd H1 D (.lst []))) ∧ ∀ i m H, W i m H →
  (J.stop i H ∧ Q (.ref D) H) ∨ (J.go i H ∧ ∃ Nx : Hp → Prop, (∀ H', Nx H' → ∃ m', m' < m ∧ W (i + 1) m' H') ∧ ∀ x H', J.yld i H x H' → g x (wipe σ vs) H' fun σ2 H2 => wipe σ2 vs = wipe σ vs ∧ tt σ2 H2 fun b H3 =>
    if b = true then te σ2 H3 fun y H4 => ∃ acc, H4 D = some (.lst acc) ∧ acc.length < sizeLine ∧ Nx (upd H4 D (.lst (acc ++ [y]))) else Nx H3)
theorem lc_core {pins : List (Addr × Obj)} {s : Shared} {σ : St} {H : Hp} {Q : VK} {elt tg iter : Expr} {ifs : List Expr} {scope : Scope} {own : List (Str × Nat)} {pos pos' : Pos} {wi : TI} {g : TG} {tt : TT} {te : TE} {use : Option (Value → Sem Unit)} {Qf : Value → Shared → Prop}
    (hc : X.calm = true) (hN : X.N.Nodup) (I : Inv X pins σ H s) (hi : PI X tg iter wi) (ok : BlkOk X.N X.env.scope scope own)
    (hg : ∀ (s : Shared) (H : Hp) (C : Addr) (cl : List (Str × Addr)) (fp : List Addr), PG (X.blk s H scope (compEnvC scope cl C X.env) fp) tg g) (ht : ∀ (s : Shared) (H : Hp) (C : Addr) (cl : List (Str × Addr)) (fp : List Addr), PTs (X.blk s H scope (compEnvC scope cl C X.env) fp) ifs tt)
    (he : ∀ (s : Shared) (H : Hp) (C : Addr) (cl : List (Str × Addr)) (fp : List Addr), PE (X.blk s H scope (compEnvC scope cl C X.env) fp) elt te) (hs : ∀ x, foldedSetIterable iter X.env x = pure x)
    (h : tLc wi g tt te (own.map (·.2)) σ H Q)
    (hRR : ∀ D C s' m H', Inv X pins σ H' s' → Q (.ref D) H' → s'.heap.Ns C m → FpOk X pins H' C → compPost (model X.prog X.w) X.A X.xe use Qf (.ref D) C (.ok .next) s') :
    wpAny (model X.prog X.w) X.A (comprehension (.ListComp elt [⟨tg, iter, ifs, 0⟩] scope pos) scope X.env pos' (newList []) false (eval iter X.env) use) Qf X.xe s := by
  have hfree : ∀ y ∈ scope.names, y.2 = .free → ∃ c, X.env.cells.lookup y.1 = some c := fun y hy e => by
    rcases ok.free y hy e with k | k
    · exact I.ok.has _ (.inl k)
    · exact I.ok.has _ (.inr k)
  refine wpAny_comprehension_free (use := use) rfl hs (closure_ok hfree) ok.kind (fun y hy e => by rw [ok.uniq y hy, e])
    (thn (hi pins s σ H _ I h) fun xv s1 hx => thn hx fun itv s2 h2 => ?_)
  obtain ⟨it, fp, tn, J, H2, e, I2, T, st2, f2, q⟩ := h2
  subst e
  refine wpAny_newObj_type (newEnv_comp ?_) (by show 0 ≤ sizeLine; decide)
  generalize hD : s2.heap.objs.size = D
  have hDn : H2 D = none := I2.hok.fresh (Nat.le_of_eq hD)
  obtain ⟨W, ⟨m0, w0⟩, turn⟩ := q D hDn
  -- the new list
  generalize hs3 : ({ s2 with heap := s2.heap.push { cls := .type "list", data := .seq ([] : List Value).toArray } } : Shared) = s3
  have I3 : Inv X pins σ (upd H2 D (.lst [])) s3 := by
    rw [← hs3]
    refine I2.laid (t' := s2.toks) (fun b o e => Heap.get?_push_of_some _ e) (Nat.le_of_eq hD) ⟨Nat.zero_le _, [], 0, .nil, ?_⟩
    rw [← hD]
    exact Heap.get?_push_size _ rfl
  have h3 : s3.heap = s2.heap.push { cls := .type "list", data := .seq ([] : List Value).toArray } := by rw [← hs3]
  have sz : ∀ b ∈ fp, b < s2.heap.objs.size := fun b hb => by
    obtain ⟨o, e, _⟩ := T.obj _ _ st2 b hb
    exact Heap.lt_size e
  have f3 : ∀ b ∈ fp, FpOk X pins (upd H2 D (.lst [])) b ∧ b < s3.heap.objs.size := fun b hb => by
    have hlt := sz b hb
    refine ⟨⟨?_, (f2 b hb).2⟩, by rw [h3, Heap.size_push]; exact Nat.lt_succ_of_lt hlt⟩
    rw [upd_ne (by rw [← hD]; exact Nat.ne_of_lt hlt)]
    exact (f2 b hb).1
  have st3 : tn 0 s3.heap := T.keep _ _ _ st2 fun b _ o e => by rw [h3]; exact Heap.get?_push_of_some _ e
  have I4 := block_start I3 ok hN f3
  have pg := hg s3 (upd H2 D (.lst [])) s3.heap.objs.size (cellsFrom (s3.heap.objs.size + 1) scope.names (cloFrom X.env.cells scope.names [])) fp
  have pt := ht s3 (upd H2 D (.lst [])) s3.heap.objs.size (cellsFrom (s3.heap.objs.size + 1) scope.names (cloFrom X.env.cells scope.names [])) fp
  have pe := he s3 (upd H2 D (.lst [])) s3.heap.objs.size (cellsFrom (s3.heap.objs.size + 1) scope.names (cloFrom X.env.cells scope.names [])) fp
  show codeAny _ _ (.compStart (.ListComp elt [⟨tg, iter, ifs, 0⟩] scope pos) 0 (.ref it) (.ref D) (compEnvC scope (cellsFrom (s3.heap.objs.size + 1) scope.names (cloFrom X.env.cells scope.names [])) s3.heap.objs.size X.env)) (compPost (model X.prog X.w) X.A X.xe use Qf (.ref D) s3.heap.objs.size) { s3 with heap := pushCells (s3.heap.push { cls := .type "dict", data := .dict #[] }) scope.names }
  have nfp : ∀ b ∈ fp, (upd H2 D (.lst [])) b = none := fun b hb => (f3 b hb).1.1
  generalize hce : compEnvC scope (cellsFrom (s3.heap.objs.size + 1) scope.names (cloFrom X.env.cells scope.names [])) s3.heap.objs.size X.env = ce at I4 pg pt pe ⊢
  have cL : ce.locals = s3.heap.objs.size := by subst hce; rfl
  generalize hH3 : upd H2 D (.lst []) = H3 at I3 I4 pg pt pe w0 nfp f3
  generalize hs4 : ({ s3 with heap := pushCells (s3.heap.push { cls := .type "dict", data := .dict #[] }) scope.names } : Shared) = s4 at I4 ⊢
  have st4 : tn 0 s4.heap := T.keep _ _ _ st3 fun b _ o e => by rw [← hs4]; exact pushCells_keeps _ _ _ _ (Heap.get?_push_of_some _ e)
  have stat : ∀ {σ' : St} {H' : Hp} {s' : Shared}, Inv (X.blk s3 H3 scope ce fp) [] σ' H' s' → (∀ b ∈ fp, H' b = none) → ∀ b ∈ fp, FpOk (X.blk s3 H3 scope ce fp) [] H' b := fun {σ' H' s'} I' hn b hb =>
    ⟨hn b hb, (I'.ok.exf b hb).1, I'.ok.exfs b hb, .inl hb, fun x c e => (I'.ok.exf b hb).2 x c e, fun p hp => absurd (show p ∈ ([] : List (Addr × Obj)) ++ [] from hp) (by simp)⟩
  have loop : codeAny (model X.prog X.w) X.A (.compLoop (.ListComp elt [⟨tg, iter, ifs, 0⟩] scope pos) 0 (.ref it) (.ref D) ce) (compPost (model X.prog X.w) X.A X.xe use Qf (.ref D) s3.heap.objs.size) s4 := by
    refine compLoop_any (fun n s' => ∃ i H', Inv (X.blk s3 H3 scope ce fp) [] (wipe σ (own.map (·.2))) H' s' ∧ tn i s'.heap ∧ (∀ b ∈ fp, H' b = none) ∧ W i n H') ?_ m0 ⟨0, H3, I4, st4, nfp, w0⟩
    rintro n s5 ⟨i, H5, I5, st5, n5, w5⟩
    rcases turn i n H5 w5 with ⟨stop, qq⟩ | ⟨go, Nx, hNx, step⟩
    · have td := T.done (X.blk s3 H3 scope ce fp) rfl rfl rfl hc i [] s5 _ H5 (fun _ _ => False) I5 (stat I5 n5) st5 stop
      refine thnF td fun r s6 ⟨hr, I6⟩ => ?_
      subst hr
      -- back in the def's context
      have I7 : Inv X pins σ H5 s6 := I3.call' (ch := fp) I6.os I6.base I6.hok I6.bare fun b hb => ⟨(f3 b hb).1.2.2.2.1, (f3 b hb).1.2.1, (f3 b hb).1.2.2.2.2.1, (f3 b hb).1.2.2.2.2.2⟩
      have nC : H5 s3.heap.objs.size = none := by
        have z : H5 ce.locals = none := I6.free
        rw [cL] at z
        exact z
      obtain ⟨m, hn, _⟩ := I6.loc
      have hn : s6.heap.Ns ce.locals m := hn
      rw [cL] at hn
      exact hRR D s3.heap.objs.size s6 m H5 I7 qq hn (I3.fpOk (Nat.le_refl _) nC)
    · have ti := T.item (X.blk s3 H3 scope ce fp) rfl rfl rfl hc i [] s5 _ H5 (fun _ _ => False) I5 (stat I5 n5) st5 go
      refine thnF ti fun r s6 ⟨u, hr, h6⟩ => ?_
      subst hr
      refine thnF h6 fun _ s7 ⟨x, H7, I7, r7, y7, st7, n7⟩ => ?_
      have I7' := I7.pinned (stat I7 n7) (T.obj _ _ st7)
      refine thnF (pg _ s7 _ H7 x u _ I7' r7 (step x H7 y7)) fun _ s8 ⟨σ8, H8, I8, hw8, q8⟩ => ?_
      refine thnF (pt _ s8 σ8 H8 _ I8 q8) fun b s9 ⟨H9, I9, q9⟩ => ?_
      -- the turn's end
      have fin : ∀ {s' : Shared} {H' : Hp}, Inv (X.blk s3 H3 scope ce fp) ([] ++ pinsAt fp s7.heap) σ8 H' s' → Nx H' → ∃ m, m < n ∧ ∃ i H', Inv (X.blk s3 H3 scope ce fp) [] (wipe σ (own.map (·.2))) H' s' ∧ tn i s'.heap ∧ (∀ b ∈ fp, H' b = none) ∧ W i m H' := fun {s' H'} I' nx => by
        obtain ⟨m', hm, w'⟩ := hNx H' nx
        have pin' : ∀ b ∈ fp, ∀ o, s7.heap.get? b = some o → s'.heap.get? b = some o ∧ H' b = none := fun b hb o e =>
          let z := I'.pin (b, o) (List.mem_append_right _ (List.mem_append_right _ (mem_pinsAt hb e)))
          ⟨z.1, z.2.1⟩
        have hl : (wipe σ (own.map (·.2))).length = σ8.length := by rw [← hw8, wipe_length]
        refine ⟨m', hm, i + 1, H', (I'.unpinned (pins := [])).weak hl (fun j v e => ?_), T.keep _ _ _ st7 fun b hb o e => (pin' b hb o e).1, fun b hb => ?_, w'⟩
        · rw [← hw8] at e
          exact (wipe_some e).1
        · obtain ⟨o, e, _⟩ := T.obj _ _ st7 b hb
          exact (pin' b hb o e).2
      cases b with
      | false =>
        simp only [Bool.false_eq_true, if_false] at q9 ⊢
        exact fin I9 q9
      | true =>
        simp only [if_true] at q9 ⊢
        refine thnF (pe _ s9 σ8 H9 _ I9 q9) fun z s10 ⟨yv, H10, I10, r10, acc, hD10, hz10, nx⟩ => ?_
        exact app_ok (X := X.blk s3 H3 scope ce fp) I10 hD10 hz10 r10 fun s11 I11 => fin I11 nx
  exact codeAny_compStart_list loop (T.self X.A 0 _ _ _ st4 loop)
theorem ps_setLc {i : Nat} {y : Str} {py : Pos} {elt tg iter : Expr} {ifs : List Expr} {scope : Scope} {own : List (Str × Nat)} {pos spos : Pos} {wi : TI} {g : TG} {tt : TT} {te : TE} (hc : X.calm = true) (hN : X.N.Nodup) (hy : X.N[i]? = some y) (hyl : X.env.scope.names.lookup y = some .local)
    (hsw : swapsWith (.ListComp elt [⟨tg, iter, ifs, 0⟩] scope pos) (some (.Name y py)) spos.line X.env = pure true) (hi : PI X tg iter wi) (ok : BlkOk X.N X.env.scope scope own)
    (hg : ∀ (s : Shared) (H : Hp) (C : Addr) (cl : List (Str × Addr)) (fp : List Addr), PG (X.blk s H scope (compEnvC scope cl C X.env) fp) tg g) (ht : ∀ (s : Shared) (H : Hp) (C : Addr) (cl : List (Str × Addr)) (fp : List Addr), PTs (X.blk s H scope (compEnvC scope cl C X.env) fp) ifs tt)
    (he : ∀ (s : Shared) (H : Hp) (C : Addr) (cl : List (Str × Addr)) (fp : List Addr), PE (X.blk s H scope (compEnvC scope cl C X.env) fp) elt te) (hs : ∀ x, foldedSetIterable iter X.env x = pure x := by intro _; rfl) :
    PS X (.Assign [.Name y py] (.ListComp elt [⟨tg, iter, ifs, 0⟩] scope pos) spos) (tAsg (tLc wi g tt te (own.map (·.2))) (gName i)) := by
  intro pins s σ H D I h
  rw [exec_Assign_Name_used _ _ _ _ hsw]
  refine wpAny_bind (wpAny_standAt (wpAny_bind ?_))
  show wpAny _ X.A (do let _ ← comprehension (.ListComp elt [⟨tg, iter, ifs, 0⟩] scope pos) scope X.env (firstIterPos [⟨tg, iter, ifs, 0⟩] pos) (newList []) false (eval iter X.env) (some (assign (.Name y py) X.env))) _ _ s
  have h : tLc wi g tt te (own.map (·.2)) σ H (fun x H1 => gName i x σ H1 D.nx) := h
  refine wpAny_bind (thn (lc_core (Qf := fun _ s' => SP X pins D .next s') hc hN I hi ok hg ht he hs h fun L C s' m H' I' q hn f => ?_) fun _ s' hq => wpAny_pure (wpAny_pure hq))
  show wpAny _ _ (assign (.Name y py) X.env (.ref L)) _ _ _
  refine wpAny_assign_Name (store_ok2 (v := V.ref L) I' hN hy (.inl hyl) rfl (fun s2 I2 ⟨a, sb, ha⟩ => ?_) (.inr hyl))
  obtain ⟨f0, f1, f2, f3, f4, f5⟩ := f
  have haC : C ≠ a := by
    rcases ha with z | z
    · rw [z]; exact f1
    · exact fun e => f4 y a z e.symm
  refine ⟨m, hn.sameBut sb haC, fun h3 sb3 => ?_⟩
  exact ⟨_, H', I2.turned (t' := s2.toks) (fun b o hb e => (sb3.2 b hb).trans e) f0 f1 f3 f4 f5, q⟩
end
theorem lc_list {K : PySem.W.Frag} {a : Addr} {xs : List V} {g : TG} {tt : TT} {te : TE} {vs : List Nat} {σ : St} {H1 : Hp} {D : Addr} {Qd : Hp → Prop} (Pv : Nat → Hp → Prop) (h0 : Pv 0 (upd H1 D (.lst []))) (hl : ∀ i H, i ≤ xs.length → Pv i H → SqL K H a xs)
    (hs : ∀ i x H, xs[i]? = some x → Pv i H → g x (wipe σ vs) H fun σ2 H2 => wipe σ2 vs = wipe σ vs ∧ tt σ2 H2 fun b H3 =>
      if b = true then te σ2 H3 fun y H4 => ∃ acc, H4 D = some (.lst acc) ∧ acc.length < sizeLine ∧ Pv (i + 1) (upd H4 D (.lst (acc ++ [y]))) else Pv (i + 1) H3) (hd : ∀ H, Pv xs.length H → Qd H) :
    ∃ W : Nat → Nat → Hp → Prop, (∃ m, W 0 m (upd H1 D (.lst []))) ∧ ∀ i m H, W i m H →
      ((Itl K a).stop i H ∧ Qd H) ∨ ((Itl K a).go i H ∧ ∃ Nx : Hp → Prop, (∀ H', Nx H' → ∃ m', m' < m ∧ W (i + 1) m' H') ∧ ∀ x H', (Itl K a).yld i H x H' → g x (wipe σ vs) H' fun σ2 H2 => wipe σ2 vs = wipe σ vs ∧ tt σ2 H2 fun b H3 =>
        if b = true then te σ2 H3 fun y H4 => ∃ acc, H4 D = some (.lst acc) ∧ acc.length < sizeLine ∧ Nx (upd H4 D (.lst (acc ++ [y]))) else Nx H3) := by
  refine ⟨fun i m H => m = xs.length - i ∧ i ≤ xs.length ∧ Pv i H, ⟨xs.length, by simp, Nat.zero_le _, h0⟩, ?_⟩
  rintro i m H ⟨rfl, hi, p⟩
  have q := hl i H hi p
  by_cases hlt : i < xs.length
  · refine .inr ⟨⟨xs, xs[i], q, by simp [hlt]⟩, Pv (i + 1), fun H' p' => ⟨xs.length - (i + 1), by omega, rfl, hlt, p'⟩, fun x H' y => ?_⟩
    obtain ⟨e, y⟩ := y
    subst e
    exact hs i x _ (y xs q) p
  · have e : i = xs.length := by omega
    subst e
    exact .inl ⟨⟨xs, q, Nat.le_refl _⟩, hd H p⟩
def blkC (N : List Str) (sc scope : Scope) (own : List (Str × Nat)) : Bool :=
  (match scope.kind with | .function => true | _ => false) && (scope.names.all fun y => decide (scope.names.lookup y.1 = some y.2)) && (own.all fun p => decide (N[p.2]? = some p.1)) &&
    (scope.names.all fun y => match y.2 with
      | .free => (match sc.names.lookup y.1 with | some .cell => true | some .free => true | _ => false)
      | .local => decide (y.1 ∈ own.map (·.1)) || decide (y.1 ∉ N)
      | .cell => decide (y.1 ∈ own.map (·.1)) || decide (y.1 ∉ N)
      | _ => true)
theorem blkOk_by {N : List Str} {sc scope : Scope} {own : List (Str × Nat)} (h : blkC N sc scope own = true) : BlkOk N sc scope own := by
  unfold blkC at h
  simp only [Bool.and_eq_true, List.all_eq_true, decide_eq_true_eq] at h
  obtain ⟨⟨⟨h1, h2⟩, h3⟩, h4⟩ := h
  refine ⟨?_, h2, h3, fun y hy e => ?_, fun y hy e => ?_⟩
  · split at h1
    · assumption
    · cases h1
  · have q := h4 y hy
    simp only [e] at q
    split at q <;> first | exact .inl (by assumption) | exact .inr (by assumption) | cases q
  · have q := h4 y hy
    rcases e with e | e <;> (simp only [e, Bool.or_eq_true, decide_eq_true_eq] at q; exact q)
end L2
namespace L2
open PySem PySem.Spec PyProof.Rows
section
variable {prog : Program} {w : World} {A : Around} {R : Result → Shared → Prop} {s : Shared} {elt t0 i0 t1 i1 : Expr} {ifs0 ifs1 : List Expr} {scope : Scope} {pos : Pos} {it acc : Value} {env : Env}
end
section
variable {X : Cx}
end
end L2
namespace L2
open PySem PySem.Spec PyProof.Rows
section
variable {κ : Type} [DecidableEq κ]
end
section
variable {P : Program} {w : World} {H : Hp} {h : Heap} {a : Addr}
end
section
variable {X : Cx} {pins : List (Addr × Obj)} {σ : St} {H : Hp} {s : Shared} {a : Addr} {y v : V} {u r : Value} {o : Option V} {A : Around} {E : Value → Shared → Prop}
end
section
variable {X : Cx} {pins : List (Addr × Obj)} {σ : St} {H : Hp} {s : Shared} {a : Addr} {kvs : List (Key × V)} {k : Key} {u : Value} {A : Around} {E : Value → Shared → Prop}
end
section
variable {X : Cx} {o i e value : Expr} {pos pos' tpos : Pos} {td ty tv : TE}
end
section
variable {X : Cx} {pos : Pos}
end
section
variable {X : Cx} {pins : List (Addr × Obj)} {σ : St} {H : Hp} {s : Shared} {a : Addr} {y d : V} {u r : Value} {o : Option V} {A : Around} {E : Value → Shared → Prop}
end
section
variable {X : Cx} {o e f : Expr} {apos cpos : Pos} {td ty tx : TE}
end
section
variable {X : Cx} {pins : List (Addr × Obj)} {σ : St} {H : Hp} {s : Shared} {a : Addr} {kvs : List (Key × V)} {A : Around} {E : Value → Shared → Prop}
end
section
variable {X : Cx} {pins : List (Addr × Obj)} {σ : St} {H : Hp} {s : Shared} {a : Addr} {y : V} {u : Value} {A : Around} {E : Value → Shared → Prop}
end
end L2
namespace L2
open PySem PySem.Spec PyProof.Rows
section
variable {prog : Program} {w : World} {A : Around} {E : Value → Shared → Prop}
end
section
variable {X : Cx}
end
end L2
namespace L2
open PySem PySem.Spec PyProof.Rows
theorem boot_reversed5 : bootBuiltins "reversed" = some (.type "reversed") := by decide +kernel
section
variable {X : Cx} {pins : List (Addr × Obj)} {σ : St} {H : Hp} {s : Shared} {h' : Heap}
theorem Inv.turnedNew {t' : Nat} {ch : List Addr} {T : Addr} {ob : HO} (I : Inv X pins σ H s) (k : ∀ b o, b ∉ ch → s.heap.get? b = some o → h'.get? b = some o) (hf : ∀ b ∈ ch, FpOk X pins H b) (hT : s.heap.objs.size ≤ T)
    (new : ObjOk X.prog X.w (upd H T ob) h' T ob) : Inv X pins σ (upd H T ob) { s with heap := h', toks := t' } := by
  have hn : H T = none := I.hok.fresh hT
  have nit : ∀ b u, H b = some u → b ∉ ch := fun b u e z => by
    have q := (hf b z).1
    rw [q] at e; cases e
  refine I.step (g' := s.gens) (d' := s.drawn) (ch := ch) (fun b hb => ⟨(hf b hb).2.2.2.1, (hf b hb).2.1, (hf b hb).2.2.2.2.1, (hf b hb).2.2.2.2.2⟩) (fun b o _ _ hc e _ => k b o hc e) (fun b o _ _ hc e _ => ⟨o.slots, k b o hc e⟩)
    (fun b o _ e n => ?_) (fun b o hc e => ⟨o, k b o hc e⟩) (fun b xs e => ?_) (fun b o u e => ?_) (fun b ps e => ⟨#[], ?_⟩) (fun m hm => ?_) (fun b u e => ?_) I.bare
  · rw [upd_ne (Nat.ne_of_lt (Nat.lt_of_lt_of_le (Heap.lt_size e) hT))]; exact n
  · rw [upd_ne (ne_of_none e hn)]; exact e
  · rw [upd_ne (ne_of_none e hn)]; exact e
  · rw [upd_ne (ne_of_none e hn), e]; simp
  · obtain ⟨o, es, ep, ho, r⟩ := hm
    exact ⟨o, es, ep, k _ o (fun z => (hf _ z).2.1 rfl) ho, r⟩
  · by_cases hb : b = T
    · subst hb
      rw [upd_same] at e
      cases e
      exact new
    · rw [upd_ne hb] at e
      refine (I.hok b u e).stay (fun c v hc q => k c v ?_ q) (fun c q => by rw [upd_ne (ne_of_none q hn)]; exact q) fun c xs q => by rw [upd_ne (ne_of_none q hn)]; exact q
      rcases hc with z | z
      · rw [z]; exact nit b u e
      · exact nit c _ z
end
section
variable {X : Cx}
theorem pi_one {tg : Expr} {pins : List (Addr × Obj)} {σ : St} {H : Hp} {s : Shared} {R : It → Hp → Prop} {J : It} {tn : Nat → Heap → Prop} {tk : Nat} (I : Inv X pins σ H s) (o : Obj)
    (T : Turn X.prog X.w X.K tg J [s.heap.objs.size] s.heap.objs.size tn) (st : tn 0 (s.heap.push o)) (q : R J H) : PIE X pins σ tg R (.ref s.heap.objs.size) { s with heap := s.heap.push o, toks := tk } := by
  refine ⟨s.heap.objs.size, [s.heap.objs.size], tn, J, H, rfl, I.kept fun b ob e => Heap.get?_push_of_some _ e, T, st, fun b hb => ?_, q⟩
  have e : b = s.heap.objs.size := by simpa using hb
  subst e
  exact I.fpOk (Nat.le_refl _) (I.hok.fresh (Nat.le_refl _))
end
section
variable {X : Cx} {tg : Expr}
end
def Itv (K : PySem.W.Frag) (a : Addr) (n : Nat) : It :=
  ⟨fun i H => i < n ∧ ∃ (xs : List V) (x : V), SqL K H a xs ∧ xs[n - 1 - i]? = some x, fun i H x H' => H' = H ∧ ∀ xs, SqL K H a xs → xs[n - 1 - i]? = some x, fun i _ => n ≤ i⟩
theorem turn_rev {P : Program} {w : World} {K : PySem.W.Frag} {tg : Expr} (a it : Addr) (n : Nat) : Turn P w K tg (Itv K a n) [it] it (fun i h => i ≤ n ∧ h.IsRevIter it a ((n : Int) - 1 - (i : Nat))) where
  mem := by simp
  obj := fun i h st b hb => by
    have e : b = it := by simpa using hb
    subst e
    obtain ⟨_, o, e, c, d⟩ := st
    exact ⟨o, e, fun v z => by rw [d] at z; cases z⟩
  keep := fun i h h' st k => ⟨st.1, st.2.at fun o e => k it (by simp) o e⟩
  item := by
    intro X hP hw hK hc i pins s σ H E I hf st hg
    subst hP hw hK
    obtain ⟨hin, xs, x, hq, hx⟩ := hg
    obtain ⟨its, rv, p, hz⟩ := I.list hq
    obtain ⟨u, hu, ru⟩ := rv.get hx
    obtain ⟨f0, f1, f2, f3, f4, f5⟩ := hf it (by simp)
    obtain ⟨_, hit⟩ := st
    have e1 : (n : Int) - 1 - ((i : Nat) : Int) = ((n - 1 - i : Nat) : Int) := by omega
    rw [e1] at hit
    refine wpAny_pyNext_rev_item hit p.isList (x := u) (by simpa using hu) fun h' st' sb => ?_
    have e2 : ((n - 1 - i : Nat) : Int) - 1 = (n : Int) - 1 - ((i + 1 : Nat) : Int) := by omega
    rw [e2] at st'
    have I1 : Inv X pins σ H { s with heap := h' } := I.turned (t' := s.toks) (fun b o hb e => (sb.2 b hb).trans e) f0 f1 f3 f4 f5
    obtain ⟨o, e, c, d⟩ := id st'
    exact ⟨u, rfl, go_of (s := { s with heap := h' }) e c d (by decide) ⟨x, H, I1, ru, ⟨rfl, fun ys hy => by rw [I.list_inj hy hq]; exact hx⟩, ⟨hin, st'⟩, fun b hb => (hf b hb).1⟩⟩
  done := by
    intro X hP hw hK hc i pins s σ H E I hf st hg
    subst hP hw hK
    obtain ⟨f0, f1, f2, f3, f4, f5⟩ := hf it (by simp)
    obtain ⟨hin, hit⟩ := st
    have hge : n ≤ i := hg
    have e1 : (n : Int) - 1 - ((i : Nat) : Int) = -1 := by omega
    rw [e1] at hit
    exact wpAny_pyNext_rev_end (I.ok.hd hc) hit fun h' eb => ⟨rfl, I.turned (t' := s.toks) (fun b o hb e => eb b o hb e) f0 f1 f3 f4 f5⟩
  self := fun A i s Q E st h => wpAny_pyIter_revIter st.2 h
def iRev (K : PySem.W.Frag) (ta : TA) : TI := fun σ H R => ta σ H fun vs H1 => ∃ (a : Addr) (xs : List V), vs = [.ref a] ∧ SqL K H1 a xs ∧ R (Itv K a xs.length) H1
section
variable {X : Cx} {tg : Expr}
theorem pi_reversed {e : Expr} {ta : TA} {p pos : Pos} (hg : Gl X "reversed") (hm : X.mg "reversed" = none) (ha : PA X [e] ta) (hs : starEach [e] X.env = [(false, eval e X.env)] := by rfl) : PI X tg (.Call (.Name "reversed" p) [e] [] pos) (iRev X.K ta) := by
  intro pins s σ H R I h
  refine Call_ (ld_blt I hg hm boot_reversed5 (PyProof.Rows.callWith_type1 (thn (ha pos pins s σ H _ I h) fun us s1 ⟨vs, H1, I1, r1, q1⟩ => ?_) hs rfl))
  obtain ⟨a, xs, e, hq, q⟩ := q1
  subst e
  cases r1 with
  | cons r rr =>
    cases rr
    cases r
    obtain ⟨its, rv, p', hz⟩ := I1.list hq
    have hl := rv.length
    have e1 : ((its.toArray.size : Nat) : Int) - 1 = (xs.length : Int) - 1 - ((0 : Nat) : Int) := by simp only [List.size_toArray]; omega
    refine call_reversed_list p'.isList (wpAny_pyIter_revIter (l := a) (i := ((its.toArray.size : Nat) : Int) - 1) ⟨_, Heap.get?_push_size _ rfl, rfl, rfl⟩ ?_)
    refine pi_one (tk := s1.toks) I1 _ (turn_rev a _ xs.length) ⟨Nat.zero_le _, ?_⟩ q
    rw [← e1]
    exact ⟨_, Heap.get?_push_size _ rfl, rfl, rfl⟩
end
section
variable {prog : Program} {w : World} {A : Around} {E : Value → Shared → Prop} {s : Shared}
end
section
variable {X : Cx} {pins : List (Addr × Obj)} {σ : St} {H : Hp} {s : Shared} {d : Addr} {o : Obj}
end
section
variable {P : Program} {w : World} {K : PySem.W.Frag} {tg : Expr} {d : Addr} {o : Obj} {es : Array DictEntry} {ep : Nat}
end
section
variable {X : Cx} {tg e : Expr} {td : TE} {apos cpos : Pos}
end
def Ite (K : PySem.W.Frag) (a : Addr) : It :=
  ⟨fun i H => ∃ (xs : List V) (x : V), SqL K H a xs ∧ xs[i]? = some x, fun i H v H' => ∃ T x, v = .ref T ∧ H T = none ∧ H' = upd H T (.tup [.int (i : Nat), x]) ∧ ∀ xs, SqL K H a xs → xs[i]? = some x, fun i H => ∃ xs : List V, SqL K H a xs ∧ xs.length ≤ i⟩
theorem turn_enum {P : Program} {w : World} {K : PySem.W.Frag} {elts : List Expr} {kk : Nat} {tpos : Pos} (a e it : Addr) :
    Turn P w K (.Tuple elts kk tpos) (Ite K a) [e, it] e (fun i h => (∃ old, IsEnum h e it ((i : Nat) : Int) old) ∧ h.IsListIter it a i ∧ e ≠ it) where
  mem := by simp
  obj := fun i h st b hb => by
    obtain ⟨⟨old, he⟩, ⟨o, ho, hc, hd⟩, _⟩ := st
    have e' : b = e ∨ b = it := by simpa using hb
    rcases e' with z | z
    · rw [z]; exact ⟨_, he, fun v q => nomatch q⟩
    · rw [z]; exact ⟨o, ho, fun v q => by rw [hd] at q; cases q⟩
  keep := fun i h h' st k => let ⟨⟨old, he⟩, hi, hne⟩ := st; ⟨⟨old, k e (by simp) _ he⟩, hi.at fun o q => k it (by simp) o q, hne⟩
  item := by
    intro X hP hw hK hc i pins s σ H E I hf st hg
    subst hP hw hK
    obtain ⟨⟨old, he⟩, hit, hne⟩ := st
    obtain ⟨xs, x, hq, hx⟩ := hg
    obtain ⟨its, rv, p, hz⟩ := I.list hq
    obtain ⟨u, hu, ru⟩ := rv.get hx
    have hel : e < s.heap.objs.size := Heap.lt_size he
    have hil : it < s.heap.objs.size := by obtain ⟨_, q, _⟩ := hit; exact Heap.lt_size q
    refine wpAny_pyNext_enum_item he hit p.isList (x := u) (by simpa using hu) hne fun h' ho hit' hT hsz hk => ?_
    refine ⟨_, rfl, wpAny_letOwnedTupleGo_enum (s := { s with heap := h', toks := s.toks + 1 }) ho fun h'' he' sb => ?_⟩
    have hT2 : h''.get? s.heap.objs.size = some { cls := .type "tuple", data := .seq #[.int i s.toks, u] } := (sb.2 _ (Nat.ne_of_gt hel)).trans hT
    have new : ObjOk X.prog X.w (upd H s.heap.objs.size (.tup [.int (i : Nat), x])) h'' s.heap.objs.size (.tup [.int (i : Nat), x]) :=
      ⟨by show 2 ≤ sizeLine; decide, [.int i s.toks, u], .cons ⟨_, rfl⟩ (.cons ru .nil), ⟨_, hT2, rfl, _, rfl⟩⟩
    have I1 : Inv X pins σ (upd H s.heap.objs.size (.tup [.int (i : Nat), x])) { s with heap := h'', toks := s.toks + 1 } :=
      I.turnedNew (ch := [e, it]) (fun b ob hb q => (sb.2 b (fun z => hb (by simp [z]))).trans (hk b ob (fun z => hb (by simp [z])) (fun z => hb (by simp [z])) q)) hf (Nat.le_refl _) new
    refine ⟨.ref s.heap.objs.size, _, I1, rfl, ⟨_, x, rfl, I.hok.fresh (Nat.le_refl _), rfl, fun ys hy => by rw [I.list_inj hy hq]; exact hx⟩, ⟨⟨u, ?_⟩, hit'.at fun o q => (sb.2 it (Ne.symm hne)).trans q, hne⟩, fun b hb => ?_⟩
    · have e1 : ((i + 1 : Nat) : Int) = (i : Int) + 1 := by omega
      rw [e1]; exact he'
    · have hb' : b < s.heap.objs.size := by
        have e' : b = e ∨ b = it := by simpa using hb
        rcases e' with z | z
        · rw [z]; exact hel
        · rw [z]; exact hil
      rw [upd_ne (Nat.ne_of_lt hb')]
      exact (hf b hb).1
  done := by
    intro X hP hw hK hc i pins s σ H E I hf st hg
    subst hP hw hK
    obtain ⟨⟨old, he⟩, hit, hne⟩ := st
    obtain ⟨xs, hq, hx⟩ := hg
    obtain ⟨its, rv, p, hz⟩ := I.list hq
    obtain ⟨f0, f1, f2, f3, f4, f5⟩ := hf it (by simp)
    have hl := rv.length
    exact wpAny_pyNext_enum_end (I.ok.hd hc) he hit p.isList (by simp; omega) fun h' eb => ⟨rfl, I.turned (t' := s.toks) (fun b o hb q => eb b o hb q) f0 f1 f3 f4 f5⟩
  self := fun A i s Q E st h => let ⟨⟨_, he⟩, _⟩ := st; wpAny_pyIter_enum he h
def iEnum (K : PySem.W.Frag) (ta : TA) : TI := fun σ H R => ta σ H fun vs H1 => ∃ a xs, vs = [.ref a] ∧ SqL K H1 a xs ∧ R (Ite K a) H1
theorem pi_enum {X : Cx} {e : Expr} {ta : TA} {p pos tpos : Pos} {elts : List Expr} {kk : Nat} (hg : Gl X "enumerate") (hm : X.mg "enumerate" = none) (ha : PA X [e] ta) (hs : starEach [e] X.env = [(false, eval e X.env)] := by rfl) :
    PI X (.Tuple elts kk tpos) (.Call (.Name "enumerate" p) [e] [] pos) (iEnum X.K ta) := by
  intro pins s σ H R I h
  refine Call_ (ld_blt I hg hm boot_enumerate (PyProof.Rows.callWith_type1 (thn (ha pos pins s σ H _ I h) fun us s1 ⟨vs, H1, I1, r1, q1⟩ => ?_) hs rfl))
  obtain ⟨a, xs, ex, hq, q⟩ := q1
  subst ex
  cases r1 with
  | cons r rr =>
    cases rr
    cases r
    obtain ⟨its, rv, p', hz⟩ := I1.list hq
    refine call_enumerate_list p'.isList fun h' he hit hsz hk => wpAny_pyIter_enum he ?_
    have I2 : Inv X pins σ H1 { s1 with heap := h' } := I1.kept (t' := s1.toks) hk
    refine ⟨s1.heap.objs.size + 1, [s1.heap.objs.size + 1, s1.heap.objs.size], _, _, H1, rfl, I2, turn_enum a (s1.heap.objs.size + 1) s1.heap.objs.size, ⟨⟨.none, he⟩, hit, Nat.succ_ne_self _⟩, fun b hb => ?_, q⟩
    have e' : b = s1.heap.objs.size + 1 ∨ b = s1.heap.objs.size := by simpa using hb
    have hle : s1.heap.objs.size ≤ b := by
      rcases e' with z | z
      · rw [z]; exact Nat.le_add_right _ _
      · rw [z]; exact Nat.le_refl _
    exact I1.fpOk hle (I1.hok.fresh hle)
end L2
section 
namespace Bits
open PySem PyProof.Rows
end Bits
end 
section 
namespace TL
open PySem PySem.Builtin PySem.Builtin.Str PySem.StrLaws
end TL
end 
namespace L2
open PySem PySem.Spec PyProof.Rows
section
variable {X : Cx} {pins : List (Addr × Obj)} {σ : St} {H : Hp} {s : Shared} {Q : VK}
end
section
variable {X : Cx}
end
section
variable {X : Cx} {o e : Expr} {to te : TE}
end
end L2
namespace L2
open PySem PySem.Spec PyProof.Rows
section
variable {X : Cx}
end
end L2
namespace Att
open PySem PySem.W PySem.Calls PyProof.Rows
section
variable {prog : Program} {w : World} {A : Around} {E : Value → Shared → Prop} {s : Shared} {K : Frag}
end
end Att
namespace L2
open PySem PySem.Spec PyProof.Rows
end L2
namespace L2
open PySem PySem.Spec PyProof.Rows
abbrev KOf {K : PySem.W.Frag} {h : Heap} (_ : K.In h) : PySem.W.Frag := K
end L2
namespace L2
open PySem PySem.Spec PyProof.Rows
def inClass (s : Stmt) (j : Nat) : Stmt := match s with
  | .ClassDef _ _ _ body _ _ _ _ _ _ _ => body.getD j (.Pass ⟨0, 0, 0, 0⟩)
  | _ => .Pass ⟨0, 0, 0, 0⟩
def defArgs (s : Stmt) : Arguments := match s with
  | .FunctionDef _ a _ _ _ _ _ _ _ _ => a
  | _ => { posonlyargs := [], args := [], vararg := none, kwonlyargs := [], kw_defaults := [], kwarg := none, defaults := [] }
def defBody (s : Stmt) : List Stmt := match s with
  | .FunctionDef _ _ b _ _ _ _ _ _ _ => b
  | _ => []
def defScope (s : Stmt) : Scope := match s with
  | .FunctionDef _ _ _ _ _ _ sc _ _ _ => sc
  | _ => { kind := .function, names := [], isGenerator := false, isCoroutine := false }
abbrev CX0 : CXT := fun _ _ _ _ _ _ => False
abbrev E0 : XK := fun _ _ _ => False
theorem pass0 {X : Cx} : Passes CX0 X E0 := fun _ _ _ _ _ _ _ h => h.elim
structure Fun (K : PySem.W.Frag) (x qual : Str) (st : Stmt) (f : Addr) (fd : FuncData) : Prop where
  ex : ∃ (oc : Value) (od : Option Addr) (kV doc pm : Value) (an : Option Addr) (cdv ct : Value) (osl : Array (Option Value)),
    fd = PySem.W.fnOf x qual (defArgs st) (defBody st) (defScope st) .none kV doc pm an cdv ct ∧ K.lookup f = some ⟨oc, od, .func fd, osl⟩ ∧ PySem.W.codeIn K cdv qual = true
  kp : PySem.W.keepIn K (.ref f) = true
section
variable {P : Program} {w : World} {K : PySem.W.Frag} {mg : Str → Option Value} {base : Heap}
theorem Fun.ok {x qual : Str} {st : Stmt} {f : Addr} {fd : FuncData} {N ps : List Str} {k : Nat} {sp : Sp} (F : Fun K x qual st f fd) (S : FnScope N ps (defScope st)) (len : ∀ vs H Q E, sp vs H Q E → vs.length = ps.length)
    (hbody : ∀ (cdv : Value) (A : Around) (outer : List Env) (s : Shared) (H : Hp) (vs : List V) (Q : VK) (E : XK), Room k (A.deeper (envOfC qual (defScope st) s.heap.objs.size f cdv)) → sp vs H Q E →
      ∃ t, PSs (cxOf CX0 P w K mg base N qual (defScope st) f cdv A outer s H E).nox (defBody st) t ∧ t { nx := fun _ H' => Q .non H', rt := Q } (start N vs) H) : FnOk P w K mg base CX0 (k + 1) f fd ps sp := by
  obtain ⟨oc, od, kV, doc, pm, an, cdv, ct, osl, rfl, lk, hcd⟩ := F.ex
  refine fn_of lk hcd S len fun A outer s H vs Q E hr hsp => ?_
  obtain ⟨t, h, q⟩ := hbody cdv A outer s H vs Q E hr hsp
  exact ⟨t, h.nox, q⟩
theorem Fun.binds {x qual : Str} {st : Stmt} {f : Addr} {fd : FuncData} {ps : List Str} (F : Fun K x qual st f fd)
    (h : ∀ (kV doc pm : Value) (an : Option Addr) (cdv ct : Value) (us : List Value), us.length = ps.length → bindArgs (PySem.W.fnOf x qual (defArgs st) (defBody st) (defScope st) .none kV doc pm an cdv ct) ⟨us, []⟩ = pure (ps.zip us)) : Binds K fd ps [] := by
  obtain ⟨oc, od, kV, doc, pm, an, cdv, ct, osl, rfl, lk, hcd⟩ := F.ex
  exact .all (h kV doc pm an cdv ct)
theorem fun_mk {x qual : Str} {st : Stmt} {f : Addr} {oc : Value} {od an : Option Addr} {osl : Array (Option Value)} {kV doc pm cdv ct : Value} (l : K.lookup f = some ⟨oc, od, .func (PySem.W.fnOf x qual (defArgs st) (defBody st) (defScope st) .none kV doc pm an cdv ct), osl⟩)
    (c : PySem.W.codeIn K cdv qual = true) (k : PySem.W.keepIn K (.ref f) = true) : Fun K x qual st f (PySem.W.fnOf x qual (defArgs st) (defBody st) (defScope st) .none kV doc pm an cdv ct) := ⟨⟨oc, od, kV, doc, pm, an, cdv, ct, osl, rfl, l, c⟩, k⟩
end
section
variable {X : Cx}
theorem pv (i : Nat) {x : Str} {pos : Pos} (hN : X.N[i]? = some x := by rfl) (hv : Vis X.env.scope x := by first | exact Or.inl rfl | exact Or.inr (Or.inl rfl) | exact Or.inr (Or.inr rfl)) (hd : (x == ("__debug__" : Str)) = false := by decide)
    (hcd : (x == ("__classdict__" : Str)) = false := by decide) : PE X (.Name x pos) (tVar i) := pe_var hN hv hd hcd
end
theorem iteF {A B : Prop} (h : B) : if false = true then A else B := by
  rw [if_neg Bool.false_ne_true]
  exact h
theorem iteT {A B : Prop} (h : A) : if true = true then A else B := by
  rw [if_pos rfl]
  exact h
theorem iteNS {c A B : Prop} [Decidable c] (hc : c) (h : B) : if (!decide c) = true then A else B := by
  rw [decide_eq_true hc]
  exact iteF h
def Same (H H' : Hp) : Prop := ∀ b o, H b = some o → H' b = some o
theorem Same.refl (H : Hp) : Same H H := fun _ _ h => h
theorem Same.trans {H H1 H2 : Hp} (a : Same H H1) (b : Same H1 H2) : Same H H2 := fun c o h => b c o (a c o h)
theorem Same.free {H H' : Hp} (e : Same H H') {l : Addr} (h : H' l = Option.none) : H l = Option.none := by
  cases q : H l with
  | none => rfl
  | some o =>
    rw [e l o q] at h
    cases h
theorem Same.seq {K : PySem.W.Frag} {H H' : Hp} {a : Addr} {xs : List V} (e : Same H H') (h : SqL K H a xs) : SqL K H' a xs := by
  rcases h with (h | ⟨o, h⟩) | h
  · exact .inl (.inl (e _ _ h))
  · exact .inl (.inr ⟨o, e _ _ h⟩)
  · exact .inr h
section
variable {κ : Type} [DecidableEq κ]
theorem nd_snoc : ∀ {l : List κ} {k : κ}, l.Nodup → ¬ k ∈ l → (l ++ [k]).Nodup
  | [], k, _, _ => by simp
  | a :: r, k, h, hk => by
    obtain ⟨h1, h2⟩ := List.nodup_cons.mp h
    show (a :: (r ++ [k])).Nodup
    refine List.nodup_cons.mpr ⟨fun m => ?_, nd_snoc h2 fun m => hk (List.mem_cons.mpr (Or.inr m))⟩
    rcases List.mem_append.mp m with q | q
    · exact h1 q
    · exact hk (List.mem_cons.mpr (Or.inl (List.mem_singleton.mp q).symm))
end
theorem at_of {xs : List V} {z : Int} {j : Nat} {v : V} (e : z = (j : Int)) (h : xs[j]? = some v) : atI xs z = some v := by
  rw [e]
  exact atI_nat h
theorem nd_ix {α : Type} {l : List α} (hN : l.Nodup) {i j : Nat} {x : α} (a : l[i]? = some x) (b : l[j]? = some x) : i = j := by
  obtain ⟨h1, e1⟩ := List.getElem?_eq_some_iff.mp a
  obtain ⟨h2, e2⟩ := List.getElem?_eq_some_iff.mp b
  exact (List.getElem_inj hN).mp (e1.trans e2.symm)
end L2
end
section
set_option Elab.async false
set_option linter.all false
set_option maxRecDepth 100000
set_option maxHeartbeats 2000000
namespace L2
open PySem PySem.Spec PyProof.Rows
open PySem.W (WData Codec OpenSpec Well WellAll ReadsW ReadsAllW)
mutual
inductive Dw (K : PySem.W.Frag) (H : Hp) : V → WData → Prop
  | non : Dw K H .non .none
  | bl (b : Bool) : Dw K H (.bl b) (.bool b)
  | int (i : Int) : Dw K H (.int i) (.int i)
  | str (x : Str) : Dw K H (.str x) (.str x)
  | byt (b : Array UInt8) : Dw K H (.byt b) (.bytes b.toList)
  | lst {a : Addr} {xs : List V} {ds : List WData} : SqL K H a xs → DwAll K H xs ds → Dw K H (.ref a) (.list ds)
  | tup {a : Addr} {xs : List V} {ds : List WData} : SqT K H a xs → DwAll K H xs ds → Dw K H (.ref a) (.tuple ds)
inductive DwAll (K : PySem.W.Frag) (H : Hp) : List V → List WData → Prop
  | nil : DwAll K H [] []
  | cons {v : V} {vs : List V} {d : WData} {ds : List WData} : Dw K H v d → DwAll K H vs ds → DwAll K H (v :: vs) (d :: ds)
end
theorem dw_ints {K : PySem.W.Frag} {H : Hp} : ∀ ns : List Int, DwAll K H (ns.map V.int) (ns.map WData.int)
  | [] => .nil
  | n :: r => .cons (.int n) (dw_ints r)
theorem ints_dw {K : PySem.W.Frag} {H : Hp} : ∀ (ns : List Int) (xs : List V), DwAll K H xs (ns.map WData.int) → xs = ns.map V.int
  | [], xs, h => by
    cases h
    rfl
  | n :: r, xs, h => by
    cases h with
    | cons h1 h2 =>
      cases h1
      rw [ints_dw r _ h2] <;> rfl
section
variable {P : Program} {w : World} {K : PySem.W.Frag} {H : Hp} {h : Heap} {R : PySem.W.WRecords} {cl : Str → Option Addr}
theorem sqL_at {a : Addr} {xs : List V} (hok : HOk P w H h) (KX : K.In h) (q : SqL K H a xs) : ∃ (its : List Value) (o : Obj) (n : Nat), Vals xs its ∧ h.get? a = some o ∧ o.cls = .type "list" ∧ o.data = .seq its.toArray n := by
  rcases q with q | ⟨o, its, n, e, hc, _, hd, _, hv⟩
  · obtain ⟨_, its, n, hv, e⟩ := (show ObjOk P w H h a (.lst xs) from q.ok hok)
    exact ⟨its, _, n, hv, e, rfl, rfl⟩
  · exact ⟨its.toList, o, n, hv, KX _ _ e, hc, by simp [hd]⟩
theorem sqT_at {a : Addr} {xs : List V} (hok : HOk P w H h) (KX : K.In h) (q : SqT K H a xs) : ∃ (its : List Value) (o : Obj) (n : Nat), Vals xs its ∧ h.get? a = some o ∧ o.cls = .type "tuple" ∧ o.data = .seq its.toArray n := by
  rcases q with q | ⟨o, its, n, e, hc, hd, _, hv⟩
  · obtain ⟨_, its, hv, o, e, hc, n, hd⟩ := (show ObjOk P w H h a (.tup xs) from q.ok hok)
    exact ⟨its, o, n, hv, e, hc, hd⟩
  · exact ⟨its.toList, o, n, hv, KX _ _ e, hc, by simp [hd]⟩
mutual
theorem Dw.reads (hok : HOk P w H h) (KX : K.In h) : ∀ (d : WData) (v : V) (u : Value), Dw K H v d → RelV v u → ∃ as, ReadsW R cl h u d as
  | .none, _, _, x, r => by
    cases x
    cases r
    exact ⟨_, ReadsW.none⟩
  | .bool b, _, _, x, r => by
    cases x
    cases r
    exact ⟨_, ReadsW.bool b⟩
  | .int i, _, _, x, r => by
    cases x
    obtain ⟨t, rfl⟩ := r
    exact ⟨_, ReadsW.int i t⟩
  | .str s, _, _, x, r => by
    cases x
    obtain ⟨t, rfl⟩ := r
    exact ⟨_, ReadsW.str s t⟩
  | .bytes b, _, _, x, r => by
    cases x
    obtain ⟨t, rfl⟩ := r
    exact ⟨_, ReadsW.bytes _ t⟩
  | .list ds, _, _, x, r => by
    cases x with
    | lst hs ha =>
      cases r
      obtain ⟨its, o, n, rv, ho, hc, hd⟩ := sqL_at hok KX hs
      obtain ⟨as, hr⟩ := Dw.readsAll hok KX ds _ its ha rv
      exact ⟨_, ReadsW.list ho hc hd hr⟩
  | .tuple ds, _, _, x, r => by
    cases x with
    | tup hs ha =>
      cases r
      obtain ⟨its, o, n, rv, ho, hc, hd⟩ := sqT_at hok KX hs
      obtain ⟨as, hr⟩ := Dw.readsAll hok KX ds _ its ha rv
      exact ⟨_, ReadsW.tuple ho hc hd hr⟩
  | .float _, _, _, x, _ => by cases x
  | .dict _, _, _, x, _ => by cases x
  | .bytearray _, _, _, x, _ => by cases x
  | .set _, _, _, x, _ => by cases x
  | .frozenset _, _, _, x, _ => by cases x
  | .obj _ _, _, _, x, _ => by cases x
theorem Dw.readsAll (hok : HOk P w H h) (KX : K.In h) : ∀ (ds : List WData) (vs : List V) (us : List Value), DwAll K H vs ds → Vals vs us → ∃ as, ReadsAllW R cl h us ds as
  | [], _, _, x, r => by
    cases x
    cases r
    exact ⟨_, ReadsAllW.nil⟩
  | d :: ds, _, _, x, r => by
    cases x with
    | cons h1 h2 =>
      cases r with
      | cons r1 r2 =>
        obtain ⟨as, q1⟩ := Dw.reads hok KX d _ _ h1 r1
        obtain ⟨bs, q2⟩ := Dw.readsAll hok KX ds _ _ h2 r2
        exact ⟨_, ReadsAllW.cons q1 q2⟩
end
end
mutual
def plW : WData → Bool
  | .none => true
  | .bool _ => true
  | .int _ => true
  | .str _ => true
  | .bytes _ => true
  | .list xs => plWs xs
  | .tuple xs => plWs xs
  | _ => false
def plWs : List WData → Bool
  | [] => true
  | x :: r => plW x && plWs r
end
theorem plWs_map {α : Type} {f : α → WData} (h : ∀ a, plW (f a) = true) : ∀ l : List α, plWs (l.map f) = true
  | [] => rfl
  | x :: r => by
    show (plW (f x) && plWs (r.map f)) = true
    rw [h x, plWs_map h r] <;> rfl
theorem pl_enc : ∀ (c : Codec) (a : c.denote), plW (c.enc a) = true
  | .unit, _ => rfl
  | .bool, _ => rfl
  | .int _ _, _ => rfl
  | .nat _ _, _ => rfl
  | .u8, _ => rfl
  | .bytes _ _, _ => rfl
  | .text _ _ _ _, _ => rfl
  | .list _ _ c, a => plWs_map (fun x => pl_enc c x) a
  | .pair c d, a => by
    show (plW (c.enc a.1) && (plW (d.enc a.2) && true)) = true
    rw [pl_enc c a.1, pl_enc d a.2] <;> rfl
  | .triple c d e, a => by
    show (plW (c.enc a.1) && (plW (d.enc a.2.1) && (plW (e.enc a.2.2) && true))) = true
    rw [pl_enc c a.1, pl_enc d a.2.1, pl_enc e a.2.2] <;> rfl
  | .option c, none => rfl
  | .option c, some x => pl_enc c x
theorem pl_encAll : ∀ (cs : List Codec) (a : Codec.denoteAll cs), plWs (Codec.encAll cs a) = true
  | [], _ => rfl
  | c :: cs, a => by
    show (plW (c.enc a.1) && plWs (Codec.encAll cs a.2)) = true
    rw [pl_enc c a.1, pl_encAll cs a.2] <;> rfl
theorem weight_mem : ∀ {xs : List WData} {d : WData}, d ∈ xs → d.weight ≤ WData.weightAll xs
  | [], d, h => absurd h (by simp)
  | x :: r, d, h => by
    show d.weight ≤ x.weight + 1 + WData.weightAll r
    rcases List.mem_cons.mp h with e | m
    · rw [e]
      omega
    · have z := weight_mem m
      omega
def toV : Value → V
  | .none => .non
  | .bool b => .bl b
  | .int i _ => .int i
  | .str x _ => .str x
  | .bytes b _ => .byt b
  | .ref a => .ref a
  | _ => .non
def OkU (A : List Addr) : Value → Prop
  | .none => True
  | .bool _ => True
  | .int _ _ => True
  | .str _ _ => True
  | .bytes _ _ => True
  | .ref a => a ∈ A
  | _ => False
theorem OkU.mono {A B : List Addr} (h : ∀ a ∈ A, a ∈ B) : ∀ {u : Value}, OkU A u → OkU B u := fun {u} x => by
  cases u with
  | ref a => exact h a x
  | none => trivial
  | bool b => trivial
  | int i t => trivial
  | str s t => trivial
  | bytes b t => trivial
  | _ => exact False.elim x
theorem relV_toV {A : List Addr} {u : Value} (x : OkU A u) : RelV (toV u) u := by
  cases u with
  | ref a => rfl
  | none => rfl
  | bool b => rfl
  | int i t => exact ⟨t, rfl⟩
  | str s t => exact ⟨t, rfl⟩
  | bytes b t => exact ⟨t, rfl⟩
  | _ => exact False.elim x
theorem vals_toV {A : List Addr} : ∀ {vs : List Value}, (∀ u ∈ vs, OkU A u) → Vals (vs.map toV) vs
  | [], _ => .nil
  | u :: r, h => .cons (relV_toV (h u (List.mem_cons_self ..))) (vals_toV fun x hx => h x (List.mem_cons_of_mem _ hx))
def ArgOb (h : Heap) (A : List Addr) (a : Addr) : Prop := ∃ vs : List Value, vs.length ≤ sizeLine ∧ (∀ u ∈ vs, OkU A u) ∧
  (h.get? a = some { cls := .type "list", data := .seq vs.toArray } ∨ h.get? a = some { cls := .type "tuple", data := .seq vs.toArray })
theorem ArgOb.mono {h : Heap} {A B : List Addr} {a : Addr} (k : ∀ a ∈ A, a ∈ B) (x : ArgOb h A a) : ArgOb h B a := by
  obtain ⟨vs, h1, h2, h3⟩ := x
  exact ⟨vs, h1, fun u hu => (h2 u hu).mono k, h3⟩
theorem wellAll_len {P : Params} {h : Heap} : ∀ {vs : List Value} {ds : List WData}, WellAll P h vs ds → vs.length = ds.length
  | _, _, .nil => rfl
  | _, _, .cons _ b => by
    show _ + 1 = _ + 1
    rw [wellAll_len b]
theorem well_list {P : Params} {h : Heap} {v : Value} {ds : List WData} (x : Well P h v (.list ds)) : ∃ (a : Addr) (vs : List Value), v = .ref a ∧ h.get? a = some { cls := .type "list", data := .seq vs.toArray } ∧ WellAll P h vs ds := by
  cases x with
  | list ho hall => exact ⟨_, _, rfl, ho, hall⟩
theorem well_tuple {P : Params} {h : Heap} {v : Value} {ds : List WData} (x : Well P h v (.tuple ds)) : ∃ (a : Addr) (vs : List Value), v = .ref a ∧ h.get? a = some { cls := .type "tuple", data := .seq vs.toArray } ∧ WellAll P h vs ds := by
  cases x with
  | tuple ho hall => exact ⟨_, _, rfl, ho, hall⟩
theorem well_cons {P : Params} {h : Heap} {us : List Value} {d : WData} {ds : List WData} (x : WellAll P h us (d :: ds)) : ∃ (v : Value) (vs : List Value), us = v :: vs ∧ Well P h v d ∧ WellAll P h vs ds := by
  cases x with
  | cons a b => exact ⟨_, _, rfl, a, b⟩
theorem line_of {n : Nat} (h : n ≤ 1048576) : n ≤ sizeLine := Nat.le_trans h (by decide)
section
variable {P : Params} {h : Heap}
mutual
theorem area_one : ∀ (d : WData) (v : Value), Well P h v d → plW d = true → d.weight ≤ 1048576 → ∃ A : List Addr, OkU A v ∧ ∀ a ∈ A, ArgOb h A a
  | .none, _, x, _, _ => by
    cases x
    exact ⟨[], trivial, fun a m => absurd m (by simp)⟩
  | .bool b, _, x, _, _ => by
    cases x
    exact ⟨[], trivial, fun a m => absurd m (by simp)⟩
  | .int i, _, x, _, _ => by
    cases x
    exact ⟨[], trivial, fun a m => absurd m (by simp)⟩
  | .str s, _, x, _, _ => by
    cases x
    exact ⟨[], trivial, fun a m => absurd m (by simp)⟩
  | .bytes b, _, x, _, _ => by
    cases x
    exact ⟨[], trivial, fun a m => absurd m (by simp)⟩
  | .list ds, _, x, p, z => by
    obtain ⟨a, vs, rfl, ho, hall⟩ := well_list x
    have z2 : WData.weightAll ds ≤ 1048576 := z
    obtain ⟨A, h1, h2⟩ := area_all ds _ hall p fun d hd => Nat.le_trans (weight_mem hd) z2
    have k : ∀ b ∈ A, b ∈ a :: A := fun b hb => List.mem_cons_of_mem _ hb
    refine ⟨a :: A, List.mem_cons_self .., fun b hb => ?_⟩
    rcases List.mem_cons.mp hb with e | m
    · rw [e]
      exact ⟨vs, line_of (by rw [wellAll_len hall]; exact Nat.le_trans (PySem.W.length_le_weightAllW ds) z2), fun u hu => (h1 u hu).mono k, .inl ho⟩
    · exact (h2 b m).mono k
  | .tuple ds, _, x, p, z => by
    obtain ⟨a, vs, rfl, ho, hall⟩ := well_tuple x
    have z2 : WData.weightAll ds ≤ 1048576 := z
    obtain ⟨A, h1, h2⟩ := area_all ds _ hall p fun d hd => Nat.le_trans (weight_mem hd) z2
    have k : ∀ b ∈ A, b ∈ a :: A := fun b hb => List.mem_cons_of_mem _ hb
    refine ⟨a :: A, List.mem_cons_self .., fun b hb => ?_⟩
    rcases List.mem_cons.mp hb with e | m
    · rw [e]
      exact ⟨vs, line_of (by rw [wellAll_len hall]; exact Nat.le_trans (PySem.W.length_le_weightAllW ds) z2), fun u hu => (h1 u hu).mono k, .inr ho⟩
    · exact (h2 b m).mono k
  | .float _, _, _, p, _ => Bool.noConfusion (show false = true from p)
  | .dict _, _, _, p, _ => Bool.noConfusion (show false = true from p)
  | .bytearray _, _, _, p, _ => Bool.noConfusion (show false = true from p)
  | .set _, _, _, p, _ => Bool.noConfusion (show false = true from p)
  | .frozenset _, _, _, p, _ => Bool.noConfusion (show false = true from p)
  | .obj _ _, _, _, p, _ => Bool.noConfusion (show false = true from p)
theorem area_all : ∀ (ds : List WData) (vs : List Value), WellAll P h vs ds → plWs ds = true → (∀ d ∈ ds, d.weight ≤ 1048576) → ∃ A : List Addr, (∀ u ∈ vs, OkU A u) ∧ ∀ a ∈ A, ArgOb h A a
  | [], _, x, _, _ => by
    cases x
    exact ⟨[], fun u m => absurd m (by simp), fun a m => absurd m (by simp)⟩
  | d :: ds, _, x, p, z => by
    obtain ⟨v, vs, rfl, x1, x2⟩ := well_cons x
    have q : plW d = true ∧ plWs ds = true := Bool.and_eq_true_iff.mp p
    obtain ⟨A, a1, a2⟩ := area_one d v x1 q.1 (z d (List.mem_cons_self ..))
    obtain ⟨B, b1, b2⟩ := area_all ds vs x2 q.2 fun e he => z e (List.mem_cons_of_mem _ he)
    have kA : ∀ b ∈ A, b ∈ A ++ B := fun b hb => List.mem_append.mpr (.inl hb)
    have kB : ∀ b ∈ B, b ∈ A ++ B := fun b hb => List.mem_append.mpr (.inr hb)
    refine ⟨A ++ B, fun u hu => ?_, fun b hb => ?_⟩
    · rcases List.mem_cons.mp hu with e | m
      · rw [e]
        exact a1.mono kA
      · exact (b1 u m).mono kB
    · rcases List.mem_append.mp hb with m | m
      · exact (a2 b m).mono kA
      · exact (b2 b m).mono kB
end
end
def hoOf (o : Obj) : Option HO := match o.data with
  | .seq vs _ => if (o.cls == Value.type "list") = true then some (.frz o (.lst (vs.toList.map toV))) else some (.frz o (.tup (vs.toList.map toV)))
  | _ => none
def argH (K : PySem.W.Frag) (h : Heap) (A : List Addr) : Hp := fun b => if b ∈ A then (if (K.lookup b).isNone = true then (h.get? b).bind hoOf else none) else none
def OnlyF (H : Hp) : Prop := ∀ b, H b = none ∨ ∃ o u, H b = some (.frz o u)
theorem hoOf_lst (vs : List Value) : hoOf { cls := .type "list", data := .seq vs.toArray } = some (.frz { cls := .type "list", data := .seq vs.toArray } (.lst (vs.map toV))) := by
  show (if (Value.type "list" == Value.type "list") = true then some (HO.frz { cls := .type "list", data := .seq vs.toArray } (.lst (vs.toArray.toList.map toV))) else some (HO.frz { cls := .type "list", data := .seq vs.toArray } (.tup (vs.toArray.toList.map toV)))) = _
  rw [if_pos (beq_self_eq_true _)]
theorem hoOf_tup (vs : List Value) : hoOf { cls := .type "tuple", data := .seq vs.toArray } = some (.frz { cls := .type "tuple", data := .seq vs.toArray } (.tup (vs.map toV))) := by
  show (if (Value.type "tuple" == Value.type "list") = true then some (HO.frz { cls := .type "tuple", data := .seq vs.toArray } (.lst (vs.toArray.toList.map toV))) else some (HO.frz { cls := .type "tuple", data := .seq vs.toArray } (.tup (vs.toArray.toList.map toV)))) = _
  rw [if_neg (by decide)]
section
variable {P : Program} {w : World} {K : PySem.W.Frag} {h : Heap} {A : List Addr}
theorem argH_at {b : Addr} {o : Obj} (hb : b ∈ A) (hk : K.lookup b = none) (e : h.get? b = some o) : argH K h A b = hoOf o := by
  unfold argH
  rw [if_pos hb, hk, if_pos (show (none : Option Obj).isNone = true from rfl), e] <;> rfl
theorem of_argH {b : Addr} {u : HO} (q : argH K h A b = some u) : b ∈ A ∧ K.lookup b = none := by
  unfold argH at q
  by_cases hb : b ∈ A
  · rw [if_pos hb] at q
    cases hk : K.lookup b with
    | none => exact ⟨hb, rfl⟩
    | some o =>
      rw [hk, if_neg (by simp)] at q
      cases q
  · rw [if_neg hb] at q
    cases q
theorem argH_is (ar : ∀ a ∈ A, ArgOb h A a) {b : Addr} {u : HO} (q : argH K h A b = some u) : K.lookup b = none ∧ ∃ vs : List Value, vs.length ≤ sizeLine ∧ (∀ u ∈ vs, OkU A u) ∧
    ((h.get? b = some { cls := .type "list", data := .seq vs.toArray } ∧ u = .frz { cls := .type "list", data := .seq vs.toArray } (.lst (vs.map toV))) ∨
     (h.get? b = some { cls := .type "tuple", data := .seq vs.toArray } ∧ u = .frz { cls := .type "tuple", data := .seq vs.toArray } (.tup (vs.map toV)))) := by
  obtain ⟨hb, hk⟩ := of_argH q
  obtain ⟨vs, h1, h2, h3⟩ := ar b hb
  refine ⟨hk, vs, h1, h2, ?_⟩
  rcases h3 with e | e
  · rw [argH_at hb hk e, hoOf_lst] at q
    exact .inl ⟨e, (Option.some.inj q).symm⟩
  · rw [argH_at hb hk e, hoOf_tup] at q
    exact .inr ⟨e, (Option.some.inj q).symm⟩
theorem argH_only (ar : ∀ a ∈ A, ArgOb h A a) : OnlyF (argH K h A) := fun b => by
  cases q : argH K h A b with
  | none => exact .inl rfl
  | some u =>
    obtain ⟨_, vs, _, _, ⟨_, e⟩ | ⟨_, e⟩⟩ := argH_is ar q
    · exact .inr ⟨_, _, by rw [e]⟩
    · exact .inr ⟨_, _, by rw [e]⟩
theorem argH_ok (ar : ∀ a ∈ A, ArgOb h A a) : HOk P w (argH K h A) h := fun b u q => by
  obtain ⟨_, vs, h1, h2, ⟨e, rfl⟩ | ⟨e, rfl⟩⟩ := argH_is ar q
  · exact ⟨e, by rw [List.length_map]; exact h1, vs, _, vals_toV h2, e⟩
  · exact ⟨e, by rw [List.length_map]; exact h1, vs, vals_toV h2, _, e, rfl, _, rfl⟩
theorem seq_inj {c c' : Value} {vs us : List Value} (e : (some { cls := c, data := .seq vs.toArray } : Option Obj) = some { cls := c', data := .seq us.toArray }) : c = c' ∧ vs = us := by
  have e1 := Option.some.inj e
  have e2 : c = c' := congrArg Obj.cls e1
  have e3 : Data.seq vs.toArray = Data.seq us.toArray := congrArg Obj.data e1
  injection e3 with e4
  refine ⟨e2, ?_⟩
  have e5 := congrArg Array.toList e4
  simpa using e5
theorem argL (KX : K.In h) (ar : ∀ a ∈ A, ArgOb h A a) {a : Addr} {vs : List Value} (ha : a ∈ A) (e : h.get? a = some { cls := .type "list", data := .seq vs.toArray }) : (∀ u ∈ vs, OkU A u) ∧ SqL K (argH K h A) a (vs.map toV) := by
  obtain ⟨us, h1, h2, h3⟩ := ar a ha
  have hu : us = vs := by
    rcases h3 with q | q
    · rw [e] at q
      exact (seq_inj q).2.symm
    · rw [e] at q
      exact absurd (Value.type.inj (seq_inj q).1) (by decide)
  subst hu
  refine ⟨h2, ?_⟩
  cases hk : K.lookup a with
  | none => exact .inl (.inr ⟨_, by rw [argH_at ha hk e, hoOf_lst]⟩)
  | some o =>
    have e2 := KX a o hk
    rw [e] at e2
    obtain rfl := Option.some.inj e2
    exact .inr ⟨_, us.toArray, _, hk, rfl, rfl, rfl, by rw [List.size_toArray]; exact h1, by simpa using vals_toV h2⟩
theorem argT (KX : K.In h) (ar : ∀ a ∈ A, ArgOb h A a) {a : Addr} {vs : List Value} (ha : a ∈ A) (e : h.get? a = some { cls := .type "tuple", data := .seq vs.toArray }) : (∀ u ∈ vs, OkU A u) ∧ SqT K (argH K h A) a (vs.map toV) := by
  obtain ⟨us, h1, h2, h3⟩ := ar a ha
  have hu : us = vs := by
    rcases h3 with q | q
    · rw [e] at q
      exact absurd (Value.type.inj (seq_inj q).1) (by decide)
    · rw [e] at q
      exact (seq_inj q).2.symm
  subst hu
  refine ⟨h2, ?_⟩
  cases hk : K.lookup a with
  | none => exact .inl (.inr ⟨_, by rw [argH_at ha hk e, hoOf_tup]⟩)
  | some o =>
    have e2 := KX a o hk
    rw [e] at e2
    obtain rfl := Option.some.inj e2
    exact .inr ⟨_, us.toArray, _, hk, rfl, rfl, by rw [List.size_toArray]; exact h1, by simpa using vals_toV h2⟩
mutual
theorem dw_one {Pm : Params} (KX : K.In h) (ar : ∀ a ∈ A, ArgOb h A a) : ∀ (d : WData) (v : Value), Well Pm h v d → plW d = true → OkU A v → Dw K (argH K h A) (toV v) d
  | .none, _, x, _, _ => by
    cases x
    exact .non
  | .bool b, _, x, _, _ => by
    cases x
    exact .bl b
  | .int i, _, x, _, _ => by
    cases x
    exact .int i
  | .str s, _, x, _, _ => by
    cases x
    exact .str s
  | .bytes b, _, x, _, _ => by
    cases x
    have z := Dw.byt (K := K) (H := argH K h A) b.toArray
    exact z
  | .list ds, _, x, p, hu => by
    obtain ⟨a, vs, rfl, ho, hall⟩ := well_list x
    obtain ⟨h2, hs⟩ := argL KX ar hu ho
    exact .lst hs (dw_all KX ar ds _ hall p h2)
  | .tuple ds, _, x, p, hu => by
    obtain ⟨a, vs, rfl, ho, hall⟩ := well_tuple x
    obtain ⟨h2, hs⟩ := argT KX ar hu ho
    exact .tup hs (dw_all KX ar ds _ hall p h2)
  | .float _, _, _, p, _ => Bool.noConfusion (show false = true from p)
  | .dict _, _, _, p, _ => Bool.noConfusion (show false = true from p)
  | .bytearray _, _, _, p, _ => Bool.noConfusion (show false = true from p)
  | .set _, _, _, p, _ => Bool.noConfusion (show false = true from p)
  | .frozenset _, _, _, p, _ => Bool.noConfusion (show false = true from p)
  | .obj _ _, _, _, p, _ => Bool.noConfusion (show false = true from p)
theorem dw_all {Pm : Params} (KX : K.In h) (ar : ∀ a ∈ A, ArgOb h A a) : ∀ (ds : List WData) (vs : List Value), WellAll Pm h vs ds → plWs ds = true → (∀ u ∈ vs, OkU A u) → DwAll K (argH K h A) (vs.map toV) ds
  | [], _, x, _, _ => by
    cases x
    exact .nil
  | d :: ds, _, x, p, hu => by
    obtain ⟨v, vs, rfl, x1, x2⟩ := well_cons x
    have q : plW d = true ∧ plWs ds = true := Bool.and_eq_true_iff.mp p
    exact .cons (dw_one KX ar d v x1 q.1 (hu _ (List.mem_cons_self ..))) (dw_all KX ar ds vs x2 q.2 fun u m => hu u (List.mem_cons_of_mem _ m))
end
end
theorem spec_call {P : Program} {w : World} {K : PySem.W.Frag} {mg mb : Str → Option Value} {CX : CXT} {k : Nat} {fa : Addr} {fd : FuncData} {ps : List Str} {sp : Sp} {s₁ : Shared} {vals : List Value} {ds : List WData} {R : PySem.W.WRecords} {cl : Str → Option Addr} {d0 : WData}
    (KX : K.In s₁.heap) (hns : s₁.heap.Ns mainGlobals mg) (hb : s₁.heap.Ns builtinsNs mb) (hbb : ∀ x : Str, x ≠ "__name__" → mb x = bootBuiltins x) (hlim : s₁.heap.NoLimit) (hg : s₁.gens = #[])
    (hwl : WellAll w.params s₁.heap vals ds) (hpl : plWs ds = true) (hwt : ∀ d ∈ ds, d.weight ≤ 1048576) (hr : Room k callerA)
    (F : ∀ base : Heap, K.In base → base.Ns mainGlobals mg → FnOk P w K mg base CX k fa fd ps sp) (hbind : ∀ (s : Shared) (us : List Value), us.length = ps.length → BindsTo s fd ⟨us, []⟩ (ps.zip us)) (hlen : ds.length = ps.length)
    (hsp : ∀ (H : Hp) (xs : List V), OnlyF H → DwAll K H xs ds → sp xs H (fun v H' => Dw K H' v d0) fun _ _ _ => False)
    (hCX : ∀ H e s', CX [] H s₁ (fun _ _ _ => False) e s' → False) :
    codeAny (model P w) callerA (.call (.ref fa) ⟨vals, []⟩) (fun r s' => ∃ u as, r = .ok (.ret u) ∧ ReadsW R cl s'.heap u d0 as ∧ OldK s₁.heap s'.heap ∧ s'.os = s₁.os ∧ AllBare s'.gens) s₁ := by
  obtain ⟨A, ho, ar⟩ := area_all ds vals hwl hpl hwt
  have hO : OnlyF (argH K s₁.heap A) := argH_only ar
  have hok : HOk P w (argH K s₁.heap A) s₁.heap := argH_ok ar
  have hS := dw_all KX ar ds vals hwl hpl ho
  have hV := vals_toV ho
  have hK : ∀ b u, argH K s₁.heap A b = some u → K.lookup b = none := fun b u q => (argH_is ar q).1
  have noA : ∀ {b : Addr} {o : Obj} {es : Array DictEntry} {ep : Nat}, s₁.heap.get? b = some o → o.data = .dict es ep → argH K s₁.heap A b = none := fun {b o es ep} e d => by
    cases q : argH K s₁.heap A b with
    | none => rfl
    | some u =>
      obtain ⟨_, vs, _, _, ⟨e2, _⟩ | ⟨e2, _⟩⟩ := argH_is ar q
      · rw [e2] at e
        cases e
        have d' : Data.seq vs.toArray _ = Data.dict es ep := d
        cases d'
      · rw [e2] at e
        cases e
        have d' : Data.seq vs.toArray _ = Data.dict es ep := d
        cases d'
  generalize argH K s₁.heap A = H at hO hok hS hK noA
  have base_of : ∀ {b : Addr} {o : Obj}, s₁.heap.get? b = some o → H b = none → (hidT s₁.heap H).get? b = some o := fun e n => hidT_get e n
  have nsK : ∀ {b : Addr} {m : Str → Option Value}, s₁.heap.Ns b m → (hidT s₁.heap H).Ns b m := fun {b m} ⟨o, es, ep, e, d, r⟩ => ⟨o, es, ep, base_of e (noA e d), d, r⟩
  have nK : ∀ b o, K.lookup b = some o → H b = none := fun b o e => by
    cases q : H b with
    | none => rfl
    | some u =>
      rw [hK b u q] at e
      cases e
  have hKb : K.In (hidT s₁.heap H) := fun b o e => base_of (KX b o e) (nK b o e)
  have hM : Mod K mg (hidT s₁.heap H) := ⟨hKb, nsK hns, ⟨mb, nsK hb, hbb⟩, let ⟨mc, h1, h2⟩ := hlim; ⟨mc, nsK h1, h2⟩⟩
  have e0 : Env0 P w K mg (hidT s₁.heap H) callerA [] s₁ H := ⟨rfl, hM, fun b o e => of_hidT e, Nat.le_of_eq (hidT_size _ _), trivial, fun b hb => absurd (show b ∈ ([] : List Addr) from hb) (by simp), hok, .of_eq hg⟩
  have hl : vals.length = ps.length := by rw [wellAll_len hwl]; exact hlen
  refine codeAny_mono ((F _ hKb (nsK hns)).run callerA [] s₁ H ⟨vals, []⟩ vals (vals.map toV) _ _ hr e0 (hbind s₁ vals hl) hV (hsp H _ hO hS)) fun r s' x => ?_
  cases r with
  | error e => exact (hCX H e s' x).elim
  | ok fl =>
    cases fl with
    | next => exact False.elim x
    | brk => exact False.elim x
    | cont => exact False.elim x
    | ret u =>
      obtain ⟨v, H', os, bare, un, hok', r', q⟩ := x
      have kept : ∀ b o, s₁.heap.get? b = some o → s'.heap.get? b = some o := fun b o e => by
        cases q2 : H b with
        | none => exact un.keep b o e q2 (by intro z; exact absurd (show b ∈ ([] : List Addr) from z) (by simp)) (by simp)
        | some u2 =>
          rcases hO b with z | ⟨ob, u3, z⟩
          · rw [q2] at z
            cases z
          · have z2 := un.frzs b ob _ z
            obtain ⟨e1, _⟩ := hok b _ z
            obtain ⟨e2, _⟩ := hok' b _ z2
            rw [e] at e1
            cases e1
            exact e2
      have KX' : K.In s'.heap := fun b o e => kept b o (KX b o e)
      obtain ⟨as, hrd⟩ := Dw.reads (R := R) (cl := cl) hok' KX' d0 v u q r'
      exact ⟨u, as, rfl, hrd, OldK.of_keep kept, os, bare⟩
theorem layable_weight {ds : List WData} (h : WData.layableAll ds = true) : ∀ d ∈ ds, d.weight ≤ 1048576 := fun d hd =>
  (PySem.W.layableW_iff.mp (List.all_eq_true.mp h d hd)).2.2
theorem encAll_len : ∀ (cs : List Codec) (a : Codec.denoteAll cs), (Codec.encAll cs a).length = cs.length
  | [], _ => rfl
  | c :: cs, a => by
    show (Codec.encAll cs a.2).length + 1 = cs.length + 1
    rw [encAll_len cs a.2]
theorem walk_spec {r : OpenSpec} {k : Nat} {q : Program} {loose : List Str} {XP : (Str → Option Value) → Heap → Prop} {YP : World → Heap → Prop} {d : DefRec} {K : Params → PySem.W.Frag} {CX : World → CXT} {ps : List Str} {sp : World → Sp}
    (hwell : r.wellSaid = true) (hdf : d.params.defaults = []) (hlen : r.args.length = ps.length) (hr : Room k callerA)
    (hY : ∀ (w : World) (h : Heap), YP w h → (K w.params).In h)
    (F : ∀ (w : World) (mg : Str → Option Value) (fa : Addr) (h : Heap), YP w h → (K w.params).In h → h.Ns mainGlobals mg → mg d.name = some (.ref fa) →
      ∃ fd : FuncData, (∀ (s : Shared) (us : List Value), us.length = ps.length → BindsTo s fd ⟨us, []⟩ (ps.zip us)) ∧
        ∀ base : Heap, (K w.params).In base → base.Ns mainGlobals mg → FnOk r.prog w (K w.params) mg base (CX w) k fa fd ps (sp w))
    (hsp : ∀ (w : World) (H : Hp) (xs : List V) (a : Codec.denoteAll r.args), OnlyF H → Codec.withinAll r.args a = true → Codec.app r.args r.asked a = true → DwAll (K w.params) H xs (Codec.encAll r.args a) →
      sp w xs H (fun v H' => Dw (K w.params) H' v (r.ret.enc (Codec.app r.args r.f a))) fun _ _ _ => False)
    (hCX : ∀ (w : World) (H : Hp) (s : Shared) (e : Value) (s' : Shared), CX w [] H s (fun _ _ _ => False) e s' → False) :
    PySem.W.WalkOS q loose XP YP r d [] (fun f vs => PySem.call f vs) := by
  intro w s_0 s₁ mg mb G Y fa o pm cd doc dV kV ho hd hcd hD hmg hg args vals as hpre hlay hrd hwl hlo
  obtain ⟨a, e1, e2⟩ := PySem.W.os_pre_some hpre
  obtain ⟨e3, hwi⟩ := Codec.encAll_of_decAll r.args args a e1
  subst e3
  have KX := hY w _ Y
  obtain ⟨fd, hb, hF⟩ := F w mg fa _ Y KX G.T.g hmg
  refine PySem.W.enter_call (codeAny_mono (spec_call (R := []) (cl := classAt s_0.heap) (d0 := r.ret.enc (Codec.app r.args r.f a)) KX G.T.g G.T.b G.T.builtins G.T.nolimit hg hwl (pl_encAll _ _) (layable_weight hlay) hr hF hb (by rw [encAll_len]; exact hlen)
    (fun H xs hO hS => hsp w H xs a hO hwi e2 hS) fun H e s' => hCX w H s₁ e s') fun r' s' hq => ?_)
  obtain ⟨u, as', rfl, h1, h2, h3, h4⟩ := hq
  exact ⟨.inl ⟨u, _, as', rfl, fun _ => rfl, h1, (OpenSpec.post_iff hwell hwi _ _).mpr rfl, fun z => Bool.noConfusion (show false = true from z)⟩, h2, h3, h4⟩
theorem walk_specK {r : OpenSpec} {k : Nat} {q : Program} {loose : List Str} {XP : (Str → Option Value) → Heap → Prop} {YP : World → Heap → Prop} {d : DefRec} {K : Params → PySem.W.Frag} {CX : CXT} {ps : List Str} {sp : PySem.W.Frag → Sp}
    (hwell : r.wellSaid = true) (hdf : d.params.defaults = []) (hlen : r.args.length = ps.length) (hr : Room k callerA)
    (hY : ∀ (w : World) (h : Heap), YP w h → (K w.params).In h)
    (F : ∀ (w : World) (mg : Str → Option Value) (fa : Addr) (h : Heap), YP w h → (K w.params).In h → h.Ns mainGlobals mg → mg d.name = some (.ref fa) →
      ∃ fd : FuncData, (∀ (s : Shared) (us : List Value), us.length = ps.length → BindsTo s fd ⟨us, []⟩ (ps.zip us)) ∧
        ∀ base : Heap, (K w.params).In base → base.Ns mainGlobals mg → FnOk r.prog w (K w.params) mg base CX k fa fd ps (sp (K w.params)))
    (hsp : ∀ (K : PySem.W.Frag) (H : Hp) (xs : List V) (a : Codec.denoteAll r.args), OnlyF H → Codec.withinAll r.args a = true → Codec.app r.args r.asked a = true → DwAll K H xs (Codec.encAll r.args a) →
      sp K xs H (fun v H' => Dw K H' v (r.ret.enc (Codec.app r.args r.f a))) fun _ _ _ => False)
    (hCX : ∀ (H : Hp) (s : Shared) (e : Value) (s' : Shared), CX [] H s (fun _ _ _ => False) e s' → False) :
    PySem.W.WalkOS q loose XP YP r d [] (fun f vs => PySem.call f vs) :=
  walk_spec (K := K) (CX := fun _ => CX) (sp := fun w => sp (K w.params)) hwell hdf hlen hr hY F (fun w H xs a h1 h2 h3 h4 => hsp (K w.params) H xs a h1 h2 h3 h4) fun _ H s e s' => hCX H s e s'
end L2
end
section
namespace Dc
open Ks345

/-! numbers and their bits -/
theorem xor_and (m n : Nat) : (m ^^^ n) + 2 * (m &&& n) = m + n := by
  induction m using Nat.strongRecOn generalizing n with
  | _ m ih =>
    by_cases h : m = 0
    · subst h; simp
    · have i := ih (m / 2) (by omega) (n / 2)
      have e1 : (m ^^^ n) / 2 = m / 2 ^^^ n / 2 := Nat.xor_div_two
      have e2 : (m &&& n) / 2 = m / 2 &&& n / 2 := Nat.and_div_two
      have e3 : (m ^^^ n) % 2 = (m + n) % 2 := by
        have q : ((m ^^^ n) % 2) = (m % 2 ^^^ n % 2) := by
          have := Nat.xor_mod_two_pow (a := m) (b := n) (n := 1)
          simpa using this
        rw [q, Nat.add_mod]
        rcases Nat.mod_two_eq_zero_or_one m with a | a <;> rcases Nat.mod_two_eq_zero_or_one n with b | b <;> rw [a, b] <;> rfl
      have e4 : (m &&& n) % 2 = (m % 2) * (n % 2) := by
        have q : ((m &&& n) % 2) = (m % 2 &&& n % 2) := by
          have := Nat.and_mod_two_pow (a := m) (b := n) (n := 1)
          simpa using this
        rw [q]
        rcases Nat.mod_two_eq_zero_or_one m with a | a <;> rcases Nat.mod_two_eq_zero_or_one n with b | b <;> rw [a, b] <;> rfl
      rcases Nat.mod_two_eq_zero_or_one m with a | a <;> rcases Nat.mod_two_eq_zero_or_one n with b | b <;> rw [a, b] at e4 <;> omega
theorem and_zero_of {a b p : Nat} (h : b < 2 ^ p) : (2 ^ p * a) &&& b = 0 := by
  have e : b = b % 2 ^ p := (Nat.mod_eq_of_lt h).symm
  rw [e, ← Nat.and_two_pow_sub_one_eq_mod, Nat.and_comm b, ← Nat.and_assoc, Nat.and_two_pow_sub_one_eq_mod]
  simp
theorem xor_lt {a b : Nat} (ha : a < 2 ^ 64) (hb : b < 2 ^ 64) : a ^^^ b < 2 ^ 64 := Nat.xor_lt_two_pow ha hb
theorem turn_and {x p : Nat} (hx : x < 2 ^ 64) (hp : p ≤ 64) : ((x * 2 ^ p) % 2 ^ 64) &&& (x / 2 ^ (64 - p)) = 0 := by
  have e : (2 : Nat) ^ 64 = 2 ^ p * 2 ^ (64 - p) := by rw [← Nat.pow_add]; congr 1; omega
  have e2 : (x * 2 ^ p) % 2 ^ 64 = 2 ^ p * (x % 2 ^ (64 - p)) := by
    rw [Nat.mul_comm x, e, Nat.mul_mod_mul_left]
  rw [e2]
  apply and_zero_of
  rw [Nat.div_lt_iff_lt_mul (Nat.two_pow_pos _), ← e]
  exact hx
theorem turn_lt {x p : Nat} (hx : x < 2 ^ 64) (hp : p ≤ 64) : turn p x < 2 ^ 64 := by
  have e : (2 : Nat) ^ 64 = 2 ^ p * 2 ^ (64 - p) := by rw [← Nat.pow_add]; congr 1; omega
  have e2 : (x * 2 ^ p) % 2 ^ 64 = 2 ^ p * (x % 2 ^ (64 - p)) := by
    rw [Nat.mul_comm x, e, Nat.mul_mod_mul_left]
  have h1 : x / 2 ^ (64 - p) < 2 ^ p := by
    rw [Nat.div_lt_iff_lt_mul (Nat.two_pow_pos _), ← e]
    exact hx
  have h2 : x % 2 ^ (64 - p) < 2 ^ (64 - p) := Nat.mod_lt _ (Nat.two_pow_pos _)
  unfold turn W
  rw [e2, e]
  have h3 : 2 ^ p * (x % 2 ^ (64 - p) + 1) ≤ 2 ^ p * 2 ^ (64 - p) := Nat.mul_le_mul_left _ h2
  rw [Nat.mul_add] at h3
  omega
theorem add_lt (a b : Nat) : add a b < 2 ^ 64 := Nat.mod_lt _ (by decide)

/-! the four numbers -/
structure Ok (v : Four) : Prop where
  a : v.a < 2 ^ 64
  b : v.b < 2 ^ 64
  c : v.c < 2 ^ 64
  d : v.d < 2 ^ 64
theorem round_eq (v : Four) : round v = ⟨add (turn 32 (add v.a v.b)) ((turn 16 v.d) ^^^ (add v.c v.d)), (turn 17 ((turn 13 v.b) ^^^ (add v.a v.b))) ^^^ (add (add v.c v.d) ((turn 13 v.b) ^^^ (add v.a v.b))), turn 32 (add (add v.c v.d) ((turn 13 v.b) ^^^ (add v.a v.b))), (turn 21 ((turn 16 v.d) ^^^ (add v.c v.d))) ^^^ (add (turn 32 (add v.a v.b)) ((turn 16 v.d) ^^^ (add v.c v.d)))⟩ := rfl
theorem word_eq (v : Four) (m : Nat) : word v m = ⟨(rounds 2 ⟨v.a, v.b, v.c, v.d ^^^ m⟩).a ^^^ m, (rounds 2 ⟨v.a, v.b, v.c, v.d ^^^ m⟩).b, (rounds 2 ⟨v.a, v.b, v.c, v.d ^^^ m⟩).c, (rounds 2 ⟨v.a, v.b, v.c, v.d ^^^ m⟩).d⟩ := rfl
theorem begun_eq (key : List Nat) : begun key = ⟨number (key.take 8) ^^^ 8317987319222330741, number (key.drop 8) ^^^ 7237128888997146477, number (key.take 8) ^^^ 7816392313619706465, number (key.drop 8) ^^^ 8387220255154660723⟩ := rfl
theorem Ok.round {v : Four} (h : Ok v) : Ok (Ks345.round v) := by
  have hb1 : (turn 13 v.b) ^^^ (add v.a v.b) < 2 ^ 64 := xor_lt (turn_lt h.b (by decide)) (add_lt _ _)
  have hd1 : (turn 16 v.d) ^^^ (add v.c v.d) < 2 ^ 64 := xor_lt (turn_lt h.d (by decide)) (add_lt _ _)
  rw [round_eq]
  generalize (turn 13 v.b) ^^^ (add v.a v.b) = x at *
  generalize (turn 16 v.d) ^^^ (add v.c v.d) = y at *
  constructor
  · exact add_lt _ _
  · exact xor_lt (turn_lt hb1 (by decide)) (add_lt _ _)
  · exact turn_lt (add_lt _ _) (by decide)
  · exact xor_lt (turn_lt hd1 (by decide)) (add_lt _ _)
/-- the rounds over any step: the step's own text is not looked into -/
def rnds (f : Four → Four) : Nat → Four → Four
  | 0, v => v
  | n + 1, v => rnds f n (f v)
theorem rounds_rnds : rounds = rnds round := by
  delta rounds rnds
  with_unfolding_all rfl
theorem rnds_zero (f : Four → Four) (v : Four) : rnds f 0 v = v := rfl
theorem rnds_succ (f : Four → Four) (n : Nat) (v : Four) : rnds f (n + 1) v = rnds f n (f v) := rfl
theorem rnds_snoc (f : Four → Four) : ∀ (n : Nat) (v : Four), rnds f (n + 1) v = f (rnds f n v)
  | 0, v => rfl
  | n + 1, v => by rw [rnds_succ, rnds_snoc f n (f v), ← rnds_succ f n v]
theorem rounds_succ (n : Nat) (v : Four) : rounds (n + 1) v = round (rounds n v) := by
  rw [rounds_rnds]
  exact rnds_snoc round n v
theorem rounds_zero (v : Four) : rounds 0 v = v := by
  rw [rounds_rnds]
  exact rnds_zero round v
theorem Ok.rounds : ∀ (n : Nat) {v : Four}, Ok v → Ok (Ks345.rounds n v)
  | 0, v, h => by rw [rounds_zero]; exact h
  | n + 1, v, h => by rw [rounds_succ]; exact (Ok.rounds n h).round
theorem Ok.word {v : Four} (h : Ok v) {m : Nat} (hm : m < 2 ^ 64) : Ok (Ks345.word v m) := by
  have q0 : Ok ⟨v.a, v.b, v.c, v.d ^^^ m⟩ := by
    constructor
    · exact h.a
    · exact h.b
    · exact h.c
    · exact xor_lt h.d hm
  have q := Ok.rounds 2 q0
  rw [word_eq]
  generalize Ks345.rounds 2 ⟨v.a, v.b, v.c, v.d ^^^ m⟩ = r at *
  constructor
  · exact xor_lt q.a hm
  · exact q.b
  · exact q.c
  · exact q.d

/-! bytes and numbers -/
def Bts (l : List Nat) : Prop := ∀ x ∈ l, x < 256
theorem number_lt : ∀ {l : List Nat}, Bts l → number l < 256 ^ l.length
  | [], _ => by simp [number]
  | b :: l, h => by
    have h1 : b < 256 := h b List.mem_cons_self
    have h2 := number_lt (l := l) fun x hx => h x (List.mem_cons_of_mem _ hx)
    have e : (256 : Nat) ^ (b :: l).length = 256 ^ l.length * 256 := by rw [List.length_cons, Nat.pow_succ]
    rw [e]
    show b + 256 * number l < _
    omega
theorem number_lt64 {l : List Nat} (h : Bts l) (hl : l.length ≤ 8) : number l < 2 ^ 64 := by
  have h1 := number_lt h
  have h2 : (256 : Nat) ^ l.length ≤ 256 ^ 8 := Nat.pow_le_pow_right (by decide) hl
  have h3 : (256 : Nat) ^ 8 = 2 ^ 64 := by decide
  omega
theorem number_drop {l : List Nat} {i b : Nat} (h : l[i]? = some b) : number (l.drop i) = b + 256 * number (l.drop (i + 1)) := by
  obtain ⟨hi, e⟩ := List.getElem?_eq_some_iff.mp h
  rw [List.drop_eq_getElem_cons hi, e]
  rfl
theorem bytes_succ (n : Nat) : ∀ k, bytes (k + 1) n = bytes k n ++ [n / 256 ^ k % 256]
  | 0 => by simp [bytes]
  | k + 1 => by
    show n % 256 :: bytes (k + 1) (n / 256) = (n % 256 :: bytes k (n / 256)) ++ [n / 256 ^ (k + 1) % 256]
    rw [bytes_succ (n / 256) k, Nat.div_div_eq_div_mul, Nat.pow_succ, Nat.mul_comm (256 ^ k) 256]
    rfl
theorem bytes_length (n : Nat) : ∀ k, (bytes k n).length = k := by
  intro k
  induction k generalizing n with
  | zero => rfl
  | succ k ih => show (bytes k (n / 256)).length + 1 = k + 1; rw [ih]
theorem bytes_bts (n : Nat) : ∀ k, Bts (bytes k n) := by
  intro k
  induction k generalizing n with
  | zero => intro x hx; cases hx
  | succ k ih =>
    intro x hx
    rcases List.mem_cons.mp hx with rfl | hx
    · exact Nat.mod_lt _ (by decide)
    · exact ih _ x hx
theorem number_bytes : ∀ (k n : Nat), n < 256 ^ k → number (bytes k n) = n
  | 0, n, h => by simp at h; subst h; rfl
  | k + 1, n, h => by
    show n % 256 + 256 * number (bytes k (n / 256)) = n
    rw [number_bytes k (n / 256) (by rw [Nat.pow_succ] at h; omega)]
    omega
theorem bytes_number : ∀ (l : List Nat), Bts l → bytes l.length (number l) = l
  | [], _ => rfl
  | b :: l, h => by
    have h1 : b < 256 := h b List.mem_cons_self
    have ih := bytes_number l fun x hx => h x (List.mem_cons_of_mem _ hx)
    show (b + 256 * number l) % 256 :: bytes l.length ((b + 256 * number l) / 256) = b :: l
    have e1 : (b + 256 * number l) % 256 = b := by omega
    have e2 : (b + 256 * number l) / 256 = number l := by omega
    rw [e1, e2, ih]

/-! the words of a message -/
def wordsFrom : Nat → Nat → List Nat → List Nat
  | 0, _, _ => []
  | f + 1, n, m => if m.length < 8 then [number m + (n % 256) * 2 ^ 56] else number (m.take 8) :: wordsFrom f n (m.drop 8)
theorem taken_words : ∀ (f n : Nat) (v : Four) (m : List Nat), taken f n v m = (wordsFrom f n m).foldl word v
  | 0, _, _, _ => rfl
  | f + 1, n, v, m => by
    unfold taken wordsFrom
    by_cases h : m.length < 8
    · rw [if_pos h, if_pos h]; rfl
    · rw [if_neg h, if_neg h]; exact taken_words f n _ _
theorem Bts.take {l : List Nat} (h : Bts l) (k : Nat) : Bts (l.take k) := fun x hx => h x (List.mem_of_mem_take hx)
theorem Bts.drop {l : List Nat} (h : Bts l) (k : Nat) : Bts (l.drop k) := fun x hx => h x (List.mem_of_mem_drop hx)
theorem last_lt {m : List Nat} (hb : Bts m) (h : m.length < 8) : number m < 2 ^ 56 := by
  have h1 := number_lt hb
  have h2 : (256 : Nat) ^ m.length ≤ 256 ^ 7 := Nat.pow_le_pow_right (by decide) (by omega)
  have h3 : (256 : Nat) ^ 7 = 2 ^ 56 := by decide
  omega
theorem words_lt : ∀ (f n : Nat) (m : List Nat), Bts m → ∀ w ∈ wordsFrom f n m, w < 2 ^ 64
  | 0, _, _, _, w, h => by cases h
  | f + 1, n, m, hb, w, h => by
    unfold wordsFrom at h
    by_cases hl : m.length < 8
    · rw [if_pos hl] at h
      have e := List.mem_singleton.mp h
      have h1 := last_lt hb hl
      have h2 : n % 256 < 256 := Nat.mod_lt _ (by decide)
      omega
    · rw [if_neg hl] at h
      rcases List.mem_cons.mp h with e | h
      · rw [e]
        exact number_lt64 (hb.take 8) (by rw [List.length_take]; omega)
      · exact words_lt f n _ (hb.drop 8) w h
theorem Ok.begun {key : List Nat} (hb : Bts key) (hl : key.length = 16) : Ok (Ks345.begun key) := by
  have h1 : number (key.take 8) < 2 ^ 64 := number_lt64 (hb.take 8) (by rw [List.length_take]; omega)
  have h2 : number (key.drop 8) < 2 ^ 64 := number_lt64 (hb.drop 8) (by rw [List.length_drop]; omega)
  rw [begun_eq]
  constructor
  · exact xor_lt h1 (by decide)
  · exact xor_lt h2 (by decide)
  · exact xor_lt h1 (by decide)
  · exact xor_lt h2 (by decide)
theorem Ok.fold {ws : List Nat} (hw : ∀ w ∈ ws, w < 2 ^ 64) : ∀ {v : Four}, Ok v → Ok (ws.foldl Ks345.word v) := by
  induction ws with
  | nil => intro v h; exact h
  | cons w ws ih => intro v h; exact ih (fun x hx => hw x (List.mem_cons_of_mem _ hx)) (h.word (hw w List.mem_cons_self))
/-- the four numbers behind all words, and behind the last rounds -/
def behind (key m : List Nat) : Four := (wordsFrom (m.length / 8 + 1) m.length m).foldl word (begun key)
def atEnd (v : Four) : Four := rounds 4 ⟨v.a, v.b, v.c ^^^ 255, v.d⟩
theorem tag_eq (key m : List Nat) : tag key m = (atEnd (behind key m)).a ^^^ ((atEnd (behind key m)).b ^^^ ((atEnd (behind key m)).c ^^^ (atEnd (behind key m)).d)) := by
  unfold tag behind
  rw [← taken_words]
  rfl
theorem Ok.behind {key m : List Nat} (hb : Bts key) (hl : key.length = 16) (hm : Bts m) : Ok (Dc.behind key m) := by
  unfold Dc.behind
  exact Ok.fold (words_lt _ _ _ hm) (Ok.begun hb hl)
theorem Ok.atEnd {v : Four} (h : Ok v) : Ok (Dc.atEnd v) := by
  unfold Dc.atEnd
  apply Ok.rounds
  constructor
  · exact h.a
  · exact h.b
  · exact xor_lt h.c (by decide)
  · exact h.d
theorem tag_lt {key m : List Nat} (hb : Bts key) (hl : key.length = 16) (hm : Bts m) : tag key m < 2 ^ 64 := by
  have q := (Ok.behind hb hl hm).atEnd
  rw [tag_eq]
  generalize Dc.atEnd (Dc.behind key m) = w at *
  exact xor_lt q.a (xor_lt q.b (xor_lt q.c q.d))
end Dc
end
section
namespace Dc
open PyFlat

/-- how a call stands in the list: its number, what is behind it, what it is -/
inductive Shaped : Int → List Int → List (List Int) → Prop
  | row (p n : Int) (x : List Int) (hp : p = 0 ∨ p = 12) (hn : n = (x.length : Int)) : Shaped p (n :: x) [[p], x]
  | one (p a : Int) (hp : p = 1 ∨ p = 2 ∨ p = 4 ∨ p = 5 ∨ p = 7 ∨ p = 8 ∨ p = 11 ∨ p = 13) : Shaped p [a] [[p, a]]
  | two (p a b : Int) (hp : p = 3 ∨ p = 6 ∨ p = 9) : Shaped p [a, b] [[p, a, b]]
  | non (p : Int) (hp : p = 10 ∨ p = 14 ∨ p = 15) : Shaped p [] [[p]]

theorem call_none {shape : Int → Option (Nat × Nat)} {p : Int} {r : List Int} (h : shape p = none) : call shape (p :: r) = none := by
  simp only [call, h]
theorem call_plain {shape : Int → Option (Nat × Nat)} {p : Int} {r : List Int} {n : Nat} {c : List (List Int)} {t : List Int} (h : shape p = some (n, 0)) (q : call shape (p :: r) = some (c, t)) :
    n ≤ r.length ∧ c = [p :: r.take n] ∧ t = r.drop n := by
  simp only [call, h, rows] at q
  by_cases hl : r.length < n
  · rw [if_pos hl] at q; cases q
  · rw [if_neg hl] at q
    have e := Option.some.inj q
    cases e
    exact ⟨by omega, rfl, rfl⟩
theorem call_row {shape : Int → Option (Nat × Nat)} {p : Int} {r : List Int} {c : List (List Int)} {t : List Int} (h : shape p = some (0, 1)) (q : call shape (p :: r) = some (c, t)) :
    ∃ (x : List Int), r = (x.length : Int) :: (x ++ t) ∧ c = [[p], x] := by
  simp only [call, h, rows, Nat.not_lt_zero, if_false, List.drop_zero, List.take_zero] at q
  cases r with
  | nil => simp only [row] at q; cases q
  | cons n r =>
    simp only [row] at q
    by_cases hn : 0 ≤ n ∧ n.toNat ≤ r.length
    · rw [if_pos hn] at q
      have e := Option.some.inj q
      cases e
      refine ⟨r.take n.toNat, ?_, rfl⟩
      rw [List.take_append_drop, List.length_take, Nat.min_eq_left hn.2]
      congr 1
      omega
    · rw [if_neg hn] at q; cases q
theorem shaped_of {p : Int} {r : List Int} {c : List (List Int)} {t : List Int} (q : call PyKs347.shape (p :: r) = some (c, t)) : ∃ g, r = g ++ t ∧ Shaped p g c := by
  have one : ∀ {p : Int}, PyKs347.shape p = some (1, 0) → (p = 1 ∨ p = 2 ∨ p = 4 ∨ p = 5 ∨ p = 7 ∨ p = 8 ∨ p = 11 ∨ p = 13) → call PyKs347.shape (p :: r) = some (c, t) → ∃ g, r = g ++ t ∧ Shaped p g c := by
    intro p h hp q
    obtain ⟨h1, h2, h3⟩ := call_plain h q
    match r, h1 with
    | a :: r, _ => exact ⟨[a], by rw [h3]; rfl, by rw [h2]; exact .one p a hp⟩
  have two : ∀ {p : Int}, PyKs347.shape p = some (2, 0) → (p = 3 ∨ p = 6 ∨ p = 9) → call PyKs347.shape (p :: r) = some (c, t) → ∃ g, r = g ++ t ∧ Shaped p g c := by
    intro p h hp q
    obtain ⟨h1, h2, h3⟩ := call_plain h q
    match r, h1 with
    | [_], h1 => simp at h1
    | a :: b :: r, _ => exact ⟨[a, b], by rw [h3]; rfl, by rw [h2]; exact .two p a b hp⟩
  have non : ∀ {p : Int}, PyKs347.shape p = some (0, 0) → (p = 10 ∨ p = 14 ∨ p = 15) → call PyKs347.shape (p :: r) = some (c, t) → ∃ g, r = g ++ t ∧ Shaped p g c := by
    intro p h hp q
    obtain ⟨h1, h2, h3⟩ := call_plain h q
    exact ⟨[], by rw [h3]; rfl, by rw [h2]; exact .non p hp⟩
  have rw' : ∀ {p : Int}, PyKs347.shape p = some (0, 1) → (p = 0 ∨ p = 12) → call PyKs347.shape (p :: r) = some (c, t) → ∃ g, r = g ++ t ∧ Shaped p g c := by
    intro p h hp q
    obtain ⟨x, h1, h2⟩ := call_row h q
    exact ⟨(x.length : Int) :: x, by rw [h1]; rfl, by rw [h2]; exact .row p _ x hp rfl⟩
  by_cases h0 : p = 0
  · subst h0; exact rw' rfl (.inl rfl) q
  by_cases h1 : p = 1
  · subst h1; exact one rfl (by decide) q
  by_cases h2 : p = 2
  · subst h2; exact one rfl (by decide) q
  by_cases h3 : p = 3
  · subst h3; exact two rfl (by decide) q
  by_cases h4 : p = 4
  · subst h4; exact one rfl (by decide) q
  by_cases h5 : p = 5
  · subst h5; exact one rfl (by decide) q
  by_cases h6 : p = 6
  · subst h6; exact two rfl (by decide) q
  by_cases h7 : p = 7
  · subst h7; exact one rfl (by decide) q
  by_cases h8 : p = 8
  · subst h8; exact one rfl (by decide) q
  by_cases h9 : p = 9
  · subst h9; exact two rfl (by decide) q
  by_cases h10 : p = 10
  · subst h10; exact non rfl (by decide) q
  by_cases h11 : p = 11
  · subst h11; exact one rfl (by decide) q
  by_cases h12 : p = 12
  · subst h12; exact rw' rfl (.inr rfl) q
  by_cases h13 : p = 13
  · subst h13; exact one rfl (by decide) q
  by_cases h14 : p = 14
  · subst h14; exact non rfl (by decide) q
  by_cases h15 : p = 15
  · subst h15; exact non rfl (by decide) q
  · exfalso
    have e : PyKs347.shape p = none := by
      unfold PyKs347.shape
      simp only [h0, h1, h2, h3, h4, h5, h6, h7, h8, h9, h10, h11, h12, h13, h14, h15, if_false]
    rw [call_none e] at q
    cases q
theorem calls_cons {f : Nat} {l : List Int} {cs : List (List (List Int))} (hl : l ≠ []) (q : calls PyKs347.shape f l = some cs) :
    ∃ (p : Int) (g t : List Int) (c : List (List Int)) (cs' : List (List (List Int))) (f' : Nat), l = p :: (g ++ t) ∧ Shaped p g c ∧ cs = c :: cs' ∧ calls PyKs347.shape f' t = some cs' := by
  match f, l, hl with
  | 0, p :: r, _ => simp only [calls] at q; cases q
  | f + 1, p :: r, _ =>
    simp only [calls] at q
    cases e : call PyKs347.shape (p :: r) with
    | none => rw [e] at q; cases q
    | some ct =>
      obtain ⟨c, t⟩ := ct
      rw [e] at q
      simp only at q
      cases e2 : calls PyKs347.shape f t with
      | none => rw [e2] at q; cases q
      | some cs' =>
        rw [e2] at q
        obtain ⟨g, hg, hs⟩ := shaped_of e
        exact ⟨p, g, t, c, cs', f, by rw [hg], hs, (Option.some.inj q).symm, e2⟩
theorem calls_nil {f : Nat} {cs : List (List (List Int))} (q : calls PyKs347.shape f [] = some cs) : cs = [] := by
  cases f <;> (simp only [calls] at q; exact (Option.some.inj q).symm)
theorem whole_shaped {p : Int} {g : List Int} {c : List (List Int)} (s : Shaped p g c) : PyKs347.whole c = c := by
  cases s with
  | row n x hp hn => rcases hp with rfl | rfl <;> rfl
  | one a hp => rcases hp with rfl | rfl | rfl | rfl | rfl | rfl | rfl | rfl <;> rfl
  | two a b hp => rcases hp with rfl | rfl | rfl <;> rfl
  | non hp => rcases hp with rfl | rfl | rfl <;> rfl
theorem map_whole : ∀ (cs : List (List (List Int))) (f : Nat) (l : List Int), calls PyKs347.shape f l = some cs → cs.map PyKs347.whole = cs
  | [], _, _, _ => rfl
  | c :: cs, f, l, q => by
    by_cases hl : l = []
    · subst hl
      have e := calls_nil q
      cases e
    · obtain ⟨p, g, t, c', cs', f', _, hs, e, q'⟩ := calls_cons hl q
      cases e
      rw [List.map_cons, whole_shaped hs, map_whole cs f' t q']

/-- the answers from a state on -/
def rest (s : Ks347.Abs) (cs : List (List (List Int))) : List Int := told (played Ks347Neutral.step s cs)
theorem rest_cons (s : Ks347.Abs) (c : List (List Int)) (cs : List (List (List Int))) :
    rest s (c :: cs) = (((Ks347Neutral.step s c).2.length : Int) :: (Ks347Neutral.step s c).2) ++ rest (Ks347Neutral.step s c).1 cs := by
  unfold rest told
  rw [played, List.flatMap_cons]
theorem runs_played (s : Ks347.Abs) (cs : List (List (List Int))) : Ks347Neutral.runs s cs = played Ks347Neutral.step s cs := by
  induction cs generalizing s with
  | nil => rfl
  | cons c cs ih =>
    show _ :: Ks347Neutral.runs _ cs = _ :: played _ _ cs
    rw [ih]
theorem foldl_shift (l : List Nat) (k : Nat) : l.foldl (· + ·) k = k + l.foldl (· + ·) 0 := by
  induction l generalizing k with
  | nil => rfl
  | cons a l ih =>
    rw [List.foldl_cons, List.foldl_cons, ih (k + a), ih (0 + a)]
    omega
theorem played_length (s : Ks347.Abs) (cs : List (List (List Int))) : (played Ks347Neutral.step s cs).length = cs.length := by
  induction cs generalizing s with
  | nil => rfl
  | cons c cs ih => rw [played, List.length_cons, List.length_cons, ih]
theorem told_length (ls : List (List Int)) : (told ls).length = ls.length + (ls.map List.length).foldl (· + ·) 0 := by
  induction ls with
  | nil => rfl
  | cons a ls ih =>
    have e : told (a :: ls) = ((a.length : Int) :: a) ++ told ls := by unfold told; rw [List.flatMap_cons]
    rw [e, List.length_append, ih, List.length_cons, List.length_cons, List.map_cons, List.foldl_cons, foldl_shift _ (0 + a.length)]
    omega
/-- what is asked of the list, as the proof takes it -/
theorem asked_facts {ns : List Int} (h : PyKs347.answers_asked ns = true) :
    ∃ cs, calls PyKs347.shape ns.length ns = some cs ∧ (∀ c ∈ cs, Ks347Neutral.asked1 c = true) ∧ PyKs347.answers ns = rest {} cs ∧ (PyKs347.answers ns).length ≤ 1005000 := by
  unfold PyKs347.answers_asked PyKs347.calls at h
  cases e : calls PyKs347.shape ns.length ns with
  | none => rw [e] at h; cases h
  | some cs =>
    rw [e] at h
    simp only [map_whole _ _ _ e, Bool.and_eq_true] at h
    obtain ⟨h1, h2⟩ := h
    unfold Ks347Neutral.asked at h2
    simp only [Bool.and_eq_true, decide_eq_true_eq] at h2
    obtain ⟨⟨⟨⟨a1, _⟩, a3⟩, _⟩, a5⟩ := h2
    have e3 : PyKs347.answers ns = rest {} cs := by
      unfold PyKs347.answers PyKs347.calls
      rw [e]
      simp only [map_whole _ _ _ e]
      rfl
    refine ⟨cs, rfl, List.all_eq_true.mp a1, e3, ?_⟩
    rw [e3]
    unfold rest
    rw [told_length, played_length]
    have e4 : Ks347Neutral.f cs = played Ks347Neutral.step {} cs := runs_played _ _
    rw [e4] at a5
    omega
end Dc
end
section
set_option linter.all false
namespace Dc
open Ks347 (Abs Room Ans no TOP full made setRoom stays ended good)

/-! the calls, by their number and the whole numbers behind it -/
inductive AtRoom : Nat → List Nat → Ks347.Call → Prop
  | come (r l : Nat) : AtRoom 3 [r, l] (.come r l)
  | copy (r : Nat) : AtRoom 4 [r] (.copy r)
  | lost (r : Nat) : AtRoom 5 [r] (.lost r)
  | longer (r l : Nat) : AtRoom 6 [r, l] (.longer r l)
  | leave (r : Nat) : AtRoom 7 [r] (.leave r)
  | shut (r : Nat) : AtRoom 8 [r] (.shut r)
  | stay (r : Nat) : AtRoom 13 [r] (.stay r)
inductive AtDesk : Nat → List Nat → Ks347.Call → Prop
  | room (z : Nat) : AtDesk 1 [z] (.room z)
  | day (d : Nat) : AtDesk 2 [d] (.day d)
  | staff (z l : Nat) : AtDesk 9 [z, l] (.staff z l)
  | recall : AtDesk 10 [] .recall
  | need (l : Nat) : AtDesk 11 [l] (.need l)
  | whose (b : List Nat) (hb : Bts b) : AtDesk 12 (b.length :: b) (.whose b)
  | free : AtDesk 14 [] .free
  | state : AtDesk 15 [] .state
inductive Kind : Nat → List Nat → Ks347.Call → Prop
  | begin (b : List Nat) (hb : Bts b) : Kind 0 (b.length :: b) (.begin b)
  | room {q gs c} (h : AtRoom q gs c) : Kind q gs c
  | desk {q gs c} (h : AtDesk q gs c) : Kind q gs c
theorem nat32 {z : Int} {k : Nat} (h : Ks347Neutral.natural z k = true) : 0 ≤ z ∧ z < 2 ^ k := by
  unfold Ks347Neutral.natural at h
  rw [Bool.and_eq_true, decide_eq_true_eq, decide_eq_true_eq] at h
  exact h
theorem cast_map {x : List Int} (h : ∀ z ∈ x, 0 ≤ z) : x = (x.map Int.toNat).map (fun n : Nat => (n : Int)) := by
  induction x with
  | nil => rfl
  | cons a x ih =>
    have h1 : 0 ≤ a := h a List.mem_cons_self
    have h2 := ih fun z hz => h z (List.mem_cons_of_mem _ hz)
    rw [List.map_cons, List.map_cons, ← h2]
    congr 1
    omega
theorem all8 {x : List Int} (h : (x.all fun z => Ks347Neutral.natural z 8) = true) : (∀ z ∈ x, 0 ≤ z) ∧ Bts (x.map Int.toNat) := by
  rw [List.all_eq_true] at h
  refine ⟨fun z hz => (nat32 (h z hz)).1, fun n hn => ?_⟩
  obtain ⟨z, hz, rfl⟩ := List.mem_map.mp hn
  have := nat32 (h z hz)
  omega
abbrev stepOf (c : List (List Int)) (cl : Ks347.Call) : Prop := ∀ a, Ks347Neutral.step a c = Ks347Neutral.sa (Ks347.act a cl)
theorem kinds_of {p : Int} {g : List Int} {c : List (List Int)} (s : Shaped p g c) (h : Ks347Neutral.asked1 c = true) :
    ∃ (q : Nat) (gs : List Nat) (cl : Ks347.Call), p = (q : Int) ∧ g = gs.map (fun n : Nat => (n : Int)) ∧ stepOf c cl ∧ Kind q gs cl := by
  cases s with
  | row n x hp hn =>
    subst hn
    rcases hp with rfl | rfl
    · have h : (x.all fun z => Ks347Neutral.natural z 8) = true := h
      obtain ⟨h1, h2⟩ := all8 h
      refine ⟨0, (x.map Int.toNat).length :: x.map Int.toNat, .begin (x.map Int.toNat), rfl, ?_, fun a => rfl, .begin _ h2⟩
      rw [List.map_cons, ← cast_map h1, List.length_map]
    · have h : (x.all fun z => Ks347Neutral.natural z 8) = true := h
      obtain ⟨h1, h2⟩ := all8 h
      refine ⟨12, (x.map Int.toNat).length :: x.map Int.toNat, .whose (x.map Int.toNat), rfl, ?_, fun a => rfl, .desk (.whose _ h2)⟩
      rw [List.map_cons, ← cast_map h1, List.length_map]
  | one a hp =>
    have one : ∀ {a : Int}, 0 ≤ a → [a] = [a.toNat].map (fun n : Nat => (n : Int)) := fun {a} h => by
      show [a] = [(a.toNat : Int)]
      congr 1
      omega
    rcases hp with rfl | rfl | rfl | rfl | rfl | rfl | rfl | rfl
    · exact ⟨1, [a.toNat], .room a.toNat, rfl, one (nat32 (show Ks347Neutral.natural a 32 = true from h)).1, fun _ => rfl, .desk (.room _)⟩
    · exact ⟨2, [a.toNat], .day a.toNat, rfl, one (nat32 (show Ks347Neutral.natural a 32 = true from h)).1, fun _ => rfl, .desk (.day _)⟩
    · exact ⟨4, [a.toNat], .copy a.toNat, rfl, one (nat32 (show Ks347Neutral.natural a 32 = true from h)).1, fun _ => rfl, .room (.copy _)⟩
    · exact ⟨5, [a.toNat], .lost a.toNat, rfl, one (nat32 (show Ks347Neutral.natural a 32 = true from h)).1, fun _ => rfl, .room (.lost _)⟩
    · exact ⟨7, [a.toNat], .leave a.toNat, rfl, one (nat32 (show Ks347Neutral.natural a 32 = true from h)).1, fun _ => rfl, .room (.leave _)⟩
    · exact ⟨8, [a.toNat], .shut a.toNat, rfl, one (nat32 (show Ks347Neutral.natural a 32 = true from h)).1, fun _ => rfl, .room (.shut _)⟩
    · exact ⟨11, [a.toNat], .need a.toNat, rfl, one (nat32 (show Ks347Neutral.natural a 32 = true from h)).1, fun _ => rfl, .desk (.need _)⟩
    · exact ⟨13, [a.toNat], .stay a.toNat, rfl, one (nat32 (show Ks347Neutral.natural a 32 = true from h)).1, fun _ => rfl, .room (.stay _)⟩
  | two a b hp =>
    have two : ∀ {a b : Int}, 0 ≤ a → 0 ≤ b → [a, b] = [a.toNat, b.toNat].map (fun n : Nat => (n : Int)) := fun {a b} h1 h2 => by
      show [a, b] = [(a.toNat : Int), (b.toNat : Int)]
      rw [Int.toNat_of_nonneg h1, Int.toNat_of_nonneg h2]
    rcases hp with rfl | rfl | rfl
    · have h : (Ks347Neutral.natural a 32 && Ks347Neutral.natural b 32) = true := h
      rw [Bool.and_eq_true] at h
      exact ⟨3, [a.toNat, b.toNat], .come a.toNat b.toNat, rfl, two (nat32 h.1).1 (nat32 h.2).1, fun _ => rfl, .room (.come _ _)⟩
    · have h : (Ks347Neutral.natural a 32 && Ks347Neutral.natural b 32) = true := h
      rw [Bool.and_eq_true] at h
      exact ⟨6, [a.toNat, b.toNat], .longer a.toNat b.toNat, rfl, two (nat32 h.1).1 (nat32 h.2).1, fun _ => rfl, .room (.longer _ _)⟩
    · have h : (Ks347Neutral.natural a 32 && Ks347Neutral.natural b 32) = true := h
      rw [Bool.and_eq_true] at h
      exact ⟨9, [a.toNat, b.toNat], .staff a.toNat b.toNat, rfl, two (nat32 h.1).1 (nat32 h.2).1, fun _ => rfl, .desk (.staff _ _)⟩
  | non hp =>
    rcases hp with rfl | rfl | rfl
    · exact ⟨10, [], .recall, rfl, rfl, fun _ => rfl, .desk .recall⟩
    · exact ⟨14, [], .free, rfl, rfl, fun _ => rfl, .desk .free⟩
    · exact ⟨15, [], .state, rfl, rfl, fun _ => rfl, .desk .state⟩
/-- how many whole numbers stand behind each call -/
def behindN : List Int := [1, 1, 1, 2, 1, 1, 2, 1, 1, 2, 0, 1, 1, 1, 0, 0]
theorem behind_of {q : Nat} {gs : List Nat} {cl : Ks347.Call} (k : Kind q gs cl) :
    ((q = 0 ∨ q = 12) ∧ behindN[q]? = some 1 ∧ ∃ b : List Nat, gs = b.length :: b) ∨ (¬ (q = 0 ∨ q = 12) ∧ behindN[q]? = some (gs.length : Int)) := by
  cases k with
  | begin b hb => exact .inl ⟨.inl rfl, rfl, b, rfl⟩
  | room h => cases h <;> exact .inr ⟨by decide, rfl⟩
  | desk h =>
    cases h with
    | whose b hb => exact .inl ⟨.inr rfl, rfl, b, rfl⟩
    | room z => exact .inr ⟨by decide, rfl⟩
    | day z => exact .inr ⟨by decide, rfl⟩
    | staff z l => exact .inr ⟨by decide, rfl⟩
    | recall => exact .inr ⟨by decide, rfl⟩
    | need l => exact .inr ⟨by decide, rfl⟩
    | free => exact .inr ⟨by decide, rfl⟩
    | state => exact .inr ⟨by decide, rfl⟩

/-! what each call comes to, where there is a desk (and a room x, and a stay till l) -/
def comeS (a : Abs) (r : Nat) (x : Room) (l : Nat) : Abs × Ans := if l < a.day ∨ TOP < l then (a, no (-22)) else if x.stay.isSome then (a, no (-15)) else if TOP ≤ x.number ∨ full a = true then (a, no (-28)) else made (setRoom a r ⟨x.zone, x.number + 1, some l⟩) 1 r (x.number + 1) l
def copyS (a : Abs) (r : Nat) (x : Room) (l : Nat) : Abs × Ans := if full a = true then (a, no (-28)) else made a 1 r x.number l
def lostS (a : Abs) (r : Nat) (x : Room) (l : Nat) : Abs × Ans := if TOP ≤ x.number ∨ full a = true then (a, no (-28)) else made (setRoom a r ⟨x.zone, x.number + 1, some l⟩) 1 r (x.number + 1) l
def longerS (a : Abs) (r : Nat) (x : Room) (l m : Nat) : Abs × Ans := if m < l ∨ TOP < m then (a, no (-22)) else if full a = true then (a, no (-28)) else made (setRoom a r ⟨x.zone, x.number, some m⟩) 1 r x.number m
def leaveS (a : Abs) (r : Nat) (x : Room) : Abs × Ans := (setRoom a r ⟨x.zone, x.number, none⟩, no 0)
def shutS (a : Abs) (r : Nat) (x : Room) : Abs × Ans := if x.stay.isSome then (a, no (-15)) else if TOP ≤ x.number ∨ full a = true then (a, no (-28)) else made (setRoom a r ⟨x.zone, x.number + 1, none⟩) 3 r (x.number + 1) a.day
def stayS (a : Abs) (x : Room) (l : Nat) : Abs × Ans := (a, { ret := l, out := [x.number, x.zone] })
def roomS (a : Abs) (z : Nat) : Abs × Ans := if 8 ≤ z then (a, no (-22)) else if Ks345.ROOMS ≤ a.rooms.length then (a, no (-28)) else ({ a with rooms := a.rooms ++ [⟨z, 0, none⟩] }, no a.rooms.length)
def over (d : Nat) (x : Room) : Bool := match x.stay with
  | some l => decide (l < d)
  | none => false
def endR (d : Nat) (x : Room) : Room := if over d x = true then ⟨x.zone, x.number, none⟩ else x
def dayS (a : Abs) (d : Nat) : Abs × Ans := if d < a.day ∨ TOP < d then (a, no (-22)) else ({ a with day := d, rooms := a.rooms.map (endR d) }, no ((a.rooms.filter (over d)).length : Nat))
def staffS (a : Abs) (z l : Nat) : Abs × Ans := if z = 0 ∨ 256 ≤ z ∨ l < a.day ∨ TOP < l then (a, no (-22)) else if full a = true then (a, no (-28)) else made a 2 z a.epoch l
def recallS (a : Abs) : Abs × Ans := if TOP ≤ a.epoch then (a, no (-28)) else ({ a with epoch := a.epoch + 1 }, no (a.epoch + 1 : Nat))
def needS (a : Abs) (l : Nat) : Abs × Ans := if l < a.day ∨ TOP < l then (a, no (-22)) else if full a = true then (a, no (-28)) else made a 4 255 a.epoch l
def goodB (a : Abs) (kind place number last : Nat) : Bool := !decide (last < a.day) && (if kind = 2 ∨ kind = 4 then decide (number = a.epoch) else match a.rooms[place]? with
  | some x => !(decide (kind = 1) && x.stay.isNone) && decide (number = x.number)
  | none => false)
def whoseS (a : Abs) (b : List Nat) : Abs × Ans := match Ks345.look a.key b with
  | none => (a, no (-71))
  | some c => (a, { ret := if goodB a c.kind c.place c.number c.last = true then 1 else 0, out := Ks345.fields c })
def freeL (a : Abs) : List Nat := (List.range a.rooms.length).filter fun r => match a.rooms[r]? with
  | some x => x.stay.isNone
  | none => false
def freeS (a : Abs) : Abs × Ans := (a, { ret := (freeL a).length, out := freeL a })
def stateS (a : Abs) : Abs × Ans := (a, { ret := a.rooms.length, out := [stays a, a.day, a.epoch, a.serial] })
section
variable {a : Abs} (h : a.on = true)
include h
theorem act_room (z : Nat) : Ks347.act a (.room z) = roomS a z := by
  show (if a.on = false then _ else _) = _
  rw [if_neg (by rw [h]; decide)]
  rfl
theorem stays_end (d : Nat) (rs : List Room) : (rs.filter fun x => x.stay.isSome).length = ((rs.map (endR d)).filter fun x => x.stay.isSome).length + (rs.filter (over d)).length := by
  induction rs with
  | nil => rfl
  | cons x rs ih =>
    rw [List.map_cons, List.filter_cons, List.filter_cons, List.filter_cons]
    unfold endR over
    cases e : x.stay with
    | none => simp only [e, Option.isSome_none, Bool.false_eq_true, if_false]; unfold endR over at ih; exact ih
    | some l =>
      by_cases hl : l < d
      · simp only [e, hl, decide_true, if_true, Option.isSome_some, Option.isSome_none, Bool.false_eq_true, if_false, List.length_cons]
        unfold endR over at ih
        omega
      · simp only [e, hl, decide_false, if_true, Option.isSome_some, Bool.false_eq_true, if_false, List.length_cons]
        unfold endR over at ih
        omega
theorem ended_eq (d : Nat) : ended a d = a.rooms.map (endR d) := by
  unfold ended
  refine List.map_congr_left fun x _ => ?_
  unfold endR over
  cases e : x.stay with
  | none => simp
  | some l =>
    by_cases hl : l < d
    · simp [hl]
    · simp [hl]
theorem act_day (d : Nat) : Ks347.act a (.day d) = dayS a d := by
  show (if a.on = false then _ else _) = _
  rw [if_neg (by rw [h]; decide)]
  unfold dayS
  by_cases hd : d < a.day ∨ TOP < d
  · rw [if_pos hd, if_pos hd]
  · rw [if_neg hd, if_neg hd]
    show (({ a with day := d, rooms := ended a d } : Abs), no (((stays a - stays { a with day := d, rooms := ended a d } : Nat)) : Int)) = _
    rw [ended_eq h]
    have e := stays_end h d a.rooms
    have e2 : stays a - stays { a with day := d, rooms := a.rooms.map (endR d) } = (a.rooms.filter (over d)).length := by
      unfold stays
      simp only
      omega
    rw [e2]
theorem act_staff (z l : Nat) : Ks347.act a (.staff z l) = staffS a z l := by
  show (if a.on = false then _ else _) = _
  rw [if_neg (by rw [h]; decide)]
  rfl
theorem act_recall : Ks347.act a .recall = recallS a := by
  show (if a.on = false then _ else _) = _
  rw [if_neg (by rw [h]; decide)]
  rfl
theorem act_need (l : Nat) : Ks347.act a (.need l) = needS a l := by
  show (if a.on = false then _ else _) = _
  rw [if_neg (by rw [h]; decide)]
  rfl
theorem act_free : Ks347.act a .free = freeS a := by
  show (if a.on = false then _ else _) = _
  rw [if_neg (by rw [h]; decide)]
  rfl
theorem act_state : Ks347.act a .state = stateS a := by
  show (if a.on = false then _ else _) = _
  rw [if_neg (by rw [h]; decide)]
  rfl
theorem act_come {r : Nat} (l : Nat) : Ks347.act a (.come r l) = match a.rooms[r]? with | none => (a, no (-2)) | some x => comeS a r x l := by
  show (if a.on = false then _ else _) = _
  rw [if_neg (by rw [h]; decide)]
  rfl
theorem act_copy (r : Nat) : Ks347.act a (.copy r) = match a.rooms[r]? with | none => (a, no (-2)) | some x => (match x.stay with | none => (a, no (-6)) | some l => copyS a r x l) := by
  show (if a.on = false then _ else _) = _
  rw [if_neg (by rw [h]; decide)]
  rfl
theorem act_lost (r : Nat) : Ks347.act a (.lost r) = match a.rooms[r]? with | none => (a, no (-2)) | some x => (match x.stay with | none => (a, no (-6)) | some l => lostS a r x l) := by
  show (if a.on = false then _ else _) = _
  rw [if_neg (by rw [h]; decide)]
  rfl
theorem act_longer (r m : Nat) : Ks347.act a (.longer r m) = match a.rooms[r]? with | none => (a, no (-2)) | some x => (match x.stay with | none => (a, no (-6)) | some l => longerS a r x l m) := by
  show (if a.on = false then _ else _) = _
  rw [if_neg (by rw [h]; decide)]
  rfl
theorem act_leave (r : Nat) : Ks347.act a (.leave r) = match a.rooms[r]? with | none => (a, no (-2)) | some x => (match x.stay with | none => (a, no (-6)) | some _ => leaveS a r x) := by
  show (if a.on = false then _ else _) = _
  rw [if_neg (by rw [h]; decide)]
  rfl
theorem act_shut (r : Nat) : Ks347.act a (.shut r) = match a.rooms[r]? with | none => (a, no (-2)) | some x => shutS a r x := by
  show (if a.on = false then _ else _) = _
  rw [if_neg (by rw [h]; decide)]
  rfl
theorem act_stay (r : Nat) : Ks347.act a (.stay r) = match a.rooms[r]? with | none => (a, no (-2)) | some x => (match x.stay with | none => (a, no (-6)) | some l => stayS a x l) := by
  show (if a.on = false then _ else _) = _
  rw [if_neg (by rw [h]; decide)]
  rfl
theorem act_none {n r : Nat} {tl : List Nat} {cl : Ks347.Call} (c : AtRoom n (r :: tl) cl) (hx : a.rooms[r]? = none) : Ks347.act a cl = (a, no (-2)) := by
  cases c
  · rw [act_come h, hx]
  · rw [act_copy h, hx]
  · rw [act_lost h, hx]
  · rw [act_longer h, hx]
  · rw [act_leave h, hx]
  · rw [act_shut h, hx]
  · rw [act_stay h, hx]
theorem act_noStay {n r : Nat} {tl : List Nat} {cl : Ks347.Call} {x : Room} (c : AtRoom n (r :: tl) cl) (h3 : n ≠ 3) (h8 : n ≠ 8) (hx : a.rooms[r]? = some x) (hs : x.stay = none) : Ks347.act a cl = (a, no (-6)) := by
  cases c
  · exact absurd rfl h3
  · rw [act_copy h, hx]; simp only [hs]
  · rw [act_lost h, hx]; simp only [hs]
  · rw [act_longer h, hx]; simp only [hs]
  · rw [act_leave h, hx]; simp only [hs]
  · exact absurd rfl h8
  · rw [act_stay h, hx]; simp only [hs]
theorem act_come_at {r l : Nat} {x : Room} (hx : a.rooms[r]? = some x) : Ks347.act a (.come r l) = comeS a r x l := by rw [act_come h, hx]
theorem act_shut_at {r : Nat} {x : Room} (hx : a.rooms[r]? = some x) : Ks347.act a (.shut r) = shutS a r x := by rw [act_shut h, hx]
theorem act_copy_at {r l : Nat} {x : Room} (hx : a.rooms[r]? = some x) (hs : x.stay = some l) : Ks347.act a (.copy r) = copyS a r x l := by rw [act_copy h, hx]; simp only [hs]
theorem act_lost_at {r l : Nat} {x : Room} (hx : a.rooms[r]? = some x) (hs : x.stay = some l) : Ks347.act a (.lost r) = lostS a r x l := by rw [act_lost h, hx]; simp only [hs]
theorem act_longer_at {r l m : Nat} {x : Room} (hx : a.rooms[r]? = some x) (hs : x.stay = some l) : Ks347.act a (.longer r m) = longerS a r x l m := by rw [act_longer h, hx]; simp only [hs]
theorem act_leave_at {r l : Nat} {x : Room} (hx : a.rooms[r]? = some x) (hs : x.stay = some l) : Ks347.act a (.leave r) = leaveS a r x := by rw [act_leave h, hx]; simp only [hs]
theorem act_stay_at {r l : Nat} {x : Room} (hx : a.rooms[r]? = some x) (hs : x.stay = some l) : Ks347.act a (.stay r) = stayS a x l := by rw [act_stay h, hx]; simp only [hs]
theorem beq_dec (m n : Nat) : (m == n) = decide (n = m) := by
  by_cases q : n = m
  · subst q; simp
  · have q2 : ¬ m = n := fun e => q e.symm
    simp [q, q2]
theorem good_eq (c : Ks345.Card) (hk : c.kind = 1 ∨ c.kind = 2 ∨ c.kind = 3 ∨ c.kind = 4) : good a c = if goodB a c.kind c.place c.number c.last = true then 1 else 0 := by
  have e1 : (decide (a.day ≤ c.last)) = !decide (c.last < a.day) := by
    by_cases q : c.last < a.day
    · simp [q]
    · simp [q, Nat.le_of_not_lt q]
  unfold good goodB
  simp only [e1, beq_dec h]
  rcases hk with k | k | k | k
  · rw [k]
    simp only [if_true, Nat.reduceEqDiff, or_self, if_false, decide_true, Bool.true_and]
    rw [Bool.and_comm]
    cases e : a.rooms[c.place]? with
    | none => rfl
    | some x =>
      cases x with
      | mk zo nu st => cases st <;> simp
  · rw [k]
    simp only [Nat.reduceEqDiff, true_or, if_true, if_false]
    rw [Bool.and_comm]
  · rw [k]
    simp only [if_true, Nat.reduceEqDiff, or_self, if_false, decide_false, Bool.false_and, Bool.not_false, Bool.true_and]
    rw [Bool.and_comm]
    cases e : a.rooms[c.place]? with
    | none => rfl
    | some x => rfl
  · rw [k]
    simp only [Nat.reduceEqDiff, or_true, if_true, if_false]
    rw [Bool.and_comm]
theorem look_kind {key b : List Nat} {c : Ks345.Card} (e : Ks345.look key b = some c) : c.kind = 1 ∨ c.kind = 2 ∨ c.kind = 3 ∨ c.kind = 4 := by
  unfold Ks345.look at e
  by_cases q : Ks345.okBytes Ks345.CARD b = true ∧ Ks345.okCard (Ks345.cardOf b) = true ∧ Ks345.number (b.drop 8) = Ks345.tag key (b.take 8)
  · rw [if_pos q] at e
    cases e
    have q2 := q.2.1
    unfold Ks345.okCard at q2
    rw [Bool.and_eq_true] at q2
    have q3 := q2.2
    by_cases k1 : (Ks345.cardOf b).kind = 1 ∨ (Ks345.cardOf b).kind = 3
    · rcases k1 with k | k
      · exact .inl k
      · exact .inr (.inr (.inl k))
    · rw [if_neg k1] at q3
      by_cases k2 : (Ks345.cardOf b).kind = 2
      · exact .inr (.inl k2)
      · rw [if_neg k2, Bool.and_eq_true] at q3
        exact .inr (.inr (.inr (eq_of_beq q3.1)))
  · rw [if_neg q] at e
    cases e
theorem act_whose (b : List Nat) : Ks347.act a (.whose b) = whoseS a b := by
  show (if a.on = false then _ else _) = _
  rw [if_neg (by rw [h]; decide)]
  unfold whoseS
  cases e : Ks345.look a.key b with
  | none => rfl
  | some c =>
    show (a, ({ ret := ((good a c : Nat) : Int), out := Ks345.fields c } : Ans)) = _
    rw [good_eq h c (look_kind h e)]
    congr 2
    split <;> rfl
end
theorem act_off {a : Abs} (h : a.on = false) {q : Nat} {gs : List Nat} {cl : Ks347.Call} (k : Kind q gs cl) (h0 : q ≠ 0) : Ks347.act a cl = (a, no (-61)) := by
  cases k with
  | begin b hb => exact absurd rfl h0
  | room hh => cases hh <;> exact if_pos h
  | desk hh => cases hh <;> exact if_pos h

/-! small things -/
def mix {α : Type} (f : α → α) (l : List α) (i : Nat) : List α := (l.take i).map f ++ l.drop i
theorem mix_length {α : Type} (f : α → α) (l : List α) (i : Nat) : (mix f l i).length = l.length := by
  unfold mix
  rw [List.length_append, List.length_map, List.length_take, List.length_drop]
  omega
theorem mix_get {α : Type} (f : α → α) {l : List α} {i : Nat} {x : α} (h : l[i]? = some x) : (mix f l i)[i]? = some x := by
  have hi : i < l.length := (List.getElem?_eq_some_iff.mp h).1
  unfold mix
  rw [List.getElem?_append_right (by rw [List.length_map, List.length_take]; omega), List.length_map, List.length_take, Nat.min_eq_left (by omega), Nat.sub_self, List.getElem?_drop, Nat.add_zero]
  exact h
theorem mix_zero {α : Type} (f : α → α) (l : List α) : mix f l 0 = l := by
  unfold mix
  simp
theorem mix_all {α : Type} (f : α → α) (l : List α) : mix f l l.length = l.map f := by
  unfold mix
  simp
theorem mix_succ {α : Type} (f : α → α) {l : List α} {i : Nat} {x : α} (h : l[i]? = some x) : (mix f l i).set i (f x) = mix f l (i + 1) := by
  obtain ⟨hi, e⟩ := List.getElem?_eq_some_iff.mp h
  unfold mix
  have e1 : l.drop i = x :: l.drop (i + 1) := by rw [List.drop_eq_getElem_cons hi, e]
  have e2 : l.take (i + 1) = l.take i ++ [x] := by rw [List.take_succ_eq_append_getElem hi, e]
  have e3 : ((l.take i).map f).length = i := by rw [List.length_map, List.length_take]; omega
  rw [e1, e2, List.map_append, List.set_append_right _ _ (by omega), e3, Nat.sub_self, List.set_cons_zero, List.append_assoc]
  rfl
theorem set_same {α : Type} {l : List α} {i : Nat} {x : α} (h : l[i]? = some x) : l.set i x = l := by
  obtain ⟨hi, e⟩ := List.getElem?_eq_some_iff.mp h
  rw [← e]
  exact List.set_getElem_self hi
theorem mix_keep {α : Type} (f : α → α) {l : List α} {i : Nat} {x : α} (h : l[i]? = some x) (hf : f x = x) : mix f l i = mix f l (i + 1) := by
  have e := mix_succ f h
  rw [hf, set_same (mix_get f h)] at e
  exact e
theorem take_snoc {α : Type} {l : List α} {i : Nat} {x : α} (h : l[i]? = some x) : l.take (i + 1) = l.take i ++ [x] := by
  obtain ⟨hi, e⟩ := List.getElem?_eq_some_iff.mp h
  rw [List.take_succ_eq_append_getElem hi, e]
theorem filter_snoc {α : Type} (p : α → Bool) {l : List α} {i : Nat} {x : α} (h : l[i]? = some x) : ((l.take (i + 1)).filter p).length = ((l.take i).filter p).length + (if p x = true then 1 else 0) := by
  rw [take_snoc h, List.filter_append, List.length_append, List.filter_cons]
  by_cases q : p x = true
  · rw [if_pos q, if_pos q]; rfl
  · rw [if_neg q, if_neg q]; rfl
end Dc
end
section
set_option linter.all false
namespace Dc
def okPlace (kind place : Nat) : Bool := if kind = 1 ∨ kind = 3 then decide (place < 64) else if kind = 2 then decide (0 < place) else decide (kind = 4) && decide (place = 255)
theorem look_len {key b : List Nat} (h : ¬ b.length = 16) : Ks345.look key b = none := by
  unfold Ks345.look
  rw [if_neg]
  intro q
  have q1 := q.1
  unfold Ks345.okBytes at q1
  rw [Bool.and_eq_true] at q1
  exact h (eq_of_beq q1.1)
theorem two_lt {b : List Nat} (hb : Bts b) (i : Nat) : Ks345.number ((b.drop i).take 2) < 65536 := by
  have h := number_lt ((hb.drop i).take 2)
  have h2 : (256 : Nat) ^ ((b.drop i).take 2).length ≤ 256 ^ 2 := Nat.pow_le_pow_right (by decide) (by rw [List.length_take]; omega)
  have h3 : (256 : Nat) ^ 2 = 65536 := by decide
  omega
theorem okCard_place {b : List Nat} (hb : Bts b) : Ks345.okCard (Ks345.cardOf b) = okPlace (b.getD 0 0) (b.getD 1 0) := by
  have h1 : (b.getD 1 0) < 256 := by
    rw [List.getD_eq_getElem?_getD]
    cases e : b[1]? with
    | none => decide
    | some x => exact hb x (List.mem_of_getElem? e)
  have n1 : decide ((Ks345.cardOf b).number < 65536) = true := decide_eq_true (two_lt hb 2)
  have n2 : decide ((Ks345.cardOf b).last < 65536) = true := decide_eq_true (two_lt hb 4)
  have n3 : decide ((Ks345.cardOf b).serial < 65536) = true := decide_eq_true (two_lt hb 6)
  unfold Ks345.okCard
  rw [n1, n2, n3]
  show (true && true && true && (if (b.getD 0 0) = 1 ∨ (b.getD 0 0) = 3 then decide ((b.getD 1 0) < 64) else if (b.getD 0 0) = 2 then decide (1 ≤ (b.getD 1 0)) && decide ((b.getD 1 0) < 256) else (b.getD 0 0) == 4 && (b.getD 1 0) == 255)) = _
  unfold okPlace
  generalize b.getD 0 0 = k at *
  generalize b.getD 1 0 = p at *
  have d1 : decide (p < 256) = true := decide_eq_true h1
  simp only [d1, Bool.and_true, Bool.true_and]
  have d2 : (k == 4) = decide (k = 4) := by by_cases q : k = 4 <;> simp [q]
  have d3 : (p == 255) = decide (p = 255) := by by_cases q : p = 255 <;> simp [q]
  have d4 : decide (1 ≤ p) = decide (0 < p) := rfl
  rw [d2, d3]
  rfl
theorem tail_tag {key b : List Nat} (hb : Bts b) (hl : b.length = 16) (kb : Bts key) (kl : key.length = 16) : Ks345.number (b.drop 8) = Ks345.tag key (b.take 8) ↔ b.drop 8 = Ks345.bytes 8 (Ks345.tag key (b.take 8)) := by
  have hd : (b.drop 8).length = 8 := by rw [List.length_drop]; omega
  have ht := tag_lt kb kl (hb.take 8)
  constructor
  · intro e
    have e2 := bytes_number (b.drop 8) (hb.drop 8)
    rw [hd, e] at e2
    exact e2.symm
  · intro e
    rw [e, number_bytes 8 _ (by have : (256 : Nat) ^ 8 = 2 ^ 64 := by decide
                                omega)]
theorem look_some {key b : List Nat} (hb : Bts b) (hl : b.length = 16) (kb : Bts key) (kl : key.length = 16) :
    Ks345.look key b = if okPlace (b.getD 0 0) (b.getD 1 0) = true ∧ b.drop 8 = Ks345.bytes 8 (Ks345.tag key (b.take 8)) then some (Ks345.cardOf b) else none := by
  have o1 : Ks345.okBytes Ks345.CARD b = true := by
    unfold Ks345.okBytes
    rw [Bool.and_eq_true]
    refine ⟨by rw [hl]; rfl, List.all_eq_true.mpr fun x hx => decide_eq_true (hb x hx)⟩
  unfold Ks345.look
  rw [okCard_place hb]
  by_cases h1 : okPlace (b.getD 0 0) (b.getD 1 0) = true
  · by_cases h2 : b.drop 8 = Ks345.bytes 8 (Ks345.tag key (b.take 8))
    · rw [if_pos ⟨o1, h1, (tail_tag hb hl kb kl).mpr h2⟩, if_pos ⟨h1, h2⟩]
    · rw [if_neg (fun q => h2 ((tail_tag hb hl kb kl).mp q.2.2)), if_neg (fun q => h2 q.2)]
  · rw [if_neg (fun q => h1 q.2.1), if_neg (fun q => h1 q.1)]
theorem isSome_off {key b : List Nat} (hb : Bts b) (hl : b.length = 16) (kb : Bts key) (kl : key.length = 16) (h : okPlace (b.getD 0 0) (b.getD 1 0) = false) : (Ks345.look key b).isSome = false := by
  rw [look_some hb hl kb kl, if_neg (fun q => by rw [h] at q; exact absurd q.1 (by decide))]
  rfl
theorem isSome_on {key b : List Nat} (hb : Bts b) (hl : b.length = 16) (kb : Bts key) (kl : key.length = 16) (h : okPlace (b.getD 0 0) (b.getD 1 0) = true) : (Ks345.look key b).isSome = decide (b.drop 8 = Ks345.bytes 8 (Ks345.tag key (b.take 8))) := by
  rw [look_some hb hl kb kl]
  by_cases h2 : b.drop 8 = Ks345.bytes 8 (Ks345.tag key (b.take 8))
  · rw [if_pos ⟨h, h2⟩, decide_eq_true h2]
    rfl
  · rw [if_neg (fun q => h2 q.2), decide_eq_false h2]
    rfl
theorem look_card {key b : List Nat} {c : Ks345.Card} (e : Ks345.look key b = some c) : c = Ks345.cardOf b ∧ b.length = 16 := by
  unfold Ks345.look at e
  by_cases q : Ks345.okBytes Ks345.CARD b = true ∧ Ks345.okCard (Ks345.cardOf b) = true ∧ Ks345.number (b.drop 8) = Ks345.tag key (b.take 8)
  · rw [if_pos q] at e
    have q1 := q.1
    unfold Ks345.okBytes at q1
    rw [Bool.and_eq_true] at q1
    exact ⟨(Option.some.inj e).symm, eq_of_beq q1.1⟩
  · rw [if_neg q] at e
    cases e
end Dc
end
section
namespace Dc
open PySem PyProof.Rows
theorem band (a b : Nat) : Builtin.bitAnd (a : Int) (b : Int) = ((a &&& b : Nat) : Int) := by
  rw [bitAnd_pp (by omega) (by omega)]
  rfl
theorem bxor (a b : Nat) : Builtin.bitXor (a : Int) (b : Int) = ((a ^^^ b : Nat) : Int) := by
  rw [bitXor_and, band]
  have h := xor_and a b
  omega
theorem band64 (a : Nat) : Builtin.bitAnd (a : Int) 18446744073709551615 = ((a % 2 ^ 64 : Nat) : Int) := by
  have h : a &&& 18446744073709551615 = a % 2 ^ 64 := Nat.and_two_pow_sub_one_eq_mod a 64
  have e := band a 18446744073709551615
  rw [h] at e
  exact e
theorem bor_apart (a b : Nat) (h : a &&& b = 0) : Builtin.bitOr (a : Int) (b : Int) = ((a + b : Nat) : Int) := by
  rw [bitOr_and, band, h]
  omega
theorem turned_eq {x p : Nat} (hx : x < 2 ^ 64) (hp : p ≤ 64) :
    Builtin.bitOr (Builtin.bitAnd ((x : Int) * 2 ^ ((p : Int)).toNat) 18446744073709551615) ((x : Int) / 2 ^ ((64 : Int) - (p : Int)).toNat) = ((Ks345.turn p x : Nat) : Int) := by
  have e1 : ((x : Int) * 2 ^ ((p : Int)).toNat) = ((x * 2 ^ p : Nat) : Int) := by
    rw [Int.toNat_natCast, Int.natCast_mul, Int.natCast_pow]
    rfl
  have e2 : ((x : Int) / 2 ^ ((64 : Int) - (p : Int)).toNat) = ((x / 2 ^ (64 - p) : Nat) : Int) := by
    have h : ((64 : Int) - (p : Int)).toNat = 64 - p := by omega
    rw [h, Int.natCast_ediv, Int.natCast_pow]
    rfl
  rw [e1, e2, band64, bor_apart _ _ (turn_and hx hp)]
  rfl
/-- the last word of a message: what is left, and how long it was -/
theorem last_or {n k : Nat} (hn : n < 2 ^ 56) : Builtin.bitOr (n : Int) (((k : Int) % 256) * 2 ^ (56 : Int).toNat) = ((n + k % 256 * 2 ^ 56 : Nat) : Int) := by
  have e1 : (((k : Int) % 256) * 2 ^ (56 : Int).toNat) = ((k % 256 * 2 ^ 56 : Nat) : Int) := by
    rw [Int.natCast_mul, Int.natCast_emod, Int.natCast_pow]
    rfl
  rw [e1, bor_apart]
  rw [Nat.and_comm, Nat.mul_comm]
  exact and_zero_of hn
theorem add64 (a b : Nat) : Builtin.bitAnd ((a : Int) + (b : Int)) 18446744073709551615 = ((Ks345.add a b : Nat) : Int) := by
  have e : ((a : Int) + (b : Int)) = ((a + b : Nat) : Int) := by omega
  rw [e, band64]
  rfl
end Dc
end
section
namespace Dc
open PySem
def dN (l : List Nat) : List PyData := l.map fun n : Nat => PyData.int (n : Int)
theorem eqvAll_dN : ∀ (l m : List Nat), PyData.eqvAll (dN l) (dN m) = decide (l = m)
  | [], [] => by simp [dN, PyData.eqvAll]
  | [], _ :: _ => by simp [dN, PyData.eqvAll]
  | _ :: _, [] => by simp [dN, PyData.eqvAll]
  | x :: l, y :: m => by
    have ih := eqvAll_dN l m
    have e0 : PyData.eqvAll (dN (x :: l)) (dN (y :: m)) = (((x : Int) == (y : Int)) && PyData.eqvAll (dN l) (dN m)) := by
      simp only [dN, List.map_cons, PyData.eqvAll, PyData.eqv]
    rw [e0, ih]
    by_cases e : x = y
    · subst e; simp
    · have : ¬ (x : Int) = (y : Int) := by omega
      simp [e, this]
theorem eqv_dN (l m : List Nat) : PyData.eqv (.list (dN l)) (.list (dN m)) = decide (l = m) := by
  simp only [PyData.eqv]
  exact eqvAll_dN l m
theorem canLay_dN : ∀ l : List Nat, PyData.canLayAll0 (dN l) = true
  | [] => by simp [dN, PyData.canLayAll0]
  | x :: l => by
    have ih := canLay_dN l
    simp only [dN, List.map_cons, PyData.canLayAll0, PyData.canLay0, Bool.true_and]
    exact ih
theorem depth_dN : ∀ l : List Nat, PyData.depthAll (dN l) ≤ 1
  | [] => by simp [dN, PyData.depthAll]
  | x :: l => by
    have ih := depth_dN l
    simp only [dN, List.map_cons, PyData.depthAll, PyData.depth]
    have ih' : PyData.depthAll (l.map fun n : Nat => PyData.int (n : Int)) ≤ 1 := ih
    omega
theorem shaped_dN (l : List Nat) : ((PyData.list (dN l)).canLay0 && decide ((PyData.list (dN l)).depth ≤ 64)) = true := by
  have h1 := canLay_dN l
  have h2 := depth_dN l
  have e1 : (PyData.list (dN l)).canLay0 = true := by simp only [PyData.canLay0]; exact h1
  have e2 : (PyData.list (dN l)).depth ≤ 64 := by simp only [PyData.depth]; omega
  rw [e1, decide_eq_true e2]
  rfl
end Dc
end
section
set_option Elab.async false
set_option linter.all false
set_option maxRecDepth 100000
set_option maxHeartbeats 4000000
namespace Dc
open PySem PySem.Spec PyProof.Rows L2

/-! ### the text by places -/
def top (i : Nat) : Stmt := PySem.Challenge.pw_doorcards_s01_answers.main.body.getD i (.Pass ⟨0, 0, 0, 0⟩)

/-! ### lists of numbers as values -/
def vN (l : List Nat) : List V := l.map fun n : Nat => V.int (n : Int)
def vI (l : List Int) : List V := l.map V.int
theorem vI_cast (l : List Nat) : vI (l.map fun n : Nat => (n : Int)) = vN l := by
  unfold vI vN
  rw [List.map_map]
  rfl
theorem vN_length (l : List Nat) : (vN l).length = l.length := List.length_map _
theorem vI_length (l : List Int) : (vI l).length = l.length := List.length_map _
theorem vN_get {l : List Nat} {i n : Nat} (h : l[i]? = some n) : (vN l)[i]? = some (V.int n) := by
  unfold vN
  rw [List.getElem?_map, h]
  rfl
theorem vI_get {l : List Int} {i : Nat} {n : Int} (h : l[i]? = some n) : (vI l)[i]? = some (V.int n) := by
  unfold vI
  rw [List.getElem?_map, h]
  rfl
theorem vN_append (l m : List Nat) : vN l ++ vN m = vN (l ++ m) := (List.map_append).symm
theorem vI_append (l m : List Int) : vI l ++ vI m = vI (l ++ m) := (List.map_append).symm
theorem vN_of_get {l : List Nat} {i : Nat} {v : V} (h : (vN l)[i]? = some v) : ∃ n, l[i]? = some n ∧ v = V.int n := by
  unfold vN at h
  rw [List.getElem?_map] at h
  cases e : l[i]? with
  | none => rw [e] at h; cases h
  | some n => rw [e] at h; exact ⟨n, rfl, (Option.some.inj h).symm⟩
theorem sIx_some {n d i : Nat} (h : i ≤ n) : HT.sIx n d (some (i : Int)) = i := by
  show (if (i : Int) < 0 then ((i : Int) + (n : Int)).toNat else min (i : Int).toNat n) = i
  rw [if_neg (by omega), Int.toNat_natCast, Nat.min_eq_left h]
theorem sIx_none {n d : Nat} : HT.sIx n d none = d := rfl
theorem cutV_lo {l : List V} {i : Nat} (h : i ≤ l.length) : cutV l (some (i : Int)) none = l.drop i := by
  unfold cutV
  rw [sIx_some h, sIx_none]
  exact List.take_of_length_le (by rw [List.length_drop]; omega)
theorem cutV_hi {l : List V} {j : Nat} (h : j ≤ l.length) : cutV l none (some (j : Int)) = l.take j := by
  unfold cutV
  rw [sIx_some h, sIx_none, List.drop_zero, Nat.sub_zero]
theorem cutV_mid {l : List V} {i j : Nat} (hi : i ≤ l.length) (hj : j ≤ l.length) : cutV l (some (i : Int)) (some (j : Int)) = (l.drop i).take (j - i) := by
  unfold cutV
  rw [sIx_some hi, sIx_some hj]
theorem cut_lo {l : List Nat} {i : Nat} (h : i ≤ l.length) : cutV (vN l) (some (i : Int)) none = vN (l.drop i) := by
  rw [cutV_lo (by rw [vN_length]; exact h)]
  unfold vN
  rw [List.map_drop]
theorem cut_hi {l : List Nat} {j : Nat} (h : j ≤ l.length) : cutV (vN l) none (some (j : Int)) = vN (l.take j) := by
  rw [cutV_hi (by rw [vN_length]; exact h)]
  unfold vN
  rw [List.map_take]
theorem cut_mid {l : List Nat} {i j : Nat} (hi : i ≤ l.length) (hj : j ≤ l.length) : cutV (vN l) (some (i : Int)) (some (j : Int)) = vN ((l.drop i).take (j - i)) := by
  rw [cutV_mid (by rw [vN_length]; exact hi) (by rw [vN_length]; exact hj)]
  unfold vN
  rw [List.map_take, List.map_drop]

theorem cxOf_K {CX : CXT} {P : Program} {w : World} {K : PySem.W.Frag} {mg : Str → Option Value} {base : Heap} {N : List Str} {qual : Str} {scope : Scope} {f : Addr} {cd : Value} {A : Around} {outer : List Env} {s : Shared} {H : Hp} {E : XK} :
    (cxOf CX P w K mg base N qual scope f cd A outer s H E).K = K := rfl
/-! ### what stays -/
theorem same_new {H : Hp} {p : Addr} {o : HO} (h : H p = none) : Same H (upd H p o) := fun b u e => by
  rw [upd_ne (ne_of_none e h)]
  exact e
structure Fr (W : Addr → Prop) (H H' : Hp) : Prop where
  keep : ∀ b o, H b = some o → ¬ W b → H' b = some o
  dom : ∀ b, H' b = none → H b = none
theorem Fr.same {W : Addr → Prop} {H H' : Hp} (s : Same H H') : Fr W H H' := ⟨fun b o e _ => s b o e, fun _ e => s.free e⟩
theorem Fr.trans {W : Addr → Prop} {H H1 H2 : Hp} (a : Fr W H H1) (b : Fr W H1 H2) : Fr W H H2 := ⟨fun c o e n => b.keep c o (a.keep c o e n) n, fun c e => a.dom c (b.dom c e)⟩
theorem Fr.put {W : Addr → Prop} {H : Hp} {a : Addr} {o : HO} (w : W a) : Fr W H (upd H a o) := ⟨fun b u e n => by
    rw [upd_ne (fun q => n (by rw [q]; exact w))]
    exact e, fun b e => by
    by_cases q : b = a
    · subst q; rw [upd_same] at e; cases e
    · rw [upd_ne q] at e; exact e⟩
theorem Fr.mono {W W' : Addr → Prop} {H H' : Hp} (f : Fr W H H') (h : ∀ b, W b → W' b) : Fr W' H H' := ⟨fun b o e n => f.keep b o e fun w => n (h b w), f.dom⟩

/-! ### readings over own lists -/
section
variable {X : Cx} {a b e o : Expr} {ta tb te to : TE} {pos apos cpos p2 : Pos}
theorem peI {t t' : TE} (h : PE X e t) (i : ∀ σ H Q, t' σ H Q → t σ H Q) : PE X e t' := fun pins s σ H Q I q => h pins s σ H Q I (i σ H Q q)
def rIxO : R2 := fun x y H Q => ∃ p xs i v, x = .ref p ∧ y = .int i ∧ H p = some (.lst xs) ∧ atI xs i = some v ∧ Q v H
theorem ix_own : IxR X rIxO := fun value slice pins s σ H x y v u Q I rx ry h hs => by
  obtain ⟨p, xs, i, z, h1, h2, h3, h4, q⟩ := h
  exact ix_list value slice pins s σ H x y v u Q I rx ry ⟨p, xs, i, z, h1, h2, SqL.of h3, h4, q⟩ hs
def rSlO : V → Option Int → Option Int → Hp → VK → Prop := fun x lo hi H Q => ∃ a xs, x = .ref a ∧ H a = some (.lst xs) ∧ ∀ p, H p = none → Q (.ref p) (upd H p (.lst (cutV xs lo hi)))
theorem sl_own : SlR X rSlO := fun pins s σ H x v vl vu lo hi sl Q I rx hs pl pu h => by
  obtain ⟨a, xs, h1, h2, q⟩ := h
  exact sl_list pins s σ H x v vl vu lo hi sl Q I rx hs pl pu ⟨a, xs, h1, SqL.of h2, q⟩
theorem call_len_own : CallR X (.builtin "len") (fun xs H Q => ∃ p ys, xs = [.ref p] ∧ H p = some (.lst ys) ∧ Q (.int ys.length) H) := fun pins s σ H xs us Q I r h => by
  obtain ⟨p, ys, h1, h2, q⟩ := h
  exact call_len_seq pins s σ H xs us Q I r ⟨p, ys, h1, .inl (SqL.of h2), q⟩
def rLen : List V → Hp → VK → Prop := fun xs H Q => ∃ p ys, xs = [.ref p] ∧ H p = some (.lst ys) ∧ Q (.int ys.length) H
theorem call_lenO : CallR X (.builtin "len") rLen := call_len_own
end

/-! ### readings, statement by statement -/
theorem iteD {c A B : Prop} [Decidable c] (h1 : c → A) (h2 : ¬ c → B) : if decide c = true then A else B := by
  by_cases h : c
  · rw [decide_eq_true h]; exact iteT (h1 h)
  · rw [decide_eq_false h]; exact iteF (h2 h)
theorem iteND {c A B : Prop} [Decidable c] (h1 : ¬ c → A) (h2 : c → B) : if (!decide c) = true then A else B := by
  by_cases h : c
  · rw [decide_eq_true h]; exact iteF (h2 h)
  · rw [decide_eq_false h]; exact iteT (h1 h)
section
variable {K : PySem.W.Frag} {t u : TS} {c : TT} {D : Ends} {σ : L2.St} {H : Hp} {i j : Nat} {q z : Int} {Q : VK}
theorem seqI (h : ∀ rest : L2.St → Hp → Prop, (∀ σ' H', u D σ' H' → rest σ' H') → t { D with nx := rest } σ H) : tSeq t u D σ H := h (u D) fun _ _ x => x
theorem seq_skip (h : σ[i]? = some (some (.int q))) (hne : ¬ q = z) (k : u D σ H) : tSeq (tIfS (tTest (tOp rEq (tVar i) (tC (.int z)))) t tNext) u D σ H :=
  ⟨_, h, rfl, _, rfl, iteD (fun e => absurd (V.int.inj e) hne) fun _ => k⟩
theorem seq_take (h : σ[i]? = some (some (.int q))) (he : q = z) (k : t { D with nx := u D } σ H) : tSeq (tIfS (tTest (tOp rEq (tVar i) (tC (.int z)))) t tNext) u D σ H :=
  ⟨_, h, rfl, _, rfl, iteD (fun _ => k) fun e => absurd (congrArg V.int he) e⟩
theorem seq_if (h : c σ H fun b H1 => if b = true then t { D with nx := u D } σ H1 else u D σ H1) : tSeq (tIfS c t tNext) u D σ H := h
theorem seq_set {te : TE} (h : te σ H fun v H1 => u D (σ.set i (some v)) H1) : tSeq (tAsg te (gName i)) u D σ H := h
theorem seqS (h : t { D with nx := u D } σ H) : tSeq t u D σ H := h
/-- xs[i], own list, written place or a name -/
theorem rd_ixc {p : Addr} {xs : List V} {v : V} (h : σ[i]? = some (some (.ref p))) (hp : H p = some (.lst xs)) (ha : atI xs z = some v) (k : Q v H) : tOp rIxO (tVar i) (tC (.int z)) σ H Q := ⟨_, h, p, xs, z, v, rfl, rfl, hp, ha, k⟩
end

/-! ### a def of the text, and how it is called -/
structure FnIn (K : PySem.W.Frag) (mg : Str → Option Value) (x : Str) (ps : List Str) (st : Stmt) : Prop where
  ex : ∃ (f : Addr) (fd : FuncData), Fun K x x st f fd ∧ mg x = some (.ref f) ∧ Binds K fd ps []
structure ClsIn (K : PySem.W.Frag) (mg : Str → Option Value) (x qual : Str) (st : Stmt) (ps : List Str) (C : Addr) : Prop where
  cl : Cls K C
  mgC : mg x = some (.ref C)
  ex : ∃ (f : Addr) (fd : FuncData), Mk K C f ∧ Fun K "__init__" qual st f fd ∧ Binds K fd ps []
def Cst (mg : Str → Option Value) (x : Str) (i : Int) : Prop := ∃ t : Tok, mg x = some (.int i t)
section
variable (P : Program) (w : World) (K : PySem.W.Frag) (mg : Str → Option Value) (base : Heap)
def Can (x : Str) (k : Nat) (ps : List Str) (sp : Sp) : Prop :=
  ∃ (f : Addr) (fd : FuncData), FnOk P w K mg base CX0 k f fd ps sp ∧ mg x = some (.ref f) ∧ PySem.W.keepIn K (.ref f) = true ∧ Binds K fd ps []
def CanMk (x : Str) (k : Nat) (ps : List Str) (C : Addr) (sp : Sp) : Prop :=
  ∃ (f : Addr) (fd : FuncData), Mk K C f ∧ FnOk P w K mg base CX0 k f fd ps sp ∧ mg x = some (.ref C) ∧ Binds K fd ps []
end
section
variable {P : Program} {w : World} {K : PySem.W.Frag} {mg : Str → Option Value} {base : Heap}
theorem FnIn.can {x : Str} {ps N : List Str} {st : Stmt} {k : Nat} {sp : Sp} (F : FnIn K mg x ps st) (S : FnScope N ps (defScope st)) (len : ∀ vs H Q E, sp vs H Q E → vs.length = ps.length)
    (hbody : ∀ (f : Addr) (cdv : Value) (A : Around) (outer : List Env) (s : Shared) (H : Hp) (vs : List V) (Q : VK) (E : XK), Room k (A.deeper (envOfC x (defScope st) s.heap.objs.size f cdv)) → sp vs H Q E →
      ∃ t, PSs (cxOf CX0 P w K mg base N x (defScope st) f cdv A outer s H E).nox (defBody st) t ∧ t { nx := fun _ H' => Q .non H', rt := Q } (start N vs) H) : Can P w K mg base x (k + 1) ps sp := by
  obtain ⟨f, fd, F1, m, b⟩ := F.ex
  exact ⟨f, fd, F1.ok S len fun cdv A outer s H vs Q E hr h => hbody f cdv A outer s H vs Q E hr h, m, F1.kp, b⟩
theorem ClsIn.can {x qual : Str} {ps N : List Str} {st : Stmt} {C : Addr} {k : Nat} {sp : Sp} (F : ClsIn K mg x qual st ps C) (S : FnScope N ps (defScope st)) (len : ∀ vs H Q E, sp vs H Q E → vs.length = ps.length)
    (hbody : ∀ (f : Addr) (cdv : Value) (A : Around) (outer : List Env) (s : Shared) (H : Hp) (vs : List V) (Q : VK) (E : XK), Room k (A.deeper (envOfC qual (defScope st) s.heap.objs.size f cdv)) → sp vs H Q E →
      ∃ t, PSs (cxOf CX0 P w K mg base N qual (defScope st) f cdv A outer s H E).nox (defBody st) t ∧ t { nx := fun _ H' => Q .non H', rt := Q } (start N vs) H) : CanMk P w K mg base x (k + 1) ps C sp := by
  obtain ⟨f, fd, M, F1, b⟩ := F.ex
  exact ⟨f, fd, M, F1.ok S len fun cdv A outer s H vs Q E hr h => hbody f cdv A outer s H vs Q E hr h, F.mgC, b⟩
end
section
variable {X : Cx} {x : Str} {ps : List Str} {sp : Sp} {k j : Nat} {p pos : Pos} {e : Expr} {es : List Expr} {t : TA} {C : Addr} {i : Int}
theorem pcst (h : Cst X.mg x i) (hg : Gl X x := by exact rfl) (hd : (x == ("__debug__" : Str)) = false := by decide) : PE X (.Name x pos) (tC (.int i)) := by
  obtain ⟨t, e⟩ := h
  exact pe_glob hg e ⟨t, rfl⟩ hd
theorem pcall (F : Can X.prog X.w X.K X.mg X.base x k ps sp) (hr : Room j X.A) (ha : PA X (e :: es) t) (hk : k ≤ j := by decide) (hg : Gl X x := by exact rfl) (hdb : (x == ("__debug__" : Str)) = false := by decide)
    (he : starEach (e :: es) X.env = (false, eval e X.env) :: starEach es X.env := by rfl) (hpl : (backTo pos (starEach es X.env)).any (·.1) = false := by rfl) : PE X (.Call (.Name x p) (e :: es) [] pos) (tCall sp [] E0 t) := by
  obtain ⟨f, fd, F, m, kp, b⟩ := F
  exact pe_call F (hr.mono hk) hg m kp b .nil pass0 ha hdb he hpl
theorem pmake (F : CanMk X.prog X.w X.K X.mg X.base x k ps C sp) (hr : Room j X.A) (ha : PA X (e :: es) t) (hk : k + 1 ≤ j := by decide) (hg : Gl X x := by exact rfl) (hdb : (x == ("__debug__" : Str)) = false := by decide)
    (he : starEach (e :: es) X.env = (false, eval e X.env) :: starEach es X.env := by rfl) (hpl : (backTo pos (starEach es X.env)).any (·.1) = false := by rfl) : PE X (.Call (.Name x p) (e :: es) [] pos) (tMake C sp [] E0 t) := by
  obtain ⟨f, fd, M, F, m, b⟩ := F
  exact pe_make M F (hr.mono hk) hg m b .nil pass0 ha hdb he hpl
theorem pmake0 (F : CanMk X.prog X.w X.K X.mg X.base x k ps C sp) (hr : Room j X.A) (hk : k + 1 ≤ j := by decide) (hg : Gl X x := by exact rfl) (hdb : (x == ("__debug__" : Str)) = false := by decide) : PE X (.Call (.Name x p) [] [] pos) (tMake C sp [] E0 tNil) := by
  obtain ⟨f, fd, M, F, m, b⟩ := F
  exact pe_make0 M F (hr.mono hk) hg m b .nil pass0 hdb
theorem plen {o : Expr} {to : TE} (hm : X.mg "len" = none) (ho : PE X o to) (hg : Gl X "len" := by exact rfl) (he : starEach [o] X.env = (false, eval o X.env) :: starEach [] X.env := by rfl) (hpl : (backTo pos (starEach [] X.env)).any (·.1) = false := by rfl)
    (hs : starEach (o :: []) X.env = (false, eval o X.env) :: starEach [] X.env := by rfl) :
    PE X (.Call (.Name "len" p) [o] [] pos) (tCB rLen (tCons to tNil)) :=
  pe_callB call_lenO hg hm PySem.boot_len (pa_cons ho pa_nil hs) (by decide) (by decide) he hpl
end
/-- what the text has written at its top -/
structure Txt (K : PySem.W.Frag) (mg : Str → Option Value) (CR CD CL : Addr) : Prop where
  c_GUEST_CARD : Cst mg "GUEST_CARD" (1)
  c_STAFF_CARD : Cst mg "STAFF_CARD" (2)
  c_SHUTTING_CARD : Cst mg "SHUTTING_CARD" (3)
  c_EMERGENCY_CARD : Cst mg "EMERGENCY_CARD" (4)
  c_CARD_LENGTH : Cst mg "CARD_LENGTH" (16)
  c_HEAD_LENGTH : Cst mg "HEAD_LENGTH" (8)
  c_MOST_ROOMS : Cst mg "MOST_ROOMS" (64)
  c_EMERGENCY_PLACE : Cst mg "EMERGENCY_PLACE" (255)
  c_ALL_BITS : Cst mg "ALL_BITS" (18446744073709551615)
  c_START_A : Cst mg "START_A" (8317987319222330741)
  c_START_B : Cst mg "START_B" (7237128888997146477)
  c_START_C : Cst mg "START_C" (7816392313619706465)
  c_START_D : Cst mg "START_D" (8387220255154660723)
  c_BEGIN : Cst mg "BEGIN" (0)
  c_ROOM : Cst mg "ROOM" (1)
  c_DAY : Cst mg "DAY" (2)
  c_COME : Cst mg "COME" (3)
  c_COPY : Cst mg "COPY" (4)
  c_LOST : Cst mg "LOST" (5)
  c_LONGER : Cst mg "LONGER" (6)
  c_LEAVE : Cst mg "LEAVE" (7)
  c_SHUT : Cst mg "SHUT" (8)
  c_STAFF : Cst mg "STAFF" (9)
  c_RECALL : Cst mg "RECALL" (10)
  c_NEED : Cst mg "NEED" (11)
  c_WHOSE : Cst mg "WHOSE" (12)
  c_STAY : Cst mg "STAY" (13)
  c_FREE : Cst mg "FREE" (14)
  c_NO_ROOM : Cst mg "NO_ROOM" (-2)
  c_NO_STAY : Cst mg "NO_STAY" (-6)
  c_HAS_STAY : Cst mg "HAS_STAY" (-15)
  c_WRONG_VALUE : Cst mg "WRONG_VALUE" (-22)
  c_NO_MORE : Cst mg "NO_MORE" (-28)
  c_NO_DESK : Cst mg "NO_DESK" (-61)
  c_NO_CARD : Cst mg "NO_CARD" (-71)
  c_KEY_LENGTH : Cst mg "KEY_LENGTH" (16)
  c_LAST_ZONE : Cst mg "LAST_ZONE" (7)
  c_ALL_ZONES : Cst mg "ALL_ZONES" (255)
  c_LAST_DAY : Cst mg "LAST_DAY" (65535)
  c_LAST_NUMBER : Cst mg "LAST_NUMBER" (65535)
  c_LAST_ROUND : Cst mg "LAST_ROUND" (65535)
  c_MOST_CARDS : Cst mg "MOST_CARDS" (65535)
  f_card_of : FnIn K mg "card_of" ["key", "kind", "place", "number", "last", "serial"] (top 14)
  f_is_card : FnIn K mg "is_card" ["key", "row"] (top 15)
  f_is_place : FnIn K mg "is_place" ["kind", "place"] (top 16)
  f_parts_of : FnIn K mg "parts_of" ["card"] (top 17)
  f_tag_of : FnIn K mg "tag_of" ["key", "message"] (top 18)
  f_start_of : FnIn K mg "start_of" ["key"] (top 19)
  f_words_of : FnIn K mg "words_of" ["message"] (top 20)
  f_take_in : FnIn K mg "take_in" ["four", "word"] (top 21)
  f_rounds_of : FnIn K mg "rounds_of" ["four", "times"] (top 22)
  f_round_of : FnIn K mg "round_of" ["four"] (top 23)
  f_turned : FnIn K mg "turned" ["x", "places"] (top 24)
  f_number_of : FnIn K mg "number_of" ["row"] (top 25)
  f_bytes_of : FnIn K mg "bytes_of" ["number", "length"] (top 26)
  f_answers : FnIn K mg "answers" ["calls"] (top 61)
  f_end_of_call : FnIn K mg "end_of_call" ["calls", "at"] (top 62)
  f_answer_call : FnIn K mg "answer_call" ["line", "call", "given"] (top 63)
  f_is_at_room : FnIn K mg "is_at_room" ["call"] (top 64)
  f_answer_at_desk : FnIn K mg "answer_at_desk" ["desk", "call", "given"] (top 65)
  f_answer_at_room : FnIn K mg "answer_at_room" ["desk", "call", "given"] (top 66)
  f_begin : FnIn K mg "begin" ["line", "key"] (top 67)
  f_add_room : FnIn K mg "add_room" ["desk", "zone"] (top 68)
  f_set_day : FnIn K mg "set_day" ["desk", "day"] (top 69)
  f_is_over : FnIn K mg "is_over" ["room", "day"] (top 70)
  f_come : FnIn K mg "come" ["desk", "place", "last"] (top 71)
  f_copy_card : FnIn K mg "copy_card" ["desk", "place"] (top 72)
  f_lose_card : FnIn K mg "lose_card" ["desk", "place"] (top 73)
  f_stay_longer : FnIn K mg "stay_longer" ["desk", "place", "last"] (top 74)
  f_leave : FnIn K mg "leave" ["desk", "place"] (top 75)
  f_shut : FnIn K mg "shut" ["desk", "place"] (top 76)
  f_staff_card : FnIn K mg "staff_card" ["desk", "zones", "last"] (top 77)
  f_recall : FnIn K mg "recall" ["desk"] (top 78)
  f_emergency_card : FnIn K mg "emergency_card" ["desk", "last"] (top 79)
  f_whose : FnIn K mg "whose" ["desk", "row"] (top 80)
  f_is_good : FnIn K mg "is_good" ["desk", "kind", "place", "number", "last"] (top 81)
  f_tell_stay : FnIn K mg "tell_stay" ["desk", "place"] (top 82)
  f_free_rooms : FnIn K mg "free_rooms" ["desk"] (top 83)
  f_state : FnIn K mg "state" ["desk"] (top 84)
  f_is_wrong_last : FnIn K mg "is_wrong_last" ["desk", "last"] (top 85)
  f_no_more_cards : FnIn K mg "no_more_cards" ["desk"] (top 86)
  f_no_more_numbers : FnIn K mg "no_more_numbers" ["room"] (top 87)
  f_guest_card : FnIn K mg "guest_card" ["desk", "place"] (top 88)
  f_make_card : FnIn K mg "make_card" ["desk", "kind", "place", "number", "last"] (top 89)
  k_R : ClsIn K mg "Room" "Room.__init__" (inClass (top 58) 0) ["self", "zone"] CR
  nR_zone : NoAttr K CR "zone"
  nR_number : NoAttr K CR "number"
  nR_stay_last : NoAttr K CR "stay_last"
  k_D : ClsIn K mg "Desk" "Desk.__init__" (inClass (top 59) 0) ["self", "key"] CD
  nD_key : NoAttr K CD "key"
  nD_day : NoAttr K CD "day"
  nD_staff_round : NoAttr K CD "staff_round"
  nD_serial : NoAttr K CD "serial"
  nD_rooms : NoAttr K CD "rooms"
  k_L : ClsIn K mg "Line" "Line.__init__" (inClass (top 60) 0) ["self"] CL
  nL_desk : NoAttr K CL "desk"
  b_len : mg "len" = none
  b_range : mg "range" = none
  b_reversed : mg "reversed" = none
  b_enumerate : mg "enumerate" = none
  nb : ∃ a : Addr, mg "NUMBERS_BEHIND" = some (.ref a) ∧ ∀ H : Hp, SqT K H a (behindN.map V.int)

/-! ### the fields -/
theorem lk_at {f : Str} {v : V} {fs : List (Str × V)} : List.lookup f ((f, v) :: fs) = some v := by
  have hb : (f == f) = true := beq_iff_eq.mpr rfl
  simp only [List.lookup, hb]
theorem lk_ne {f g : Str} {v : V} {fs : List (Str × V)} (h : ¬ f = g) : List.lookup f ((g, v) :: fs) = List.lookup f fs := by
  have hb : (f == g) = false := beq_eq_false_iff_ne.mpr h
  simp only [List.lookup, hb]
theorem pt_nil {f : Str} {v : V} : putF f v [] = [(f, v)] := rfl
theorem pt_at {f : Str} {v x : V} {fs : List (Str × V)} : putF f v ((f, x) :: fs) = (f, v) :: fs := by
  show (if f = f then (f, v) :: fs else _) = _
  rw [if_pos rfl]
theorem pt_ne {f g : Str} {v x : V} {fs : List (Str × V)} (h : ¬ g = f) : putF f v ((g, x) :: fs) = (g, x) :: putF f v fs := by
  show (if g = f then _ else (g, x) :: putF f v fs) = _
  rw [if_neg h]
def vO : Option Nat → V
  | none => .non
  | some l => .int (l : Int)
def roomF (x : Ks347.Room) : List (Str × V) := [("zone", .int (x.zone : Int)), ("number", .int (x.number : Int)), ("stay_last", vO x.stay)]
def deskF (ka rl : Addr) (day epoch serial : Nat) : List (Str × V) := [("key", .ref ka), ("day", .int (day : Int)), ("staff_round", .int (epoch : Int)), ("serial", .int (serial : Int)), ("rooms", .ref rl)]
def lineF (v : V) : List (Str × V) := [("desk", v)]
theorem lkR_zone (x : Ks347.Room) : (roomF x).lookup ("zone" : Str) = some (.int (x.zone : Int)) := lk_at
theorem lkR_number (x : Ks347.Room) : (roomF x).lookup ("number" : Str) = some (.int (x.number : Int)) := (lk_ne (by decide +kernel)).trans lk_at
theorem lkR_stay (x : Ks347.Room) : (roomF x).lookup ("stay_last" : Str) = some (vO x.stay) := (lk_ne (by decide +kernel)).trans ((lk_ne (by decide +kernel)).trans lk_at)
theorem ptR_number (x : Ks347.Room) (n : Nat) : putF "number" (.int (n : Int)) (roomF x) = roomF ⟨x.zone, n, x.stay⟩ := by
  unfold roomF
  rw [pt_ne (by decide +kernel), pt_at]
theorem ptR_stay (x : Ks347.Room) (o : Option Nat) : putF "stay_last" (vO o) (roomF x) = roomF ⟨x.zone, x.number, o⟩ := by
  unfold roomF
  rw [pt_ne (by decide +kernel), pt_ne (by decide +kernel), pt_at]
theorem ptR_all (z : Nat) : putF "stay_last" .non (putF "number" (.int 0) (putF "zone" (.int (z : Int)) [])) = roomF ⟨z, 0, none⟩ := by
  rw [pt_nil, pt_ne (by decide +kernel), pt_nil, pt_ne (by decide +kernel), pt_ne (by decide +kernel), pt_nil]
  rfl
section
variable (ka rl : Addr) (day epoch serial n : Nat)
theorem lkD_key : (deskF ka rl day epoch serial).lookup ("key" : Str) = some (.ref ka) := lk_at
theorem lkD_day : (deskF ka rl day epoch serial).lookup ("day" : Str) = some (.int (day : Int)) := (lk_ne (by decide +kernel)).trans lk_at
theorem lkD_round : (deskF ka rl day epoch serial).lookup ("staff_round" : Str) = some (.int (epoch : Int)) := (lk_ne (by decide +kernel)).trans ((lk_ne (by decide +kernel)).trans lk_at)
theorem lkD_serial : (deskF ka rl day epoch serial).lookup ("serial" : Str) = some (.int (serial : Int)) := (lk_ne (by decide +kernel)).trans ((lk_ne (by decide +kernel)).trans ((lk_ne (by decide +kernel)).trans lk_at))
theorem lkD_rooms : (deskF ka rl day epoch serial).lookup ("rooms" : Str) = some (.ref rl) := (lk_ne (by decide +kernel)).trans ((lk_ne (by decide +kernel)).trans ((lk_ne (by decide +kernel)).trans ((lk_ne (by decide +kernel)).trans lk_at)))
theorem ptD_day : putF "day" (.int (n : Int)) (deskF ka rl day epoch serial) = deskF ka rl n epoch serial := by
  unfold deskF
  rw [pt_ne (by decide +kernel), pt_at]
theorem ptD_round : putF "staff_round" (.int (n : Int)) (deskF ka rl day epoch serial) = deskF ka rl day n serial := by
  unfold deskF
  rw [pt_ne (by decide +kernel), pt_ne (by decide +kernel), pt_at]
theorem ptD_serial : putF "serial" (.int (n : Int)) (deskF ka rl day epoch serial) = deskF ka rl day epoch n := by
  unfold deskF
  rw [pt_ne (by decide +kernel), pt_ne (by decide +kernel), pt_ne (by decide +kernel), pt_at]
theorem ptD_all : putF "rooms" (.ref rl) (putF "serial" (.int 0) (putF "staff_round" (.int 0) (putF "day" (.int 0) (putF "key" (.ref ka) [])))) = deskF ka rl 0 0 0 := by
  have a1 : putF "day" (.int 0) [(("key" : Str), V.ref ka)] = [(("key" : Str), V.ref ka), (("day" : Str), .int 0)] := by rw [pt_ne (by decide +kernel), pt_nil]
  have a2 : putF "staff_round" (.int 0) [(("key" : Str), V.ref ka), (("day" : Str), .int 0)] = [(("key" : Str), V.ref ka), (("day" : Str), .int 0), (("staff_round" : Str), .int 0)] := by rw [pt_ne (by decide +kernel), pt_ne (by decide +kernel), pt_nil]
  have a3 : putF "serial" (.int 0) [(("key" : Str), V.ref ka), (("day" : Str), .int 0), (("staff_round" : Str), .int 0)] = [(("key" : Str), V.ref ka), (("day" : Str), .int 0), (("staff_round" : Str), .int 0), (("serial" : Str), .int 0)] := by rw [pt_ne (by decide +kernel), pt_ne (by decide +kernel), pt_ne (by decide +kernel), pt_nil]
  rw [pt_nil, a1, a2, a3, pt_ne (by decide +kernel), pt_ne (by decide +kernel), pt_ne (by decide +kernel), pt_ne (by decide +kernel), pt_nil]
  rfl
end
theorem lkL_desk (v : V) : (lineF v).lookup ("desk" : Str) = some v := lk_at
theorem ptL_desk (u v : V) : putF "desk" v (lineF u) = lineF v := pt_at
theorem ptL_all (v : V) : putF "desk" v [] = lineF v := rfl
theorem roomF_few (x : Ks347.Room) : (roomF x).length < 1000 := by show 3 < 1000; decide
theorem deskF_few (ka rl : Addr) (d e s : Nat) : (deskF ka rl d e s).length < 1000 := by show 5 < 1000; decide
theorem lineF_few (v : V) : (lineF v).length < 1000 := by show 1 < 1000; decide

theorem upd_upd {H : Hp} {a : Addr} {o o' : HO} : upd (upd H a o) a o' = upd H a o' := by
  funext b
  by_cases q : b = a
  · subst q; rw [upd_same, upd_same]
  · rw [upd_ne q, upd_ne q, upd_ne q]
/-! ### the desk in the heap -/
structure Dk where
  d : Addr
  dx : Addr
  ka : Addr
  rl : Addr
  ras : List Addr
def Dk.has (D : Dk) (b : Addr) : Prop := b = D.d ∨ b = D.rl ∨ b = D.ka ∨ b ∈ D.ras
theorem Dk.has_d (D : Dk) : D.has D.d := .inl rfl
theorem Dk.has_rl (D : Dk) : D.has D.rl := .inr (.inl rfl)
theorem Dk.has_ka (D : Dk) : D.has D.ka := .inr (.inr (.inl rfl))
theorem Dk.has_at (D : Dk) {j : Nat} {r : Addr} (h : D.ras[j]? = some r) : D.has r := .inr (.inr (.inr (List.mem_of_getElem? h)))
structure DeskAt (CR CD : Addr) (H : Hp) (D : Dk) (a : Ks347.Abs) : Prop where
  desk : H D.d = some (.ins CD D.dx (deskF D.ka D.rl a.day a.epoch a.serial))
  key : H D.ka = some (.lst (vN a.key))
  rl : H D.rl = some (.lst (D.ras.map V.ref))
  nd : D.ras.Nodup
  len : D.ras.length = a.rooms.length
  at_ : ∀ (j : Nat) (r : Addr), D.ras[j]? = some r → ∃ (x : Ks347.Room) (dx : Addr), a.rooms[j]? = some x ∧ H r = some (.ins CR dx (roomF x))
  klen : a.key.length = 16
  kb : Bts a.key
  max : a.rooms.length ≤ 64
section
variable {CR CD : Addr} {H H' H1 : Hp} {D D' : Dk} {a a' : Ks347.Abs}
theorem DeskAt.on (B : DeskAt CR CD H D a) : a.on = true := by
  have h := B.klen
  unfold Ks347.Abs.on
  cases e : a.key with
  | nil => rw [e] at h; cases h
  | cons x l => rfl
theorem room_ne {x : Ks347.Room} {C C' d d' : Addr} {ka rl : Addr} {m n k : Nat} : HO.ins C d (roomF x) ≠ HO.ins C' d' (deskF ka rl m n k) := fun z => by
  injection z with _ _ z
  exact absurd (congrArg List.length z) (by show ¬ (3 : Nat) = 5; decide)
theorem key_ne {l : List Nat} {ras : List Addr} (h : l.length = 16) : HO.lst (vN l) ≠ HO.lst (ras.map V.ref) := fun z => by
  injection z with z
  match l, ras, h, z with
  | n :: l, [], _, z => exact absurd z (by intro q; cases q)
  | n :: l, r :: ras, _, z =>
    have q : V.int (n : Int) = V.ref r := (List.cons.inj z).1
    cases q
theorem DeskAt.mem (B : DeskAt CR CD H D a) {r : Addr} (h : r ∈ D.ras) : ∃ (x : Ks347.Room) (dx : Addr), H r = some (.ins CR dx (roomF x)) := by
  obtain ⟨j, hj⟩ := List.mem_iff_getElem?.mp h
  obtain ⟨x, dx, _, e⟩ := B.at_ j r hj
  exact ⟨x, dx, e⟩
theorem DeskAt.d_rl (B : DeskAt CR CD H D a) : D.d ≠ D.rl := ne_of B.desk B.rl (by intro z; cases z)
theorem DeskAt.ka_d (B : DeskAt CR CD H D a) : D.ka ≠ D.d := ne_of B.key B.desk (by intro z; cases z)
theorem DeskAt.ka_rl (B : DeskAt CR CD H D a) : D.ka ≠ D.rl := ne_of B.key B.rl (key_ne B.klen)
theorem DeskAt.r_d (B : DeskAt CR CD H D a) {r : Addr} (h : r ∈ D.ras) : r ≠ D.d := by
  obtain ⟨x, dx, e⟩ := B.mem h
  exact ne_of e B.desk room_ne
theorem DeskAt.r_rl (B : DeskAt CR CD H D a) {r : Addr} (h : r ∈ D.ras) : r ≠ D.rl := by
  obtain ⟨x, dx, e⟩ := B.mem h
  exact ne_of e B.rl (by intro z; cases z)
theorem DeskAt.r_ka (B : DeskAt CR CD H D a) {r : Addr} (h : r ∈ D.ras) : r ≠ D.ka := by
  obtain ⟨x, dx, e⟩ := B.mem h
  exact ne_of e B.key (by intro z; cases z)
theorem DeskAt.hasH (B : DeskAt CR CD H D a) {b : Addr} (h : D.has b) : ∃ o, H b = some o := by
  rcases h with h | h | h | h
  · rw [h]; exact ⟨_, B.desk⟩
  · rw [h]; exact ⟨_, B.rl⟩
  · rw [h]; exact ⟨_, B.key⟩
  · obtain ⟨x, dx, e⟩ := B.mem h
    exact ⟨_, e⟩
theorem DeskAt.same (B : DeskAt CR CD H D a) (s : Same H H') : DeskAt CR CD H' D a :=
  ⟨s _ _ B.desk, s _ _ B.key, s _ _ B.rl, B.nd, B.len, fun j r h => by
    obtain ⟨x, dx, e1, e2⟩ := B.at_ j r h
    exact ⟨x, dx, e1, s _ _ e2⟩, B.klen, B.kb, B.max⟩
theorem DeskAt.get (B : DeskAt CR CD H D a) {j : Nat} {x : Ks347.Room} (h : a.rooms[j]? = some x) : ∃ r dx : Addr, D.ras[j]? = some r ∧ H r = some (.ins CR dx (roomF x)) := by
  have hj : j < D.ras.length := by rw [B.len]; exact (List.getElem?_eq_some_iff.mp h).1
  obtain ⟨x', dx, e1, e2⟩ := B.at_ j D.ras[j] (List.getElem?_eq_getElem hj)
  rw [h] at e1
  cases e1
  exact ⟨_, dx, List.getElem?_eq_getElem hj, e2⟩
theorem at_ref {ras : List Addr} {j : Nat} {r : Addr} (h : ras[j]? = some r) : atI (ras.map V.ref) (j : Int) = some (.ref r) := atI_nat (by
  rw [List.getElem?_map, h]
  rfl)
theorem DeskAt.setRoom (B : DeskAt CR CD H D a) {j : Nat} {r dx : Addr} {x : Ks347.Room} (x' : Ks347.Room) (hr : D.ras[j]? = some r) (hx : a.rooms[j]? = some x) (hd : H r = some (.ins CR dx (roomF x))) :
    DeskAt CR CD (upd H r (.ins CR dx (roomF x'))) D (Ks347.setRoom a j x') := by
  have hm : r ∈ D.ras := List.mem_of_getElem? hr
  have hj := (List.getElem?_eq_some_iff.mp hx).1
  refine ⟨?_, ?_, ?_, B.nd, ?_, fun i b hi => ?_, B.klen, B.kb, ?_⟩
  · rw [upd_ne (B.r_d hm).symm]; exact B.desk
  · rw [upd_ne (B.r_ka hm).symm]; exact B.key
  · rw [upd_ne (B.r_rl hm).symm]; exact B.rl
  · show D.ras.length = (a.rooms.set j x').length
    rw [List.length_set]; exact B.len
  · show ∃ (y : Ks347.Room) (dy : Addr), (a.rooms.set j x')[i]? = some y ∧ _
    by_cases q : i = j
    · subst q
      rw [hr] at hi
      cases hi
      exact ⟨x', dx, List.getElem?_set_self hj, upd_same⟩
    · obtain ⟨y, dy, e1, e2⟩ := B.at_ i b hi
      refine ⟨y, dy, by rw [List.getElem?_set_ne (fun z => q z.symm)]; exact e1, ?_⟩
      rw [upd_ne (fun z => q (nd_ix B.nd hi (by rw [z]; exact hr)))]
      exact e2
  · show (a.rooms.set j x').length ≤ 64
    rw [List.length_set]; exact B.max
theorem DeskAt.setDesk (B : DeskAt CR CD H D a) (d e s : Nat) : DeskAt CR CD (upd H D.d (.ins CD D.dx (deskF D.ka D.rl d e s))) D { a with day := d, epoch := e, serial := s } := by
  refine ⟨upd_same, ?_, ?_, B.nd, B.len, fun i b hi => ?_, B.klen, B.kb, B.max⟩
  · rw [upd_ne B.ka_d]; exact B.key
  · rw [upd_ne B.d_rl.symm]; exact B.rl
  · obtain ⟨y, dy, e1, e2⟩ := B.at_ i b hi
    refine ⟨y, dy, e1, ?_⟩
    rw [upd_ne (B.r_d (List.mem_of_getElem? hi))]
    exact e2
/-- a room more -/
theorem DeskAt.addRoom (B : DeskAt CR CD H D a) {r dr : Addr} {z : Nat} (hr : H r = some (.ins CR dr (roomF ⟨z, 0, none⟩))) (hn : r ∉ D.ras) (hd : r ≠ D.rl) (hm : a.rooms.length < 64) :
    DeskAt CR CD (upd H D.rl (.lst (D.ras.map V.ref ++ [.ref r]))) { D with ras := D.ras ++ [r] } { a with rooms := a.rooms ++ [⟨z, 0, none⟩] } := by
  refine ⟨?_, ?_, ?_, ?_, ?_, fun i b hi => ?_, B.klen, B.kb, ?_⟩
  · show upd H D.rl _ D.d = _
    rw [upd_ne B.d_rl]; exact B.desk
  · show upd H D.rl _ D.ka = _
    rw [upd_ne B.ka_rl]; exact B.key
  · show upd H D.rl _ D.rl = some (.lst ((D.ras ++ [r]).map V.ref))
    rw [upd_same, List.map_append]
    rfl
  · exact nd_snoc B.nd hn
  · show (D.ras ++ [r]).length = (a.rooms ++ [_]).length
    rw [List.length_append, List.length_append, B.len]
    rfl
  · have hi : (D.ras ++ [r])[i]? = some b := hi
    show ∃ (x : Ks347.Room) (dx : Addr), (a.rooms ++ [⟨z, 0, none⟩])[i]? = some x ∧ upd H D.rl _ b = _
    by_cases q : i < D.ras.length
    · rw [List.getElem?_append_left q] at hi
      obtain ⟨y, dy, e1, e2⟩ := B.at_ i b hi
      refine ⟨y, dy, by rw [List.getElem?_append_left (by rw [← B.len]; exact q)]; exact e1, ?_⟩
      rw [upd_ne (B.r_rl (List.mem_of_getElem? hi))]
      exact e2
    · rw [List.getElem?_append_right (by omega)] at hi
      have h0 : i - D.ras.length = 0 := by
        cases h : i - D.ras.length with
        | zero => rfl
        | succ k => rw [h] at hi; simp at hi
      rw [h0] at hi
      cases hi
      refine ⟨⟨z, 0, none⟩, dr, ?_, ?_⟩
      · rw [List.getElem?_append_right (by rw [← B.len]; omega), ← B.len, h0]
        rfl
      · rw [upd_ne hd]; exact hr
  · show (a.rooms ++ [_]).length ≤ 64
    rw [List.length_append]
    show a.rooms.length + 1 ≤ 64
    omega
end

theorem full_iff (a : Ks347.Abs) : Ks347.full a = true ↔ 65535 ≤ a.serial := by
  unfold Ks347.full Ks347.TOP
  rw [decide_eq_true_eq]
  omega
/-! ### what a call at the desk hands back -/
def outs (x : Ks347.Ans) : List Int := x.ret :: Ks347Neutral.ints x.out
def vA (x : Ks347.Ans) : List V := V.int x.ret :: vN x.out
theorem vA_outs (x : Ks347.Ans) : vA x = vI (outs x) := by
  unfold vA vI outs Ks347Neutral.ints vN
  rw [List.map_cons, List.map_map]
  rfl
theorem ptR_stay_int (x : Ks347.Room) (l : Nat) : putF "stay_last" (.int (l : Int)) (roomF x) = roomF ⟨x.zone, x.number, some l⟩ := ptR_stay x (some l)
theorem ptR_stay_non (x : Ks347.Room) : putF "stay_last" .non (roomF x) = roomF ⟨x.zone, x.number, none⟩ := ptR_stay x none
theorem ptR_succ (x : Ks347.Room) (n : Nat) : putF "number" (.int ((n : Int) + 1)) (roomF x) = roomF ⟨x.zone, n + 1, x.stay⟩ := ptR_number x (n + 1)
def Grow (H : Hp) (D D' : Dk) : Prop := D'.d = D.d ∧ ∀ b, D'.has b → D.has b ∨ H b = none
theorem Grow.refl (H : Hp) (D : Dk) : Grow H D D := ⟨rfl, fun _ h => .inl h⟩
def Post (CR CD : Addr) (H : Hp) (D : Dk) (r : Ks347.Abs × Ks347.Ans) (Q : VK) : Prop :=
  ∀ (H' : Hp) (D' : Dk) (p : Addr), DeskAt CR CD H' D' r.1 → Grow H D D' → Fr D.has H H' → H' p = some (.lst (vA r.2)) → H p = none → Q (.ref p) H'
section
variable {CR CD : Addr} {H H' H1 : Hp} {D D' : Dk} {a a' : Ks347.Abs} {r : Ks347.Abs × Ks347.Ans} {Q : VK} {x : Ks347.Ans}
theorem Post.step (k : Post CR CD H D r Q) (f : Fr D.has H H1) : Post CR CD H1 D r Q := fun H' D' p h1 h2 h3 h4 h5 =>
  k H' D' p h1 ⟨h2.1, fun b hb => (h2.2 b hb).imp id (f.dom b)⟩ (f.trans h3) h4 (f.dom p h5)
theorem Post.new (k : Post CR CD H D (a', x) Q) (B : DeskAt CR CD H D a') : ∀ p, H p = none → Q (.ref p) (upd H p (.lst (vA x))) := fun p hp =>
  k _ D p (B.same (same_new hp)) (Grow.refl H D) (Fr.same (same_new hp)) upd_same hp
/-- a refusal, or a number alone -/
theorem Post.no {v : Int} (k : Post CR CD H D (a, Ks347.no v) Q) (B : DeskAt CR CD H D a) : [V.int v].length ≤ sizeLine ∧ ∀ p, H p = none → Q (.ref p) (upd H p (.lst [V.int v])) :=
  ⟨by show 1 ≤ sizeLine; decide, fun p hp => k.new B p hp⟩
end
end Dc
end
section
set_option Elab.async false
set_option linter.all false
set_option maxRecDepth 100000
set_option maxHeartbeats 4000000
namespace Dc
open PySem PySem.Spec PyProof.Rows L2
def vF (v : Ks345.Four) : List V := [.int (v.a : Int), .int (v.b : Int), .int (v.c : Int), .int (v.d : Int)]
theorem atF0 (v : Ks345.Four) : atI (vF v) 0 = some (.int (v.a : Int)) := atI_nat (j := 0) rfl
theorem atF1 (v : Ks345.Four) : atI (vF v) 1 = some (.int (v.b : Int)) := atI_nat (j := 1) rfl
theorem atF2 (v : Ks345.Four) : atI (vF v) 2 = some (.int (v.c : Int)) := atI_nat (j := 2) rfl
theorem atF3 (v : Ks345.Four) : atI (vF v) 3 = some (.int (v.d : Int)) := atI_nat (j := 3) rfl
/-- over a list from its end -/
theorem for_rev {K : PySem.W.Frag} {a : Addr} {xs : List V} {g : TG} {tb : TS} {D : Ends} {σ : L2.St} {H : Hp} (Pv : Nat → L2.St → Hp → Prop) (h0 : Pv 0 σ H) (hl : ∀ i σ H, i ≤ xs.length → Pv i σ H → SqL K H a xs)
    (hs : ∀ i x σ H, i < xs.length → xs[xs.length - 1 - i]? = some x → Pv i σ H → g x σ H fun σ2 H2 => tb { D with nx := Pv (i + 1), ct := Pv (i + 1), bk := D.nx } σ2 H2) (hd : ∀ σ H, Pv xs.length σ H → D.nx σ H) :
    ∃ W : Nat → Nat → L2.St → Hp → Prop, (∃ m, W 0 m σ H) ∧ ∀ i m σ H, W i m σ H →
      ((Itv K a xs.length).stop i H ∧ D.nx σ H) ∨ ((Itv K a xs.length).go i H ∧ ∃ N : L2.St → Hp → Prop, (∀ σ' H', N σ' H' → ∃ m', m' < m ∧ W (i + 1) m' σ' H') ∧ ∀ x H', (Itv K a xs.length).yld i H x H' → g x σ H' fun σ2 H2 => tb { D with nx := N, ct := N, bk := D.nx } σ2 H2) := by
  refine ⟨fun i m σ H => m = xs.length - i ∧ i ≤ xs.length ∧ Pv i σ H, ⟨xs.length, by simp, Nat.zero_le _, h0⟩, ?_⟩
  rintro i m σ H ⟨rfl, hi, p⟩
  have q := hl i σ H hi p
  by_cases hlt : i < xs.length
  · refine .inr ⟨⟨hlt, xs, xs[xs.length - 1 - i]'(by omega), q, List.getElem?_eq_getElem _⟩, Pv (i + 1), fun σ' H' p' => ⟨xs.length - (i + 1), by omega, rfl, hlt, p'⟩, fun x H' y => ?_⟩
    obtain ⟨e, y⟩ := y
    subst e
    exact hs i x σ _ hlt (y xs q) p
  · have e : i = xs.length := by omega
    subst e
    exact .inl ⟨Nat.le_refl _, hd σ H p⟩

/-! ### what the defs of the card promise -/
def spTurned : Sp := fun vs H Q _ => ∃ x p : Nat, vs = [.int (x : Int), .int (p : Int)] ∧ x < 2 ^ 64 ∧ p ≤ 64 ∧ Q (.int (Ks345.turn p x : Nat)) H
def spRound : Sp := fun vs H Q _ => ∃ (a : Addr) (v : Ks345.Four), vs = [.ref a] ∧ H a = some (.lst (vF v)) ∧ Ok v ∧ ∀ (H' : Hp) (p : Addr), Same H H' → H' p = some (.lst (vF (Ks345.round v))) → Q (.ref p) H'
def spRounds : Sp := fun vs H Q _ => ∃ (a : Addr) (v : Ks345.Four) (n : Nat), vs = [.ref a, .int (n : Int)] ∧ n ≤ 1000 ∧ H a = some (.lst (vF v)) ∧ Ok v ∧ ∀ (H' : Hp) (p : Addr), Same H H' → H' p = some (.lst (vF (Ks345.rounds n v))) → Q (.ref p) H'
def spTakeIn : Sp := fun vs H Q _ => ∃ (a : Addr) (v : Ks345.Four) (m : Nat), vs = [.ref a, .int (m : Int)] ∧ H a = some (.lst (vF v)) ∧ Ok v ∧ m < 2 ^ 64 ∧ ∀ (H' : Hp) (p : Addr), Same H H' → H' p = some (.lst (vF (Ks345.word v m))) → Q (.ref p) H'
def spNumber : Sp := fun vs H Q _ => ∃ (a : Addr) (l : List Nat), vs = [.ref a] ∧ H a = some (.lst (vN l)) ∧ Q (.int (Ks345.number l : Nat)) H
def spBytes : Sp := fun vs H Q _ => ∃ n k : Nat, vs = [.int (n : Int), .int (k : Int)] ∧ k ≤ 1000 ∧ ∀ (H' : Hp) (p : Addr), Same H H' → H' p = some (.lst (vN (Ks345.bytes k n))) → Q (.ref p) H'
def spWords : Sp := fun vs H Q _ => ∃ (a : Addr) (m : List Nat), vs = [.ref a] ∧ H a = some (.lst (vN m)) ∧ m.length = 8 ∧ ∀ (H' : Hp) (p : Addr), Same H H' → H' p = some (.lst (vN [Ks345.number m, 8 * 2 ^ 56])) → Q (.ref p) H'
def spStart : Sp := fun vs H Q _ => ∃ (a : Addr) (key : List Nat), vs = [.ref a] ∧ H a = some (.lst (vN key)) ∧ key.length = 16 ∧ ∀ (H' : Hp) (p : Addr), Same H H' → H' p = some (.lst (vF (Ks345.begun key))) → Q (.ref p) H'
def spTag : Sp := fun vs H Q _ => ∃ (ka ma : Addr) (key m : List Nat), vs = [.ref ka, .ref ma] ∧ H ka = some (.lst (vN key)) ∧ H ma = some (.lst (vN m)) ∧ key.length = 16 ∧ Bts key ∧ m.length = 8 ∧ Bts m ∧
  ∀ (H' : Hp) (p : Addr), Same H H' → H' p = some (.lst (vN (Ks345.bytes 8 (Ks345.tag key m)))) → Q (.ref p) H'
def spCard : Sp := fun vs H Q _ => ∃ (ka : Addr) (key : List Nat) (kind place number last serial : Nat), vs = [.ref ka, .int (kind : Int), .int (place : Int), .int (number : Int), .int (last : Int), .int (serial : Int)] ∧ H ka = some (.lst (vN key)) ∧
  key.length = 16 ∧ Bts key ∧ kind < 256 ∧ place < 256 ∧ ∀ (H' : Hp) (p : Addr), Same H H' → H' p = some (.lst (vN (Ks345.signed key ⟨kind, place, number, last, serial⟩))) → Q (.ref p) H'

def spPlace : Sp := fun vs H Q _ => ∃ kind place : Nat, vs = [.int (kind : Int), .int (place : Int)] ∧ Q (.bl (okPlace kind place)) H
def spIsCard : Sp := fun vs H Q _ => ∃ (ka ra : Addr) (key b : List Nat), vs = [.ref ka, .ref ra] ∧ H ka = some (.lst (vN key)) ∧ H ra = some (.lst (vN b)) ∧ key.length = 16 ∧ Bts key ∧ Bts b ∧ ∀ H' : Hp, Same H H' → Q (.bl (Ks345.look key b).isSome) H'
def spParts : Sp := fun vs H Q _ => ∃ (ra : Addr) (b : List Nat), vs = [.ref ra] ∧ H ra = some (.lst (vN b)) ∧ b.length = 16 ∧ ∀ (H' : Hp) (p : Addr), Same H H' → H' p = some (.lst (vN (Ks345.fields (Ks345.cardOf b)))) → Q (.ref p) H'

section
variable {P : Program} {w : World} {K : PySem.W.Frag} {mg : Str → Option Value} {base : Heap} {CR CD CL : Addr}
theorem sc_turned : FnScope ["x", "places"] ["x", "places"] (defScope (top 24)) := ⟨rfl, rfl, rfl, by decide +kernel, rfl, by decide +kernel, by decide +kernel⟩
theorem can_turned (T : Txt K mg CR CD CL) : Can P w K mg base "turned" 1 ["x", "places"] spTurned := by
  refine T.f_turned.can sc_turned (fun vs H Q E h => ?_) (fun f cdv A outer s H vs Q E hr h => ?_)
  · obtain ⟨x, p, rfl, _⟩ := h
    rfl
  · obtain ⟨x, p, rfl, hx, hp, k⟩ := h
    refine ⟨_, pss_one (ps_ret (pe_op op_or (pe_op op_and (pe_op op_shl (pv 0) (pv 1)) (pcst T.c_ALL_BITS)) (pe_op op_shr (pv 0) (pe_op op_sub pe_int (pv 1))))), ?_⟩
    simp only [tSeq, tNext, tRet, tAsg, gName, tDrop, tIfS, tVar, tC, tOp, rI0, rI, tTest, tB, tLst, tNil, tCons, tCall, tFld, sFld, tMake, tSl, rSlO, tPart, tNoPart, rIxO, rCat, tCB, rLen, tAnd, tOr, tNot, tAndV, tOrV, tIf, tIsN, tNotN, L2.start, List.map_cons, List.map_nil, List.length_cons, List.length_nil, List.replicate_succ, List.replicate_zero, List.cons_append, List.nil_append, List.append_nil, List.set_cons_zero, List.set_cons_succ, List.getElem?_cons_zero, List.getElem?_cons_succ, Option.some.injEq, V.int.injEq, V.ref.injEq, V.bl.injEq, List.cons.injEq, HO.ins.injEq, HO.lst.injEq, eq_self, Bool.false_eq_true, if_true, if_false, and_assoc, cxOf_K, and_true, true_and, exists_and_left, exists_eq_left', exists_eq_left, decide_eq_true_eq]
    refine ⟨⟨by omega, by omega, by rw [Int.natAbs_natCast]; exact hx⟩, by omega, ?_⟩
    rw [turned_eq hx hp]
    exact k
theorem rd_add64 {σ : L2.St} {H : Hp} {Q : VK} {i j x y : Nat} (h1 : σ[i]? = some (some (.int (x : Int)))) (h2 : σ[j]? = some (some (.int (y : Int)))) (k : Q (.int (Ks345.add x y : Nat)) H) :
    tOp (rI0 fun i j => .int (Builtin.bitAnd i j)) (tOp (rI0 fun i j => .int (i + j)) (tVar i) (tVar j)) (tC (.int 18446744073709551615)) σ H Q := by
  refine ⟨_, h1, _, h2, _, _, rfl, rfl, _, _, rfl, rfl, ?_⟩
  show Q (.int (Builtin.bitAnd ((x : Int) + (y : Int)) 18446744073709551615)) H
  rw [add64]
  exact k
theorem rd_turn {σ : L2.St} {H : Hp} {Q : VK} {i x : Nat} (p : Nat) (hx : x < 2 ^ 64) (hp : p ≤ 64) (h1 : σ[i]? = some (some (.int (x : Int)))) (k : Q (.int (Ks345.turn p x : Nat)) H) :
    tCall spTurned [] E0 (tCons (tVar i) (tCons (tC (.int (p : Int))) tNil)) σ H Q := ⟨_, h1, x, p, rfl, hx, hp, k⟩
theorem rd_turnx {σ : L2.St} {H : Hp} {Q : VK} {i j x y : Nat} (p : Nat) (hx : x < 2 ^ 64) (hp : p ≤ 64) (h1 : σ[i]? = some (some (.int (x : Int)))) (h2 : σ[j]? = some (some (.int (y : Int)))) (k : Q (.int ((Ks345.turn p x ^^^ y : Nat) : Int)) H) :
    tOp (rI0 fun i j => .int (Builtin.bitXor i j)) (tCall spTurned [] E0 (tCons (tVar i) (tCons (tC (.int (p : Int))) tNil))) (tVar j) σ H Q := by
  refine ⟨_, h1, x, p, rfl, hx, hp, _, h2, _, _, rfl, rfl, ?_⟩
  show Q (.int (Builtin.bitXor ((Ks345.turn p x : Nat) : Int) (y : Int))) H
  rw [bxor]
  exact k
theorem sc_round_of : FnScope ["four", "a", "b", "c", "d"] ["four"] (defScope (top 23)) := ⟨rfl, rfl, rfl, by decide +kernel, rfl, by decide +kernel, by decide +kernel⟩
theorem can_round_of (T : Txt K mg CR CD CL) : Can P w K mg base "round_of" 2 ["four"] spRound := by
  have G : Can P w K mg base "turned" 1 ["x", "places"] spTurned := can_turned T
  refine T.f_round_of.can sc_round_of (fun vs H Q E h => ?_) (fun f cdv A outer s H vs Q E hr h => ?_)
  · obtain ⟨a, v, rfl, _⟩ := h
    rfl
  · obtain ⟨a, v, rfl, hA, O, k⟩ := h
    refine ⟨_, pss_cons (ps_set (i := 1) sc_round_of.nd rfl (Or.inl rfl) (pe_ix ix_own (pv 0) pe_int (fun _ _ => rfl)))
      (pss_cons (ps_set (i := 2) sc_round_of.nd rfl (Or.inl rfl) (pe_ix ix_own (pv 0) pe_int (fun _ _ => rfl)))
      (pss_cons (ps_set (i := 3) sc_round_of.nd rfl (Or.inl rfl) (pe_ix ix_own (pv 0) pe_int (fun _ _ => rfl)))
      (pss_cons (ps_set (i := 4) sc_round_of.nd rfl (Or.inl rfl) (pe_ix ix_own (pv 0) pe_int (fun _ _ => rfl)))
      (pss_cons (ps_set (i := 1) sc_round_of.nd rfl (Or.inl rfl) (pe_op op_and (pe_op op_add (pv 1) (pv 2)) (pcst T.c_ALL_BITS)))
      (pss_cons (ps_set (i := 2) sc_round_of.nd rfl (Or.inl rfl) (pe_op op_xor (pcall G hr (pa_cons (pv 2) (pa_cons pe_int pa_nil))) (pv 1)))
      (pss_cons (ps_set (i := 1) sc_round_of.nd rfl (Or.inl rfl) (pcall G hr (pa_cons (pv 1) (pa_cons pe_int pa_nil))))
      (pss_cons (ps_set (i := 3) sc_round_of.nd rfl (Or.inl rfl) (pe_op op_and (pe_op op_add (pv 3) (pv 4)) (pcst T.c_ALL_BITS)))
      (pss_cons (ps_set (i := 4) sc_round_of.nd rfl (Or.inl rfl) (pe_op op_xor (pcall G hr (pa_cons (pv 4) (pa_cons pe_int pa_nil))) (pv 3)))
      (pss_cons (ps_set (i := 1) sc_round_of.nd rfl (Or.inl rfl) (pe_op op_and (pe_op op_add (pv 1) (pv 4)) (pcst T.c_ALL_BITS)))
      (pss_cons (ps_set (i := 4) sc_round_of.nd rfl (Or.inl rfl) (pe_op op_xor (pcall G hr (pa_cons (pv 4) (pa_cons pe_int pa_nil))) (pv 1)))
      (pss_cons (ps_set (i := 3) sc_round_of.nd rfl (Or.inl rfl) (pe_op op_and (pe_op op_add (pv 3) (pv 2)) (pcst T.c_ALL_BITS)))
      (pss_cons (ps_set (i := 2) sc_round_of.nd rfl (Or.inl rfl) (pe_op op_xor (pcall G hr (pa_cons (pv 2) (pa_cons pe_int pa_nil))) (pv 3)))
      (pss_cons (ps_set (i := 3) sc_round_of.nd rfl (Or.inl rfl) (pcall G hr (pa_cons (pv 3) (pa_cons pe_int pa_nil))))
      (pss_one (ps_ret (pe_lst (pa_cons (pv 1) (pa_cons (pv 2) (pa_cons (pv 3) (pa_cons (pv 4) pa_nil)))))))))))))))))))), ?_⟩
    have hb1 : (Ks345.turn 13 v.b) ^^^ (Ks345.add v.a v.b) < 2 ^ 64 := xor_lt (turn_lt O.b (by decide)) (add_lt _ _)
    have hd1 : (Ks345.turn 16 v.d) ^^^ (Ks345.add v.c v.d) < 2 ^ 64 := xor_lt (turn_lt O.d (by decide)) (add_lt _ _)
    refine seq_set (rd_ixc rfl hA (atF0 v) ?_)
    refine seq_set (rd_ixc rfl hA (atF1 v) ?_)
    refine seq_set (rd_ixc rfl hA (atF2 v) ?_)
    refine seq_set (rd_ixc rfl hA (atF3 v) ?_)
    refine seq_set (rd_add64 rfl rfl ?_)
    refine seq_set (rd_turnx 13 O.b (by decide) rfl rfl ?_)
    refine seq_set (rd_turn 32 (add_lt _ _) (by decide) rfl ?_)
    refine seq_set (rd_add64 rfl rfl ?_)
    refine seq_set (rd_turnx 16 O.d (by decide) rfl rfl ?_)
    refine seq_set (rd_add64 rfl rfl ?_)
    refine seq_set (rd_turnx 21 hd1 (by decide) rfl rfl ?_)
    refine seq_set (rd_add64 rfl rfl ?_)
    refine seq_set (rd_turnx 17 hb1 (by decide) rfl rfl ?_)
    refine seq_set (rd_turn 32 (add_lt _ _) (by decide) rfl ?_)
    refine ⟨_, rfl, _, rfl, _, rfl, _, rfl, by show 4 ≤ sizeLine; decide, fun p hp => k _ p (same_new hp) ?_⟩
    rw [upd_same, round_eq]
    rfl
theorem sc_rounds_of : FnScope ["four", "times", "turn"] ["four", "times"] (defScope (top 22)) := ⟨rfl, rfl, rfl, by decide +kernel, rfl, by decide +kernel, by decide +kernel⟩
theorem can_rounds_of (T : Txt K mg CR CD CL) : Can P w K mg base "rounds_of" 3 ["four", "times"] spRounds := by
  have G : Can P w K mg base "round_of" 2 ["four"] spRound := can_round_of T
  refine T.f_rounds_of.can sc_rounds_of (fun vs H Q E h => ?_) (fun f cdv A outer s H vs Q E hr h => ?_)
  · obtain ⟨a, v, n, rfl, _⟩ := h
    rfl
  · obtain ⟨a, v, n, rfl, hn, hA, O, k⟩ := h
    refine ⟨_, pss_cons (ps_for PassesOwn.never rfl (pi_range1 rfl T.b_range (pa_cons (pv 1) pa_nil)) (pg_name (i := 2) sc_rounds_of.nd rfl (Or.inl rfl)) (pss_one (ps_set (i := 0) sc_rounds_of.nd rfl (Or.inl rfl) (pcall G hr (pa_cons (pv 0) pa_nil)))))
      (pss_one (ps_ret (pv 0))), ?_⟩
    refine ⟨_, rfl, (n : Int), rfl, by omega, by omega, for_range (lo := 0) (n := n) (fun i σ H' => ∃ (q : Addr) (v2 : Option V), σ = [some (.ref q), some (.int (n : Int)), v2] ∧ Same H H' ∧ H' q = some (.lst (vF (Ks345.rounds i v))))
      ⟨a, none, rfl, Same.refl H, by rw [rounds_zero]; exact hA⟩ ?_ ?_⟩
    · rintro i σ H' hi ⟨q, v2, rfl, s1, hq⟩
      refine ⟨_, rfl, q, Ks345.rounds i v, rfl, hq, Ok.rounds i O, fun H2 p s2 hp => ?_⟩
      exact ⟨p, _, rfl, s1.trans s2, by rw [rounds_succ]; exact hp⟩
    · rintro σ H' ⟨q, v2, rfl, s1, hq⟩
      exact ⟨_, rfl, k H' q s1 hq⟩
theorem sc_take_in : FnScope ["four", "word", "mixed"] ["four", "word"] (defScope (top 21)) := ⟨rfl, rfl, rfl, by decide +kernel, rfl, by decide +kernel, by decide +kernel⟩
theorem can_take_in (T : Txt K mg CR CD CL) : Can P w K mg base "take_in" 4 ["four", "word"] spTakeIn := by
  have G : Can P w K mg base "rounds_of" 3 ["four", "times"] spRounds := can_rounds_of T
  refine T.f_take_in.can sc_take_in (fun vs H Q E h => ?_) (fun f cdv A outer s H vs Q E hr h => ?_)
  · obtain ⟨a, v, m, rfl, _⟩ := h
    rfl
  · obtain ⟨a, v, m, rfl, hA, O, hm, k⟩ := h
    refine ⟨_, pss_cons (ps_set (i := 2) sc_take_in.nd rfl (Or.inl rfl) (pcall G hr (pa_cons (pe_lst (pa_cons (pe_ix ix_own (pv 0) pe_int (fun _ _ => rfl)) (pa_cons (pe_ix ix_own (pv 0) pe_int (fun _ _ => rfl)) (pa_cons (pe_ix ix_own (pv 0) pe_int (fun _ _ => rfl)) (pa_cons (pe_op op_xor (pe_ix ix_own (pv 0) pe_int (fun _ _ => rfl)) (pv 1)) pa_nil))))) (pa_cons pe_int pa_nil))))
      (pss_one (ps_ret (pe_lst (pa_cons (pe_op op_xor (pe_ix ix_own (pv 2) pe_int (fun _ _ => rfl)) (pv 1)) (pa_cons (pe_ix ix_own (pv 2) pe_int (fun _ _ => rfl)) (pa_cons (pe_ix ix_own (pv 2) pe_int (fun _ _ => rfl)) (pa_cons (pe_ix ix_own (pv 2) pe_int (fun _ _ => rfl)) pa_nil))))))), ?_⟩
    refine ⟨_, rfl, a, _, _, _, rfl, rfl, hA, atF0 v, _, rfl, a, _, _, _, rfl, rfl, hA, atF1 v, _, rfl, a, _, _, _, rfl, rfl, hA, atF2 v, _, rfl, a, _, _, _, rfl, rfl, hA, atF3 v, _, rfl, _, _, rfl, rfl, by show 4 ≤ sizeLine; decide, fun p hp => ?_⟩
    have O1 : Ok ⟨v.a, v.b, v.c, v.d ^^^ m⟩ := ⟨O.a, O.b, O.c, xor_lt O.d hm⟩
    have el : [V.int (v.a : Int), V.int (v.b : Int), V.int (v.c : Int), V.int (Builtin.bitXor (v.d : Int) (m : Int))] = vF ⟨v.a, v.b, v.c, v.d ^^^ m⟩ := by
      rw [bxor]
      rfl
    refine ⟨p, ⟨v.a, v.b, v.c, v.d ^^^ m⟩, 2, rfl, by decide, by rw [← el]; exact upd_same, O1, fun H2 q s2 hq => ?_⟩
    refine ⟨_, rfl, q, _, _, _, rfl, rfl, hq, atF0 _, _, rfl, _, _, rfl, rfl, _, rfl, q, _, _, _, rfl, rfl, hq, atF1 _, _, rfl, q, _, _, _, rfl, rfl, hq, atF2 _, _, rfl, q, _, _, _, rfl, rfl, hq, atF3 _, by show 4 ≤ sizeLine; decide, fun p2 hp2 => k _ p2 (((same_new hp).trans s2).trans (same_new hp2)) ?_⟩
    rw [upd_same, word_eq]
    show some (HO.lst [V.int (Builtin.bitXor ((_ : Nat) : Int) (m : Int)), _, _, _]) = _
    rw [bxor]
    rfl
theorem sc_number_of : FnScope ["row", "number", "byte"] ["row"] (defScope (top 25)) := ⟨rfl, rfl, rfl, by decide +kernel, rfl, by decide +kernel, by decide +kernel⟩
theorem can_number_of (T : Txt K mg CR CD CL) : Can P w K mg base "number_of" 1 ["row"] spNumber := by
  refine T.f_number_of.can sc_number_of (fun vs H Q E h => ?_) (fun f cdv A outer s H vs Q E hr h => ?_)
  · obtain ⟨a, l, rfl, _⟩ := h
    rfl
  · obtain ⟨a, l, rfl, hA, k⟩ := h
    refine ⟨_, pss_cons (ps_set (i := 1) sc_number_of.nd rfl (Or.inl rfl) pe_int) (pss_cons (ps_for PassesOwn.never rfl (pi_reversed rfl T.b_reversed (pa_cons (pv 0) pa_nil)) (pg_name (i := 2) sc_number_of.nd rfl (Or.inl rfl)) (pss_one (ps_set (i := 1) sc_number_of.nd rfl (Or.inl rfl) (pe_op op_add (pe_op op_mul (pv 1) pe_int) (pv 2)))))
      (pss_one (ps_ret (pv 1)))), ?_⟩
    have e0 : Ks345.number (l.drop (l.length - 0)) = 0 := by
      rw [Nat.sub_zero, List.drop_length]
      rfl
    refine ⟨_, rfl, a, vN l, rfl, SqL.of hA, for_rev (K := K) (a := a) (xs := vN l) (fun i σ H' => ∃ v : Option V, σ = [some (.ref a), some (.int (Ks345.number (l.drop (l.length - i)) : Nat)), v] ∧ H' = H)
      ⟨none, by rw [e0]; rfl, rfl⟩ (fun i σ H' _ ⟨_, _, e⟩ => by rw [e]; exact SqL.of hA) ?_ ?_⟩
    · rintro i y σ H' hi hy ⟨v, rfl, rfl⟩
      obtain ⟨b, hb, rfl⟩ := vN_of_get hy
      rw [vN_length] at hi hb
      have e1 := number_drop hb
      have e2 : l.length - 1 - i = l.length - (i + 1) := by omega
      have e3 : l.length - 1 - i + 1 = l.length - i := by omega
      rw [e3, e2] at e1
      refine ⟨_, rfl, _, _, rfl, rfl, .inr ⟨by decide, by decide⟩, _, rfl, _, _, rfl, rfl, ?_⟩
      have e4 : ((Ks345.number (l.drop (l.length - i)) : Nat) : Int) * 256 + (b : Int) = ((Ks345.number (l.drop (l.length - (i + 1))) : Nat) : Int) := by omega
      refine ⟨some (.int (b : Int)), ?_, rfl⟩
      rw [← e4]
      rfl
    · rintro σ H' ⟨v, rfl, rfl⟩
      rw [vN_length, Nat.sub_self, List.drop_zero]
      exact ⟨_, rfl, k⟩
theorem sc_bytes_of : FnScope ["number", "length", "row", "place"] ["number", "length"] (defScope (top 26)) := ⟨rfl, rfl, rfl, by decide +kernel, rfl, by decide +kernel, by decide +kernel⟩
theorem can_bytes_of (T : Txt K mg CR CD CL) : Can P w K mg base "bytes_of" 1 ["number", "length"] spBytes := by
  refine T.f_bytes_of.can sc_bytes_of (fun vs H Q E h => ?_) (fun f cdv A outer s H vs Q E hr h => ?_)
  · obtain ⟨n, m, rfl, _⟩ := h
    rfl
  · obtain ⟨n, m, rfl, hm, k⟩ := h
    refine ⟨_, pss_cons (ps_set (i := 2) sc_bytes_of.nd rfl (Or.inl rfl) (pe_lst pa_nil)) (pss_cons (ps_for PassesOwn.never rfl (pi_range1 rfl T.b_range (pa_cons (pv 1) pa_nil)) (pg_name (i := 3) sc_bytes_of.nd rfl (Or.inl rfl))
        (pss_cons (ps_expr (pe_bm PySem.F.plainAttrs_list PySem.F.slot_list_append PySem.F.type_list_append mt_append (pv 2) (pa_cons (pe_op op_mod (pv 0) pe_int) pa_nil)))
        (pss_one (ps_set (i := 0) sc_bytes_of.nd rfl (Or.inl rfl) (pe_op op_fdiv (pv 0) pe_int)))))
      (pss_one (ps_ret (pv 2)))), ?_⟩
    refine ⟨by decide, fun r hr0 => ?_⟩
    refine ⟨_, rfl, (m : Int), rfl, by omega, by omega, for_range (lo := 0) (n := m) (fun i σ H' => ∃ v : Option V, σ = [some (.int (n / 256 ^ i : Nat)), some (.int (m : Int)), some (.ref r), v] ∧ Same H H' ∧ H' r = some (.lst (vN (Ks345.bytes i n))))
      ⟨none, by rw [Nat.pow_zero, Nat.div_one]; rfl, same_new hr0, upd_same⟩ ?_ ?_⟩
    · rintro i σ H' hi ⟨v, rfl, s1, h1⟩
      refine ⟨_, rfl, .inl ⟨rfl, _, SqL.of h1⟩, _, rfl, _, _, rfl, rfl, (by show (0 : Int) < 256; decide), r, _, _, rfl, rfl, h1, ?_, ?_⟩
      · rw [vN_length, bytes_length]
        exact Nat.lt_of_lt_of_le hi (Nat.le_trans hm (by decide))
      refine ⟨_, rfl, _, _, rfl, rfl, ⟨by decide, by decide⟩, ?_⟩
      refine ⟨some (.int (0 + (i : Int))), ?_, fun b o e => ?_, ?_⟩
      · have e : n / 256 ^ (i + 1) = n / 256 ^ i / 256 := by rw [Nat.div_div_eq_div_mul, Nat.pow_succ]
        rw [e]
        rfl
      · rw [upd_ne (ne_of_none e hr0)]
        exact s1 b o e
      · rw [upd_same, bytes_succ, ← vN_append]
        rfl
    · rintro σ H' ⟨v, rfl, s1, h1⟩
      exact ⟨_, rfl, k H' r s1 h1⟩
end
end Dc
end
section
set_option Elab.async false
set_option linter.all false
set_option maxRecDepth 100000
set_option maxHeartbeats 4000000
namespace Dc
open PySem PySem.Spec PyProof.Rows L2
theorem sq_lst {K : PySem.W.Frag} {H : Hp} {a : Addr} {xs ys : List V} (h : H a = some (.lst xs)) (q : H a = some (.lst ys)) : xs = ys := by
  rw [h] at q
  exact HO.lst.inj (Option.some.inj q)
section
variable {P : Program} {w : World} {K : PySem.W.Frag} {mg : Str → Option Value} {base : Heap} {CR CD CL : Addr}
theorem sc_start_of : FnScope ["key", "k", "l"] ["key"] (defScope (top 19)) := ⟨rfl, rfl, rfl, by decide +kernel, rfl, by decide +kernel, by decide +kernel⟩
theorem can_start_of (T : Txt K mg CR CD CL) : Can P w K mg base "start_of" 2 ["key"] spStart := by
  have G : Can P w K mg base "number_of" 1 ["row"] spNumber := can_number_of T
  refine T.f_start_of.can sc_start_of (fun vs H Q E h => ?_) (fun f cdv A outer s H vs Q E hr h => ?_)
  · obtain ⟨a, key, rfl, _⟩ := h
    rfl
  · obtain ⟨a, key, rfl, hA, hl, k⟩ := h
    refine ⟨_, pss_cons (ps_set (i := 1) sc_start_of.nd rfl (Or.inl rfl) (pcall G hr (pa_cons (pe_slice sl_own (pv 0) po_none (po_some pe_int)) pa_nil)))
      (pss_cons (ps_set (i := 2) sc_start_of.nd rfl (Or.inl rfl) (pcall G hr (pa_cons (pe_slice sl_own (pv 0) (po_some pe_int) po_none) pa_nil)))
      (pss_one (ps_ret (pe_lst (pa_cons (pe_op op_xor (pcst T.c_START_A) (pv 1)) (pa_cons (pe_op op_xor (pcst T.c_START_B) (pv 2)) (pa_cons (pe_op op_xor (pcst T.c_START_C) (pv 1)) (pa_cons (pe_op op_xor (pcst T.c_START_D) (pv 2)) pa_nil)))))))), ?_⟩
    have c1 : cutV (vN key) none (some 8) = vN (key.take 8) := cut_hi (j := 8) (by omega)
    have c2 : cutV (vN key) (some 8) none = vN (key.drop 8) := cut_lo (i := 8) (by omega)
    simp only [tSeq, tNext, tRet, tAsg, gName, tDrop, tIfS, tVar, tC, tOp, rI0, rI, tTest, tB, tLst, tNil, tCons, tCall, tFld, sFld, tMake, tSl, rSlO, tPart, tNoPart, rIxO, rCat, tCB, rLen, tAnd, tOr, tNot, tAndV, tOrV, tIf, tIsN, tNotN, L2.start, List.map_cons, List.map_nil, List.length_cons, List.length_nil, List.replicate_succ, List.replicate_zero, List.cons_append, List.nil_append, List.append_nil, List.set_cons_zero, List.set_cons_succ, List.getElem?_cons_zero, List.getElem?_cons_succ, Option.some.injEq, V.int.injEq, V.ref.injEq, V.bl.injEq, List.cons.injEq, HO.ins.injEq, HO.lst.injEq, eq_self, Bool.false_eq_true, if_true, if_false, and_assoc, cxOf_K, and_true, true_and, exists_and_left, exists_eq_left', exists_eq_left, decide_eq_true_eq, hA]
    intro p hp
    refine ⟨p, key.take 8, rfl, by rw [upd_same, c1], ?_⟩
    have h1 := same_new (o := .lst (cutV (vN key) none (some 8))) hp _ _ hA
    simp only [tSeq, tNext, tRet, tAsg, gName, tDrop, tIfS, tVar, tC, tOp, rI0, rI, tTest, tB, tLst, tNil, tCons, tCall, tFld, sFld, tMake, tSl, rSlO, tPart, tNoPart, rIxO, rCat, tCB, rLen, tAnd, tOr, tNot, tAndV, tOrV, tIf, tIsN, tNotN, L2.start, List.map_cons, List.map_nil, List.length_cons, List.length_nil, List.replicate_succ, List.replicate_zero, List.cons_append, List.nil_append, List.append_nil, List.set_cons_zero, List.set_cons_succ, List.getElem?_cons_zero, List.getElem?_cons_succ, Option.some.injEq, V.int.injEq, V.ref.injEq, V.bl.injEq, List.cons.injEq, HO.ins.injEq, HO.lst.injEq, eq_self, Bool.false_eq_true, if_true, if_false, and_assoc, cxOf_K, and_true, true_and, exists_and_left, exists_eq_left', exists_eq_left, decide_eq_true_eq, h1]
    intro q hq
    refine ⟨q, key.drop 8, rfl, by rw [upd_same, c2], ?_⟩
    simp only [tSeq, tNext, tRet, tAsg, gName, tDrop, tIfS, tVar, tC, tOp, rI0, rI, tTest, tB, tLst, tNil, tCons, tCall, tFld, sFld, tMake, tSl, rSlO, tPart, tNoPart, rIxO, rCat, tCB, rLen, tAnd, tOr, tNot, tAndV, tOrV, tIf, tIsN, tNotN, L2.start, List.map_cons, List.map_nil, List.length_cons, List.length_nil, List.replicate_succ, List.replicate_zero, List.cons_append, List.nil_append, List.append_nil, List.set_cons_zero, List.set_cons_succ, List.getElem?_cons_zero, List.getElem?_cons_succ, Option.some.injEq, V.int.injEq, V.ref.injEq, V.bl.injEq, List.cons.injEq, HO.ins.injEq, HO.lst.injEq, eq_self, Bool.false_eq_true, if_true, if_false, and_assoc, cxOf_K, and_true, true_and, exists_and_left, exists_eq_left', exists_eq_left, decide_eq_true_eq]
    refine ⟨by decide, fun r hr2 => k _ r (((same_new hp).trans (same_new hq)).trans (same_new hr2)) ?_⟩
    rw [upd_same]
    have x1 : ∀ c m : Nat, Builtin.bitXor (c : Int) (m : Int) = ((m ^^^ c : Nat) : Int) := fun c m => by rw [bxor, Nat.xor_comm]
    have y1 := x1 8317987319222330741 (Ks345.number (key.take 8))
    have y2 := x1 7237128888997146477 (Ks345.number (key.drop 8))
    have y3 := x1 7816392313619706465 (Ks345.number (key.take 8))
    have y4 := x1 8387220255154660723 (Ks345.number (key.drop 8))
    rw [begun_eq]
    show some (HO.lst [V.int (Builtin.bitXor ((8317987319222330741 : Nat) : Int) _), V.int (Builtin.bitXor ((7237128888997146477 : Nat) : Int) _), V.int (Builtin.bitXor ((7816392313619706465 : Nat) : Int) _), V.int (Builtin.bitXor ((8387220255154660723 : Nat) : Int) _)]) = _
    rw [y1, y2, y3, y4]
    rfl
theorem sc_words_of : FnScope ["message", "words", "at"] ["message"] (defScope (top 20)) := ⟨rfl, rfl, rfl, by decide +kernel, rfl, by decide +kernel, by decide +kernel⟩
theorem can_words_of (T : Txt K mg CR CD CL) : Can P w K mg base "words_of" 2 ["message"] spWords := by
  have G : Can P w K mg base "number_of" 1 ["row"] spNumber := can_number_of T
  refine T.f_words_of.can sc_words_of (fun vs H Q E h => ?_) (fun f cdv A outer s H vs Q E hr h => ?_)
  · obtain ⟨a, m, rfl, _⟩ := h
    rfl
  · obtain ⟨a, m, rfl, hA, hl, k⟩ := h
    refine ⟨_, pss_cons (ps_set (i := 1) sc_words_of.nd rfl (Or.inl rfl) (pe_lst pa_nil)) (pss_cons (ps_set (i := 2) sc_words_of.nd rfl (Or.inl rfl) pe_int)
      (pss_cons (ps_while PassesOwn.never (pt_cmpR op_le (pe_op op_add (pv 2) pe_int) (plen T.b_len (pv 0)) (nomark _))
        (pss_cons (ps_expr (pe_bm PySem.F.plainAttrs_list PySem.F.slot_list_append PySem.F.type_list_append mt_append (pv 1) (pa_cons (pcall G hr (pa_cons (pe_slice sl_own (pv 0) (po_some (pv 2)) (po_some (pe_op op_add (pv 2) pe_int))) pa_nil)) pa_nil)))
        (pss_one (ps_set (i := 2) sc_words_of.nd rfl (Or.inl rfl) (pe_op op_add (pv 2) pe_int)))))
      (pss_cons (ps_expr (pe_bm PySem.F.plainAttrs_list PySem.F.slot_list_append PySem.F.type_list_append mt_append (pv 1)
        (pa_cons (pe_op op_or (pcall G hr (pa_cons (pe_slice sl_own (pv 0) (po_some (pv 2)) po_none) pa_nil)) (pe_op op_shl (pe_op op_mod (plen T.b_len (pv 0)) pe_int) pe_int)) pa_nil)))
      (pss_one (ps_ret (pv 1)))))), ?_⟩
    refine ⟨by decide, fun r hr0 => ?_⟩
    have hA1 : ∀ {H' : Hp}, Same H H' → H' a = some (.lst (vN m)) := fun s => s _ _ hA
    have lm : (vN m).length = 8 := by rw [vN_length]; exact hl
    refine ⟨fun n σ H' => (n = 1 ∧ σ = [some (.ref a), some (.ref r), some (.int 0)] ∧ Same H H' ∧ H' r = some (.lst [])) ∨ (n = 0 ∧ σ = [some (.ref a), some (.ref r), some (.int 8)] ∧ Same H H' ∧ H' r = some (.lst (vN [Ks345.number m]))), ⟨1, .inl ⟨rfl, rfl, same_new hr0, upd_same⟩⟩, ?_⟩
    rintro n σ H' (⟨rfl, rfl, s1, h1⟩ | ⟨rfl, rfl, s1, h1⟩)
    · have h2 := hA1 s1
      refine ⟨_, rfl, _, _, rfl, rfl, _, rfl, a, vN m, rfl, h2, _, _, rfl, rfl, _, rfl, ?_⟩
      rw [lm]
      refine iteT ⟨fun σ' H'' => σ' = [some (.ref a), some (.ref r), some (.int 8)] ∧ Same H H'' ∧ H'' r = some (.lst (vN [Ks345.number m])), fun σ' H'' q => ⟨0, by decide, .inr ⟨rfl, q⟩⟩, ?_⟩
      refine ⟨_, rfl, .inl ⟨rfl, _, SqL.of h1⟩, _, rfl, _, rfl, _, rfl, _, rfl, _, _, rfl, rfl, _, rfl, a, vN m, rfl, h2, fun p hp => ?_⟩
      have c1 : cutV (vN m) (some 0) (some (0 + 8)) = vN m := by
        have c := cut_mid (l := m) (i := 0) (j := 8) (by omega) (by omega)
        rw [List.drop_zero, Nat.sub_zero, List.take_of_length_le (by omega)] at c
        exact c
      refine ⟨p, m, rfl, by rw [upd_same, c1], ?_⟩
      have nr : r ≠ p := ne_of_none h1 hp
      refine ⟨r, _, _, rfl, rfl, by rw [upd_ne nr]; exact h1, by decide, ?_⟩
      refine ⟨_, rfl, _, _, rfl, rfl, rfl, fun b o e => ?_, upd_same⟩
      rw [upd_ne (ne_of_none e hr0), upd_ne (ne_of_none (s1 _ _ e) hp)]
      exact s1 b o e
    · have h2 := hA1 s1
      refine ⟨_, rfl, _, _, rfl, rfl, _, rfl, a, vN m, rfl, h2, _, _, rfl, rfl, _, rfl, ?_⟩
      rw [lm]
      refine iteF ?_
      refine ⟨_, rfl, .inl ⟨rfl, _, SqL.of h1⟩, _, rfl, _, rfl, _, rfl, a, vN m, rfl, h2, fun p hp => ?_⟩
      have c1 : cutV (vN m) (some 8) none = vN [] := by
        have c := cut_lo (l := m) (i := 8) (by omega)
        rw [List.drop_of_length_le (by omega)] at c
        exact c
      refine ⟨p, [], rfl, by rw [upd_same, c1], ?_⟩
      have nr : r ≠ p := ne_of_none h1 hp
      have na : a ≠ p := ne_of_none h2 hp
      refine ⟨_, rfl, a, vN m, rfl, by rw [upd_ne na]; exact h2, _, _, rfl, rfl, (by show (0 : Int) < 256; decide), _, _, rfl, rfl, ?_, _, _, rfl, rfl, ?_⟩
      · rw [lm]
        exact ⟨by decide, by decide, by decide⟩
      refine ⟨r, _, _, rfl, rfl, by rw [upd_ne nr]; exact h1, by show 1 < sizeLine; decide, ?_⟩
      refine ⟨_, rfl, ?_⟩
      refine k _ r (fun b o e => ?_) ?_
      · rw [upd_ne (ne_of_none e hr0), upd_ne (ne_of_none (s1 _ _ e) hp)]
        exact s1 b o e
      · rw [upd_same, lm]
        have e := last_or (n := 0) (k := 8) (by decide)
        have e2 : Ks345.number [] = 0 := rfl
        rw [e2]
        show some (HO.lst (vN [Ks345.number m] ++ [V.int (Builtin.bitOr ((0 : Nat) : Int) ((((8 : Nat) : Int) % 256) * 2 ^ (56 : Int).toNat))])) = _
        rw [e]
        rfl
theorem sc_tag_of : FnScope ["key", "message", "four", "word"] ["key", "message"] (defScope (top 18)) := ⟨rfl, rfl, rfl, by decide +kernel, rfl, by decide +kernel, by decide +kernel⟩
theorem can_tag_of (T : Txt K mg CR CD CL) : Can P w K mg base "tag_of" 5 ["key", "message"] spTag := by
  have G1 : Can P w K mg base "start_of" 2 ["key"] spStart := can_start_of T
  have G2 : Can P w K mg base "words_of" 2 ["message"] spWords := can_words_of T
  have G3 : Can P w K mg base "take_in" 4 ["four", "word"] spTakeIn := can_take_in T
  have G4 : Can P w K mg base "rounds_of" 3 ["four", "times"] spRounds := can_rounds_of T
  have G5 : Can P w K mg base "bytes_of" 1 ["number", "length"] spBytes := can_bytes_of T
  refine T.f_tag_of.can sc_tag_of (fun vs H Q E h => ?_) (fun f cdv A outer s H vs Q E hr h => ?_)
  · obtain ⟨ka, ma, key, m, rfl, _⟩ := h
    rfl
  · obtain ⟨ka, ma, key, m, rfl, hK, hM, kl, kb, ml, mb, k⟩ := h
    refine ⟨_, pss_cons (ps_set (i := 2) sc_tag_of.nd rfl (Or.inl rfl) (pcall G1 hr (pa_cons (pv 0) pa_nil)))
      (pss_cons (ps_for PassesOwn.never rfl (pi_list (pcall G2 hr (pa_cons (pv 1) pa_nil))) (pg_name (i := 3) sc_tag_of.nd rfl (Or.inl rfl)) (pss_one (ps_set (i := 2) sc_tag_of.nd rfl (Or.inl rfl) (pcall G3 hr (pa_cons (pv 2) (pa_cons (pv 3) pa_nil))))))
      (pss_cons (ps_set (i := 2) sc_tag_of.nd rfl (Or.inl rfl) (pe_lst (pa_cons (pe_ix ix_own (pv 2) pe_int (fun _ _ => rfl)) (pa_cons (pe_ix ix_own (pv 2) pe_int (fun _ _ => rfl)) (pa_cons (pe_op op_xor (pe_ix ix_own (pv 2) pe_int (fun _ _ => rfl)) pe_int) (pa_cons (pe_ix ix_own (pv 2) pe_int (fun _ _ => rfl)) pa_nil))))))
      (pss_cons (ps_set (i := 2) sc_tag_of.nd rfl (Or.inl rfl) (pcall G4 hr (pa_cons (pv 2) (pa_cons pe_int pa_nil))))
      (pss_one (ps_ret (pcall G5 hr (pa_cons (pe_op op_xor (pe_op op_xor (pe_op op_xor (pe_ix ix_own (pv 2) pe_int (fun _ _ => rfl)) (pe_ix ix_own (pv 2) pe_int (fun _ _ => rfl))) (pe_ix ix_own (pv 2) pe_int (fun _ _ => rfl))) (pe_ix ix_own (pv 2) pe_int (fun _ _ => rfl))) (pa_cons pe_int pa_nil)))))))), ?_⟩
    refine ⟨_, rfl, ka, key, rfl, hK, kl, fun H1 p1 s1 h1 => ?_⟩
    refine ⟨_, rfl, ma, m, rfl, s1 _ _ hM, ml, fun H2 p2 s2 h2 => ?_⟩
    have ew : wordsFrom (m.length / 8 + 1) m.length m = [Ks345.number m, 8 * 2 ^ 56] := by
      rw [ml]
      show (if m.length < 8 then _ else Ks345.number (m.take 8) :: (if (m.drop 8).length < 8 then [Ks345.number (m.drop 8) + (8 % 256) * 2 ^ 56] else _)) = _
      rw [if_neg (by omega), if_pos (by rw [List.length_drop]; omega), List.take_of_length_le (by omega), List.drop_of_length_le (by omega)]
      show [Ks345.number m, 0 + (8 % 256) * 2 ^ 56] = _
      rw [Nat.zero_add]
    generalize hws : [Ks345.number m, 8 * 2 ^ 56] = ws at h2 ew
    have wl : ∀ x ∈ ws, x < 2 ^ 64 := by
      rw [← ew]
      exact words_lt _ _ _ mb
    refine ⟨p2, rfl, ⟨_, SqL.of h2⟩, for_list (K := K) (a := p2) (xs := vN ws) (fun i σ H' => ∃ (q : Addr) (v : Option V), σ = [some (.ref ka), some (.ref ma), some (.ref q), v] ∧ Same H2 H' ∧ H' q = some (.lst (vF ((ws.take i).foldl Ks345.word (Ks345.begun key)))))
      ⟨p1, none, rfl, Same.refl _, s2 _ _ h1⟩ (fun i σ H' _ ⟨_, _, _, s3, _⟩ => SqL.of (s3 _ _ h2)) ?_ ?_⟩
    · rintro i y σ H' hi ⟨q, v, rfl, s3, hq⟩
      obtain ⟨n, hn, rfl⟩ := vN_of_get hi
      have O : Ok ((ws.take i).foldl Ks345.word (Ks345.begun key)) := Ok.fold (fun x hx => wl x (List.mem_of_mem_take hx)) (Ok.begun kb kl)
      refine ⟨_, rfl, _, rfl, q, _, n, rfl, hq, O, wl n (List.mem_of_getElem? hn), fun H3 p3 s4 h3 => ?_⟩
      refine ⟨p3, _, rfl, s3.trans s4, ?_⟩
      rw [take_snoc hn, List.foldl_append]
      exact h3
    · rintro σ H' ⟨q, v, rfl, s3, hq⟩
      have eb : (ws.take (vN ws).length).foldl Ks345.word (Ks345.begun key) = behind key m := by
        rw [vN_length, List.take_length, ← ew]
        rfl
      rw [eb] at hq
      have O := Ok.behind kb kl mb
      have tgv := tag_eq key m
      have x255 : [V.int ((behind key m).a : Int), V.int ((behind key m).b : Int), V.int (Builtin.bitXor ((behind key m).c : Int) 255), V.int ((behind key m).d : Int)] = vF ⟨(behind key m).a, (behind key m).b, (behind key m).c ^^^ 255, (behind key m).d⟩ := by
        have e : Builtin.bitXor ((behind key m).c : Int) 255 = (((behind key m).c ^^^ 255 : Nat) : Int) := bxor _ 255
        rw [e]
        rfl
      generalize behind key m = v at hq O x255 eb tgv
      refine ⟨_, rfl, q, _, _, _, rfl, rfl, hq, atF0 _, _, rfl, q, _, _, _, rfl, rfl, hq, atF1 _, _, rfl, q, _, _, _, rfl, rfl, hq, atF2 _, _, _, rfl, rfl, _, rfl, q, _, _, _, rfl, rfl, hq, atF3 _, by show 4 ≤ sizeLine; decide, fun p3 hp3 => ?_⟩
      refine ⟨_, rfl, p3, ⟨v.a, v.b, v.c ^^^ 255, v.d⟩, 4, rfl, by decide, by rw [← x255]; exact upd_same, ⟨O.a, O.b, xor_lt O.c (by decide), O.d⟩, fun H4 p4 s4 h4 => ?_⟩
      have h4' : H4 p4 = some (.lst (vF (atEnd v))) := h4
      have tg : Ks345.tag key m = (atEnd v).a ^^^ ((atEnd v).b ^^^ ((atEnd v).c ^^^ (atEnd v).d)) := tgv
      generalize atEnd v = e at h4' tg
      have ex : Builtin.bitXor (Builtin.bitXor (Builtin.bitXor (e.a : Int) (e.b : Int)) (e.c : Int)) (e.d : Int) = ((e.a ^^^ e.b ^^^ e.c ^^^ e.d : Nat) : Int) := by rw [bxor, bxor, bxor]
      refine ⟨_, rfl, p4, _, _, _, rfl, rfl, h4', atF0 _, _, rfl, p4, _, _, _, rfl, rfl, h4', atF1 _, _, _, rfl, rfl, _, rfl, p4, _, _, _, rfl, rfl, h4', atF2 _, _, _, rfl, rfl, _, rfl, p4, _, _, _, rfl, rfl, h4', atF3 _, _, _, rfl, rfl, e.a ^^^ e.b ^^^ e.c ^^^ e.d, 8, ?_, by decide, fun H5 p5 s5 h5 => ?_⟩
      · show [V.int (Builtin.bitXor (Builtin.bitXor (Builtin.bitXor (e.a : Int) (e.b : Int)) (e.c : Int)) (e.d : Int)), V.int 8] = _
        rw [ex]
        rfl
      refine k H5 p5 (((s1.trans s2).trans s3).trans (((same_new hp3).trans s4).trans s5)) ?_
      rw [tg, ← Nat.xor_assoc, ← Nat.xor_assoc]
      exact h5
theorem sc_card_of : FnScope ["key", "kind", "place", "number", "last", "serial", "head"] ["key", "kind", "place", "number", "last", "serial"] (defScope (top 14)) := ⟨rfl, rfl, rfl, by decide +kernel, rfl, by decide +kernel, by decide +kernel⟩
theorem can_card_of (T : Txt K mg CR CD CL) : Can P w K mg base "card_of" 6 ["key", "kind", "place", "number", "last", "serial"] spCard := by
  have G1 : Can P w K mg base "bytes_of" 1 ["number", "length"] spBytes := can_bytes_of T
  have G2 : Can P w K mg base "tag_of" 5 ["key", "message"] spTag := can_tag_of T
  refine T.f_card_of.can sc_card_of (fun vs H Q E h => ?_) (fun f cdv A outer s H vs Q E hr h => ?_)
  · obtain ⟨ka, key, kind, place, number, last, serial, rfl, _⟩ := h
    rfl
  · obtain ⟨ka, key, kind, place, number, last, serial, rfl, hK, kl, kb, h1, h2, k⟩ := h
    refine ⟨_, pss_cons (ps_set (i := 6) sc_card_of.nd rfl (Or.inl rfl) (pe_op op_cat (pe_op op_cat (pe_op op_cat (pe_lst (pa_cons (pv 1) (pa_cons (pv 2) pa_nil))) (pcall G1 hr (pa_cons (pv 3) (pa_cons pe_int pa_nil)))) (pcall G1 hr (pa_cons (pv 4) (pa_cons pe_int pa_nil)))) (pcall G1 hr (pa_cons (pv 5) (pa_cons pe_int pa_nil)))))
      (pss_one (ps_ret (pe_op op_cat (pv 6) (pcall G2 hr (pa_cons (pv 0) (pa_cons (pv 6) pa_nil)))))), ?_⟩
    refine ⟨_, rfl, _, rfl, by show 2 ≤ sizeLine; decide, fun p1 e1 => ?_⟩
    refine ⟨_, rfl, number, 2, rfl, by decide, fun H2 p2 s2 e2 => ?_⟩
    refine ⟨p1, p2, _, _, rfl, rfl, s2 _ _ upd_same, e2, ?_, fun p3 e3 => ?_⟩
    · rw [vN_length, bytes_length]
      show 2 + 2 ≤ sizeLine
      decide
    refine ⟨_, rfl, last, 2, rfl, by decide, fun H4 p4 s4 e4 => ?_⟩
    refine ⟨p3, p4, _, _, rfl, rfl, s4 _ _ upd_same, e4, ?_, fun p5 e5 => ?_⟩
    · rw [List.length_append, vN_length, bytes_length, vN_length, bytes_length]
      show 2 + 2 + 2 ≤ sizeLine
      decide
    refine ⟨_, rfl, serial, 2, rfl, by decide, fun H6 p6 s6 e6 => ?_⟩
    refine ⟨p5, p6, _, _, rfl, rfl, s6 _ _ upd_same, e6, ?_, fun p7 e7 => ?_⟩
    · rw [List.length_append, List.length_append, vN_length, bytes_length, vN_length, bytes_length, vN_length, bytes_length]
      show 2 + 2 + 2 + 2 ≤ sizeLine
      decide
    have sA : Same H (upd H6 p7 (.lst ((([V.int (kind : Int), V.int (place : Int)] ++ vN (Ks345.bytes 2 number)) ++ vN (Ks345.bytes 2 last)) ++ vN (Ks345.bytes 2 serial)))) :=
      (same_new e1).trans (s2.trans ((same_new e3).trans (s4.trans ((same_new e5).trans (s6.trans (same_new e7))))))
    have el : (([V.int (kind : Int), V.int (place : Int)] ++ vN (Ks345.bytes 2 number)) ++ vN (Ks345.bytes 2 last)) ++ vN (Ks345.bytes 2 serial) = vN (Ks345.plain ⟨kind, place, number, last, serial⟩) := by
      unfold Ks345.plain
      rw [← vN_append, ← vN_append, ← vN_append]
      rfl
    have pl : (Ks345.plain ⟨kind, place, number, last, serial⟩).length = 8 := by
      unfold Ks345.plain
      rw [List.length_append, List.length_append, List.length_append, bytes_length, bytes_length, bytes_length]
      rfl
    have pb : Bts (Ks345.plain ⟨kind, place, number, last, serial⟩) := by
      unfold Ks345.plain
      intro x hx
      rcases List.mem_append.mp hx with hx | hx
      · rcases List.mem_append.mp hx with hx | hx
        · rcases List.mem_append.mp hx with hx | hx
          · have hx : x ∈ [kind, place] := hx
            rcases List.mem_cons.mp hx with rfl | hx
            · exact h1
            · rcases List.mem_cons.mp hx with rfl | hx
              · exact h2
              · cases hx
          · exact bytes_bts _ _ x hx
        · exact bytes_bts _ _ x hx
      · exact bytes_bts _ _ x hx
    rw [el] at sA ⊢
    refine ⟨_, rfl, _, rfl, _, rfl, ka, p7, key, _, rfl, sA _ _ hK, upd_same, kl, kb, pl, pb, fun H8 p8 s8 e8 => ?_⟩
    refine ⟨p7, p8, _, _, rfl, rfl, s8 _ _ upd_same, e8, ?_, fun p9 e9 => ?_⟩
    · rw [vN_length, vN_length, pl, bytes_length]
      decide
    refine k _ p9 ((sA.trans s8).trans (same_new e9)) ?_
    rw [upd_same, vN_append]
    rfl
end
end Dc
end
section
set_option Elab.async false
set_option linter.all false
set_option maxRecDepth 100000
set_option maxHeartbeats 4000000
namespace Dc
open PySem PySem.Spec PyProof.Rows L2
theorem dpN {K : PySem.W.Frag} {H : Hp} : ∀ l : List Nat, DpAll K H (vN l) (dN l)
  | [] => .nil
  | n :: l => .cons (.int (n : Int)) (dpN l)
theorem getD_at {b : List Nat} {i : Nat} (h : i < b.length) : b[i]? = some (b.getD i 0) := by
  rw [List.getD_eq_getElem?_getD, List.getElem?_eq_getElem h]
  rfl
section
variable {P : Program} {w : World} {K : PySem.W.Frag} {mg : Str → Option Value} {base : Heap} {CR CD CL : Addr}
theorem sc_is_place : FnScope ["kind", "place"] ["kind", "place"] (defScope (top 16)) := ⟨rfl, rfl, rfl, by decide +kernel, rfl, by decide +kernel, by decide +kernel⟩
theorem can_is_place (T : Txt K mg CR CD CL) : Can P w K mg base "is_place" 1 ["kind", "place"] spPlace := by
  refine T.f_is_place.can sc_is_place (fun vs H Q E h => ?_) (fun f cdv A outer s H vs Q E hr h => ?_)
  · obtain ⟨kind, place, rfl, _⟩ := h
    rfl
  · obtain ⟨kind, place, rfl, k⟩ := h
    refine ⟨_, pss_cons (ps_if (PW.pt (pw_or (pt_cmpR op_eq (pv 0) (pcst T.c_GUEST_CARD) (nomark _)) (pw_or1 (pt_cmpR op_eq (pv 0) (pcst T.c_SHUTTING_CARD) (nomark _))))) (pss_one (ps_ret (pe_cmpR op_lt (pv 1) (pcst T.c_MOST_ROOMS) (nomark _)))) pss_nil)
      (pss_cons (ps_if (pt_cmpR op_eq (pv 0) (pcst T.c_STAFF_CARD) (nomark _)) (pss_one (ps_ret (pe_cmpR op_gt (pv 1) pe_int (nomark _)))) pss_nil)
      (pss_one (ps_ret (pe_and (pe_cmpR op_eq (pv 0) (pcst T.c_EMERGENCY_CARD) (nomark _)) (pe_one (pe_cmpR op_eq (pv 1) (pcst T.c_EMERGENCY_PLACE) (nomark _))))))), ?_⟩
    have ni : ∀ {n m : Nat}, V.int (n : Int) = V.int (m : Int) → n = m := fun z => Int.ofNat.inj (V.int.inj z)
    have d1 : decide (place < 64) = decide ((place : Int) < 64) := decide_eq_decide.mpr (by omega)
    have d2 : decide (0 < place) = decide (0 < (place : Int)) := decide_eq_decide.mpr (by omega)
    unfold okPlace at k
    have p13 : (kind = 1 ∨ kind = 3) → Q (.bl (decide ((place : Int) < 64))) H := fun c => by
      rw [if_pos c, d1] at k
      exact k
    refine seq_if ⟨_, rfl, rfl, _, rfl, iteD (fun c1 => iteT ⟨_, rfl, _, _, rfl, rfl, p13 (.inl (ni (m := 1) c1))⟩) fun c1 => ⟨_, rfl, rfl, _, rfl, iteD (fun c3 => ⟨_, rfl, _, _, rfl, rfl, p13 (.inr (ni (m := 3) c3))⟩) fun c3 => ?_⟩⟩
    rw [if_neg (show ¬ (kind = 1 ∨ kind = 3) from fun z => z.elim (fun z => c1 (by rw [z]; rfl)) fun z => c3 (by rw [z]; rfl))] at k
    refine seq_if ⟨_, rfl, rfl, _, rfl, iteD (fun c2 => ⟨_, rfl, _, _, rfl, rfl, ?_⟩) fun c2 => ?_⟩
    · rw [if_pos (show kind = 2 from ni (m := 2) c2), d2] at k
      exact k
    rw [if_neg (show ¬ kind = 2 from fun z => c2 (by rw [z]; rfl))] at k
    refine ⟨_, rfl, rfl, _, rfl, iteD (fun c4 => ⟨_, rfl, rfl, ?_⟩) fun c4 => ?_⟩
    · have e : decide (place = 255) = decide (V.int (place : Int) = V.int 255) := decide_eq_decide.mpr ⟨fun z => by rw [z]; rfl, fun z => ni (m := 255) z⟩
      rw [decide_eq_true (show kind = 4 from ni (m := 4) c4), Bool.true_and, e] at k
      exact k
    · rw [decide_eq_false (show ¬ kind = 4 from fun z => c4 (by rw [z]; rfl))] at k
      exact k
theorem sc_is_card : FnScope ["key", "row"] ["key", "row"] (defScope (top 15)) := ⟨rfl, rfl, rfl, by decide +kernel, rfl, by decide +kernel, by decide +kernel⟩
theorem can_is_card (T : Txt K mg CR CD CL) : Can P w K mg base "is_card" 6 ["key", "row"] spIsCard := by
  have G1 : Can P w K mg base "is_place" 1 ["kind", "place"] spPlace := can_is_place T
  have G2 : Can P w K mg base "tag_of" 5 ["key", "message"] spTag := can_tag_of T
  refine T.f_is_card.can sc_is_card (fun vs H Q E h => ?_) (fun f cdv A outer s H vs Q E hr h => ?_)
  · obtain ⟨ka, ra, key, b, rfl, _⟩ := h
    rfl
  · obtain ⟨ka, ra, key, b, rfl, hK, hR, kl, kb, bb, k⟩ := h
    refine ⟨_, pss_cons (ps_if (pt_cmpR op_ne (plen T.b_len (pv 1)) (pcst T.c_CARD_LENGTH) (nomark _)) (pss_one (ps_ret pe_bl)) pss_nil)
      (pss_cons (ps_if (pt_not (pt_val (pcall G1 hr (pa_cons (pe_ix ix_own (pv 1) pe_int (fun _ _ => rfl)) (pa_cons (pe_ix ix_own (pv 1) pe_int (fun _ _ => rfl)) pa_nil))))) (pss_one (ps_ret pe_bl)) pss_nil)
      (pss_one (ps_ret (pe_cmpR (op_eqD hr.units) (pe_slice sl_own (pv 1) (po_some (pcst T.c_HEAD_LENGTH)) po_none) (pcall G2 hr (pa_cons (pv 0) (pa_cons (pe_slice sl_own (pv 1) po_none (po_some (pcst T.c_HEAD_LENGTH))) pa_nil))) (nomark _))))), ?_⟩
    refine ⟨_, rfl, ra, vN b, rfl, hR, rfl, _, rfl, ?_⟩
    by_cases hl : b.length = 16
    · have e1 : V.int ((vN b).length : Int) = V.int 16 := by rw [vN_length, hl]; rfl
      refine iteNS e1 ?_
      have a0 : atI (vN b) 0 = some (.int (b.getD 0 0 : Nat)) := atI_nat (j := 0) (vN_get (getD_at (by omega)))
      have a1 : atI (vN b) 1 = some (.int (b.getD 1 0 : Nat)) := atI_nat (j := 1) (vN_get (getD_at (by omega)))
      refine ⟨_, rfl, ra, vN b, 0, _, rfl, rfl, hR, a0, _, rfl, ra, vN b, 1, _, rfl, rfl, hR, a1, b.getD 0 0, b.getD 1 0, rfl, _, rfl, ?_⟩
      cases ho : okPlace (b.getD 0 0) (b.getD 1 0) with
      | false =>
        refine iteT ?_
        have q := k H (Same.refl H)
        rw [isSome_off bb hl kb kl ho] at q
        exact q
      | true =>
        refine iteF ?_
        have c1 : cutV (vN b) (some 8) none = vN (b.drop 8) := cut_lo (i := 8) (by omega)
        have c2 : cutV (vN b) none (some 8) = vN (b.take 8) := cut_hi (j := 8) (by omega)
        refine ⟨_, rfl, _, rfl, ra, vN b, rfl, hR, fun p hp => ?_⟩
        rw [c1]
        have s1 : Same H (upd H p (.lst (vN (b.drop 8)))) := same_new hp
        refine ⟨_, rfl, _, rfl, _, rfl, ra, vN b, rfl, s1 _ _ hR, fun q hq => ?_⟩
        rw [c2]
        refine ⟨ka, q, key, b.take 8, rfl, (same_new hq) _ _ (s1 _ _ hK), upd_same, kl, kb, by rw [List.length_take]; omega, bb.take 8, fun H3 r s3 h3 => ?_⟩
        refine ⟨.list (dN (b.drop 8)), .list (dN (Ks345.bytes 8 (Ks345.tag key (b.take 8)))), .lst (SqL.of (s3 _ _ ((same_new hq) _ _ upd_same))) (dpN _), .lst (SqL.of h3) (dpN _), shaped_dN _, shaped_dN _, ?_⟩
        have z := k H3 ((s1.trans (same_new hq)).trans s3)
        rw [isSome_on bb hl kb kl ho] at z
        rw [eqv_dN]
        exact z
    · have e1 : ¬ V.int ((vN b).length : Int) = V.int 16 := fun z => hl (by
        have z1 : ((vN b).length : Int) = 16 := V.int.inj z
        rw [vN_length] at z1
        omega)
      rw [decide_eq_false e1]
      refine iteT ?_
      have q := k H (Same.refl H)
      rw [look_len hl] at q
      exact q
theorem sc_parts_of : FnScope ["card"] ["card"] (defScope (top 17)) := ⟨rfl, rfl, rfl, by decide +kernel, rfl, by decide +kernel, by decide +kernel⟩
theorem can_parts_of (T : Txt K mg CR CD CL) : Can P w K mg base "parts_of" 2 ["card"] spParts := by
  have G : Can P w K mg base "number_of" 1 ["row"] spNumber := can_number_of T
  refine T.f_parts_of.can sc_parts_of (fun vs H Q E h => ?_) (fun f cdv A outer s H vs Q E hr h => ?_)
  · obtain ⟨ra, b, rfl, _⟩ := h
    rfl
  · obtain ⟨ra, b, rfl, hR, hl, k⟩ := h
    refine ⟨_, pss_one (ps_ret (pe_lst (pa_cons (pe_ix ix_own (pv 0) pe_int (fun _ _ => rfl)) (pa_cons (pe_ix ix_own (pv 0) pe_int (fun _ _ => rfl))
      (pa_cons (pcall G hr (pa_cons (pe_slice sl_own (pv 0) (po_some pe_int) (po_some pe_int)) pa_nil)) (pa_cons (pcall G hr (pa_cons (pe_slice sl_own (pv 0) (po_some pe_int) (po_some pe_int)) pa_nil))
      (pa_cons (pcall G hr (pa_cons (pe_slice sl_own (pv 0) (po_some pe_int) (po_some pe_int)) pa_nil)) pa_nil))))))), ?_⟩
    have a0 : atI (vN b) 0 = some (.int (b.getD 0 0 : Nat)) := atI_nat (j := 0) (vN_get (getD_at (by omega)))
    have a1 : atI (vN b) 1 = some (.int (b.getD 1 0 : Nat)) := atI_nat (j := 1) (vN_get (getD_at (by omega)))
    have c1 : cutV (vN b) (some 2) (some 4) = vN ((b.drop 2).take 2) := cut_mid (i := 2) (j := 4) (by omega) (by omega)
    have c2 : cutV (vN b) (some 4) (some 6) = vN ((b.drop 4).take 2) := cut_mid (i := 4) (j := 6) (by omega) (by omega)
    have c3 : cutV (vN b) (some 6) (some 8) = vN ((b.drop 6).take 2) := cut_mid (i := 6) (j := 8) (by omega) (by omega)
    refine ⟨_, rfl, ra, vN b, 0, _, rfl, rfl, hR, a0, _, rfl, ra, vN b, 1, _, rfl, rfl, hR, a1, _, rfl, _, rfl, _, rfl, ra, vN b, rfl, hR, fun p1 e1 => ?_⟩
    rw [c1]
    have s1 : Same H (upd H p1 (.lst (vN ((b.drop 2).take 2)))) := same_new e1
    refine ⟨p1, _, rfl, upd_same, ?_⟩
    refine ⟨_, rfl, _, rfl, _, rfl, ra, vN b, rfl, s1 _ _ hR, fun p2 e2 => ?_⟩
    rw [c2]
    have s2 := s1.trans (same_new (o := .lst (vN ((b.drop 4).take 2))) e2)
    refine ⟨p2, _, rfl, upd_same, ?_⟩
    refine ⟨_, rfl, _, rfl, _, rfl, ra, vN b, rfl, s2 _ _ hR, fun p3 e3 => ?_⟩
    rw [c3]
    have s3 := s2.trans (same_new (o := .lst (vN ((b.drop 6).take 2))) e3)
    refine ⟨p3, _, rfl, upd_same, ?_⟩
    refine ⟨by show 5 ≤ sizeLine; decide, fun p4 e4 => k _ p4 (s3.trans (same_new e4)) ?_⟩
    rw [upd_same]
    rfl
end
end Dc
end
section
set_option Elab.async false
set_option linter.all false
set_option maxRecDepth 100000
set_option maxHeartbeats 4000000
namespace Dc
open PySem PySem.Spec PyProof.Rows L2
open Ks347 (Abs made)

/-! ### what the small defs of the desk promise -/
def spInitR (CR : Addr) : Sp := fun vs H Q _ => ∃ (p dx : Addr) (z : Nat), vs = [.ref p, .int (z : Int)] ∧ H p = some (.ins CR dx []) ∧ ∀ H' : Hp, H' p = some (.ins CR dx (roomF ⟨z, 0, none⟩)) → (∀ b, b ≠ p → H' b = H b) → Q .non H'
def spInitD (CD : Addr) : Sp := fun vs H Q _ => ∃ (p dx ka : Addr), vs = [.ref p, .ref ka] ∧ H p = some (.ins CD dx []) ∧ ∀ (H' : Hp) (rl : Addr), H rl = none → H' rl = some (.lst []) → H' p = some (.ins CD dx (deskF ka rl 0 0 0)) → (∀ b, b ≠ p → b ≠ rl → H' b = H b) → Q .non H'
def spInitL (CL : Addr) : Sp := fun vs H Q _ => ∃ (p dx : Addr), vs = [.ref p] ∧ H p = some (.ins CL dx []) ∧ ∀ H' : Hp, H' p = some (.ins CL dx (lineF .non)) → (∀ b, b ≠ p → H' b = H b) → Q .non H'
def spWrongLast (CD : Addr) : Sp := fun vs H Q _ => ∃ (d dx ka rl : Addr) (dd e s last : Nat), vs = [.ref d, .int (last : Int)] ∧ H d = some (.ins CD dx (deskF ka rl dd e s)) ∧ Q (.bl (decide (last < dd ∨ 65535 < last))) H
def spNoCards (CD : Addr) : Sp := fun vs H Q _ => ∃ (d dx ka rl : Addr) (dd e s : Nat), vs = [.ref d] ∧ H d = some (.ins CD dx (deskF ka rl dd e s)) ∧ Q (.bl (decide (65535 ≤ s))) H
def spNoNumbers (CR : Addr) : Sp := fun vs H Q _ => ∃ (r dx : Addr) (x : Ks347.Room), vs = [.ref r] ∧ H r = some (.ins CR dx (roomF x)) ∧ Q (.bl (decide (65535 ≤ x.number))) H
def spOver (CR : Addr) : Sp := fun vs H Q _ => ∃ (r dx : Addr) (x : Ks347.Room) (d : Nat), vs = [.ref r, .int (d : Int)] ∧ H r = some (.ins CR dx (roomF x)) ∧ Q (.bl (over d x)) H
def spMakeCard (CR CD : Addr) : Sp := fun vs H Q _ => ∃ (D : Dk) (a : Abs) (kind place number last : Nat), vs = [.ref D.d, .int (kind : Int), .int (place : Int), .int (number : Int), .int (last : Int)] ∧ DeskAt CR CD H D a ∧ kind < 256 ∧ place < 256 ∧
  Post CR CD H D (made a kind place number last) Q
def spGuest (CR CD : Addr) : Sp := fun vs H Q _ => ∃ (D : Dk) (a : Abs) (j : Nat) (x : Ks347.Room) (l : Nat), vs = [.ref D.d, .int (j : Int)] ∧ DeskAt CR CD H D a ∧ a.rooms[j]? = some x ∧ x.stay = some l ∧ Post CR CD H D (made a 1 j x.number l) Q
/-! ### readings that come again -/
section
variable {K : PySem.W.Frag} {CR CD CL : Addr} {D : Dk} {a : Abs} {σ : L2.St} {H : Hp} {i j n : Nat} {r dx : Addr} {x : Ks347.Room} {Q : VK} {QB : Bool → Hp → Prop}
theorem rd_day (B : DeskAt CR CD H D a) (c : Cls K CD) (m : NoAttr K CD "day") (h : σ[i]? = some (some (.ref D.d))) (k : Q (.int (a.day : Int)) H) : tFld K (tVar i) "day" σ H Q := ⟨_, h, D.d, CD, D.dx, _, _, rfl, B.desk, c, m, lkD_day _ _ _ _ _, k⟩
theorem rd_round (B : DeskAt CR CD H D a) (c : Cls K CD) (m : NoAttr K CD "staff_round") (h : σ[i]? = some (some (.ref D.d))) (k : Q (.int (a.epoch : Int)) H) : tFld K (tVar i) "staff_round" σ H Q := ⟨_, h, D.d, CD, D.dx, _, _, rfl, B.desk, c, m, lkD_round _ _ _ _ _, k⟩
theorem rd_key (B : DeskAt CR CD H D a) (c : Cls K CD) (m : NoAttr K CD "key") (h : σ[i]? = some (some (.ref D.d))) (k : Q (.ref D.ka) H) : tFld K (tVar i) "key" σ H Q := ⟨_, h, D.d, CD, D.dx, _, _, rfl, B.desk, c, m, lkD_key _ _ _ _ _, k⟩
theorem rd_rooms (B : DeskAt CR CD H D a) (c : Cls K CD) (m : NoAttr K CD "rooms") (h : σ[i]? = some (some (.ref D.d))) (k : Q (.ref D.rl) H) : tFld K (tVar i) "rooms" σ H Q := ⟨_, h, D.d, CD, D.dx, _, _, rfl, B.desk, c, m, lkD_rooms _ _ _ _ _, k⟩
theorem rd_room (B : DeskAt CR CD H D a) (c : Cls K CD) (m : NoAttr K CD "rooms") (h : σ[i]? = some (some (.ref D.d))) (hj : σ[j]? = some (some (.int (n : Int)))) (h1 : D.ras[n]? = some r) (k : Q (.ref r) H) :
    tOp rIxO (tFld K (tVar i) "rooms") (tVar j) σ H Q := rd_rooms B c m h ⟨_, hj, D.rl, _, _, _, rfl, rfl, B.rl, at_ref h1, k⟩
theorem rd_len (B : DeskAt CR CD H D a) (c : Cls K CD) (m : NoAttr K CD "rooms") (h : σ[i]? = some (some (.ref D.d))) (k : Q (.int (a.rooms.length : Int)) H) : tCB rLen (tCons (tFld K (tVar i) "rooms") tNil) σ H Q :=
  rd_rooms B c m h ⟨D.rl, _, rfl, B.rl, by rw [List.length_map, B.len]; exact k⟩
theorem rd_num (c : Cls K CR) (m : NoAttr K CR "number") (h : σ[i]? = some (some (.ref r))) (hr : H r = some (.ins CR dx (roomF x))) (k : Q (.int (x.number : Int)) H) : tFld K (tVar i) "number" σ H Q := ⟨_, h, r, CR, dx, _, _, rfl, hr, c, m, lkR_number x, k⟩
theorem rd_zone (c : Cls K CR) (m : NoAttr K CR "zone") (h : σ[i]? = some (some (.ref r))) (hr : H r = some (.ins CR dx (roomF x))) (k : Q (.int (x.zone : Int)) H) : tFld K (tVar i) "zone" σ H Q := ⟨_, h, r, CR, dx, _, _, rfl, hr, c, m, lkR_zone x, k⟩
theorem rd_stay (c : Cls K CR) (m : NoAttr K CR "stay_last") (h : σ[i]? = some (some (.ref r))) (hr : H r = some (.ins CR dx (roomF x))) (k : Q (vO x.stay) H) : tFld K (tVar i) "stay_last" σ H Q := ⟨_, h, r, CR, dx, _, _, rfl, hr, c, m, lkR_stay x, k⟩
theorem rd_wrong (B : DeskAt CR CD H D a) (h : σ[i]? = some (some (.ref D.d))) (hj : σ[j]? = some (some (.int (n : Int)))) (k1 : (n < a.day ∨ 65535 < n) → QB true H) (k2 : ¬ (n < a.day ∨ 65535 < n) → QB false H) :
    tB (tCall (spWrongLast CD) [] E0 (tCons (tVar i) (tCons (tVar j) tNil))) σ H QB := by
  refine ⟨_, h, _, hj, D.d, D.dx, D.ka, D.rl, a.day, a.epoch, a.serial, n, rfl, B.desk, _, rfl, ?_⟩
  by_cases c : n < a.day ∨ 65535 < n
  · rw [decide_eq_true c]; exact k1 c
  · rw [decide_eq_false c]; exact k2 c
theorem rd_cards (B : DeskAt CR CD H D a) (h : σ[i]? = some (some (.ref D.d))) (k1 : Ks347.full a = true → QB true H) (k2 : ¬ Ks347.full a = true → QB false H) :
    tB (tCall (spNoCards CD) [] E0 (tCons (tVar i) tNil)) σ H QB := by
  refine ⟨_, h, D.d, D.dx, D.ka, D.rl, a.day, a.epoch, a.serial, rfl, B.desk, _, rfl, ?_⟩
  by_cases c : 65535 ≤ a.serial
  · rw [decide_eq_true c]; exact k1 ((full_iff a).mpr c)
  · rw [decide_eq_false c]; exact k2 fun z => c ((full_iff a).mp z)
theorem rd_numbers (h : σ[i]? = some (some (.ref r))) (hr : H r = some (.ins CR dx (roomF x))) (k1 : Ks347.TOP ≤ x.number → QB true H) (k2 : ¬ Ks347.TOP ≤ x.number → QB false H) :
    tB (tCall (spNoNumbers CR) [] E0 (tCons (tVar i) tNil)) σ H QB := by
  refine ⟨_, h, r, dx, x, rfl, hr, _, rfl, ?_⟩
  by_cases c : 65535 ≤ x.number
  · rw [decide_eq_true c]; exact k1 c
  · rw [decide_eq_false c]; exact k2 c
theorem rd_more (B : DeskAt CR CD H D a) (h : σ[i]? = some (some (.ref D.d))) (h2 : σ[j]? = some (some (.ref r))) (hr : H r = some (.ins CR dx (roomF x))) (k1 : (Ks347.TOP ≤ x.number ∨ Ks347.full a = true) → QB true H) (k2 : ¬ (Ks347.TOP ≤ x.number ∨ Ks347.full a = true) → QB false H) :
    tOr (tB (tCall (spNoCards CD) [] E0 (tCons (tVar i) tNil))) (tB (tCall (spNoNumbers CR) [] E0 (tCons (tVar j) tNil))) σ H QB :=
  rd_cards B h (fun c => iteT (k1 (.inr c))) fun c => iteF (rd_numbers h2 hr (fun c2 => k1 (.inl c2)) fun c2 => k2 fun z => z.elim c2 c)
/-- the stay: there is none, or one -/
theorem rd_hasStay (c : Cls K CR) (m : NoAttr K CR "stay_last") (h : σ[i]? = some (some (.ref r))) (hr : H r = some (.ins CR dx (roomF x))) (k1 : x.stay.isSome = true → QB true H) (k2 : ¬ x.stay.isSome = true → QB false H) : tB (tNotN (tFld K (tVar i) "stay_last")) σ H QB := by
  refine rd_stay (Q := fun v H1 => ∃ c, V.bl (!decide (v = .non)) = .bl c ∧ QB c H1) c m h hr ⟨_, rfl, ?_⟩
  cases e : x.stay with
  | none => exact k2 (by rw [e]; decide)
  | some l => exact k1 (by rw [e]; rfl)
theorem seq_room {t u : TS} {E : Ends} (B : DeskAt CR CD H D a) (c : Cls K CD) (m : NoAttr K CD "rooms") (h : σ[i]? = some (some (.ref D.d))) (hj : σ[j]? = some (some (.int (n : Int)))) (k1 : a.rooms[n]? = none → t { E with nx := u E } σ H) (k2 : ∀ x, a.rooms[n]? = some x → u E σ H) :
    tSeq (tIfS (tTest (tOp (rI0 fun i j => .bl (decide (j ≤ i))) (tVar j) (tCB rLen (tCons (tFld K (tVar i) "rooms") tNil)))) t tNext) u E σ H := by
  refine ⟨_, hj, rd_len B c m h ⟨_, _, rfl, rfl, _, rfl, iteD (fun z => k1 (List.getElem?_eq_none_iff.mpr (by omega))) fun z => ?_⟩⟩
  exact k2 _ (List.getElem?_eq_getElem (by omega))
theorem seq_noStay {t u : TS} {E : Ends} (B : DeskAt CR CD H D a) (c : Cls K CD) (m : NoAttr K CD "rooms") (c2 : Cls K CR) (m2 : NoAttr K CR "stay_last") (h : σ[i]? = some (some (.ref D.d))) (hj : σ[j]? = some (some (.int (n : Int)))) (h1 : D.ras[n]? = some r) (hr : H r = some (.ins CR dx (roomF x)))
    (k1 : x.stay = none → t { E with nx := u E } σ H) (k2 : ∀ l, x.stay = some l → u E σ H) :
    tSeq (tIfS (tB (tIsN (tFld K (tOp rIxO (tFld K (tVar i) "rooms") (tVar j)) "stay_last"))) t tNext) u E σ H := by
  refine rd_room B c m h hj h1 ⟨r, CR, dx, _, _, rfl, hr, c2, m2, lkR_stay x, _, rfl, ?_⟩
  cases e : x.stay with
  | none => exact k1 e
  | some l => exact k2 l e
theorem st_num (c : Cls K CR) (m : NoAttr K CR "number") {E : Ends} (h : σ[i]? = some (some (.ref r))) (hr : H r = some (.ins CR dx (roomF x))) (k : E.nx σ (upd H r (.ins CR dx (roomF ⟨x.zone, x.number + 1, x.stay⟩)))) :
    sFld K (tVar i) (tOp (rI0 fun i j => .int (i + j)) (tFld K (tVar i) "number") (tC (.int 1))) "number" E σ H := by
  refine ⟨_, h, r, CR, dx, _, _, rfl, hr, c, m, lkR_number x, _, _, rfl, rfl, _, h, r, CR, dx, _, rfl, hr, c, m, roomF_few x, ?_⟩
  show E.nx σ (upd H r (.ins CR dx (putF "number" (.int ((x.number : Int) + 1)) (roomF x))))
  rw [ptR_succ]
  exact k
theorem st_stay (c : Cls K CR) (m : NoAttr K CR "stay_last") {E : Ends} (h : σ[i]? = some (some (.ref r))) (hj : σ[j]? = some (some (.int (n : Int)))) (hr : H r = some (.ins CR dx (roomF x))) (k : E.nx σ (upd H r (.ins CR dx (roomF ⟨x.zone, x.number, some n⟩)))) :
    sFld K (tVar i) (tVar j) "stay_last" E σ H := by
  refine ⟨_, hj, _, h, r, CR, dx, _, rfl, hr, c, m, roomF_few x, ?_⟩
  rw [ptR_stay_int]
  exact k
end
section
variable {P : Program} {w : World} {K : PySem.W.Frag} {mg : Str → Option Value} {base : Heap} {CR CD CL : Addr}
theorem sc_initR : FnScope ["self", "zone"] ["self", "zone"] (defScope (inClass (top 58) 0)) := ⟨rfl, rfl, rfl, by decide +kernel, rfl, by decide +kernel, by decide +kernel⟩
theorem can_Room (T : Txt K mg CR CD CL) : CanMk P w K mg base "Room" 1 ["self", "zone"] CR (spInitR CR) := by
  refine T.k_R.can sc_initR (fun vs H Q E h => ?_) (fun f cdv A outer s H vs Q E hr h => ?_)
  · obtain ⟨p, dx, z, rfl, _⟩ := h
    rfl
  · obtain ⟨p, dx, z, rfl, hp, k⟩ := h
    refine ⟨_, pss_cons (ps_fld (pv 0) (pv 1) rfl) (pss_cons (ps_fld (pv 0) pe_int rfl) (pss_one (ps_fld (pv 0) pe_non rfl))), ?_⟩
    refine ⟨_, rfl, _, rfl, p, CR, dx, _, rfl, hp, T.k_R.cl, T.nR_zone, (by show 0 < 1000; decide), ?_⟩
    refine ⟨_, rfl, p, CR, dx, _, rfl, upd_same, T.k_R.cl, T.nR_number, (by show 1 < 1000; decide), ?_⟩
    refine ⟨_, rfl, p, CR, dx, _, rfl, upd_same, T.k_R.cl, T.nR_stay_last, (by rw [pt_nil, pt_ne (by decide +kernel)]; show 2 < 1000; decide), ?_⟩
    refine k _ ?_ fun b hb => ?_
    · rw [upd_same, ptR_all]
    · rw [upd_ne hb, upd_ne hb, upd_ne hb]
theorem sc_initD : FnScope ["self", "key"] ["self", "key"] (defScope (inClass (top 59) 0)) := ⟨rfl, rfl, rfl, by decide +kernel, rfl, by decide +kernel, by decide +kernel⟩
theorem can_Desk (T : Txt K mg CR CD CL) : CanMk P w K mg base "Desk" 1 ["self", "key"] CD (spInitD CD) := by
  refine T.k_D.can sc_initD (fun vs H Q E h => ?_) (fun f cdv A outer s H vs Q E hr h => ?_)
  · obtain ⟨p, dx, ka, rfl, _⟩ := h
    rfl
  · obtain ⟨p, dx, ka, rfl, hp, k⟩ := h
    refine ⟨_, pss_cons (ps_fld (pv 0) (pv 1) rfl) (pss_cons (ps_fld (pv 0) pe_int rfl) (pss_cons (ps_fld (pv 0) pe_int rfl) (pss_cons (ps_fld (pv 0) pe_int rfl) (pss_one (ps_fld (pv 0) (pe_lst pa_nil) rfl))))), ?_⟩
    refine ⟨_, rfl, _, rfl, p, CD, dx, _, rfl, hp, T.k_D.cl, T.nD_key, (by show 0 < 1000; decide), ?_⟩
    refine ⟨_, rfl, p, CD, dx, _, rfl, upd_same, T.k_D.cl, T.nD_day, (by show 1 < 1000; decide), ?_⟩
    refine ⟨_, rfl, p, CD, dx, _, rfl, upd_same, T.k_D.cl, T.nD_staff_round, Nat.lt_of_le_of_lt (length_putF _ _ _) (by show 2 < 1000; decide), ?_⟩
    refine ⟨_, rfl, p, CD, dx, _, rfl, upd_same, T.k_D.cl, T.nD_serial, Nat.lt_of_le_of_lt (length_putF _ _ _) (Nat.lt_of_le_of_lt (Nat.succ_le_succ (length_putF _ _ _)) (by show 3 < 1000; decide)), ?_⟩
    refine ⟨by decide, fun rl hrl => ?_⟩
    have n1 : p ≠ rl := ne_of_none upd_same hrl
    have n2 : H rl = none := by
      rw [upd_ne n1.symm, upd_ne n1.symm, upd_ne n1.symm, upd_ne n1.symm] at hrl
      exact hrl
    refine ⟨_, rfl, p, CD, dx, _, rfl, (by rw [upd_ne n1]; exact upd_same), T.k_D.cl, T.nD_rooms, Nat.lt_of_le_of_lt (length_putF _ _ _) (Nat.lt_of_le_of_lt (Nat.succ_le_succ (length_putF _ _ _)) (Nat.lt_of_le_of_lt (Nat.succ_le_succ (Nat.succ_le_succ (length_putF _ _ _))) (by show 4 < 1000; decide))), ?_⟩
    refine k _ rl n2 ?_ ?_ fun b hb hb2 => ?_
    · rw [upd_ne n1.symm, upd_same]
    · rw [upd_same, ptD_all]
    · rw [upd_ne hb, upd_ne hb2, upd_ne hb, upd_ne hb, upd_ne hb, upd_ne hb]
theorem sc_initL : FnScope ["self"] ["self"] (defScope (inClass (top 60) 0)) := ⟨rfl, rfl, rfl, by decide +kernel, rfl, by decide +kernel, by decide +kernel⟩
theorem can_Line (T : Txt K mg CR CD CL) : CanMk P w K mg base "Line" 1 ["self"] CL (spInitL CL) := by
  refine T.k_L.can sc_initL (fun vs H Q E h => ?_) (fun f cdv A outer s H vs Q E hr h => ?_)
  · obtain ⟨p, dx, rfl, _⟩ := h
    rfl
  · obtain ⟨p, dx, rfl, hp, k⟩ := h
    refine ⟨_, pss_one (ps_fld (pv 0) pe_non rfl), ?_⟩
    refine ⟨_, rfl, p, CL, dx, _, rfl, hp, T.k_L.cl, T.nL_desk, (by show 0 < 1000; decide), ?_⟩
    refine k _ ?_ fun b hb => ?_
    · rw [upd_same, ptL_all]
    · rw [upd_ne hb]
theorem sc_is_wrong_last : FnScope ["desk", "last"] ["desk", "last"] (defScope (top 85)) := ⟨rfl, rfl, rfl, by decide +kernel, rfl, by decide +kernel, by decide +kernel⟩
theorem can_is_wrong_last (T : Txt K mg CR CD CL) : Can P w K mg base "is_wrong_last" 1 ["desk", "last"] (spWrongLast CD) := by
  refine T.f_is_wrong_last.can sc_is_wrong_last (fun vs H Q E h => ?_) (fun f cdv A outer s H vs Q E hr h => ?_)
  · obtain ⟨d, dx, ka, rl, dd, e, se, last, rfl, _⟩ := h
    rfl
  · obtain ⟨d, dx, ka, rl, dd, e, se, last, rfl, hd, k⟩ := h
    refine ⟨_, pss_one (ps_ret (pe_or (pe_cmpR op_lt (pv 1) (pe_fld (pv 0) rfl) (nomark _)) (pe_one (pe_cmpR op_gt (pv 1) (pcst T.c_LAST_DAY) (nomark _))))), ?_⟩
    have d2 : decide (65535 < (last : Int)) = decide (65535 < last) := decide_eq_decide.mpr (by omega)
    refine ⟨_, rfl, _, rfl, d, CD, dx, _, _, rfl, hd, T.k_D.cl, T.nD_day, lkD_day _ _ _ _ _, _, _, rfl, rfl, _, rfl, iteD (fun c => ?_) fun c => ⟨_, rfl, _, _, rfl, rfl, ?_⟩⟩
    · rw [decide_eq_true (show last < dd ∨ 65535 < last from .inl (by omega))] at k
      exact k
    · have e : decide (last < dd ∨ 65535 < last) = decide (65535 < (last : Int)) := decide_eq_decide.mpr (by omega)
      rw [e] at k
      exact k
theorem sc_no_more_cards : FnScope ["desk"] ["desk"] (defScope (top 86)) := ⟨rfl, rfl, rfl, by decide +kernel, rfl, by decide +kernel, by decide +kernel⟩
theorem can_no_more_cards (T : Txt K mg CR CD CL) : Can P w K mg base "no_more_cards" 1 ["desk"] (spNoCards CD) := by
  refine T.f_no_more_cards.can sc_no_more_cards (fun vs H Q E h => ?_) (fun f cdv A outer s H vs Q E hr h => ?_)
  · obtain ⟨d, dx, ka, rl, dd, e, se, rfl, _⟩ := h
    rfl
  · obtain ⟨d, dx, ka, rl, dd, e, se, rfl, hd, k⟩ := h
    refine ⟨_, pss_one (ps_ret (pe_cmpR op_ge (pe_fld (pv 0) rfl) (pcst T.c_MOST_CARDS) (nomark _))), ?_⟩
    have d2 : decide (65535 ≤ (se : Int)) = decide (65535 ≤ se) := decide_eq_decide.mpr (by omega)
    simp only [tSeq, tNext, tRet, tAsg, gName, tDrop, tIfS, tVar, tC, tOp, rI0, rI, tTest, tB, tLst, tNil, tCons, tCall, tFld, sFld, tMake, tSl, rSlO, tPart, tNoPart, rIxO, rCat, tCB, rLen, tAnd, tOr, tNot, tAndV, tOrV, tIf, tIsN, tNotN, L2.start, List.map_cons, List.map_nil, List.length_cons, List.length_nil, List.replicate_succ, List.replicate_zero, List.cons_append, List.nil_append, List.append_nil, List.set_cons_zero, List.set_cons_succ, List.getElem?_cons_zero, List.getElem?_cons_succ, Option.some.injEq, V.int.injEq, V.ref.injEq, V.bl.injEq, List.cons.injEq, HO.ins.injEq, HO.lst.injEq, eq_self, Bool.false_eq_true, if_true, if_false, and_assoc, cxOf_K, and_true, true_and, exists_and_left, exists_eq_left', exists_eq_left, decide_eq_true_eq, T.k_D.cl, T.nD_key, T.nD_day, T.nD_staff_round, T.nD_serial, T.nD_rooms, lkD_key, lkD_day, lkD_round, lkD_serial, lkD_rooms, hd, d2]
    exact k
theorem sc_no_more_numbers : FnScope ["room"] ["room"] (defScope (top 87)) := ⟨rfl, rfl, rfl, by decide +kernel, rfl, by decide +kernel, by decide +kernel⟩
theorem can_no_more_numbers (T : Txt K mg CR CD CL) : Can P w K mg base "no_more_numbers" 1 ["room"] (spNoNumbers CR) := by
  refine T.f_no_more_numbers.can sc_no_more_numbers (fun vs H Q E h => ?_) (fun f cdv A outer s H vs Q E hr h => ?_)
  · obtain ⟨r, dx, x, rfl, _⟩ := h
    rfl
  · obtain ⟨r, dx, x, rfl, hd, k⟩ := h
    refine ⟨_, pss_one (ps_ret (pe_cmpR op_ge (pe_fld (pv 0) rfl) (pcst T.c_LAST_NUMBER) (nomark _))), ?_⟩
    have d2 : decide (65535 ≤ (x.number : Int)) = decide (65535 ≤ x.number) := decide_eq_decide.mpr (by omega)
    simp only [tSeq, tNext, tRet, tAsg, gName, tDrop, tIfS, tVar, tC, tOp, rI0, rI, tTest, tB, tLst, tNil, tCons, tCall, tFld, sFld, tMake, tSl, rSlO, tPart, tNoPart, rIxO, rCat, tCB, rLen, tAnd, tOr, tNot, tAndV, tOrV, tIf, tIsN, tNotN, L2.start, List.map_cons, List.map_nil, List.length_cons, List.length_nil, List.replicate_succ, List.replicate_zero, List.cons_append, List.nil_append, List.append_nil, List.set_cons_zero, List.set_cons_succ, List.getElem?_cons_zero, List.getElem?_cons_succ, Option.some.injEq, V.int.injEq, V.ref.injEq, V.bl.injEq, List.cons.injEq, HO.ins.injEq, HO.lst.injEq, eq_self, Bool.false_eq_true, if_true, if_false, and_assoc, cxOf_K, and_true, true_and, exists_and_left, exists_eq_left', exists_eq_left, decide_eq_true_eq, T.k_R.cl, T.nR_zone, T.nR_number, T.nR_stay_last, lkR_zone, lkR_number, lkR_stay, hd, d2]
    exact k
theorem sc_is_over : FnScope ["room", "day"] ["room", "day"] (defScope (top 70)) := ⟨rfl, rfl, rfl, by decide +kernel, rfl, by decide +kernel, by decide +kernel⟩
theorem can_is_over (T : Txt K mg CR CD CL) : Can P w K mg base "is_over" 1 ["room", "day"] (spOver CR) := by
  refine T.f_is_over.can sc_is_over (fun vs H Q E h => ?_) (fun f cdv A outer s H vs Q E hr h => ?_)
  · obtain ⟨r, dx, x, d, rfl, _⟩ := h
    rfl
  · obtain ⟨r, dx, x, d, rfl, hd, k⟩ := h
    refine ⟨_, pss_one (ps_ret (pe_and (pe_cmp (pc_notN (pe_fld (pv 0) rfl))) (pe_one (pe_cmpR op_lt (pe_fld (pv 0) rfl) (pv 1) (nomark _))))), ?_⟩
    unfold over at k
    refine ⟨_, rfl, r, CR, dx, _, _, rfl, hd, T.k_R.cl, T.nR_stay_last, lkR_stay x, _, rfl, ?_⟩
    cases e : x.stay with
    | none =>
      rw [e] at k
      exact iteF k
    | some l =>
      rw [e] at k
      refine iteT ⟨_, rfl, r, CR, dx, _, _, rfl, hd, T.k_R.cl, T.nR_stay_last, lkR_stay x, _, rfl, (l : Int), (d : Int), by rw [e]; rfl, rfl, ?_⟩
      have d2 : decide ((l : Int) < (d : Int)) = decide (l < d) := decide_eq_decide.mpr (by omega)
      show Q (.bl (decide ((l : Int) < (d : Int)))) H
      rw [d2]
      exact k
theorem sc_make_card : FnScope ["desk", "kind", "place", "number", "last", "serial"] ["desk", "kind", "place", "number", "last"] (defScope (top 89)) := ⟨rfl, rfl, rfl, by decide +kernel, rfl, by decide +kernel, by decide +kernel⟩
theorem can_make_card (T : Txt K mg CR CD CL) : Can P w K mg base "make_card" 7 ["desk", "kind", "place", "number", "last"] (spMakeCard CR CD) := by
  have G : Can P w K mg base "card_of" 6 ["key", "kind", "place", "number", "last", "serial"] spCard := can_card_of T
  refine T.f_make_card.can sc_make_card (fun vs H Q E h => ?_) (fun f cdv A outer s H vs Q E hr h => ?_)
  · obtain ⟨D, a, kind, place, number, last, rfl, _⟩ := h
    rfl
  · obtain ⟨D, a, kind, place, number, last, rfl, B, h1, h2, k⟩ := h
    refine ⟨_, pss_cons (ps_set (i := 5) sc_make_card.nd rfl (Or.inl rfl) (pe_fld (pv 0) rfl)) (pss_cons (ps_fld (pv 0) (pe_op op_add (pv 5) pe_int) rfl)
      (pss_one (ps_ret (pe_op op_cat (pe_lst (pa_cons (pv 5) pa_nil)) (pcall G hr (pa_cons (pe_fld (pv 0) rfl) (pa_cons (pv 1) (pa_cons (pv 2) (pa_cons (pv 3) (pa_cons (pv 4) (pa_cons (pv 5) pa_nil)))))))))) ), ?_⟩
    have e1 : putF "serial" (V.int ((a.serial : Int) + 1)) (deskF D.ka D.rl a.day a.epoch a.serial) = deskF D.ka D.rl a.day a.epoch (a.serial + 1) := ptD_serial D.ka D.rl a.day a.epoch a.serial (a.serial + 1)
    have B1 := B.setDesk a.day a.epoch (a.serial + 1)
    have f1 : Fr D.has H (upd H D.d (.ins CD D.dx (deskF D.ka D.rl a.day a.epoch (a.serial + 1)))) := Fr.put (.inl rfl)
    refine seq_set ⟨_, rfl, D.d, CD, D.dx, _, _, rfl, B.desk, T.k_D.cl, T.nD_serial, lkD_serial _ _ _ _ _, ?_⟩
    refine seqS ⟨_, rfl, _, _, rfl, rfl, _, rfl, D.d, CD, D.dx, _, rfl, B.desk, T.k_D.cl, T.nD_serial, deskF_few _ _ _ _ _, ?_⟩
    dsimp only
    rw [e1]
    refine ⟨_, rfl, by show 1 ≤ sizeLine; decide, fun p1 hp1 => ?_⟩
    have s1 := same_new (o := .lst [V.int (a.serial : Int)]) hp1
    have B2 := B1.same s1
    refine ⟨_, rfl, D.d, CD, D.dx, _, _, rfl, B2.desk, T.k_D.cl, T.nD_key, lkD_key _ _ _ _ _, _, rfl, _, rfl, _, rfl, _, rfl, _, rfl, D.ka, a.key, kind, place, number, last, a.serial, rfl, B2.key, B.klen, B.kb, h1, h2, fun H3 p3 s3 h3 => ?_⟩
    refine ⟨p1, p3, _, _, rfl, rfl, s3 _ _ upd_same, h3, ?_, fun p4 hp4 => ?_⟩
    · rw [vN_length]
      unfold Ks345.signed Ks345.plain
      rw [List.length_append, List.length_append, List.length_append, List.length_append, bytes_length, bytes_length, bytes_length, bytes_length]
      show 0 + 1 + (2 + 2 + 2 + 2 + 8) ≤ sizeLine
      decide
    have s4 := s1.trans (s3.trans (same_new (o := .lst ([V.int (a.serial : Int)] ++ vN (Ks345.signed a.key ⟨kind, place, number, last, a.serial⟩))) hp4))
    refine k _ D p4 (B1.same s4) (Grow.refl H D) (f1.trans (Fr.same s4)) ?_ (f1.dom _ (s1.free (s3.free hp4)))
    rw [upd_same]
    rfl
theorem sc_guest_card : FnScope ["desk", "place", "room"] ["desk", "place"] (defScope (top 88)) := ⟨rfl, rfl, rfl, by decide +kernel, rfl, by decide +kernel, by decide +kernel⟩
theorem can_guest_card (T : Txt K mg CR CD CL) : Can P w K mg base "guest_card" 8 ["desk", "place"] (spGuest CR CD) := by
  have G : Can P w K mg base "make_card" 7 ["desk", "kind", "place", "number", "last"] (spMakeCard CR CD) := can_make_card T
  refine T.f_guest_card.can sc_guest_card (fun vs H Q E h => ?_) (fun f cdv A outer s H vs Q E hr h => ?_)
  · obtain ⟨D, a, j, x, l, rfl, _⟩ := h
    rfl
  · obtain ⟨D, a, j, x, l, rfl, B, hx, hs, k⟩ := h
    obtain ⟨r, dx, h1, h2⟩ := B.get hx
    refine ⟨_, pss_cons (ps_set (i := 2) sc_guest_card.nd rfl (Or.inl rfl) (pe_ix ix_own (pe_fld (pv 0) rfl) (pv 1) (fun _ _ => rfl)))
      (pss_one (ps_ret (pcall G hr (pa_cons (pv 0) (pa_cons (pcst T.c_GUEST_CARD) (pa_cons (pv 1) (pa_cons (pe_fld (pv 2) rfl) (pa_cons (pe_fld (pv 2) rfl) pa_nil)))))))), ?_⟩
    have hj := (List.getElem?_eq_some_iff.mp hx).1
    have hm := B.max
    refine seq_set (rd_room B T.k_D.cl T.nD_rooms rfl rfl h1 ?_)
    refine ⟨_, rfl, _, rfl, _, rfl, r, CR, dx, _, _, rfl, h2, T.k_R.cl, T.nR_number, lkR_number x, _, rfl, r, CR, dx, _, _, rfl, h2, T.k_R.cl, T.nR_stay_last, lkR_stay x, ?_⟩
    rw [hs]
    exact ⟨D, a, 1, j, x.number, l, rfl, B, by decide, by omega, k⟩
end
end Dc
end
section
set_option Elab.async false
set_option linter.all false
set_option maxRecDepth 100000
set_option maxHeartbeats 4000000
namespace Dc
open PySem PySem.Spec PyProof.Rows L2
open Ks347 (Abs made)
/-! ### what the defs of a room's calls promise -/
def spCome (CR CD : Addr) : Sp := fun vs H Q _ => ∃ (D : Dk) (a : Abs) (j : Nat) (x : Ks347.Room) (l : Nat), vs = [.ref D.d, .int (j : Int), .int (l : Int)] ∧ DeskAt CR CD H D a ∧ a.rooms[j]? = some x ∧ Post CR CD H D (comeS a j x l) Q
def spCopy (CR CD : Addr) : Sp := fun vs H Q _ => ∃ (D : Dk) (a : Abs) (j : Nat) (x : Ks347.Room) (l : Nat), vs = [.ref D.d, .int (j : Int)] ∧ DeskAt CR CD H D a ∧ a.rooms[j]? = some x ∧ x.stay = some l ∧ Post CR CD H D (copyS a j x l) Q
def spLose (CR CD : Addr) : Sp := fun vs H Q _ => ∃ (D : Dk) (a : Abs) (j : Nat) (x : Ks347.Room) (l : Nat), vs = [.ref D.d, .int (j : Int)] ∧ DeskAt CR CD H D a ∧ a.rooms[j]? = some x ∧ x.stay = some l ∧ Post CR CD H D (lostS a j x l) Q
def spLonger (CR CD : Addr) : Sp := fun vs H Q _ => ∃ (D : Dk) (a : Abs) (j : Nat) (x : Ks347.Room) (l m : Nat), vs = [.ref D.d, .int (j : Int), .int (m : Int)] ∧ DeskAt CR CD H D a ∧ a.rooms[j]? = some x ∧ x.stay = some l ∧ Post CR CD H D (longerS a j x l m) Q
def spLeave (CR CD : Addr) : Sp := fun vs H Q _ => ∃ (D : Dk) (a : Abs) (j : Nat) (x : Ks347.Room), vs = [.ref D.d, .int (j : Int)] ∧ DeskAt CR CD H D a ∧ a.rooms[j]? = some x ∧ Post CR CD H D (leaveS a j x) Q
def spShut (CR CD : Addr) : Sp := fun vs H Q _ => ∃ (D : Dk) (a : Abs) (j : Nat) (x : Ks347.Room), vs = [.ref D.d, .int (j : Int)] ∧ DeskAt CR CD H D a ∧ a.rooms[j]? = some x ∧ Post CR CD H D (shutS a j x) Q
def spTell (CR CD : Addr) : Sp := fun vs H Q _ => ∃ (D : Dk) (a : Abs) (j : Nat) (x : Ks347.Room) (l : Nat), vs = [.ref D.d, .int (j : Int)] ∧ DeskAt CR CD H D a ∧ a.rooms[j]? = some x ∧ x.stay = some l ∧ Post CR CD H D (stayS a x l) Q
theorem int_non (l : Int) : (V.int l = V.non) = False := eq_false (by intro z; cases z)
section
variable {P : Program} {w : World} {K : PySem.W.Frag} {mg : Str → Option Value} {base : Heap} {CR CD CL : Addr}
theorem sc_come : FnScope ["desk", "place", "last", "room"] ["desk", "place", "last"] (defScope (top 71)) := ⟨rfl, rfl, rfl, by decide +kernel, rfl, by decide +kernel, by decide +kernel⟩
theorem can_come (T : Txt K mg CR CD CL) : Can P w K mg base "come" 9 ["desk", "place", "last"] (spCome CR CD) := by
  have G1 : Can P w K mg base "is_wrong_last" 1 ["desk", "last"] (spWrongLast CD) := can_is_wrong_last T
  have G2 : Can P w K mg base "no_more_cards" 1 ["desk"] (spNoCards CD) := can_no_more_cards T
  have G3 : Can P w K mg base "no_more_numbers" 1 ["room"] (spNoNumbers CR) := can_no_more_numbers T
  have G4 : Can P w K mg base "guest_card" 8 ["desk", "place"] (spGuest CR CD) := can_guest_card T
  refine T.f_come.can sc_come (fun vs H Q E h => ?_) (fun f cdv A outer s H vs Q E hr h => ?_)
  · obtain ⟨D, a, j, x, l, rfl, _⟩ := h
    rfl
  · obtain ⟨D, a, j, x, l, rfl, B, hx, k⟩ := h
    obtain ⟨r, dx, h1, h2⟩ := B.get hx
    have hj := (List.getElem?_eq_some_iff.mp hx).1
    refine ⟨_, pss_cons (ps_set (i := 3) sc_come.nd rfl (Or.inl rfl) (pe_ix ix_own (pe_fld (pv 0) rfl) (pv 1) (fun _ _ => rfl)))
      (pss_cons (ps_if (pt_val (pcall G1 hr (pa_cons (pv 0) (pa_cons (pv 2) pa_nil)))) (pss_one (ps_ret (pe_lst (pa_cons (pcst T.c_WRONG_VALUE) pa_nil)))) pss_nil)
      (pss_cons (ps_if (pt_cmp (pc_notN (pe_fld (pv 3) rfl))) (pss_one (ps_ret (pe_lst (pa_cons (pcst T.c_HAS_STAY) pa_nil)))) pss_nil)
      (pss_cons (ps_if (PW.pt (pw_or (pt_val (pcall G2 hr (pa_cons (pv 0) pa_nil))) (pw_or1 (pt_val (pcall G3 hr (pa_cons (pv 3) pa_nil)))))) (pss_one (ps_ret (pe_lst (pa_cons (pcst T.c_NO_MORE) pa_nil)))) pss_nil)
      (pss_cons (ps_fld (pv 3) (pv 2) rfl)
      (pss_cons (ps_fld (pv 3) (pe_op op_add (pe_fld (pv 3) rfl) pe_int) rfl)
      (pss_one (ps_ret (pcall G4 hr (pa_cons (pv 0) (pa_cons (pv 1) pa_nil)))))))))), ?_⟩
    unfold comeS at k
    refine seq_set (rd_room B T.k_D.cl T.nD_rooms rfl rfl h1 ?_)
    refine seq_if (rd_wrong B rfl rfl (fun c1 => iteT ?_) fun c1 => iteF ?_)
    · rw [if_pos (show l < a.day ∨ Ks347.TOP < l from c1)] at k
      exact k.no B
    rw [if_neg (show ¬ (l < a.day ∨ Ks347.TOP < l) from c1)] at k
    refine seq_if (rd_hasStay T.k_R.cl T.nR_stay_last rfl h2 (fun c2 => iteT ?_) fun c2 => iteF ?_)
    · rw [if_pos c2] at k
      exact k.no B
    rw [if_neg c2] at k
    refine seq_if (rd_more B rfl rfl h2 (fun c3 => iteT ?_) fun c3 => iteF ?_)
    · rw [if_pos c3] at k
      exact k.no B
    rw [if_neg c3] at k
    refine seqS (st_stay T.k_R.cl T.nR_stay_last rfl rfl h2 ?_)
    refine seqS (st_num T.k_R.cl T.nR_number rfl upd_same ?_)
    have B2 := B.setRoom ⟨x.zone, x.number + 1, some l⟩ h1 hx h2
    have f2 : Fr D.has H (upd H r (.ins CR dx (roomF ⟨x.zone, x.number + 1, some l⟩))) := Fr.put (D.has_at h1)
    rw [upd_upd]
    exact ⟨_, rfl, _, rfl, D, _, j, ⟨x.zone, x.number + 1, some l⟩, l, rfl, B2, List.getElem?_set_self hj, rfl, k.step f2⟩
theorem sc_copy_card : FnScope ["desk", "place"] ["desk", "place"] (defScope (top 72)) := ⟨rfl, rfl, rfl, by decide +kernel, rfl, by decide +kernel, by decide +kernel⟩
theorem can_copy_card (T : Txt K mg CR CD CL) : Can P w K mg base "copy_card" 9 ["desk", "place"] (spCopy CR CD) := by
  have G2 : Can P w K mg base "no_more_cards" 1 ["desk"] (spNoCards CD) := can_no_more_cards T
  have G4 : Can P w K mg base "guest_card" 8 ["desk", "place"] (spGuest CR CD) := can_guest_card T
  refine T.f_copy_card.can sc_copy_card (fun vs H Q E h => ?_) (fun f cdv A outer s H vs Q E hr h => ?_)
  · obtain ⟨D, a, j, x, l, rfl, _⟩ := h
    rfl
  · obtain ⟨D, a, j, x, l, rfl, B, hx, hs, k⟩ := h
    refine ⟨_, pss_cons (ps_if (pt_val (pcall G2 hr (pa_cons (pv 0) pa_nil))) (pss_one (ps_ret (pe_lst (pa_cons (pcst T.c_NO_MORE) pa_nil)))) pss_nil)
      (pss_one (ps_ret (pcall G4 hr (pa_cons (pv 0) (pa_cons (pv 1) pa_nil))))), ?_⟩
    unfold copyS at k
    refine seq_if (rd_cards B rfl (fun c => iteT ?_) fun c => iteF ?_)
    · rw [if_pos c] at k
      exact k.no B
    rw [if_neg c] at k
    exact ⟨_, rfl, _, rfl, D, a, j, x, l, rfl, B, hx, hs, k⟩
theorem sc_lose_card : FnScope ["desk", "place", "room"] ["desk", "place"] (defScope (top 73)) := ⟨rfl, rfl, rfl, by decide +kernel, rfl, by decide +kernel, by decide +kernel⟩
theorem can_lose_card (T : Txt K mg CR CD CL) : Can P w K mg base "lose_card" 9 ["desk", "place"] (spLose CR CD) := by
  have G2 : Can P w K mg base "no_more_cards" 1 ["desk"] (spNoCards CD) := can_no_more_cards T
  have G3 : Can P w K mg base "no_more_numbers" 1 ["room"] (spNoNumbers CR) := can_no_more_numbers T
  have G4 : Can P w K mg base "guest_card" 8 ["desk", "place"] (spGuest CR CD) := can_guest_card T
  refine T.f_lose_card.can sc_lose_card (fun vs H Q E h => ?_) (fun f cdv A outer s H vs Q E hr h => ?_)
  · obtain ⟨D, a, j, x, l, rfl, _⟩ := h
    rfl
  · obtain ⟨D, a, j, x, l, rfl, B, hx, hs, k⟩ := h
    obtain ⟨r, dx, h1, h2⟩ := B.get hx
    have hj := (List.getElem?_eq_some_iff.mp hx).1
    refine ⟨_, pss_cons (ps_set (i := 2) sc_lose_card.nd rfl (Or.inl rfl) (pe_ix ix_own (pe_fld (pv 0) rfl) (pv 1) (fun _ _ => rfl)))
      (pss_cons (ps_if (PW.pt (pw_or (pt_val (pcall G2 hr (pa_cons (pv 0) pa_nil))) (pw_or1 (pt_val (pcall G3 hr (pa_cons (pv 2) pa_nil)))))) (pss_one (ps_ret (pe_lst (pa_cons (pcst T.c_NO_MORE) pa_nil)))) pss_nil)
      (pss_cons (ps_fld (pv 2) (pe_op op_add (pe_fld (pv 2) rfl) pe_int) rfl)
      (pss_one (ps_ret (pcall G4 hr (pa_cons (pv 0) (pa_cons (pv 1) pa_nil))))))), ?_⟩
    unfold lostS at k
    refine seq_set (rd_room B T.k_D.cl T.nD_rooms rfl rfl h1 ?_)
    refine seq_if (rd_more B rfl rfl h2 (fun c3 => iteT ?_) fun c3 => iteF ?_)
    · rw [if_pos c3] at k
      exact k.no B
    rw [if_neg c3] at k
    refine seqS (st_num T.k_R.cl T.nR_number rfl h2 ?_)
    have B2 := B.setRoom ⟨x.zone, x.number + 1, some l⟩ h1 hx h2
    have f2 : Fr D.has H (upd H r (.ins CR dx (roomF ⟨x.zone, x.number + 1, some l⟩))) := Fr.put (D.has_at h1)
    rw [hs]
    exact ⟨_, rfl, _, rfl, D, _, j, ⟨x.zone, x.number + 1, some l⟩, l, rfl, B2, List.getElem?_set_self hj, rfl, k.step f2⟩
theorem sc_stay_longer : FnScope ["desk", "place", "last", "room"] ["desk", "place", "last"] (defScope (top 74)) := ⟨rfl, rfl, rfl, by decide +kernel, rfl, by decide +kernel, by decide +kernel⟩
theorem can_stay_longer (T : Txt K mg CR CD CL) : Can P w K mg base "stay_longer" 9 ["desk", "place", "last"] (spLonger CR CD) := by
  have G2 : Can P w K mg base "no_more_cards" 1 ["desk"] (spNoCards CD) := can_no_more_cards T
  have G4 : Can P w K mg base "guest_card" 8 ["desk", "place"] (spGuest CR CD) := can_guest_card T
  refine T.f_stay_longer.can sc_stay_longer (fun vs H Q E h => ?_) (fun f cdv A outer s H vs Q E hr h => ?_)
  · obtain ⟨D, a, j, x, l, m, rfl, _⟩ := h
    rfl
  · obtain ⟨D, a, j, x, l, m, rfl, B, hx, hs, k⟩ := h
    obtain ⟨r, dx, h1, h2⟩ := B.get hx
    have hj := (List.getElem?_eq_some_iff.mp hx).1
    refine ⟨_, pss_cons (ps_set (i := 3) sc_stay_longer.nd rfl (Or.inl rfl) (pe_ix ix_own (pe_fld (pv 0) rfl) (pv 1) (fun _ _ => rfl)))
      (pss_cons (ps_if (PW.pt (pw_or (pt_cmpR op_lt (pv 2) (pe_fld (pv 3) rfl) (nomark _)) (pw_or1 (pt_cmpR op_gt (pv 2) (pcst T.c_LAST_DAY) (nomark _))))) (pss_one (ps_ret (pe_lst (pa_cons (pcst T.c_WRONG_VALUE) pa_nil)))) pss_nil)
      (pss_cons (ps_if (pt_val (pcall G2 hr (pa_cons (pv 0) pa_nil))) (pss_one (ps_ret (pe_lst (pa_cons (pcst T.c_NO_MORE) pa_nil)))) pss_nil)
      (pss_cons (ps_fld (pv 3) (pv 2) rfl)
      (pss_one (ps_ret (pcall G4 hr (pa_cons (pv 0) (pa_cons (pv 1) pa_nil)))))))), ?_⟩
    unfold longerS at k
    refine seq_set (rd_room B T.k_D.cl T.nD_rooms rfl rfl h1 ?_)
    have no : (m < l ∨ Ks347.TOP < m) → [V.int (-22)].length ≤ sizeLine ∧ ∀ p, H p = none → Q (.ref p) (upd H p (.lst [V.int (-22)])) := fun c => by
      rw [if_pos c] at k
      exact k.no B
    have sv : vO x.stay = .int (l : Int) := by rw [hs]; rfl
    refine seq_if ⟨_, rfl, rd_stay T.k_R.cl T.nR_stay_last rfl h2 ⟨_, _, rfl, sv, _, rfl, iteD (fun c1 => iteT (no (.inl (by omega)))) fun c1 => ⟨_, rfl, _, _, rfl, rfl, _, rfl, iteD (fun c2 => no (.inr (show 65535 < m by omega))) fun c2 => ?_⟩⟩⟩
    rw [if_neg (show ¬ (m < l ∨ Ks347.TOP < m) from fun z => z.elim (fun z => c1 (by omega)) fun z => c2 (show (65535 : Int) < (m : Int) from Int.ofNat_lt.mpr z))] at k
    refine seq_if (rd_cards B rfl (fun c => iteT ?_) fun c => iteF ?_)
    · rw [if_pos c] at k
      exact k.no B
    rw [if_neg c] at k
    refine seqS (st_stay T.k_R.cl T.nR_stay_last rfl rfl h2 ?_)
    have B2 := B.setRoom ⟨x.zone, x.number, some m⟩ h1 hx h2
    have f2 : Fr D.has H (upd H r (.ins CR dx (roomF ⟨x.zone, x.number, some m⟩))) := Fr.put (D.has_at h1)
    exact ⟨_, rfl, _, rfl, D, _, j, ⟨x.zone, x.number, some m⟩, m, rfl, B2, List.getElem?_set_self hj, rfl, k.step f2⟩
theorem sc_leave : FnScope ["desk", "place", "room"] ["desk", "place"] (defScope (top 75)) := ⟨rfl, rfl, rfl, by decide +kernel, rfl, by decide +kernel, by decide +kernel⟩
theorem can_leave (T : Txt K mg CR CD CL) : Can P w K mg base "leave" 1 ["desk", "place"] (spLeave CR CD) := by
  refine T.f_leave.can sc_leave (fun vs H Q E h => ?_) (fun f cdv A outer s H vs Q E hr h => ?_)
  · obtain ⟨D, a, j, x, rfl, _⟩ := h
    rfl
  · obtain ⟨D, a, j, x, rfl, B, hx, k⟩ := h
    obtain ⟨r, dx, h1, h2⟩ := B.get hx
    refine ⟨_, pss_cons (ps_set (i := 2) sc_leave.nd rfl (Or.inl rfl) (pe_ix ix_own (pe_fld (pv 0) rfl) (pv 1) (fun _ _ => rfl)))
      (pss_cons (ps_fld (pv 2) pe_non rfl) (pss_one (ps_ret (pe_lst (pa_cons pe_int pa_nil))))), ?_⟩
    unfold leaveS at k
    refine seq_set (rd_room B T.k_D.cl T.nD_rooms rfl rfl h1 ?_)
    have B2 := B.setRoom ⟨x.zone, x.number, none⟩ h1 hx h2
    have f2 : Fr D.has H (upd H r (.ins CR dx (roomF ⟨x.zone, x.number, none⟩))) := Fr.put (D.has_at h1)
    refine ⟨_, rfl, r, CR, dx, _, rfl, h2, T.k_R.cl, T.nR_stay_last, roomF_few x, ?_⟩
    rw [ptR_stay_non]
    exact (k.step f2).no B2
theorem sc_shut : FnScope ["desk", "place", "room"] ["desk", "place"] (defScope (top 76)) := ⟨rfl, rfl, rfl, by decide +kernel, rfl, by decide +kernel, by decide +kernel⟩
theorem can_shut (T : Txt K mg CR CD CL) : Can P w K mg base "shut" 8 ["desk", "place"] (spShut CR CD) := by
  have G2 : Can P w K mg base "no_more_cards" 1 ["desk"] (spNoCards CD) := can_no_more_cards T
  have G3 : Can P w K mg base "no_more_numbers" 1 ["room"] (spNoNumbers CR) := can_no_more_numbers T
  have G4 : Can P w K mg base "make_card" 7 ["desk", "kind", "place", "number", "last"] (spMakeCard CR CD) := can_make_card T
  refine T.f_shut.can sc_shut (fun vs H Q E h => ?_) (fun f cdv A outer s H vs Q E hr h => ?_)
  · obtain ⟨D, a, j, x, rfl, _⟩ := h
    rfl
  · obtain ⟨D, a, j, x, rfl, B, hx, k⟩ := h
    obtain ⟨r, dx, h1, h2⟩ := B.get hx
    have hj := (List.getElem?_eq_some_iff.mp hx).1
    have hm := B.max
    refine ⟨_, pss_cons (ps_set (i := 2) sc_shut.nd rfl (Or.inl rfl) (pe_ix ix_own (pe_fld (pv 0) rfl) (pv 1) (fun _ _ => rfl)))
      (pss_cons (ps_if (pt_cmp (pc_notN (pe_fld (pv 2) rfl))) (pss_one (ps_ret (pe_lst (pa_cons (pcst T.c_HAS_STAY) pa_nil)))) pss_nil)
      (pss_cons (ps_if (PW.pt (pw_or (pt_val (pcall G2 hr (pa_cons (pv 0) pa_nil))) (pw_or1 (pt_val (pcall G3 hr (pa_cons (pv 2) pa_nil)))))) (pss_one (ps_ret (pe_lst (pa_cons (pcst T.c_NO_MORE) pa_nil)))) pss_nil)
      (pss_cons (ps_fld (pv 2) (pe_op op_add (pe_fld (pv 2) rfl) pe_int) rfl)
      (pss_one (ps_ret (pcall G4 hr (pa_cons (pv 0) (pa_cons (pcst T.c_SHUTTING_CARD) (pa_cons (pv 1) (pa_cons (pe_fld (pv 2) rfl) (pa_cons (pe_fld (pv 0) rfl) pa_nil))))))))))), ?_⟩
    unfold shutS at k
    refine seq_set (rd_room B T.k_D.cl T.nD_rooms rfl rfl h1 ?_)
    refine seq_if (rd_hasStay T.k_R.cl T.nR_stay_last rfl h2 (fun c2 => iteT ?_) fun c2 => iteF ?_)
    · rw [if_pos c2] at k
      exact k.no B
    rw [if_neg c2] at k
    refine seq_if (rd_more B rfl rfl h2 (fun c3 => iteT ?_) fun c3 => iteF ?_)
    · rw [if_pos c3] at k
      exact k.no B
    rw [if_neg c3] at k
    have hs : x.stay = none := by
      cases e : x.stay with
      | none => rfl
      | some m => exact absurd (by rw [e]; rfl) c2
    have B2 := B.setRoom ⟨x.zone, x.number + 1, none⟩ h1 hx h2
    have f2 : Fr D.has H (upd H r (.ins CR dx (roomF ⟨x.zone, x.number + 1, none⟩))) := Fr.put (D.has_at h1)
    refine seqS (st_num T.k_R.cl T.nR_number rfl h2 ?_)
    rw [hs]
    refine ⟨_, rfl, _, rfl, rd_num T.k_R.cl T.nR_number rfl upd_same (rd_day B2 T.k_D.cl T.nD_day rfl ?_)⟩
    exact ⟨D, _, 3, j, x.number + 1, a.day, rfl, B2, by decide, by omega, k.step f2⟩
theorem sc_tell_stay : FnScope ["desk", "place", "room"] ["desk", "place"] (defScope (top 82)) := ⟨rfl, rfl, rfl, by decide +kernel, rfl, by decide +kernel, by decide +kernel⟩
theorem can_tell_stay (T : Txt K mg CR CD CL) : Can P w K mg base "tell_stay" 1 ["desk", "place"] (spTell CR CD) := by
  refine T.f_tell_stay.can sc_tell_stay (fun vs H Q E h => ?_) (fun f cdv A outer s H vs Q E hr h => ?_)
  · obtain ⟨D, a, j, x, l, rfl, _⟩ := h
    rfl
  · obtain ⟨D, a, j, x, l, rfl, B, hx, hs, k⟩ := h
    obtain ⟨r, dx, h1, h2⟩ := B.get hx
    refine ⟨_, pss_cons (ps_set (i := 2) sc_tell_stay.nd rfl (Or.inl rfl) (pe_ix ix_own (pe_fld (pv 0) rfl) (pv 1) (fun _ _ => rfl)))
      (pss_one (ps_ret (pe_lst (pa_cons (pe_fld (pv 2) rfl) (pa_cons (pe_fld (pv 2) rfl) (pa_cons (pe_fld (pv 2) rfl) pa_nil)))))), ?_⟩
    unfold stayS at k
    refine seq_set (rd_room B T.k_D.cl T.nD_rooms rfl rfl h1 ?_)
    refine ⟨_, rfl, r, CR, dx, _, _, rfl, h2, T.k_R.cl, T.nR_stay_last, lkR_stay x, _, rfl, r, CR, dx, _, _, rfl, h2, T.k_R.cl, T.nR_number, lkR_number x, _, rfl, r, CR, dx, _, _, rfl, h2, T.k_R.cl, T.nR_zone, lkR_zone x, ?_⟩
    rw [hs]
    exact ⟨by show 3 ≤ sizeLine; decide, fun p hp => k.new B p hp⟩
end
end Dc
end
section
set_option Elab.async false
set_option linter.all false
set_option maxRecDepth 100000
set_option maxHeartbeats 4000000
namespace Dc
open PySem PySem.Spec PyProof.Rows L2
open Ks347 (Abs made)
/-! ### what the defs of the desk's calls promise -/
def spStaff (CR CD : Addr) : Sp := fun vs H Q _ => ∃ (D : Dk) (a : Abs) (z l : Nat), vs = [.ref D.d, .int (z : Int), .int (l : Int)] ∧ DeskAt CR CD H D a ∧ Post CR CD H D (staffS a z l) Q
def spNeed (CR CD : Addr) : Sp := fun vs H Q _ => ∃ (D : Dk) (a : Abs) (l : Nat), vs = [.ref D.d, .int (l : Int)] ∧ DeskAt CR CD H D a ∧ Post CR CD H D (needS a l) Q
def spDesk0 (CR CD : Addr) (r : Abs → Abs × Ks347.Ans) : Sp := fun vs H Q _ => ∃ (D : Dk) (a : Abs), vs = [.ref D.d] ∧ DeskAt CR CD H D a ∧ Post CR CD H D (r a) Q
def spAddRoom (CR CD : Addr) : Sp := fun vs H Q _ => ∃ (D : Dk) (a : Abs) (z : Nat), vs = [.ref D.d, .int (z : Int)] ∧ DeskAt CR CD H D a ∧ Post CR CD H D (roomS a z) Q
def spSetDay (CR CD : Addr) : Sp := fun vs H Q _ => ∃ (D : Dk) (a : Abs) (d : Nat), vs = [.ref D.d, .int (d : Int)] ∧ DeskAt CR CD H D a ∧ Post CR CD H D (dayS a d) Q
def spGood (CR CD : Addr) : Sp := fun vs H Q _ => ∃ (D : Dk) (a : Abs) (kind place number last : Nat), vs = [.ref D.d, .int (kind : Int), .int (place : Int), .int (number : Int), .int (last : Int)] ∧ DeskAt CR CD H D a ∧ Q (.bl (goodB a kind place number last)) H
def spWhose (CR CD : Addr) : Sp := fun vs H Q _ => ∃ (D : Dk) (a : Abs) (ra : Addr) (b : List Nat), vs = [.ref D.d, .ref ra] ∧ DeskAt CR CD H D a ∧ H ra = some (.lst (vN b)) ∧ Bts b ∧ Post CR CD H D (whoseS a b) Q
section
variable {P : Program} {w : World} {K : PySem.W.Frag} {mg : Str → Option Value} {base : Heap} {CR CD CL : Addr}
theorem sc_staff_card : FnScope ["desk", "zones", "last"] ["desk", "zones", "last"] (defScope (top 77)) := ⟨rfl, rfl, rfl, by decide +kernel, rfl, by decide +kernel, by decide +kernel⟩
theorem can_staff_card (T : Txt K mg CR CD CL) : Can P w K mg base "staff_card" 8 ["desk", "zones", "last"] (spStaff CR CD) := by
  have G1 : Can P w K mg base "is_wrong_last" 1 ["desk", "last"] (spWrongLast CD) := can_is_wrong_last T
  have G2 : Can P w K mg base "no_more_cards" 1 ["desk"] (spNoCards CD) := can_no_more_cards T
  have G4 : Can P w K mg base "make_card" 7 ["desk", "kind", "place", "number", "last"] (spMakeCard CR CD) := can_make_card T
  refine T.f_staff_card.can sc_staff_card (fun vs H Q E h => ?_) (fun f cdv A outer s H vs Q E hr h => ?_)
  · obtain ⟨D, a, z, l, rfl, _⟩ := h
    rfl
  · obtain ⟨D, a, z, l, rfl, B, k⟩ := h
    refine ⟨_, pss_cons (ps_if (PW.pt (pw_or (pt_cmpR op_lt (pv 1) pe_int (nomark _)) (pw_or (pt_cmpR op_gt (pv 1) (pcst T.c_ALL_ZONES) (nomark _)) (pw_or1 (pt_val (pcall G1 hr (pa_cons (pv 0) (pa_cons (pv 2) pa_nil)))))))) (pss_one (ps_ret (pe_lst (pa_cons (pcst T.c_WRONG_VALUE) pa_nil)))) pss_nil)
      (pss_cons (ps_if (pt_val (pcall G2 hr (pa_cons (pv 0) pa_nil))) (pss_one (ps_ret (pe_lst (pa_cons (pcst T.c_NO_MORE) pa_nil)))) pss_nil)
      (pss_one (ps_ret (pcall G4 hr (pa_cons (pv 0) (pa_cons (pcst T.c_STAFF_CARD) (pa_cons (pv 1) (pa_cons (pe_fld (pv 0) rfl) (pa_cons (pv 2) pa_nil))))))))), ?_⟩
    unfold staffS at k
    have no : (z = 0 ∨ 256 ≤ z ∨ l < a.day ∨ Ks347.TOP < l) → [V.int (-22)].length ≤ sizeLine ∧ ∀ p, H p = none → Q (.ref p) (upd H p (.lst [V.int (-22)])) := fun c => by
      rw [if_pos c] at k
      exact k.no B
    refine seq_if ⟨_, rfl, _, _, rfl, rfl, _, rfl, iteD (fun c1 => iteT (no (.inl (by omega)))) fun c1 => ⟨_, rfl, _, _, rfl, rfl, _, rfl, iteD (fun c2 => iteT (no (.inr (.inl (by omega))))) fun c2 => rd_wrong B rfl rfl (fun c3 => iteT (no (.inr (.inr c3)))) fun c3 => iteF ?_⟩⟩
    rw [if_neg (show ¬ (z = 0 ∨ 256 ≤ z ∨ l < a.day ∨ Ks347.TOP < l) from fun q => q.elim (fun q => c1 (by omega)) fun q => q.elim (fun q => c2 (by omega)) c3)] at k
    refine seq_if (rd_cards B rfl (fun c => iteT ?_) fun c => iteF ?_)
    · rw [if_pos c] at k
      exact k.no B
    rw [if_neg c] at k
    exact ⟨_, rfl, _, rfl, rd_round B T.k_D.cl T.nD_staff_round rfl ⟨_, rfl, D, a, 2, z, a.epoch, l, rfl, B, by decide, by omega, k⟩⟩
theorem sc_emergency_card : FnScope ["desk", "last"] ["desk", "last"] (defScope (top 79)) := ⟨rfl, rfl, rfl, by decide +kernel, rfl, by decide +kernel, by decide +kernel⟩
theorem can_emergency_card (T : Txt K mg CR CD CL) : Can P w K mg base "emergency_card" 8 ["desk", "last"] (spNeed CR CD) := by
  have G1 : Can P w K mg base "is_wrong_last" 1 ["desk", "last"] (spWrongLast CD) := can_is_wrong_last T
  have G2 : Can P w K mg base "no_more_cards" 1 ["desk"] (spNoCards CD) := can_no_more_cards T
  have G4 : Can P w K mg base "make_card" 7 ["desk", "kind", "place", "number", "last"] (spMakeCard CR CD) := can_make_card T
  refine T.f_emergency_card.can sc_emergency_card (fun vs H Q E h => ?_) (fun f cdv A outer s H vs Q E hr h => ?_)
  · obtain ⟨D, a, l, rfl, _⟩ := h
    rfl
  · obtain ⟨D, a, l, rfl, B, k⟩ := h
    refine ⟨_, pss_cons (ps_if (pt_val (pcall G1 hr (pa_cons (pv 0) (pa_cons (pv 1) pa_nil)))) (pss_one (ps_ret (pe_lst (pa_cons (pcst T.c_WRONG_VALUE) pa_nil)))) pss_nil)
      (pss_cons (ps_if (pt_val (pcall G2 hr (pa_cons (pv 0) pa_nil))) (pss_one (ps_ret (pe_lst (pa_cons (pcst T.c_NO_MORE) pa_nil)))) pss_nil)
      (pss_one (ps_ret (pcall G4 hr (pa_cons (pv 0) (pa_cons (pcst T.c_EMERGENCY_CARD) (pa_cons (pcst T.c_EMERGENCY_PLACE) (pa_cons (pe_fld (pv 0) rfl) (pa_cons (pv 1) pa_nil))))))))), ?_⟩
    unfold needS at k
    refine seq_if (rd_wrong B rfl rfl (fun c1 => iteT ?_) fun c1 => iteF ?_)
    · rw [if_pos (show l < a.day ∨ Ks347.TOP < l from c1)] at k
      exact k.no B
    rw [if_neg (show ¬ (l < a.day ∨ Ks347.TOP < l) from c1)] at k
    refine seq_if (rd_cards B rfl (fun c => iteT ?_) fun c => iteF ?_)
    · rw [if_pos c] at k
      exact k.no B
    rw [if_neg c] at k
    exact ⟨_, rfl, _, rfl, D.d, CD, D.dx, _, _, rfl, B.desk, T.k_D.cl, T.nD_staff_round, lkD_round _ _ _ _ _, _, rfl, D, a, 4, 255, a.epoch, l, rfl, B, by decide, by decide, k⟩
theorem sc_recall : FnScope ["desk"] ["desk"] (defScope (top 78)) := ⟨rfl, rfl, rfl, by decide +kernel, rfl, by decide +kernel, by decide +kernel⟩
theorem can_recall (T : Txt K mg CR CD CL) : Can P w K mg base "recall" 1 ["desk"] (spDesk0 CR CD recallS) := by
  refine T.f_recall.can sc_recall (fun vs H Q E h => ?_) (fun f cdv A outer s H vs Q E hr h => ?_)
  · obtain ⟨D, a, rfl, _⟩ := h
    rfl
  · obtain ⟨D, a, rfl, B, k⟩ := h
    refine ⟨_, pss_cons (ps_if (pt_cmpR op_ge (pe_fld (pv 0) rfl) (pcst T.c_LAST_ROUND) (nomark _)) (pss_one (ps_ret (pe_lst (pa_cons (pcst T.c_NO_MORE) pa_nil)))) pss_nil)
      (pss_cons (ps_fld (pv 0) (pe_op op_add (pe_fld (pv 0) rfl) pe_int) rfl)
      (pss_one (ps_ret (pe_lst (pa_cons (pe_fld (pv 0) rfl) pa_nil))))), ?_⟩
    unfold recallS at k
    refine seq_if ⟨_, rfl, D.d, CD, D.dx, _, _, rfl, B.desk, T.k_D.cl, T.nD_staff_round, lkD_round _ _ _ _ _, _, _, rfl, rfl, _, rfl, iteD (fun c => ?_) fun c => ?_⟩
    · rw [if_pos (show Ks347.TOP ≤ a.epoch from (show 65535 ≤ a.epoch by omega))] at k
      exact k.no B
    rw [if_neg (show ¬ Ks347.TOP ≤ a.epoch from fun z => c (show (65535 : Int) ≤ (a.epoch : Int) from Int.ofNat_le.mpr z))] at k
    have e2 : putF "staff_round" (V.int ((a.epoch : Int) + 1)) (deskF D.ka D.rl a.day a.epoch a.serial) = deskF D.ka D.rl a.day (a.epoch + 1) a.serial := ptD_round D.ka D.rl a.day a.epoch a.serial (a.epoch + 1)
    have B2 := B.setDesk a.day (a.epoch + 1) a.serial
    have f2 : Fr D.has H (upd H D.d (.ins CD D.dx (deskF D.ka D.rl a.day (a.epoch + 1) a.serial))) := Fr.put D.has_d
    refine seqS ⟨_, rfl, D.d, CD, D.dx, _, _, rfl, B.desk, T.k_D.cl, T.nD_staff_round, lkD_round _ _ _ _ _, _, _, rfl, rfl, _, rfl, D.d, CD, D.dx, _, rfl, B.desk, T.k_D.cl, T.nD_staff_round, deskF_few _ _ _ _ _, ?_⟩
    dsimp only
    rw [e2]
    refine ⟨_, rfl, D.d, CD, D.dx, _, _, rfl, upd_same, T.k_D.cl, T.nD_staff_round, lkD_round _ _ _ _ _, ?_⟩
    exact (k.step f2).no B2
theorem sc_add_room : FnScope ["desk", "zone"] ["desk", "zone"] (defScope (top 68)) := ⟨rfl, rfl, rfl, by decide +kernel, rfl, by decide +kernel, by decide +kernel⟩
theorem can_add_room (T : Txt K mg CR CD CL) : Can P w K mg base "add_room" 3 ["desk", "zone"] (spAddRoom CR CD) := by
  have G : CanMk P w K mg base "Room" 1 ["self", "zone"] CR (spInitR CR) := can_Room T
  refine T.f_add_room.can sc_add_room (fun vs H Q E h => ?_) (fun f cdv A outer s H vs Q E hr h => ?_)
  · obtain ⟨D, a, z, rfl, _⟩ := h
    rfl
  · obtain ⟨D, a, z, rfl, B, k⟩ := h
    refine ⟨_, pss_cons (ps_if (pt_cmpR op_gt (pv 1) (pcst T.c_LAST_ZONE) (nomark _)) (pss_one (ps_ret (pe_lst (pa_cons (pcst T.c_WRONG_VALUE) pa_nil)))) pss_nil)
      (pss_cons (ps_if (pt_cmpR op_ge (plen T.b_len (pe_fld (pv 0) rfl)) (pcst T.c_MOST_ROOMS) (nomark _)) (pss_one (ps_ret (pe_lst (pa_cons (pcst T.c_NO_MORE) pa_nil)))) pss_nil)
      (pss_cons (ps_expr (pe_bm PySem.F.plainAttrs_list PySem.F.slot_list_append PySem.F.type_list_append mt_append (pe_fld (pv 0) rfl) (pa_cons (pmake G hr (pa_cons (pv 1) pa_nil)) pa_nil)))
      (pss_one (ps_ret (pe_lst (pa_cons (pe_op op_sub (plen T.b_len (pe_fld (pv 0) rfl)) pe_int) pa_nil)))))), ?_⟩
    unfold roomS at k
    have e3 : (List.map V.ref D.ras).length = a.rooms.length := by rw [List.length_map]; exact B.len
    refine seq_if ⟨_, rfl, _, _, rfl, rfl, _, rfl, iteD (fun c1 => ?_) fun c1 => ?_⟩
    · rw [if_pos (show 8 ≤ z by omega)] at k
      exact k.no B
    rw [if_neg (show ¬ 8 ≤ z by omega)] at k
    refine seq_if (rd_len B T.k_D.cl T.nD_rooms rfl ⟨_, _, rfl, rfl, _, rfl, iteD (fun c2 => ?_) fun c2 => ?_⟩)
    · rw [if_pos (show Ks345.ROOMS ≤ a.rooms.length from (show 64 ≤ a.rooms.length by omega))] at k
      exact k.no B
    have c2 : ¬ 64 ≤ a.rooms.length := by omega
    rw [if_neg (show ¬ Ks345.ROOMS ≤ a.rooms.length from c2)] at k
    refine ⟨_, rfl, D.d, CD, D.dx, _, _, rfl, B.desk, T.k_D.cl, T.nD_rooms, lkD_rooms _ _ _ _ _, .inl ⟨rfl, _, SqL.of B.rl⟩, _, rfl, fun x dx nx ndx ne => ?_⟩
    refine ⟨x, dx, z, rfl, upd_same, fun H2 hx2 kp => ⟨rfl, ?_⟩⟩
    have s2 : Same H H2 := fun b o e => by
      rw [kp b (ne_of_none e nx), upd_ne (ne_of_none e nx), upd_ne (ne_of_none e ndx)]
      exact e
    have B2 := B.same s2
    have xr : x ∉ D.ras := fun m => by
      obtain ⟨y, dy, e⟩ := B.mem m
      rw [nx] at e
      cases e
    have xl : x ≠ D.rl := (ne_of_none B.rl nx).symm
    refine ⟨D.rl, _, _, rfl, rfl, B2.rl, ?_, ?_⟩
    · rw [e3]
      exact Nat.lt_of_lt_of_le (Nat.lt_of_not_le c2) (by decide)
    have B3 := B2.addRoom hx2 xr xl (Nat.lt_of_not_le c2)
    have hd3 : upd H2 D.rl (.lst (D.ras.map V.ref ++ [.ref x])) D.d = some (.ins CD D.dx (deskF D.ka D.rl a.day a.epoch a.serial)) := B3.desk
    have e4 : (D.ras.map V.ref ++ [V.ref x]).length = a.rooms.length + 1 := by rw [List.length_append, e3]; rfl
    have e5 : (((D.ras.map V.ref ++ [V.ref x]).length : Nat) : Int) - 1 = ((a.rooms.length : Nat) : Int) := by omega
    have f3 : Fr D.has H (upd H2 D.rl (.lst (D.ras.map V.ref ++ [.ref x]))) := (Fr.same s2).trans (Fr.put D.has_rl)
    refine ⟨_, rfl, D.d, CD, D.dx, _, _, rfl, hd3, T.k_D.cl, T.nD_rooms, lkD_rooms _ _ _ _ _, D.rl, _, rfl, upd_same, _, _, rfl, rfl, by show 1 ≤ sizeLine; decide, fun p hp => ?_⟩
    dsimp only
    rw [e5]
    refine k _ _ p (B3.same (same_new hp)) ⟨rfl, fun b hb => ?_⟩ (f3.trans (Fr.same (same_new hp))) upd_same (f3.dom p hp)
    rcases hb with hb | hb | hb | hb
    · exact .inl (.inl hb)
    · exact .inl (.inr (.inl hb))
    · exact .inl (.inr (.inr (.inl hb)))
    · have hb : b ∈ D.ras ++ [x] := hb
      rcases List.mem_append.mp hb with hb | hb
      · exact .inl (.inr (.inr (.inr hb)))
      · rw [List.mem_singleton.mp hb]
        exact .inr nx
theorem sc_set_day : FnScope ["desk", "day", "over", "room"] ["desk", "day"] (defScope (top 69)) := ⟨rfl, rfl, rfl, by decide +kernel, rfl, by decide +kernel, by decide +kernel⟩
theorem can_set_day (T : Txt K mg CR CD CL) : Can P w K mg base "set_day" 2 ["desk", "day"] (spSetDay CR CD) := by
  have G : Can P w K mg base "is_over" 1 ["room", "day"] (spOver CR) := can_is_over T
  refine T.f_set_day.can sc_set_day (fun vs H Q E h => ?_) (fun f cdv A outer s H vs Q E hr h => ?_)
  · obtain ⟨D, a, d, rfl, _⟩ := h
    rfl
  · obtain ⟨D, a, d, rfl, B, k⟩ := h
    refine ⟨_, pss_cons (ps_if (PW.pt (pw_or (pt_cmpR op_lt (pv 1) (pe_fld (pv 0) rfl) (nomark _)) (pw_or1 (pt_cmpR op_gt (pv 1) (pcst T.c_LAST_DAY) (nomark _))))) (pss_one (ps_ret (pe_lst (pa_cons (pcst T.c_WRONG_VALUE) pa_nil)))) pss_nil)
      (pss_cons (ps_fld (pv 0) (pv 1) rfl)
      (pss_cons (ps_set (i := 2) sc_set_day.nd rfl (Or.inl rfl) pe_int)
      (pss_cons (ps_for PassesOwn.never rfl (pi_list (pe_fld (pv 0) rfl)) (pg_name (i := 3) sc_set_day.nd rfl (Or.inl rfl))
        (pss_one (ps_if (pt_val (pcall G hr (pa_cons (pv 3) (pa_cons (pv 1) pa_nil)))) (pss_cons (ps_fld (pv 3) pe_non rfl) (pss_one (ps_set (i := 2) sc_set_day.nd rfl (Or.inl rfl) (pe_op op_add (pv 2) pe_int)))) pss_nil)))
      (pss_one (ps_ret (pe_lst (pa_cons (pv 2) pa_nil))))))), ?_⟩
    unfold dayS at k
    have no : (d < a.day ∨ Ks347.TOP < d) → [V.int (-22)].length ≤ sizeLine ∧ ∀ p, H p = none → Q (.ref p) (upd H p (.lst [V.int (-22)])) := fun c => by
      rw [if_pos c] at k
      exact k.no B
    refine seq_if ⟨_, rfl, rd_day B T.k_D.cl T.nD_day rfl ⟨_, _, rfl, rfl, _, rfl, iteD (fun c1 => iteT (no (.inl (by omega)))) fun c1 => ⟨_, rfl, _, _, rfl, rfl, _, rfl, iteD (fun c2 => no (.inr (show 65535 < d by omega))) fun c2 => ?_⟩⟩⟩
    rw [if_neg (show ¬ (d < a.day ∨ Ks347.TOP < d) from fun z => z.elim (fun z => c1 (by omega)) fun z => c2 (show (65535 : Int) < (d : Int) from Int.ofNat_lt.mpr z))] at k
    refine seqS ⟨_, rfl, _, rfl, D.d, CD, D.dx, _, rfl, B.desk, T.k_D.cl, T.nD_day, deskF_few _ _ _ _ _, ?_⟩
    rw [ptD_day]
    have B1 : DeskAt CR CD (upd H D.d (.ins CD D.dx (deskF D.ka D.rl d a.epoch a.serial))) D { a with day := d } := B.setDesk d a.epoch a.serial
    have f1 : Fr D.has H (upd H D.d (.ins CD D.dx (deskF D.ka D.rl d a.epoch a.serial))) := Fr.put D.has_d
    refine ⟨_, rfl, D.d, CD, D.dx, _, _, rfl, B1.desk, T.k_D.cl, T.nD_rooms, lkD_rooms _ _ _ _ _, D.rl, rfl, ⟨_, SqL.of B1.rl⟩, for_list (K := K) (a := D.rl) (xs := D.ras.map V.ref)
      (fun i σ H' => ∃ v : Option V, σ = [some (.ref D.d), some (.int (d : Int)), some (.int (((a.rooms.take i).filter (over d)).length : Nat)), v] ∧ DeskAt CR CD H' D { a with day := d, rooms := mix (endR d) a.rooms i } ∧ Fr D.has H H')
      ⟨none, rfl, by rw [mix_zero]; exact B1, f1⟩ (fun i σ H' _ ⟨_, _, B', _⟩ => SqL.of B'.rl) ?_ ?_⟩
    · rintro i y σ H' hi ⟨v, rfl, B', f'⟩
      obtain ⟨r, h1, rfl⟩ : ∃ r, D.ras[i]? = some r ∧ y = V.ref r := by
        rw [List.getElem?_map] at hi
        cases e : D.ras[i]? with
        | none => rw [e] at hi; cases hi
        | some r => rw [e] at hi; exact ⟨r, rfl, (Option.some.inj hi).symm⟩
      have hil : i < a.rooms.length := by rw [← B.len]; exact (List.getElem?_eq_some_iff.mp h1).1
      obtain ⟨x, hx⟩ : ∃ x, a.rooms[i]? = some x := ⟨_, List.getElem?_eq_getElem hil⟩
      have hm : (mix (endR d) a.rooms i)[i]? = some x := mix_get (endR d) hx
      obtain ⟨r', dx, h1', h2⟩ := B'.get hm
      rw [h1] at h1'
      cases h1'
      have ef := filter_snoc (over d) hx
      refine ⟨_, rfl, _, rfl, r, dx, x, d, rfl, h2, _, rfl, ?_⟩
      by_cases c3 : over d x = true
      · rw [if_pos c3] at ef
        rw [c3]
        have er : endR d x = ⟨x.zone, x.number, none⟩ := by unfold endR; rw [if_pos c3]
        have B2 := B'.setRoom ⟨x.zone, x.number, none⟩ h1 hm h2
        have em : Ks347.setRoom { a with day := d, rooms := mix (endR d) a.rooms i } i ⟨x.zone, x.number, none⟩ = { a with day := d, rooms := mix (endR d) a.rooms (i + 1) } := by
          unfold Ks347.setRoom
          show ({ a with day := d, rooms := (mix (endR d) a.rooms i).set i ⟨x.zone, x.number, none⟩ } : Abs) = _
          rw [← er, mix_succ (endR d) hx]
        rw [em] at B2
        refine iteT ⟨_, rfl, r, CR, dx, _, rfl, h2, T.k_R.cl, T.nR_stay_last, roomF_few x, _, rfl, _, _, rfl, rfl, ?_⟩
        rw [ptR_stay_non]
        refine ⟨some (.ref r), ?_, B2, f'.trans (Fr.put (D.has_at h1))⟩
        rw [ef]
        rfl
      · rw [if_neg c3] at ef
        have c3' : over d x = false := Bool.eq_false_iff.mpr c3
        rw [c3']
        have er : endR d x = x := by unfold endR; rw [if_neg c3]
        refine iteF ⟨some (.ref r), ?_, ?_, f'⟩
        · rw [ef]
          rfl
        · rw [← mix_keep (endR d) hx er]
          exact B'
    · rintro σ H' ⟨v, rfl, B', f'⟩
      rw [List.length_map, B.len, List.take_length]
      rw [List.length_map, B.len, mix_all] at B'
      exact ⟨_, rfl, (k.step f').no B'⟩
theorem sc_is_good : FnScope ["desk", "kind", "place", "number", "last", "room"] ["desk", "kind", "place", "number", "last"] (defScope (top 81)) := ⟨rfl, rfl, rfl, by decide +kernel, rfl, by decide +kernel, by decide +kernel⟩
theorem can_is_good (T : Txt K mg CR CD CL) : Can P w K mg base "is_good" 1 ["desk", "kind", "place", "number", "last"] (spGood CR CD) := by
  refine T.f_is_good.can sc_is_good (fun vs H Q E h => ?_) (fun f cdv A outer s H vs Q E hr h => ?_)
  · obtain ⟨D, a, kind, place, number, last, rfl, _⟩ := h
    rfl
  · obtain ⟨D, a, kind, place, number, last, rfl, B, k⟩ := h
    refine ⟨_, pss_cons (ps_if (pt_cmpR op_lt (pv 4) (pe_fld (pv 0) rfl) (nomark _)) (pss_one (ps_ret pe_bl)) pss_nil)
      (pss_cons (ps_if (PW.pt (pw_or (pt_cmpR op_eq (pv 1) (pcst T.c_STAFF_CARD) (nomark _)) (pw_or1 (pt_cmpR op_eq (pv 1) (pcst T.c_EMERGENCY_CARD) (nomark _))))) (pss_one (ps_ret (pe_cmpR op_eq (pv 3) (pe_fld (pv 0) rfl) (nomark _)))) pss_nil)
      (pss_cons (ps_if (pt_cmpR op_ge (pv 2) (plen T.b_len (pe_fld (pv 0) rfl)) (nomark _)) (pss_one (ps_ret pe_bl)) pss_nil)
      (pss_cons (ps_set (i := 5) sc_is_good.nd rfl (Or.inl rfl) (pe_ix ix_own (pe_fld (pv 0) rfl) (pv 2) (fun _ _ => rfl)))
      (pss_cons (ps_if (PW.pt (pw_and (pt_cmpR op_eq (pv 1) (pcst T.c_GUEST_CARD) (nomark _)) (pw_and1 (pt_cmp (pc_isN (pe_fld (pv 5) rfl)))))) (pss_one (ps_ret pe_bl)) pss_nil)
      (pss_one (ps_ret (pe_cmpR op_eq (pv 3) (pe_fld (pv 5) rfl) (nomark _)))))))), ?_⟩
    have fls : goodB a kind place number last = false → Q (.bl false) H := fun e => by rw [e] at k; exact k
    refine seq_if ⟨_, rfl, rd_day B T.k_D.cl T.nD_day rfl ⟨_, _, rfl, rfl, _, rfl, iteD (fun c => ?_) fun c => ?_⟩⟩
    · refine fls ?_
      unfold goodB
      rw [decide_eq_true (show last < a.day by omega)]
      rfl
    have h0 : decide (last < a.day) = false := decide_eq_false (by omega)
    have rnd : (kind = 2 ∨ kind = 4) → tRet (tOp rEq (tVar 3) (tFld K (tVar 0) "staff_round")) { nx := fun _ H' => Q .non H', rt := Q } [some (.ref D.d), some (.int (kind : Int)), some (.int (place : Int)), some (.int (number : Int)), some (.int (last : Int)), none] H := fun hk => by
      have e : goodB a kind place number last = decide (V.int (number : Int) = V.int (a.epoch : Int)) := by
        unfold goodB
        rw [h0, if_pos hk]
        show decide (number = a.epoch) = _
        exact decide_eq_decide.mpr ⟨fun z => by rw [z], fun z => Int.ofNat.inj (V.int.inj z)⟩
      rw [e] at k
      exact ⟨_, rfl, rd_round B T.k_D.cl T.nD_staff_round rfl ⟨rfl, k⟩⟩
    refine seq_if ⟨_, rfl, rfl, _, rfl, iteD (fun c1 => iteT (rnd (.inl (Int.ofNat.inj (V.int.inj c1))))) fun c1 => ⟨_, rfl, rfl, _, rfl, iteD (fun c2 => rnd (.inr (Int.ofNat.inj (V.int.inj c2)))) fun c2 => ?_⟩⟩
    have hk : ¬ (kind = 2 ∨ kind = 4) := fun z => z.elim (fun z => c1 (by rw [z]; rfl)) fun z => c2 (by rw [z]; rfl)
    refine seq_room B T.k_D.cl T.nD_rooms rfl rfl (fun hx => fls ?_) fun x hx => ?_
    · unfold goodB
      rw [h0, if_neg hk, hx]
      rfl
    obtain ⟨r, dx, h5, h6⟩ := B.get hx
    have e : goodB a kind place number last = (!(decide (kind = 1) && x.stay.isNone) && decide (number = x.number)) := by
      unfold goodB
      rw [h0, if_neg hk, hx]
      rfl
    refine seq_set (rd_room B T.k_D.cl T.nD_rooms rfl rfl h5 ?_)
    have fin : (decide (kind = 1) && x.stay.isNone) = false → tRet (tOp rEq (tVar 3) (tFld K (tVar 5) "number")) { nx := fun _ H' => Q .non H', rt := Q } [some (.ref D.d), some (.int (kind : Int)), some (.int (place : Int)), some (.int (number : Int)), some (.int (last : Int)), some (.ref r)] H := fun z => by
      have e3 : goodB a kind place number last = decide (V.int (number : Int) = V.int (x.number : Int)) := by
        rw [e, z]
        show decide (number = x.number) = _
        exact decide_eq_decide.mpr ⟨fun z => by rw [z], fun z => Int.ofNat.inj (V.int.inj z)⟩
      rw [e3] at k
      exact ⟨_, rfl, rd_num T.k_R.cl T.nR_number rfl h6 ⟨rfl, k⟩⟩
    refine seq_if ⟨_, rfl, rfl, _, rfl, iteD (fun g1 => rd_stay T.k_R.cl T.nR_stay_last rfl h6 ⟨_, rfl, ?_⟩) fun g1 => fin ?_⟩
    · have g2 : kind = 1 := Int.ofNat.inj (V.int.inj g1)
      cases hs : x.stay with
      | none =>
        refine fls ?_
        rw [e, g2, hs]
        rfl
      | some m =>
        refine fin ?_
        rw [hs, g2]
        rfl
    · rw [decide_eq_false (fun z => g1 (by rw [z]; rfl))]
      rfl
end
end Dc
end
section
set_option Elab.async false
set_option linter.all false
set_option maxRecDepth 100000
set_option maxHeartbeats 4000000
namespace Dc
open PySem PySem.Spec PyProof.Rows L2
open Ks347 (Abs made)
/-- over enumerate of a list that the block leaves as it is -/
theorem lc_enum {K : PySem.W.Frag} {a : Addr} {xs : List V} {g : TG} {tt : TT} {te : TE} {vs : List Nat} {σ : L2.St} {H1 : Hp} {D : Addr} {Qd : Hp → Prop} (Pv : Nat → Hp → Prop) (h0 : Pv 0 (upd H1 D (.lst []))) (hl : ∀ i H, i ≤ xs.length → Pv i H → SqL K H a xs)
    (hs : ∀ (i : Nat) (x : V) (H : Hp) (t : Addr), xs[i]? = some x → Pv i H → H t = none → g (.ref t) (wipe σ vs) (upd H t (.tup [.int (i : Nat), x])) fun σ2 H2 => wipe σ2 vs = wipe σ vs ∧ tt σ2 H2 fun b H3 =>
      if b = true then te σ2 H3 fun y H4 => ∃ acc, H4 D = some (.lst acc) ∧ acc.length < sizeLine ∧ Pv (i + 1) (upd H4 D (.lst (acc ++ [y]))) else Pv (i + 1) H3) (hd : ∀ H, Pv xs.length H → Qd H) :
    ∃ W : Nat → Nat → Hp → Prop, (∃ m, W 0 m (upd H1 D (.lst []))) ∧ ∀ i m H, W i m H →
      ((Ite K a).stop i H ∧ Qd H) ∨ ((Ite K a).go i H ∧ ∃ Nx : Hp → Prop, (∀ H', Nx H' → ∃ m', m' < m ∧ W (i + 1) m' H') ∧ ∀ x H', (Ite K a).yld i H x H' → g x (wipe σ vs) H' fun σ2 H2 => wipe σ2 vs = wipe σ vs ∧ tt σ2 H2 fun b H3 =>
        if b = true then te σ2 H3 fun y H4 => ∃ acc, H4 D = some (.lst acc) ∧ acc.length < sizeLine ∧ Nx (upd H4 D (.lst (acc ++ [y]))) else Nx H3) := by
  refine ⟨fun i m H => m = xs.length - i ∧ i ≤ xs.length ∧ Pv i H, ⟨xs.length, by simp, Nat.zero_le _, h0⟩, ?_⟩
  rintro i m H ⟨rfl, hi, p⟩
  have q := hl i H hi p
  by_cases hlt : i < xs.length
  · refine .inr ⟨⟨xs, xs[i], q, by simp [hlt]⟩, Pv (i + 1), fun H' p' => ⟨xs.length - (i + 1), by omega, rfl, hlt, p'⟩, fun x H' y => ?_⟩
    obtain ⟨t, z, e1, e2, e3, y⟩ := y
    subst e1 e3
    exact hs i z H t (y xs q) p e2
  · have e : i = xs.length := by omega
    subst e
    exact .inl ⟨⟨xs, q, Nat.le_refl _⟩, hd H p⟩
theorem mapref_get {ras : List Addr} {i : Nat} {y : V} (hi : (ras.map V.ref)[i]? = some y) : ∃ r, ras[i]? = some r ∧ y = V.ref r := by
  rw [List.getElem?_map] at hi
  cases e : ras[i]? with
  | none => rw [e] at hi; cases hi
  | some r => rw [e] at hi; exact ⟨r, rfl, (Option.some.inj hi).symm⟩
def freeTo (a : Abs) (i : Nat) : List Nat := (List.range i).filter fun r => match a.rooms[r]? with
  | some x => x.stay.isNone
  | none => false
theorem freeTo_succ {a : Abs} {i : Nat} {x : Ks347.Room} (h : a.rooms[i]? = some x) : freeTo a (i + 1) = freeTo a i ++ (if x.stay.isNone = true then [i] else []) := by
  unfold freeTo
  rw [List.range_succ, List.filter_append, List.filter_cons, h, List.filter_nil]
theorem freeTo_len (a : Abs) (i : Nat) : (freeTo a i).length ≤ i := by
  unfold freeTo
  exact Nat.le_trans (List.length_filter_le _ _) (Nat.le_of_eq List.length_range)
section
variable {P : Program} {w : World} {K : PySem.W.Frag} {mg : Str → Option Value} {base : Heap} {CR CD CL : Addr}
theorem sc_whose : FnScope ["desk", "row", "parts", "good"] ["desk", "row"] (defScope (top 80)) := ⟨rfl, rfl, rfl, by decide +kernel, rfl, by decide +kernel, by decide +kernel⟩
theorem can_whose (T : Txt K mg CR CD CL) : Can P w K mg base "whose" 7 ["desk", "row"] (spWhose CR CD) := by
  have G1 : Can P w K mg base "is_card" 6 ["key", "row"] spIsCard := can_is_card T
  have G2 : Can P w K mg base "parts_of" 2 ["card"] spParts := can_parts_of T
  have G3 : Can P w K mg base "is_good" 1 ["desk", "kind", "place", "number", "last"] (spGood CR CD) := can_is_good T
  refine T.f_whose.can sc_whose (fun vs H Q E h => ?_) (fun f cdv A outer s H vs Q E hr h => ?_)
  · obtain ⟨D, a, ra, b, rfl, _⟩ := h
    rfl
  · obtain ⟨D, a, ra, b, rfl, B, hR, hb, k⟩ := h
    refine ⟨_, pss_cons (ps_if (pt_not (pt_val (pcall G1 hr (pa_cons (pe_fld (pv 0) rfl) (pa_cons (pv 1) pa_nil))))) (pss_one (ps_ret (pe_lst (pa_cons (pcst T.c_NO_CARD) pa_nil)))) pss_nil)
      (pss_cons (ps_set (i := 2) sc_whose.nd rfl (Or.inl rfl) (pcall G2 hr (pa_cons (pv 1) pa_nil)))
      (pss_cons (ps_set (i := 3) sc_whose.nd rfl (Or.inl rfl) (pcall G3 hr (pa_cons (pv 0) (pa_cons (pe_ix ix_own (pv 2) pe_int (fun _ _ => rfl)) (pa_cons (pe_ix ix_own (pv 2) pe_int (fun _ _ => rfl)) (pa_cons (pe_ix ix_own (pv 2) pe_int (fun _ _ => rfl)) (pa_cons (pe_ix ix_own (pv 2) pe_int (fun _ _ => rfl)) pa_nil)))))))
      (pss_one (ps_ret (pe_op op_cat (pe_lst (pa_cons (pe_ifExp (pt_val (pv 3)) pe_int pe_int) pa_nil)) (pv 2)))))), ?_⟩
    unfold whoseS at k
    refine seq_if ⟨_, rfl, D.d, CD, D.dx, _, _, rfl, B.desk, T.k_D.cl, T.nD_key, lkD_key _ _ _ _ _, _, rfl, D.ka, ra, a.key, b, rfl, B.key, hR, B.klen, B.kb, hb, fun H1 s1 => ⟨_, rfl, ?_⟩⟩
    have B1 := B.same s1
    cases hl : Ks345.look a.key b with
    | none =>
      rw [hl] at k
      exact iteT ((k.step (Fr.same s1)).no B1)
    | some c =>
      have k : Post CR CD H D (a, ({ ret := if goodB a c.kind c.place c.number c.last = true then 1 else 0, out := Ks345.fields c } : Ks347.Ans)) Q := by
        rw [hl] at k
        exact k
      obtain ⟨ec, bl⟩ := look_card hl
      refine iteF (seq_set ⟨_, rfl, ra, b, rfl, s1 _ _ hR, bl, fun H2 p2 s2 h2 => ?_⟩)
      rw [← ec] at h2
      have B2 := B1.same s2
      refine seq_set ⟨_, rfl, rd_ixc rfl h2 (atI_nat (j := 0) rfl) (rd_ixc rfl h2 (atI_nat (j := 1) rfl) (rd_ixc rfl h2 (atI_nat (j := 2) rfl) (rd_ixc rfl h2 (atI_nat (j := 3) rfl) ⟨D, a, c.kind, c.place, c.number, c.last, rfl, B2, ?_⟩)))⟩
      have fin : ∀ (n : Int), (n = if goodB a c.kind c.place c.number c.last = true then 1 else 0) →
          [V.int n].length ≤ sizeLine ∧ ∀ p, H2 p = none → ∃ v, ([some (.ref D.d), some (.ref ra), some (.ref p2), some (.bl (goodB a c.kind c.place c.number c.last))] : L2.St)[2]? = some (some v) ∧ rCat (.ref p) v (upd H2 p (.lst [V.int n])) Q := by
        intro n en
        refine ⟨by show 1 ≤ sizeLine; decide, fun p hp => ⟨_, rfl, p, p2, _, _, rfl, rfl, upd_same, (same_new hp) _ _ h2, ?_, fun q hq => ?_⟩⟩
        · rw [vN_length]
          show 1 + 5 ≤ sizeLine
          decide
        · have s4 := (s1.trans s2).trans ((same_new hp).trans (same_new (o := .lst ([V.int n] ++ vN (Ks345.fields c))) hq))
          rw [← en] at k
          exact k _ D q (B.same s4) (Grow.refl H D) (Fr.same s4) upd_same ((s1.trans s2).free ((same_new hp).free hq))
      refine ⟨_, rfl, _, rfl, ?_⟩
      cases hg : goodB a c.kind c.place c.number c.last with
      | true =>
        rw [hg] at fin
        exact iteT (fin 1 rfl)
      | false =>
        rw [hg] at fin
        exact iteF (fin 0 rfl)
theorem blk_free : BlkOk ["desk", "places", "place", "room"] (defScope (top 83)) { kind := .function, names := [(".0", .local), ("place", .local), ("room", .local)], isGenerator := false, isCoroutine := false } [("place", 2), ("room", 3)] := blkOk_by (by decide +kernel)
theorem sc_free_rooms : FnScope ["desk", "places", "place", "room"] ["desk"] (defScope (top 83)) := ⟨rfl, rfl, rfl, by decide +kernel, rfl, by decide +kernel, by decide +kernel⟩
theorem can_free_rooms (T : Txt K mg CR CD CL) : Can P w K mg base "free_rooms" 1 ["desk"] (spDesk0 CR CD freeS) := by
  refine T.f_free_rooms.can sc_free_rooms (fun vs H Q E h => ?_) (fun f cdv A outer s H vs Q E hr h => ?_)
  · obtain ⟨D, a, rfl, _⟩ := h
    rfl
  · obtain ⟨D, a, rfl, B, k⟩ := h
    refine ⟨_, pss_cons (ps_setLc (i := 1) (own := [("place", 2), ("room", 3)]) (g := gTup K 2 (gCons (gName 2) (gCons (gName 3) gNil))) (tt := tB (tIsN (tFld K (tVar 3) "stay_last"))) (te := tVar 2) rfl sc_free_rooms.nd rfl rfl (by with_unfolding_all rfl) (pi_enum rfl T.b_enumerate (pa_cons (pe_fld (pv 0) rfl) pa_nil)) blk_free
        (fun s H C cl fp => pg_tup rfl (pgs_cons (pg_name (i := 2) sc_free_rooms.nd rfl (Or.inl rfl)) (pgs_cons (pg_name (i := 3) sc_free_rooms.nd rfl (Or.inl rfl)) pgs_nil)))
        (fun s H C cl fp => pts_one (pt_cmp (pc_isN (pe_fld (pv 3) rfl))))
        (fun s H C cl fp => pv 2))
      (pss_one (ps_ret (pe_op op_cat (pe_lst (pa_cons (plen T.b_len (pv 1)) pa_nil)) (pv 1)))), ?_⟩
    refine ⟨_, rfl, D.d, CD, D.dx, _, _, rfl, B.desk, T.k_D.cl, T.nD_rooms, lkD_rooms _ _ _ _ _, D.rl, _, rfl, SqL.of B.rl, fun L hL => ?_⟩
    refine lc_enum (K := K) (a := D.rl) (xs := D.ras.map V.ref) (fun i H' => Same H H' ∧ H' L = some (.lst (vN (freeTo a i)))) ⟨same_new hL, upd_same⟩ (fun i H' _ ⟨s1, _⟩ => SqL.of (s1 _ _ B.rl)) ?_ ?_
    · rintro i y H' t hi ⟨s1, h1⟩ ht
      obtain ⟨r, hr1, rfl⟩ := mapref_get hi
      obtain ⟨x, dx, hx, hrx⟩ := B.at_ i r hr1
      have hil := (List.getElem?_eq_some_iff.mp hx).1
      have hmax := B.max
      have st : Same H' (upd H' t (.tup [.int (i : Nat), .ref r])) := same_new ht
      refine ⟨t, _, rfl, SqT.of upd_same, rfl, _, _, rfl, _, _, rfl, rfl, rfl, ?_⟩
      refine ⟨_, rfl, r, CR, dx, _, _, rfl, st _ _ (s1 _ _ hrx), T.k_R.cl, T.nR_stay_last, lkR_stay x, _, rfl, ?_⟩
      have nL : ∀ b o, H b = some o → b ≠ L := fun b o e => ne_of_none e hL
      have en := freeTo_succ hx
      cases hs : x.stay with
      | none =>
        rw [hs] at en
        refine iteT ?_
        refine ⟨_, rfl, vN (freeTo a i), st _ _ h1, ?_, fun b o e => ?_, ?_⟩
        · rw [vN_length]
          have := freeTo_len a i
          exact Nat.lt_of_le_of_lt (show (freeTo a i).length ≤ 64 by omega) (by decide)
        · rw [upd_ne (nL b o e)]
          exact st _ _ (s1 b o e)
        · rw [upd_same, en]
          show _ = some (HO.lst (vN (freeTo a i ++ [i])))
          rw [← vN_append]
          rfl
      | some m =>
        rw [hs] at en
        refine iteF ?_
        refine ⟨fun b o e => st _ _ (s1 b o e), ?_⟩
        rw [en]
        show _ = some (HO.lst (vN (freeTo a i ++ [])))
        rw [List.append_nil]
        exact st _ _ h1
    · rintro H' ⟨s1, h1⟩
      rw [List.length_map, B.len] at h1
      have h1 : H' L = some (.lst (vN (freeL a))) := h1
      have hlen : (freeL a).length ≤ 64 := Nat.le_trans (freeTo_len a a.rooms.length) B.max
      refine ⟨_, rfl, L, _, rfl, h1, by show 1 ≤ sizeLine; decide, fun p hp => ?_⟩
      refine ⟨_, rfl, p, L, _, _, rfl, rfl, upd_same, (same_new hp) _ _ h1, ?_, fun q hq => ?_⟩
      · rw [vN_length]
        exact Nat.le_trans (show 1 + (freeL a).length ≤ 65 by omega) (by decide)
      have s4 := s1.trans ((same_new (o := .lst [V.int ((vN (freeL a)).length : Nat)]) hp).trans (same_new (o := .lst ([V.int ((vN (freeL a)).length : Nat)] ++ vN (freeL a))) hq))
      refine k _ D q (B.same s4) (Grow.refl H D) (Fr.same s4) ?_ (s1.free ((same_new hp).free hq))
      rw [upd_same, vN_length]
      rfl
theorem blk_state : BlkOk ["desk", "stays", "room"] (defScope (top 84)) { kind := .function, names := [(".0", .local), ("room", .local)], isGenerator := false, isCoroutine := false } [("room", 2)] := blkOk_by (by decide +kernel)
theorem sc_state : FnScope ["desk", "stays", "room"] ["desk"] (defScope (top 84)) := ⟨rfl, rfl, rfl, by decide +kernel, rfl, by decide +kernel, by decide +kernel⟩
theorem can_state (T : Txt K mg CR CD CL) : Can P w K mg base "state" 1 ["desk"] (spDesk0 CR CD stateS) := by
  refine T.f_state.can sc_state (fun vs H Q E h => ?_) (fun f cdv A outer s H vs Q E hr h => ?_)
  · obtain ⟨D, a, rfl, _⟩ := h
    rfl
  · obtain ⟨D, a, rfl, B, k⟩ := h
    refine ⟨_, pss_cons (ps_setLc (i := 1) (own := [("room", 2)]) (g := gName 2) (tt := tB (tNotN (tFld K (tVar 2) "stay_last"))) (te := tVar 2) rfl sc_state.nd rfl rfl (by with_unfolding_all rfl) (pi_list (pe_fld (pv 0) rfl)) blk_state
        (fun s H C cl fp => pg_name (i := 2) sc_state.nd rfl (Or.inl rfl))
        (fun s H C cl fp => pts_one (pt_cmp (pc_notN (pe_fld (pv 2) rfl))))
        (fun s H C cl fp => pv 2))
      (pss_one (ps_ret (pe_lst (pa_cons (plen T.b_len (pe_fld (pv 0) rfl)) (pa_cons (plen T.b_len (pv 1)) (pa_cons (pe_fld (pv 0) rfl) (pa_cons (pe_fld (pv 0) rfl) (pa_cons (pe_fld (pv 0) rfl) pa_nil)))))))), ?_⟩
    refine ⟨_, rfl, D.d, CD, D.dx, _, _, rfl, B.desk, T.k_D.cl, T.nD_rooms, lkD_rooms _ _ _ _ _, D.rl, rfl, ⟨_, SqL.of B.rl⟩, fun L hL => ?_⟩
    refine lc_list (K := K) (a := D.rl) (xs := D.ras.map V.ref) (fun i H' => Same H H' ∧ ∃ acc : List V, H' L = some (.lst acc) ∧ acc.length = ((a.rooms.take i).filter fun x => x.stay.isSome).length) ⟨same_new hL, [], upd_same, rfl⟩ (fun i H' _ ⟨s1, _⟩ => SqL.of (s1 _ _ B.rl)) ?_ ?_
    · rintro i y H' hi ⟨s1, acc, h1, hacc⟩
      obtain ⟨r, hr1, rfl⟩ := mapref_get hi
      obtain ⟨x, dx, hx, hrx⟩ := B.at_ i r hr1
      have hil := (List.getElem?_eq_some_iff.mp hx).1
      have hmax := B.max
      have ef := filter_snoc (fun x : Ks347.Room => x.stay.isSome) hx
      refine ⟨rfl, ?_⟩
      refine ⟨_, rfl, r, CR, dx, _, _, rfl, s1 _ _ hrx, T.k_R.cl, T.nR_stay_last, lkR_stay x, _, rfl, ?_⟩
      cases hs : x.stay with
      | none =>
        rw [hs] at ef
        refine iteF ?_
        exact ⟨s1, acc, h1, hacc.trans ef.symm⟩
      | some m =>
        rw [hs] at ef
        refine iteT ?_
        refine ⟨_, rfl, acc, h1, ?_, fun b o e => ?_, acc ++ [V.ref r], upd_same, ?_⟩
        · rw [hacc]
          have q := List.length_filter_le (fun x : Ks347.Room => x.stay.isSome) (a.rooms.take i)
          rw [List.length_take] at q
          exact Nat.lt_of_le_of_lt (show _ ≤ 64 by omega) (by decide)
        · rw [upd_ne (ne_of_none e hL)]
          exact s1 b o e
        · rw [List.length_append, hacc]
          exact ef.symm
    · rintro H' ⟨s1, acc, h1, hacc⟩
      rw [List.length_map, B.len, List.take_length] at hacc
      have B1 := B.same s1
      have e3 : (List.map V.ref D.ras).length = a.rooms.length := by rw [List.length_map]; exact B.len
      refine ⟨_, rfl, D.d, CD, D.dx, _, _, rfl, B1.desk, T.k_D.cl, T.nD_rooms, lkD_rooms _ _ _ _ _, D.rl, _, rfl, B1.rl, _, rfl, L, _, rfl, h1, _, rfl, D.d, CD, D.dx, _, _, rfl, B1.desk, T.k_D.cl, T.nD_day, lkD_day _ _ _ _ _, _, rfl, D.d, CD, D.dx, _, _, rfl, B1.desk, T.k_D.cl, T.nD_staff_round, lkD_round _ _ _ _ _, _, rfl, D.d, CD, D.dx, _, _, rfl, B1.desk, T.k_D.cl, T.nD_serial, lkD_serial _ _ _ _ _, by show 5 ≤ sizeLine; decide, fun p hp => ?_⟩
      rw [e3, hacc]
      exact (k.step (Fr.same s1)).new B1 p hp
end
end Dc
end
section
set_option Elab.async false
set_option linter.all false
set_option maxRecDepth 100000
set_option maxHeartbeats 4000000
namespace Dc
open PySem PySem.Spec PyProof.Rows L2
open Ks347 (Abs made)
/-! ### the line -/
def hasO (O : Option Dk) (b : Addr) : Prop := match O with
  | none => False
  | some D => D.has b
def fldO (O : Option Dk) : V := match O with
  | none => .non
  | some D => .ref D.d
structure LineAt (CR CD CL : Addr) (H : Hp) (ln : Addr) (O : Option Dk) (a : Abs) : Prop where
  line : ∃ dx, H ln = some (.ins CL dx (lineF (fldO O)))
  off : O = none → a.on = false
  on : ∀ D, O = some D → DeskAt CR CD H D a ∧ ¬ D.has ln
def PostL (CR CD CL : Addr) (H : Hp) (ln : Addr) (O : Option Dk) (r : Abs × Ks347.Ans) (Q : VK) : Prop :=
  ∀ (H' : Hp) (O' : Option Dk) (p : Addr), LineAt CR CD CL H' ln O' r.1 → (∀ b, hasO O' b → hasO O b ∨ H b = none) → Fr (fun b => b = ln ∨ hasO O b) H H' → H' p = some (.lst (vA r.2)) → H p = none → Q (.ref p) H'
section
variable {CR CD CL : Addr} {H H1 H' : Hp} {ln : Addr} {O : Option Dk} {D : Dk} {a : Abs} {r : Abs × Ks347.Ans} {Q : VK}
theorem LineAt.same (L : LineAt CR CD CL H ln O a) (s : Same H H') : LineAt CR CD CL H' ln O a := by
  obtain ⟨dx, h⟩ := L.line
  exact ⟨⟨dx, s _ _ h⟩, L.off, fun D e => ⟨(L.on D e).1.same s, (L.on D e).2⟩⟩
theorem PostL.step (k : PostL CR CD CL H ln O r Q) (s : Same H H1) : PostL CR CD CL H1 ln O r Q := fun H' O' p h1 h2 h3 h4 h5 =>
  k H' O' p h1 (fun b hb => (h2 b hb).imp id fun z => s.free z) ((Fr.same s).trans h3) h4 (s.free h5)
theorem PostL.desk (k : PostL CR CD CL H ln (some D) r Q) (L : LineAt CR CD CL H ln (some D) a) : Post CR CD H D r Q := fun H' D' p B' g f hp hn => by
  obtain ⟨dx, hl⟩ := L.line
  have nl := (L.on D rfl).2
  refine k H' (some D') p ⟨⟨dx, ?_⟩, fun z => (by cases z), fun D2 e => ?_⟩ g.2 (f.mono fun b hb => .inr hb) hp hn
  · show H' ln = some (.ins CL dx (lineF (.ref D'.d)))
    rw [g.1]
    exact f.keep _ _ hl nl
  · cases e
    refine ⟨B', fun hb => ?_⟩
    rcases g.2 ln hb with z | z
    · exact nl z
    · rw [hl] at z
      cases z
theorem PostL.no {v : Int} (k : PostL CR CD CL H ln O (a, Ks347.no v) Q) (L : LineAt CR CD CL H ln O a) : [V.int v].length ≤ sizeLine ∧ ∀ p, H p = none → Q (.ref p) (upd H p (.lst [V.int v])) :=
  ⟨by show 1 ≤ sizeLine; decide, fun p hp => k _ O p (L.same (same_new hp)) (fun b hb => .inl hb) (Fr.same (same_new hp)) upd_same hp⟩
end
/-! ### what they promise -/
def roomNos : List V := [.int 3, .int 4, .int 5, .int 6, .int 7, .int 8, .int 13]
def spIsAtRoom : Sp := fun vs H Q _ => ∃ q : Int, vs = [.int q] ∧ ∀ H' : Hp, Same H H' → Q (.bl (inV (.int q) roomNos)) H'
def spBegin (CR CD CL : Addr) : Sp := fun vs H Q _ => ∃ (ln ka : Addr) (O : Option Dk) (a : Abs) (key : List Nat), vs = [.ref ln, .ref ka] ∧ LineAt CR CD CL H ln O a ∧ H ka = some (.lst (vN key)) ∧ Bts key ∧
  ∀ (H' : Hp) (O' : Option Dk) (p : Addr), LineAt CR CD CL H' ln O' (Ks347.act a (.begin key)).1 → (∀ b, hasO O' b → hasO O b ∨ H b = none ∨ b = ka) → Fr (fun b => b = ln) H H' → H' p = some (.lst (vA (Ks347.act a (.begin key)).2)) → H p = none → Q (.ref p) H'
def spAtRoom (CR CD : Addr) : Sp := fun vs H Q _ => ∃ (D : Dk) (a : Abs) (q : Int) (n : Nat) (gs : List Nat) (cl : Ks347.Call) (ga : Addr), vs = [.ref D.d, .int q, .ref ga] ∧ q = (n : Int) ∧ DeskAt CR CD H D a ∧ H ga = some (.lst (vN gs)) ∧ AtRoom n gs cl ∧ Post CR CD H D (Ks347.act a cl) Q
def spAtDesk (CR CD : Addr) : Sp := fun vs H Q _ => ∃ (D : Dk) (a : Abs) (q : Int) (n : Nat) (gs : List Nat) (cl : Ks347.Call) (ga : Addr), vs = [.ref D.d, .int q, .ref ga] ∧ q = (n : Int) ∧ DeskAt CR CD H D a ∧ H ga = some (.lst (vN gs)) ∧ AtDesk n gs cl ∧ Post CR CD H D (Ks347.act a cl) Q
def spAnswer (CR CD CL : Addr) : Sp := fun vs H Q _ => ∃ (ln ga : Addr) (O : Option Dk) (a : Abs) (n : Nat) (gs : List Nat) (cl : Ks347.Call), vs = [.ref ln, .int (n : Int), .ref ga] ∧ LineAt CR CD CL H ln O a ∧ H ga = some (.lst (vN gs)) ∧ Kind n gs cl ∧
  PostL CR CD CL H ln O (Ks347.act a cl) Q
def spEnd (K : PySem.W.Frag) : Sp := fun vs H Q _ => ∃ (ca : Addr) (ns : List Int) (n q : Nat) (gs : List Nat) (cl : Ks347.Call) (rest : List Int), vs = [.ref ca, .int (n : Int)] ∧ SqL K H ca (vI ns) ∧ ns.drop n = (q : Int) :: (gs.map (fun m : Nat => (m : Int)) ++ rest) ∧ Kind q gs cl ∧
  Q (.int ((n + 1 + gs.length : Nat) : Int)) H
section
variable {P : Program} {w : World} {K : PySem.W.Frag} {mg : Str → Option Value} {base : Heap} {CR CD CL : Addr}
theorem sc_is_at_room : FnScope ["call"] ["call"] (defScope (top 64)) := ⟨rfl, rfl, rfl, by decide +kernel, rfl, by decide +kernel, by decide +kernel⟩
theorem can_is_at_room (T : Txt K mg CR CD CL) : Can P w K mg base "is_at_room" 1 ["call"] spIsAtRoom := by
  refine T.f_is_at_room.can sc_is_at_room (fun vs H Q E h => ?_) (fun f cdv A outer s H vs Q E hr h => ?_)
  · obtain ⟨q, rfl, _⟩ := h
    rfl
  · obtain ⟨q, rfl, k⟩ := h
    refine ⟨_, pss_one (ps_ret (pe_cmpR op_in_seq (pv 0) (pe_tup (pa_cons (pcst T.c_COME) (pa_cons (pcst T.c_COPY) (pa_cons (pcst T.c_LOST) (pa_cons (pcst T.c_LONGER) (pa_cons (pcst T.c_LEAVE) (pa_cons (pcst T.c_SHUT) (pa_cons (pcst T.c_STAY) pa_nil)))))))) (by with_unfolding_all rfl))), ?_⟩
    refine ⟨_, rfl, by decide, fun p hp => ⟨p, roomNos, rfl, .inr (SqT.of upd_same), rfl, rfl, ?_⟩⟩
    exact k _ (same_new hp)
theorem sc_begin : FnScope ["line", "key"] ["line", "key"] (defScope (top 67)) := ⟨rfl, rfl, rfl, by decide +kernel, rfl, by decide +kernel, by decide +kernel⟩
theorem can_begin (T : Txt K mg CR CD CL) : Can P w K mg base "begin" 3 ["line", "key"] (spBegin CR CD CL) := by
  have G : CanMk P w K mg base "Desk" 1 ["self", "key"] CD (spInitD CD) := can_Desk T
  refine T.f_begin.can sc_begin (fun vs H Q E h => ?_) (fun f cdv A outer s H vs Q E hr h => ?_)
  · obtain ⟨ln, ka, O, a, key, rfl, _⟩ := h
    rfl
  · obtain ⟨ln, ka, O, a, key, rfl, L, hK, hb, k⟩ := h
    refine ⟨_, pss_cons (ps_if (pt_cmpR op_ne (plen T.b_len (pv 1)) (pcst T.c_KEY_LENGTH) (nomark _)) (pss_one (ps_ret (pe_lst (pa_cons (pcst T.c_WRONG_VALUE) pa_nil)))) pss_nil)
      (pss_cons (ps_fld (pv 0) (pmake G hr (pa_cons (pv 1) pa_nil)) rfl)
      (pss_one (ps_ret (pe_lst (pa_cons pe_int pa_nil))))), ?_⟩
    refine ⟨_, rfl, ka, vN key, rfl, hK, rfl, _, rfl, ?_⟩
    by_cases hl : key.length = 16
    · have e1 : V.int ((vN key).length : Int) = V.int 16 := by rw [vN_length, hl]; rfl
      refine iteNS e1 ?_
      have ok : Ks345.okBytes Ks345.KEY key = true := by
        unfold Ks345.okBytes
        rw [Bool.and_eq_true]
        exact ⟨by rw [hl]; rfl, List.all_eq_true.mpr fun x hx => decide_eq_true (hb x hx)⟩
      have ea : Ks347.act a (.begin key) = ({ key := key }, Ks347.no 0) := by
        show (if Ks345.okBytes Ks345.KEY key = false then _ else _) = _
        rw [if_neg (by rw [ok]; decide)]
      rw [ea] at k
      obtain ⟨dl, hln⟩ := L.line
      refine ⟨_, rfl, fun x dx nx ndx ne => ?_⟩
      refine ⟨x, dx, ka, rfl, upd_same, fun H2 rl nrl h1 h2 kp => ⟨rfl, ?_⟩⟩
      have xrl : x ≠ rl := ne_of_none upd_same nrl
      have nrl' : H rl = none := by
        rw [upd_ne xrl.symm] at nrl
        by_cases q : rl = dx
        · rw [q]; exact ndx
        · rw [upd_ne q] at nrl; exact nrl
      have s2 : Same H H2 := fun b o e => by
        rw [kp b (ne_of_none e nx) (ne_of_none e nrl'), upd_ne (ne_of_none e nx), upd_ne (ne_of_none e ndx)]
        exact e
      refine ⟨_, rfl, ln, CL, dl, _, rfl, s2 _ _ hln, T.k_L.cl, T.nL_desk, lineF_few _, ?_⟩
      rw [ptL_desk]
      have lx : ln ≠ x := ne_of_none hln nx
      have lr : ln ≠ rl := ne_of_none hln nrl'
      have lk : ln ≠ ka := ne_of hln hK (by intro z; cases z)
      have B : DeskAt CR CD (upd H2 ln (.ins CL dl (lineF (.ref x)))) ⟨x, dx, ka, rl, []⟩ { key := key } := by
        refine ⟨?_, ?_, ?_, List.nodup_nil, rfl, fun j r hj => ?_, hl, hb, by show 0 ≤ 64; decide⟩
        · show upd H2 ln _ x = _
          rw [upd_ne lx.symm]; exact h2
        · show upd H2 ln _ ka = _
          rw [upd_ne lk.symm]; exact s2 _ _ hK
        · show upd H2 ln _ rl = _
          rw [upd_ne lr.symm]; exact h1
        · cases hj
      have f3 : Fr (fun b => b = ln) H (upd H2 ln (.ins CL dl (lineF (.ref x)))) := (Fr.same s2).trans (Fr.put rfl)
      refine ⟨by decide, fun p hp => ?_⟩
      have s4 := same_new (o := .lst [V.int 0]) hp
      refine k _ (some ⟨x, dx, ka, rl, []⟩) p ⟨⟨dl, s4 _ _ upd_same⟩, fun z => (by cases z), fun D e => ?_⟩ (fun b hb2 => ?_) (f3.trans (Fr.same s4)) upd_same (f3.dom p hp)
      · cases e
        refine ⟨B.same s4, fun z => ?_⟩
        rcases z with z | z | z | z
        · exact lx z
        · exact lr z
        · exact lk z
        · cases z
      · rcases hb2 with z | z | z | z
        · exact .inr (.inl (by rw [z]; exact nx))
        · exact .inr (.inl (by rw [z]; exact nrl'))
        · exact .inr (.inr z)
        · cases z
    · have e1 : ¬ V.int ((vN key).length : Int) = V.int 16 := fun z => hl (by
        have z1 : ((vN key).length : Int) = 16 := V.int.inj z
        rw [vN_length] at z1
        omega)
      rw [decide_eq_false e1]
      refine iteT ?_
      have ok : Ks345.okBytes Ks345.KEY key = false := by
        unfold Ks345.okBytes
        rw [show (key.length == Ks345.KEY) = false from beq_eq_false_iff_ne.mpr hl]
        rfl
      have ea : Ks347.act a (.begin key) = (a, Ks347.no (-22)) := if_pos ok
      rw [ea] at k
      exact ⟨by decide, fun p hp => k _ O p (L.same (same_new hp)) (fun b hb => .inl hb) (Fr.same (same_new hp)) upd_same hp⟩
theorem sc_answer_at_room : FnScope ["desk", "call", "given", "place"] ["desk", "call", "given"] (defScope (top 66)) := ⟨rfl, rfl, rfl, by decide +kernel, rfl, by decide +kernel, by decide +kernel⟩
theorem can_answer_at_room (T : Txt K mg CR CD CL) : Can P w K mg base "answer_at_room" 10 ["desk", "call", "given"] (spAtRoom CR CD) := by
  have G1 : Can P w K mg base "come" 9 ["desk", "place", "last"] (spCome CR CD) := can_come T
  have G2 : Can P w K mg base "shut" 8 ["desk", "place"] (spShut CR CD) := can_shut T
  have G3 : Can P w K mg base "copy_card" 9 ["desk", "place"] (spCopy CR CD) := can_copy_card T
  have G4 : Can P w K mg base "lose_card" 9 ["desk", "place"] (spLose CR CD) := can_lose_card T
  have G5 : Can P w K mg base "stay_longer" 9 ["desk", "place", "last"] (spLonger CR CD) := can_stay_longer T
  have G6 : Can P w K mg base "leave" 1 ["desk", "place"] (spLeave CR CD) := can_leave T
  have G7 : Can P w K mg base "tell_stay" 1 ["desk", "place"] (spTell CR CD) := can_tell_stay T
  refine T.f_answer_at_room.can sc_answer_at_room (fun vs H Q E h => ?_) (fun f cdv A outer s H vs Q E hr h => ?_)
  · obtain ⟨D, a, q, n, gs, cl, ga, rfl, _⟩ := h
    rfl
  · obtain ⟨D, a, q, n, gs, cl, ga, rfl, hq, B, hG, hc, k⟩ := h
    refine ⟨_, pss_cons (ps_set (i := 3) sc_answer_at_room.nd rfl (Or.inl rfl) (pe_ix ix_own (pv 2) pe_int (fun _ _ => rfl)))
      (pss_cons (ps_if (pt_cmpR op_ge (pv 3) (plen T.b_len (pe_fld (pv 0) rfl)) (nomark _)) (pss_one (ps_ret (pe_lst (pa_cons (pcst T.c_NO_ROOM) pa_nil)))) pss_nil)
      (pss_cons (ps_if (pt_cmpR op_eq (pv 1) (pcst T.c_COME) (nomark _)) (pss_one (ps_ret (pcall G1 hr (pa_cons (pv 0) (pa_cons (pv 3) (pa_cons (pe_ix ix_own (pv 2) pe_int (fun _ _ => rfl)) pa_nil)))))) pss_nil)
      (pss_cons (ps_if (pt_cmpR op_eq (pv 1) (pcst T.c_SHUT) (nomark _)) (pss_one (ps_ret (pcall G2 hr (pa_cons (pv 0) (pa_cons (pv 3) pa_nil))))) pss_nil)
      (pss_cons (ps_if (pt_cmp (pc_isN (pe_fld (pe_ix ix_own (pe_fld (pv 0) rfl) (pv 3) (fun _ _ => rfl)) rfl))) (pss_one (ps_ret (pe_lst (pa_cons (pcst T.c_NO_STAY) pa_nil)))) pss_nil)
      (pss_cons (ps_if (pt_cmpR op_eq (pv 1) (pcst T.c_COPY) (nomark _)) (pss_one (ps_ret (pcall G3 hr (pa_cons (pv 0) (pa_cons (pv 3) pa_nil))))) pss_nil)
      (pss_cons (ps_if (pt_cmpR op_eq (pv 1) (pcst T.c_LOST) (nomark _)) (pss_one (ps_ret (pcall G4 hr (pa_cons (pv 0) (pa_cons (pv 3) pa_nil))))) pss_nil)
      (pss_cons (ps_if (pt_cmpR op_eq (pv 1) (pcst T.c_LONGER) (nomark _)) (pss_one (ps_ret (pcall G5 hr (pa_cons (pv 0) (pa_cons (pv 3) (pa_cons (pe_ix ix_own (pv 2) pe_int (fun _ _ => rfl)) pa_nil)))))) pss_nil)
      (pss_cons (ps_if (pt_cmpR op_eq (pv 1) (pcst T.c_LEAVE) (nomark _)) (pss_one (ps_ret (pcall G6 hr (pa_cons (pv 0) (pa_cons (pv 3) pa_nil))))) pss_nil)
      (pss_one (ps_ret (pcall G7 hr (pa_cons (pv 0) (pa_cons (pv 3) pa_nil))))))))))))), ?_⟩
    have on := B.on
    obtain ⟨r, tl, rfl⟩ : ∃ r tl, gs = r :: tl := by cases hc <;> exact ⟨_, _, rfl⟩
    refine seq_set (rd_ixc rfl hG (atI_nat (j := 0) rfl) ?_)
    refine seq_room B T.k_D.cl T.nD_rooms rfl rfl (fun hx => ?_) fun x hx => ?_
    · rw [act_none on hc hx] at k
      exact k.no B
    obtain ⟨ra, dx, h5, h6⟩ := B.get hx
    have noStay : n ≠ 3 → n ≠ 8 → x.stay = none → [V.int (-6)].length ≤ sizeLine ∧ ∀ p, H p = none → Q (.ref p) (upd H p (.lst [V.int (-6)])) := fun n3 n8 hs => by
      rw [act_noStay on hc n3 n8 hx hs] at k
      exact k.no B
    cases hc with
    | come _ l =>
      have hq : q = 3 := hq
      rw [act_come_at on hx] at k
      exact seq_take rfl hq ⟨_, rfl, _, rfl, rd_ixc rfl hG (atI_nat (j := 1) rfl) ⟨D, a, r, x, l, rfl, B, hx, k⟩⟩
    | shut _ =>
      have hq : q = 8 := hq
      rw [act_shut_at on hx] at k
      exact seq_skip rfl (by omega) (seq_take rfl hq ⟨_, rfl, _, rfl, D, a, r, x, rfl, B, hx, k⟩)
    | copy _ =>
      have hq : q = 4 := hq
      refine seq_skip rfl (by omega) (seq_skip rfl (by omega) (seq_noStay B T.k_D.cl T.nD_rooms T.k_R.cl T.nR_stay_last rfl rfl h5 h6 (noStay (by decide) (by decide)) fun m hs => ?_))
      rw [act_copy_at on hx hs] at k
      exact seq_take rfl hq ⟨_, rfl, _, rfl, D, a, r, x, m, rfl, B, hx, hs, k⟩
    | lost _ =>
      have hq : q = 5 := hq
      refine seq_skip rfl (by omega) (seq_skip rfl (by omega) (seq_noStay B T.k_D.cl T.nD_rooms T.k_R.cl T.nR_stay_last rfl rfl h5 h6 (noStay (by decide) (by decide)) fun m hs => ?_))
      rw [act_lost_at on hx hs] at k
      exact seq_skip rfl (by omega) (seq_take rfl hq ⟨_, rfl, _, rfl, D, a, r, x, m, rfl, B, hx, hs, k⟩)
    | longer _ l =>
      have hq : q = 6 := hq
      refine seq_skip rfl (by omega) (seq_skip rfl (by omega) (seq_noStay B T.k_D.cl T.nD_rooms T.k_R.cl T.nR_stay_last rfl rfl h5 h6 (noStay (by decide) (by decide)) fun m hs => ?_))
      rw [act_longer_at on hx hs] at k
      exact seq_skip rfl (by omega) (seq_skip rfl (by omega) (seq_take rfl hq ⟨_, rfl, _, rfl, rd_ixc rfl hG (atI_nat (j := 1) rfl) ⟨D, a, r, x, m, l, rfl, B, hx, hs, k⟩⟩))
    | leave _ =>
      have hq : q = 7 := hq
      refine seq_skip rfl (by omega) (seq_skip rfl (by omega) (seq_noStay B T.k_D.cl T.nD_rooms T.k_R.cl T.nR_stay_last rfl rfl h5 h6 (noStay (by decide) (by decide)) fun m hs => ?_))
      rw [act_leave_at on hx hs] at k
      exact seq_skip rfl (by omega) (seq_skip rfl (by omega) (seq_skip rfl (by omega) (seq_take rfl hq ⟨_, rfl, _, rfl, D, a, r, x, rfl, B, hx, k⟩)))
    | stay _ =>
      have hq : q = 13 := hq
      refine seq_skip rfl (by omega) (seq_skip rfl (by omega) (seq_noStay B T.k_D.cl T.nD_rooms T.k_R.cl T.nR_stay_last rfl rfl h5 h6 (noStay (by decide) (by decide)) fun m hs => ?_))
      rw [act_stay_at on hx hs] at k
      exact seq_skip rfl (by omega) (seq_skip rfl (by omega) (seq_skip rfl (by omega) (seq_skip rfl (by omega) ⟨_, rfl, _, rfl, D, a, r, x, m, rfl, B, hx, hs, k⟩)))
end
end Dc
end
section
set_option Elab.async false
set_option linter.all false
set_option maxRecDepth 100000
set_option maxHeartbeats 4000000
namespace Dc
open PySem PySem.Spec PyProof.Rows L2
open Ks347 (Abs made)
section
variable {P : Program} {w : World} {K : PySem.W.Frag} {mg : Str → Option Value} {base : Heap} {CR CD CL : Addr}
theorem sc_answer_at_desk : FnScope ["desk", "call", "given"] ["desk", "call", "given"] (defScope (top 65)) := ⟨rfl, rfl, rfl, by decide +kernel, rfl, by decide +kernel, by decide +kernel⟩
theorem can_answer_at_desk (T : Txt K mg CR CD CL) : Can P w K mg base "answer_at_desk" 10 ["desk", "call", "given"] (spAtDesk CR CD) := by
  have G1 : Can P w K mg base "add_room" 3 ["desk", "zone"] (spAddRoom CR CD) := can_add_room T
  have G2 : Can P w K mg base "set_day" 2 ["desk", "day"] (spSetDay CR CD) := can_set_day T
  have G3 : Can P w K mg base "staff_card" 8 ["desk", "zones", "last"] (spStaff CR CD) := can_staff_card T
  have G4 : Can P w K mg base "recall" 1 ["desk"] (spDesk0 CR CD recallS) := can_recall T
  have G5 : Can P w K mg base "emergency_card" 8 ["desk", "last"] (spNeed CR CD) := can_emergency_card T
  have G6 : Can P w K mg base "whose" 7 ["desk", "row"] (spWhose CR CD) := can_whose T
  have G7 : Can P w K mg base "free_rooms" 1 ["desk"] (spDesk0 CR CD freeS) := can_free_rooms T
  have G8 : Can P w K mg base "state" 1 ["desk"] (spDesk0 CR CD stateS) := can_state T
  refine T.f_answer_at_desk.can sc_answer_at_desk (fun vs H Q E h => ?_) (fun f cdv A outer s H vs Q E hr h => ?_)
  · obtain ⟨D, a, q, n, gs, cl, ga, rfl, _⟩ := h
    rfl
  · obtain ⟨D, a, q, n, gs, cl, ga, rfl, hq, B, hG, hc, k⟩ := h
    refine ⟨_, pss_cons (ps_if (pt_cmpR op_eq (pv 1) (pcst T.c_ROOM) (nomark _)) (pss_one (ps_ret (pcall G1 hr (pa_cons (pv 0) (pa_cons (pe_ix ix_own (pv 2) pe_int (fun _ _ => rfl)) pa_nil))))) pss_nil)
      (pss_cons (ps_if (pt_cmpR op_eq (pv 1) (pcst T.c_DAY) (nomark _)) (pss_one (ps_ret (pcall G2 hr (pa_cons (pv 0) (pa_cons (pe_ix ix_own (pv 2) pe_int (fun _ _ => rfl)) pa_nil))))) pss_nil)
      (pss_cons (ps_if (pt_cmpR op_eq (pv 1) (pcst T.c_STAFF) (nomark _)) (pss_one (ps_ret (pcall G3 hr (pa_cons (pv 0) (pa_cons (pe_ix ix_own (pv 2) pe_int (fun _ _ => rfl)) (pa_cons (pe_ix ix_own (pv 2) pe_int (fun _ _ => rfl)) pa_nil)))))) pss_nil)
      (pss_cons (ps_if (pt_cmpR op_eq (pv 1) (pcst T.c_RECALL) (nomark _)) (pss_one (ps_ret (pcall G4 hr (pa_cons (pv 0) pa_nil)))) pss_nil)
      (pss_cons (ps_if (pt_cmpR op_eq (pv 1) (pcst T.c_NEED) (nomark _)) (pss_one (ps_ret (pcall G5 hr (pa_cons (pv 0) (pa_cons (pe_ix ix_own (pv 2) pe_int (fun _ _ => rfl)) pa_nil))))) pss_nil)
      (pss_cons (ps_if (pt_cmpR op_eq (pv 1) (pcst T.c_WHOSE) (nomark _)) (pss_one (ps_ret (pcall G6 hr (pa_cons (pv 0) (pa_cons (pe_slice sl_own (pv 2) (po_some pe_int) po_none) pa_nil))))) pss_nil)
      (pss_cons (ps_if (pt_cmpR op_eq (pv 1) (pcst T.c_FREE) (nomark _)) (pss_one (ps_ret (pcall G7 hr (pa_cons (pv 0) pa_nil)))) pss_nil)
      (pss_one (ps_ret (pcall G8 hr (pa_cons (pv 0) pa_nil)))))))))), ?_⟩
    have on := B.on
    cases hc with
    | room z =>
      have hq : q = 1 := hq
      rw [act_room on] at k
      exact seq_take rfl hq ⟨_, rfl, rd_ixc rfl hG (atI_nat (j := 0) rfl) ⟨D, a, z, rfl, B, k⟩⟩
    | day d =>
      have hq : q = 2 := hq
      rw [act_day on] at k
      exact seq_skip rfl (by omega) (seq_take rfl hq ⟨_, rfl, rd_ixc rfl hG (atI_nat (j := 0) rfl) ⟨D, a, d, rfl, B, k⟩⟩)
    | staff z l =>
      have hq : q = 9 := hq
      rw [act_staff on] at k
      exact seq_skip rfl (by omega) (seq_skip rfl (by omega) (seq_take rfl hq ⟨_, rfl, rd_ixc rfl hG (atI_nat (j := 0) rfl) (rd_ixc rfl hG (atI_nat (j := 1) rfl) ⟨D, a, z, l, rfl, B, k⟩)⟩))
    | recall =>
      have hq : q = 10 := hq
      rw [act_recall on] at k
      exact seq_skip rfl (by omega) (seq_skip rfl (by omega) (seq_skip rfl (by omega) (seq_take rfl hq ⟨_, rfl, D, a, rfl, B, k⟩)))
    | need l =>
      have hq : q = 11 := hq
      rw [act_need on] at k
      exact seq_skip rfl (by omega) (seq_skip rfl (by omega) (seq_skip rfl (by omega) (seq_skip rfl (by omega) (seq_take rfl hq ⟨_, rfl, rd_ixc rfl hG (atI_nat (j := 0) rfl) ⟨D, a, l, rfl, B, k⟩⟩))))
    | whose b hb =>
      have hq : q = 12 := hq
      have c1 : cutV (vN (b.length :: b)) (some 1) none = vN b := cut_lo (l := b.length :: b) (i := 1) (by simp)
      rw [act_whose on] at k
      refine seq_skip rfl (by omega) (seq_skip rfl (by omega) (seq_skip rfl (by omega) (seq_skip rfl (by omega) (seq_skip rfl (by omega) (seq_take rfl hq ⟨_, rfl, _, rfl, _, rfl, ga, _, rfl, hG, fun p hp => ?_⟩)))))
      exact ⟨D, a, p, b, rfl, B.same (same_new hp), by rw [upd_same, c1], hb, k.step (Fr.same (same_new hp))⟩
    | free =>
      have hq : q = 14 := hq
      rw [act_free on] at k
      exact seq_skip rfl (by omega) (seq_skip rfl (by omega) (seq_skip rfl (by omega) (seq_skip rfl (by omega) (seq_skip rfl (by omega) (seq_skip rfl (by omega) (seq_take rfl hq ⟨_, rfl, D, a, rfl, B, k⟩))))))
    | state =>
      have hq : q = 15 := hq
      rw [act_state on] at k
      exact seq_skip rfl (by omega) (seq_skip rfl (by omega) (seq_skip rfl (by omega) (seq_skip rfl (by omega) (seq_skip rfl (by omega) (seq_skip rfl (by omega) (seq_skip rfl (by omega) ⟨_, rfl, D, a, rfl, B, k⟩))))))
theorem sc_end_of_call : FnScope ["calls", "at", "call", "end"] ["calls", "at"] (defScope (top 62)) := ⟨rfl, rfl, rfl, by decide +kernel, rfl, by decide +kernel, by decide +kernel⟩
theorem can_end_of_call (T : Txt K mg CR CD CL) : Can P w K mg base "end_of_call" 1 ["calls", "at"] (spEnd K) := by
  obtain ⟨nba, hnb, hsq⟩ := T.nb
  refine T.f_end_of_call.can sc_end_of_call (fun vs H Q E h => ?_) (fun f cdv A outer s H vs Q E hr h => ?_)
  · obtain ⟨ca, ns, n, q, gs, cl, rest, rfl, _⟩ := h
    rfl
  · obtain ⟨ca, ns, n, q, gs, cl, rest, rfl, hS, hd, hk, k⟩ := h
    refine ⟨_, pss_cons (ps_set (i := 2) sc_end_of_call.nd rfl (Or.inl rfl) (pe_ix ix_list (pv 0) (pv 1) (fun _ _ => rfl)))
      (pss_cons (ps_set (i := 3) sc_end_of_call.nd rfl (Or.inl rfl) (pe_op op_add (pe_op op_add (pv 1) pe_int) (pe_ix ix_tup (pe_glob rfl hnb (v := .ref nba) rfl) (pv 2) (fun _ _ => rfl))))
      (pss_cons (ps_if (PW.pt (pw_or (pt_cmpR op_eq (pv 2) (pcst T.c_BEGIN) (nomark _)) (pw_or1 (pt_cmpR op_eq (pv 2) (pcst T.c_WHOSE) (nomark _)))))
        (pss_one (ps_set (i := 3) sc_end_of_call.nd rfl (Or.inl rfl) (pe_op op_add (pv 3) (pe_ix ix_list (pv 0) (pe_op op_add (pv 1) pe_int) (fun _ _ => rfl))))) pss_nil)
      (pss_one (ps_ret (pv 3))))), ?_⟩
    have g0 : ns[n]? = some (q : Int) := by
      have e := List.getElem?_drop (xs := ns) (i := n) (j := 0)
      rw [hd, Nat.add_zero] at e
      exact e.symm
    have a0 : atI (vI ns) (n : Int) = some (.int (q : Int)) := atI_nat (vI_get g0)
    have hb := behind_of hk
    refine ⟨_, rfl, _, rfl, ca, vI ns, _, _, rfl, rfl, hS, a0, ?_⟩
    have c0 : ((q : Int) = 0) ↔ q = 0 := by omega
    have c12 : ((q : Int) = 12) ↔ q = 12 := by omega
    rcases hb with ⟨hq, hbn, b, rfl⟩ | ⟨hq, hbn⟩
    · have ab : atI (behindN.map V.int) (q : Int) = some (.int 1) := atI_nat (by rw [List.getElem?_map, hbn]; rfl)
      refine ⟨_, rfl, _, _, rfl, rfl, _, rfl, nba, _, _, _, rfl, rfl, hsq H, ab, _, _, rfl, rfl, ?_⟩
      have g1 : ns[n + 1]? = some ((b.length : Nat) : Int) := by
        have e := List.getElem?_drop (xs := ns) (i := n) (j := 1)
        rw [hd] at e
        exact e.symm
      have a1 : atI (vI ns) ((n : Int) + 1) = some (.int ((b.length : Nat) : Int)) := at_of (j := n + 1) (by omega) (vI_get g1)
      have e : (n : Int) + 1 + 1 + ((b.length : Nat) : Int) = ((n + 1 + (b.length :: b).length : Nat) : Int) := by
        rw [List.length_cons]
        omega
      rw [← e] at k
      rcases hq with hq | hq
      · exact ⟨_, rfl, rfl, _, rfl, iteD (fun _ => iteT ⟨_, rfl, _, rfl, _, rfl, _, _, rfl, rfl, ca, vI ns, _, _, rfl, rfl, hS, a1, _, _, rfl, rfl, _, rfl, k⟩) fun c => absurd (by rw [hq]; rfl) c⟩
      · exact ⟨_, rfl, rfl, _, rfl, iteD (fun c => absurd (show q = 0 from Int.ofNat.inj (V.int.inj c)) (by omega)) fun _ => ⟨_, rfl, rfl, _, rfl, iteD (fun _ => ⟨_, rfl, _, rfl, _, rfl, _, _, rfl, rfl, ca, vI ns, _, _, rfl, rfl, hS, a1, _, _, rfl, rfl, _, rfl, k⟩) fun c => absurd (by rw [hq]; rfl) c⟩⟩
    · have ab : atI (behindN.map V.int) (q : Int) = some (.int (gs.length : Int)) := atI_nat (by rw [List.getElem?_map, hbn]; rfl)
      refine ⟨_, rfl, _, _, rfl, rfl, _, rfl, nba, _, _, _, rfl, rfl, hsq H, ab, _, _, rfl, rfl, ?_⟩
      exact ⟨_, rfl, rfl, _, rfl, iteD (fun c => absurd (Int.ofNat.inj (V.int.inj c)) fun z => hq (.inl z)) fun _ => ⟨_, rfl, rfl, _, rfl, iteD (fun c => absurd (Int.ofNat.inj (V.int.inj c)) fun z => hq (.inr z)) fun _ => ⟨_, rfl, k⟩⟩⟩
end
end Dc
end
section
set_option Elab.async false
set_option linter.all false
set_option maxRecDepth 100000
set_option maxHeartbeats 4000000
namespace Dc
open PySem PySem.Spec PyProof.Rows L2
open Ks347 (Abs made)
theorem ref_non (a : Addr) : (V.ref a = V.non) = False := eq_false (by intro z; cases z)
theorem room_in {n : Nat} {gs : List Nat} {cl : Ks347.Call} (h : AtRoom n gs cl) : inV (.int (n : Int)) roomNos = true := by
  cases h <;> rfl
theorem desk_in {n : Nat} {gs : List Nat} {cl : Ks347.Call} (h : AtDesk n gs cl) : inV (.int (n : Int)) roomNos = false := by
  cases h <;> rfl
section
variable {CR CD CL : Addr} {H : Hp} {D : Dk} {O : Option Dk} {a : Abs} {td ln : Addr} {o : HO}
theorem DeskAt.put (B : DeskAt CR CD H D a) (h : ¬ D.has td) : DeskAt CR CD (upd H td o) D a := by
  have ne : ∀ b, D.has b → b ≠ td := fun b hb e => h (by rw [← e]; exact hb)
  refine ⟨?_, ?_, ?_, B.nd, B.len, fun j r hj => ?_, B.klen, B.kb, B.max⟩
  · rw [upd_ne (ne _ D.has_d)]; exact B.desk
  · rw [upd_ne (ne _ D.has_ka)]; exact B.key
  · rw [upd_ne (ne _ D.has_rl)]; exact B.rl
  · obtain ⟨x, dx, e1, e2⟩ := B.at_ j r hj
    exact ⟨x, dx, e1, by rw [upd_ne (ne _ (D.has_at hj))]; exact e2⟩
theorem LineAt.put (L : LineAt CR CD CL H ln O a) (h : ¬ hasO O td) (hl : td ≠ ln) : LineAt CR CD CL (upd H td o) ln O a := by
  obtain ⟨dx, e⟩ := L.line
  refine ⟨⟨dx, by rw [upd_ne hl.symm]; exact e⟩, L.off, fun D hD => ⟨(L.on D hD).1.put ?_, (L.on D hD).2⟩⟩
  subst hD
  exact h
end
section
variable {P : Program} {w : World} {K : PySem.W.Frag} {mg : Str → Option Value} {base : Heap} {CR CD CL : Addr}
theorem sc_answer_call : FnScope ["line", "call", "given"] ["line", "call", "given"] (defScope (top 63)) := ⟨rfl, rfl, rfl, by decide +kernel, rfl, by decide +kernel, by decide +kernel⟩
theorem can_answer_call (T : Txt K mg CR CD CL) : Can P w K mg base "answer_call" 11 ["line", "call", "given"] (spAnswer CR CD CL) := by
  have G1 : Can P w K mg base "begin" 3 ["line", "key"] (spBegin CR CD CL) := can_begin T
  have G2 : Can P w K mg base "is_at_room" 1 ["call"] spIsAtRoom := can_is_at_room T
  have G3 : Can P w K mg base "answer_at_room" 10 ["desk", "call", "given"] (spAtRoom CR CD) := can_answer_at_room T
  have G4 : Can P w K mg base "answer_at_desk" 10 ["desk", "call", "given"] (spAtDesk CR CD) := can_answer_at_desk T
  refine T.f_answer_call.can sc_answer_call (fun vs H Q E h => ?_) (fun f cdv A outer s H vs Q E hr h => ?_)
  · obtain ⟨ln, ga, O, a, n, gs, cl, rfl, _⟩ := h
    rfl
  · obtain ⟨ln, ga, O, a, n, gs, cl, rfl, L, hG, hk, k⟩ := h
    refine ⟨_, pss_cons (ps_if (pt_cmpR op_eq (pv 1) (pcst T.c_BEGIN) (nomark _)) (pss_one (ps_ret (pcall G1 hr (pa_cons (pv 0) (pa_cons (pe_slice sl_own (pv 2) (po_some pe_int) po_none) pa_nil))))) pss_nil)
      (pss_cons (ps_if (pt_cmp (pc_isN (pe_fld (pv 0) rfl))) (pss_one (ps_ret (pe_lst (pa_cons (pcst T.c_NO_DESK) pa_nil)))) pss_nil)
      (pss_cons (ps_if (pt_val (pcall G2 hr (pa_cons (pv 1) pa_nil))) (pss_one (ps_ret (pcall G3 hr (pa_cons (pe_fld (pv 0) rfl) (pa_cons (pv 1) (pa_cons (pv 2) pa_nil)))))) pss_nil)
      (pss_one (ps_ret (pcall G4 hr (pa_cons (pe_fld (pv 0) rfl) (pa_cons (pv 1) (pa_cons (pv 2) pa_nil)))))))), ?_⟩
    obtain ⟨dl, hl⟩ := L.line
    by_cases hn : n = 0
    · refine seq_take rfl (by omega) ?_
      cases hk with
      | room h => cases h <;> exact absurd hn (by decide)
      | desk h => cases h <;> exact absurd hn (by decide)
      | begin b hb =>
        have c1 : cutV (vN (b.length :: b)) (some 1) none = vN b := cut_lo (l := b.length :: b) (i := 1) (by simp)
        refine ⟨_, rfl, _, rfl, _, rfl, ga, _, rfl, hG, fun p hp => ?_⟩
        rw [c1]
        have s1 : Same H (upd H p (.lst (vN b))) := same_new hp
        refine ⟨ln, p, O, a, b, rfl, L.same s1, upd_same, hb, fun H' O' p2 h1 h2 h3 h4 h5 => ?_⟩
        refine k H' O' p2 h1 (fun c hc => ?_) ((Fr.same s1).trans (h3.mono fun _ e => .inl e)) h4 (s1.free h5)
        rcases h2 c hc with z | z | z
        · exact .inl z
        · exact .inr (s1.free z)
        · rw [z]; exact .inr hp
    · refine seq_skip rfl (by omega) ?_
      refine seq_if ⟨_, rfl, ln, CL, dl, _, _, rfl, hl, T.k_L.cl, T.nL_desk, lkL_desk _, _, rfl, ?_⟩
      cases O with
      | none =>
        have e := act_off (L.off rfl) hk hn
        rw [e] at k
        exact iteD (fun _ => k.no L) fun c => absurd rfl c
      | some D =>
        have B := (L.on D rfl).1
        refine iteD (fun c => (by cases c)) fun _ => ?_
        refine seq_if ⟨_, rfl, (n : Int), rfl, fun H1 s1 => ⟨_, rfl, ?_⟩⟩
        have hl1 := s1 _ _ hl
        cases hk with
        | begin b hb => exact absurd rfl hn
        | room h =>
          rw [room_in h]
          exact iteT ⟨_, rfl, ln, CL, dl, _, _, rfl, hl1, T.k_L.cl, T.nL_desk, lkL_desk _, _, rfl, _, rfl, D, a, n, n, gs, cl, ga, rfl, rfl, B.same s1, s1 _ _ hG, h, (k.step s1).desk (L.same s1)⟩
        | desk h =>
          rw [desk_in h]
          exact iteF ⟨_, rfl, ln, CL, dl, _, _, rfl, hl1, T.k_L.cl, T.nL_desk, lkL_desk _, _, rfl, _, rfl, D, a, n, n, gs, cl, ga, rfl, rfl, B.same s1, s1 _ _ hG, h, (k.step s1).desk (L.same s1)⟩
end
/-! ### the whole -/
def spAns (K : PySem.W.Frag) : Sp := fun vs H Q _ => ∃ (ca : Addr) (ns : List Int), vs = [.ref ca] ∧ SqL K H ca (vI ns) ∧ PyKs347.answers_asked ns = true ∧ ∀ (H' : Hp) (p : Addr), H' p = some (.lst (vI (PyKs347.answers ns))) → Q (.ref p) H'
structure LoopAt (CR CD CL : Addr) (H : Hp) (ca ln td : Addr) (ns : List Int) (m : Nat) (σ : L2.St) (H' : Hp) : Prop where
  ex : ∃ (n f : Nat) (cs : List (List (List Int))) (O : Option Dk) (a : Abs) (acc : List Int) (v4 v5 : Option V), σ = [some (.ref ca), some (.ref ln), some (.ref td), some (.int (n : Int)), v4, v5] ∧ m = cs.length ∧ n ≤ ns.length ∧
    PyFlat.calls PyKs347.shape f (ns.drop n) = some cs ∧ (∀ c ∈ cs, Ks347Neutral.asked1 c = true) ∧ LineAt CR CD CL H' ln O a ∧ H' td = some (.lst (vI acc)) ∧ PyKs347.answers ns = acc ++ rest a cs ∧ ¬ hasO O td ∧ (∀ b, hasO O b → H b = none)
  same : Same H H'
section
variable {P : Program} {w : World} {K : PySem.W.Frag} {mg : Str → Option Value} {base : Heap} {CR CD CL : Addr}
theorem sc_answers : FnScope ["calls", "line", "told", "at", "end", "answer"] ["calls"] (defScope (top 61)) := ⟨rfl, rfl, rfl, by decide +kernel, rfl, by decide +kernel, by decide +kernel⟩
theorem ok_answers {fa : Addr} {fd : FuncData} (F : Fun K "answers" "answers" (top 61) fa fd) (T : Txt K mg CR CD CL) : FnOk P w K mg base CX0 12 fa fd ["calls"] (spAns K) := by
  have G0 : CanMk P w K mg base "Line" 1 ["self"] CL (spInitL CL) := can_Line T
  have G1 : Can P w K mg base "end_of_call" 1 ["calls", "at"] (spEnd K) := can_end_of_call T
  have G2 : Can P w K mg base "answer_call" 11 ["line", "call", "given"] (spAnswer CR CD CL) := can_answer_call T
  refine F.ok sc_answers (fun vs H Q E h => ?_) (fun cdv A outer s H vs Q E hr h => ?_)
  · obtain ⟨ca, ns, rfl, _⟩ := h
    rfl
  · obtain ⟨ca, ns, rfl, hS, hask, k⟩ := h
    obtain ⟨cs0, hc0, ha0, he0, hlen⟩ := asked_facts hask
    refine ⟨_, pss_cons (ps_set (i := 1) sc_answers.nd rfl (Or.inl rfl) (pmake0 G0 hr)) (pss_cons (ps_set (i := 2) sc_answers.nd rfl (Or.inl rfl) (pe_lst pa_nil)) (pss_cons (ps_set (i := 3) sc_answers.nd rfl (Or.inl rfl) pe_int)
      (pss_cons (ps_while PassesOwn.never (pt_cmpR op_lt (pv 3) (pe_callB call_len_seq (by exact rfl) T.b_len PySem.boot_len (pa_cons (pv 0) pa_nil)) (nomark _))
        (pss_cons (ps_set (i := 4) sc_answers.nd rfl (Or.inl rfl) (pcall G1 hr (pa_cons (pv 0) (pa_cons (pv 3) pa_nil))))
        (pss_cons (ps_set (i := 5) sc_answers.nd rfl (Or.inl rfl) (pcall G2 hr (pa_cons (pv 1) (pa_cons (pe_ix ix_list (pv 0) (pv 3) (fun _ _ => rfl)) (pa_cons (pe_slice sl_list (pv 0) (po_some (pe_op op_add (pv 3) pe_int)) (po_some (pv 4))) pa_nil)))))
        (pss_cons (ps_expr (pe_bm PySem.F.plainAttrs_list PySem.F.slot_list_append PySem.F.type_list_append mt_append (pv 2) (pa_cons (plen T.b_len (pv 5)) pa_nil)))
        (pss_cons (ps_expr (pe_bm PySem.F.plainAttrs_list PySem.F.slot_list_extend PySem.F.type_list_extend mt_extend (pv 2) (pa_cons (pv 5) pa_nil)))
        (pss_one (ps_set (i := 3) sc_answers.nd rfl (Or.inl rfl) (pv 4))))))))
      (pss_one (ps_ret (pv 2)))))), ?_⟩
    intro ln dl nl nd ne
    refine ⟨ln, dl, rfl, upd_same, fun H1 hl1 kp => ⟨rfl, ?_⟩⟩
    have s1 : Same H H1 := fun b o e => by
      rw [kp b (ne_of_none e nl), upd_ne (ne_of_none e nl), upd_ne (ne_of_none e nd)]
      exact e
    refine ⟨by decide, fun td htd => ?_⟩
    have ntd : H td = none := s1.free htd
    have tl : td ≠ ln := (ne_of_none hl1 htd).symm
    refine ⟨LoopAt CR CD CL H ca ln td ns, ⟨cs0.length, ⟨0, ns.length, cs0, none, {}, [], none, none, rfl, rfl, Nat.zero_le _, hc0, ha0, ⟨⟨dl, (same_new htd) _ _ hl1⟩, fun _ => rfl, fun D e => by cases e⟩, upd_same, he0, fun z => z, fun b z => z.elim⟩, s1.trans (same_new htd)⟩, ?_⟩
    rintro m σ H2 ⟨⟨n, f', cs, O, a, acc, v4, v5, rfl, rfl, hn, hc, ha, L, htd2, he, hO, hfr⟩, s2⟩
    have hS2 := s2.seq hS
    refine ⟨_, rfl, _, rfl, ca, vI ns, rfl, .inl hS2, _, _, rfl, rfl, _, rfl, ?_⟩
    rw [vI_length]
    by_cases hlt : n < ns.length
    · rw [decide_eq_true (show (n : Int) < ((ns.length : Nat) : Int) by omega)]
      have hne : ns.drop n ≠ [] := fun z => by
        have z2 := congrArg List.length z
        rw [List.length_drop] at z2
        have z3 : ns.length - n = 0 := z2
        omega
      obtain ⟨p, g, t, c, cs', f'', hd, hsh, rfl, hc'⟩ := calls_cons hne hc
      obtain ⟨q, gs, cl, rfl, rfl, hst, hk⟩ := kinds_of hsh (ha c List.mem_cons_self)
      refine iteT ⟨LoopAt CR CD CL H ca ln td ns cs'.length, fun σ' H' q => ⟨_, Nat.lt_succ_self _, q⟩, ?_⟩
      -- end = end_of_call(calls, at)
      refine ⟨_, rfl, _, rfl, ca, ns, n, q, gs, cl, t, rfl, hS2, hd, hk, ?_⟩
      -- answer = answer_call(line, calls[at], calls[at + 1:end])
      have g0 : ns[n]? = some (q : Int) := by
        have e := List.getElem?_drop (xs := ns) (i := n) (j := 0)
        rw [hd, Nat.add_zero] at e
        exact e.symm
      have a0 : atI (vI ns) (n : Int) = some (.int (q : Int)) := atI_nat (vI_get g0)
      have hd1 : ns.drop (n + 1) = gs.map (fun m : Nat => (m : Int)) ++ t := by
        have e : (ns.drop n).drop 1 = ns.drop (n + 1) := by rw [List.drop_drop]
        rw [← e, hd]
        rfl
      have hle : n + 1 + gs.length ≤ ns.length := by
        have z := congrArg List.length hd1
        rw [List.length_drop, List.length_append, List.length_map] at z
        omega
      have cut : cutV (vI ns) (some ((n : Int) + 1)) (some ((n + 1 + gs.length : Nat) : Int)) = vN gs := by
        have z := cutV_mid (l := vI ns) (i := n + 1) (j := n + 1 + gs.length) (by rw [vI_length]; omega) (by rw [vI_length]; exact hle)
        have z2 : n + 1 + gs.length - (n + 1) = gs.length := by omega
        rw [z2] at z
        have z3 : ((vI ns).drop (n + 1)).take gs.length = vN gs := by
          unfold vI
          rw [← List.map_drop, hd1, ← List.map_take, List.take_left' (by rw [List.length_map])]
          exact vI_cast gs
        exact z.trans z3
      refine ⟨_, rfl, _, rfl, _, rfl, ca, vI ns, _, _, rfl, rfl, hS2, a0, _, rfl, _, rfl, _, _, rfl, rfl, _, rfl, _, rfl, _, rfl, ca, vI ns, rfl, hS2, fun p1 hp1 => ?_⟩
      rw [cut]
      have s3 : Same H2 (upd H2 p1 (.lst (vN gs))) := same_new hp1
      refine ⟨ln, p1, O, a, q, gs, cl, rfl, L.same s3, upd_same, hk, fun H4 O' p hL4 hO4 fr hp hnp => ?_⟩
      generalize upd H2 p1 (.lst (vN gs)) = H3 at s3 hO4 fr hnp
      have td3 := s3 _ _ htd2
      have td4 : H4 td = some (.lst (vI acc)) := fr.keep _ _ td3 (fun z => z.elim tl hO)
      have ntp : p ≠ td := (ne_of_none td3 hnp).symm
      have hO' : ¬ hasO O' td := fun z => (hO4 td z).elim hO fun z => by rw [td3] at z; cases z
      -- the answers so far
      have eo : (Ks347Neutral.step a c).2 = outs (Ks347.act a cl).2 := by rw [hst]; rfl
      have ea : (Ks347Neutral.step a c).1 = (Ks347.act a cl).1 := by rw [hst]; rfl
      rw [rest_cons, eo, ea] at he
      have e2 : PyKs347.answers ns = (acc ++ (((outs (Ks347.act a cl).2).length : Int) :: outs (Ks347.act a cl).2)) ++ rest (Ks347.act a cl).1 cs' := by
        rw [he, List.append_assoc]
      have hsz : acc.length + (1 + (outs (Ks347.act a cl).2).length) ≤ 1005000 := by
        have z := congrArg List.length e2
        rw [List.length_append, List.length_append, List.length_cons] at z
        omega
      have lv : (vA (Ks347.act a cl).2).length = (outs (Ks347.act a cl).2).length := by rw [vA_outs, vI_length]
      -- told.append(len(answer)); told.extend(answer)
      refine ⟨_, rfl, .inl ⟨rfl, _, SqL.of td4⟩, _, rfl, p, _, rfl, hp, td, _, _, rfl, rfl, td4, ?_, ?_⟩
      · rw [vI_length]
        exact Nat.lt_of_le_of_lt (show acc.length ≤ 1005000 by omega) (by decide)
      refine ⟨_, rfl, .inl ⟨rfl, _, SqL.of upd_same⟩, _, rfl, td, p, _, _, rfl, rfl, upd_same, by rw [upd_ne ntp]; exact hp, ?_, ?_⟩
      · rw [List.length_append, vI_length, lv]
        show acc.length + 1 + _ ≤ _
        exact Nat.le_trans (show _ ≤ 1005000 by omega) (by decide)
      rw [upd_upd]
      refine ⟨_, rfl, ⟨n + 1 + gs.length, f'', cs', O', (Ks347.act a cl).1, acc ++ (((outs (Ks347.act a cl).2).length : Int) :: outs (Ks347.act a cl).2), _, _, rfl, rfl, hle, ?_, fun x hx => ha x (List.mem_cons_of_mem _ hx), hL4.put hO' tl, ?_, e2, hO', fun b hb => ?_⟩, fun b o e => ?_⟩
      · have e3 : ns.drop (n + 1 + gs.length) = t := by
          have z : (ns.drop (n + 1)).drop gs.length = ns.drop (n + 1 + gs.length) := by rw [List.drop_drop]
          rw [← z, hd1]
          exact List.drop_left' (by rw [List.length_map])
        rw [e3]
        exact hc'
      · rw [upd_same, lv, vA_outs, ← vI_append]
        rw [List.append_assoc]
        rfl
      · rcases hO4 b hb with z | z
        · exact hfr b z
        · exact s2.free (s3.free z)
      · rw [upd_ne (ne_of_none e ntd)]
        refine fr.keep b o (s3 _ _ (s2 _ _ e)) fun z => ?_
        rcases z with z | z
        · rw [z, nl] at e
          cases e
        · rw [hfr b z] at e
          cases e
    · rw [decide_eq_false (show ¬ (n : Int) < ((ns.length : Nat) : Int) by omega)]
      refine iteF ?_
      have e0 : ns.drop n = [] := List.drop_of_length_le (by omega)
      rw [e0] at hc
      have e1 := calls_nil hc
      subst e1
      have e2 : PyKs347.answers ns = acc := by
        rw [he]
        show acc ++ [] = acc
        rw [List.append_nil]
      refine ⟨_, rfl, k H2 td ?_⟩
      rw [e2]
      exact htd2
end
end Dc
end
set_option Elab.async false
set_option linter.all false
set_option maxRecDepth 100000
set_option maxHeartbeats 4000000
namespace Dc
open PySem PySem.Spec PyProof.Rows L2
section
variable {K : PySem.W.Frag} {h : Heap} {mg : Str → Option Value}
theorem us1 {us : List Value} (h : us.length = 1) : ∃ a, us = [a] := match us, h with | [a], _ => ⟨a, rfl⟩
theorem us2 {us : List Value} (h : us.length = 2) : ∃ a b, us = [a, b] := match us, h with | [a, b], _ => ⟨a, b, rfl⟩
theorem us3 {us : List Value} (h : us.length = 3) : ∃ a b c, us = [a, b, c] := match us, h with | [a, b, c], _ => ⟨a, b, c, rfl⟩
theorem us5 {us : List Value} (h : us.length = 5) : ∃ a b c d e, us = [a, b, c, d, e] := match us, h with | [a, b, c, d, e], _ => ⟨a, b, c, d, e, rfl⟩
theorem us6 {us : List Value} (h : us.length = 6) : ∃ a b c d e f, us = [a, b, c, d, e, f] := match us, h with | [a, b, c, d, e, f], _ => ⟨a, b, c, d, e, f, rfl⟩
theorem cst_mk {x : Str} {i : Int} {t : Tok} (X : K.In h) (G : h.Ns mainGlobals mg) (e : PySem.W.nsIn K mainGlobals x = some (some (.int i t))) : Cst mg x i := ⟨t, PySem.W.mg_of X G e⟩
theorem fnIn_mk {x : Str} {ps : List Str} {st : Stmt} {f : Addr} {oc : Value} {od an : Option Addr} {sl : Array (Option Value)} {kV dc pm cd ct : Value} (X : K.In h) (G : h.Ns mainGlobals mg) (a : PySem.W.nsIn K mainGlobals x = some (some (.ref f)))
    (l : K.lookup f = some ⟨oc, od, .func (PySem.W.fnOf x x (defArgs st) (defBody st) (defScope st) .none kV dc pm an cd ct), sl⟩) (c : PySem.W.codeIn K cd x = true) (k : PySem.W.keepIn K (.ref f) = true)
    (b : ∀ (kV doc pm : Value) (an : Option Addr) (cdv ct : Value) (us : List Value), us.length = ps.length → bindArgs (PySem.W.fnOf x x (defArgs st) (defBody st) (defScope st) .none kV doc pm an cdv ct) ⟨us, []⟩ = pure (ps.zip us)) : FnIn K mg x ps st :=
  ⟨⟨f, _, fun_mk l c k, PySem.W.mg_of X G a, (fun_mk l c k).binds b⟩⟩
theorem clsIn_mk {x qual : Str} {ps : List Str} {st : Stmt} {C f : Addr} {oc : Value} {od an : Option Addr} {sl : Array (Option Value)} {kV dc pm cd ct : Value} (X : K.In h) (G : h.Ns mainGlobals mg) (aC : PySem.W.nsIn K mainGlobals x = some (some (.ref C)))
    (a : PySem.W.findIn K (.ref C) "__init__" = some (some (.ref f))) (i : PySem.W.isFn K (.ref f) = true)
    (l : K.lookup f = some ⟨oc, od, .func (PySem.W.fnOf "__init__" qual (defArgs st) (defBody st) (defScope st) .none kV dc pm an cd ct), sl⟩) (c : PySem.W.codeIn K cd qual = true) (k : PySem.W.keepIn K (.ref f) = true)
    (pg : PySem.W.plainGet K C Str.empty = true) (hd : PySem.W.hasDictIn K C = true) (po : PySem.W.plainOver K C = true) (sa : PySem.W.findIn K (.ref C) "__setattr__" = some (some (.builtin "object.__setattr__"))) (mk : PySem.W.makesIn K C = true) (kc : PySem.W.keepIn K (.ref C) = true)
    (b : ∀ (kV doc pm : Value) (an : Option Addr) (cdv ct : Value) (us : List Value), us.length = ps.length → bindArgs (PySem.W.fnOf "__init__" qual (defArgs st) (defBody st) (defScope st) .none kV doc pm an cdv ct) ⟨us, []⟩ = pure (ps.zip us)) : ClsIn K mg x qual st ps C :=
  ⟨⟨pg, hd, po, sa⟩, PySem.W.mg_of X G aC, ⟨f, _, ⟨mk, a, i, kc⟩, fun_mk l c k, (fun_mk l c k).binds b⟩⟩
theorem nb_mk {a : Addr} {od : Option Addr} {n : Nat} {sl : Array (Option Value)} {t0 t1 t2 t3 t4 t5 t6 t7 t8 t9 t10 t11 t12 t13 t14 t15 : Tok} (X : K.In h) (G : h.Ns mainGlobals mg) (e : PySem.W.nsIn K mainGlobals "NUMBERS_BEHIND" = some (some (.ref a)))
    (l : K.lookup a = some ⟨.type "tuple", od, .seq #[.int 1 t0, .int 1 t1, .int 1 t2, .int 2 t3, .int 1 t4, .int 1 t5, .int 2 t6, .int 1 t7, .int 1 t8, .int 2 t9, .int 0 t10, .int 1 t11, .int 1 t12, .int 1 t13, .int 0 t14, .int 0 t15] n, sl⟩) :
    ∃ a : Addr, mg "NUMBERS_BEHIND" = some (.ref a) ∧ ∀ H : Hp, SqT K H a (behindN.map V.int) := by
  refine ⟨a, PySem.W.mg_of X G e, fun H => .inr ⟨_, _, n, l, rfl, rfl, by show 16 ≤ sizeLine; decide, ?_⟩⟩
  exact .cons ⟨_, rfl⟩ (.cons ⟨_, rfl⟩ (.cons ⟨_, rfl⟩ (.cons ⟨_, rfl⟩ (.cons ⟨_, rfl⟩ (.cons ⟨_, rfl⟩ (.cons ⟨_, rfl⟩ (.cons ⟨_, rfl⟩ (.cons ⟨_, rfl⟩ (.cons ⟨_, rfl⟩ (.cons ⟨_, rfl⟩ (.cons ⟨_, rfl⟩ (.cons ⟨_, rfl⟩ (.cons ⟨_, rfl⟩ (.cons ⟨_, rfl⟩ (.cons ⟨_, rfl⟩ .nil)))))))))))))))
theorem top_mk {P : Program} {w : World} {CR CD CL fa f : Addr} {oc : Value} {od an : Option Addr} {sl : Array (Option Value)} {kV dc pm cd ct : Value} (X : K.In h) (G : h.Ns mainGlobals mg) (hfa : mg "answers" = some (.ref fa)) (T : Txt K mg CR CD CL)
    (a : PySem.W.nsIn K mainGlobals "answers" = some (some (.ref f)))
    (l : K.lookup f = some ⟨oc, od, .func (PySem.W.fnOf "answers" "answers" (defArgs (top 61)) (defBody (top 61)) (defScope (top 61)) .none kV dc pm an cd ct), sl⟩) (c : PySem.W.codeIn K cd "answers" = true) (k : PySem.W.keepIn K (.ref f) = true) :
    ∃ fd : FuncData, (∀ (s : Shared) (us : List Value), us.length = (["calls"] : List Str).length → BindsTo s fd ⟨us, []⟩ ((["calls"] : List Str).zip us)) ∧ ∀ base : Heap, K.In base → base.Ns mainGlobals mg → FnOk P w K mg base CX0 12 fa fd ["calls"] (spAns K) := by
  have e := hfa.symm.trans (PySem.W.mg_of X G a)
  cases e
  exact ⟨PySem.W.fnOf "answers" "answers" (defArgs (top 61)) (defBody (top 61)) (defScope (top 61)) .none kV dc pm an cd ct, (fun s us hu => by (obtain ⟨a, rfl⟩ := us1 hu; exact .of_eq rfl)), fun base _ _ => ok_answers (fun_mk l c k) T⟩
end
end Dc
open PySem PySem.W PyProof.Rows
set_option maxRecDepth 100000 in
set_option maxHeartbeats 0 in
theorem PySem.Challenge.cw_doorcards_s01_answers_holds : PySem.Challenge.rw_doorcards_s01_answers.Holds := by
  w_on; k_headS; (case hw => exact ⟨[.list [.int 15]], by decide +kernel, by decide +kernel⟩)
  k_fillS
  refine L2.walk_specK (r := PySem.Challenge.rw_doorcards_s01_answers) (k := 12) (CX := L2.CX0) (ps := ["calls"]) (sp := Dc.spAns) (by decide +kernel) rfl rfl ⟨rfl, by decide, by decide⟩ (fun w h Y => PySem.W.kIn_of Y) ?F ?S (fun _ _ _ _ z => z)
  case F =>
    intro w mg fa h Y KX G hmg
    have c_GUEST_CARD : Dc.Cst mg "GUEST_CARD" (1) := by
      refine' Dc.cst_mk KX G ?e
      (case e => k_is)
    have c_STAFF_CARD : Dc.Cst mg "STAFF_CARD" (2) := by
      refine' Dc.cst_mk KX G ?e
      (case e => k_is)
    have c_SHUTTING_CARD : Dc.Cst mg "SHUTTING_CARD" (3) := by
      refine' Dc.cst_mk KX G ?e
      (case e => k_is)
    have c_EMERGENCY_CARD : Dc.Cst mg "EMERGENCY_CARD" (4) := by
      refine' Dc.cst_mk KX G ?e
      (case e => k_is)
    have c_CARD_LENGTH : Dc.Cst mg "CARD_LENGTH" (16) := by
      refine' Dc.cst_mk KX G ?e
      (case e => k_is)
    have c_HEAD_LENGTH : Dc.Cst mg "HEAD_LENGTH" (8) := by
      refine' Dc.cst_mk KX G ?e
      (case e => k_is)
    have c_MOST_ROOMS : Dc.Cst mg "MOST_ROOMS" (64) := by
      refine' Dc.cst_mk KX G ?e
      (case e => k_is)
    have c_EMERGENCY_PLACE : Dc.Cst mg "EMERGENCY_PLACE" (255) := by
      refine' Dc.cst_mk KX G ?e
      (case e => k_is)
    have c_ALL_BITS : Dc.Cst mg "ALL_BITS" (18446744073709551615) := by
      refine' Dc.cst_mk KX G ?e
      (case e => k_is)
    have c_START_A : Dc.Cst mg "START_A" (8317987319222330741) := by
      refine' Dc.cst_mk KX G ?e
      (case e => k_is)
    have c_START_B : Dc.Cst mg "START_B" (7237128888997146477) := by
      refine' Dc.cst_mk KX G ?e
      (case e => k_is)
    have c_START_C : Dc.Cst mg "START_C" (7816392313619706465) := by
      refine' Dc.cst_mk KX G ?e
      (case e => k_is)
    have c_START_D : Dc.Cst mg "START_D" (8387220255154660723) := by
      refine' Dc.cst_mk KX G ?e
      (case e => k_is)
    have c_BEGIN : Dc.Cst mg "BEGIN" (0) := by
      refine' Dc.cst_mk KX G ?e
      (case e => k_is)
    have c_ROOM : Dc.Cst mg "ROOM" (1) := by
      refine' Dc.cst_mk KX G ?e
      (case e => k_is)
    have c_DAY : Dc.Cst mg "DAY" (2) := by
      refine' Dc.cst_mk KX G ?e
      (case e => k_is)
    have c_COME : Dc.Cst mg "COME" (3) := by
      refine' Dc.cst_mk KX G ?e
      (case e => k_is)
    have c_COPY : Dc.Cst mg "COPY" (4) := by
      refine' Dc.cst_mk KX G ?e
      (case e => k_is)
    have c_LOST : Dc.Cst mg "LOST" (5) := by
      refine' Dc.cst_mk KX G ?e
      (case e => k_is)
    have c_LONGER : Dc.Cst mg "LONGER" (6) := by
      refine' Dc.cst_mk KX G ?e
      (case e => k_is)
    have c_LEAVE : Dc.Cst mg "LEAVE" (7) := by
      refine' Dc.cst_mk KX G ?e
      (case e => k_is)
    have c_SHUT : Dc.Cst mg "SHUT" (8) := by
      refine' Dc.cst_mk KX G ?e
      (case e => k_is)
    have c_STAFF : Dc.Cst mg "STAFF" (9) := by
      refine' Dc.cst_mk KX G ?e
      (case e => k_is)
    have c_RECALL : Dc.Cst mg "RECALL" (10) := by
      refine' Dc.cst_mk KX G ?e
      (case e => k_is)
    have c_NEED : Dc.Cst mg "NEED" (11) := by
      refine' Dc.cst_mk KX G ?e
      (case e => k_is)
    have c_WHOSE : Dc.Cst mg "WHOSE" (12) := by
      refine' Dc.cst_mk KX G ?e
      (case e => k_is)
    have c_STAY : Dc.Cst mg "STAY" (13) := by
      refine' Dc.cst_mk KX G ?e
      (case e => k_is)
    have c_FREE : Dc.Cst mg "FREE" (14) := by
      refine' Dc.cst_mk KX G ?e
      (case e => k_is)
    have c_NO_ROOM : Dc.Cst mg "NO_ROOM" (-2) := by
      refine' Dc.cst_mk KX G ?e
      (case e => k_is)
    have c_NO_STAY : Dc.Cst mg "NO_STAY" (-6) := by
      refine' Dc.cst_mk KX G ?e
      (case e => k_is)
    have c_HAS_STAY : Dc.Cst mg "HAS_STAY" (-15) := by
      refine' Dc.cst_mk KX G ?e
      (case e => k_is)
    have c_WRONG_VALUE : Dc.Cst mg "WRONG_VALUE" (-22) := by
      refine' Dc.cst_mk KX G ?e
      (case e => k_is)
    have c_NO_MORE : Dc.Cst mg "NO_MORE" (-28) := by
      refine' Dc.cst_mk KX G ?e
      (case e => k_is)
    have c_NO_DESK : Dc.Cst mg "NO_DESK" (-61) := by
      refine' Dc.cst_mk KX G ?e
      (case e => k_is)
    have c_NO_CARD : Dc.Cst mg "NO_CARD" (-71) := by
      refine' Dc.cst_mk KX G ?e
      (case e => k_is)
    have c_KEY_LENGTH : Dc.Cst mg "KEY_LENGTH" (16) := by
      refine' Dc.cst_mk KX G ?e
      (case e => k_is)
    have c_LAST_ZONE : Dc.Cst mg "LAST_ZONE" (7) := by
      refine' Dc.cst_mk KX G ?e
      (case e => k_is)
    have c_ALL_ZONES : Dc.Cst mg "ALL_ZONES" (255) := by
      refine' Dc.cst_mk KX G ?e
      (case e => k_is)
    have c_LAST_DAY : Dc.Cst mg "LAST_DAY" (65535) := by
      refine' Dc.cst_mk KX G ?e
      (case e => k_is)
    have c_LAST_NUMBER : Dc.Cst mg "LAST_NUMBER" (65535) := by
      refine' Dc.cst_mk KX G ?e
      (case e => k_is)
    have c_LAST_ROUND : Dc.Cst mg "LAST_ROUND" (65535) := by
      refine' Dc.cst_mk KX G ?e
      (case e => k_is)
    have c_MOST_CARDS : Dc.Cst mg "MOST_CARDS" (65535) := by
      refine' Dc.cst_mk KX G ?e
      (case e => k_is)
    have b_len : mg "len" = none := by
      refine' PySem.W.mg_none_of KX G ?e
      (case e => k_is)
    have b_range : mg "range" = none := by
      refine' PySem.W.mg_none_of KX G ?e
      (case e => k_is)
    have b_reversed : mg "reversed" = none := by
      refine' PySem.W.mg_none_of KX G ?e
      (case e => k_is)
    have b_enumerate : mg "enumerate" = none := by
      refine' PySem.W.mg_none_of KX G ?e
      (case e => k_is)
    have f_card_of : Dc.FnIn (L2.KOf KX) mg "card_of" ["key", "kind", "place", "number", "last", "serial"] (Dc.top 14) := by
      dsimp only [L2.KOf]
      refine' Dc.fnIn_mk KX G ?a ?l ?c ?k (fun _ _ _ _ _ _ us hl => by obtain ⟨a, b, c, d, e, f, rfl⟩ := Dc.us6 hl; rfl)
      (case a => k_is); (case l => k_is); (case c => k_is); (case k => k_is)
    have f_is_card : Dc.FnIn (L2.KOf KX) mg "is_card" ["key", "row"] (Dc.top 15) := by
      dsimp only [L2.KOf]
      refine' Dc.fnIn_mk KX G ?a ?l ?c ?k (fun _ _ _ _ _ _ us hl => by obtain ⟨a, b, rfl⟩ := Dc.us2 hl; rfl)
      (case a => k_is); (case l => k_is); (case c => k_is); (case k => k_is)
    have f_is_place : Dc.FnIn (L2.KOf KX) mg "is_place" ["kind", "place"] (Dc.top 16) := by
      dsimp only [L2.KOf]
      refine' Dc.fnIn_mk KX G ?a ?l ?c ?k (fun _ _ _ _ _ _ us hl => by obtain ⟨a, b, rfl⟩ := Dc.us2 hl; rfl)
      (case a => k_is); (case l => k_is); (case c => k_is); (case k => k_is)
    have f_parts_of : Dc.FnIn (L2.KOf KX) mg "parts_of" ["card"] (Dc.top 17) := by
      dsimp only [L2.KOf]
      refine' Dc.fnIn_mk KX G ?a ?l ?c ?k (fun _ _ _ _ _ _ us hl => by obtain ⟨a, rfl⟩ := Dc.us1 hl; rfl)
      (case a => k_is); (case l => k_is); (case c => k_is); (case k => k_is)
    have f_tag_of : Dc.FnIn (L2.KOf KX) mg "tag_of" ["key", "message"] (Dc.top 18) := by
      dsimp only [L2.KOf]
      refine' Dc.fnIn_mk KX G ?a ?l ?c ?k (fun _ _ _ _ _ _ us hl => by obtain ⟨a, b, rfl⟩ := Dc.us2 hl; rfl)
      (case a => k_is); (case l => k_is); (case c => k_is); (case k => k_is)
    have f_start_of : Dc.FnIn (L2.KOf KX) mg "start_of" ["key"] (Dc.top 19) := by
      dsimp only [L2.KOf]
      refine' Dc.fnIn_mk KX G ?a ?l ?c ?k (fun _ _ _ _ _ _ us hl => by obtain ⟨a, rfl⟩ := Dc.us1 hl; rfl)
      (case a => k_is); (case l => k_is); (case c => k_is); (case k => k_is)
    have f_words_of : Dc.FnIn (L2.KOf KX) mg "words_of" ["message"] (Dc.top 20) := by
      dsimp only [L2.KOf]
      refine' Dc.fnIn_mk KX G ?a ?l ?c ?k (fun _ _ _ _ _ _ us hl => by obtain ⟨a, rfl⟩ := Dc.us1 hl; rfl)
      (case a => k_is); (case l => k_is); (case c => k_is); (case k => k_is)
    have f_take_in : Dc.FnIn (L2.KOf KX) mg "take_in" ["four", "word"] (Dc.top 21) := by
      dsimp only [L2.KOf]
      refine' Dc.fnIn_mk KX G ?a ?l ?c ?k (fun _ _ _ _ _ _ us hl => by obtain ⟨a, b, rfl⟩ := Dc.us2 hl; rfl)
      (case a => k_is); (case l => k_is); (case c => k_is); (case k => k_is)
    have f_rounds_of : Dc.FnIn (L2.KOf KX) mg "rounds_of" ["four", "times"] (Dc.top 22) := by
      dsimp only [L2.KOf]
      refine' Dc.fnIn_mk KX G ?a ?l ?c ?k (fun _ _ _ _ _ _ us hl => by obtain ⟨a, b, rfl⟩ := Dc.us2 hl; rfl)
      (case a => k_is); (case l => k_is); (case c => k_is); (case k => k_is)
    have f_round_of : Dc.FnIn (L2.KOf KX) mg "round_of" ["four"] (Dc.top 23) := by
      dsimp only [L2.KOf]
      refine' Dc.fnIn_mk KX G ?a ?l ?c ?k (fun _ _ _ _ _ _ us hl => by obtain ⟨a, rfl⟩ := Dc.us1 hl; rfl)
      (case a => k_is); (case l => k_is); (case c => k_is); (case k => k_is)
    have f_turned : Dc.FnIn (L2.KOf KX) mg "turned" ["x", "places"] (Dc.top 24) := by
      dsimp only [L2.KOf]
      refine' Dc.fnIn_mk KX G ?a ?l ?c ?k (fun _ _ _ _ _ _ us hl => by obtain ⟨a, b, rfl⟩ := Dc.us2 hl; rfl)
      (case a => k_is); (case l => k_is); (case c => k_is); (case k => k_is)
    have f_number_of : Dc.FnIn (L2.KOf KX) mg "number_of" ["row"] (Dc.top 25) := by
      dsimp only [L2.KOf]
      refine' Dc.fnIn_mk KX G ?a ?l ?c ?k (fun _ _ _ _ _ _ us hl => by obtain ⟨a, rfl⟩ := Dc.us1 hl; rfl)
      (case a => k_is); (case l => k_is); (case c => k_is); (case k => k_is)
    have f_bytes_of : Dc.FnIn (L2.KOf KX) mg "bytes_of" ["number", "length"] (Dc.top 26) := by
      dsimp only [L2.KOf]
      refine' Dc.fnIn_mk KX G ?a ?l ?c ?k (fun _ _ _ _ _ _ us hl => by obtain ⟨a, b, rfl⟩ := Dc.us2 hl; rfl)
      (case a => k_is); (case l => k_is); (case c => k_is); (case k => k_is)
    have f_answers : Dc.FnIn (L2.KOf KX) mg "answers" ["calls"] (Dc.top 61) := by
      dsimp only [L2.KOf]
      refine' Dc.fnIn_mk KX G ?a ?l ?c ?k (fun _ _ _ _ _ _ us hl => by obtain ⟨a, rfl⟩ := Dc.us1 hl; rfl)
      (case a => k_is); (case l => k_is); (case c => k_is); (case k => k_is)
    have f_end_of_call : Dc.FnIn (L2.KOf KX) mg "end_of_call" ["calls", "at"] (Dc.top 62) := by
      dsimp only [L2.KOf]
      refine' Dc.fnIn_mk KX G ?a ?l ?c ?k (fun _ _ _ _ _ _ us hl => by obtain ⟨a, b, rfl⟩ := Dc.us2 hl; rfl)
      (case a => k_is); (case l => k_is); (case c => k_is); (case k => k_is)
    have f_answer_call : Dc.FnIn (L2.KOf KX) mg "answer_call" ["line", "call", "given"] (Dc.top 63) := by
      dsimp only [L2.KOf]
      refine' Dc.fnIn_mk KX G ?a ?l ?c ?k (fun _ _ _ _ _ _ us hl => by obtain ⟨a, b, c, rfl⟩ := Dc.us3 hl; rfl)
      (case a => k_is); (case l => k_is); (case c => k_is); (case k => k_is)
    have f_is_at_room : Dc.FnIn (L2.KOf KX) mg "is_at_room" ["call"] (Dc.top 64) := by
      dsimp only [L2.KOf]
      refine' Dc.fnIn_mk KX G ?a ?l ?c ?k (fun _ _ _ _ _ _ us hl => by obtain ⟨a, rfl⟩ := Dc.us1 hl; rfl)
      (case a => k_is); (case l => k_is); (case c => k_is); (case k => k_is)
    have f_answer_at_desk : Dc.FnIn (L2.KOf KX) mg "answer_at_desk" ["desk", "call", "given"] (Dc.top 65) := by
      dsimp only [L2.KOf]
      refine' Dc.fnIn_mk KX G ?a ?l ?c ?k (fun _ _ _ _ _ _ us hl => by obtain ⟨a, b, c, rfl⟩ := Dc.us3 hl; rfl)
      (case a => k_is); (case l => k_is); (case c => k_is); (case k => k_is)
    have f_answer_at_room : Dc.FnIn (L2.KOf KX) mg "answer_at_room" ["desk", "call", "given"] (Dc.top 66) := by
      dsimp only [L2.KOf]
      refine' Dc.fnIn_mk KX G ?a ?l ?c ?k (fun _ _ _ _ _ _ us hl => by obtain ⟨a, b, c, rfl⟩ := Dc.us3 hl; rfl)
      (case a => k_is); (case l => k_is); (case c => k_is); (case k => k_is)
    have f_begin : Dc.FnIn (L2.KOf KX) mg "begin" ["line", "key"] (Dc.top 67) := by
      dsimp only [L2.KOf]
      refine' Dc.fnIn_mk KX G ?a ?l ?c ?k (fun _ _ _ _ _ _ us hl => by obtain ⟨a, b, rfl⟩ := Dc.us2 hl; rfl)
      (case a => k_is); (case l => k_is); (case c => k_is); (case k => k_is)
    have f_add_room : Dc.FnIn (L2.KOf KX) mg "add_room" ["desk", "zone"] (Dc.top 68) := by
      dsimp only [L2.KOf]
      refine' Dc.fnIn_mk KX G ?a ?l ?c ?k (fun _ _ _ _ _ _ us hl => by obtain ⟨a, b, rfl⟩ := Dc.us2 hl; rfl)
      (case a => k_is); (case l => k_is); (case c => k_is); (case k => k_is)
    have f_set_day : Dc.FnIn (L2.KOf KX) mg "set_day" ["desk", "day"] (Dc.top 69) := by
      dsimp only [L2.KOf]
      refine' Dc.fnIn_mk KX G ?a ?l ?c ?k (fun _ _ _ _ _ _ us hl => by obtain ⟨a, b, rfl⟩ := Dc.us2 hl; rfl)
      (case a => k_is); (case l => k_is); (case c => k_is); (case k => k_is)
    have f_is_over : Dc.FnIn (L2.KOf KX) mg "is_over" ["room", "day"] (Dc.top 70) := by
      dsimp only [L2.KOf]
      refine' Dc.fnIn_mk KX G ?a ?l ?c ?k (fun _ _ _ _ _ _ us hl => by obtain ⟨a, b, rfl⟩ := Dc.us2 hl; rfl)
      (case a => k_is); (case l => k_is); (case c => k_is); (case k => k_is)
    have f_come : Dc.FnIn (L2.KOf KX) mg "come" ["desk", "place", "last"] (Dc.top 71) := by
      dsimp only [L2.KOf]
      refine' Dc.fnIn_mk KX G ?a ?l ?c ?k (fun _ _ _ _ _ _ us hl => by obtain ⟨a, b, c, rfl⟩ := Dc.us3 hl; rfl)
      (case a => k_is); (case l => k_is); (case c => k_is); (case k => k_is)
    have f_copy_card : Dc.FnIn (L2.KOf KX) mg "copy_card" ["desk", "place"] (Dc.top 72) := by
      dsimp only [L2.KOf]
      refine' Dc.fnIn_mk KX G ?a ?l ?c ?k (fun _ _ _ _ _ _ us hl => by obtain ⟨a, b, rfl⟩ := Dc.us2 hl; rfl)
      (case a => k_is); (case l => k_is); (case c => k_is); (case k => k_is)
    have f_lose_card : Dc.FnIn (L2.KOf KX) mg "lose_card" ["desk", "place"] (Dc.top 73) := by
      dsimp only [L2.KOf]
      refine' Dc.fnIn_mk KX G ?a ?l ?c ?k (fun _ _ _ _ _ _ us hl => by obtain ⟨a, b, rfl⟩ := Dc.us2 hl; rfl)
      (case a => k_is); (case l => k_is); (case c => k_is); (case k => k_is)
    have f_stay_longer : Dc.FnIn (L2.KOf KX) mg "stay_longer" ["desk", "place", "last"] (Dc.top 74) := by
      dsimp only [L2.KOf]
      refine' Dc.fnIn_mk KX G ?a ?l ?c ?k (fun _ _ _ _ _ _ us hl => by obtain ⟨a, b, c, rfl⟩ := Dc.us3 hl; rfl)
      (case a => k_is); (case l => k_is); (case c => k_is); (case k => k_is)
    have f_leave : Dc.FnIn (L2.KOf KX) mg "leave" ["desk", "place"] (Dc.top 75) := by
      dsimp only [L2.KOf]
      refine' Dc.fnIn_mk KX G ?a ?l ?c ?k (fun _ _ _ _ _ _ us hl => by obtain ⟨a, b, rfl⟩ := Dc.us2 hl; rfl)
      (case a => k_is); (case l => k_is); (case c => k_is); (case k => k_is)
    have f_shut : Dc.FnIn (L2.KOf KX) mg "shut" ["desk", "place"] (Dc.top 76) := by
      dsimp only [L2.KOf]
      refine' Dc.fnIn_mk KX G ?a ?l ?c ?k (fun _ _ _ _ _ _ us hl => by obtain ⟨a, b, rfl⟩ := Dc.us2 hl; rfl)
      (case a => k_is); (case l => k_is); (case c => k_is); (case k => k_is)
    have f_staff_card : Dc.FnIn (L2.KOf KX) mg "staff_card" ["desk", "zones", "last"] (Dc.top 77) := by
      dsimp only [L2.KOf]
      refine' Dc.fnIn_mk KX G ?a ?l ?c ?k (fun _ _ _ _ _ _ us hl => by obtain ⟨a, b, c, rfl⟩ := Dc.us3 hl; rfl)
      (case a => k_is); (case l => k_is); (case c => k_is); (case k => k_is)
    have f_recall : Dc.FnIn (L2.KOf KX) mg "recall" ["desk"] (Dc.top 78) := by
      dsimp only [L2.KOf]
      refine' Dc.fnIn_mk KX G ?a ?l ?c ?k (fun _ _ _ _ _ _ us hl => by obtain ⟨a, rfl⟩ := Dc.us1 hl; rfl)
      (case a => k_is); (case l => k_is); (case c => k_is); (case k => k_is)
    have f_emergency_card : Dc.FnIn (L2.KOf KX) mg "emergency_card" ["desk", "last"] (Dc.top 79) := by
      dsimp only [L2.KOf]
      refine' Dc.fnIn_mk KX G ?a ?l ?c ?k (fun _ _ _ _ _ _ us hl => by obtain ⟨a, b, rfl⟩ := Dc.us2 hl; rfl)
      (case a => k_is); (case l => k_is); (case c => k_is); (case k => k_is)
    have f_whose : Dc.FnIn (L2.KOf KX) mg "whose" ["desk", "row"] (Dc.top 80) := by
      dsimp only [L2.KOf]
      refine' Dc.fnIn_mk KX G ?a ?l ?c ?k (fun _ _ _ _ _ _ us hl => by obtain ⟨a, b, rfl⟩ := Dc.us2 hl; rfl)
      (case a => k_is); (case l => k_is); (case c => k_is); (case k => k_is)
    have f_is_good : Dc.FnIn (L2.KOf KX) mg "is_good" ["desk", "kind", "place", "number", "last"] (Dc.top 81) := by
      dsimp only [L2.KOf]
      refine' Dc.fnIn_mk KX G ?a ?l ?c ?k (fun _ _ _ _ _ _ us hl => by obtain ⟨a, b, c, d, e, rfl⟩ := Dc.us5 hl; rfl)
      (case a => k_is); (case l => k_is); (case c => k_is); (case k => k_is)
    have f_tell_stay : Dc.FnIn (L2.KOf KX) mg "tell_stay" ["desk", "place"] (Dc.top 82) := by
      dsimp only [L2.KOf]
      refine' Dc.fnIn_mk KX G ?a ?l ?c ?k (fun _ _ _ _ _ _ us hl => by obtain ⟨a, b, rfl⟩ := Dc.us2 hl; rfl)
      (case a => k_is); (case l => k_is); (case c => k_is); (case k => k_is)
    have f_free_rooms : Dc.FnIn (L2.KOf KX) mg "free_rooms" ["desk"] (Dc.top 83) := by
      dsimp only [L2.KOf]
      refine' Dc.fnIn_mk KX G ?a ?l ?c ?k (fun _ _ _ _ _ _ us hl => by obtain ⟨a, rfl⟩ := Dc.us1 hl; rfl)
      (case a => k_is); (case l => k_is); (case c => k_is); (case k => k_is)
    have f_state : Dc.FnIn (L2.KOf KX) mg "state" ["desk"] (Dc.top 84) := by
      dsimp only [L2.KOf]
      refine' Dc.fnIn_mk KX G ?a ?l ?c ?k (fun _ _ _ _ _ _ us hl => by obtain ⟨a, rfl⟩ := Dc.us1 hl; rfl)
      (case a => k_is); (case l => k_is); (case c => k_is); (case k => k_is)
    have f_is_wrong_last : Dc.FnIn (L2.KOf KX) mg "is_wrong_last" ["desk", "last"] (Dc.top 85) := by
      dsimp only [L2.KOf]
      refine' Dc.fnIn_mk KX G ?a ?l ?c ?k (fun _ _ _ _ _ _ us hl => by obtain ⟨a, b, rfl⟩ := Dc.us2 hl; rfl)
      (case a => k_is); (case l => k_is); (case c => k_is); (case k => k_is)
    have f_no_more_cards : Dc.FnIn (L2.KOf KX) mg "no_more_cards" ["desk"] (Dc.top 86) := by
      dsimp only [L2.KOf]
      refine' Dc.fnIn_mk KX G ?a ?l ?c ?k (fun _ _ _ _ _ _ us hl => by obtain ⟨a, rfl⟩ := Dc.us1 hl; rfl)
      (case a => k_is); (case l => k_is); (case c => k_is); (case k => k_is)
    have f_no_more_numbers : Dc.FnIn (L2.KOf KX) mg "no_more_numbers" ["room"] (Dc.top 87) := by
      dsimp only [L2.KOf]
      refine' Dc.fnIn_mk KX G ?a ?l ?c ?k (fun _ _ _ _ _ _ us hl => by obtain ⟨a, rfl⟩ := Dc.us1 hl; rfl)
      (case a => k_is); (case l => k_is); (case c => k_is); (case k => k_is)
    have f_guest_card : Dc.FnIn (L2.KOf KX) mg "guest_card" ["desk", "place"] (Dc.top 88) := by
      dsimp only [L2.KOf]
      refine' Dc.fnIn_mk KX G ?a ?l ?c ?k (fun _ _ _ _ _ _ us hl => by obtain ⟨a, b, rfl⟩ := Dc.us2 hl; rfl)
      (case a => k_is); (case l => k_is); (case c => k_is); (case k => k_is)
    have f_make_card : Dc.FnIn (L2.KOf KX) mg "make_card" ["desk", "kind", "place", "number", "last"] (Dc.top 89) := by
      dsimp only [L2.KOf]
      refine' Dc.fnIn_mk KX G ?a ?l ?c ?k (fun _ _ _ _ _ _ us hl => by obtain ⟨a, b, c, d, e, rfl⟩ := Dc.us5 hl; rfl)
      (case a => k_is); (case l => k_is); (case c => k_is); (case k => k_is)
    have nb : ∃ a : Addr, mg "NUMBERS_BEHIND" = some (.ref a) ∧ ∀ H : L2.Hp, L2.SqT (L2.KOf KX) H a (Dc.behindN.map L2.V.int) := by
      dsimp only [L2.KOf]
      refine' Dc.nb_mk KX G ?e ?l
      (case e => k_is); (case l => k_is)
    have k_R : ∃ C : Addr, Dc.ClsIn (L2.KOf KX) mg "Room" "Room.__init__" (L2.inClass (Dc.top 58) 0) ["self", "zone"] C ∧ L2.NoAttr (L2.KOf KX) C "zone" ∧ L2.NoAttr (L2.KOf KX) C "number" ∧ L2.NoAttr (L2.KOf KX) C "stay_last" := by
      dsimp only [L2.KOf]
      refine' ⟨_, Dc.clsIn_mk KX G ?aC ?a ?i ?l ?c ?k ?pg ?hd ?po ?sa ?mk ?kc (fun _ _ _ _ _ _ us hl => by obtain ⟨a, b, rfl⟩ := Dc.us2 hl; rfl), ?n_zone, ?n_number, ?n_stay_last⟩
      (case aC => k_is); (case a => k_is); (case i => k_is); (case l => k_is); (case c => k_is); (case k => k_is); (case pg => k_is); (case hd => k_is); (case po => k_is); (case sa => k_is); (case mk => k_is); (case kc => k_is)
      (case n_zone => unfold L2.NoAttr; k_is); (case n_number => unfold L2.NoAttr; k_is); (case n_stay_last => unfold L2.NoAttr; k_is)
    have k_D : ∃ C : Addr, Dc.ClsIn (L2.KOf KX) mg "Desk" "Desk.__init__" (L2.inClass (Dc.top 59) 0) ["self", "key"] C ∧ L2.NoAttr (L2.KOf KX) C "key" ∧ L2.NoAttr (L2.KOf KX) C "day" ∧ L2.NoAttr (L2.KOf KX) C "staff_round" ∧ L2.NoAttr (L2.KOf KX) C "serial" ∧ L2.NoAttr (L2.KOf KX) C "rooms" := by
      dsimp only [L2.KOf]
      refine' ⟨_, Dc.clsIn_mk KX G ?aC ?a ?i ?l ?c ?k ?pg ?hd ?po ?sa ?mk ?kc (fun _ _ _ _ _ _ us hl => by obtain ⟨a, b, rfl⟩ := Dc.us2 hl; rfl), ?n_key, ?n_day, ?n_staff_round, ?n_serial, ?n_rooms⟩
      (case aC => k_is); (case a => k_is); (case i => k_is); (case l => k_is); (case c => k_is); (case k => k_is); (case pg => k_is); (case hd => k_is); (case po => k_is); (case sa => k_is); (case mk => k_is); (case kc => k_is)
      (case n_key => unfold L2.NoAttr; k_is); (case n_day => unfold L2.NoAttr; k_is); (case n_staff_round => unfold L2.NoAttr; k_is); (case n_serial => unfold L2.NoAttr; k_is); (case n_rooms => unfold L2.NoAttr; k_is)
    have k_L : ∃ C : Addr, Dc.ClsIn (L2.KOf KX) mg "Line" "Line.__init__" (L2.inClass (Dc.top 60) 0) ["self"] C ∧ L2.NoAttr (L2.KOf KX) C "desk" := by
      dsimp only [L2.KOf]
      refine' ⟨_, Dc.clsIn_mk KX G ?aC ?a ?i ?l ?c ?k ?pg ?hd ?po ?sa ?mk ?kc (fun _ _ _ _ _ _ us hl => by obtain ⟨a, rfl⟩ := Dc.us1 hl; rfl), ?n_desk⟩
      (case aC => k_is); (case a => k_is); (case i => k_is); (case l => k_is); (case c => k_is); (case k => k_is); (case pg => k_is); (case hd => k_is); (case po => k_is); (case sa => k_is); (case mk => k_is); (case kc => k_is)
      (case n_desk => unfold L2.NoAttr; k_is)
    obtain ⟨CR, k_R, nR_zone, nR_number, nR_stay_last⟩ := k_R
    obtain ⟨CD, k_D, nD_key, nD_day, nD_staff_round, nD_serial, nD_rooms⟩ := k_D
    obtain ⟨CL, k_L, nL_desk⟩ := k_L
    have T : Dc.Txt (L2.KOf KX) mg CR CD CL := ⟨c_GUEST_CARD, c_STAFF_CARD, c_SHUTTING_CARD, c_EMERGENCY_CARD, c_CARD_LENGTH, c_HEAD_LENGTH, c_MOST_ROOMS, c_EMERGENCY_PLACE, c_ALL_BITS, c_START_A, c_START_B, c_START_C, c_START_D, c_BEGIN, c_ROOM, c_DAY, c_COME, c_COPY, c_LOST, c_LONGER, c_LEAVE, c_SHUT, c_STAFF, c_RECALL, c_NEED, c_WHOSE, c_STAY, c_FREE, c_NO_ROOM, c_NO_STAY, c_HAS_STAY, c_WRONG_VALUE, c_NO_MORE, c_NO_DESK, c_NO_CARD, c_KEY_LENGTH, c_LAST_ZONE, c_ALL_ZONES, c_LAST_DAY, c_LAST_NUMBER, c_LAST_ROUND, c_MOST_CARDS, f_card_of, f_is_card, f_is_place, f_parts_of, f_tag_of, f_start_of, f_words_of, f_take_in, f_rounds_of, f_round_of, f_turned, f_number_of, f_bytes_of, f_answers, f_end_of_call, f_answer_call, f_is_at_room, f_answer_at_desk, f_answer_at_room, f_begin, f_add_room, f_set_day, f_is_over, f_come, f_copy_card, f_lose_card, f_stay_longer, f_leave, f_shut, f_staff_card, f_recall, f_emergency_card, f_whose, f_is_good, f_tell_stay, f_free_rooms, f_state, f_is_wrong_last, f_no_more_cards, f_no_more_numbers, f_guest_card, f_make_card, k_R, nR_zone, nR_number, nR_stay_last, k_D, nD_key, nD_day, nD_staff_round, nD_serial, nD_rooms, k_L, nL_desk, b_len, b_range, b_reversed, b_enumerate, nb⟩
    refine' Dc.top_mk KX G hmg T ?a ?l ?c ?k
    (case a => k_is); (case l => k_is); (case c => k_is); (case k => k_is)
  case S =>
    intro K H xs a hO hwi hask hx
    cases hx with
    | cons h1 h2 =>
      cases h2
      cases h1 with
      | lst hs ha =>
        have e := L2.ints_dw a.1 _ ha
        subst e
        exact ⟨_, a.1, rfl, hs, hask, fun H' p hp => .lst (L2.SqL.of hp) (L2.dw_ints _)⟩
#print axioms PySem.Challenge.cw_doorcards_s01_answers_holds
