import PyProof.Rows.All
import Wide.All
import OpenK.AllK
import Wide.FinOn
import PyProof.EqAt
import PyProof.EqKinds
import PyProof.TupleCall
import KE.BitLaws
import Open.SpecLaws
import KE.OsHead
import KE.OsGo
import PyProof.ExcInit
import PyProof.InstStoreFacts
import PyProof.ExcBaseAll.ValueError
import PyProof.ExcArgsOwn
import PyProof.RulesAs
import PyProof.StationsW
import PyProof.Draws
import PyProof.EnumMake
import PyProof.TupleIter
import PySem.Challenge.RW_lettershapesdesk_s04_put
set_option Elab.async false
set_option linter.all false
set_option maxRecDepth 100000
namespace L2
open PySem PySem.Spec PyProof.Rows
abbrev Key := Sum Int Str
def keyIs : Key → Value → Bool
  | .inl k, v => Value.isInt k v
  | .inr x, v => Value.isStrOf x v
def keyH (w : World) : Key → Int
  | .inl k => hashInt k
  | .inr x => hashStr w x
theorem keyIs_shape : ∀ {k : Key} {v : Value}, keyIs k v = true → (∃ i t, k = Sum.inl i ∧ v = Value.int i t) ∨ (∃ x t, k = Sum.inr x ∧ v = Value.str x t)
  | .inl i, v, h => by
    obtain ⟨t, e⟩ := Value.isInt_shape (k := i) (v := v) h
    exact .inl ⟨i, t, rfl, e⟩
  | .inr x, v, h => by
    obtain ⟨t, e⟩ := Value.isStrOf_shape (x := x) (v := v) h
    exact .inr ⟨x, t, rfl, e⟩
theorem key_ll (a b : Int) : decide ((Sum.inl a : Key) = Sum.inl b) = (a == b) := by
  by_cases e : a = b
  · subst e; simp
  · have h : ¬ (Sum.inl a : Key) = Sum.inl b := fun q => e (Sum.inl.inj q)
    rw [decide_eq_false h]
    exact (beq_eq_false_iff_ne.mpr e).symm
theorem key_rr (a b : Str) : decide ((Sum.inr a : Key) = Sum.inr b) = decide (a = b) := by
  by_cases e : a = b
  · subst e; simp
  · have h : ¬ (Sum.inr a : Key) = Sum.inr b := fun q => e (Sum.inr.inj q)
    rw [decide_eq_false h, decide_eq_false e]
theorem key_lr (a : Int) (b : Str) : decide ((Sum.inl a : Key) = Sum.inr b) = false := decide_eq_false (fun q => nomatch q)
theorem key_rl (a : Str) (b : Int) : decide ((Sum.inr a : Key) = Sum.inl b) = false := decide_eq_false (fun q => nomatch q)
def mixKind (prog : Program) (w : World) : PySem.KeyKind prog w Key where
  is := keyIs
  hash := keyH w
  inj := fun v a b ha hb => by
    rcases keyIs_shape ha with ⟨i, t, rfl, rfl⟩ | ⟨x, t, rfl, rfl⟩
    · rcases keyIs_shape hb with ⟨j, u, rfl, e⟩ | ⟨y, u, rfl, e⟩
      · injection e with e1 _; rw [e1]
      · exact nomatch e
    · rcases keyIs_shape hb with ⟨j, u, rfl, e⟩ | ⟨y, u, rfl, e⟩
      · exact nomatch e
      · injection e with e1 _; rw [e1]
  byValue := fun k v h => by
    rcases keyIs_shape h with ⟨i, t, rfl, rfl⟩ | ⟨x, t, rfl, rfl⟩ <;> rfl
  pyHash := fun hv h => by
    rcases keyIs_shape hv with ⟨i, t, rfl, rfl⟩ | ⟨x, t, rfl, rfl⟩
    · exact wpAny_pyHash_int h
    · exact wpAny_pyHash_str h
  eqBool := fun hu hv h => by
    rcases keyIs_shape hu with ⟨i, t, rfl, rfl⟩ | ⟨x, t, rfl, rfl⟩
    · rcases keyIs_shape hv with ⟨j, u, rfl, rfl⟩ | ⟨y, u, rfl, rfl⟩
      · rw [key_ll] at h; exact wpAny_eqBool_int h
      · rw [key_lr] at h; exact SeqAt.EqAt.int_str i t y u _ _ _ _ h
    · rcases keyIs_shape hv with ⟨j, u, rfl, rfl⟩ | ⟨y, u, rfl, rfl⟩
      · rw [key_rl] at h; exact SeqAt.EqAt.str_int x t j u _ _ _ _ h
      · rw [key_rr] at h; exact wpAny_eqBool_str h
  «strs» := fun k x t v h => by
    rcases keyIs_shape h with ⟨i, u, rfl, e⟩ | ⟨y, u, rfl, e⟩
    · exact nomatch e
    · injection e with e1 _
      subst e1
      cases v <;> rfl
end L2
namespace L2
open PySem PySem.Spec PyProof.Rows
inductive V where
  | non | bl (b : Bool) | int (i : Int) | str (x : Str) | byt (b : Array UInt8) | flt (b : UInt64) | ref (a : Addr) | ty (n : String)
  deriving DecidableEq
def RelV : V → Value → Prop
  | .non, u => u = Value.none
  | .bl b, u => u = Value.bool b
  | .int i, u => ∃ t, u = Value.int i t
  | .str x, u => ∃ t, u = Value.str x t
  | .byt b, u => ∃ t, u = Value.bytes b t
  | .flt b, u => ∃ t, u = Value.float b t
  | .ref a, u => u = Value.ref a
  | .ty n, u => u = Value.type n
abbrev Vals : List V → List Value → Prop := Paired RelV
theorem Vals.length {xs : List V} {us : List Value} (r : Vals xs us) : xs.length = us.length := Paired.length r
theorem Vals.get : ∀ {xs : List V} {us : List Value} {i : Nat} {x : V}, Vals xs us → xs[i]? = some x → ∃ u, us[i]? = some u ∧ RelV x u
  | _, _, _, _, .nil, e => by simp at e
  | _, _, 0, _, .cons r _, e => by simp at e; subst e; exact ⟨_, rfl, r⟩
  | _, _, i + 1, x, .cons _ t, e => by
    obtain ⟨u, h1, h2⟩ := Vals.get (i := i) (x := x) t (by simpa using e)
    exact ⟨u, by simpa using h1, h2⟩
theorem Vals.append : ∀ {xs ys : List V} {us ws : List Value}, Vals xs us → Vals ys ws → Vals (xs ++ ys) (us ++ ws)
  | _, _, _, _, .nil, s => s
  | _, _, _, _, .cons r t, s => .cons r (Vals.append t s)
theorem Vals.take : ∀ {xs : List V} {us : List Value} (n : Nat), Vals xs us → Vals (xs.take n) (us.take n)
  | _, _, 0, _ => .nil
  | _, _, _ + 1, .nil => .nil
  | _, _, n + 1, .cons r t => .cons r (Vals.take n t)
theorem Vals.drop : ∀ {xs : List V} {us : List Value} (n : Nat), Vals xs us → Vals (xs.drop n) (us.drop n)
  | _, _, 0, r => r
  | _, _, _ + 1, .nil => .nil
  | _, _, n + 1, .cons _ t => Vals.drop n t
def RelO : Option V → Option Value → Prop
  | some v, some u => RelV v u
  | none, none => True
  | _, _ => False
def KV {κ : Type} : List (κ × V) → List (κ × Value) → Prop := Paired fun (p : κ × V) (q : κ × Value) => p.1 = q.1 ∧ RelV p.2 q.2
def kV : Key → V
  | .inl i => .int i
  | .inr x => .str x
inductive HO where
  /-- a list -/
  | lst (xs : List V)
  /-- a tuple (never changes) -/
  | tup (xs : List V)
  /-- a dict whose keys are ints and texts; one whose keys are tuples of ints and texts (the empty one is both) -/
  | dK (kvs : List (Key × V)) | dT (kvs : List (List Key × V))
  /-- a set of ints: its members, its size -/
  | set (S : Int → Bool) (n : Nat)
  /-- an instance of the class at C, its dict at dx, its attributes -/
  | ins (C dx : Addr) (fs : List (Str × V))
  /-- the dict of the instance at x -/
  | own (x : Addr)
  /-- the dict of an exception -/
  | xd (fs : List (Str × V))
  /-- a bound method, f of x -/
  | met (f x : Addr)
  /-- a range object lo, lo + 1, .. below hi -/
  | rng (lo hi : Int)
  /-- a thing that is known to the object (the script; a dict while a loop walks it): read, never written while it is so -/
  | frz (o : Obj) (u : HO)
  /-- a code object's table -/
  | tbl (ps : Array Value)
  /-- any other thing, by what is true of its one object (a def of one's own: SetO a S n := HO.ext fun h => ..) -/
  | ext (φ : Heap → Prop)
abbrev Hp := Addr → Option HO
def upd (H : Hp) (a : Addr) (o : HO) : Hp := fun b => if b = a then some o else H b
theorem upd_same {H : Hp} {a : Addr} {o : HO} : upd H a o a = some o := by unfold upd; rw [if_pos rfl]
theorem upd_ne {H : Hp} {a b : Addr} {o : HO} (h : b ≠ a) : upd H a o b = H b := by unfold upd; rw [if_neg h]
theorem ne_of {H : Hp} {a b : Addr} {o u : HO} (h : H a = some o) (h' : H b = some u) (d : o ≠ u) : a ≠ b := by
  intro e; subst e; rw [h] at h'; exact d (Option.some.inj h')
theorem ne_of_none {H : Hp} {a b : Addr} {o : HO} (h : H a = some o) (h' : H b = none) : a ≠ b := by
  intro e; subst e; rw [h] at h'; cases h'
section
variable (P : Program) (w : World)
def ObjOk (H : Hp) (h : Heap) (a : Addr) : HO → Prop
  | .lst xs => xs.length ≤ sizeLine ∧ ∃ (its : List Value) (n : Nat), Vals xs its ∧ h.get? a = some { cls := .type "list", data := .seq its.toArray n }
  | .tup xs => xs.length ≤ sizeLine ∧ ∃ its : List Value, Vals xs its ∧ IsTup h a its.toArray
  | .dK kvs => kvs.length ≤ sizeLine ∧ (a == sysModules) = false ∧ ∃ vs, KV kvs vs ∧ h.DictOf (mixKind P w) a vs
  | .dT kvs => kvs.length ≤ sizeLine ∧ (a == sysModules) = false ∧ ∃ xs : List (List Key × Addr × Value),
      Paired (fun (p : List Key × V) (q : List Key × Addr × Value) => p.1 = q.1 ∧ H q.2.1 = some (.tup (p.1.map kV)) ∧ RelV p.2 q.2.2) kvs xs ∧
      ∃ o es ep, h.get? a = some o ∧ o.ExactDict ∧ o.data = .dict es ep ∧ es.toList = xs.map (entryOfKey (tupleKind (mixKind P w))) ∧ (xs.map (·.1)).Nodup
  | .set S n => h.SetOf (intKind P w) a S n
  | .ins C dx fs => H dx = some (.own a) ∧ fs.length ≤ 1000 ∧ dx ≠ a ∧ h.get? a = some (PySem.W.instObj C dx) ∧
      ∃ mA, h.Ns1 dx mA ∧ (∀ f, RelO (fs.lookup f) (mA f)) ∧ PySem.Within mA (fs.map (·.1))
  | .own _ => ∃ o, h.get? a = some o
  | .xd fs => ∃ mA, h.Ns1 a mA ∧ ∀ f, RelO (fs.lookup f) (mA f)
  | .rng lo hi => ∃ t u v, h.get? a = some { cls := .type "range", data := .fields #[.int lo t, .int hi u, .int 1 v] }
  | .frz o u => h.get? a = some o ∧ ObjOk H h a u
  | .tbl ps => h.get? a = some { cls := .none, data := .fields ps }
  | .met f x => h.get? a = some (PySem.W.methodObj (.ref f) (.ref x))
  | .ext φ => φ h ∧ (∃ o, h.get? a = some o) ∧ ∀ h1 h2 : Heap, φ h1 → (∀ o, h1.get? a = some o → h2.get? a = some o) → φ h2
def HOk (H : Hp) (h : Heap) : Prop := ∀ a o, H a = some o → ObjOk P w H h a o
end
section
variable {P : Program} {w : World} {H H' : Hp} {h h' : Heap} {a : Addr} {o : HO}
theorem ObjOk.lt (x : ObjOk P w H h a o) : a < h.objs.size := by
  cases o with
  | lst xs => obtain ⟨_, _, _, _, e⟩ := x; exact Heap.lt_size e
  | tup xs => obtain ⟨_, _, _, p⟩ := x; exact p.lt
  | dK kvs => obtain ⟨_, _, _, _, o, _, _, e, _⟩ := x; exact Heap.lt_size e
  | dT kvs => obtain ⟨_, _, _, _, o, _, _, e, _⟩ := x; exact Heap.lt_size e
  | set S n => obtain ⟨o, _, _, _, e, _⟩ := x; exact Heap.lt_size e
  | ins C dx fs => obtain ⟨_, _, _, e, _⟩ := x; exact Heap.lt_size e
  | own y => obtain ⟨_, e⟩ := x; exact Heap.lt_size e
  | xd fs => obtain ⟨_, ⟨_, _, _, e, _⟩, _⟩ := x; exact Heap.lt_size e
  | rng lo hi => obtain ⟨_, _, _, e⟩ := x; exact Heap.lt_size e
  | frz ob u => obtain ⟨e, _⟩ := x; exact Heap.lt_size e
  | tbl ps => exact Heap.lt_size (show h.get? a = some _ from x)
  | met f y => exact Heap.lt_size (show h.get? a = some _ from x)
  | ext φ => obtain ⟨_, ⟨_, e⟩, _⟩ := x; exact Heap.lt_size e
theorem Paired.mapP {α β : Type} {F G : α → β → Prop} : ∀ {l₁ : List α} {l₂ : List β}, Paired F l₁ l₂ → (∀ a b, F a b → G a b) → Paired G l₁ l₂
  | _, _, .nil, _ => .nil
  | _, _, .cons r t, f => .cons (f _ _ r) (Paired.mapP t f)
theorem ObjOk.stay (x : ObjOk P w H h a o) (k : ∀ b u, (b = a ∨ H b = some (.own a)) → h.get? b = some u → h'.get? b = some u)
    (ho : ∀ b, H b = some (.own a) → H' b = some (.own a)) (ht : ∀ b xs, H b = some (.tup xs) → H' b = some (.tup xs)) : ObjOk P w H' h' a o := by
  induction o with
  | lst xs => obtain ⟨z, its, n, r, e⟩ := x; exact ⟨z, its, n, r, k _ _ (.inl rfl) e⟩
  | tup xs => obtain ⟨z, its, r, ob, e, c⟩ := x; exact ⟨z, its, r, ob, k _ _ (.inl rfl) e, c⟩
  | dK kvs => obtain ⟨z, y, vs, r, ob, es, ep, e, c⟩ := x; exact ⟨z, y, vs, r, ob, es, ep, k _ _ (.inl rfl) e, c⟩
  | dT kvs =>
    obtain ⟨z, y, xs, r, ob, es, ep, e, c⟩ := x
    exact ⟨z, y, xs, Paired.mapP r fun p q z => ⟨z.1, ht _ _ z.2.1, z.2.2⟩, ob, es, ep, k _ _ (.inl rfl) e, c⟩
  | set S n => obtain ⟨ob, es, ep, t, e, c⟩ := x; exact ⟨ob, es, ep, t, k _ _ (.inl rfl) e, c⟩
  | ins C dx fs =>
    obtain ⟨d, z, ne, e, mA, ⟨od, es, ep, e2, c⟩, r⟩ := x
    exact ⟨ho _ d, z, ne, k _ _ (.inl rfl) e, mA, ⟨od, es, ep, k _ _ (.inr d) e2, c⟩, r⟩
  | own y => obtain ⟨ob, e⟩ := x; exact ⟨ob, k _ _ (.inl rfl) e⟩
  | xd fs => obtain ⟨mA, ⟨od, es, ep, e, c⟩, r⟩ := x; exact ⟨mA, ⟨od, es, ep, k _ _ (.inl rfl) e, c⟩, r⟩
  | rng lo hi => obtain ⟨t, u, v, e⟩ := x; exact ⟨t, u, v, k _ _ (.inl rfl) e⟩
  | frz ob u ih => obtain ⟨e, q⟩ := x; exact ⟨k _ _ (.inl rfl) e, ih q⟩
  | tbl ps =>
    have e : h.get? a = some { cls := .none, data := .fields ps } := x
    show h'.get? a = some { cls := .none, data := .fields ps }
    exact k a _ (.inl rfl) e
  | met f y =>
    have e : h.get? a = some (PySem.W.methodObj (.ref f) (.ref y)) := x
    show h'.get? a = some (PySem.W.methodObj (.ref f) (.ref y))
    exact k a _ (.inl rfl) e
  | ext φ => obtain ⟨p, ⟨o, e⟩, st⟩ := x; exact ⟨st _ _ p fun o q => k _ _ (.inl rfl) q, ⟨o, k _ _ (.inl rfl) e⟩, st⟩
theorem HOk.lt (x : HOk P w H h) (e : H a = some o) : a < h.objs.size := (x a o e).lt
theorem HOk.fresh (x : HOk P w H h) (e : h.objs.size ≤ a) : H a = none := by
  cases q : H a with
  | none => rfl
  | some u => exact absurd (Nat.lt_of_lt_of_le (x.lt q) e) (Nat.lt_irrefl _)
theorem HOk.kept (x : HOk P w H h) (k : ∀ b u, h.get? b = some u → h'.get? b = some u) : HOk P w H h' := fun a o e =>
  (x a o e).stay (fun b u _ q => k b u q) (fun _ q => q) fun _ _ q => q
theorem HOk.laid (x : HOk P w H h) (k : ∀ b u, h.get? b = some u → h'.get? b = some u) (hp : h.objs.size ≤ a) (new : ObjOk P w (upd H a o) h' a o) : HOk P w (upd H a o) h' := fun b u e => by
  have hn := x.fresh hp
  by_cases hb : b = a
  · subst hb; rw [upd_same] at e; cases e; exact new
  · rw [upd_ne hb] at e
    exact (x b u e).stay (fun c v _ q => k c v q) (fun c q => by rw [upd_ne (ne_of_none q hn)]; exact q) fun c xs q => by rw [upd_ne (ne_of_none q hn)]; exact q
end
def Rd (H : Hp) (a : Addr) (u : HO) : Prop := H a = some u ∨ ∃ o, H a = some (.frz o u)
theorem Rd.ok {P : Program} {w : World} {H : Hp} {h : Heap} {a : Addr} {u : HO} (r : Rd H a u) (x : HOk P w H h) : ObjOk P w H h a u := by
  rcases r with r | ⟨o, r⟩
  · exact x a u r
  · obtain ⟨_, q⟩ := x a _ r
    exact q
def Mut : Option HO → Prop
  | some (.lst _) => True
  | some (.dK _) => True
  | some (.dT _) => True
  | some (.set _ _) => True
  | some (.ins _ _ _) => True
  | some (.ext _) => True
  | _ => False
section
variable {P : Program} {w : World} {H : Hp} {h h' : Heap} {x e : Addr} {o' : HO}
theorem HOk.write (ok : HOk P w H h) (mu : Mut (H x)) (he : e = x ∨ H e = some (.own x)) (k : ∀ b u, b ≠ e → h.get? b = some u → h'.get? b = some u) (heo : ∃ u, h'.get? e = some u)
    (new : ObjOk P w (upd H x o') h' x o') : HOk P w (upd H x o') h' := fun b u q => by
  have nown : ∀ c y, H c = some (.own y) → c ≠ x := fun c y r z => by subst z; rw [r] at mu; exact mu
  have ntup : ∀ c xs, H c = some (.tup xs) → c ≠ x := fun c xs r z => by subst z; rw [r] at mu; exact mu
  by_cases hb : b = x
  · subst hb; rw [upd_same] at q; cases q; exact new
  · rw [upd_ne hb] at q
    by_cases hbe : b = e
    · have q' : H b = some (.own x) := by
        rcases he with z | z
        · exact absurd (hbe.trans z) hb
        · rw [hbe]; exact z
      rw [q] at q'; cases q'
      obtain ⟨v, hv⟩ := heo
      exact ⟨v, by rw [hbe]; exact hv⟩
    · refine (ok b u q).stay (fun c v hc r => k c v ?_ r) (fun c r => by rw [upd_ne (nown c b r)]; exact r) fun c xs r => by rw [upd_ne (ntup c xs r)]; exact r
      rcases hc with rfl | hc
      · exact hbe
      · rintro rfl
        rcases he with z | z
        · exact nown c b hc z
        · rw [hc] at z; cases z; exact hb rfl
end
structure Un (fs ex : List Addr) (H H' : Hp) (h h' : Heap) : Prop where
  keep : ∀ b o, h.get? b = some o → H b = none → b ∉ fs → b ∉ ex → h'.get? b = some o
  slot : ∀ b o, h.get? b = some o → H b = none → b ∈ fs → b ∉ ex → ∃ sl, h'.get? b = some { o with slots := sl }
  free : ∀ b o, h.get? b = some o → H b = none → b ∉ ex → H' b = none
  there : ∀ b o, h.get? b = some o → b ∉ ex → ∃ o', h'.get? b = some o'
  tups : ∀ b xs, H b = some (.tup xs) → H' b = some (.tup xs)
  frzs : ∀ b o u, H b = some (.frz o u) → H' b = some (.frz o u)
  tbls : ∀ b ps, H b = some (.tbl ps) → ∃ more, H' b = some (.tbl (ps ++ more))
section
variable {fs fs' ex ex' : List Addr} {H H1 H2 : Hp} {h h1 h2 h' : Heap} {a x e : Addr} {o : HO}
theorem Un.any (u : Un fs ex H H1 h h1) {b : Addr} {ob : Obj} (q : h.get? b = some ob) (n : H b = none) (hx : b ∉ ex) : ∃ sl, h1.get? b = some { ob with slots := sl } := by
  by_cases hb : b ∈ fs
  · exact u.slot b ob q n hb hx
  · exact ⟨ob.slots, u.keep b ob q n hb hx⟩
theorem Un.kept (k : ∀ b u, h.get? b = some u → h'.get? b = some u) : Un fs ex H H h h' :=
  ⟨fun b ob q _ _ _ => k b ob q, fun b ob q _ _ _ => ⟨ob.slots, k b ob q⟩, fun _ _ _ n _ => n, fun b ob q _ => ⟨ob, k b ob q⟩, fun _ _ q => q, fun _ _ _ q => q, fun _ ps q => ⟨#[], by rw [q]; simp⟩⟩
theorem Un.refl : Un fs ex H H h h := Un.kept fun _ _ q => q
theorem Un.laid (k : ∀ b u, h.get? b = some u → h'.get? b = some u) (hp : h.objs.size ≤ a) (hn : H a = none) : Un fs ex H (upd H a o) h h' where
  keep := fun b u q _ _ _ => k b u q
  slot := fun b u q _ _ _ => ⟨u.slots, k b u q⟩
  free := fun b u q n _ => by rw [upd_ne (Nat.ne_of_lt (Nat.lt_of_lt_of_le (Heap.lt_size q) hp))]; exact n
  there := fun b u q _ => ⟨u, k b u q⟩
  tups := fun b xs q => by rw [upd_ne (ne_of_none q hn)]; exact q
  frzs := fun b u xs q => by rw [upd_ne (ne_of_none q hn)]; exact q
  tbls := fun b ps q => ⟨#[], by rw [upd_ne (ne_of_none q hn), q]; simp⟩
theorem Un.write (mu : Mut (H x)) (he : e = x ∨ H e = some (.own x)) (k : ∀ b u, b ≠ e → h.get? b = some u → h'.get? b = some u) (heo : ∃ u, h'.get? e = some u) : Un fs ex H (upd H x o) h h' := by
  have hx : ∀ b, H b = none → b ≠ x := fun b n z => by subst z; rw [n] at mu; exact mu
  have hb : ∀ b, H b = none → b ≠ e := fun b n z => by
    subst z
    rcases he with r | r
    · exact hx b n r
    · rw [n] at r; cases r
  have hm : ∀ b u, H b = some u → ¬ Mut (some u) → b ≠ x := fun b u q nm z => by subst z; rw [q] at mu; exact nm mu
  refine ⟨fun b u q n _ _ => k b u (hb b n) q, fun b u q n _ _ => ⟨u.slots, k b u (hb b n) q⟩, fun b u q n _ => by rw [upd_ne (hx b n)]; exact n, fun b u q _ => ?_,
    fun b xs q => by rw [upd_ne (hm b _ q fun z => z)]; exact q, fun b u xs q => by rw [upd_ne (hm b _ q fun z => z)]; exact q, fun b ps q => ⟨#[], by rw [upd_ne (hm b _ q fun z => z), q]; simp⟩⟩
  by_cases hbe : b = e
  · subst hbe; exact heo
  · exact ⟨u, k b u hbe q⟩
end
def trk (h : Heap) (H : Hp) : List Addr := (List.range h.objs.size).filter fun a => (H a).isSome
def hidT (h : Heap) (H : Hp) : Heap := PySem.W.hideAll h (trk h H)
theorem hidT_size (h : Heap) (H : Hp) : (hidT h H).objs.size = h.objs.size := PySem.W.hideAll_size _ _
theorem hidT_get {h : Heap} {H : Hp} {b : Addr} {o : Obj} (e : h.get? b = some o) (n : H b = none) : (hidT h H).get? b = some o :=
  PySem.W.hideAll_get _ e fun hm => by
    have q : (H b).isSome = true := (List.mem_filter.mp hm).2
    rw [n] at q; simp at q
theorem of_hidT {h : Heap} {H : Hp} {b : Addr} {o : Obj} (e : (hidT h H).get? b = some o) : h.get? b = some o ∧ H b = none := by
  have e' : h.get? b = some o := PySem.W.of_hideAll (trk h H) e
  refine ⟨e', ?_⟩
  cases q : H b with
  | none => rfl
  | some x =>
    have hm : b ∈ trk h H := List.mem_filter.mpr ⟨List.mem_range.mpr (Heap.lt_size e'), by simp [q]⟩
    have z : (hidT h H).get? b = none := PySem.W.hideAll_none (trk h H) hm
    rw [z] at e; cases e
end L2
namespace L2
open PySem PySem.Spec PyProof.Rows
structure Mod (K : PySem.W.Frag) (mg : Str → Option Value) (base : Heap) : Prop where
  kin : K.In base
  glob : base.Ns mainGlobals mg
  blt : ∃ mb, base.Ns builtinsNs mb ∧ ∀ x : Str, x ≠ "__name__" → mb x = bootBuiltins x
  nolimit : base.NoLimit
/-- the context: a def's body (or a comprehension's block) running. base: fixed through the whole law; s₀, H₀: the entry; outer: the frames whose slots others may change (a def's callers); stack: all frames that run;
   ex: iterators that were made ahead of the entry and are walked here (a comprehension's); fn: the names whose cells were made at the entry (a def: all; a comprehension's block: its own); calm: not within an except suite; pn: pins that every state bears; xe: what is wanted of an exception that leaves the code -/
structure Cx where
  prog : Program
  w : World
  K : PySem.W.Frag
  mg : Str → Option Value
  base : Heap
  A : Around
  N : List Str
  s_0 : Shared
  H_0 : Hp
  env : Env
  outer : List Env
  stack : List Env
  ex : List Addr
  fn : Str → Bool
  calm : Bool
  pn : List (Addr × Obj)
  xe : Value → Shared → Prop
def frs (l : List Env) : List Addr := l.filterMap (·.frame)
abbrev Cx.fs (X : Cx) : List Addr := frs X.outer
def Vis (sc : Scope) (x : Str) : Prop := sc.names.lookup x = some .local ∨ sc.names.lookup x = some .cell ∨ sc.names.lookup x = some .free
def Loc (sc : Scope) (x : Str) : Prop := sc.names.lookup x = some .local ∨ sc.names.lookup x = some .cell
def Look (env : Env) (h : Heap) (m : Str → Option Value) (x : Str) (u : Value) : Prop :=
  (env.kindOf x = some .local ∧ m x = some u) ∨ ((env.kindOf x = some .cell ∨ env.kindOf x = some .free) ∧ ∃ c, env.cells.lookup x = some c ∧ h.IsCell c (some u))
structure Cx.Ok (X : Cx) : Prop where
  mod : Mod X.K X.mg X.base
  kind : X.env.scope.kind = .function
  glob : X.env.globals = mainGlobals
  blt : X.env.builtins = builtinsNs
  above : X.s_0.heap.objs.size ≤ X.env.locals
  inj : ∀ x y c, X.env.cells.lookup x = some c → X.env.cells.lookup y = some c → x = y
  has : ∀ x, (X.env.kindOf x = some .cell ∨ X.env.kindOf x = some .free) → ∃ c, X.env.cells.lookup x = some c
  cab : ∀ x c, X.fn x = true → X.env.cells.lookup x = some c → X.s_0.heap.objs.size ≤ c
  hd : X.calm = true → X.A.handled = none
  frames : X.A.frames = some X.stack
  stk : X.stack = X.outer ∨ (X.stack = X.env :: X.outer ∧ X.env.frame = some X.env.locals)
  exf : ∀ b ∈ X.ex, b ≠ X.env.locals ∧ ∀ x c, X.env.cells.lookup x = some c → c ≠ b
  bs : ∀ b o, X.base.get? b = some o → X.s_0.heap.get? b = some o ∧ X.H_0 b = none
  bsz : X.base.objs.size ≤ X.s_0.heap.objs.size
  noex : ∀ b o, X.base.get? b = some o → b ∉ X.ex
  exfs : ∀ b ∈ X.ex, b ∉ X.fs
  funs : X.s_0.heap.FunFrames X.base X.outer
  frf : ∀ b ∈ X.fs, X.H_0 b = none
structure Inv (X : Cx) (pins : List (Addr × Obj)) (σ : List (Option V)) (H : Hp) (s : Shared) : Prop where
  ok : X.Ok
  os : s.os = X.s_0.os
  bare : AllBare s.gens
  base : Un X.fs X.ex X.H_0 H X.s_0.heap s.heap
  loc : ∃ m, s.heap.Ns X.env.locals m ∧ ∀ (i : Nat) (x : Str) (v : V), X.N[i]? = some x → σ[i]? = some (some v) → Vis X.env.scope x → ∃ u, RelV v u ∧ Look X.env s.heap m x u
  cell : ∀ x c, X.env.cells.lookup x = some c → ∃ v, s.heap.IsCell c v
  free : H X.env.locals = none
  freeC : ∀ x c, X.env.cells.lookup x = some c → H c = none
  pin : ∀ p ∈ X.pn ++ pins, s.heap.get? p.1 = some p.2 ∧ H p.1 = none ∧ p.1 ≠ X.env.locals ∧ p.1 ∉ X.fs ∧ ∀ v, p.2.data ≠ .cell v
  hok : HOk X.prog X.w H s.heap
  len : σ.length = X.N.length
section
variable {X : Cx} {pins : List (Addr × Obj)} {σ : List (Option V)} {H H' : Hp} {s : Shared} {h' : Heap}
theorem Cx.Ok.nofr (ok : X.Ok) {b : Addr} {o : Obj} (e : X.base.get? b = some o) : b ∉ X.fs := fun hb => by
  have := (ok.funs.mem hb).1
  rw [e] at this; cases this
theorem Inv.bs (I : Inv X pins σ H s) : ∀ b o, X.base.get? b = some o → s.heap.get? b = some o ∧ H b = none := fun b o e =>
  ⟨I.base.keep b o (I.ok.bs b o e).1 (I.ok.bs b o e).2 (I.ok.nofr e) (I.ok.noex b o e), I.base.free b o (I.ok.bs b o e).1 (I.ok.bs b o e).2 (I.ok.noex b o e)⟩
theorem Inv.bk (I : Inv X pins σ H s) : ∀ b o, X.base.get? b = some o → s.heap.get? b = some o := fun b o e => (I.bs b o e).1
theorem Inv.mod (I : Inv X pins σ H s) : Mod X.K X.mg X.base := I.ok.mod
theorem Inv.kIn (I : Inv X pins σ H s) : X.K.In s.heap := I.ok.mod.kin.keeps I.bk
theorem Inv.lt (I : Inv X pins σ H s) : X.env.locals < s.heap.objs.size := let ⟨_, hn, _⟩ := I.loc; hn.lt
theorem Inv.sz (I : Inv X pins σ H s) : X.s_0.heap.objs.size ≤ s.heap.objs.size := Nat.le_trans I.ok.above (Nat.le_of_lt I.lt)
theorem Inv.nofs (I : Inv X pins σ H s) {a : Addr} (h : s.heap.objs.size ≤ a) : a ∉ X.fs := fun hb => by
  obtain ⟨_, o, ho, _⟩ := I.ok.funs.mem hb
  exact absurd (Nat.lt_of_lt_of_le (Heap.lt_size ho) (Nat.le_trans I.sz h)) (Nat.lt_irrefl _)
theorem Inv.cne (I : Inv X pins σ H s) : ∀ x c, X.env.cells.lookup x = some c → c ≠ X.env.locals := fun x c e z => by
  obtain ⟨v, o, ho, hd⟩ := I.cell x c e
  obtain ⟨m, ⟨o', es, ep, ho', hd', _⟩, _⟩ := I.loc
  rw [z, ho'] at ho; cases ho; rw [hd'] at hd; cases hd
theorem Inv.funs (I : Inv X pins σ H s) : s.heap.FunFrames X.base X.outer := by
  have all : ∀ (l : List Env), (∀ b ∈ frs l, b ∈ X.fs) → X.s_0.heap.FunFrames X.base l → s.heap.FunFrames X.base l := by
    intro l
    induction l with
    | nil => intro _ _; trivial
    | cons env r ih =>
      intro hs hl
      obtain ⟨hk, ⟨L, o, hf, hn, ho, hd⟩, hr⟩ := hl
      have hL : L ∈ X.fs := hs L (by unfold frs; rw [List.filterMap_cons, hf]; exact List.mem_cons_self)
      obtain ⟨sl, e⟩ := I.base.slot L o ho (I.ok.frf L hL) hL fun z => I.ok.exfs L z hL
      exact ⟨hk, ⟨L, _, hf, hn, e, hd⟩, ih (fun b hb => hs b (by unfold frs; rw [List.filterMap_cons, hf]; exact List.mem_cons_of_mem _ hb)) hr⟩
  exact all X.outer (fun _ hb => hb) I.ok.funs
theorem Inv.stack (I : Inv X pins σ H s) : s.heap.FunFrames X.base X.stack := by
  rcases I.ok.stk with e | ⟨e, hf⟩
  · rw [e]; exact I.funs
  · rw [e]
    obtain ⟨m, hn, _⟩ := I.loc
    refine .cons (by rw [I.ok.kind]; decide) hf hn ?_ I.funs
    exact Heap.get?_none_of_le (Nat.le_trans I.ok.bsz I.ok.above)
theorem Inv.stkSub (I : Inv X pins σ H s) : ∀ b ∈ frs X.stack, b ∈ X.env.locals :: X.fs := fun b hb => by
  rcases I.ok.stk with e | ⟨e, hf⟩
  · rw [e] at hb; exact List.mem_cons_of_mem _ hb
  · rw [e] at hb
    unfold frs at hb
    rw [List.filterMap_cons, hf] at hb
    exact hb
theorem Inv.stkFree (I : Inv X pins σ H s) : ∀ b ∈ frs X.stack, H b = none := fun b hb => by
  rcases List.mem_cons.mp (I.stkSub b hb) with e | hb
  · rw [e]; exact I.free
  · obtain ⟨_, o, ho, _⟩ := I.ok.funs.mem hb
    exact I.base.free b o ho (I.ok.frf b hb) fun z => I.ok.exfs b z hb
theorem Inv.step {g' : Array GenState} {t' : Nat} {d' : Drawn} {ch : List Addr} (I : Inv X pins σ H s)
    (hch : ∀ b ∈ ch, (b ∈ X.ex ∨ X.s_0.heap.objs.size ≤ b) ∧ b ≠ X.env.locals ∧ (∀ x c, X.env.cells.lookup x = some c → c ≠ b) ∧ ∀ p ∈ X.pn ++ pins, p.1 ≠ b)
    (keep : ∀ b o, b ≠ X.env.locals → b ∉ X.fs → b ∉ ch → s.heap.get? b = some o → H b = none → h'.get? b = some o)
    (slot : ∀ b o, b ≠ X.env.locals → b ∈ X.fs → b ∉ ch → s.heap.get? b = some o → H b = none → ∃ sl, h'.get? b = some { o with slots := sl }) (free : ∀ b o, b ∉ ch → s.heap.get? b = some o → H b = none → H' b = none)
    (there : ∀ b o, b ∉ ch → s.heap.get? b = some o → ∃ o', h'.get? b = some o')
    (tups : ∀ b xs, H b = some (.tup xs) → H' b = some (.tup xs)) (frzs : ∀ b o u, H b = some (.frz o u) → H' b = some (.frz o u)) (tbls : ∀ b ps, H b = some (.tbl ps) → ∃ more, H' b = some (.tbl (ps ++ more)))
    (ns : ∀ m, s.heap.Ns X.env.locals m → h'.Ns X.env.locals m) (hok : HOk X.prog X.w H' h') (hg : AllBare g') :
    Inv X pins σ H' { s with heap := h', gens := g', drawn := d', toks := t' } := by
  have neL : ∀ b o, X.s_0.heap.get? b = some o → b ≠ X.env.locals := fun b o e => Nat.ne_of_lt (Nat.lt_of_lt_of_le (Heap.lt_size e) I.ok.above)
  have neC : ∀ b o, X.s_0.heap.get? b = some o → b ∉ X.ex → b ∉ ch := fun b o e hx hb => by
    rcases (hch b hb).1 with z | z
    · exact hx z
    · exact absurd (Nat.lt_of_lt_of_le (Heap.lt_size e) z) (Nat.lt_irrefl _)
  have cellK : ∀ x c, X.env.cells.lookup x = some c → ∀ v, s.heap.IsCell c v → h'.IsCell c v := fun x c e v ⟨o, ho, hd⟩ => by
    have nch : c ∉ ch := fun z => (hch c z).2.2.1 x c e rfl
    by_cases hc : c ∈ X.fs
    · obtain ⟨sl, q⟩ := slot c o (I.cne x c e) hc nch ho (I.freeC x c e)
      exact ⟨_, q, hd⟩
    · exact ⟨o, keep c o (I.cne x c e) hc nch ho (I.freeC x c e), hd⟩
  refine ⟨I.ok, I.os, hg, ⟨fun b o e n hb hx => ?_, fun b o e n hb hx => ?_, fun b o e n hx => ?_, fun b o e hx => ?_, fun b xs e => tups b xs (I.base.tups b xs e), fun b o xs e => frzs b o xs (I.base.frzs b o xs e), fun b ps e => ?_⟩, ?_, fun x c e => ?_, ?_, fun x c e => ?_, fun p hp => ?_, hok, I.len⟩
  · exact keep b o (neL b o e) hb (neC b o e hx) (I.base.keep b o e n hb hx) (I.base.free b o e n hx)
  · obtain ⟨sl, e1⟩ := I.base.slot b o e n hb hx
    obtain ⟨sl', e2⟩ := slot b _ (neL b o e) hb (neC b o e hx) e1 (I.base.free b o e n hx)
    exact ⟨sl', e2⟩
  · obtain ⟨o', e1⟩ := I.base.there b o e hx
    exact free b o' (neC b o e hx) e1 (I.base.free b o e n hx)
  · obtain ⟨o', e1⟩ := I.base.there b o e hx
    exact there b o' (neC b o e hx) e1
  · obtain ⟨m1, e1⟩ := I.base.tbls b ps e
    obtain ⟨m2, e2⟩ := tbls b _ e1
    exact ⟨m1 ++ m2, by rw [e2, Array.append_assoc]⟩
  · obtain ⟨m, hn, hl⟩ := I.loc
    refine ⟨m, ns m hn, fun i x v e1 e2 e3 => ?_⟩
    obtain ⟨u, r, l⟩ := hl i x v e1 e2 e3
    refine ⟨u, r, ?_⟩
    rcases l with l | ⟨k, c, e, z⟩
    · exact .inl l
    · exact .inr ⟨k, c, e, cellK x c e _ z⟩
  · obtain ⟨v, z⟩ := I.cell x c e
    exact ⟨v, cellK x c e v z⟩
  · obtain ⟨m, ⟨o, _, _, ho, _⟩, _⟩ := I.loc
    exact free _ o (fun z => (hch _ z).2.1 rfl) ho I.free
  · obtain ⟨v, o, ho, hd⟩ := I.cell x c e
    exact free c o (fun z => (hch c z).2.2.1 x c e rfl) ho (I.freeC x c e)
  · obtain ⟨e, n, ne, nf, d⟩ := I.pin p hp
    have nch : p.1 ∉ ch := fun z => (hch p.1 z).2.2.2 p hp rfl
    exact ⟨keep p.1 p.2 ne nf nch e n, free p.1 p.2 nch e n, ne, nf, d⟩
theorem Inv.un {t' : Nat} (I : Inv X pins σ H s) (u : Un X.fs [] H H' s.heap h') (hok : HOk X.prog X.w H' h') : Inv X pins σ H' { s with heap := h', toks := t' } := by
  obtain ⟨m, ⟨o, es, ep, ho, r⟩, _⟩ := id I.loc
  obtain ⟨sl, hL⟩ := u.any ho I.free (by simp)
  exact I.step (g' := s.gens) (d' := s.drawn) (ch := []) (fun _ z => nomatch z) (fun b o _ hb _ e n => u.keep b o e n hb (by simp)) (fun b o _ hb _ e n => u.slot b o e n hb (by simp)) (fun b o _ e n => u.free b o e n (by simp)) (fun b o _ e => u.there b o e (by simp)) u.tups u.frzs u.tbls (fun m' hm => by
    obtain ⟨o', es', ep', ho', r'⟩ := hm
    rw [ho] at ho'; cases ho'
    exact ⟨_, es', ep', hL, r'⟩) hok I.bare
theorem Inv.call {g' : Array GenState} {t' : Nat} {d' : Drawn} {ch : List Addr} (I : Inv X pins σ H s) (u : Un (frs X.stack) ch H H' s.heap h') (hok : HOk X.prog X.w H' h') (hg : AllBare g')
    (hch : ∀ b ∈ ch, (b ∈ X.ex ∨ X.s_0.heap.objs.size ≤ b) ∧ b ≠ X.env.locals ∧ (∀ x c, X.env.cells.lookup x = some c → c ≠ b) ∧ ∀ p ∈ X.pn ++ pins, p.1 ≠ b) :
    Inv X pins σ H' { s with heap := h', gens := g', drawn := d', toks := t' } := by
  obtain ⟨m, ⟨o, es, ep, ho, r⟩, _⟩ := id I.loc
  obtain ⟨sl, hL⟩ := u.any ho I.free fun z => (hch _ z).2.1 rfl
  exact I.step (ch := ch) hch (fun b o hL hb hc e n => u.keep b o e n (fun z => (List.mem_cons.mp (I.stkSub b z)).elim hL hb) hc) (fun b o _ _ hc e n => u.any e n hc) (fun b o hc e n => u.free b o e n hc) (fun b o hc e => u.there b o e hc) u.tups u.frzs u.tbls (fun m' hm => by
    obtain ⟨o', es', ep', ho', r'⟩ := hm
    rw [ho] at ho'; cases ho'
    exact ⟨_, es', ep', hL, r'⟩) hok hg
theorem Inv.turned {t' : Nat} {it : Addr} (I : Inv X pins σ H s) (k : ∀ b o, b ≠ it → s.heap.get? b = some o → h'.get? b = some o) (hn : H it = none) (hL : it ≠ X.env.locals)
    (h1 : it ∈ X.ex ∨ X.s_0.heap.objs.size ≤ it) (h2 : ∀ x c, X.env.cells.lookup x = some c → c ≠ it) (h3 : ∀ p ∈ X.pn ++ pins, p.1 ≠ it) : Inv X pins σ H { s with heap := h', toks := t' } := by
  have nit : ∀ b u, H b = some u → b ≠ it := fun b u e z => by rw [z, hn] at e; cases e
  refine I.step (g' := s.gens) (d' := s.drawn) (ch := [it]) (fun b hb => ?_) (fun b o _ _ hc e _ => k b o (fun z => hc (by simp [z])) e) (fun b o _ _ hc e _ => ⟨o.slots, k b o (fun z => hc (by simp [z])) e⟩) (fun _ _ _ _ n => n)
    (fun b o hc e => ⟨o, k b o (fun z => hc (by simp [z])) e⟩) (fun _ _ e => e) (fun _ _ _ e => e) (fun b ps e => ⟨#[], by rw [e]; simp⟩) (fun m hm => ?_) (fun b u e => ?_) I.bare
  · have e : b = it := by simpa using hb
    subst e
    exact ⟨h1, hL, h2, h3⟩
  · obtain ⟨o, es, ep, ho, r⟩ := hm
    exact ⟨o, es, ep, k _ o (Ne.symm hL) ho, r⟩
  · refine (I.hok b u e).stay (fun c v hc q => k c v ?_ q) (fun _ q => q) fun _ _ q => q
    rcases hc with z | z
    · rw [z]; exact nit b u e
    · exact nit c _ z
theorem Inv.tok (I : Inv X pins σ H s) (t : Nat) : Inv X pins σ H { s with toks := t } := I.un (h' := s.heap) (t' := t) Un.refl I.hok
theorem Inv.kept {t' : Nat} (I : Inv X pins σ H s) (k : ∀ b u, s.heap.get? b = some u → h'.get? b = some u) : Inv X pins σ H { s with heap := h', toks := t' } := I.un (Un.kept k) (I.hok.kept k)
theorem Inv.laid {a : Addr} {o : HO} {t' : Nat} (I : Inv X pins σ H s) (k : ∀ b u, s.heap.get? b = some u → h'.get? b = some u) (hp : s.heap.objs.size ≤ a) (new : ObjOk X.prog X.w (upd H a o) h' a o) :
    Inv X pins σ (upd H a o) { s with heap := h', toks := t' } := I.un (Un.laid k hp (I.hok.fresh hp)) (I.hok.laid k hp new)
theorem Inv.write {x e : Addr} {o : HO} {t' : Nat} (I : Inv X pins σ H s) (mu : Mut (H x)) (he : e = x ∨ H e = some (.own x)) (k : ∀ b u, b ≠ e → s.heap.get? b = some u → h'.get? b = some u) (heo : ∃ u, h'.get? e = some u)
    (new : ObjOk X.prog X.w (upd H x o) h' x o) : Inv X pins σ (upd H x o) { s with heap := h', toks := t' } := I.un (Un.write mu he k heo) (I.hok.write mu he k heo new)
theorem Inv.weak {σ' : List (Option V)} (I : Inv X pins σ H s) (hl : σ'.length = σ.length) (w : ∀ (i : Nat) v, σ'[i]? = some (some v) → σ[i]? = some (some v)) : Inv X pins σ' H s :=
  ⟨I.ok, I.os, I.bare, I.base, let ⟨m, hn, hl'⟩ := I.loc; ⟨m, hn, fun i x v e1 e2 e3 => hl' i x v e1 (w i v e2) e3⟩, I.cell, I.free, I.freeC, I.pin, I.hok, hl.trans I.len⟩
theorem Inv.pins_of {pins' : List (Addr × Obj)} (I : Inv X pins σ H s) (h : ∀ p ∈ pins', s.heap.get? p.1 = some p.2 ∧ H p.1 = none ∧ p.1 ≠ X.env.locals ∧ p.1 ∉ X.fs ∧ ∀ v, p.2.data ≠ .cell v) : Inv X pins' σ H s :=
  ⟨I.ok, I.os, I.bare, I.base, I.loc, I.cell, I.free, I.freeC, fun p hp => (List.mem_append.mp hp).elim (fun z => I.pin p (List.mem_append_left _ z)) (h p), I.hok, I.len⟩
theorem nodup_ix {N : List Str} (hN : N.Nodup) {i j : Nat} {x : Str} (a : N[i]? = some x) (b : N[j]? = some x) : i = j := by
  obtain ⟨h1, e1⟩ := List.getElem?_eq_some_iff.mp a
  obtain ⟨h2, e2⟩ := List.getElem?_eq_some_iff.mp b
  exact (List.getElem_inj hN).mp (e1.trans e2.symm)
theorem store_ok2 {M : Model} {A : Around} {E : Value → Shared → Prop} {i : Nat} {x : Str} {v : V} {u : Value} {Q : Unit → Shared → Prop} (I : Inv X pins σ H s) (hN : X.N.Nodup) (hi : X.N[i]? = some x) (hx : Loc X.env.scope x) (r : RelV v u)
    (h : ∀ s', Inv X pins (σ.set i (some v)) H s' → (∃ a, Heap.SameBut a s.heap s'.heap ∧ (a = X.env.locals ∨ X.env.cells.lookup x = some a)) → Q () s') (hf : X.fn x = true ∨ X.env.scope.names.lookup x = some .local := by first | exact .inl rfl | exact .inr rfl | assumption) : wpAny M A (storeName X.env x u) Q E s := by
  obtain ⟨m, hn, hl⟩ := id I.loc
  have hcls : (X.env.scope.kind == .class || (X.env.scope.kind == .module && X.env.locals != X.env.globals)) = false := by rw [I.ok.kind]; rfl
  have hiσ : i < σ.length := by rw [I.len]; exact (List.getElem?_eq_some_iff.mp hi).1
  have cne := I.cne
  have tracked : ∀ {a : Addr} {h' : Heap}, (∃ o, s.heap.get? a = some o ∧ H a = none) → Heap.SameBut a s.heap h' → HOk X.prog X.w H h' := fun {a h'} ha hs b ob e => by
    obtain ⟨_, _, hfree⟩ := ha
    refine (I.hok b ob e).stay (fun c w' hc q => (hs.2 c ?_).trans q) (fun _ q => q) fun _ _ q => q
    rintro rfl
    rcases hc with rfl | hc
    · rw [hfree] at e; cases e
    · rw [hfree] at hc; cases hc
  rcases hx with hk | hk
  · refine wpAny_storeName_local hk hn (fun h' hn' hs => ?_) hcls
    obtain ⟨oL, _, _, hoL, _⟩ := id hn
    refine h _ ⟨I.ok, I.os, I.bare, ⟨fun b o e n hb hx => ?_, fun b o e n hb hx => ?_, I.base.free, fun b o e hx => ?_, I.base.tups, I.base.frzs, I.base.tbls⟩, ⟨_, hn', fun j y v' e1 e2 e3 => ?_⟩, fun y c e => ?_, I.free, I.freeC, fun p hp => ?_, tracked ⟨oL, hoL, I.free⟩ hs, by simpa using I.len⟩ ⟨_, hs, .inl rfl⟩
    · exact (hs.2 b (Nat.ne_of_lt (Nat.lt_of_lt_of_le (Heap.lt_size e) I.ok.above))).trans (I.base.keep b o e n hb hx)
    · obtain ⟨sl, e1⟩ := I.base.slot b o e n hb hx
      exact ⟨sl, (hs.2 b (Nat.ne_of_lt (Nat.lt_of_lt_of_le (Heap.lt_size e) I.ok.above))).trans e1⟩
    · obtain ⟨o', e1⟩ := I.base.there b o e hx
      exact ⟨o', (hs.2 b (Nat.ne_of_lt (Nat.lt_of_lt_of_le (Heap.lt_size e) I.ok.above))).trans e1⟩
    · by_cases hj : j = i
      · subst hj
        rw [hi] at e1; cases e1
        rw [List.getElem?_set_self hiσ] at e2
        cases e2
        exact ⟨u, r, .inl ⟨hk, by simp⟩⟩
      · rw [List.getElem?_set_ne (Ne.symm hj)] at e2
        obtain ⟨u', r', q⟩ := hl j y v' e1 e2 e3
        refine ⟨u', r', ?_⟩
        rcases q with ⟨k, e⟩ | ⟨k, c, e, z⟩
        · refine .inl ⟨k, ?_⟩
          have : y ≠ x := fun e => hj (nodup_ix hN e1 (e ▸ hi))
          simp [this, e]
        · exact .inr ⟨k, c, e, z.sameBut hs (cne y c e)⟩
    · obtain ⟨w', z⟩ := I.cell y c e
      exact ⟨w', z.sameBut hs (cne y c e)⟩
    · obtain ⟨e, n, ne, nf, d⟩ := I.pin p hp
      exact ⟨(hs.2 p.1 ne).trans e, n, ne, nf, d⟩
  · have hfn : X.fn x = true := by
      rcases hf with z | z
      · exact z
      · rw [z] at hk; cases hk
    obtain ⟨c, hc⟩ := I.ok.has x (.inl hk)
    obtain ⟨w', z⟩ := I.cell x c hc
    refine wpAny_storeName_cell I.ok.kind hk hc z (fun h' hc' hs => ?_)
    obtain ⟨oc, hoc, hocd⟩ := id z
    refine h { s with heap := h' } ⟨I.ok, I.os, I.bare, ⟨fun b o e n hb hx => ?_, fun b o e n hb hx => ?_, I.base.free, fun b o e hx => ?_, I.base.tups, I.base.frzs, I.base.tbls⟩, ⟨m, hn.sameBut hs (Ne.symm (cne x c hc)), fun j y v' e1 e2 e3 => ?_⟩, fun y c' e => ?_, I.free, I.freeC, fun p hp => ?_, tracked ⟨oc, hoc, I.freeC x c hc⟩ hs, by simpa using I.len⟩ ⟨c, hs, .inr hc⟩
    · exact (hs.2 b (Nat.ne_of_lt (Nat.lt_of_lt_of_le (Heap.lt_size e) (I.ok.cab x c hfn hc)))).trans (I.base.keep b o e n hb hx)
    · obtain ⟨sl, e1⟩ := I.base.slot b o e n hb hx
      exact ⟨sl, (hs.2 b (Nat.ne_of_lt (Nat.lt_of_lt_of_le (Heap.lt_size e) (I.ok.cab x c hfn hc)))).trans e1⟩
    · obtain ⟨o', e1⟩ := I.base.there b o e hx
      exact ⟨o', (hs.2 b (Nat.ne_of_lt (Nat.lt_of_lt_of_le (Heap.lt_size e) (I.ok.cab x c hfn hc)))).trans e1⟩
    · by_cases hj : j = i
      · subst hj
        rw [hi] at e1; cases e1
        rw [List.getElem?_set_self hiσ] at e2
        cases e2
        exact ⟨u, r, .inr ⟨.inl hk, c, hc, hc'⟩⟩
      · rw [List.getElem?_set_ne (Ne.symm hj)] at e2
        obtain ⟨u', r', q⟩ := hl j y v' e1 e2 e3
        refine ⟨u', r', ?_⟩
        rcases q with q | ⟨k, c', e, z'⟩
        · exact .inl q
        · refine .inr ⟨k, c', e, z'.sameBut hs ?_⟩
          rintro rfl
          exact hj (nodup_ix hN e1 (I.ok.inj _ _ _ e hc ▸ hi))
    · by_cases hcc : c' = c
      · subst hcc; exact ⟨_, hc'⟩
      · obtain ⟨w2, z2⟩ := I.cell y c' e
        exact ⟨w2, z2.sameBut hs hcc⟩
    · obtain ⟨e, n, ne, nf, d⟩ := I.pin p hp
      refine ⟨(hs.2 p.1 ?_).trans e, n, ne, nf, d⟩
      intro q
      rw [q, hoc] at e
      have q' : oc = p.2 := Option.some.inj e
      exact d w' (by rw [← q']; exact hocd)
theorem store_ok {M : Model} {A : Around} {E : Value → Shared → Prop} {i : Nat} {x : Str} {v : V} {u : Value} {Q : Unit → Shared → Prop} (I : Inv X pins σ H s) (hN : X.N.Nodup) (hi : X.N[i]? = some x) (hx : Loc X.env.scope x) (r : RelV v u)
    (h : ∀ s', Inv X pins (σ.set i (some v)) H s' → Q () s') (hf : X.fn x = true ∨ X.env.scope.names.lookup x = some .local := by first | exact .inl rfl | exact .inr rfl | assumption) : wpAny M A (storeName X.env x u) Q E s :=
  store_ok2 I hN hi hx r (fun s' I' _ => h s' I') hf
theorem Inv.call' {s' : Shared} {ch : List Addr} (I : Inv X pins σ H s) (ho : s'.os = s.os) (u : Un (frs X.stack) ch H H' s.heap s'.heap) (hok : HOk X.prog X.w H' s'.heap) (hg : AllBare s'.gens)
    (hch : ∀ b ∈ ch, (b ∈ X.ex ∨ X.s_0.heap.objs.size ≤ b) ∧ b ≠ X.env.locals ∧ (∀ x c, X.env.cells.lookup x = some c → c ≠ b) ∧ ∀ p ∈ X.pn ++ pins, p.1 ≠ b) : Inv X pins σ H' s' := by
  obtain ⟨h', g', d', t', o'⟩ := s'
  have e : o' = s.os := ho
  subst e
  exact I.call (g' := g') (t' := t') (d' := d') u hok hg hch
end
abbrev XK := Value → Option Addr → Hp → Prop
abbrev St := List (Option V)
abbrev VK := V → Hp → Prop
abbrev TE := St → Hp → VK → Prop
abbrev TT := St → Hp → (Bool → Hp → Prop) → Prop
abbrev TA := St → Hp → (List V → Hp → Prop) → Prop
structure Ends where
  nx : St → Hp → Prop
  rt : VK
  bk : St → Hp → Prop := fun _ _ => False
  ct : St → Hp → Prop := fun _ _ => False
abbrev TS := Ends → St → Hp → Prop
def EP (X : Cx) (pins : List (Addr × Obj)) (σ : St) (Q : VK) (u : Value) (s' : Shared) : Prop := ∃ v H', Inv X pins σ H' s' ∧ RelV v u ∧ Q v H'
def TP (X : Cx) (pins : List (Addr × Obj)) (σ : St) (Q : Bool → Hp → Prop) (b : Bool) (s' : Shared) : Prop := ∃ H', Inv X pins σ H' s' ∧ Q b H'
def AP (X : Cx) (pins : List (Addr × Obj)) (σ : St) (Q : List V → Hp → Prop) (us : List Value) (s' : Shared) : Prop := ∃ vs H', Inv X pins σ H' s' ∧ Vals vs us ∧ Q vs H'
def SP (X : Cx) (pins : List (Addr × Obj)) (D : Ends) (f : Flow) (s' : Shared) : Prop :=
  match f with
  | .next => ∃ σ' H', Inv X pins σ' H' s' ∧ D.nx σ' H'
  | .brk => ∃ σ' H', Inv X pins σ' H' s' ∧ D.bk σ' H'
  | .cont => ∃ σ' H', Inv X pins σ' H' s' ∧ D.ct σ' H'
  | .ret u => ∃ v σ' H', Inv X pins σ' H' s' ∧ RelV v u ∧ D.rt v H'
def PE (X : Cx) (e : Expr) (t : TE) : Prop :=
  ∀ (pins : List (Addr × Obj)) (s : Shared) (σ : St) (H : Hp) (Q : VK), Inv X pins σ H s → t σ H Q → wpAny (model X.prog X.w) X.A (eval e X.env) (EP X pins σ Q) X.xe s
def PT (X : Cx) (e : Expr) (t : TT) : Prop :=
  ∀ (pins : List (Addr × Obj)) (s : Shared) (σ : St) (H : Hp) (Q : Bool → Hp → Prop), Inv X pins σ H s → t σ H Q → wpAny (model X.prog X.w) X.A (isTrue e X.env (eval e X.env)) (TP X pins σ Q) X.xe s
def PW (X : Cx) (e : Expr) (t : TT) : Prop :=
  ∀ (whole : Sem Value) (pins : List (Addr × Obj)) (s : Shared) (σ : St) (H : Hp) (Q : Bool → Hp → Prop), Inv X pins σ H s → t σ H Q → wpAny (model X.prog X.w) X.A (isTrue e X.env whole) (TP X pins σ Q) X.xe s
theorem PW.pt {X : Cx} {e : Expr} {t : TT} (h : PW X e t) : PT X e t := h _
def PA (X : Cx) (es : List Expr) (t : TA) : Prop :=
  ∀ (pos : Pos) (pins : List (Addr × Obj)) (s : Shared) (σ : St) (H : Hp) (Q : List V → Hp → Prop), Inv X pins σ H s → t σ H Q → wpAny (model X.prog X.w) X.A (spliced (backTo pos (starEach es X.env))) (AP X pins σ Q) X.xe s
def PS (X : Cx) (st : Stmt) (t : TS) : Prop :=
  ∀ (pins : List (Addr × Obj)) (s : Shared) (σ : St) (H : Hp) (D : Ends), Inv X pins σ H s → t D σ H → wpAny (model X.prog X.w) X.A (exec st X.env) (SP X pins D) X.xe s
def PSs (X : Cx) (st : List Stmt) (t : TS) : Prop :=
  ∀ (pins : List (Addr × Obj)) (s : Shared) (σ : St) (H : Hp) (D : Ends), Inv X pins σ H s → t D σ H → wpAny (model X.prog X.w) X.A (execs st X.env) (SP X pins D) X.xe s
theorem thn {α : Type} {t : Sem α} {Q Q' : α → Shared → Prop} {M : Model} {A : Around} {E : Value → Shared → Prop} {s : Shared} (h : wpAny M A t Q E s) (hQ : ∀ a s, Q a s → Q' a s) : wpAny M A t Q' E s := wpAny_mono h hQ fun _ _ x => x
end L2
namespace L2
open PySem PySem.Spec PyProof.Rows
section
variable {X : Cx}
def tVar (i : Nat) : TE := fun σ H Q => ∃ v, σ[i]? = some (some v) ∧ Q v H
def tC (v : V) : TE := fun _ H Q => Q v H
theorem pe_var {i : Nat} {x : Str} {pos : Pos} (hN : X.N[i]? = some x) (hv : Vis X.env.scope x) (hd : (x == ("__debug__" : Str)) = false := by decide) (hcd : (x == ("__classdict__" : Str)) = false := by decide) : PE X (.Name x pos) (tVar i) := by
  intro pins s σ H Q I h
  obtain ⟨v, e, h⟩ := h
  obtain ⟨m, hn, hl⟩ := I.loc
  obtain ⟨u, r, l⟩ := hl i x v hN e hv
  have fin : EP X pins σ Q u s := ⟨v, H, I, r, h⟩
  rcases l with ⟨hk, hm⟩ | ⟨hk, c, hc, hcell⟩
  · exact wpAny_Name (wpAny_loadName_local I.ok.kind hk hn hm fin) hd
  · rcases hk with hk | hk
    · exact wpAny_Name (wpAny_loadName_cell I.ok.kind hk hc hcell fin) hd
    · exact wpAny_Name (wpAny_loadName_free I.ok.kind hk hc hcell fin hcd) hd
theorem pe_int {i j pos} : PE X (.Constant (.int i) j pos) (tC (.int i)) := fun _ _ _ H _ I h => wpAny_Constant_int ⟨.int i, H, I.tok _, ⟨_, rfl⟩, h⟩
def Gl (X : Cx) (x : Str) : Prop := X.env.kindOf x = some .globalImplicit
theorem ld_glob {E : Value → Shared → Prop} {pins : List (Addr × Obj)} {s : Shared} {σ : St} {H : Hp} {x : Str} {u : Value} {pos : Pos} {Q : Value → Shared → Prop} (I : Inv X pins σ H s) (hg : Gl X x) (hm : X.mg x = some u) (h : Q u s)
    (hd : (x == ("__debug__" : Str)) = false := by decide) : wpAny (model X.prog X.w) X.A (eval (.Name x pos) X.env) Q E s :=
  Calls.Name_function_global I.ok.kind hg (Calls.loadGlobal_global (by rw [I.ok.glob]; exact I.mod.glob.keeps I.bk) hm h) hd
theorem ld_blt {E : Value → Shared → Prop} {pins : List (Addr × Obj)} {s : Shared} {σ : St} {H : Hp} {x : Str} {u : Value} {pos : Pos} {Q : Value → Shared → Prop} (I : Inv X pins σ H s) (hg : Gl X x) (hm : X.mg x = none) (hv : bootBuiltins x = some u) (h : Q u s)
    (hn : x ≠ "__name__" := by decide) (hd : (x == ("__debug__" : Str)) = false := by decide) : wpAny (model X.prog X.w) X.A (eval (.Name x pos) X.env) Q E s := by
  obtain ⟨mb, h1, h2⟩ := I.mod.blt
  exact Calls.Name_function_global I.ok.kind hg (Calls.loadGlobal_builtin (by rw [I.ok.glob]; exact I.mod.glob.keeps I.bk) hm (by rw [I.ok.blt]; exact h1.keeps I.bk) ((h2 x hn).trans hv) h) hd
theorem pe_glob {x : Str} {v : V} {u : Value} {pos : Pos} (hg : Gl X x) (hm : X.mg x = some u) (r : RelV v u) (hd : (x == ("__debug__" : Str)) = false := by decide) : PE X (.Name x pos) (tC v) :=
  fun _ _ _ H _ I h => ld_glob I hg hm ⟨v, H, I, r, h⟩ hd
variable {a b : Expr} {ta tb : TE} {pos : Pos}
variable {tA tB' : TT} {rest : List Expr}
def tAnd (t u : TT) : TT := fun σ H Q => t σ H fun c H1 => if c = true then u σ H1 Q else Q false H1
def tOr (t u : TT) : TT := fun σ H Q => t σ H fun c H1 => if c = true then Q true H1 else u σ H1 Q
theorem pw_and1 (ha : PT X a tA) : PW X (.BoolOp .And [a] pos) tA := by
  intro wh pins s σ H Q I h
  refine isTrue_and (thn (ha pins s σ H Q I h) fun c s1 e => ?_)
  cases c with
  | true => exact isTrue_and_nil e
  | false => exact e
theorem pw_or1 (ha : PT X a tA) : PW X (.BoolOp .Or [a] pos) tA := by
  intro wh pins s σ H Q I h
  refine isTrue_or (thn (ha pins s σ H Q I h) fun c s1 e => ?_)
  cases c with
  | false => exact isTrue_or_nil e
  | true => exact e
theorem pw_and (ha : PT X a tA) (hb : PW X (.BoolOp .And (b :: rest) pos) tB') : PW X (.BoolOp .And (a :: b :: rest) pos) (tAnd tA tB') := by
  intro wh pins s σ H Q I h
  refine isTrue_and (thn (ha pins s σ H _ I h) fun c s1 ⟨H1, I1, q1⟩ => ?_)
  cases c with
  | true => exact hb wh pins s1 σ H1 Q I1 q1
  | false => exact ⟨H1, I1, q1⟩
theorem pw_or (ha : PT X a tA) (hb : PW X (.BoolOp .Or (b :: rest) pos) tB') : PW X (.BoolOp .Or (a :: b :: rest) pos) (tOr tA tB') := by
  intro wh pins s σ H Q I h
  refine isTrue_or (thn (ha pins s σ H _ I h) fun c s1 ⟨H1, I1, q1⟩ => ?_)
  cases c with
  | true => exact ⟨H1, I1, q1⟩
  | false => exact hb wh pins s1 σ H1 Q I1 q1
def tIf (t : TT) (ta tb : TE) : TE := fun σ H Q => t σ H fun c H1 => if c = true then ta σ H1 Q else tb σ H1 Q
theorem pe_ifExp {c : Expr} (hc : PT X c tA) (ha : PE X a ta) (hb : PE X b tb) : PE X (.IfExp c a b pos) (tIf tA ta tb) := by
  intro pins s σ H Q I h
  refine wpAny_IfExp (thn (hc pins s σ H _ I h) fun d s1 ⟨H1, I1, q1⟩ => ?_)
  cases d with
  | true => exact ha pins s1 σ H1 Q I1 q1
  | false => exact hb pins s1 σ H1 Q I1 q1
end
end L2
namespace L2
open PySem PySem.Spec PyProof.Rows
def SqL (K : PySem.W.Frag) (H : Hp) (a : Addr) (xs : List V) : Prop :=
  Rd H a (.lst xs) ∨
    ∃ (o : Obj) (its : Array Value) (n : Nat), K.lookup a = some o ∧ o.cls = .type "list" ∧ o.dict = none ∧ o.data = .seq its n ∧ its.size ≤ sizeLine ∧ Vals xs its.toList
def SqT (K : PySem.W.Frag) (H : Hp) (a : Addr) (xs : List V) : Prop :=
  Rd H a (.tup xs) ∨
    ∃ (o : Obj) (its : Array Value) (n : Nat), K.lookup a = some o ∧ o.cls = .type "tuple" ∧ o.data = .seq its n ∧ its.size ≤ sizeLine ∧ Vals xs its.toList
def absV : Value → Option V
  | .none => some .non
  | .bool b => some (.bl b)
  | .int i _ => some (.int i)
  | .str x _ => some (.str x)
  | .bytes b _ => some (.byt b)
  | .float b _ => some (.flt b)
  | .ref a => some (.ref a)
  | .type n => some (.ty n)
  | _ => none
theorem RelV.abs {x : V} {u : Value} (r : RelV x u) : absV u = some x := by
  cases x with
  | non => cases r; rfl
  | bl _ => cases r; rfl
  | int _ => obtain ⟨t, rfl⟩ := r; rfl
  | str _ => obtain ⟨t, rfl⟩ := r; rfl
  | byt _ => obtain ⟨t, rfl⟩ := r; rfl
  | flt _ => obtain ⟨t, rfl⟩ := r; rfl
  | ref _ => cases r; rfl
  | ty _ => cases r; rfl
theorem RelV.inj {x y : V} {u : Value} (r : RelV x u) (q : RelV y u) : x = y := Option.some.inj (r.abs.symm.trans q.abs)
theorem Vals.inj : ∀ {xs ys : List V} {us : List Value}, Vals xs us → Vals ys us → xs = ys
  | _, _, _, .nil, .nil => rfl
  | _, _, _, .cons r t, .cons r' t' => by rw [r.inj r', Vals.inj t t']
section
variable {X : Cx} {pins : List (Addr × Obj)} {σ : St} {H : Hp} {s : Shared} {a : Addr} {xs ys : List V}
theorem SqL.of {K : PySem.W.Frag} (h : H a = some (.lst xs)) : SqL K H a xs := .inl (.inl h)
theorem SqT.of {K : PySem.W.Frag} (h : H a = some (.tup xs)) : SqT K H a xs := .inl (.inl h)
theorem Inv.list (I : Inv X pins σ H s) (h : SqL X.K H a xs) : ∃ its : List Value, Vals xs its ∧ PlainL s.heap a its.toArray ∧ xs.length ≤ sizeLine := by
  rcases h with h | ⟨o, its, n, hk, hc, hd, hs, hz, r⟩
  · obtain ⟨z, its, n, r, e⟩ := h.ok I.hok
    exact ⟨its, r, ⟨_, n, e, rfl, rfl, rfl⟩, z⟩
  · refine ⟨its.toList, r, ⟨o, n, I.kIn a o hk, hc, hd, by simpa using hs⟩, ?_⟩
    have e := r.length
    simp only [Array.length_toList] at e
    omega
theorem Inv.tuple (I : Inv X pins σ H s) (h : SqT X.K H a xs) : ∃ its : List Value, Vals xs its ∧ IsTup s.heap a its.toArray ∧ xs.length ≤ sizeLine := by
  rcases h with h | ⟨o, its, n, hk, hc, hs, hz, r⟩
  · obtain ⟨z, its, r, p⟩ := h.ok I.hok
    exact ⟨its, r, p, z⟩
  · refine ⟨its.toList, r, ⟨o, I.kIn a o hk, hc, n, by simpa using hs⟩, ?_⟩
    have e := r.length
    simp only [Array.length_toList] at e
    omega
theorem Inv.list_inj (I : Inv X pins σ H s) (h : SqL X.K H a xs) (h' : SqL X.K H a ys) : xs = ys := by
  obtain ⟨its, r, ⟨o, n, e, _, _, d⟩, _⟩ := I.list h
  obtain ⟨its', r', ⟨o', n', e', _, _, d'⟩, _⟩ := I.list h'
  rw [e] at e'; cases e'
  rw [d] at d'
  injection d' with d1 _
  have : its = its' := by simpa using congrArg Array.toList d1
  subst this
  exact r.inj r'
theorem Inv.tuple_inj (I : Inv X pins σ H s) (h : SqT X.K H a xs) (h' : SqT X.K H a ys) : xs = ys := by
  obtain ⟨its, r, ⟨o, e, _, n, d⟩, _⟩ := I.tuple h
  obtain ⟨its', r', ⟨o', e', _, n', d'⟩, _⟩ := I.tuple h'
  rw [e] at e'; cases e'
  rw [d] at d'
  injection d' with d1 _
  have : its = its' := by simpa using congrArg Array.toList d1
  subst this
  exact r.inj r'
end
abbrev Cx.wish (X : Cx) (E : Value → Shared → Prop) : Cx := { X with xe := E }
abbrev Cx.nox (X : Cx) : Cx := X.wish fun _ _ => False
theorem Cx.Ok.wish {X : Cx} (ok : X.Ok) (E : Value → Shared → Prop) : (X.wish E).Ok :=
  ⟨ok.mod, ok.kind, ok.glob, ok.blt, ok.above, ok.inj, ok.has, ok.cab, ok.hd, ok.frames, ok.stk, ok.exf, ok.bs, ok.bsz, ok.noex, ok.exfs, ok.funs, ok.frf⟩
theorem Cx.Ok.unwish {X : Cx} {E : Value → Shared → Prop} (ok : (X.wish E).Ok) : X.Ok :=
  ⟨ok.mod, ok.kind, ok.glob, ok.blt, ok.above, ok.inj, ok.has, ok.cab, ok.hd, ok.frames, ok.stk, ok.exf, ok.bs, ok.bsz, ok.noex, ok.exfs, ok.funs, ok.frf⟩
section
variable {X : Cx} {pins : List (Addr × Obj)} {σ : St} {H : Hp} {s : Shared} {E : Value → Shared → Prop}
theorem Inv.wish (I : Inv X pins σ H s) (E : Value → Shared → Prop) : Inv (X.wish E) pins σ H s := ⟨I.ok.wish E, I.os, I.bare, I.base, I.loc, I.cell, I.free, I.freeC, I.pin, I.hok, I.len⟩
theorem Inv.unwish (I : Inv (X.wish E) pins σ H s) : Inv X pins σ H s := ⟨I.ok.unwish, I.os, I.bare, I.base, I.loc, I.cell, I.free, I.freeC, I.pin, I.hok, I.len⟩
end
section
variable {X : Cx} {st : Stmt} {rest : List Stmt} {t u : TS} {e : Expr} {te : TE} {pos : Pos}
def tNext : TS := fun D σ H => D.nx σ H
def tSeq (t u : TS) : TS := fun D σ H => t { D with nx := u D } σ H
theorem pss_nil : PSs X [] tNext := fun _ _ σ H _ I h => wpAny_execs_nil ⟨σ, H, I, h⟩
theorem pss_cons (h1 : PS X st t) (h2 : PSs X rest u) : PSs X (st :: rest) (tSeq t u) := by
  intro pins s σ H D I h
  refine wpAny_execs_cons (thn (h1 pins s σ H { D with nx := u D } I h) fun f s1 q => ?_)
  cases f with
  | next =>
    obtain ⟨σ', H', I', q⟩ := q
    exact h2 pins s1 σ' H' D I' q
  | ret v => exact q
  | brk => exact q
  | cont => exact q
theorem pss_one (h1 : PS X st t) : PSs X [st] t := by
  intro pins s σ H D I h
  refine wpAny_execs_cons (thn (h1 pins s σ H D I h) fun f s1 q => ?_)
  cases f with
  | next => exact wpAny_execs_nil q
  | ret v => exact q
  | brk => exact q
  | cont => exact q
theorem Inv.quiet {pins : List (Addr × Obj)} {σ : St} {H : Hp} {s : Shared} (I : Inv X pins σ H s) : interactive X.env = false := by simp [interactive, I.ok.kind]
def tDrop (te : TE) : TS := fun D σ H => te σ H fun _ H1 => D.nx σ H1
theorem ps_expr (he : PE X e te) (hs : swapsWith e none pos.line X.env = pure false := by rfl) : PS X (.Expr e pos) (tDrop te) := by
  intro pins s σ H D I h
  exact wpAny_Expr_any (thn (he pins s σ H _ I h) fun v s1 ⟨x, H1, I1, r1, q1⟩ => ⟨σ, H1, I1, q1⟩) I.quiet hs
def tRet (te : TE) : TS := fun D σ H => te σ H D.rt
theorem ps_ret (he : PE X e te) : PS X (.Return (some e) pos) (tRet te) := by
  intro pins s σ H D I h
  exact wpAny_Return_some (thn (he pins s σ H _ I h) fun v s1 ⟨x, H1, I1, r1, q1⟩ => ⟨x, σ, H1, I1, r1, q1⟩)
def tIfS (c : TT) (t u : TS) : TS := fun D σ H => c σ H fun b H1 => if b = true then t D σ H1 else u D σ H1
theorem ps_if {c : Expr} {a b : List Stmt} {tc : TT} (hc : PT X c tc) (ha : PSs X a t) (hb : PSs X b u) : PS X (.If c a b pos) (tIfS tc t u) := by
  intro pins s σ H D I h
  refine wpAny_If (thn (hc pins s σ H _ I h) fun d s1 ⟨H1, I1, q1⟩ => ?_)
  cases d with
  | true => exact ha pins s1 σ H1 D I1 q1
  | false => exact hb pins s1 σ H1 D I1 q1
end
abbrev TG := V → St → Hp → (St → Hp → Prop) → Prop
abbrev TGs := List V → St → Hp → (St → Hp → Prop) → Prop
def PG (X : Cx) (target : Expr) (t : TG) : Prop :=
  ∀ (pins : List (Addr × Obj)) (s : Shared) (σ : St) (H : Hp) (v : V) (u : Value) (Q : St → Hp → Prop), Inv X pins σ H s → RelV v u → t v σ H Q →
    wpAny (model X.prog X.w) X.A (assign target X.env u) (fun _ s' => ∃ σ' H', Inv X pins σ' H' s' ∧ Q σ' H') X.xe s
def PGs (X : Cx) (ts : List Expr) (t : TGs) : Prop :=
  ∀ (pins : List (Addr × Obj)) (s : Shared) (σ : St) (H : Hp) (vs : List V) (us : List Value) (Q : St → Hp → Prop), Inv X pins σ H s → Vals vs us → t vs σ H Q →
    wpAny (model X.prog X.w) X.A (assignInOrder ((assignEach ts X.env).map (·.2)) us) (fun _ s' => ∃ σ' H', Inv X pins σ' H' s' ∧ Q σ' H') X.xe s
section
variable {X : Cx} {pos : Pos}
def gName (i : Nat) : TG := fun v σ H Q => Q (σ.set i (some v)) H
theorem pg_name {i : Nat} {x : Str} (hN : X.N.Nodup) (hi : X.N[i]? = some x) (hx : Loc X.env.scope x) (hf : X.fn x = true ∨ X.env.scope.names.lookup x = some .local := by first | exact .inl rfl | exact .inr rfl | assumption) : PG X (.Name x pos) (gName i) := by
  intro pins s σ H v u Q I r h
  exact wpAny_assign_Name (store_ok I hN hi hx r (fun s' I' => ⟨_, H, I', h⟩) hf)
def gNil : TGs := fun vs σ H Q => vs = [] ∧ Q σ H
def gCons (t : TG) (u : TGs) : TGs := fun vs σ H Q => ∃ v r, vs = v :: r ∧ t v σ H fun σ' H' => u r σ' H' Q
theorem pgs_nil : PGs X [] gNil := by
  intro pins s σ H vs us Q I r h
  obtain ⟨e, h⟩ := h
  subst e
  cases r
  exact assignInOrder_nil ⟨σ, H, I, h⟩
theorem pgs_cons {e : Expr} {es : List Expr} {t : TG} {u : TGs} (h1 : PG X e t) (h2 : PGs X es u)
    (hs : (assignEach (e :: es) X.env).map (·.2) = assign e X.env :: (assignEach es X.env).map (·.2) := by rfl) : PGs X (e :: es) (gCons t u) := by
  intro pins s σ H vs us Q I r h
  obtain ⟨v, vr, e1, h⟩ := h
  subst e1
  cases r with
  | cons r rr =>
    rw [hs]
    refine assignInOrder_cons (thn (h1 pins s σ H _ _ _ I r h) fun _ s1 ⟨σ1, H1, I1, q1⟩ => ?_)
    exact h2 pins s1 σ1 H1 _ _ Q I1 rr q1
def gTup (K : PySem.W.Frag) (n : Nat) (t : TGs) : TG := fun v σ H Q => ∃ a xs, v = .ref a ∧ SqT K H a xs ∧ xs.length = n ∧ t xs σ H Q
theorem pg_tup {es : List Expr} {k : Nat} {t : TGs} {n : Nat} (hc : X.calm = true) (h : PGs X es t)
    (hn : (assignEach es X.env).length = n := by rfl) (hst : (assignEach es X.env).findIdx? (·.1) = none := by rfl) : PG X (.Tuple es k pos) (gTup X.K n t) := by
  intro pins s σ H v u Q I r hw
  obtain ⟨a, xs, e1, hq, hl, hw⟩ := hw
  subst e1
  cases r
  obtain ⟨its, rv, ht, hz⟩ := I.tuple hq
  refine assign_Tuple_tuple (I.ok.hd hc) ht (by simp [hn, ← hl, rv.length]) hst fun h' hx => ?_
  have I1 : Inv X pins σ H { s with heap := h' } := I.kept (t' := s.toks) fun b o e => hx b o (Nat.ne_of_lt (Heap.lt_size e)) e
  exact h pins _ σ H xs _ Q I1 (by simpa using rv) hw
def tAsg (te : TE) (g : TG) : TS := fun D σ H => te σ H fun x H1 => g x σ H1 D.nx
theorem ps_set {i : Nat} {x : Str} {e : Expr} {te : TE} {pos' : Pos} (hN : X.N.Nodup) (hi : X.N[i]? = some x) (hx : Loc X.env.scope x) (he : PE X e te) (hs : swapsWith e (some (.Name x pos')) pos.line X.env = pure false := by rfl) (hf : X.fn x = true ∨ X.env.scope.names.lookup x = some .local := by first | exact .inl rfl | exact .inr rfl | assumption) :
    PS X (.Assign [.Name x pos'] e pos) (tAsg te (gName i)) := by
  intro pins s σ H D I h
  refine wpAny_Assign_Name (thn (he pins s σ H _ I h) fun v s1 ⟨y, H1, I1, r1, q1⟩ => ?_) hs
  exact store_ok I1 hN hi hx r1 (fun s2 I2 => ⟨_, H1, I2, q1⟩) hf
end
section
variable {X : Cx} {pos : Pos}
end
structure It where
  go : Nat → Hp → Prop
  yld : Nat → Hp → V → Hp → Prop
  stop : Nat → Hp → Prop
def FpOk (X : Cx) (pins : List (Addr × Obj)) (H : Hp) (b : Addr) : Prop :=
  H b = none ∧ b ≠ X.env.locals ∧ b ∉ X.fs ∧ (b ∈ X.ex ∨ X.s_0.heap.objs.size ≤ b) ∧ (∀ x c, X.env.cells.lookup x = some c → c ≠ b) ∧ ∀ p ∈ X.pn ++ pins, p.1 ≠ b
theorem Inv.fpOk {X : Cx} {pins : List (Addr × Obj)} {σ : St} {H H' : Hp} {s : Shared} {b : Addr} (I : Inv X pins σ H s) (hb : s.heap.objs.size ≤ b) (hn : H' b = none) : FpOk X pins H' b := by
  refine ⟨hn, Nat.ne_of_gt (Nat.lt_of_lt_of_le I.lt hb), I.nofs hb, .inr (Nat.le_trans I.sz hb), fun x c e z => ?_, fun p hp z => ?_⟩
  · obtain ⟨v, q⟩ := I.cell x c e
    exact absurd (Nat.lt_of_lt_of_le q.lt (by rw [z]; exact hb)) (Nat.lt_irrefl _)
  · exact absurd (Nat.lt_of_lt_of_le (Heap.lt_size (I.pin p hp).1) (by rw [z]; exact hb)) (Nat.lt_irrefl _)
structure Turn (P : Program) (w : World) (K : PySem.W.Frag) (tg : Expr) (J : It) (fp : List Addr) (it : Addr) (tn : Nat → Heap → Prop) : Prop where
  mem : it ∈ fp
  obj : ∀ i h, tn i h → ∀ b ∈ fp, ∃ o, h.get? b = some o ∧ ∀ v, o.data ≠ .cell v
  keep : ∀ i h h', tn i h → (∀ b ∈ fp, ∀ o, h.get? b = some o → h'.get? b = some o) → tn i h'
  item : ∀ (X : Cx), X.prog = P → X.w = w → X.K = K → X.calm = true → ∀ (i : Nat) (pins : List (Addr × Obj)) (s : Shared) (σ : St) (H : Hp) (E : Value → Shared → Prop), Inv X pins σ H s → (∀ b ∈ fp, FpOk X pins H b) → tn i s.heap → J.go i H →
    wpAny (model P w) X.A (pyNext (.ref it)) (fun r s1 => ∃ u, r = some u ∧
      wpAny (model P w) X.A (letOwnedTupleGo tg (.ref it) u) (fun _ s2 => ∃ x H', Inv X pins σ H' s2 ∧ RelV x u ∧ J.yld i H x H' ∧ tn (i + 1) s2.heap ∧ ∀ b ∈ fp, H' b = none) E s1) E s
  done : ∀ (X : Cx), X.prog = P → X.w = w → X.K = K → X.calm = true → ∀ (i : Nat) (pins : List (Addr × Obj)) (s : Shared) (σ : St) (H : Hp) (E : Value → Shared → Prop), Inv X pins σ H s → (∀ b ∈ fp, FpOk X pins H b) → tn i s.heap → J.stop i H →
    wpAny (model P w) X.A (pyNext (.ref it)) (fun r s1 => r = none ∧ Inv X pins σ H s1) E s
  self : ∀ (A : Around) (i : Nat) (s : Shared) (Q : Value → Shared → Prop) (E : Value → Shared → Prop), tn i s.heap → Q (.ref it) s → wpAny (model P w) A (pyIter (.ref it)) Q E s
abbrev TI := St → Hp → (It → Hp → Prop) → Prop
def PIE (X : Cx) (pins : List (Addr × Obj)) (σ : St) (tg : Expr) (R : It → Hp → Prop) (itv : Value) (s2 : Shared) : Prop :=
  ∃ (it : Addr) (fp : List Addr) (tn : Nat → Heap → Prop) (J : It) (H' : Hp), itv = .ref it ∧ Inv X pins σ H' s2 ∧ Turn X.prog X.w X.K tg J fp it tn ∧ tn 0 s2.heap ∧ (∀ b ∈ fp, FpOk X pins H' b) ∧ R J H'
def PI (X : Cx) (tg iter : Expr) (wi : TI) : Prop :=
  ∀ (pins : List (Addr × Obj)) (s : Shared) (σ : St) (H : Hp) (R : It → Hp → Prop), Inv X pins σ H s → wi σ H R →
    wpAny (model X.prog X.w) X.A (eval iter X.env) (fun v s1 => wpAny (model X.prog X.w) X.A (pyIter v) (PIE X pins σ tg R) X.xe s1) X.xe s
theorem go_of {M : Model} {A : Around} {E : Value → Shared → Prop} {s : Shared} {tg : Expr} {it : Addr} {u : Value} {o : Obj} {n : String} {vs : Array Value} {Q : Unit → Shared → Prop} (ho : s.heap.get? it = some o) (hc : o.cls = .type n) (hd : o.data = .fields vs)
    (hn : ["enumerate", "zip", "dict_itemiterator", "dict_reverseitemiterator", "odict_iterator", "itertools.zip_longest", "itertools.pairwise"].contains n = false) (hQ : Q () s) : wpAny M A (letOwnedTupleGo tg (.ref it) u) Q E s := by
  unfold letOwnedTupleGo
  cases tg <;> first
    | exact wpAny_pure hQ
    | (cases u <;> first
        | exact wpAny_pure hQ
        | (refine wpAny_bind (wpAny_load ho ?_)
           rw [hc, hd]
           show wpAny M A (if (["enumerate", "zip", "dict_itemiterator", "dict_reverseitemiterator", "odict_iterator", "itertools.zip_longest", "itertools.pairwise"].contains n && vs[0]? == some (rawInt _)) = true then _ else _) Q E s
           rw [if_neg (by intro h; rw [hn, Bool.false_and] at h; cases h)]
           exact wpAny_pure hQ))
def Itl (K : PySem.W.Frag) (a : Addr) : It :=
  ⟨fun i H => ∃ xs x, SqL K H a xs ∧ xs[i]? = some x, fun i H x H' => H' = H ∧ ∀ xs, SqL K H a xs → xs[i]? = some x, fun i H => ∃ xs, SqL K H a xs ∧ xs.length ≤ i⟩
def Itt (K : PySem.W.Frag) (a : Addr) : It :=
  ⟨fun i H => ∃ xs x, SqT K H a xs ∧ xs[i]? = some x, fun i H x H' => H' = H ∧ ∀ xs, SqT K H a xs → xs[i]? = some x, fun i H => ∃ xs, SqT K H a xs ∧ xs.length ≤ i⟩
def Itr (lo : Int) (n : Nat) : It := ⟨fun i _ => i < n, fun i H x H' => H' = H ∧ x = .int (lo + i), fun i _ => n ≤ i⟩
theorem turn_list {P : Program} {w : World} {K : PySem.W.Frag} {tg : Expr} (a it : Addr) : Turn P w K tg (Itl K a) [it] it (fun i h => h.IsListIter it a i) where
  mem := by simp
  obj := fun i h st b hb => by
    have e : b = it := by simpa using hb
    subst e
    obtain ⟨o, e, c, d⟩ := st
    exact ⟨o, e, fun v z => by rw [d] at z; cases z⟩
  keep := fun i h h' st k => st.at fun o e => k it (by simp) o e
  item := by
    intro X hP hw hK hc i pins s σ H E I hf st hg
    subst hP hw hK
    obtain ⟨xs, x, hq, hx⟩ := hg
    obtain ⟨its, rv, p, hz⟩ := I.list hq
    obtain ⟨u, hu, ru⟩ := rv.get hx
    obtain ⟨f0, f1, f2, f3, f4, f5⟩ := hf it (by simp)
    refine wpAny_pyNext_list_item st p.isList (x := u) (by simpa using hu) fun h' st' sb => ?_
    have I1 : Inv X pins σ H { s with heap := h' } := I.turned (t' := s.toks) (fun b o hb e => (sb.2 b hb).trans e) f0 f1 f3 f4 f5
    obtain ⟨o, e, c, d⟩ := id st'
    exact ⟨u, rfl, go_of (s := { s with heap := h' }) e c d (by decide) ⟨x, H, I1, ru, ⟨rfl, fun ys hy => by rw [I.list_inj hy hq]; exact hx⟩, st', fun b hb => (hf b hb).1⟩⟩
  done := by
    intro X hP hw hK hc i pins s σ H E I hf st hg
    subst hP hw hK
    obtain ⟨xs, hq, hx⟩ := hg
    obtain ⟨its, rv, p, hz⟩ := I.list hq
    obtain ⟨f0, f1, f2, f3, f4, f5⟩ := hf it (by simp)
    have hl := rv.length
    exact wpAny_pyNext_list_end (I.ok.hd hc) st p.isList (by simp; omega) fun h' eb => ⟨rfl, I.turned (t' := s.toks) (fun b o hb e => eb b o hb e) f0 f1 f3 f4 f5⟩
  self := fun _ _ _ _ _ st h => wpAny_pyIter_listiter st h
theorem turn_tuple {P : Program} {w : World} {K : PySem.W.Frag} {tg : Expr} (a it : Addr) : Turn P w K tg (Itt K a) [it] it (fun i h => h.IsTupleIter it a i) where
  mem := by simp
  obj := fun i h st b hb => by
    have e : b = it := by simpa using hb
    subst e
    obtain ⟨o, e, c, d⟩ := st
    exact ⟨o, e, fun v z => by rw [d] at z; cases z⟩
  keep := fun i h h' st k => st.at fun o e => k it (by simp) o e
  item := by
    intro X hP hw hK hc i pins s σ H E I hf st hg
    subst hP hw hK
    obtain ⟨xs, x, hq, hx⟩ := hg
    obtain ⟨its, rv, p, hz⟩ := I.tuple hq
    obtain ⟨u, hu, ru⟩ := rv.get hx
    obtain ⟨f0, f1, f2, f3, f4, f5⟩ := hf it (by simp)
    refine wpAny_pyNext_tuple_item st (show s.heap.IsTuple a its.toArray from p) (x := u) (by simpa using hu) fun h' st' sb => ?_
    have I1 : Inv X pins σ H { s with heap := h' } := I.turned (t' := s.toks) (fun b o hb e => (sb.2 b hb).trans e) f0 f1 f3 f4 f5
    obtain ⟨o, e, c, d⟩ := id st'
    exact ⟨u, rfl, go_of (s := { s with heap := h' }) e c d (by decide) ⟨x, H, I1, ru, ⟨rfl, fun ys hy => by rw [I.tuple_inj hy hq]; exact hx⟩, st', fun b hb => (hf b hb).1⟩⟩
  done := by
    intro X hP hw hK hc i pins s σ H E I hf st hg
    subst hP hw hK
    obtain ⟨xs, hq, hx⟩ := hg
    obtain ⟨its, rv, p, hz⟩ := I.tuple hq
    obtain ⟨f0, f1, f2, f3, f4, f5⟩ := hf it (by simp)
    have hl := rv.length
    exact wpAny_pyNext_tuple_end (I.ok.hd hc) st (show s.heap.IsTuple a its.toArray from p) (by simp; omega) fun h' eb => ⟨rfl, I.turned (t' := s.toks) (fun b o hb e => eb b o hb e) f0 f1 f3 f4 f5⟩
  self := fun _ _ _ _ _ st h => wpAny_pyIter_tupleiter st h
theorem turn_range {P : Program} {w : World} {K : PySem.W.Frag} {tg : Expr} (it : Addr) (lo : Int) (n : Nat) : Turn P w K tg (Itr lo n) [it] it (fun i h => IsRangeIter h it (lo + (i : Nat) * 1) ((n : Int) - (i : Nat)) 1) where
  mem := by simp
  obj := fun i h st b hb => by
    have e : b = it := by simpa using hb
    subst e
    exact ⟨_, st, fun v z => by
      have z' : Data.fields _ = Data.cell v := z
      cases z'⟩
  keep := fun i h h' st k => k it (by simp) _ st
  item := by
    intro X hP hw hK hc i pins s σ H E I hf st hg
    subst hP hw hK
    obtain ⟨f0, f1, f2, f3, f4, f5⟩ := hf it (by simp)
    have W := Walks.range (prog := X.prog) (w := X.w) (I.ok.hd hc) it lo 1 n
    refine W.item i s _ _ hg st fun v h' tk hv st' kk => ?_
    obtain ⟨t, rfl⟩ := hv
    have I1 : Inv X pins σ H { s with heap := h', toks := tk } := I.turned (fun b o hb e => kk b o (by simpa using hb) e) f0 f1 f3 f4 f5
    refine ⟨_, rfl, go_of (s := { s with heap := h', toks := tk }) (n := "range_iterator") st' rfl rfl (by decide) ⟨.int (lo + i), H, I1, ⟨t, ?_⟩, ⟨rfl, rfl⟩, st', fun b hb => (hf b hb).1⟩⟩
    rw [Int.mul_one]
  done := by
    intro X hP hw hK hc i pins s σ H E I hf st hg
    subst hP hw hK
    obtain ⟨f0, f1, f2, f3, f4, f5⟩ := hf it (by simp)
    exact wpAny_pyNext_range_end (I.ok.hd hc) st (by have : n ≤ i := hg; omega) fun h' eb => ⟨rfl, I.turned (t' := s.toks) (fun b o hb e => eb b o hb e) f0 f1 f3 f4 f5⟩
  self := fun _ _ _ _ _ st h => wpAny_pyIter_rangeiter st h
end L2
namespace L2
open PySem PySem.Spec PyProof.Rows
section
variable {X : Cx} {tg : Expr}
def iList (K : PySem.W.Frag) (tl : TE) : TI := fun σ H R => tl σ H fun x H1 => ∃ a, x = .ref a ∧ (∃ xs, SqL K H1 a xs) ∧ R (Itl K a) H1
def iTup (K : PySem.W.Frag) (tl : TE) : TI := fun σ H R => tl σ H fun x H1 => ∃ a, x = .ref a ∧ (∃ xs, SqT K H1 a xs) ∧ R (Itt K a) H1
theorem pi_list {l : Expr} {tl : TE} (hl : PE X l tl) : PI X tg l (iList X.K tl) := by
  intro pins s σ H R I h
  refine thn (hl pins s σ H _ I h) fun v s1 ⟨x, H1, I1, r1, q1⟩ => ?_
  obtain ⟨a, e, ⟨xs, hq⟩, q⟩ := q1
  subst e
  cases r1
  obtain ⟨its, rv, p, hz⟩ := I1.list hq
  refine wpAny_pyIter_list p.isList ?_
  refine ⟨s1.heap.objs.size, [s1.heap.objs.size], _, _, H1, rfl, I1.kept (t' := s1.toks) fun b o e => Heap.get?_push_of_some _ e, turn_list a _, ⟨_, Heap.get?_push_size _ rfl, rfl, rfl⟩, fun b hb => ?_, q⟩
  have e : b = s1.heap.objs.size := by simpa using hb
  subst e
  exact I1.fpOk (Nat.le_refl _) (I1.hok.fresh (Nat.le_refl _))
theorem pi_tup {l : Expr} {tl : TE} (hl : PE X l tl) : PI X tg l (iTup X.K tl) := by
  intro pins s σ H R I h
  refine thn (hl pins s σ H _ I h) fun v s1 ⟨x, H1, I1, r1, q1⟩ => ?_
  obtain ⟨a, e, ⟨xs, hq⟩, q⟩ := q1
  subst e
  cases r1
  obtain ⟨its, rv, p, hz⟩ := I1.tuple hq
  refine wpAny_pyIter_tuple (show s1.heap.IsTuple a its.toArray from p) ?_
  refine ⟨s1.heap.objs.size, [s1.heap.objs.size], _, _, H1, rfl, I1.kept (t' := s1.toks) fun b o e => Heap.get?_push_of_some _ e, turn_tuple a _, ⟨_, Heap.get?_push_size _ rfl, rfl, rfl⟩, fun b hb => ?_, q⟩
  have e : b = s1.heap.objs.size := by simpa using hb
  subst e
  exact I1.fpOk (Nat.le_refl _) (I1.hok.fresh (Nat.le_refl _))
theorem range_it {pins : List (Addr × Obj)} {σ : St} {H : Hp} {s : Shared} {R : It → Hp → Prop} {E : Value → Shared → Prop} {lo hi : Int} {t u v : Tok} {tk : Nat} (I : Inv X pins σ H s) (h1 : -(2 ^ 62) ≤ lo) (h2 : lo < 2 ^ 62) (h3 : -(2 ^ 62) ≤ hi) (h4 : hi < 2 ^ 62)
    (q : R (Itr lo (hi - lo).toNat) H) : wpAny (model X.prog X.w) X.A (pyIter (.ref s.heap.objs.size)) (PIE X pins σ tg R) E { s with heap := s.heap.push { cls := .type "range", data := .fields #[.int lo t, .int hi u, .int 1 v] }, toks := tk } := by
  refine wpAny_pyIter_range (IsRange.new ..) (small_one h1 h2 h3 h4) ?_
  have I1 : Inv X pins σ H { s with heap := s.heap.push { cls := .type "range", data := .fields #[.int lo t, .int hi u, .int 1 v] }, toks := tk } := I.kept fun b o e => Heap.get?_push_of_some _ e
  refine ⟨(s.heap.push { cls := .type "range", data := .fields #[.int lo t, .int hi u, .int 1 v] }).objs.size, [(s.heap.push { cls := .type "range", data := .fields #[.int lo t, .int hi u, .int 1 v] }).objs.size], _, _, H, rfl,
    I1.kept (t' := tk) fun b o e => Heap.get?_push_of_some _ e, turn_range _ lo (hi - lo).toNat, ?_, fun b hb => ?_, q⟩
  · have e1 : lo + ((0 : Nat) : Int) * 1 = lo := by simp
    have e2 : (((hi - lo).toNat : Nat) : Int) - ((0 : Nat) : Int) = Builtin.Range.rangeSize lo hi 1 := by rw [rangeSize_one]; split <;> omega
    show IsRangeIter _ _ (lo + ((0 : Nat) : Int) * 1) ((((hi - lo).toNat : Nat) : Int) - ((0 : Nat) : Int)) 1
    rw [e1, e2]
    exact Heap.get?_push_size _ rfl
  · have e : b = (s.heap.push { cls := .type "range", data := .fields #[.int lo t, .int hi u, .int 1 v] }).objs.size := by simpa using hb
    subst e
    exact I1.fpOk (Nat.le_refl _) (I1.hok.fresh (Nat.le_refl _))
def iRng1 (ta : TA) : TI := fun σ H R => ta σ H fun vs H1 => ∃ j : Int, vs = [.int j] ∧ -(2 ^ 62) ≤ j ∧ j < 2 ^ 62 ∧ R (Itr 0 j.toNat) H1
theorem pi_range1 {a : Expr} {ta : TA} {p pos : Pos} (hg : Gl X "range") (hm : X.mg "range" = none) (ha : PA X [a] ta) (hs : starEach [a] X.env = [(false, eval a X.env)] := by rfl) : PI X tg (.Call (.Name "range" p) [a] [] pos) (iRng1 ta) := by
  intro pins s σ H R I h
  refine Call_ (ld_blt I hg hm boot_range (PyProof.Rows.callWith_type1 (thn (ha pos pins s σ H _ I h) fun us s1 ⟨vs, H1, I1, r1, q1⟩ => ?_) hs rfl))
  obtain ⟨j, e, q1, q2, q⟩ := q1
  subst e
  cases r1 with
  | cons r rr =>
    cases rr
    obtain ⟨t, rfl⟩ := r
    exact call_range_1 (range_it I1 (by omega) (by omega) q1 q2 (by simpa using q))
def tFor (wi : TI) (g : TG) (tb : TS) : TS := fun D σ H => wi σ H fun J H1 => ∃ W : Nat → Nat → St → Hp → Prop, (∃ m, W 0 m σ H1) ∧ ∀ i m σ H, W i m σ H →
  (J.stop i H ∧ D.nx σ H) ∨ (J.go i H ∧ ∃ N : St → Hp → Prop, (∀ σ' H', N σ' H' → ∃ m', m' < m ∧ W (i + 1) m' σ' H') ∧ ∀ x H', J.yld i H x H' → g x σ H' fun σ2 H2 => tb { D with nx := N, ct := N, bk := D.nx } σ2 H2)
def pinsAt (fp : List Addr) (h : Heap) : List (Addr × Obj) := fp.filterMap fun b => (h.get? b).map fun o => (b, o)
theorem mem_pinsAt {fp : List Addr} {h : Heap} {b : Addr} {o : Obj} (hb : b ∈ fp) (e : h.get? b = some o) : (b, o) ∈ pinsAt fp h := List.mem_filterMap.mpr ⟨b, hb, by rw [e]; rfl⟩
theorem of_pinsAt {fp : List Addr} {h : Heap} {p : Addr × Obj} (hp : p ∈ pinsAt fp h) : p.1 ∈ fp ∧ h.get? p.1 = some p.2 := by
  obtain ⟨b, hb, e⟩ := List.mem_filterMap.mp hp
  cases q : h.get? b with
  | none => rw [q] at e; cases e
  | some o =>
    rw [q] at e
    have e' : (b, o) = p := Option.some.inj e
    subst e'
    exact ⟨hb, q⟩
theorem Inv.pinned {pins : List (Addr × Obj)} {σ : St} {H : Hp} {s : Shared} {fp : List Addr} (I : Inv X pins σ H s) (hf : ∀ b ∈ fp, FpOk X pins H b) (ho : ∀ b ∈ fp, ∃ o, s.heap.get? b = some o ∧ ∀ v, o.data ≠ .cell v) : Inv X (pins ++ pinsAt fp s.heap) σ H s :=
  I.pins_of fun p hp => (List.mem_append.mp hp).elim (fun z => I.pin p (List.mem_append_right _ z)) fun z => by
    obtain ⟨hb, e⟩ := of_pinsAt z
    obtain ⟨f0, f1, f2, _⟩ := hf p.1 hb
    obtain ⟨o, e', d⟩ := ho p.1 hb
    rw [e] at e'; cases e'
    exact ⟨e, f0, f1, f2, d⟩
theorem Inv.unpinned {pins pl : List (Addr × Obj)} {σ : St} {H : Hp} {s : Shared} (I : Inv X (pins ++ pl) σ H s) : Inv X pins σ H s := I.pins_of fun p hp => I.pin p (List.mem_append_right _ (List.mem_append_left _ hp))
theorem ps_for {iter : Expr} {body : List Stmt} {wi : TI} {g : TG} {tb : TS} {pos : Pos} (hp : PassesOwn (model X.prog X.w) X.A X.env X.xe) (hc : X.calm = true) (hi : PI X tg iter wi) (hg : PG X tg g) (hb : PSs X body tb)
    (hs : ∀ x, foldedSetIterable iter X.env x = pure x := by intro _; rfl) : PS X (.For tg iter body [] pos) (tFor wi g tb) := by
  intro pins s σ H D I h
  refine wpAny_For (thn (hi pins s σ H _ I h) fun v s1 h1 => thn h1 fun itv s2 h2 => ?_) hs
  obtain ⟨it, fp, tn, J, H2, e, I2, T, st2, f2, W, ⟨m0, w0⟩, turn⟩ := h2
  subst e
  -- what stays true of the iterator's objects through the loop
  have stat : ∀ {H' : Hp}, (∀ b ∈ fp, H' b = none) → ∀ b ∈ fp, FpOk X pins H' b := fun hn b hb => ⟨hn b hb, (f2 b hb).2⟩
  refine codeAny_forLoop_any (fun n s' => ∃ i σ' H', Inv X pins σ' H' s' ∧ tn i s'.heap ∧ (∀ b ∈ fp, H' b = none) ∧ W i n σ' H') ?_ m0 ⟨0, σ, H2, I2, st2, fun b hb => (f2 b hb).1, w0⟩
  rintro n s3 ⟨i, σ3, H3, I3, st3, fr3, w3⟩
  rcases turn i n σ3 H3 w3 with ⟨stop, qn⟩ | ⟨go, N, hN, step⟩
  · refine wpAny_passesOwn hp (thn (T.done X rfl rfl rfl hc i pins s3 σ3 H3 X.xe I3 (stat fr3) st3 stop) fun r s4 ⟨hr, I4⟩ => ?_)
    subst hr
    exact wpAny_execs_nil ⟨σ3, H3, I4, qn⟩
  · refine wpAny_passesOwn hp (thn (T.item X rfl rfl rfl hc i pins s3 σ3 H3 X.xe I3 (stat fr3) st3 go) fun r s4 ⟨u, hr, h4⟩ => ?_)
    subst hr
    refine wpAny_passesOwn hp (thn h4 fun _ s5 ⟨x, H5, I5, r5, y5, st5, fr5⟩ => ?_)
    have I5' := I5.pinned (stat fr5) (T.obj _ _ st5)
    refine wpAny_passesOwn hp (thn (hg _ s5 σ3 H5 x u _ I5' r5 (step x H5 y5)) fun _ s6 ⟨σ6, H6, I6, q6⟩ => ?_)
    refine wpAny_passesOwn hp (thn (hb _ s6 σ6 H6 _ I6 q6) fun f s7 q7 => ?_)
    have again : ∀ {σ7 : St} {H7 : Hp}, Inv X (pins ++ pinsAt fp s5.heap) σ7 H7 s7 → N σ7 H7 → ∃ m, m < n ∧ ∃ i σ' H', Inv X pins σ' H' s7 ∧ tn i s7.heap ∧ (∀ b ∈ fp, H' b = none) ∧ W i m σ' H' := fun {σ7 H7} I7 n7 => by
      obtain ⟨m', hm, w7⟩ := hN σ7 H7 n7
      refine ⟨m', hm, i + 1, σ7, H7, I7.unpinned, T.keep _ _ _ st5 fun b hb o e => (I7.pin (b, o) (List.mem_append_right _ (List.mem_append_right _ (mem_pinsAt hb e)))).1, fun b hb => ?_, w7⟩
      obtain ⟨o, e, d⟩ := T.obj _ _ st5 b hb
      exact (I7.pin (b, o) (List.mem_append_right _ (List.mem_append_right _ (mem_pinsAt hb e)))).2.1
    cases f with
    | next => obtain ⟨σ7, H7, I7, n7⟩ := q7; exact again I7 n7
    | cont => obtain ⟨σ7, H7, I7, n7⟩ := q7; exact again I7 n7
    | brk => obtain ⟨σ7, H7, I7, q7⟩ := q7; exact ⟨σ7, H7, I7.unpinned, q7⟩
    | ret v => obtain ⟨x7, σ7, H7, I7, r7, q7⟩ := q7; exact ⟨x7, σ7, H7, I7.unpinned, r7, q7⟩
end
theorem for_list {K : PySem.W.Frag} {a : Addr} {xs : List V} {g : TG} {tb : TS} {D : Ends} {σ : St} {H : Hp} (Pv : Nat → St → Hp → Prop) (h0 : Pv 0 σ H) (hl : ∀ i σ H, i ≤ xs.length → Pv i σ H → SqL K H a xs)
    (hs : ∀ i x σ H, xs[i]? = some x → Pv i σ H → g x σ H fun σ2 H2 => tb { D with nx := Pv (i + 1), ct := Pv (i + 1), bk := D.nx } σ2 H2) (hd : ∀ σ H, Pv xs.length σ H → D.nx σ H) :
    ∃ W : Nat → Nat → St → Hp → Prop, (∃ m, W 0 m σ H) ∧ ∀ i m σ H, W i m σ H →
      ((Itl K a).stop i H ∧ D.nx σ H) ∨ ((Itl K a).go i H ∧ ∃ N : St → Hp → Prop, (∀ σ' H', N σ' H' → ∃ m', m' < m ∧ W (i + 1) m' σ' H') ∧ ∀ x H', (Itl K a).yld i H x H' → g x σ H' fun σ2 H2 => tb { D with nx := N, ct := N, bk := D.nx } σ2 H2) := by
  refine ⟨fun i m σ H => m = xs.length - i ∧ i ≤ xs.length ∧ Pv i σ H, ⟨xs.length, by simp, Nat.zero_le _, h0⟩, ?_⟩
  rintro i m σ H ⟨rfl, hi, p⟩
  have q := hl i σ H hi p
  by_cases hlt : i < xs.length
  · refine .inr ⟨⟨xs, xs[i], q, by simp [hlt]⟩, Pv (i + 1), fun σ' H' p' => ⟨xs.length - (i + 1), by omega, rfl, hlt, p'⟩, fun x H' y => ?_⟩
    obtain ⟨e, y⟩ := y
    subst e
    exact hs i x σ _ (y xs q) p
  · have e : i = xs.length := by omega
    subst e
    exact .inl ⟨⟨xs, q, Nat.le_refl _⟩, hd σ H p⟩
theorem for_tup {K : PySem.W.Frag} {a : Addr} {xs : List V} {g : TG} {tb : TS} {D : Ends} {σ : St} {H : Hp} (Pv : Nat → St → Hp → Prop) (h0 : Pv 0 σ H) (hl : ∀ i σ H, i ≤ xs.length → Pv i σ H → SqT K H a xs)
    (hs : ∀ i x σ H, xs[i]? = some x → Pv i σ H → g x σ H fun σ2 H2 => tb { D with nx := Pv (i + 1), ct := Pv (i + 1), bk := D.nx } σ2 H2) (hd : ∀ σ H, Pv xs.length σ H → D.nx σ H) :
    ∃ W : Nat → Nat → St → Hp → Prop, (∃ m, W 0 m σ H) ∧ ∀ i m σ H, W i m σ H →
      ((Itt K a).stop i H ∧ D.nx σ H) ∨ ((Itt K a).go i H ∧ ∃ N : St → Hp → Prop, (∀ σ' H', N σ' H' → ∃ m', m' < m ∧ W (i + 1) m' σ' H') ∧ ∀ x H', (Itt K a).yld i H x H' → g x σ H' fun σ2 H2 => tb { D with nx := N, ct := N, bk := D.nx } σ2 H2) := by
  refine ⟨fun i m σ H => m = xs.length - i ∧ i ≤ xs.length ∧ Pv i σ H, ⟨xs.length, by simp, Nat.zero_le _, h0⟩, ?_⟩
  rintro i m σ H ⟨rfl, hi, p⟩
  have q := hl i σ H hi p
  by_cases hlt : i < xs.length
  · refine .inr ⟨⟨xs, xs[i], q, by simp [hlt]⟩, Pv (i + 1), fun σ' H' p' => ⟨xs.length - (i + 1), by omega, rfl, hlt, p'⟩, fun x H' y => ?_⟩
    obtain ⟨e, y⟩ := y
    subst e
    exact hs i x σ _ (y xs q) p
  · have e : i = xs.length := by omega
    subst e
    exact .inl ⟨⟨xs, q, Nat.le_refl _⟩, hd σ H p⟩
theorem for_range {lo : Int} {n : Nat} {g : TG} {tb : TS} {D : Ends} {σ : St} {H : Hp} (Pv : Nat → St → Hp → Prop) (h0 : Pv 0 σ H)
    (hs : ∀ i σ H, i < n → Pv i σ H → g (.int (lo + i)) σ H fun σ2 H2 => tb { D with nx := Pv (i + 1), ct := Pv (i + 1), bk := D.nx } σ2 H2) (hd : ∀ σ H, Pv n σ H → D.nx σ H) :
    ∃ W : Nat → Nat → St → Hp → Prop, (∃ m, W 0 m σ H) ∧ ∀ i m σ H, W i m σ H →
      ((Itr lo n).stop i H ∧ D.nx σ H) ∨ ((Itr lo n).go i H ∧ ∃ N : St → Hp → Prop, (∀ σ' H', N σ' H' → ∃ m', m' < m ∧ W (i + 1) m' σ' H') ∧ ∀ x H', (Itr lo n).yld i H x H' → g x σ H' fun σ2 H2 => tb { D with nx := N, ct := N, bk := D.nx } σ2 H2) := by
  refine ⟨fun i m σ H => m = n - i ∧ i ≤ n ∧ Pv i σ H, ⟨n, by simp, Nat.zero_le _, h0⟩, ?_⟩
  rintro i m σ H ⟨rfl, hi, p⟩
  by_cases hlt : i < n
  · refine .inr ⟨hlt, Pv (i + 1), fun σ' H' p' => ⟨n - (i + 1), by omega, rfl, hlt, p'⟩, fun x H' y => ?_⟩
    obtain ⟨e, y⟩ := y
    subst e y
    exact hs i σ _ hlt p
  · have e : i = n := by omega
    subst e
    exact .inl ⟨Nat.le_refl _, hd σ H p⟩
end L2
namespace L2
open PySem PySem.Spec PyProof.Rows
abbrev R2 := V → V → Hp → VK → Prop
def OpR (X : Cx) (f : Value → Value → Sem Value) (r : R2) : Prop :=
  ∀ (pins : List (Addr × Obj)) (s : Shared) (σ : St) (H : Hp) (x y : V) (v u : Value) (Q : VK), Inv X pins σ H s → RelV x v → RelV y u → r x y H Q →
    wpAny (model X.prog X.w) X.A (f v u) (EP X pins σ Q) X.xe s
def CallR (X : Cx) (f : Value) (r : List V → Hp → VK → Prop) : Prop :=
  ∀ (pins : List (Addr × Obj)) (s : Shared) (σ : St) (H : Hp) (xs : List V) (us : List Value) (Q : VK), Inv X pins σ H s → Vals xs us → r xs H Q →
    wpAny (model X.prog X.w) X.A (call f us) (EP X pins σ Q) X.xe s
def tOp (r : R2) (ta tb : TE) : TE := fun σ H Q => ta σ H fun x H1 => tb σ H1 fun y H2 => r x y H2 Q
def rI (C : Int → Int → Prop) (g : Int → Int → V) : R2 := fun x y H Q => ∃ i j, x = .int i ∧ y = .int j ∧ C i j ∧ Q (g i j) H
def rI0 (g : Int → Int → V) : R2 := fun x y H Q => ∃ i j, x = .int i ∧ y = .int j ∧ Q (g i j) H
section
variable {X : Cx} {a b c : Expr} {ta tb tc : TE} {pos : Pos}
theorem binT (ha : PE X a ta) (hb : PE X b tb) {pins : List (Addr × Obj)} {s : Shared} {σ : St} {H : Hp} {R : V → V → Hp → Prop} (I : Inv X pins σ H s)
    (h : ta σ H fun x H1 => tb σ H1 fun y H2 => R x y H2) {Q : Value → Shared → Prop} {f : Value → Value → Sem Value}
    (hf : ∀ v u s2 x y H2, Inv X pins σ H2 s2 → RelV x v → RelV y u → R x y H2 → wpAny (model X.prog X.w) X.A (f v u) Q X.xe s2) :
    wpAny (model X.prog X.w) X.A (eval a X.env) (fun v s₁ => wpAny (model X.prog X.w) X.A (eval b X.env) (fun u s₂ => wpAny (model X.prog X.w) X.A (f v u) Q X.xe s₂) X.xe s₁) X.xe s := by
  refine thn (ha pins s σ H _ I h) fun v s1 ⟨x, H1, I1, r1, q1⟩ => ?_
  refine thn (hb pins s1 σ H1 _ I1 q1) fun u s2 ⟨y, H2, I2, r2, q2⟩ => ?_
  exact hf v u s2 x y H2 I2 r1 r2 q2
theorem pe_op {op : Operator} {r : R2} (ho : OpR X (binaryOp op) r) (ha : PE X a ta) (hb : PE X b tb) : PE X (.BinOp a op b pos) (tOp r ta tb) := by
  intro pins s σ H Q I h
  exact wpAny_BinOp (binT ha hb I h fun v u s2 x y H2 I2 rx ry q => ho pins s2 σ H2 x y v u Q I2 rx ry q)
theorem opI {f : Value → Value → Sem Value} {C : Int → Int → Prop} {g : Int → Int → Int}
    (rule : ∀ (i j : Int) (t u : Tok) (s : Shared) (Q : Value → Shared → Prop) (E : Value → Shared → Prop), C i j → Q (.int (g i j) s.toks) { s with toks := s.toks + 1 } → wpAny (model X.prog X.w) X.A (f (.int i t) (.int j u)) Q E s) :
    OpR X f (rI C fun i j => .int (g i j)) := by
  intro pins s σ H x y v u Q I rx ry h
  obtain ⟨i, j, rfl, rfl, hc, q⟩ := h
  obtain ⟨t, rfl⟩ := rx
  obtain ⟨t', rfl⟩ := ry
  exact rule i j t t' s _ _ hc ⟨.int (g i j), H, I.tok _, ⟨_, rfl⟩, q⟩
theorem opI0 {f : Value → Value → Sem Value} {g : Int → Int → Int}
    (rule : ∀ (i j : Int) (t u : Tok) (s : Shared) (Q : Value → Shared → Prop) (E : Value → Shared → Prop), Q (.int (g i j) s.toks) { s with toks := s.toks + 1 } → wpAny (model X.prog X.w) X.A (f (.int i t) (.int j u)) Q E s) :
    OpR X f (rI0 fun i j => .int (g i j)) := by
  intro pins s σ H x y v u Q I rx ry h
  obtain ⟨i, j, rfl, rfl, q⟩ := h
  obtain ⟨t, rfl⟩ := rx
  obtain ⟨t', rfl⟩ := ry
  exact rule i j t t' s _ _ ⟨.int (g i j), H, I.tok _, ⟨_, rfl⟩, q⟩
theorem opB0 {f : Value → Value → Sem Value} {g : Int → Int → Bool}
    (rule : ∀ (i j : Int) (t u : Tok) (s : Shared) (Q : Value → Shared → Prop) (E : Value → Shared → Prop), Q (.bool (g i j)) s → wpAny (model X.prog X.w) X.A (f (.int i t) (.int j u)) Q E s) :
    OpR X f (rI0 fun i j => .bl (g i j)) := by
  intro pins s σ H x y v u Q I rx ry h
  obtain ⟨i, j, rfl, rfl, q⟩ := h
  obtain ⟨t, rfl⟩ := rx
  obtain ⟨t', rfl⟩ := ry
  exact rule i j t t' s _ _ ⟨.bl (g i j), H, I, rfl, q⟩
def CDiv (i j : Int) : Prop := 0 < j ∧ j < 1073741824
def CMul (i j : Int) : Prop := (-(2 ^ 64) < i ∧ i < 2 ^ 64) ∨ (-(2 ^ 64) < j ∧ j < 2 ^ 64)
theorem CMul.ok {i j : Int} (h : CMul i j) : IntMulOk i j := by
  rcases h with ⟨h1, h2⟩ | ⟨h1, h2⟩
  · exact .of_left (intBits_le_64 h1 h2)
  · exact .of_right (intBits_le_64 h1 h2)
theorem two_pow_nn (k : Nat) : (0 : Int) ≤ 2 ^ k := by
  rw [two_pow_cast]
  exact Int.natCast_nonneg _
theorem op_add : OpR X (binaryOp .Add) (rI0 fun i j => .int (i + j)) := opI0 fun _ _ _ _ _ _ _ q => add_int q
theorem op_sub : OpR X (binaryOp .Sub) (rI0 fun i j => .int (i - j)) := opI0 fun _ _ _ _ _ _ _ q => sub_int q
theorem op_mul : OpR X (binaryOp .Mult) (rI CMul fun i j => .int (i * j)) := opI fun _ _ _ _ _ _ _ hc q => mul_int q hc.ok
theorem op_fdiv : OpR X (binaryOp .FloorDiv) (rI CDiv fun i j => .int (i / j)) := opI fun i j _ _ _ _ _ hc q => by
  have h1 : (0 : Int) < j := hc.1
  have h2 : j < 1073741824 := hc.2
  exact floordiv_int (by omega) (by rw [Int.fdiv_eq_ediv_of_nonneg i (by omega)]; exact q) (.inl (PyProof.noPylong_small (by omega)))
theorem op_mod : OpR X (binaryOp .Mod) (rI (fun _ j => 0 < j) fun i j => .int (i % j)) := opI fun i j _ _ _ _ _ hc q => by
  have h1 : (0 : Int) < j := hc
  exact mod_int' (by omega) (by rw [Int.fmod_eq_emod_of_nonneg i (by omega)]; exact q)
theorem op_shr : OpR X (binaryOp .RShift) (rI (fun _ j => 0 ≤ j) fun i j => .int (i / 2 ^ j.toNat)) := opI fun i j _ _ _ _ _ hc q =>
  rshift_int hc (by rw [Int.fdiv_eq_ediv_of_nonneg i (two_pow_nn _)]; exact q)
theorem op_and : OpR X (binaryOp .BitAnd) (rI0 fun i j => .int (Builtin.bitAnd i j)) := opI0 fun _ _ _ _ _ _ _ q => and_int q
end
def scal : V → V → Bool
  | .non, .non => true | .non, .int _ => true | .int _, .non => true | .non, .bl _ => true | .bl _, .non => true | .non, .str _ => true | .str _, .non => true
  | .int _, .int _ => true | .bl _, .bl _ => true | .str _, .str _ => true | .byt _, .byt _ => true
  | .int _, .str _ => true | .str _, .int _ => true | .bl _, .str _ => true | .str _, .bl _ => true
  | _, _ => false
def rEq : R2 := fun x y H Q => scal x y = true ∧ Q (.bl (decide (x = y))) H
def rNe : R2 := fun x y H Q => scal x y = true ∧ Q (.bl (!decide (x = y))) H
theorem dec_int {i j : Int} : decide (V.int i = V.int j) = (i == j) := by
  rw [Bool.eq_iff_iff]
  simp
theorem dec_bl {i j : Bool} : decide (V.bl i = V.bl j) = (i == j) := by
  rw [Bool.eq_iff_iff]
  simp
theorem dec_str {i j : Str} : decide (V.str i = V.str j) = (i == j) := by
  rw [Bool.eq_iff_iff]
  simp
theorem dec_byt {i j : Array UInt8} : decide (V.byt i = V.byt j) = (i.toList == j.toList) := by
  rw [Bool.eq_iff_iff]
  cases i
  cases j
  simp
section
variable {X : Cx} {a b c : Expr} {ta tb tc : TE} {pos : Pos}
theorem fin_bl {pins : List (Addr × Obj)} {σ : St} {H : Hp} {s : Shared} {Q : VK} {k k' : Bool} (I : Inv X pins σ H s) (q : Q (.bl k) H) (e : k = k') : EP X pins σ Q (.bool k') s := by
  subst e
  exact ⟨.bl k, H, I, rfl, q⟩
theorem op_eq : OpR X (compareOp .Eq) rEq := by
  intro pins s σ H x y v u Q I rx ry h
  obtain ⟨hs, q⟩ := h
  cases x with
  | non =>
    cases rx
    cases y with
    | non => cases ry; exact PySem.EqNone.eq_none_none (fin_bl I q (by simp))
    | bl j => cases ry; exact PySem.EqNone.eq_none_bool (fin_bl I q (by simp))
    | int j => obtain ⟨t', rfl⟩ := ry; exact PySem.EqNone.eq_none_int (fin_bl I q (by simp))
    | str j => obtain ⟨t', rfl⟩ := ry; exact PySem.EqNone.eq_none_str (fin_bl I q (by simp))
    | _ => exact absurd (show false = true from hs) Bool.false_ne_true
  | bl i =>
    cases rx
    cases y with
    | non => cases ry; exact PySem.EqNone.eq_bool_none (fin_bl I q (by simp))
    | bl j => cases ry; exact eq_bool (fin_bl I q dec_bl)
    | str j => obtain ⟨t', rfl⟩ := ry; exact PySem.EqMixed.eq_bool_str (fin_bl I q (by simp))
    | _ => exact absurd (show false = true from hs) Bool.false_ne_true
  | int i =>
    obtain ⟨t, rfl⟩ := rx
    cases y with
    | non => cases ry; exact PySem.EqNone.eq_int_none (fin_bl I q (by simp))
    | int j => obtain ⟨t', rfl⟩ := ry; exact eq_int (fin_bl I q dec_int)
    | str j => obtain ⟨t', rfl⟩ := ry; exact PySem.EqMixed.eq_int_str (fin_bl I q (by simp))
    | _ => exact absurd (show false = true from hs) Bool.false_ne_true
  | str i =>
    obtain ⟨t, rfl⟩ := rx
    cases y with
    | non => cases ry; exact PySem.EqNone.eq_str_none (fin_bl I q (by simp))
    | bl j => cases ry; exact PySem.EqMixed.eq_str_bool (fin_bl I q (by simp))
    | int j => obtain ⟨t', rfl⟩ := ry; exact PySem.EqMixed.eq_str_int (fin_bl I q (by simp))
    | str j => obtain ⟨t', rfl⟩ := ry; exact eq_str (fin_bl I q dec_str)
    | _ => exact absurd (show false = true from hs) Bool.false_ne_true
  | byt i =>
    obtain ⟨t, rfl⟩ := rx
    cases y with
    | byt j => obtain ⟨t', rfl⟩ := ry; exact PySem.W.eq_bytes (fin_bl I q dec_byt)
    | _ => exact absurd (show false = true from hs) Bool.false_ne_true
  | _ => cases y <;> exact absurd (show false = true from hs) Bool.false_ne_true
theorem op_ne : OpR X (compareOp .NotEq) rNe := by
  intro pins s σ H x y v u Q I rx ry h
  obtain ⟨hs, q⟩ := h
  cases x with
  | non =>
    cases rx
    cases y with
    | non => cases ry; exact PySem.EqNone.ne_none_none (fin_bl I q (by simp))
    | bl j => cases ry; exact PySem.EqNone.ne_none_bool (fin_bl I q (by simp))
    | int j => obtain ⟨t', rfl⟩ := ry; exact PySem.EqNone.ne_none_int (fin_bl I q (by simp))
    | str j => obtain ⟨t', rfl⟩ := ry; exact PySem.EqNone.ne_none_str (fin_bl I q (by simp))
    | _ => exact absurd (show false = true from hs) Bool.false_ne_true
  | bl i =>
    cases rx
    cases y with
    | non => cases ry; exact PySem.EqNone.ne_bool_none (fin_bl I q (by simp))
    | bl j => cases ry; exact ne_bool (fin_bl I q (congrArg not dec_bl))
    | str j => obtain ⟨t', rfl⟩ := ry; exact PySem.EqMixed.ne_bool_str (fin_bl I q (by simp))
    | _ => exact absurd (show false = true from hs) Bool.false_ne_true
  | int i =>
    obtain ⟨t, rfl⟩ := rx
    cases y with
    | non => cases ry; exact PySem.EqNone.ne_int_none (fin_bl I q (by simp))
    | int j => obtain ⟨t', rfl⟩ := ry; exact ne_int (fin_bl I q (congrArg not dec_int))
    | str j => obtain ⟨t', rfl⟩ := ry; exact PySem.EqMixed.ne_int_str (fin_bl I q (by simp))
    | _ => exact absurd (show false = true from hs) Bool.false_ne_true
  | str i =>
    obtain ⟨t, rfl⟩ := rx
    cases y with
    | non => cases ry; exact PySem.EqNone.ne_str_none (fin_bl I q (by simp))
    | bl j => cases ry; exact PySem.EqMixed.ne_str_bool (fin_bl I q (by simp))
    | int j => obtain ⟨t', rfl⟩ := ry; exact PySem.EqMixed.ne_str_int (fin_bl I q (by simp))
    | str j => obtain ⟨t', rfl⟩ := ry; exact ne_str (fin_bl I q (congrArg not dec_str))
    | _ => exact absurd (show false = true from hs) Bool.false_ne_true
  | byt i =>
    obtain ⟨t, rfl⟩ := rx
    cases y with
    | byt j => obtain ⟨t', rfl⟩ := ry; exact PySem.W.ne_bytes (fin_bl I q (congrArg not dec_byt))
    | _ => exact absurd (show false = true from hs) Bool.false_ne_true
  | _ => cases y <;> exact absurd (show false = true from hs) Bool.false_ne_true
theorem op_lt : OpR X (compareOp .Lt) (rI0 fun i j => .bl (decide (i < j))) := opB0 fun _ _ _ _ _ _ _ q => lt_int q
theorem op_gt : OpR X (compareOp .Gt) (rI0 fun i j => .bl (decide (j < i))) := opB0 fun _ _ _ _ _ _ _ q => gt_int q
theorem op_ge : OpR X (compareOp .GtE) (rI0 fun i j => .bl (decide (j ≤ i))) := opB0 fun _ _ _ _ _ _ _ q => ge_int q
theorem nomark (b : Expr) {op : CmpOp} (h : op ≠ .In := by decide) (h2 : op ≠ .NotIn := by decide) : behindInMarks op b = false := by
  have e1 : (op == CmpOp.In) = false := by cases op <;> first | rfl | exact absurd rfl h
  have e2 : (op == CmpOp.NotIn) = false := by cases op <;> first | rfl | exact absurd rfl h2
  cases b <;> simp [behindInMarks, e1, e2]
def tTest (t : TE) : TT := fun σ H Q => t σ H fun x H' => ∃ k, x = .bl k ∧ Q k H'
theorem pt_cmpR {op : CmpOp} {r : R2} (ho : OpR X (compareOp op) r) (ha : PE X a ta) (hb : PE X b tb) (hm : behindInMarks op b = false) : PT X (.Compare a [op] [b] pos) (tTest (tOp r ta tb)) := by
  intro pins s σ H Q I h
  refine wpAny_isTrue_Compare1 (thn (ha pins s σ H _ I h) fun v s1 ⟨x, H1, I1, r1, q1⟩ => thn (hb pins s1 σ H1 _ I1 q1) fun u s2 ⟨y, H2, I2, r2, q2⟩ =>
    thn (ho pins s2 σ H2 x y v u _ I2 r1 r2 q2) fun c s3 ⟨z, H3, I3, r3, k, e, q3⟩ => ?_) hm
  subst e
  cases r3
  exact wpAny_truthy_bool ⟨H3, I3, q3⟩
theorem line63 : (sizeLine : Nat) < 2 ^ 63 := by rw [sizeLine_eq]; decide
theorem vals1 {x : V} {us : List Value} (r : Vals [x] us) : ∃ u, us = [u] ∧ RelV x u := by
  cases r with
  | cons r1 r2 => cases r2; exact ⟨_, rfl, r1⟩
theorem vals2 {x y : V} {us : List Value} (r : Vals [x, y] us) : ∃ u w', us = [u, w'] ∧ RelV x u ∧ RelV y w' := by
  cases r with
  | cons r1 r2 =>
    cases r2 with
    | cons r3 r4 => cases r4; exact ⟨_, _, rfl, r1, r3⟩
theorem call_min2 (hc : X.calm = true) : CallR X (.builtin "min") (fun xs H Q => ∃ i j, xs = [.int i, .int j] ∧ Q (.int (if j < i then j else i)) H) := by
  intro pins s σ H xs us Q I r h
  obtain ⟨i, j, rfl, q⟩ := h
  obtain ⟨u, w', rfl, ⟨t, rfl⟩, ⟨t', rfl⟩⟩ := vals2 r
  refine min_two_ints (I.ok.hd hc) fun h' tk k => ⟨_, H, I.kept k, ?_, q⟩
  by_cases hj : j < i
  · rw [if_pos hj, if_pos hj]; exact ⟨_, rfl⟩
  · rw [if_neg hj, if_neg hj]; exact ⟨_, rfl⟩
end
end L2
namespace L2
open PySem PySem.Spec PyProof.Rows
structure ObjM (h : Heap) (x dx C : Addr) (mA : Str → Option Value) : Prop where
  obj : h.get? x = some (PySem.W.instObj C dx)
  ns : h.Ns1 dx mA
  ne : dx ≠ x
theorem lookIn_ns {h : Heap} {dx : Addr} {mA : Str → Option Value} (n : h.Ns1 dx mA) : ∃ od, h.get? dx = some od ∧ ∀ name, PySem.W.lookIn name od = some (mA name) := by
  obtain ⟨o, es, ep, ho, hd, hk, _, hm⟩ := n
  refine ⟨o, ho, fun name => ?_⟩
  have e := hm name
  unfold nsFind findBy at e
  rw [← Array.find?_toList] at e
  unfold PySem.W.lookIn
  rw [hd]
  dsimp only
  split
  · rename_i y q
    rw [q] at e
    exact congrArg some e
  · rename_i q
    rw [q] at e
    have a : es.toList.any (·.refKey) = false := by
      rw [List.any_eq_false]
      intro y hy
      obtain ⟨z, t, hkey⟩ := hk y (Array.mem_toList_iff.mp hy)
      simp [DictEntry.refKey, hkey]
    have a' : ¬ es.toList.any (·.refKey) = true := by rw [a]; exact Bool.false_ne_true
    rw [if_neg a']
    exact congrArg some e
theorem ObjM.look {h : Heap} {x dx C : Addr} {mA : Str → Option Value} (I : ObjM h x dx C mA) : ∃ od, PySem.W.InstAt h x (PySem.W.instObj C dx) C (some od) ∧ ∀ name, PySem.W.lookIn name od = some (mA name) :=
  let ⟨od, ho, hl⟩ := lookIn_ns I.ns
  ⟨od, ⟨I.obj, rfl, rfl, ho⟩, hl⟩
section
variable {prog : Program} {w : World} {A : Around} {E : Value → Shared → Prop} {s : Shared} {K : PySem.W.Frag} {x dx C f : Addr} {mA : Str → Option Value} {name : Str} {v : Value}
theorem get_map {expr : Bool} {Q : Value → Shared → Prop} (X : K.In s.heap) (I : ObjM s.heap x dx C mA) (hg : PySem.W.plainGet K C name = true) (hh : PySem.W.hasDictIn K C = true)
    (ha : PySem.W.findIn K (.ref C) name = some none) (hv : mA name = some v) (hv' : PySem.W.handedIn v = true) (h : Q v { s with toks := s.toks + 1 }) :
    wpAny (model prog w) A (getAttr (.ref x) name expr) Q E s := by
  obtain ⟨od, J, hl⟩ := I.look
  exact PySem.W.get_value X J (PySem.W.plainGet_of hg).1 (PySem.W.findObj_own hh ha rfl (by rw [hl, hv])) hv' h
theorem get_meth {pl : Sem Bool} {Q : Value × List Value → Shared → Prop} (X : K.In s.heap) (I : ObjM s.heap x dx C mA) (hg : PySem.W.plainGet K C name = true)
    (hf : PySem.W.findIn K (.ref C) name = some (some (.ref f))) (ht : PySem.W.isFn K (.ref f) = true) (hv : mA name = none) (h : Q (.ref f, [.ref x]) s) :
    wpAny (model prog w) A (getMethod (.ref x) name pl) Q E s := by
  obtain ⟨od, J, hl⟩ := I.look
  exact PySem.W.method_fn X J (PySem.W.plainGet_of hg).1 (PySem.W.plainGet_of hg).2 hf (beq_iff_eq.mp ht) (by show (PySem.W.lookIn name od).map (·.isSome) = some false; rw [hl, hv]; rfl) h
theorem set_map {ns : List Str} {Q : Unit → Shared → Prop} (X : K.In s.heap) (I : ObjM s.heap x dx C mA)
    (hs : PySem.W.findIn K (.ref C) "__setattr__" = some (some (.builtin "object.__setattr__"))) (hp : PySem.W.plainOver K C = true) (ht : PySem.W.takerIn K C name = some none) (hh : PySem.W.hasDictIn K C = true)
    (hw : PySem.Within mA ns) (hsz : ns.length ≤ sizeLine)
    (h : ∀ h', ObjM h' x dx C (fun y => if y = name then some v else mA y) → Heap.SameBut dx s.heap h' → Q () { s with heap := h', toks := s.toks + 2 }) :
    wpAny (model prog w) A (setAttr (.ref x) name v) Q E s := by
  obtain ⟨od, J, hl⟩ := I.look
  refine PySem.W.set_plain X J hs (PySem.W.osa_open (s := { s with toks := s.toks + 1 }) (r := none) X J hp ht fun b => ?_)
  obtain ⟨cd, hc, hd'⟩ := PySem.W.any_some hh
  have hx : s.heap.get? x = some ⟨.ref C, some dx, .plain, #[]⟩ := I.obj
  refine wpAny_bind (wpAny_pure (wpAny_bind (wpAny_bind (wpAny_loadPart hx (wpAny_bind (PySem.W.Looks.here (s := { s with toks := s.toks + 1 }) (PySem.W.looks_clsIn X hc) ?_))))))
  rw [hd']
  refine wpAny_pure (a := some dx) (wpAny_bind (wpAny_pure (wpAny_bind ?_)))
  refine wpAny_nsSet1 (s := { s with toks := s.toks + 1 }) I.ns fun h' hn2 hs2 => ?_
  obtain ⟨oD, esD, epD, hoD, hdD, hcD⟩ := hn2.count (PySem.Within.cons name v hw)
  refine wpAny_bind (wpAny_lookBehind hoD (by rw [hdD]; exact pastItsLine_dict (Nat.le_trans hcD (by rw [List.length_cons]; omega))) ?_)
  exact wpAny_pure (h _ ⟨(hs2.2 _ (Ne.symm I.ne)).trans I.obj, hn2, I.ne⟩ hs2)
theorem make_map {R : Result → Shared → Prop} {vs : List Value} {kw : List (Str × Value)} (X : K.In s.heap) (hm : PySem.W.makesIn K C = true)
    (hi : PySem.W.findIn K (.ref C) "__init__" = some (some (.ref f))) (hf : PySem.W.typeIn K (.ref f) = some (.type "function"))
    (h : codeAny (model prog w) (A.under (.builtin "type.__call__" ⟨.ref C :: vs, kw⟩)) (.call (.ref f) ⟨.ref (s.heap.objs.size + 1) :: vs, kw⟩) (PySem.W.InitBack (s.heap.objs.size + 1) R)
      { s with heap := (s.heap.push PySem.W.emptyDict).push (PySem.W.instObj C s.heap.objs.size) }) :
    codeAny (model prog w) A (.call (.ref C) ⟨vs, kw⟩) R s := by
  obtain ⟨hh, g, d, t, os⟩ := s
  exact PySem.W.make_core (PySem.W.makes_of X hm) (PySem.W.looks_findIn X hi) (fun self => PySem.W.bind_fn X self hf) (.inl rfl) h
end
def putF (f : Str) (v : V) : List (Str × V) → List (Str × V)
  | [] => [(f, v)]
  | (g, x) :: r => if g = f then (g, v) :: r else (g, x) :: putF f v r
theorem lookup_putF (f g : Str) (v : V) : ∀ fs : List (Str × V), (putF f v fs).lookup g = if g = f then some v else fs.lookup g
  | [] => by
    show List.lookup g [(f, v)] = _
    by_cases h : g = f
    · have hb : (g == f) = true := beq_iff_eq.mpr h
      simp only [List.lookup, hb, if_pos h]
    · have hb : (g == f) = false := beq_eq_false_iff_ne.mpr h
      simp only [List.lookup, hb, if_neg h]
  | (k, x) :: r => by
    have ih := lookup_putF f g v r
    rw [show putF f v ((k, x) :: r) = (if k = f then (k, v) :: r else (k, x) :: putF f v r) from rfl]
    by_cases hk : k = f
    · rw [if_pos hk]
      by_cases h : g = k
      · have hb : (g == k) = true := beq_iff_eq.mpr h
        simp only [List.lookup, hb, if_pos (h.trans hk)]
      · have hb : (g == k) = false := beq_eq_false_iff_ne.mpr h
        simp only [List.lookup, hb, if_neg (fun e : g = f => h (e.trans hk.symm))]
    · rw [if_neg hk]
      by_cases h : g = k
      · have hb : (g == k) = true := beq_iff_eq.mpr h
        simp only [List.lookup, hb, if_neg (fun e : g = f => hk (h.symm.trans e))]
      · have hb : (g == k) = false := beq_eq_false_iff_ne.mpr h
        simp only [List.lookup, hb]
        exact ih
theorem keys_putF (f : Str) (v : V) : ∀ fs : List (Str × V), f ∈ (putF f v fs).map (·.1) ∧ ∀ g, g ∈ fs.map (·.1) → g ∈ (putF f v fs).map (·.1)
  | [] => ⟨by simp [putF], fun g h => by simp at h⟩
  | (k, x) :: r => by
    obtain ⟨i1, i2⟩ := keys_putF f v r
    rw [show putF f v ((k, x) :: r) = (if k = f then (k, v) :: r else (k, x) :: putF f v r) from rfl]
    by_cases hk : k = f
    · rw [if_pos hk]
      subst hk
      exact ⟨by simp, fun g h => by simpa using h⟩
    · rw [if_neg hk]
      refine ⟨?_, fun g h => ?_⟩
      · rw [List.map_cons]
        exact List.mem_cons_of_mem _ i1
      · rw [List.map_cons] at h ⊢
        rcases List.mem_cons.mp h with e | e
        · exact List.mem_cons.mpr (.inl e)
        · exact List.mem_cons_of_mem _ (i2 g e)
theorem length_putF (f : Str) (v : V) : ∀ fs : List (Str × V), (putF f v fs).length ≤ fs.length + 1
  | [] => by simp [putF]
  | (k, x) :: r => by
    have ih := length_putF f v r
    rw [show putF f v ((k, x) :: r) = (if k = f then (k, v) :: r else (k, x) :: putF f v r) from rfl]
    by_cases hk : k = f
    · rw [if_pos hk, List.length_cons, List.length_cons]; omega
    · rw [if_neg hk, List.length_cons, List.length_cons]; omega
theorem RelO.some_of {v : V} {o : Option Value} (r : RelO (some v) o) : ∃ u, o = some u ∧ RelV v u := by
  cases o with
  | none => exact (show False from r).elim
  | some u => exact ⟨u, rfl, r⟩
theorem RelO.none_of {o : Option Value} (r : RelO none o) : o = none := by
  cases o with
  | none => rfl
  | some u => exact (show False from r).elim
theorem handed_of {v : V} {u : Value} (r : RelV v u) : PySem.W.handedIn u = true := by
  cases v with
  | non => cases (show u = Value.none from r); rfl
  | bl b => cases (show u = Value.bool b from r); rfl
  | int i => obtain ⟨t, e⟩ := (show ∃ t, u = Value.int i t from r); cases e; rfl
  | str x => obtain ⟨t, e⟩ := (show ∃ t, u = Value.str x t from r); cases e; rfl
  | byt b => obtain ⟨t, e⟩ := (show ∃ t, u = Value.bytes b t from r); cases e; rfl
  | flt b => obtain ⟨t, e⟩ := (show ∃ t, u = Value.float b t from r); cases e; rfl
  | ref a => cases (show u = Value.ref a from r); rfl
  | ty n => cases (show u = Value.type n from r); rfl
section
variable {P : Program} {w : World} {H H' : Hp} {h h' : Heap} {a C dx : Addr} {fs fs' : List (Str × V)}
theorem ins_get (hok : HOk P w H h) (e : H a = some (.ins C dx fs)) : ∃ mA, ObjM h a dx C mA ∧ (∀ f, RelO (fs.lookup f) (mA f)) ∧ PySem.Within mA (fs.map (·.1)) ∧ fs.length ≤ 1000 ∧ H dx = some (.own a) := by
  obtain ⟨d, z, ne, ob, mA, n, r, q⟩ := (show ObjOk P w H h a (.ins C dx fs) from hok a _ e)
  exact ⟨mA, ⟨ob, n, ne⟩, r, q, z, d⟩
end
structure Cls (K : PySem.W.Frag) (C : Addr) : Prop where
  pg : PySem.W.plainGet K C Str.empty = true
  hd : PySem.W.hasDictIn K C = true
  po : PySem.W.plainOver K C = true
  sa : PySem.W.findIn K (.ref C) "__setattr__" = some (some (.builtin "object.__setattr__"))
theorem Cls.get {K : PySem.W.Frag} {C : Addr} (c : Cls K C) (f : Str) : PySem.W.plainGet K C f = true := c.pg
def NoAttr (K : PySem.W.Frag) (C : Addr) (f : Str) : Prop := PySem.W.findIn K (.ref C) f = some none
theorem NoAttr.taker {K : PySem.W.Frag} {C : Addr} {f : Str} (n : NoAttr K C f) : PySem.W.takerIn K C f = some none := by
  unfold PySem.W.takerIn
  rw [show PySem.W.findIn K (.ref C) f = some none from n]
  rfl
structure Meth (K : PySem.W.Frag) (C : Addr) (m : Str) (f : Addr) : Prop where
  at_ : PySem.W.findIn K (.ref C) m = some (some (.ref f))
  fn : PySem.W.isFn K (.ref f) = true
  kp : PySem.W.keepIn K (.ref f) = true
section
variable {X : Cx} {pins : List (Addr × Obj)} {σ : St} {H : Hp} {s : Shared} {a C dx : Addr} {fs : List (Str × V)} {f : Str} {v : V} {A : Around} {E : Value → Shared → Prop}
theorem getattr_ok {b : Bool} {Q : Value → Shared → Prop} (I : Inv X pins σ H s) (e : H a = some (.ins C dx fs)) (c : Cls X.K C) (n : NoAttr X.K C f) (l : fs.lookup f = some v)
    (h : ∀ u s', Inv X pins σ H s' → RelV v u → Q u s') : wpAny (model X.prog X.w) A (getAttr (.ref a) f b) Q E s := by
  obtain ⟨mA, O, r, _, _, _⟩ := ins_get I.hok e
  obtain ⟨u, hu, ru⟩ := RelO.some_of (v := v) (o := mA f) (by rw [← l]; exact r f)
  exact get_map I.kIn O (c.get f) c.hd n hu (handed_of ru) (h u _ (I.tok _) ru)
theorem getmeth_ok {m : Str} {g : Addr} {pl : Sem Bool} {Q : Value × List Value → Shared → Prop} (I : Inv X pins σ H s) (e : H a = some (.ins C dx fs)) (c : Cls X.K C) (k : Meth X.K C m g) (l : fs.lookup m = none)
    (h : Q (.ref g, [.ref a]) s) : wpAny (model X.prog X.w) A (getMethod (.ref a) m pl) Q E s := by
  obtain ⟨mA, O, r, _, _, _⟩ := ins_get I.hok e
  have hn : mA m = none := RelO.none_of (by rw [← l]; exact r m)
  exact get_meth I.kIn O (c.get m) k.at_ k.fn hn h
theorem setattr_ok {y : V} {u : Value} {Q : Unit → Shared → Prop} (I : Inv X pins σ H s) (e : H a = some (.ins C dx fs)) (c : Cls X.K C) (n : NoAttr X.K C f) (hl : fs.length < 1000) (ry : RelV y u)
    (h : ∀ s', Inv X pins σ (upd H a (.ins C dx (putF f y fs))) s' → Q () s') : wpAny (model X.prog X.w) A (setAttr (.ref a) f u) Q E s := by
  obtain ⟨mA, O, r, wi, _, ho⟩ := ins_get I.hok e
  have hz : (fs.map (·.1)).length ≤ sizeLine := by rw [List.length_map, sizeLine_eq]; omega
  refine set_map I.kIn O c.sa c.po n.taker c.hd wi hz fun h' O' sb => h _ ?_
  have hd : ∃ o, h'.get? dx = some o := let ⟨o, _, _, e', _⟩ := O'.ns; ⟨o, e'⟩
  refine I.write (x := a) (e := dx) (by rw [e]; exact True.intro) (.inr ho) (fun b q hb z => (sb.2 b hb).trans z) hd ?_
  refine ⟨by rw [upd_ne O.ne]; exact ho, ?_, O.ne, O'.obj, _, O'.ns, fun g => ?_, fun g hg => ?_⟩
  · have := length_putF f y fs; omega
  · show RelO ((putF f y fs).lookup g) (if g = f then some u else mA g)
    rw [lookup_putF]
    by_cases q : g = f
    · rw [if_pos q, if_pos q]; exact ry
    · rw [if_neg q, if_neg q]; exact r g
  · by_cases q : g = f
    · rw [q]; exact (keys_putF f y fs).1
    · refine (keys_putF f y fs).2 g (wi g fun z => hg ?_)
      show (if g = f then some u else mA g) = none
      rw [if_neg q]; exact z
theorem Inv.made (I : Inv X pins σ H s) : Inv X pins σ (upd (upd H s.heap.objs.size (.own (s.heap.objs.size + 1))) (s.heap.objs.size + 1) (.ins C s.heap.objs.size []))
    { s with heap := (s.heap.push PySem.W.emptyDict).push (PySem.W.instObj C s.heap.objs.size) } := by
  have e1 : (s.heap.push PySem.W.emptyDict).get? s.heap.objs.size = some PySem.W.emptyDict := Heap.get?_push_size s.heap rfl
  have e2 : ((s.heap.push PySem.W.emptyDict).push (PySem.W.instObj C s.heap.objs.size)).get? (s.heap.objs.size + 1) = some (PySem.W.instObj C s.heap.objs.size) := by
    have := Heap.get?_push_size (s.heap.push PySem.W.emptyDict) (o := PySem.W.instObj C s.heap.objs.size) rfl
    rwa [Heap.size_push] at this
  have e3 : (s.heap.push PySem.W.emptyDict).Ns s.heap.objs.size (fun _ => none) := ⟨PySem.W.emptyDict, #[], _, e1, rfl, (fun e he => absurd he (by simp)), fun _ => rfl⟩
  have I1 := I.laid (a := s.heap.objs.size) (o := .own (s.heap.objs.size + 1)) (h' := s.heap.push PySem.W.emptyDict) (t' := s.toks) (fun b u q => Heap.get?_push_of_some _ q) (Nat.le_refl _) ⟨_, e1⟩
  refine I1.laid (a := s.heap.objs.size + 1) (o := .ins C s.heap.objs.size []) (t' := s.toks) (fun b u q => Heap.get?_push_of_some _ q) (Nat.le_of_eq (Heap.size_push _ _)) ?_
  have ne : s.heap.objs.size ≠ s.heap.objs.size + 1 := Nat.ne_of_lt (Nat.lt_succ_self _)
  refine ⟨by rw [upd_ne ne, upd_same], Nat.zero_le _, ne, e2, fun _ => none, (Heap.Ns1.of_empty e3).at fun o q => Heap.get?_push_of_some _ q, fun _ => True.intro, fun y hy => absurd rfl hy⟩
theorem attr_of {prog : Program} {w : World} {env : Env} {e : Expr} {f : Str} {pos : Pos} {s : Shared} {Q : Value → Shared → Prop} (hb : attributeBase e f env (eval e env) = eval e env)
    (h : wpAny (model prog w) A (eval e env) (fun o s₁ => wpAny (model prog w) A (getAttr o f true) Q E s₁) E s) : wpAny (model prog w) A (eval (.Attribute e f pos) env) Q E s :=
  Attribute_any_ h (by rw [arm_eval_Attribute, hb])
end
def tFld (K : PySem.W.Frag) (ta : TE) (f : Str) : TE := fun σ H Q => ta σ H fun x H1 => ∃ a C dx fs v, x = .ref a ∧ H1 a = some (.ins C dx fs) ∧ Cls K C ∧ NoAttr K C f ∧ fs.lookup f = some v ∧ Q v H1
def sFld (K : PySem.W.Frag) (ta tv : TE) (f : Str) : TS := fun D σ H => tv σ H fun y H1 => ta σ H1 fun x H2 => ∃ a C dx fs, x = .ref a ∧ H2 a = some (.ins C dx fs) ∧ Cls K C ∧ NoAttr K C f ∧ fs.length < 1000 ∧
  D.nx σ (upd H2 a (.ins C dx (putF f y fs)))
section
variable {X : Cx} {o e value : Expr} {f : Str} {pos pos' tpos : Pos} {ta tv : TE}
theorem pe_fld (he : PE X e ta) (hb : attributeBase e f X.env (eval e X.env) = eval e X.env) : PE X (.Attribute e f pos) (tFld X.K ta f) := by
  intro pins s σ H Q I h
  refine attr_of hb (thn (he pins s σ H _ I h) fun u s1 ⟨x, H1, I1, rx, a, C, dx, fs, v, ex, ea, c, n, l, q⟩ => ?_)
  subst ex
  obtain rfl : u = Value.ref a := rx
  exact getattr_ok I1 ea c n l fun u' s2 I2 ru => ⟨v, H1, I2, ru, q⟩
theorem ps_fld (ha : PE X o ta) (hv : PE X value tv) (hs : swapsWith value (some (.Attribute o f pos')) pos.line X.env = pure false) : PS X (.Assign [.Attribute o f pos'] value pos) (sFld X.K ta tv f) := by
  intro pins s σ H D I h
  refine plainObj_wpAny_Assign_Attribute (thn (hv pins s σ H _ I h) fun u s1 ⟨y, H1, I1, ry, q⟩ => thn (ha pins s1 σ H1 _ I1 q) fun ov s2 ⟨x, H2, I2, rx, a, C, dx, fs, ex, ea, c, n, l, q2⟩ => ?_) hs
  subst ex
  obtain rfl : ov = Value.ref a := rx
  exact setattr_ok I2 ea c n l ry fun s3 I3 => ⟨σ, _, I3, q2⟩
end
section
variable {X : Cx} {pins : List (Addr × Obj)} {σ : St} {H : Hp} {s : Shared} {A : Around} {E : Value → Shared → Prop} {Q : Value → Shared → Prop} {c : Value} {b : Bool}
end
end L2
namespace L2
open PySem PySem.Spec PyProof.Rows
structure Room (k : Nat) (A : Around) : Prop where
  hd : A.handled = none
  dp : A.depth + 3 * k + 5 < recursionLimit
  un : A.units + 16 * k + 200 < cLine
theorem Room.mono {j k : Nat} {A : Around} (r : Room k A) (h : j ≤ k) : Room j A := ⟨r.hd, by have := r.dp; omega, by have := r.un; omega⟩
theorem Room.deeper {k : Nat} {A : Around} (r : Room (k + 1) A) (env : Env) : Room k (A.deeper env) :=
  ⟨r.hd, by have := r.dp; show A.depth + 1 + 3 * k + 5 < _; omega, by have := r.un; show A.units + 3 + 16 * k + 200 < _; omega⟩
theorem make_depth {A : Around} {C : Addr} {us : List Value} {kw : List (Str × Value)} : (A.under (.builtin "type.__call__" ⟨.ref C :: us, kw⟩)).depth = A.depth + 1 := by
  first | rfl | simp [Around.under, Code.weight, Code.isCreation, Code.isGuard, Code.isCaller, Code.frames, Code.isFrame, guardIds]
theorem make_units {A : Around} {C : Addr} {us : List Value} {kw : List (Str × Value)} : (A.under (.builtin "type.__call__" ⟨.ref C :: us, kw⟩)).units = A.units + 1 := by
  first | rfl | simp [Around.under, Code.cUnits, Code.frames, Code.isFrame]
theorem Room.make {k : Nat} {A : Around} (r : Room (k + 1) A) (C : Addr) (us : List Value) (kw : List (Str × Value)) : Room k (A.under (.builtin "type.__call__" ⟨.ref C :: us, kw⟩)) :=
  ⟨r.hd, by have := r.dp; rw [make_depth]; omega, by have := r.un; rw [make_units]; omega⟩
theorem Room.depth {k : Nat} {A : Around} (r : Room k A) : A.depth < recursionLimit := by have := r.dp; omega
theorem Room.units {k : Nat} {A : Around} (r : Room k A) : A.units + 64 < cLine := by have := r.un; omega
def tNil : TA := fun _ H Q => Q [] H
def tCons (ta : TE) (tr : TA) : TA := fun σ H Q => ta σ H fun x H1 => tr σ H1 fun xs H2 => Q (x :: xs) H2
section
variable {X : Cx} {e : Expr} {es : List Expr} {te : TE} {t : TA} {pos : Pos}
theorem pa_nil : PA X [] tNil := fun _ _ _ _ H Q I h => Calls.spliced_nil ⟨[], H, I, .nil, h⟩
theorem pa_cons (ha : PE X e te) (hr : PA X es t) (hs : starEach (e :: es) X.env = (false, eval e X.env) :: starEach es X.env := by rfl) : PA X (e :: es) (tCons te t) := by
  intro pos pins s σ H Q I h
  rw [hs]
  show wpAny _ _ (spliced ((false, eval e X.env) :: backTo pos (starEach es X.env))) _ _ s
  refine Calls.spliced_cons (thn (ha pins s σ H _ I h) fun u s1 ⟨x, H1, I1, r1, q1⟩ => ?_)
  exact thn (hr pos pins s1 σ H1 _ I1 q1) fun us s2 ⟨xs, H2, I2, r2, q2⟩ => ⟨x :: xs, H2, I2, .cons r1 r2, q2⟩
def tLst (t : TA) : TE := fun σ H Q => t σ H fun xs H1 => xs.length ≤ sizeLine ∧ ∀ p, H1 p = none → Q (.ref p) (upd H1 p (.lst xs))
theorem pe_lst (h : PA X es t) : PE X (.List es pos) (tLst t) := by
  intro pins s σ H Q I hq
  refine wpAny_List_spliced (thn (h pos pins s σ H _ I hq) fun us s1 ⟨xs, H1, I1, r, z, q⟩ => ⟨by rw [← r.length]; exact z, ?_⟩)
  have hf : H1 s1.heap.objs.size = none := I1.hok.fresh (Nat.le_refl _)
  refine ⟨.ref s1.heap.objs.size, upd H1 s1.heap.objs.size (.lst xs), I1.laid (t' := s1.toks) (fun b u e => Heap.get?_push_of_some _ e) (Nat.le_refl _) ?_, rfl, q _ hf⟩
  exact ⟨z, us, 0, r, Heap.get?_push_size _ rfl⟩
end
abbrev Sp := List V → Hp → VK → XK → Prop
abbrev CXT := List Env → Hp → Shared → XK → Value → Shared → Prop
structure Env0 (P : Program) (w : World) (K : PySem.W.Frag) (mg : Str → Option Value) (base : Heap) (A : Around) (outer : List Env) (s : Shared) (H : Hp) : Prop where
  frames : A.frames = some outer
  mod : Mod K mg base
  bs : ∀ b o, base.get? b = some o → s.heap.get? b = some o ∧ H b = none
  bsz : base.objs.size ≤ s.heap.objs.size
  funs : s.heap.FunFrames base outer
  frf : ∀ b ∈ frs outer, H b = none
  hok : HOk P w H s.heap
  bare : AllBare s.gens
def CE (outer : List Env) (P : Program) (w : World) (H : Hp) (s : Shared) (Q : VK) (u : Value) (s' : Shared) : Prop :=
  ∃ v H', s'.os = s.os ∧ AllBare s'.gens ∧ Un (frs outer) [] H H' s.heap s'.heap ∧ HOk P w H' s'.heap ∧ RelV v u ∧ Q v H'
def CR (CX : CXT) (outer : List Env) (P : Program) (w : World) (H : Hp) (s : Shared) (Q : VK) (E : XK) (r : Result) (s' : Shared) : Prop :=
  match r with
  | .ok (.ret u) => CE outer P w H s Q u s'
  | .ok _ => False
  | .error e => CX outer H s E e s'
structure FnOk (P : Program) (w : World) (K : PySem.W.Frag) (mg : Str → Option Value) (base : Heap) (CX : CXT) (k : Nat) (f : Addr) (fd : FuncData) (ps : List Str) (sp : Sp) : Prop where
  len : ∀ vs H Q E, sp vs H Q E → vs.length = ps.length
  run : ∀ (A : Around) (outer : List Env) (s : Shared) (H : Hp) (args : Args) (us : List Value) (vs : List V) (Q : VK) (E : XK), Room k A → Env0 P w K mg base A outer s H → BindsTo s fd args (ps.zip us) → Vals vs us → sp vs H Q E →
    codeAny (model P w) A (.call (.ref f) args) (CR CX outer P w H s Q E) s
theorem Env0.make {P : Program} {w : World} {K : PySem.W.Frag} {mg : Str → Option Value} {base : Heap} {A : Around} {outer : List Env} {s : Shared} {H : Hp} (e : Env0 P w K mg base A outer s H) (C : Addr) (us : List Value) (kw : List (Str × Value)) :
    Env0 P w K mg base (A.under (.builtin "type.__call__" ⟨.ref C :: us, kw⟩)) outer s H := ⟨by first | exact e.frames | (simpa [Around.under, Code.envs, Code.isFrame, pushEnvs] using e.frames), e.mod, e.bs, e.bsz, e.funs, e.frf, e.hok, e.bare⟩
section
variable {X : Cx} {pins : List (Addr × Obj)} {σ : St} {H : Hp} {s s' : Shared}
theorem Inv.env0 (I : Inv X pins σ H s) : Env0 X.prog X.w X.K X.mg X.base X.A X.stack s H :=
  ⟨I.ok.frames, I.ok.mod, I.bs, Nat.le_trans I.ok.bsz I.sz, I.stack, I.stkFree, I.hok, I.bare⟩
theorem Inv.after {Q : VK} {u : Value} (I : Inv X pins σ H s) (h : CE X.stack X.prog X.w H s Q u s') : EP X pins σ Q u s' := by
  obtain ⟨v, H', os, bare, un, hok, r, q⟩ := h
  obtain ⟨hh, g, d, t, os'⟩ := s'
  obtain rfl : os' = s.os := os
  exact ⟨v, H', I.call (h' := hh) (g' := g) (d' := d) (t' := t) (ch := []) un hok bare (fun b z => absurd z (by simp)), r, q⟩
end
def tCall (sp : Sp) (dvs : List V) (E : XK) (t : TA) : TE := fun σ H Q => t σ H fun vs H1 => sp (vs ++ dvs) H1 Q E
def tMeth (C : Addr) (m : Str) (sp : Sp) (dvs : List V) (E : XK) (ta : TE) (t : TA) : TE := fun σ H Q => ta σ H fun x H1 => ∃ a dx fs, x = .ref a ∧ H1 a = some (.ins C dx fs) ∧ fs.lookup m = none ∧
  t σ H1 fun vs H2 => sp (x :: (vs ++ dvs)) H2 Q E
def Binds (K : PySem.W.Frag) (fd : FuncData) (ps : List Str) (ds : List Value) : Prop :=
  ∀ (s : Shared) (us : List Value), K.In s.heap → (us ++ ds).length = ps.length → BindsTo s fd ⟨us, []⟩ (ps.zip (us ++ ds))
theorem Binds.all {K : PySem.W.Frag} {fd : FuncData} {ps : List Str} (h : ∀ us : List Value, us.length = ps.length → bindArgs fd ⟨us, []⟩ = pure (ps.zip us)) : Binds K fd ps [] := fun s us _ hl => by
  rw [List.append_nil] at hl ⊢
  exact .of_eq (h us hl)
def Passes (CX : CXT) (X : Cx) (E : XK) : Prop := ∀ (pins : List (Addr × Obj)) (σ : St) (H : Hp) (s : Shared) (e : Value) (s' : Shared), Inv X pins σ H s → CX X.stack H s E e s' → X.xe e s'
section
variable {X : Cx} {CX : CXT} {k : Nat} {f C : Addr} {fd : FuncData} {ps : List Str} {sp : Sp} {dvs : List V} {ds : List Value} {E : XK} {x m : Str} {p pos apos : Pos} {e o : Expr} {es : List Expr} {ta : TE} {t : TA}
theorem run_fn {pins : List (Addr × Obj)} {σ : St} {H : Hp} {s : Shared} {Q : VK} {us : List Value} {vs : List V} (F : FnOk X.prog X.w X.K X.mg X.base CX k f fd ps sp) (hr : Room k X.A) (hb : Binds X.K fd ps ds) (hd : Vals dvs ds) (hx : Passes CX X E)
    (I : Inv X pins σ H s) (r : Vals vs us) (h : sp (vs ++ dvs) H Q E) : wpAny (model X.prog X.w) X.A (call (.ref f) us) (EP X pins σ Q) X.xe s := by
  have r2 : Vals (vs ++ dvs) (us ++ ds) := r.append hd
  have hl : (us ++ ds).length = ps.length := by rw [← r2.length]; exact F.len _ _ _ _ h
  refine wpAny_call (codeAny_mono (F.run X.A X.stack s H ⟨us, []⟩ (us ++ ds) (vs ++ dvs) Q E hr I.env0 (hb s us I.kIn hl) r2 h) fun r s' hq => ?_)
  cases r with
  | error e => exact hx pins σ H s e s' I hq
  | ok fl =>
    cases fl with
    | ret u => exact I.after hq
    | next => exact False.elim hq
    | brk => exact False.elim hq
    | cont => exact False.elim hq
theorem pe_meth {pl : Sem Bool} (he : PE X o ta) (c : Cls X.K C) (hm : Meth X.K C m f) (F : FnOk X.prog X.w X.K X.mg X.base CX k f fd ps sp) (hr : Room k X.A) (hb : Binds X.K fd ps ds) (hd : Vals dvs ds) (hx : Passes CX X E) (ha : PA X (e :: es) t)
    (hst : starEach (e :: es) X.env = (false, eval e X.env) :: starEach es X.env := by rfl) (hpl : (backTo pos (starEach es X.env)).any (·.1) = false := by rfl)
    (ht : eval (.Call (.Attribute o m apos) (e :: es) [] pos) X.env = (do
      let ov ← eval o X.env
      standAt apos.atName
      let (f, first) ← holding [ov] (getMethod ov m pl)
      callWith pos f first (backTo pos (starEach (e :: es) X.env)) (backToKw pos (keywordEach [] X.env))) := by rfl) :
    PE X (.Call (.Attribute o m apos) (e :: es) [] pos) (tMeth C m sp dvs E ta t) := by
  intro pins s σ H Q I h
  refine PySem.W.methodCall_KW (pl := pl) (thn (he pins s σ H _ I h) fun u s1 ⟨x, H1, I1, rx, a, dx, fs, ex, ea, l, q⟩ => ?_) ht
  subst ex
  obtain rfl : u = Value.ref a := rx
  refine getmeth_ok I1 ea c hm l ?_
  refine PySem.W.callWith_K (first := [.ref a]) (h₀ := X.base) I.ok.mod.kin hm.kp (thn (ha pos pins s1 σ H1 _ I1 q) fun us s2 ⟨vs, H2, I2, r, q2⟩ => ⟨I2.kIn, ?_⟩) hst hpl
  exact run_fn (us := .ref a :: us) (vs := .ref a :: vs) F hr hb hd hx I2 (.cons rfl r) q2
theorem pe_meth0 {pl : Sem Bool} (he : PE X o ta) (c : Cls X.K C) (hm : Meth X.K C m f) (F : FnOk X.prog X.w X.K X.mg X.base CX k f fd ps sp) (hr : Room k X.A) (hb : Binds X.K fd ps ds) (hd : Vals dvs ds) (hx : Passes CX X E)
    (ht : eval (.Call (.Attribute o m apos) [] [] pos) X.env = (do
      let ov ← eval o X.env
      standAt apos.atName
      let (f, first) ← holding [ov] (getMethod ov m pl)
      callWith pos f first (backTo pos (starEach [] X.env)) (backToKw pos (keywordEach [] X.env))) := by rfl) :
    PE X (.Call (.Attribute o m apos) [] [] pos) (tMeth C m sp dvs E ta tNil) := by
  intro pins s σ H Q I h
  refine PySem.W.methodCall_KW (pl := pl) (thn (he pins s σ H _ I h) fun u s1 ⟨x, H1, I1, rx, a, dx, fs, ex, ea, l, q⟩ => ?_) ht
  subst ex
  obtain rfl : u = Value.ref a := rx
  refine getmeth_ok I1 ea c hm l ?_
  exact PySem.W.callWith_K0 (first := [.ref a]) I1.kIn hm.kp (run_fn (us := [.ref a]) (vs := [.ref a]) F hr hb hd hx I1 (.cons rfl .nil) q)
structure Mk (K : PySem.W.Frag) (C f : Addr) : Prop where
  makes : PySem.W.makesIn K C = true
  init : PySem.W.findIn K (.ref C) "__init__" = some (some (.ref f))
  fn : PySem.W.isFn K (.ref f) = true
  kp : PySem.W.keepIn K (.ref C) = true
theorem run_make {pins : List (Addr × Obj)} {σ : St} {H : Hp} {s : Shared} {Q : VK} {us : List Value} {vs : List V} (M : Mk X.K C f) (F : FnOk X.prog X.w X.K X.mg X.base CX k f fd ps sp) (hr : Room (k + 1) X.A) (hb : Binds X.K fd ps ds) (hd : Vals dvs ds)
    (hx : Passes CX X E) (I : Inv X pins σ H s) (r : Vals vs us)
    (h : ∀ x dx, H x = none → H dx = none → dx ≠ x → sp (.ref x :: (vs ++ dvs)) (upd (upd H dx (.own x)) x (.ins C dx [])) (fun v H2 => v = .non ∧ Q (.ref x) H2) E) :
    wpAny (model X.prog X.w) X.A (call (.ref C) us) (EP X pins σ Q) X.xe s := by
  have hq := h (s.heap.objs.size + 1) s.heap.objs.size (I.hok.fresh (Nat.le_succ _)) (I.hok.fresh (Nat.le_refl _)) (Nat.ne_of_lt (Nat.lt_succ_self _))
  have I2 := Inv.made (C := C) I
  have r2 : Vals (V.ref (s.heap.objs.size + 1) :: (vs ++ dvs)) (Value.ref (s.heap.objs.size + 1) :: (us ++ ds)) := .cons rfl (r.append hd)
  have hl : (Value.ref (s.heap.objs.size + 1) :: us ++ ds).length = ps.length := by
    have e := r2.length
    rw [F.len _ _ _ _ hq] at e
    exact e.symm
  refine wpAny_call (make_map (f := f) I.kIn M.makes M.init (beq_iff_eq.mp M.fn) (codeAny_mono (F.run _ X.stack _ _ ⟨Value.ref (s.heap.objs.size + 1) :: us, []⟩ (Value.ref (s.heap.objs.size + 1) :: (us ++ ds)) _ _ E (hr.make C us [])
    (I2.env0.make C us []) (hb _ (Value.ref (s.heap.objs.size + 1) :: us) I2.kIn hl) r2 hq) fun r s' hq' => ?_))
  cases r with
  | error e => exact hx pins σ _ _ e s' I2 hq'
  | ok fl =>
    cases fl with
    | ret u =>
      obtain ⟨v, H', I3, rv, ev, q3⟩ := I2.after hq'
      subst ev
      exact ⟨rv, ⟨V.ref (s.heap.objs.size + 1), H', I3, rfl, q3⟩⟩
    | next => exact False.elim hq'
    | brk => exact False.elim hq'
    | cont => exact False.elim hq'
end
def PK (X : Cx) (kws : List Keyword) (t : TA) : Prop :=
  ∀ (pos : Pos) (pins : List (Addr × Obj)) (s : Shared) (σ : St) (H : Hp) (Q : List V → Hp → Prop), Inv X pins σ H s → t σ H Q → wpAny (model X.prog X.w) X.A (evalAll ((backToKw pos (keywordEach kws X.env)).map (·.2))) (AP X pins σ Q) X.xe s
section
variable {X : Cx} {CX : CXT} {k : Nat} {f C : Addr} {fd : FuncData} {ps ks : List Str} {sp : Sp} {E : XK} {x m : Str} {p pos apos kpos : Pos} {e o : Expr} {es : List Expr} {kws : List Keyword} {te ta : TE} {t tk : TA} {nm : Option Str}
theorem pk_nil : PK X [] tNil := fun _ _ _ _ H Q I h => wpAny_evalAll_nil ⟨[], H, I, .nil, h⟩
theorem pk_cons (ha : PE X e te) (hr : PK X kws t) : PK X (⟨nm, e, kpos⟩ :: kws) (tCons te t) := by
  intro pos pins s σ H Q I h
  show wpAny _ _ (evalAll ((do let v ← eval e X.env; standAt pos; pure v) :: (backToKw pos (keywordEach kws X.env)).map (·.2))) _ _ s
  refine wpAny_evalAll_cons (wpAny_bind (thn (ha pins s σ H _ I h) fun u s1 ⟨x, H1, I1, r1, q1⟩ => wpAny_bind (wpAny_standAt (wpAny_pure ?_))))
  exact thn (hr pos pins s1 σ H1 _ I1 q1) fun us s2 ⟨xs, H2, I2, r2, q2⟩ => ⟨x :: xs, H2, I2, .cons r1 r2, q2⟩
variable {g : List Value → List Value → List Value} {gV : List V → List V → List V}
end
structure FnScope (N P : List Str) (sc : Scope) : Prop where
  kind : sc.kind = .function
  co : sc.isCoroutine = false
  gen : sc.isGenerator = false
  nd : N.Nodup
  pre : N.take P.length = P
  par : ∀ x ∈ P, sc.names.lookup x = some .local ∨ sc.names.lookup x = some .cell
  nofree : ∀ y ∈ sc.names, y.2 ≠ .free
theorem bindL_out {kindOf : Str → Option NameKind} {x : Str} : ∀ {binds : List (Str × Value)} {m : Str → Option Value}, (∀ v, (x, v) ∉ binds) → bindL kindOf binds m x = m x
  | [], _, _ => rfl
  | (n, v) :: r, m, h => by
    unfold bindL
    rw [bindL_out fun w hw => h w (List.mem_cons_of_mem _ hw)]
    split
    · have : x ≠ n := by rintro rfl; exact h v List.mem_cons_self
      simp [this]
    · rfl
theorem bindC_out {kindOf : Str → Option NameKind} {x : Str} : ∀ {binds : List (Str × Value)} {m : Str → Option Value}, (∀ v, (x, v) ∉ binds) → bindC kindOf binds m x = m x
  | [], _, _ => rfl
  | (n, v) :: r, m, h => by
    unfold bindC
    rw [bindC_out fun w hw => h w (List.mem_cons_of_mem _ hw)]
    split
    · rfl
    · have : x ≠ n := by rintro rfl; exact h v List.mem_cons_self
      simp [this]
theorem bindL_get {kindOf : Str → Option NameKind} {x : Str} {v : Value} : ∀ {P : List Str} {vs : List Value} {i : Nat} {m : Str → Option Value}, P.Nodup → P[i]? = some x → vs[i]? = some v → kindOf x = some .local →
    bindL kindOf (P.zip vs) m x = some v
  | [], _, _, _, _, h, _, _ => by simp at h
  | _ :: _, [], _, _, _, _, h, _ => by simp at h
  | p :: P, w :: vs, 0, m, nd, h1, h2, hk => by
    simp at h1 h2; subst h1; subst h2
    show bindL kindOf ((p, w) :: P.zip vs) m p = _
    unfold bindL
    rw [bindL_out fun v hv => (List.nodup_cons.mp nd).1 (List.of_mem_zip hv).1, if_pos hk]
    simp
  | p :: P, w :: vs, i + 1, m, nd, h1, h2, hk => by
    show bindL kindOf ((p, w) :: P.zip vs) m x = _
    unfold bindL
    exact bindL_get (i := i) (List.nodup_cons.mp nd).2 (by simpa using h1) (by simpa using h2) hk
theorem bindC_get {kindOf : Str → Option NameKind} {x : Str} {v : Value} : ∀ {P : List Str} {vs : List Value} {i : Nat} {m : Str → Option Value}, P.Nodup → P[i]? = some x → vs[i]? = some v → kindOf x ≠ some .local →
    bindC kindOf (P.zip vs) m x = some v
  | [], _, _, _, _, h, _, _ => by simp at h
  | _ :: _, [], _, _, _, _, h, _ => by simp at h
  | p :: P, w :: vs, 0, m, nd, h1, h2, hk => by
    simp at h1 h2; subst h1; subst h2
    show bindC kindOf ((p, w) :: P.zip vs) m p = _
    unfold bindC
    rw [bindC_out fun v hv => (List.nodup_cons.mp nd).1 (List.of_mem_zip hv).1, if_neg hk]
    simp
  | p :: P, w :: vs, i + 1, m, nd, h1, h2, hk => by
    show bindC kindOf ((p, w) :: P.zip vs) m x = _
    unfold bindC
    exact bindC_get (i := i) (List.nodup_cons.mp nd).2 (by simpa using h1) (by simpa using h2) hk
def start (N : List Str) (vs : List V) : St := vs.map some ++ List.replicate (N.length - vs.length) none
def cxOf (CX : CXT) (P : Program) (w : World) (K : PySem.W.Frag) (mg : Str → Option Value) (base : Heap) (N : List Str) (qual : Str) (scope : Scope) (f : Addr) (cd : Value) (A : Around) (outer : List Env) (s : Shared) (H : Hp) (E : XK) : Cx where
  prog := P
  w := w
  K := K
  mg := mg
  base := base
  A := A.deeper (envOfC qual scope s.heap.objs.size f cd)
  N := N
  s_0 := s
  H_0 := H
  env := envOfC qual scope s.heap.objs.size f cd
  outer := outer
  stack := envOfC qual scope s.heap.objs.size f cd :: outer
  ex := []
  calm := true
  fn := fun _ => true
  pn := []
  xe := fun e s' => wpAny (model P w) (A.deeper (envOfC qual scope s.heap.objs.size f cd)) (leaving (envOfC qual scope s.heap.objs.size f cd) e) (fun _ s'' => CX outer H s E e s'') (fun e' s'' => CX outer H s E e' s'') s'
theorem cell_has {sc : Scope} {n : Nat} {x : Str} (h : sc.names.lookup x = some .cell) : ∃ c, (cellsFrom n sc.names []).lookup x = some c := by
  have q := PySem.W.cellsFrom_some sc.names n [] (.inl h)
  exact Option.isSome_iff_exists.mp q
theorem inv_start {CX : CXT} {P : Program} {w : World} {K : PySem.W.Frag} {mg : Str → Option Value} {base : Heap} {N ps : List Str} {qual : Str} {scope : Scope} {f : Addr} {cd : Value} {A : Around} {outer : List Env} {s s1 : Shared} {H : Hp} {E : XK} {us : List Value} {vs : List V}
    (S : FnScope N ps scope) (hd : A.handled = none) (e0 : Env0 P w K mg base A outer s H) (hl : vs.length = ps.length) (r : Vals vs us)
    (x : InCallC s s.heap.objs.size (bindL (envOfC qual scope s.heap.objs.size f cd).kindOf (ps.zip us) fun _ => none) (cellsFrom (s.heap.objs.size + 1) scope.names []) (bindC (envOfC qual scope s.heap.objs.size f cd).kindOf (ps.zip us) fun _ => none) s1) :
    Inv (cxOf CX P w K mg base N qual scope f cd A outer s H E) [] (start N vs) H s1 := by
  have hpl : ps.length ≤ N.length := by have := congrArg List.length S.pre; rw [List.length_take] at this; omega
  obtain ⟨h1, tk, rfl, hk⟩ := x.done
  have noA : ∀ b : Addr, b ∉ (cxOf CX P w K mg base N qual scope f cd A outer s H E).ex := fun b z => absurd (show b ∈ ([] : List Addr) from z) (by simp)
  refine ⟨⟨e0.mod, S.kind, rfl, rfl, Nat.le_refl _, fun y z c h1 h2 => ?_, fun y hy => ?_, fun y c _ h => ?_, fun _ => hd, Around.frames_deeper e0.frames, .inr ⟨rfl, rfl⟩, fun b z => absurd z (noA b), e0.bs, e0.bsz, fun b _ _ => noA b, fun b z => absurd z (noA b), e0.funs, e0.frf⟩,
    rfl, e0.bare, Un.kept hk, ⟨_, x.toInCall.ns, fun i y v h1 h2 h3 => ?_⟩, fun y c h => ⟨_, x.cell y c h⟩, e0.hok.fresh (Nat.le_refl _), fun y c h => ?_, fun p hp => absurd (show p ∈ ([] : List (Addr × Obj)) from hp) (by simp), e0.hok.kept hk, ?_⟩
  · exact name_of_addr x.apart (PySem.mem_of_lookup h1) (PySem.mem_of_lookup h2)
  · have hy : scope.names.lookup y = some .cell ∨ scope.names.lookup y = some .free := hy
    rcases hy with hy | hy
    · exact cell_has hy
    · exact absurd rfl (S.nofree _ (PySem.mem_of_lookup hy))
  · exact Nat.le_of_lt (x.above y c (PySem.mem_of_lookup h))
  · have hi : i < vs.length := by
      unfold start at h2
      by_cases hi : i < vs.length
      · exact hi
      · rw [List.getElem?_append_right (by simpa using hi)] at h2
        rw [List.getElem?_replicate] at h2
        split at h2 <;> cases h2
    have ha : vs[i]? = some v := by
      unfold start at h2
      rw [List.getElem?_append_left (by simpa using hi), List.getElem?_map] at h2
      cases e : vs[i]? with
      | none => rw [e] at h2; cases h2
      | some a => rw [e] at h2; cases h2; rfl
    obtain ⟨u, hu, rv⟩ := r.get ha
    have hp : ps[i]? = some y := by
      rw [← S.pre, List.getElem?_take_of_lt (by omega)]; exact h1
    have ndP : ps.Nodup := by rw [← S.pre]; exact S.nd.sublist (List.take_sublist _ _)
    refine ⟨u, rv, ?_⟩
    rcases S.par y (List.mem_of_getElem? hp) with k | k
    · exact .inl ⟨k, bindL_get ndP hp hu k⟩
    · obtain ⟨c, e⟩ := cell_has (n := s.heap.objs.size + 1) k
      refine .inr ⟨.inl k, c, e, ?_⟩
      have q := x.cell y c e
      rw [bindC_get ndP hp hu (by show scope.names.lookup y ≠ _; rw [k]; decide)] at q
      exact q
  · exact e0.hok.fresh (Nat.le_of_lt (x.above y c (PySem.mem_of_lookup h)))
  · unfold start
    show _ = N.length
    rw [List.length_append, List.length_map, List.length_replicate]
    omega
theorem fn_of {CX : CXT} {P : Program} {w : World} {K : PySem.W.Frag} {mg : Str → Option Value} {base : Heap} {k : Nat} {f : Addr} {name qual : Str} {params : Arguments} {body : List Stmt} {scope : Scope} {dV kV doc pm cdv ct oc : Value} {an od : Option Addr}
    {osl : Array (Option Value)} {N ps : List Str} {sp : Sp} (lk : K.lookup f = some ⟨oc, od, .func (PySem.W.fnOf name qual params body scope dV kV doc pm an cdv ct), osl⟩) (hcd : PySem.W.codeIn K cdv qual = true) (S : FnScope N ps scope)
    (len : ∀ vs H Q E, sp vs H Q E → vs.length = ps.length)
    (hbody : ∀ (A : Around) (outer : List Env) (s : Shared) (H : Hp) (vs : List V) (Q : VK) (E : XK), Room k (A.deeper (envOfC qual scope s.heap.objs.size f cdv)) → sp vs H Q E →
      ∃ t, PSs (cxOf CX P w K mg base N qual scope f cdv A outer s H E) body t ∧ t { nx := fun _ H' => Q .non H', rt := Q } (start N vs) H) :
    FnOk P w K mg base CX (k + 1) f (PySem.W.fnOf name qual params body scope dV kV doc pm an cdv ct) ps sp := by
  refine ⟨len, fun A outer s H args us vs Q E hr e0 hb r hsp => ?_⟩
  have hl := len _ _ _ _ hsp
  have KX : K.In s.heap := e0.mod.kin.keeps fun b o e => (e0.bs b o e).1
  have lim : s.heap.NoLimit := e0.mod.nolimit.keeps fun b o e => (e0.bs b o e).1
  have hkind : ∀ y ∈ ps.zip us, scope.names.lookup y.1 = some .local ∨ (scope.names.lookup y.1 = some .cell ∧ ((cellsFrom (s.heap.objs.size + 1) scope.names []).lookup y.1).isSome = true) := fun ⟨n, v⟩ hy => by
    rcases S.par n (List.of_mem_zip hy).1 with q | q
    · exact .inl q
    · exact .inr ⟨q, PySem.W.cellsFrom_some _ _ _ (.inl q)⟩
  refine codeAny_call_function hr.depth (KX _ _ lk) rfl S.co S.gen rfl (PySem.W.codeRec_of KX hcd) (hb _ _ _ _ ?_)
  refine wpAny_newFunctionEnv_cells S.kind hkind fun env he s1 x => ?_
  subst he
  refine ⟨lim.keeps x.toInCall.keep, codeAny_func ?_⟩
  obtain ⟨t, ht, hq⟩ := hbody A outer s H vs Q E (hr.deeper _) hsp
  have I : Inv (cxOf CX P w K mg base N qual scope f cdv A outer s H E) [] (start N vs) H s1 := inv_start S hr.hd e0 hl r x
  refine wpAny_mono (ht [] s1 (start N vs) H _ I hq) (fun fl s' hs => ?_) fun e s' hs => hs
  have fin : ∀ {σ' : St} {H' : Hp} {v : V} {u : Value}, Inv (cxOf CX P w K mg base N qual scope f cdv A outer s H E) [] σ' H' s' → RelV v u → Q v H' → CE outer P w H s Q u s' :=
    fun {σ' H' v u} J rv q => ⟨v, H', J.os, J.bare, J.base, J.hok, rv, q⟩
  cases fl with
  | ret u =>
    obtain ⟨v, σ', H', J, rv, q⟩ := hs
    exact fin J rv q
  | next =>
    obtain ⟨σ', H', J, q⟩ := hs
    exact fin (v := V.non) (u := Value.none) J rfl q
  | brk =>
    obtain ⟨_, _, _, q⟩ := hs
    exact False.elim q
  | cont =>
    obtain ⟨_, _, _, q⟩ := hs
    exact False.elim q
end L2
namespace L2
open PySem PySem.Spec PyProof.Rows
section
variable {X : Cx} {x : Str} {p pos : Pos} {e : Expr} {es : List Expr} {t : TA} {id T : String} {r : List V → Hp → VK → Prop}
def tCB (r : List V → Hp → VK → Prop) (t : TA) : TE := fun σ H Q => t σ H fun vs H1 => r vs H1 Q
theorem pe_callB (hc : CallR X (.builtin id) r) (hg : Gl X x) (hm : X.mg x = none) (hv : bootBuiltins x = some (.builtin id)) (ha : PA X (e :: es) t) (hn : x ≠ "__name__" := by decide) (hdb : (x == ("__debug__" : Str)) = false := by decide)
    (he : starEach (e :: es) X.env = (false, eval e X.env) :: starEach es X.env := by rfl) (hpl : (backTo pos (starEach es X.env)).any (·.1) = false := by rfl) : PE X (.Call (.Name x p) (e :: es) [] pos) (tCB r t) := by
  intro pins s σ H Q I h
  refine wpAny_Call_Name_kw (ld_blt I hg hm hv ?_ hn hdb)
  exact PyProof.Rows.callWith_builtin1 (thn (ha pos pins s σ H _ I h) fun us s1 ⟨vs, H1, I1, r1, q1⟩ => hc pins s1 σ H1 vs us Q I1 r1 q1) he hpl
theorem pe_callTy (hc : CallR X (.type T) r) (hg : Gl X x) (hm : X.mg x = none) (hv : bootBuiltins x = some (.type T)) (ha : PA X (e :: es) t) (hn : x ≠ "__name__" := by decide) (hdb : (x == ("__debug__" : Str)) = false := by decide)
    (he : starEach (e :: es) X.env = (false, eval e X.env) :: starEach es X.env := by rfl) (hpl : (backTo pos (starEach es X.env)).any (·.1) = false := by rfl) : PE X (.Call (.Name x p) (e :: es) [] pos) (tCB r t) := by
  intro pins s σ H Q I h
  refine wpAny_Call_Name_kw (ld_blt I hg hm hv ?_ hn hdb)
  exact PyProof.Rows.callWith_type1 (thn (ha pos pins s σ H _ I h) fun us s1 ⟨vs, H1, I1, r1, q1⟩ => hc pins s1 σ H1 vs us Q I1 r1 q1) he hpl
end
end L2
namespace HT
open PySem PyProof.Rows
def lexLt : List Int → List Int → Bool
  | [], [] => false
  | [], _ :: _ => true
  | _ :: _, [] => false
  | x :: xs, y :: ys => if x = y then lexLt xs ys else decide (x < y)
theorem lexLt_cons (x y : Int) (xs ys : List Int) : lexLt (x :: xs) (y :: ys) = if x = y then lexLt xs ys else decide (x < y) := rfl
theorem lexLt_nil_nil : lexLt [] [] = false := rfl
theorem lexLt_nil_cons (y : Int) (ys : List Int) : lexLt [] (y :: ys) = true := rfl
theorem lexLt_cons_nil (x : Int) (xs : List Int) : lexLt (x :: xs) [] = false := rfl
theorem eqAt_int (A : Around) (s : Shared) (a : Int) (t : Tok) (c : Int) (u : Tok) : ∃ e, SeqAt.EqAt A s (.int a t) (.int c u) e ∧ (e = true ↔ a = c) :=
  ⟨(a == c), SeqAt.EqAt.int_int a t c u, by simp⟩
theorem rcLt_int (A : Around) (s : Shared) (a : Int) (t : Tok) (c : Int) (u : Tok) (prog : Program) (w : World) (E : Value → Shared → Prop) (Q : Value → Shared → Prop) (h : Q (.bool (decide (a < c))) s) :
    wpAny (model prog w) A (richCompare .Lt (.int a t) (.int c u)) Q E s :=
  (PyProof.Rows.lt_int h : wpAny (model prog w) A (compareOp .Lt (.int a t) (.int c u)) Q E s)
section
open PySem.SeqAt
open PySem.AutoSeq1 (wpAny_loadPart')
open PySem.MeetsSeq PySem.MeetsSeq2 PySem.MeetsSeq3
end
section
variable {prog : Program} {w : World} {A : Around} {E : Value → Shared → Prop} {s : Shared}
def sIx (n d : Nat) : Option Int → Nat
  | none => d
  | some v => if v < 0 then (v + (n : Int)).toNat else min v.toNat n
theorem sIx_none (n d : Nat) : sIx n d none = d := rfl
theorem sIx_nat (n d k : Nat) : sIx n d (some (k : Int)) = min k n := by
  show (if (k : Int) < 0 then ((k : Int) + (n : Int)).toNat else min (k : Int).toNat n) = min k n
  rw [if_neg (by omega), Int.toNat_natCast]
end
end HT
namespace L2
open PySem PySem.Spec PyProof.Rows
abbrev TO := St → Hp → (Option Int → Hp → Prop) → Prop
def PO (X : Cx) (e : Option Expr) (t : TO) : Prop :=
  ∀ (pins : List (Addr × Obj)) (s : Shared) (σ : St) (H : Hp) (Q : Option Int → Hp → Prop), Inv X pins σ H s → t σ H Q →
    wpAny (model X.prog X.w) X.A (evalPart e X.env) (fun u s' => ∃ o H', Inv X pins σ H' s' ∧ IsPart u o ∧ Q o H') X.xe s
def tNoPart : TO := fun _ H Q => Q none H
def tPart (t : TE) : TO := fun σ H Q => t σ H fun x H1 => ∃ i, x = .int i ∧ Q (some i) H1
theorem intsAre_of {ns : List Int} : ∀ {us : List Value}, Vals (ns.map V.int) us → IntsAre us ns := by
  induction ns with
  | nil => intro us r; rw [List.map_nil] at r; cases r; exact .nil
  | cons n ns ih =>
    intro us r
    rw [List.map_cons] at r
    cases r with
    | cons r1 r2 =>
      obtain ⟨t, e⟩ := r1
      subst e
      exact .cons n t (ih r2)
section
variable {X : Cx} {e : Expr} {te : TE} {lo hi : Option Expr} {tl th : TO} {pos p2 : Pos}
theorem po_none : PO X none tNoPart := by
  intro pins s σ H Q I h
  rw [evalPart_none]
  exact wpAny_pure ⟨none, H, I, .none, h⟩
theorem po_some (h : PE X e te) : PO X (some e) (tPart te) := by
  intro pins s σ H Q I hw
  rw [evalPart_some]
  refine thn (h pins s σ H _ I hw) fun u s1 ⟨x, H1, I1, r1, q1⟩ => ?_
  obtain ⟨i, rfl, q⟩ := q1
  obtain ⟨t, rfl⟩ := r1
  exact ⟨some i, H1, I1, .int i t, q⟩
def SlR (X : Cx) (r : V → Option Int → Option Int → Hp → VK → Prop) : Prop :=
  ∀ (pins : List (Addr × Obj)) (s : Shared) (σ : St) (H : Hp) (x : V) (v vl vu : Value) (lo hi : Option Int) (sl : Addr) (Q : VK), Inv X pins σ H s → RelV x v → s.heap.IsSliceOf sl vl vu .none → IsPart vl lo → IsPart vu hi → r x lo hi H Q →
    ∃ T id, typeLookup (.type T) "__getitem__" = pure (some (.builtin id)) ∧ s.TypeIs v T ∧ wpAny (model X.prog X.w) X.A (getItem v (.ref sl)) (EP X pins σ Q) X.xe s
def tSl (r : V → Option Int → Option Int → Hp → VK → Prop) (te : TE) (tl th : TO) : TE := fun σ H Q => te σ H fun x H1 => tl σ H1 fun l H2 => th σ H2 fun u H3 => r x l u H3 Q
theorem pe_slice {r : V → Option Int → Option Int → Hp → VK → Prop} (hr : SlR X r) (he : PE X e te) (hl : PO X lo tl) (hu : PO X hi th) : PE X (.Subscript e (.Slice lo hi none p2) pos) (tSl r te tl th) := by
  intro pins s σ H Q I h
  refine Subscript_ (thn (he pins s σ H _ I h) fun v s1 ⟨x, H1, I1, r1, q1⟩ => ?_)
  refine wpAny_Slice (thn (hl pins s1 σ H1 _ I1 q1) fun vl s2 ⟨l, H2, I2, pl, q2⟩ => thn (hu pins s2 σ H2 _ I2 q2) fun vu s3 ⟨u, H3, I3, pu, q3⟩ => ?_)
  rw [evalPart_none]
  refine wpAny_pure ?_
  have I4 : Inv X pins σ H3 { s3 with heap := s3.heap.push { cls := .type "slice", data := .fields #[vl, vu, .none] } } := I3.kept (t' := s3.toks) fun b ob q => Heap.get?_push_of_some _ q
  obtain ⟨T, id, hT, ht, hg⟩ := hr pins { s3 with heap := s3.heap.push { cls := .type "slice", data := .fields #[vl, vu, .none] } } σ H3 x v vl vu l u s3.heap.objs.size Q I4 r1 (Heap.IsSliceOf.new ..) pl pu q3
  show wpAny (model X.prog X.w) X.A (subscriptTail e (.Slice lo hi none p2) v (.ref s3.heap.objs.size)) (EP X pins σ Q) X.xe { s3 with heap := s3.heap.push { cls := .type "slice", data := .fields #[vl, vu, .none] } }
  exact tail_any (ops := [.ref s3.heap.objs.size, v]) ht hT hg (by with_unfolding_all rfl)
def cutV (xs : List V) (lo hi : Option Int) : List V := (xs.drop (HT.sIx xs.length 0 lo)).take (HT.sIx xs.length xs.length hi - HT.sIx xs.length 0 lo)
theorem cutV_length (xs : List V) (lo hi : Option Int) : (cutV xs lo hi).length ≤ xs.length := by
  unfold cutV
  rw [List.length_take, List.length_drop]
  omega
end
end L2
namespace L2
open PySem PySem.Spec PyProof.Rows
def ixN (n : Nat) (i : Int) : Option Nat := if 0 ≤ i then (if i < n then some i.toNat else none) else if -(n : Int) ≤ i then some (i + n).toNat else none
def atI {α : Type} (xs : List α) (i : Int) : Option α := (ixN xs.length i).bind fun j => xs[j]?
theorem ixN_seq {n : Nat} {i : Int} {j : Nat} (h : ixN n i = some j) : seqIndex? i n = some j ∧ j < n ∧ -(n : Int) ≤ i ∧ i < n := by
  unfold ixN at h
  by_cases h0 : 0 ≤ i
  · rw [if_pos h0] at h
    by_cases h1 : i < n
    · rw [if_pos h1] at h
      have e : i.toNat = j := Option.some.inj h
      exact ⟨by rw [seqIndex_of h0 h1, e], by omega, by omega, h1⟩
    · rw [if_neg h1] at h; cases h
  · rw [if_neg h0] at h
    by_cases h1 : -(n : Int) ≤ i
    · rw [if_pos h1] at h
      have e : (i + n).toNat = j := Option.some.inj h
      exact ⟨by rw [seqIndex_neg (by omega) h1, e], by omega, h1, by omega⟩
    · rw [if_neg h1] at h; cases h
theorem atI_get {α : Type} {xs : List α} {i : Int} {v : α} (h : atI xs i = some v) : ∃ j, seqIndex? i xs.length = some j ∧ xs[j]? = some v ∧ j < xs.length ∧ -(xs.length : Int) ≤ i ∧ i < xs.length := by
  unfold atI at h
  cases e : ixN xs.length i with
  | none => rw [e] at h; cases h
  | some j =>
    rw [e] at h
    obtain ⟨h1, h2, h3, h4⟩ := ixN_seq e
    exact ⟨j, h1, h, h2, h3, h4⟩
theorem atI_nat {α : Type} {xs : List α} {j : Nat} {v : α} (h : xs[j]? = some v) : atI xs (j : Int) = some v := by
  have hj : j < xs.length := (List.getElem?_eq_some_iff.mp h).1
  have e : ixN xs.length (j : Int) = some j := by
    unfold ixN
    rw [if_pos (by omega), if_pos (by omega)]; simp
  unfold atI; rw [e]; exact h
def PlainIx (b : Expr) : Prop := ∀ o i, subscripted b false o i = operate [o, i] (getItem o i)
def IxR (X : Cx) (r : R2) : Prop :=
  ∀ (value slice : Expr) (pins : List (Addr × Obj)) (s : Shared) (σ : St) (H : Hp) (x y : V) (v u : Value) (Q : VK), Inv X pins σ H s → RelV x v → RelV y u → r x y H Q →
    subscripted slice false v u = operate [v, u] (getItem v u) → wpAny (model X.prog X.w) X.A (subscriptTail value slice v u) (EP X pins σ Q) X.xe s
def MtR (X : Cx) (id : String) (r : V → List V → Hp → VK → Prop) : Prop :=
  ∀ (pins : List (Addr × Obj)) (s : Shared) (σ : St) (H : Hp) (x : V) (xs : List V) (v : Value) (us : List Value) (Q : VK), Inv X pins σ H s → RelV x v → Vals xs us → r x xs H Q →
    wpAny (model X.prog X.w) X.A (call (.builtin id) (v :: us)) (EP X pins σ Q) X.xe s
section
variable {X : Cx} {a b : Expr} {ta tb : TE} {pos : Pos}
theorem pe_ix {r : R2} (hr : IxR X r) (ha : PE X a ta) (hb : PE X b tb) (hs : PlainIx b) : PE X (.Subscript a b pos) (tOp r ta tb) := by
  intro pins s σ H Q I h
  exact Subscript_ (binT ha hb I h fun v u s2 x y H2 I2 rx ry q => hr a b pins s2 σ H2 x y v u Q I2 rx ry q (hs _ _))
def rIxL (K : PySem.W.Frag) : R2 := fun x y H Q => ∃ p xs i v, x = .ref p ∧ y = .int i ∧ SqL K H p xs ∧ atI xs i = some v ∧ Q v H
theorem ix_list : IxR X (rIxL X.K) := by
  intro value slice pins s σ H x y v u Q I rx ry h hs
  obtain ⟨p, xs, i, z, rfl, rfl, hq, he, q⟩ := h
  cases rx
  obtain ⟨t, rfl⟩ := ry
  obtain ⟨its, r, pl, hz⟩ := I.list hq
  obtain ⟨j, h1, h2, h3, h4, h5⟩ := atI_get he
  obtain ⟨w, ew, rw'⟩ := r.get h2
  have hl := r.length
  have hn := line63
  have fin : EP X pins σ Q w s := ⟨z, H, I, rw', q⟩
  by_cases h0 : 0 ≤ i
  · have hj : i.toNat = j := by
      rw [seqIndex_of h0 h5] at h1
      exact Option.some.inj h1
    exact item_listR pl.isList h0 (by omega) (by rw [hj]; simpa using ew) fin hs
  · have hj : (i + (its.toArray.size : Int)).toNat = j := by
      rw [seqIndex_neg (by omega) h4] at h1
      rw [List.size_toArray, ← hl]
      exact Option.some.inj h1
    exact subscriptTail_builtinR (x := w) pl.isList.typeIs slot_list_getitem.lookup
      (wpAny_getItem_list_neg (Q := fun r s' => r = w ∧ EP X pins σ Q r s') pl.isList (by omega) (by rw [List.size_toArray] <;> omega) (by omega) (by rw [hj]; simpa using ew) ⟨rfl, fin⟩) hs
theorem slice_bounds (lo hi : Option Int) (n : Nat) : (sliceBounds lo hi none n).1 = ((HT.sIx n 0 lo : Nat) : Int) ∧ (sliceBounds lo hi none n).2.1 = ((HT.sIx n n hi : Nat) : Int) ∧ (sliceBounds lo hi none n).2.2 = 1 := by
  refine ⟨?_, ?_, rfl⟩
  · cases lo with
    | none => simp [sliceBounds, HT.sIx]
    | some i =>
      simp only [sliceBounds, HT.sIx, Option.getD_none, show (1 : Int) > 0 by decide, if_true]
      by_cases h : i < 0
      · simp only [h, if_true] <;> omega
      · simp only [h, if_false] <;> omega
  · cases hi with
    | none => simp [sliceBounds, HT.sIx]
    | some i =>
      simp only [sliceBounds, HT.sIx, Option.getD_none, show (1 : Int) > 0 by decide, if_true]
      by_cases h : i < 0
      · simp only [h, if_true] <;> omega
      · simp only [h, if_false] <;> omega
theorem slicePick_cut (its : List Value) (lo hi : Option Int) : slicePick its.toArray lo hi none = ((its.drop (HT.sIx its.length 0 lo)).take (HT.sIx its.length its.length hi - HT.sIx its.length 0 lo)).toArray := by
  obtain ⟨h1, h2, h3⟩ := slice_bounds lo hi its.toArray.size
  unfold slicePick
  rw [h1, h2, h3]
  simp only [sliceRange_one, pick_run, List.size_toArray] <;> rfl
def rSlL (K : PySem.W.Frag) : V → Option Int → Option Int → Hp → VK → Prop := fun x lo hi H Q => ∃ a xs, x = .ref a ∧ SqL K H a xs ∧ ∀ p, H p = none → Q (.ref p) (upd H p (.lst (cutV xs lo hi)))
theorem sl_list : SlR X (rSlL X.K) := by
  intro pins s σ H x v vl vu lo hi sl Q I rx hs pl pu h
  obtain ⟨a, xs, rfl, hx, q⟩ := h
  cases rx
  obtain ⟨its, r, ht, hz⟩ := I.list hx
  have hlen := r.length
  refine ⟨"list", _, slot_list_getitem.lookup, ht.isList.typeIs, ?_⟩
  refine wpAny_getItem_list_slice ht.isList hs pl pu .none (by simp) ?_ (by rw [List.size_toArray] <;> omega)
  rw [slicePick_cut, ← hlen]
  refine ⟨.ref s.heap.objs.size, _, I.laid (t' := s.toks) (o := .lst (cutV xs lo hi)) (fun b ob q => Heap.get?_push_of_some _ q) (Nat.le_refl _) ?_, rfl, q _ (I.hok.fresh (Nat.le_refl _))⟩
  exact ⟨Nat.le_trans (cutV_length xs lo hi) hz, _, 0, (r.drop (HT.sIx xs.length 0 lo)).take (HT.sIx xs.length xs.length hi - HT.sIx xs.length 0 lo), Heap.get?_push_size _ rfl⟩
theorem call_len_seq : CallR X (.builtin "len") (fun xs H Q => ∃ p ys, xs = [.ref p] ∧ (SqL X.K H p ys ∨ SqT X.K H p ys) ∧ Q (.int ys.length) H) := by
  intro pins s σ H xs us Q I r h
  obtain ⟨p, ys, rfl, hq, q⟩ := h
  obtain ⟨u, rfl, rx⟩ := vals1 r
  cases rx
  have hn := line63
  rcases hq with hq | hq
  · obtain ⟨its, r', pl, hz⟩ := I.list hq
    have hlen := r'.length
    exact Calls.call_len_list pl.isList (by simp only [List.size_toArray] <;> omega) ⟨.int ys.length, H, I.tok _, ⟨s.toks + 1, by rw [List.size_toArray, hlen]⟩, q⟩
  · obtain ⟨its, r', pl, hz⟩ := I.tuple hq
    have hlen := r'.length
    exact len_tuple pl (by simp only [List.size_toArray] <;> omega) ⟨.int ys.length, H, I.tok _, ⟨s.toks + 1, by rw [List.size_toArray, hlen]⟩, q⟩
theorem call_list_of : CallR X (.type "list") (fun xs H Q => ∃ p ys, xs = [.ref p] ∧ (SqL X.K H p ys ∨ SqT X.K H p ys) ∧ ∀ l, H l = none → Q (.ref l) (upd H l (.lst ys))) := by
  intro pins s σ H xs us Q I r h
  obtain ⟨p, ys, rfl, hq, q⟩ := h
  obtain ⟨u, rfl, rx⟩ := vals1 r
  cases rx
  have fin : ∀ (its : List Value), Vals ys its → ys.length ≤ sizeLine → ∀ (h' : Heap) (c' : Nat), (∀ b o', s.heap.get? b = some o' → h'.get? b = some o') →
      h'.get? s.heap.objs.size = some { cls := .type "list", dict := none, data := .seq its.toArray c', slots := #[] } → EP X pins σ Q (.ref s.heap.objs.size) { s with heap := h' } := fun its r' hz h' c' kp e =>
    ⟨.ref s.heap.objs.size, _, I.laid (t' := s.toks) kp (Nat.le_refl _) (show ObjOk X.prog X.w _ h' _ (.lst ys) from ⟨hz, its, c', r', e⟩), rfl, q _ (I.hok.fresh (Nat.le_refl _))⟩
  rcases hq with hq | hq
  · obtain ⟨its, r', pl, hz⟩ := I.list hq
    have hlen := r'.length
    obtain ⟨o, ho, hc, n, hd⟩ := pl.isList
    exact call_list_seq p (.inl rfl) ho hc hd (fun h' c' kp e => fin its r' hz h' c' kp e) (by simp only [List.size_toArray] <;> omega)
  · obtain ⟨its, r', pl, hz⟩ := I.tuple hq
    have hlen := r'.length
    obtain ⟨o, ho, hc, n, hd⟩ := pl
    exact call_list_seq p (.inr rfl) ho hc hd (fun h' c' kp e => fin its r' hz h' c' kp e) (by simp only [List.size_toArray] <;> omega)
def tyV (K : PySem.W.Frag) (T : String) (x : V) (H : Hp) : Prop := match x with
  | .str _ => T = "str"
  | .int _ => T = "int"
  | .ref p => (T = "list" ∧ ∃ xs, SqL K H p xs) ∨ (T = "tuple" ∧ ∃ o, K.lookup p = some o ∧ o.cls = .type "tuple" ∧ o.dict = none) ∨
      (T = "dict" ∧ ((∃ kvs, H p = some (.dK kvs)) ∨ ∃ kvs, H p = some (.dT kvs))) ∨ (T = "set" ∧ ∃ S n, H p = some (.set S n))
  | _ => False
theorem tyV_is {pins : List (Addr × Obj)} {σ : St} {H : Hp} {s : Shared} {T : String} {x : V} {v : Value} (I : Inv X pins σ H s) (r : RelV x v) (ty : tyV X.K T x H) :
    s.TypeIs v T ∧ ∀ a, v = .ref a → ∃ ob, s.heap.get? a = some ob ∧ ob.dict = none := by
  cases x with
  | str z =>
    obtain ⟨t, rfl⟩ := r
    cases (show T = "str" from ty)
    exact ⟨typeIs_str s z t, fun _ e => nomatch e⟩
  | int i =>
    obtain ⟨t, rfl⟩ := r
    cases (show T = "int" from ty)
    exact ⟨typeIs_int s i t, fun _ e => nomatch e⟩
  | ref p =>
    cases r
    rcases ty with ⟨rfl, xs, hq⟩ | ⟨rfl, o, hk, hc, hd⟩ | ⟨rfl, hk⟩ | ⟨rfl, S, n, hk⟩
    · obtain ⟨its, _, pl, _⟩ := I.list hq
      refine ⟨pl.isList.typeIs, fun a e => ?_⟩
      cases e
      obtain ⟨o, n, e, c, hd, _⟩ := pl
      exact ⟨o, e, hd⟩
    · refine ⟨⟨o, I.kIn p o hk, hc⟩, fun a e => ?_⟩
      cases e
      exact ⟨o, I.kIn _ o hk, hd⟩
    · have z : ∃ o, s.heap.get? p = some o ∧ o.ExactDict := by
        rcases hk with ⟨kvs, hk⟩ | ⟨kvs, hk⟩
        · obtain ⟨_, _, _, _, o, _, _, e, ex, _⟩ := I.hok p _ hk
          exact ⟨o, e, ex⟩
        · obtain ⟨_, _, _, _, o, _, _, e, ex, _⟩ := I.hok p _ hk
          exact ⟨o, e, ex⟩
      obtain ⟨o, e, ex⟩ := z
      refine ⟨⟨o, e, ex.1⟩, fun a e2 => ?_⟩
      cases e2
      exact ⟨o, e, ex.2.1⟩
    · obtain ⟨o, _, _, _, e, ex, _⟩ := I.hok p _ hk
      refine ⟨⟨o, e, ex.1⟩, fun a e2 => ?_⟩
      cases e2
      exact ⟨o, e, ex.2.1⟩
  | _ => exact False.elim ty
def tBM (K : PySem.W.Frag) (T : String) (r : V → List V → Hp → VK → Prop) (to : TE) (t : TA) : TE := fun σ H Q => to σ H fun x H1 => tyV K T x H1 ∧ t σ H1 fun xs H2 => r x xs H2 Q
variable {o e : Expr} {es : List Expr} {to : TE} {t : TA} {name : Str} {apos cpos : Pos} {T id : String} {r : V → List V → Hp → VK → Prop}
theorem pe_bm (pa : PlainAttrs T) (slot : Slot T name id) (hty : typeOf (.builtin id) = pure (.type "method_descriptor")) (hm : MtR X id r) (ho : PE X o to) (ha : PA X (e :: es) t)
    (hbase : attributeBase o name X.env (eval o X.env) = eval o X.env := by rfl)
    (hfew : ((backTo cpos (starEach (e :: es) X.env)).all (fun x => !x.1) && (backToKw cpos (keywordEach [] X.env)).all (fun x => x.1.isSome)
      && decide ((e :: es).length + ([] : List Keyword).length + (if ([] : List Keyword).isEmpty then 0 else 1) < 30)) = true := by rfl)
    (hline : (apos.endLine == cpos.line) = true := by rfl) (hs : starEach (e :: es) X.env = (false, eval e X.env) :: starEach es X.env := by rfl) (hplain : (backTo cpos (starEach es X.env)).any (·.1) = false := by rfl) :
    PE X (.Call (.Attribute o name apos) (e :: es) [] cpos) (tBM X.K T r to t) := by
  intro pins s σ H Q I h
  refine wpAny_Call_method_late hbase hfew hline rfl (thn (ho pins s σ H _ I h) fun v s1 ⟨x, H1, I1, r1, ty, q1⟩ => ?_)
  obtain ⟨h1, h2⟩ := tyV_is I1 r1 ty
  refine ⟨T, id, pa, slot, hty, h1, h2, ?_⟩
  have hA := ha cpos pins s1 σ H1 _ I1 q1
  rw [hs] at hA ⊢
  refine Calls.callWith_builtin (by show (false || (backTo cpos (starEach es X.env)).any (·.1)) = false; rw [hplain] <;> rfl) (Calls.evalArgs_plain ?_)
  exact thn hA fun us s2 ⟨vs, H2, I2, r2, q2⟩ => hm pins s2 σ H2 x vs v us Q I2 r1 r2 q2
end
end L2
namespace L2
open PySem PySem.Spec PyProof.Rows
def MtM (X : Cx) (id : String) (r : V → List V → Hp → VK → Prop) : Prop :=
  ∀ (pins : List (Addr × Obj)) (s : Shared) (σ : St) (H : Hp) (x : V) (xs : List V) (v : Value) (us : List Value) (Q : VK), Inv X pins σ H s → RelV x v → Vals xs us → r x xs H Q →
    wpAny (model X.prog X.w) X.A (call (.builtin id) (v :: us)) (EP X pins σ Q) X.xe s
theorem Vals.one : ∀ {x : V} {us : List Value}, Vals [x] us → ∃ u, us = [u] ∧ RelV x u
  | _, _, .cons r .nil => ⟨_, rfl, r⟩
section
variable {X : Cx} {pins : List (Addr × Obj)} {σ : St} {H : Hp} {s : Shared} {l b : Addr} {xs ys zs : List V}
theorem Inv.lset {its its' : List Value} {n : Nat} {f : Array Value → Array Value} {t' : Nat} (I : Inv X pins σ H s) (hH : H l = some (.lst xs))
    (e : s.heap.get? l = some { cls := .type "list", data := .seq its.toArray n }) (hf : f its.toArray = its'.toArray) (hv : Vals ys its') (hz : ys.length ≤ sizeLine) :
    Inv X pins σ (upd H l (.lst ys)) { s with heap := s.heap.update l (Obj.mapSeq f), toks := t' } := by
  have q := PySem.IsL.update e f
  rw [hf] at q
  refine I.write (x := l) (e := l) (by rw [hH]; exact trivial) (.inl rfl) (fun b' u hb hu => (Heap.get?_update_other s.heap (Obj.mapSeq f) (Ne.symm hb)).trans hu) ⟨_, q⟩ ?_
  exact ⟨hz, its', _, hv, q⟩
theorem Inv.lnew {its : List Value} {t' : Nat} (I : Inv X pins σ H s) (hv : Vals ys its) (hz : ys.length ≤ sizeLine) :
    Inv X pins σ (upd H s.heap.objs.size (.lst ys)) { s with heap := s.heap.push { cls := .type "list", data := .seq its.toArray }, toks := t' } :=
  I.laid (fun _ _ q => Heap.get?_push_of_some _ q) (Nat.le_refl _) ⟨hz, its, 0, hv, Heap.get?_push_size _ rfl⟩
theorem Inv.fresh (I : Inv X pins σ H s) : H s.heap.objs.size = none := I.hok.fresh (Nat.le_refl _)
theorem Inv.lstM (I : Inv X pins σ H s) (hH : H l = some (.lst xs)) : xs.length ≤ sizeLine ∧ ∃ (its : List Value) (n : Nat), Vals xs its ∧ xs.length = its.length ∧ s.heap.get? l = some { cls := .type "list", data := .seq its.toArray n } := by
  obtain ⟨z, its, n, r, e⟩ := I.hok l _ hH
  exact ⟨z, its, n, r, r.length, e⟩
theorem notLongL {n : Nat} (h : n ≤ sizeLine) : Builtin.List.listTooLong n = false := by
  unfold Builtin.List.listTooLong
  exact decide_eq_false (by omega)
end
section
variable {X : Cx}
def rAppend : V → List V → Hp → VK → Prop := fun x vs H Q => ∃ l xs y, x = .ref l ∧ vs = [y] ∧ H l = some (.lst xs) ∧ xs.length < sizeLine ∧ Q .non (upd H l (.lst (xs ++ [y])))
theorem mt_append : MtM X "list.append" rAppend := by
  intro pins s σ H x vs v us Q I rx rv h
  obtain ⟨l, xs, y, rfl, rfl, hH, hz, q⟩ := h
  cases rx
  obtain ⟨u, rfl, ru⟩ := rv.one
  obtain ⟨z, its, n, r, hl, e⟩ := I.lstM hH
  refine call_meets F.slot_list_append ⟨_, e, rfl⟩ F.entry_list_append (F.args_list_append_2 _ _) (PySem.list_append l its.toArray n u (by rw [List.size_toArray]; omega)) ⟨e, ?_⟩
  refine ⟨.non, _, I.lset (its' := its ++ [u]) hH e (by simp) (r.append (.cons ru .nil)) ?_, rfl, q⟩
  rw [List.length_append, List.length_singleton]
  omega
def rExtend : V → List V → Hp → VK → Prop := fun x vs H Q => ∃ l b xs zs, x = .ref l ∧ vs = [.ref b] ∧ H l = some (.lst xs) ∧ H b = some (.lst zs) ∧ xs.length + zs.length ≤ sizeLine ∧ Q .non (upd H l (.lst (xs ++ zs)))
theorem mt_extend : MtM X "list.extend" rExtend := by
  intro pins s σ H x vs v us Q I rx rv h
  obtain ⟨l, b, xs, zs, rfl, rfl, hH, hB, hz, q⟩ := h
  cases rx
  obtain ⟨u, rfl, ru⟩ := rv.one
  cases ru
  obtain ⟨z, its, n, r, hl, e⟩ := I.lstM hH
  obtain ⟨z2, its2, n2, r2, hl2, e2⟩ := I.lstM hB
  have hsz : its.toArray.size + its2.toArray.size ≤ sizeLine := by rw [List.size_toArray, List.size_toArray]; omega
  have hlong : ¬ (!its.toArray.isEmpty && Builtin.List.listTooLong (its.toArray.size + its2.toArray.size)) = true := by
    rw [notLongL hsz, Bool.and_false]
    exact Bool.false_ne_true
  refine call_meets F.slot_list_extend ⟨_, e, rfl⟩ F.entry_list_extend (F.args_list_extend_2 _ _)
    (AutoSeq1.list_extend_list_list_0 l its.toArray n b its2.toArray n2 hlong (by rw [List.size_toArray]; omega) (by omega)) ⟨e, e2, ?_⟩
  refine ⟨.non, _, I.lset (its' := its ++ its2) hH e (by simp) (r.append r2) ?_, rfl, q⟩
  rw [List.length_append]
  omega
def rCat : R2 := fun x y H Q => ∃ l b xs zs, x = .ref l ∧ y = .ref b ∧ H l = some (.lst xs) ∧ H b = some (.lst zs) ∧ xs.length + zs.length ≤ sizeLine ∧ ∀ p, H p = none → Q (.ref p) (upd H p (.lst (xs ++ zs)))
theorem op_cat : OpR X (binaryOp .Add) rCat := by
  intro pins s σ H x y v u Q I rx ry h
  obtain ⟨l, b, xs, zs, rfl, rfl, hH, hB, hz, q⟩ := h
  cases rx
  cases ry
  obtain ⟨z, its, n, r, hl, e⟩ := I.lstM hH
  obtain ⟨z2, its2, n2, r2, hl2, e2⟩ := I.lstM hB
  refine PySem.P.add_list e e2 ?_ (by rw [List.size_toArray, List.size_toArray]; omega)
  have ea : its.toArray ++ its2.toArray = (its ++ its2).toArray := by simp
  rw [ea]
  exact ⟨.ref _, _, I.lnew (t' := s.toks) (r.append r2) (by rw [List.length_append]; omega), rfl, q _ I.fresh⟩
end
section
variable {prog : Program} {w : World} {A : Around} {E : Value → Shared → Prop} {s : Shared}
end
section
variable {X : Cx}
end
end L2
namespace L2
open PySem PySem.Spec PyProof.Rows
theorem Vals.ints : ∀ {ns : List Int} {us : List Value}, Vals (ns.map V.int) us → IntsAre us ns
  | [], us, h => by
    rw [List.map_nil] at h
    cases h
    exact IntsAre.nil
  | n :: ns, us, h => by
    rw [List.map_cons] at h
    cases h with
    | cons r t =>
      obtain ⟨k, rfl⟩ := r
      exact IntsAre.cons n k (Vals.ints t)
theorem Vals.ref1 {a : Addr} {us : List Value} (r : Vals [V.ref a] us) : us = [Value.ref a] := by
  cases r with
  | cons r t =>
    cases t
    cases r
    rfl
section
variable {prog : Program} {w : World} {A : Around} {E : Value → Shared → Prop} {s : Shared} {l : Addr} {its : List Value} {ns : List Int} {Q : Value → Shared → Prop}
theorem sum_raw (hh : A.handled = none) (hl : s.heap.IsList l its.toArray) (hi : IntsAre its ns)
    (h : ∀ h' tk t', (∀ b o, s.heap.get? b = some o → h'.get? b = some o) → Q (.int ns.sum t') { s with heap := h', toks := tk }) : wpAny (model prog w) A (call (.builtin "sum") [.ref l]) Q E s := by
  obtain ⟨xs, e⟩ := hi.allInts.items
  have hn : numsOf (intItems xs).toList = ns := by rw [← e]; exact hi.numsOf
  rw [nums_intItems] at hn
  rw [e] at hl
  refine PySem.sum_intListG hh hl fun h' tk t' hk => ?_
  have := h h' tk t' hk
  rw [preSum_eq, List.take_of_length_le (by simp), hn]; exact this
end
section
variable {X : Cx}
def rSum (K : PySem.W.Frag) : List V → Hp → VK → Prop := fun vs H Q => ∃ (a : Addr) (ns : List Int), vs = [V.ref a] ∧ SqL K H a (ns.map V.int) ∧ Q (.int ns.sum) H
theorem cr_sum (hc : X.calm = true) : CallR X (.builtin "sum") (rSum X.K) := by
  intro pins s σ H vs us Q I r h
  obtain ⟨a, ns, rfl, hs, q⟩ := h
  obtain ⟨its, rv, hl, _⟩ := I.list hs
  rw [Vals.ref1 r]
  exact sum_raw (I.ok.hd hc) hl.isList rv.ints fun h' tk t' hk => ⟨.int _, H, I.kept hk, ⟨_, rfl⟩, q⟩
end
section
variable {X : Cx}
end
section
variable {X : Cx}
end
section
variable {X : Cx}
end
mutual
inductive Dp (K : PySem.W.Frag) (H : Hp) : V → PyData → Prop
  | non : Dp K H .non .none
  | bl (b : Bool) : Dp K H (.bl b) (.bool b)
  | int (i : Int) : Dp K H (.int i) (.int i)
  | str (x : Str) : Dp K H (.str x) (.str x)
  | lst {a : Addr} {xs : List V} {ds : List PyData} : SqL K H a xs → DpAll K H xs ds → Dp K H (.ref a) (.list ds)
  | tup {a : Addr} {xs : List V} {ds : List PyData} : SqT K H a xs → DpAll K H xs ds → Dp K H (.ref a) (.tuple ds)
inductive DpAll (K : PySem.W.Frag) (H : Hp) : List V → List PyData → Prop
  | nil : DpAll K H [] []
  | cons {v : V} {vs : List V} {d : PyData} {ds : List PyData} : Dp K H v d → DpAll K H vs ds → DpAll K H (v :: vs) (d :: ds)
end
section
variable {X : Cx} {pins : List (Addr × Obj)} {σ : St} {H : Hp} {s : Shared}
mutual
theorem Dp.reads (I : Inv X pins σ H s) : ∀ (d : PyData) (v : V) (u : Value), Dp X.K H v d → RelV v u → ∃ as, Reads s.heap u d as
  | .none, _, _, h, r => by
    cases h
    cases r
    exact ⟨_, Reads.none⟩
  | .bool b, _, _, h, r => by
    cases h
    cases r
    exact ⟨_, Reads.bool b⟩
  | .int i, _, _, h, r => by
    cases h
    obtain ⟨t, rfl⟩ := r
    exact ⟨_, Reads.int i t⟩
  | .str x, _, _, h, r => by
    cases h
    obtain ⟨t, rfl⟩ := r
    exact ⟨_, Reads.str x t⟩
  | .list ds, _, _, h, r => by
    cases h with
    | lst hs ha =>
      cases r
      obtain ⟨its, rv, ⟨o, n, ho, hc, _, hd⟩, _⟩ := I.list hs
      obtain ⟨as, hr⟩ := Dp.readsAll I ds _ its ha rv
      exact ⟨_, Reads.list ho hc hd hr⟩
  | .tuple ds, _, _, h, r => by
    cases h with
    | tup hs ha =>
      cases r
      obtain ⟨its, rv, ⟨o, ho, hc, n, hd⟩, _⟩ := I.tuple hs
      obtain ⟨as, hr⟩ := Dp.readsAll I ds _ its ha rv
      exact ⟨_, Reads.tuple ho hc hd hr⟩
  | .dict _, _, _, h, _ => by cases h
theorem Dp.readsAll (I : Inv X pins σ H s) : ∀ (ds : List PyData) (vs : List V) (us : List Value), DpAll X.K H vs ds → Vals vs us → ∃ as, ReadsAll s.heap us ds as
  | [], _, _, h, r => by
    cases h
    cases r
    exact ⟨_, ReadsAll.nil⟩
  | d :: ds, _, _, h, r => by
    cases h with
    | cons h1 h2 =>
      cases r with
      | cons r1 r2 =>
        obtain ⟨as, q1⟩ := Dp.reads I d _ _ h1 r1
        obtain ⟨bs, q2⟩ := Dp.readsAll I ds _ _ h2 r2
        exact ⟨_, ReadsAll.cons q1 q2⟩
end
end
section
variable {X : Cx}
def rEqD (K : PySem.W.Frag) : R2 := fun x y H Q => ∃ d e, Dp K H x d ∧ Dp K H y e ∧ SeqAt.shaped d = true ∧ SeqAt.shaped e = true ∧ Q (.bl (PyData.eqv d e)) H
theorem op_eqD (hu : X.A.units + 64 < cLine) : OpR X (compareOp .Eq) (rEqD X.K) := by
  intro pins s σ H x y v u Q I rx ry h
  obtain ⟨d, e, hd, he, sd, se, q⟩ := h
  obtain ⟨as, r1⟩ := Dp.reads I d x v hd rx
  obtain ⟨bs, r2⟩ := Dp.reads I e y u he ry
  exact SeqAt.compareEq_shaped r1 r2 sd se hu ⟨.bl _, H, I, rfl, q⟩
end
end L2
namespace L2
open PySem PySem.Spec PyProof.Rows
abbrev CellAt (h : Heap) (c : Addr) (v : Option Value) : Prop := h.IsCell c v
def relS (scope sc : Scope) : Scope :=
  { scope with names := scope.names.map fun (n, k) => if (k == .free && sc.kind == .function && sc.names.lookup n == some .cell) then (n, .cell) else (n, k) }
def cloFrom (cells : List (Str × Addr)) : List (Str × NameKind) → List (Str × Addr) → List (Str × Addr)
  | [], acc => acc
  | (n, k) :: r, acc => if k == .free then cloFrom cells r ((n, (cells.lookup n).getD 0) :: acc) else cloFrom cells r acc
theorem closure_loop (env : Env) (f : Str × NameKind → List (Str × Addr) → Sem (ForInStep (List (Str × Addr))))
    (hf : ∀ n k c, f (n, k) c = if k == .free then (do let a ← cellOf env n; pure (.yield ((n, a) :: c))) else pure (.yield c)) :
    ∀ (names : List (Str × NameKind)) (acc : List (Str × Addr)), (∀ y ∈ names, y.2 = .free → ∃ c, env.cells.lookup y.1 = some c) → forIn names acc f = pure (cloFrom env.cells names acc)
  | [], acc, _ => by rw [List.forIn_nil]; rfl
  | (n, k) :: r, acc, h => by
    rw [List.forIn_cons, hf]
    have ih := fun acc => closure_loop env f hf r acc fun y hy => h y (List.mem_cons_of_mem _ hy)
    unfold cloFrom
    by_cases hk : (k == NameKind.free) = true
    · rw [if_pos hk, if_pos hk]
      obtain ⟨c, hc⟩ := h (n, k) List.mem_cons_self (by simpa using hk)
      have e : cellOf env n = pure c := by unfold cellOf; rw [hc]
      rw [e]
      have e2 : (env.cells.lookup n).getD 0 = c := by rw [hc]; rfl
      rw [e2]
      exact ih _
    · rw [if_neg hk, if_neg hk]
      exact ih _
theorem closure_ok {scope : Scope} {env : Env} (h : ∀ y ∈ scope.names, y.2 = .free → ∃ c, env.cells.lookup y.1 = some c) : closureFor scope env = pure (cloFrom env.cells scope.names []) := by
  simp only [closureFor]
  rw [closure_loop env _ (fun n k c => rfl) scope.names [] h]
  rfl
theorem mem_lookup {α : Type} : ∀ {l : List (Str × α)} {n : Str} {c : α}, (n, c) ∈ l → ∃ c', l.lookup n = some c'
  | (k, v) :: r, n, c, h => by
    rw [List.lookup_cons]
    cases hb : n == k with
    | true => exact ⟨_, rfl⟩
    | false =>
      rcases List.mem_cons.mp h with e | h
      · cases e; simp at hb
      · exact mem_lookup h
theorem cloFrom_mem {cells : List (Str × Addr)} : ∀ {names : List (Str × NameKind)} {acc : List (Str × Addr)} {n : Str} {c : Addr}, (n, c) ∈ cloFrom cells names acc → (n, c) ∈ acc ∨ ((n, .free) ∈ names ∧ c = (cells.lookup n).getD 0)
  | [], _, _, _, h => .inl h
  | (m, k) :: r, acc, n, c, h => by
    unfold cloFrom at h
    split at h
    · rename_i hk
      have hk : k = .free := by simpa using hk
      rcases cloFrom_mem h with h | ⟨h1, h2⟩
      · rcases List.mem_cons.mp h with e | h
        · cases e; exact .inr ⟨hk ▸ List.mem_cons_self, rfl⟩
        · exact .inl h
      · exact .inr ⟨List.mem_cons_of_mem _ h1, h2⟩
    · rcases cloFrom_mem h with h | ⟨h1, h2⟩
      · exact .inl h
      · exact .inr ⟨List.mem_cons_of_mem _ h1, h2⟩
theorem cloFrom_acc {cells : List (Str × Addr)} : ∀ {names : List (Str × NameKind)} {acc : List (Str × Addr)} {p : Str × Addr}, p ∈ acc → p ∈ cloFrom cells names acc
  | [], _, _, h => h
  | (m, k) :: r, acc, p, h => by
    unfold cloFrom
    split
    · exact cloFrom_acc (List.mem_cons_of_mem _ h)
    · exact cloFrom_acc h
theorem cloFrom_has {cells : List (Str × Addr)} : ∀ {names : List (Str × NameKind)} {acc : List (Str × Addr)} {n : Str}, (n, .free) ∈ names → (n, (cells.lookup n).getD 0) ∈ cloFrom cells names acc
  | (m, k) :: r, acc, n, h => by
    unfold cloFrom
    rcases List.mem_cons.mp h with e | h
    · cases e
      exact cloFrom_acc List.mem_cons_self
    · split
      · exact cloFrom_has h
      · exact cloFrom_has h
theorem cells_mem : ∀ {names : List (Str × NameKind)} {h : Heap} {acc : List (Str × Addr)} {x : Str} {c : Addr}, (x, c) ∈ cellsFrom h.objs.size names acc →
    (x, c) ∈ acc ∨ ((x, .cell) ∈ names ∧ h.objs.size ≤ c ∧ CellAt (pushCells h names) c none)
  | [], _, _, _, _, h => .inl h
  | (n, k) :: r, h, acc, x, c, hm => by
    unfold cellsFrom at hm
    unfold pushCells
    split at hm
    · rename_i hk
      rw [if_pos hk]
      have hk : k = .cell := by simpa using hk
      rw [← Heap.size_push h { cls := .type "cell", data := .cell none }] at hm
      rcases cells_mem hm with hm | ⟨h1, h2, h3⟩
      · rcases List.mem_cons.mp hm with e | hm
        · cases e
          exact .inr ⟨hk ▸ List.mem_cons_self, Nat.le_refl _, _, pushCells_keeps r _ _ _ (Heap.get?_push_size _ rfl), rfl⟩
        · exact .inl hm
      · rw [Heap.size_push] at h2
        exact .inr ⟨List.mem_cons_of_mem _ h1, Nat.le_of_succ_le h2, h3⟩
    · rename_i hk
      rw [if_neg hk]
      rcases cells_mem hm with hm | ⟨h1, h2, h3⟩
      · exact .inl hm
      · exact .inr ⟨List.mem_cons_of_mem _ h1, h2, h3⟩
theorem cells_acc : ∀ {names : List (Str × NameKind)} {n : Nat} {acc : List (Str × Addr)} {p : Str × Addr}, p ∈ acc → p ∈ cellsFrom n names acc
  | [], _, _, _, h => h
  | (m, k) :: r, n, acc, p, h => by
    unfold cellsFrom
    split
    · exact cells_acc (List.mem_cons_of_mem _ h)
    · exact cells_acc h
theorem cells_has : ∀ {names : List (Str × NameKind)} {n : Nat} {acc : List (Str × Addr)} {x : Str}, (x, .cell) ∈ names → ∃ c, (x, c) ∈ cellsFrom n names acc
  | (m, k) :: r, n, acc, x, h => by
    unfold cellsFrom
    rcases List.mem_cons.mp h with e | h
    · cases e
      exact ⟨n, cells_acc List.mem_cons_self⟩
    · split
      · exact cells_has h
      · exact cells_has h
theorem cells_inj : ∀ {names : List (Str × NameKind)} {h : Heap} {acc : List (Str × Addr)} {x y : Str} {c : Addr}, (∀ p ∈ acc, p.2 < h.objs.size) → (∀ x y c, (x, c) ∈ acc → (y, c) ∈ acc → x = y) →
    (x, c) ∈ cellsFrom h.objs.size names acc → (y, c) ∈ cellsFrom h.objs.size names acc → x = y
  | [], _, _, _, _, _, _, hi, h1, h2 => hi _ _ _ h1 h2
  | (n, k) :: r, h, acc, x, y, c, hl, hi, h1, h2 => by
    unfold cellsFrom at h1 h2
    split at h1
    · rename_i hk
      rw [if_pos hk] at h2
      rw [← Heap.size_push h { cls := .type "cell", data := .cell none }] at h1 h2
      refine cells_inj (h := h.push _) (fun p hp => ?_) (fun x y c a b => ?_) h1 h2
      · rw [Heap.size_push]
        rcases List.mem_cons.mp hp with rfl | hp
        · exact Nat.lt_succ_self _
        · exact Nat.lt_succ_of_lt (hl p hp)
      · rcases List.mem_cons.mp a with e | a <;> rcases List.mem_cons.mp b with e' | b
        · cases e; cases e'; rfl
        · cases e; exact absurd (hl _ b) (Nat.lt_irrefl _)
        · cases e'; exact absurd (hl _ a) (Nat.lt_irrefl _)
        · exact hi _ _ _ a b
    · rename_i hk
      rw [if_neg hk] at h2
      exact cells_inj hl hi h1 h2
theorem newEnv_comp {M : Model} {A : Around} {E : Value → Shared → Prop} {s : Shared} {scope : Scope} {globals : Addr} {closure : List (Str × Addr)} {qual : Str} {func : Option Addr} {code : Value} {around : Env} {builtins : Addr} {Q : Env → Shared → Prop}
    (h : Q (newEnv scope s.heap.objs.size globals (cellsFrom (s.heap.objs.size + 1) scope.names closure) qual func code (some around) builtins)
      { s with heap := pushCells (s.heap.push { cls := .type "dict", data := .dict #[] }) scope.names }) :
    wpAny M A (newFunctionEnv scope globals closure [] qual func code (some around) builtins) Q E s := by
  simp only [newFunctionEnv, Option.isSome_some, if_true]
  refine wpAny_bind (wpAny_alloc ?_)
  refine wpAny_bind (wpAny_layCells _ (fun n k c => rfl) scope.names closure _ _ ?_)
  rw [show ({ s with heap := s.heap.push { cls := .type "dict", data := .dict #[] } } : Shared).heap.objs.size = s.heap.objs.size + 1 from Heap.size_push ..]
  rw [List.forIn_nil]
  exact wpAny_bind (wpAny_pure (wpAny_pure h))
theorem lookup_relS {sc : Scope} : ∀ {names : List (Str × NameKind)} {x : Str} {k : NameKind},
    (names.map fun (n, k) => if (k == NameKind.free && sc.kind == .function && sc.names.lookup n == some .cell) then (n, NameKind.cell) else (n, k)).lookup x = some k →
    ∃ k', names.lookup x = some k' ∧ (k = k' ∨ (k' = .free ∧ k = .cell))
  | [], _, _, h => by simp at h
  | (n, k₀) :: r, x, k, h => by
    have ih := @lookup_relS sc r x k
    have h' : List.lookup x ((if (k₀ == NameKind.free && sc.kind == .function && sc.names.lookup n == some .cell) = true then (n, NameKind.cell) else (n, k₀)) :: (r.map _)) = some k := h
    cases hx : x == n with
    | true =>
      simp only [List.lookup_cons, hx]
      by_cases hc : (k₀ == NameKind.free && sc.kind == .function && sc.names.lookup n == some .cell) = true
      · rw [if_pos hc] at h'
        simp only [List.lookup_cons, hx] at h'
        cases h'
        simp only [Bool.and_eq_true, beq_iff_eq] at hc
        exact ⟨k₀, rfl, .inr ⟨hc.1.1, rfl⟩⟩
      · rw [if_neg hc] at h'
        simp only [List.lookup_cons, hx] at h'
        cases h'
        exact ⟨_, rfl, .inl rfl⟩
    | false =>
      simp only [List.lookup_cons, hx]
      by_cases hc : (k₀ == NameKind.free && sc.kind == .function && sc.names.lookup n == some .cell) = true
      · rw [if_pos hc] at h'
        simp only [List.lookup_cons, hx] at h'
        exact ih h'
      · rw [if_neg hc] at h'
        simp only [List.lookup_cons, hx] at h'
        exact ih h'
structure BlkOk (N : List Str) (sc scope : Scope) (own : List (Str × Nat)) : Prop where
  kind : scope.kind = .function
  uniq : ∀ y ∈ scope.names, scope.names.lookup y.1 = some y.2
  ix : ∀ p ∈ own, N[p.2]? = some p.1
  free : ∀ y ∈ scope.names, y.2 = .free → sc.names.lookup y.1 = some .cell ∨ sc.names.lookup y.1 = some .free
  own : ∀ y ∈ scope.names, y.2 = .local ∨ y.2 = .cell → y.1 ∈ own.map (·.1) ∨ y.1 ∉ N
def wipe (σ : St) : List Nat → St
  | [] => σ
  | v :: vs => (wipe σ vs).set v none
theorem wipe_length (σ : St) : ∀ vs : List Nat, (wipe σ vs).length = σ.length
  | [] => rfl
  | v :: vs => by unfold wipe; rw [List.length_set, wipe_length σ vs]
theorem wipe_some {σ : St} {i : Nat} {x : V} : ∀ {vs : List Nat}, (wipe σ vs)[i]? = some (some x) → σ[i]? = some (some x) ∧ i ∉ vs
  | [], h => ⟨h, by simp⟩
  | v :: vs, h => by
    unfold wipe at h
    by_cases hi : v = i
    · subst hi
      by_cases hv : v < (wipe σ vs).length
      · rw [List.getElem?_set_self hv] at h; cases h
      · rw [List.getElem?_eq_none (by simpa using hv)] at h; cases h
    · rw [List.getElem?_set_ne hi] at h
      obtain ⟨h1, h2⟩ := wipe_some h
      exact ⟨h1, by simp only [List.mem_cons, not_or]; exact ⟨fun e => hi e.symm, h2⟩⟩
abbrev Cx.blk (X : Cx) (s : Shared) (H : Hp) (scope : Scope) (cenv : Env) (fp : List Addr) : Cx := { X with s_0 := s, H_0 := H, env := cenv, outer := X.stack, ex := fp, fn := fun x => scope.names.lookup x == some .cell, pn := [], xe := fun _ _ => False }
section
variable {X : Cx} {pins : List (Addr × Obj)} {σ : St} {H : Hp} {s : Shared}
theorem block_start {scope : Scope} {own : List (Str × Nat)} {fp : List Addr} (I : Inv X pins σ H s) (ok : BlkOk X.N X.env.scope scope own) (hN : X.N.Nodup) (hfp : ∀ b ∈ fp, FpOk X pins H b ∧ b < s.heap.objs.size) :
    Inv (X.blk s H scope (compEnvC scope (cellsFrom (s.heap.objs.size + 1) scope.names (cloFrom X.env.cells scope.names [])) s.heap.objs.size X.env) fp) [] (wipe σ (own.map (·.2))) H { s with heap := pushCells (s.heap.push { cls := .type "dict", data := .dict #[] }) scope.names } := by
  have hfree : ∀ y ∈ scope.names, y.2 = .free → ∃ c, X.env.cells.lookup y.1 = some c := fun y hy e => by
    rcases ok.free y hy e with k | k
    · exact I.ok.has _ (.inl k)
    · exact I.ok.has _ (.inr k)
  generalize hcenv : compEnvC scope (cellsFrom (s.heap.objs.size + 1) scope.names (cloFrom X.env.cells scope.names [])) s.heap.objs.size X.env = cenv
  have kp : ∀ b o, s.heap.get? b = some o → (pushCells (s.heap.push { cls := .type "dict", data := .dict #[] }) scope.names).get? b = some o := fun b o e => pushCells_keeps _ _ _ _ (Heap.get?_push_of_some _ e)
  have hL : cenv.locals = s.heap.objs.size := by rw [← hcenv]; rfl
  have hcl : cenv.cells = cellsFrom (s.heap.objs.size + 1) scope.names (cloFrom X.env.cells scope.names []) := by rw [← hcenv]; rfl
  have hsc : cenv.scope = relS scope X.env.scope := by rw [← hcenv]; rfl
  rw [← Heap.size_push s.heap { cls := .type "dict", data := .dict #[] }] at hcl
  have cm : ∀ {y c}, (y, c) ∈ cloFrom X.env.cells scope.names [] → X.env.cells.lookup y = some c ∧ c < s.heap.objs.size := fun {y c} hm => by
    rcases cloFrom_mem hm with hm | ⟨h1, rfl⟩
    · cases hm
    · obtain ⟨c, hc⟩ := hfree _ h1 rfl
      rw [hc]
      obtain ⟨w, z⟩ := I.cell _ _ hc
      exact ⟨rfl, z.lt⟩
  have mem : ∀ {y c}, cenv.cells.lookup y = some c → (X.env.cells.lookup y = some c ∧ c < s.heap.objs.size) ∨ (s.heap.objs.size + 1 ≤ c ∧ CellAt (pushCells (s.heap.push { cls := .type "dict", data := .dict #[] }) scope.names) c none) := fun {y c} e => by
    rw [hcl] at e
    rcases cells_mem (PySem.mem_of_lookup e) with hm | ⟨_, h2, h3⟩
    · exact .inl (cm hm)
    · rw [Heap.size_push] at h2; exact .inr ⟨h2, h3⟩
  have look : ∀ {y}, scope.names.lookup y = some .free → ∃ c, cenv.cells.lookup y = some c ∧ X.env.cells.lookup y = some c := fun {y} hl => by
    have hy : (y, NameKind.free) ∈ scope.names := PySem.mem_of_lookup hl
    obtain ⟨c', e'⟩ := mem_lookup (cells_acc (names := scope.names) (n := (s.heap.push { cls := .type "dict", data := .dict #[] }).objs.size) (cloFrom_has (cells := X.env.cells) (acc := []) hy))
    rw [← hcl] at e'
    refine ⟨c', e', ?_⟩
    rw [hcl] at e'
    rcases cells_mem (PySem.mem_of_lookup e') with hm | ⟨h1, _, _⟩
    · exact (cm hm).1
    · have := ok.uniq _ h1
      rw [hl] at this; cases this
  have okB : (X.blk s H scope cenv fp).Ok := by
    refine ⟨I.ok.mod, by show cenv.scope.kind = _; rw [hsc]; exact ok.kind, by show cenv.globals = _; rw [← hcenv]; exact I.ok.glob, by show cenv.builtins = _; rw [← hcenv]; exact I.ok.blt, by show s.heap.objs.size ≤ cenv.locals; rw [hL]; exact Nat.le_refl _,
      fun y z c e1 e2 => ?_, fun y hy => ?_, fun y c z e => ?_, I.ok.hd, I.ok.frames, .inl rfl, fun b hb => ⟨?_, fun y c e z => ?_⟩, I.bs, Nat.le_trans I.ok.bsz I.sz, fun b o e hb => ?_, fun b hb z => ?_, I.stack, I.stkFree⟩
    · have e1 : cenv.cells.lookup y = some c := e1
      have e2 : cenv.cells.lookup z = some c := e2
      rw [hcl] at e1 e2
      refine cells_inj (fun p hp => ?_) (fun y z c a b => I.ok.inj y z c (cm a).1 (cm b).1) (PySem.mem_of_lookup e1) (PySem.mem_of_lookup e2)
      rw [Heap.size_push]
      exact Nat.lt_succ_of_lt (cm (y := p.1) (c := p.2) hp).2
    · show ∃ c, cenv.cells.lookup y = some c
      have key : ∀ k, cenv.kindOf y = some k → (k = .cell ∨ k = .free) → ∃ c, cenv.cells.lookup y = some c := fun k hk hk' => by
        unfold Env.kindOf at hk
        rw [hsc] at hk
        obtain ⟨k', e, r⟩ := lookup_relS hk
        have : k' = .cell ∨ k' = .free := by
          rcases r with rfl | ⟨rfl, _⟩
          · exact hk'
          · exact .inr rfl
        rcases this with rfl | rfl
        · obtain ⟨c, hm⟩ := cells_has (n := (s.heap.push { cls := .type "dict", data := .dict #[] }).objs.size) (acc := cloFrom X.env.cells scope.names []) (PySem.mem_of_lookup e)
          obtain ⟨c', e'⟩ := mem_lookup hm
          exact ⟨c', by rw [hcl]; exact e'⟩
        · obtain ⟨c, h1, _⟩ := look e
          exact ⟨c, h1⟩
      rcases hy with hy | hy
      · exact key _ hy (.inl rfl)
      · exact key _ hy (.inr rfl)
    · have z : (scope.names.lookup y == some NameKind.cell) = true := z
      have z : scope.names.lookup y = some .cell := by simpa using z
      have e : cenv.cells.lookup y = some c := e
      rw [hcl] at e
      rcases cells_mem (PySem.mem_of_lookup e) with hm | ⟨_, h2, _⟩
      · rcases cloFrom_mem hm with hm | ⟨h1, _⟩
        · cases hm
        · have q := ok.uniq _ h1
          rw [z] at q; cases q
      · rw [Heap.size_push] at h2
        exact Nat.le_of_succ_le h2
    · show b ≠ cenv.locals
      rw [hL]; exact Nat.ne_of_lt (hfp b hb).2
    · have e : cenv.cells.lookup y = some c := e
      rcases mem e with ⟨h1, _⟩ | ⟨h1, _⟩
      · exact (hfp b hb).1.2.2.2.2.1 y c h1 z
      · have h2 : s.heap.objs.size + 1 ≤ b := by rw [← z]; exact h1
        exact absurd (Nat.lt_of_lt_of_le (hfp b hb).2 (Nat.le_of_succ_le h2)) (Nat.lt_irrefl _)
    · rcases (hfp b hb).1.2.2.2.1 with z | z
      · exact I.ok.noex b o e z
      · exact absurd (Nat.lt_of_lt_of_le (Heap.lt_size e) (Nat.le_trans I.ok.bsz z)) (Nat.lt_irrefl _)
    · rcases List.mem_cons.mp (I.stkSub b z) with z | z
      · exact (hfp b hb).1.2.1 z
      · exact (hfp b hb).1.2.2.1 z
  refine ⟨okB, rfl, I.bare, Un.kept kp, ⟨fun _ => none, ?_, fun i y av e1 e2 e3 => ?_⟩, fun y c e => ?_, ?_, fun y c e => ?_, fun p hp => ?_, I.hok.kept kp, by rw [wipe_length]; exact I.len⟩
  · show Heap.Ns _ cenv.locals _
    rw [hL]
    exact Heap.Ns.keeps (Heap.Ns.new ..) fun b o e => pushCells_keeps _ _ _ _ e
  · obtain ⟨e2, hne⟩ := wipe_some e2
    have hfr : scope.names.lookup y = some .free ∧ (cenv.kindOf y = some .cell ∨ cenv.kindOf y = some .free) := by
      have key : ∀ k, cenv.scope.names.lookup y = some k → k = .local ∨ k = .cell ∨ k = .free → scope.names.lookup y = some .free ∧ (cenv.kindOf y = some .cell ∨ cenv.kindOf y = some .free) := fun k hk hk' => by
        have hk0 := hk
        rw [hsc] at hk
        obtain ⟨k', e, r⟩ := lookup_relS hk
        have no : ¬ (k' = .local ∨ k' = .cell) := fun hh => by
          rcases ok.own _ (PySem.mem_of_lookup e) hh with e' | e'
          · obtain ⟨p, hp, hpy⟩ := List.mem_map.mp e'
            have e3 := ok.ix p hp
            have : p.1 = y := hpy
            rw [this] at e3
            exact hne (List.mem_map.mpr ⟨p, hp, nodup_ix hN e3 e1⟩)
          · exact e' (List.mem_of_getElem? e1)
        rcases r with rfl | ⟨rfl, rfl⟩
        · rcases hk' with rfl | rfl | rfl
          · exact absurd (.inl rfl) no
          · exact absurd (.inr rfl) no
          · exact ⟨e, .inr hk0⟩
        · exact ⟨e, .inl hk0⟩
      have e3 : Vis cenv.scope y := e3
      rcases e3 with e3 | e3 | e3
      · exact key _ e3 (.inl rfl)
      · exact key _ e3 (.inr (.inl rfl))
      · exact key _ e3 (.inr (.inr rfl))
    obtain ⟨m, hn, hl⟩ := I.loc
    have hvis : Vis X.env.scope y := (ok.free _ (PySem.mem_of_lookup hfr.1) rfl).elim (fun k => .inr (.inl k)) (fun k => .inr (.inr k))
    obtain ⟨w, r, q⟩ := hl i y av e1 e2 hvis
    refine ⟨w, r, .inr ⟨hfr.2, ?_⟩⟩
    obtain ⟨c, h1, h2⟩ := look hfr.1
    rcases q with ⟨k, _⟩ | ⟨_, c', e', z⟩
    · have k : X.env.scope.names.lookup y = some .local := k
      rcases ok.free _ (PySem.mem_of_lookup hfr.1) rfl with k' | k' <;> rw [show X.env.scope.names.lookup y = _ from k'] at k <;> cases k
    · rw [h2] at e'; cases e'
      exact ⟨c, h1, z.keeps kp⟩
  · have e : cenv.cells.lookup y = some c := e
    rcases mem e with ⟨h1, _⟩ | ⟨_, z⟩
    · obtain ⟨w, z⟩ := I.cell y c h1
      exact ⟨w, z.keeps kp⟩
    · exact ⟨_, z⟩
  · show H cenv.locals = none
    rw [hL]; exact I.hok.fresh (Nat.le_refl _)
  · have e : cenv.cells.lookup y = some c := e
    rcases mem e with ⟨h1, _⟩ | ⟨h1, _⟩
    · exact I.freeC y c h1
    · exact I.hok.fresh (Nat.le_of_succ_le h1)
  · exact absurd (show p ∈ ([] : List (Addr × Obj)) ++ [] from hp) (by simp)
theorem app_ok {E : Value → Shared → Prop} {D : Addr} {xs : List V} {y : V} {v : Value} {Q : Value → Shared → Prop} (I : Inv X pins σ H s) (hD : H D = some (.lst xs)) (hz : xs.length < sizeLine) (r : RelV y v)
    (h : ∀ s', Inv X pins σ (upd H D (.lst (xs ++ [y]))) s' → Q .none s') : wpAny (model X.prog X.w) X.A (call (.builtin "list.append") [.ref D, v]) Q E s := by
  obtain ⟨hz', its, n, ri, e⟩ := I.hok D _ hD
  have hl := ri.length
  refine append_at (hsz := by rw [List.size_toArray]; omega) e fun h' sb ho' => ?_
  refine h { s with heap := h' } (I.write (t' := s.toks) (by rw [hD]; trivial) (.inl rfl) (fun b u hb q => (sb.2 b hb).trans q) ⟨_, ho'⟩ ⟨by rw [List.length_append]; exact hz, its ++ [v], n + 1, ri.append (.cons r .nil), ?_⟩)
  rw [ho']
  simp
def PTs (X : Cx) (ifs : List Expr) (t : TT) : Prop :=
  ∀ (pins : List (Addr × Obj)) (s : Shared) (σ : St) (H : Hp) (Q : Bool → Hp → Prop), Inv X pins σ H s → t σ H Q →
    wpAny (model X.prog X.w) X.A (forIn ifs true fun c r => if r = true then do let ok ← isTrue c X.env (eval c X.env); pure (ForInStep.yield ok) else pure (ForInStep.yield r)) (TP X pins σ Q) X.xe s
def tYes : TT := fun _ H Q => Q true H
theorem pts_nil : PTs X [] tYes := fun _ _ _ H _ I h => wpAny_tests_nil ⟨H, I, h⟩
theorem pts_one {c : Expr} {t : TT} (h : PT X c t) : PTs X [c] t := fun pins s σ H Q I hw => wpAny_tests_one (h pins s σ H Q I hw)
end
theorem thnF {α : Type} {t : Sem α} {Q Q' : α → Shared → Prop} {M : Model} {A : Around} {E : Value → Shared → Prop} {s : Shared} (h : wpAny M A t Q (fun _ _ => False) s) (hQ : ∀ a s, Q a s → Q' a s) : wpAny M A t Q' E s := wpAny_mono h hQ fun _ _ z => False.elim z
theorem compLoop_any {prog : Program} {w : World} {A : Around} {R : Result → Shared → Prop} {s : Shared} {elt target iter : Expr} {ifs : List Expr} {scope : Scope} {pos : Pos} {it acc : Value} {env : Env} (I : Nat → Shared → Prop)
    (turn : ∀ n s, I n s → wpAny (model prog w) A (pyNext it) (fun r s₁ => match r with
      | none => R (.ok .next) s₁
      | some v => wpAny (model prog w) A (letOwnedTupleGo target it v) (fun _ s₁' => wpAny (model prog w) A (assign target env v) (fun _ s₂ =>
          wpAny (model prog w) A (forIn ifs true fun c r => if r = true then do let ok ← isTrue c env (eval c env); pure (ForInStep.yield ok) else pure (ForInStep.yield r)) (fun ok s₃ =>
            if ok = true then wpAny (model prog w) A (eval elt env) (fun x s₄ =>
              wpAny (model prog w) A (call (.builtin "list.append") [acc, x]) (fun _ s₅ => ∃ m, m < n ∧ I m s₅) (notedBy (model prog w) A env fun e s' => R (.error e) s') s₄) (notedBy (model prog w) A env fun e s' => R (.error e) s') s₃
            else ∃ m, m < n ∧ I m s₃) (notedBy (model prog w) A env fun e s' => R (.error e) s') s₂) (notedBy (model prog w) A env fun e s' => R (.error e) s') s₁') (notedBy (model prog w) A env fun e s' => R (.error e) s') s₁) (notedBy (model prog w) A env fun e s' => R (.error e) s') s)
    (n : Nat) (h : I n s) :
    codeAny (model prog w) A (.compLoop (.ListComp elt [⟨target, iter, ifs, 0⟩] scope pos) 0 it acc env) R s := by
  refine codeAny_loop rfl I (fun n s hI => ?_) n h
  show wpAny _ A ((compTurn (.ListComp elt [⟨target, iter, ifs, 0⟩] scope pos) 0 it acc env).onRaise (fun x => do noteFrame x env; theTreesLotGoes x)) _ _ s
  refine wpAny_noted ?_
  rw [compTurn_list]
  refine wpAny_bind (wpAny_standAt (wpAny_bind (wpAny_mono (turn n s hI) (fun r s₁ h₁ => ?_) fun _ _ h' => h')))
  cases r with
  | none => exact wpAny_pure h₁
  | some v =>
    refine wpAny_bind (wpAny_mono h₁ (fun _ s₁' h₁' => ?_) fun _ _ h' => h')
    refine wpAny_bind (wpAny_mono h₁' (fun _ s₂ h₂ => wpAny_bind (wpAny_mono h₂ (fun ok s₃ h₃ => ?_) fun _ _ h' => h')) fun _ _ h' => h')
    cases ok with
    | false => exact wpAny_pure ⟨rfl, h₃⟩
    | true =>
      exact wpAny_bind (wpAny_bind (wpAny_mono h₃ (fun x s₄ h₄ => wpAny_bind (wpAny_mono h₄ (fun _ s₅ h₅ => wpAny_pure (wpAny_pure ⟨rfl, h₅⟩)) fun _ _ h' => h')) fun _ _ h' => h'))
section
variable {X : Cx}
def tLc (wi : TI) (g : TG) (tt : TT) (te : TE) (vs : List Nat) : TE := fun σ H Q => wi σ H fun J H1 => ∀ D, H1 D = none → ∃ W : Nat → Nat → Hp → Prop, (∃ m, W 0 m (upd H1 D (.lst []))) ∧ ∀ i m H, W i m H →
  (J.stop i H ∧ Q (.ref D) H) ∨ (J.go i H ∧ ∃ Nx : Hp → Prop, (∀ H', Nx H' → ∃ m', m' < m ∧ W (i + 1) m' H') ∧ ∀ x H', J.yld i H x H' → g x (wipe σ vs) H' fun σ2 H2 => wipe σ2 vs = wipe σ vs ∧ tt σ2 H2 fun b H3 =>
    if b = true then te σ2 H3 fun y H4 => ∃ acc, H4 D = some (.lst acc) ∧ acc.length < sizeLine ∧ Nx (upd H4 D (.lst (acc ++ [y]))) else Nx H3)
theorem lc_core {pins : List (Addr × Obj)} {s : Shared} {σ : St} {H : Hp} {Q : VK} {elt tg iter : Expr} {ifs : List Expr} {scope : Scope} {own : List (Str × Nat)} {pos pos' : Pos} {wi : TI} {g : TG} {tt : TT} {te : TE} {use : Option (Value → Sem Unit)} {Qf : Value → Shared → Prop}
    (hc : X.calm = true) (hN : X.N.Nodup) (I : Inv X pins σ H s) (hi : PI X tg iter wi) (ok : BlkOk X.N X.env.scope scope own)
    (hg : ∀ (s : Shared) (H : Hp) (C : Addr) (cl : List (Str × Addr)) (fp : List Addr), PG (X.blk s H scope (compEnvC scope cl C X.env) fp) tg g) (ht : ∀ (s : Shared) (H : Hp) (C : Addr) (cl : List (Str × Addr)) (fp : List Addr), PTs (X.blk s H scope (compEnvC scope cl C X.env) fp) ifs tt)
    (he : ∀ (s : Shared) (H : Hp) (C : Addr) (cl : List (Str × Addr)) (fp : List Addr), PE (X.blk s H scope (compEnvC scope cl C X.env) fp) elt te) (hs : ∀ x, foldedSetIterable iter X.env x = pure x)
    (h : tLc wi g tt te (own.map (·.2)) σ H Q)
    (hRR : ∀ D C s' m H', Inv X pins σ H' s' → Q (.ref D) H' → s'.heap.Ns C m → FpOk X pins H' C → compPost (model X.prog X.w) X.A X.xe use Qf (.ref D) C (.ok .next) s') :
    wpAny (model X.prog X.w) X.A (comprehension (.ListComp elt [⟨tg, iter, ifs, 0⟩] scope pos) scope X.env pos' (newList []) false (eval iter X.env) use) Qf X.xe s := by
  have hfree : ∀ y ∈ scope.names, y.2 = .free → ∃ c, X.env.cells.lookup y.1 = some c := fun y hy e => by
    rcases ok.free y hy e with k | k
    · exact I.ok.has _ (.inl k)
    · exact I.ok.has _ (.inr k)
  refine wpAny_comprehension_free (use := use) rfl hs (closure_ok hfree) ok.kind (fun y hy e => by rw [ok.uniq y hy, e])
    (thn (hi pins s σ H _ I h) fun xv s1 hx => thn hx fun itv s2 h2 => ?_)
  obtain ⟨it, fp, tn, J, H2, e, I2, T, st2, f2, q⟩ := h2
  subst e
  refine wpAny_newObj_type (newEnv_comp ?_) (by show 0 ≤ sizeLine; decide)
  generalize hD : s2.heap.objs.size = D
  have hDn : H2 D = none := I2.hok.fresh (Nat.le_of_eq hD)
  obtain ⟨W, ⟨m0, w0⟩, turn⟩ := q D hDn
  -- the new list
  generalize hs3 : ({ s2 with heap := s2.heap.push { cls := .type "list", data := .seq ([] : List Value).toArray } } : Shared) = s3
  have I3 : Inv X pins σ (upd H2 D (.lst [])) s3 := by
    rw [← hs3]
    refine I2.laid (t' := s2.toks) (fun b o e => Heap.get?_push_of_some _ e) (Nat.le_of_eq hD) ⟨Nat.zero_le _, [], 0, .nil, ?_⟩
    rw [← hD]
    exact Heap.get?_push_size _ rfl
  have h3 : s3.heap = s2.heap.push { cls := .type "list", data := .seq ([] : List Value).toArray } := by rw [← hs3]
  have sz : ∀ b ∈ fp, b < s2.heap.objs.size := fun b hb => by
    obtain ⟨o, e, _⟩ := T.obj _ _ st2 b hb
    exact Heap.lt_size e
  have f3 : ∀ b ∈ fp, FpOk X pins (upd H2 D (.lst [])) b ∧ b < s3.heap.objs.size := fun b hb => by
    have hlt := sz b hb
    refine ⟨⟨?_, (f2 b hb).2⟩, by rw [h3, Heap.size_push]; exact Nat.lt_succ_of_lt hlt⟩
    rw [upd_ne (by rw [← hD]; exact Nat.ne_of_lt hlt)]
    exact (f2 b hb).1
  have st3 : tn 0 s3.heap := T.keep _ _ _ st2 fun b _ o e => by rw [h3]; exact Heap.get?_push_of_some _ e
  have I4 := block_start I3 ok hN f3
  have pg := hg s3 (upd H2 D (.lst [])) s3.heap.objs.size (cellsFrom (s3.heap.objs.size + 1) scope.names (cloFrom X.env.cells scope.names [])) fp
  have pt := ht s3 (upd H2 D (.lst [])) s3.heap.objs.size (cellsFrom (s3.heap.objs.size + 1) scope.names (cloFrom X.env.cells scope.names [])) fp
  have pe := he s3 (upd H2 D (.lst [])) s3.heap.objs.size (cellsFrom (s3.heap.objs.size + 1) scope.names (cloFrom X.env.cells scope.names [])) fp
  show codeAny _ _ (.compStart (.ListComp elt [⟨tg, iter, ifs, 0⟩] scope pos) 0 (.ref it) (.ref D) (compEnvC scope (cellsFrom (s3.heap.objs.size + 1) scope.names (cloFrom X.env.cells scope.names [])) s3.heap.objs.size X.env)) (compPost (model X.prog X.w) X.A X.xe use Qf (.ref D) s3.heap.objs.size) { s3 with heap := pushCells (s3.heap.push { cls := .type "dict", data := .dict #[] }) scope.names }
  have nfp : ∀ b ∈ fp, (upd H2 D (.lst [])) b = none := fun b hb => (f3 b hb).1.1
  generalize hce : compEnvC scope (cellsFrom (s3.heap.objs.size + 1) scope.names (cloFrom X.env.cells scope.names [])) s3.heap.objs.size X.env = ce at I4 pg pt pe ⊢
  have cL : ce.locals = s3.heap.objs.size := by subst hce; rfl
  generalize hH3 : upd H2 D (.lst []) = H3 at I3 I4 pg pt pe w0 nfp f3
  generalize hs4 : ({ s3 with heap := pushCells (s3.heap.push { cls := .type "dict", data := .dict #[] }) scope.names } : Shared) = s4 at I4 ⊢
  have st4 : tn 0 s4.heap := T.keep _ _ _ st3 fun b _ o e => by rw [← hs4]; exact pushCells_keeps _ _ _ _ (Heap.get?_push_of_some _ e)
  have stat : ∀ {σ' : St} {H' : Hp} {s' : Shared}, Inv (X.blk s3 H3 scope ce fp) [] σ' H' s' → (∀ b ∈ fp, H' b = none) → ∀ b ∈ fp, FpOk (X.blk s3 H3 scope ce fp) [] H' b := fun {σ' H' s'} I' hn b hb =>
    ⟨hn b hb, (I'.ok.exf b hb).1, I'.ok.exfs b hb, .inl hb, fun x c e => (I'.ok.exf b hb).2 x c e, fun p hp => absurd (show p ∈ ([] : List (Addr × Obj)) ++ [] from hp) (by simp)⟩
  have loop : codeAny (model X.prog X.w) X.A (.compLoop (.ListComp elt [⟨tg, iter, ifs, 0⟩] scope pos) 0 (.ref it) (.ref D) ce) (compPost (model X.prog X.w) X.A X.xe use Qf (.ref D) s3.heap.objs.size) s4 := by
    refine compLoop_any (fun n s' => ∃ i H', Inv (X.blk s3 H3 scope ce fp) [] (wipe σ (own.map (·.2))) H' s' ∧ tn i s'.heap ∧ (∀ b ∈ fp, H' b = none) ∧ W i n H') ?_ m0 ⟨0, H3, I4, st4, nfp, w0⟩
    rintro n s5 ⟨i, H5, I5, st5, n5, w5⟩
    rcases turn i n H5 w5 with ⟨stop, qq⟩ | ⟨go, Nx, hNx, step⟩
    · have td := T.done (X.blk s3 H3 scope ce fp) rfl rfl rfl hc i [] s5 _ H5 (fun _ _ => False) I5 (stat I5 n5) st5 stop
      refine thnF td fun r s6 ⟨hr, I6⟩ => ?_
      subst hr
      -- back in the def's context
      have I7 : Inv X pins σ H5 s6 := I3.call' (ch := fp) I6.os I6.base I6.hok I6.bare fun b hb => ⟨(f3 b hb).1.2.2.2.1, (f3 b hb).1.2.1, (f3 b hb).1.2.2.2.2.1, (f3 b hb).1.2.2.2.2.2⟩
      have nC : H5 s3.heap.objs.size = none := by
        have z : H5 ce.locals = none := I6.free
        rw [cL] at z
        exact z
      obtain ⟨m, hn, _⟩ := I6.loc
      have hn : s6.heap.Ns ce.locals m := hn
      rw [cL] at hn
      exact hRR D s3.heap.objs.size s6 m H5 I7 qq hn (I3.fpOk (Nat.le_refl _) nC)
    · have ti := T.item (X.blk s3 H3 scope ce fp) rfl rfl rfl hc i [] s5 _ H5 (fun _ _ => False) I5 (stat I5 n5) st5 go
      refine thnF ti fun r s6 ⟨u, hr, h6⟩ => ?_
      subst hr
      refine thnF h6 fun _ s7 ⟨x, H7, I7, r7, y7, st7, n7⟩ => ?_
      have I7' := I7.pinned (stat I7 n7) (T.obj _ _ st7)
      refine thnF (pg _ s7 _ H7 x u _ I7' r7 (step x H7 y7)) fun _ s8 ⟨σ8, H8, I8, hw8, q8⟩ => ?_
      refine thnF (pt _ s8 σ8 H8 _ I8 q8) fun b s9 ⟨H9, I9, q9⟩ => ?_
      -- the turn's end
      have fin : ∀ {s' : Shared} {H' : Hp}, Inv (X.blk s3 H3 scope ce fp) ([] ++ pinsAt fp s7.heap) σ8 H' s' → Nx H' → ∃ m, m < n ∧ ∃ i H', Inv (X.blk s3 H3 scope ce fp) [] (wipe σ (own.map (·.2))) H' s' ∧ tn i s'.heap ∧ (∀ b ∈ fp, H' b = none) ∧ W i m H' := fun {s' H'} I' nx => by
        obtain ⟨m', hm, w'⟩ := hNx H' nx
        have pin' : ∀ b ∈ fp, ∀ o, s7.heap.get? b = some o → s'.heap.get? b = some o ∧ H' b = none := fun b hb o e =>
          let z := I'.pin (b, o) (List.mem_append_right _ (List.mem_append_right _ (mem_pinsAt hb e)))
          ⟨z.1, z.2.1⟩
        have hl : (wipe σ (own.map (·.2))).length = σ8.length := by rw [← hw8, wipe_length]
        refine ⟨m', hm, i + 1, H', (I'.unpinned (pins := [])).weak hl (fun j v e => ?_), T.keep _ _ _ st7 fun b hb o e => (pin' b hb o e).1, fun b hb => ?_, w'⟩
        · rw [← hw8] at e
          exact (wipe_some e).1
        · obtain ⟨o, e, _⟩ := T.obj _ _ st7 b hb
          exact (pin' b hb o e).2
      cases b with
      | false =>
        simp only [Bool.false_eq_true, if_false] at q9 ⊢
        exact fin I9 q9
      | true =>
        simp only [if_true] at q9 ⊢
        refine thnF (pe _ s9 σ8 H9 _ I9 q9) fun z s10 ⟨yv, H10, I10, r10, acc, hD10, hz10, nx⟩ => ?_
        exact app_ok (X := X.blk s3 H3 scope ce fp) I10 hD10 hz10 r10 fun s11 I11 => fin I11 nx
  exact codeAny_compStart_list loop (T.self X.A 0 _ _ _ st4 loop)
theorem pe_lc {elt tg iter : Expr} {ifs : List Expr} {scope : Scope} {own : List (Str × Nat)} {pos : Pos} {wi : TI} {g : TG} {tt : TT} {te : TE} (hc : X.calm = true) (hN : X.N.Nodup) (hi : PI X tg iter wi) (ok : BlkOk X.N X.env.scope scope own)
    (hg : ∀ (s : Shared) (H : Hp) (C : Addr) (cl : List (Str × Addr)) (fp : List Addr), PG (X.blk s H scope (compEnvC scope cl C X.env) fp) tg g) (ht : ∀ (s : Shared) (H : Hp) (C : Addr) (cl : List (Str × Addr)) (fp : List Addr), PTs (X.blk s H scope (compEnvC scope cl C X.env) fp) ifs tt)
    (he : ∀ (s : Shared) (H : Hp) (C : Addr) (cl : List (Str × Addr)) (fp : List Addr), PE (X.blk s H scope (compEnvC scope cl C X.env) fp) elt te) (hs : ∀ x, foldedSetIterable iter X.env x = pure x := by intro _; rfl) :
    PE X (.ListComp elt [⟨tg, iter, ifs, 0⟩] scope pos) (tLc wi g tt te (own.map (·.2))) := by
  intro pins s σ H Q I h
  rw [eval_ListComp]
  refine lc_core hc hN I hi ok hg ht he hs h fun D C s' m H' I' q hn f => ⟨m, hn, fun h'' sb => ?_⟩
  obtain ⟨f0, f1, f2, f3, f4, f5⟩ := f
  exact ⟨.ref D, H', I'.turned (t' := s'.toks) (fun b o hb e => (sb.2 b hb).trans e) f0 f1 f3 f4 f5, rfl, q⟩
theorem ps_setLc {i : Nat} {y : Str} {py : Pos} {elt tg iter : Expr} {ifs : List Expr} {scope : Scope} {own : List (Str × Nat)} {pos spos : Pos} {wi : TI} {g : TG} {tt : TT} {te : TE} (hc : X.calm = true) (hN : X.N.Nodup) (hy : X.N[i]? = some y) (hyl : X.env.scope.names.lookup y = some .local)
    (hsw : swapsWith (.ListComp elt [⟨tg, iter, ifs, 0⟩] scope pos) (some (.Name y py)) spos.line X.env = pure true) (hi : PI X tg iter wi) (ok : BlkOk X.N X.env.scope scope own)
    (hg : ∀ (s : Shared) (H : Hp) (C : Addr) (cl : List (Str × Addr)) (fp : List Addr), PG (X.blk s H scope (compEnvC scope cl C X.env) fp) tg g) (ht : ∀ (s : Shared) (H : Hp) (C : Addr) (cl : List (Str × Addr)) (fp : List Addr), PTs (X.blk s H scope (compEnvC scope cl C X.env) fp) ifs tt)
    (he : ∀ (s : Shared) (H : Hp) (C : Addr) (cl : List (Str × Addr)) (fp : List Addr), PE (X.blk s H scope (compEnvC scope cl C X.env) fp) elt te) (hs : ∀ x, foldedSetIterable iter X.env x = pure x := by intro _; rfl) :
    PS X (.Assign [.Name y py] (.ListComp elt [⟨tg, iter, ifs, 0⟩] scope pos) spos) (tAsg (tLc wi g tt te (own.map (·.2))) (gName i)) := by
  intro pins s σ H D I h
  rw [exec_Assign_Name_used _ _ _ _ hsw]
  refine wpAny_bind (wpAny_standAt (wpAny_bind ?_))
  show wpAny _ X.A (do let _ ← comprehension (.ListComp elt [⟨tg, iter, ifs, 0⟩] scope pos) scope X.env (firstIterPos [⟨tg, iter, ifs, 0⟩] pos) (newList []) false (eval iter X.env) (some (assign (.Name y py) X.env))) _ _ s
  have h : tLc wi g tt te (own.map (·.2)) σ H (fun x H1 => gName i x σ H1 D.nx) := h
  refine wpAny_bind (thn (lc_core (Qf := fun _ s' => SP X pins D .next s') hc hN I hi ok hg ht he hs h fun L C s' m H' I' q hn f => ?_) fun _ s' hq => wpAny_pure (wpAny_pure hq))
  show wpAny _ _ (assign (.Name y py) X.env (.ref L)) _ _ _
  refine wpAny_assign_Name (store_ok2 (v := V.ref L) I' hN hy (.inl hyl) rfl (fun s2 I2 ⟨a, sb, ha⟩ => ?_) (.inr hyl))
  obtain ⟨f0, f1, f2, f3, f4, f5⟩ := f
  have haC : C ≠ a := by
    rcases ha with z | z
    · rw [z]; exact f1
    · exact fun e => f4 y a z e.symm
  refine ⟨m, hn.sameBut sb haC, fun h3 sb3 => ?_⟩
  exact ⟨_, H', I2.turned (t' := s2.toks) (fun b o hb e => (sb3.2 b hb).trans e) f0 f1 f3 f4 f5, q⟩
end
def blkC (N : List Str) (sc scope : Scope) (own : List (Str × Nat)) : Bool :=
  (match scope.kind with | .function => true | _ => false) && (scope.names.all fun y => decide (scope.names.lookup y.1 = some y.2)) && (own.all fun p => decide (N[p.2]? = some p.1)) &&
    (scope.names.all fun y => match y.2 with
      | .free => (match sc.names.lookup y.1 with | some .cell => true | some .free => true | _ => false)
      | .local => decide (y.1 ∈ own.map (·.1)) || decide (y.1 ∉ N)
      | .cell => decide (y.1 ∈ own.map (·.1)) || decide (y.1 ∉ N)
      | _ => true)
theorem blkOk_by {N : List Str} {sc scope : Scope} {own : List (Str × Nat)} (h : blkC N sc scope own = true) : BlkOk N sc scope own := by
  unfold blkC at h
  simp only [Bool.and_eq_true, List.all_eq_true, decide_eq_true_eq] at h
  obtain ⟨⟨⟨h1, h2⟩, h3⟩, h4⟩ := h
  refine ⟨?_, h2, h3, fun y hy e => ?_, fun y hy e => ?_⟩
  · split at h1
    · assumption
    · cases h1
  · have q := h4 y hy
    simp only [e] at q
    split at q <;> first | exact .inl (by assumption) | exact .inr (by assumption) | cases q
  · have q := h4 y hy
    rcases e with e | e <;> (simp only [e, Bool.or_eq_true, decide_eq_true_eq] at q; exact q)
end L2
namespace L2
open PySem PySem.Spec PyProof.Rows
section
variable {prog : Program} {w : World} {A : Around} {R : Result → Shared → Prop} {s : Shared} {elt t0 i0 t1 i1 : Expr} {ifs0 ifs1 : List Expr} {scope : Scope} {pos : Pos} {it acc : Value} {env : Env}
end
section
variable {X : Cx}
end
end L2
namespace L2
open PySem PySem.Spec PyProof.Rows
section
variable {κ : Type} [DecidableEq κ]
end
section
variable {P : Program} {w : World} {H : Hp} {h : Heap} {a : Addr}
end
section
variable {X : Cx} {pins : List (Addr × Obj)} {σ : St} {H : Hp} {s : Shared} {a : Addr} {y v : V} {u r : Value} {o : Option V} {A : Around} {E : Value → Shared → Prop}
end
section
variable {X : Cx} {pins : List (Addr × Obj)} {σ : St} {H : Hp} {s : Shared} {a : Addr} {kvs : List (Key × V)} {k : Key} {u : Value} {A : Around} {E : Value → Shared → Prop}
end
section
variable {X : Cx} {o i e value : Expr} {pos pos' tpos : Pos} {td ty tv : TE}
end
section
variable {X : Cx} {pos : Pos}
end
section
variable {X : Cx} {pins : List (Addr × Obj)} {σ : St} {H : Hp} {s : Shared} {a : Addr} {y d : V} {u r : Value} {o : Option V} {A : Around} {E : Value → Shared → Prop}
end
section
variable {X : Cx} {o e f : Expr} {apos cpos : Pos} {td ty tx : TE}
end
section
variable {X : Cx} {pins : List (Addr × Obj)} {σ : St} {H : Hp} {s : Shared} {a : Addr} {kvs : List (Key × V)} {A : Around} {E : Value → Shared → Prop}
end
section
variable {X : Cx} {pins : List (Addr × Obj)} {σ : St} {H : Hp} {s : Shared} {a : Addr} {y : V} {u : Value} {A : Around} {E : Value → Shared → Prop}
end
end L2
namespace L2
open PySem PySem.Spec PyProof.Rows
section
variable {prog : Program} {w : World} {A : Around} {E : Value → Shared → Prop}
end
section
variable {X : Cx}
end
end L2
namespace L2
open PySem PySem.Spec PyProof.Rows
theorem boot_reversed5 : bootBuiltins "reversed" = some (.type "reversed") := by decide +kernel
section
variable {X : Cx} {pins : List (Addr × Obj)} {σ : St} {H : Hp} {s : Shared} {h' : Heap}
theorem Inv.turnedL {t' : Nat} {ch : List Addr} (I : Inv X pins σ H s) (k : ∀ b o, b ∉ ch → s.heap.get? b = some o → h'.get? b = some o) (hf : ∀ b ∈ ch, FpOk X pins H b) : Inv X pins σ H { s with heap := h', toks := t' } := by
  have nit : ∀ b u, H b = some u → b ∉ ch := fun b u e z => by
    have q := (hf b z).1
    rw [q] at e; cases e
  refine I.step (g' := s.gens) (d' := s.drawn) (ch := ch) (fun b hb => ⟨(hf b hb).2.2.2.1, (hf b hb).2.1, (hf b hb).2.2.2.2.1, (hf b hb).2.2.2.2.2⟩) (fun b o _ _ hc e _ => k b o hc e) (fun b o _ _ hc e _ => ⟨o.slots, k b o hc e⟩)
    (fun _ _ _ _ n => n) (fun b o hc e => ⟨o, k b o hc e⟩) (fun _ _ e => e) (fun _ _ _ e => e) (fun b ps e => ⟨#[], by rw [e]; simp⟩) (fun m hm => ?_) (fun b u e => ?_) I.bare
  · obtain ⟨o, es, ep, ho, r⟩ := hm
    exact ⟨o, es, ep, k _ o (fun z => (hf _ z).2.1 rfl) ho, r⟩
  · refine (I.hok b u e).stay (fun c v hc q => k c v ?_ q) (fun _ q => q) fun _ _ q => q
    rcases hc with z | z
    · rw [z]; exact nit b u e
    · exact nit c _ z
theorem Inv.turnedNew {t' : Nat} {ch : List Addr} {T : Addr} {ob : HO} (I : Inv X pins σ H s) (k : ∀ b o, b ∉ ch → s.heap.get? b = some o → h'.get? b = some o) (hf : ∀ b ∈ ch, FpOk X pins H b) (hT : s.heap.objs.size ≤ T)
    (new : ObjOk X.prog X.w (upd H T ob) h' T ob) : Inv X pins σ (upd H T ob) { s with heap := h', toks := t' } := by
  have hn : H T = none := I.hok.fresh hT
  have nit : ∀ b u, H b = some u → b ∉ ch := fun b u e z => by
    have q := (hf b z).1
    rw [q] at e; cases e
  refine I.step (g' := s.gens) (d' := s.drawn) (ch := ch) (fun b hb => ⟨(hf b hb).2.2.2.1, (hf b hb).2.1, (hf b hb).2.2.2.2.1, (hf b hb).2.2.2.2.2⟩) (fun b o _ _ hc e _ => k b o hc e) (fun b o _ _ hc e _ => ⟨o.slots, k b o hc e⟩)
    (fun b o _ e n => ?_) (fun b o hc e => ⟨o, k b o hc e⟩) (fun b xs e => ?_) (fun b o u e => ?_) (fun b ps e => ⟨#[], ?_⟩) (fun m hm => ?_) (fun b u e => ?_) I.bare
  · rw [upd_ne (Nat.ne_of_lt (Nat.lt_of_lt_of_le (Heap.lt_size e) hT))]; exact n
  · rw [upd_ne (ne_of_none e hn)]; exact e
  · rw [upd_ne (ne_of_none e hn)]; exact e
  · rw [upd_ne (ne_of_none e hn), e]; simp
  · obtain ⟨o, es, ep, ho, r⟩ := hm
    exact ⟨o, es, ep, k _ o (fun z => (hf _ z).2.1 rfl) ho, r⟩
  · by_cases hb : b = T
    · subst hb
      rw [upd_same] at e
      cases e
      exact new
    · rw [upd_ne hb] at e
      refine (I.hok b u e).stay (fun c v hc q => k c v ?_ q) (fun c q => by rw [upd_ne (ne_of_none q hn)]; exact q) fun c xs q => by rw [upd_ne (ne_of_none q hn)]; exact q
      rcases hc with z | z
      · rw [z]; exact nit b u e
      · exact nit c _ z
end
section
variable {X : Cx}
theorem pi_one {tg : Expr} {pins : List (Addr × Obj)} {σ : St} {H : Hp} {s : Shared} {R : It → Hp → Prop} {J : It} {tn : Nat → Heap → Prop} {tk : Nat} (I : Inv X pins σ H s) (o : Obj)
    (T : Turn X.prog X.w X.K tg J [s.heap.objs.size] s.heap.objs.size tn) (st : tn 0 (s.heap.push o)) (q : R J H) : PIE X pins σ tg R (.ref s.heap.objs.size) { s with heap := s.heap.push o, toks := tk } := by
  refine ⟨s.heap.objs.size, [s.heap.objs.size], tn, J, H, rfl, I.kept fun b ob e => Heap.get?_push_of_some _ e, T, st, fun b hb => ?_, q⟩
  have e : b = s.heap.objs.size := by simpa using hb
  subst e
  exact I.fpOk (Nat.le_refl _) (I.hok.fresh (Nat.le_refl _))
end
def Itc (lo c : Int) (n : Nat) : It := ⟨fun i _ => i < n, fun i H x H' => H' = H ∧ x = .int (lo + (i : Nat) * c), fun i _ => n ≤ i⟩
theorem turn_rangeC {P : Program} {w : World} {K : PySem.W.Frag} {tg : Expr} (it : Addr) (lo c : Int) (n : Nat) : Turn P w K tg (Itc lo c n) [it] it (fun i h => IsRangeIter h it (lo + (i : Nat) * c) ((n : Int) - (i : Nat)) c) where
  mem := by simp
  obj := fun i h st b hb => by
    have e : b = it := by simpa using hb
    subst e
    exact ⟨_, st, fun v z => nomatch z⟩
  keep := fun i h h' st k => k it (by simp) _ st
  item := by
    intro X hP hw hK hc i pins s σ H E I hf st hg
    subst hP hw hK
    obtain ⟨f0, f1, f2, f3, f4, f5⟩ := hf it (by simp)
    have W := Walks.range (prog := X.prog) (w := X.w) (I.ok.hd hc) it lo c n
    refine W.item i s _ _ hg st fun v h' tk hv st' kk => ?_
    obtain ⟨t, rfl⟩ := hv
    have I1 : Inv X pins σ H { s with heap := h', toks := tk } := I.turned (fun b o hb e => kk b o (by simpa using hb) e) f0 f1 f3 f4 f5
    exact ⟨_, rfl, go_of (s := { s with heap := h', toks := tk }) (n := "range_iterator") st' rfl rfl (by decide) ⟨.int (lo + (i : Nat) * c), H, I1, ⟨t, rfl⟩, ⟨rfl, rfl⟩, st', fun b hb => (hf b hb).1⟩⟩
  done := by
    intro X hP hw hK hc i pins s σ H E I hf st hg
    subst hP hw hK
    obtain ⟨f0, f1, f2, f3, f4, f5⟩ := hf it (by simp)
    exact wpAny_pyNext_range_end (I.ok.hd hc) st (by have : n ≤ i := hg; omega) fun h' eb => ⟨rfl, I.turned (t' := s.toks) (fun b o hb e => eb b o hb e) f0 f1 f3 f4 f5⟩
  self := fun A i s Q E st h => wpAny_pyIter_rangeiter st h
def RgC (i j c : Int) (n : Nat) : Prop := c ≠ 0 ∧ c.natAbs < 1073741824 ∧ Builtin.Range.small i j c = true ∧ Builtin.Range.rangeSize i j c = n
def iRng3 (ta : TA) : TI := fun σ H R => ta σ H fun vs H1 => ∃ (i j c : Int) (n : Nat), vs = [.int i, .int j, .int c] ∧ RgC i j c n ∧ R (Itc i c n) H1
section
variable {X : Cx} {tg : Expr}
theorem pi_range3 {a b c : Expr} {ta : TA} {p pos : Pos} (hg : Gl X "range") (hm : X.mg "range" = none) (ha : PA X [a, b, c] ta)
    (hs : starEach [a, b, c] X.env = (false, eval a X.env) :: starEach [b, c] X.env := by rfl) (hpl : (backTo pos (starEach [b, c] X.env)).any (·.1) = false := by rfl) :
    PI X tg (.Call (.Name "range" p) [a, b, c] [] pos) (iRng3 ta) := by
  intro pins s σ H R I h
  refine Call_ (ld_blt I hg hm boot_range (PyProof.Rows.callWith_type1 (thn (ha pos pins s σ H _ I h) fun us s1 ⟨vs, H1, I1, r1, q1⟩ => ?_) hs hpl))
  obtain ⟨i, j, k, n, e, ⟨c0, c1, c2, c3⟩, q⟩ := q1
  subst e
  cases r1 with
  | cons r rr =>
    cases rr with
    | cons r' rr =>
      cases rr with
      | cons r'' rr =>
        cases rr
        obtain ⟨t, rfl⟩ := r
        obtain ⟨t', rfl⟩ := r'
        obtain ⟨t'', rfl⟩ := r''
        refine call_range_3 c0 ?_ (.inl (PyProof.noPylong_small c1))
        refine wpAny_pyIter_range (IsRange.new ..) c2 ?_
        have I2 : Inv X pins σ H1 { s1 with heap := s1.heap.push { cls := .type "range", data := .fields #[.int i t, .int j t', .int k t''] } } := I1.kept (t' := s1.toks) fun b o e => Heap.get?_push_of_some _ e
        refine pi_one (tk := s1.toks) I2 _ (turn_rangeC _ i k n) ?_ q
        have e1 : i + ((0 : Nat) : Int) * k = i := by simp
        have e2 : (n : Int) - ((0 : Nat) : Int) = Builtin.Range.rangeSize i j k := by rw [c3]; simp
        show IsRangeIter _ _ (i + ((0 : Nat) : Int) * k) ((n : Int) - ((0 : Nat) : Int)) k
        rw [e1, e2]
        exact Heap.get?_push_size _ rfl
end
theorem for_rangeC {lo c : Int} {n : Nat} {g : TG} {tb : TS} {D : Ends} {σ : St} {H : Hp} (Pv : Nat → St → Hp → Prop) (h0 : Pv 0 σ H)
    (hs : ∀ i σ H, i < n → Pv i σ H → g (.int (lo + (i : Nat) * c)) σ H fun σ2 H2 => tb { D with nx := Pv (i + 1), ct := Pv (i + 1), bk := D.nx } σ2 H2) (hd : ∀ σ H, Pv n σ H → D.nx σ H) :
    ∃ W : Nat → Nat → St → Hp → Prop, (∃ m, W 0 m σ H) ∧ ∀ i m σ H, W i m σ H →
      ((Itc lo c n).stop i H ∧ D.nx σ H) ∨ ((Itc lo c n).go i H ∧ ∃ N : St → Hp → Prop, (∀ σ' H', N σ' H' → ∃ m', m' < m ∧ W (i + 1) m' σ' H') ∧ ∀ x H', (Itc lo c n).yld i H x H' → g x σ H' fun σ2 H2 => tb { D with nx := N, ct := N, bk := D.nx } σ2 H2) := by
  refine ⟨fun i m σ H => m = n - i ∧ i ≤ n ∧ Pv i σ H, ⟨n, by simp, Nat.zero_le _, h0⟩, ?_⟩
  rintro i m σ H ⟨rfl, hi, p⟩
  by_cases hlt : i < n
  · refine .inr ⟨hlt, Pv (i + 1), fun σ' H' p' => ⟨n - (i + 1), by omega, rfl, hlt, p'⟩, fun x H' y => ?_⟩
    obtain ⟨e, y⟩ := y
    subst e y
    exact hs i σ _ hlt p
  · have e : i = n := by omega
    subst e
    exact .inl ⟨Nat.le_refl _, hd σ H p⟩
def Itv (K : PySem.W.Frag) (a : Addr) (n : Nat) : It :=
  ⟨fun i H => i < n ∧ ∃ (xs : List V) (x : V), SqL K H a xs ∧ xs[n - 1 - i]? = some x, fun i H x H' => H' = H ∧ ∀ xs, SqL K H a xs → xs[n - 1 - i]? = some x, fun i _ => n ≤ i⟩
theorem turn_rev {P : Program} {w : World} {K : PySem.W.Frag} {tg : Expr} (a it : Addr) (n : Nat) : Turn P w K tg (Itv K a n) [it] it (fun i h => i ≤ n ∧ h.IsRevIter it a ((n : Int) - 1 - (i : Nat))) where
  mem := by simp
  obj := fun i h st b hb => by
    have e : b = it := by simpa using hb
    subst e
    obtain ⟨_, o, e, c, d⟩ := st
    exact ⟨o, e, fun v z => by rw [d] at z; cases z⟩
  keep := fun i h h' st k => ⟨st.1, st.2.at fun o e => k it (by simp) o e⟩
  item := by
    intro X hP hw hK hc i pins s σ H E I hf st hg
    subst hP hw hK
    obtain ⟨hin, xs, x, hq, hx⟩ := hg
    obtain ⟨its, rv, p, hz⟩ := I.list hq
    obtain ⟨u, hu, ru⟩ := rv.get hx
    obtain ⟨f0, f1, f2, f3, f4, f5⟩ := hf it (by simp)
    obtain ⟨_, hit⟩ := st
    have e1 : (n : Int) - 1 - ((i : Nat) : Int) = ((n - 1 - i : Nat) : Int) := by omega
    rw [e1] at hit
    refine wpAny_pyNext_rev_item hit p.isList (x := u) (by simpa using hu) fun h' st' sb => ?_
    have e2 : ((n - 1 - i : Nat) : Int) - 1 = (n : Int) - 1 - ((i + 1 : Nat) : Int) := by omega
    rw [e2] at st'
    have I1 : Inv X pins σ H { s with heap := h' } := I.turned (t' := s.toks) (fun b o hb e => (sb.2 b hb).trans e) f0 f1 f3 f4 f5
    obtain ⟨o, e, c, d⟩ := id st'
    exact ⟨u, rfl, go_of (s := { s with heap := h' }) e c d (by decide) ⟨x, H, I1, ru, ⟨rfl, fun ys hy => by rw [I.list_inj hy hq]; exact hx⟩, ⟨hin, st'⟩, fun b hb => (hf b hb).1⟩⟩
  done := by
    intro X hP hw hK hc i pins s σ H E I hf st hg
    subst hP hw hK
    obtain ⟨f0, f1, f2, f3, f4, f5⟩ := hf it (by simp)
    obtain ⟨hin, hit⟩ := st
    have hge : n ≤ i := hg
    have e1 : (n : Int) - 1 - ((i : Nat) : Int) = -1 := by omega
    rw [e1] at hit
    exact wpAny_pyNext_rev_end (I.ok.hd hc) hit fun h' eb => ⟨rfl, I.turned (t' := s.toks) (fun b o hb e => eb b o hb e) f0 f1 f3 f4 f5⟩
  self := fun A i s Q E st h => wpAny_pyIter_revIter st.2 h
def iRev (K : PySem.W.Frag) (ta : TA) : TI := fun σ H R => ta σ H fun vs H1 => ∃ (a : Addr) (xs : List V), vs = [.ref a] ∧ SqL K H1 a xs ∧ R (Itv K a xs.length) H1
section
variable {X : Cx} {tg : Expr}
theorem pi_reversed {e : Expr} {ta : TA} {p pos : Pos} (hg : Gl X "reversed") (hm : X.mg "reversed" = none) (ha : PA X [e] ta) (hs : starEach [e] X.env = [(false, eval e X.env)] := by rfl) : PI X tg (.Call (.Name "reversed" p) [e] [] pos) (iRev X.K ta) := by
  intro pins s σ H R I h
  refine Call_ (ld_blt I hg hm boot_reversed5 (PyProof.Rows.callWith_type1 (thn (ha pos pins s σ H _ I h) fun us s1 ⟨vs, H1, I1, r1, q1⟩ => ?_) hs rfl))
  obtain ⟨a, xs, e, hq, q⟩ := q1
  subst e
  cases r1 with
  | cons r rr =>
    cases rr
    cases r
    obtain ⟨its, rv, p', hz⟩ := I1.list hq
    have hl := rv.length
    have e1 : ((its.toArray.size : Nat) : Int) - 1 = (xs.length : Int) - 1 - ((0 : Nat) : Int) := by simp only [List.size_toArray]; omega
    refine call_reversed_list p'.isList (wpAny_pyIter_revIter (l := a) (i := ((its.toArray.size : Nat) : Int) - 1) ⟨_, Heap.get?_push_size _ rfl, rfl, rfl⟩ ?_)
    refine pi_one (tk := s1.toks) I1 _ (turn_rev a _ xs.length) ⟨Nat.zero_le _, ?_⟩ q
    rw [← e1]
    exact ⟨_, Heap.get?_push_size _ rfl, rfl, rfl⟩
end
section
variable {prog : Program} {w : World} {A : Around} {E : Value → Shared → Prop} {s : Shared}
end
section
variable {X : Cx} {pins : List (Addr × Obj)} {σ : St} {H : Hp} {s : Shared} {d : Addr} {o : Obj}
end
section
variable {P : Program} {w : World} {K : PySem.W.Frag} {tg : Expr} {d : Addr} {o : Obj} {es : Array DictEntry} {ep : Nat}
end
section
variable {X : Cx} {tg e : Expr} {td : TE} {apos cpos : Pos}
end
theorem boot_zip5 : bootBuiltins "zip" = some (.type "zip") := by decide +kernel
def Itz (K : PySem.W.Frag) (a b : Addr) : It :=
  ⟨fun i H => ∃ (xs ys : List V) (x y : V), SqL K H a xs ∧ SqL K H b ys ∧ xs[i]? = some x ∧ ys[i]? = some y,
    fun i H v H' => ∃ T x y, v = .ref T ∧ H T = none ∧ H' = upd H T (.tup [x, y]) ∧ (∀ xs, SqL K H a xs → xs[i]? = some x) ∧ ∀ ys, SqL K H b ys → ys[i]? = some y,
    fun i H => ∃ xs ys : List V, SqL K H a xs ∧ SqL K H b ys ∧ (xs.length ≤ i ∨ ys.length ≤ i)⟩
theorem turn_zip {P : Program} {w : World} {K : PySem.W.Frag} {elts : List Expr} {kk : Nat} {tpos : Pos} {a b z TI TO i1 i2 : Addr} (D : ZipApart z TI TO i1 i2 a b) :
    Turn P w K (.Tuple elts kk tpos) (Itz K a b) [z, TI, TO, i1, i2] z (fun i h => IsZip h z TI TO .none ∧ IsPair h TI (.ref i1) (.ref i2) ∧ (∃ x y, IsPair h TO x y) ∧ h.IsListIter i1 a i ∧ h.IsListIter i2 b i) where
  mem := by simp
  obj := fun i h st c hc => by
    obtain ⟨hz, hTI, ⟨x, y, hTO⟩, ⟨o1, e1, _, d1⟩, ⟨o2, e2, _, d2⟩⟩ := st
    have e' : c = z ∨ c = TI ∨ c = TO ∨ c = i1 ∨ c = i2 := by simpa using hc
    rcases e' with q | q | q | q | q
    · rw [q]; exact ⟨_, hz, fun v q => nomatch q⟩
    · rw [q]; exact ⟨_, hTI, fun v q => nomatch q⟩
    · rw [q]; exact ⟨_, hTO, fun v q => nomatch q⟩
    · rw [q]; exact ⟨o1, e1, fun v q => by rw [d1] at q; cases q⟩
    · rw [q]; exact ⟨o2, e2, fun v q => by rw [d2] at q; cases q⟩
  keep := fun i h h' st k => by
    obtain ⟨hz, hTI, ⟨x, y, hTO⟩, h1, h2⟩ := st
    exact ⟨k z (by simp) _ hz, k TI (by simp) _ hTI, ⟨x, y, k TO (by simp) _ hTO⟩, h1.at fun o q => k i1 (by simp) o q, h2.at fun o q => k i2 (by simp) o q⟩
  item := by
    intro X hP hw hK hc i pins s σ H E I hf st hg
    subst hP hw hK
    obtain ⟨hz, hTI, ⟨x0, y0, hTO⟩, h1, h2⟩ := st
    obtain ⟨xs, ys, x, y, hqx, hqy, hx, hy⟩ := hg
    obtain ⟨its, rv, p, _⟩ := I.list hqx
    obtain ⟨its2, rv2, p2, _⟩ := I.list hqy
    obtain ⟨u, hu, ru⟩ := rv.get hx
    obtain ⟨u2, hu2, ru2⟩ := rv2.get hy
    have hzl : z < s.heap.objs.size := Heap.lt_size hz
    refine wpAny_pyNext_zip_item D hz hTI hTO h1 h2 p.isList p2.isList (x := u) (y := u2) (by simpa using hu) (by simpa using hu2) fun h' z' TO' h1' h2' hT hsz hk => ?_
    refine ⟨_, rfl, wpAny_letOwnedTupleGo_zip (s := { s with heap := h' }) z' fun h'' z'' sb => ?_⟩
    have hT2 : h''.get? s.heap.objs.size = some { cls := .type "tuple", data := .seq #[u, u2] } := (sb.2 _ (Nat.ne_of_gt hzl)).trans hT
    have new : ObjOk X.prog X.w (upd H s.heap.objs.size (.tup [x, y])) h'' s.heap.objs.size (.tup [x, y]) :=
      ⟨by show 2 ≤ sizeLine; decide, [u, u2], .cons ru (.cons ru2 .nil), ⟨_, hT2, rfl, _, rfl⟩⟩
    have I1 : Inv X pins σ (upd H s.heap.objs.size (.tup [x, y])) { s with heap := h'' } :=
      I.turnedNew (t' := s.toks) (ch := [z, TI, TO, i1, i2]) (fun c o hb q => (sb.2 c (fun q' => hb (by simp [q']))).trans (hk c o (fun q' => hb (by simp [q'])) (fun q' => hb (by simp [q'])) (fun q' => hb (by simp [q'])) (fun q' => hb (by simp [q'])) q)) hf (Nat.le_refl _) new
    refine ⟨.ref s.heap.objs.size, _, I1, rfl, ⟨_, x, y, rfl, I.hok.fresh (Nat.le_refl _), rfl, fun l hl => by rw [I.list_inj hl hqx]; exact hx, fun l hl => by rw [I.list_inj hl hqy]; exact hy⟩, ⟨z'', ?_, ⟨u, u2, ?_⟩, ?_, ?_⟩, fun c hcm => ?_⟩
    · exact (sb.2 _ D.TIz).trans (hk _ _ D.TIz D.TITO D.TIi1 D.TIi2 hTI)
    · exact (sb.2 _ D.TOz).trans TO'
    · exact h1'.at fun o q => (sb.2 _ D.i1z).trans q
    · exact h2'.at fun o q => (sb.2 _ D.i2z).trans q
    · have hlt : c < s.heap.objs.size := by
        have e' : c = z ∨ c = TI ∨ c = TO ∨ c = i1 ∨ c = i2 := by simpa using hcm
        rcases e' with q | q | q | q | q
        · rw [q]; exact hzl
        · rw [q]; exact Heap.lt_size hTI
        · rw [q]; exact Heap.lt_size hTO
        · rw [q]; obtain ⟨_, e1, _⟩ := h1; exact Heap.lt_size e1
        · rw [q]; obtain ⟨_, e2, _⟩ := h2; exact Heap.lt_size e2
      rw [upd_ne (Nat.ne_of_lt hlt)]
      exact (hf c hcm).1
  done := by
    intro X hP hw hK hc i pins s σ H E I hf st hg
    subst hP hw hK
    obtain ⟨hz, hTI, ⟨x0, y0, hTO⟩, h1, h2⟩ := st
    obtain ⟨xs, ys, hqx, hqy, hend⟩ := hg
    obtain ⟨its, rv, p, _⟩ := I.list hqx
    obtain ⟨its2, rv2, p2, _⟩ := I.list hqy
    have l1 := rv.length
    have l2 := rv2.length
    have he : its.toArray[i]? = none ∨ its2.toArray[i]? = none := by
      rcases hend with q | q
      · exact .inl (by simp; omega)
      · exact .inr (by simp; omega)
    exact wpAny_pyNext_zip_end (I.ok.hd hc) D hz hTI hTO h1 h2 p.isList p2.isList he fun h' hk => ⟨rfl, I.turnedL (t' := s.toks) (ch := [z, TI, TO, i1, i2]) (fun c o hb q =>
      hk c o (fun q' => hb (by simp [q'])) (fun q' => hb (by simp [q'])) (fun q' => hb (by simp [q'])) (fun q' => hb (by simp [q'])) q) hf⟩
  self := fun A i s Q E st h => wpAny_pyIter_zip st.1 h
def iZip (K : PySem.W.Frag) (ta : TA) : TI := fun σ H R => ta σ H fun vs H1 => ∃ a b xs ys, vs = [.ref a, .ref b] ∧ SqL K H1 a xs ∧ SqL K H1 b ys ∧ R (Itz K a b) H1
theorem pi_zip {X : Cx} {e e2 : Expr} {ta : TA} {p pos tpos : Pos} {elts : List Expr} {kk : Nat} (hg : Gl X "zip") (hm : X.mg "zip" = none) (ha : PA X [e, e2] ta)
    (hs : starEach [e, e2] X.env = (false, eval e X.env) :: starEach [e2] X.env := by rfl) (hpl : (backTo pos (starEach [e2] X.env)).any (·.1) = false := by rfl) :
    PI X (.Tuple elts kk tpos) (.Call (.Name "zip" p) [e, e2] [] pos) (iZip X.K ta) := by
  intro pins s σ H R I h
  refine Call_ (ld_blt I hg hm boot_zip5 (PyProof.Rows.callWith_type1 (thn (ha pos pins s σ H _ I h) fun us s1 ⟨vs, H1, I1, r1, q1⟩ => ?_) hs hpl))
  obtain ⟨a, b, xs, ys, ex, hqx, hqy, q⟩ := q1
  subst ex
  cases r1 with
  | cons r rr =>
    cases rr with
    | cons r' rr =>
      cases rr
      cases r
      cases r'
      obtain ⟨its, rv, p1, _⟩ := I1.list hqx
      obtain ⟨its2, rv2, p2, _⟩ := I1.list hqy
      have la : a < s1.heap.objs.size := p1.lt
      have lb : b < s1.heap.objs.size := p2.lt
      refine call_zip_2 p1.isList p2.isList fun h' hz hTI hTO h1 h2 hsz hk => wpAny_pyIter_zip hz ?_
      have I2 : Inv X pins σ H1 { s1 with heap := h' } := I1.kept (t' := s1.toks) hk
      refine ⟨s1.heap.objs.size + 4, [s1.heap.objs.size + 4, s1.heap.objs.size + 2, s1.heap.objs.size + 3, s1.heap.objs.size, s1.heap.objs.size + 1], _, _, H1, rfl, I2, turn_zip (PySem.W.ktu_apart s1.heap.objs.size a b la lb), ⟨hz, hTI, ⟨_, _, hTO⟩, h1, h2⟩, fun c hcm => ?_, q⟩
      have e' : c = s1.heap.objs.size + 4 ∨ c = s1.heap.objs.size + 2 ∨ c = s1.heap.objs.size + 3 ∨ c = s1.heap.objs.size ∨ c = s1.heap.objs.size + 1 := by simpa using hcm
      have hle : s1.heap.objs.size ≤ c := by
        rcases e' with z | z | z | z | z
        · rw [z]; exact Nat.le_add_right _ _
        · rw [z]; exact Nat.le_add_right _ _
        · rw [z]; exact Nat.le_add_right _ _
        · rw [z]; exact Nat.le_refl _
        · rw [z]; exact Nat.le_add_right _ _
      exact I1.fpOk hle (I1.hok.fresh hle)
end L2
section 
namespace Bits
open PySem PyProof.Rows
end Bits
end 
section 
namespace TL
open PySem PySem.Builtin PySem.Builtin.Str PySem.StrLaws
end TL
end 
namespace L2
open PySem PySem.Spec PyProof.Rows
section
variable {X : Cx} {pins : List (Addr × Obj)} {σ : St} {H : Hp} {s : Shared} {Q : VK}
end
section
variable {X : Cx}
end
section
variable {X : Cx} {o e : Expr} {to te : TE}
end
end L2
namespace L2
open PySem PySem.Spec PyProof.Rows
section
variable {X : Cx}
end
end L2
namespace Att
open PySem PySem.W PySem.Calls PyProof.Rows
section
variable {prog : Program} {w : World} {A : Around} {E : Value → Shared → Prop} {s : Shared} {K : Frag}
end
end Att
namespace L2
open PySem PySem.Spec PyProof.Rows
end L2
namespace L2
open PySem PySem.Spec PyProof.Rows
end L2
namespace L2
open PySem PySem.Spec PyProof.Rows
def inClass (s : Stmt) (j : Nat) : Stmt := match s with
  | .ClassDef _ _ _ body _ _ _ _ _ _ _ => body.getD j (.Pass ⟨0, 0, 0, 0⟩)
  | _ => .Pass ⟨0, 0, 0, 0⟩
def defArgs (s : Stmt) : Arguments := match s with
  | .FunctionDef _ a _ _ _ _ _ _ _ _ => a
  | _ => { posonlyargs := [], args := [], vararg := none, kwonlyargs := [], kw_defaults := [], kwarg := none, defaults := [] }
def defBody (s : Stmt) : List Stmt := match s with
  | .FunctionDef _ _ b _ _ _ _ _ _ _ => b
  | _ => []
def defScope (s : Stmt) : Scope := match s with
  | .FunctionDef _ _ _ _ _ _ sc _ _ _ => sc
  | _ => { kind := .function, names := [], isGenerator := false, isCoroutine := false }
abbrev CX0 : CXT := fun _ _ _ _ _ _ => False
abbrev E0 : XK := fun _ _ _ => False
structure Fun (K : PySem.W.Frag) (x qual : Str) (st : Stmt) (f : Addr) (fd : FuncData) : Prop where
  ex : ∃ (oc : Value) (od : Option Addr) (kV doc pm : Value) (an : Option Addr) (cdv ct : Value) (osl : Array (Option Value)),
    fd = PySem.W.fnOf x qual (defArgs st) (defBody st) (defScope st) .none kV doc pm an cdv ct ∧ K.lookup f = some ⟨oc, od, .func fd, osl⟩ ∧ PySem.W.codeIn K cdv qual = true
  kp : PySem.W.keepIn K (.ref f) = true
section
variable {P : Program} {w : World} {K : PySem.W.Frag} {mg : Str → Option Value} {base : Heap}
theorem Fun.binds {x qual : Str} {st : Stmt} {f : Addr} {fd : FuncData} {ps : List Str} (F : Fun K x qual st f fd)
    (h : ∀ (kV doc pm : Value) (an : Option Addr) (cdv ct : Value) (us : List Value), us.length = ps.length → bindArgs (PySem.W.fnOf x qual (defArgs st) (defBody st) (defScope st) .none kV doc pm an cdv ct) ⟨us, []⟩ = pure (ps.zip us)) : Binds K fd ps [] := by
  obtain ⟨oc, od, kV, doc, pm, an, cdv, ct, osl, rfl, lk, hcd⟩ := F.ex
  exact .all (h kV doc pm an cdv ct)
theorem fun_mk {x qual : Str} {st : Stmt} {f : Addr} {oc : Value} {od an : Option Addr} {osl : Array (Option Value)} {kV doc pm cdv ct : Value} (l : K.lookup f = some ⟨oc, od, .func (PySem.W.fnOf x qual (defArgs st) (defBody st) (defScope st) .none kV doc pm an cdv ct), osl⟩)
    (c : PySem.W.codeIn K cdv qual = true) (k : PySem.W.keepIn K (.ref f) = true) : Fun K x qual st f (PySem.W.fnOf x qual (defArgs st) (defBody st) (defScope st) .none kV doc pm an cdv ct) := ⟨⟨oc, od, kV, doc, pm, an, cdv, ct, osl, rfl, l, c⟩, k⟩
end
theorem hu_of {A : Around} {k : Nat} (hr : Room k A) : A.units + 1 < cLine := Nat.lt_of_le_of_lt (Nat.add_le_add_left (by decide : 1 ≤ 64) _) hr.units
section
variable {X : Cx}
theorem pv (i : Nat) {x : Str} {pos : Pos} (hN : X.N[i]? = some x := by rfl) (hv : Vis X.env.scope x := by first | exact Or.inl rfl | exact Or.inr (Or.inl rfl) | exact Or.inr (Or.inr rfl)) (hd : (x == ("__debug__" : Str)) = false := by decide)
    (hcd : (x == ("__classdict__" : Str)) = false := by decide) : PE X (.Name x pos) (tVar i) := pe_var hN hv hd hcd
end
theorem iteF {A B : Prop} (h : B) : if false = true then A else B := by
  rw [if_neg Bool.false_ne_true]
  exact h
theorem iteT {A B : Prop} (h : A) : if true = true then A else B := by
  rw [if_pos rfl]
  exact h
theorem ite2 {c A B : Prop} [Decidable c] (h1 : c → A) (h2 : ¬ c → B) : if c then A else B := by
  by_cases h : c
  · rw [if_pos h]
    exact h1 h
  · rw [if_neg h]
    exact h2 h
def Same (H H' : Hp) : Prop := ∀ b o, H b = some o → H' b = some o
theorem Same.refl (H : Hp) : Same H H := fun _ _ h => h
theorem Same.trans {H H1 H2 : Hp} (a : Same H H1) (b : Same H1 H2) : Same H H2 := fun c o h => b c o (a c o h)
theorem Same.free {H H' : Hp} (e : Same H H') {l : Addr} (h : H' l = Option.none) : H l = Option.none := by
  cases q : H l with
  | none => rfl
  | some o =>
    rw [e l o q] at h
    cases h
theorem Same.seq {K : PySem.W.Frag} {H H' : Hp} {a : Addr} {xs : List V} (e : Same H H') (h : SqL K H a xs) : SqL K H' a xs := by
  rcases h with (h | ⟨o, h⟩) | h
  · exact .inl (.inl (e _ _ h))
  · exact .inl (.inr ⟨o, e _ _ h⟩)
  · exact .inr h
section
variable {κ : Type} [DecidableEq κ]
end
theorem at_of {xs : List V} {z : Int} {j : Nat} {v : V} (e : z = (j : Int)) (h : xs[j]? = some v) : atI xs z = some v := by
  rw [e]
  exact atI_nat h
theorem Same.made {H H1 : Hp} {x dx C : Addr} (nx : H x = Option.none) (nd : H dx = Option.none) (k : ∀ b o, (upd (upd H dx (.own x)) x (.ins C dx [])) b = some o → b ≠ x → H1 b = some o) : Same H H1 := fun b o e =>
  k b o (by rw [upd_ne (ne_of_none e nx), upd_ne (ne_of_none e nd)]; exact e) (ne_of_none e nx)
end L2
section
set_option Elab.async false
set_option linter.all false
set_option maxRecDepth 100000
set_option maxHeartbeats 2000000
namespace L2
open PySem PySem.Spec PyProof.Rows
open PySem.W (WData Codec OpenSpec Well WellAll ReadsW ReadsAllW)
mutual
/-- x stands for the datum d, lists and tuples all the way -/
inductive Dw (K : PySem.W.Frag) (H : Hp) : V → WData → Prop
  | non : Dw K H .non .none
  | bl (b : Bool) : Dw K H (.bl b) (.bool b)
  | int (i : Int) : Dw K H (.int i) (.int i)
  | str (x : Str) : Dw K H (.str x) (.str x)
  | byt (b : Array UInt8) : Dw K H (.byt b) (.bytes b.toList)
  | lst {a : Addr} {xs : List V} {ds : List WData} : SqL K H a xs → DwAll K H xs ds → Dw K H (.ref a) (.list ds)
  | tup {a : Addr} {xs : List V} {ds : List WData} : SqT K H a xs → DwAll K H xs ds → Dw K H (.ref a) (.tuple ds)
inductive DwAll (K : PySem.W.Frag) (H : Hp) : List V → List WData → Prop
  | nil : DwAll K H [] []
  | cons {v : V} {vs : List V} {d : WData} {ds : List WData} : Dw K H v d → DwAll K H vs ds → DwAll K H (v :: vs) (d :: ds)
end
theorem dw_ints {K : PySem.W.Frag} {H : Hp} : ∀ ns : List Int, DwAll K H (ns.map V.int) (ns.map WData.int)
  | [] => .nil
  | n :: r => .cons (.int n) (dw_ints r)
theorem ints_dw {K : PySem.W.Frag} {H : Hp} : ∀ (ns : List Int) (xs : List V), DwAll K H xs (ns.map WData.int) → xs = ns.map V.int
  | [], xs, h => by
    cases h
    rfl
  | n :: r, xs, h => by
    cases h with
    | cons h1 h2 =>
      cases h1
      rw [ints_dw r _ h2] <;> rfl
section
variable {P : Program} {w : World} {K : PySem.W.Frag} {H : Hp} {h : Heap} {R : PySem.W.WRecords} {cl : Str → Option Addr}
theorem sqL_at {a : Addr} {xs : List V} (hok : HOk P w H h) (KX : K.In h) (q : SqL K H a xs) : ∃ (its : List Value) (o : Obj) (n : Nat), Vals xs its ∧ h.get? a = some o ∧ o.cls = .type "list" ∧ o.data = .seq its.toArray n := by
  rcases q with q | ⟨o, its, n, e, hc, _, hd, _, hv⟩
  · obtain ⟨_, its, n, hv, e⟩ := (show ObjOk P w H h a (.lst xs) from q.ok hok)
    exact ⟨its, _, n, hv, e, rfl, rfl⟩
  · exact ⟨its.toList, o, n, hv, KX _ _ e, hc, by simp [hd]⟩
theorem sqT_at {a : Addr} {xs : List V} (hok : HOk P w H h) (KX : K.In h) (q : SqT K H a xs) : ∃ (its : List Value) (o : Obj) (n : Nat), Vals xs its ∧ h.get? a = some o ∧ o.cls = .type "tuple" ∧ o.data = .seq its.toArray n := by
  rcases q with q | ⟨o, its, n, e, hc, hd, _, hv⟩
  · obtain ⟨_, its, hv, o, e, hc, n, hd⟩ := (show ObjOk P w H h a (.tup xs) from q.ok hok)
    exact ⟨its, o, n, hv, e, hc, hd⟩
  · exact ⟨its.toList, o, n, hv, KX _ _ e, hc, by simp [hd]⟩
mutual
theorem Dw.reads (hok : HOk P w H h) (KX : K.In h) : ∀ (d : WData) (v : V) (u : Value), Dw K H v d → RelV v u → ∃ as, ReadsW R cl h u d as
  | .none, _, _, x, r => by
    cases x
    cases r
    exact ⟨_, ReadsW.none⟩
  | .bool b, _, _, x, r => by
    cases x
    cases r
    exact ⟨_, ReadsW.bool b⟩
  | .int i, _, _, x, r => by
    cases x
    obtain ⟨t, rfl⟩ := r
    exact ⟨_, ReadsW.int i t⟩
  | .str s, _, _, x, r => by
    cases x
    obtain ⟨t, rfl⟩ := r
    exact ⟨_, ReadsW.str s t⟩
  | .bytes b, _, _, x, r => by
    cases x
    obtain ⟨t, rfl⟩ := r
    exact ⟨_, ReadsW.bytes _ t⟩
  | .list ds, _, _, x, r => by
    cases x with
    | lst hs ha =>
      cases r
      obtain ⟨its, o, n, rv, ho, hc, hd⟩ := sqL_at hok KX hs
      obtain ⟨as, hr⟩ := Dw.readsAll hok KX ds _ its ha rv
      exact ⟨_, ReadsW.list ho hc hd hr⟩
  | .tuple ds, _, _, x, r => by
    cases x with
    | tup hs ha =>
      cases r
      obtain ⟨its, o, n, rv, ho, hc, hd⟩ := sqT_at hok KX hs
      obtain ⟨as, hr⟩ := Dw.readsAll hok KX ds _ its ha rv
      exact ⟨_, ReadsW.tuple ho hc hd hr⟩
  | .float _, _, _, x, _ => by cases x
  | .dict _, _, _, x, _ => by cases x
  | .bytearray _, _, _, x, _ => by cases x
  | .set _, _, _, x, _ => by cases x
  | .frozenset _, _, _, x, _ => by cases x
  | .obj _ _, _, _, x, _ => by cases x
theorem Dw.readsAll (hok : HOk P w H h) (KX : K.In h) : ∀ (ds : List WData) (vs : List V) (us : List Value), DwAll K H vs ds → Vals vs us → ∃ as, ReadsAllW R cl h us ds as
  | [], _, _, x, r => by
    cases x
    cases r
    exact ⟨_, ReadsAllW.nil⟩
  | d :: ds, _, _, x, r => by
    cases x with
    | cons h1 h2 =>
      cases r with
      | cons r1 r2 =>
        obtain ⟨as, q1⟩ := Dw.reads hok KX d _ _ h1 r1
        obtain ⟨bs, q2⟩ := Dw.readsAll hok KX ds _ _ h2 r2
        exact ⟨_, ReadsAllW.cons q1 q2⟩
end
end
mutual
/-- data that a codec tells -/
def plW : WData → Bool
  | .none => true
  | .bool _ => true
  | .int _ => true
  | .str _ => true
  | .bytes _ => true
  | .list xs => plWs xs
  | .tuple xs => plWs xs
  | _ => false
def plWs : List WData → Bool
  | [] => true
  | x :: r => plW x && plWs r
end
theorem plWs_map {α : Type} {f : α → WData} (h : ∀ a, plW (f a) = true) : ∀ l : List α, plWs (l.map f) = true
  | [] => rfl
  | x :: r => by
    show (plW (f x) && plWs (r.map f)) = true
    rw [h x, plWs_map h r] <;> rfl
theorem pl_enc : ∀ (c : Codec) (a : c.denote), plW (c.enc a) = true
  | .unit, _ => rfl
  | .bool, _ => rfl
  | .int _ _, _ => rfl
  | .nat _ _, _ => rfl
  | .u8, _ => rfl
  | .bytes _ _, _ => rfl
  | .text _ _ _ _, _ => rfl
  | .list _ _ c, a => plWs_map (fun x => pl_enc c x) a
  | .pair c d, a => by
    show (plW (c.enc a.1) && (plW (d.enc a.2) && true)) = true
    rw [pl_enc c a.1, pl_enc d a.2] <;> rfl
  | .triple c d e, a => by
    show (plW (c.enc a.1) && (plW (d.enc a.2.1) && (plW (e.enc a.2.2) && true))) = true
    rw [pl_enc c a.1, pl_enc d a.2.1, pl_enc e a.2.2] <;> rfl
  | .option c, none => rfl
  | .option c, some x => pl_enc c x
theorem pl_encAll : ∀ (cs : List Codec) (a : Codec.denoteAll cs), plWs (Codec.encAll cs a) = true
  | [], _ => rfl
  | c :: cs, a => by
    show (plW (c.enc a.1) && plWs (Codec.encAll cs a.2)) = true
    rw [pl_enc c a.1, pl_encAll cs a.2] <;> rfl
theorem weight_mem : ∀ {xs : List WData} {d : WData}, d ∈ xs → d.weight ≤ WData.weightAll xs
  | [], d, h => absurd h (by simp)
  | x :: r, d, h => by
    show d.weight ≤ x.weight + 1 + WData.weightAll r
    rcases List.mem_cons.mp h with e | m
    · rw [e]
      omega
    · have z := weight_mem m
      omega
def toV : Value → V
  | .none => .non
  | .bool b => .bl b
  | .int i _ => .int i
  | .str x _ => .str x
  | .bytes b _ => .byt b
  | .ref a => .ref a
  | _ => .non
def OkU (A : List Addr) : Value → Prop
  | .none => True
  | .bool _ => True
  | .int _ _ => True
  | .str _ _ => True
  | .bytes _ _ => True
  | .ref a => a ∈ A
  | _ => False
theorem OkU.mono {A B : List Addr} (h : ∀ a ∈ A, a ∈ B) : ∀ {u : Value}, OkU A u → OkU B u := fun {u} x => by
  cases u with
  | ref a => exact h a x
  | none => trivial
  | bool b => trivial
  | int i t => trivial
  | str s t => trivial
  | bytes b t => trivial
  | _ => exact False.elim x
theorem relV_toV {A : List Addr} {u : Value} (x : OkU A u) : RelV (toV u) u := by
  cases u with
  | ref a => rfl
  | none => rfl
  | bool b => rfl
  | int i t => exact ⟨t, rfl⟩
  | str s t => exact ⟨t, rfl⟩
  | bytes b t => exact ⟨t, rfl⟩
  | _ => exact False.elim x
theorem vals_toV {A : List Addr} : ∀ {vs : List Value}, (∀ u ∈ vs, OkU A u) → Vals (vs.map toV) vs
  | [], _ => .nil
  | u :: r, h => .cons (relV_toV (h u (List.mem_cons_self ..))) (vals_toV fun x hx => h x (List.mem_cons_of_mem _ hx))
def ArgOb (h : Heap) (A : List Addr) (a : Addr) : Prop := ∃ vs : List Value, vs.length ≤ sizeLine ∧ (∀ u ∈ vs, OkU A u) ∧
  (h.get? a = some { cls := .type "list", data := .seq vs.toArray } ∨ h.get? a = some { cls := .type "tuple", data := .seq vs.toArray })
theorem ArgOb.mono {h : Heap} {A B : List Addr} {a : Addr} (k : ∀ a ∈ A, a ∈ B) (x : ArgOb h A a) : ArgOb h B a := by
  obtain ⟨vs, h1, h2, h3⟩ := x
  exact ⟨vs, h1, fun u hu => (h2 u hu).mono k, h3⟩
theorem wellAll_len {P : Params} {h : Heap} : ∀ {vs : List Value} {ds : List WData}, WellAll P h vs ds → vs.length = ds.length
  | _, _, .nil => rfl
  | _, _, .cons _ b => by
    show _ + 1 = _ + 1
    rw [wellAll_len b]
theorem well_list {P : Params} {h : Heap} {v : Value} {ds : List WData} (x : Well P h v (.list ds)) : ∃ (a : Addr) (vs : List Value), v = .ref a ∧ h.get? a = some { cls := .type "list", data := .seq vs.toArray } ∧ WellAll P h vs ds := by
  cases x with
  | list ho hall => exact ⟨_, _, rfl, ho, hall⟩
theorem well_tuple {P : Params} {h : Heap} {v : Value} {ds : List WData} (x : Well P h v (.tuple ds)) : ∃ (a : Addr) (vs : List Value), v = .ref a ∧ h.get? a = some { cls := .type "tuple", data := .seq vs.toArray } ∧ WellAll P h vs ds := by
  cases x with
  | tuple ho hall => exact ⟨_, _, rfl, ho, hall⟩
theorem well_cons {P : Params} {h : Heap} {us : List Value} {d : WData} {ds : List WData} (x : WellAll P h us (d :: ds)) : ∃ (v : Value) (vs : List Value), us = v :: vs ∧ Well P h v d ∧ WellAll P h vs ds := by
  cases x with
  | cons a b => exact ⟨_, _, rfl, a, b⟩
theorem line_of {n : Nat} (h : n ≤ 1048576) : n ≤ sizeLine := Nat.le_trans h (by decide)
section
variable {P : Params} {h : Heap}
mutual
theorem area_one : ∀ (d : WData) (v : Value), Well P h v d → plW d = true → d.weight ≤ 1048576 → ∃ A : List Addr, OkU A v ∧ ∀ a ∈ A, ArgOb h A a
  | .none, _, x, _, _ => by
    cases x
    exact ⟨[], trivial, fun a m => absurd m (by simp)⟩
  | .bool b, _, x, _, _ => by
    cases x
    exact ⟨[], trivial, fun a m => absurd m (by simp)⟩
  | .int i, _, x, _, _ => by
    cases x
    exact ⟨[], trivial, fun a m => absurd m (by simp)⟩
  | .str s, _, x, _, _ => by
    cases x
    exact ⟨[], trivial, fun a m => absurd m (by simp)⟩
  | .bytes b, _, x, _, _ => by
    cases x
    exact ⟨[], trivial, fun a m => absurd m (by simp)⟩
  | .list ds, _, x, p, z => by
    obtain ⟨a, vs, rfl, ho, hall⟩ := well_list x
    have z2 : WData.weightAll ds ≤ 1048576 := z
    obtain ⟨A, h1, h2⟩ := area_all ds _ hall p fun d hd => Nat.le_trans (weight_mem hd) z2
    have k : ∀ b ∈ A, b ∈ a :: A := fun b hb => List.mem_cons_of_mem _ hb
    refine ⟨a :: A, List.mem_cons_self .., fun b hb => ?_⟩
    rcases List.mem_cons.mp hb with e | m
    · rw [e]
      exact ⟨vs, line_of (by rw [wellAll_len hall]; exact Nat.le_trans (PySem.W.length_le_weightAllW ds) z2), fun u hu => (h1 u hu).mono k, .inl ho⟩
    · exact (h2 b m).mono k
  | .tuple ds, _, x, p, z => by
    obtain ⟨a, vs, rfl, ho, hall⟩ := well_tuple x
    have z2 : WData.weightAll ds ≤ 1048576 := z
    obtain ⟨A, h1, h2⟩ := area_all ds _ hall p fun d hd => Nat.le_trans (weight_mem hd) z2
    have k : ∀ b ∈ A, b ∈ a :: A := fun b hb => List.mem_cons_of_mem _ hb
    refine ⟨a :: A, List.mem_cons_self .., fun b hb => ?_⟩
    rcases List.mem_cons.mp hb with e | m
    · rw [e]
      exact ⟨vs, line_of (by rw [wellAll_len hall]; exact Nat.le_trans (PySem.W.length_le_weightAllW ds) z2), fun u hu => (h1 u hu).mono k, .inr ho⟩
    · exact (h2 b m).mono k
  | .float _, _, _, p, _ => Bool.noConfusion (show false = true from p)
  | .dict _, _, _, p, _ => Bool.noConfusion (show false = true from p)
  | .bytearray _, _, _, p, _ => Bool.noConfusion (show false = true from p)
  | .set _, _, _, p, _ => Bool.noConfusion (show false = true from p)
  | .frozenset _, _, _, p, _ => Bool.noConfusion (show false = true from p)
  | .obj _ _, _, _, p, _ => Bool.noConfusion (show false = true from p)
theorem area_all : ∀ (ds : List WData) (vs : List Value), WellAll P h vs ds → plWs ds = true → (∀ d ∈ ds, d.weight ≤ 1048576) → ∃ A : List Addr, (∀ u ∈ vs, OkU A u) ∧ ∀ a ∈ A, ArgOb h A a
  | [], _, x, _, _ => by
    cases x
    exact ⟨[], fun u m => absurd m (by simp), fun a m => absurd m (by simp)⟩
  | d :: ds, _, x, p, z => by
    obtain ⟨v, vs, rfl, x1, x2⟩ := well_cons x
    have q : plW d = true ∧ plWs ds = true := Bool.and_eq_true_iff.mp p
    obtain ⟨A, a1, a2⟩ := area_one d v x1 q.1 (z d (List.mem_cons_self ..))
    obtain ⟨B, b1, b2⟩ := area_all ds vs x2 q.2 fun e he => z e (List.mem_cons_of_mem _ he)
    have kA : ∀ b ∈ A, b ∈ A ++ B := fun b hb => List.mem_append.mpr (.inl hb)
    have kB : ∀ b ∈ B, b ∈ A ++ B := fun b hb => List.mem_append.mpr (.inr hb)
    refine ⟨A ++ B, fun u hu => ?_, fun b hb => ?_⟩
    · rcases List.mem_cons.mp hu with e | m
      · rw [e]
        exact a1.mono kA
      · exact (b1 u m).mono kB
    · rcases List.mem_append.mp hb with m | m
      · exact (a2 b m).mono kA
      · exact (b2 b m).mono kB
end
end
def hoOf (o : Obj) : Option HO := match o.data with
  | .seq vs _ => if (o.cls == Value.type "list") = true then some (.frz o (.lst (vs.toList.map toV))) else some (.frz o (.tup (vs.toList.map toV)))
  | _ => none
def argH (K : PySem.W.Frag) (h : Heap) (A : List Addr) : Hp := fun b => if b ∈ A then (if (K.lookup b).isNone = true then (h.get? b).bind hoOf else none) else none
def OnlyF (H : Hp) : Prop := ∀ b, H b = none ∨ ∃ o u, H b = some (.frz o u)
theorem hoOf_lst (vs : List Value) : hoOf { cls := .type "list", data := .seq vs.toArray } = some (.frz { cls := .type "list", data := .seq vs.toArray } (.lst (vs.map toV))) := by
  show (if (Value.type "list" == Value.type "list") = true then some (HO.frz { cls := .type "list", data := .seq vs.toArray } (.lst (vs.toArray.toList.map toV))) else some (HO.frz { cls := .type "list", data := .seq vs.toArray } (.tup (vs.toArray.toList.map toV)))) = _
  rw [if_pos (beq_self_eq_true _)]
theorem hoOf_tup (vs : List Value) : hoOf { cls := .type "tuple", data := .seq vs.toArray } = some (.frz { cls := .type "tuple", data := .seq vs.toArray } (.tup (vs.map toV))) := by
  show (if (Value.type "tuple" == Value.type "list") = true then some (HO.frz { cls := .type "tuple", data := .seq vs.toArray } (.lst (vs.toArray.toList.map toV))) else some (HO.frz { cls := .type "tuple", data := .seq vs.toArray } (.tup (vs.toArray.toList.map toV)))) = _
  rw [if_neg (by decide)]
section
variable {P : Program} {w : World} {K : PySem.W.Frag} {h : Heap} {A : List Addr}
theorem argH_at {b : Addr} {o : Obj} (hb : b ∈ A) (hk : K.lookup b = none) (e : h.get? b = some o) : argH K h A b = hoOf o := by
  unfold argH
  rw [if_pos hb, hk, if_pos (show (none : Option Obj).isNone = true from rfl), e] <;> rfl
theorem of_argH {b : Addr} {u : HO} (q : argH K h A b = some u) : b ∈ A ∧ K.lookup b = none := by
  unfold argH at q
  by_cases hb : b ∈ A
  · rw [if_pos hb] at q
    cases hk : K.lookup b with
    | none => exact ⟨hb, rfl⟩
    | some o =>
      rw [hk, if_neg (by simp)] at q
      cases q
  · rw [if_neg hb] at q
    cases q
theorem argH_is (ar : ∀ a ∈ A, ArgOb h A a) {b : Addr} {u : HO} (q : argH K h A b = some u) : K.lookup b = none ∧ ∃ vs : List Value, vs.length ≤ sizeLine ∧ (∀ u ∈ vs, OkU A u) ∧
    ((h.get? b = some { cls := .type "list", data := .seq vs.toArray } ∧ u = .frz { cls := .type "list", data := .seq vs.toArray } (.lst (vs.map toV))) ∨
     (h.get? b = some { cls := .type "tuple", data := .seq vs.toArray } ∧ u = .frz { cls := .type "tuple", data := .seq vs.toArray } (.tup (vs.map toV)))) := by
  obtain ⟨hb, hk⟩ := of_argH q
  obtain ⟨vs, h1, h2, h3⟩ := ar b hb
  refine ⟨hk, vs, h1, h2, ?_⟩
  rcases h3 with e | e
  · rw [argH_at hb hk e, hoOf_lst] at q
    exact .inl ⟨e, (Option.some.inj q).symm⟩
  · rw [argH_at hb hk e, hoOf_tup] at q
    exact .inr ⟨e, (Option.some.inj q).symm⟩
theorem argH_only (ar : ∀ a ∈ A, ArgOb h A a) : OnlyF (argH K h A) := fun b => by
  cases q : argH K h A b with
  | none => exact .inl rfl
  | some u =>
    obtain ⟨_, vs, _, _, ⟨_, e⟩ | ⟨_, e⟩⟩ := argH_is ar q
    · exact .inr ⟨_, _, by rw [e]⟩
    · exact .inr ⟨_, _, by rw [e]⟩
theorem argH_ok (ar : ∀ a ∈ A, ArgOb h A a) : HOk P w (argH K h A) h := fun b u q => by
  obtain ⟨_, vs, h1, h2, ⟨e, rfl⟩ | ⟨e, rfl⟩⟩ := argH_is ar q
  · exact ⟨e, by rw [List.length_map]; exact h1, vs, _, vals_toV h2, e⟩
  · exact ⟨e, by rw [List.length_map]; exact h1, vs, vals_toV h2, _, e, rfl, _, rfl⟩
theorem seq_inj {c c' : Value} {vs us : List Value} (e : (some { cls := c, data := .seq vs.toArray } : Option Obj) = some { cls := c', data := .seq us.toArray }) : c = c' ∧ vs = us := by
  have e1 := Option.some.inj e
  have e2 : c = c' := congrArg Obj.cls e1
  have e3 : Data.seq vs.toArray = Data.seq us.toArray := congrArg Obj.data e1
  injection e3 with e4
  refine ⟨e2, ?_⟩
  have e5 := congrArg Array.toList e4
  simpa using e5
theorem argL (KX : K.In h) (ar : ∀ a ∈ A, ArgOb h A a) {a : Addr} {vs : List Value} (ha : a ∈ A) (e : h.get? a = some { cls := .type "list", data := .seq vs.toArray }) : (∀ u ∈ vs, OkU A u) ∧ SqL K (argH K h A) a (vs.map toV) := by
  obtain ⟨us, h1, h2, h3⟩ := ar a ha
  have hu : us = vs := by
    rcases h3 with q | q
    · rw [e] at q
      exact (seq_inj q).2.symm
    · rw [e] at q
      exact absurd (Value.type.inj (seq_inj q).1) (by decide)
  subst hu
  refine ⟨h2, ?_⟩
  cases hk : K.lookup a with
  | none => exact .inl (.inr ⟨_, by rw [argH_at ha hk e, hoOf_lst]⟩)
  | some o =>
    have e2 := KX a o hk
    rw [e] at e2
    obtain rfl := Option.some.inj e2
    exact .inr ⟨_, us.toArray, _, hk, rfl, rfl, rfl, by rw [List.size_toArray]; exact h1, by simpa using vals_toV h2⟩
theorem argT (KX : K.In h) (ar : ∀ a ∈ A, ArgOb h A a) {a : Addr} {vs : List Value} (ha : a ∈ A) (e : h.get? a = some { cls := .type "tuple", data := .seq vs.toArray }) : (∀ u ∈ vs, OkU A u) ∧ SqT K (argH K h A) a (vs.map toV) := by
  obtain ⟨us, h1, h2, h3⟩ := ar a ha
  have hu : us = vs := by
    rcases h3 with q | q
    · rw [e] at q
      exact absurd (Value.type.inj (seq_inj q).1) (by decide)
    · rw [e] at q
      exact (seq_inj q).2.symm
  subst hu
  refine ⟨h2, ?_⟩
  cases hk : K.lookup a with
  | none => exact .inl (.inr ⟨_, by rw [argH_at ha hk e, hoOf_tup]⟩)
  | some o =>
    have e2 := KX a o hk
    rw [e] at e2
    obtain rfl := Option.some.inj e2
    exact .inr ⟨_, us.toArray, _, hk, rfl, rfl, by rw [List.size_toArray]; exact h1, by simpa using vals_toV h2⟩
mutual
theorem dw_one {Pm : Params} (KX : K.In h) (ar : ∀ a ∈ A, ArgOb h A a) : ∀ (d : WData) (v : Value), Well Pm h v d → plW d = true → OkU A v → Dw K (argH K h A) (toV v) d
  | .none, _, x, _, _ => by
    cases x
    exact .non
  | .bool b, _, x, _, _ => by
    cases x
    exact .bl b
  | .int i, _, x, _, _ => by
    cases x
    exact .int i
  | .str s, _, x, _, _ => by
    cases x
    exact .str s
  | .bytes b, _, x, _, _ => by
    cases x
    have z := Dw.byt (K := K) (H := argH K h A) b.toArray
    exact z
  | .list ds, _, x, p, hu => by
    obtain ⟨a, vs, rfl, ho, hall⟩ := well_list x
    obtain ⟨h2, hs⟩ := argL KX ar hu ho
    exact .lst hs (dw_all KX ar ds _ hall p h2)
  | .tuple ds, _, x, p, hu => by
    obtain ⟨a, vs, rfl, ho, hall⟩ := well_tuple x
    obtain ⟨h2, hs⟩ := argT KX ar hu ho
    exact .tup hs (dw_all KX ar ds _ hall p h2)
  | .float _, _, _, p, _ => Bool.noConfusion (show false = true from p)
  | .dict _, _, _, p, _ => Bool.noConfusion (show false = true from p)
  | .bytearray _, _, _, p, _ => Bool.noConfusion (show false = true from p)
  | .set _, _, _, p, _ => Bool.noConfusion (show false = true from p)
  | .frozenset _, _, _, p, _ => Bool.noConfusion (show false = true from p)
  | .obj _ _, _, _, p, _ => Bool.noConfusion (show false = true from p)
theorem dw_all {Pm : Params} (KX : K.In h) (ar : ∀ a ∈ A, ArgOb h A a) : ∀ (ds : List WData) (vs : List Value), WellAll Pm h vs ds → plWs ds = true → (∀ u ∈ vs, OkU A u) → DwAll K (argH K h A) (vs.map toV) ds
  | [], _, x, _, _ => by
    cases x
    exact .nil
  | d :: ds, _, x, p, hu => by
    obtain ⟨v, vs, rfl, x1, x2⟩ := well_cons x
    have q : plW d = true ∧ plWs ds = true := Bool.and_eq_true_iff.mp p
    exact .cons (dw_one KX ar d v x1 q.1 (hu _ (List.mem_cons_self ..))) (dw_all KX ar ds vs x2 q.2 fun u m => hu u (List.mem_cons_of_mem _ m))
end
end
theorem spec_call {P : Program} {w : World} {K : PySem.W.Frag} {mg mb : Str → Option Value} {CX : CXT} {k : Nat} {fa : Addr} {fd : FuncData} {ps : List Str} {sp : Sp} {s₁ : Shared} {vals : List Value} {ds : List WData} {R : PySem.W.WRecords} {cl : Str → Option Addr} {d0 : WData}
    (KX : K.In s₁.heap) (hns : s₁.heap.Ns mainGlobals mg) (hb : s₁.heap.Ns builtinsNs mb) (hbb : ∀ x : Str, x ≠ "__name__" → mb x = bootBuiltins x) (hlim : s₁.heap.NoLimit) (hg : s₁.gens = #[])
    (hwl : WellAll w.params s₁.heap vals ds) (hpl : plWs ds = true) (hwt : ∀ d ∈ ds, d.weight ≤ 1048576) (hr : Room k callerA)
    (F : ∀ base : Heap, K.In base → base.Ns mainGlobals mg → FnOk P w K mg base CX k fa fd ps sp) (hbind : ∀ (s : Shared) (us : List Value), us.length = ps.length → BindsTo s fd ⟨us, []⟩ (ps.zip us)) (hlen : ds.length = ps.length)
    (hsp : ∀ (H : Hp) (xs : List V), OnlyF H → DwAll K H xs ds → sp xs H (fun v H' => Dw K H' v d0) fun _ _ _ => False)
    (hCX : ∀ H e s', CX [] H s₁ (fun _ _ _ => False) e s' → False) :
    codeAny (model P w) callerA (.call (.ref fa) ⟨vals, []⟩) (fun r s' => ∃ u as, r = .ok (.ret u) ∧ ReadsW R cl s'.heap u d0 as ∧ OldK s₁.heap s'.heap ∧ s'.os = s₁.os ∧ AllBare s'.gens) s₁ := by
  obtain ⟨A, ho, ar⟩ := area_all ds vals hwl hpl hwt
  have hO : OnlyF (argH K s₁.heap A) := argH_only ar
  have hok : HOk P w (argH K s₁.heap A) s₁.heap := argH_ok ar
  have hS := dw_all KX ar ds vals hwl hpl ho
  have hV := vals_toV ho
  have hK : ∀ b u, argH K s₁.heap A b = some u → K.lookup b = none := fun b u q => (argH_is ar q).1
  have noA : ∀ {b : Addr} {o : Obj} {es : Array DictEntry} {ep : Nat}, s₁.heap.get? b = some o → o.data = .dict es ep → argH K s₁.heap A b = none := fun {b o es ep} e d => by
    cases q : argH K s₁.heap A b with
    | none => rfl
    | some u =>
      obtain ⟨_, vs, _, _, ⟨e2, _⟩ | ⟨e2, _⟩⟩ := argH_is ar q
      · rw [e2] at e
        cases e
        have d' : Data.seq vs.toArray _ = Data.dict es ep := d
        cases d'
      · rw [e2] at e
        cases e
        have d' : Data.seq vs.toArray _ = Data.dict es ep := d
        cases d'
  generalize argH K s₁.heap A = H at hO hok hS hK noA
  have base_of : ∀ {b : Addr} {o : Obj}, s₁.heap.get? b = some o → H b = none → (hidT s₁.heap H).get? b = some o := fun e n => hidT_get e n
  have nsK : ∀ {b : Addr} {m : Str → Option Value}, s₁.heap.Ns b m → (hidT s₁.heap H).Ns b m := fun {b m} ⟨o, es, ep, e, d, r⟩ => ⟨o, es, ep, base_of e (noA e d), d, r⟩
  have nK : ∀ b o, K.lookup b = some o → H b = none := fun b o e => by
    cases q : H b with
    | none => rfl
    | some u =>
      rw [hK b u q] at e
      cases e
  have hKb : K.In (hidT s₁.heap H) := fun b o e => base_of (KX b o e) (nK b o e)
  have hM : Mod K mg (hidT s₁.heap H) := ⟨hKb, nsK hns, ⟨mb, nsK hb, hbb⟩, let ⟨mc, h1, h2⟩ := hlim; ⟨mc, nsK h1, h2⟩⟩
  have e0 : Env0 P w K mg (hidT s₁.heap H) callerA [] s₁ H := ⟨rfl, hM, fun b o e => of_hidT e, Nat.le_of_eq (hidT_size _ _), trivial, fun b hb => absurd (show b ∈ ([] : List Addr) from hb) (by simp), hok, .of_eq hg⟩
  have hl : vals.length = ps.length := by rw [wellAll_len hwl]; exact hlen
  refine codeAny_mono ((F _ hKb (nsK hns)).run callerA [] s₁ H ⟨vals, []⟩ vals (vals.map toV) _ _ hr e0 (hbind s₁ vals hl) hV (hsp H _ hO hS)) fun r s' x => ?_
  cases r with
  | error e => exact (hCX H e s' x).elim
  | ok fl =>
    cases fl with
    | next => exact False.elim x
    | brk => exact False.elim x
    | cont => exact False.elim x
    | ret u =>
      obtain ⟨v, H', os, bare, un, hok', r', q⟩ := x
      have kept : ∀ b o, s₁.heap.get? b = some o → s'.heap.get? b = some o := fun b o e => by
        cases q2 : H b with
        | none => exact un.keep b o e q2 (by intro z; exact absurd (show b ∈ ([] : List Addr) from z) (by simp)) (by simp)
        | some u2 =>
          rcases hO b with z | ⟨ob, u3, z⟩
          · rw [q2] at z
            cases z
          · have z2 := un.frzs b ob _ z
            obtain ⟨e1, _⟩ := hok b _ z
            obtain ⟨e2, _⟩ := hok' b _ z2
            rw [e] at e1
            cases e1
            exact e2
      have KX' : K.In s'.heap := fun b o e => kept b o (KX b o e)
      obtain ⟨as, hrd⟩ := Dw.reads (R := R) (cl := cl) hok' KX' d0 v u q r'
      exact ⟨u, as, rfl, hrd, OldK.of_keep kept, os, bare⟩
theorem layable_weight {ds : List WData} (h : WData.layableAll ds = true) : ∀ d ∈ ds, d.weight ≤ 1048576 := fun d hd =>
  (PySem.W.layableW_iff.mp (List.all_eq_true.mp h d hd)).2.2
theorem encAll_len : ∀ (cs : List Codec) (a : Codec.denoteAll cs), (Codec.encAll cs a).length = cs.length
  | [], _ => rfl
  | c :: cs, a => by
    show (Codec.encAll cs a.2).length + 1 = cs.length + 1
    rw [encAll_len cs a.2]
theorem walk_spec {r : OpenSpec} {k : Nat} {q : Program} {loose : List Str} {XP : (Str → Option Value) → Heap → Prop} {YP : World → Heap → Prop} {d : DefRec} {K : Params → PySem.W.Frag} {CX : World → CXT} {ps : List Str} {sp : World → Sp}
    (hwell : r.wellSaid = true) (hdf : d.params.defaults = []) (hlen : r.args.length = ps.length) (hr : Room k callerA)
    (hY : ∀ (w : World) (h : Heap), YP w h → (K w.params).In h)
    (F : ∀ (w : World) (mg : Str → Option Value) (fa : Addr) (h : Heap), YP w h → (K w.params).In h → h.Ns mainGlobals mg → mg d.name = some (.ref fa) →
      ∃ fd : FuncData, (∀ (s : Shared) (us : List Value), us.length = ps.length → BindsTo s fd ⟨us, []⟩ (ps.zip us)) ∧
        ∀ base : Heap, (K w.params).In base → base.Ns mainGlobals mg → FnOk r.prog w (K w.params) mg base (CX w) k fa fd ps (sp w))
    (hsp : ∀ (w : World) (H : Hp) (xs : List V) (a : Codec.denoteAll r.args), OnlyF H → Codec.withinAll r.args a = true → Codec.app r.args r.asked a = true → DwAll (K w.params) H xs (Codec.encAll r.args a) →
      sp w xs H (fun v H' => Dw (K w.params) H' v (r.ret.enc (Codec.app r.args r.f a))) fun _ _ _ => False)
    (hCX : ∀ (w : World) (H : Hp) (s : Shared) (e : Value) (s' : Shared), CX w [] H s (fun _ _ _ => False) e s' → False) :
    PySem.W.WalkOS q loose XP YP r d [] (fun f vs => PySem.call f vs) := by
  intro w s_0 s₁ mg mb G Y fa o pm cd doc dV kV ho hd hcd hD hmg hg args vals as hpre hlay hrd hwl hlo
  obtain ⟨a, e1, e2⟩ := PySem.W.os_pre_some hpre
  obtain ⟨e3, hwi⟩ := Codec.encAll_of_decAll r.args args a e1
  subst e3
  have KX := hY w _ Y
  obtain ⟨fd, hb, hF⟩ := F w mg fa _ Y KX G.T.g hmg
  refine PySem.W.enter_call (codeAny_mono (spec_call (R := []) (cl := classAt s_0.heap) (d0 := r.ret.enc (Codec.app r.args r.f a)) KX G.T.g G.T.b G.T.builtins G.T.nolimit hg hwl (pl_encAll _ _) (layable_weight hlay) hr hF hb (by rw [encAll_len]; exact hlen)
    (fun H xs hO hS => hsp w H xs a hO hwi e2 hS) fun H e s' => hCX w H s₁ e s') fun r' s' hq => ?_)
  obtain ⟨u, as', rfl, h1, h2, h3, h4⟩ := hq
  exact ⟨.inl ⟨u, _, as', rfl, fun _ => rfl, h1, (OpenSpec.post_iff hwell hwi _ _).mpr rfl, fun z => Bool.noConfusion (show false = true from z)⟩, h2, h3, h4⟩
end L2
end
section
set_option Elab.async false
set_option linter.all false
set_option maxRecDepth 100000
set_option maxHeartbeats 2000000
namespace L2
open PySem PySem.Spec PyProof.Rows
def bmVE : List Value := [.type "ValueError", .type "Exception", .type "BaseException", .type "object"]
def excIn (K : PySem.W.Frag) (C fI : Addr) (names : List Str) : Bool := match K.lookup C with
  | some ⟨.type "type", _, .cls cd, sl⟩ => (match cd.mro, sl.toList with
    | .ref C' :: bm, [_, _, _, _, some (.builtin n), _] => C' == C && !cd.hasDel && cd.hasDict && bm == bmVE && n == "ValueError.__new__" && PySem.W.nsOkIn K cd.ns && PySem.W.nsIn K cd.ns "__init__" == some (some (.ref fI)) && names.all fun x => PySem.W.nsIn K cd.ns x == some none
    | _, _ => false)
  | _ => false
theorem ns_some_of {K : PySem.W.Frag} {h : Heap} {N : Addr} {mg : Str → Option Value} {n : Str} {v : Value} (X : K.In h) (G : h.Ns N mg) (e : PySem.W.nsIn K N n = some (some v)) : mg n = some v := by
  obtain ⟨o, es, ep, ho, hd, _, hf⟩ := G
  unfold PySem.W.nsIn at e
  split at e
  · rename_i c d es' n' sl q
    have := X _ _ q
    rw [ho] at this
    cases this
    cases hd
    split at e
    · rename_i en he
      rw [← hf]
      unfold nsFind findBy
      rw [← Array.find?_toList]
      have z : some en.val = some v := Option.some.inj e
      rw [← z]
      have he' : es.toList.find? (fun e => e.key.isStr n) = some en := he
      rw [he']
      rfl
    · split at e
      · cases e
      · cases e
  · cases e
structure ExcCls (h : Heap) (C fI : Addr) (names : List Str) : Prop where
  ex : ∃ nm qn N bs sn sub ab col dd k0 k1 k2 k3 k5, h.get? C = some (excClassObj nm qn C N bs bmVE true sn sub ab col dd k0 k1 k2 k3 k5 "ValueError.__new__") ∧ h.Ns N (h.nsMap N) ∧ h.nsMap N "__init__" = some (.ref fI) ∧ ∀ x ∈ names, h.nsMap N x = none
theorem exc_cls {K : PySem.W.Frag} {h : Heap} {C fI : Addr} {names : List Str} (X : K.In h) (q : excIn K C fI names = true) : ExcCls h C fI names := by
  unfold excIn at q
  split at q
  · rename_i dd cd sl ho
    split at q
    · rename_i C' bm k0 k1 k2 k3 n k5 hm hs
      simp only [Bool.and_eq_true, beq_iff_eq, Bool.not_eq_true', List.all_eq_true] at q
      obtain ⟨⟨⟨⟨⟨⟨⟨e1, e2⟩, e3⟩, e4⟩, e5⟩, e6⟩, e7⟩, e8⟩ := q
      subst e1 e4 e5
      obtain ⟨nm, bs, mro, ns, qn, hd, sn, sub, ab, col, del⟩ := cd
      dsimp only at hm e2 e3 e6 e7 e8
      subst hm e2 e3
      have hsl : sl = #[k0, k1, k2, k3, some (.builtin "ValueError.__new__"), k5] := by
        obtain ⟨l⟩ := sl
        simp only at hs
        rw [hs]
      subst hsl
      have G : h.Ns ns (h.nsMap ns) := .of_isNs (PySem.W.isNs_of_in X e6)
      exact ⟨nm, qn, ns, bs, sn, sub, ab, col, dd, k0, k1, k2, k3, k5, X _ _ ho, G, ns_some_of X G e7, fun x hx => PySem.W.ns_none_of X G (e8 x hx)⟩
    · cases q
  · cases q
theorem ve_ga : Slot "ValueError" "__getattribute__" "BaseException.__getattribute__" := .of (owner := "BaseException") (n := "__getattribute__") (by rw [typeLookup_type, builtinLookup_eq_fast]; kernel_rfl) (by decide +kernel) (by decide +kernel) (by decide +kernel)
    (by first | exact .inl (by decide +kernel) | exact .inr (by decide +kernel)) (by rw [isSubtype_type]; kernel_rfl)
theorem ve_noga : typeLookup (.type "ValueError") "__getattr__" = pure none := by rw [typeLookup_type, builtinLookup_eq_fast]; kernel_rfl
theorem ve_mro : mroOf (.type "ValueError") = pure bmVE := by kernel_rfl
section
variable {prog : Program} {w : World} {A : Around} {E : Value → Shared → Prop} {h : Heap} {g : Array GenState} {d : Drawn} {t : Nat} {os : OsState} {C fI a : Addr} {names : List Str} {mA : Str → Option Value} {name : Str} {v : Value}
theorem xcheck_ga {M : Model} {nameV : Value} {o : Obj} {Q : Unit → Shared → Prop} (XC : ExcCls h C fI names) (hx : h.get? a = some o) (hc : o.cls = .ref C) (hq : Q () ⟨h, g, d, t, os⟩) :
    wpAny M A (checkBuiltinCall "BaseException.__getattribute__" ⟨[.ref a, nameV], []⟩) Q E ⟨h, g, d, t, os⟩ := by
  obtain ⟨nm, qn, N, bs, sn, sub, ab, col, dd, k0, k1, k2, k3, k5, hC, hn, hi, hno⟩ := XC.ex
  have hk : builtinKind "BaseException.__getattribute__" = some .slot := by decide +kernel
  have hsplit : splitId "BaseException.__getattribute__" = some ("BaseException", "__getattribute__") := by decide +kernel
  have hcB : (Value.ref C :: bmVE).contains (.type "BaseException") = true := by rw [List.contains_cons]; simp [bmVE]
  have ha := F.args_bexc_ga (.ref a) nameV
  simp only [checkBuiltinCall, hk, hsplit]
  refine wpAny_bind ?_
  · unfold isInstance
    repeat (first | (with_reducible refine wpAny_loadPart_at hx ?_; rw [hc]) | (with_reducible refine wpAny_isSubtype_exc hC ?_; rw [hcB]) | wp_step)
    exact hq
theorem xload_entry {tk : Tok} {Q : Fin → Shared → Prop} (XC : ExcCls h C fI names) (hna : name ∈ names) (hB : typeLookup (.type "ValueError") name = pure none) (I : h.Inst a C mA) (hv : mA name = some v) (hq : Q (.done (.ret v)) ⟨h, g, d, t, os⟩) :
    wpAny (model prog w) A (Builtin.«object.__getattribute__» ⟨[.ref a, .str name tk], []⟩) Q E ⟨h, g, d, t, os⟩ := by
  obtain ⟨nm, qn, N, bs, sn, sub, ab, col, dd, k0, k1, k2, k3, k5, hC, hn, hi, hno⟩ := XC.ex
  obtain ⟨o, hx, hc, hnc, hd⟩ := I
  rcases hd with ⟨_, hmA⟩ | ⟨dx, hdx, hne, hns⟩
  · rw [hmA name] at hv; cases hv
  unfold Builtin.«object.__getattribute__»
  repeat (first | (with_reducible refine wpAny_loadPart_at hx ?_; rw [hc]) | (with_reducible refine wpAny_typeLookup_exc hC hn ve_mro hB ?_; rw [hno _ hna]) | wp_step)
  split
  · rename_i c hcd
    exact absurd hcd (hnc c)
  unfold instanceDict
  repeat (first | (with_reducible refine wpAny_loadPart_at hx ?_; rw [hc]) | with_reducible refine wpAny_loadPart_at hC ?_ | wp_step)
  rw [hdx]
  repeat (first | (with_reducible refine wpAny_nsGet hns.ns ?_; rw [hv]) | wp_step)
  exact hq
theorem xload_attr {expr : Bool} {Q : Value → Shared → Prop} (XC : ExcCls h C fI names) (hga : ("__getattribute__" : Str) ∈ names) (hgt : ("__getattr__" : Str) ∈ names) (hna : name ∈ names) (hB : typeLookup (.type "ValueError") name = pure none)
    (I : h.Inst a C mA) (hv : mA name = some v) (hh : handedOut v = pure v) (hq : Q v ⟨h, g, d, t + 1, os⟩) :
    wpAny (model prog w) A (getAttr (.ref a) name expr) Q E ⟨h, g, d, t, os⟩ := by
  obtain ⟨nm, qn, N, bs, sn, sub, ab, col, dd, k0, k1, k2, k3, k5, hC, hn, hi, hno⟩ := XC.ex
  obtain ⟨o, hx, hc, _⟩ := id I
  have f3 := ve_ga.bind (.ref a)
  have hx0 : (expr && onTheHeap (Value.builtin "BaseException.__getattribute__")) = false := by cases expr <;> rfl
  have hx2 : (Value.builtin "BaseException.__getattribute__" == Value.builtin "object.__getattribute__") = false := by decide +kernel
  have hx1 : (onTheHeap (Value.ref C) && Value.builtin "BaseException.__getattribute__" == Value.builtin "object.__getattribute__") = false := by rw [hx2]; rfl
  unfold getAttr getAttrBy
  repeat (any_goals (first | assumption | (with_reducible refine wpAny_loadPart_at hx ?_; rw [hc]) | (with_reducible refine wpAny_typeLookup_exc hC hn ve_mro ve_ga.lookup ?_; rw [hno _ hga]) | (with_reducible refine wpAny_typeLookup_exc hC hn ve_mro ve_noga ?_; rw [hno _ hgt]) | wp_step))
  refine codeAny_call_builtin ve_ga.plain F.entry_bexc_ga (xcheck_ga XC hx hc (xload_entry XC hna hB I hv ?_))
  repeat (any_goals (first | assumption | wp_step))
end
end L2
end
section
set_option Elab.async false
set_option linter.all false
set_option maxRecDepth 100000
set_option maxHeartbeats 2000000
namespace L2
open PySem PySem.Spec PyProof.Rows
open Builtin Builtin.ObjectAttr
section
variable {prog : Program} {w : World} {A : Around} {E : Value → Shared → Prop} {h : Heap} {g : Array GenState} {d : Drawn} {t : Nat} {os : OsState} {C fI a : Addr} {names : List Str} {mA : Str → Option Value} {name : Str} {v : Value} {o : Obj}
theorem xstore_entry0 {tk : Tok} {Q : Fin → Shared → Prop} (XC : ExcCls h C fI names) (hna : name ∈ names) (hB : typeLookup (.type "ValueError") name = pure none) (hx : h.get? a = some o) (hc : o.cls = .ref C) (hnc : ∀ c, o.data ≠ .cls c) (hdn : o.dict = none)
    (hq : ∀ h' tk', h'.get? a = some { o with dict := some h.objs.size } → h'.Ns1 h.objs.size (fun y => if y = name then some v else none) → (∀ b ob, b ≠ a → h.get? b = some ob → h'.get? b = some ob) → Q (.done (.ret .none)) ⟨h', g, d, tk', os⟩) :
    wpAny (model prog w) A (Builtin.«object.__setattr__» ⟨[.ref a, .str name tk, v], []⟩) Q E ⟨h, g, d, t, os⟩ := by
  obtain ⟨nm, qn, N, bs, sn, sub, ab, col, dd, k0, k1, k2, k3, k5, hC, hn, hi, hno⟩ := XC.ex
  have SF := F.store_ValueError
  have hpass := SF.passes (.ref a)
  unfold Builtin.«object.__setattr__»
  repeat (first | rw [refuse_eq] | (rw [refuseLoop_ref]; rw [show bmVE = [.type "ValueError", .type "Exception", .type "BaseException", .type "object"] from rfl]; rw [hpass]) | (with_reducible refine wpAny_loadPart_at hx ?_; rw [hc]) | with_reducible refine wpAny_mroOf_exc hC ?_ | (with_reducible refine wpAny_typeLookup_exc hC hn SF.mro hB ?_; rw [hno _ hna]) | wp_step)
  rw [hdn, if_neg (by simp [typeHasDict])]
  split
  · rename_i hcd
    cases hcd
  split
  · rename_i c hcd
    exact absurd hcd (hnc c)
  · have hx₁ : (h.push { cls := .type "dict", data := .dict #[] }).get? a = some o := Heap.get?_push_of_some _ hx
    have hxs : a ≠ h.objs.size := Nat.ne_of_lt (Heap.lt_size hx)
    refine wpAny_bind (wpAny_alloc' ?_)
    refine wpAny_bind (wpAny_update' hx₁ ?_)
    refine wpAny_pure ?_
    have hgd : ((h.push { cls := .type "dict", data := .dict #[] }).update a fun o => { cls := o.cls, dict := some h.objs.size, data := o.data, slots := o.slots }).get? h.objs.size
        = some { cls := .type "dict", data := .dict #[] } :=
      (Heap.get?_update_ne _ _ _ _ hxs.symm).trans (Heap.get?_push_at rfl rfl)
    have hnd : ((h.push { cls := .type "dict", data := .dict #[] }).update a fun o => { cls := o.cls, dict := some h.objs.size, data := o.data, slots := o.slots }).Ns h.objs.size (fun _ => none) :=
      ⟨_, #[], _, hgd, rfl, fun e he => absurd he (by simp), fun _ => rfl⟩
    show wpAny _ _ (storeInDict h.objs.size (.str name tk) name v) _ _ _
    unfold storeInDict newKeyGuard
    refine wpAny_bind (wpAny_pure (wpAny_bind (wpAny_nsSet1 (Heap.Ns1.of_empty hnd) fun h' hn' hs => ?_)))
    obtain ⟨oD, esD, epD, hoD, hdD, hcD⟩ := hn'.count (PySem.Within.cons name v PySem.Within.nil)
    refine wpAny_bind (wpAny_lookBehind hoD (by rw [hdD]; exact pastItsLine_dict (Nat.le_trans hcD (by rw [List.length_cons, List.length_nil, sizeLine_eq]; omega))) ?_)
    wp_walk
    refine hq h' _ ?_ hn' (fun b ob hbx hb => ?_)
    · refine (hs.2 a hxs).trans (Heap.get?_update_self _ hx₁ ?_)
      have hfr := (Heap.get?_some_iff.mp hx).2
      obtain ⟨oc, od, odt, osl⟩ := o
      cases odt <;> first | rfl | exact hfr
    · exact (hs.2 b (Nat.ne_of_lt (Heap.lt_size hb))).trans ((Heap.get?_update_ne _ _ _ _ hbx).trans (Heap.get?_push_of_some _ hb))
theorem xstore_entry1 {tk : Tok} {dx : Addr} {ns : List Str} {Q : Fin → Shared → Prop} (XC : ExcCls h C fI names) (hna : name ∈ names) (hB : typeLookup (.type "ValueError") name = pure none) (hx : h.get? a = some o) (hc : o.cls = .ref C) (hdx : o.dict = some dx) (hns : h.Ns1 dx mA)
    (hw : PySem.Within mA ns) (hsz : ns.length ≤ sizeLine)
    (hq : ∀ h' tk', h'.Ns1 dx (fun y => if y = name then some v else mA y) → Heap.SameBut dx h h' → Q (.done (.ret .none)) ⟨h', g, d, tk', os⟩) :
    wpAny (model prog w) A (Builtin.«object.__setattr__» ⟨[.ref a, .str name tk, v], []⟩) Q E ⟨h, g, d, t, os⟩ := by
  obtain ⟨nm, qn, N, bs, sn, sub, ab, col, dd, k0, k1, k2, k3, k5, hC, hn, hi, hno⟩ := XC.ex
  have SF := F.store_ValueError
  have hpass := SF.passes (.ref a)
  unfold Builtin.«object.__setattr__»
  repeat (first | rw [refuse_eq] | (rw [refuseLoop_ref]; rw [show bmVE = [.type "ValueError", .type "Exception", .type "BaseException", .type "object"] from rfl]; rw [hpass]) | (with_reducible refine wpAny_loadPart_at hx ?_; rw [hc]) | with_reducible refine wpAny_mroOf_exc hC ?_ | (with_reducible refine wpAny_typeLookup_exc hC hn SF.mro hB ?_; rw [hno _ hna]) | wp_step)
  rw [hdx]
  refine wpAny_pure ?_
  show wpAny _ _ (storeInDict dx (.str name tk) name v) _ _ _
  unfold storeInDict newKeyGuard
  refine wpAny_bind (wpAny_pure (wpAny_bind (wpAny_nsSet1 hns fun h' hn' hs => ?_)))
  obtain ⟨oD, esD, epD, hoD, hdD, hcD⟩ := hn'.count (PySem.Within.cons name v hw)
  refine wpAny_bind (wpAny_lookBehind hoD (by rw [hdD]; exact pastItsLine_dict (Nat.le_trans hcD (by rw [List.length_cons]; omega))) ?_)
  wp_walk
  exact hq h' _ hn' hs
end
end L2
end
section
set_option Elab.async false
set_option linter.all false
set_option maxRecDepth 100000
set_option maxHeartbeats 2000000
namespace L2
open PySem PySem.Spec PyProof.Rows
open Builtin Builtin.ObjectAttr
section
variable {prog : Program} {w : World} {A : Around} {E : Value → Shared → Prop} {h : Heap} {g : Array GenState} {d : Drawn} {t : Nat} {os : OsState} {C fI a : Addr} {names : List Str} {mA : Str → Option Value} {name : Str} {v : Value} {o : Obj}
theorem xsa_call {B sa owner : String} {nm qn : Str} {N : Addr} {bs bm : List Value} {sn : List Str} {sub : List Value} {ab : Bool} {col : Option Bool} {dd : Option Addr} {k0 k1 k2 k3 k5 : Option Value} {newId : String} {tk : Tok} {R : Result → Shared → Prop} (SF : StoreFacts B bm sa owner)
    (hC : h.get? C = some (excClassObj nm qn C N bs bm true sn sub ab col dd k0 k1 k2 k3 k5 newId)) (hx : h.get? a = some o) (hc : o.cls = .ref C)
    (hq : ∀ (A' : Around) (E' : Value → Shared → Prop) (Q' : Fin → Shared → Prop), (∀ s', R (.ok (.ret .none)) s' → Q' (.done (.ret .none)) s') → wpAny (model prog w) A' (Builtin.«object.__setattr__» ⟨[.ref a, .str name tk, v], []⟩) Q' E' ⟨h, g, d, t, os⟩) :
    codeAny (model prog w) A (.call (.builtin sa) ⟨[.ref a, .str name tk, v], []⟩) R ⟨h, g, d, t, os⟩ := by
  refine codeAny_call_builtin SF.slot.plain SF.entry (wpAny_check_sa SF hC hx hc ?_)
  refine hq _ _ _ fun s' hs => ?_
  exact hs
theorem xstore_attr {K : PySem.W.Frag} {od : Option Obj} {Q : Unit → Shared → Prop} (X : K.In h) (hs : PySem.W.findIn K (.ref C) "__setattr__" = some (some (.builtin "object.__setattr__"))) (XC : ExcCls h C fI names) (I : PySem.W.InstAt h a o C od)
    (hq : ∀ (A' : Around) (E' : Value → Shared → Prop) (Q' : Fin → Shared → Prop), (∀ s', Q () s' → Q' (.done (.ret .none)) s') → wpAny (model prog w) A' (Builtin.«object.__setattr__» ⟨[.ref a, .str name t, v], []⟩) Q' E' ⟨h, g, d, t + 1, os⟩) :
    wpAny (model prog w) A (setAttr (.ref a) name v) Q E ⟨h, g, d, t, os⟩ := by
  refine PySem.W.set_plain (s := ⟨h, g, d, t, os⟩) X I hs ?_
  obtain ⟨nm, qn, N, bs, sn, sub, ab, col, dd, k0, k1, k2, k3, k5, hC, hn, hi, hno⟩ := XC.ex
  exact xsa_call F.store_ValueError hC I.at_ I.cls fun A' E' Q' k => hq A' E' Q' k
end
end L2
end
section
set_option Elab.async false
set_option linter.all false
set_option maxRecDepth 100000
set_option maxHeartbeats 2000000
namespace L2
open PySem PySem.Spec PyProof.Rows
def xNew (C a t : Addr) : HO := .ext fun h => h.get? a = some { cls := .ref C, data := .fields #[.ref t, .none, .none, .none, .bool false, .none] }
def xObj (C a dx t : Addr) : HO := .ext fun h => h.get? a = some { cls := .ref C, dict := some dx, data := .fields #[.ref t, .none, .none, .none, .bool false, .none] }
def xHeld (C a dx : Addr) : HO := .ext fun h => ∃ vs sl, h.get? a = some { cls := .ref C, dict := some dx, data := .fields vs, slots := sl }
def xDict (dx : Addr) (fs : List (Str × V)) : HO := .ext fun h => ∃ mA, h.Ns1 dx mA ∧ (∀ f, RelO (fs.lookup f) (mA f)) ∧ PySem.Within mA (fs.map (·.1))
section
variable {P : Program} {w : World} {H : Hp} {h : Heap} {C a dx t : Addr} {fs : List (Str × V)}
theorem ok_xNew (e : h.get? a = some { cls := .ref C, data := .fields #[.ref t, .none, .none, .none, .bool false, .none] }) : ObjOk P w H h a (xNew C a t) := ⟨e, ⟨_, e⟩, fun _ _ q k => k _ q⟩
theorem ok_xObj (e : h.get? a = some { cls := .ref C, dict := some dx, data := .fields #[.ref t, .none, .none, .none, .bool false, .none] }) : ObjOk P w H h a (xObj C a dx t) := ⟨e, ⟨_, e⟩, fun _ _ q k => k _ q⟩
theorem ok_xHeld {vs : Array Value} {sl : Array (Option Value)} (e : h.get? a = some { cls := .ref C, dict := some dx, data := .fields vs, slots := sl }) : ObjOk P w H h a (xHeld C a dx) := ⟨⟨vs, sl, e⟩, ⟨_, e⟩, fun _ _ ⟨vs, sl, q⟩ k => ⟨vs, sl, k _ q⟩⟩
theorem ok_xDict {mA : Str → Option Value} (n : h.Ns1 dx mA) (r : ∀ f, RelO (fs.lookup f) (mA f)) (q : PySem.Within mA (fs.map (·.1))) : ObjOk P w H h dx (xDict dx fs) :=
  ⟨⟨mA, n, r, q⟩, let ⟨o, _, _, e, _⟩ := n; ⟨o, e⟩, fun _ _ ⟨mA, n, r, q⟩ k => ⟨mA, n.at k, r, q⟩⟩
theorem of_xNew (ok : HOk P w H h) (e : H a = some (xNew C a t)) : h.get? a = some { cls := .ref C, data := .fields #[.ref t, .none, .none, .none, .bool false, .none] } := (ok a _ e).1
theorem of_xObj (ok : HOk P w H h) (e : H a = some (xObj C a dx t)) : h.get? a = some { cls := .ref C, dict := some dx, data := .fields #[.ref t, .none, .none, .none, .bool false, .none] } := (ok a _ e).1
theorem of_xHeld (ok : HOk P w H h) (e : H a = some (xHeld C a dx)) : ∃ vs sl, h.get? a = some { cls := .ref C, dict := some dx, data := .fields vs, slots := sl } := (ok a _ e).1
theorem of_xDict (ok : HOk P w H h) (e : H dx = some (xDict dx fs)) : ∃ mA, h.Ns1 dx mA ∧ (∀ f, RelO (fs.lookup f) (mA f)) ∧ PySem.Within mA (fs.map (·.1)) := (ok dx _ e).1
end
def IsExt : Option HO → Prop
  | some (.ext _) => True
  | _ => False
section
variable {P : Program} {w : World} {fs : List Addr} {H : Hp} {h h' : Heap} {a dx : Addr} {o1 o2 : HO}
theorem IsExt.ne {b : Addr} {u : HO} (m : IsExt (H a)) (e : H b = some u) (n : ¬ IsExt (some u)) : b ≠ a := fun z => by subst z; rw [e] at m; exact n m
theorem Un.write2 (m : IsExt (H a)) (hn : h.objs.size ≤ dx) (hd : H dx = none) (k : ∀ b u, b ≠ a → h.get? b = some u → h'.get? b = some u) (ha : ∃ u, h'.get? a = some u) : Un fs [] H (upd (upd H a o1) dx o2) h h' := by
  have na : ∀ b, H b = none → b ≠ a := fun b n z => by subst z; rw [n] at m; exact m
  have nd : ∀ b u, H b = some u → b ≠ dx := fun b u e => ne_of_none e hd
  refine ⟨fun b u e n _ _ => k b u (na b n) e, fun b u e n _ _ => ⟨u.slots, k b u (na b n) e⟩, fun b u e n _ => ?_, fun b u e _ => ?_, fun b xs e => ?_, fun b u xs e => ?_, fun b ps e => ⟨#[], ?_⟩⟩
  · rw [upd_ne (Nat.ne_of_lt (Nat.lt_of_lt_of_le (Heap.lt_size e) hn)), upd_ne (na b n)]; exact n
  · by_cases z : b = a
    · subst z; exact ha
    · exact ⟨u, k b u z e⟩
  · rw [upd_ne (nd b _ e), upd_ne (m.ne e fun z => z)]; exact e
  · rw [upd_ne (nd b _ e), upd_ne (m.ne e fun z => z)]; exact e
  · rw [upd_ne (nd b _ e), upd_ne (m.ne e fun z => z), e]; simp
theorem HOk.write2 (ok : HOk P w H h) (m : IsExt (H a)) (hd : H dx = none) (hne : a ≠ dx) (k : ∀ b u, b ≠ a → h.get? b = some u → h'.get? b = some u)
    (n1 : ObjOk P w (upd (upd H a o1) dx o2) h' a o1) (n2 : ObjOk P w (upd (upd H a o1) dx o2) h' dx o2) : HOk P w (upd (upd H a o1) dx o2) h' := fun b u e => by
  by_cases z : b = dx
  · subst z; rw [upd_same] at e; cases e; exact n2
  · rw [upd_ne z] at e
    by_cases z2 : b = a
    · subst z2; rw [upd_same] at e; cases e; exact n1
    · rw [upd_ne z2] at e
      refine (ok b u e).stay (fun c v hc q => k c v ?_ q) (fun c q => ?_) fun c xs q => ?_
      · rcases hc with rfl | hc
        · exact z2
        · exact m.ne hc fun z => z
      · rw [upd_ne (ne_of_none q hd), upd_ne (m.ne q fun z => z)]; exact q
      · rw [upd_ne (ne_of_none q hd), upd_ne (m.ne q fun z => z)]; exact q
end
structure XCls (K : PySem.W.Frag) (C fI : Addr) (names : List Str) : Prop where
  ex : excIn K C fI names = true
  sa : PySem.W.findIn K (.ref C) "__setattr__" = some (some (.builtin "object.__setattr__"))
  fn : PySem.W.isFn K (.ref fI) = true
  kp : PySem.W.keepIn K (.ref C) = true
def XNo (f : Str) : Prop := typeLookup (.type "ValueError") f = pure none
section
variable {X : Cx} {pins : List (Addr × Obj)} {σ : St} {H : Hp} {s : Shared} {a C fI dx t : Addr} {names : List Str} {fs : List (Str × V)} {f : Str} {v : V} {A : Around} {E : Value → Shared → Prop}
theorem xset0 {y : V} {u : Value} {Q : Unit → Shared → Prop} (I : Inv X pins σ H s) (e : H a = some (xNew C a t)) (c : XCls X.K C fI names) (hf : f ∈ names) (hno : XNo f) (ry : RelV y u)
    (h : ∀ s' dx, H dx = none → a ≠ dx → Inv X pins σ (upd (upd H a (xObj C a dx t)) dx (xDict dx [(f, y)])) s' → Q () s') : wpAny (model X.prog X.w) A (setAttr (.ref a) f u) Q E s := by
  have ob := of_xNew I.hok e
  have XC := exc_cls I.kIn c.ex
  have hd : H s.heap.objs.size = none := I.hok.fresh (Nat.le_refl _)
  have hne : a ≠ s.heap.objs.size := Nat.ne_of_lt (Heap.lt_size ob)
  have m : IsExt (H a) := by rw [e]; exact True.intro
  obtain ⟨hh, g, d, tk, os⟩ := s
  refine xstore_attr (od := none) I.kIn c.sa XC ⟨ob, rfl, rfl, True.intro⟩ fun A' E' Q' hQ => ?_
  refine xstore_entry0 XC hf hno ob rfl (fun _ z => nomatch z) rfl fun h' tk' e1 n1 k1 => hQ _ (h _ hh.objs.size hd hne ?_)
  refine I.un (t' := tk') (Un.write2 m (Nat.le_refl _) hd k1 ⟨_, e1⟩) (I.hok.write2 m hd hne k1 (ok_xObj e1) (ok_xDict n1 (fun g => ?_) fun g hg => ?_))
  · show RelO (List.lookup g [(f, y)]) (if g = f then some u else none)
    by_cases q : g = f
    · rw [if_pos q]; subst q; simp only [List.lookup, beq_self_eq_true]; exact ry
    · rw [if_neg q]
      have hb : (g == f) = false := beq_eq_false_iff_ne.mpr q
      simp only [List.lookup, hb]; exact True.intro
  · by_cases q : g = f
    · rw [q]; simp
    · exact absurd (if_neg q) hg
theorem xset1 {y : V} {u : Value} {Q : Unit → Shared → Prop} (I : Inv X pins σ H s) (e : H a = some (xObj C a dx t)) (ed : H dx = some (xDict dx fs)) (c : XCls X.K C fI names) (hf : f ∈ names) (hno : XNo f) (hl : fs.length < 1000) (ry : RelV y u)
    (h : ∀ s', Inv X pins σ (upd H dx (xDict dx (putF f y fs))) s' → Q () s') : wpAny (model X.prog X.w) A (setAttr (.ref a) f u) Q E s := by
  have ob := of_xObj I.hok e
  obtain ⟨mA, n, r, wi⟩ := of_xDict I.hok ed
  have XC := exc_cls I.kIn c.ex
  have hz : (fs.map (·.1)).length ≤ sizeLine := by rw [List.length_map, sizeLine_eq]; omega
  obtain ⟨od, es, ep, hod, _⟩ := id n
  obtain ⟨hh, g, d, tk, os⟩ := s
  refine xstore_attr (od := some od) I.kIn c.sa XC ⟨ob, rfl, rfl, hod⟩ fun A' E' Q' hQ => ?_
  refine xstore_entry1 XC hf hno ob rfl rfl n wi hz fun h' tk' n1 sb => hQ _ (h _ ?_)
  have hd' : ∃ o, h'.get? dx = some o := let ⟨o, _, _, e', _⟩ := n1; ⟨o, e'⟩
  refine I.write (x := dx) (e := dx) (by rw [ed]; exact True.intro) (.inl rfl) (fun b q hb z => (sb.2 b hb).trans z) hd' (ok_xDict n1 (fun g => ?_) fun g hg => ?_)
  · show RelO ((putF f y fs).lookup g) (if g = f then some u else mA g)
    rw [lookup_putF]
    by_cases q : g = f
    · rw [if_pos q, if_pos q]; exact ry
    · rw [if_neg q, if_neg q]; exact r g
  · by_cases q : g = f
    · rw [q]; exact (keys_putF f y fs).1
    · refine (keys_putF f y fs).2 g (wi g fun z => hg ?_)
      show (if g = f then some u else mA g) = none
      rw [if_neg q]; exact z
theorem xget {b : Bool} {Q : Value → Shared → Prop} (I : Inv X pins σ H s) (e : H a = some (xHeld C a dx)) (ed : H dx = some (xDict dx fs)) (hne : dx ≠ a) (c : XCls X.K C fI names) (hga : ("__getattribute__" : Str) ∈ names) (hgt : ("__getattr__" : Str) ∈ names)
    (hf : f ∈ names) (hno : XNo f) (l : fs.lookup f = some v) (h : ∀ u s', Inv X pins σ H s' → RelV v u → Q u s') : wpAny (model X.prog X.w) A (getAttr (.ref a) f b) Q E s := by
  obtain ⟨vs, sl, ob⟩ := of_xHeld I.hok e
  obtain ⟨mA, n, r, wi⟩ := of_xDict I.hok ed
  obtain ⟨u, hu, ru⟩ := RelO.some_of (v := v) (o := mA f) (by rw [← l]; exact r f)
  have XC := exc_cls I.kIn c.ex
  obtain ⟨hh, g, d, tk, os⟩ := s
  exact xload_attr XC hga hgt hf hno ⟨_, ob, rfl, (fun _ z => nomatch z), .inr ⟨dx, rfl, hne, n⟩⟩ hu (PySem.W.handedOut_of (handed_of ru)) (h u _ (I.tok _) ru)
end
def sX0 (K : PySem.W.Frag) (C fI : Addr) (names : List Str) (ta tv : TE) (f : Str) : TS := fun D σ H => tv σ H fun y H1 => ta σ H1 fun x H2 => ∃ a t, x = .ref a ∧ H2 a = some (xNew C a t) ∧ XCls K C fI names ∧ f ∈ names ∧ XNo f ∧
  ∀ dx, H2 dx = none → a ≠ dx → D.nx σ (upd (upd H2 a (xObj C a dx t)) dx (xDict dx [(f, y)]))
def sX1 (K : PySem.W.Frag) (C fI : Addr) (names : List Str) (ta tv : TE) (f : Str) : TS := fun D σ H => tv σ H fun y H1 => ta σ H1 fun x H2 => ∃ a dx t fs, x = .ref a ∧ H2 a = some (xObj C a dx t) ∧ H2 dx = some (xDict dx fs) ∧ XCls K C fI names ∧ f ∈ names ∧ XNo f ∧ fs.length < 1000 ∧
  D.nx σ (upd H2 dx (xDict dx (putF f y fs)))
def tXfld (K : PySem.W.Frag) (C fI : Addr) (names : List Str) (ta : TE) (f : Str) : TE := fun σ H Q => ta σ H fun x H1 => ∃ a dx fs v, x = .ref a ∧ H1 a = some (xHeld C a dx) ∧ H1 dx = some (xDict dx fs) ∧ dx ≠ a ∧ XCls K C fI names ∧ ("__getattribute__" : Str) ∈ names ∧ ("__getattr__" : Str) ∈ names ∧ f ∈ names ∧ XNo f ∧ fs.lookup f = some v ∧ Q v H1
section
variable {X : Cx} {o e value : Expr} {f : Str} {pos pos' tpos : Pos} {ta tv : TE} {C fI : Addr} {names : List Str}
theorem ps_x0 (ha : PE X o ta) (hv : PE X value tv) (hs : swapsWith value (some (.Attribute o f pos')) pos.line X.env = pure false) : PS X (.Assign [.Attribute o f pos'] value pos) (sX0 X.K C fI names ta tv f) := by
  intro pins s σ H D I h
  refine plainObj_wpAny_Assign_Attribute (thn (hv pins s σ H _ I h) fun u s1 ⟨y, H1, I1, ry, q⟩ => thn (ha pins s1 σ H1 _ I1 q) fun ov s2 ⟨x, H2, I2, rx, a, t, ex, ea, c, n, l, q2⟩ => ?_) hs
  subst ex
  obtain rfl : ov = Value.ref a := rx
  exact xset0 I2 ea c n l ry fun s3 dx d1 d2 I3 => ⟨σ, _, I3, q2 dx d1 d2⟩
theorem ps_x1 (ha : PE X o ta) (hv : PE X value tv) (hs : swapsWith value (some (.Attribute o f pos')) pos.line X.env = pure false) : PS X (.Assign [.Attribute o f pos'] value pos) (sX1 X.K C fI names ta tv f) := by
  intro pins s σ H D I h
  refine plainObj_wpAny_Assign_Attribute (thn (hv pins s σ H _ I h) fun u s1 ⟨y, H1, I1, ry, q⟩ => thn (ha pins s1 σ H1 _ I1 q) fun ov s2 ⟨x, H2, I2, rx, a, dx, t, fs, ex, ea, ed, c, n, l, hl, q2⟩ => ?_) hs
  subst ex
  obtain rfl : ov = Value.ref a := rx
  exact xset1 I2 ea ed c n l hl ry fun s3 I3 => ⟨σ, _, I3, q2⟩
theorem pe_xfld (he : PE X e ta) (hb : attributeBase e f X.env (eval e X.env) = eval e X.env) : PE X (.Attribute e f pos) (tXfld X.K C fI names ta f) := by
  intro pins s σ H Q I h
  refine attr_of hb (thn (he pins s σ H _ I h) fun u s1 ⟨x, H1, I1, rx, a, dx, fs, v, ex, ea, ed, ne, c, n1, n2, n3, n4, l, q⟩ => ?_)
  subst ex
  obtain rfl : u = Value.ref a := rx
  exact xget I1 ea ed ne c n1 n2 n3 n4 l fun u' s2 I2 ru => ⟨v, H1, I2, ru, q⟩
end
end L2
end
section
set_option Elab.async false
set_option linter.all false
set_option maxRecDepth 100000
set_option maxHeartbeats 2000000
namespace L2
open PySem PySem.Spec PyProof.Rows
section
variable {M : Model} {A : Around} {E : Value → Shared → Prop} {s : Shared}
structure Left (l : List Env) (e : Addr) (oe : Obj) (no : Addr → Prop) (h h' : Heap) : Prop where
  keep : ∀ b o, b ∉ frs l → b ≠ e → ¬ no b → h.get? b = some o → h'.get? b = some o
  slot : ∀ b o, b ∈ frs l → h.get? b = some o → ∃ sl, h'.get? b = some { o with slots := sl }
  exc : ∃ T oT ts, h'.get? e = some (oe.mapFields (·.setIfInBounds 1 (.ref T))) ∧ h.get? T = none ∧ T ≠ e ∧ h'.get? T = some oT ∧ oT.data = .fields ts ∧ ts[3]? = some .none
  there : ∀ b o, h.get? b = some o → ∃ o', h'.get? b = some o'
theorem xentry {base : Heap} {env : Env} {outer : List Env} {L e : Addr} {oe : Obj} {vs : Array Value} {head : Value} {hadNext : Bool} {Q : Unit → Shared → Prop}
    (hfr : A.frames = some (env :: outer)) (hl : s.heap.FunFrames base (env :: outer)) (hf : env.frame = some L)
    (he : s.heap.get? e = some oe) (hd : oe.data = .fields vs) (hsz : 1 < vs.size)
    (h : ∀ h', Left (env :: outer) e oe (fun _ => False) s.heap h' → Q () { s with heap := h' }) :
    wpAny M A (do let a ← frameOf env; let pl ← entryPlaceOf L hadNext; let b ← EntryCells.newEntry head a .none (rawInt L) .none pl; setField (.ref e) 1 b) (fun _ s' => wpAny M A (setFlight (.ref e) none) Q E s') E s := by
  have hene : e ∉ (env :: outer).filterMap (·.frame) := fun hm => by
    obtain ⟨_, o, ho, hnf⟩ := hl.mem hm
    rw [he] at ho; injection ho with ho; subst ho; exact hnf vs hd
  refine wpAny_bind (wpAny_frameOf_fun hfr hl hf fun h₁ hs₁ => ?_)
  refine wpAny_bind (wpAny_entryPlaceOf fun pl hpl => ?_)
  unfold EntryCells.newEntry newFields
  refine wpAny_bind (wpAny_newObj_type ?_ (hpl.sizeOk5 _ _ _ _ _))
  have he₁ : h₁.get? e = some oe := (hs₁.2.1 e hene).trans he
  have he₂ := Heap.get?_push_of_some (h := h₁) { cls := .type "traceback", dict := none, data := .fields ([head, .ref L, .none, rawInt L, .none] ++ (if pl.isEmpty then List.replicate 6 Value.none else pl)).toArray } he₁
  refine wpAny_setField he₂ hd hsz ?_
  have hTe : h₁.objs.size ≠ e := Nat.ne_of_gt (Heap.lt_size he₁)
  have hd₃ := Obj.data_mapFields hd (·.setIfInBounds 1 (Value.ref h₁.objs.size))
  have he₃ := Heap.get?_update_self (Obj.mapFields (·.setIfInBounds 1 (Value.ref h₁.objs.size))) he₂ (Obj.isFreed_of_fields hd₃)
  have hT₃ := (Heap.get?_update_other (h₁.push { cls := .type "traceback", dict := none, data := .fields ([head, .ref L, .none, rawInt L, .none] ++ (if pl.isEmpty then List.replicate 6 Value.none else pl)).toArray })
    (Obj.mapFields (·.setIfInBounds 1 (Value.ref h₁.objs.size))) (Ne.symm hTe)).trans (Heap.get?_push_size h₁ rfl)
  unfold setFlight
  refine wpAny_bind (wpAny_field he₃ hd₃ (x := .ref h₁.objs.size) (by simp [hsz]) ?_)
  rw [if_pos (show (Value.ref h₁.objs.size != Value.none) = true from by simp)]
  refine wpAny_setField hT₃ rfl (by simp only [List.size_toArray, List.length_append, List.length_cons, List.length_nil] <;> omega) (h _ ?_)
  have keep : ∀ b o, b ≠ e → h₁.get? b = some o →
      (((h₁.push { cls := .type "traceback", dict := none, data := .fields ([head, .ref L, .none, rawInt L, .none] ++ (if pl.isEmpty then List.replicate 6 Value.none else pl)).toArray }).update e (Obj.mapFields (·.setIfInBounds 1 (Value.ref h₁.objs.size)))).update h₁.objs.size
        (Obj.mapFields (·.setIfInBounds 3 ((none : Option Addr).elim Value.none fun f => rawInt f)))).get? b = some o := fun b o hbe hb => by
    have hbT : h₁.objs.size ≠ b := Nat.ne_of_gt (Heap.lt_size hb)
    rw [Heap.get?_update_other _ _ hbT, Heap.get?_update_other _ _ (Ne.symm hbe)]
    exact Heap.get?_push_of_some _ hb
  have exc4 := (Heap.get?_update_other (((h₁.push { cls := .type "traceback", dict := none, data := .fields ([head, .ref L, .none, rawInt L, .none] ++ (if pl.isEmpty then List.replicate 6 Value.none else pl)).toArray }).update e (Obj.mapFields (·.setIfInBounds 1 (Value.ref h₁.objs.size)))))
        (Obj.mapFields (·.setIfInBounds 3 ((none : Option Addr).elim Value.none fun f => rawInt f))) hTe).trans he₃
  refine ⟨fun b o hb hbe _ ho => keep b o hbe ((hs₁.2.1 b hb).trans ho), fun b o hb ho => ?_, ⟨h₁.objs.size, _, _, exc4, ?_, hTe, Heap.get?_update_self _ hT₃ (Obj.isFreed_of_fields (Obj.data_mapFields rfl _)), Obj.data_mapFields rfl _, by first | (simp; done) | (rcases hpl with rfl | ⟨_, _, _, _, _, _, _, rfl⟩ <;> simp)⟩, fun b o ho => ?_⟩
  · obtain ⟨sl, hs⟩ := hs₁.2.2 b o ho
    exact ⟨sl, keep b _ (fun z => hene (by rw [← z]; exact hb)) hs⟩
  · cases q : s.heap.get? h₁.objs.size with
    | none => rfl
    | some o =>
      obtain ⟨sl, hs⟩ := hs₁.2.2 _ o q
      exact absurd (Heap.lt_size hs) (Nat.lt_irrefl _)
  · by_cases z : b = e
    · subst z; exact ⟨_, exc4⟩
    · obtain ⟨sl, hs⟩ := hs₁.2.2 b o ho
      exact ⟨_, keep b _ z hs⟩
theorem xnoting {base : Heap} {env : Env} {outer : List Env} {L e : Addr} {oe : Obj} {vs : Array Value} {no : Addr → Prop} {Q : Unit → Shared → Prop}
    (hfr : A.frames = some (env :: outer)) (hl : s.heap.FunFrames base (env :: outer)) (hf : env.frame = some L)
    (he : s.heap.get? e = some oe) (hd : oe.data = .fields vs)
    (h1 : vs[1]? = some .none ∨ ∃ T oT ts, vs[1]? = some (.ref T) ∧ T ≠ e ∧ no T ∧ s.heap.get? T = some oT ∧ oT.data = .fields ts ∧ ts[3]? = some .none)
    (h : ∀ h', Left (env :: outer) e oe no s.heap h' → Q () { s with heap := h' }) : wpAny M A (noteFrame (.ref e) env) (fun _ s' => wpAny M A (setFlight (.ref e) none) Q E s') E s := by
  unfold noteFrame
  simp only [hf]
  rcases h1 with h1 | ⟨T, oT, ts, h1, hTe, hno, hT, hdT, h3⟩
  · refine wpAny_bind (wpAny_field he hd h1 ?_)
    rw [if_neg (by decide)]
    exact xentry hfr hl hf he hd (Array.getElem?_eq_some_iff.mp h1).1 fun h' x => h h' ⟨fun b o a1 a2 _ => x.keep b o a1 a2 fun z => z, x.slot, x.exc, x.there⟩
  · refine wpAny_bind (wpAny_field he hd h1 ?_)
    rw [if_pos (show (Value.ref T != Value.none) = true from by simp)]
    refine wpAny_bind (wpAny_field hT hdT h3 ?_)
    rw [if_neg (show ¬ ((Value.none == rawInt L) = true) from by simp [rawInt])]
    refine wpAny_bind (wpAny_setField hT hdT (Array.getElem?_eq_some_iff.mp h3).1 ?_)
    have other : ∀ b, b ≠ T → (s.heap.update T (Obj.mapFields (·.setIfInBounds 3 Value.none))).get? b = s.heap.get? b := fun b hb => Heap.get?_update_other _ _ (Ne.symm hb)
    have self := Heap.get?_update_self (Obj.mapFields (·.setIfInBounds 3 Value.none)) hT (Obj.isFreed_of_fields (Obj.data_mapFields hdT _))
    have noRecord : ∀ b o, s.heap.get? b = some o → (∀ vs, o.data ≠ .fields vs) → b ≠ T := fun b o hb hnf q => by
      rw [q, hT] at hb; injection hb with hb; subst hb; exact hnf ts hdT
    have noFr : ∀ b ∈ frs (env :: outer), b ≠ T := fun b hb => by
      obtain ⟨_, o, ho, hnf⟩ := hl.mem hb
      exact noRecord b o ho hnf
    refine xentry hfr (hl.of_keeps fun b o hb hnf => ⟨o, (other b (noRecord b o hb hnf)).trans hb, rfl⟩) hf ((other e (Ne.symm hTe)).trans he) hd (Array.getElem?_eq_some_iff.mp h1).1 fun h' x => h h' ⟨fun b o a1 a2 a3 ho => x.keep b o a1 a2 (fun z => z) ((other b fun q => a3 (by rw [q]; exact hno)).trans ho), fun b o hb ho => x.slot b o hb ((other b (noFr b hb)).trans ho), ?_, fun b o ho => ?_⟩
    · obtain ⟨T', oT', ts', y1, y2, y3⟩ := x.exc
      refine ⟨T', oT', ts', y1, ?_, y3⟩
      by_cases z : T' = T
      · rw [z, self] at y2; cases y2
      · rw [← other T' z]; exact y2
    · by_cases z : b = T
      · rw [z] at ho ⊢
        exact x.there T _ self
      · exact x.there b o ((other b z).trans ho)
theorem xleaving {base : Heap} {env : Env} {outer : List Env} {L e : Addr} {oe : Obj} {vs : Array Value} {no : Addr → Prop} {Q : Unit → Shared → Prop}
    (hfr : A.frames = some (env :: outer)) (hl : s.heap.FunFrames base (env :: outer)) (hf : env.frame = some L) (he : s.heap.get? e = some oe) (hd : oe.data = .fields vs)
    (h1 : vs[1]? = some .none ∨ ∃ T oT ts, vs[1]? = some (.ref T) ∧ T ≠ e ∧ no T ∧ s.heap.get? T = some oT ∧ oT.data = .fields ts ∧ ts[3]? = some .none)
    (h : ∀ h', Left (env :: outer) e oe no s.heap h' → Q () { s with heap := h' }) : wpAny M A (leaving env (.ref e)) Q E s := by
  unfold leaving
  exact wpAny_bind (xnoting hfr hl hf he hd h1 h)
theorem xlanded {e T : Addr} {oe oT : Obj} {vs ts : Array Value} {Q : Unit → Shared → Prop} (he : s.heap.get? e = some oe) (hd : oe.data = .fields vs) (h1 : vs[1]? = some (.ref T)) (hT : s.heap.get? T = some oT) (hdT : oT.data = .fields ts) (h3 : ts[3]? = some .none)
    (h : Q () s) : wpAny M A (setFlight (.ref e) none) Q E s := by
  refine wpAny_setFlight_none he hd h1 hT hdT (Array.getElem?_eq_some_iff.mp h3).1 ?_
  rw [Heap.update_setField_same s.heap T oT ts 3 .none hT hdT h3]
  exact h
end
end L2
end
section
set_option Elab.async false
set_option linter.all false
set_option maxRecDepth 100000
set_option maxHeartbeats 2000000
namespace L2
open PySem PySem.Spec PyProof.Rows
theorem ObjOk.ex {P : Program} {w : World} {H : Hp} {h : Heap} {a : Addr} {o : HO} (x : ObjOk P w H h a o) : ∃ ob, h.get? a = some ob := by
  cases o with
  | lst xs => obtain ⟨_, _, _, _, e⟩ := x; exact ⟨_, e⟩
  | tup xs => obtain ⟨_, _, _, o, e, _⟩ := x; exact ⟨_, e⟩
  | dK kvs => obtain ⟨_, _, _, _, o, _, _, e, _⟩ := x; exact ⟨_, e⟩
  | dT kvs => obtain ⟨_, _, _, _, o, _, _, e, _⟩ := x; exact ⟨_, e⟩
  | set S n => obtain ⟨o, _, _, _, e, _⟩ := x; exact ⟨_, e⟩
  | ins C dx fs => obtain ⟨_, _, _, e, _⟩ := x; exact ⟨_, e⟩
  | own y => obtain ⟨_, e⟩ := x; exact ⟨_, e⟩
  | xd fs => obtain ⟨_, ⟨_, _, _, e, _⟩, _⟩ := x; exact ⟨_, e⟩
  | rng lo hi => obtain ⟨_, _, _, e⟩ := x; exact ⟨_, e⟩
  | frz ob u => obtain ⟨e, _⟩ := x; exact ⟨_, e⟩
  | tbl ps => exact ⟨_, (show h.get? a = some _ from x)⟩
  | met f y => exact ⟨_, (show h.get? a = some _ from x)⟩
  | ext φ => obtain ⟨_, ⟨_, e⟩, _⟩ := x; exact ⟨_, e⟩
theorem HOk.non {P : Program} {w : World} {H : Hp} {h : Heap} {a : Addr} (x : HOk P w H h) (e : h.get? a = none) : H a = none := by
  cases q : H a with
  | none => rfl
  | some u =>
    obtain ⟨ob, e'⟩ := (x a u q).ex
    rw [e] at e'; cases e'
structure Fly (H' : Hp) (h h' : Heap) (a C dx : Addr) : Prop where
  na : h.get? a = none
  ha : H' a = none
  ne : dx ≠ a
  tr : ∃ vs sl T oT ts, h'.get? a = some { cls := .ref C, dict := some dx, data := .fields vs, slots := sl } ∧ vs[1]? = some (.ref T) ∧ h.get? T = none ∧ H' T = none ∧ T ≠ a ∧ h'.get? T = some oT ∧ oT.data = .fields ts ∧ ts[3]? = some .none
def CX1 (P : Program) (w : World) : CXT := fun outer H s E e s' => ∃ (a C dx : Addr) (H' : Hp), e = .ref a ∧ s'.os = s.os ∧ AllBare s'.gens ∧ Un (frs outer) [] H H' s.heap s'.heap ∧ HOk P w H' s'.heap ∧ Fly H' s.heap s'.heap a C dx ∧ E (.ref C) (some dx) H'
structure XOut (X : Cx) (E : XK) : Prop where
  out : ∀ e s', wpAny (model X.prog X.w) X.A (leaving X.env e) (fun _ s'' => CX1 X.prog X.w X.outer X.H_0 X.s_0 E e s'') (fun e' s'' => CX1 X.prog X.w X.outer X.H_0 X.s_0 E e' s'') s' → X.xe e s'
  stk : X.stack = X.env :: X.outer
  fr : X.env.frame = some X.env.locals
  ex : X.ex = []
section
variable {X : Cx} {pins : List (Addr × Obj)} {σ : St} {H H' : Hp} {s s' : Shared} {E : XK} {a C dx : Addr}
theorem Inv.old (I : Inv X pins σ H s) (ex : X.ex = []) {b : Addr} (e : s.heap.get? b = none) : X.s_0.heap.get? b = none := by
  cases q : X.s_0.heap.get? b with
  | none => rfl
  | some o =>
    obtain ⟨o', e'⟩ := I.base.there b o q (by rw [ex]; simp)
    rw [e] at e'; cases e'
theorem fly_out {vs : Array Value} {sl : Array (Option Value)} (I : Inv X pins σ H s) (O : XOut X E) (na : X.s_0.heap.get? a = none) (ha : H a = none) (hne : dx ≠ a)
    (he : s.heap.get? a = some { cls := .ref C, dict := some dx, data := .fields vs, slots := sl })
    (h1 : vs[1]? = some .none ∨ ∃ T oT ts, vs[1]? = some (.ref T) ∧ T ≠ a ∧ (X.s_0.heap.get? T = none ∧ H T = none) ∧ s.heap.get? T = some oT ∧ oT.data = .fields ts ∧ ts[3]? = some .none)
    (hE : E (.ref C) (some dx) H) : X.xe (.ref a) s := by
  refine O.out _ _ ?_
  have hst := I.stack
  rw [O.stk] at hst
  refine xleaving (no := fun T => X.s_0.heap.get? T = none ∧ H T = none) (by rw [I.ok.frames, O.stk]) hst O.fr he rfl h1 fun h' x => ?_
  have frm : ∀ b, b ∈ frs (X.env :: X.outer) → H b = none := fun b hb => I.stkFree b (by rw [O.stk]; exact hb)
  have ex0 : ∀ b, b ∉ X.ex := fun b z => by rw [O.ex] at z; simp at z
  have nloc : ∀ b o, X.s_0.heap.get? b = some o → b ∉ X.fs → b ∉ frs (X.env :: X.outer) := fun b o e hb z => by
    rcases List.mem_cons.mp (show b ∈ X.env.locals :: X.fs from by unfold frs at z; rw [List.filterMap_cons, O.fr] at z; exact z) with q | q
    · exact Nat.ne_of_lt (Nat.lt_of_lt_of_le (Heap.lt_size e) I.ok.above) q
    · exact hb q
  have inFr : ∀ b, b ∈ X.fs → b ∈ frs (X.env :: X.outer) := fun b hb => by unfold frs; rw [List.filterMap_cons, O.fr]; exact List.mem_cons_of_mem _ hb
  obtain ⟨T, oT, ts, y1, y2, y3, y4, y5, y6⟩ := x.exc
  refine ⟨a, C, dx, H, rfl, I.os, I.bare, ⟨fun b o e n hb _ => ?_, fun b o e n hb _ => ?_, fun b o e n _ => I.base.free b o e n (ex0 b), fun b o e _ => ?_, I.base.tups, I.base.frzs, I.base.tbls⟩, fun b u e => ?_, ⟨na, ha, hne, _, _, T, oT, ts, y1, ?_, I.old O.ex y2, I.hok.non y2, y3, y4, y5, y6⟩, hE⟩
  · refine x.keep b o (nloc b o e hb) (fun z => ?_) (fun z => ?_) (I.base.keep b o e n hb (ex0 b))
    · rw [z, na] at e; cases e
    · rw [z.1] at e; cases e
  · obtain ⟨sl1, e1⟩ := I.base.slot b o e n hb (ex0 b)
    obtain ⟨sl2, e2⟩ := x.slot b _ (inFr b hb) e1
    exact ⟨sl2, e2⟩
  · obtain ⟨o1, e1⟩ := I.base.there b o e (ex0 b)
    exact x.there b o1 e1
  · have kp : ∀ c q, H c ≠ none → s.heap.get? c = some q → h'.get? c = some q := fun c q n e' => x.keep c q (fun z => n (frm c z)) (fun z => n (by rw [z]; exact ha)) (fun z => n z.2) e'
    refine (I.hok b u e).stay (fun c v hc q => kp c v ?_ q) (fun _ q => q) fun _ _ q => q
    rcases hc with rfl | hc
    · rw [e]; simp
    · rw [hc]; simp
  · have hsz : 1 < vs.size := by
      rcases h1 with h1 | ⟨_, _, _, h1, _⟩ <;> exact (Array.getElem?_eq_some_iff.mp h1).1
    simp [hsz]
theorem passX (O : XOut X E) : Passes (CX1 X.prog X.w) X E := by
  intro pins σ H s e s' I h
  obtain ⟨a, C, dx, H', rfl, os, bare, un, hok, fl, hE⟩ := h
  have I' : Inv X pins σ H' s' := I.call' os un hok bare (fun b z => absurd z (by simp))
  obtain ⟨vs, sl, T, oT, ts, e1, e2, e3, e4, e5, e6, e7, e8⟩ := fl.tr
  exact fly_out I' O (I.old O.ex fl.na) fl.ha fl.ne e1 (.inr ⟨T, oT, ts, e2, e5, ⟨I.old O.ex e3, e4⟩, e6, e7, e8⟩) hE
end
def del (H : Hp) (a : Addr) : Hp := fun b => if b = a then none else H b
theorem del_same {H : Hp} {a : Addr} : del H a a = none := by unfold del; rw [if_pos rfl]
theorem del_ne {H : Hp} {a b : Addr} (h : b ≠ a) : del H a b = H b := by unfold del; rw [if_neg h]
section
variable {X : Cx} {pins : List (Addr × Obj)} {σ : St} {H H' : Hp} {s s' : Shared} {E : XK} {a C dx t : Addr}
theorem Inv.untrack (I : Inv X pins σ H s) (m : IsExt (H a)) : Inv X pins σ (del H a) s := by
  have nt : ∀ b u, H b = some u → ¬ IsExt (some u) → del H a b = some u := fun b u e n => by rw [del_ne (m.ne e n)]; exact e
  refine ⟨I.ok, I.os, I.bare, ⟨I.base.keep, I.base.slot, fun b o e n hx => ?_, I.base.there, fun b xs e => nt b _ (I.base.tups b xs e) fun z => z, fun b o u e => nt b _ (I.base.frzs b o u e) fun z => z, fun b ps e => ?_⟩, I.loc, I.cell, ?_, fun x c e => ?_, fun p hp => ?_, fun b u e => ?_, I.len⟩
  · have := I.base.free b o e n hx
    unfold del; split
    · rfl
    · exact this
  · obtain ⟨more, e1⟩ := I.base.tbls b ps e
    exact ⟨more, nt b _ e1 fun z => z⟩
  · unfold del; split
    · rfl
    · exact I.free
  · unfold del; split
    · rfl
    · exact I.freeC x c e
  · obtain ⟨p1, p2, p3⟩ := I.pin p hp
    refine ⟨p1, ?_, p3⟩
    unfold del; split
    · rfl
    · exact p2
  · have hb : b ≠ a := fun z => by rw [z, del_same] at e; cases e
    rw [del_ne hb] at e
    exact (I.hok b u e).stay (fun _ _ _ q => q) (fun c q => nt c _ q fun z => z) fun c xs q => nt c _ q fun z => z
theorem Inv.laid0 {o : HO} {h' : Heap} {t' : Nat} (I : Inv X pins σ H s) (k : ∀ b u, s.heap.get? b = some u → h'.get? b = some u) (hp : s.heap.get? a = none) (new : ObjOk X.prog X.w (upd H a o) h' a o) :
    Inv X pins σ (upd H a o) { s with heap := h', toks := t' } := by
  have hn : H a = none := I.hok.non hp
  have na : ∀ b u, s.heap.get? b = some u → b ≠ a := fun b u e z => by rw [z, hp] at e; cases e
  refine I.un ⟨fun b u q _ _ _ => k b u q, fun b u q _ _ _ => ⟨u.slots, k b u q⟩, fun b u q n _ => ?_, fun b u q _ => ⟨u, k b u q⟩, fun b xs q => ?_, fun b u xs q => ?_, fun b ps q => ⟨#[], ?_⟩⟩ fun b u e => ?_
  · rw [upd_ne (na b u q)]; exact n
  · rw [upd_ne (ne_of_none q hn)]; exact q
  · rw [upd_ne (ne_of_none q hn)]; exact q
  · rw [upd_ne (ne_of_none q hn), q]; simp
  · by_cases hb : b = a
    · subst hb; rw [upd_same] at e; cases e; exact new
    · rw [upd_ne hb] at e
      exact (I.hok b u e).stay (fun c v _ q => k c v q) (fun c q => by rw [upd_ne (ne_of_none q hn)]; exact q) fun c xs q => by rw [upd_ne (ne_of_none q hn)]; exact q
end
def spXI (C : Addr) (ks : List Str) : Sp := fun vs H Q _ => ∃ (a t : Addr) (ys : List V), vs = .ref a :: ys ∧ ys.length = ks.length ∧ H a = some (xNew C a t) ∧
  ∀ (dx : Addr) (H' : Hp), H dx = none → dx ≠ a → H' a = some (xObj C a dx t) → H' dx = some (xDict dx (ks.zip ys)) → (∀ b o, H b = some o → b ≠ a → H' b = some o) → Q .non H'
def tRaise (C : Addr) (ks : List Str) (E : XK) (t : TA) : TS := fun _ σ H => t σ H fun vs H1 => vs.length = ks.length ∧ ∀ (dx : Addr) (H2 : Hp), H1 dx = none → Same H1 H2 → H2 dx = some (xDict dx (ks.zip vs)) → E (.ref C) (some dx) H2
theorem raise_stmt {M : Model} {A : Around} {E : Value → Shared → Prop} {env : Env} {s : Shared} {x : Sem Value} {C fI : Addr} {names : List Str} {Q : Flow → Shared → Prop} (hh : A.handled = none)
    (h : wpAny M A x (fun v s₁ => ∃ e t dx, v = .ref e ∧ ExcCls s₁.heap C fI names ∧
      s₁.heap.get? e = some { cls := .ref C, dict := some dx, data := .fields #[.ref t, .none, .none, .none, .bool false, .none] } ∧ E (.ref e) s₁) E s) :
    wpAny M A (raiseStmt env (some x) none) Q E s := by
  have hcB : (Value.ref C :: bmVE).contains (.type "BaseException") = true := by rw [List.contains_cons]; simp [bmVE]
  unfold raiseStmt
  refine wpAny_bind (wpAny_mono h (fun v s₁ h₁ => ?_) fun _ _ x => x)
  obtain ⟨e, t, dx, rfl, XC, he, hE⟩ := h₁
  obtain ⟨nm, qn, N, bs, sn, sub, ab, col, dd, k0, k1, k2, k3, k5, hC, _, _, _⟩ := XC.ex
  obtain ⟨hp, g, d, tk, os⟩ := s₁
  repeat (first | with_reducible refine wpAny_loadPart_at he ?_ | with_reducible refine wpAny_loadPart_at hC ?_ | (with_reducible refine wpAny_isSubtype_exc hC ?_; rw [hcB]) | wp_step)
  exact wpAny_raiseNew_none hh hE
section
variable {X : Cx} {k : Nat} {C fI : Addr} {fdI : FuncData} {names ks psI : List Str} {E : XK} {x : Str} {p pos cpos : Pos} {e : Expr} {es : List Expr} {t : TA}
theorem ps_raise (O : XOut X E) (hc : X.calm = true) (c : XCls X.K C fI names) (F : FnOk X.prog X.w X.K X.mg X.base (CX1 X.prog X.w) k fI fdI psI (spXI C ks)) (hr : Room (k + 1) X.A) (hb : Binds X.K fdI psI []) (hg : Gl X x) (hm : X.mg x = some (.ref C))
    (hks : ks.length ≤ 1000) (ha : PA X (e :: es) t) (hdb : (x == ("__debug__" : Str)) = false := by decide) (he : starEach (e :: es) X.env = (false, eval e X.env) :: starEach es X.env := by rfl) (hpl : (backTo cpos (starEach es X.env)).any (·.1) = false := by rfl) :
    PS X (.Raise (some (.Call (.Name x p) (e :: es) [] cpos)) none pos) (tRaise C ks E t) := by
  intro pins s σ H D I h
  rw [arm_exec_Raise]
  refine wpAny_bind (wpAny_standAt (raise_stmt (C := C) (fI := fI) (names := names) (I.ok.hd hc) (wpAny_bind (thn (Q := fun v s₁ => ∃ e t dx, v = .ref e ∧ ExcCls s₁.heap C fI names ∧
      s₁.heap.get? e = some { cls := .ref C, dict := some dx, data := .fields #[.ref t, .none, .none, .none, .bool false, .none] } ∧ X.xe (.ref e) s₁) ?_ fun v s1 q => wpAny_bind (wpAny_standAt (wpAny_pure q))))))
  refine wpAny_Call_Name_kw (ld_glob I hg hm ?_ hdb)
  refine PySem.W.callWith_K (h₀ := X.base) I.ok.mod.kin c.kp (thn (ha cpos pins s σ H _ I h) fun us s1 ⟨vs, H1, I1, r, hl, q⟩ => ⟨I1.kIn, ?_⟩) he hpl
  have XC := exc_cls I1.kIn c.ex
  obtain ⟨nm, qn, N, bs, sn, sub, ab, col, dd, k0, k1, k2, k3, k5, hC, hn, hi, hno⟩ := XC.ex
  obtain ⟨oI, hoI, hcI⟩ := Option.map_eq_some_iff.mp (show (X.K.lookup fI).map (·.cls) = some (.type "function") from beq_iff_eq.mp c.fn)
  have hlen : us.length ≤ sizeLine := by rw [← r.length, hl, sizeLine_eq]; omega
  obtain ⟨hh, g, d, tk, os⟩ := s1
  refine wpAny_call_exc_init (show ExcBaseFacts "ValueError" "ValueError.__new__" "ValueError.__init__" bmVE from PySem.F.excBase_ValueError) hC hn hi (I1.kIn _ _ hoI) hcI (fun h' a hmade => ?_) hlen
  obtain ⟨t, oa, ot, ott⟩ := hmade.there
  have I2 : Inv X pins σ (upd H1 a (xNew C a t)) ⟨h', g, d, tk, os⟩ := I1.laid0 (t' := tk) hmade.keeps hmade.new (ok_xNew oa)
  have na1 : H1 a = none := I1.hok.non hmade.new
  have r2 : Vals (V.ref a :: vs) (Value.ref a :: us) := .cons rfl r
  have hsp : spXI C ks (V.ref a :: vs) (upd H1 a (xNew C a t)) (fun v H2 => v = .non ∧ ∃ dx, dx ≠ a ∧ H2 a = some (xObj C a dx t) ∧ E (.ref C) (some dx) (del H2 a)) (fun _ _ _ => False) := by
    refine ⟨a, t, vs, rfl, hl, upd_same, fun dx H' d1 d2 d3 d4 d5 => ⟨rfl, dx, d2, d3, ?_⟩⟩
    rw [upd_ne d2] at d1
    refine q dx (del H' a) d1 (fun b o e => ?_) (by rw [del_ne d2]; exact d4)
    have hba : b ≠ a := ne_of_none e na1
    rw [del_ne hba]
    exact d5 b o (by rw [upd_ne hba]; exact e) hba
  have hl2 : (Value.ref a :: us).length = psI.length := by rw [← r2.length]; exact F.len _ _ _ _ hsp
  refine wpAny_call (codeAny_mono (F.run _ X.stack _ _ ⟨Value.ref a :: us, []⟩ (Value.ref a :: us) _ _ _ (hr.make C us []) (I2.env0.make C us []) (by have := hb ⟨h', g, d, tk, os⟩ (Value.ref a :: us) I2.kIn (by simpa using hl2); simpa using this) r2 hsp) fun r s' hq => ?_)
  cases r with
  | error e =>
    obtain ⟨_, _, _, _, _, _, _, _, _, _, hf⟩ := hq
    exact hf.elim
  | ok fl =>
    cases fl with
    | ret u =>
      obtain ⟨v, H', I3, rv, ev, dx, hne, hobj, hE⟩ := I2.after hq
      subst ev
      have ob := of_xObj I3.hok hobj
      refine ⟨rv, a, t, dx, rfl, exc_cls I3.kIn c.ex, ob, ?_⟩
      exact fly_out (I3.untrack (by rw [hobj]; exact True.intro)) O (I1.old O.ex hmade.new) del_same hne ob (.inl rfl) hE
    | next => exact False.elim hq
    | brk => exact False.elim hq
    | cont => exact False.elim hq
end
section
variable {P : Program} {w : World} {K : PySem.W.Frag} {mg : Str → Option Value} {base : Heap}
theorem Fun.okX {x qual : Str} {st : Stmt} {f : Addr} {fd : FuncData} {N ps : List Str} {k : Nat} {sp : Sp} (F : Fun K x qual st f fd) (S : FnScope N ps (defScope st)) (len : ∀ vs H Q E, sp vs H Q E → vs.length = ps.length)
    (hbody : ∀ (cdv : Value) (A : Around) (outer : List Env) (s : Shared) (H : Hp) (vs : List V) (Q : VK) (E : XK), Room k (A.deeper (envOfC qual (defScope st) s.heap.objs.size f cdv)) → sp vs H Q E →
      ∃ t, PSs (cxOf (CX1 P w) P w K mg base N qual (defScope st) f cdv A outer s H E) (defBody st) t ∧ t { nx := fun _ H' => Q .non H', rt := Q } (start N vs) H) : FnOk P w K mg base (CX1 P w) (k + 1) f fd ps sp := by
  obtain ⟨oc, od, kV, doc, pm, an, cdv, ct, osl, rfl, lk, hcd⟩ := F.ex
  refine fn_of lk hcd S len fun A outer s H vs Q E hr hsp => ?_
  obtain ⟨t, h, q⟩ := hbody cdv A outer s H vs Q E hr hsp
  exact ⟨t, h, q⟩
theorem xout {N : List Str} {qual : Str} {sc : Scope} {f : Addr} {cdv : Value} {A : Around} {outer : List Env} {s : Shared} {H : Hp} {E : XK} : XOut (cxOf (CX1 P w) P w K mg base N qual sc f cdv A outer s H E) E :=
  ⟨fun _ _ h => h, rfl, rfl, rfl⟩
theorem own1 {N : List Str} {qual : Str} {sc : Scope} {f : Addr} {cdv : Value} {A : Around} {outer : List Env} {s : Shared} {H : Hp} {E : XK} :
    PassesOwn (model P w) (cxOf (CX1 P w) P w K mg base N qual sc f cdv A outer s H E).A (cxOf (CX1 P w) P w K mg base N qual sc f cdv A outer s H E).env (cxOf (CX1 P w) P w K mg base N qual sc f cdv A outer s H E).xe := PassesOwn.leaving
end
end L2
end
section
set_option Elab.async false
set_option linter.all false
set_option maxRecDepth 100000
set_option maxHeartbeats 2000000
namespace L2
open PySem PySem.Spec PyProof.Rows
section
variable {X : Cx} {pins : List (Addr × Obj)} {σ : St} {H : Hp} {s : Shared} {a : Addr} {oe : Obj} {no : Addr → Prop} {h' : Heap}
theorem Inv.noted (I : Inv X pins σ H s) (stk : X.stack = X.env :: X.outer) (fr : X.env.frame = some X.env.locals) (ex : X.ex = []) (na : X.s_0.heap.get? a = none) (ha : H a = none) (oa : s.heap.get? a = some oe) (da : ∃ vs, oe.data = .fields vs)
    (hno : ∀ b, no b → X.s_0.heap.get? b = none ∧ H b = none ∧ ∃ o vs, s.heap.get? b = some o ∧ o.data = .fields vs) (hp : ∀ p ∈ X.pn ++ pins, p.1 ≠ a ∧ ¬ no p.1)
    (x : Left (X.env :: X.outer) a oe no s.heap h') : Inv X pins σ H { s with heap := h' } := by
  have frm : ∀ b, b ∈ frs (X.env :: X.outer) → H b = none := fun b hb => I.stkFree b (by rw [stk]; exact hb)
  have ex0 : ∀ b, b ∉ X.ex := fun b z => by rw [ex] at z; simp at z
  have memF : ∀ b, b ∈ frs (X.env :: X.outer) ↔ b = X.env.locals ∨ b ∈ X.fs := fun b => by unfold frs; rw [List.filterMap_cons, fr]; exact List.mem_cons
  have nloc : ∀ b o, X.s_0.heap.get? b = some o → b ∉ X.fs → b ∉ frs (X.env :: X.outer) := fun b o e hb z => by
    rcases (memF b).mp z with q | q
    · exact Nat.ne_of_lt (Nat.lt_of_lt_of_le (Heap.lt_size e) I.ok.above) q
    · exact hb q
  have plain : ∀ b o, s.heap.get? b = some o → (∀ vs, o.data ≠ .fields vs) → ∃ sl, h'.get? b = some { o with slots := sl } := fun b o e hd => by
    by_cases hb : b ∈ frs (X.env :: X.outer)
    · exact x.slot b o hb e
    · refine ⟨o.slots, x.keep b o hb (fun z => ?_) (fun z => ?_) e⟩
      · obtain ⟨vs, q⟩ := da
        rw [z, oa] at e; cases e; exact hd vs q
      · obtain ⟨_, _, o1, vs, e1, q⟩ := hno b z
        rw [e] at e1; cases e1; exact hd vs q
  have cellK : ∀ c v, s.heap.IsCell c v → h'.IsCell c v := fun c v ⟨o, ho, hd⟩ => by
    obtain ⟨sl, q⟩ := plain c o ho fun vs z => by rw [hd] at z; cases z
    exact ⟨_, q, hd⟩
  refine ⟨I.ok, I.os, I.bare, ⟨fun b o e n hb _ => ?_, fun b o e n hb _ => ?_, fun b o e n _ => I.base.free b o e n (ex0 b), fun b o e _ => ?_, I.base.tups, I.base.frzs, I.base.tbls⟩, ?_, fun y c e => ?_, I.free, I.freeC, fun p hpp => ?_, fun b u e => ?_, I.len⟩
  · refine x.keep b o (nloc b o e hb) (fun z => ?_) (fun z => ?_) (I.base.keep b o e n hb (ex0 b))
    · rw [z, na] at e; cases e
    · rw [(hno b z).1] at e; cases e
  · obtain ⟨sl1, e1⟩ := I.base.slot b o e n hb (ex0 b)
    obtain ⟨sl2, e2⟩ := x.slot b _ ((memF b).mpr (.inr hb)) e1
    exact ⟨sl2, e2⟩
  · obtain ⟨o1, e1⟩ := I.base.there b o e (ex0 b)
    exact x.there b o1 e1
  · obtain ⟨m, ⟨o, es, ep, ho, hd, r⟩, hl⟩ := I.loc
    obtain ⟨sl, q⟩ := plain X.env.locals o ho fun vs z => by rw [hd] at z; cases z
    refine ⟨m, ⟨_, es, ep, q, hd, r⟩, fun i y v e1 e2 e3 => ?_⟩
    obtain ⟨u, ru, l⟩ := hl i y v e1 e2 e3
    refine ⟨u, ru, ?_⟩
    rcases l with l | ⟨k, c, e, z⟩
    · exact .inl l
    · exact .inr ⟨k, c, e, cellK c _ z⟩
  · obtain ⟨v, z⟩ := I.cell y c e
    exact ⟨v, cellK c v z⟩
  · obtain ⟨e, n, ne, nf, d⟩ := I.pin p hpp
    refine ⟨x.keep p.1 p.2 (fun z => ?_) (hp p hpp).1 (hp p hpp).2 e, n, ne, nf, d⟩
    rcases (memF p.1).mp z with q | q
    · exact ne q
    · exact nf q
  · have kp : ∀ c q, H c ≠ none → s.heap.get? c = some q → h'.get? c = some q := fun c q n e' => x.keep c q (fun z => n (frm c z)) (fun z => n (by rw [z]; exact ha)) (fun z => n (hno c z).2.1) e'
    refine (I.hok b u e).stay (fun c v hc q => kp c v ?_ q) (fun _ q => q) fun _ _ q => q
    rcases hc with rfl | hc
    · rw [e]; simp
    · rw [hc]; simp
theorem Inv.track {o : HO} {vs : Array Value} (I : Inv X pins σ H s) (na : X.s_0.heap.get? a = none) (ha : H a = none) (oa : s.heap.get? a = some oe) (da : oe.data = .fields vs) (hp : ∀ p ∈ X.pn ++ pins, p.1 ≠ a) (new : ObjOk X.prog X.w (upd H a o) s.heap a o) : Inv X pins σ (upd H a o) s := by
  have nt : ∀ b u, H b = some u → upd H a o b = some u := fun b u e => by rw [upd_ne (ne_of_none e ha)]; exact e
  refine ⟨I.ok, I.os, I.bare, ⟨I.base.keep, I.base.slot, fun b ob e n hx => ?_, I.base.there, fun b xs e => nt b _ (I.base.tups b xs e), fun b ob u e => nt b _ (I.base.frzs b ob u e), fun b ps e => ?_⟩, I.loc, I.cell, ?_, fun x c e => ?_, fun p hpp => ?_, fun b u e => ?_, I.len⟩
  · rw [upd_ne fun z => by rw [z, na] at e; cases e]; exact I.base.free b ob e n hx
  · obtain ⟨more, e1⟩ := I.base.tbls b ps e
    exact ⟨more, nt b _ e1⟩
  · rw [upd_ne fun z => ?_]; exact I.free
    obtain ⟨m, ⟨ob, es, ep, ho, hd, _⟩, _⟩ := I.loc
    rw [z, oa] at ho; cases ho; rw [da] at hd; cases hd
  · rw [upd_ne fun z => ?_]; exact I.freeC x c e
    obtain ⟨v, ob, ho, hd⟩ := I.cell x c e
    rw [z, oa] at ho; cases ho; rw [da] at hd; cases hd
  · obtain ⟨p1, p2, p3⟩ := I.pin p hpp
    exact ⟨p1, by rw [upd_ne (hp p hpp)]; exact p2, p3⟩
  · by_cases hb : b = a
    · subst hb; rw [upd_same] at e; cases e; exact new
    · rw [upd_ne hb] at e
      exact (I.hok b u e).stay (fun _ _ _ q => q) (fun c q => nt c _ q) fun c xs q => nt c _ q
theorem Inv.forget {m' : Str → Option Value} {t' : Nat} (I : Inv X pins σ H s) (hn : h'.Ns X.env.locals m') (hs : Heap.SameBut X.env.locals s.heap h') : Inv X pins (List.replicate X.N.length none) H { s with heap := h', toks := t' } := by
  obtain ⟨m, ⟨oL, _, _, hoL, _⟩, _⟩ := id I.loc
  have nl : ∀ b o, X.s_0.heap.get? b = some o → b ≠ X.env.locals := fun b o e => Nat.ne_of_lt (Nat.lt_of_lt_of_le (Heap.lt_size e) I.ok.above)
  refine ⟨I.ok, I.os, I.bare, ⟨fun b o e n hb hx => ?_, fun b o e n hb hx => ?_, I.base.free, fun b o e hx => ?_, I.base.tups, I.base.frzs, I.base.tbls⟩, ⟨_, hn, fun j y v' e1 e2 e3 => ?_⟩, fun y c e => ?_, I.free, I.freeC, fun p hp => ?_, fun b u e => ?_, by simp⟩
  · exact (hs.2 b (nl b o e)).trans (I.base.keep b o e n hb hx)
  · obtain ⟨sl, e1⟩ := I.base.slot b o e n hb hx
    exact ⟨sl, (hs.2 b (nl b o e)).trans e1⟩
  · obtain ⟨o', e1⟩ := I.base.there b o e hx
    exact ⟨o', (hs.2 b (nl b o e)).trans e1⟩
  · rw [List.getElem?_replicate] at e2
    split at e2 <;> cases e2
  · obtain ⟨v, z⟩ := I.cell y c e
    exact ⟨v, z.sameBut hs (I.cne y c e)⟩
  · obtain ⟨e, n, ne, nf, d⟩ := I.pin p hp
    exact ⟨(hs.2 p.1 ne).trans e, n, ne, nf, d⟩
  · refine (I.hok b u e).stay (fun c v hc q => (hs.2 c ?_).trans q) (fun _ q => q) fun _ _ q => q
    rintro rfl
    rcases hc with rfl | hc
    · rw [I.free] at e; cases e
    · rw [I.free] at hc; cases hc
end
def inSuite (X : Cx) (a : Addr) : Cx := { X with A := X.A.mark (some (.ref a)), calm := false, xe := fun _ _ => False }
section
variable {X : Cx} {pins : List (Addr × Obj)} {σ : St} {H : Hp} {s : Shared} {a : Addr}
theorem Inv.suite (I : Inv X pins σ H s) (a : Addr) : Inv (inSuite X a) pins σ H s :=
  ⟨⟨I.ok.mod, I.ok.kind, I.ok.glob, I.ok.blt, I.ok.above, I.ok.inj, I.ok.has, I.ok.cab, (fun z => Bool.noConfusion (show false = true from z)), I.ok.frames, I.ok.stk, I.ok.exf, I.ok.bs, I.ok.bsz, I.ok.noex, I.ok.exfs, I.ok.funs, I.ok.frf⟩, I.os, I.bare, I.base, I.loc, I.cell, I.free, I.freeC, I.pin, I.hok, I.len⟩
theorem Inv.unsuite {σ' : St} {H' : Hp} {s' : Shared} (I : Inv X pins σ H s) (J : Inv (inSuite X a) pins σ' H' s') : Inv X pins σ' H' s' := ⟨I.ok, J.os, J.bare, J.base, J.loc, J.cell, J.free, J.freeC, J.pin, J.hok, J.len⟩
end
section
variable {X : Cx} {k : Nat} {C fI f : Addr} {fd : FuncData} {names ps : List Str} {sp : Sp} {x xc y n : Str} {p pc py pos cpos apos hpos : Pos} {e : Expr} {es : List Expr} {t : TA} {th : TS} {b₀ : Stmt} {suite : List Stmt} {i j : Nat}
end
end L2
end
section
set_option Elab.async false
set_option linter.all false
set_option maxRecDepth 100000
set_option maxHeartbeats 2000000
namespace L2
open PySem PySem.Spec PyProof.Rows
structure RoomH (k : Nat) (A : Around) : Prop where
  dp : A.depth + 3 * k + 5 < recursionLimit
  un : A.units + 16 * k + 200 < cLine
theorem RoomH.deeper {k : Nat} {A : Around} (r : RoomH (k + 1) A) (env : Env) : RoomH k (A.deeper env) :=
  ⟨by have := r.dp; show A.depth + 1 + 3 * k + 5 < _; omega, by have := r.un; show A.units + 3 + 16 * k + 200 < _; omega⟩
theorem RoomH.of {k : Nat} {X : Cx} (r : Room k X.A) (a : Addr) : RoomH k (inSuite X a).A := ⟨r.dp, r.un⟩
structure FnOkH (P : Program) (w : World) (K : PySem.W.Frag) (mg : Str → Option Value) (base : Heap) (k : Nat) (f : Addr) (fd : FuncData) (ps : List Str) (sp : Sp) : Prop where
  len : ∀ vs H Q E, sp vs H Q E → vs.length = ps.length
  run : ∀ (A : Around) (outer : List Env) (s : Shared) (H : Hp) (args : Args) (us : List Value) (vs : List V) (Q : VK), RoomH k A → Env0 P w K mg base A outer s H → BindsTo s fd args (ps.zip us) → Vals vs us → sp vs H Q E0 →
    codeAny (model P w) A (.call (.ref f) args) (CR CX0 outer P w H s Q E0) s
def cxH (P : Program) (w : World) (K : PySem.W.Frag) (mg : Str → Option Value) (base : Heap) (N : List Str) (qual : Str) (scope : Scope) (f : Addr) (cd : Value) (A : Around) (outer : List Env) (s : Shared) (H : Hp) : Cx :=
  { cxOf CX0 P w K mg base N qual scope f cd A outer s H E0 with calm := false, xe := fun _ _ => False }
theorem Fun.okH {P : Program} {w : World} {K : PySem.W.Frag} {mg : Str → Option Value} {base : Heap} {x qual : Str} {st : Stmt} {f : Addr} {fd : FuncData} {N ps : List Str} {k : Nat} {sp : Sp} (F : Fun K x qual st f fd) (S : FnScope N ps (defScope st)) (len : ∀ vs H Q E, sp vs H Q E → vs.length = ps.length)
    (hbody : ∀ (cdv : Value) (A : Around) (outer : List Env) (s : Shared) (H : Hp) (vs : List V) (Q : VK), RoomH k (A.deeper (envOfC qual (defScope st) s.heap.objs.size f cdv)) → sp vs H Q E0 →
      ∃ t, PSs (cxH P w K mg base N qual (defScope st) f cdv A outer s H) (defBody st) t ∧ t { nx := fun _ H' => Q .non H', rt := Q } (start N vs) H) : FnOkH P w K mg base (k + 1) f fd ps sp := by
  obtain ⟨oc, od, kV, doc, pm, an, cdv, ct, osl, rfl, lk, hcd⟩ := F.ex
  refine ⟨len, fun A outer s H args us vs Q hr e0 hb r hsp => ?_⟩
  have hl := len _ _ _ _ hsp
  have KX : K.In s.heap := e0.mod.kin.keeps fun b o e => (e0.bs b o e).1
  have lim : s.heap.NoLimit := e0.mod.nolimit.keeps fun b o e => (e0.bs b o e).1
  have hkind : ∀ y ∈ ps.zip us, (defScope st).names.lookup y.1 = some .local ∨ ((defScope st).names.lookup y.1 = some .cell ∧ ((cellsFrom (s.heap.objs.size + 1) (defScope st).names []).lookup y.1).isSome = true) := fun ⟨n, v⟩ hy => by
    rcases S.par n (List.of_mem_zip hy).1 with q | q
    · exact .inl q
    · exact .inr ⟨q, PySem.W.cellsFrom_some _ _ _ (.inl q)⟩
  refine codeAny_call_function (by have := hr.dp; omega) (KX _ _ lk) rfl S.co S.gen rfl (PySem.W.codeRec_of KX hcd) (hb _ _ _ _ ?_)
  refine wpAny_newFunctionEnv_cells S.kind hkind fun env he s1 x => ?_
  subst he
  refine ⟨lim.keeps x.toInCall.keep, codeAny_func ?_⟩
  obtain ⟨t, ht, hq⟩ := hbody cdv A outer s H vs Q (hr.deeper _) hsp
  have e1 : Env0 P w K mg base { A with handled := none } outer s H := ⟨e0.frames, e0.mod, e0.bs, e0.bsz, e0.funs, e0.frf, e0.hok, e0.bare⟩
  have I0 : Inv (cxOf CX0 P w K mg base N qual (defScope st) f cdv { A with handled := none } outer s H E0) [] (start N vs) H s1 := inv_start S rfl e1 hl r x
  have I : Inv (cxH P w K mg base N qual (defScope st) f cdv A outer s H) [] (start N vs) H s1 :=
    ⟨⟨I0.ok.mod, I0.ok.kind, I0.ok.glob, I0.ok.blt, I0.ok.above, I0.ok.inj, I0.ok.has, I0.ok.cab, (fun z => Bool.noConfusion (show false = true from z)), I0.ok.frames, I0.ok.stk, I0.ok.exf, I0.ok.bs, I0.ok.bsz, I0.ok.noex, I0.ok.exfs, I0.ok.funs, I0.ok.frf⟩, I0.os, I0.bare, I0.base, I0.loc, I0.cell, I0.free, I0.freeC, I0.pin, I0.hok, I0.len⟩
  refine wpAny_mono (ht [] s1 (start N vs) H _ I hq) (fun fl s' hs => ?_) fun _ _ z => False.elim z
  have fin : ∀ {σ' : St} {H' : Hp} {v : V} {u : Value}, Inv (cxH P w K mg base N qual (defScope st) f cdv A outer s H) [] σ' H' s' → RelV v u → Q v H' → CE outer P w H s Q u s' :=
    fun {σ' H' v u} J rv q => ⟨v, H', J.os, J.bare, J.base, J.hok, rv, q⟩
  cases fl with
  | ret u =>
    obtain ⟨v, σ', H', J, rv, q⟩ := hs
    exact fin J rv q
  | next =>
    obtain ⟨σ', H', J, q⟩ := hs
    exact fin (v := V.non) (u := Value.none) J rfl q
  | brk =>
    obtain ⟨_, _, _, q⟩ := hs
    exact False.elim q
  | cont =>
    obtain ⟨_, _, _, q⟩ := hs
    exact False.elim q
section
variable {X : Cx} {k : Nat} {f : Addr} {fd : FuncData} {ps : List Str} {sp : Sp} {x : Str} {p pos : Pos} {e : Expr} {es : List Expr} {t : TA}
theorem pe_callH (F : FnOkH X.prog X.w X.K X.mg X.base k f fd ps sp) (hr : RoomH k X.A) (hg : Gl X x) (hm : X.mg x = some (.ref f)) (hk : PySem.W.keepIn X.K (.ref f) = true) (hb : Binds X.K fd ps [])
    (ha : PA X (e :: es) t) (hdb : (x == ("__debug__" : Str)) = false := by decide) (he : starEach (e :: es) X.env = (false, eval e X.env) :: starEach es X.env := by rfl) (hpl : (backTo pos (starEach es X.env)).any (·.1) = false := by rfl) :
    PE X (.Call (.Name x p) (e :: es) [] pos) (tCall sp [] E0 t) := by
  intro pins s σ H Q I h
  refine wpAny_Call_Name_kw (ld_glob I hg hm ?_ hdb)
  refine PySem.W.callWith_K (h₀ := X.base) I.ok.mod.kin hk (thn (ha pos pins s σ H _ I h) fun us s1 ⟨vs, H1, I1, r, q⟩ => ⟨I1.kIn, ?_⟩) he hpl
  have q : sp (vs ++ []) H1 Q E0 := q
  rw [List.append_nil] at q
  have hl : us.length = ps.length := by rw [← r.length]; exact F.len _ _ _ _ q
  refine wpAny_call (codeAny_mono (F.run X.A X.stack s1 H1 ⟨us, []⟩ us vs _ hr I1.env0 (by have := hb s1 us I1.kIn (by simpa using hl); simpa using this) r q) fun r s' hq => ?_)
  cases r with
  | error ev => exact False.elim hq
  | ok fl =>
    cases fl with
    | ret u => exact I1.after hq
    | next => exact False.elim hq
    | brk => exact False.elim hq
    | cont => exact False.elim hq
end
end L2
end
section
set_option Elab.async false
set_option linter.all false
set_option maxRecDepth 100000
set_option maxHeartbeats 2000000
namespace HT
open PySem PySem.Spec PyProof.Rows
section
open PySem.SeqAt
open PySem.AutoSeq1 (wpAny_loadPart')
open PySem.MeetsSeq PySem.MeetsSeq2 PySem.MeetsSeq3
theorem IntsAre.at {vs : List Value} {ns : List Int} (h : IntsAre vs ns) : ∀ {i : Nat}, i < vs.length → ∃ a t, vs[i]? = some (.int a t) ∧ ns[i]? = some a := by
  induction h with
  | nil => intro i hi; simp at hi
  | cons n t _ ih =>
    intro i hi
    cases i with
    | zero => exact ⟨n, t, rfl, rfl⟩
    | succ i => exact ih (by simpa using hi)
theorem lt_loopL (l b : Addr) (its its2 : Array Value) (n n2 : Nat) (ns ms : List Int) (hi : IntsAre its.toList ns) (hj : IntsAre its2.toList ms) (k : Nat) :
    ∀ i : Nat, its.size - i = k → i ≤ its.size → i ≤ its2.size → Meets (Builtin.«list.__eq__.loop» ⟨[.ref l, .ref b, rawInt i, rawInt 0], []⟩)
      (fun _ R s => s.heap.get? l = some { cls := .type "list", dict := none, data := .seq its n, slots := #[] } ∧ s.heap.get? b = some { cls := .type "list", dict := none, data := .seq its2 n2, slots := #[] } ∧
        R (.ok (.ret (.bool (lexLt (ns.drop i) (ms.drop i))))) s) := by
  have z1 : its.size = ns.length := by rw [← hi.length]; simp
  have z2 : its2.size = ms.length := by rw [← hj.length]; simp
  induction k with
  | zero =>
    intro i hk h1 h2 prog w A R s h
    obtain ⟨hp, g, d, tk, os⟩ := s; obtain ⟨hl, hb, h⟩ := h
    wp_walk using wpAny_loadPart' hl, wpAny_loadPart' hb
    have e1 : its[((i : Nat) : Int).toNat]? = none := by simp; omega
    have hd : ns.drop i = [] := by simp; omega
    rw [hd] at h
    rw [e1]
    wp_walk using wpAny_loadPart' hl, wpAny_loadPart' hb
    show R (.ok (.ret (.bool (decide (its.size < its2.size))))) _
    have e2 : lexLt [] (ms.drop i) = decide (its.size < its2.size) := by
      cases q : ms.drop i with
      | nil =>
        have : ms.length ≤ i := List.drop_eq_nil_iff.mp q
        rw [lexLt_nil_nil]; exact (decide_eq_false (by omega)).symm
      | cons y ys =>
        have : i < ms.length := by
          have := congrArg List.length q
          rw [List.length_drop, List.length_cons] at this; omega
        rw [lexLt_nil_cons]; exact (decide_eq_true (by omega)).symm
    rw [← e2]; exact h
  | succ k ih =>
    intro i hk h1 h2 prog w A R s h
    obtain ⟨hp, g, d, tk, os⟩ := s; obtain ⟨hl, hb, h⟩ := h
    have hlt : i < its.size := by omega
    obtain ⟨a, t, ea, na⟩ := IntsAre.at hi (i := i) (by simpa using hlt)
    have e1 : its[((i : Nat) : Int).toNat]? = some (.int a t) := by simpa using ea
    have dn : ns.drop i = a :: ns.drop (i + 1) := by
      obtain ⟨q1, q2⟩ := List.getElem?_eq_some_iff.mp na
      rw [List.drop_eq_getElem_cons q1, q2]
    wp_walk using wpAny_loadPart' hl, wpAny_loadPart' hb
    rw [e1]
    by_cases hlt2 : i < its2.size
    · obtain ⟨c, u, ec, nc⟩ := IntsAre.at hj (i := i) (by simpa using hlt2)
      have e2 : its2[((i : Nat) : Int).toNat]? = some (.int c u) := by simpa using ec
      have dm : ms.drop i = c :: ms.drop (i + 1) := by
        obtain ⟨q1, q2⟩ := List.getElem?_eq_some_iff.mp nc
        rw [List.drop_eq_getElem_cons q1, q2]
      rw [dn, dm, lexLt_cons] at h
      rw [e2]
      obtain ⟨e, he, hiff⟩ := eqAt_int A.in1 ⟨hp, g, d, tk, os⟩ a t c u
      refine wpAny_bind (he prog w _ _ ?_)
      have hc : ((i : Int) + 1) = ((i + 1 : Nat) : Int) := by omega
      cases e with
      | true =>
        rw [if_pos (hiff.mp rfl)] at h
        wp_walk
        rw [hc]
        exact ⟨plainId_quiet plain_eq_loop _, codeAny_builtin entry_eq_loop (by
          rw [Around.under_plainId plain_eq_loop _]
          exact ih (i + 1) (by omega) (by omega) (by omega) prog w A R _ ⟨hl, hb, h⟩)⟩
      | false =>
        rw [if_neg (fun q => absurd (hiff.mpr q) Bool.false_ne_true)] at h
        wp_walk using wpAny_loadPart' hl, wpAny_loadPart' hb
        rw [e1, e2]
        have hri := rcLt_int A.in1 ⟨hp, g, d, tk, os⟩ a t c u prog w
        wp_walk using hri
        exact h
    · have e2 : its2[((i : Nat) : Int).toNat]? = none := by simp; omega
      have dm : ms.drop i = [] := by simp; omega
      rw [dn, dm, lexLt_cons_nil] at h
      rw [e2]
      wp_walk using wpAny_loadPart' hl, wpAny_loadPart' hb
      show R (.ok (.ret (.bool (decide (its.size < its2.size))))) _
      rw [decide_eq_false (by omega)]; exact h
theorem list_ltL (l b : Addr) (its its2 : Array Value) (n n2 : Nat) (ns ms : List Int) (hi : IntsAre its.toList ns) (hj : IntsAre its2.toList ms) :
    Meets (Builtin.«list.__lt__» ⟨[.ref l, .ref b], []⟩)
      (fun _ R s => s.heap.get? l = some { cls := .type "list", dict := none, data := .seq its n, slots := #[] } ∧ s.heap.get? b = some { cls := .type "list", dict := none, data := .seq its2 n2, slots := #[] } ∧
        R (.ok (.ret (.bool (lexLt ns ms)))) s) := by
  intro prog w A R s h
  obtain ⟨hp, g, d, tk, os⟩ := s; obtain ⟨hl, hb, h⟩ := h
  have f3 := AutoSeq1.sub_list_list
  wp_walk using wpAny_loadPart' hl, wpAny_loadPart' hb
  exact ⟨plainId_quiet plain_eq_loop _, codeAny_builtin entry_eq_loop (by
    rw [Around.under_plainId plain_eq_loop _]
    exact lt_loopL l b its its2 n n2 ns ms hi hj _ 0 rfl (Nat.zero_le _) (Nat.zero_le _) prog w A R _ ⟨hl, hb, by simpa using h⟩)⟩
end
end HT
end
section
set_option Elab.async false
set_option linter.all false
set_option maxRecDepth 100000
set_option maxHeartbeats 2000000
namespace HT
open PySem PySem.Spec PyProof.Rows
section
variable {prog : Program} {w : World} {A : Around} {E : Value → Shared → Prop} {s : Shared}
end
section
open PySem.AutoSeq1 (wpAny_loadPart')
end
end HT
namespace L2
open PySem PySem.Spec PyProof.Rows
section
variable {X : Cx}
theorem list_obj {pins : List (Addr × Obj)} {σ : St} {H : Hp} {s : Shared} {a : Addr} {xs : List V} (I : Inv X pins σ H s) (h : H a = some (.lst xs)) : ∃ (its : List Value) (n : Nat), Vals xs its ∧ s.heap.get? a = some { cls := .type "list", data := .seq its.toArray n } := by
  obtain ⟨_, its, n, r, e⟩ := I.hok a _ h
  exact ⟨its, n, r, e⟩
def rLtO : R2 := fun x y H Q => ∃ a b ns ms, x = .ref a ∧ y = .ref b ∧ H a = some (.lst (ns.map V.int)) ∧ H b = some (.lst (ms.map V.int)) ∧ Q (.bl (HT.lexLt ns ms)) H
theorem op_ltO (hu : X.A.units < cLine) : OpR X (compareOp .Lt) rLtO := by
  intro pins s σ H x y v u Q I rx ry h
  obtain ⟨a, b, ns, ms, rfl, rfl, ha, hb, q⟩ := h
  cases rx
  cases ry
  obtain ⟨its, n, r1, e1⟩ := list_obj I ha
  obtain ⟨its2, n2, r2, e2⟩ := list_obj I hb
  exact richCompare_meets_room (op := .Lt) ⟨_, e1, rfl⟩ ⟨_, e2, rfl⟩ PySem.F.slot_list_lt PySem.F.entry_list_lt (PySem.F.args_list_lt_2 _ _) (HT.list_ltL a b its.toArray its2.toArray n n2 ns ms (by simpa using intsAre_of r1) (by simpa using intsAre_of r2))
    ⟨e1, e2, show Value.bool (HT.lexLt ns ms) ≠ Value.notImplemented ∧ EP X pins σ Q (.bool (HT.lexLt ns ms)) s from ⟨(fun x => nomatch x), .bl _, H, I, rfl, q⟩⟩ hu
end
end L2
end
section
set_option Elab.async false
set_option linter.all false
set_option maxRecDepth 100000
set_option maxHeartbeats 2000000
namespace L2
open PySem PySem.Spec PyProof.Rows
structure Cal (P : Program) (w : World) (K : PySem.W.Frag) (mg : Str → Option Value) (base : Heap) (x : Str) (k : Nat) (ps : List Str) (sp : Sp) : Prop where
  ex : ∃ f fd, FnOk P w K mg base (CX1 P w) k f fd ps sp ∧ mg x = some (.ref f) ∧ PySem.W.keepIn K (.ref f) = true ∧ Binds K fd ps []
def tFn (sp : Sp) (E : XK) (t : TA) : TE := fun σ H Q => t σ H fun vs H1 => sp vs H1 Q E
section
variable {X : Cx} {k : Nat} {C f : Addr} {ps ks : List Str} {sp : Sp} {E : XK} {x : Str} {p pos : Pos} {e : Expr} {es : List Expr} {t : TA}
theorem pe_fn (c : Cal X.prog X.w X.K X.mg X.base x k ps sp) (hr : Room k X.A) (O : XOut X E) (hg : Gl X x) (ha : PA X (e :: es) t)
    (hdb : (x == ("__debug__" : Str)) = false := by decide) (he : starEach (e :: es) X.env = (false, eval e X.env) :: starEach es X.env := by rfl) (hpl : (backTo pos (starEach es X.env)).any (·.1) = false := by rfl) :
    PE X (.Call (.Name x p) (e :: es) [] pos) (tFn sp E t) := by
  obtain ⟨f, fd, F, hm, hk, hb⟩ := c.ex
  intro pins s σ H Q I h
  refine wpAny_Call_Name_kw (ld_glob I hg hm ?_ hdb)
  refine PySem.W.callWith_K (h₀ := X.base) I.ok.mod.kin hk (thn (ha pos pins s σ H _ I h) fun us s1 ⟨vs, H1, I1, r, q⟩ => ⟨I1.kIn, ?_⟩) he hpl
  have q' : sp (vs ++ []) H1 Q E := by rw [List.append_nil]; exact q
  exact run_fn F hr hb .nil (passX O) I1 r q'
def spInit (C : Addr) (ks : List Str) : Sp := fun vs H Q _ => ∃ (a dx : Addr) (ys : List V), vs = .ref a :: ys ∧ ys.length = ks.length ∧ H a = some (.ins C dx []) ∧
  ∀ H' : Hp, H' a = some (.ins C dx (ks.zip ys)) → (∀ b o, H b = some o → b ≠ a → H' b = some o) → Q .non H'
structure Mak (P : Program) (w : World) (K : PySem.W.Frag) (mg : Str → Option Value) (base : Heap) (x : Str) (C : Addr) (k : Nat) (ks : List Str) : Prop where
  ex : ∃ f fd ps, FnOk P w K mg base (CX1 P w) k f fd ps (spInit C ks) ∧ mg x = some (.ref C) ∧ Mk K C f ∧ Binds K fd ps []
def tMk (C : Addr) (ks : List Str) (t : TA) : TE := fun σ H Q => t σ H fun vs H1 => vs.length = ks.length ∧ ∀ (a dx : Addr) (H2 : Hp), H1 a = none → Same H1 H2 → H2 a = some (.ins C dx (ks.zip vs)) → Q (.ref a) H2
theorem pe_mk (c : Mak X.prog X.w X.K X.mg X.base x C k ks) (hr : Room (k + 1) X.A) (O : XOut X E) (hg : Gl X x) (ha : PA X (e :: es) t)
    (hdb : (x == ("__debug__" : Str)) = false := by decide) (he : starEach (e :: es) X.env = (false, eval e X.env) :: starEach es X.env := by rfl) (hpl : (backTo pos (starEach es X.env)).any (·.1) = false := by rfl) :
    PE X (.Call (.Name x p) (e :: es) [] pos) (tMk C ks t) := by
  obtain ⟨f, fd, ps, F, hm, M, hb⟩ := c.ex
  intro pins s σ H Q I h
  refine wpAny_Call_Name_kw (ld_glob I hg hm ?_ hdb)
  refine PySem.W.callWith_K (h₀ := X.base) I.ok.mod.kin M.kp (thn (ha pos pins s σ H _ I h) fun us s1 ⟨vs, H1, I1, r, hl, q⟩ => ⟨I1.kIn, ?_⟩) he hpl
  refine run_make M F hr hb .nil (passX O) I1 r fun a dx na nd hne => ⟨a, dx, vs, by rw [List.append_nil], hl, upd_same, fun H' h1 h2 => ⟨rfl, ?_⟩⟩
  exact q a dx H' na (Same.made na nd h2) h1
end
structure Rais (P : Program) (w : World) (K : PySem.W.Frag) (mg : Str → Option Value) (base : Heap) (x : Str) (C : Addr) (k : Nat) (ks : List Str) : Prop where
  ex : ∃ f fd ps names, XCls K C f names ∧ FnOk P w K mg base (CX1 P w) k f fd ps (spXI C ks) ∧ Binds K fd ps [] ∧ mg x = some (.ref C) ∧ ks.length ≤ 1000
section
variable {X : Cx} {k : Nat} {C : Addr} {ks : List Str} {E : XK} {x : Str} {p pos cpos : Pos} {e : Expr} {es : List Expr} {t : TA}
theorem ps_rais (c : Rais X.prog X.w X.K X.mg X.base x C k ks) (hr : Room (k + 1) X.A) (O : XOut X E) (hc : X.calm = true) (hg : Gl X x) (ha : PA X (e :: es) t)
    (hdb : (x == ("__debug__" : Str)) = false := by decide) (he : starEach (e :: es) X.env = (false, eval e X.env) :: starEach es X.env := by rfl) (hpl : (backTo cpos (starEach es X.env)).any (·.1) = false := by rfl) :
    PS X (.Raise (some (.Call (.Name x p) (e :: es) [] cpos)) none pos) (tRaise C ks E t) := by
  obtain ⟨f, fd, ps, names, c1, F, hb, hm, hk⟩ := c.ex
  exact ps_raise O hc c1 F hr hb hg hm hk ha hdb he hpl
end
theorem for_gen {J : It} {n : Nat} {g : TG} {tb : TS} {D : Ends} {σ : St} {H : Hp} (Pv : Nat → St → Hp → Prop) (h0 : Pv 0 σ H) (hgo : ∀ i σ H, i < n → Pv i σ H → J.go i H) (hst : ∀ σ H, Pv n σ H → J.stop n H)
    (hs : ∀ i σ H x H', i < n → Pv i σ H → J.yld i H x H' → g x σ H' fun σ2 H2 => tb { D with nx := Pv (i + 1), ct := Pv (i + 1), bk := D.nx } σ2 H2) (hd : ∀ σ H, Pv n σ H → D.nx σ H) :
    ∃ W : Nat → Nat → St → Hp → Prop, (∃ m, W 0 m σ H) ∧ ∀ i m σ H, W i m σ H →
      (J.stop i H ∧ D.nx σ H) ∨ (J.go i H ∧ ∃ N : St → Hp → Prop, (∀ σ' H', N σ' H' → ∃ m', m' < m ∧ W (i + 1) m' σ' H') ∧ ∀ x H', J.yld i H x H' → g x σ H' fun σ2 H2 => tb { D with nx := N, ct := N, bk := D.nx } σ2 H2) := by
  refine ⟨fun i m σ H => m = n - i ∧ i ≤ n ∧ Pv i σ H, ⟨n, by simp, Nat.zero_le _, h0⟩, ?_⟩
  rintro i m σ H ⟨rfl, hi, p⟩
  by_cases hlt : i < n
  · exact .inr ⟨hgo i σ H hlt p, Pv (i + 1), fun σ' H' p' => ⟨n - (i + 1), by omega, rfl, hlt, p'⟩, fun x H' y => hs i σ H x H' hlt p y⟩
  · have e : i = n := by omega
    subst e
    exact .inl ⟨hst σ H p, hd σ H p⟩
theorem Same.upd {H H' : Hp} {l : Addr} {o : HO} (s : Same H H') (n : H l = none) : Same H (upd H' l o) := fun b u e => by rw [upd_ne (ne_of_none e n)]; exact s b u e
theorem Same.new {H : Hp} {l : Addr} {o : HO} (n : H l = none) : Same H (L2.upd H l o) := (Same.refl H).upd n
theorem iteNe {x y : Int} {A B : Prop} (h1 : x ≠ y → A) (h2 : x = y → B) : if (!decide (V.int x = V.int y)) = true then A else B := by
  by_cases h : x = y
  · subst h
    rw [if_neg (by simp)]
    exact h2 rfl
  · rw [if_pos (by simp [h])]
    exact h1 h
theorem iteEq {x y : Int} {A B : Prop} (h1 : x = y → A) (h2 : x ≠ y → B) : if decide (V.int x = V.int y) = true then A else B := by
  by_cases h : x = y
  · subst h
    rw [if_pos (by simp)]
    exact h1 rfl
  · rw [if_neg (by simp [h])]
    exact h2 h
theorem iteD {c A B : Prop} [Decidable c] (h1 : c → A) (h2 : ¬ c → B) : if decide c = true then A else B := by
  by_cases h : c
  · rw [if_pos (decide_eq_true h)]
    exact h1 h
  · rw [if_neg (fun z => h (of_decide_eq_true z))]
    exact h2 h
theorem iteB {c : Bool} {A B : Prop} (h1 : c = true → A) (h2 : c = false → B) : if c = true then A else B := by
  cases c with
  | true => rw [if_pos rfl]; exact h1 rfl
  | false => rw [if_neg Bool.false_ne_true]; exact h2 rfl
def constsIn (K : PySem.W.Frag) (l : List (Str × Int)) : Bool := l.all fun p => match PySem.W.nsIn K mainGlobals p.1 with | some (some (.int y _)) => y == p.2 | _ => false
theorem pe_cst {X : Cx} {x : Str} {z : Int} {pos : Pos} (h : ∃ t, X.mg x = some (.int z t)) (hg : Gl X x) (hd : (x == ("__debug__" : Str)) = false := by decide) : PE X (.Name x pos) (tC (.int z)) := by
  obtain ⟨t, h⟩ := h
  exact pe_glob hg h ⟨t, rfl⟩ hd
def tupInts : List Value → Option (List Int)
  | [] => some []
  | .int z _ :: r => (tupInts r).map (z :: ·)
  | _ => none
def tupIn (K : PySem.W.Frag) (a : Addr) (zs : List Int) : Bool := match K.lookup a with
  | some ⟨.type "tuple", _, .seq its _, _⟩ => tupInts its.toList == some zs && decide (its.size ≤ 1000)
  | _ => false
theorem vals_tupInts : ∀ {us : List Value} {zs : List Int}, tupInts us = some zs → Vals (zs.map V.int) us
  | [], zs, h => by cases h; exact .nil
  | .int z t :: r, zs, h => by
    obtain ⟨y, hy, e⟩ := Option.map_eq_some_iff.mp h
    subst e
    exact .cons ⟨t, rfl⟩ (vals_tupInts hy)
theorem tup_of {K : PySem.W.Frag} {a : Addr} {zs : List Int} (q : tupIn K a zs = true) (H : Hp) : SqT K H a (zs.map V.int) := by
  unfold tupIn at q
  split at q
  · rename_i dd its n sl hk
    simp only [Bool.and_eq_true, beq_iff_eq, decide_eq_true_eq] at q
    exact .inr ⟨_, its, n, hk, rfl, rfl, Nat.le_trans q.2 (by rw [sizeLine_eq]; omega), vals_tupInts q.1⟩
  · cases q
end L2
end
section
set_option Elab.async false
set_option linter.all false
set_option maxRecDepth 100000
set_option maxHeartbeats 2000000
namespace L2
open PySem PySem.Spec PyProof.Rows
theorem passE0 {P : Program} {w : World} {X : Cx} : Passes (CX1 P w) X E0 := fun _ _ _ _ _ _ _ h => by
  obtain ⟨_, _, _, _, _, _, _, _, _, _, hf⟩ := h
  exact hf.elim
section
variable {X : Cx} {k : Nat} {ps : List Str} {sp : Sp} {x : Str} {p pos : Pos} {e : Expr} {es : List Expr} {t : TA}
theorem pe_fn0 (c : Cal X.prog X.w X.K X.mg X.base x k ps sp) (hr : Room k X.A) (hg : Gl X x) (ha : PA X (e :: es) t)
    (hdb : (x == ("__debug__" : Str)) = false := by decide) (he : starEach (e :: es) X.env = (false, eval e X.env) :: starEach es X.env := by rfl) (hpl : (backTo pos (starEach es X.env)).any (·.1) = false := by rfl) :
    PE X (.Call (.Name x p) (e :: es) [] pos) (tFn sp E0 t) := by
  obtain ⟨f, fd, F, hm, hk, hb⟩ := c.ex
  intro pins s σ H Q I h
  refine wpAny_Call_Name_kw (ld_glob I hg hm ?_ hdb)
  refine PySem.W.callWith_K (h₀ := X.base) I.ok.mod.kin hk (thn (ha pos pins s σ H _ I h) fun us s1 ⟨vs, H1, I1, r, q⟩ => ⟨I1.kIn, ?_⟩) he hpl
  have q' : sp (vs ++ []) H1 Q E0 := by rw [List.append_nil]; exact q
  exact run_fn F hr hb .nil passE0 I1 r q'
end
structure CalM (P : Program) (w : World) (K : PySem.W.Frag) (mg : Str → Option Value) (base : Heap) (C : Addr) (m : Str) (k : Nat) (ps : List Str) (sp : Sp) : Prop where
  ex : ∃ f fd, FnOk P w K mg base (CX1 P w) k f fd ps sp ∧ Cls K C ∧ Meth K C m f ∧ Binds K fd ps []
def tMe (C : Addr) (m : Str) (sp : Sp) (E : XK) (ta : TE) (t : TA) : TE := fun σ H Q => ta σ H fun x H1 => ∃ a dx fs, x = .ref a ∧ H1 a = some (.ins C dx fs) ∧ fs.lookup m = none ∧ t σ H1 fun vs H2 => sp (x :: vs) H2 Q E
section
variable {X : Cx} {k : Nat} {C : Addr} {ps : List Str} {sp : Sp} {E : XK} {m : Str} {pos apos : Pos} {e o : Expr} {es : List Expr} {ta : TE} {t : TA}
theorem pe_me {pl : Sem Bool} (he : PE X o ta) (c : CalM X.prog X.w X.K X.mg X.base C m k ps sp) (hr : Room k X.A) (O : XOut X E) (ha : PA X (e :: es) t)
    (hst : starEach (e :: es) X.env = (false, eval e X.env) :: starEach es X.env := by rfl) (hpl : (backTo pos (starEach es X.env)).any (·.1) = false := by rfl)
    (ht : eval (.Call (.Attribute o m apos) (e :: es) [] pos) X.env = (do
      let ov ← eval o X.env
      standAt apos.atName
      let (f, first) ← holding [ov] (getMethod ov m pl)
      callWith pos f first (backTo pos (starEach (e :: es) X.env)) (backToKw pos (keywordEach [] X.env))) := by rfl) :
    PE X (.Call (.Attribute o m apos) (e :: es) [] pos) (tMe C m sp E ta t) := by
  obtain ⟨f, fd, F, cl, hm, hb⟩ := c.ex
  intro pins s σ H Q I h
  refine pe_meth he cl hm F hr hb .nil (passX O) ha hst hpl ht pins s σ H Q I ?_
  have e0 : tMeth C m sp [] E ta t = tMe C m sp E ta t := by
    unfold tMeth tMe
    simp only [List.append_nil]
  rw [e0]; exact h
theorem pe_me0 {pl : Sem Bool} (he : PE X o ta) (c : CalM X.prog X.w X.K X.mg X.base C m k ps sp) (hr : Room k X.A) (O : XOut X E)
    (ht : eval (.Call (.Attribute o m apos) [] [] pos) X.env = (do
      let ov ← eval o X.env
      standAt apos.atName
      let (f, first) ← holding [ov] (getMethod ov m pl)
      callWith pos f first (backTo pos (starEach [] X.env)) (backToKw pos (keywordEach [] X.env))) := by rfl) :
    PE X (.Call (.Attribute o m apos) [] [] pos) (tMe C m sp E ta tNil) := by
  obtain ⟨f, fd, F, cl, hm, hb⟩ := c.ex
  intro pins s σ H Q I h
  exact pe_meth0 he cl hm F hr hb .nil (passX O) ht pins s σ H Q I h
end
def hand (j : Nat) (C : Addr) (th : TS) (D : Ends) (σ : St) : XK := fun cls dxo H2 => cls = .ref C ∧ ∃ dx, dxo = some dx ∧ ∀ a, dx ≠ a → H2 a = none → th { nx := fun _ _ => False, rt := D.rt } (σ.set j (some (.ref a))) (upd H2 a (xHeld C a dx))
structure Hnd (X : Cx) (C : Addr) (xc n : Str) (j : Nat) : Prop where
  stk : X.stack = X.env :: X.outer
  fr : X.env.frame = some X.env.locals
  ex : X.ex = []
  c : ∃ fI names, XCls X.K C fI names
  gc : Gl X xc
  mc : X.mg xc = some (.ref C)
  N : X.N.Nodup
  j : X.N[j]? = some n
  jL : X.env.scope.names.lookup n = some .local
  fn : ∀ z, X.fn z = true
  cell : ∀ c, ¬ X.env.cells.lookup n = some c
  db : (xc == ("__debug__" : Str)) = false
section
variable {X : Cx} {k : Nat} {C : Addr} {ps : List Str} {sp : Sp} {x y xc n : Str} {p py pc cpos apos hpos : Pos} {e : Expr} {es : List Expr} {t : TA} {i j : Nat} {pins : List (Addr × Obj)} {σ : St} {H : Hp} {s : Shared}
theorem try_asg {Qv : VK} {E : XK} (c : Cal X.prog X.w X.K X.mg X.base x k ps sp) (hr : Room k X.A) (hg : Gl X x) (hN : X.N.Nodup) (hi : X.N[i]? = some y) (hiL : Loc X.env.scope y) (hfn : ∀ z, X.fn z = true) (ha : PA X.nox (e :: es) t)
    (I : Inv X pins σ H s) (h : t σ H fun vs H1 => sp vs H1 Qv E) (hs : swapsWith (.Call (.Name x p) (e :: es) [] cpos) (some (.Name y py)) apos.line X.env = pure false)
    (hdb : (x == ("__debug__" : Str)) = false) (he : starEach (e :: es) X.env = (false, eval e X.env) :: starEach es X.env) (hpl : (backTo cpos (starEach es X.env)).any (·.1) = false) :
    wpAny (model X.prog X.w) X.A (exec (.Assign [.Name y py] (.Call (.Name x p) (e :: es) [] cpos) apos) X.env) (fun f s' => f = .next ∧ ∃ v H2, Inv X pins (σ.set i (some v)) H2 s' ∧ Qv v H2)
      (fun ev s' => ∃ H1 s1, Inv X pins σ H1 s1 ∧ CX1 X.prog X.w X.stack H1 s1 E ev s') s := by
  obtain ⟨f, fd, F, hm, hkp, hb⟩ := c.ex
  refine wpAny_Assign_Name (wpAny_Call_Name_kw (ld_glob I hg hm ?_ hdb)) hs
  refine PySem.W.callWith_K (h₀ := X.base) I.ok.mod.kin hkp (wpAny_mono (ha cpos pins s σ H _ (I.wish _) h) (fun us s1 ⟨vs, H1, I1, r, q⟩ => ⟨I1.kIn, ?_⟩) fun _ _ z => False.elim z) he hpl
  have I1 := I1.unwish
  have hl : us.length = ps.length := by rw [← r.length]; exact F.len _ _ _ _ q
  refine wpAny_call (codeAny_mono (F.run X.A X.stack s1 H1 ⟨us, []⟩ us vs _ _ hr I1.env0 (by have := hb s1 us I1.kIn (by simpa using hl); simpa using this) r q) fun r s' hq => ?_)
  cases r with
  | ok fl =>
    cases fl with
    | next => exact False.elim hq
    | brk => exact False.elim hq
    | cont => exact False.elim hq
    | ret u =>
      obtain ⟨v, H2, I2, rv, q2⟩ := I1.after hq
      exact store_ok I2 hN hi hiL rv (fun s3 I3 => ⟨rfl, v, H2, I3, q2⟩) (.inl (hfn _))
  | error ev => exact ⟨H1, s1, I1, hq⟩
theorem try_hand {D : Ends} {th : TS} {ev : Value} {s' : Shared} {b₀ : Stmt} {suite : List Stmt} (O : Hnd X C xc n j) (hh : ∀ a, PSs (inSuite X a) (b₀ :: suite) th) (I1 : Inv X pins σ H s) (hq : CX1 X.prog X.w X.stack H s (hand j C th D σ) ev s') :
    wpAny (model X.prog X.w) X.A (noteFrame ev X.env) (fun _ s₂ => wpAny (model X.prog X.w) X.A (setFlight ev none) (fun _ s₃ => wpAny (model X.prog X.w) X.A (handleBy ev X.env [.ExceptHandler (some (.Name xc pc)) (some n) (b₀ :: suite) hpos]) (SP X pins D) X.xe s₃) X.xe s₂) X.xe s' := by
  obtain ⟨stk, fr, ex, ⟨fI, names, c⟩, hgc, hmc, hN, hj, hjL, hfn, hcell, hdbc⟩ := O
  obtain ⟨a, C', dx, H2, rfl, os, bare, un, hok, fl, hcl, dx', hdx, q2⟩ := hq
  obtain rfl : C' = C := by injection hcl
  obtain rfl : dx = dx' := Option.some.inj hdx
  have I2 : Inv X pins σ H2 s' := I1.call' os un hok bare (fun b z => absurd z (by simp))
  obtain ⟨vs1, sl, T, oT, ts, e1, e2, e3, e4, e5, e6, e7, e8⟩ := fl.tr
  have pinA : ∀ b, s.heap.get? b = none → ∀ p ∈ X.pn ++ pins, p.1 ≠ b := fun b e p hp z => by
    have := (I1.pin p hp).1
    rw [z, e] at this; cases this
  have na := I1.old ex fl.na
  have hst := I2.stack
  rw [stk] at hst
  refine xnoting (no := fun b => b = T) (by rw [I1.ok.frames, stk]) hst fr e1 rfl (.inr ⟨T, oT, ts, e2, e5, rfl, e6, e7, e8⟩) fun h' lf => ?_
  have I3 := I2.noted stk fr ex na fl.ha e1 ⟨_, rfl⟩ (fun b z => by subst z; exact ⟨I1.old ex e3, e4, oT, ts, e6, e7⟩) (fun p hp => ⟨pinA a fl.na p hp, pinA T e3 p hp⟩) lf
  obtain ⟨T', oT', ts', y1, y2, y3, y4, y5, y6⟩ := lf.exc
  have hsz : 1 < vs1.size := (Array.getElem?_eq_some_iff.mp e2).1
  have y1 : h'.get? a = some { cls := .ref C', dict := some dx, data := .fields (vs1.setIfInBounds 1 (.ref T')), slots := sl } := y1
  have XC := exc_cls I3.kIn c.ex
  obtain ⟨nm, qn, N, bs, sn, sub, ab, col, dd, k0, k1, k2, k3, k5, hC, _, _, _⟩ := XC.ex
  refine wpAny_handleBy_cons (codeAny_handlers_test ?_) (by intro z; cases z)
  refine ld_glob (I3.suite a) hgc hmc ?_ hdbc
  have hcB : bmVE.contains (.type "BaseException") = true := by simp [bmVE]
  obtain ⟨hh0, g0, dr0, tk0, os0⟩ := s'
  refine wpAny_excMatches_sub_self hC y1 rfl hcB ?_
  refine codeAny_handlers_suite_as (xlanded y1 rfl (by simp [hsz]) y4 y5 y6 ?_)
  refine store_ok2 I3 hN hj (.inl hjL) (v := V.ref a) (show RelV (V.ref a) (Value.ref a) from rfl) (fun s4 I4 ch => ?_) (.inr hjL)
  obtain ⟨L, sb, hL⟩ := ch
  have hL : L = X.env.locals := hL.elim (fun z => z) fun z => absurd z (hcell L)
  subst hL
  have nla : a ≠ X.env.locals := fun z => by
    obtain ⟨m, ⟨o, es', ep, ho, hd, _⟩, _⟩ := I3.loc
    have ho' : h'.get? a = some o := by rw [z]; exact ho
    rw [y1] at ho'; cases ho'; cases hd
  have y4a : s4.heap.get? a = some { cls := .ref C', dict := some dx, data := .fields (vs1.setIfInBounds 1 (.ref T')), slots := sl } := (sb.2 a nla).trans y1
  have I5 := I4.track (o := xHeld C' a dx) na fl.ha y4a rfl (pinA a fl.na) (ok_xHeld y4a)
  refine wpAny_mono (hh a pins s4 _ _ _ (I5.suite a) (q2 a fl.ne fl.ha)) (fun f s6 q6 => ?_) fun _ _ z => False.elim z
  cases f with
  | next => obtain ⟨_, _, _, z⟩ := q6; exact False.elim z
  | brk => obtain ⟨_, _, _, z⟩ := q6; exact False.elim z
  | cont => obtain ⟨_, _, _, z⟩ := q6; exact False.elim z
  | ret u =>
    obtain ⟨v, σ6, H6, I6, r6, q6⟩ := q6
    have I6 := I1.unsuite I6
    obtain ⟨m6, n6, _⟩ := id I6.loc
    refine wpAny_nameGoes hjL n6 (by rw [I1.ok.kind]; rfl) fun h7 m7 n7 s7 => ?_
    exact ⟨v, _, H6, I6.forget n7 s7, r6, q6⟩
def tTry1 (i j : Nat) (sp : Sp) (C : Addr) (t : TA) (th : TS) : TS := fun D σ H => t σ H fun vs H1 => sp vs H1 (fun v H2 => D.nx (σ.set i (some v)) H2) (hand j C th D σ)
theorem ps_try1 {th : TS} {b₀ : Stmt} {suite : List Stmt} {pos : Pos} (O : Hnd X C xc n j) (c : Cal X.prog X.w X.K X.mg X.base x k ps sp) (hr : Room k X.A) (hg : Gl X x) (hi : X.N[i]? = some y) (hiL : Loc X.env.scope y) (ha : PA X.nox (e :: es) t) (hh : ∀ a, PSs (inSuite X a) (b₀ :: suite) th)
    (hs : swapsWith (.Call (.Name x p) (e :: es) [] cpos) (some (.Name y py)) apos.line X.env = pure false := by rfl)
    (hdb : (x == ("__debug__" : Str)) = false := by decide) (he : starEach (e :: es) X.env = (false, eval e X.env) :: starEach es X.env := by rfl) (hpl : (backTo cpos (starEach es X.env)).any (·.1) = false := by rfl) :
    PS X (.Try [.Assign [.Name y py] (.Call (.Name x p) (e :: es) [] cpos) apos] [.ExceptHandler (some (.Name xc pc)) (some n) (b₀ :: suite) hpos] [] [] pos) (tTry1 i j sp C t th) := by
  intro pins s σ H D I h
  refine wpAny_Try_except (wpAny_execs_cons (wpAny_mono (try_asg c hr hg O.N hi hiL O.fn ha I h hs hdb he hpl) (fun f s' ⟨ef, v, H2, I2, q⟩ => ?_) fun ev s' ⟨H1, s1, I1, hq⟩ => try_hand O hh I1 hq))
  subst ef
  exact wpAny_execs_nil (wpAny_execs_nil ⟨_, H2, I2, q⟩)
variable {k2 : Nat} {ps2 : List Str} {sp2 : Sp} {x2 y2 : Str} {p2 py2 cpos2 apos2 : Pos} {e2 : Expr} {es2 : List Expr} {t2 : TA} {i2 : Nat}
end
end L2
end
section
set_option Elab.async false
set_option linter.all false
set_option maxRecDepth 100000
set_option maxHeartbeats 2000000
namespace HT
open PySem PySem.Spec PyProof.Rows
def lexLe : List Int → List Int → Bool
  | [], _ => true
  | _ :: _, [] => false
  | x :: xs, y :: ys => if x = y then lexLe xs ys else decide (x ≤ y)
theorem lexLe_cons (x y : Int) (xs ys : List Int) : lexLe (x :: xs) (y :: ys) = if x = y then lexLe xs ys else decide (x ≤ y) := rfl
theorem lexLe_not : ∀ xs ys : List Int, lexLe xs ys = !lexLt ys xs
  | [], [] => rfl
  | [], _ :: _ => rfl
  | _ :: _, [] => rfl
  | x :: xs, y :: ys => by
    rw [lexLe_cons, lexLt_cons]
    by_cases h : x = y
    · rw [if_pos h, if_pos h.symm, lexLe_not xs ys]
    · rw [if_neg h, if_neg (fun z => h z.symm)]
      by_cases h2 : x ≤ y
      · rw [decide_eq_true h2, decide_eq_false (by omega)]; rfl
      · rw [decide_eq_false h2, decide_eq_true (by omega)]; rfl
theorem rcLe_int (A : Around) (s : Shared) (a : Int) (t : Tok) (c : Int) (u : Tok) (prog : Program) (w : World) (E : Value → Shared → Prop) (Q : Value → Shared → Prop) (h : Q (.bool (decide (a ≤ c))) s) :
    wpAny (model prog w) A (richCompare .LtE (.int a t) (.int c u)) Q E s :=
  (PyProof.Rows.le_int h : wpAny (model prog w) A (compareOp .LtE (.int a t) (.int c u)) Q E s)
section
open PySem.SeqAt
open PySem.AutoSeq1 (wpAny_loadPart')
open PySem.MeetsSeq PySem.MeetsSeq2 PySem.MeetsSeq3
theorem le_loopL (l b : Addr) (its its2 : Array Value) (n n2 : Nat) (ns ms : List Int) (hi : IntsAre its.toList ns) (hj : IntsAre its2.toList ms) (k : Nat) :
    ∀ i : Nat, its.size - i = k → i ≤ its.size → i ≤ its2.size → Meets (Builtin.«list.__eq__.loop» ⟨[.ref l, .ref b, rawInt i, rawInt 1], []⟩)
      (fun _ R s => s.heap.get? l = some { cls := .type "list", dict := none, data := .seq its n, slots := #[] } ∧ s.heap.get? b = some { cls := .type "list", dict := none, data := .seq its2 n2, slots := #[] } ∧
        R (.ok (.ret (.bool (lexLe (ns.drop i) (ms.drop i))))) s) := by
  have z1 : its.size = ns.length := by rw [← hi.length]; simp
  have z2 : its2.size = ms.length := by rw [← hj.length]; simp
  induction k with
  | zero =>
    intro i hk h1 h2 prog w A R s h
    obtain ⟨hp, g, d, tk, os⟩ := s; obtain ⟨hl, hb, h⟩ := h
    wp_walk using wpAny_loadPart' hl, wpAny_loadPart' hb
    have e1 : its[((i : Nat) : Int).toNat]? = none := by simp; omega
    have hd : ns.drop i = [] := by simp; omega
    rw [hd] at h
    rw [e1]
    wp_walk using wpAny_loadPart' hl, wpAny_loadPart' hb
    show R (.ok (.ret (.bool (decide (its.size ≤ its2.size))))) _
    rw [decide_eq_true (by omega)]
    exact h
  | succ k ih =>
    intro i hk h1 h2 prog w A R s h
    obtain ⟨hp, g, d, tk, os⟩ := s; obtain ⟨hl, hb, h⟩ := h
    have hlt : i < its.size := by omega
    obtain ⟨a, t, ea, na⟩ := IntsAre.at hi (i := i) (by simpa using hlt)
    have e1 : its[((i : Nat) : Int).toNat]? = some (.int a t) := by simpa using ea
    have dn : ns.drop i = a :: ns.drop (i + 1) := by
      obtain ⟨q1, q2⟩ := List.getElem?_eq_some_iff.mp na
      rw [List.drop_eq_getElem_cons q1, q2]
    wp_walk using wpAny_loadPart' hl, wpAny_loadPart' hb
    rw [e1]
    by_cases hlt2 : i < its2.size
    · obtain ⟨c, u, ec, nc⟩ := IntsAre.at hj (i := i) (by simpa using hlt2)
      have e2 : its2[((i : Nat) : Int).toNat]? = some (.int c u) := by simpa using ec
      have dm : ms.drop i = c :: ms.drop (i + 1) := by
        obtain ⟨q1, q2⟩ := List.getElem?_eq_some_iff.mp nc
        rw [List.drop_eq_getElem_cons q1, q2]
      rw [dn, dm, lexLe_cons] at h
      rw [e2]
      obtain ⟨e, he, hiff⟩ := eqAt_int A.in1 ⟨hp, g, d, tk, os⟩ a t c u
      refine wpAny_bind (he prog w _ _ ?_)
      have hc : ((i : Int) + 1) = ((i + 1 : Nat) : Int) := by omega
      cases e with
      | true =>
        rw [if_pos (hiff.mp rfl)] at h
        wp_walk
        rw [hc]
        exact ⟨plainId_quiet plain_eq_loop _, codeAny_builtin entry_eq_loop (by
          rw [Around.under_plainId plain_eq_loop _]
          exact ih (i + 1) (by omega) (by omega) (by omega) prog w A R _ ⟨hl, hb, h⟩)⟩
      | false =>
        rw [if_neg (fun q => absurd (hiff.mpr q) Bool.false_ne_true)] at h
        wp_walk using wpAny_loadPart' hl, wpAny_loadPart' hb
        rw [e1, e2]
        have hri := rcLe_int A.in1 ⟨hp, g, d, tk, os⟩ a t c u prog w
        wp_walk using hri
        exact h
    · have e2 : its2[((i : Nat) : Int).toNat]? = none := by simp; omega
      have dm : ms.drop i = [] := by simp; omega
      rw [dn, dm] at h
      rw [e2]
      wp_walk using wpAny_loadPart' hl, wpAny_loadPart' hb
      show R (.ok (.ret (.bool (decide (its.size ≤ its2.size))))) _
      rw [decide_eq_false (by omega)]; exact h
theorem list_leL (l b : Addr) (its its2 : Array Value) (n n2 : Nat) (ns ms : List Int) (hi : IntsAre its.toList ns) (hj : IntsAre its2.toList ms) :
    Meets (Builtin.«list.__le__» ⟨[.ref l, .ref b], []⟩)
      (fun _ R s => s.heap.get? l = some { cls := .type "list", dict := none, data := .seq its n, slots := #[] } ∧ s.heap.get? b = some { cls := .type "list", dict := none, data := .seq its2 n2, slots := #[] } ∧
        R (.ok (.ret (.bool (lexLe ns ms)))) s) := by
  intro prog w A R s h
  obtain ⟨hp, g, d, tk, os⟩ := s; obtain ⟨hl, hb, h⟩ := h
  have f3 := AutoSeq1.sub_list_list
  wp_walk using wpAny_loadPart' hl, wpAny_loadPart' hb
  exact ⟨plainId_quiet plain_eq_loop _, codeAny_builtin entry_eq_loop (by
    rw [Around.under_plainId plain_eq_loop _]
    exact le_loopL l b its its2 n n2 ns ms hi hj _ 0 rfl (Nat.zero_le _) (Nat.zero_le _) prog w A R _ ⟨hl, hb, by simpa using h⟩)⟩
end
end HT
namespace L2
open PySem PySem.Spec PyProof.Rows
section
variable {X : Cx}
def rLeO : R2 := fun x y H Q => ∃ a b ns ms, x = .ref a ∧ y = .ref b ∧ H a = some (.lst (ns.map V.int)) ∧ H b = some (.lst (ms.map V.int)) ∧ Q (.bl (!HT.lexLt ms ns)) H
theorem op_leO (hu : X.A.units < cLine) : OpR X (compareOp .LtE) rLeO := by
  intro pins s σ H x y v u Q I rx ry h
  obtain ⟨a, b, ns, ms, rfl, rfl, ha, hb, q⟩ := h
  cases rx
  cases ry
  rw [← HT.lexLe_not] at q
  obtain ⟨its, n, r1, e1⟩ := list_obj I ha
  obtain ⟨its2, n2, r2, e2⟩ := list_obj I hb
  exact richCompare_meets_room (op := .LtE) ⟨_, e1, rfl⟩ ⟨_, e2, rfl⟩ PySem.F.slot_list_le PySem.F.entry_list_le (PySem.F.args_list_le_2 _ _) (HT.list_leL a b its.toArray its2.toArray n n2 ns ms (by simpa using intsAre_of r1) (by simpa using intsAre_of r2))
    ⟨e1, e2, show Value.bool (HT.lexLe ns ms) ≠ Value.notImplemented ∧ EP X pins σ Q (.bool (HT.lexLe ns ms)) s from ⟨(fun x => nomatch x), .bl _, H, I, rfl, q⟩⟩ hu
end
end L2
end
section
set_option Elab.async false
set_option linter.all false
set_option maxRecDepth 100000
set_option maxHeartbeats 2000000
namespace L2
open PySem PySem.Spec PyProof.Rows
theorem for_rev {K : PySem.W.Frag} {a : Addr} {xs : List V} {g : TG} {tb : TS} {D : Ends} {σ : St} {H : Hp} (Pv : Nat → St → Hp → Prop) (h0 : Pv 0 σ H) (hl : ∀ i σ H, Pv i σ H → SqL K H a xs)
    (hs : ∀ i x σ H, xs.reverse[i]? = some x → Pv i σ H → g x σ H fun σ2 H2 => tb { D with nx := Pv (i + 1), ct := Pv (i + 1), bk := D.nx } σ2 H2) (hd : ∀ σ H, Pv xs.length σ H → D.nx σ H) :
    ∃ W : Nat → Nat → St → Hp → Prop, (∃ m, W 0 m σ H) ∧ ∀ i m σ H, W i m σ H →
      ((Itv K a xs.length).stop i H ∧ D.nx σ H) ∨ ((Itv K a xs.length).go i H ∧ ∃ N : St → Hp → Prop, (∀ σ' H', N σ' H' → ∃ m', m' < m ∧ W (i + 1) m' σ' H') ∧ ∀ x H', (Itv K a xs.length).yld i H x H' → g x σ H' fun σ2 H2 => tb { D with nx := N, ct := N, bk := D.nx } σ2 H2) := by
  refine for_gen (n := xs.length) Pv h0 (fun i σ H hi p => ⟨hi, xs, xs[xs.length - 1 - i]'(by omega), hl i σ H p, by first | (simp; done) | (simp; omega)⟩) (fun σ H p => Nat.le_refl _) (fun i σ H x H' hi p y => ?_) hd
  obtain ⟨e, y⟩ := y
  subst e
  refine hs i x σ _ ?_ p
  rw [List.getElem?_reverse hi]
  exact y xs (hl i σ _ p)
theorem for_zip {K : PySem.W.Frag} {a b : Addr} {xs ys : List V} {i1 i2 : Nat} {tb : TS} {D : Ends} {σ : St} {H : Hp} (Pv : Nat → St → Hp → Prop) (h0 : Pv 0 σ H) (hl : ∀ i σ H, Pv i σ H → SqL K H a xs ∧ SqL K H b ys)
    (hs : ∀ i x y T σ H, xs[i]? = some x → ys[i]? = some y → H T = none → Pv i σ H → tb { D with nx := Pv (i + 1), ct := Pv (i + 1), bk := D.nx } ((σ.set i1 (some x)).set i2 (some y)) (upd H T (.tup [x, y]))) (hd : ∀ σ H, Pv (min xs.length ys.length) σ H → D.nx σ H) :
    ∃ W : Nat → Nat → St → Hp → Prop, (∃ m, W 0 m σ H) ∧ ∀ i m σ H, W i m σ H →
      ((Itz K a b).stop i H ∧ D.nx σ H) ∨ ((Itz K a b).go i H ∧ ∃ N : St → Hp → Prop, (∀ σ' H', N σ' H' → ∃ m', m' < m ∧ W (i + 1) m' σ' H') ∧ ∀ x H', (Itz K a b).yld i H x H' → (gTup K 2 (gCons (gName i1) (gCons (gName i2) gNil))) x σ H' fun σ2 H2 => tb { D with nx := N, ct := N, bk := D.nx } σ2 H2) := by
  refine for_gen (n := min xs.length ys.length) Pv h0 (fun i σ H hi p => ?_) (fun σ H p => ?_) (fun i σ H x H' hi p y => ?_) hd
  · obtain ⟨h1, h2⟩ := hl i σ H p
    exact ⟨xs, ys, xs[i]'(by omega), ys[i]'(by omega), h1, h2, by first | (simp; done) | (simp; omega), by first | (simp; done) | (simp; omega)⟩
  · obtain ⟨h1, h2⟩ := hl _ σ H p
    exact ⟨xs, ys, h1, h2, by omega⟩
  · obtain ⟨T, u, v, rfl, hT, rfl, e1, e2⟩ := y
    obtain ⟨h1, h2⟩ := hl i σ H p
    exact ⟨T, _, rfl, SqT.of upd_same, rfl, _, _, rfl, _, _, rfl, rfl, hs i u v T σ H (e1 xs h1) (e2 ys h2) hT p⟩
theorem del_upd {H : Hp} {D : Addr} {o : HO} : del (upd H D o) D = del H D := by
  funext b; unfold del upd; split <;> rfl
theorem Same.del {H H' : Hp} (s : Same H H') (D : Addr) : Same (del H D) (L2.del H' D) := fun b o e => by
  have hb : b ≠ D := fun z => by rw [z, del_same] at e; cases e
  rw [del_ne hb] at e ⊢
  exact s b o e
theorem Same.of_del {H H' : Hp} {D : Addr} (s : Same H (L2.del H' D)) : Same H H' := fun b o e => by
  have q := s b o e
  have hb : b ≠ D := fun z => by rw [z, del_same] at q; cases q
  rw [del_ne hb] at q; exact q
def LcGo (J : It) (g : TG) (tt : TT) (te : TE) (vs : List Nat) (σ : St) (Q : VK) (H1 : Hp) : Prop :=
    ∀ D, H1 D = none → ∃ W : Nat → Nat → Hp → Prop, (∃ m, W 0 m (upd H1 D (.lst []))) ∧ ∀ i m H, W i m H →
      (J.stop i H ∧ Q (.ref D) H) ∨ (J.go i H ∧ ∃ Nx : Hp → Prop, (∀ H', Nx H' → ∃ m', m' < m ∧ W (i + 1) m' H') ∧ ∀ x H', J.yld i H x H' → g x (wipe σ vs) H' fun σ2 H2 => wipe σ2 vs = wipe σ vs ∧ tt σ2 H2 fun b H3 =>
        if b = true then te σ2 H3 fun y H4 => ∃ acc, H4 D = some (.lst acc) ∧ acc.length < sizeLine ∧ Nx (upd H4 D (.lst (acc ++ [y]))) else Nx H3)
def tLcN (wi : TI) (g : TG) (tt : TT) (te : TE) (vs : List Nat) : TE := fun σ H Q => wi σ H fun J H1 => LcGo J g tt te vs σ Q H1
theorem pe_lcN {X : Cx} {elt tg iter : Expr} {ifs : List Expr} {scope : Scope} {pos : Pos} {wi : TI} (own : List (Str × Nat)) (vs : List Nat) (g : TG) (tt : TT) (te : TE) (hc : X.calm = true) (hN : X.N.Nodup) (hi : PI X tg iter wi) (ok : blkC X.N X.env.scope scope own = true)
    (hg : ∀ (s : Shared) (H : Hp) (C : Addr) (cl : List (Str × Addr)) (fp : List Addr), PG (X.blk s H scope (compEnvC scope cl C X.env) fp) tg g) (ht : ∀ (s : Shared) (H : Hp) (C : Addr) (cl : List (Str × Addr)) (fp : List Addr), PTs (X.blk s H scope (compEnvC scope cl C X.env) fp) ifs tt)
    (he : ∀ (s : Shared) (H : Hp) (C : Addr) (cl : List (Str × Addr)) (fp : List Addr), PE (X.blk s H scope (compEnvC scope cl C X.env) fp) elt te) (hv : own.map (·.2) = vs := by rfl) (hs : ∀ x, foldedSetIterable iter X.env x = pure x := by intro _; rfl) :
    PE X (.ListComp elt [⟨tg, iter, ifs, 0⟩] scope pos) (tLcN wi g tt te vs) := by
  subst hv
  exact pe_lc hc hN hi (blkOk_by ok) hg ht he hs
theorem lc_acc {J : It} {n : Nat} {g : TG} {tt : TT} {te : TE} {vs : List Nat} {σ : St} {H1 : Hp} {Q : VK} (Acc : Nat → List V → Hp → Prop) (hn : n ≤ sizeLine) (hlen : ∀ i ys H, Acc i ys H → ys.length ≤ i) (h0 : Acc 0 [] H1)
    (hgo : ∀ i H, i < n → Same H1 H → J.go i H) (hst : ∀ H, Same H1 H → J.stop n H)
    (hs : ∀ i x ys D H H' (R : VK) (N : Hp → Prop), i < n → H1 D = none → H D = some (.lst ys) → Same H1 H → Acc i ys (del H D) → J.yld i H x H' →
      (∀ z H4, Same H H4 → Acc (i + 1) (ys ++ [z]) (del H4 D) → R z H4) → (∀ H3, Same H H3 → Acc (i + 1) ys (del H3 D) → N H3) →
      g x (wipe σ vs) H' fun σ2 H2 => wipe σ2 vs = wipe σ vs ∧ tt σ2 H2 fun b H3 => if b = true then te σ2 H3 R else N H3)
    (hd : ∀ D ys H, H1 D = none → Same H1 H → H D = some (.lst ys) → Acc n ys (del H D) → Q (.ref D) H) :
    LcGo J g tt te vs σ Q H1 := by
  intro D hD
  refine ⟨fun i m H => m = n - i ∧ i ≤ n ∧ ∃ ys, H D = some (.lst ys) ∧ Same H1 (del H D) ∧ Acc i ys (del H D), ⟨n, by simp, Nat.zero_le _, [], upd_same, ?_, ?_⟩, ?_⟩
  · rw [del_upd]
    intro b o e
    rw [del_ne (ne_of_none e hD)]; exact e
  · rw [del_upd]
    have e : del H1 D = H1 := by
      funext b; unfold del; split
      · rename_i h; rw [h]; exact hD.symm
      · rfl
    rw [e]; exact h0
  rintro i m H ⟨rfl, hi, ys, hy, s1, acc⟩
  by_cases hlt : i < n
  · refine .inr ⟨hgo i H hlt s1.of_del, fun H' => i + 1 ≤ n ∧ ∃ ys, H' D = some (.lst ys) ∧ Same H1 (del H' D) ∧ Acc (i + 1) ys (del H' D), fun H' p' => ⟨n - (i + 1), by omega, rfl, p'⟩, fun x H' y => ?_⟩
    refine hs i x ys D H H' _ _ hlt hD hy s1.of_del acc y (fun z H4 s4 a4 => ⟨ys, s4 _ _ hy, ?_, hlt, ys ++ [z], upd_same, ?_, ?_⟩) (fun H3 s3 a3 => ⟨hlt, ys, s3 _ _ hy, s1.trans (s3.del D), a3⟩)
    · exact Nat.lt_of_le_of_lt (hlen i ys _ acc) (Nat.lt_of_lt_of_le hlt hn)
    · rw [del_upd]; exact s1.trans (s4.del D)
    · rw [del_upd]; exact a4
  · have e : i = n := by omega
    subst e
    exact .inl ⟨hst H s1.of_del, hd D ys H hD s1.of_del hy acc⟩
theorem lc_zip {K : PySem.W.Frag} {a b : Addr} {xs ys : List V} {i1 i2 : Nat} {tt : TT} {te : TE} {vs : List Nat} {σ : St} {H1 : Hp} {Q : VK} (f : V → V → Option V) (ha : SqL K H1 a xs) (hb : SqL K H1 b ys) (hn : xs.length ≤ sizeLine) (hw : ∀ x y, wipe (((wipe σ vs).set i1 (some x)).set i2 (some y)) vs = wipe σ vs)
    (hs : ∀ (i : Nat) (x y : V) (H : Hp) (R : VK) (N : Hp → Prop), xs[i]? = some x → ys[i]? = some y → Same H1 H → (∀ z H4, Same H H4 → f x y = some z → R z H4) → (∀ H3, Same H H3 → f x y = none → N H3) →
      tt (((wipe σ vs).set i1 (some x)).set i2 (some y)) H fun b H3 => if b = true then te (((wipe σ vs).set i1 (some x)).set i2 (some y)) H3 R else N H3)
    (hd : ∀ D H, H1 D = none → Same H1 H → H D = some (.lst ((xs.zip ys).filterMap fun p => f p.1 p.2)) → Q (.ref D) H) :
    LcGo (Itz K a b) (gTup K 2 (gCons (gName i1) (gCons (gName i2) gNil))) tt te vs σ Q H1 := by
  refine lc_acc (n := min xs.length ys.length) (fun i zs _ => zs = ((xs.zip ys).take i).filterMap fun p => f p.1 p.2) (by omega) (fun i zs H e => ?_) rfl (fun i H hi s => ?_) (fun H s => ?_) (fun i x zs D H H' R N hi hD hz s e y hR hN => ?_) (fun D zs H hD s hz e => ?_)
  · rw [e]
    exact Nat.le_trans (List.length_filterMap_le _ _) (by rw [List.length_take]; omega)
  · exact ⟨xs, ys, xs[i]'(by omega), ys[i]'(by omega), s.seq ha, s.seq hb, by first | (simp; done) | (simp; omega), by first | (simp; done) | (simp; omega)⟩
  · exact ⟨xs, ys, s.seq ha, s.seq hb, by omega⟩
  · obtain ⟨T, u, v, rfl, hT, rfl, e1, e2⟩ := y
    have e1 := e1 xs (s.seq ha)
    have e2 := e2 ys (s.seq hb)
    have ez : (xs.zip ys)[i]? = some (u, v) := by
      rw [List.getElem?_zip_eq_some]; exact ⟨e1, e2⟩
    have et : ((xs.zip ys).take (i + 1)).filterMap (fun p => f p.1 p.2) = zs ++ (match f u v with | some z => [z] | none => []) := by
      rw [List.take_add_one, ez, List.filterMap_append, e]
      congr 1
      show List.filterMap _ [(u, v)] = _
      rw [List.filterMap_cons]
      cases f u v <;> rfl
    have sT : Same H (upd H T (.tup [u, v])) := Same.new hT
    refine ⟨T, _, rfl, SqT.of upd_same, rfl, _, _, rfl, _, _, rfl, rfl, hw u v, hs i u v _ R N e1 e2 (s.trans sT) (fun z H4 s4 ef => ?_) fun H3 s3 ef => ?_⟩
    · refine hR z H4 (sT.trans s4) ?_
      show zs ++ [z] = _
      rw [et, ef]
    · refine hN H3 (sT.trans s3) ?_
      show zs = _
      rw [et, ef, List.append_nil]
  · refine hd D H hD s ?_
    rw [hz]
    have e : zs = ((xs.zip ys).take (min xs.length ys.length)).filterMap fun p => f p.1 p.2 := e
    rw [e, List.take_of_length_le (by rw [List.length_zip]; exact Nat.le_refl _)]
theorem lc_lst {K : PySem.W.Frag} {a : Addr} {xs : List V} {i1 : Nat} {tt : TT} {te : TE} {vs : List Nat} {σ : St} {H1 : Hp} {Q : VK} (f : Nat → Option V) (ha : SqL K H1 a xs) (hn : xs.length ≤ sizeLine) (hw : ∀ x, wipe ((wipe σ vs).set i1 (some x)) vs = wipe σ vs)
    (hs : ∀ (i : Nat) (x : V) (H : Hp) (R : VK) (N : Hp → Prop), xs[i]? = some x → Same H1 H → (∀ z H4, Same H H4 → f i = some z → R z H4) → (∀ H3, Same H H3 → f i = none → N H3) →
      tt ((wipe σ vs).set i1 (some x)) H fun b H3 => if b = true then te ((wipe σ vs).set i1 (some x)) H3 R else N H3)
    (hd : ∀ D H, H1 D = none → Same H1 H → H D = some (.lst ((List.range xs.length).filterMap f)) → Q (.ref D) H) :
    LcGo (Itl K a) (gName i1) tt te vs σ Q H1 := by
  refine lc_acc (n := xs.length) (fun i zs _ => zs = (List.range i).filterMap f) hn (fun i zs H e => ?_) rfl (fun i H hi s => ?_) (fun H s => ?_) (fun i x zs D H H' R N hi hD hz s e y hR hN => ?_) (fun D zs H hD s hz e => ?_)
  · rw [e]
    exact Nat.le_trans (List.length_filterMap_le _ _) (by rw [List.length_range]; exact Nat.le_refl _)
  · exact ⟨xs, xs[i]'(by omega), s.seq ha, by first | (simp; done) | (simp; omega)⟩
  · exact ⟨xs, s.seq ha, Nat.le_refl _⟩
  · obtain ⟨rfl, e1⟩ := y
    have e1 := e1 xs (s.seq ha)
    have et : (List.range (i + 1)).filterMap f = zs ++ (match f i with | some z => [z] | none => []) := by
      rw [List.range_succ, List.filterMap_append, e]
      congr 1
      rw [List.filterMap_cons]
      cases f i <;> rfl
    refine ⟨hw x, hs i x _ R N e1 s (fun z H4 s4 ef => ?_) fun H3 s3 ef => ?_⟩
    · refine hR z H4 s4 ?_
      show zs ++ [z] = _
      rw [et, ef]
    · refine hN H3 s3 ?_
      show zs = _
      rw [et, ef, List.append_nil]
  · refine hd D H hD s ?_
    rw [hz]
    have e : zs = (List.range xs.length).filterMap f := e
    rw [e]
theorem cut_nat (xs : List V) (p q : Nat) : cutV xs (some (p : Int)) (some (q : Int)) = (xs.drop p).take (q - p) := by
  unfold cutV
  rw [HT.sIx_nat, HT.sIx_nat]
  by_cases hp : p ≤ xs.length
  · rw [Nat.min_eq_left hp]
    by_cases hq : q ≤ xs.length
    · rw [Nat.min_eq_left hq]
    · rw [Nat.min_eq_right (by omega), List.take_of_length_le (by rw [List.length_drop]; omega), List.take_of_length_le (by rw [List.length_drop]; omega)]
  · rw [Nat.min_eq_right (show xs.length ≤ p by omega), List.drop_of_length_le (Nat.le_refl _), List.drop_of_length_le (show xs.length ≤ p by omega)]; simp
theorem cut_from (xs : List V) (p : Nat) : cutV xs (some (p : Int)) none = xs.drop p := by
  unfold cutV
  rw [HT.sIx_nat, HT.sIx_none]
  by_cases hp : p ≤ xs.length
  · rw [Nat.min_eq_left hp, List.take_of_length_le (by rw [List.length_drop]; omega)]
  · rw [Nat.min_eq_right (by omega), List.drop_of_length_le (Nat.le_refl _), List.drop_of_length_le (by omega)]; simp
end L2
end
section
set_option Elab.async false
set_option linter.all false
namespace L2
open PySem PySem.Spec PyProof.Rows
section
variable {prog : Program} {w : World} {A : Around} {R : Result → Shared → Prop} {E : Value → Shared → Prop} {s : Shared}
theorem maxd_loop {I : Addr} {fp wr : List Addr} {n : Nat} {P : Nat → Value → Prop} {St : Nat → Heap → Prop} {kw : List (Str × Value)}
    (W : Walks prog w A.in1 I fp wr n P St) (bt : Nat → Nat → Bool) (hc : CmpOf prog w A.in1 .Gt P bt) (S : Addr) (hS : S ∉ fp) :
    ∀ (k j : Nat) (s : Shared) (vb : Value) (c : Nat), n - (j+1) = k → j + 1 ≤ n → St (j+1) s.heap → P (argBest bt j) vb →
      s.heap.get? S = some { cls := .type "list", data := .seq #[vb, vb] c } →
      (∀ v h' tk, P (argBest bt (n-1)) v → (∀ b o, b ∉ wr → b ≠ S → s.heap.get? b = some o → h'.get? b = some o) → R (.ok (.ret v)) { s with heap := h', toks := tk }) →
      codeAny (model prog w) A (.builtin "max.loop" ⟨[.ref I, .none, .ref S], kw⟩) R s := by
  intro k
  induction k with
  | zero =>
    intro j s vb c hk hj hst hp hs h
    have hn : n = j + 1 := by omega
    subst hn
    refine codeAny_builtin F.entry_max_loop ?_
    rw [Around.under_plainId F.plain_max_loop]
    refine wpAny_bind (wpAny_seqItems hs rfl ?_)
    refine wpAny_bind (wpAny_tryCatch (W.done _ _ _ hst fun h' tk hk => ?_))
    have hs' := hk S _ (fun z => hS (W.sub S z)) hs
    refine wpAny_bind (wpAny_updateSeq hs' rfl ?_ (by simp [sizeLine_eq]) (by simp))
    refine wpAny_bind (wpAny_letGo (wpAny_pure ?_))
    refine h _ _ _ hp fun b o hb hbs ho => ?_
    rw [Heap.get?_update_other _ _ (Ne.symm hbs)]
    exact hk b o hb ho
  | succ k ih =>
    intro j s vb c hk hj hst hp hs h
    refine codeAny_builtin F.entry_max_loop ?_
    rw [Around.under_plainId F.plain_max_loop]
    refine wpAny_bind (wpAny_seqItems hs rfl ?_)
    refine wpAny_bind (wpAny_tryCatch (W.item (j + 1) _ _ _ (by omega) hst fun v h' tk hv hst' hk' => ?_))
    have hs' := hk' S _ (fun z => hS (W.sub S z)) hs
    refine wpAny_bind (wpAny_pure ?_)
    refine wpAny_bind (wpAny_tryCatch (wpAny_holding (wpAny_bind (hc (j+1) (argBest bt j) v vb _ _ _ hv hp ?_))))
    refine wpAny_bind (wpAny_holding (wpAny_truthy_bool ?_))
    refine wpAny_bind (wpAny_letGo (wpAny_pure ?_))
    cases hb : bt (j + 1) (argBest bt j) with
    | false =>
      refine wpAny_bind (wpAny_letGo (wpAny_pure ⟨plainId_quiet F.plain_max_loop _, ?_⟩))
      refine ih (j+1) _ vb c (by omega) (by omega) hst' (by unfold argBest; rw [hb]; exact hp) hs' fun v' h2 tk2 hv2 hk2 => ?_
      exact h v' h2 tk2 hv2 fun b o hb hbs ho => hk2 b o hb hbs (hk' b o hb ho)
    | true =>
      refine wpAny_bind (wpAny_updateSeq hs' rfl ?_ (by simp [sizeLine_eq]) (by simp [sizeLine_eq]))
      refine wpAny_bind (wpAny_letGo (wpAny_pure ⟨plainId_quiet F.plain_max_loop _, ?_⟩))
      refine ih (j+1) _ v _ (by omega) (by omega) (W.frame _ _ _ hst' fun b hb o ho => ?_) (by unfold argBest; rw [hb]; exact hv) (Heap.get?_update_self _ hs' rfl) fun v' h2 tk2 hv2 hk2 => ?_
      · rw [Heap.get?_update_other _ _ (fun z : S = b => hS (by rw [z]; exact hb))]; exact ho
      · refine h v' h2 tk2 hv2 fun b o hb hbs ho => hk2 b o hb hbs ?_
        rw [Heap.get?_update_other _ _ (Ne.symm hbs)]
        exact hk' b o hb ho
theorem maxd_first {I : Addr} {fp wr : List Addr} {n : Nat} {P : Nat → Value → Prop} {St : Nat → Heap → Prop} {kw : List (Str × Value)}
    (W : Walks prog w A.in1 I fp wr n P St) (bt : Nat → Nat → Bool) (hc : CmpOf prog w A.in1 .Gt P bt) (S : Addr) (hS : S ∉ fp) (hn : 0 < n) {s : Shared} {c : Nat} (hst : St 0 s.heap)
    (hs : s.heap.get? S = some { cls := .type "list", data := .seq #[] c })
    (h : ∀ v h' tk, P (argBest bt (n-1)) v → (∀ b o, b ∉ wr → b ≠ S → s.heap.get? b = some o → h'.get? b = some o) → R (.ok (.ret v)) { s with heap := h', toks := tk }) :
    codeAny (model prog w) A (.builtin "max.loop" ⟨[.ref I, .none, .ref S], kw⟩) R s := by
  refine codeAny_builtin F.entry_max_loop ?_
  rw [Around.under_plainId F.plain_max_loop]
  refine wpAny_bind (wpAny_seqItems hs rfl ?_)
  refine wpAny_bind (wpAny_tryCatch (W.item 0 _ _ _ hn hst fun v h' tk hv hst' hk' => ?_))
  have hs' := hk' S _ (fun z => hS (W.sub S z)) hs
  refine wpAny_bind (wpAny_pure ?_)
  refine wpAny_bind (wpAny_updateSeq hs' rfl ?_ (by simp [sizeLine_eq]) (by simp [sizeLine_eq]))
  refine wpAny_pure ⟨plainId_quiet F.plain_max_loop _, ?_⟩
  refine maxd_loop W bt hc S hS (n - 1) 0 _ v _ (by omega) (by omega) (W.frame _ _ _ hst' fun b hb o ho => ?_) hv (Heap.get?_update_self _ hs' rfl) fun v' h2 tk2 hv2 hk2 => ?_
  · rw [Heap.get?_update_other _ _ (fun z : S = b => hS (by rw [z]; exact hb))]; exact ho
  · refine h v' h2 tk2 hv2 fun b o hb hbs ho => hk2 b o hb hbs ?_
    rw [Heap.get?_update_other _ _ (Ne.symm hbs)]
    exact hk' b o hb ho
theorem maxd_none {I : Addr} {fp wr : List Addr} {n : Nat} {P : Nat → Value → Prop} {St : Nat → Heap → Prop} {x : Str} {d : Value}
    (W : Walks prog w A.in1 I fp wr n P St) (hn : n = 0) (S : Addr) {s : Shared} {c : Nat} (hst : St 0 s.heap)
    (hs : s.heap.get? S = some { cls := .type "list", data := .seq #[] c })
    (h : ∀ h' tk, (∀ b o, b ∉ wr → s.heap.get? b = some o → h'.get? b = some o) → R (.ok (.ret d)) { s with heap := h', toks := tk }) :
    codeAny (model prog w) A (.builtin "max.loop" ⟨[.ref I, .none, .ref S], [(x, d)]⟩) R s := by
  subst hn
  refine codeAny_builtin F.entry_max_loop ?_
  rw [Around.under_plainId F.plain_max_loop]
  refine wpAny_bind (wpAny_seqItems hs rfl ?_)
  refine wpAny_bind (wpAny_tryCatch (W.done _ _ _ hst fun h' tk hk => ?_))
  refine wpAny_bind (wpAny_rule ?_)
  exact wpAny_pure (h h' tk hk)
theorem maxd_check (l d : Value) : checkBuiltinCall "max" ⟨[l], [("default", d)]⟩ = pure () := by rfl
theorem maxd_bind (d : Value) : Builtin.Builtins.bindParams "max" ["key", "default"] 0 ⟨[], [("default", d)]⟩ = pure [none, some d] := by rfl
theorem maxd_raw {l : Addr} {its : List Value} {ns : List Int} {d : Value} {Q : Value → Shared → Prop} (hh : A.handled = none) (hl : s.heap.IsList l its.toArray) (hi : IntsAre its ns)
    (h0 : ns = [] → ∀ h' tk, (∀ b o, s.heap.get? b = some o → h'.get? b = some o) → Q d { s with heap := h', toks := tk })
    (h : 0 < ns.length → ∀ h' tk M t', (∀ b o, s.heap.get? b = some o → h'.get? b = some o) → M ∈ ns → (∀ a, a ∈ ns → a ≤ M) → Q (.int M t') { s with heap := h', toks := tk }) :
    wpAny (model prog w) A (call (.builtin "max") [.ref l] [("default", d)]) Q E s := by
  obtain ⟨xs, e⟩ := hi.allInts.items
  have hn : numsOf (intItems xs).toList = ns := by rw [← e]; exact hi.numsOf
  rw [nums_intItems] at hn
  subst hn
  rw [e] at hl
  refine wpAny_call (codeAny_call_builtin F.plain_max F.entry_max (wpAny_of_eq (maxd_check _ _) ?_))
  refine wpAny_bind (wpAny_of_eq (maxd_bind d) ?_)
  refine wpAny_bind (wpAny_pure ?_)
  refine wpAny_bind (iter_intList hl fun s₂ e2 hst hlt hne => ?_)
  have W := Walks.list (prog := prog) (w := w) (A := A.in1) hh s.heap.objs.size l hne (intItems xs)
  refine wpAny_bind (wpAny_newList ?_ (by simp))
  refine wpAny_pure ⟨plainId_quiet F.plain_max_loop _, ?_⟩
  have hst' := W.frame 0 _ (s₂.heap.push { cls := .type "list", data := .seq #[] }) hst fun b hb o ho => Heap.get?_push_of_some _ ho
  have hS : s₂.heap.objs.size ∉ [s.heap.objs.size, l] := fun z => Nat.lt_irrefl _ (hlt _ z)
  have hs : (s₂.heap.push { cls := .type "list", data := .seq #[] }).get? s₂.heap.objs.size = some { cls := .type "list", data := .seq #[] } := Heap.get?_push_size _ rfl
  have kept : ∀ h' : Heap, (∀ b o, b ∉ [s.heap.objs.size] → b ≠ s₂.heap.objs.size → (s₂.heap.push { cls := .type "list", data := .seq #[] }).get? b = some o → h'.get? b = some o) → ∀ b o, s.heap.get? b = some o → h'.get? b = some o := fun h' hk => by
    subst e2
    exact old_kept fun b o hb ho => hk b o hb (Nat.ne_of_lt (Heap.lt_size ho)) (Heap.get?_push_of_some _ ho)
  cases hz : xs.size with
  | zero =>
    have hx : xs = #[] := Array.eq_empty_of_size_eq_zero hz
    subst hx
    refine maxd_none W (by simp [intItems]) _ hst' hs fun h' tk hk => ?_
    have := h0 rfl h' tk (kept h' fun b o hb _ ho => hk b o hb ho)
    subst e2
    exact this
  | succ m =>
    have hlen : (intItems xs).size = m + 1 := by simp [intItems, hz]
    refine maxd_first W (fun i j => decide (numAt xs i > numAt xs j)) (CmpOf.ints_gt (numAt xs) fun i v hv => intItems_at hv) _ hS (by omega) hst' hs fun v h' tk hv hk => ?_
    obtain ⟨t, rfl⟩ := intItems_at hv
    rw [hlen] 
    obtain ⟨h1, h2⟩ := argBest_gt (numAt xs) m
    have := h (by simp; omega) h' tk (numAt xs (argBest (fun i j => decide (numAt xs i > numAt xs j)) m)) t (kept h' hk) ?_ fun a ha => ?_
    · subst e2
      exact this
    · rw [numAt_eq]; exact PySem.getD_mem (by rw [List.length_map, Array.length_toList]; omega)
    · obtain ⟨j, hj, rfl⟩ := mem_getD ha
      rw [List.length_map, Array.length_toList] at hj
      rw [← numAt_eq]; exact h2 j (by omega)
end
def tMaxD (K : PySem.W.Frag) (t tk : TA) : TE := fun σ H Q => t σ H fun vs H1 => tk σ H1 fun zs H2 => ∃ (a : Addr) (ns : List Int) (z : V), vs = [V.ref a] ∧ zs = [z] ∧ SqL K H2 a (ns.map V.int) ∧ ∀ v, (ns = [] ∧ v = z ∨ ∃ m, v = .int m ∧ m ∈ ns ∧ ∀ y, y ∈ ns → y ≤ m) → Q v H2
section
variable {X : Cx} {x nm : Str} {p pos kpos : Pos} {e d : Expr} {t tk : TA}
theorem pe_maxd (hcalm : X.calm = true) (hg : Gl X x) (hm : X.mg x = none) (hv : bootBuiltins x = some (.builtin "max")) (ha : PA X [e] t) (hk : PK X [⟨some nm, d, kpos⟩] tk) (hnm : nm = "default" := by rfl) (hn : x ≠ "__name__" := by decide) (hdb : (x == ("__debug__" : Str)) = false := by decide)
    (he : backTo pos (starEach [e] X.env) = (false, eval e X.env) :: backTo pos (starEach [] X.env) := by rfl) (hpl : (backTo pos (starEach [e] X.env)).any (·.1) = false := by rfl) :
    PE X (.Call (.Name x p) [e] [⟨some nm, d, kpos⟩] pos) (tMaxD X.K t tk) := by
  subst hnm
  intro pins s σ H Q I h
  refine wpAny_Call_Name_kw (ld_blt I hg hm hv ?_ hn hdb)
  refine PyProof.Rows.callWith_kw (thn (ha pos pins s σ H _ I h) fun us s1 ⟨vs, H1, I1, r1, q1⟩ => ?_) he hpl rfl rfl
  refine thn (hk pos pins s1 σ H1 _ I1 q1) fun ws s2 ⟨zs, H2, I2, rz, q2⟩ => ?_
  obtain ⟨a, ns, z, rfl, rfl, hs, q⟩ := q2
  obtain ⟨its, rv, hl, _⟩ := I2.list hs
  rw [Vals.ref1 r1]
  cases rz with
  | cons rz1 rz2 =>
  cases rz2 with
  | nil =>
  exact maxd_raw (I2.ok.hd hcalm) hl.isList rv.ints (fun hz h' tk hk => ⟨z, H2, I2.kept hk, rz1, q _ (.inl ⟨hz, rfl⟩)⟩) fun _ h' tk m t' hk h1 h2 => ⟨.int _, H2, I2.kept hk, ⟨_, rfl⟩, q _ (.inr ⟨m, rfl, h1, h2⟩)⟩
end
end L2
end
section
set_option Elab.async false
set_option linter.all false
namespace FA
open Sh
structure At (b : Bytes) (p : Nat) (rest : Bytes) : Prop where
  le : p ≤ b.length
  re : rest = b.drop p
theorem At.start (b : Bytes) : At b 0 b := ⟨Nat.zero_le _, rfl⟩
theorem At.len {b rest : Bytes} {p : Nat} (h : At b p rest) : p + rest.length = b.length := by
  rw [h.re, List.length_drop]; have := h.le; omega
theorem At.next {b rest : Bytes} {p k : Nat} (h : At b p rest) (hk : k ≤ rest.length) : At b (p + k) (rest.drop k) := by
  have := h.len
  exact ⟨by omega, by rw [h.re, List.drop_drop]⟩
theorem num_cons (c : UInt8) (r : Bytes) : num (c :: r) = c.toNat + 256 * num r := rfl
theorem num_lt : ∀ l : Bytes, num l < 256 ^ l.length
  | [] => by decide
  | c :: r => by
    have := num_lt r
    have hc := c.toNat_lt
    rw [num_cons, List.length_cons, Nat.pow_succ]
    omega
theorem readNum_ok {k p v q : Nat} {b r : Bytes} (h : readNum k b p = .ok (v, r, q)) : k ≤ b.length ∧ v = num (b.take k) ∧ r = b.drop k ∧ q = p + k := by
  unfold readNum at h
  split at h
  · cases h
  · cases h
    exact ⟨by omega, rfl, rfl, rfl⟩
theorem readNum_one {p : Nat} {c : UInt8} {r : Bytes} : readNum 1 (c :: r) p = .ok (c.toNat, r, p + 1) := by
  unfold readNum
  rw [if_neg (by simp)]
  simp [num]
theorem andThen_ok {α β : Type} {x : Except Fault α} {f : α → Except Fault β} {y : β} (h : andThen x f = .ok y) : ∃ a, x = .ok a ∧ f a = .ok y := by
  cases x with
  | error e => cases h
  | ok a => exact ⟨a, rfl, h⟩
theorem need_ok {c : Bool} {r p : Nat} {u : Unit} (h : need c r p = .ok u) : c = true := by
  unfold need at h
  split at h
  · assumption
  · cases h
def mB (n lo hi rule : Nat) (b : Bytes) (p : Nat) : Except Fault (Nat × Bytes × Nat) :=
  andThen (readNum n b p) fun l => if lo ≤ l.1 ∧ l.1 ≤ hi then .ok l else .error ⟨rule, p⟩
def mMark : List UInt8 → Bytes → Nat → Except Fault (Bytes × Nat)
  | [], b, p => .ok (b, p)
  | m :: ms, b, p => andThen (mB 1 m.toNat m.toNat 1 b p) fun l => mMark ms l.2.1 l.2.2
theorem mMark_nil {m : UInt8} {ms : List UInt8} {p : Nat} : mMark (m :: ms) [] p = .error ⟨5, p⟩ := rfl
theorem mMark_cons {m c : UInt8} {ms : List UInt8} {b : Bytes} {p : Nat} : mMark (m :: ms) (c :: b) p = if c = m then mMark ms b (p + 1) else .error ⟨1, p⟩ := by
  show andThen (andThen (readNum 1 (c :: b) p) _) _ = _
  rw [readNum_one]
  show andThen (if m.toNat ≤ c.toNat ∧ c.toNat ≤ m.toNat then _ else _) _ = _
  by_cases h : c = m
  · subst h
    rw [if_pos ⟨Nat.le_refl _, Nat.le_refl _⟩, if_pos rfl]; rfl
  · rw [if_neg (fun z => h (UInt8.toNat_inj.mp (by omega))), if_neg h]; rfl
theorem mMark_eq {m0 m1 m2 m3 : UInt8} {b : Bytes} : mMark [m0, m1, m2, m3] b 0 = readMark [m0, m1, m2, m3] b := by
  have hr : List.range [m0, m1, m2, m3].length = [0, 1, 2, 3] := rfl
  unfold readMark markAt
  rw [hr]
  match b with
  | [] => rfl
  | [x0] =>
    rw [mMark_cons]
    by_cases h0 : x0 = m0
    · subst h0; simp [mMark_nil]
    · simp [h0]
  | [x0, x1] =>
    rw [mMark_cons, mMark_cons]
    by_cases h0 : x0 = m0
    · subst h0
      by_cases h1 : x1 = m1
      · subst h1; simp [mMark_nil]
      · simp [h1]
    · simp [h0]
  | [x0, x1, x2] =>
    rw [mMark_cons, mMark_cons, mMark_cons]
    by_cases h0 : x0 = m0
    · subst h0
      by_cases h1 : x1 = m1
      · subst h1
        by_cases h2 : x2 = m2
        · subst h2; simp [mMark_nil]
        · simp [h2]
      · simp [h1]
    · simp [h0]
  | x0 :: x1 :: x2 :: x3 :: r =>
    rw [mMark_cons, mMark_cons, mMark_cons, mMark_cons]
    by_cases h0 : x0 = m0
    · subst h0
      by_cases h1 : x1 = m1
      · subst h1
        by_cases h2 : x2 = m2
        · subst h2
          by_cases h3 : x3 = m3
          · subst h3; simp [mMark]
          · simp [h3]
        · simp [h2]
      · simp [h1]
    · simp [h0]
def bits (n c : Nat) : List Bool := (List.range n).map fun i => c.testBit i
def bval (l : List Bool) : Nat := l.foldr (fun (c : Bool) (n : Nat) => (if c = true then 1 else 0) + 2 * n) 0
theorem bits_succ (n c : Nat) : bits (n + 1) c = c.testBit 0 :: bits n (c / 2) := by
  unfold bits
  rw [List.range_succ_eq_map, List.map_cons, List.map_map]
  congr 1
  apply List.map_congr_left
  intro i _
  show c.testBit (i + 1) = _
  rw [Nat.testBit_succ]
theorem bits_length (n c : Nat) : (bits n c).length = n := by unfold bits; simp
theorem bval_bits : ∀ n c : Nat, bval (bits n c) = c % 2 ^ n
  | 0, c => by simp [bits, bval, Nat.mod_one]
  | n + 1, c => by
    rw [bits_succ]
    show (if c.testBit 0 = true then 1 else 0) + 2 * bval (bits n (c / 2)) = _
    rw [bval_bits n, Nat.testBit_zero]
    have h1 : (if decide (c % 2 = 1) = true then 1 else 0) = c % 2 := by
      by_cases h : c % 2 = 1
      · simp [h]
      · simp [h]; omega
    rw [h1, Nat.pow_succ, Nat.mul_comm (2 ^ n) 2, Nat.mod_mul]
theorem bval_lt : ∀ l : List Bool, bval l < 2 ^ l.length
  | [] => by decide
  | c :: l => by
    have := bval_lt l
    show (if c = true then 1 else 0) + 2 * bval l < 2 ^ (l.length + 1)
    rw [Nat.pow_succ]
    cases c <;> simp <;> omega
theorem bits_bval : ∀ l : List Bool, bits l.length (bval l) = l
  | [] => rfl
  | c :: l => by
    rw [List.length_cons, bits_succ]
    have e : bval (c :: l) = (if c = true then 1 else 0) + 2 * bval l := rfl
    rw [e]
    have ed : ((if c = true then 1 else 0) + 2 * bval l) / 2 = bval l := by cases c <;> simp <;> omega
    rw [ed, bits_bval l, Nat.testBit_zero]
    cases c
    · simp
    · simp
theorem byteOf_toNat {l : List Bool} (h : l.length ≤ 8) : (byteOf l).toNat = bval l := by
  have h1 := bval_lt l
  have h2 : 2 ^ l.length ≤ 2 ^ 8 := Nat.pow_le_pow_right (by decide) h
  show (UInt8.ofNat (bval l)).toNat = _
  rw [UInt8.toNat_ofNat']
  exact Nat.mod_eq_of_lt (by omega)
theorem byteOf_bits {n : Nat} {c : UInt8} (hn : n ≤ 8) : byteOf (bits n c.toNat) = c ↔ c.toNat / 2 ^ n = 0 := by
  rw [← UInt8.toNat_inj, byteOf_toNat (by rw [bits_length]; exact hn), bval_bits, Nat.div_eq_zero_iff]
  constructor
  · intro h
    right
    have := Nat.mod_lt c.toNat (show 0 < 2 ^ n from Nat.two_pow_pos n)
    omega
  · rintro (h | h)
    · have := Nat.two_pow_pos n; omega
    · exact Nat.mod_eq_of_lt h
theorem bitsOf_cons {w : Nat} {c : UInt8} {t : Bytes} (h : 8 ≤ w) : bitsOf w (c :: t) = bits 8 c.toNat ++ bitsOf (w - 8) t := by
  unfold bitsOf bits
  obtain ⟨v, rfl⟩ : ∃ v, w = 8 + v := ⟨w - 8, by omega⟩
  rw [List.range_add, List.map_append, List.map_map, Nat.add_sub_cancel_left]
  refine congr (congrArg HAppend.hAppend ?_) ?_
  · apply List.map_congr_left
    intro i hi
    have : i < 8 := List.mem_range.mp hi
    rw [show i / 8 = 0 by omega, show i % 8 = i by omega]
    rfl
  · apply List.map_congr_left
    intro i _
    show ((c :: t).getD ((8 + i) / 8) 0).toNat.testBit ((8 + i) % 8) = _
    rw [show (8 + i) / 8 = i / 8 + 1 by omega, show (8 + i) % 8 = i % 8 by omega]
    rfl
theorem bitsOf_short {w : Nat} {c : UInt8} {t : Bytes} (h : w ≤ 8) : bitsOf w (c :: t) = bits w c.toNat := by
  unfold bitsOf bits
  apply List.map_congr_left
  intro i hi
  have : i < w := List.mem_range.mp hi
  rw [show i / 8 = 0 by omega, show i % 8 = i by omega]
  rfl
theorem bitsOf_length (w : Nat) (b : Bytes) : (bitsOf w b).length = w := by unfold bitsOf; simp
def readRow (w : Nat) (b : Bytes) (p : Nat) : Except Fault (List Bool × Bytes × Nat) :=
  andThen (need (decide (rowBytes w ≤ b.length)) 5 (p + b.length)) fun _ =>
  andThen (need (decide (packed (rowBytes w) (bitsOf w (b.take (rowBytes w))) = b.take (rowBytes w))) 4 (p + rowBytes w - 1)) fun _ =>
  .ok (bitsOf w (b.take (rowBytes w)), b.drop (rowBytes w), p + rowBytes w)
theorem readPlane_succ {w h p : Nat} {b : Bytes} : readPlane w (h + 1) b p = andThen (readRow w b p) fun r => andThen (readPlane w h r.2.1 r.2.2) fun x => .ok (r.1 :: x.1, x.2.1, x.2.2) := by
  show andThen (need (decide (rowBytes w ≤ b.length)) 5 (p + b.length)) _ = _
  unfold readRow
  by_cases h1 : rowBytes w ≤ b.length
  · rw [decide_eq_true h1]
    show andThen (need (decide (packed _ _ = _)) 4 _) _ = andThen (andThen (need (decide (packed _ _ = _)) 4 _) _) _
    by_cases h2 : packed (rowBytes w) (bitsOf w (b.take (rowBytes w))) = b.take (rowBytes w)
    · rw [decide_eq_true h2]; rfl
    · rw [decide_eq_false h2]; rfl
  · rw [decide_eq_false h1]; rfl
def mRow : Nat → Nat → Bytes → Nat → Except Fault (List Bool × Bytes × Nat)
  | 0, _, b, p => .ok ([], b, p)
  | k + 1, w, b, p => andThen (readNum 1 b p) fun c => if c.1 / 2 ^ (min 8 w) = 0 then andThen (mRow k (w - 8) c.2.1 c.2.2) fun x => .ok (bits (min 8 w) c.1 ++ x.1, x.2.1, x.2.2) else .error ⟨4, p⟩
theorem mRow_eq : ∀ (k w : Nat) (b : Bytes) (p : Nat), rowBytes w = k → mRow k w b p = readRow w b p
  | 0, w, b, p, h => by
    have : w = 0 := by unfold rowBytes at h; omega
    subst this
    rfl
  | k + 1, w, [], p, h => by
    unfold readRow
    rw [h]
    rfl
  | k + 1, w, c :: t, p, h => by
    unfold mRow
    rw [readNum_one]
    show (if c.toNat / 2 ^ (min 8 w) = 0 then andThen (mRow k (w - 8) t (p + 1)) _ else _) = _
    by_cases hk : k = 0
    · subst hk
      have hw : 1 ≤ w ∧ w ≤ 8 := by unfold rowBytes at h; omega
      unfold readRow
      rw [h, Nat.min_eq_right hw.2, decide_eq_true (show 0 + 1 ≤ (c :: t).length by simp)]
      show _ = andThen (need (decide (packed 1 (bitsOf w [c]) = [c])) 4 (p + 1 - 1)) _
      have e1 : bitsOf w [c] = bits w c.toNat := bitsOf_short hw.2
      have e2 : packed 1 (bitsOf w [c]) = [byteOf (bits w c.toNat)] := by
        rw [e1]
        show [byteOf ((bits w c.toNat).take 8)] = _
        rw [List.take_of_length_le (by rw [bits_length]; exact hw.2)]
      rw [e2]
      by_cases hc : c.toNat / 2 ^ w = 0
      · rw [if_pos hc, decide_eq_true (by rw [(byteOf_bits hw.2).mpr hc])]
        show Except.ok (bits w c.toNat ++ [], t, p + 1) = Except.ok (bitsOf w [c], t, p + 1)
        rw [e1, List.append_nil]
      · rw [if_neg hc, decide_eq_false (fun z => hc ((byteOf_bits hw.2).mp (List.head_eq_of_cons_eq z)))]
        rfl
    · have hw : 8 < w := by unfold rowBytes at h; omega
      have hk' : rowBytes (w - 8) = k := by unfold rowBytes at h ⊢; omega
      have hc8 : c.toNat / 2 ^ 8 = 0 := Nat.div_eq_of_lt c.toNat_lt
      rw [mRow_eq k (w - 8) t (p + 1) hk', Nat.min_eq_left (Nat.le_of_lt hw), if_pos hc8]
      unfold readRow
      rw [h, hk']
      have el : p + (c :: t).length = p + 1 + t.length := by simp; omega
      rw [el]
      by_cases h1 : k ≤ t.length
      · rw [decide_eq_true h1, decide_eq_true (show k + 1 ≤ (c :: t).length by simpa using h1)]
        show andThen (andThen (need (decide (packed k (bitsOf (w - 8) (t.take k)) = t.take k)) 4 (p + 1 + k - 1)) _) _ = andThen (need (decide (packed (k + 1) (bitsOf w (c :: t.take k)) = c :: t.take k)) 4 (p + (k + 1) - 1)) _
        have e2 : packed (k + 1) (bitsOf w (c :: t.take k)) = c :: packed k (bitsOf (w - 8) (t.take k)) := by
          rw [bitsOf_cons (Nat.le_of_lt hw)]
          show byteOf ((bits 8 c.toNat ++ _).take 8) :: packed k ((bits 8 c.toNat ++ _).drop 8) = _
          have hl := bits_length 8 c.toNat
          rw [List.take_append_of_le_length (by omega), List.take_of_length_le (by omega), List.drop_append, List.drop_of_length_le (by omega), hl, Nat.sub_self, List.drop_zero, List.nil_append, (byteOf_bits (Nat.le_refl 8)).mpr hc8]
        rw [e2, show p + (k + 1) - 1 = p + 1 + k - 1 by omega]
        by_cases h2 : packed k (bitsOf (w - 8) (t.take k)) = t.take k
        · rw [decide_eq_true h2, decide_eq_true (by rw [h2])]
          show Except.ok (bits 8 c.toNat ++ bitsOf (w - 8) (t.take k), t.drop k, p + 1 + k) = Except.ok (bitsOf w (c :: t.take k), t.drop k, p + (k + 1))
          rw [bitsOf_cons (Nat.le_of_lt hw), show p + (k + 1) = p + 1 + k by omega]
        · rw [decide_eq_false h2, decide_eq_false (fun z => h2 (List.tail_eq_of_cons_eq z))]
          rfl
      · rw [decide_eq_false h1, decide_eq_false (show ¬ k + 1 ≤ (c :: t).length by simpa using h1)]
        rfl
end FA
end
section
set_option Elab.async false
set_option linter.all false
namespace FA
open Sh
theorem le_length : ∀ k n : Nat, (le k n).length = k
  | 0, _ => rfl
  | k + 1, n => by show (le k (n / 256)).length + 1 = k + 1; rw [le_length k]
theorem le_num : ∀ (k : Nat) (l : Bytes), l.length = k → le k (num l) = l
  | 0, [], _ => rfl
  | k + 1, c :: r, h => by
    have hr : r.length = k := by simpa using h
    rw [num_cons]
    show UInt8.ofNat ((c.toNat + 256 * num r) % 256) :: le k ((c.toNat + 256 * num r) / 256) = _
    have hc := c.toNat_lt
    have e1 : (c.toNat + 256 * num r) % 256 = c.toNat := by omega
    have e2 : (c.toNat + 256 * num r) / 256 = num r := by omega
    rw [e1, e2, le_num k r hr, UInt8.ofNat_toNat]
theorem num_le : ∀ (k n : Nat), n < 256 ^ k → num (le k n) = n
  | 0, n, h => by
    have : n = 0 := by simpa using h
    subst this; rfl
  | k + 1, n, h => by
    show num (UInt8.ofNat (n % 256) :: le k (n / 256)) = n
    rw [num_cons, num_le k (n / 256) (by rw [Nat.pow_succ] at h; omega), UInt8.toNat_ofNat', Nat.mod_eq_of_lt (by omega)]
    omega
theorem packed_length : ∀ (k : Nat) (l : List Bool), (packed k l).length = k
  | 0, _ => rfl
  | k + 1, l => by show (packed k (l.drop 8)).length + 1 = k + 1; rw [packed_length k]
structure PlaneOk (w h : Nat) (P : Plane) : Prop where
  len : P.length = h
  rows : ∀ r ∈ P, r.length = w
theorem PlaneOk.tail {w h : Nat} {r : List Bool} {P : Plane} (o : PlaneOk w (h + 1) (r :: P)) : PlaneOk w h P := ⟨by have := o.len; simpa using this, fun x hx => o.rows x (List.mem_cons_of_mem _ hx)⟩
theorem writePlane_length {w : Nat} : ∀ {P : Plane}, (writePlane w P).length = P.length * rowBytes w
  | [] => by simp [writePlane]
  | r :: P => by
    have := writePlane_length (w := w) (P := P)
    unfold writePlane at this ⊢
    rw [List.flatMap_cons, List.length_append, packed_length, this, List.length_cons, Nat.add_mul]
    omega
theorem readRow_ok {w p q : Nat} {b r : Bytes} {l : List Bool} (e : readRow w b p = .ok (l, r, q)) : b = packed (rowBytes w) l ++ r ∧ q = p + rowBytes w ∧ l.length = w ∧ r = b.drop (rowBytes w) ∧ rowBytes w ≤ b.length := by
  unfold readRow at e
  obtain ⟨_, h1, e⟩ := andThen_ok e
  obtain ⟨_, h2, e⟩ := andThen_ok e
  have h1 := of_decide_eq_true (need_ok h1)
  have h2 := of_decide_eq_true (need_ok h2)
  cases e
  refine ⟨?_, rfl, bitsOf_length _ _, rfl, h1⟩
  rw [h2, List.take_append_drop]
theorem readPlane_ok {w : Nat} : ∀ {h p q : Nat} {b r : Bytes} {P : Plane}, readPlane w h b p = .ok (P, r, q) → b = writePlane w P ++ r ∧ q = p + (writePlane w P).length ∧ PlaneOk w h P
  | 0, p, q, b, r, P, e => by
    cases e
    exact ⟨rfl, rfl, rfl, fun _ h => nomatch h⟩
  | h + 1, p, q, b, r, P, e => by
    rw [readPlane_succ] at e
    obtain ⟨⟨l, r1, q1⟩, e1, e⟩ := andThen_ok e
    obtain ⟨⟨P2, r2, q2⟩, e2, e⟩ := andThen_ok e
    cases e
    obtain ⟨h1, h2, h3, _, _⟩ := readRow_ok e1
    obtain ⟨g1, g2, g3⟩ := readPlane_ok e2
    have ew : writePlane w (l :: P2) = packed (rowBytes w) l ++ writePlane w P2 := by unfold writePlane; rw [List.flatMap_cons]
    refine ⟨?_, ?_, ?_, fun x hx => ?_⟩
    · show b = writePlane w (l :: P2) ++ r2
      rw [ew, List.append_assoc, h1]
      have g1 : r1 = writePlane w P2 ++ r2 := g1
      rw [g1]
    · show q2 = p + (writePlane w (l :: P2)).length
      have g2 : q2 = q1 + (writePlane w P2).length := g2
      rw [ew, List.length_append, packed_length, g2, h2]; omega
    · show P2.length + 1 = h + 1
      rw [g3.len]
    · rcases List.mem_cons.mp hx with rfl | hx
      · exact h3
      · exact g3.rows x hx
theorem readNum_split {k p v q : Nat} {b r : Bytes} (h : readNum k b p = .ok (v, r, q)) : b = le k v ++ r ∧ q = p + k ∧ v < 256 ^ k := by
  obtain ⟨h1, h2, h3, h4⟩ := readNum_ok h
  have hl : (b.take k).length = k := by rw [List.length_take]; omega
  refine ⟨?_, h4, ?_⟩
  · rw [h2, le_num k _ hl, h3, List.take_append_drop]
  · rw [h2]
    have := num_lt (b.take k)
    rw [hl] at this; exact this
structure GOk (h : Nat) (g : Glyph) : Prop where
  letter : g.letter ≤ 4095
  w1 : 1 ≤ g.width
  w64 : g.width ≤ 64
  budget : g.budget ≤ 4096
  cost : g.cost ≤ 4095
  ink : PlaneOk g.width h g.ink
  paper : PlaneOk g.width h g.paper
  both : bothIn g.width g.ink g.paper = none
theorem readGlyph_ok {h p q : Nat} {b r : Bytes} {g : Glyph} (e : readGlyph h b p = .ok (g, r, q)) : b = writeGlyph g ++ r ∧ q = p + (writeGlyph g).length ∧ GOk h g := by
  unfold readGlyph at e
  obtain ⟨⟨l, r1, q1⟩, e1, e⟩ := andThen_ok e
  obtain ⟨_, c1, e⟩ := andThen_ok e
  obtain ⟨⟨w, r2, q2⟩, e2, e⟩ := andThen_ok e
  obtain ⟨_, c2, e⟩ := andThen_ok e
  obtain ⟨⟨u, r3, q3⟩, e3, e⟩ := andThen_ok e
  obtain ⟨_, c3, e⟩ := andThen_ok e
  obtain ⟨⟨c, r4, q4⟩, e4, e⟩ := andThen_ok e
  obtain ⟨_, c4, e⟩ := andThen_ok e
  obtain ⟨⟨I, r5, q5⟩, e5, e⟩ := andThen_ok e
  obtain ⟨⟨Q, r6, q6⟩, e6, e⟩ := andThen_ok e
  obtain ⟨_, c5, e⟩ := andThen_ok e
  cases e
  have c1 := of_decide_eq_true (need_ok c1)
  have c2 := need_ok c2
  have c3 := of_decide_eq_true (need_ok c3)
  have c4 := of_decide_eq_true (need_ok c4)
  rw [Bool.and_eq_true, decide_eq_true_eq, decide_eq_true_eq] at c2
  obtain ⟨a1, b1, _⟩ := readNum_split e1
  obtain ⟨a2, b2, _⟩ := readNum_split e2
  obtain ⟨a3, b3, _⟩ := readNum_split e3
  obtain ⟨a4, b4, _⟩ := readNum_split e4
  obtain ⟨a5, b5, d5⟩ := readPlane_ok e5
  obtain ⟨a6, b6, d6⟩ := readPlane_ok e6
  dsimp only at *
  have ew : writeGlyph ⟨l, w, I, Q, u, c⟩ = le 2 l ++ (le 1 w ++ (le 2 u ++ (le 2 c ++ (writePlane w I ++ writePlane w Q)))) := rfl
  refine ⟨?_, ?_, c1, c2.1, c2.2, c3, c4, d5, d6, ?_⟩
  · rw [ew, a1, a2, a3, a4, a5, a6]
    simp only [List.append_assoc]
  · rw [ew]
    simp only [List.length_append, le_length]
    omega
  · show bothIn w I Q = none
    cases hb : bothIn w I Q with
    | none => rfl
    | some j => rw [hb] at c5; cases c5
def nats (b : Bytes) : List Nat := b.map UInt8.toNat
def rk : List Nat → List Nat
  | x :: y :: r => y :: x :: r
  | l => l
theorem writeGlyph_shape (g : Glyph) : writeGlyph g = UInt8.ofNat (g.letter % 256) :: UInt8.ofNat (g.letter / 256 % 256) :: UInt8.ofNat (g.width % 256) :: (writeGlyph g).drop 3 := rfl
theorem rk_shape {h : Nat} {g : Glyph} (o : GOk h g) : rk (nats (writeGlyph g)) = g.letter / 256 :: g.letter % 256 :: g.width :: nats ((writeGlyph g).drop 3) := by
  have hl := o.letter
  have hw := o.w64
  have e1 : (UInt8.ofNat (g.letter % 256)).toNat = g.letter % 256 := by rw [UInt8.toNat_ofNat']; omega
  have e2 : (UInt8.ofNat (g.letter / 256 % 256)).toNat = g.letter / 256 := by rw [UInt8.toNat_ofNat']; omega
  have e3 : (UInt8.ofNat (g.width % 256)).toNat = g.width := by rw [UInt8.toNat_ofNat']; omega
  rw [writeGlyph_shape]
  show (UInt8.ofNat (g.letter / 256 % 256)).toNat :: (UInt8.ofNat (g.letter % 256)).toNat :: (UInt8.ofNat (g.width % 256)).toNat :: _ = _
  rw [e1, e2, e3]
  rfl
theorem lexLess_cons (x y : Nat) (l m : List Nat) : lexLess (x :: l) (y :: m) = (decide (x < y) || (x == y && lexLess l m)) := rfl
theorem rk_less {h : Nat} {f g : Glyph} (of : GOk h f) (og : GOk h g) : lexLess (rk (nats (writeGlyph f))) (rk (nats (writeGlyph g))) = lexLess (glyphKey f) (glyphKey g) := by
  rw [rk_shape of, rk_shape og]
  unfold glyphKey
  show lexLess _ _ = lexLess (f.letter :: f.width :: nats _) (g.letter :: g.width :: nats _)
  simp only [lexLess_cons]
  generalize (decide (f.width < g.width) || (f.width == g.width && lexLess (nats ((writeGlyph f).drop 3)) (nats ((writeGlyph g).drop 3)))) = z
  have d1 := Nat.div_add_mod f.letter 256
  have d2 := Nat.div_add_mod g.letter 256
  have m1 := Nat.mod_lt f.letter (show 0 < 256 by decide)
  have m2 := Nat.mod_lt g.letter (show 0 < 256 by decide)
  by_cases h1 : f.letter / 256 < g.letter / 256
  · have : f.letter < g.letter := by omega
    simp [h1, this]
  · by_cases h2 : f.letter / 256 = g.letter / 256
    · by_cases h3 : f.letter % 256 < g.letter % 256
      · have : f.letter < g.letter := by omega
        simp [h2, h3, this]
      · by_cases h4 : f.letter % 256 = g.letter % 256
        · have : f.letter = g.letter := by omega
          simp [this]
        · have a : ¬ f.letter < g.letter := by omega
          have b : ¬ f.letter = g.letter := by omega
          have c1 : (f.letter % 256 == g.letter % 256) = false := by simpa using h4
          have c2 : (f.letter == g.letter) = false := by simpa using b
          simp [h2, h3, a, c1, c2]
    · have a : ¬ f.letter < g.letter := by omega
      have b : ¬ f.letter = g.letter := by omega
      have c1 : (f.letter / 256 == g.letter / 256) = false := by simpa using h2
      have c2 : (f.letter == g.letter) = false := by simpa using b
      simp [h1, a, c1, c2]
def rkO : Option Glyph → List Nat
  | none => []
  | some f => rk (nats (writeGlyph f))
theorem rises_none {h : Nat} {g : Glyph} (og : GOk h g) : lexLess (rkO none) (rk (nats (writeGlyph g))) = true := by
  rw [rk_shape og]; rfl
theorem rises_some {h : Nat} {f g : Glyph} (of : GOk h f) (og : GOk h g) : lexLess (rkO (some f)) (rk (nats (writeGlyph g))) = lexLess (glyphKey f) (glyphKey g) := rk_less of og
def mGl (h : Nat) (had : Option Glyph) (b : Bytes) (p : Nat) : Except Fault (Glyph × Bytes × Nat) :=
  andThen (readGlyph h b p) fun g => if lexLess (rkO had) (rk (nats (writeGlyph g.1))) = true then .ok g else .error ⟨6, p⟩
theorem readGlyphs_succ {h k p : Nat} {had : Option Glyph} {b : Bytes} (hh : ∀ f, had = some f → GOk h f) : readGlyphs h (k + 1) had b p = andThen (mGl h had b p) fun g => andThen (readGlyphs h k (some g.1) g.2.1 g.2.2) fun l => .ok (g.1 :: l.1, l.2.1, l.2.2) := by
  show andThen (readGlyph h b p) _ = andThen (andThen (readGlyph h b p) _) _
  cases e : readGlyph h b p with
  | error z => rfl
  | ok g =>
    obtain ⟨g, r, q⟩ := g
    have og := (readGlyph_ok e).2.2
    show andThen (match had with | some f => need (lexLess (glyphKey f) (glyphKey g)) 6 p | none => need true 6 p) _ = andThen (if lexLess (rkO had) (rk (nats (writeGlyph g))) = true then _ else _) _
    cases had with
    | none => rw [rises_none og, if_pos rfl]; rfl
    | some f =>
      rw [rises_some (hh f rfl) og]
      show andThen (need (lexLess (glyphKey f) (glyphKey g)) 6 p) _ = _
      cases lexLess (glyphKey f) (glyphKey g)
      · rfl
      · rfl
theorem judgeFace_eq (b : Bytes) : judgeFace b =
    andThen (mMark FACE b 0) fun m =>
    andThen (mB 1 1 64 2 m.1 m.2) fun h =>
    andThen (mB 2 0 4095 2 h.2.1 h.2.2) fun e =>
    andThen (mB 2 0 4096 2 e.2.1 e.2.2) fun n =>
    andThen (readGlyphs h.1 n.1 none n.2.1 n.2.2) fun l =>
    andThen (need l.2.1.isEmpty 7 l.2.2) fun _ => .ok ⟨h.1, e.1, l.1⟩ := by
  unfold judgeFace
  rw [show readMark FACE b = mMark FACE b 0 from mMark_eq.symm]
  cases e0 : mMark FACE b 0 with
  | error z => rfl
  | ok m =>
    have hm : m.2 = 4 := by
      rw [show mMark FACE b 0 = readMark FACE b from mMark_eq] at e0
      unfold readMark at e0
      split at e0
      · cases e0
      · cases e0; rfl
    obtain ⟨m1, m2⟩ := m
    dsimp only at hm
    subst hm
    show andThen (readNum 1 m1 4) _ = andThen (andThen (readNum 1 m1 4) _) _
    cases e1 : readNum 1 m1 4 with
    | error z => rfl
    | ok x1 =>
      obtain ⟨h, b1, q1⟩ := x1
      obtain ⟨_, _, _, hq1⟩ := readNum_ok e1
      subst hq1
      show andThen (need (decide (1 ≤ h) && decide (h ≤ SIDE)) 2 4) _ = andThen (if 1 ≤ h ∧ h ≤ 64 then _ else _) _
      by_cases hh : 1 ≤ h ∧ h ≤ 64
      · rw [if_pos hh, decide_eq_true hh.1, decide_eq_true (show h ≤ SIDE from hh.2)]
        show andThen (readNum 2 b1 (4 + 1)) _ = andThen (andThen (readNum 2 b1 (4 + 1)) _) _
        cases e2 : readNum 2 b1 (4 + 1) with
        | error z => rfl
        | ok x2 =>
          obtain ⟨c, b2, q2⟩ := x2
          obtain ⟨_, _, _, hq2⟩ := readNum_ok e2
          subst hq2
          show andThen (need (decide (c ≤ COST)) 2 5) _ = andThen (if 0 ≤ c ∧ c ≤ 4095 then _ else _) _
          by_cases hc : c ≤ 4095
          · rw [if_pos ⟨Nat.zero_le _, hc⟩, decide_eq_true (show c ≤ COST from hc)]
            show andThen (readNum 2 b2 (4 + 1 + 2)) _ = andThen (andThen (readNum 2 b2 (4 + 1 + 2)) _) _
            cases e3 : readNum 2 b2 (4 + 1 + 2) with
            | error z => rfl
            | ok x3 =>
              obtain ⟨n, b3, q3⟩ := x3
              show andThen (need (decide (n ≤ GLYPHS)) 2 7) _ = andThen (if 0 ≤ n ∧ n ≤ 4096 then _ else _) _
              by_cases hn : n ≤ 4096
              · rw [if_pos ⟨Nat.zero_le _, hn⟩, decide_eq_true (show n ≤ GLYPHS from hn)]; rfl
              · rw [if_neg (fun z => hn z.2), decide_eq_false (show ¬ n ≤ GLYPHS from hn)]; rfl
          · rw [if_neg (fun z => hc z.2), decide_eq_false (show ¬ c ≤ COST from hc)]; rfl
      · rw [if_neg hh]
        have : (decide (1 ≤ h) && decide (h ≤ SIDE)) = false := by
          rw [Bool.and_eq_false_iff, decide_eq_false_iff_not, decide_eq_false_iff_not]
          have : SIDE = 64 := rfl
          omega
        rw [this]; rfl
theorem readGlyph_eq {h p : Nat} {b : Bytes} : readGlyph h b p =
    andThen (mB 2 0 4095 3 b p) fun l =>
    andThen (mB 1 1 64 3 l.2.1 l.2.2) fun w =>
    andThen (mB 2 0 4096 3 w.2.1 w.2.2) fun u =>
    andThen (mB 2 0 4095 3 u.2.1 u.2.2) fun c =>
    andThen (readPlane w.1 h c.2.1 c.2.2) fun i =>
    andThen (readPlane w.1 h i.2.1 i.2.2) fun q =>
    (match bothIn w.1 i.1 q.1 with
      | some j => .error ⟨4, i.2.2 + rowBytes w.1 * j⟩
      | none => .ok (⟨l.1, w.1, i.1, q.1, u.1, c.1⟩, q.2.1, q.2.2)) := by
  unfold readGlyph
  show andThen (readNum 2 b p) _ = andThen (andThen (readNum 2 b p) _) _
  cases e1 : readNum 2 b p with
  | error z => rfl
  | ok x1 =>
    obtain ⟨l, b1, q1⟩ := x1
    obtain ⟨_, _, _, hq1⟩ := readNum_ok e1
    subst hq1
    show andThen (need (decide (l ≤ LETTERMOST)) 3 p) _ = andThen (if 0 ≤ l ∧ l ≤ 4095 then _ else _) _
    by_cases hl : l ≤ 4095
    · rw [if_pos ⟨Nat.zero_le _, hl⟩, decide_eq_true (show l ≤ LETTERMOST from hl)]
      show andThen (readNum 1 b1 (p + 2)) _ = andThen (andThen (readNum 1 b1 (p + 2)) _) _
      cases e2 : readNum 1 b1 (p + 2) with
      | error z => rfl
      | ok x2 =>
        obtain ⟨w, b2, q2⟩ := x2
        obtain ⟨_, _, _, hq2⟩ := readNum_ok e2
        subst hq2
        show andThen (need (decide (1 ≤ w) && decide (w ≤ SIDE)) 3 (p + 2)) _ = andThen (if 1 ≤ w ∧ w ≤ 64 then _ else _) _
        by_cases hw : 1 ≤ w ∧ w ≤ 64
        · rw [if_pos hw, decide_eq_true hw.1, decide_eq_true (show w ≤ SIDE from hw.2)]
          show andThen (readNum 2 b2 (p + 2 + 1)) _ = andThen (andThen (readNum 2 b2 (p + 2 + 1)) _) _
          cases e3 : readNum 2 b2 (p + 2 + 1) with
          | error z => rfl
          | ok x3 =>
            obtain ⟨u, b3, q3⟩ := x3
            obtain ⟨_, _, _, hq3⟩ := readNum_ok e3
            subst hq3
            show andThen (need (decide (u ≤ BUDGET)) 3 (p + 3)) _ = andThen (if 0 ≤ u ∧ u ≤ 4096 then _ else _) _
            by_cases hu : u ≤ 4096
            · rw [if_pos ⟨Nat.zero_le _, hu⟩, decide_eq_true (show u ≤ BUDGET from hu)]
              show andThen (readNum 2 b3 (p + 2 + 1 + 2)) _ = andThen (andThen (readNum 2 b3 (p + 2 + 1 + 2)) _) _
              cases e4 : readNum 2 b3 (p + 2 + 1 + 2) with
              | error z => rfl
              | ok x4 =>
                obtain ⟨c, b4, q4⟩ := x4
                show andThen (need (decide (c ≤ COST)) 3 (p + 5)) _ = andThen (if 0 ≤ c ∧ c ≤ 4095 then _ else _) _
                by_cases hc : c ≤ 4095
                · rw [if_pos ⟨Nat.zero_le _, hc⟩, decide_eq_true (show c ≤ COST from hc)]
                  show andThen (readPlane w h b4 q4) _ = andThen (readPlane w h b4 q4) _
                  cases e5 : readPlane w h b4 q4 with
                  | error z => rfl
                  | ok x5 =>
                    show andThen (readPlane w h x5.2.1 x5.2.2) _ = andThen (readPlane w h x5.2.1 x5.2.2) _
                    cases e6 : readPlane w h x5.2.1 x5.2.2 with
                    | error z => rfl
                    | ok x6 =>
                      show andThen (match bothIn w x5.1 x6.1 with | some j => need false 4 (x5.2.2 + rowBytes w * j) | none => need true 4 0) _ = (match bothIn w x5.1 x6.1 with | some j => _ | none => _)
                      cases bothIn w x5.1 x6.1 with
                      | none => rfl
                      | some j => rfl
                · rw [if_neg (fun z => hc z.2), decide_eq_false (show ¬ c ≤ COST from hc)]; rfl
            · rw [if_neg (fun z => hu z.2), decide_eq_false (show ¬ u ≤ BUDGET from hu)]; rfl
        · rw [if_neg hw]
          have : (decide (1 ≤ w) && decide (w ≤ SIDE)) = false := by
            rw [Bool.and_eq_false_iff, decide_eq_false_iff_not, decide_eq_false_iff_not]
            have : SIDE = 64 := rfl
            omega
          rw [this]; rfl
    · rw [if_neg (fun z => hl z.2), decide_eq_false (show ¬ l ≤ LETTERMOST from hl)]; rfl
end FA
end
section
set_option Elab.async false
set_option linter.all false
namespace FA
open Sh
def grid {α : Type} (w h : Nat) (f : Nat → Nat → α) : List (List α) := (List.range h).map fun j => (List.range w).map fun i => f i j
theorem by_range {α : Type} (d : α) : ∀ l : List α, l = (List.range l.length).map fun i => l.getD i d
  | [] => rfl
  | a :: l => by
    rw [List.length_cons, List.range_succ_eq_map, List.map_cons, List.map_map]
    have := by_range d l
    show a :: l = a :: _
    congr 1
theorem plane_grid {w h : Nat} {P : Plane} (o : PlaneOk w h P) : P = grid w h fun i j => bit P i j := by
  have e := by_range ([] : List Bool) P
  rw [o.len] at e
  unfold grid
  refine e.trans (List.map_congr_left fun j hj => ?_)
  have hj : j < P.length := by rw [o.len]; exact List.mem_range.mp hj
  have hg : P.getD j [] = P[j] := by simp [List.getD, hj]
  have hl : (P.getD j []).length = w := by rw [hg]; exact o.rows _ (List.getElem_mem hj)
  have e2 := by_range false (P.getD j [])
  rw [hl] at e2
  exact e2
theorem grid_length {α : Type} {w h : Nat} {f : Nat → Nat → α} : (grid w h f).length = h := by unfold grid; simp
theorem grid_rows {α : Type} {w h : Nat} {f : Nat → Nat → α} : ∀ r ∈ grid w h f, r.length = w := fun r hr => by
  unfold grid at hr
  obtain ⟨j, _, rfl⟩ := List.mem_map.mp hr
  simp
theorem grid_ok {w h : Nat} {f : Nat → Nat → Bool} : PlaneOk w h (grid w h f) := ⟨grid_length, grid_rows⟩
theorem range_getD {α : Type} {n i : Nat} {f : Nat → α} {d : α} (h : i < n) : ((List.range n).map f).getD i d = f i := by simp [List.getD, h]
theorem bit_grid {w h i j : Nat} {f : Nat → Nat → Bool} (hi : i < w) (hj : j < h) : bit (grid w h f) i j = f i j := by
  unfold bit grid
  rw [range_getD hj, range_getD hi]
theorem grid_congr {α : Type} {w h : Nat} {f g : Nat → Nat → α} (e : ∀ i j, i < w → j < h → f i j = g i j) : grid w h f = grid w h g := by
  unfold grid
  refine List.map_congr_left fun j hj => List.map_congr_left fun i hi => e i j (List.mem_range.mp hi) (List.mem_range.mp hj)
theorem zipWith_range {α β γ : Type} (k : α → β → γ) (n : Nat) (f : Nat → α) (g : Nat → β) : List.zipWith k ((List.range n).map f) ((List.range n).map g) = (List.range n).map fun i => k (f i) (g i) := by
  rw [List.zipWith_map, List.zipWith_self]
theorem grid_zip {α β γ : Type} (k : α → β → γ) {w h : Nat} {f : Nat → Nat → α} {g : Nat → Nat → β} : List.zipWith (List.zipWith k) (grid w h f) (grid w h g) = grid w h fun i j => k (f i j) (g i j) := by
  unfold grid
  rw [zipWith_range]
  exact List.map_congr_left fun j _ => zipWith_range k w _ _
def kd (i p : Bool) : Nat := if i = p then 2 else if i = true then 1 else 0
def kRows (I P : Plane) : List (List Nat) := List.zipWith (List.zipWith kd) I P
theorem kRows_grid {w h : Nat} {I P : Plane} (oi : PlaneOk w h I) (op : PlaneOk w h P) : kRows I P = grid w h fun i j => kd (bit I i j) (bit P i j) := by
  conv => lhs; rw [plane_grid oi, plane_grid op]
  exact grid_zip kd
def bothN (r s : List Bool) : Nat := (List.zipWith (fun a b => a.toNat &&& b.toNat) r s).sum
theorem sum_bits {α : Type} (p : α → Bool) : ∀ l : List α, (l.map fun i => (p i).toNat).sum = (l.filter p).length
  | [] => rfl
  | a :: l => by
    rw [List.map_cons, List.sum_cons, sum_bits p l, List.filter_cons]
    cases h : p a
    · simp
    · simp; omega
theorem and_toNat (a b : Bool) : a.toNat &&& b.toNat = (a && b).toNat := by cases a <;> cases b <;> rfl
theorem bothN_range {w : Nat} {f g : Nat → Bool} : bothN ((List.range w).map f) ((List.range w).map g) = ((List.range w).filter fun i => f i && g i).length := by
  unfold bothN
  rw [zipWith_range, ← sum_bits]
  congr 1
  exact List.map_congr_left fun i _ => and_toNat _ _
theorem row_range {w h j : Nat} {P : Plane} (o : PlaneOk w h P) (hj : j < h) : P.getD j [] = (List.range w).map fun i => bit P i j := by
  conv => lhs; rw [plane_grid o]
  unfold grid
  rw [range_getD hj]
theorem bothN_row {w h j : Nat} {I P : Plane} (oi : PlaneOk w h I) (op : PlaneOk w h P) (hj : j < h) : bothN (I.getD j []) (P.getD j []) = ((List.range w).filter fun i => bit I i j && bit P i j).length := by
  rw [row_range oi hj, row_range op hj, bothN_range]
theorem any_filter {α : Type} (p : α → Bool) (l : List α) : l.any p = decide (0 < (l.filter p).length) := by
  induction l with
  | nil => rfl
  | cons a l ih =>
    rw [List.any_cons, List.filter_cons, ih]
    cases h : p a <;> simp
theorem find_range_some {n i : Nat} {p : Nat → Bool} (hi : i < n) (h1 : ∀ j, j < i → p j = false) (h2 : p i = true) : (List.range n).find? p = some i := by
  rw [List.find?_range_eq_some]
  refine ⟨h2, by simpa using hi, fun j hj => by simp [h1 j hj]⟩
theorem find_range_none {n : Nat} {p : Nat → Bool} (h : ∀ j, j < n → p j = false) : (List.range n).find? p = none := by
  rw [List.find?_eq_none]
  intro j hj
  rw [h j (List.mem_range.mp hj)]; simp
theorem bothIn_some {w h i : Nat} {I P : Plane} (oi : PlaneOk w h I) (op : PlaneOk w h P) (hi : i < h) (h1 : ∀ j, j < i → bothN (I.getD j []) (P.getD j []) = 0) (h2 : 0 < bothN (I.getD i []) (P.getD i [])) : bothIn w I P = some i := by
  unfold bothIn
  rw [oi.len]
  refine find_range_some hi (fun j hj => ?_) ?_
  · have := h1 j hj
    rw [bothN_row oi op (by omega)] at this
    rw [any_filter, this]; rfl
  · rw [bothN_row oi op hi] at h2
    rw [any_filter]; exact decide_eq_true h2
theorem bothIn_none {w h : Nat} {I P : Plane} (oi : PlaneOk w h I) (op : PlaneOk w h P) (h1 : ∀ j, j < h → bothN (I.getD j []) (P.getD j []) = 0) : bothIn w I P = none := by
  unfold bothIn
  rw [oi.len]
  refine find_range_none fun j hj => ?_
  have := h1 j hj
  rw [bothN_row oi op hj] at this
  rw [any_filter, this]; rfl
theorem both_not {w h i j : Nat} {I P : Plane} (oi : PlaneOk w h I) (op : PlaneOk w h P) (e : bothIn w I P = none) (hi : i < w) (hj : j < h) : (bit I i j && bit P i j) = false := by
  unfold bothIn at e
  rw [oi.len, List.find?_eq_none] at e
  have := e j (List.mem_range.mpr hj)
  rw [Bool.not_eq_true, List.any_eq_false] at this
  have := this i (List.mem_range.mpr hi)
  simpa using this
def isOdd (x : Nat × Nat) : Bool := x.1 != x.2 && (x.1 != 2 && x.2 != 2)
def oddR (r o : List Nat) : Nat := ((r.zip o).filter isOdd).length
def odds (R O : List (List Nat)) : Nat := ((R.zip O).map fun x => oddR x.1 x.2).sum
end FA
end
section
set_option Elab.async false
set_option linter.all false
namespace FA
open Sh
def tRows (S : Scan) : List (List Nat) := S.rows.map fun r => r.map Trit.number
structure SOk (S : Scan) : Prop where
  len : S.rows.length = S.height
  rows : ∀ r ∈ S.rows, r.length = S.width
def cut (R : List (List Nat)) (x y w h : Nat) : List (List Nat) := ((R.drop y).take h).map fun r => (r.drop x).take w
theorem readGlyphs_ok {h : Nat} : ∀ {k p q : Nat} {had : Option Glyph} {b r : Bytes} {l : List Glyph}, (∀ f, had = some f → GOk h f) → readGlyphs h k had b p = .ok (l, r, q) → b = l.flatMap writeGlyph ++ r ∧ q = p + (l.flatMap writeGlyph).length ∧ l.length = k ∧ (∀ g ∈ l, GOk h g) ∧
      (∀ f, had = some f → risingBy glyphKey (f :: l) = true) ∧ risingBy glyphKey l = true
  | 0, p, q, had, b, r, l, hh, e => by
    cases e
    exact ⟨rfl, rfl, rfl, fun _ h => (nomatch h), fun _ _ => rfl, rfl⟩
  | k + 1, p, q, had, b, r, l, hh, e => by
    rw [readGlyphs_succ hh] at e
    obtain ⟨⟨g, r1, q1⟩, e1, e⟩ := andThen_ok e
    obtain ⟨⟨l2, r2, q2⟩, e2, e⟩ := andThen_ok e
    cases e
    obtain ⟨⟨g', r1', q1'⟩, e3, e1⟩ := andThen_ok e1
    dsimp only at e1
    split at e1
    · rename_i hl
      cases e1
      obtain ⟨a1, a2, og⟩ := readGlyph_ok e3
      obtain ⟨b1, b2, b3, b4, b5, b6⟩ := readGlyphs_ok (fun f hf => by cases hf; exact og) e2
      dsimp only at *
      refine ⟨?_, ?_, by simp [b3], fun x hx => ?_, fun f hf => ?_, b5 _ rfl⟩
      · rw [List.flatMap_cons, List.append_assoc, ← b1]; exact a1
      · rw [List.flatMap_cons, List.length_append]; omega
      · rcases List.mem_cons.mp hx with rfl | hx
        · exact og
        · exact b4 x hx
      · subst hf
        rw [rises_some (hh f rfl) og] at hl
        show (lexLess (glyphKey f) (glyphKey g) && risingBy glyphKey (g :: l2)) = true
        rw [hl, b5 _ rfl]; rfl
    · cases e1
structure FOk (F : Face) : Prop where
  h1 : 1 ≤ F.height
  h64 : F.height ≤ 64
  each : F.each ≤ 4095
  glyphs : ∀ g ∈ F.glyphs, GOk F.height g
  rise : risingBy glyphKey F.glyphs = true
  num : F.glyphs.length ≤ 4096
theorem mB_ok {n lo hi rule p : Nat} {b : Bytes} {x : Nat × Bytes × Nat} (e : mB n lo hi rule b p = .ok x) : readNum n b p = .ok x ∧ lo ≤ x.1 ∧ x.1 ≤ hi := by
  obtain ⟨y, e1, e⟩ := andThen_ok e
  split at e
  · rename_i h
    cases e
    exact ⟨e1, h⟩
  · cases e
theorem mMark_ok : ∀ {m : List UInt8} {b r : Bytes} {p q : Nat}, mMark m b p = .ok (r, q) → b = m ++ r ∧ q = p + m.length
  | [], b, r, p, q, e => by cases e; exact ⟨rfl, rfl⟩
  | m :: ms, b, r, p, q, e => by
    cases b with
    | nil => cases e
    | cons c b =>
      rw [mMark_cons] at e
      split at e
      · rename_i h
        subst h
        obtain ⟨h1, h2⟩ := mMark_ok e
        exact ⟨by rw [h1]; rfl, by rw [h2, List.length_cons]; omega⟩
      · cases e
theorem judgeFace_ok {b : Bytes} {F : Face} (e : judgeFace b = .ok F) : FOk F ∧ b = writeFace F ∧ F.glyphs.length = num ((b.drop 7).take 2) := by
  rw [judgeFace_eq] at e
  obtain ⟨⟨r0, q0⟩, e0, e⟩ := andThen_ok e
  obtain ⟨⟨h, r1, q1⟩, e1, e⟩ := andThen_ok e
  obtain ⟨⟨c, r2, q2⟩, e2, e⟩ := andThen_ok e
  obtain ⟨⟨n, r3, q3⟩, e3, e⟩ := andThen_ok e
  obtain ⟨⟨l, r4, q4⟩, e4, e⟩ := andThen_ok e
  obtain ⟨_, e5, e⟩ := andThen_ok e
  cases e
  obtain ⟨a0, _⟩ := mMark_ok e0
  obtain ⟨e1, u1, v1⟩ := mB_ok e1
  obtain ⟨e2, u2, v2⟩ := mB_ok e2
  obtain ⟨e3, u3, v3⟩ := mB_ok e3
  obtain ⟨a1, _⟩ := readNum_split e1
  obtain ⟨a2, _⟩ := readNum_split e2
  obtain ⟨a3, _, k3⟩ := readNum_split e3
  obtain ⟨a4, b4, c4, d4, f4, g4⟩ := readGlyphs_ok (fun f (hf : (none : Option Glyph) = some f) => nomatch hf) e4
  have a1 : r0 = le 1 h ++ r1 := a1
  have a2 : r1 = le 2 c ++ r2 := a2
  have a3 : r2 = le 2 n ++ r3 := a3
  have a4 : r3 = l.flatMap writeGlyph ++ r4 := a4
  have h5 := need_ok e5
  have h5 : r4 = [] := by simpa using h5
  subst h5
  have hn : l.length = n := c4
  refine ⟨⟨u1, v1, v2, d4, g4, by show l.length ≤ 4096; rw [hn]; exact v3⟩, ?_, ?_⟩
  · show b = FACE ++ (le 1 h ++ (le 2 c ++ (le 2 l.length ++ l.flatMap writeGlyph)))
    rw [a0, hn, a1, a2, a3, a4, List.append_nil]
  · show l.length = num ((b.drop 7).take 2)
    rw [a0, a1, a2, a3, hn]
    have ed : (FACE ++ (le 1 h ++ (le 2 c ++ (le 2 n ++ r3)))).drop 7 = le 2 n ++ r3 := rfl
    rw [ed]
    have et : (le 2 n ++ r3).take 2 = le 2 n := rfl
    rw [et, num_le 2 n k3]
end FA
end
section
set_option Elab.async false
set_option linter.all false
namespace FA
open Sh
theorem packed_chunks : ∀ (k : Nat) (l : List Bool), packed k l = (List.range k).map fun i => byteOf ((l.drop (8 * i)).take 8)
  | 0, _ => rfl
  | k + 1, l => by
    rw [List.range_succ_eq_map, List.map_cons, List.map_map]
    show byteOf (l.take 8) :: packed k (l.drop 8) = _
    rw [packed_chunks k (l.drop 8)]
    congr 1
    refine List.map_congr_left fun i _ => ?_
    show byteOf (((l.drop 8).drop (8 * i)).take 8) = byteOf ((l.drop (8 * (i + 1))).take 8)
    rw [List.drop_drop, show 8 + 8 * i = 8 * (i + 1) by omega]
theorem bval_fold (l : List Bool) : (l.map Bool.toNat).reverse.foldl (fun n c => n * 2 + c) 0 = bval l := by
  rw [List.foldl_reverse]
  unfold bval
  rw [List.foldr_map]
  congr 1
  funext c n
  cases c <;> simp <;> omega
def bI (l : List Bool) : List Nat := l.map Bool.toNat
def bP (P : Plane) : List (List Nat) := P.map bI
def chunk (l : List Bool) (i : Nat) : Nat := bval ((l.drop (8 * i)).take 8)
theorem chunk_byte (l : List Bool) (i : Nat) : (byteOf ((l.drop (8 * i)).take 8)).toNat = chunk l i := byteOf_toNat (by rw [List.length_take]; omega)
theorem packed_nats (k : Nat) (l : List Bool) : nats (packed k l) = (List.range k).map (chunk l) := by
  rw [packed_chunks]
  unfold nats
  rw [List.map_map]
  exact List.map_congr_left fun i _ => chunk_byte l i
def leN : Nat → Nat → List Nat
  | 0, _ => []
  | k + 1, n => n % 256 :: leN k (n / 256)
theorem nats_le : ∀ k n : Nat, nats (le k n) = leN k n
  | 0, _ => rfl
  | k + 1, n => by
    show (UInt8.ofNat (n % 256)).toNat :: nats (le k (n / 256)) = n % 256 :: leN k (n / 256)
    rw [nats_le k, UInt8.toNat_ofNat', Nat.mod_eq_of_lt (by omega)]
theorem leN_snoc : ∀ (k n : Nat), leN (k + 1) n = leN k n ++ [n / 256 ^ k % 256]
  | 0, n => by simp [leN]
  | k + 1, n => by
    have ih := leN_snoc k (n / 256)
    rw [leN, ih]
    show _ = (n % 256 :: leN k (n / 256)) ++ _
    rw [Nat.div_div_eq_div_mul, ← Nat.pow_succ']
    rfl
theorem leN_length : ∀ (k n : Nat), (leN k n).length = k
  | 0, _ => rfl
  | k + 1, n => by rw [leN, List.length_cons, leN_length k]
theorem nats_append (a b : Bytes) : nats (a ++ b) = nats a ++ nats b := List.map_append ..
theorem leN_one {n : Nat} (h : n < 256) : leN 1 n = [n] := by show [n % 256] = [n]; rw [Nat.mod_eq_of_lt h]
theorem bits_kind {h : Nat} {g : Glyph} (o : GOk h g) (k : Nat) (hk : k = 1 ∨ k = 0) : (kRows g.ink g.paper).map (fun r => r.map fun z => if z = k then 1 else 0) = bP (if k = 1 then g.ink else g.paper) := by
  have e : ∀ f : Nat → Nat → Nat, (grid g.width h f).map (fun r => r.map fun z => if z = k then 1 else 0) = grid g.width h fun i j => if f i j = k then 1 else 0 := fun f => by
    unfold grid
    rw [List.map_map]
    refine List.map_congr_left fun j _ => ?_
    show List.map _ (List.map _ _) = _
    rw [List.map_map]
    rfl
  have e2 : ∀ P : Plane, PlaneOk g.width h P → bP P = grid g.width h fun i j => (bit P i j).toNat := fun P oP => by
    conv => lhs; rw [plane_grid oP]
    unfold bP bI grid
    rw [List.map_map]
    refine List.map_congr_left fun j _ => ?_
    show List.map _ (List.map _ _) = _
    rw [List.map_map]
    rfl
  rw [kRows_grid o.ink o.paper, e]
  rcases hk with rfl | rfl
  · rw [if_pos rfl, e2 _ o.ink]
    refine grid_congr fun i j hi hj => ?_
    have hb := both_not o.ink o.paper o.both hi hj
    unfold kd
    cases h1 : bit g.ink i j <;> cases h2 : bit g.paper i j <;> simp_all
  · rw [if_neg (by decide), e2 _ o.paper]
    refine grid_congr fun i j hi hj => ?_
    have hb := both_not o.ink o.paper o.both hi hj
    unfold kd
    cases h1 : bit g.ink i j <;> cases h2 : bit g.paper i j <;> simp_all
theorem lex_irrefl : ∀ l : List Nat, lexLess l l = false
  | [] => rfl
  | x :: l => by rw [lexLess_cons, lex_irrefl l]; simp
theorem lex_trans : ∀ {a b c : List Nat}, lexLess a b = true → lexLess b c = true → lexLess a c = true
  | [], [], c, h, _ => by cases h
  | [], _ :: _, [], _, h => by cases h
  | [], _ :: _, _ :: _, _, _ => rfl
  | _ :: _, [], _, h, _ => by cases h
  | _ :: _, _ :: _, [], _, h => by cases h
  | x :: a, y :: b, z :: c, h1, h2 => by
    rw [lexLess_cons] at h1 h2 ⊢
    simp only [Bool.or_eq_true, decide_eq_true_eq, Bool.and_eq_true, beq_iff_eq] at h1 h2 ⊢
    rcases h1 with h1 | ⟨rfl, h1⟩
    · rcases h2 with h2 | ⟨rfl, h2⟩
      · left; omega
      · left; exact h1
    · rcases h2 with h2 | ⟨rfl, h2⟩
      · left; exact h2
      · right; exact ⟨rfl, lex_trans h1 h2⟩
theorem lex_total : ∀ a b : List Nat, lexLess a b = true ∨ a = b ∨ lexLess b a = true
  | [], [] => .inr (.inl rfl)
  | [], _ :: _ => .inl rfl
  | _ :: _, [] => .inr (.inr rfl)
  | x :: a, y :: b => by
    rw [lexLess_cons, lexLess_cons]
    rcases Nat.lt_trichotomy x y with h | rfl | h
    · left; simp [h]
    · rcases lex_total a b with h | rfl | h
      · left; simp [h]
      · right; left; rfl
      · right; right; simp [h]
    · right; right; simp [h]
theorem lex_asymm {a b : List Nat} (h : lexLess a b = true) : lexLess b a = false := by
  cases e : lexLess b a with
  | false => rfl
  | true =>
    have := lex_trans h e
    rw [lex_irrefl] at this; cases this
theorem rising_all {α : Type} {key : α → List Nat} : ∀ {f : α} {r : List α}, risingBy key (f :: r) = true → (∀ x ∈ r, lexLess (key f) (key x) = true) ∧ risingBy key r = true
  | f, [], _ => ⟨fun _ h => (nomatch h), rfl⟩
  | f, y :: r, h => by
    have h : (lexLess (key f) (key y) && risingBy key (y :: r)) = true := h
    rw [Bool.and_eq_true] at h
    obtain ⟨i1, i2⟩ := rising_all (f := y) (r := r) h.2
    refine ⟨fun x hx => ?_, h.2⟩
    rcases List.mem_cons.mp hx with rfl | hx
    · exact h.1
    · exact lex_trans h.1 (i1 x hx)
theorem bitsOf_packed : ∀ (k w : Nat) (l : List Bool), rowBytes w = k → l.length = w → bitsOf w (packed k l) = l
  | 0, w, l, h, hl => by
    have : w = 0 := by unfold rowBytes at h; omega
    subst this
    rw [List.length_eq_zero_iff.mp hl]; rfl
  | k + 1, w, l, h, hl => by
    show bitsOf w (byteOf (l.take 8) :: packed k (l.drop 8)) = l
    have ht : (l.take 8).length ≤ 8 := by rw [List.length_take]; omega
    by_cases hk : w ≤ 8
    · rw [bitsOf_short hk, byteOf_toNat ht, List.take_of_length_le (by omega)]
      have := bits_bval l
      rw [hl] at this; exact this
    · have hk' : rowBytes (w - 8) = k := by unfold rowBytes at h ⊢; omega
      rw [bitsOf_cons (by omega), bitsOf_packed k (w - 8) (l.drop 8) hk' (by rw [List.length_drop]; omega), byteOf_toNat ht]
      have := bits_bval (l.take 8)
      rw [show (l.take 8).length = 8 by rw [List.length_take]; omega] at this
      rw [this, List.take_append_drop]
theorem writePlane_inj {w : Nat} : ∀ {h : Nat} {P Q : Plane}, PlaneOk w h P → PlaneOk w h Q → writePlane w P = writePlane w Q → P = Q
  | 0, P, Q, oP, oQ, _ => by rw [List.length_eq_zero_iff.mp oP.len, List.length_eq_zero_iff.mp oQ.len]
  | h + 1, [], _, oP, _, _ => by have := oP.len; simp at this
  | h + 1, _ :: _, [], _, oQ, _ => by have := oQ.len; simp at this
  | h + 1, r :: P, s :: Q, oP, oQ, e => by
    unfold writePlane at e
    rw [List.flatMap_cons, List.flatMap_cons] at e
    obtain ⟨e1, e2⟩ := List.append_inj e (by rw [packed_length, packed_length])
    have hr := bitsOf_packed (rowBytes w) w r rfl (oP.rows r List.mem_cons_self)
    have hs := bitsOf_packed (rowBytes w) w s rfl (oQ.rows s List.mem_cons_self)
    rw [e1, hs] at hr
    rw [hr, writePlane_inj oP.tail oQ.tail e2]
theorem le_inj {k a b : Nat} (ha : a < 256 ^ k) (hb : b < 256 ^ k) (e : le k a = le k b) : a = b := by
  rw [← num_le k a ha, ← num_le k b hb, e]
theorem nats_inj {a b : Bytes} (e : nats a = nats b) : a = b := List.map_inj_right (fun x y h => UInt8.toNat_inj.mp h) |>.mp e
theorem writeGlyph_inj {h : Nat} {f g : Glyph} (of : GOk h f) (og : GOk h g) (e : writeGlyph f = writeGlyph g) : f = g := by
  obtain ⟨l1, w1, i1, p1, u1, c1⟩ := f
  obtain ⟨l2, w2, i2, p2, u2, c2⟩ := g
  have e : le 2 l1 ++ (le 1 w1 ++ (le 2 u1 ++ (le 2 c1 ++ (writePlane w1 i1 ++ writePlane w1 p1)))) = le 2 l2 ++ (le 1 w2 ++ (le 2 u2 ++ (le 2 c2 ++ (writePlane w2 i2 ++ writePlane w2 p2)))) := e
  have a1 := of.letter; have a2 := og.letter; have a3 := of.w64; have a4 := og.w64; have a5 := of.budget; have a6 := og.budget; have a7 := of.cost; have a8 := og.cost
  dsimp only at a1 a2 a3 a4 a5 a6 a7 a8
  obtain ⟨e1, ea⟩ := List.append_inj e (by rw [le_length, le_length])
  obtain ⟨e2, eb⟩ := List.append_inj ea (by rw [le_length, le_length])
  obtain ⟨e3, ec⟩ := List.append_inj eb (by rw [le_length, le_length])
  obtain ⟨e4, ed⟩ := List.append_inj ec (by rw [le_length, le_length])
  have d1 := le_inj (by omega) (by omega) e1
  have d2 := le_inj (by omega) (by omega) e2
  have d3 := le_inj (by omega) (by omega) e3
  have d4 := le_inj (by omega) (by omega) e4
  subst d1 d2 d3 d4
  obtain ⟨e5, e6⟩ := List.append_inj ed (by rw [writePlane_length, writePlane_length, show i1.length = h from of.ink.len, show i2.length = h from og.ink.len])
  have d5 := writePlane_inj of.ink og.ink e5
  have d6 := writePlane_inj of.paper og.paper e6
  dsimp only at d5 d6
  subst d5 d6
  rfl
theorem rk_inj : ∀ {a b : List Nat}, a.length = b.length → rk a = rk b → a = b
  | [], [], _, _ => rfl
  | [_], [_], _, e => e
  | x :: y :: a, z :: t :: b, _, e => by
    have e : y :: x :: a = t :: z :: b := e
    cases e; rfl
  | [_], [], h, _ => by cases h
  | [], [_], h, _ => by cases h
  | [], _ :: _ :: _, h, _ => by cases h
  | [_], _ :: _ :: _, h, _ => by cases h
  | _ :: _ :: _, [], h, _ => by cases h
  | _ :: _ :: _, [_], h, _ => by cases h
theorem rk_length (l : List Nat) : (rk l).length = l.length := by
  match l with
  | [] => rfl
  | [_] => rfl
  | _ :: _ :: _ => rfl
theorem rk_eq {h : Nat} {f g : Glyph} (of : GOk h f) (og : GOk h g) : rk (nats (writeGlyph f)) = rk (nats (writeGlyph g)) ↔ g = f := by
  constructor
  · intro e
    have hl : (nats (writeGlyph f)).length = (nats (writeGlyph g)).length := by
      have := congrArg List.length e
      rw [rk_length, rk_length] at this; exact this
    exact (writeGlyph_inj of og (nats_inj (rk_inj hl e))).symm
  · intro e; rw [e]
theorem key_eq {h : Nat} {f g : Glyph} (of : GOk h f) (og : GOk h g) (e : glyphKey f = glyphKey g) : f = g := by
  refine ((rk_eq of og).mp ?_).symm
  rw [rk_shape of, rk_shape og]
  unfold glyphKey at e
  injection e with e1 e2
  injection e2 with e2 e3
  have e3 : nats ((writeGlyph f).drop 3) = nats ((writeGlyph g).drop 3) := e3
  rw [e1, e2, e3]
def less (g : Glyph) (l : List Glyph) : List Glyph := l.filter fun f => lexLess (glyphKey f) (glyphKey g)
theorem insert_eq {h : Nat} {g : Glyph} (og : GOk h g) : ∀ {l : List Glyph}, (∀ f ∈ l, GOk h f) → risingBy glyphKey l = true →
    insertGlyph g l = match l.drop (less g l).length with | f :: r => if g = f then none else some (less g l ++ g :: f :: r) | [] => some (less g l ++ [g])
  | [], _, _ => rfl
  | f :: r, ho, hr => by
    obtain ⟨r1, r2⟩ := rising_all hr
    have of := ho f List.mem_cons_self
    have none_of : lexLess (glyphKey f) (glyphKey g) = false → (∀ x ∈ r, lexLess (glyphKey x) (glyphKey g) = false) → less g (f :: r) = [] := fun h1 h2 => by
      unfold less
      rw [List.filter_eq_nil_iff]
      intro x hx
      rcases List.mem_cons.mp hx with rfl | hx
      · rw [h1]; simp
      · rw [h2 x hx]; simp
    show (if lexLess (glyphKey g) (glyphKey f) = true then _ else if g = f then none else (insertGlyph g r).map _) = _
    rcases lex_total (glyphKey g) (glyphKey f) with hl | he | hl
    · have hn := none_of (lex_asymm hl) fun x hx => lex_asymm (lex_trans hl (r1 x hx))
      rw [if_pos hl, hn]
      have : ¬ g = f := fun z => by rw [z, lex_irrefl] at hl; cases hl
      show _ = if g = f then none else _
      rw [if_neg this]; rfl
    · have e := key_eq og of he
      subst e
      have hn := none_of (lex_irrefl _) fun x hx => lex_asymm (r1 x hx)
      rw [if_neg (by rw [lex_irrefl]; simp), if_pos rfl, hn]
      show _ = if g = g then none else _
      rw [if_pos rfl]
    · have hne : ¬ g = f := fun z => by rw [z, lex_irrefl] at hl; cases hl
      rw [if_neg (by rw [lex_asymm hl]; simp), if_neg hne, insert_eq og (fun x hx => ho x (List.mem_cons_of_mem _ hx)) r2]
      have e1 : less g (f :: r) = f :: less g r := by unfold less; rw [List.filter_cons, if_pos hl]
      rw [e1, List.length_cons, List.drop_succ_cons]
      cases r.drop (less g r).length with
      | nil => rfl
      | cons x t =>
        dsimp only
        by_cases hx : g = x
        · rw [if_pos hx, if_pos hx]; rfl
        · rw [if_neg hx, if_neg hx]; rfl
end FA
end
section
set_option Elab.async false
set_option linter.all false
namespace FA
open Sh
end FA
end
section
set_option Elab.async false
set_option linter.all false
namespace FA
open Sh
structure LOk (L : Learnt) : Prop where
  letter : L.letter ≤ 4095
  w1 : 1 ≤ L.width
  w64 : L.width ≤ 64
  h1 : 1 ≤ L.height
  h64 : L.height ≤ 64
  loose : L.loose ≤ 4096
  seen : L.seen ≤ 4096
  ink : PlaneOk L.width L.height L.ink
  paper : PlaneOk L.width L.height L.paper
def kindP (k : Nat) (R : List (List Nat)) : List (List Nat) := R.map fun r => r.map fun z => if z = k then 1 else 0
theorem put_ok {letter width budget cost h : Nat} {t : List Nat} (h1 : letter ≤ 4095) (h2 : 1 ≤ width) (h3 : width ≤ 64) (h4 : budget ≤ 4096) (h5 : cost ≤ 4095) :
    GOk h ⟨letter, width, ShB.planeOf width h t 1, ShB.planeOf width h t 0, budget, cost⟩ := by
  refine ⟨h1, h2, h3, h4, h5, grid_ok, grid_ok, ?_⟩
  show bothIn width (grid width h _) (grid width h _) = none
  refine bothIn_none (h := h) grid_ok grid_ok fun j hj => ?_
  rw [bothN_row grid_ok grid_ok hj, List.length_eq_zero_iff, List.filter_eq_nil_iff]
  intro i hi
  rw [bit_grid (List.mem_range.mp hi) hj, bit_grid (List.mem_range.mp hi) hj]
  generalize t.getD (width * j + i) 0 = z
  by_cases h0 : z = 0
  · subst h0; simp
  · have : (z == 0) = false := by simpa using h0
    rw [this]; simp
def rowsOf (w h : Nat) (t : List Nat) : List (List Nat) := (List.range h).map fun j => (t.drop (w * j)).take w
theorem put_rows {w h : Nat} {t : List Nat} (hl : t.length = w * h) (hb : ∀ z ∈ t, z ≤ 2) : rowsOf w h t = kRows (ShB.planeOf w h t 1) (ShB.planeOf w h t 0) := by
  show _ = List.zipWith (List.zipWith kd) (grid w h _) (grid w h _)
  rw [grid_zip]
  unfold rowsOf grid
  refine List.map_congr_left fun j hj => ?_
  have hj := List.mem_range.mp hj
  have hjw : w * j + w ≤ t.length := by
    rw [hl, ← Nat.mul_succ]
    exact Nat.mul_le_mul_left w hj
  apply List.ext_getElem?
  intro i
  rw [List.getElem?_take]
  by_cases hi : i < w
  · rw [if_pos hi, List.getElem?_drop]
    have hlt : w * j + i < t.length := by omega
    rw [List.getElem?_eq_getElem hlt]
    have hz := hb _ (List.getElem_mem hlt)
    have hg : t.getD (w * j + i) 0 = t[w * j + i] := by simp [List.getD, hlt]
    rw [List.getElem?_map, List.getElem?_range hi]
    show _ = some (kd (t.getD (w * j + i) 0 == 1) (t.getD (w * j + i) 0 == 0))
    rw [hg]
    generalize t[w * j + i] = z at hz
    match z, hz with
    | 0, _ => rfl
    | 1, _ => rfl
    | 2, _ => rfl
  · rw [if_neg hi, List.getElem?_eq_none (by simp; omega)]
end FA
end
section
set_option Elab.async false
set_option linter.all false
set_option maxRecDepth 100000
set_option maxHeartbeats 2000000
namespace Fc
open PySem PySem.Spec PyProof.Rows L2
open FA
open Sh (Bytes rowBytes readNum num andThen)
section
variable {P : Program} {w : World} {K : PySem.W.Frag} {mg : Str → Option Value} {base : Heap} {C CG CF CR CS CL : Addr}
abbrev nV (l : List Nat) : List V := l.map fun z => V.int (z : Nat)
abbrev bV (b : Bytes) : List V := b.map fun c => V.int (c.toNat : Nat)
abbrev ksF : List Str := ["which", "rule", "place"]
abbrev ksG : List Str := ["letter", "width", "budget", "cost", "rows"]
abbrev ksA : List Str := ["height", "cost", "glyphs"]
abbrev rF (a : Addr) (wh p : Nat) : List (Str × V) := [("form", .ref a), ("which", .int (wh : Nat)), ("place", .int (p : Nat))]
def Con (mg : Str → Option Value) (x : Str) (z : Int) : Prop := ∃ t, mg x = some (.int z t)
def SameX (r : Addr) (H H' : Hp) : Prop := ∀ c o, c ≠ r → H c = some o → H' c = some o
theorem SameX.of {r : Addr} {H H' : Hp} (s : Same H H') : SameX r H H' := fun c o _ e => s c o e
theorem SameX.refl (r : Addr) (H : Hp) : SameX r H H := fun _ _ _ e => e
theorem SameX.trans {r : Addr} {H H1 H2 : Hp} (a : SameX r H H1) (b : SameX r H1 H2) : SameX r H H2 := fun c o n e => b c o n (a c o n e)
theorem SameX.upd {r : Addr} {H : Hp} {o : HO} : SameX r H (L2.upd H r o) := fun c o n e => by rw [upd_ne n]; exact e
theorem SameX.updN {r l : Addr} {H H' : Hp} {o : HO} (s : SameX r H H') (n : H l = none) : SameX r H (L2.upd H' l o) := fun c u hc e => by rw [upd_ne (ne_of_none e n)]; exact s c u hc e
theorem SameX.all {r : Addr} {H H' : Hp} (s : SameX r H H') (n : H r = none) : Same H H' := fun c o e => s c o (ne_of_none e n) e
theorem SameX.seq {K : PySem.W.Frag} {r a C dx : Addr} {fs : List (Str × V)} {H H' : Hp} {xs : List V} (s : SameX r H H') (hr : H r = some (.ins C dx fs)) (h : SqL K H a xs) : SqL K H' a xs := by
  rcases h with (h | ⟨o, h⟩) | h
  · exact .inl (.inl (s _ _ (ne_of h hr (by intro z; cases z)) h))
  · exact .inl (.inr ⟨o, s _ _ (ne_of h hr (by intro z; cases z)) h⟩)
  · exact .inr h
theorem SameX.free {r l : Addr} {H H' : Hp} (s : SameX r H H') (n : l ≠ r) (h : H' l = none) : H l = none := by
  cases q : H l with
  | none => rfl
  | some o => rw [s l o n q] at h; cases h
structure Rdr (K : PySem.W.Frag) (CR : Addr) (H : Hp) (r dx a : Addr) (b : Bytes) (wh p : Nat) (rest : Bytes) : Prop where
  ob : H r = some (.ins CR dx (rF a wh p))
  sq : SqL K H a (bV b)
  at_ : At b p rest
theorem Rdr.same {K : PySem.W.Frag} {CR : Addr} {H H' : Hp} {r dx a : Addr} {b rest : Bytes} {wh p : Nat} (d : Rdr K CR H r dx a b wh p rest) (s : Same H H') : Rdr K CR H' r dx a b wh p rest := ⟨s _ _ d.ob, s.seq d.sq, d.at_⟩
theorem Rdr.new {K : PySem.W.Frag} {CR : Addr} {H : Hp} {r dx a l : Addr} {b rest : Bytes} {wh p : Nat} {o : HO} (d : Rdr K CR H r dx a b wh p rest) (n : H l = none) : Rdr K CR (upd H l o) r dx a b wh p rest := d.same (Same.new n)
theorem Rdr.ne {K : PySem.W.Frag} {CR : Addr} {H : Hp} {r dx a l : Addr} {b rest : Bytes} {wh p : Nat} (d : Rdr K CR H r dx a b wh p rest) (n : H l = none) : r ≠ l := ne_of_none d.ob n
def Rai (C : Addr) (wh : Nat) (r : Addr) (H : Hp) (E : XK) (e : Sh.Fault) : Prop := ∀ (dx : Addr) (H' : Hp), SameX r H H' → H' dx = some (xDict dx [("which", .int (wh : Nat)), ("rule", .int (e.rule : Nat)), ("place", .int (e.place : Nat))]) → E (.ref C) (some dx) H'
theorem Rai.same {C : Addr} {wh : Nat} {r : Addr} {H H1 : Hp} {E : XK} {e : Sh.Fault} (k : Rai C wh r H E e) (s : SameX r H H1) : Rai C wh r H1 E e := fun dx H' s' h => k dx H' (s.trans s') h
abbrev Giv (α : Type) := α → V → Hp → Hp → Prop
def Out {α : Type} (G : Giv α) (K : PySem.W.Frag) (C CR : Addr) (H : Hp) (r dx a : Addr) (b : Bytes) (wh : Nat) (Q : VK) (E : XK) : Except Sh.Fault (α × Bytes × Nat) → Prop
  | .ok x => ∀ v H', SameX r H H' → Rdr K CR H' r dx a b wh x.2.2 x.2.1 → G x.1 v H H' → Q v H'
  | .error e => Rai C wh r H E e
def OutM (K : PySem.W.Frag) (C CR : Addr) (H : Hp) (r dx a : Addr) (b : Bytes) (wh : Nat) (Q : VK) (E : XK) : Except Sh.Fault (Bytes × Nat) → Prop
  | .ok x => ∀ H', SameX r H H' → Rdr K CR H' r dx a b wh x.2 x.1 → Q .non H'
  | .error e => Rai C wh r H E e
def gN : Giv Nat := fun n v _ _ => v = .int (n : Nat)
def gRow : Giv (List Bool) := fun l v H H' => ∃ p, v = .ref p ∧ H p = none ∧ H' p = some (.lst (nV (bI l)))
def isRows (H : Hp) (l : Addr) (R : List (List Nat)) : Prop := ∃ xs : List Addr, H l = some (.lst (xs.map V.ref)) ∧ Paired (fun x r => H x = some (.lst (nV r))) xs R
theorem isRows.same {H H' : Hp} {l : Addr} {R : List (List Nat)} (i : isRows H l R) (s : Same H H') : isRows H' l R := let ⟨xs, h, p⟩ := i; ⟨xs, s _ _ h, L2.Paired.mapP p fun _ _ q => s _ _ q⟩
theorem isRows.sameX {H H' : Hp} {l r C dx : Addr} {fs : List (Str × V)} {R : List (List Nat)} (i : isRows H l R) (s : SameX r H H') (hr : H r = some (.ins C dx fs)) : isRows H' l R :=
  let ⟨xs, h, p⟩ := i; ⟨xs, s _ _ (ne_of h hr (by intro z; cases z)) h, L2.Paired.mapP p fun _ _ q => s _ _ (ne_of q hr (by intro z; cases z)) q⟩
def gPl : Giv Sh.Plane := fun P v H H' => ∃ p, v = .ref p ∧ H p = none ∧ isRows H' p (bP P)
structure Txt (mg : Str → Option Value) : Prop where
  range : mg "range" = none
  len : mg "len" = none
  min : mg "min" = none
  reversed : mg "reversed" = none
  enumerate : mg "enumerate" = none
  zip : mg "zip" = none
  sum : mg "sum" = none
  max : mg "max" = none
  list : mg "list" = none
structure RCls (K : PySem.W.Frag) (CR : Addr) : Prop where
  cl : Cls K CR
  nF : NoAttr K CR "form"
  nW : NoAttr K CR "which"
  nP : NoAttr K CR "place"
theorem xno_which : XNo "which" := by unfold XNo; rw [typeLookup_type, builtinLookup_eq_fast]; kernel_rfl
theorem xno_rule : XNo "rule" := by unfold XNo; rw [typeLookup_type, builtinLookup_eq_fast]; kernel_rfl
theorem xno_place : XNo "place" := by unfold XNo; rw [typeLookup_type, builtinLookup_eq_fast]; kernel_rfl
abbrev namesF : List Str := ["__setattr__", "__getattribute__", "__getattr__", "which", "rule", "place"]
def spRI (CR : Addr) : Sp := fun vs H Q _ => ∃ (r dx a : Addr) (wh : Nat), vs = [.ref r, .ref a, .int (wh : Nat)] ∧ H r = some (.ins CR dx []) ∧ ∀ H' : Hp, H' r = some (.ins CR dx (rF a wh 0)) → (∀ b o, H b = some o → b ≠ r → H' b = some o) → Q .non H'
def spTN (K : PySem.W.Frag) (C CR : Addr) : Sp := fun vs H Q E => ∃ (r dx a : Addr) (b rest : Bytes) (wh p n : Nat), vs = [.ref r, .int (n : Nat)] ∧ Rdr K CR H r dx a b wh p rest ∧ Out gN K C CR H r dx a b wh Q E (readNum n rest p)
theorem num_fold (l : Bytes) : l.reverse.foldl (fun v c => v * 256 + c.toNat) 0 = num l := by
  rw [List.foldl_reverse]
  unfold num
  congr 1
  funext c n
  omega
theorem take_snoc {α : Type} {l : List α} {i : Nat} {x : α} (h : l[i]? = some x) : l.take (i + 1) = l.take i ++ [x] := by rw [List.take_add_one, h]; rfl
theorem bootMin : bootBuiltins "min" = some (.builtin "min") := by decide +kernel
theorem SameX.seqT {K : PySem.W.Frag} {r a C dx : Addr} {fs : List (Str × V)} {H H' : Hp} {xs : List V} (s : SameX r H H') (hr : H r = some (.ins C dx fs)) (h : SqT K H a xs) : SqT K H' a xs := by
  rcases h with (h | ⟨o, h⟩) | h
  · exact .inl (.inl (s _ _ (ne_of h hr (by intro z; cases z)) h))
  · exact .inl (.inr ⟨o, s _ _ (ne_of h hr (by intro z; cases z)) h⟩)
  · exact .inr h
theorem Out.err {α β : Type} {G : Giv α} {G' : Giv β} {K : PySem.W.Frag} {C CR : Addr} {H H1 : Hp} {r dx a : Addr} {b : Bytes} {wh : Nat} {Q Q' : VK} {E : XK} {e : Sh.Fault} (k : Out G K C CR H r dx a b wh Q E (.error e)) (s : SameX r H H1) : Out G' K C CR H1 r dx a b wh Q' E (.error e) :=
  Rai.same (show Rai C wh r H E e from k) s
def spTB (K : PySem.W.Frag) (C CR : Addr) : Sp := fun vs H Q E => ∃ (r dx a : Addr) (b rest : Bytes) (wh p n lo hi rule : Nat), vs = [.ref r, .int (n : Nat), .int (lo : Nat), .int (hi : Nat), .int (rule : Nat)] ∧ Rdr K CR H r dx a b wh p rest ∧ Out gN K C CR H r dx a b wh Q E (mB n lo hi rule rest p)
def spTM (K : PySem.W.Frag) (C CR : Addr) : Sp := fun vs H Q E => ∃ (r dx a t : Addr) (b rest : Bytes) (wh p : Nat) (m : Bytes), vs = [.ref r, .ref t] ∧ Rdr K CR H r dx a b wh p rest ∧ SqT K H t (bV m) ∧ OutM K C CR H r dx a b wh Q E (mMark m rest p)
def OutE (C : Addr) (wh : Nat) (r : Addr) (H : Hp) (Q : VK) (E : XK) : Except Sh.Fault Unit → Prop
  | .ok _ => ∀ H', Same H H' → Q .non H'
  | .error e => Rai C wh r H E e
def spTE (K : PySem.W.Frag) (C CR : Addr) : Sp := fun vs H Q E => ∃ (r dx a : Addr) (b rest : Bytes) (wh p : Nat), vs = [.ref r] ∧ Rdr K CR H r dx a b wh p rest ∧ OutE C wh r H Q E (Sh.need rest.isEmpty 7 p)
def spRS : Sp := fun vs H Q _ => ∃ v : Nat, vs = [.int (v : Nat)] ∧ Q (.int (rowBytes v : Nat)) H
theorem rg8 {w : Nat} (h : w ≤ 64) : RgC 0 (w : Int) 8 (rowBytes w) := by
  refine ⟨by decide, by decide, ?_, ?_⟩
  · have all : ∀ v : Fin 65, Builtin.Range.small 0 ((v.val : Nat) : Int) 8 = true := by decide +kernel
    exact all ⟨w, by omega⟩
  · unfold Builtin.Range.rangeSize rowBytes
    rw [if_pos (by decide)]
    split <;> omega
theorem bit_and (c j : Nat) : Builtin.bitAnd ((c : Int) / 2 ^ ((j : Int)).toNat) 1 = (((c.testBit j).toNat : Nat) : Int) := by
  have e1 : ((c : Int) / 2 ^ ((j : Int)).toNat) = ((c / 2 ^ j : Nat) : Int) := by
    rw [Int.toNat_natCast, Int.natCast_ediv, Int.natCast_pow]; rfl
  rw [e1]
  have e2 : Builtin.bitAnd ((c / 2 ^ j : Nat) : Int) 1 = ((c / 2 ^ j &&& 1 : Nat) : Int) := rfl
  rw [e2, Nat.and_one_is_mod]
  have e3 : c.testBit j = decide (c / 2 ^ j % 2 = 1) := Nat.testBit_eq_decide_div_mod_eq
  rw [e3]
  by_cases h : c / 2 ^ j % 2 = 1
  · rw [h]; rfl
  · have h0 : c / 2 ^ j % 2 = 0 := by omega
    rw [h0]; rfl
theorem bits_snoc (i c : Nat) : bits (i + 1) c = bits i c ++ [c.testBit i] := by
  unfold bits
  rw [List.range_succ, List.map_append]; rfl
def spPR (K : PySem.W.Frag) (C CR : Addr) : Sp := fun vs H Q E => ∃ (r dx a : Addr) (b rest : Bytes) (wh p wd : Nat), vs = [.ref r, .int (wd : Nat)] ∧ wd ≤ 64 ∧ Rdr K CR H r dx a b wh p rest ∧ Out gRow K C CR H r dx a b wh Q E (readRow wd rest p)
theorem Paired.snoc {α β : Type} {F : α → β → Prop} : ∀ {xs : List α} {ys : List β} {x : α} {y : β}, Paired F xs ys → F x y → Paired F (xs ++ [x]) (ys ++ [y])
  | _, _, _, _, .nil, h => .cons h .nil
  | _, _, _, _, .cons r t, h => .cons r (Paired.snoc t h)
theorem Paired.mapM {α β : Type} {F G : α → β → Prop} : ∀ {xs : List α} {ys : List β}, Paired F xs ys → (∀ a b, a ∈ xs → F a b → G a b) → Paired G xs ys
  | _, _, .nil, _ => .nil
  | _, _, .cons r t, h => .cons (h _ _ List.mem_cons_self r) (Paired.mapM t fun a b m => h a b (List.mem_cons_of_mem _ m))
def spRP (K : PySem.W.Frag) (C CR : Addr) : Sp := fun vs H Q E => ∃ (r dx a : Addr) (b rest : Bytes) (wh p wd h : Nat), vs = [.ref r, .int (wd : Nat), .int (h : Nat)] ∧ wd ≤ 64 ∧ h ≤ 64 ∧ Rdr K CR H r dx a b wh p rest ∧ Out gPl K C CR H r dx a b wh Q E (Sh.readPlane wd h rest p)
def nw (H H' : Hp) : Hp := fun b => match H b with
  | none => H' b
  | some _ => none
theorem nw_iff {H H' : Hp} {b : Addr} {o : HO} : nw H H' b = some o ↔ H b = none ∧ H' b = some o := by
  unfold nw
  cases H b with
  | none => simp
  | some u => simp
theorem nw_same {H H' : Hp} : Same (nw H H') H' := fun b o e => (nw_iff.mp e).2
theorem nw_grow {r C dx : Addr} {fs : List (Str × V)} {H H3 H4 H5 : Hp} (s : SameX r H H3) (hr : H3 r = some (.ins C dx fs)) (s2 : Same H4 H5) : Same (nw H3 H4) (nw H H5) := fun b o e => by
  obtain ⟨e1, e2⟩ := nw_iff.mp e
  have hb : b ≠ r := fun z => by rw [z, hr] at e1; cases e1
  exact nw_iff.mpr ⟨s.free hb e1, s2 _ _ e2⟩
theorem zip_int {f : V → V → Option V} {g : Nat → Nat → Nat} (hf : ∀ m n : Nat, f (.int (m : Nat)) (.int (n : Nat)) = some (.int (g m n : Nat))) : ∀ A B : List Nat, ((nV A).zip (nV B)).filterMap (fun p => f p.1 p.2) = nV (List.zipWith g A B)
  | [], _ => by simp
  | _ :: _, [] => by simp
  | a :: A, b :: B => by
    show List.filterMap _ ((V.int (a : Nat), V.int (b : Nat)) :: (nV A).zip (nV B)) = _
    rw [List.filterMap_cons, hf, zip_int hf A B]
    rfl
theorem nV_ints (l : List Nat) : nV l = (l.map fun n => ((n : Nat) : Int)).map V.int := by
  unfold nV; rw [List.map_map]; rfl
theorem sum_ints : ∀ l : List Nat, (l.map fun n => ((n : Nat) : Int)).sum = ((l.sum : Nat) : Int)
  | [] => rfl
  | a :: l => by
    rw [List.map_cons, List.sum_cons, List.sum_cons, sum_ints l]; omega
theorem and_int (m n : Nat) : Builtin.bitAnd ((m : Nat) : Int) ((n : Nat) : Int) = ((m &&& n : Nat) : Int) := rfl
theorem nV_get {l : List Nat} {i : Nat} {x : V} (h : (nV l)[i]? = some x) : ∃ n, l[i]? = some n ∧ x = .int (n : Nat) := by
  rw [List.getElem?_map] at h
  obtain ⟨n, h1, h2⟩ := Option.map_eq_some_iff.mp h
  exact ⟨n, h1, h2.symm⟩
theorem Same.refl' (H : Hp) : Same H H := fun _ _ e => e
theorem Paired.at {α β : Type} {F : α → β → Prop} : ∀ {xs : List α} {ys : List β} {i : Nat} {x : α}, Paired F xs ys → xs[i]? = some x → ∃ y, ys[i]? = some y ∧ F x y
  | _, _, _, _, .nil, h => by simp at h
  | _, _, 0, _, .cons r _, h => by
    have : _ = _ := Option.some.inj h
    subst this
    exact ⟨_, rfl, r⟩
  | _, _, i + 1, _, .cons _ t, h => Paired.at (i := i) t (by simpa using h)
theorem isRows.row {H : Hp} {l : Addr} {R : List (List Nat)} (h : isRows H l R) {i : Nat} {r : List Nat} (hr : R[i]? = some r) : ∃ (xs : List Addr) (x : Addr), H l = some (.lst (xs.map V.ref)) ∧ (xs.map V.ref)[i]? = some (.ref x) ∧ H x = some (.lst (nV r)) := by
  obtain ⟨xs, h1, p⟩ := h
  have hl := p.length
  have hi : i < xs.length := by rw [hl]; exact (List.getElem?_eq_some_iff.mp hr).1
  obtain ⟨y, hy, q⟩ := Paired.at p (List.getElem?_eq_getElem hi)
  rw [hr] at hy
  have : r = y := Option.some.inj hy
  subst this
  exact ⟨xs, xs[i], h1, by rw [List.getElem?_map, List.getElem?_eq_getElem hi]; rfl, q⟩
theorem bP_row {P : Sh.Plane} {i : Nat} (h : i < P.length) : (bP P)[i]? = some (bI (P.getD i [])) := by
  unfold bP
  rw [List.getElem?_map, List.getElem?_eq_getElem h]
  simp [List.getD, h]
def spBI (K : PySem.W.Frag) : Sp := fun vs H Q _ => ∃ (a b : Addr) (r s : List Bool), vs = [.ref a, .ref b] ∧ SqL K H a (nV (bI r)) ∧ SqL K H b (nV (bI s)) ∧ r.length ≤ 1000 ∧ ∀ H', Same H H' → Q (.int (bothN r s : Nat)) H'
theorem bI_zip (r s : List Bool) : List.zipWith (fun a b => a &&& b) (bI r) (bI s) = List.zipWith (fun a b => a.toNat &&& b.toNat) r s := by
  unfold bI; rw [List.zipWith_map]
def andV : V → V → Option V
  | .int i, .int j => some (.int (Builtin.bitAnd i j))
  | _, _ => none
def spKd : Sp := fun vs H Q _ => ∃ x y : Bool, vs = [.int (x.toNat : Nat), .int (y.toNat : Nat)] ∧ Q (.int (kd x y : Nat)) H
def spKO : Sp := fun vs H Q _ => ∃ (li lp : Addr) (I P : Sh.Plane), vs = [.ref li, .ref lp] ∧ isRows H li (bP I) ∧ isRows H lp (bP P) ∧ I.length ≤ 1000 ∧ (∀ r ∈ I, r.length ≤ 1000) ∧ ∀ H' l, Same H H' → isRows (nw H H') l (kRows I P) → Q (.ref l) H'
theorem kd_zip {f : V → V → Option V} (hf : ∀ x y : Bool, f (.int (x.toNat : Nat)) (.int (y.toNat : Nat)) = some (.int (kd x y : Nat))) : ∀ r s : List Bool, ((nV (bI r)).zip (nV (bI s))).filterMap (fun p => f p.1 p.2) = nV (List.zipWith kd r s)
  | [], _ => by simp [bI]
  | _ :: _, [] => by simp [bI]
  | a :: r, b :: s => by
    show List.filterMap _ ((V.int (a.toNat : Nat), V.int (b.toNat : Nat)) :: (nV (bI r)).zip (nV (bI s))) = _
    rw [List.filterMap_cons, hf, kd_zip hf r s]
    rfl
def kdV : V → V → Option V
  | .int i, .int j => some (.int (if i = j then 2 else if i = 1 then 1 else 0))
  | _, _ => none
theorem kdV_eq (x y : Bool) : kdV (.int (x.toNat : Nat)) (.int (y.toNat : Nat)) = some (.int (kd x y : Nat)) := by
  cases x <;> cases y <;> rfl
theorem bI_get {r : List Bool} {i : Nat} {x : V} (h : (nV (bI r))[i]? = some x) : ∃ c : Bool, r[i]? = some c ∧ x = .int (c.toNat : Nat) := by
  obtain ⟨n, h1, rfl⟩ := nV_get h
  unfold bI at h1
  rw [List.getElem?_map] at h1
  obtain ⟨c, h2, rfl⟩ := Option.map_eq_some_iff.mp h1
  exact ⟨c, h2, rfl⟩
theorem two_of : ∀ {l : List Nat}, 2 ≤ l.length → ∃ x y r, l = x :: y :: r
  | [], h => by simp at h
  | [_], h => by simp at h
  | x :: y :: r, _ => ⟨x, y, r, rfl⟩
def spRK (K : PySem.W.Frag) : Sp := fun vs H Q _ => ∃ (a : Addr) (l : List Nat), vs = [.ref a] ∧ SqL K H a (nV l) ∧ 2 ≤ l.length ∧ l.length ≤ 100000 ∧ ∀ H' p, Same H H' → H p = none → H' p = some (.lst (nV (rk l))) → Q (.ref p) H'
def isGlyph (CG : Addr) (H : Hp) (x : Addr) (g : Sh.Glyph) : Prop := ∃ dx lr, H x = some (.ins CG dx [("letter", .int (g.letter : Nat)), ("width", .int (g.width : Nat)), ("budget", .int (g.budget : Nat)), ("cost", .int (g.cost : Nat)), ("rows", .ref lr)]) ∧ isRows H lr (kRows g.ink g.paper)
theorem isGlyph.same {CG : Addr} {H H' : Hp} {x : Addr} {g : Sh.Glyph} (i : isGlyph CG H x g) (s : Same H H') : isGlyph CG H' x g := let ⟨dx, lr, a, b⟩ := i; ⟨dx, lr, s _ _ a, b.same s⟩
def gGl (CG : Addr) : Giv Sh.Glyph := fun g v H H' => ∃ x, v = .ref x ∧ isGlyph CG (nw H H') x g
def spRG (K : PySem.W.Frag) (C CR CG : Addr) : Sp := fun vs H Q E => ∃ (r dx a : Addr) (b rest : Bytes) (wh p h : Nat), vs = [.ref r, .int (h : Nat)] ∧ h ≤ 64 ∧ Rdr K CR H r dx a b wh p rest ∧ Out (gGl CG) K C CR H r dx a b wh Q E (Sh.readGlyph h rest p)
end
end Fc
namespace L2
open PySem PySem.Spec PyProof.Rows
section
end
end L2
namespace Fc
open PySem PySem.Spec PyProof.Rows L2
open FA
open Sh (Bytes rowBytes readNum num andThen)
section
variable {P : Program} {w : World} {K : PySem.W.Frag} {mg : Str → Option Value} {base : Heap} {C CG CF CR CS CL : Addr}
structure MakR (P : Program) (w : World) (K : PySem.W.Frag) (mg : Str → Option Value) (base : Heap) (CR : Addr) : Prop where
  ex : ∃ f fd, FnOk P w K mg base (CX1 P w) 1 f fd ["self", "form", "which"] (spRI CR) ∧ mg "Reader" = some (.ref CR) ∧ Mk K CR f ∧ Binds K fd ["self", "form", "which"] []
def tMkR (CR : Addr) (t : TA) : TE := fun σ H Q => t σ H fun vs H1 => ∃ (a : Addr) (wh : Nat), vs = [.ref a, .int (wh : Nat)] ∧ ∀ (r dx : Addr) (H2 : Hp), H1 r = none → Same H1 H2 → H2 r = some (.ins CR dx (rF a wh 0)) → Q (.ref r) H2
theorem pe_mkR {X : Cx} {CR : Addr} {E : XK} {p pos : Pos} {e : Expr} {es : List Expr} {t : TA} (c : MakR X.prog X.w X.K X.mg X.base CR) (hr : Room 2 X.A) (O : XOut X E) (hg : Gl X "Reader") (ha : PA X (e :: es) t)
    (he : starEach (e :: es) X.env = (false, eval e X.env) :: starEach es X.env := by rfl) (hpl : (backTo pos (starEach es X.env)).any (·.1) = false := by rfl) : PE X (.Call (.Name "Reader" p) (e :: es) [] pos) (tMkR CR t) := by
  obtain ⟨f, fd, F, hm, M, hb⟩ := c.ex
  intro pins s σ H Q I h
  refine wpAny_Call_Name_kw (ld_glob I hg hm ?_ (by decide))
  refine PySem.W.callWith_K (h₀ := X.base) I.ok.mod.kin M.kp (thn (ha pos pins s σ H _ I h) fun us s1 ⟨vs, H1, I1, r, a, wh, ev, q⟩ => ⟨I1.kIn, ?_⟩) he hpl
  subst ev
  refine run_make M F hr hb .nil (passX O) I1 r fun x dx na nd hne => ⟨x, dx, a, wh, rfl, upd_same, fun H' h1 h2 => ⟨rfl, q x dx H' na (Same.made na nd h2) h1⟩⟩
theorem lexLt_less : ∀ (a b : List Nat), HT.lexLt (a.map fun z => ((z : Nat) : Int)) (b.map fun z => ((z : Nat) : Int)) = Sh.lexLess a b
  | [], [] => rfl
  | [], _ :: _ => rfl
  | _ :: _, [] => rfl
  | x :: a, y :: b => by
    show (if (x : Int) = (y : Int) then _ else decide ((x : Int) < (y : Int))) = (decide (x < y) || (x == y && Sh.lexLess a b))
    by_cases h : x = y
    · subst h
      rw [if_pos rfl]
      have := lexLt_less a b
      simp [this]
    · rw [if_neg (by omega)]
      have e : (x == y) = false := by simpa using h
      rw [e]
      by_cases h2 : x < y
      · rw [decide_eq_true (show (x : Int) < (y : Int) by omega), decide_eq_true h2]; rfl
      · rw [decide_eq_false (show ¬ (x : Int) < (y : Int) by omega), decide_eq_false h2]; rfl
theorem bV_nats (b : Bytes) : bV b = nV (nats b) := by unfold bV nV nats; rw [List.map_map]; rfl
def isFace (CG CF : Addr) (H : Hp) (x : Addr) (F : Sh.Face) : Prop := ∃ dx lg xs, H x = some (.ins CF dx [("height", .int (F.height : Nat)), ("cost", .int (F.each : Nat)), ("glyphs", .ref lg)]) ∧ H lg = some (.lst (xs.map V.ref)) ∧ Paired (isGlyph CG H) xs F.glyphs
theorem isFace.same {CG CF : Addr} {H H' : Hp} {x : Addr} {F : Sh.Face} (i : isFace CG CF H x F) (s : Same H H') : isFace CG CF H' x F := let ⟨dx, lg, xs, a, b, c⟩ := i; ⟨dx, lg, xs, s _ _ a, s _ _ b, L2.Paired.mapP c fun _ _ q => q.same s⟩
def RaiS (C : Addr) (wh : Nat) (H : Hp) (E : XK) (e : Sh.Fault) : Prop := ∀ (dx : Addr) (H' : Hp), Same H H' → H' dx = some (xDict dx [("which", .int (wh : Nat)), ("rule", .int (e.rule : Nat)), ("place", .int (e.place : Nat))]) → E (.ref C) (some dx) H'
theorem RaiS.rai {C : Addr} {wh : Nat} {r : Addr} {H H1 : Hp} {E : XK} {e : Sh.Fault} (k : RaiS C wh H E e) (n : H r = none) (s : Same H H1) : Rai C wh r H1 E e := fun dx H' s' h => k dx H' (fun b o q => s' b o (ne_of_none q n) (s b o q)) h
def OutS {α : Type} (G : α → V → Hp → Prop) (C : Addr) (wh : Nat) (H : Hp) (Q : VK) (E : XK) : Except Sh.Fault α → Prop
  | .ok F => ∀ v H', Same H H' → G F v H' → Q v H'
  | .error e => RaiS C wh H E e
def gFa (CG CF : Addr) : Sh.Face → V → Hp → Prop := fun F v H' => ∃ x, v = .ref x ∧ isFace CG CF H' x F
def spRF (K : PySem.W.Frag) (C CG CF : Addr) : Sp := fun vs H Q E => ∃ (a : Addr) (b : Bytes) (wh : Nat), vs = [.ref a, .int (wh : Nat)] ∧ SqL K H a (bV b) ∧ b.length ≤ 100000 ∧ OutS (gFa CG CF) C wh H Q E (Sh.judgeFace b)
def Mrk (K : PySem.W.Frag) (mg : Str → Option Value) (x : Str) (zs : List Int) : Prop := ∃ t, mg x = some (.ref t) ∧ tupIn K t zs = true
structure ACls (K : PySem.W.Frag) (CF : Addr) : Prop where
  cl : Cls K CF
  nH : NoAttr K CF "height"
  nC : NoAttr K CF "cost"
  nG : NoAttr K CF "glyphs"
structure GCls (K : PySem.W.Frag) (CG : Addr) : Prop where
  cl : Cls K CG
  nL : NoAttr K CG "letter"
  nW : NoAttr K CG "width"
  nB : NoAttr K CG "budget"
  nC : NoAttr K CG "cost"
  nR : NoAttr K CG "rows"
abbrev iV (l : List Int) : List V := l.map V.int
def spFF (C : Addr) : Sp := fun vs H Q _ => ∃ (x dx : Addr) (wh ru pl : Nat), vs = [.ref x] ∧ H x = some (xHeld C x dx) ∧ H dx = some (xDict dx [("which", .int (wh : Nat)), ("rule", .int (ru : Nat)), ("place", .int (pl : Nat))]) ∧ dx ≠ x ∧ ∀ H' l, H' l = some (.lst [.int (-5), .int (wh : Nat), .int (ru : Nat), .int (pl : Nat)]) → Q (.ref l) H'
structure CalH (P : Program) (w : World) (K : PySem.W.Frag) (mg : Str → Option Value) (base : Heap) (x : Str) (k : Nat) (ps : List Str) (sp : Sp) : Prop where
  ex : ∃ f fd, FnOkH P w K mg base k f fd ps sp ∧ mg x = some (.ref f) ∧ PySem.W.keepIn K (.ref f) = true ∧ Binds K fd ps []
structure FCls (K : PySem.W.Frag) (mg : Str → Option Value) (C : Addr) : Prop where
  c : ∃ fI, XCls K C fI namesF
  m : mg "Fault" = some (.ref C)
theorem pe_fnH {X : Cx} {k : Nat} {ps : List Str} {sp : Sp} {x : Str} {p pos : Pos} {e : Expr} {es : List Expr} {t : TA} (c : CalH X.prog X.w X.K X.mg X.base x k ps sp) (hr : RoomH k X.A) (hg : Gl X x) (ha : PA X (e :: es) t)
    (hdb : (x == ("__debug__" : Str)) = false := by decide) (he : starEach (e :: es) X.env = (false, eval e X.env) :: starEach es X.env := by rfl) (hpl : (backTo pos (starEach es X.env)).any (·.1) = false := by rfl) :
    PE X (.Call (.Name x p) (e :: es) [] pos) (tCall sp [] E0 t) := by
  obtain ⟨f, fd, F, hm, hk, hb⟩ := c.ex
  exact pe_callH F hr hg hm hk hb ha hdb he hpl
theorem hand_ff {j : Nat} {D : Ends} {σ : L2.St} {H : Hp} {wh : Nat} {z : Sh.Fault} (hj : j < σ.length) (k : ∀ H' l, H' l = some (.lst [.int (-5), .int (wh : Nat), .int (z.rule : Nat), .int (z.place : Nat)]) → D.rt (.ref l) H') :
    RaiS C wh H (hand j C (tRet (tCall (spFF C) [] E0 (tCons (tVar j) tNil))) D σ) z := by
  intro dx H' s1 h1
  refine ⟨rfl, dx, rfl, fun x hne hx => ?_⟩
  exact ⟨_, List.getElem?_set_self hj, x, dx, wh, z.rule, z.place, rfl, upd_same, (upd_ne hne).trans h1, hne, k⟩
theorem Paired.get2 {α β : Type} {F : α → β → Prop} {xs : List α} {ys : List β} (p : Paired F xs ys) {i : Nat} {y : β} (h : ys[i]? = some y) : ∃ x, xs[i]? = some x ∧ F x y := by
  have hl := p.length
  have hi : i < xs.length := by rw [hl]; exact (List.getElem?_eq_some_iff.mp h).1
  obtain ⟨z, hz, q⟩ := Paired.at p (List.getElem?_eq_getElem hi)
  rw [h] at hz
  cases hz
  exact ⟨_, List.getElem?_eq_getElem hi, q⟩
theorem nV_append (a b : List Nat) : nV (a ++ b) = nV a ++ nV b := List.map_append ..
theorem rows_len {h : Nat} {g : Sh.Glyph} (o : GOk h g) (hh : h ≤ 64) : ∀ r ∈ kRows g.ink g.paper, r.length ≤ 64 := fun r hr => by
  rw [kRows_grid o.ink o.paper] at hr
  rw [grid_rows r hr]; exact o.w64
theorem rows_num {h : Nat} {g : Sh.Glyph} (o : GOk h g) : (kRows g.ink g.paper).length = h := by rw [kRows_grid o.ink o.paper, grid_length]
def spNB : Sp := fun vs H Q _ => ∃ v n : Nat, vs = [.int (v : Nat), .int (n : Nat)] ∧ n ≤ 8 ∧ ∀ (H' : Hp) (p : Addr), Same H H' → H p = none → H' p = some (.lst (nV (leN n v))) → Q (.ref p) H'
structure FOk' (F : Sh.Face) : Prop where
  h64 : F.height ≤ 64
  glyphs : ∀ g ∈ F.glyphs, GOk F.height g
  num : F.glyphs.length ≤ 5000
def spPB : Sp := fun vs H Q _ => ∃ (l : Addr) (P : Sh.Plane) (wd : Nat), vs = [.ref l] ∧ isRows H l (bP P) ∧ (∀ r ∈ P, r.length = wd) ∧ wd ≤ 64 ∧ P.length ≤ 64 ∧ ∀ (H' : Hp) (p : Addr), Same H H' → H p = none → H' p = some (.lst (nV (nats (Sh.writePlane wd P)))) → Q (.ref p) H'
theorem bI_length (r : List Bool) : (bI r).length = r.length := by unfold bI; rw [List.length_map]
theorem packed_snoc {l : List Bool} (i : Nat) : (List.range (i + 1)).map (chunk l) = (List.range i).map (chunk l) ++ [chunk l i] := by rw [List.range_succ, List.map_append]; rfl
theorem writePlane_take {wd : Nat} {P : Sh.Plane} {i : Nat} {r : List Bool} (h : P[i]? = some r) : nats (Sh.writePlane wd (P.take (i + 1))) = nats (Sh.writePlane wd (P.take i)) ++ (List.range (rowBytes wd)).map (chunk r) := by
  rw [List.take_add_one, h]
  unfold Sh.writePlane
  rw [List.flatMap_append, nats_append, ← packed_nats]
  show _ ++ nats (List.flatMap _ [r]) = _
  simp [List.flatMap_cons]
def spPO : Sp := fun vs H Q _ => ∃ (l : Addr) (k : Nat) (R : List (List Nat)), vs = [.ref l, .int (k : Nat)] ∧ isRows H l R ∧ R.length ≤ 1000 ∧ (∀ r ∈ R, r.length ≤ 1000) ∧ ∀ (H' : Hp) (p : Addr), Same H H' → isRows (nw H H') p (kindP k R) → Q (.ref p) H'
def kindV (k : Int) : V → Option V
  | .int i => some (.int (if i = k then 1 else 0))
  | _ => none
theorem filterMap_all {α β : Type} {f : α → Option β} {g : α → β} : ∀ {l : List α}, (∀ x ∈ l, f x = some (g x)) → l.filterMap f = l.map g
  | [], _ => rfl
  | x :: l, h => by
    rw [List.filterMap_cons, h x List.mem_cons_self, filterMap_all (l := l) fun y hy => h y (List.mem_cons_of_mem _ hy)]
    rfl
theorem kind_list (k : Nat) : ∀ r : List Nat, (List.range (nV r).length).filterMap (fun i => ((nV r)[i]?).bind (kindV k)) = nV (r.map fun z => if z = k then 1 else 0) := fun r => by
  have e1 : ∀ i ∈ List.range (nV r).length, ((nV r)[i]?).bind (kindV k) = some (((nV (r.map fun z => if z = k then 1 else 0))).getD i .non) := fun i hi => by
    have hi : i < r.length := by have := List.mem_range.mp hi; rwa [List.length_map] at this
    rw [List.getElem?_map, List.getElem?_eq_getElem hi]
    show some (V.int (if ((r[i] : Nat) : Int) = (k : Int) then 1 else 0)) = _
    simp only [List.getD, List.getElem?_map, List.getElem?_eq_getElem hi, Option.map_some, Option.getD_some]
    by_cases h : r[i] = k
    · rw [if_pos h, if_pos (by rw [h])]; rfl
    · rw [if_neg h, if_neg (by omega)]; rfl
  rw [filterMap_all e1]
  have e2 := by_range V.non (nV (r.map fun z => if z = k then 1 else 0))
  rw [List.length_map, List.length_map] at e2
  rw [List.length_map]
  exact e2.symm
def spTo : Sp := fun vs H Q _ => ∃ (a : Addr) (l : List Nat), vs = [.ref a] ∧ H a = some (.lst (nV l)) ∧ l.length ≤ 16000000 ∧ ∀ (H' : Hp) (p : Addr), Same H H' → H' p = some (.lst (.int 0 :: .int (l.length : Nat) :: nV l)) → Q (.ref p) H'
def spGB (K : PySem.W.Frag) (CG : Addr) : Sp := fun vs H Q _ => ∃ (x : Addr) (g : Sh.Glyph) (h : Nat), vs = [.ref x] ∧ GCls K CG ∧ isGlyph CG H x g ∧ GOk h g ∧ h ≤ 64 ∧ ∀ (H' : Hp) (p : Addr), Same H H' → H p = none → H' p = some (.lst (nV (nats (Sh.writeGlyph g)))) → Q (.ref p) H'
theorem writeGlyph_nats {h : Nat} {g : Sh.Glyph} (o : GOk h g) : nats (Sh.writeGlyph g) = leN 2 g.letter ++ [g.width] ++ leN 2 g.budget ++ leN 2 g.cost ++ nats (Sh.writePlane g.width g.ink) ++ nats (Sh.writePlane g.width g.paper) := by
  have hw := o.w64
  unfold Sh.writeGlyph
  rw [nats_append, nats_append, nats_append, nats_append, nats_append, nats_le, nats_le, nats_le, nats_le, leN_one (show g.width < 256 by omega)]
  simp only [List.append_assoc]
def spFB (K : PySem.W.Frag) (CG CF : Addr) : Sp := fun vs H Q _ => ∃ (x : Addr) (Fa : Sh.Face), vs = [.ref x] ∧ isFace CG CF H x Fa ∧ FOk' Fa ∧ (∀ g ∈ Fa.glyphs, GCls K CG) ∧ ∀ (H' : Hp) (p : Addr), Same H H' → H p = none → H' p = some (.lst (nV (nats (Sh.writeFace Fa)))) → Q (.ref p) H'
theorem told_bytes (b : Bytes) : iV (ShapeNeutral.told (.bytes b)) = V.int 0 :: V.int ((nats b).length : Nat) :: nV (nats b) := by
  show V.int 0 :: iV (ShapeNeutral.rowN (b.map fun c => (c.toNat : Int))) = _
  unfold ShapeNeutral.rowN
  rw [List.length_map]
  show V.int 0 :: V.int (b.length : Nat) :: iV (b.map fun c => (c.toNat : Int)) = _
  have e1 : (nats b).length = b.length := by unfold nats; rw [List.length_map]
  have e2 : iV (b.map fun c => (c.toNat : Int)) = nV (nats b) := by
    unfold iV nV nats
    rw [List.map_map, List.map_map]
    rfl
  rw [e1, e2]
theorem Paired.dropP {α β : Type} {F : α → β → Prop} : ∀ {xs : List α} {ys : List β} (n : Nat), Paired F xs ys → Paired F (xs.drop n) (ys.drop n)
  | _, _, 0, r => r
  | _, _, _ + 1, .nil => .nil
  | _, _, n + 1, .cons _ t => Paired.dropP n t
theorem Paired.appendP {α β : Type} {F : α → β → Prop} : ∀ {xs zs : List α} {ys ts : List β}, Paired F xs ys → Paired F zs ts → Paired F (xs ++ zs) (ys ++ ts)
  | _, _, _, _, .nil, s => s
  | _, _, _, _, .cons r t, s => .cons r (Paired.appendP t s)
theorem face_len {F : Sh.Face} (o : FOk' F) : (nats (Sh.writeFace F)).length ≤ 16000000 := by
  have hg : ∀ g ∈ F.glyphs, (Sh.writeGlyph g).length ≤ 1040 := fun g hgm => by
    have og := o.glyphs g hgm
    have := og.w64
    have h6 := o.h64
    have hrb : rowBytes g.width ≤ 8 := by unfold rowBytes; omega
    have hmul : F.height * rowBytes g.width ≤ 64 * 8 := Nat.mul_le_mul h6 hrb
    unfold Sh.writeGlyph
    simp only [List.length_append, le_length, writePlane_length, og.ink.len, og.paper.len]
    omega
  have hf : ∀ l : List Sh.Glyph, (∀ g ∈ l, (Sh.writeGlyph g).length ≤ 1040) → (l.flatMap Sh.writeGlyph).length ≤ l.length * 1040 := by
    intro l
    induction l with
    | nil => intro _; simp
    | cons g l ih =>
      intro h
      have h1 := h g List.mem_cons_self
      have h2 := ih fun x hx => h x (List.mem_cons_of_mem _ hx)
      rw [List.flatMap_cons, List.length_append, List.length_cons, Nat.succ_mul]; omega
  have h1 := hf _ hg
  have h2 := o.num
  unfold nats Sh.writeFace
  rw [List.length_map]
  simp only [List.length_append, le_length]
  have : Sh.FACE.length = 4 := rfl
  omega
structure LCls (K : PySem.W.Frag) (CL : Addr) : Prop where
  cl : Cls K CL
  nL : NoAttr K CL "letter"
  nW : NoAttr K CL "width"
  nH : NoAttr K CL "height"
  nB : NoAttr K CL "leeway"
  nS : NoAttr K CL "samples"
  nI : NoAttr K CL "ink"
  nP : NoAttr K CL "paper"
abbrev lF (L : Sh.Learnt) (li lp : Addr) : List (Str × V) := [("letter", .int (L.letter : Nat)), ("width", .int (L.width : Nat)), ("height", .int (L.height : Nat)), ("leeway", .int (L.loose : Nat)), ("samples", .int (L.seen : Nat)), ("ink", .ref li), ("paper", .ref lp)]
def isSeen (CL : Addr) (H : Hp) (x : Addr) (L : Sh.Learnt) : Prop := ∃ dx li lp, H x = some (.ins CL dx (lF L li lp)) ∧ isRows H li (bP L.ink) ∧ isRows H lp (bP L.paper)
theorem isSeen.same {H H' : Hp} {x : Addr} {L : Sh.Learnt} (i : isSeen CL H x L) (s : Same H H') : isSeen CL H' x L := let ⟨dx, li, lp, a, b, c⟩ := i; ⟨dx, li, lp, s _ _ a, b.same s, c.same s⟩
def isMore (CL : Addr) (H : Hp) (y : Addr) (n : Nat) (I O : List (List Nat)) : Prop := ∃ (dy lj lk : Addr) (fs : List (Str × V)), H y = some (.ins CL dy fs) ∧ fs.lookup ("samples" : Str) = some (.int (n : Nat)) ∧ fs.lookup ("ink" : Str) = some (.ref lj) ∧ fs.lookup ("paper" : Str) = some (.ref lk) ∧ isRows H lj I ∧ isRows H lk O
theorem isSeen.more {H : Hp} {x : Addr} {L : Sh.Learnt} (i : isSeen CL H x L) : isMore CL H x L.seen (bP L.ink) (bP L.paper) := let ⟨dx, li, lp, a, b, c⟩ := i; ⟨dx, li, lp, _, a, rfl, rfl, rfl, b, c⟩
end
end Fc
namespace L2
open PySem PySem.Spec PyProof.Rows
section
theorem ps_setLcN {X : Cx} {i : Nat} {y : Str} {py : Pos} {elt tg iter : Expr} {ifs : List Expr} {scope : Scope} {pos spos : Pos} {wi : TI} (own : List (Str × Nat)) (vs : List Nat) (g : TG) (tt : TT) (te : TE) (hc : X.calm = true) (hN : X.N.Nodup) (hy : X.N[i]? = some y) (hyl : X.env.scope.names.lookup y = some .local)
    (hsw : swapsWith (.ListComp elt [⟨tg, iter, ifs, 0⟩] scope pos) (some (.Name y py)) spos.line X.env = pure true) (hi : PI X tg iter wi) (ok : blkC X.N X.env.scope scope own = true)
    (hg : ∀ (s : Shared) (H : Hp) (C : Addr) (cl : List (Str × Addr)) (fp : List Addr), PG (X.blk s H scope (compEnvC scope cl C X.env) fp) tg g) (ht : ∀ (s : Shared) (H : Hp) (C : Addr) (cl : List (Str × Addr)) (fp : List Addr), PTs (X.blk s H scope (compEnvC scope cl C X.env) fp) ifs tt)
    (he : ∀ (s : Shared) (H : Hp) (C : Addr) (cl : List (Str × Addr)) (fp : List Addr), PE (X.blk s H scope (compEnvC scope cl C X.env) fp) elt te) (hv : own.map (·.2) = vs := by rfl) (hs : ∀ x, foldedSetIterable iter X.env x = pure x := by intro _; rfl) :
    PS X (.Assign [.Name y py] (.ListComp elt [⟨tg, iter, ifs, 0⟩] scope pos) spos) (tAsg (tLcN wi g tt te vs) (gName i)) := by
  subst hv
  exact ps_setLc hc hN hy hyl hsw hi (blkOk_by ok) hg ht he hs
end
end L2
namespace Fc
open PySem PySem.Spec PyProof.Rows L2
open FA
open Sh (Bytes rowBytes readNum num andThen)
section
variable {P : Program} {w : World} {K : PySem.W.Frag} {mg : Str → Option Value} {base : Heap} {C CG CF CR CS CL : Addr}
theorem dp_nats {H : Hp} : ∀ l : List Nat, DpAll K H (nV l) (l.map fun n => PyData.int ((n : Nat) : Int))
  | [] => .nil
  | n :: l => .cons (.int _) (dp_nats l)
theorem can_nats : ∀ l : List Nat, PyData.canLayAll0 (l.map fun n => PyData.int ((n : Nat) : Int)) = true
  | [] => by simp only [List.map_nil, PyData.canLayAll0]
  | n :: l => by simp only [List.map_cons, PyData.canLayAll0, PyData.canLay0, can_nats l, Bool.and_self]
theorem dep_nats : ∀ l : List Nat, PyData.depthAll (l.map fun n => PyData.int ((n : Nat) : Int)) = 0
  | [] => by simp only [List.map_nil, PyData.depthAll]
  | n :: l => by simp only [List.map_cons, PyData.depthAll, PyData.depth, dep_nats l, Nat.max_self]
theorem shaped_nats (l : List Nat) : SeqAt.shaped (.list (l.map fun n => PyData.int ((n : Nat) : Int))) = true := by
  unfold SeqAt.shaped
  rw [PyData.canLay0, can_nats, PyData.depth, dep_nats]; rfl
theorem eqvAll_nats : ∀ a b : List Nat, PyData.eqvAll (a.map fun n => PyData.int ((n : Nat) : Int)) (b.map fun n => PyData.int ((n : Nat) : Int)) = decide (a = b)
  | [], [] => by simp [PyData.eqvAll]
  | [], _ :: _ => by simp [PyData.eqvAll]
  | _ :: _, [] => by simp [PyData.eqvAll]
  | x :: a, y :: b => by
    rw [List.map_cons, List.map_cons, PyData.eqvAll, eqvAll_nats a b, PyData.eqv]
    by_cases h : x = y
    · subst h; simp
    · have : ((x : Int) == (y : Int)) = false := by simp; omega
      rw [this]; simp [h]
theorem eqv_nats (a b : List Nat) : PyData.eqv (.list (a.map fun n => PyData.int ((n : Nat) : Int))) (.list (b.map fun n => PyData.int ((n : Nat) : Int))) = decide (a = b) := by
  rw [PyData.eqv, eqvAll_nats]
theorem room64 {k : Nat} {A : Around} (r : Room k A) : A.units + 64 < cLine := by have := r.un; omega
def pickF {α β : Type} (p : β → Bool) (q : α → V) (xs : List α) (gs : List β) (i : Nat) : Option V := match xs[i]?, gs[i]? with
  | some x, some g => if p g = true then some (q x) else none
  | _, _ => none
theorem pick {α β : Type} {F : α → β → Prop} (p : β → Bool) (q : α → V) : ∀ {xs : List α} {gs : List β}, Paired F xs gs → ∃ zs : List α, (List.range xs.length).filterMap (pickF p q xs gs) = zs.map q ∧ Paired F zs (gs.filter p)
  | _, _, .nil => ⟨[], rfl, .nil⟩
  | x :: xs, g :: gs, .cons r t => by
    obtain ⟨zs, e, pz⟩ := pick p q t
    rw [List.length_cons, List.range_succ_eq_map, List.filterMap_cons, List.filterMap_map]
    have e2 : (List.range xs.length).filterMap (pickF p q (x :: xs) (g :: gs) ∘ Nat.succ) = zs.map q := e
    rw [e2]
    have e0 : pickF p q (x :: xs) (g :: gs) 0 = if p g = true then some (q x) else none := rfl
    rw [e0]
    by_cases h : p g = true
    · refine ⟨x :: zs, ?_, ?_⟩
      · rw [if_pos h]; rfl
      · rw [List.filter_cons, if_pos h]; exact .cons r pz
    · refine ⟨zs, ?_, ?_⟩
      · rw [if_neg h]
      · rw [List.filter_cons, if_neg h]; exact pz
def spTW (K : PySem.W.Frag) (CG CF : Addr) : Sp := fun vs H Q _ => ∃ (x y : Addr) (Fa : Sh.Face) (g : Sh.Glyph), vs = [.ref x, .ref y] ∧ isFace CG CF H x Fa ∧ FOk Fa ∧ isGlyph CG H y g ∧ GOk Fa.height g ∧ ∀ H' l, H' l = some (.lst (iV (ShapeNeutral.told (ShB.putIn Fa g)))) → Q (.ref l) H'
theorem glyph_lens {h : Nat} {g : Sh.Glyph} (o : GOk h g) (hh : h ≤ 64) : 2 ≤ (nats (Sh.writeGlyph g)).length ∧ (nats (Sh.writeGlyph g)).length ≤ 100000 := by
  have := o.w64
  have hrb : rowBytes g.width ≤ 8 := by unfold rowBytes; omega
  have hmul : h * rowBytes g.width ≤ 64 * 8 := Nat.mul_le_mul hh hrb
  rw [writeGlyph_nats o]
  simp only [List.length_append, leN_length, List.length_cons, List.length_nil]
  unfold nats
  rw [List.length_map, List.length_map, writePlane_length, writePlane_length, o.ink.len, o.paper.len]
  omega
end
end Fc
namespace L2
open PySem PySem.Spec PyProof.Rows
section
def ME (t : TE) : Prop := ∀ σ H (Q Q' : VK), (∀ v H1, Q v H1 → Q' v H1) → t σ H Q → t σ H Q'
def MR (r : R2) : Prop := ∀ x y H (Q Q' : VK), (∀ v H1, Q v H1 → Q' v H1) → r x y H Q → r x y H Q'
end
end L2
namespace Fc
open PySem PySem.Spec PyProof.Rows L2
open FA
open Sh (Bytes rowBytes readNum num andThen)
section
variable {P : Program} {w : World} {K : PySem.W.Frag} {mg : Str → Option Value} {base : Heap} {C CG CF CR CS CL : Addr}
structure SCls (K : PySem.W.Frag) (CS : Addr) : Prop where
  cl : Cls K CS
  nW : NoAttr K CS "width"
  nH : NoAttr K CS "height"
  nR : NoAttr K CS "rows"
def isScan (CS : Addr) (H : Hp) (x : Addr) (S : Sh.Scan) : Prop := ∃ dx lr, H x = some (.ins CS dx [("width", .int (S.width : Nat)), ("height", .int (S.height : Nat)), ("rows", .ref lr)]) ∧ isRows H lr (tRows S)
theorem isScan.same {H H' : Hp} {x : Addr} {S : Sh.Scan} (i : isScan CS H x S) (s : Same H H') : isScan CS H' x S := let ⟨dx, lr, a, b⟩ := i; ⟨dx, lr, s _ _ a, b.same s⟩
theorem rgW {wd n : Nat} (h1 : 1 ≤ wd) (h2 : wd ≤ 64) (h3 : n ≤ 64) : RgC 0 ((wd * n : Nat) : Int) (wd : Int) n := by
  refine ⟨by omega, by omega, ?_, ?_⟩
  · have all : ∀ v m : Fin 65, Builtin.Range.small 0 ((v.val * m.val : Nat) : Int) ((v.val : Nat) : Int) = true := by decide +kernel
    exact all ⟨wd, by omega⟩ ⟨n, by omega⟩
  · unfold Builtin.Range.rangeSize
    rw [if_pos (by omega)]
    cases n with
    | zero => simp
    | succ n =>
      have hp : 0 < wd * (n + 1) := Nat.mul_pos h1 (Nat.succ_pos n)
      rw [if_pos (by omega)]
      have e : ((wd * (n + 1) : Nat) : Int) - 0 - 1 = ((wd - 1 + wd * n : Nat) : Int) := by
        rw [Nat.mul_succ]; omega
      rw [e, ← Int.natCast_ediv, Nat.add_mul_div_left _ _ h1, Nat.div_eq_of_lt (by omega)]
      omega
theorem rowsOf_succ (wd i : Nat) (t : List Nat) : rowsOf wd (i + 1) t = rowsOf wd i t ++ [(t.drop (wd * i)).take wd] := by
  unfold rowsOf
  rw [List.range_succ, List.map_append]; rfl
theorem rowsOf_length (wd i : Nat) (t : List Nat) : (rowsOf wd i t).length = i := by
  unfold rowsOf
  rw [List.length_map, List.length_range]
theorem lc_cuts {q : Addr} {t : List Nat} {wd n i1 i5 iw : Nat} {vs : List Nat} {σ : L2.St} {H1 : Hp} {Q : VK} (hq : SqL K H1 q (nV t)) (hn : n ≤ sizeLine) (hw : ∀ x, wipe ((wipe σ vs).set i1 (some x)) vs = wipe σ vs)
    (h5 : ∀ x, ((wipe σ vs).set i1 (some x))[i5]? = some (some (.ref q))) (hwd : ∀ x, ((wipe σ vs).set i1 (some x))[iw]? = some (some (.int (wd : Nat)))) (h1 : ∀ x, ((wipe σ vs).set i1 (some x))[i1]? = some (some x))
    (hd : ∀ D H, Same H1 H → isRows (nw H1 H) D (rowsOf wd n t) → Q (.ref D) H) :
    LcGo (Itc 0 (wd : Int) n) (gName i1) tYes (tSl (rSlL K) (tVar i5) (tPart (tVar i1)) (tPart (tOp (rI0 fun i j => V.int (i + j)) (tVar i1) (tVar iw)))) vs σ Q H1 := by
  refine lc_acc (n := n) (fun i ys G => ∃ zs : List Addr, ys = zs.map V.ref ∧ Paired (fun x r => nw H1 G x = some (.lst (nV r))) zs (rowsOf wd i t)) hn (fun i ys G h => ?_) ⟨[], rfl, .nil⟩ (fun i H hi s => hi) (fun H s => Nat.le_refl _) (fun i x ys D H H' Rk N hi hD hz s h y hR hN => ?_) (fun D ys H hD s hz h => ?_)
  · obtain ⟨zs, rfl, p⟩ := h
    rw [List.length_map, p.length, rowsOf_length]; exact Nat.le_refl _
  · obtain ⟨rfl, rfl⟩ := y
    obtain ⟨zs, rfl, p⟩ := h
    refine ⟨hw _, ?_⟩
    show tSl (rSlL K) (tVar i5) (tPart (tVar i1)) (tPart (tOp (rI0 fun i j => V.int (i + j)) (tVar i1) (tVar iw))) _ _ Rk
    refine ⟨_, h5 _, _, h1 _, _, rfl, _, h1 _, _, hwd _, _, _, rfl, rfl, _, rfl, q, _, rfl, s.seq hq, fun z hz0 => ?_⟩
    have e : cutV (nV t) (some (0 + ((i : Nat) : Int) * (wd : Int))) (some (0 + ((i : Nat) : Int) * (wd : Int) + ((wd : Nat) : Int))) = nV ((t.drop (wd * i)).take wd) := by
      have e1 : 0 + ((i : Nat) : Int) * (wd : Int) = ((wd * i : Nat) : Int) := by rw [Nat.mul_comm, Int.natCast_mul]; omega
      rw [e1, show ((wd * i : Nat) : Int) + ((wd : Nat) : Int) = ((wd * i + wd : Nat) : Int) by omega, cut_nat, show wd * i + wd - wd * i = wd by omega]
      unfold nV; rw [List.map_take, List.map_drop]
    rw [e]
    have nzD : z ≠ D := fun e => by rw [e, hz] at hz0; cases hz0
    have sz := Same.new (o := .lst (nV ((t.drop (wd * i)).take wd))) hz0
    refine hR (.ref z) _ sz ⟨zs ++ [z], by rw [List.map_append]; rfl, ?_⟩
    rw [rowsOf_succ]
    refine Paired.snoc (Paired.mapM p fun x row _ hy => ?_) ?_
    · obtain ⟨u1, u2⟩ := nw_iff.mp hy
      exact nw_iff.mpr ⟨u1, sz.del D _ _ u2⟩
    · exact nw_iff.mpr ⟨s.free hz0, by rw [del_ne nzD, upd_same]⟩
  · obtain ⟨zs, rfl, p⟩ := h
    refine hd D H s ⟨zs, nw_iff.mpr ⟨hD, hz⟩, Paired.mapM p fun x row _ hy => ?_⟩
    obtain ⟨u1, u2⟩ := nw_iff.mp hy
    have hxD : x ≠ D := fun e => by rw [e, del_same] at u2; cases u2
    rw [del_ne hxD] at u2
    exact nw_iff.mpr ⟨u1, u2⟩
def spPut (K : PySem.W.Frag) : Sp := fun vs H Q _ => ∃ (l wd u c : Nat) (a : Addr) (b : Bytes) (q : Addr) (t : List Nat), vs = [.int (l : Nat), .int (wd : Nat), .int (u : Nat), .int (c : Nat), .ref a, .ref q] ∧ SqL K H a (bV b) ∧ b.length ≤ 100000 ∧ SqL K H q (nV t) ∧ t.length ≤ 100000 ∧ ∀ H' p, H' p = some (.lst (iV (ShapeNeutral.told (ShB.answer (.put l wd u c b t))))) → Q (.ref p) H'
end
end Fc
end
section
set_option Elab.async false
set_option linter.all false
namespace Fc
open PySem PySem.Spec PyProof.Rows L2
def top (i : Nat) : Stmt := PySem.Challenge.pw_lettershapesdesk_s04_put.main.body.getD i (.Pass ⟨0, 0, 0, 0⟩)
abbrev c_Fault : Stmt := top 11
abbrev s_Fault_init : Stmt := inClass (top 11) 0
abbrev c_Glyph : Stmt := top 12
abbrev s_Glyph_init : Stmt := inClass (top 12) 0
abbrev c_Face : Stmt := top 13
abbrev s_Face_init : Stmt := inClass (top 13) 0
abbrev c_Reader : Stmt := top 14
abbrev s_Reader_init : Stmt := inClass (top 14) 0
abbrev s_Reader_take_number : Stmt := inClass (top 14) 1
abbrev s_Reader_take_bounded : Stmt := inClass (top 14) 2
abbrev s_Reader_take_mark : Stmt := inClass (top 14) 3
abbrev s_Reader_take_end : Stmt := inClass (top 14) 4
abbrev s_read_face : Stmt := top 15
abbrev s_read_glyph : Stmt := top 16
abbrev s_read_plane : Stmt := top 17
abbrev s_read_plane_row : Stmt := top 18
abbrev s_face_bytes : Stmt := top 19
abbrev s_glyph_bytes : Stmt := top 20
abbrev s_plane_bytes : Stmt := top 21
abbrev s_number_bytes : Stmt := top 22
abbrev s_rank_of : Stmt := top 23
abbrev s_row_size : Stmt := top 24
abbrev s_plane_of : Stmt := top 25
abbrev s_kinds_of : Stmt := top 26
abbrev s_kind_of : Stmt := top 27
abbrev s_both_in : Stmt := top 28
abbrev s_put : Stmt := top 34
abbrev s_refused_form : Stmt := top 35
abbrev s_told_numbers : Stmt := top 36
abbrev s_told_with : Stmt := top 37
end Fc
end
section
set_option Elab.async false
set_option linter.all false
set_option maxRecDepth 100000
set_option maxHeartbeats 2000000
namespace Fc
open PySem PySem.Spec PyProof.Rows L2
open FA
open Sh (Bytes rowBytes readNum num andThen)
variable {P : Program} {w : World} {K : PySem.W.Frag} {mg : Str → Option Value} {base : Heap} {C CG CF CR CS CL : Addr}
theorem sc_fi : FnScope ["self", "which", "rule", "place"] ["self", "which", "rule", "place"] (defScope s_Fault_init) := ⟨rfl, rfl, rfl, by decide +kernel, rfl, by decide +kernel, by decide +kernel⟩
theorem ok_fi {f fI : Addr} {fd : FuncData} (F : Fun K "__init__" "Fault.__init__" s_Fault_init f fd) (c : XCls K C fI namesF) : FnOk P w K mg base (CX1 P w) 1 f fd ["self", "which", "rule", "place"] (spXI C ksF) := by
  refine F.okX sc_fi (fun vs H Q E h => ?_) (fun cdv A outer s H vs Q E hr h => ?_)
  · obtain ⟨a, t, ys, rfl, hl, _⟩ := h
    show ys.length + 1 = 4
    rw [hl]; rfl
  · obtain ⟨a, t, ys, rfl, hl, ha, k⟩ := h
    obtain ⟨y1, y2, y3, rfl⟩ : ∃ y1 y2 y3, ys = [y1, y2, y3] := by
      match ys, hl with
      | [y1, y2, y3], _ => exact ⟨y1, y2, y3, rfl⟩
    refine ⟨_, pss_cons (ps_x0 (C := C) (fI := fI) (names := namesF) (pv 0) (pv 1) rfl) (pss_cons (ps_x1 (C := C) (fI := fI) (names := namesF) (pv 0) (pv 2) rfl) (pss_one (ps_x1 (C := C) (fI := fI) (names := namesF) (pv 0) (pv 3) rfl))), ?_⟩
    refine ⟨_, rfl, _, rfl, a, t, rfl, ha, c, by decide, xno_which, fun dx d1 d2 => ?_⟩
    refine ⟨_, rfl, _, rfl, a, dx, t, _, rfl, by rw [upd_ne d2, upd_same], upd_same, c, by decide, xno_rule, (by show 1 < 1000; decide), ?_⟩
    refine ⟨_, rfl, _, rfl, a, dx, t, _, rfl, by rw [upd_ne d2, upd_ne d2, upd_same], upd_same, c, by decide, xno_place, (by show 2 < 1000; decide), ?_⟩
    refine k dx _ d1 (Ne.symm d2) (by rw [upd_ne d2, upd_ne d2, upd_ne d2, upd_same]) ?_ fun b o e hb => ?_
    · rw [upd_same]
      rfl
    · have hd : b ≠ dx := ne_of_none e d1
      rw [upd_ne hd, upd_ne hd, upd_ne hd, upd_ne hb]
      exact e
theorem sc_gi : FnScope ["self", "letter", "width", "budget", "cost", "rows"] ["self", "letter", "width", "budget", "cost", "rows"] (defScope s_Glyph_init) := ⟨rfl, rfl, rfl, by decide +kernel, rfl, by decide +kernel, by decide +kernel⟩
theorem ok_gi {f : Addr} {fd : FuncData} (F : Fun K "__init__" "Glyph.__init__" s_Glyph_init f fd) (cl : Cls K CG) (no : ∀ x ∈ ksG, NoAttr K CG x) : FnOk P w K mg base (CX1 P w) 1 f fd ["self", "letter", "width", "budget", "cost", "rows"] (spInit CG ksG) := by
  refine F.okX sc_gi (fun vs H Q E h => ?_) (fun cdv A outer s H vs Q E hr h => ?_)
  · obtain ⟨a, t, ys, rfl, hl, _⟩ := h
    show ys.length + 1 = 6
    rw [hl]; rfl
  · obtain ⟨a, dx, ys, rfl, hl, ha, k⟩ := h
    obtain ⟨y1, y2, y3, y4, y5, rfl⟩ : ∃ y1 y2 y3 y4 y5, ys = [y1, y2, y3, y4, y5] := by
      match ys, hl with
      | [y1, y2, y3, y4, y5], _ => exact ⟨y1, y2, y3, y4, y5, rfl⟩
    refine ⟨_, pss_cons (ps_fld (pv 0) (pv 1) rfl) (pss_cons (ps_fld (pv 0) (pv 2) rfl) (pss_cons (ps_fld (pv 0) (pv 3) rfl) (pss_cons (ps_fld (pv 0) (pv 4) rfl) (pss_one (ps_fld (pv 0) (pv 5) rfl))))), ?_⟩
    refine ⟨_, rfl, _, rfl, a, CG, dx, _, rfl, ha, cl, no _ (by decide), by decide, ?_⟩
    refine ⟨_, rfl, _, rfl, a, CG, dx, _, rfl, upd_same, cl, no _ (by decide), (by show 1 < 1000; decide), ?_⟩
    refine ⟨_, rfl, _, rfl, a, CG, dx, _, rfl, upd_same, cl, no _ (by decide), (by show 2 < 1000; decide), ?_⟩
    refine ⟨_, rfl, _, rfl, a, CG, dx, _, rfl, upd_same, cl, no _ (by decide), (by show 3 < 1000; decide), ?_⟩
    refine ⟨_, rfl, _, rfl, a, CG, dx, _, rfl, upd_same, cl, no _ (by decide), (by show 4 < 1000; decide), ?_⟩
    refine k _ ?_ fun b o e hb => by rw [upd_ne hb, upd_ne hb, upd_ne hb, upd_ne hb, upd_ne hb]; exact e
    rw [upd_same]
    rfl
theorem sc_ai : FnScope ["self", "height", "cost", "glyphs"] ["self", "height", "cost", "glyphs"] (defScope s_Face_init) := ⟨rfl, rfl, rfl, by decide +kernel, rfl, by decide +kernel, by decide +kernel⟩
theorem ok_ai {f : Addr} {fd : FuncData} (F : Fun K "__init__" "Face.__init__" s_Face_init f fd) (cl : Cls K CF) (no : ∀ x ∈ ksA, NoAttr K CF x) : FnOk P w K mg base (CX1 P w) 1 f fd ["self", "height", "cost", "glyphs"] (spInit CF ksA) := by
  refine F.okX sc_ai (fun vs H Q E h => ?_) (fun cdv A outer s H vs Q E hr h => ?_)
  · obtain ⟨a, t, ys, rfl, hl, _⟩ := h
    show ys.length + 1 = 4
    rw [hl]; rfl
  · obtain ⟨a, dx, ys, rfl, hl, ha, k⟩ := h
    obtain ⟨y1, y2, y3, rfl⟩ : ∃ y1 y2 y3, ys = [y1, y2, y3] := by
      match ys, hl with
      | [y1, y2, y3], _ => exact ⟨y1, y2, y3, rfl⟩
    refine ⟨_, pss_cons (ps_fld (pv 0) (pv 1) rfl) (pss_cons (ps_fld (pv 0) (pv 2) rfl) (pss_one (ps_fld (pv 0) (pv 3) rfl))), ?_⟩
    refine ⟨_, rfl, _, rfl, a, CF, dx, _, rfl, ha, cl, no _ (by decide), by decide, ?_⟩
    refine ⟨_, rfl, _, rfl, a, CF, dx, _, rfl, upd_same, cl, no _ (by decide), (by show 1 < 1000; decide), ?_⟩
    refine ⟨_, rfl, _, rfl, a, CF, dx, _, rfl, upd_same, cl, no _ (by decide), (by show 2 < 1000; decide), ?_⟩
    refine k _ ?_ fun b o e hb => by rw [upd_ne hb, upd_ne hb, upd_ne hb]; exact e
    rw [upd_same]
    rfl
theorem sc_ri : FnScope ["self", "form", "which"] ["self", "form", "which"] (defScope s_Reader_init) := ⟨rfl, rfl, rfl, by decide +kernel, rfl, by decide +kernel, by decide +kernel⟩
theorem ok_ri {f : Addr} {fd : FuncData} (F : Fun K "__init__" "Reader.__init__" s_Reader_init f fd) (B : RCls K CR) : FnOk P w K mg base (CX1 P w) 1 f fd ["self", "form", "which"] (spRI CR) := by
  refine F.okX sc_ri (fun vs H Q E h => ?_) (fun cdv A outer s H vs Q E hr h => ?_)
  · obtain ⟨r, dx, a, wh, rfl, _⟩ := h
    rfl
  · obtain ⟨r, dx, a, wh, rfl, ha, k⟩ := h
    refine ⟨_, pss_cons (ps_fld (pv 0) (pv 1) rfl) (pss_cons (ps_fld (pv 0) (pv 2) rfl) (pss_one (ps_fld (pv 0) pe_int rfl))), ?_⟩
    refine ⟨_, rfl, _, rfl, r, CR, dx, _, rfl, ha, B.cl, B.nF, by decide, ?_⟩
    refine ⟨_, rfl, _, rfl, r, CR, dx, _, rfl, upd_same, B.cl, B.nW, (by show 1 < 1000; decide), ?_⟩
    refine ⟨_, rfl, r, CR, dx, _, rfl, upd_same, B.cl, B.nP, (by show 2 < 1000; decide), ?_⟩
    refine k _ ?_ fun b o e hb => by rw [upd_ne hb, upd_ne hb, upd_ne hb]; exact e
    rw [upd_same]
    rfl
theorem sc_tn : FnScope ["self", "size", "value", "byte"] ["self", "size"] (defScope s_Reader_take_number) := ⟨rfl, rfl, rfl, by decide +kernel, rfl, by decide +kernel, by decide +kernel⟩
theorem ok_tn {f : Addr} {fd : FuncData} (F : Fun K "take_number" "Reader.take_number" s_Reader_take_number f fd) (T : Txt mg) (B : RCls K CR) (R : Rais P w K mg base "Fault" C 1 ksF) : FnOk P w K mg base (CX1 P w) 3 f fd ["self", "size"] (spTN K C CR) := by
  refine F.okX sc_tn (fun vs H Q E h => ?_) (fun cdv A outer s H vs Q E hr h => ?_)
  · obtain ⟨r, dx, a, b, rest, wh, p, n, rfl, _⟩ := h
    rfl
  · obtain ⟨r, dx, a, b, rest, wh, p, n, rfl, rd, k⟩ := h
    have nd := sc_tn.nd
    have hlen := rd.at_.len
    refine ⟨_, pss_cons (ps_if (pt_cmpR op_gt (pe_op op_add (pe_fld (pv 0) rfl) (pv 1)) (pe_callB call_len_seq (by rfl) T.len PySem.boot_len (pa_cons (pe_fld (pv 0) rfl) pa_nil)) (nomark _))
        (pss_one (ps_rais R hr xout rfl rfl (pa_cons (pe_fld (pv 0) rfl) (pa_cons pe_int (pa_cons (pe_callB call_len_seq (by rfl) T.len PySem.boot_len (pa_cons (pe_fld (pv 0) rfl) pa_nil)) pa_nil))))) pss_nil)
      (pss_cons (ps_set (i := 2) nd rfl (Or.inl rfl) pe_int)
      (pss_cons (ps_for own1 rfl (pi_reversed rfl T.reversed (pa_cons (pe_slice sl_list (pe_fld (pv 0) rfl) (po_some (pe_fld (pv 0) rfl)) (po_some (pe_op op_add (pe_fld (pv 0) rfl) (pv 1)))) pa_nil)) (pg_name (i := 3) nd rfl (Or.inl rfl))
        (pss_one (ps_set (i := 2) nd rfl (Or.inl rfl) (pe_op op_add (pe_op op_mul (pv 2) pe_int) (pv 3)))))
      (pss_cons (ps_fld (pv 0) (pe_op op_add (pe_fld (pv 0) rfl) (pv 1)) rfl)
      (pss_one (ps_ret (pv 2)))))), ?_⟩
    refine ⟨_, rfl, r, CR, dx, _, _, rfl, rd.ob, B.cl, B.nP, rfl, _, rfl, _, _, rfl, rfl, _, rfl, r, CR, dx, _, _, rfl, rd.ob, B.cl, B.nF, rfl, a, _, rfl, .inl rd.sq, _, _, rfl, rfl, _, rfl, ?_⟩
    have el : ((bV b).length : Int) = ((p + rest.length : Nat) : Int) := by rw [List.length_map, hlen]
    refine iteD (fun hc => ?_) (fun hc => ?_)
    · have hc : ((bV b).length : Int) < (p : Int) + (n : Int) := hc
      rw [el] at hc
      refine ⟨_, rfl, r, CR, dx, _, _, rfl, rd.ob, B.cl, B.nW, rfl, _, rfl, r, CR, dx, _, _, rfl, rd.ob, B.cl, B.nF, rfl, a, _, rfl, .inl rd.sq, rfl, fun dx' H2 _ s2 h2 => ?_⟩
      have e : readNum n rest p = .error ⟨5, p + rest.length⟩ := by
        unfold readNum
        rw [if_pos (by omega)]
      rw [e] at k
      have k : Rai C wh r H E ⟨5, p + rest.length⟩ := k
      refine k dx' H2 (.of s2) ?_
      rw [h2]
      show some (xDict dx' [("which", .int (wh : Nat)), ("rule", .int 5), ("place", .int ((bV b).length : Int))]) = _
      rw [el]
      rfl
    · have hc : ¬ ((bV b).length : Int) < (p : Int) + (n : Int) := hc
      rw [el] at hc
      have hn : n ≤ rest.length := by omega
      have e : readNum n rest p = .ok (num (rest.take n), rest.drop n, p + n) := by
        unfold readNum
        rw [if_neg (by omega)]
      rw [e] at k
      have k : ∀ v H', SameX r H H' → Rdr K CR H' r dx a b wh (p + n) (rest.drop n) → v = V.int (num (rest.take n) : Nat) → Q v H' := k
      refine ⟨_, rfl, r, CR, dx, _, _, rfl, rd.ob, B.cl, B.nF, rfl, _, rfl, r, CR, dx, _, _, rfl, rd.ob, B.cl, B.nP, rfl, _, rfl, _, rfl, r, CR, dx, _, _, rfl, rd.ob, B.cl, B.nP, rfl, _, rfl, _, _, rfl, rfl, _, rfl, a, _, rfl, rd.sq, fun q hq => ?_⟩
      have ecut : cutV (bV b) (some (p : Int)) (some ((p : Int) + (n : Int))) = bV (rest.take n) := by
        rw [show (p : Int) + (n : Int) = ((p + n : Nat) : Int) by omega, cut_nat, rd.at_.re, ← List.map_drop, ← List.map_take, show p + n - p = n by omega]
      rw [ecut]
      refine ⟨q, _, rfl, SqL.of upd_same, ?_⟩
      have rd1 := rd.new (o := .lst (bV (rest.take n))) hq
      refine for_rev (xs := bV (rest.take n)) (fun i σ H' => ∃ v3 : Option V, σ = [some (.ref r), some (.int (n : Nat)), some (.int ((((rest.take n).reverse.take i).foldl (fun v c => v * 256 + c.toNat) 0 : Nat) : Nat)), v3] ∧ H' = upd H q (.lst (bV (rest.take n))))
        ⟨none, rfl, rfl⟩ (fun i σ H' ⟨_, _, e⟩ => by rw [e]; exact SqL.of upd_same) ?_ ?_
      · rintro i x σ H' hx ⟨v3, rfl, rfl⟩
        rw [← List.map_reverse, List.getElem?_map] at hx
        obtain ⟨c, hc1, rfl⟩ := Option.map_eq_some_iff.mp hx
        refine ⟨_, rfl, _, _, rfl, rfl, .inr ⟨by decide, by decide⟩, _, rfl, _, _, rfl, rfl, ?_⟩
        refine ⟨some (.int (c.toNat : Nat)), ?_, rfl⟩
        rw [take_snoc hc1, List.foldl_append]
        rfl
      · rintro σ H' ⟨v3, rfl, rfl⟩
        rw [List.length_map]
        refine ⟨_, rfl, r, CR, dx, _, _, rfl, rd1.ob, B.cl, B.nP, rfl, _, rfl, _, _, rfl, rfl, _, rfl, r, CR, dx, _, rfl, rd1.ob, B.cl, B.nP, (by show 3 < 1000; decide), _, rfl, ?_⟩
        refine k _ _ ((SameX.of (Same.new hq)).trans SameX.upd) ⟨?_, ?_, rd.at_.next hn⟩ ?_
        · rw [upd_same]
          rfl
        · exact (SameX.upd (r := r)).seq rd1.ob rd1.sq
        · have : (rest.take n).reverse.take (rest.take n).length = (rest.take n).reverse := List.take_of_length_le (by rw [List.length_reverse]; exact Nat.le_refl _)
          rw [this, num_fold]
theorem sc_tb : FnScope ["self", "size", "least", "most", "rule", "start", "value"] ["self", "size", "least", "most", "rule"] (defScope s_Reader_take_bounded) := ⟨rfl, rfl, rfl, by decide +kernel, rfl, by decide +kernel, by decide +kernel⟩
theorem ok_tb {f : Addr} {fd : FuncData} (F : Fun K "take_bounded" "Reader.take_bounded" s_Reader_take_bounded f fd) (B : RCls K CR) (M : CalM P w K mg base CR "take_number" 3 ["self", "size"] (spTN K C CR)) (R : Rais P w K mg base "Fault" C 1 ksF) :
    FnOk P w K mg base (CX1 P w) 4 f fd ["self", "size", "least", "most", "rule"] (spTB K C CR) := by
  refine F.okX sc_tb (fun vs H Q E h => ?_) (fun cdv A outer s H vs Q E hr h => ?_)
  · obtain ⟨r, dx, a, b, rest, wh, p, n, lo, hi, rule, rfl, _⟩ := h
    rfl
  · obtain ⟨r, dx, a, b, rest, wh, p, n, lo, hi, rule, rfl, rd, k⟩ := h
    have nd := sc_tb.nd
    refine ⟨_, pss_cons (ps_set (i := 5) nd rfl (Or.inl rfl) (pe_fld (pv 0) rfl))
      (pss_cons (ps_set (i := 6) nd rfl (Or.inl rfl) (pe_me (pv 0) M hr xout (pa_cons (pv 1) pa_nil)))
      (pss_cons (ps_if (PW.pt (pw_or (pt_cmpR op_lt (pv 6) (pv 2) (nomark _)) (pw_or1 (pt_cmpR op_gt (pv 6) (pv 3) (nomark _)))))
        (pss_one (ps_rais R (hr.mono (by decide)) xout rfl rfl (pa_cons (pe_fld (pv 0) rfl) (pa_cons (pv 4) (pa_cons (pv 5) pa_nil))))) pss_nil)
      (pss_one (ps_ret (pv 6))))), ?_⟩
    refine ⟨_, rfl, r, CR, dx, _, _, rfl, rd.ob, B.cl, B.nP, rfl, _, rfl, r, dx, _, rfl, rd.ob, rfl, _, rfl, r, dx, a, b, rest, wh, p, n, rfl, rd, ?_⟩
    unfold mB at k
    cases e : readNum n rest p with
    | error z =>
      rw [e] at k
      exact Out.err (G' := gN) (G := gN) k (SameX.refl _ _)
    | ok x =>
      rw [e] at k
      obtain ⟨v, rest', p'⟩ := x
      rintro _ H1 s1 rd1 rfl
      have k : Out gN K C CR H r dx a b wh Q E (if lo ≤ v ∧ v ≤ hi then .ok (v, rest', p') else .error ⟨rule, p⟩) := k
      refine ⟨_, rfl, _, rfl, _, _, rfl, rfl, _, rfl, ?_⟩
      have bad : ¬ (lo ≤ v ∧ v ≤ hi) → Rai C wh r H E ⟨rule, p⟩ := fun z => by
        rw [if_neg z] at k; exact k
      refine ite2 (fun hc => ?_) (fun hc => ?_)
      · have hc : (v : Int) < (lo : Int) := of_decide_eq_true hc
        refine iteT ?_
        exact ⟨_, rfl, r, CR, dx, _, _, rfl, rd1.ob, B.cl, B.nW, rfl, _, rfl, _, rfl, rfl, fun dx' H2 _ s2 h2 => bad (by omega) dx' H2 (s1.trans (.of s2)) h2⟩
      · have hc : ¬ (v : Int) < (lo : Int) := fun z => hc (decide_eq_true z)
        refine ⟨_, rfl, _, rfl, _, _, rfl, rfl, _, rfl, ?_⟩
        refine ite2 (fun hc2 => ?_) (fun hc2 => ?_)
        · have hc2 : (hi : Int) < (v : Int) := of_decide_eq_true hc2
          exact ⟨_, rfl, r, CR, dx, _, _, rfl, rd1.ob, B.cl, B.nW, rfl, _, rfl, _, rfl, rfl, fun dx' H2 _ s2 h2 => bad (by omega) dx' H2 (s1.trans (.of s2)) h2⟩
        · have hc2 : ¬ (hi : Int) < (v : Int) := fun z => hc2 (decide_eq_true z)
          rw [if_pos (by omega)] at k
          exact ⟨_, rfl, k _ H1 s1 rd1 rfl⟩
theorem sc_tm : FnScope ["self", "mark", "byte"] ["self", "mark"] (defScope s_Reader_take_mark) := ⟨rfl, rfl, rfl, by decide +kernel, rfl, by decide +kernel, by decide +kernel⟩
theorem ok_tm {f : Addr} {fd : FuncData} (F : Fun K "take_mark" "Reader.take_mark" s_Reader_take_mark f fd) (M : CalM P w K mg base CR "take_bounded" 4 ["self", "size", "least", "most", "rule"] (spTB K C CR)) :
    FnOk P w K mg base (CX1 P w) 5 f fd ["self", "mark"] (spTM K C CR) := by
  refine F.okX sc_tm (fun vs H Q E h => ?_) (fun cdv A outer s H vs Q E hr h => ?_)
  · obtain ⟨r, dx, a, t, b, rest, wh, p, m, rfl, _⟩ := h
    rfl
  · obtain ⟨r, dx, a, t, b, rest, wh, p, m, rfl, rd, hT, k⟩ := h
    have nd := sc_tm.nd
    refine ⟨_, pss_one (ps_for own1 rfl (pi_tup (pv 1)) (pg_name (i := 2) nd rfl (Or.inl rfl)) (pss_one (ps_expr (pe_me (pv 0) M hr xout (pa_cons pe_int (pa_cons (pv 2) (pa_cons (pv 2) (pa_cons pe_int pa_nil)))))))), ?_⟩
    refine ⟨_, rfl, t, rfl, ⟨_, hT⟩, for_tup (xs := bV m) (fun i σ H' => ∃ (v2 : Option V) (p' : Nat) (rest' : Bytes), σ = [some (.ref r), some (.ref t), v2] ∧ SameX r H H' ∧ Rdr K CR H' r dx a b wh p' rest' ∧ mMark m rest p = mMark (m.drop i) rest' p')
      ⟨none, p, rest, rfl, SameX.refl _ _, rd, rfl⟩ (fun i σ H' _ ⟨_, _, _, _, s1, _⟩ => s1.seqT rd.ob hT) ?_ ?_⟩
    · rintro i x σ H' hx ⟨v2, p', rest', rfl, s1, rd1, e⟩
      rw [List.getElem?_map] at hx
      obtain ⟨c, hc, rfl⟩ := Option.map_eq_some_iff.mp hx
      have hlt := (List.getElem?_eq_some_iff.mp hc).1
      have ed : m.drop i = c :: m.drop (i + 1) := by
        rw [List.drop_eq_getElem_cons hlt, (List.getElem?_eq_some_iff.mp hc).2]
      rw [ed] at e
      have e : mMark m rest p = andThen (mB 1 c.toNat c.toNat 1 rest' p') fun l => mMark (m.drop (i + 1)) l.2.1 l.2.2 := e
      refine ⟨_, rfl, r, dx, _, rfl, rd1.ob, rfl, _, rfl, _, rfl, r, dx, a, b, rest', wh, p', 1, c.toNat, c.toNat, 1, rfl, rd1, ?_⟩
      cases e2 : mB 1 c.toNat c.toNat 1 rest' p' with
      | error z =>
        rw [e2] at e
        have e : mMark m rest p = .error z := e
        rw [e] at k
        exact Rai.same (show Rai C wh r H E z from k) s1
      | ok l =>
        rw [e2] at e
        obtain ⟨v, rest2, p2⟩ := l
        rintro _ H2 s2 rd2 rfl
        exact ⟨_, p2, rest2, rfl, s1.trans s2, rd2, e⟩
    · rintro σ H' ⟨v2, p', rest', rfl, s1, rd1, e⟩
      rw [List.length_map, List.drop_length] at e
      have e : mMark m rest p = .ok (rest', p') := e
      rw [e] at k
      exact k H' s1 rd1
theorem sc_te : FnScope ["self"] ["self"] (defScope s_Reader_take_end) := ⟨rfl, rfl, rfl, by decide +kernel, rfl, by decide +kernel, by decide +kernel⟩
theorem ok_te {f : Addr} {fd : FuncData} (F : Fun K "take_end" "Reader.take_end" s_Reader_take_end f fd) (T : Txt mg) (B : RCls K CR) (R : Rais P w K mg base "Fault" C 1 ksF) : FnOk P w K mg base (CX1 P w) 3 f fd ["self"] (spTE K C CR) := by
  refine F.okX sc_te (fun vs H Q E h => ?_) (fun cdv A outer s H vs Q E hr h => ?_)
  · obtain ⟨r, dx, a, b, rest, wh, p, rfl, _⟩ := h
    rfl
  · obtain ⟨r, dx, a, b, rest, wh, p, rfl, rd, k⟩ := h
    have hlen := rd.at_.len
    refine ⟨_, pss_one (ps_if (pt_cmpR op_lt (pe_fld (pv 0) rfl) (pe_callB call_len_seq (by rfl) T.len PySem.boot_len (pa_cons (pe_fld (pv 0) rfl) pa_nil)) (nomark _))
        (pss_one (ps_rais R hr xout rfl rfl (pa_cons (pe_fld (pv 0) rfl) (pa_cons pe_int (pa_cons (pe_fld (pv 0) rfl) pa_nil))))) pss_nil), ?_⟩
    refine ⟨_, rfl, r, CR, dx, _, _, rfl, rd.ob, B.cl, B.nP, rfl, _, rfl, r, CR, dx, _, _, rfl, rd.ob, B.cl, B.nF, rfl, a, _, rfl, .inl rd.sq, _, _, rfl, rfl, _, rfl, ?_⟩
    have el : ((bV b).length : Int) = ((p + rest.length : Nat) : Int) := by rw [List.length_map, hlen]
    refine iteD (fun hc => ?_) (fun hc => ?_)
    · have hc : (p : Int) < ((bV b).length : Int) := hc
      rw [el] at hc
      have he : rest.isEmpty = false := by
        cases rest with
        | nil => simp at hc
        | cons _ _ => rfl
      rw [he] at k
      have k : Rai C wh r H E ⟨7, p⟩ := k
      exact ⟨_, rfl, r, CR, dx, _, _, rfl, rd.ob, B.cl, B.nW, rfl, _, rfl, r, CR, dx, _, _, rfl, rd.ob, B.cl, B.nP, rfl, rfl, fun dx' H2 _ s2 h2 => k dx' H2 (.of s2) h2⟩
    · have hc : ¬ (p : Int) < ((bV b).length : Int) := hc
      rw [el] at hc
      have he : rest = [] := List.length_eq_zero_iff.mp (by omega)
      rw [he] at k
      have k : ∀ H', Same H H' → Q .non H' := k
      exact k H (fun _ _ e => e)
theorem sc_rs : FnScope ["width"] ["width"] (defScope s_row_size) := ⟨rfl, rfl, rfl, by decide +kernel, rfl, by decide +kernel, by decide +kernel⟩
theorem ok_rs {f : Addr} {fd : FuncData} (F : Fun K "row_size" "row_size" s_row_size f fd) : FnOk P w K mg base (CX1 P w) 1 f fd ["width"] spRS := by
  refine F.okX sc_rs (fun vs H Q E h => ?_) (fun cdv A outer s H vs Q E hr h => ?_)
  · obtain ⟨v, rfl, _⟩ := h
    rfl
  · obtain ⟨v, rfl, k⟩ := h
    refine ⟨_, pss_one (ps_ret (pe_op op_fdiv (pe_op op_add (pv 0) pe_int) pe_int)), ?_⟩
    refine ⟨_, rfl, _, _, rfl, rfl, _, _, rfl, rfl, ⟨by decide, by decide⟩, ?_⟩
    exact k
theorem sc_pr : FnScope ["reader", "width", "bits", "first", "place", "columns", "byte", "column"] ["reader", "width"] (defScope s_read_plane_row) := ⟨rfl, rfl, rfl, by decide +kernel, rfl, by decide +kernel, by decide +kernel⟩
theorem ok_pr {f : Addr} {fd : FuncData} (F : Fun K "read_plane_row" "read_plane_row" s_read_plane_row f fd) (T : Txt mg) (B : RCls K CR) (M : CalM P w K mg base CR "take_number" 3 ["self", "size"] (spTN K C CR)) (R : Rais P w K mg base "Fault" C 1 ksF) :
    FnOk P w K mg base (CX1 P w) 4 f fd ["reader", "width"] (spPR K C CR) := by
  refine F.okX sc_pr (fun vs H Q E h => ?_) (fun cdv A outer s H vs Q E hr h => ?_)
  · obtain ⟨r, dx, a, b, rest, wh, p, wd, rfl, _⟩ := h
    rfl
  · obtain ⟨r, dx, a, b, rest, wh, p, wd, rfl, hw, rd, k⟩ := h
    have nd := sc_pr.nd
    refine ⟨_, pss_cons (ps_set (i := 2) nd rfl (Or.inl rfl) (pe_lst pa_nil))
      (pss_cons (ps_for own1 rfl (pi_range3 rfl T.range (pa_cons pe_int (pa_cons (pv 1) (pa_cons pe_int pa_nil)))) (pg_name (i := 3) nd rfl (Or.inl rfl))
        (pss_cons (ps_set (i := 4) nd rfl (Or.inl rfl) (pe_fld (pv 0) rfl))
        (pss_cons (ps_set (i := 5) nd rfl (Or.inl rfl) (pe_callB (call_min2 rfl) (by rfl) T.min bootMin (pa_cons pe_int (pa_cons (pe_op op_sub (pv 1) (pv 3)) pa_nil))))
        (pss_cons (ps_set (i := 6) nd rfl (Or.inl rfl) (pe_me (pv 0) M hr xout (pa_cons pe_int pa_nil)))
        (pss_cons (ps_if (pt_cmpR op_ne (pe_op op_shr (pv 6) (pv 5)) pe_int (nomark _)) (pss_one (ps_rais R (hr.mono (by decide)) xout rfl rfl (pa_cons (pe_fld (pv 0) rfl) (pa_cons pe_int (pa_cons (pv 4) pa_nil))))) pss_nil)
        (pss_one (ps_for own1 rfl (pi_range1 rfl T.range (pa_cons (pv 5) pa_nil)) (pg_name (i := 7) nd rfl (Or.inl rfl))
          (pss_one (ps_expr (pe_bm PySem.F.plainAttrs_list PySem.F.slot_list_append PySem.F.type_list_append mt_append (pv 2) (pa_cons (pe_op op_and (pe_op op_shr (pv 6) (pv 7)) pe_int) pa_nil)))))))))))
      (pss_one (ps_ret (pv 2)))), ?_⟩
    refine ⟨Nat.zero_le _, fun l hl => ?_⟩
    have nlr : r ≠ l := rd.ne hl
    rw [← mRow_eq (rowBytes wd) wd rest p rfl] at k
    refine ⟨_, rfl, 0, _, 8, rowBytes wd, rfl, rg8 hw, ?_⟩
    refine for_rangeC (n := rowBytes wd) (fun i σ H' => ∃ (v3 v4 v5 v6 v7 : Option V) (p' : Nat) (rest' : Bytes) (acc : List Bool), σ = [some (.ref r), some (.int (wd : Nat)), some (.ref l), v3, v4, v5, v6, v7] ∧ SameX r H H' ∧ Rdr K CR H' r dx a b wh p' rest' ∧
        H' l = some (.lst (nV (bI acc))) ∧ acc.length ≤ 8 * i ∧ mRow (rowBytes wd) wd rest p = andThen (mRow (rowBytes wd - i) (wd - 8 * i) rest' p') fun x => .ok (acc ++ x.1, x.2.1, x.2.2))
      ⟨none, none, none, none, none, p, rest, [], rfl, .of (Same.new hl), rd.new hl, upd_same, Nat.le_refl _, ?_⟩ ?_ ?_
    · rw [Nat.sub_zero, Nat.mul_zero, Nat.sub_zero]
      cases mRow (rowBytes wd) wd rest p with
      | error z => rfl
      | ok x => rfl
    · rintro i σ H' hi ⟨v3, v4, v5, v6, v7, p', rest', acc, rfl, s1, rd1, hl1, hal, e⟩
      have hi8 : 8 * i < wd := by unfold rowBytes at hi; omega
      obtain ⟨k', hk'⟩ : ∃ k', rowBytes wd - i = k' + 1 := ⟨rowBytes wd - i - 1, by omega⟩
      rw [hk'] at e
      have ecol : (if (wd : Int) - (0 + (i : Nat) * 8) < 8 then (wd : Int) - (0 + (i : Nat) * 8) else 8) = ((min 8 (wd - 8 * i) : Nat) : Int) := by split <;> omega
      have em : mRow (k' + 1) (wd - 8 * i) rest' p' = andThen (readNum 1 rest' p') fun c => if c.1 / 2 ^ (min 8 (wd - 8 * i)) = 0 then andThen (mRow k' (wd - 8 * i - 8) c.2.1 c.2.2) fun x => .ok (bits (min 8 (wd - 8 * i)) c.1 ++ x.1, x.2.1, x.2.2) else .error ⟨4, p'⟩ := rfl
      rw [em] at e
      refine ⟨_, rfl, r, CR, dx, _, _, rfl, rd1.ob, B.cl, B.nP, rfl, ?_⟩
      refine ⟨_, rfl, _, rfl, _, _, rfl, rfl, _, _, rfl, ?_⟩
      rw [ecol]
      refine ⟨_, rfl, r, dx, _, rfl, rd1.ob, rfl, r, dx, a, b, rest', wh, p', 1, rfl, rd1, ?_⟩
      cases e2 : readNum 1 rest' p' with
      | error z =>
        rw [e2] at e
        have e : mRow (rowBytes wd) wd rest p = .error z := e
        rw [e] at k
        exact Rai.same (show Rai C wh r H E z from k) s1
      | ok x =>
        obtain ⟨c, rest2, p2⟩ := x
        rw [e2] at e
        rintro _ H2 s2 rd2 rfl
        have e : mRow (rowBytes wd) wd rest p = andThen (if c / 2 ^ (min 8 (wd - 8 * i)) = 0 then andThen (mRow k' (wd - 8 * i - 8) rest2 p2) fun x => .ok (bits (min 8 (wd - 8 * i)) c ++ x.1, x.2.1, x.2.2) else .error ⟨4, p'⟩) fun x => .ok (acc ++ x.1, x.2.1, x.2.2) := e
        have hl2 := s2 l _ (Ne.symm nlr) hl1
        generalize hcol : min 8 (wd - 8 * i) = col at e ⊢
        have edv : ((c : Nat) : Int) / 2 ^ (((col : Nat) : Int).toNat) = ((c / 2 ^ col : Nat) : Int) := by
          rw [Int.toNat_natCast, Int.natCast_ediv, Int.natCast_pow]; rfl
        refine ⟨_, rfl, _, rfl, _, _, rfl, rfl, (by show (0 : Int) ≤ ((col : Nat) : Int); omega), rfl, _, rfl, ?_⟩
        refine iteNe (fun hz => ?_) (fun hz => ?_)
        · have hz : ¬ c / 2 ^ col = 0 := fun z => hz (by rw [edv, z]; rfl)
          rw [if_neg hz] at e
          have e : mRow (rowBytes wd) wd rest p = .error ⟨4, p'⟩ := e
          rw [e] at k
          have k : Rai C wh r H E ⟨4, p'⟩ := k
          exact ⟨_, rfl, r, CR, dx, _, _, rfl, rd2.ob, B.cl, B.nW, rfl, _, rfl, rfl, fun dx' H3 _ s3 h3 => k dx' H3 ((s1.trans s2).trans (.of s3)) h3⟩
        · have hz : c / 2 ^ col = 0 := by rw [edv] at hz; omega
          rw [if_pos hz] at e
          refine ⟨_, rfl, _, rfl, by omega, by omega, ?_⟩
          rw [Int.toNat_natCast]
          refine for_range (n := col) (fun j σ H' => ∃ v7 : Option V, σ = [some (.ref r), some (.int (wd : Nat)), some (.ref l), some (.int (0 + (i : Nat) * 8)), some (.int (p' : Nat)), some (.int (col : Nat)), some (.int (c : Nat)), v7] ∧ SameX r H H' ∧ Rdr K CR H' r dx a b wh p2 rest2 ∧ H' l = some (.lst (nV (bI (acc ++ bits j c)))))
            ⟨v7, rfl, s1.trans s2, rd2, ?_⟩ ?_ ?_
          · rw [hl2]
            show _ = some (HO.lst (nV (bI (acc ++ []))))
            rw [List.append_nil]
          · rintro j σ H3 hj ⟨v7', rfl, s3, rd3, hl3⟩
            refine ⟨_, rfl, .inl ⟨rfl, _, SqL.of hl3⟩, _, rfl, _, rfl, _, _, rfl, rfl, (by show (0 : Int) ≤ 0 + ((j : Nat) : Int); omega), _, _, rfl, rfl, l, _, _, rfl, rfl, hl3, ?_, ?_⟩
            · rw [List.length_map, bI, List.length_map, List.length_append, bits_length, sizeLine_eq]; omega
            · have s3' : SameX r H (upd H3 l (.lst (nV (bI (acc ++ bits j c)) ++ [V.int (Builtin.bitAnd ((c : Int) / 2 ^ (0 + ((j : Nat) : Int)).toNat) 1)]))) := s3.updN hl
              refine ⟨_, rfl, s3', ⟨(upd_ne nlr).trans rd3.ob, s3'.seq rd.ob rd.sq, rd3.at_⟩, ?_⟩
              rw [upd_same, bits_snoc, ← List.append_assoc]
              show some (HO.lst (nV (bI (acc ++ bits j c)) ++ [V.int (Builtin.bitAnd ((c : Int) / 2 ^ (0 + ((j : Nat) : Int)).toNat) 1)])) = _
              rw [Int.zero_add, bit_and]
              simp only [bI, nV, List.map_append, List.map_cons, List.map_nil]
          · rintro σ H3 ⟨v7', rfl, s3, rd3, hl3⟩
            refine ⟨_, _, _, _, _, p2, rest2, acc ++ bits col c, rfl, s3, rd3, hl3, ?_, ?_⟩
            · rw [List.length_append, bits_length]; omega
            · rw [show rowBytes wd - (i + 1) = k' by omega, show wd - 8 * (i + 1) = wd - 8 * i - 8 by omega, e]
              cases mRow k' (wd - 8 * i - 8) rest2 p2 with
              | error z => rfl
              | ok x =>
                show Except.ok (acc ++ (bits col c ++ x.1), x.2.1, x.2.2) = Except.ok (acc ++ bits col c ++ x.1, x.2.1, x.2.2)
                rw [List.append_assoc]
    · rintro σ H' ⟨v3, v4, v5, v6, v7, p', rest', acc, rfl, s1, rd1, hl1, hal, e⟩
      rw [Nat.sub_self] at e
      have e : mRow (rowBytes wd) wd rest p = .ok (acc ++ [], rest', p') := e
      rw [List.append_nil] at e
      rw [e] at k
      exact ⟨_, rfl, k _ H' s1 rd1 ⟨l, rfl, hl, hl1⟩⟩
theorem sc_rp : FnScope ["reader", "width", "height", "plane", "turn"] ["reader", "width", "height"] (defScope s_read_plane) := ⟨rfl, rfl, rfl, by decide +kernel, rfl, by decide +kernel, by decide +kernel⟩
theorem ok_rp {f : Addr} {fd : FuncData} (F : Fun K "read_plane" "read_plane" s_read_plane f fd) (T : Txt mg) (B : RCls K CR) (N : Cal P w K mg base "read_plane_row" 4 ["reader", "width"] (spPR K C CR)) :
    FnOk P w K mg base (CX1 P w) 5 f fd ["reader", "width", "height"] (spRP K C CR) := by
  refine F.okX sc_rp (fun vs H Q E h => ?_) (fun cdv A outer s H vs Q E hr h => ?_)
  · obtain ⟨r, dx, a, b, rest, wh, p, wd, h, rfl, _⟩ := h
    rfl
  · obtain ⟨r, dx, a, b, rest, wh, p, wd, h, rfl, hw, hh, rd, k⟩ := h
    have nd := sc_rp.nd
    refine ⟨_, pss_cons (ps_set (i := 3) nd rfl (Or.inl rfl) (pe_lst pa_nil))
      (pss_cons (ps_for own1 rfl (pi_range1 rfl T.range (pa_cons (pv 2) pa_nil)) (pg_name (i := 4) nd rfl (Or.inl rfl))
        (pss_one (ps_expr (pe_bm PySem.F.plainAttrs_list PySem.F.slot_list_append PySem.F.type_list_append mt_append (pv 3) (pa_cons (pe_fn N hr xout rfl (pa_cons (pv 0) (pa_cons (pv 1) pa_nil))) pa_nil)))))
      (pss_one (ps_ret (pv 3)))), ?_⟩
    refine ⟨Nat.zero_le _, fun l hl => ?_⟩
    have nlr : r ≠ l := rd.ne hl
    refine ⟨_, rfl, _, rfl, by omega, by omega, ?_⟩
    rw [Int.toNat_natCast]
    refine for_range (n := h) (fun i σ H' => ∃ (v4 : Option V) (p' : Nat) (rest' : Bytes) (acc : Sh.Plane) (xs : List Addr), σ = [some (.ref r), some (.int (wd : Nat)), some (.int (h : Nat)), some (.ref l), v4] ∧ SameX r H H' ∧ Rdr K CR H' r dx a b wh p' rest' ∧
        H' l = some (.lst (xs.map V.ref)) ∧ Paired (fun x row => H' x = some (.lst (nV row))) xs (bP acc) ∧ (∀ x ∈ xs, x ≠ l) ∧ xs.length = i ∧ Sh.readPlane wd h rest p = andThen (Sh.readPlane wd (h - i) rest' p') fun x => .ok (acc ++ x.1, x.2.1, x.2.2))
      ⟨none, p, rest, [], [], rfl, .of (Same.new hl), rd.new hl, upd_same, .nil, (fun _ z => nomatch z), rfl, ?_⟩ ?_ ?_
    · rw [Nat.sub_zero]
      cases Sh.readPlane wd h rest p with
      | error z => rfl
      | ok x => rfl
    · rintro i σ H' hi ⟨v4, p', rest', acc, xs, rfl, s1, rd1, hl1, pr, nl, hx, e⟩
      obtain ⟨k', hk'⟩ : ∃ k', h - i = k' + 1 := ⟨h - i - 1, by omega⟩
      rw [hk', readPlane_succ] at e
      refine ⟨_, rfl, .inl ⟨rfl, _, SqL.of hl1⟩, _, rfl, _, rfl, r, dx, a, b, rest', wh, p', wd, rfl, hw, rd1, ?_⟩
      cases e2 : readRow wd rest' p' with
      | error z =>
        rw [e2] at e
        have e : Sh.readPlane wd h rest p = .error z := e
        rw [e] at k
        exact Rai.same (show Rai C wh r H E z from k) s1
      | ok x =>
        obtain ⟨row, rest2, p2⟩ := x
        rw [e2] at e
        rintro _ H2 s2 rd2 ⟨q, rfl, hq, hq2⟩
        have hl2 := s2 l _ (Ne.symm nlr) hl1
        have nql : q ≠ l := fun z => by rw [z, hl1] at hq; cases hq
        have nqr : q ≠ r := fun z => by rw [z, rd1.ob] at hq; cases hq
        refine ⟨l, _, _, rfl, rfl, hl2, ?_, ?_⟩
        · rw [List.length_map, hx, sizeLine_eq]; omega
        · have s3' : SameX r H (upd H2 l (.lst (xs.map V.ref ++ [V.ref q]))) := (s1.trans s2).updN hl
          refine ⟨_, p2, rest2, acc ++ [row], xs ++ [q], rfl, s3', ⟨(upd_ne nlr).trans rd2.ob, s3'.seq rd.ob rd.sq, rd2.at_⟩, ?_, ?_, ?_, ?_, ?_⟩
          · rw [upd_same, List.map_append]; rfl
          · have e3 : bP (acc ++ [row]) = bP acc ++ [bI row] := by unfold bP; rw [List.map_append]; rfl
            rw [e3]
            refine Paired.snoc (Paired.mapM pr fun x y hm hy => ?_) ?_
            · rw [upd_ne (nl x hm)]
              exact s2 x _ (ne_of hy rd1.ob (by intro z; cases z)) hy
            · rw [upd_ne nql]; exact hq2
          · intro x hm
            rcases List.mem_append.mp hm with hm | hm
            · exact nl x hm
            · have : x = q := by simpa using hm
              rw [this]; exact nql
          · rw [List.length_append, hx]; rfl
          · rw [show h - (i + 1) = k' by omega, e]
            show andThen (andThen (Sh.readPlane wd k' rest2 p2) _) _ = _
            cases Sh.readPlane wd k' rest2 p2 with
            | error z => rfl
            | ok x =>
              show Except.ok (acc ++ (row :: x.1), x.2.1, x.2.2) = Except.ok (acc ++ [row] ++ x.1, x.2.1, x.2.2)
              rw [List.append_assoc]; rfl
    · rintro σ H' ⟨v4, p', rest', acc, xs, rfl, s1, rd1, hl1, pr, nl, hx, e⟩
      rw [Nat.sub_self] at e
      have e : Sh.readPlane wd h rest p = .ok (acc ++ [], rest', p') := e
      rw [List.append_nil] at e
      rw [e] at k
      exact ⟨_, rfl, k _ H' s1 rd1 ⟨l, rfl, hl, xs, hl1, pr⟩⟩
theorem sc_bi : FnScope ["ink_row", "paper_row", "blot", "blank"] ["ink_row", "paper_row"] (defScope s_both_in) := ⟨rfl, rfl, rfl, by decide +kernel, rfl, by decide +kernel, by decide +kernel⟩
theorem ok_bi {f : Addr} {fd : FuncData} (F : Fun K "both_in" "both_in" s_both_in f fd) (T : Txt mg) : FnOk P w K mg base (CX1 P w) 1 f fd ["ink_row", "paper_row"] (spBI K) := by
  refine F.okX sc_bi (fun vs H Q E h => ?_) (fun cdv A outer s H vs Q E hr h => ?_)
  · obtain ⟨a, b, r, s, rfl, _⟩ := h
    rfl
  · obtain ⟨a, b, r, s, rfl, ha, hb, hl, k⟩ := h
    have nd := sc_bi.nd
    refine ⟨_, pss_one (ps_ret (pe_callB (cr_sum rfl) (by rfl) T.sum PyProof.Rows.boot_sum (pa_cons (pe_lcN [("blot", 2), ("blank", 3)] [2, 3] (gTup K 2 (gCons (gName 2) (gCons (gName 3) gNil))) tYes (tOp (rI0 fun i j => .int (Builtin.bitAnd i j)) (tVar 2) (tVar 3)) rfl nd (pi_zip rfl T.zip (pa_cons (pv 0) (pa_cons (pv 1) pa_nil))) (by kernel_rfl)
      (fun _ _ _ _ _ => pg_tup (n := 2) rfl (pgs_cons (pg_name (i := 2) nd rfl (Or.inl rfl) (Or.inr rfl)) (pgs_cons (pg_name (i := 3) nd rfl (Or.inl rfl) (Or.inr rfl)) pgs_nil))) (fun _ _ _ _ _ => pts_nil) (fun _ _ _ _ _ => pe_op op_and (pv 2) (pv 3))) pa_nil))), ?_⟩
    refine ⟨_, rfl, _, rfl, a, b, _, _, rfl, ha, hb, ?_⟩
    refine lc_zip andV ha hb (by rw [List.length_map, bI, List.length_map, sizeLine_eq]; omega) ?_ (fun i x y H' R N hx hy s1 hR hN => ?_) (fun D H' hD s1 hz => ?_)
    · exact fun _ _ => rfl
    · obtain ⟨m, _, rfl⟩ := nV_get hx
      obtain ⟨n, _, rfl⟩ := nV_get hy
      exact ⟨_, rfl, _, rfl, _, _, rfl, rfl, hR _ H' (Same.refl' _) rfl⟩
    · rw [zip_int (f := andV) (g := fun m n => m &&& n) (fun m n => by show some (V.int (Builtin.bitAnd _ _)) = _; rw [and_int]), bI_zip, nV_ints] at hz
      refine ⟨D, _, rfl, SqL.of hz, ?_⟩
      rw [sum_ints]
      exact k H' s1
theorem sc_kd : FnScope ["blot", "blank"] ["blot", "blank"] (defScope s_kind_of) := ⟨rfl, rfl, rfl, by decide +kernel, rfl, by decide +kernel, by decide +kernel⟩
theorem ok_kd {f : Addr} {fd : FuncData} (F : Fun K "kind_of" "kind_of" s_kind_of f fd) (cF : Con mg "FREE" 2) (cI : Con mg "INK" 1) (cP : Con mg "PAPER" 0) : FnOk P w K mg base (CX1 P w) 1 f fd ["blot", "blank"] spKd := by
  refine F.okX sc_kd (fun vs H Q E h => ?_) (fun cdv A outer s H vs Q E hr h => ?_)
  · obtain ⟨x, y, rfl, _⟩ := h
    rfl
  · obtain ⟨x, y, rfl, k⟩ := h
    refine ⟨_, pss_cons (ps_if (pt_cmpR op_eq (pv 0) (pv 1) (nomark _)) (pss_one (ps_ret (pe_cst cF rfl))) pss_nil) (pss_one (ps_ret (pe_ifExp (pt_cmpR op_eq (pv 0) pe_int (nomark _)) (pe_cst cI rfl) (pe_cst cP rfl)))), ?_⟩
    refine ⟨_, rfl, _, rfl, rfl, _, rfl, ?_⟩
    refine iteEq (fun hc => ?_) (fun hc => ?_)
    · have e : x = y := by cases x <;> cases y <;> simp_all
      have e2 : kd x y = 2 := by rw [e]; unfold kd; rw [if_pos rfl]
      rw [e2] at k
      exact k
    · have e : ¬ x = y := fun z => hc (by rw [z])
      refine ⟨_, rfl, rfl, _, rfl, ?_⟩
      refine iteEq (fun hc2 => ?_) (fun hc2 => ?_)
      · have e1 : x = true := by cases x <;> simp_all
        have e2 : kd x y = 1 := by unfold kd; rw [if_neg e, if_pos e1]
        rw [e2] at k
        exact k
      · have e1 : ¬ x = true := by cases x <;> simp_all
        have e2 : kd x y = 0 := by unfold kd; rw [if_neg e, if_neg e1]
        rw [e2] at k
        exact k
theorem sc_ko : FnScope ["ink", "paper", "rows", "ink_row", "paper_row", "blot", "blank"] ["ink", "paper"] (defScope s_kinds_of) := ⟨rfl, rfl, rfl, by decide +kernel, rfl, by decide +kernel, by decide +kernel⟩
theorem ok_ko {f : Addr} {fd : FuncData} (F : Fun K "kinds_of" "kinds_of" s_kinds_of f fd) (T : Txt mg) (N : Cal P w K mg base "kind_of" 1 ["blot", "blank"] spKd) : FnOk P w K mg base (CX1 P w) 2 f fd ["ink", "paper"] spKO := by
  refine F.okX sc_ko (fun vs H Q E h => ?_) (fun cdv A outer s H vs Q E hr h => ?_)
  · obtain ⟨li, lp, I, Pp, rfl, _⟩ := h
    rfl
  · obtain ⟨li, lp, I, Pp, rfl, ⟨xi, hi, pi⟩, ⟨xp, hp, pp⟩, hlI, hlR, k⟩ := h
    have nd := sc_ko.nd
    refine ⟨_, pss_cons (ps_set (i := 2) nd rfl (Or.inl rfl) (pe_lst pa_nil))
      (pss_cons (ps_for own1 rfl (pi_zip rfl T.zip (pa_cons (pv 0) (pa_cons (pv 1) pa_nil))) (pg_tup rfl (pgs_cons (pg_name (i := 3) nd rfl (Or.inl rfl)) (pgs_cons (pg_name (i := 4) nd rfl (Or.inl rfl)) pgs_nil)))
        (pss_one (ps_expr (pe_bm PySem.F.plainAttrs_list PySem.F.slot_list_append PySem.F.type_list_append mt_append (pv 2) (pa_cons (pe_lcN [("blot", 5), ("blank", 6)] [5, 6] (gTup K 2 (gCons (gName 5) (gCons (gName 6) gNil))) tYes (tFn spKd E0 (tCons (tVar 5) (tCons (tVar 6) tNil))) rfl nd (pi_zip rfl T.zip (pa_cons (pv 3) (pa_cons (pv 4) pa_nil))) (by kernel_rfl)
          (fun _ _ _ _ _ => pg_tup (n := 2) rfl (pgs_cons (pg_name (i := 5) nd rfl (Or.inl rfl) (Or.inr rfl)) (pgs_cons (pg_name (i := 6) nd rfl (Or.inl rfl) (Or.inr rfl)) pgs_nil))) (fun _ _ _ _ _ => pts_nil) (fun _ _ _ _ _ => pe_fn0 N hr rfl (pa_cons (pv 5) (pa_cons (pv 6) pa_nil)))) pa_nil)))))
      (pss_one (ps_ret (pv 2)))), ?_⟩
    refine ⟨Nat.zero_le _, fun l hl => ?_⟩
    have sl : Same H (upd H l (.lst [])) := Same.new hl
    refine ⟨_, rfl, _, rfl, li, lp, _, _, rfl, SqL.of (sl _ _ hi), SqL.of (sl _ _ hp), ?_⟩
    have eI : xi.length = I.length := by rw [pi.length]; unfold bP; rw [List.length_map]
    have eP : xp.length = Pp.length := by rw [pp.length]; unfold bP; rw [List.length_map]
    refine for_zip (xs := xi.map V.ref) (ys := xp.map V.ref) (fun i σ H' => ∃ (v3 v4 v5 v6 : Option V) (zs : List Addr), σ = [some (.ref li), some (.ref lp), some (.ref l), v3, v4, v5, v6] ∧ Same H H' ∧
        H' l = some (.lst (zs.map V.ref)) ∧ Paired (fun x row => nw H H' x = some (.lst (nV row)) ∧ x ≠ l) zs ((kRows I Pp).take i) ∧ zs.length ≤ i)
      ⟨none, none, none, none, [], rfl, sl, upd_same, .nil, Nat.le_refl _⟩ (fun i σ H' ⟨_, _, _, _, _, _, s1, _⟩ => ⟨SqL.of (s1 _ _ hi), SqL.of (s1 _ _ hp)⟩) ?_ ?_
    · rintro i x y T σ H' hx hy hT ⟨v3, v4, v5, v6, zs, rfl, s1, hl1, pr, hz⟩
      rw [List.getElem?_map] at hx hy
      obtain ⟨ai, hai, rfl⟩ := Option.map_eq_some_iff.mp hx
      obtain ⟨ap, hap, rfl⟩ := Option.map_eq_some_iff.mp hy
      obtain ⟨ri, hri, hIr⟩ := Paired.at pi hai
      obtain ⟨rp, hrp, hPr⟩ := Paired.at pp hap
      unfold bP at hri hrp
      rw [List.getElem?_map] at hri hrp
      obtain ⟨ci, hci, rfl⟩ := Option.map_eq_some_iff.mp hri
      obtain ⟨cp, hcp, rfl⟩ := Option.map_eq_some_iff.mp hrp
      have sT : Same H' (upd H' T (.tup [.ref ai, .ref ap])) := Same.new hT
      have s2 := s1.trans sT
      refine ⟨_, rfl, .inl ⟨rfl, _, SqL.of (sT _ _ hl1)⟩, _, rfl, _, rfl, ai, ap, _, _, rfl, SqL.of (s2 _ _ hIr), SqL.of (s2 _ _ hPr), ?_⟩
      have hcl : ci.length ≤ 1000 := hlR ci (List.mem_of_getElem? hci)
      refine lc_zip kdV (SqL.of (s2 _ _ hIr)) (SqL.of (s2 _ _ hPr)) (by rw [List.length_map, bI, List.length_map, sizeLine_eq]; omega) ?_ (fun j x y H3 R N hx hy s3 hR hN => ?_) (fun D H3 hD s3 hz3 => ?_)
      · exact fun _ _ => rfl
      · obtain ⟨m, _, rfl⟩ := bI_get hx
        obtain ⟨n, _, rfl⟩ := bI_get hy
        exact ⟨_, rfl, _, rfl, m, n, rfl, hR _ H3 (Same.refl' _) (kdV_eq m n)⟩
      · rw [kd_zip kdV_eq] at hz3
        have hl3 := s3 _ _ (sT _ _ hl1)
        have nDl : D ≠ l := fun z => by rw [z, sT _ _ hl1] at hD; cases hD
        have hDH : H D = none := s2.free hD
        have sH : Same H H3 := s2.trans s3
        refine ⟨l, _, _, rfl, rfl, hl3, ?_, ?_⟩
        · rw [List.length_map, sizeLine_eq]
          have : i < xi.length := (List.getElem?_eq_some_iff.mp hai).1
          omega
        · refine ⟨_, _, _, _, zs ++ [D], rfl, sH.upd hl, ?_, ?_, ?_⟩
          · rw [upd_same, List.map_append]; rfl
          · have ek : (kRows I Pp)[i]? = some (List.zipWith kd ci cp) := by
              unfold kRows
              rw [List.getElem?_zipWith, hci, hcp]
            rw [take_snoc ek]
            refine Paired.snoc (Paired.mapM pr fun x row hm hy => ⟨?_, hy.2⟩) ⟨?_, nDl⟩
            · obtain ⟨e1, e2⟩ := nw_iff.mp hy.1
              exact nw_iff.mpr ⟨e1, by rw [upd_ne hy.2]; exact s3 _ _ (sT _ _ e2)⟩
            · exact nw_iff.mpr ⟨hDH, by rw [upd_ne nDl]; exact hz3⟩
          · rw [List.length_append]; simp; omega
    · rintro σ H' ⟨v3, v4, v5, v6, zs, rfl, s1, hl1, pr, hz⟩
      have et : (kRows I Pp).take (min (xi.map V.ref).length (xp.map V.ref).length) = kRows I Pp := by
        refine List.take_of_length_le ?_
        unfold kRows
        rw [List.length_zipWith, List.length_map, List.length_map, eI, eP]
        exact Nat.le_refl _
      rw [et] at pr
      exact ⟨_, rfl, k H' l s1 ⟨zs, nw_iff.mpr ⟨hl, hl1⟩, Paired.mapM pr fun _ _ _ q => q.1⟩⟩
theorem sc_rk : FnScope ["written"] ["written"] (defScope s_rank_of) := ⟨rfl, rfl, rfl, by decide +kernel, rfl, by decide +kernel, by decide +kernel⟩
theorem ok_rk {f : Addr} {fd : FuncData} (F : Fun K "rank_of" "rank_of" s_rank_of f fd) : FnOk P w K mg base (CX1 P w) 1 f fd ["written"] (spRK K) := by
  refine F.okX sc_rk (fun vs H Q E h => ?_) (fun cdv A outer s H vs Q E hr h => ?_)
  · obtain ⟨a, l, rfl, _⟩ := h
    rfl
  · obtain ⟨a, l, rfl, ha, h2, hl, k⟩ := h
    obtain ⟨x, y, r, rfl⟩ := two_of h2
    refine ⟨_, pss_one (ps_ret (pe_op op_cat (pe_lst (pa_cons (pe_ix ix_list (pv 0) pe_int (fun _ _ => rfl)) (pa_cons (pe_ix ix_list (pv 0) pe_int (fun _ _ => rfl)) pa_nil))) (pe_slice sl_list (pv 0) (po_some pe_int) po_none))), ?_⟩
    refine ⟨_, rfl, a, _, _, _, rfl, rfl, ha, at_of (j := 1) rfl rfl, _, rfl, a, _, _, _, rfl, rfl, ha, at_of (j := 0) rfl rfl, (by show 2 ≤ sizeLine; decide), fun l1 hl1 => ?_⟩
    have s1 : Same H (upd H l1 (.lst [.int (y : Nat), .int (x : Nat)])) := Same.new hl1
    refine ⟨_, rfl, _, rfl, a, _, rfl, s1.seq ha, fun l2 hl2 => ?_⟩
    have ecut : cutV (nV (x :: y :: r)) (some 2) none = nV r := cut_from _ 2
    rw [ecut]
    have s2 := s1.trans (Same.new (o := .lst (nV r)) hl2)
    have n12 : l1 ≠ l2 := ne_of_none upd_same hl2
    refine ⟨l1, l2, _, _, rfl, rfl, by rw [upd_ne n12]; exact upd_same, upd_same, ?_, fun l3 hl3 => ?_⟩
    · rw [List.length_map, sizeLine_eq]
      have : r.length + 2 ≤ 100000 := hl
      show 2 + r.length ≤ 16777216
      omega
    · exact k _ l3 (s2.trans (Same.new hl3)) (s2.free hl3) upd_same
theorem sc_rg : FnScope ["reader", "height", "letter", "width", "budget", "cost", "ink", "paper_place", "paper", "row"] ["reader", "height"] (defScope s_read_glyph) := ⟨rfl, rfl, rfl, by decide +kernel, rfl, by decide +kernel, by decide +kernel⟩
theorem ok_rg {f : Addr} {fd : FuncData} (F : Fun K "read_glyph" "read_glyph" s_read_glyph f fd) (T : Txt mg) (B : RCls K CR) (cL : Con mg "MOST_LETTER" 4095) (cW : Con mg "MOST_WIDTH" 64) (cB : Con mg "MOST_BUDGET" 4096) (cC : Con mg "MOST_COST" 4095)
    (M : CalM P w K mg base CR "take_bounded" 4 ["self", "size", "least", "most", "rule"] (spTB K C CR)) (N : Cal P w K mg base "read_plane" 5 ["reader", "width", "height"] (spRP K C CR)) (NB : Cal P w K mg base "both_in" 1 ["ink_row", "paper_row"] (spBI K))
    (NS : Cal P w K mg base "row_size" 1 ["width"] spRS) (NK : Cal P w K mg base "kinds_of" 2 ["ink", "paper"] spKO) (MG : Mak P w K mg base "Glyph" CG 1 ksG) (R : Rais P w K mg base "Fault" C 1 ksF) :
    FnOk P w K mg base (CX1 P w) 6 f fd ["reader", "height"] (spRG K C CR CG) := by
  refine F.okX sc_rg (fun vs H Q E h => ?_) (fun cdv A outer s H vs Q E hr h => ?_)
  · obtain ⟨r, dx, a, b, rest, wh, p, h, rfl, _⟩ := h
    rfl
  · obtain ⟨r, dx, a, b, rest, wh, p, h, rfl, hh, rd, k⟩ := h
    have nd := sc_rg.nd
    have hr1 : Room 1 _ := hr.mono (by decide)
    have hr2 : Room 2 _ := hr.mono (by decide)
    have hr4 : Room 4 _ := hr.mono (by decide)
    refine ⟨_, pss_cons (ps_set (i := 2) nd rfl (Or.inl rfl) (pe_me (pv 0) M hr4 xout (pa_cons pe_int (pa_cons pe_int (pa_cons (pe_cst cL rfl) (pa_cons pe_int pa_nil))))))
      (pss_cons (ps_set (i := 3) nd rfl (Or.inl rfl) (pe_me (pv 0) M hr4 xout (pa_cons pe_int (pa_cons pe_int (pa_cons (pe_cst cW rfl) (pa_cons pe_int pa_nil))))))
      (pss_cons (ps_set (i := 4) nd rfl (Or.inl rfl) (pe_me (pv 0) M hr4 xout (pa_cons pe_int (pa_cons pe_int (pa_cons (pe_cst cB rfl) (pa_cons pe_int pa_nil))))))
      (pss_cons (ps_set (i := 5) nd rfl (Or.inl rfl) (pe_me (pv 0) M hr4 xout (pa_cons pe_int (pa_cons pe_int (pa_cons (pe_cst cC rfl) (pa_cons pe_int pa_nil))))))
      (pss_cons (ps_set (i := 6) nd rfl (Or.inl rfl) (pe_fn N hr xout rfl (pa_cons (pv 0) (pa_cons (pv 3) (pa_cons (pv 1) pa_nil)))))
      (pss_cons (ps_set (i := 7) nd rfl (Or.inl rfl) (pe_fld (pv 0) rfl))
      (pss_cons (ps_set (i := 8) nd rfl (Or.inl rfl) (pe_fn N hr xout rfl (pa_cons (pv 0) (pa_cons (pv 3) (pa_cons (pv 1) pa_nil)))))
      (pss_cons (ps_for own1 rfl (pi_range1 rfl T.range (pa_cons (pv 1) pa_nil)) (pg_name (i := 9) nd rfl (Or.inl rfl))
        (pss_one (ps_if (pt_cmpR op_gt (pe_fn NB hr1 xout rfl (pa_cons (pe_ix ix_list (pv 6) (pv 9) (fun _ _ => rfl)) (pa_cons (pe_ix ix_list (pv 8) (pv 9) (fun _ _ => rfl)) pa_nil))) pe_int (nomark _))
          (pss_one (ps_rais R hr2 xout rfl rfl (pa_cons (pe_fld (pv 0) rfl) (pa_cons pe_int (pa_cons (pe_op op_add (pv 7) (pe_op op_mul (pv 9) (pe_fn NS hr1 xout rfl (pa_cons (pv 3) pa_nil)))) pa_nil))))) pss_nil)))
      (pss_one (ps_ret (pe_mk MG hr2 xout rfl (pa_cons (pv 2) (pa_cons (pv 3) (pa_cons (pv 4) (pa_cons (pv 5) (pa_cons (pe_fn NK hr2 xout rfl (pa_cons (pv 6) (pa_cons (pv 8) pa_nil))) pa_nil))))))))))))))), ?_⟩
    rw [readGlyph_eq] at k
    -- letter
    refine ⟨_, rfl, r, dx, _, rfl, rd.ob, rfl, r, dx, a, b, rest, wh, p, 2, 0, 4095, 3, rfl, rd, ?_⟩
    cases e1 : mB 2 0 4095 3 rest p with
    | error z => rw [e1] at k; exact Rai.same (show Rai C wh r H E z from k) (SameX.refl _ _)
    | ok x1 =>
    rw [e1] at k
    dsimp only [Sh.andThen] at k
    obtain ⟨letter, rest1, p1⟩ := x1
    rintro _ H1 s1 rd1 rfl
    -- width
    refine ⟨_, rfl, r, dx, _, rfl, rd1.ob, rfl, r, dx, a, b, rest1, wh, p1, 1, 1, 64, 3, rfl, rd1, ?_⟩
    cases e2 : mB 1 1 64 3 rest1 p1 with
    | error z => rw [e2] at k; exact Rai.same (show Rai C wh r H E z from k) s1
    | ok x2 =>
    rw [e2] at k
    dsimp only at k
    obtain ⟨width, rest2, p2⟩ := x2
    rintro _ H2 s2 rd2 rfl
    have s2 := s1.trans s2
    have hw : 1 ≤ width ∧ width ≤ 64 := (mB_ok e2).2
    -- budget
    refine ⟨_, rfl, r, dx, _, rfl, rd2.ob, rfl, r, dx, a, b, rest2, wh, p2, 2, 0, 4096, 3, rfl, rd2, ?_⟩
    cases e3 : mB 2 0 4096 3 rest2 p2 with
    | error z => rw [e3] at k; exact Rai.same (show Rai C wh r H E z from k) s2
    | ok x3 =>
    rw [e3] at k
    dsimp only at k
    obtain ⟨budget, rest3, p3⟩ := x3
    rintro _ H3 s3 rd3 rfl
    have s3 := s2.trans s3
    -- cost
    refine ⟨_, rfl, r, dx, _, rfl, rd3.ob, rfl, r, dx, a, b, rest3, wh, p3, 2, 0, 4095, 3, rfl, rd3, ?_⟩
    cases e4 : mB 2 0 4095 3 rest3 p3 with
    | error z => rw [e4] at k; exact Rai.same (show Rai C wh r H E z from k) s3
    | ok x4 =>
    rw [e4] at k
    dsimp only at k
    obtain ⟨cost, rest4, p4⟩ := x4
    rintro _ H4 s4 rd4 rfl
    have s4 := s3.trans s4
    -- ink
    refine ⟨_, rfl, _, rfl, _, rfl, r, dx, a, b, rest4, wh, p4, width, h, rfl, hw.2, hh, rd4, ?_⟩
    cases e5 : Sh.readPlane width h rest4 p4 with
    | error z => rw [e5] at k; exact Rai.same (show Rai C wh r H E z from k) s4
    | ok x5 =>
    rw [e5] at k
    dsimp only at k
    obtain ⟨ink, rest5, p5⟩ := x5
    rintro _ H5 s5 rd5 ⟨li, rfl, _, hi5⟩
    have s5 := s4.trans s5
    -- paper
    refine ⟨_, rfl, r, CR, dx, _, _, rfl, rd5.ob, B.cl, B.nP, rfl, ?_⟩
    refine ⟨_, rfl, _, rfl, _, rfl, r, dx, a, b, rest5, wh, p5, width, h, rfl, hw.2, hh, rd5, ?_⟩
    cases e6 : Sh.readPlane width h rest5 p5 with
    | error z => rw [e6] at k; exact Rai.same (show Rai C wh r H E z from k) s5
    | ok x6 =>
    rw [e6] at k
    dsimp only at k
    obtain ⟨paper, rest6, p6⟩ := x6
    rintro _ H6 s6 rd6 ⟨lp, rfl, _, hp6⟩
    have hi6 := hi5.sameX s6 rd5.ob
    have s6 := s5.trans s6
    have k : Out (gGl CG) K C CR H r dx a b wh Q E (match Sh.bothIn width ink paper with | some j => .error ⟨4, p5 + rowBytes width * j⟩ | none => .ok (⟨letter, width, ink, paper, budget, cost⟩, rest6, p6)) := k
    have oi := (readPlane_ok e5).2.2
    have op := (readPlane_ok e6).2.2
    -- points in both
    refine ⟨_, rfl, _, rfl, by omega, by omega, ?_⟩
    rw [Int.toNat_natCast]
    refine for_range (n := h) (fun i σ H' => ∃ v9 : Option V, σ = [some (.ref r), some (.int (h : Nat)), some (.int (letter : Nat)), some (.int (width : Nat)), some (.int (budget : Nat)), some (.int (cost : Nat)), some (.ref li), some (.int (p5 : Nat)), some (.ref lp), v9] ∧
        Same H6 H' ∧ ∀ j, j < i → bothN (ink.getD j []) (paper.getD j []) = 0)
      ⟨none, rfl, Same.refl' _, fun j hj => absurd hj (Nat.not_lt_zero _)⟩ ?_ ?_
    · rintro i σ H' hi ⟨v9, rfl, s7, h0⟩
      obtain ⟨xsi, xi, hli, hxi, hri⟩ := (hi6.same s7).row (bP_row (P := ink) (i := i) (by rw [oi.len]; exact hi))
      obtain ⟨xsp, xp, hlp, hxp, hrp⟩ := (hp6.same s7).row (bP_row (P := paper) (i := i) (by rw [op.len]; exact hi))
      have hrl : (ink.getD i []).length ≤ 1000 := by
        have e : ink.getD i [] = ink[i]'(by rw [oi.len]; exact hi) := by simp [List.getD, oi.len, hi]
        rw [e, oi.rows _ (List.getElem_mem _)]; omega
      have ez : (0 : Int) + ((i : Nat) : Int) = ((i : Nat) : Int) := Int.zero_add _
      refine ⟨_, rfl, _, rfl, li, _, _, _, rfl, rfl, SqL.of hli, at_of ez hxi, _, rfl, _, rfl, lp, _, _, _, rfl, rfl, SqL.of hlp, at_of ez hxp, xi, xp, ink.getD i [], paper.getD i [], rfl, SqL.of hri, SqL.of hrp, hrl, fun H7 s8 => ?_⟩
      have s8 := s7.trans s8
      refine ⟨_, _, rfl, rfl, _, rfl, ?_⟩
      refine iteD (fun hc => ?_) (fun hc => ?_)
      · have hc : (0 : Int) < ((bothN (ink.getD i []) (paper.getD i []) : Nat) : Int) := hc
        rw [bothIn_some oi op hi h0 (by omega)] at k
        have k : Rai C wh r H E ⟨4, p5 + rowBytes width * i⟩ := k
        have ob7 := s8 _ _ rd6.ob
        refine ⟨_, rfl, r, CR, dx, _, _, rfl, ob7, B.cl, B.nW, rfl, _, rfl, _, rfl, _, rfl, width, rfl, ?_⟩
        have hrb : rowBytes width ≤ 8 := by unfold rowBytes; omega
        refine ⟨_, _, rfl, rfl, .inr ⟨by omega, by omega⟩, _, _, rfl, rfl, rfl, fun dx' H8 _ s9 h9 => k dx' H8 (s6.trans (.of (s8.trans s9))) ?_⟩
        rw [h9]
        show some (xDict dx' [("which", .int (wh : Nat)), ("rule", .int 4), ("place", .int ((p5 : Int) + (0 + ((i : Nat) : Int)) * ((rowBytes width : Nat) : Int)))]) = _
        have em : (p5 : Int) + (0 + ((i : Nat) : Int)) * ((rowBytes width : Nat) : Int) = ((p5 + rowBytes width * i : Nat) : Int) := by
          rw [Int.zero_add, Int.natCast_add, Int.natCast_mul, Int.mul_comm]
        rw [em]
        rfl
      · have hc : ¬ (0 : Int) < ((bothN (ink.getD i []) (paper.getD i []) : Nat) : Int) := hc
        refine ⟨_, rfl, s8, fun j hj => ?_⟩
        by_cases hji : j = i
        · rw [hji]; omega
        · exact h0 j (by omega)
    · rintro σ H' ⟨v9, rfl, s7, h0⟩
      rw [bothIn_none oi op h0] at k
      have k : ∀ v H', SameX r H H' → Rdr K CR H' r dx a b wh p6 rest6 → gGl CG ⟨letter, width, ink, paper, budget, cost⟩ v H H' → Q v H' := k
      refine ⟨_, rfl, _, rfl, _, rfl, _, rfl, _, rfl, _, rfl, li, lp, ink, paper, rfl, hi6.same s7, hp6.same s7, by rw [oi.len]; omega, (fun x hx => by rw [oi.rows x hx]; omega), fun H8 lr s8 hk => ?_⟩
      refine ⟨rfl, fun x dxx H9 hx s9 ho => ?_⟩
      have s69 : Same H6 H9 := (s7.trans s8).trans s9
      have sA : SameX r H H9 := s6.trans (.of s69)
      have sX7 : SameX r H H' := s6.trans (.of s7)
      have ob7 := s7 _ _ rd6.ob
      refine k _ H9 sA ⟨s69 _ _ rd6.ob, s69.seq rd6.sq, rd6.at_⟩ ⟨x, rfl, dxx, lr, ?_, hk.same (nw_grow sX7 ob7 s9)⟩
      refine nw_iff.mpr ⟨?_, ho⟩
      have hxr : x ≠ r := fun z => by rw [z, s8 _ _ ob7] at hx; cases hx
      exact sX7.free hxr (s8.free hx)
theorem sc_rf : FnScope ["form", "which", "reader", "height", "cost", "count", "glyphs", "rank_before", "turn", "start", "rank"] ["form", "which"] (defScope s_read_face) := ⟨rfl, rfl, rfl, by decide +kernel, rfl, by decide +kernel, by decide +kernel⟩
theorem ok_rf {f : Addr} {fd : FuncData} (F : Fun K "read_face" "read_face" s_read_face f fd) (T : Txt mg) (B : RCls K CR) (cM : Mrk K mg "FACE_MARK" [83, 72, 70, 49]) (cH : Con mg "MOST_HEIGHT" 64) (cC : Con mg "MOST_COST" 4095) (cG : Con mg "MOST_GLYPHS" 4096)
    (MR : MakR P w K mg base CR) (MM : CalM P w K mg base CR "take_mark" 5 ["self", "mark"] (spTM K C CR)) (M : CalM P w K mg base CR "take_bounded" 4 ["self", "size", "least", "most", "rule"] (spTB K C CR)) (ME : CalM P w K mg base CR "take_end" 3 ["self"] (spTE K C CR))
    (NG : Cal P w K mg base "read_glyph" 6 ["reader", "height"] (spRG K C CR CG)) (NR : Cal P w K mg base "rank_of" 1 ["written"] (spRK K)) (MF : Mak P w K mg base "Face" CF 1 ksA) (R : Rais P w K mg base "Fault" C 1 ksF) :
    FnOk P w K mg base (CX1 P w) 7 f fd ["form", "which"] (spRF K C CG CF) := by
  refine F.okX sc_rf (fun vs H Q E h => ?_) (fun cdv A outer s H vs Q E hr h => ?_)
  · obtain ⟨a, b, wh, rfl, _⟩ := h
    rfl
  · obtain ⟨a, b, wh, rfl, hS, hb, k⟩ := h
    have nd := sc_rf.nd
    obtain ⟨tm, mM, qM⟩ := cM
    have hr1 : Room 1 _ := hr.mono (by decide)
    have hr2 : Room 2 _ := hr.mono (by decide)
    have hr3 : Room 3 _ := hr.mono (by decide)
    have hr4 : Room 4 _ := hr.mono (by decide)
    have hr5 : Room 5 _ := hr.mono (by decide)
    refine ⟨_, pss_cons (ps_set (i := 2) nd rfl (Or.inl rfl) (pe_mkR MR hr2 xout rfl (pa_cons (pv 0) (pa_cons (pv 1) pa_nil))))
      (pss_cons (ps_expr (pe_me (pv 2) MM hr5 xout (pa_cons (pe_glob (v := .ref tm) rfl mM rfl (by decide)) pa_nil)))
      (pss_cons (ps_set (i := 3) nd rfl (Or.inl rfl) (pe_me (pv 2) M hr4 xout (pa_cons pe_int (pa_cons pe_int (pa_cons (pe_cst cH rfl) (pa_cons pe_int pa_nil))))))
      (pss_cons (ps_set (i := 4) nd rfl (Or.inl rfl) (pe_me (pv 2) M hr4 xout (pa_cons pe_int (pa_cons pe_int (pa_cons (pe_cst cC rfl) (pa_cons pe_int pa_nil))))))
      (pss_cons (ps_set (i := 5) nd rfl (Or.inl rfl) (pe_me (pv 2) M hr4 xout (pa_cons pe_int (pa_cons pe_int (pa_cons (pe_cst cG rfl) (pa_cons pe_int pa_nil))))))
      (pss_cons (ps_set (i := 6) nd rfl (Or.inl rfl) (pe_lst pa_nil))
      (pss_cons (ps_set (i := 7) nd rfl (Or.inl rfl) (pe_lst pa_nil))
      (pss_cons (ps_for own1 rfl (pi_range1 rfl T.range (pa_cons (pv 5) pa_nil)) (pg_name (i := 8) nd rfl (Or.inl rfl))
        (pss_cons (ps_set (i := 9) nd rfl (Or.inl rfl) (pe_fld (pv 2) rfl))
        (pss_cons (ps_expr (pe_bm PySem.F.plainAttrs_list PySem.F.slot_list_append PySem.F.type_list_append mt_append (pv 6) (pa_cons (pe_fn NG hr xout rfl (pa_cons (pv 2) (pa_cons (pv 3) pa_nil))) pa_nil)))
        (pss_cons (ps_set (i := 10) nd rfl (Or.inl rfl) (pe_fn NR hr1 xout rfl (pa_cons (pe_slice sl_list (pv 0) (po_some (pv 9)) (po_some (pe_fld (pv 2) rfl))) pa_nil)))
        (pss_cons (ps_if (pt_cmpR (op_leO (Nat.lt_of_succ_lt (hu_of hr))) (pv 10) (pv 7) (nomark _)) (pss_one (ps_rais R hr2 xout rfl rfl (pa_cons (pv 1) (pa_cons pe_int (pa_cons (pv 9) pa_nil))))) pss_nil)
        (pss_one (ps_set (i := 7) nd rfl (Or.inl rfl) (pv 10))))))))
      (pss_cons (ps_expr (pe_me0 (pv 2) ME hr3 xout))
      (pss_one (ps_ret (pe_mk MF hr2 xout rfl (pa_cons (pv 3) (pa_cons (pv 4) (pa_cons (pv 6) pa_nil)))))))))))))), ?_⟩
    rw [judgeFace_eq] at k
    have er : ∀ {z : Sh.Fault} {r : Addr} {H1 : Hp}, RaiS C wh H E z → H r = none → Same H H1 → Rai C wh r H1 E z := fun k n s => k.rai n s
    -- the reader
    refine ⟨_, rfl, _, rfl, a, wh, rfl, fun r dx H0 hr0 s0 ob0 => ?_⟩
    have rd0 : Rdr K CR H0 r dx a b wh 0 b := ⟨ob0, s0.seq hS, At.start b⟩
    -- the mark
    refine ⟨_, rfl, r, dx, _, rfl, rd0.ob, rfl, r, dx, a, tm, b, b, wh, 0, [83, 72, 70, 49], rfl, rd0, tup_of qM H0, ?_⟩
    have e0' : mMark [83, 72, 70, 49] b 0 = mMark Sh.FACE b 0 := rfl
    rw [e0']
    cases e0 : mMark Sh.FACE b 0 with
    | error z => rw [e0] at k; exact er k hr0 s0
    | ok x0 =>
    rw [e0] at k
    dsimp only [Sh.andThen] at k
    obtain ⟨rest0, p0⟩ := x0
    intro H1 s1 rd1
    have s1 : Same H H1 := fun c o q => s1 c o (ne_of_none q hr0) (s0 c o q)
    -- height
    refine ⟨_, rfl, r, dx, _, rfl, rd1.ob, rfl, r, dx, a, b, rest0, wh, p0, 1, 1, 64, 2, rfl, rd1, ?_⟩
    cases e1 : mB 1 1 64 2 rest0 p0 with
    | error z => rw [e1] at k; exact er k hr0 s1
    | ok x1 =>
    rw [e1] at k
    dsimp only at k
    obtain ⟨h, rest1, p1⟩ := x1
    have hh : 1 ≤ h ∧ h ≤ 64 := (mB_ok e1).2
    rintro _ H2 s2 rd2 rfl
    have s2 : Same H H2 := fun c o q => s2 c o (ne_of_none q hr0) (s1 c o q)
    -- cost
    refine ⟨_, rfl, r, dx, _, rfl, rd2.ob, rfl, r, dx, a, b, rest1, wh, p1, 2, 0, 4095, 2, rfl, rd2, ?_⟩
    cases e2 : mB 2 0 4095 2 rest1 p1 with
    | error z => rw [e2] at k; exact er k hr0 s2
    | ok x2 =>
    rw [e2] at k
    dsimp only at k
    obtain ⟨cost, rest2, p2⟩ := x2
    rintro _ H3 s3 rd3 rfl
    have s3 : Same H H3 := fun c o q => s3 c o (ne_of_none q hr0) (s2 c o q)
    -- count
    refine ⟨_, rfl, r, dx, _, rfl, rd3.ob, rfl, r, dx, a, b, rest2, wh, p2, 2, 0, 4096, 2, rfl, rd3, ?_⟩
    cases e3 : mB 2 0 4096 2 rest2 p2 with
    | error z => rw [e3] at k; exact er k hr0 s3
    | ok x3 =>
    rw [e3] at k
    dsimp only at k
    obtain ⟨n, rest3, p3⟩ := x3
    have hn : n ≤ 4096 := (mB_ok e3).2.2
    rintro _ H4 s4 rd4 rfl
    have s4 : Same H H4 := fun c o q => s4 c o (ne_of_none q hr0) (s3 c o q)
    have k : OutS (gFa CG CF) C wh H Q E (andThen (Sh.readGlyphs h n none rest3 p3) fun l => andThen (Sh.need l.2.1.isEmpty 7 l.2.2) fun _ => .ok ⟨h, cost, l.1⟩) := k
    -- the lists
    refine ⟨Nat.zero_le _, fun lg hlg => ?_⟩
    refine ⟨Nat.zero_le _, fun lb hlb => ?_⟩
    have hlgH : H lg = none := s4.free hlg
    have s5 : Same H4 (upd H4 lg (.lst [])) := Same.new hlg
    have s6 : Same (upd H4 lg (.lst [])) (upd (upd H4 lg (.lst [])) lb (.lst [])) := Same.new hlb
    have nrg : r ≠ lg := ne_of_none rd4.ob hlg
    have ngb : lg ≠ lb := ne_of_none upd_same hlb
    refine ⟨_, rfl, _, rfl, by omega, by omega, ?_⟩
    rw [Int.toNat_natCast]
    refine for_range (n := n) (fun i σ H' => ∃ (v8 v9 v10 : Option V) (p' : Nat) (rest' : Bytes) (acc : List Sh.Glyph) (xs : List Addr) (lb : Addr) (had : Option Sh.Glyph),
        σ = [some (.ref a), some (.int (wh : Nat)), some (.ref r), some (.int (h : Nat)), some (.int (cost : Nat)), some (.int (n : Nat)), some (.ref lg), some (.ref lb), v8, v9, v10] ∧ Same H H' ∧ Rdr K CR H' r dx a b wh p' rest' ∧
        H' lg = some (.lst (xs.map V.ref)) ∧ Paired (isGlyph CG (del (del H' lg) r)) xs acc ∧ xs.length = i ∧ H' lb = some (.lst (nV (rkO had))) ∧ lb ≠ lg ∧ (∀ f, had = some f → GOk h f) ∧
        Sh.readGlyphs h n none rest3 p3 = andThen (Sh.readGlyphs h (n - i) had rest' p') fun l => .ok (acc ++ l.1, l.2.1, l.2.2))
      ⟨none, none, none, p3, rest3, [], [], lb, none, rfl, (s4.trans s5).trans s6, (rd4.same s5).same s6, s6 _ _ upd_same, .nil, rfl, upd_same, Ne.symm ngb, (fun f hf => nomatch hf), ?_⟩ ?_ ?_
    · rw [Nat.sub_zero]
      cases Sh.readGlyphs h n none rest3 p3 with
      | error z => rfl
      | ok x => rfl
    · rintro i σ H' hi ⟨v8, v9, v10, p', rest', acc, xs, lb, had, rfl, s7, rd7, hg7, pr, hx, hb7, nlb, hok, e⟩
      obtain ⟨k', hk'⟩ : ∃ k', n - i = k' + 1 := ⟨n - i - 1, by omega⟩
      rw [hk', readGlyphs_succ hok] at e
      refine ⟨_, rfl, r, CR, dx, _, _, rfl, rd7.ob, B.cl, B.nP, rfl, ?_⟩
      refine ⟨_, rfl, .inl ⟨rfl, _, SqL.of hg7⟩, _, rfl, _, rfl, r, dx, a, b, rest', wh, p', h, rfl, hh.2, rd7, ?_⟩
      unfold mGl at e
      cases eg : Sh.readGlyph h rest' p' with
      | error z =>
        rw [eg] at e
        have e : Sh.readGlyphs h n none rest3 p3 = .error z := e
        rw [e] at k
        exact er k hr0 s7
      | ok x =>
      rw [eg] at e
      obtain ⟨g, rest8, p8⟩ := x
      rintro _ H8 s8 rd8 ⟨x, rfl, ig⟩
      obtain ⟨ew, ep, og⟩ := readGlyph_ok eg
      have nrg8 : lg ≠ r := Ne.symm (ne_of rd7.ob hg7 (by intro z; cases z))
      have hg8 := s8 lg _ nrg8 hg7
      have hb8 := s8 lb _ (ne_of hb7 rd7.ob (by intro z; cases z)) hb7
      have s8' : Same H H8 := fun c o q => s8 c o (ne_of_none q hr0) (s7 c o q)
      refine ⟨lg, _, _, rfl, rfl, hg8, ?_, ?_⟩
      · rw [List.length_map, hx, sizeLine_eq]; omega
      have s9 : Same H (upd H8 lg (.lst (xs.map V.ref ++ [V.ref x]))) := s8'.upd hlgH
      have ob9 : (upd H8 lg (.lst (xs.map V.ref ++ [V.ref x]))) r = some (.ins CR dx (rF a wh p8)) := by rw [upd_ne (Ne.symm nrg8)]; exact rd8.ob
      have hb9 : (upd H8 lg (.lst (xs.map V.ref ++ [V.ref x]))) lb = some (.lst (nV (rkO had))) := by rw [upd_ne nlb]; exact hb8
      -- the rank
      refine ⟨_, rfl, _, rfl, _, rfl, _, rfl, r, CR, dx, _, _, rfl, ob9, B.cl, B.nP, rfl, _, rfl, a, _, rfl, s9.seq hS, fun q hq => ?_⟩
      have ecut : cutV (bV b) (some (p' : Int)) (some (p8 : Int)) = nV (nats (Sh.writeGlyph g)) := by
        rw [cut_nat, ← List.map_drop, ← List.map_take, ← rd7.at_.re, ep, show p' + (Sh.writeGlyph g).length - p' = (Sh.writeGlyph g).length by omega, ew, List.take_left' rfl]
        exact bV_nats _
      rw [ecut]
      have hlw : (Sh.writeGlyph g).length ≤ b.length := by
        have h1 := rd7.at_.len
        have h2 : rest'.length = (Sh.writeGlyph g ++ rest8).length := by rw [← ew]
        rw [List.length_append] at h2
        omega
      have h3 : 2 ≤ (nats (Sh.writeGlyph g)).length := by
        rw [writeGlyph_shape g]
        unfold nats
        rw [List.length_map]
        show 2 ≤ ((Sh.writeGlyph g).drop 3).length + 1 + 1 + 1
        omega
      refine ⟨q, _, rfl, SqL.of upd_same, h3, (by unfold nats; rw [List.length_map]; omega), fun H10 l10 s10 n10 h10 => ?_⟩
      have s11 := (Same.new (o := .lst (nV (nats (Sh.writeGlyph g)))) hq).trans s10
      have hb10 := s11 _ _ hb9
      have n10' : (upd H8 lg (.lst (xs.map V.ref ++ [V.ref x]))) l10 = none := (Same.new (o := .lst (nV (nats (Sh.writeGlyph g)))) hq).free n10
      have n10g : l10 ≠ lg := fun z => by rw [z, upd_same] at n10'; cases n10'
      have h10 : H10 l10 = some (.lst (nV (rk (nats (Sh.writeGlyph g))))) := h10
      refine ⟨_, rfl, _, rfl, l10, lb, (rk (nats (Sh.writeGlyph g))).map (fun z => ((z : Nat) : Int)), (rkO had).map (fun z => ((z : Nat) : Int)), rfl, rfl, by rw [h10, nV_ints], by rw [hb10, nV_ints], _, rfl, ?_⟩
      rw [lexLt_less]
      have e : Sh.readGlyphs h n none rest3 p3 = andThen (andThen (if Sh.lexLess (rkO had) (rk (nats (Sh.writeGlyph g))) = true then Except.ok (g, rest8, p8) else .error ⟨6, p'⟩) fun g => andThen (Sh.readGlyphs h k' (some g.1) g.2.1 g.2.2) fun l => .ok (g.1 :: l.1, l.2.1, l.2.2)) fun l => .ok (acc ++ l.1, l.2.1, l.2.2) := e
      cases el : Sh.lexLess (rkO had) (rk (nats (Sh.writeGlyph g))) with
      | false =>
        rw [el, if_neg Bool.false_ne_true] at e
        have e : Sh.readGlyphs h n none rest3 p3 = .error ⟨6, p'⟩ := e
        rw [e] at k
        have k : RaiS C wh H E ⟨6, p'⟩ := k
        refine iteT ?_
        exact ⟨_, rfl, _, rfl, rfl, fun dx' H11 _ s12 h12 => k dx' H11 (s9.trans (s11.trans s12)) h12⟩
      | true =>
        rw [el, if_pos rfl] at e
        refine iteF ?_
        refine ⟨_, rfl, ?_⟩
        refine ⟨_, _, _, p8, rest8, acc ++ [g], xs ++ [x], l10, some g, rfl, s9.trans s11, ⟨s11 _ _ ob9, (s9.trans s11).seq hS, rd8.at_⟩, ?_, ?_, ?_, h10, n10g, (fun f hf => by cases hf; exact og), ?_⟩
        · rw [s11 _ _ upd_same, List.map_append]; rfl
        · have sd : ∀ c o, c ≠ lg → c ≠ r → H8 c = some o → (del (del H10 lg) r) c = some o := fun c o h1 h2 q => by
            rw [del_ne h2, del_ne h1]
            exact s11 _ _ (by rw [upd_ne h1]; exact q)
          refine Paired.snoc (Paired.mapM pr fun y gy _ q => ?_) ?_
          · refine q.same fun c o z => ?_
            have hcr : c ≠ r := fun z' => by rw [z', del_same] at z; cases z
            rw [del_ne hcr] at z
            have hc : c ≠ lg := fun z' => by rw [z', del_same] at z; cases z
            rw [del_ne hc] at z
            exact sd c o hc hcr (s8 c o hcr z)
          · refine ig.same fun c o z => ?_
            obtain ⟨z1, z2⟩ := nw_iff.mp z
            have hc : c ≠ lg := fun z' => by rw [z', hg7] at z1; cases z1
            have hcr : c ≠ r := fun z' => by rw [z', rd7.ob] at z1; cases z1
            exact sd c o hc hcr z2
        · rw [List.length_append, hx]; rfl
        · rw [show n - (i + 1) = k' by omega, e]
          show andThen (andThen (Sh.readGlyphs h k' (some g) rest8 p8) _) _ = _
          cases Sh.readGlyphs h k' (some g) rest8 p8 with
          | error z => rfl
          | ok l =>
            show Except.ok (acc ++ (g :: l.1), l.2.1, l.2.2) = Except.ok (acc ++ [g] ++ l.1, l.2.1, l.2.2)
            rw [List.append_assoc]; rfl
    · rintro σ H' ⟨v8, v9, v10, p', rest', acc, xs, lb, had, rfl, s7, rd7, hg7, pr, hx, hb7, nlb, hok, e⟩
      rw [Nat.sub_self] at e
      have e : Sh.readGlyphs h n none rest3 p3 = .ok (acc ++ [], rest', p') := e
      rw [List.append_nil] at e
      rw [e] at k
      have k : OutS (gFa CG CF) C wh H Q E (andThen (Sh.need rest'.isEmpty 7 p') fun _ => .ok ⟨h, cost, acc⟩) := k
      refine ⟨_, rfl, r, dx, _, rfl, rd7.ob, rfl, r, dx, a, b, rest', wh, p', rfl, rd7, ?_⟩
      cases ee : Sh.need rest'.isEmpty 7 p' with
      | error z => rw [ee] at k; exact er k hr0 s7
      | ok u =>
      rw [ee] at k
      intro H8 s8
      refine ⟨_, rfl, _, rfl, _, rfl, rfl, fun x dxx H9 hx9 s9 ho => ?_⟩
      have k : ∀ v H', Same H H' → gFa CG CF ⟨h, cost, acc⟩ v H' → Q v H' := k
      have s89 := s8.trans s9
      refine k _ H9 (s7.trans s89) ⟨x, rfl, dxx, lg, xs, ho, s89 _ _ hg7, Paired.mapM pr fun y gy _ q => q.same (Same.trans (fun c o z => ?_) s89)⟩
      have hcr : c ≠ r := fun z' => by rw [z', del_same] at z; cases z
      rw [del_ne hcr] at z
      have hc : c ≠ lg := fun z' => by rw [z', del_same] at z; cases z
      rw [del_ne hc] at z
      exact z
theorem sc_ff : FnScope ["fault"] ["fault"] (defScope s_refused_form) := ⟨rfl, rfl, rfl, by decide +kernel, rfl, by decide +kernel, by decide +kernel⟩
theorem ok_ff {f fI : Addr} {fd : FuncData} (F : Fun K "refused_form" "refused_form" s_refused_form f fd) (c : XCls K C fI namesF) (cN : Con mg "NOT_A_FORM" (-5)) : FnOkH P w K mg base 1 f fd ["fault"] (spFF C) := by
  refine F.okH sc_ff (fun vs H Q E h => ?_) (fun cdv A outer s H vs Q hr h => ?_)
  · obtain ⟨x, dx, wh, ru, pl, rfl, _⟩ := h
    rfl
  · obtain ⟨x, dx, wh, ru, pl, rfl, hx, hd, hne, k⟩ := h
    refine ⟨_, pss_one (ps_ret (pe_lst (pa_cons (pe_cst cN rfl) (pa_cons (pe_xfld (C := C) (fI := fI) (names := namesF) (pv 0) rfl) (pa_cons (pe_xfld (C := C) (fI := fI) (names := namesF) (pv 0) rfl) (pa_cons (pe_xfld (C := C) (fI := fI) (names := namesF) (pv 0) rfl) pa_nil)))))), ?_⟩
    refine ⟨_, rfl, x, dx, _, _, rfl, hx, hd, hne, c, by decide, by decide, by decide, xno_which, rfl, ?_⟩
    refine ⟨_, rfl, x, dx, _, _, rfl, hx, hd, hne, c, by decide, by decide, by decide, xno_rule, rfl, ?_⟩
    refine ⟨_, rfl, x, dx, _, _, rfl, hx, hd, hne, c, by decide, by decide, by decide, xno_place, rfl, ?_⟩
    exact ⟨(by show 4 ≤ sizeLine; decide), fun l hl => k _ l upd_same⟩
theorem sc_nb : FnScope ["value", "size", "written", "rest", "step"] ["value", "size"] (defScope s_number_bytes) := ⟨rfl, rfl, rfl, by decide +kernel, rfl, by decide +kernel, by decide +kernel⟩
theorem ok_nb {f : Addr} {fd : FuncData} (F : Fun K "number_bytes" "number_bytes" s_number_bytes f fd) (T : Txt mg) : FnOk P w K mg base (CX1 P w) 1 f fd ["value", "size"] spNB := by
  refine F.okX sc_nb (fun vs H Q E h => ?_) (fun cdv A outer s H vs Q E hr h => ?_)
  · obtain ⟨v, n, rfl, _⟩ := h
    rfl
  · obtain ⟨v, n, rfl, hn, k⟩ := h
    have nd := sc_nb.nd
    refine ⟨_, pss_cons (ps_set (i := 2) nd rfl (Or.inl rfl) (pe_lst pa_nil))
      (pss_cons (ps_set (i := 3) nd rfl (Or.inl rfl) (pv 0))
      (pss_cons (ps_for own1 rfl (pi_range1 rfl T.range (pa_cons (pv 1) pa_nil)) (pg_name (i := 4) nd rfl (Or.inl rfl))
        (pss_cons (ps_expr (pe_bm PySem.F.plainAttrs_list PySem.F.slot_list_append PySem.F.type_list_append mt_append (pv 2) (pa_cons (pe_op op_mod (pv 3) pe_int) pa_nil)))
        (pss_one (ps_set (i := 3) nd rfl (Or.inl rfl) (pe_op op_fdiv (pv 3) pe_int)))))
      (pss_one (ps_ret (pv 2))))), ?_⟩
    refine ⟨Nat.zero_le _, fun l hl => ?_⟩
    refine ⟨_, rfl, ?_⟩
    refine ⟨_, rfl, (n : Int), rfl, by omega, by omega, for_range (n := n) (fun i σ H' => ∃ v4 : Option V, σ = [some (.int v), some (.int n), some (.ref l), some (.int ((v / 256 ^ i : Nat) : Int)), v4] ∧ Same H H' ∧ H' l = some (.lst (nV (leN i v))))
      ⟨none, by rw [Nat.pow_zero, Nat.div_one]; rfl, Same.new hl, upd_same⟩ ?_ ?_⟩
    · rintro i σ H' hi ⟨v4, rfl, s1, hq⟩
      refine ⟨_, rfl, .inl ⟨rfl, _, SqL.of hq⟩, _, rfl, _, _, rfl, rfl, (by show (0 : Int) < 256; decide), l, _, _, rfl, rfl, hq, (by rw [List.length_map, leN_length]; exact Nat.lt_of_lt_of_le hi (Nat.le_trans hn (by rw [sizeLine_eq]; omega))), ?_⟩
      refine ⟨_, rfl, _, _, rfl, rfl, ⟨by decide, by decide⟩, ?_⟩
      refine ⟨some (.int (0 + i)), ?_, s1.upd hl, ?_⟩
      · have e : ((v / 256 ^ i : Nat) : Int) / 256 = ((v / 256 ^ (i + 1) : Nat) : Int) := by
          rw [Nat.pow_succ, ← Nat.div_div_eq_div_mul]; rfl
        show [some (V.int v), some (V.int n), some (V.ref l), some (V.int (((v / 256 ^ i : Nat) : Int) / 256)), _] = _
        rw [e]
      · rw [upd_same, leN_snoc]
        show some (HO.lst _) = some (HO.lst (List.map _ (_ ++ _)))
        rw [List.map_append]
        rfl
    · rintro σ H' ⟨v4, rfl, s1, hq⟩
      exact ⟨_, rfl, k H' l s1 hl hq⟩
theorem sc_pb : FnScope ["plane", "written", "row", "first", "byte", "bit"] ["plane"] (defScope s_plane_bytes) := ⟨rfl, rfl, rfl, by decide +kernel, rfl, by decide +kernel, by decide +kernel⟩
theorem ok_pb {f : Addr} {fd : FuncData} (F : Fun K "plane_bytes" "plane_bytes" s_plane_bytes f fd) (T : Txt mg) : FnOk P w K mg base (CX1 P w) 1 f fd ["plane"] spPB := by
  refine F.okX sc_pb (fun vs H Q E h => ?_) (fun cdv A outer s H vs Q E hr h => ?_)
  · obtain ⟨l, Pl, wd, rfl, _⟩ := h
    rfl
  · obtain ⟨l, Pl, wd, rfl, ⟨xs, hl, pr⟩, hrow, hwd, hh, k⟩ := h
    have nd := sc_pb.nd
    refine ⟨_, pss_cons (ps_set (i := 1) nd rfl (Or.inl rfl) (pe_lst pa_nil))
      (pss_cons (ps_for own1 rfl (pi_list (pv 0)) (pg_name (i := 2) nd rfl (Or.inl rfl))
        (pss_one (ps_for own1 rfl (pi_range3 rfl T.range (pa_cons pe_int (pa_cons (pe_callB call_len_seq (by rfl) T.len PySem.boot_len (pa_cons (pv 2) pa_nil)) (pa_cons pe_int pa_nil)))) (pg_name (i := 3) nd rfl (Or.inl rfl))
          (pss_cons (ps_set (i := 4) nd rfl (Or.inl rfl) pe_int)
          (pss_cons (ps_for own1 rfl (pi_reversed rfl T.reversed (pa_cons (pe_slice sl_list (pv 2) (po_some (pv 3)) (po_some (pe_op op_add (pv 3) pe_int))) pa_nil)) (pg_name (i := 5) nd rfl (Or.inl rfl))
            (pss_one (ps_set (i := 4) nd rfl (Or.inl rfl) (pe_op op_add (pe_op op_mul (pv 4) pe_int) (pv 5)))))
          (pss_one (ps_expr (pe_bm PySem.F.plainAttrs_list PySem.F.slot_list_append PySem.F.type_list_append mt_append (pv 1) (pa_cons (pv 4) pa_nil)))))))))
      (pss_one (ps_ret (pv 1)))), ?_⟩
    refine ⟨Nat.zero_le _, fun q hq => ?_⟩
    have hxs : xs.length = Pl.length := by rw [pr.length]; unfold bP; rw [List.length_map]
    have s0 : Same H (upd H q (.lst [])) := Same.new hq
    have hrb : rowBytes wd ≤ 8 := by unfold rowBytes; omega
    refine ⟨_, rfl, l, rfl, ⟨_, SqL.of (s0 _ _ hl)⟩, ?_⟩
    refine for_list (xs := xs.map V.ref) (fun i σ H' => ∃ v2 v3 v4 v5 : Option V, σ = [some (.ref l), some (.ref q), v2, v3, v4, v5] ∧ Same H H' ∧ H' q = some (.lst (nV (nats (Sh.writePlane wd (Pl.take i))))))
      ⟨none, none, none, none, rfl, s0, upd_same⟩ (fun i σ H' _ ⟨_, _, _, _, _, s1, _⟩ => SqL.of (s1 _ _ hl)) ?_ ?_
    · rintro i x σ H' hx ⟨v2, v3, v4, v5, rfl, s1, hq1⟩
      rw [List.getElem?_map] at hx
      obtain ⟨y, hy, rfl⟩ := Option.map_eq_some_iff.mp hx
      obtain ⟨row, hrow1, hy1⟩ := Paired.at pr hy
      unfold bP at hrow1
      rw [List.getElem?_map] at hrow1
      obtain ⟨r, hr1, rfl⟩ := Option.map_eq_some_iff.mp hrow1
      have hrl : r.length = wd := hrow r (List.mem_of_getElem? hr1)
      have hi : i < Pl.length := (List.getElem?_eq_some_iff.mp hr1).1
      have hy2 := s1 _ _ hy1
      refine ⟨_, rfl, y, _, rfl, .inl (SqL.of hy2), 0, _, 8, rowBytes wd, rfl, ?_, ?_⟩
      · rw [List.length_map, bI_length, hrl]; exact rg8 hwd
      refine for_rangeC (n := rowBytes wd) (fun j σ H2 => ∃ v3 v4 v5 : Option V, σ = [some (.ref l), some (.ref q), some (.ref y), v3, v4, v5] ∧ Same H H2 ∧ H2 q = some (.lst (nV (nats (Sh.writePlane wd (Pl.take i)) ++ (List.range j).map (chunk r)))))
        ⟨v3, v4, v5, rfl, s1, by rw [hq1]; simp⟩ ?_ ?_
      · rintro j σ H2 hj ⟨v3, v4, v5, rfl, s2, hq2⟩
        have hy3 := s2 _ _ hy1
        have ej : (0 : Int) + ((j : Nat) : Int) * 8 = ((8 * j : Nat) : Int) := by omega
        refine ⟨_, rfl, _, rfl, _, rfl, _, rfl, _, _, rfl, rfl, _, rfl, y, _, rfl, SqL.of hy3, fun c hc => ?_⟩
        have ecut : cutV (nV (bI r)) (some ((0 : Int) + ((j : Nat) : Int) * 8)) (some ((0 : Int) + ((j : Nat) : Int) * 8 + 8)) = nV (bI ((r.drop (8 * j)).take 8)) := by
          rw [ej, show ((8 * j : Nat) : Int) + 8 = ((8 * j + 8 : Nat) : Int) by omega, cut_nat, show 8 * j + 8 - 8 * j = 8 by omega]
          unfold nV bI
          rw [← List.map_drop, ← List.map_drop, ← List.map_take, ← List.map_take]
        rw [ecut]
        generalize hch : (r.drop (8 * j)).take 8 = ch
        have hcl : ch.length ≤ 8 := by rw [← hch, List.length_take]; omega
        have s3 : Same H2 (upd H2 c (.lst (nV (bI ch)))) := Same.new hc
        have hq3 := s3 _ _ hq2
        refine ⟨c, _, rfl, SqL.of upd_same, ?_⟩
        refine for_rev (xs := nV (bI ch)) (fun t σ H3 => ∃ v5 : Option V, σ = [some (.ref l), some (.ref q), some (.ref y), some (.int ((0 : Int) + ((j : Nat) : Int) * 8)), some (.int ((((bI ch).reverse.take t).foldl (fun n c => n * 2 + c) 0 : Nat) : Nat)), v5] ∧ H3 = upd H2 c (.lst (nV (bI ch))))
          ⟨v5, rfl, rfl⟩ (fun t σ H3 ⟨_, _, e⟩ => by rw [e]; exact SqL.of upd_same) ?_ ?_
        · rintro t x σ H3 hx ⟨v5', rfl, rfl⟩
          rw [← List.map_reverse] at hx
          obtain ⟨n, hn1, rfl⟩ := nV_get hx
          refine ⟨_, rfl, _, _, rfl, rfl, .inr ⟨by decide, by decide⟩, _, rfl, _, _, rfl, rfl, ?_⟩
          refine ⟨some (.int (n : Nat)), ?_, rfl⟩
          rw [take_snoc hn1, List.foldl_append]
          rfl
        · rintro σ H3 ⟨v5', rfl, rfl⟩
          have ev : ((bI ch).reverse.take (nV (bI ch)).length).foldl (fun n c => n * 2 + c) 0 = chunk r j := by
            rw [List.length_map, List.take_of_length_le (by rw [List.length_reverse]; exact Nat.le_refl _)]
            unfold bI
            rw [bval_fold, ← hch]; rfl
          rw [ev]
          refine ⟨_, rfl, .inl ⟨rfl, _, SqL.of hq3⟩, _, rfl, q, _, _, rfl, rfl, hq3, ?_, ?_⟩
          · have hlw : (nats (Sh.writePlane wd (Pl.take i))).length ≤ 64 * 8 := by
              unfold nats
              rw [List.length_map, writePlane_length, List.length_take]
              exact Nat.mul_le_mul (by omega) hrb
            rw [List.length_map, List.length_append, List.length_map, List.length_range, sizeLine_eq]; omega
          · refine ⟨_, _, _, rfl, (s2.trans s3).upd hq, ?_⟩
            rw [upd_same, packed_snoc, ← List.append_assoc, nV_append (_ ++ _)]
            rfl
      · rintro σ H2 ⟨v3, v4, v5, rfl, s2, hq2⟩
        exact ⟨_, _, _, _, rfl, s2, by rw [hq2, writePlane_take hr1]⟩
    · rintro σ H' ⟨v2, v3, v4, v5, rfl, s1, hq1⟩
      rw [List.length_map, hxs, List.take_of_length_le (Nat.le_refl _)] at hq1
      exact ⟨_, rfl, k H' q s1 hq hq1⟩
theorem sc_po : FnScope ["rows", "kind", "plane", "row", "point"] ["rows", "kind"] (defScope s_plane_of) := ⟨rfl, rfl, rfl, by decide +kernel, rfl, by decide +kernel, by decide +kernel⟩
theorem ok_po {f : Addr} {fd : FuncData} (F : Fun K "plane_of" "plane_of" s_plane_of f fd) (T : Txt mg) : FnOk P w K mg base (CX1 P w) 1 f fd ["rows", "kind"] spPO := by
  refine F.okX sc_po (fun vs H Q E h => ?_) (fun cdv A outer s H vs Q E hr h => ?_)
  · obtain ⟨l, k, R, rfl, _⟩ := h
    rfl
  · obtain ⟨l, k, R, rfl, ⟨xs, hl, pr⟩, hR, hRr, kk⟩ := h
    have nd := sc_po.nd
    refine ⟨_, pss_cons (ps_set (i := 2) nd rfl (Or.inl rfl) (pe_lst pa_nil))
      (pss_cons (ps_for own1 rfl (pi_list (pv 0)) (pg_name (i := 3) nd rfl (Or.inl rfl))
        (pss_one (ps_expr (pe_bm PySem.F.plainAttrs_list PySem.F.slot_list_append PySem.F.type_list_append mt_append (pv 2) (pa_cons (pe_lcN [("point", 4)] [4] (gName 4) tYes (tIf (tTest (tOp rEq (tVar 4) (tVar 1))) (tC (.int 1)) (tC (.int 0))) rfl nd (pi_list (pv 3)) (by kernel_rfl)
          (fun _ _ _ _ _ => pg_name (i := 4) nd rfl (Or.inl rfl) (Or.inr rfl)) (fun _ _ _ _ _ => pts_nil) (fun _ _ _ _ _ => pe_ifExp (pt_cmpR op_eq (pv 4) (pv 1) (nomark _)) pe_int pe_int)) pa_nil)))))
      (pss_one (ps_ret (pv 2)))), ?_⟩
    refine ⟨Nat.zero_le _, fun q hq => ?_⟩
    have s0 : Same H (upd H q (.lst [])) := Same.new hq
    refine ⟨_, rfl, l, rfl, ⟨_, SqL.of (s0 _ _ hl)⟩, ?_⟩
    refine for_list (xs := xs.map V.ref) (fun i σ H' => ∃ (v3 v4 : Option V) (zs : List Addr), σ = [some (.ref l), some (.int (k : Nat)), some (.ref q), v3, v4] ∧ Same H H' ∧ H' q = some (.lst (zs.map V.ref)) ∧
        Paired (fun x row => nw H H' x = some (.lst (nV row)) ∧ x ≠ q) zs ((kindP k R).take i) ∧ zs.length ≤ i)
      ⟨none, none, [], rfl, s0, upd_same, .nil, Nat.le_refl _⟩ (fun i σ H' _ ⟨_, _, _, _, s1, _⟩ => SqL.of (s1 _ _ hl)) ?_ ?_
    · rintro i x σ H' hx ⟨v3, v4, zs, rfl, s1, hq1, pz, hz⟩
      rw [List.getElem?_map] at hx
      obtain ⟨y, hy, rfl⟩ := Option.map_eq_some_iff.mp hx
      obtain ⟨r, hr1, hy1⟩ := Paired.at pr hy
      have hrl : r.length ≤ 1000 := hRr r (List.mem_of_getElem? hr1)
      have hi : i < R.length := (List.getElem?_eq_some_iff.mp hr1).1
      have hy2 := s1 _ _ hy1
      refine ⟨_, rfl, .inl ⟨rfl, _, SqL.of hq1⟩, _, rfl, y, rfl, ⟨_, SqL.of hy2⟩, ?_⟩
      refine lc_lst (xs := nV r) (fun i => ((nV r)[i]?).bind (kindV k)) (SqL.of hy2) (by rw [List.length_map, sizeLine_eq]; omega) ?_ (fun j z H3 Rr N hz3 s3 hRr hN => ?_) (fun D H3 hD s3 hD3 => ?_)
      · exact fun _ => rfl
      · obtain ⟨n, hn1, rfl⟩ := nV_get hz3
        refine ⟨_, rfl, _, rfl, rfl, _, rfl, ?_⟩
        refine iteEq (fun hc => ?_) (fun hc => ?_)
        · refine hRr _ H3 (Same.refl' _) ?_
          rw [hz3]
          show some (V.int (if ((n : Nat) : Int) = (k : Int) then 1 else 0)) = _
          rw [if_pos hc]
        · refine hRr _ H3 (Same.refl' _) ?_
          rw [hz3]
          show some (V.int (if ((n : Nat) : Int) = (k : Int) then 1 else 0)) = _
          rw [if_neg hc]
      · rw [kind_list] at hD3
        have hq3 := s3 _ _ hq1
        have nDq : D ≠ q := fun z => by rw [z, hq1] at hD; cases hD
        refine ⟨q, _, _, rfl, rfl, hq3, ?_, ?_⟩
        · rw [List.length_map, sizeLine_eq]; omega
        · refine ⟨_, _, zs ++ [D], rfl, (s1.trans s3).upd hq, ?_, ?_, ?_⟩
          · rw [upd_same, List.map_append]; rfl
          · have ek : (kindP k R)[i]? = some (r.map fun z => if z = k then 1 else 0) := by
              unfold kindP
              rw [List.getElem?_map, hr1]; rfl
            rw [take_snoc ek]
            refine Paired.snoc (Paired.mapM pz fun x row hm hy => ⟨?_, hy.2⟩) ⟨?_, nDq⟩
            · obtain ⟨e1, e2⟩ := nw_iff.mp hy.1
              exact nw_iff.mpr ⟨e1, by rw [upd_ne hy.2]; exact s3 _ _ e2⟩
            · exact nw_iff.mpr ⟨s1.free hD, by rw [upd_ne nDq]; exact hD3⟩
          · rw [List.length_append]; simp; omega
    · rintro σ H' ⟨v3, v4, zs, rfl, s1, hq1, pz, hz⟩
      have et : (kindP k R).take (xs.map V.ref).length = kindP k R := by
        refine List.take_of_length_le ?_
        unfold kindP
        rw [List.length_map, List.length_map, pr.length]
        exact Nat.le_refl _
      rw [et] at pz
      exact ⟨_, rfl, kk H' q s1 ⟨zs, nw_iff.mpr ⟨hq, hq1⟩, Paired.mapM pz fun _ _ _ q => q.1⟩⟩
theorem sc_to : FnScope ["numbers"] ["numbers"] (defScope s_told_numbers) := ⟨rfl, rfl, rfl, by decide +kernel, rfl, by decide +kernel, by decide +kernel⟩
theorem ok_to {f : Addr} {fd : FuncData} (F : Fun K "told_numbers" "told_numbers" s_told_numbers f fd) (T : Txt mg) : FnOk P w K mg base (CX1 P w) 1 f fd ["numbers"] spTo := by
  refine F.okX sc_to (fun vs H Q E h => ?_) (fun cdv A outer s H vs Q E hr h => ?_)
  · obtain ⟨a, l, rfl, _⟩ := h
    rfl
  · obtain ⟨a, l, rfl, ha, hl, k⟩ := h
    refine ⟨_, pss_one (ps_ret (pe_op op_cat (pe_lst (pa_cons pe_int (pa_cons (pe_callB call_len_seq (by rfl) T.len PySem.boot_len (pa_cons (pv 0) pa_nil)) pa_nil))) (pv 0))), ?_⟩
    refine ⟨_, rfl, a, _, rfl, .inl (SqL.of ha), (by show 2 ≤ sizeLine; decide), fun q hq => ?_⟩
    have hn : a ≠ q := ne_of_none ha hq
    refine ⟨_, rfl, q, a, _, _, rfl, rfl, upd_same, by rw [upd_ne hn]; exact ha, ?_, fun p hp => ?_⟩
    · rw [List.length_map, sizeLine_eq]; show 2 + _ ≤ _; omega
    · refine k _ p ((Same.new hq).trans (Same.new hp)) ?_
      rw [upd_same, List.length_map]
      rfl
theorem sc_gb : FnScope ["shape", "head"] ["shape"] (defScope s_glyph_bytes) := ⟨rfl, rfl, rfl, by decide +kernel, rfl, by decide +kernel, by decide +kernel⟩
theorem ok_gb {f : Addr} {fd : FuncData} (F : Fun K "glyph_bytes" "glyph_bytes" s_glyph_bytes f fd) (cI : Con mg "INK" 1) (cP : Con mg "PAPER" 0) (NN : Cal P w K mg base "number_bytes" 1 ["value", "size"] spNB) (NP : Cal P w K mg base "plane_bytes" 1 ["plane"] spPB) (NO : Cal P w K mg base "plane_of" 1 ["rows", "kind"] spPO) :
    FnOk P w K mg base (CX1 P w) 2 f fd ["shape"] (spGB K CG) := by
  refine F.okX sc_gb (fun vs H Q E h => ?_) (fun cdv A outer s H vs Q E hr h => ?_)
  · obtain ⟨x, g, h, rfl, _⟩ := h
    rfl
  · obtain ⟨x, g, h, rfl, G, ⟨dx, lr, hx, hrows⟩, o, hh, k⟩ := h
    have nd := sc_gb.nd
    refine ⟨_, pss_cons (ps_set (i := 1) nd rfl (Or.inl rfl) (pe_op op_cat (pe_op op_cat (pe_op op_cat (pe_fn NN hr xout rfl (pa_cons (pe_fld (pv 0) rfl) (pa_cons pe_int pa_nil))) (pe_lst (pa_cons (pe_fld (pv 0) rfl) pa_nil))) (pe_fn NN hr xout rfl (pa_cons (pe_fld (pv 0) rfl) (pa_cons pe_int pa_nil)))) (pe_fn NN hr xout rfl (pa_cons (pe_fld (pv 0) rfl) (pa_cons pe_int pa_nil)))))
      (pss_one (ps_ret (pe_op op_cat (pe_op op_cat (pv 1) (pe_fn NP hr xout rfl (pa_cons (pe_fn NO hr xout rfl (pa_cons (pe_fld (pv 0) rfl) (pa_cons (pe_cst cI rfl) pa_nil))) pa_nil))) (pe_fn NP hr xout rfl (pa_cons (pe_fn NO hr xout rfl (pa_cons (pe_fld (pv 0) rfl) (pa_cons (pe_cst cP rfl) pa_nil))) pa_nil))))), ?_⟩
    have ll : ∀ (k n : Nat), (nV (leN k n)).length = k := fun k n => by rw [List.length_map, leN_length]
    refine ⟨_, rfl, x, CG, dx, _, _, rfl, hx, G.cl, G.nL, rfl, g.letter, 2, rfl, by omega, fun H1 a1 s1 n1 h1 => ?_⟩
    refine ⟨_, rfl, x, CG, dx, _, _, rfl, s1 _ _ hx, G.cl, G.nW, rfl, (by show 1 ≤ sizeLine; decide), fun a2 n2 => ?_⟩
    have s2 := s1.trans (Same.new (o := .lst [.int (g.width : Nat)]) n2)
    have n12 : a1 ≠ a2 := ne_of_none h1 n2
    refine ⟨a1, a2, _, _, rfl, rfl, by rw [upd_ne n12]; exact h1, upd_same, (by rw [ll, sizeLine_eq]; show 2 + 1 ≤ _; decide), fun a3 n3 => ?_⟩
    have s3 := s2.trans (Same.new (o := .lst (nV (leN 2 g.letter) ++ [.int (g.width : Nat)])) n3)
    refine ⟨_, rfl, x, CG, dx, _, _, rfl, s3 _ _ hx, G.cl, G.nB, rfl, g.budget, 2, rfl, by omega, fun H4 a4 s4 n4 h4 => ?_⟩
    have h34 := s4 _ _ (upd_same (o := .lst (nV (leN 2 g.letter) ++ [.int (g.width : Nat)])))
    refine ⟨a3, a4, _, _, rfl, rfl, h34, h4, (by rw [List.length_append, ll, ll, sizeLine_eq]; show 2 + 1 + 2 ≤ _; decide), fun a5 n5 => ?_⟩
    have s5 := (s3.trans s4).trans (Same.new (o := .lst (nV (leN 2 g.letter) ++ [.int (g.width : Nat)] ++ nV (leN 2 g.budget))) n5)
    refine ⟨_, rfl, x, CG, dx, _, _, rfl, s5 _ _ hx, G.cl, G.nC, rfl, g.cost, 2, rfl, by omega, fun H6 a6 s6 n6 h6 => ?_⟩
    have h56 := s6 _ _ (upd_same (o := .lst (nV (leN 2 g.letter) ++ [.int (g.width : Nat)] ++ nV (leN 2 g.budget))))
    refine ⟨a5, a6, _, _, rfl, rfl, h56, h6, (by rw [List.length_append, List.length_append, ll, ll, ll, sizeLine_eq]; show 2 + 1 + 2 + 2 ≤ _; decide), fun a7 n7 => ?_⟩
    have s67 := s5.trans s6
    have s7 := s67.trans (Same.new (o := .lst (nV (leN 2 g.letter) ++ [.int (g.width : Nat)] ++ nV (leN 2 g.budget) ++ nV (leN 2 g.cost))) n7)
    have hnum := rows_num o
    have hlens := rows_len o hh
    have hr1 := hrows.same s7
    -- ink
    refine ⟨_, rfl, _, rfl, x, CG, dx, _, _, rfl, s7 _ _ hx, G.cl, G.nR, rfl, lr, 1, _, rfl, hr1, by rw [hnum]; omega, (fun r hr => Nat.le_trans (hlens r hr) (by omega)), fun H8 a8 s8 i8 => ?_⟩
    have e8 : kindP 1 (kRows g.ink g.paper) = bP g.ink := by
      have := bits_kind o 1 (.inl rfl)
      rw [if_pos rfl] at this; exact this
    rw [e8] at i8
    refine ⟨a8, g.ink, g.width, rfl, i8.same nw_same, o.ink.rows, o.w64, by rw [o.ink.len]; exact hh, fun H9 a9 s9 n9 h9 => ?_⟩
    have s79 := s8.trans s9
    have h79 := s79 _ _ (upd_same (o := .lst (nV (leN 2 g.letter) ++ [.int (g.width : Nat)] ++ nV (leN 2 g.budget) ++ nV (leN 2 g.cost))))
    have lp : ∀ P : Sh.Plane, PlaneOk g.width h P → (nV (nats (Sh.writePlane g.width P))).length ≤ 512 := fun P oP => by
      have := o.w64
      have hrb : rowBytes g.width ≤ 8 := by unfold rowBytes; omega
      rw [List.length_map]; unfold nats
      rw [List.length_map, writePlane_length, oP.len]
      exact Nat.mul_le_mul hh hrb
    have l1 := lp _ o.ink
    have l2 := lp _ o.paper
    refine ⟨a7, a9, _, _, rfl, rfl, h79, h9, (by rw [List.length_append, List.length_append, List.length_append, ll, ll, ll, sizeLine_eq]; show 2 + 1 + 2 + 2 + _ ≤ _; omega), fun a10 n10 => ?_⟩
    have s10 := (s7.trans s79).trans (Same.new (o := .lst (nV (leN 2 g.letter) ++ [.int (g.width : Nat)] ++ nV (leN 2 g.budget) ++ nV (leN 2 g.cost) ++ nV (nats (Sh.writePlane g.width g.ink)))) n10)
    -- paper
    refine ⟨_, rfl, x, CG, dx, _, _, rfl, s10 _ _ hx, G.cl, G.nR, rfl, lr, 0, _, rfl, hrows.same s10, by rw [hnum]; omega, (fun r hr => Nat.le_trans (hlens r hr) (by omega)), fun H11 a11 s11 i11 => ?_⟩
    have e11 : kindP 0 (kRows g.ink g.paper) = bP g.paper := by
      have := bits_kind o 0 (.inr rfl)
      rw [if_neg (by decide)] at this; exact this
    rw [e11] at i11
    refine ⟨a11, g.paper, g.width, rfl, i11.same nw_same, o.paper.rows, o.w64, by rw [o.paper.len]; exact hh, fun H12 a12 s12 n12 h12 => ?_⟩
    have s1112 := s11.trans s12
    have h1012 := s1112 _ _ (upd_same (o := .lst (nV (leN 2 g.letter) ++ [.int (g.width : Nat)] ++ nV (leN 2 g.budget) ++ nV (leN 2 g.cost) ++ nV (nats (Sh.writePlane g.width g.ink)))))
    refine ⟨a10, a12, _, _, rfl, rfl, h1012, h12, (by rw [List.length_append, List.length_append, List.length_append, List.length_append, ll, ll, ll, sizeLine_eq]; show 2 + 1 + 2 + 2 + _ + _ ≤ _; omega), fun a13 n13 => ?_⟩
    refine k _ a13 ((s10.trans s1112).trans (Same.new n13)) ((s10.trans s1112).free n13) ?_
    rw [upd_same, writeGlyph_nats o]
    simp only [nV_append]
    rfl
theorem sc_fb : FnScope ["face", "written", "shape"] ["face"] (defScope s_face_bytes) := ⟨rfl, rfl, rfl, by decide +kernel, rfl, by decide +kernel, by decide +kernel⟩
theorem ok_fb {f : Addr} {fd : FuncData} (F : Fun K "face_bytes" "face_bytes" s_face_bytes f fd) (T : Txt mg) (A : ACls K CF) (cM : Mrk K mg "FACE_MARK" [83, 72, 70, 49]) (NN : Cal P w K mg base "number_bytes" 1 ["value", "size"] spNB) (NG : Cal P w K mg base "glyph_bytes" 2 ["shape"] (spGB K CG)) :
    FnOk P w K mg base (CX1 P w) 3 f fd ["face"] (spFB K CG CF) := by
  refine F.okX sc_fb (fun vs H Q E h => ?_) (fun cdv A' outer s H vs Q E hr h => ?_)
  · obtain ⟨x, Fa, rfl, _⟩ := h
    rfl
  · obtain ⟨x, Fa, rfl, ⟨dx, lg, xs, ho, hg, pr⟩, oF, hG, k⟩ := h
    have nd := sc_fb.nd
    obtain ⟨tm, mM, qM⟩ := cM
    have hr1 : Room 1 _ := hr.mono (by decide)
    refine ⟨_, pss_cons (ps_set (i := 1) nd rfl (Or.inl rfl) (pe_op op_cat (pe_op op_cat (pe_op op_cat (pe_callTy call_list_of (by rfl) T.list PyProof.Rows.boot_list (pa_cons (pe_glob (v := .ref tm) rfl mM rfl (by decide)) pa_nil)) (pe_lst (pa_cons (pe_fld (pv 0) rfl) pa_nil))) (pe_fn NN hr1 xout rfl (pa_cons (pe_fld (pv 0) rfl) (pa_cons pe_int pa_nil)))) (pe_fn NN hr1 xout rfl (pa_cons (pe_callB call_len_seq (by rfl) T.len PySem.boot_len (pa_cons (pe_fld (pv 0) rfl) pa_nil)) (pa_cons pe_int pa_nil)))))
      (pss_cons (ps_for own1 rfl (pi_list (pe_fld (pv 0) rfl)) (pg_name (i := 2) nd rfl (Or.inl rfl)) (pss_one (ps_expr (pe_bm PySem.F.plainAttrs_list PySem.F.slot_list_extend PySem.F.type_list_extend mt_extend (pv 1) (pa_cons (pe_fn NG hr xout rfl (pa_cons (pv 2) pa_nil)) pa_nil)))))
      (pss_one (ps_ret (pv 1)))), ?_⟩
    have ll : ∀ (k n : Nat), (nV (leN k n)).length = k := fun k n => by rw [List.length_map, leN_length]
    have hlx : (xs.map V.ref).length = Fa.glyphs.length := by rw [List.length_map, pr.length]
    refine ⟨tm, _, rfl, .inr (tup_of qM H), fun a1 n1 => ?_⟩
    have s1 : Same H (upd H a1 (.lst (nV [83, 72, 70, 49]))) := Same.new n1
    refine ⟨_, rfl, x, CF, dx, _, _, rfl, s1 _ _ ho, A.cl, A.nH, rfl, (by show 1 ≤ sizeLine; decide), fun a2 n2 => ?_⟩
    have n12 : a1 ≠ a2 := ne_of_none (upd_same (o := .lst (nV [83, 72, 70, 49]))) n2
    have s2 := s1.trans (Same.new (o := .lst [.int (Fa.height : Nat)]) n2)
    refine ⟨a1, a2, nV [83, 72, 70, 49], _, rfl, rfl, by rw [upd_ne n12]; exact upd_same, upd_same, (by show 4 + 1 ≤ sizeLine; decide), fun a3 n3 => ?_⟩
    have s3 := s2.trans (Same.new (o := .lst (nV [83, 72, 70, 49] ++ [.int (Fa.height : Nat)])) n3)
    refine ⟨_, rfl, x, CF, dx, _, _, rfl, s3 _ _ ho, A.cl, A.nC, rfl, Fa.each, 2, rfl, by omega, fun H4 a4 s4 n4 h4 => ?_⟩
    have h34 := s4 _ _ (upd_same (o := .lst (nV [83, 72, 70, 49] ++ [.int (Fa.height : Nat)])))
    refine ⟨a3, a4, _, _, rfl, rfl, h34, h4, (by rw [List.length_append, ll, sizeLine_eq]; show 4 + 1 + 2 ≤ _; decide), fun a5 n5 => ?_⟩
    have s5 := (s3.trans s4).trans (Same.new (o := .lst (nV [83, 72, 70, 49] ++ [.int (Fa.height : Nat)] ++ nV (leN 2 Fa.each))) n5)
    refine ⟨_, rfl, x, CF, dx, _, _, rfl, s5 _ _ ho, A.cl, A.nG, rfl, lg, _, rfl, .inl (SqL.of (s5 _ _ hg)), (xs.map V.ref).length, 2, rfl, by omega, fun H6 a6 s6 n6 h6 => ?_⟩
    have h56 := s6 _ _ (upd_same (o := .lst (nV [83, 72, 70, 49] ++ [.int (Fa.height : Nat)] ++ nV (leN 2 Fa.each))))
    refine ⟨a5, a6, _, _, rfl, rfl, h56, h6, (by rw [List.length_append, List.length_append, ll, ll, sizeLine_eq]; show 4 + 1 + 2 + 2 ≤ _; decide), fun a7 n7 => ?_⟩
    have s7' := s5.trans s6
    have n7H : H a7 = none := s7'.free n7
    have s7 := s7'.trans (Same.new (o := .lst (nV [83, 72, 70, 49] ++ [.int (Fa.height : Nat)] ++ nV (leN 2 Fa.each) ++ nV (leN 2 (xs.map V.ref).length))) n7)
    rw [hlx] at s7 ⊢
    have eh : nV [83, 72, 70, 49] ++ [V.int (Fa.height : Nat)] ++ nV (leN 2 Fa.each) ++ nV (leN 2 Fa.glyphs.length) = nV ([83, 72, 70, 49] ++ [Fa.height] ++ leN 2 Fa.each ++ leN 2 Fa.glyphs.length) := by
      simp only [nV_append]; rfl
    rw [eh] at s7 ⊢
    generalize hhd : ([83, 72, 70, 49] ++ [Fa.height] ++ leN 2 Fa.each ++ leN 2 Fa.glyphs.length : List Nat) = hd at s7 ⊢
    have hdl : hd.length = 9 := by rw [← hhd]; simp [leN_length]
    refine ⟨_, rfl, x, CF, dx, _, _, rfl, s7 _ _ ho, A.cl, A.nG, rfl, lg, rfl, ⟨_, SqL.of (s7 _ _ hg)⟩, ?_⟩
    have hgl : ∀ g ∈ Fa.glyphs, (nats (Sh.writeGlyph g)).length ≤ 1040 := fun g hgm => by
      have o := oF.glyphs g hgm
      have := o.w64
      have h6 := oF.h64
      have hrb : rowBytes g.width ≤ 8 := by unfold rowBytes; omega
      have hm1 : h6 = h6 := rfl
      have hmul : Fa.height * rowBytes g.width ≤ 64 * 8 := Nat.mul_le_mul h6 hrb
      rw [writeGlyph_nats o]
      simp only [List.length_append, leN_length, List.length_cons, List.length_nil]
      unfold nats
      rw [List.length_map, List.length_map, writePlane_length, writePlane_length, o.ink.len, o.paper.len]
      omega
    refine for_list (xs := xs.map V.ref) (fun i σ H2 => ∃ v2 : Option V, σ = [some (.ref x), some (.ref a7), v2] ∧ Same H H2 ∧ H2 a7 = some (.lst (nV (hd ++ nats ((Fa.glyphs.take i).flatMap Sh.writeGlyph)))) ∧ (nats ((Fa.glyphs.take i).flatMap Sh.writeGlyph)).length ≤ 1040 * i)
      ⟨none, rfl, s7, by rw [upd_same]; simp [nats], by simp [nats]⟩ (fun i σ H2 _ ⟨_, _, s2, _⟩ => SqL.of (s2 _ _ hg)) ?_ ?_
    · rintro i z σ H2 hz ⟨v2, rfl, s8, h8, hl8⟩
      rw [List.getElem?_map] at hz
      obtain ⟨y, hy, rfl⟩ := Option.map_eq_some_iff.mp hz
      obtain ⟨g, hgi, iy⟩ := Paired.at pr hy
      have hi : i < xs.length := (List.getElem?_eq_some_iff.mp hy).1
      have hgm := List.mem_of_getElem? hgi
      refine ⟨_, rfl, .inl ⟨rfl, _, SqL.of h8⟩, _, rfl, y, g, Fa.height, rfl, hG g hgm, iy.same s8, oF.glyphs g hgm, oF.h64, fun H9 a9 s9 n9 h9 => ?_⟩
      have hgl9 := hgl g hgm
      refine ⟨a7, a9, _, _, rfl, rfl, s9 _ _ h8, h9, ?_, ?_⟩
      · have hn := oF.num
        rw [List.length_map] at hlx
        rw [List.length_map, List.length_map, List.length_append, hdl, sizeLine_eq]; omega
      · have et : (Fa.glyphs.take (i + 1)).flatMap Sh.writeGlyph = (Fa.glyphs.take i).flatMap Sh.writeGlyph ++ Sh.writeGlyph g := by
          rw [take_snoc hgi, List.flatMap_append]; simp [List.flatMap_cons]
        refine ⟨_, rfl, (s8.trans s9).upd n7H, ?_, ?_⟩
        · rw [upd_same, et, nats_append, ← List.append_assoc, nV_append (hd ++ _)]
        · rw [et, nats_append, List.length_append]; omega
    · rintro σ H2 ⟨v2, rfl, s8, h8, hl8⟩
      rw [hlx, List.take_of_length_le (Nat.le_refl _)] at h8
      refine ⟨_, rfl, k H2 a7 s8 n7H ?_⟩
      rw [h8]
      have ew : nats (Sh.writeFace Fa) = hd ++ nats (Fa.glyphs.flatMap Sh.writeGlyph) := by
        have h6 := oF.h64
        rw [← hhd]
        unfold Sh.writeFace
        rw [nats_append, nats_append, nats_append, nats_append, nats_le, nats_le, nats_le, leN_one (show Fa.height < 256 by omega)]
        simp only [List.append_assoc]
        rfl
      rw [ew]
theorem sc_tw : FnScope ["known", "shape", "rank", "lesser", "rest", "other"] ["known", "shape"] (defScope s_told_with) := ⟨rfl, rfl, rfl, by decide +kernel, rfl, by decide +kernel, by decide +kernel⟩
theorem ok_tw {f : Addr} {fd : FuncData} (F : Fun K "told_with" "told_with" s_told_with f fd) (T : Txt mg) (A : ACls K CF) (G : GCls K CG) (cT : Con mg "THERE_ALREADY" (-2)) (cG : Con mg "MOST_GLYPHS" 4096) (cM : Con mg "TOO_MANY" (-6)) (NR : Cal P w K mg base "rank_of" 1 ["written"] (spRK K)) (NG : Cal P w K mg base "glyph_bytes" 2 ["shape"] (spGB K CG))
    (MF : Mak P w K mg base "Face" CF 1 ksA) (NB : Cal P w K mg base "face_bytes" 3 ["face"] (spFB K CG CF)) (NT : Cal P w K mg base "told_numbers" 1 ["numbers"] spTo) : FnOk P w K mg base (CX1 P w) 4 f fd ["known", "shape"] (spTW K CG CF) := by
  refine F.okX sc_tw (fun vs H Q E h => ?_) (fun cdv A' outer s H vs Q E hr h => ?_)
  · obtain ⟨x, y, Fa, g, rfl, _⟩ := h
    rfl
  · obtain ⟨x, y, Fa, g, rfl, ⟨dx, lg, xs, ho, hg, pr⟩, oF, iy, og, kk⟩ := h
    have nd := sc_tw.nd
    have hr1 : Room 1 _ := hr.mono (by decide)
    have hr2 : Room 2 _ := hr.mono (by decide)
    refine ⟨_, pss_cons (ps_set (i := 2) nd rfl (Or.inr rfl) (pe_fn NR hr1 xout rfl (pa_cons (pe_fn NG hr2 xout rfl (pa_cons (pv 1) pa_nil)) pa_nil)))
      (pss_cons (ps_setLcN (i := 3) [("other", 5)] [5] (gName 5) (tTest (tOp rLtO (tFn (spRK K) E0 (tCons (tFn (spGB K CG) E0 (tCons (tVar 5) tNil)) tNil)) (tVar 2))) (tVar 5) rfl nd rfl rfl (by rfl) (pi_list (pe_fld (pv 0) rfl)) (by kernel_rfl)
        (fun _ _ _ _ _ => pg_name (i := 5) nd rfl (Or.inl rfl) (Or.inr rfl)) (fun _ _ _ _ _ => pts_one (pt_cmpR (op_ltO (Nat.lt_of_succ_lt (hu_of hr))) (pe_fn0 NR hr1 rfl (pa_cons (pe_fn0 NG hr2 rfl (pa_cons (pv 5) pa_nil)) pa_nil)) (pv 2) (nomark _))) (fun _ _ _ _ _ => pv 5))
      (pss_cons (ps_set (i := 4) nd rfl (Or.inl rfl) (pe_slice sl_list (pe_fld (pv 0) rfl) (po_some (pe_callB call_len_seq (by rfl) T.len PySem.boot_len (pa_cons (pv 3) pa_nil))) po_none))
      (pss_cons (ps_if (PW.pt (pw_and (pt_cmpR op_gt (pe_callB call_len_seq (by rfl) T.len PySem.boot_len (pa_cons (pv 4) pa_nil)) pe_int (nomark _)) (pw_and1 (pt_cmpR (op_eqD (room64 hr)) (pe_fn NR hr1 xout rfl (pa_cons (pe_fn NG hr2 xout rfl (pa_cons (pe_ix ix_list (pv 4) pe_int (fun _ _ => rfl)) pa_nil)) pa_nil)) (pv 2) (nomark _))))) (pss_one (ps_ret (pe_lst (pa_cons (pe_cst cT rfl) pa_nil)))) pss_nil)
      (pss_cons (ps_if (pt_cmpR op_ge (pe_callB call_len_seq (by rfl) T.len PySem.boot_len (pa_cons (pe_fld (pv 0) rfl) pa_nil)) (pe_cst cG rfl) (nomark _)) (pss_one (ps_ret (pe_lst (pa_cons (pe_cst cM rfl) pa_nil)))) pss_nil)
      (pss_one (ps_ret (pe_fn NT hr1 xout rfl (pa_cons (pe_fn NB hr xout rfl (pa_cons (pe_mk MF hr2 xout rfl (pa_cons (pe_fld (pv 0) rfl) (pa_cons (pe_fld (pv 0) rfl) (pa_cons (pe_op op_cat (pe_op op_cat (pv 3) (pe_lst (pa_cons (pv 1) pa_nil))) (pv 4)) pa_nil)))) pa_nil)) pa_nil)))))))), ?_⟩
    have hln : (xs.map V.ref).length = Fa.glyphs.length := by rw [List.length_map, pr.length]
    have hnum := oF.num
    obtain ⟨gl1, gl2⟩ := glyph_lens og oF.h64
    -- rank
    refine ⟨_, rfl, y, g, Fa.height, rfl, G, iy, og, oF.h64, fun H1 a1 s1 n1 h1 => ?_⟩
    refine ⟨a1, _, rfl, SqL.of h1, gl1, gl2, fun H2 a2 s2 n2 h2 => ?_⟩
    have s12 := s1.trans s2
    -- lesser
    refine ⟨_, rfl, x, CF, dx, _, _, rfl, s12 _ _ ho, A.cl, A.nG, rfl, lg, rfl, ⟨_, SqL.of (s12 _ _ hg)⟩, ?_⟩
    refine lc_lst (xs := xs.map V.ref) (pickF (fun gi => Sh.lexLess (Sh.glyphKey gi) (Sh.glyphKey g)) V.ref xs Fa.glyphs) (SqL.of (s12 _ _ hg)) (by rw [hln, sizeLine_eq]; omega) ?_ (fun i z H3 R N hz s3 hR hN => ?_) (fun D H3 hD s3 hz3 => ?_)
    · exact fun _ => rfl
    · rw [List.getElem?_map] at hz
      obtain ⟨yi, hyi, rfl⟩ := Option.map_eq_some_iff.mp hz
      obtain ⟨gi, hgi, ii⟩ := Paired.at pr hyi
      have ogi := oF.glyphs gi (List.mem_of_getElem? hgi)
      obtain ⟨gi1, gi2⟩ := glyph_lens ogi oF.h64
      refine ⟨_, rfl, yi, gi, Fa.height, rfl, G, ii.same (s12.trans s3), ogi, oF.h64, fun H4 a4 s4 n4 h4 => ?_⟩
      refine ⟨a4, _, rfl, SqL.of h4, gi1, gi2, fun H5 a5 s5 n5 h5 => ?_⟩
      have s35 := s4.trans s5
      refine ⟨_, rfl, a5, a2, (rk (nats (Sh.writeGlyph gi))).map (fun z => ((z : Nat) : Int)), (rk (nats (Sh.writeGlyph g))).map (fun z => ((z : Nat) : Int)), rfl, rfl, by rw [h5, nV_ints], by rw [s35 _ _ (s3 _ _ h2), nV_ints], _, rfl, ?_⟩
      rw [lexLt_less, rk_less ogi og]
      refine iteB (fun hc => ?_) (fun hc => ?_)
      · exact ⟨_, rfl, hR _ H5 s35 (by unfold pickF; rw [hyi, hgi]; show (if _ then _ else _) = _; rw [if_pos hc])⟩
      · exact hN H5 s35 (by unfold pickF; rw [hyi, hgi]; show (if _ then _ else _) = _; rw [if_neg (by show ¬ Sh.lexLess (Sh.glyphKey gi) (Sh.glyphKey g) = true; rw [hc]; simp)])
    · obtain ⟨zs, ez, pz⟩ := pick (fun gi => Sh.lexLess (Sh.glyphKey gi) (Sh.glyphKey g)) V.ref pr
      rw [List.length_map] at hz3
      rw [ez] at hz3
      have pz : Paired (isGlyph CG H) zs (less g Fa.glyphs) := pz
      have hzl : (zs.map V.ref).length = (less g Fa.glyphs).length := by rw [List.length_map, pz.length]
      have s13 := s12.trans s3
      -- rest
      refine ⟨_, rfl, x, CF, dx, _, _, rfl, s13 _ _ ho, A.cl, A.nG, rfl, _, rfl, D, _, rfl, .inl (SqL.of hz3), _, rfl, lg, _, rfl, SqL.of (s13 _ _ hg), fun l4 n4 => ?_⟩
      rw [cut_from, hzl]
      have s4 := Same.new (o := .lst ((xs.map V.ref).drop (less g Fa.glyphs).length)) n4
      have s14 := s13.trans s4
      have hll : (less g Fa.glyphs).length ≤ Fa.glyphs.length := List.length_filter_le _ _
      have ins := insert_eq og oF.glyphs oF.rise
      -- what is left to do, when it is not there
      have fin : ∀ H6 : Hp, Same (upd H3 l4 (.lst ((xs.map V.ref).drop (less g Fa.glyphs).length))) H6 → Sh.insertGlyph g Fa.glyphs = some (less g Fa.glyphs ++ g :: Fa.glyphs.drop (less g Fa.glyphs).length) →
          (tSeq (tIfS (tTest (tOp (rI0 fun i j => V.bl (decide (j ≤ i))) (tCB (fun xs H Q => ∃ p ys, xs = [.ref p] ∧ (SqL K H p ys ∨ SqT K H p ys) ∧ Q (.int (ys.length : Nat)) H) (tCons (tFld K (tVar 0) "glyphs") tNil)) (tC (.int 4096)))) (tRet (tLst (tCons (tC (.int (-6))) tNil))) tNext)
            (tRet (tFn spTo E (tCons (tFn (spFB K CG CF) E (tCons (tMk CF ksA (tCons (tFld K (tVar 0) "height") (tCons (tFld K (tVar 0) "cost") (tCons (tOp rCat (tOp rCat (tVar 3) (tLst (tCons (tVar 1) tNil))) (tVar 4)) tNil)))) tNil)) tNil))))
            { nx := fun _ H' => Q .non H', rt := Q } [some (.ref x), some (.ref y), some (.ref a2), some (.ref D), some (.ref l4), none] H6 := fun H6 s6 hins => by
        have ep : ShB.putIn Fa g = if 4096 < (less g Fa.glyphs ++ g :: Fa.glyphs.drop (less g Fa.glyphs).length).length then ShB.no (-6) else .bytes (Sh.writeFace { Fa with glyphs := less g Fa.glyphs ++ g :: Fa.glyphs.drop (less g Fa.glyphs).length }) := by
          unfold ShB.putIn
          rw [hins]; rfl
        rw [ep] at kk
        have elen : (less g Fa.glyphs ++ g :: Fa.glyphs.drop (less g Fa.glyphs).length).length = Fa.glyphs.length + 1 := by
          rw [List.length_append, List.length_cons, List.length_drop]; omega
        rw [elen] at kk
        have s16 := s14.trans s6
        refine ⟨_, rfl, x, CF, dx, _, _, rfl, s16 _ _ ho, A.cl, A.nG, rfl, lg, _, rfl, .inl (SqL.of (s16 _ _ hg)), _, _, rfl, rfl, _, rfl, ?_⟩
        rw [hln]
        refine iteD (fun hc => ?_) (fun hc => ?_)
        · have hc : (4096 : Int) ≤ ((Fa.glyphs.length : Nat) : Int) := hc
          rw [if_pos (by omega)] at kk
          exact ⟨(by show 1 ≤ sizeLine; decide), fun l hl => kk _ l upd_same⟩
        have hc : ¬ (4096 : Int) ≤ ((Fa.glyphs.length : Nat) : Int) := hc
        rw [if_neg (by omega), told_bytes] at kk
        refine ⟨_, rfl, x, CF, dx, _, _, rfl, s16 _ _ ho, A.cl, A.nH, rfl, _, rfl, x, CF, dx, _, _, rfl, s16 _ _ ho, A.cl, A.nC, rfl, _, rfl, _, rfl, (by show 1 ≤ sizeLine; decide), fun l7 n7 => ?_⟩
        have hD6 : H6 D = some (.lst (zs.map V.ref)) := s6 _ _ (s4 _ _ hz3)
        have h46 : H6 l4 = some (.lst ((xs.map V.ref).drop (less g Fa.glyphs).length)) := s6 _ _ upd_same
        have s7 := Same.new (o := .lst [V.ref y]) n7
        refine ⟨D, l7, _, _, rfl, rfl, s7 _ _ hD6, upd_same, (by rw [hzl, sizeLine_eq]; show _ + 1 ≤ _; omega), fun l8 n8 => ?_⟩
        have s8 := Same.new (o := .lst (zs.map V.ref ++ [V.ref y])) n8
        refine ⟨_, rfl, l8, l4, _, _, rfl, rfl, upd_same, s8 _ _ (s7 _ _ h46), (by rw [List.length_append, hzl, List.length_drop, hln, sizeLine_eq]; show _ + 1 + _ ≤ _; omega), fun l9 n9 => ?_⟩
        have s9 := Same.new (o := .lst (zs.map V.ref ++ [V.ref y] ++ (xs.map V.ref).drop (less g Fa.glyphs).length)) n9
        have s19 := ((s16.trans s7).trans s8).trans s9
        refine ⟨rfl, fun z dz H10 hz s10 hzo => ?_⟩
        have s1A := s19.trans s10
        have oN : FOk' { Fa with glyphs := less g Fa.glyphs ++ g :: Fa.glyphs.drop (less g Fa.glyphs).length } := by
          refine ⟨oF.h64, fun gi hgi => ?_, ?_⟩
          · rcases List.mem_append.mp hgi with q | q
            · exact oF.glyphs gi ((List.mem_filter.mp q).1)
            · rcases List.mem_cons.mp q with rfl | q
              · exact og
              · exact oF.glyphs gi (List.mem_of_mem_drop q)
          · show (less g Fa.glyphs ++ g :: Fa.glyphs.drop (less g Fa.glyphs).length).length ≤ 5000
            rw [elen]; omega
        refine ⟨z, { Fa with glyphs := less g Fa.glyphs ++ g :: Fa.glyphs.drop (less g Fa.glyphs).length }, rfl, ⟨dz, l9, zs ++ y :: xs.drop (less g Fa.glyphs).length, hzo, ?_, ?_⟩, oN, (fun _ _ => G), fun H11 p s11 _ h11 => ?_⟩
        · rw [s10 _ _ upd_same, ← List.map_drop]
          simp
        · exact L2.Paired.mapP (Paired.appendP pz (.cons iy (Paired.dropP _ pr))) fun _ _ q => q.same s1A
        · exact ⟨p, _, rfl, h11, face_len oN, fun H12 q s12 h12 => kk H12 q h12⟩
      have hdl : ((xs.map V.ref).drop (less g Fa.glyphs).length).length = (Fa.glyphs.drop (less g Fa.glyphs).length).length := by rw [List.length_drop, List.length_drop, hln]
      refine ⟨_, rfl, l4, _, rfl, .inl (SqL.of upd_same), _, _, rfl, rfl, _, rfl, ?_⟩
      rw [hdl]
      cases ed : Fa.glyphs.drop (less g Fa.glyphs).length with
      | nil =>
        rw [ed] at ins
        have hins : Sh.insertGlyph g Fa.glyphs = some (less g Fa.glyphs ++ g :: Fa.glyphs.drop (less g Fa.glyphs).length) := by rw [ed]; exact ins
        exact fin _ (Same.refl' _) hins
      | cons fr rr =>
        rw [ed] at ins
        have ins : Sh.insertGlyph g Fa.glyphs = if g = fr then none else some (less g Fa.glyphs ++ g :: fr :: rr) := ins
        have hm : Fa.glyphs[(less g Fa.glyphs).length]? = some fr := by
          have := congrArg (fun l => l[0]?) ed
          simpa using this
        obtain ⟨yr, hyr, ir⟩ := Paired.get2 pr hm
        have hx0 : ((xs.map V.ref).drop (less g Fa.glyphs).length)[0]? = some (.ref yr) := by
          rw [List.getElem?_drop, List.getElem?_map, Nat.add_zero, hyr]; rfl
        have ofr := oF.glyphs fr (List.mem_of_getElem? hm)
        obtain ⟨fr1, fr2⟩ := glyph_lens ofr oF.h64
        have hpos : (0 : Int) < (((fr :: rr).length : Nat) : Int) := by rw [List.length_cons]; omega
        refine iteD (fun _ => ?_) (fun z => absurd hpos z)
        refine ⟨_, rfl, l4, _, _, _, rfl, rfl, SqL.of upd_same, at_of (j := 0) rfl hx0, yr, fr, Fa.height, rfl, G, ir.same s14, ofr, oF.h64, fun H6 a6 s6 n6 h6 => ?_⟩
        refine ⟨a6, _, rfl, SqL.of h6, fr1, fr2, fun H7 a7 s7 n7 h7 => ?_⟩
        have s67 := s6.trans s7
        have h27 : H7 a2 = some (.lst (nV (rk (nats (Sh.writeGlyph g))))) := s67 _ _ (s4 _ _ (s3 _ _ h2))
        refine ⟨_, rfl, _, _, .lst (SqL.of h7) (dp_nats _), .lst (SqL.of h27) (dp_nats _), shaped_nats _, shaped_nats _, _, rfl, ?_⟩
        rw [eqv_nats]
        refine iteD (fun hc => ?_) (fun hc => ?_)
        · have hgf := (rk_eq ofr og).mp hc
          rw [if_pos hgf] at ins
          have ep : ShB.putIn Fa g = ShB.no (-2) := by unfold ShB.putIn; rw [ins]
          rw [ep] at kk
          exact ⟨(by show 1 ≤ sizeLine; decide), fun l hl => kk _ l upd_same⟩
        · have hgf : ¬ g = fr := fun z => hc ((rk_eq ofr og).mpr z)
          rw [if_neg hgf] at ins
          exact fin H7 s67 (by rw [ed]; exact ins)
theorem sc_put : FnScope ["letter", "width", "budget", "cost", "face", "points", "known", "fault", "rows", "start"] ["letter", "width", "budget", "cost", "face", "points"] (defScope s_put) := ⟨rfl, rfl, rfl, by decide +kernel, rfl, by decide +kernel, by decide +kernel⟩
theorem ok_put {f : Addr} {fd : FuncData} (F : Fun K "put" "put" s_put f fd) (T : Txt mg) (FC : FCls K mg C) (A : ACls K CF) (cL : Con mg "MOST_LETTER" 4095) (cW : Con mg "MOST_WIDTH" 64) (cB : Con mg "MOST_BUDGET" 4096) (cC : Con mg "MOST_COST" 4095) (cF : Con mg "FREE" 2) (cO : Con mg "OUT_OF_BOUNDS" (-1))
    (NF : Cal P w K mg base "read_face" 7 ["form", "which"] (spRF K C CG CF)) (NH : CalH P w K mg base "refused_form" 1 ["fault"] (spFF C)) (MG : Mak P w K mg base "Glyph" CG 1 ksG) (NW : Cal P w K mg base "told_with" 4 ["known", "shape"] (spTW K CG CF)) :
    FnOk P w K mg base (CX1 P w) 8 f fd ["letter", "width", "budget", "cost", "face", "points"] (spPut K) := by
  refine F.okX sc_put (fun vs H Q E h => ?_) (fun cdv A' outer s H vs Q E hr h => ?_)
  · obtain ⟨l, wd, u, c, a, b, q, t, rfl, _⟩ := h
    rfl
  · obtain ⟨l, wd, u, c, a, b, q, t, rfl, hS, hb, hT, ht, kk⟩ := h
    have nd := sc_put.nd
    obtain ⟨fI, xc⟩ := FC.c
    have hr2 : Room 2 _ := hr.mono (by decide)
    refine ⟨_, pss_cons (ps_if (PW.pt (pw_or (pt_cmpR op_gt (pv 0) (pe_cst cL rfl) (nomark _)) (pw_or (pt_cmpR op_lt (pv 1) pe_int (nomark _)) (pw_or (pt_cmpR op_gt (pv 1) (pe_cst cW rfl) (nomark _)) (pw_or (pt_cmpR op_gt (pv 2) (pe_cst cB rfl) (nomark _)) (pw_or1 (pt_cmpR op_gt (pv 3) (pe_cst cC rfl) (nomark _)))))))) (pss_one (ps_ret (pe_lst (pa_cons (pe_cst cO rfl) pa_nil)))) pss_nil)
      (pss_cons (ps_if (pt_cmpR op_gt (pe_maxd rfl (by rfl) T.max (by rfl) (pa_cons (pv 5) pa_nil) (pk_cons pe_int pk_nil)) (pe_cst cF rfl) (nomark _)) (pss_one (ps_ret (pe_lst (pa_cons (pe_cst cO rfl) pa_nil)))) pss_nil)
      (pss_cons (ps_try1 (i := 6) (j := 7) ⟨rfl, rfl, rfl, ⟨fI, namesF, xc⟩, rfl, FC.m, nd, rfl, rfl, fun _ => rfl, (by intro c z; cases z), by decide⟩ NF hr rfl rfl (Or.inl rfl) (pa_cons (pv 4) (pa_cons pe_int pa_nil))
        (fun a => pss_one (ps_ret (pe_fnH NH (RoomH.of (hr.mono (by decide)) a) rfl (pa_cons (pv 7) pa_nil)))))
      (pss_cons (ps_if (pt_cmpR op_ne (pe_callB call_len_seq (by rfl) T.len PySem.boot_len (pa_cons (pv 5) pa_nil)) (pe_op op_mul (pv 1) (pe_fld (pv 6) rfl)) (nomark _)) (pss_one (ps_ret (pe_lst (pa_cons (pe_cst cO rfl) pa_nil)))) pss_nil)
      (pss_cons (ps_setLcN (i := 8) [("start", 9)] [9] (gName 9) tYes (tSl (rSlL K) (tVar 5) (tPart (tVar 9)) (tPart (tOp (rI0 fun i j => V.int (i + j)) (tVar 9) (tVar 1)))) rfl nd rfl rfl (by rfl) (pi_range3 rfl T.range (pa_cons pe_int (pa_cons (pe_callB call_len_seq (by rfl) T.len PySem.boot_len (pa_cons (pv 5) pa_nil)) (pa_cons (pv 1) pa_nil)))) (by kernel_rfl)
        (fun _ _ _ _ _ => pg_name (i := 9) nd rfl (Or.inl rfl) (Or.inr rfl)) (fun _ _ _ _ _ => pts_nil) (fun _ _ _ _ _ => pe_slice sl_list (pv 5) (po_some (pv 9)) (po_some (pe_op op_add (pv 9) (pv 1)))))
      (pss_one (ps_ret (pe_fn NW (hr.mono (by decide)) xout rfl (pa_cons (pv 6) (pa_cons (pe_mk MG hr2 xout rfl (pa_cons (pv 0) (pa_cons (pv 1) (pa_cons (pv 2) (pa_cons (pv 3) (pa_cons (pv 8) pa_nil)))))) pa_nil))))))))), ?_⟩
    have ea : ShB.answer (.put l wd u c b t) = if ShB.numbersOk l wd u c = false ∨ (t.any fun n => decide (2 < n)) = true then ShB.no (-1) else ShB.judged 0 (Sh.judgeFace b) fun F => if t.length = wd * F.height then ShB.putIn F ⟨l, wd, ShB.planeOf wd F.height t 1, ShB.planeOf wd F.height t 0, u, c⟩ else ShB.no (-1) := rfl
    rw [ea] at kk
    have eN : ShB.numbersOk l wd u c = true ↔ l ≤ 4095 ∧ 1 ≤ wd ∧ wd ≤ 64 ∧ u ≤ 4096 ∧ c ≤ 4095 := by
      unfold ShB.numbersOk
      simp only [Bool.and_eq_true, decide_eq_true_eq]
      exact Iff.rfl
    have bad : ¬ (l ≤ 4095 ∧ 1 ≤ wd ∧ wd ≤ 64 ∧ u ≤ 4096 ∧ c ≤ 4095) → ∀ p, H p = none → Q (.ref p) (upd H p (.lst [.int (-1)])) := fun z p _ => by
      rw [if_pos (.inl (by cases hx : ShB.numbersOk l wd u c with | false => rfl | true => exact absurd (eN.mp hx) z))] at kk
      exact kk _ p upd_same
    refine ⟨_, rfl, _, _, rfl, rfl, _, rfl, ?_⟩
    refine ite2 (fun hc => ?_) (fun hc => ?_)
    · have hc : (4095 : Int) < ((l : Nat) : Int) := of_decide_eq_true hc
      exact iteT ⟨(by show 1 ≤ sizeLine; decide), fun p hp => bad (by omega) p hp⟩
    have c1 : ¬ (4095 : Int) < ((l : Nat) : Int) := fun z => hc (decide_eq_true z)
    refine ⟨_, rfl, _, _, rfl, rfl, _, rfl, ?_⟩
    refine ite2 (fun hc => ?_) (fun hc => ?_)
    · have hc : ((wd : Nat) : Int) < (1 : Int) := of_decide_eq_true hc
      exact iteT ⟨(by show 1 ≤ sizeLine; decide), fun p hp => bad (by omega) p hp⟩
    have c2 : ¬ ((wd : Nat) : Int) < (1 : Int) := fun z => hc (decide_eq_true z)
    refine ⟨_, rfl, _, _, rfl, rfl, _, rfl, ?_⟩
    refine ite2 (fun hc => ?_) (fun hc => ?_)
    · have hc : (64 : Int) < ((wd : Nat) : Int) := of_decide_eq_true hc
      exact iteT ⟨(by show 1 ≤ sizeLine; decide), fun p hp => bad (by omega) p hp⟩
    have c3 : ¬ (64 : Int) < ((wd : Nat) : Int) := fun z => hc (decide_eq_true z)
    refine ⟨_, rfl, _, _, rfl, rfl, _, rfl, ?_⟩
    refine ite2 (fun hc => ?_) (fun hc => ?_)
    · have hc : (4096 : Int) < ((u : Nat) : Int) := of_decide_eq_true hc
      exact iteT ⟨(by show 1 ≤ sizeLine; decide), fun p hp => bad (by omega) p hp⟩
    have c4 : ¬ (4096 : Int) < ((u : Nat) : Int) := fun z => hc (decide_eq_true z)
    refine ⟨_, rfl, _, _, rfl, rfl, _, rfl, ?_⟩
    refine ite2 (fun hc => ?_) (fun hc => ?_)
    · have hc : (4095 : Int) < ((c : Nat) : Int) := of_decide_eq_true hc
      exact ⟨(by show 1 ≤ sizeLine; decide), fun p hp => bad (by omega) p hp⟩
    have c5 : ¬ (4095 : Int) < ((c : Nat) : Int) := fun z => hc (decide_eq_true z)
    have nOk : ShB.numbersOk l wd u c = true := eN.mpr (by omega)
    -- the points
    refine ⟨_, rfl, q, t.map (fun z => ((z : Nat) : Int)), _, rfl, rfl, by rw [← nV_ints]; exact hT, fun v hv => ?_⟩
    obtain ⟨m, rfl, hm⟩ : ∃ m : Int, v = .int m ∧ (2 < m ↔ (t.any fun n => decide (2 < n)) = true) := by
      rcases hv with ⟨h0, rfl⟩ | ⟨m, rfl, h1, h2⟩
      · have e : t = [] := List.map_eq_nil_iff.mp h0
        subst e
        exact ⟨_, rfl, by simp⟩
      · refine ⟨m, rfl, fun h => ?_, fun h => ?_⟩
        · obtain ⟨z, hz, rfl⟩ := List.mem_map.mp h1
          exact List.any_eq_true.mpr ⟨z, hz, decide_eq_true (by omega)⟩
        · obtain ⟨z, hz, hz2⟩ := List.any_eq_true.mp h
          have := of_decide_eq_true hz2
          have := h2 _ (List.mem_map.mpr ⟨z, hz, rfl⟩)
          omega
    refine ⟨_, _, rfl, rfl, _, rfl, ?_⟩
    refine iteD (fun hc => ?_) (fun hc => ?_)
    · have hc : (2 : Int) < m := hc
      rw [if_pos (.inr (hm.mp hc))] at kk
      exact ⟨(by show 1 ≤ sizeLine; decide), fun p hp => kk _ p upd_same⟩
    have hc : ¬ (2 : Int) < m := hc
    have hany : ¬ (t.any fun n => decide (2 < n)) = true := fun z => hc (hm.mpr z)
    have h2 : ∀ z ∈ t, z ≤ 2 := fun z hz => by
      by_cases hle : z ≤ 2
      · exact hle
      · exact absurd (List.any_eq_true.mpr ⟨z, hz, decide_eq_true (by omega)⟩) hany
    have hno : ¬ (ShB.numbersOk l wd u c = false ∨ (t.any fun n => decide (2 < n)) = true) := by
      rintro (z | z)
      · rw [nOk] at z; cases z
      · exact hany z
    rw [if_neg hno] at kk
    refine ⟨_, rfl, a, b, 0, rfl, hS, hb, ?_⟩
    cases e : Sh.judgeFace b with
    | error z =>
      rw [e] at kk
      exact hand_ff (by show 7 < 10; decide) kk
    | ok Fa =>
    rw [e] at kk
    obtain ⟨oF, _, _⟩ := judgeFace_ok e
    have kk : ∀ H' p, H' p = some (.lst (iV (ShapeNeutral.told (if t.length = wd * Fa.height then ShB.putIn Fa ⟨l, wd, ShB.planeOf wd Fa.height t 1, ShB.planeOf wd Fa.height t 0, u, c⟩ else ShB.no (-1))))) → Q (.ref p) H' := kk
    rintro _ H1 s1 ⟨x, rfl, ix⟩
    obtain ⟨dx, lg, xs, ho, hg, pr⟩ := id ix
    have h64 := oF.h64
    have hmul : wd * Fa.height ≤ 64 * 64 := Nat.mul_le_mul (by omega) h64
    refine ⟨_, rfl, q, _, rfl, .inl (s1.seq hT), _, rfl, _, rfl, x, CF, dx, _, _, rfl, ho, A.cl, A.nH, rfl, _, _, rfl, rfl, .inl ⟨by omega, by omega⟩, rfl, _, rfl, ?_⟩
    rw [List.length_map]
    refine iteNe (fun h1 => ?_) (fun h1 => ?_)
    · rw [if_neg (fun z => h1 (by rw [z, Int.natCast_mul]))] at kk
      exact ⟨(by show 1 ≤ sizeLine; decide), fun p hp => kk _ p upd_same⟩
    have hlen : t.length = wd * Fa.height := by
      rw [← Int.natCast_mul] at h1
      exact Int.ofNat.inj h1
    rw [if_pos hlen] at kk
    refine ⟨_, rfl, q, _, rfl, .inl (s1.seq hT), _, rfl, 0, ((wd * Fa.height : Nat) : Int), (wd : Int), Fa.height, ?_, rgW (by omega) (by omega) h64, ?_⟩
    · rw [List.length_map, hlen]
    refine lc_cuts (s1.seq hT) (by rw [sizeLine_eq]; omega) (fun _ => rfl) (fun _ => rfl) (fun _ => rfl) (fun _ => rfl) fun D H2 s2 hD => ?_
    refine ⟨_, rfl, _, rfl, _, rfl, _, rfl, _, rfl, _, rfl, rfl, fun z dz H3 hz s3 hzo => ?_⟩
    have s13 := s2.trans s3
    refine ⟨x, z, Fa, ⟨l, wd, ShB.planeOf wd Fa.height t 1, ShB.planeOf wd Fa.height t 0, u, c⟩, rfl, ix.same s13, oF, ⟨dz, D, hzo, ?_⟩, put_ok (by omega) (by omega) (by omega) (by omega) (by omega), kk⟩
    rw [← put_rows hlen h2]
    exact (hD.same nw_same).same s3
end Fc
end
section
set_option Elab.async false
set_option linter.all false
set_option maxRecDepth 100000
set_option maxHeartbeats 2000000
namespace L2
open PySem PySem.Spec PyProof.Rows
open PySem.W (OpenSpec Codec WData)
theorem walk_specX {r : OpenSpec} {k : Nat} {q : Program} {loose : List Str} {XP : (Str → Option Value) → Heap → Prop} {YP : World → Heap → Prop} {d : DefRec} {K : Params → PySem.W.Frag} {ps : List Str} {sp : PySem.W.Frag → Sp}
    (hwell : r.wellSaid = true) (hdf : d.params.defaults = []) (hlen : r.args.length = ps.length) (hr : Room k callerA)
    (hY : ∀ (w : World) (h : Heap), YP w h → (K w.params).In h)
    (F : ∀ (w : World) (mg : Str → Option Value) (fa : Addr) (h : Heap), YP w h → (K w.params).In h → h.Ns mainGlobals mg → mg d.name = some (.ref fa) →
      ∃ fd : FuncData, (∀ (s : Shared) (us : List Value), us.length = ps.length → BindsTo s fd ⟨us, []⟩ (ps.zip us)) ∧
        ∀ base : Heap, (K w.params).In base → base.Ns mainGlobals mg → FnOk r.prog w (K w.params) mg base (CX1 r.prog w) k fa fd ps (sp (K w.params)))
    (hsp : ∀ (K : PySem.W.Frag) (H : Hp) (xs : List V) (a : Codec.denoteAll r.args), OnlyF H → Codec.withinAll r.args a = true → Codec.app r.args r.asked a = true → DwAll K H xs (Codec.encAll r.args a) →
      sp K xs H (fun v H' => Dw K H' v (r.ret.enc (Codec.app r.args r.f a))) fun _ _ _ => False) :
    PySem.W.WalkOS q loose XP YP r d [] (fun f vs => PySem.call f vs) :=
  walk_spec (K := K) (CX := fun w => CX1 r.prog w) (sp := fun w => sp (K w.params)) hwell hdf hlen hr hY F (fun w H xs a h1 h2 h3 h4 => hsp (K w.params) H xs a h1 h2 h3 h4) fun w H s e s' h => by
    obtain ⟨_, _, _, _, _, _, _, _, _, _, hf⟩ := h
    exact hf
end L2
namespace Fc
open PySem PySem.Spec PyProof.Rows L2
open PySem.W (OpenSpec Codec WData)
open Sh (Bytes)
theorem len0 {A : Type} {us : List A} (h : us.length = 0) : us = [] := List.length_eq_zero_iff.mp h
theorem len1 {A : Type} {us : List A} (h : us.length = 1) : ∃ a, us = [a] := by
  cases us with
  | nil => cases h
  | cons a r => exact ⟨a, by rw [len0 (Nat.succ.inj h)]⟩
theorem len2 {A : Type} {us : List A} (h : us.length = 2) : ∃ a0 a1, us = [a0, a1] := by
  cases us with
  | nil => cases h
  | cons a r =>
    obtain ⟨a1, rfl⟩ := len1 (Nat.succ.inj h)
    exact ⟨a, a1, rfl⟩
theorem len3 {A : Type} {us : List A} (h : us.length = 3) : ∃ a0 a1 a2, us = [a0, a1, a2] := by
  cases us with
  | nil => cases h
  | cons a r =>
    obtain ⟨a1, a2, rfl⟩ := len2 (Nat.succ.inj h)
    exact ⟨a, a1, a2, rfl⟩
theorem len4 {A : Type} {us : List A} (h : us.length = 4) : ∃ a0 a1 a2 a3, us = [a0, a1, a2, a3] := by
  cases us with
  | nil => cases h
  | cons a r =>
    obtain ⟨a1, a2, a3, rfl⟩ := len3 (Nat.succ.inj h)
    exact ⟨a, a1, a2, a3, rfl⟩
theorem len5 {A : Type} {us : List A} (h : us.length = 5) : ∃ a0 a1 a2 a3 a4, us = [a0, a1, a2, a3, a4] := by
  cases us with
  | nil => cases h
  | cons a r =>
    obtain ⟨a1, a2, a3, a4, rfl⟩ := len4 (Nat.succ.inj h)
    exact ⟨a, a1, a2, a3, a4, rfl⟩
theorem len6 {A : Type} {us : List A} (h : us.length = 6) : ∃ a0 a1 a2 a3 a4 a5, us = [a0, a1, a2, a3, a4, a5] := by
  cases us with
  | nil => cases h
  | cons a r =>
    obtain ⟨a1, a2, a3, a4, a5, rfl⟩ := len5 (Nat.succ.inj h)
    exact ⟨a, a1, a2, a3, a4, a5, rfl⟩
def bOf (ns : List Int) : Bytes := ns.map fun z => UInt8.ofNat z.toNat
theorem bOf_ints : ∀ {ns : List Int}, (∀ x ∈ ns, 0 ≤ x ∧ x ≤ 255) → (bOf ns).map (fun c => V.int (c.toNat : Nat)) = ns.map V.int
  | [], _ => rfl
  | z :: r, h => by
    have h1 := h z List.mem_cons_self
    have ih := bOf_ints (ns := r) fun x hx => h x (List.mem_cons_of_mem _ hx)
    show V.int ((UInt8.ofNat z.toNat).toNat : Nat) :: _ = V.int z :: _
    have e : (((UInt8.ofNat z.toNat).toNat : Nat) : Int) = z := by
      rw [UInt8.toNat_ofNat', Nat.mod_eq_of_lt (by omega)]; omega
    rw [e]
    exact congrArg _ ih
theorem bytes_of {ns : List Int} (h : ∀ x ∈ ns, 0 ≤ x ∧ x ≤ 255) : ShapeNeutral.bytes ns = some (bOf ns) := by
  unfold ShapeNeutral.bytes
  rw [if_pos]
  · rfl
  · unfold NeutralIO.bytes
    rw [List.all_eq_true]
    intro x hx
    have := h x hx
    rw [decide_eq_true this.1, decide_eq_true this.2]; rfl
theorem nat_of {z : Int} (h : 0 ≤ z) : ShapeNeutral.nat z = some z.toNat := by
  unfold ShapeNeutral.nat
  rw [if_neg (by omega)]
theorem list_in {lo hi : Int} {most : Nat} {ns : List Int} (h : (Codec.inLen 0 most ns && ns.all (Codec.inInt lo hi)) = true) : ns.length ≤ most ∧ ∀ x ∈ ns, lo ≤ x ∧ x ≤ hi := by
  rw [Bool.and_eq_true] at h
  refine ⟨(Codec.inNat_iff.mp h.1).2, fun x hx => ?_⟩
  have := List.all_eq_true.mp h.2 x hx
  exact Codec.inInt_iff.mp this
theorem req_bytes {K : PySem.W.Frag} {H : Hp} {v : V} {ns : List Int} {most : Nat} (h : Dw K H v (.list (ns.map WData.int))) (hw : (Codec.inLen 0 most ns && ns.all (Codec.inInt 0 255)) = true) :
    ∃ a, v = .ref a ∧ SqL K H a ((bOf ns).map fun c => V.int (c.toNat : Nat)) ∧ (bOf ns).length ≤ most ∧ ShapeNeutral.bytes ns = some (bOf ns) := by
  obtain ⟨h1, h2⟩ := list_in hw
  cases h with
  | lst hs ha =>
    have e := ints_dw ns _ ha
    subst e
    exact ⟨_, rfl, by rw [bOf_ints h2]; exact hs, by unfold bOf; rw [List.length_map]; exact h1, bytes_of h2⟩
def nOf (ns : List Int) : List Nat := ns.map Int.toNat
theorem nOf_ints : ∀ {ns : List Int}, (∀ x ∈ ns, 0 ≤ x ∧ x ≤ 255) → (nOf ns).map (fun z => V.int (z : Nat)) = ns.map V.int
  | [], _ => rfl
  | z :: r, h => by
    have h1 := h z List.mem_cons_self
    have ih := nOf_ints (ns := r) fun x hx => h x (List.mem_cons_of_mem _ hx)
    show V.int ((z.toNat : Nat) : Int) :: _ = V.int z :: _
    rw [show ((z.toNat : Nat) : Int) = z by omega]
    exact congrArg _ ih
theorem nats_of : ∀ {ns : List Int}, (∀ x ∈ ns, 0 ≤ x ∧ x ≤ 255) → ns.mapM ShapeNeutral.nat = some (nOf ns)
  | [], _ => rfl
  | z :: r, h => by
    have h1 := h z List.mem_cons_self
    have ih := nats_of (ns := r) fun x hx => h x (List.mem_cons_of_mem _ hx)
    rw [List.mapM_cons, nat_of h1.1, ih]; rfl
theorem req_nats {K : PySem.W.Frag} {H : Hp} {v : V} {ns : List Int} {most : Nat} (h : Dw K H v (.list (ns.map WData.int))) (hw : (Codec.inLen 0 most ns && ns.all (Codec.inInt 0 255)) = true) :
    ∃ a, v = .ref a ∧ SqL K H a ((nOf ns).map fun z => V.int (z : Nat)) ∧ (nOf ns).length ≤ most ∧ ns.mapM ShapeNeutral.nat = some (nOf ns) := by
  obtain ⟨h1, h2⟩ := list_in hw
  cases h with
  | lst hs ha =>
    have e := ints_dw ns _ ha
    subst e
    exact ⟨_, rfl, by rw [nOf_ints h2]; exact hs, by unfold nOf; rw [List.length_map]; exact h1, nats_of h2⟩
theorem req_int {K : PySem.W.Frag} {H : Hp} {v : V} {z : Int} (h : Dw K H v (.int z)) (hw : Codec.inInt 0 18446744073709551615 z = true) : ∃ n : Nat, v = .int (n : Nat) ∧ z = (n : Nat) ∧ ShapeNeutral.nat z = some n ∧ n ≤ 18446744073709551615 := by
  have h2 := Codec.inInt_iff.mp hw
  cases h
  have e : z = ((z.toNat : Nat) : Int) := by omega
  exact ⟨z.toNat, by rw [← e], e, nat_of h2.1, by omega⟩
theorem give_ints {K : PySem.W.Frag} {H : Hp} {p : Addr} {ns : List Int} (h : H p = some (.lst (ns.map V.int))) : Dw K H (.ref p) (.list (ns.map WData.int)) := .lst (SqL.of h) (dw_ints _)
end Fc
end
section
set_option Elab.async false
set_option linter.all false
set_option maxRecDepth 100000
set_option maxHeartbeats 4000000
namespace Fc
open PySem PySem.Spec PyProof.Rows L2
open FA
open Sh (Bytes)
theorem all_mk {P : Program} {w : World} {K : PySem.W.Frag} {h : Heap} {mg : Str → Option Value} {fa : Addr} (X : K.In h) (G : h.Ns mainGlobals mg) (hfa : mg "put" = some (.ref fa))
    {C : Addr} {f_Fault_init : Addr} {od_Fault_init an_Fault_init : Option Addr} {sl_Fault_init : Array (Option Value)} {oc_Fault_init kV_Fault_init dc_Fault_init pm_Fault_init cd_Fault_init ct_Fault_init : Value} {CG : Addr} {f_Glyph_init : Addr} {od_Glyph_init an_Glyph_init : Option Addr} {sl_Glyph_init : Array (Option Value)} {oc_Glyph_init kV_Glyph_init dc_Glyph_init pm_Glyph_init cd_Glyph_init ct_Glyph_init : Value} {CF : Addr} {f_Face_init : Addr} {od_Face_init an_Face_init : Option Addr} {sl_Face_init : Array (Option Value)} {oc_Face_init kV_Face_init dc_Face_init pm_Face_init cd_Face_init ct_Face_init : Value} {CR : Addr} {f_Reader_init : Addr} {od_Reader_init an_Reader_init : Option Addr} {sl_Reader_init : Array (Option Value)} {oc_Reader_init kV_Reader_init dc_Reader_init pm_Reader_init cd_Reader_init ct_Reader_init : Value} {f_Reader_take_number : Addr} {od_Reader_take_number an_Reader_take_number : Option Addr} {sl_Reader_take_number : Array (Option Value)} {oc_Reader_take_number kV_Reader_take_number dc_Reader_take_number pm_Reader_take_number cd_Reader_take_number ct_Reader_take_number : Value} {f_Reader_take_bounded : Addr} {od_Reader_take_bounded an_Reader_take_bounded : Option Addr} {sl_Reader_take_bounded : Array (Option Value)} {oc_Reader_take_bounded kV_Reader_take_bounded dc_Reader_take_bounded pm_Reader_take_bounded cd_Reader_take_bounded ct_Reader_take_bounded : Value} {f_Reader_take_mark : Addr} {od_Reader_take_mark an_Reader_take_mark : Option Addr} {sl_Reader_take_mark : Array (Option Value)} {oc_Reader_take_mark kV_Reader_take_mark dc_Reader_take_mark pm_Reader_take_mark cd_Reader_take_mark ct_Reader_take_mark : Value} {f_Reader_take_end : Addr} {od_Reader_take_end an_Reader_take_end : Option Addr} {sl_Reader_take_end : Array (Option Value)} {oc_Reader_take_end kV_Reader_take_end dc_Reader_take_end pm_Reader_take_end cd_Reader_take_end ct_Reader_take_end : Value} {f_read_face : Addr} {od_read_face an_read_face : Option Addr} {sl_read_face : Array (Option Value)} {oc_read_face kV_read_face dc_read_face pm_read_face cd_read_face ct_read_face : Value} {f_read_glyph : Addr} {od_read_glyph an_read_glyph : Option Addr} {sl_read_glyph : Array (Option Value)} {oc_read_glyph kV_read_glyph dc_read_glyph pm_read_glyph cd_read_glyph ct_read_glyph : Value} {f_read_plane : Addr} {od_read_plane an_read_plane : Option Addr} {sl_read_plane : Array (Option Value)} {oc_read_plane kV_read_plane dc_read_plane pm_read_plane cd_read_plane ct_read_plane : Value} {f_read_plane_row : Addr} {od_read_plane_row an_read_plane_row : Option Addr} {sl_read_plane_row : Array (Option Value)} {oc_read_plane_row kV_read_plane_row dc_read_plane_row pm_read_plane_row cd_read_plane_row ct_read_plane_row : Value} {f_face_bytes : Addr} {od_face_bytes an_face_bytes : Option Addr} {sl_face_bytes : Array (Option Value)} {oc_face_bytes kV_face_bytes dc_face_bytes pm_face_bytes cd_face_bytes ct_face_bytes : Value} {f_glyph_bytes : Addr} {od_glyph_bytes an_glyph_bytes : Option Addr} {sl_glyph_bytes : Array (Option Value)} {oc_glyph_bytes kV_glyph_bytes dc_glyph_bytes pm_glyph_bytes cd_glyph_bytes ct_glyph_bytes : Value} {f_plane_bytes : Addr} {od_plane_bytes an_plane_bytes : Option Addr} {sl_plane_bytes : Array (Option Value)} {oc_plane_bytes kV_plane_bytes dc_plane_bytes pm_plane_bytes cd_plane_bytes ct_plane_bytes : Value} {f_number_bytes : Addr} {od_number_bytes an_number_bytes : Option Addr} {sl_number_bytes : Array (Option Value)} {oc_number_bytes kV_number_bytes dc_number_bytes pm_number_bytes cd_number_bytes ct_number_bytes : Value} {f_rank_of : Addr} {od_rank_of an_rank_of : Option Addr} {sl_rank_of : Array (Option Value)} {oc_rank_of kV_rank_of dc_rank_of pm_rank_of cd_rank_of ct_rank_of : Value} {f_row_size : Addr} {od_row_size an_row_size : Option Addr} {sl_row_size : Array (Option Value)} {oc_row_size kV_row_size dc_row_size pm_row_size cd_row_size ct_row_size : Value} {f_plane_of : Addr} {od_plane_of an_plane_of : Option Addr} {sl_plane_of : Array (Option Value)} {oc_plane_of kV_plane_of dc_plane_of pm_plane_of cd_plane_of ct_plane_of : Value} {f_kinds_of : Addr} {od_kinds_of an_kinds_of : Option Addr} {sl_kinds_of : Array (Option Value)} {oc_kinds_of kV_kinds_of dc_kinds_of pm_kinds_of cd_kinds_of ct_kinds_of : Value} {f_kind_of : Addr} {od_kind_of an_kind_of : Option Addr} {sl_kind_of : Array (Option Value)} {oc_kind_of kV_kind_of dc_kind_of pm_kind_of cd_kind_of ct_kind_of : Value} {f_both_in : Addr} {od_both_in an_both_in : Option Addr} {sl_both_in : Array (Option Value)} {oc_both_in kV_both_in dc_both_in pm_both_in cd_both_in ct_both_in : Value} {f_put : Addr} {od_put an_put : Option Addr} {sl_put : Array (Option Value)} {oc_put kV_put dc_put pm_put cd_put ct_put : Value} {f_refused_form : Addr} {od_refused_form an_refused_form : Option Addr} {sl_refused_form : Array (Option Value)} {oc_refused_form kV_refused_form dc_refused_form pm_refused_form cd_refused_form ct_refused_form : Value} {f_told_numbers : Addr} {od_told_numbers an_told_numbers : Option Addr} {sl_told_numbers : Array (Option Value)} {oc_told_numbers kV_told_numbers dc_told_numbers pm_told_numbers cd_told_numbers ct_told_numbers : Value} {f_told_with : Addr} {od_told_with an_told_with : Option Addr} {sl_told_with : Array (Option Value)} {oc_told_with kV_told_with dc_told_with pm_told_with cd_told_with ct_told_with : Value} {t_FACE_MARK : Addr} {t_MOST_HEIGHT : Tok} {t_MOST_WIDTH : Tok} {t_MOST_LETTER : Tok} {t_MOST_COST : Tok} {t_MOST_BUDGET : Tok} {t_MOST_GLYPHS : Tok} {t_PAPER : Tok} {t_INK : Tok} {t_FREE : Tok} {t_OUT_OF_BOUNDS : Tok} {t_THERE_ALREADY : Tok} {t_NOT_A_FORM : Tok} {t_TOO_MANY : Tok}
    (a_Fault : PySem.W.nsIn K mainGlobals "Fault" = some (some (.ref C)))
    (a_Fault_init : PySem.W.findIn K (.ref C) "__init__" = some (some (.ref f_Fault_init)))
    (x_Fault : excIn K C f_Fault_init namesF = true)
    (i_Fault_init : PySem.W.isFn K (.ref f_Fault_init) = true)
    (l_Fault_init : K.lookup f_Fault_init = some ⟨oc_Fault_init, od_Fault_init, .func (PySem.W.fnOf "__init__" "Fault.__init__" (defArgs s_Fault_init) (defBody s_Fault_init) (defScope s_Fault_init) .none kV_Fault_init dc_Fault_init pm_Fault_init an_Fault_init cd_Fault_init ct_Fault_init), sl_Fault_init⟩)
    (co_Fault_init : PySem.W.codeIn K cd_Fault_init "Fault.__init__" = true)
    (k_Fault_init : PySem.W.keepIn K (.ref f_Fault_init) = true)
    (sa_Fault : PySem.W.findIn K (.ref C) "__setattr__" = some (some (.builtin "object.__setattr__")))
    (kc_Fault : PySem.W.keepIn K (.ref C) = true)
    (a_Glyph : PySem.W.nsIn K mainGlobals "Glyph" = some (some (.ref CG)))
    (a_Glyph_init : PySem.W.findIn K (.ref CG) "__init__" = some (some (.ref f_Glyph_init)))
    (i_Glyph_init : PySem.W.isFn K (.ref f_Glyph_init) = true)
    (l_Glyph_init : K.lookup f_Glyph_init = some ⟨oc_Glyph_init, od_Glyph_init, .func (PySem.W.fnOf "__init__" "Glyph.__init__" (defArgs s_Glyph_init) (defBody s_Glyph_init) (defScope s_Glyph_init) .none kV_Glyph_init dc_Glyph_init pm_Glyph_init an_Glyph_init cd_Glyph_init ct_Glyph_init), sl_Glyph_init⟩)
    (co_Glyph_init : PySem.W.codeIn K cd_Glyph_init "Glyph.__init__" = true)
    (k_Glyph_init : PySem.W.keepIn K (.ref f_Glyph_init) = true)
    (sa_Glyph : PySem.W.findIn K (.ref CG) "__setattr__" = some (some (.builtin "object.__setattr__")))
    (kc_Glyph : PySem.W.keepIn K (.ref CG) = true)
    (pg_Glyph : PySem.W.plainGet K CG Str.empty = true)
    (hd_Glyph : PySem.W.hasDictIn K CG = true)
    (po_Glyph : PySem.W.plainOver K CG = true)
    (mk_Glyph : PySem.W.makesIn K CG = true)
    (n_Glyph_letter : PySem.W.findIn K (.ref CG) "letter" = some none)
    (n_Glyph_width : PySem.W.findIn K (.ref CG) "width" = some none)
    (n_Glyph_budget : PySem.W.findIn K (.ref CG) "budget" = some none)
    (n_Glyph_cost : PySem.W.findIn K (.ref CG) "cost" = some none)
    (n_Glyph_rows : PySem.W.findIn K (.ref CG) "rows" = some none)
    (a_Face : PySem.W.nsIn K mainGlobals "Face" = some (some (.ref CF)))
    (a_Face_init : PySem.W.findIn K (.ref CF) "__init__" = some (some (.ref f_Face_init)))
    (i_Face_init : PySem.W.isFn K (.ref f_Face_init) = true)
    (l_Face_init : K.lookup f_Face_init = some ⟨oc_Face_init, od_Face_init, .func (PySem.W.fnOf "__init__" "Face.__init__" (defArgs s_Face_init) (defBody s_Face_init) (defScope s_Face_init) .none kV_Face_init dc_Face_init pm_Face_init an_Face_init cd_Face_init ct_Face_init), sl_Face_init⟩)
    (co_Face_init : PySem.W.codeIn K cd_Face_init "Face.__init__" = true)
    (k_Face_init : PySem.W.keepIn K (.ref f_Face_init) = true)
    (sa_Face : PySem.W.findIn K (.ref CF) "__setattr__" = some (some (.builtin "object.__setattr__")))
    (kc_Face : PySem.W.keepIn K (.ref CF) = true)
    (pg_Face : PySem.W.plainGet K CF Str.empty = true)
    (hd_Face : PySem.W.hasDictIn K CF = true)
    (po_Face : PySem.W.plainOver K CF = true)
    (mk_Face : PySem.W.makesIn K CF = true)
    (n_Face_height : PySem.W.findIn K (.ref CF) "height" = some none)
    (n_Face_cost : PySem.W.findIn K (.ref CF) "cost" = some none)
    (n_Face_glyphs : PySem.W.findIn K (.ref CF) "glyphs" = some none)
    (a_Reader : PySem.W.nsIn K mainGlobals "Reader" = some (some (.ref CR)))
    (a_Reader_init : PySem.W.findIn K (.ref CR) "__init__" = some (some (.ref f_Reader_init)))
    (i_Reader_init : PySem.W.isFn K (.ref f_Reader_init) = true)
    (l_Reader_init : K.lookup f_Reader_init = some ⟨oc_Reader_init, od_Reader_init, .func (PySem.W.fnOf "__init__" "Reader.__init__" (defArgs s_Reader_init) (defBody s_Reader_init) (defScope s_Reader_init) .none kV_Reader_init dc_Reader_init pm_Reader_init an_Reader_init cd_Reader_init ct_Reader_init), sl_Reader_init⟩)
    (co_Reader_init : PySem.W.codeIn K cd_Reader_init "Reader.__init__" = true)
    (k_Reader_init : PySem.W.keepIn K (.ref f_Reader_init) = true)
    (a_Reader_take_number : PySem.W.findIn K (.ref CR) "take_number" = some (some (.ref f_Reader_take_number)))
    (i_Reader_take_number : PySem.W.isFn K (.ref f_Reader_take_number) = true)
    (l_Reader_take_number : K.lookup f_Reader_take_number = some ⟨oc_Reader_take_number, od_Reader_take_number, .func (PySem.W.fnOf "take_number" "Reader.take_number" (defArgs s_Reader_take_number) (defBody s_Reader_take_number) (defScope s_Reader_take_number) .none kV_Reader_take_number dc_Reader_take_number pm_Reader_take_number an_Reader_take_number cd_Reader_take_number ct_Reader_take_number), sl_Reader_take_number⟩)
    (co_Reader_take_number : PySem.W.codeIn K cd_Reader_take_number "Reader.take_number" = true)
    (k_Reader_take_number : PySem.W.keepIn K (.ref f_Reader_take_number) = true)
    (a_Reader_take_bounded : PySem.W.findIn K (.ref CR) "take_bounded" = some (some (.ref f_Reader_take_bounded)))
    (i_Reader_take_bounded : PySem.W.isFn K (.ref f_Reader_take_bounded) = true)
    (l_Reader_take_bounded : K.lookup f_Reader_take_bounded = some ⟨oc_Reader_take_bounded, od_Reader_take_bounded, .func (PySem.W.fnOf "take_bounded" "Reader.take_bounded" (defArgs s_Reader_take_bounded) (defBody s_Reader_take_bounded) (defScope s_Reader_take_bounded) .none kV_Reader_take_bounded dc_Reader_take_bounded pm_Reader_take_bounded an_Reader_take_bounded cd_Reader_take_bounded ct_Reader_take_bounded), sl_Reader_take_bounded⟩)
    (co_Reader_take_bounded : PySem.W.codeIn K cd_Reader_take_bounded "Reader.take_bounded" = true)
    (k_Reader_take_bounded : PySem.W.keepIn K (.ref f_Reader_take_bounded) = true)
    (a_Reader_take_mark : PySem.W.findIn K (.ref CR) "take_mark" = some (some (.ref f_Reader_take_mark)))
    (i_Reader_take_mark : PySem.W.isFn K (.ref f_Reader_take_mark) = true)
    (l_Reader_take_mark : K.lookup f_Reader_take_mark = some ⟨oc_Reader_take_mark, od_Reader_take_mark, .func (PySem.W.fnOf "take_mark" "Reader.take_mark" (defArgs s_Reader_take_mark) (defBody s_Reader_take_mark) (defScope s_Reader_take_mark) .none kV_Reader_take_mark dc_Reader_take_mark pm_Reader_take_mark an_Reader_take_mark cd_Reader_take_mark ct_Reader_take_mark), sl_Reader_take_mark⟩)
    (co_Reader_take_mark : PySem.W.codeIn K cd_Reader_take_mark "Reader.take_mark" = true)
    (k_Reader_take_mark : PySem.W.keepIn K (.ref f_Reader_take_mark) = true)
    (a_Reader_take_end : PySem.W.findIn K (.ref CR) "take_end" = some (some (.ref f_Reader_take_end)))
    (i_Reader_take_end : PySem.W.isFn K (.ref f_Reader_take_end) = true)
    (l_Reader_take_end : K.lookup f_Reader_take_end = some ⟨oc_Reader_take_end, od_Reader_take_end, .func (PySem.W.fnOf "take_end" "Reader.take_end" (defArgs s_Reader_take_end) (defBody s_Reader_take_end) (defScope s_Reader_take_end) .none kV_Reader_take_end dc_Reader_take_end pm_Reader_take_end an_Reader_take_end cd_Reader_take_end ct_Reader_take_end), sl_Reader_take_end⟩)
    (co_Reader_take_end : PySem.W.codeIn K cd_Reader_take_end "Reader.take_end" = true)
    (k_Reader_take_end : PySem.W.keepIn K (.ref f_Reader_take_end) = true)
    (sa_Reader : PySem.W.findIn K (.ref CR) "__setattr__" = some (some (.builtin "object.__setattr__")))
    (kc_Reader : PySem.W.keepIn K (.ref CR) = true)
    (pg_Reader : PySem.W.plainGet K CR Str.empty = true)
    (hd_Reader : PySem.W.hasDictIn K CR = true)
    (po_Reader : PySem.W.plainOver K CR = true)
    (mk_Reader : PySem.W.makesIn K CR = true)
    (n_Reader_form : PySem.W.findIn K (.ref CR) "form" = some none)
    (n_Reader_which : PySem.W.findIn K (.ref CR) "which" = some none)
    (n_Reader_place : PySem.W.findIn K (.ref CR) "place" = some none)
    (a_read_face : PySem.W.nsIn K mainGlobals "read_face" = some (some (.ref f_read_face)))
    (l_read_face : K.lookup f_read_face = some ⟨oc_read_face, od_read_face, .func (PySem.W.fnOf "read_face" "read_face" (defArgs s_read_face) (defBody s_read_face) (defScope s_read_face) .none kV_read_face dc_read_face pm_read_face an_read_face cd_read_face ct_read_face), sl_read_face⟩)
    (co_read_face : PySem.W.codeIn K cd_read_face "read_face" = true)
    (k_read_face : PySem.W.keepIn K (.ref f_read_face) = true)
    (a_read_glyph : PySem.W.nsIn K mainGlobals "read_glyph" = some (some (.ref f_read_glyph)))
    (l_read_glyph : K.lookup f_read_glyph = some ⟨oc_read_glyph, od_read_glyph, .func (PySem.W.fnOf "read_glyph" "read_glyph" (defArgs s_read_glyph) (defBody s_read_glyph) (defScope s_read_glyph) .none kV_read_glyph dc_read_glyph pm_read_glyph an_read_glyph cd_read_glyph ct_read_glyph), sl_read_glyph⟩)
    (co_read_glyph : PySem.W.codeIn K cd_read_glyph "read_glyph" = true)
    (k_read_glyph : PySem.W.keepIn K (.ref f_read_glyph) = true)
    (a_read_plane : PySem.W.nsIn K mainGlobals "read_plane" = some (some (.ref f_read_plane)))
    (l_read_plane : K.lookup f_read_plane = some ⟨oc_read_plane, od_read_plane, .func (PySem.W.fnOf "read_plane" "read_plane" (defArgs s_read_plane) (defBody s_read_plane) (defScope s_read_plane) .none kV_read_plane dc_read_plane pm_read_plane an_read_plane cd_read_plane ct_read_plane), sl_read_plane⟩)
    (co_read_plane : PySem.W.codeIn K cd_read_plane "read_plane" = true)
    (k_read_plane : PySem.W.keepIn K (.ref f_read_plane) = true)
    (a_read_plane_row : PySem.W.nsIn K mainGlobals "read_plane_row" = some (some (.ref f_read_plane_row)))
    (l_read_plane_row : K.lookup f_read_plane_row = some ⟨oc_read_plane_row, od_read_plane_row, .func (PySem.W.fnOf "read_plane_row" "read_plane_row" (defArgs s_read_plane_row) (defBody s_read_plane_row) (defScope s_read_plane_row) .none kV_read_plane_row dc_read_plane_row pm_read_plane_row an_read_plane_row cd_read_plane_row ct_read_plane_row), sl_read_plane_row⟩)
    (co_read_plane_row : PySem.W.codeIn K cd_read_plane_row "read_plane_row" = true)
    (k_read_plane_row : PySem.W.keepIn K (.ref f_read_plane_row) = true)
    (a_face_bytes : PySem.W.nsIn K mainGlobals "face_bytes" = some (some (.ref f_face_bytes)))
    (l_face_bytes : K.lookup f_face_bytes = some ⟨oc_face_bytes, od_face_bytes, .func (PySem.W.fnOf "face_bytes" "face_bytes" (defArgs s_face_bytes) (defBody s_face_bytes) (defScope s_face_bytes) .none kV_face_bytes dc_face_bytes pm_face_bytes an_face_bytes cd_face_bytes ct_face_bytes), sl_face_bytes⟩)
    (co_face_bytes : PySem.W.codeIn K cd_face_bytes "face_bytes" = true)
    (k_face_bytes : PySem.W.keepIn K (.ref f_face_bytes) = true)
    (a_glyph_bytes : PySem.W.nsIn K mainGlobals "glyph_bytes" = some (some (.ref f_glyph_bytes)))
    (l_glyph_bytes : K.lookup f_glyph_bytes = some ⟨oc_glyph_bytes, od_glyph_bytes, .func (PySem.W.fnOf "glyph_bytes" "glyph_bytes" (defArgs s_glyph_bytes) (defBody s_glyph_bytes) (defScope s_glyph_bytes) .none kV_glyph_bytes dc_glyph_bytes pm_glyph_bytes an_glyph_bytes cd_glyph_bytes ct_glyph_bytes), sl_glyph_bytes⟩)
    (co_glyph_bytes : PySem.W.codeIn K cd_glyph_bytes "glyph_bytes" = true)
    (k_glyph_bytes : PySem.W.keepIn K (.ref f_glyph_bytes) = true)
    (a_plane_bytes : PySem.W.nsIn K mainGlobals "plane_bytes" = some (some (.ref f_plane_bytes)))
    (l_plane_bytes : K.lookup f_plane_bytes = some ⟨oc_plane_bytes, od_plane_bytes, .func (PySem.W.fnOf "plane_bytes" "plane_bytes" (defArgs s_plane_bytes) (defBody s_plane_bytes) (defScope s_plane_bytes) .none kV_plane_bytes dc_plane_bytes pm_plane_bytes an_plane_bytes cd_plane_bytes ct_plane_bytes), sl_plane_bytes⟩)
    (co_plane_bytes : PySem.W.codeIn K cd_plane_bytes "plane_bytes" = true)
    (k_plane_bytes : PySem.W.keepIn K (.ref f_plane_bytes) = true)
    (a_number_bytes : PySem.W.nsIn K mainGlobals "number_bytes" = some (some (.ref f_number_bytes)))
    (l_number_bytes : K.lookup f_number_bytes = some ⟨oc_number_bytes, od_number_bytes, .func (PySem.W.fnOf "number_bytes" "number_bytes" (defArgs s_number_bytes) (defBody s_number_bytes) (defScope s_number_bytes) .none kV_number_bytes dc_number_bytes pm_number_bytes an_number_bytes cd_number_bytes ct_number_bytes), sl_number_bytes⟩)
    (co_number_bytes : PySem.W.codeIn K cd_number_bytes "number_bytes" = true)
    (k_number_bytes : PySem.W.keepIn K (.ref f_number_bytes) = true)
    (a_rank_of : PySem.W.nsIn K mainGlobals "rank_of" = some (some (.ref f_rank_of)))
    (l_rank_of : K.lookup f_rank_of = some ⟨oc_rank_of, od_rank_of, .func (PySem.W.fnOf "rank_of" "rank_of" (defArgs s_rank_of) (defBody s_rank_of) (defScope s_rank_of) .none kV_rank_of dc_rank_of pm_rank_of an_rank_of cd_rank_of ct_rank_of), sl_rank_of⟩)
    (co_rank_of : PySem.W.codeIn K cd_rank_of "rank_of" = true)
    (k_rank_of : PySem.W.keepIn K (.ref f_rank_of) = true)
    (a_row_size : PySem.W.nsIn K mainGlobals "row_size" = some (some (.ref f_row_size)))
    (l_row_size : K.lookup f_row_size = some ⟨oc_row_size, od_row_size, .func (PySem.W.fnOf "row_size" "row_size" (defArgs s_row_size) (defBody s_row_size) (defScope s_row_size) .none kV_row_size dc_row_size pm_row_size an_row_size cd_row_size ct_row_size), sl_row_size⟩)
    (co_row_size : PySem.W.codeIn K cd_row_size "row_size" = true)
    (k_row_size : PySem.W.keepIn K (.ref f_row_size) = true)
    (a_plane_of : PySem.W.nsIn K mainGlobals "plane_of" = some (some (.ref f_plane_of)))
    (l_plane_of : K.lookup f_plane_of = some ⟨oc_plane_of, od_plane_of, .func (PySem.W.fnOf "plane_of" "plane_of" (defArgs s_plane_of) (defBody s_plane_of) (defScope s_plane_of) .none kV_plane_of dc_plane_of pm_plane_of an_plane_of cd_plane_of ct_plane_of), sl_plane_of⟩)
    (co_plane_of : PySem.W.codeIn K cd_plane_of "plane_of" = true)
    (k_plane_of : PySem.W.keepIn K (.ref f_plane_of) = true)
    (a_kinds_of : PySem.W.nsIn K mainGlobals "kinds_of" = some (some (.ref f_kinds_of)))
    (l_kinds_of : K.lookup f_kinds_of = some ⟨oc_kinds_of, od_kinds_of, .func (PySem.W.fnOf "kinds_of" "kinds_of" (defArgs s_kinds_of) (defBody s_kinds_of) (defScope s_kinds_of) .none kV_kinds_of dc_kinds_of pm_kinds_of an_kinds_of cd_kinds_of ct_kinds_of), sl_kinds_of⟩)
    (co_kinds_of : PySem.W.codeIn K cd_kinds_of "kinds_of" = true)
    (k_kinds_of : PySem.W.keepIn K (.ref f_kinds_of) = true)
    (a_kind_of : PySem.W.nsIn K mainGlobals "kind_of" = some (some (.ref f_kind_of)))
    (l_kind_of : K.lookup f_kind_of = some ⟨oc_kind_of, od_kind_of, .func (PySem.W.fnOf "kind_of" "kind_of" (defArgs s_kind_of) (defBody s_kind_of) (defScope s_kind_of) .none kV_kind_of dc_kind_of pm_kind_of an_kind_of cd_kind_of ct_kind_of), sl_kind_of⟩)
    (co_kind_of : PySem.W.codeIn K cd_kind_of "kind_of" = true)
    (k_kind_of : PySem.W.keepIn K (.ref f_kind_of) = true)
    (a_both_in : PySem.W.nsIn K mainGlobals "both_in" = some (some (.ref f_both_in)))
    (l_both_in : K.lookup f_both_in = some ⟨oc_both_in, od_both_in, .func (PySem.W.fnOf "both_in" "both_in" (defArgs s_both_in) (defBody s_both_in) (defScope s_both_in) .none kV_both_in dc_both_in pm_both_in an_both_in cd_both_in ct_both_in), sl_both_in⟩)
    (co_both_in : PySem.W.codeIn K cd_both_in "both_in" = true)
    (k_both_in : PySem.W.keepIn K (.ref f_both_in) = true)
    (a_put : PySem.W.nsIn K mainGlobals "put" = some (some (.ref f_put)))
    (l_put : K.lookup f_put = some ⟨oc_put, od_put, .func (PySem.W.fnOf "put" "put" (defArgs s_put) (defBody s_put) (defScope s_put) .none kV_put dc_put pm_put an_put cd_put ct_put), sl_put⟩)
    (co_put : PySem.W.codeIn K cd_put "put" = true)
    (k_put : PySem.W.keepIn K (.ref f_put) = true)
    (a_refused_form : PySem.W.nsIn K mainGlobals "refused_form" = some (some (.ref f_refused_form)))
    (l_refused_form : K.lookup f_refused_form = some ⟨oc_refused_form, od_refused_form, .func (PySem.W.fnOf "refused_form" "refused_form" (defArgs s_refused_form) (defBody s_refused_form) (defScope s_refused_form) .none kV_refused_form dc_refused_form pm_refused_form an_refused_form cd_refused_form ct_refused_form), sl_refused_form⟩)
    (co_refused_form : PySem.W.codeIn K cd_refused_form "refused_form" = true)
    (k_refused_form : PySem.W.keepIn K (.ref f_refused_form) = true)
    (a_told_numbers : PySem.W.nsIn K mainGlobals "told_numbers" = some (some (.ref f_told_numbers)))
    (l_told_numbers : K.lookup f_told_numbers = some ⟨oc_told_numbers, od_told_numbers, .func (PySem.W.fnOf "told_numbers" "told_numbers" (defArgs s_told_numbers) (defBody s_told_numbers) (defScope s_told_numbers) .none kV_told_numbers dc_told_numbers pm_told_numbers an_told_numbers cd_told_numbers ct_told_numbers), sl_told_numbers⟩)
    (co_told_numbers : PySem.W.codeIn K cd_told_numbers "told_numbers" = true)
    (k_told_numbers : PySem.W.keepIn K (.ref f_told_numbers) = true)
    (a_told_with : PySem.W.nsIn K mainGlobals "told_with" = some (some (.ref f_told_with)))
    (l_told_with : K.lookup f_told_with = some ⟨oc_told_with, od_told_with, .func (PySem.W.fnOf "told_with" "told_with" (defArgs s_told_with) (defBody s_told_with) (defScope s_told_with) .none kV_told_with dc_told_with pm_told_with an_told_with cd_told_with ct_told_with), sl_told_with⟩)
    (co_told_with : PySem.W.codeIn K cd_told_with "told_with" = true)
    (k_told_with : PySem.W.keepIn K (.ref f_told_with) = true)
    (a_FACE_MARK : PySem.W.nsIn K mainGlobals "FACE_MARK" = some (some (.ref t_FACE_MARK)))
    (q_FACE_MARK : tupIn K t_FACE_MARK [83, 72, 70, 49] = true)
    (a_MOST_HEIGHT : PySem.W.nsIn K mainGlobals "MOST_HEIGHT" = some (some (.int (64) t_MOST_HEIGHT)))
    (a_MOST_WIDTH : PySem.W.nsIn K mainGlobals "MOST_WIDTH" = some (some (.int (64) t_MOST_WIDTH)))
    (a_MOST_LETTER : PySem.W.nsIn K mainGlobals "MOST_LETTER" = some (some (.int (4095) t_MOST_LETTER)))
    (a_MOST_COST : PySem.W.nsIn K mainGlobals "MOST_COST" = some (some (.int (4095) t_MOST_COST)))
    (a_MOST_BUDGET : PySem.W.nsIn K mainGlobals "MOST_BUDGET" = some (some (.int (4096) t_MOST_BUDGET)))
    (a_MOST_GLYPHS : PySem.W.nsIn K mainGlobals "MOST_GLYPHS" = some (some (.int (4096) t_MOST_GLYPHS)))
    (a_PAPER : PySem.W.nsIn K mainGlobals "PAPER" = some (some (.int (0) t_PAPER)))
    (a_INK : PySem.W.nsIn K mainGlobals "INK" = some (some (.int (1) t_INK)))
    (a_FREE : PySem.W.nsIn K mainGlobals "FREE" = some (some (.int (2) t_FREE)))
    (a_OUT_OF_BOUNDS : PySem.W.nsIn K mainGlobals "OUT_OF_BOUNDS" = some (some (.int (-1) t_OUT_OF_BOUNDS)))
    (a_THERE_ALREADY : PySem.W.nsIn K mainGlobals "THERE_ALREADY" = some (some (.int (-2) t_THERE_ALREADY)))
    (a_NOT_A_FORM : PySem.W.nsIn K mainGlobals "NOT_A_FORM" = some (some (.int (-5) t_NOT_A_FORM)))
    (a_TOO_MANY : PySem.W.nsIn K mainGlobals "TOO_MANY" = some (some (.int (-6) t_TOO_MANY)))
    (e_range : PySem.W.nsIn K mainGlobals "range" = some none)
    (e_len : PySem.W.nsIn K mainGlobals "len" = some none)
    (e_min : PySem.W.nsIn K mainGlobals "min" = some none)
    (e_reversed : PySem.W.nsIn K mainGlobals "reversed" = some none)
    (e_enumerate : PySem.W.nsIn K mainGlobals "enumerate" = some none)
    (e_zip : PySem.W.nsIn K mainGlobals "zip" = some none)
    (e_sum : PySem.W.nsIn K mainGlobals "sum" = some none)
    (e_max : PySem.W.nsIn K mainGlobals "max" = some none)
    (e_list : PySem.W.nsIn K mainGlobals "list" = some none) :
    ∃ fd : FuncData, (∀ (s : Shared) (us : List Value), us.length = (["letter", "width", "budget", "cost", "face", "points"] : List Str).length → BindsTo s fd ⟨us, []⟩ ((["letter", "width", "budget", "cost", "face", "points"] : List Str).zip us)) ∧ ∀ base : Heap, K.In base → base.Ns mainGlobals mg → FnOk P w K mg base (CX1 P w) 8 fa fd ["letter", "width", "budget", "cost", "face", "points"] (spPut K) := by
  have e := hfa.symm.trans (PySem.W.mg_of X G a_put)
  cases e
  have F_Fault_init := fun_mk (st := s_Fault_init) l_Fault_init co_Fault_init k_Fault_init
  have b_Fault_init := F_Fault_init.binds (ps := ["self", "which", "rule", "place"]) fun _ _ _ _ _ _ us hl => by obtain ⟨_, _, _, _, rfl⟩ := len4 hl; rfl
  have F_Glyph_init := fun_mk (st := s_Glyph_init) l_Glyph_init co_Glyph_init k_Glyph_init
  have b_Glyph_init := F_Glyph_init.binds (ps := ["self", "letter", "width", "budget", "cost", "rows"]) fun _ _ _ _ _ _ us hl => by obtain ⟨_, _, _, _, _, _, rfl⟩ := len6 hl; rfl
  have cl_Glyph : Cls K CG := ⟨pg_Glyph, hd_Glyph, po_Glyph, sa_Glyph⟩
  have F_Face_init := fun_mk (st := s_Face_init) l_Face_init co_Face_init k_Face_init
  have b_Face_init := F_Face_init.binds (ps := ["self", "height", "cost", "glyphs"]) fun _ _ _ _ _ _ us hl => by obtain ⟨_, _, _, _, rfl⟩ := len4 hl; rfl
  have cl_Face : Cls K CF := ⟨pg_Face, hd_Face, po_Face, sa_Face⟩
  have F_Reader_init := fun_mk (st := s_Reader_init) l_Reader_init co_Reader_init k_Reader_init
  have b_Reader_init := F_Reader_init.binds (ps := ["self", "form", "which"]) fun _ _ _ _ _ _ us hl => by obtain ⟨_, _, _, rfl⟩ := len3 hl; rfl
  have F_Reader_take_number := fun_mk (st := s_Reader_take_number) l_Reader_take_number co_Reader_take_number k_Reader_take_number
  have b_Reader_take_number := F_Reader_take_number.binds (ps := ["self", "size"]) fun _ _ _ _ _ _ us hl => by obtain ⟨_, _, rfl⟩ := len2 hl; rfl
  have F_Reader_take_bounded := fun_mk (st := s_Reader_take_bounded) l_Reader_take_bounded co_Reader_take_bounded k_Reader_take_bounded
  have b_Reader_take_bounded := F_Reader_take_bounded.binds (ps := ["self", "size", "least", "most", "rule"]) fun _ _ _ _ _ _ us hl => by obtain ⟨_, _, _, _, _, rfl⟩ := len5 hl; rfl
  have F_Reader_take_mark := fun_mk (st := s_Reader_take_mark) l_Reader_take_mark co_Reader_take_mark k_Reader_take_mark
  have b_Reader_take_mark := F_Reader_take_mark.binds (ps := ["self", "mark"]) fun _ _ _ _ _ _ us hl => by obtain ⟨_, _, rfl⟩ := len2 hl; rfl
  have F_Reader_take_end := fun_mk (st := s_Reader_take_end) l_Reader_take_end co_Reader_take_end k_Reader_take_end
  have b_Reader_take_end := F_Reader_take_end.binds (ps := ["self"]) fun _ _ _ _ _ _ us hl => by obtain ⟨_, rfl⟩ := len1 hl; rfl
  have cl_Reader : Cls K CR := ⟨pg_Reader, hd_Reader, po_Reader, sa_Reader⟩
  have F_read_face := fun_mk (st := s_read_face) l_read_face co_read_face k_read_face
  have b_read_face := F_read_face.binds (ps := ["form", "which"]) fun _ _ _ _ _ _ us hl => by obtain ⟨_, _, rfl⟩ := len2 hl; rfl
  have m_read_face := PySem.W.mg_of X G a_read_face
  have F_read_glyph := fun_mk (st := s_read_glyph) l_read_glyph co_read_glyph k_read_glyph
  have b_read_glyph := F_read_glyph.binds (ps := ["reader", "height"]) fun _ _ _ _ _ _ us hl => by obtain ⟨_, _, rfl⟩ := len2 hl; rfl
  have m_read_glyph := PySem.W.mg_of X G a_read_glyph
  have F_read_plane := fun_mk (st := s_read_plane) l_read_plane co_read_plane k_read_plane
  have b_read_plane := F_read_plane.binds (ps := ["reader", "width", "height"]) fun _ _ _ _ _ _ us hl => by obtain ⟨_, _, _, rfl⟩ := len3 hl; rfl
  have m_read_plane := PySem.W.mg_of X G a_read_plane
  have F_read_plane_row := fun_mk (st := s_read_plane_row) l_read_plane_row co_read_plane_row k_read_plane_row
  have b_read_plane_row := F_read_plane_row.binds (ps := ["reader", "width"]) fun _ _ _ _ _ _ us hl => by obtain ⟨_, _, rfl⟩ := len2 hl; rfl
  have m_read_plane_row := PySem.W.mg_of X G a_read_plane_row
  have F_face_bytes := fun_mk (st := s_face_bytes) l_face_bytes co_face_bytes k_face_bytes
  have b_face_bytes := F_face_bytes.binds (ps := ["face"]) fun _ _ _ _ _ _ us hl => by obtain ⟨_, rfl⟩ := len1 hl; rfl
  have m_face_bytes := PySem.W.mg_of X G a_face_bytes
  have F_glyph_bytes := fun_mk (st := s_glyph_bytes) l_glyph_bytes co_glyph_bytes k_glyph_bytes
  have b_glyph_bytes := F_glyph_bytes.binds (ps := ["shape"]) fun _ _ _ _ _ _ us hl => by obtain ⟨_, rfl⟩ := len1 hl; rfl
  have m_glyph_bytes := PySem.W.mg_of X G a_glyph_bytes
  have F_plane_bytes := fun_mk (st := s_plane_bytes) l_plane_bytes co_plane_bytes k_plane_bytes
  have b_plane_bytes := F_plane_bytes.binds (ps := ["plane"]) fun _ _ _ _ _ _ us hl => by obtain ⟨_, rfl⟩ := len1 hl; rfl
  have m_plane_bytes := PySem.W.mg_of X G a_plane_bytes
  have F_number_bytes := fun_mk (st := s_number_bytes) l_number_bytes co_number_bytes k_number_bytes
  have b_number_bytes := F_number_bytes.binds (ps := ["value", "size"]) fun _ _ _ _ _ _ us hl => by obtain ⟨_, _, rfl⟩ := len2 hl; rfl
  have m_number_bytes := PySem.W.mg_of X G a_number_bytes
  have F_rank_of := fun_mk (st := s_rank_of) l_rank_of co_rank_of k_rank_of
  have b_rank_of := F_rank_of.binds (ps := ["written"]) fun _ _ _ _ _ _ us hl => by obtain ⟨_, rfl⟩ := len1 hl; rfl
  have m_rank_of := PySem.W.mg_of X G a_rank_of
  have F_row_size := fun_mk (st := s_row_size) l_row_size co_row_size k_row_size
  have b_row_size := F_row_size.binds (ps := ["width"]) fun _ _ _ _ _ _ us hl => by obtain ⟨_, rfl⟩ := len1 hl; rfl
  have m_row_size := PySem.W.mg_of X G a_row_size
  have F_plane_of := fun_mk (st := s_plane_of) l_plane_of co_plane_of k_plane_of
  have b_plane_of := F_plane_of.binds (ps := ["rows", "kind"]) fun _ _ _ _ _ _ us hl => by obtain ⟨_, _, rfl⟩ := len2 hl; rfl
  have m_plane_of := PySem.W.mg_of X G a_plane_of
  have F_kinds_of := fun_mk (st := s_kinds_of) l_kinds_of co_kinds_of k_kinds_of
  have b_kinds_of := F_kinds_of.binds (ps := ["ink", "paper"]) fun _ _ _ _ _ _ us hl => by obtain ⟨_, _, rfl⟩ := len2 hl; rfl
  have m_kinds_of := PySem.W.mg_of X G a_kinds_of
  have F_kind_of := fun_mk (st := s_kind_of) l_kind_of co_kind_of k_kind_of
  have b_kind_of := F_kind_of.binds (ps := ["blot", "blank"]) fun _ _ _ _ _ _ us hl => by obtain ⟨_, _, rfl⟩ := len2 hl; rfl
  have m_kind_of := PySem.W.mg_of X G a_kind_of
  have F_both_in := fun_mk (st := s_both_in) l_both_in co_both_in k_both_in
  have b_both_in := F_both_in.binds (ps := ["ink_row", "paper_row"]) fun _ _ _ _ _ _ us hl => by obtain ⟨_, _, rfl⟩ := len2 hl; rfl
  have m_both_in := PySem.W.mg_of X G a_both_in
  have F_put := fun_mk (st := s_put) l_put co_put k_put
  have m_put := PySem.W.mg_of X G a_put
  have F_refused_form := fun_mk (st := s_refused_form) l_refused_form co_refused_form k_refused_form
  have b_refused_form := F_refused_form.binds (ps := ["fault"]) fun _ _ _ _ _ _ us hl => by obtain ⟨_, rfl⟩ := len1 hl; rfl
  have m_refused_form := PySem.W.mg_of X G a_refused_form
  have F_told_numbers := fun_mk (st := s_told_numbers) l_told_numbers co_told_numbers k_told_numbers
  have b_told_numbers := F_told_numbers.binds (ps := ["numbers"]) fun _ _ _ _ _ _ us hl => by obtain ⟨_, rfl⟩ := len1 hl; rfl
  have m_told_numbers := PySem.W.mg_of X G a_told_numbers
  have F_told_with := fun_mk (st := s_told_with) l_told_with co_told_with k_told_with
  have b_told_with := F_told_with.binds (ps := ["known", "shape"]) fun _ _ _ _ _ _ us hl => by obtain ⟨_, _, rfl⟩ := len2 hl; rfl
  have m_told_with := PySem.W.mg_of X G a_told_with
  have c_FACE_MARK : Mrk K mg "FACE_MARK" [83, 72, 70, 49] := ⟨_, PySem.W.mg_of X G a_FACE_MARK, q_FACE_MARK⟩
  have c_MOST_HEIGHT : Con mg "MOST_HEIGHT" (64) := ⟨_, PySem.W.mg_of X G a_MOST_HEIGHT⟩
  have c_MOST_WIDTH : Con mg "MOST_WIDTH" (64) := ⟨_, PySem.W.mg_of X G a_MOST_WIDTH⟩
  have c_MOST_LETTER : Con mg "MOST_LETTER" (4095) := ⟨_, PySem.W.mg_of X G a_MOST_LETTER⟩
  have c_MOST_COST : Con mg "MOST_COST" (4095) := ⟨_, PySem.W.mg_of X G a_MOST_COST⟩
  have c_MOST_BUDGET : Con mg "MOST_BUDGET" (4096) := ⟨_, PySem.W.mg_of X G a_MOST_BUDGET⟩
  have c_MOST_GLYPHS : Con mg "MOST_GLYPHS" (4096) := ⟨_, PySem.W.mg_of X G a_MOST_GLYPHS⟩
  have c_PAPER : Con mg "PAPER" (0) := ⟨_, PySem.W.mg_of X G a_PAPER⟩
  have c_INK : Con mg "INK" (1) := ⟨_, PySem.W.mg_of X G a_INK⟩
  have c_FREE : Con mg "FREE" (2) := ⟨_, PySem.W.mg_of X G a_FREE⟩
  have c_OUT_OF_BOUNDS : Con mg "OUT_OF_BOUNDS" (-1) := ⟨_, PySem.W.mg_of X G a_OUT_OF_BOUNDS⟩
  have c_THERE_ALREADY : Con mg "THERE_ALREADY" (-2) := ⟨_, PySem.W.mg_of X G a_THERE_ALREADY⟩
  have c_NOT_A_FORM : Con mg "NOT_A_FORM" (-5) := ⟨_, PySem.W.mg_of X G a_NOT_A_FORM⟩
  have c_TOO_MANY : Con mg "TOO_MANY" (-6) := ⟨_, PySem.W.mg_of X G a_TOO_MANY⟩
  have T : Txt mg := ⟨PySem.W.ns_none_of X G e_range, PySem.W.ns_none_of X G e_len, PySem.W.ns_none_of X G e_min, PySem.W.ns_none_of X G e_reversed, PySem.W.ns_none_of X G e_enumerate, PySem.W.ns_none_of X G e_zip, PySem.W.ns_none_of X G e_sum, PySem.W.ns_none_of X G e_max, PySem.W.ns_none_of X G e_list⟩
  refine ⟨PySem.W.fnOf "put" "put" (defArgs s_put) (defBody s_put) (defScope s_put) .none kV_put dc_put pm_put an_put cd_put ct_put, fun s us hu => match us, hu with | [_, _, _, _, _, _], _ => .of_eq rfl, fun base _ _ => ?_⟩
  have xc : XCls K C f_Fault_init namesF := ⟨x_Fault, sa_Fault, i_Fault_init, kc_Fault⟩
  have R : Rais P w K mg base "Fault" C 1 ksF := ⟨_, _, _, _, xc, ok_fi F_Fault_init xc, b_Fault_init, PySem.W.mg_of X G a_Fault, by decide⟩
  have FC : FCls K mg C := ⟨⟨_, xc⟩, PySem.W.mg_of X G a_Fault⟩
  have B : RCls K CR := ⟨cl_Reader, n_Reader_form, n_Reader_which, n_Reader_place⟩
  have MR : MakR P w K mg base CR := ⟨_, _, ok_ri F_Reader_init B, PySem.W.mg_of X G a_Reader, ⟨mk_Reader, a_Reader_init, i_Reader_init, kc_Reader⟩, b_Reader_init⟩
  have no_Glyph : ∀ x ∈ ksG, NoAttr K CG x := by
    intro x hx
    simp only [ksG, List.mem_cons, List.not_mem_nil, or_false] at hx
    rcases hx with rfl | rfl | rfl | rfl | rfl
    · exact n_Glyph_letter
    · exact n_Glyph_width
    · exact n_Glyph_budget
    · exact n_Glyph_cost
    · exact n_Glyph_rows
  have MG : Mak P w K mg base "Glyph" CG 1 ksG := ⟨_, _, _, ok_gi F_Glyph_init cl_Glyph no_Glyph, PySem.W.mg_of X G a_Glyph, ⟨mk_Glyph, a_Glyph_init, i_Glyph_init, kc_Glyph⟩, b_Glyph_init⟩
  have O_Glyph : GCls K CG := ⟨cl_Glyph, n_Glyph_letter, n_Glyph_width, n_Glyph_budget, n_Glyph_cost, n_Glyph_rows⟩
  have no_Face : ∀ x ∈ ksA, NoAttr K CF x := by
    intro x hx
    simp only [ksA, List.mem_cons, List.not_mem_nil, or_false] at hx
    rcases hx with rfl | rfl | rfl
    · exact n_Face_height
    · exact n_Face_cost
    · exact n_Face_glyphs
  have MF : Mak P w K mg base "Face" CF 1 ksA := ⟨_, _, _, ok_ai F_Face_init cl_Face no_Face, PySem.W.mg_of X G a_Face, ⟨mk_Face, a_Face_init, i_Face_init, kc_Face⟩, b_Face_init⟩
  have O_Face : ACls K CF := ⟨cl_Face, n_Face_height, n_Face_cost, n_Face_glyphs⟩
  have M_take_number : CalM P w K mg base CR "take_number" 3 ["self", "size"] (spTN K C CR) := ⟨_, _, ok_tn F_Reader_take_number T B R, cl_Reader, ⟨a_Reader_take_number, i_Reader_take_number, k_Reader_take_number⟩, b_Reader_take_number⟩
  have M_take_bounded : CalM P w K mg base CR "take_bounded" 4 ["self", "size", "least", "most", "rule"] (spTB K C CR) := ⟨_, _, ok_tb F_Reader_take_bounded B M_take_number R, cl_Reader, ⟨a_Reader_take_bounded, i_Reader_take_bounded, k_Reader_take_bounded⟩, b_Reader_take_bounded⟩
  have M_take_mark : CalM P w K mg base CR "take_mark" 5 ["self", "mark"] (spTM K C CR) := ⟨_, _, ok_tm F_Reader_take_mark M_take_bounded, cl_Reader, ⟨a_Reader_take_mark, i_Reader_take_mark, k_Reader_take_mark⟩, b_Reader_take_mark⟩
  have M_take_end : CalM P w K mg base CR "take_end" 3 ["self"] (spTE K C CR) := ⟨_, _, ok_te F_Reader_take_end T B R, cl_Reader, ⟨a_Reader_take_end, i_Reader_take_end, k_Reader_take_end⟩, b_Reader_take_end⟩
  have N_row_size : Cal P w K mg base "row_size" 1 ["width"] (spRS) := ⟨_, _, ok_rs F_row_size, m_row_size, k_row_size, b_row_size⟩
  have N_read_plane_row : Cal P w K mg base "read_plane_row" 4 ["reader", "width"] (spPR K C CR) := ⟨_, _, ok_pr F_read_plane_row T B M_take_number R, m_read_plane_row, k_read_plane_row, b_read_plane_row⟩
  have N_read_plane : Cal P w K mg base "read_plane" 5 ["reader", "width", "height"] (spRP K C CR) := ⟨_, _, ok_rp F_read_plane T B N_read_plane_row, m_read_plane, k_read_plane, b_read_plane⟩
  have N_both_in : Cal P w K mg base "both_in" 1 ["ink_row", "paper_row"] (spBI K) := ⟨_, _, ok_bi F_both_in T, m_both_in, k_both_in, b_both_in⟩
  have N_kind_of : Cal P w K mg base "kind_of" 1 ["blot", "blank"] (spKd) := ⟨_, _, ok_kd F_kind_of c_FREE c_INK c_PAPER, m_kind_of, k_kind_of, b_kind_of⟩
  have N_kinds_of : Cal P w K mg base "kinds_of" 2 ["ink", "paper"] (spKO) := ⟨_, _, ok_ko F_kinds_of T N_kind_of, m_kinds_of, k_kinds_of, b_kinds_of⟩
  have N_rank_of : Cal P w K mg base "rank_of" 1 ["written"] (spRK K) := ⟨_, _, ok_rk F_rank_of, m_rank_of, k_rank_of, b_rank_of⟩
  have N_read_glyph : Cal P w K mg base "read_glyph" 6 ["reader", "height"] (spRG K C CR CG) := ⟨_, _, ok_rg F_read_glyph T B c_MOST_LETTER c_MOST_WIDTH c_MOST_BUDGET c_MOST_COST M_take_bounded N_read_plane N_both_in N_row_size N_kinds_of MG R, m_read_glyph, k_read_glyph, b_read_glyph⟩
  have N_read_face : Cal P w K mg base "read_face" 7 ["form", "which"] (spRF K C CG CF) := ⟨_, _, ok_rf F_read_face T B c_FACE_MARK c_MOST_HEIGHT c_MOST_COST c_MOST_GLYPHS MR M_take_mark M_take_bounded M_take_end N_read_glyph N_rank_of MF R, m_read_face, k_read_face, b_read_face⟩
  have NH : CalH P w K mg base "refused_form" 1 ["fault"] (spFF C) := ⟨_, _, ok_ff F_refused_form xc c_NOT_A_FORM, m_refused_form, k_refused_form, b_refused_form⟩
  have N_number_bytes : Cal P w K mg base "number_bytes" 1 ["value", "size"] (spNB) := ⟨_, _, ok_nb F_number_bytes T, m_number_bytes, k_number_bytes, b_number_bytes⟩
  have N_plane_bytes : Cal P w K mg base "plane_bytes" 1 ["plane"] (spPB) := ⟨_, _, ok_pb F_plane_bytes T, m_plane_bytes, k_plane_bytes, b_plane_bytes⟩
  have N_plane_of : Cal P w K mg base "plane_of" 1 ["rows", "kind"] (spPO) := ⟨_, _, ok_po F_plane_of T, m_plane_of, k_plane_of, b_plane_of⟩
  have N_glyph_bytes : Cal P w K mg base "glyph_bytes" 2 ["shape"] (spGB K CG) := ⟨_, _, ok_gb F_glyph_bytes c_INK c_PAPER N_number_bytes N_plane_bytes N_plane_of, m_glyph_bytes, k_glyph_bytes, b_glyph_bytes⟩
  have N_face_bytes : Cal P w K mg base "face_bytes" 3 ["face"] (spFB K CG CF) := ⟨_, _, ok_fb F_face_bytes T O_Face c_FACE_MARK N_number_bytes N_glyph_bytes, m_face_bytes, k_face_bytes, b_face_bytes⟩
  have N_told_numbers : Cal P w K mg base "told_numbers" 1 ["numbers"] (spTo) := ⟨_, _, ok_to F_told_numbers T, m_told_numbers, k_told_numbers, b_told_numbers⟩
  have N_told_with : Cal P w K mg base "told_with" 4 ["known", "shape"] (spTW K CG CF) := ⟨_, _, ok_tw F_told_with T O_Face O_Glyph c_THERE_ALREADY c_MOST_GLYPHS c_TOO_MANY N_rank_of N_glyph_bytes MF N_face_bytes N_told_numbers, m_told_with, k_told_with, b_told_with⟩
  exact ok_put F_put T FC O_Face c_MOST_LETTER c_MOST_WIDTH c_MOST_BUDGET c_MOST_COST c_FREE c_OUT_OF_BOUNDS N_read_face NH MG N_told_with
end Fc
end
open PySem PySem.W PyProof.Rows
set_option maxRecDepth 100000 in
set_option maxHeartbeats 0 in
theorem PySem.Challenge.cw_lettershapesdesk_s04_put_holds : PySem.Challenge.rw_lettershapesdesk_s04_put.Holds := by
  w_on; k_headS; (case hw => exact ⟨[.int 0, .int 1, .int 0, .int 0, .list [], .list []], by decide +kernel, by decide +kernel⟩)
  k_fillS
  refine L2.walk_specX (r := PySem.Challenge.rw_lettershapesdesk_s04_put) (k := 8) (ps := ["letter", "width", "budget", "cost", "face", "points"]) (sp := Fc.spPut) (by decide +kernel) rfl rfl ⟨rfl, by decide, by decide⟩ (fun w h Y => PySem.W.kIn_of Y) ?F ?S
  case F =>
    intro w mg fa h Y KX G hmg
    refine' Fc.all_mk KX G hmg ?a_Fault ?a_Fault_init ?x_Fault ?i_Fault_init ?l_Fault_init ?co_Fault_init ?k_Fault_init ?sa_Fault ?kc_Fault ?a_Glyph ?a_Glyph_init ?i_Glyph_init ?l_Glyph_init ?co_Glyph_init ?k_Glyph_init ?sa_Glyph ?kc_Glyph ?pg_Glyph ?hd_Glyph ?po_Glyph ?mk_Glyph ?n_Glyph_letter ?n_Glyph_width ?n_Glyph_budget ?n_Glyph_cost ?n_Glyph_rows ?a_Face ?a_Face_init ?i_Face_init ?l_Face_init ?co_Face_init ?k_Face_init ?sa_Face ?kc_Face ?pg_Face ?hd_Face ?po_Face ?mk_Face ?n_Face_height ?n_Face_cost ?n_Face_glyphs ?a_Reader ?a_Reader_init ?i_Reader_init ?l_Reader_init ?co_Reader_init ?k_Reader_init ?a_Reader_take_number ?i_Reader_take_number ?l_Reader_take_number ?co_Reader_take_number ?k_Reader_take_number ?a_Reader_take_bounded ?i_Reader_take_bounded ?l_Reader_take_bounded ?co_Reader_take_bounded ?k_Reader_take_bounded ?a_Reader_take_mark ?i_Reader_take_mark ?l_Reader_take_mark ?co_Reader_take_mark ?k_Reader_take_mark ?a_Reader_take_end ?i_Reader_take_end ?l_Reader_take_end ?co_Reader_take_end ?k_Reader_take_end ?sa_Reader ?kc_Reader ?pg_Reader ?hd_Reader ?po_Reader ?mk_Reader ?n_Reader_form ?n_Reader_which ?n_Reader_place ?a_read_face ?l_read_face ?co_read_face ?k_read_face ?a_read_glyph ?l_read_glyph ?co_read_glyph ?k_read_glyph ?a_read_plane ?l_read_plane ?co_read_plane ?k_read_plane ?a_read_plane_row ?l_read_plane_row ?co_read_plane_row ?k_read_plane_row ?a_face_bytes ?l_face_bytes ?co_face_bytes ?k_face_bytes ?a_glyph_bytes ?l_glyph_bytes ?co_glyph_bytes ?k_glyph_bytes ?a_plane_bytes ?l_plane_bytes ?co_plane_bytes ?k_plane_bytes ?a_number_bytes ?l_number_bytes ?co_number_bytes ?k_number_bytes ?a_rank_of ?l_rank_of ?co_rank_of ?k_rank_of ?a_row_size ?l_row_size ?co_row_size ?k_row_size ?a_plane_of ?l_plane_of ?co_plane_of ?k_plane_of ?a_kinds_of ?l_kinds_of ?co_kinds_of ?k_kinds_of ?a_kind_of ?l_kind_of ?co_kind_of ?k_kind_of ?a_both_in ?l_both_in ?co_both_in ?k_both_in ?a_put ?l_put ?co_put ?k_put ?a_refused_form ?l_refused_form ?co_refused_form ?k_refused_form ?a_told_numbers ?l_told_numbers ?co_told_numbers ?k_told_numbers ?a_told_with ?l_told_with ?co_told_with ?k_told_with ?a_FACE_MARK ?q_FACE_MARK ?a_MOST_HEIGHT ?a_MOST_WIDTH ?a_MOST_LETTER ?a_MOST_COST ?a_MOST_BUDGET ?a_MOST_GLYPHS ?a_PAPER ?a_INK ?a_FREE ?a_OUT_OF_BOUNDS ?a_THERE_ALREADY ?a_NOT_A_FORM ?a_TOO_MANY ?e_range ?e_len ?e_min ?e_reversed ?e_enumerate ?e_zip ?e_sum ?e_max ?e_list
    (case a_Fault => k_is)
    (case a_Fault_init => k_is)
    (case x_Fault => kernel_rfl)
    (case i_Fault_init => k_is)
    (case l_Fault_init => k_is)
    (case co_Fault_init => k_is)
    (case k_Fault_init => k_is)
    (case sa_Fault => k_is)
    (case kc_Fault => k_is)
    (case a_Glyph => k_is)
    (case a_Glyph_init => k_is)
    (case i_Glyph_init => k_is)
    (case l_Glyph_init => k_is)
    (case co_Glyph_init => k_is)
    (case k_Glyph_init => k_is)
    (case sa_Glyph => k_is)
    (case kc_Glyph => k_is)
    (case pg_Glyph => k_is)
    (case hd_Glyph => k_is)
    (case po_Glyph => k_is)
    (case mk_Glyph => k_is)
    (case n_Glyph_letter => k_is)
    (case n_Glyph_width => k_is)
    (case n_Glyph_budget => k_is)
    (case n_Glyph_cost => k_is)
    (case n_Glyph_rows => k_is)
    (case a_Face => k_is)
    (case a_Face_init => k_is)
    (case i_Face_init => k_is)
    (case l_Face_init => k_is)
    (case co_Face_init => k_is)
    (case k_Face_init => k_is)
    (case sa_Face => k_is)
    (case kc_Face => k_is)
    (case pg_Face => k_is)
    (case hd_Face => k_is)
    (case po_Face => k_is)
    (case mk_Face => k_is)
    (case n_Face_height => k_is)
    (case n_Face_cost => k_is)
    (case n_Face_glyphs => k_is)
    (case a_Reader => k_is)
    (case a_Reader_init => k_is)
    (case i_Reader_init => k_is)
    (case l_Reader_init => k_is)
    (case co_Reader_init => k_is)
    (case k_Reader_init => k_is)
    (case a_Reader_take_number => k_is)
    (case i_Reader_take_number => k_is)
    (case l_Reader_take_number => k_is)
    (case co_Reader_take_number => k_is)
    (case k_Reader_take_number => k_is)
    (case a_Reader_take_bounded => k_is)
    (case i_Reader_take_bounded => k_is)
    (case l_Reader_take_bounded => k_is)
    (case co_Reader_take_bounded => k_is)
    (case k_Reader_take_bounded => k_is)
    (case a_Reader_take_mark => k_is)
    (case i_Reader_take_mark => k_is)
    (case l_Reader_take_mark => k_is)
    (case co_Reader_take_mark => k_is)
    (case k_Reader_take_mark => k_is)
    (case a_Reader_take_end => k_is)
    (case i_Reader_take_end => k_is)
    (case l_Reader_take_end => k_is)
    (case co_Reader_take_end => k_is)
    (case k_Reader_take_end => k_is)
    (case sa_Reader => k_is)
    (case kc_Reader => k_is)
    (case pg_Reader => k_is)
    (case hd_Reader => k_is)
    (case po_Reader => k_is)
    (case mk_Reader => k_is)
    (case n_Reader_form => k_is)
    (case n_Reader_which => k_is)
    (case n_Reader_place => k_is)
    (case a_read_face => k_is)
    (case l_read_face => k_is)
    (case co_read_face => k_is)
    (case k_read_face => k_is)
    (case a_read_glyph => k_is)
    (case l_read_glyph => k_is)
    (case co_read_glyph => k_is)
    (case k_read_glyph => k_is)
    (case a_read_plane => k_is)
    (case l_read_plane => k_is)
    (case co_read_plane => k_is)
    (case k_read_plane => k_is)
    (case a_read_plane_row => k_is)
    (case l_read_plane_row => k_is)
    (case co_read_plane_row => k_is)
    (case k_read_plane_row => k_is)
    (case a_face_bytes => k_is)
    (case l_face_bytes => k_is)
    (case co_face_bytes => k_is)
    (case k_face_bytes => k_is)
    (case a_glyph_bytes => k_is)
    (case l_glyph_bytes => k_is)
    (case co_glyph_bytes => k_is)
    (case k_glyph_bytes => k_is)
    (case a_plane_bytes => k_is)
    (case l_plane_bytes => k_is)
    (case co_plane_bytes => k_is)
    (case k_plane_bytes => k_is)
    (case a_number_bytes => k_is)
    (case l_number_bytes => k_is)
    (case co_number_bytes => k_is)
    (case k_number_bytes => k_is)
    (case a_rank_of => k_is)
    (case l_rank_of => k_is)
    (case co_rank_of => k_is)
    (case k_rank_of => k_is)
    (case a_row_size => k_is)
    (case l_row_size => k_is)
    (case co_row_size => k_is)
    (case k_row_size => k_is)
    (case a_plane_of => k_is)
    (case l_plane_of => k_is)
    (case co_plane_of => k_is)
    (case k_plane_of => k_is)
    (case a_kinds_of => k_is)
    (case l_kinds_of => k_is)
    (case co_kinds_of => k_is)
    (case k_kinds_of => k_is)
    (case a_kind_of => k_is)
    (case l_kind_of => k_is)
    (case co_kind_of => k_is)
    (case k_kind_of => k_is)
    (case a_both_in => k_is)
    (case l_both_in => k_is)
    (case co_both_in => k_is)
    (case k_both_in => k_is)
    (case a_put => k_is)
    (case l_put => k_is)
    (case co_put => k_is)
    (case k_put => k_is)
    (case a_refused_form => k_is)
    (case l_refused_form => k_is)
    (case co_refused_form => k_is)
    (case k_refused_form => k_is)
    (case a_told_numbers => k_is)
    (case l_told_numbers => k_is)
    (case co_told_numbers => k_is)
    (case k_told_numbers => k_is)
    (case a_told_with => k_is)
    (case l_told_with => k_is)
    (case co_told_with => k_is)
    (case k_told_with => k_is)
    (case a_FACE_MARK => k_is)
    (case q_FACE_MARK => kernel_rfl)
    (case a_MOST_HEIGHT => k_is)
    (case a_MOST_WIDTH => k_is)
    (case a_MOST_LETTER => k_is)
    (case a_MOST_COST => k_is)
    (case a_MOST_BUDGET => k_is)
    (case a_MOST_GLYPHS => k_is)
    (case a_PAPER => k_is)
    (case a_INK => k_is)
    (case a_FREE => k_is)
    (case a_OUT_OF_BOUNDS => k_is)
    (case a_THERE_ALREADY => k_is)
    (case a_NOT_A_FORM => k_is)
    (case a_TOO_MANY => k_is)
    (case e_range => k_is)
    (case e_len => k_is)
    (case e_min => k_is)
    (case e_reversed => k_is)
    (case e_enumerate => k_is)
    (case e_zip => k_is)
    (case e_sum => k_is)
    (case e_max => k_is)
    (case e_list => k_is)
  case S =>
    intro K H xs a hO hwi hask hx
    cases hx with
    | cons h0 hx =>
    cases hx with
    | cons h1 hx =>
    cases hx with
    | cons h2 hx =>
    cases hx with
    | cons h3 hx =>
    cases hx with
    | cons h4 hx =>
    cases hx with
    | cons h5 hx =>
    cases hx
    have q : (Codec.inInt 0 18446744073709551615 a.1 && (Codec.inInt 0 18446744073709551615 a.2.1 && (Codec.inInt 0 18446744073709551615 a.2.2.1 && (Codec.inInt 0 18446744073709551615 a.2.2.2.1 && ((Codec.inLen 0 30000 a.2.2.2.2.1 && a.2.2.2.2.1.all (Codec.inInt 0 255)) && ((Codec.inLen 0 4200 a.2.2.2.2.2.1 && a.2.2.2.2.2.1.all (Codec.inInt 0 255)) && true)))))) = true := hwi
    obtain ⟨q0, q⟩ := (Bool.and_eq_true_iff.mp q)
    obtain ⟨q1, q⟩ := (Bool.and_eq_true_iff.mp q)
    obtain ⟨q2, q⟩ := (Bool.and_eq_true_iff.mp q)
    obtain ⟨q3, q⟩ := (Bool.and_eq_true_iff.mp q)
    obtain ⟨q4, q⟩ := (Bool.and_eq_true_iff.mp q)
    obtain ⟨q5, q⟩ := (Bool.and_eq_true_iff.mp q)
    obtain ⟨n0, rfl, z0, e0, m0⟩ := Fc.req_int h0 q0
    obtain ⟨n1, rfl, z1, e1, m1⟩ := Fc.req_int h1 q1
    obtain ⟨n2, rfl, z2, e2, m2⟩ := Fc.req_int h2 q2
    obtain ⟨n3, rfl, z3, e3, m3⟩ := Fc.req_int h3 q3
    obtain ⟨p4, rfl, s4, l4, e4⟩ := Fc.req_bytes h4 q4
    obtain ⟨p5, rfl, s5, l5, e5⟩ := Fc.req_nats h5 q5
    have co : ShapeNeutral.callOf [[4, a.1, a.2.1, a.2.2.1, a.2.2.2.1], a.2.2.2.2.1, a.2.2.2.2.2.1] = (ShapeNeutral.nat a.1).bind fun x0 => (ShapeNeutral.nat a.2.1).bind fun x1 => (ShapeNeutral.nat a.2.2.1).bind fun x2 => (ShapeNeutral.nat a.2.2.2.1).bind fun x3 => (ShapeNeutral.bytes a.2.2.2.2.1).bind fun x4 => (a.2.2.2.2.2.1.mapM ShapeNeutral.nat).bind fun x5 => some (.put x0 x1 x2 x3 x4 x5) := rfl
    have hc : ShapeNeutral.callOf [[4, a.1, a.2.1, a.2.2.1, a.2.2.2.1], a.2.2.2.2.1, a.2.2.2.2.2.1] = some (.put n0 n1 n2 n3 (Fc.bOf a.2.2.2.2.1) (Fc.nOf a.2.2.2.2.2.1)) := by
      rw [co, e0, e1, e2, e3, e4, e5]; rfl
    have e : PyYqshba.put a.1 a.2.1 a.2.2.1 a.2.2.2.1 a.2.2.2.2.1 a.2.2.2.2.2.1 = ShapeNeutral.told (ShB.answer (.put n0 n1 n2 n3 (Fc.bOf a.2.2.2.2.1) (Fc.nOf a.2.2.2.2.2.1))) := by
      show (match ShapeNeutral.callOf [[4, a.1, a.2.1, a.2.2.1, a.2.2.2.1], a.2.2.2.2.1, a.2.2.2.2.2.1] with | some x => ShapeNeutral.told (ShB.answer x) | none => []) = _
      rw [hc]
    refine ⟨n0, n1, n2, n3, p4, Fc.bOf a.2.2.2.2.1, p5, Fc.nOf a.2.2.2.2.2.1, rfl, s4, by omega, s5, by omega, fun H' l hl' => ?_⟩
    show L2.Dw K H' (.ref l) (.list ((PyYqshba.put a.1 a.2.1 a.2.2.1 a.2.2.2.1 a.2.2.2.2.1 a.2.2.2.2.2.1).map WData.int))
    rw [e]
    exact Fc.give_ints hl'
