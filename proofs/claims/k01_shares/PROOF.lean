import PyProof.Rows.All
import Wide.All
import OpenK.AllK
import Wide.FinOn
import Lean
import PyProof.EqAt
import PyProof.EqKinds
import PyProof.TupleCall
import PySem.Challenge.RW_rotstacks_k01_shares
set_option Elab.async false
set_option linter.all false
set_option maxRecDepth 100000
namespace L2
open PySem PySem.Spec PyProof.Rows
abbrev Key := Sum Int Str
def keyIs : Key → Value → Bool
  | .inl k, v => Value.isInt k v
  | .inr x, v => Value.isStrOf x v
def keyH (w : World) : Key → Int
  | .inl k => hashInt k
  | .inr x => hashStr w x
theorem keyIs_shape : ∀ {k : Key} {v : Value}, keyIs k v = true → (∃ i t, k = Sum.inl i ∧ v = Value.int i t) ∨ (∃ x t, k = Sum.inr x ∧ v = Value.str x t)
  | .inl i, v, h => by
    obtain ⟨t, e⟩ := Value.isInt_shape (k := i) (v := v) h
    exact .inl ⟨i, t, rfl, e⟩
  | .inr x, v, h => by
    obtain ⟨t, e⟩ := Value.isStrOf_shape (x := x) (v := v) h
    exact .inr ⟨x, t, rfl, e⟩
theorem key_ll (a b : Int) : decide ((Sum.inl a : Key) = Sum.inl b) = (a == b) := by
  by_cases e : a = b
  · subst e; simp
  · have h : ¬ (Sum.inl a : Key) = Sum.inl b := fun q => e (Sum.inl.inj q)
    rw [decide_eq_false h]
    exact (beq_eq_false_iff_ne.mpr e).symm
theorem key_rr (a b : Str) : decide ((Sum.inr a : Key) = Sum.inr b) = decide (a = b) := by
  by_cases e : a = b
  · subst e; simp
  · have h : ¬ (Sum.inr a : Key) = Sum.inr b := fun q => e (Sum.inr.inj q)
    rw [decide_eq_false h, decide_eq_false e]
theorem key_lr (a : Int) (b : Str) : decide ((Sum.inl a : Key) = Sum.inr b) = false := decide_eq_false (fun q => nomatch q)
theorem key_rl (a : Str) (b : Int) : decide ((Sum.inr a : Key) = Sum.inl b) = false := decide_eq_false (fun q => nomatch q)
def mixKind (prog : Program) (w : World) : PySem.KeyKind prog w Key where
  is := keyIs
  hash := keyH w
  inj := fun v a b ha hb => by
    rcases keyIs_shape ha with ⟨i, t, rfl, rfl⟩ | ⟨x, t, rfl, rfl⟩
    · rcases keyIs_shape hb with ⟨j, u, rfl, e⟩ | ⟨y, u, rfl, e⟩
      · injection e with e1 _; rw [e1]
      · exact nomatch e
    · rcases keyIs_shape hb with ⟨j, u, rfl, e⟩ | ⟨y, u, rfl, e⟩
      · exact nomatch e
      · injection e with e1 _; rw [e1]
  byValue := fun k v h => by
    rcases keyIs_shape h with ⟨i, t, rfl, rfl⟩ | ⟨x, t, rfl, rfl⟩ <;> rfl
  pyHash := fun hv h => by
    rcases keyIs_shape hv with ⟨i, t, rfl, rfl⟩ | ⟨x, t, rfl, rfl⟩
    · exact wpAny_pyHash_int h
    · exact wpAny_pyHash_str h
  eqBool := fun hu hv h => by
    rcases keyIs_shape hu with ⟨i, t, rfl, rfl⟩ | ⟨x, t, rfl, rfl⟩
    · rcases keyIs_shape hv with ⟨j, u, rfl, rfl⟩ | ⟨y, u, rfl, rfl⟩
      · rw [key_ll] at h; exact wpAny_eqBool_int h
      · rw [key_lr] at h; exact SeqAt.EqAt.int_str i t y u _ _ _ _ h
    · rcases keyIs_shape hv with ⟨j, u, rfl, rfl⟩ | ⟨y, u, rfl, rfl⟩
      · rw [key_rl] at h; exact SeqAt.EqAt.str_int x t j u _ _ _ _ h
      · rw [key_rr] at h; exact wpAny_eqBool_str h
  «strs» := fun k x t v h => by
    rcases keyIs_shape h with ⟨i, u, rfl, e⟩ | ⟨y, u, rfl, e⟩
    · exact nomatch e
    · injection e with e1 _
      subst e1
      cases v <;> rfl
end L2
namespace L2
open PySem PySem.Spec PyProof.Rows
inductive V where
  | non | bl (b : Bool) | int (i : Int) | str (x : Str) | byt (b : Array UInt8) | flt (b : UInt64) | ref (a : Addr) | ty (n : String)
  deriving DecidableEq
def RelV : V → Value → Prop
  | .non, u => u = Value.none
  | .bl b, u => u = Value.bool b
  | .int i, u => ∃ t, u = Value.int i t
  | .str x, u => ∃ t, u = Value.str x t
  | .byt b, u => ∃ t, u = Value.bytes b t
  | .flt b, u => ∃ t, u = Value.float b t
  | .ref a, u => u = Value.ref a
  | .ty n, u => u = Value.type n
abbrev Vals : List V → List Value → Prop := Paired RelV
theorem Vals.length {xs : List V} {us : List Value} (r : Vals xs us) : xs.length = us.length := Paired.length r
theorem Vals.get : ∀ {xs : List V} {us : List Value} {i : Nat} {x : V}, Vals xs us → xs[i]? = some x → ∃ u, us[i]? = some u ∧ RelV x u
  | _, _, _, _, .nil, e => by simp at e
  | _, _, 0, _, .cons r _, e => by simp at e; subst e; exact ⟨_, rfl, r⟩
  | _, _, i + 1, x, .cons _ t, e => by
    obtain ⟨u, h1, h2⟩ := Vals.get (i := i) (x := x) t (by simpa using e)
    exact ⟨u, by simpa using h1, h2⟩
theorem Vals.set {x : V} {u : Value} (r : RelV x u) : ∀ {xs : List V} {us : List Value} (i : Nat), Vals xs us → Vals (xs.set i x) (us.set i u)
  | _, _, _, .nil => .nil
  | _, _, 0, .cons _ t => .cons r t
  | _, _, i + 1, .cons q t => .cons q (Vals.set r i t)
theorem Vals.append : ∀ {xs ys : List V} {us ws : List Value}, Vals xs us → Vals ys ws → Vals (xs ++ ys) (us ++ ws)
  | _, _, _, _, .nil, s => s
  | _, _, _, _, .cons r t, s => .cons r (Vals.append t s)
theorem Vals.take : ∀ {xs : List V} {us : List Value} (n : Nat), Vals xs us → Vals (xs.take n) (us.take n)
  | _, _, 0, _ => .nil
  | _, _, _ + 1, .nil => .nil
  | _, _, n + 1, .cons r t => .cons r (Vals.take n t)
theorem Vals.drop : ∀ {xs : List V} {us : List Value} (n : Nat), Vals xs us → Vals (xs.drop n) (us.drop n)
  | _, _, 0, r => r
  | _, _, _ + 1, .nil => .nil
  | _, _, n + 1, .cons _ t => Vals.drop n t
def RelO : Option V → Option Value → Prop
  | some v, some u => RelV v u
  | none, none => True
  | _, _ => False
def KV {κ : Type} : List (κ × V) → List (κ × Value) → Prop := Paired fun (p : κ × V) (q : κ × Value) => p.1 = q.1 ∧ RelV p.2 q.2
def kV : Key → V
  | .inl i => .int i
  | .inr x => .str x
inductive HO where
  | lst (xs : List V)
  | tup (xs : List V)
  | dK (kvs : List (Key × V)) | dT (kvs : List (List Key × V))
  | set (S : Int → Bool) (n : Nat)
  | ins (C dx : Addr) (fs : List (Str × V))
  | own (x : Addr)
  | xd (fs : List (Str × V))
  | met (f x : Addr)
  | rng (lo hi : Int)
  | frz (o : Obj) (u : HO)
  | tbl (ps : Array Value)
  | ext (φ : Heap → Prop)
abbrev Hp := Addr → Option HO
def upd (H : Hp) (a : Addr) (o : HO) : Hp := fun b => if b = a then some o else H b
theorem upd_same {H : Hp} {a : Addr} {o : HO} : upd H a o a = some o := by unfold upd; rw [if_pos rfl]
theorem upd_ne {H : Hp} {a b : Addr} {o : HO} (h : b ≠ a) : upd H a o b = H b := by unfold upd; rw [if_neg h]
theorem ne_of_none {H : Hp} {a b : Addr} {o : HO} (h : H a = some o) (h' : H b = none) : a ≠ b := by
  intro e; subst e; rw [h] at h'; cases h'
section
variable (P : Program) (w : World)
def ObjOk (H : Hp) (h : Heap) (a : Addr) : HO → Prop
  | .lst xs => xs.length ≤ sizeLine ∧ ∃ (its : List Value) (n : Nat), Vals xs its ∧ h.get? a = some { cls := .type "list", data := .seq its.toArray n }
  | .tup xs => xs.length ≤ sizeLine ∧ ∃ its : List Value, Vals xs its ∧ IsTup h a its.toArray
  | .dK kvs => kvs.length ≤ sizeLine ∧ (a == sysModules) = false ∧ ∃ vs, KV kvs vs ∧ h.DictOf (mixKind P w) a vs
  | .dT kvs => kvs.length ≤ sizeLine ∧ (a == sysModules) = false ∧ ∃ xs : List (List Key × Addr × Value),
      Paired (fun (p : List Key × V) (q : List Key × Addr × Value) => p.1 = q.1 ∧ H q.2.1 = some (.tup (p.1.map kV)) ∧ RelV p.2 q.2.2) kvs xs ∧
      ∃ o es ep, h.get? a = some o ∧ o.ExactDict ∧ o.data = .dict es ep ∧ es.toList = xs.map (entryOfKey (tupleKind (mixKind P w))) ∧ (xs.map (·.1)).Nodup
  | .set S n => h.SetOf (intKind P w) a S n
  | .ins C dx fs => H dx = some (.own a) ∧ fs.length ≤ 1000 ∧ dx ≠ a ∧ h.get? a = some (PySem.W.instObj C dx) ∧
      ∃ mA, h.Ns1 dx mA ∧ (∀ f, RelO (fs.lookup f) (mA f)) ∧ PySem.Within mA (fs.map (·.1))
  | .own _ => ∃ o, h.get? a = some o
  | .xd fs => ∃ mA, h.Ns1 a mA ∧ ∀ f, RelO (fs.lookup f) (mA f)
  | .rng lo hi => ∃ t u v, h.get? a = some { cls := .type "range", data := .fields #[.int lo t, .int hi u, .int 1 v] }
  | .frz o u => h.get? a = some o ∧ ObjOk H h a u
  | .tbl ps => h.get? a = some { cls := .none, data := .fields ps }
  | .met f x => h.get? a = some (PySem.W.methodObj (.ref f) (.ref x))
  | .ext φ => φ h ∧ (∃ o, h.get? a = some o) ∧ ∀ h1 h2 : Heap, φ h1 → (∀ o, h1.get? a = some o → h2.get? a = some o) → φ h2
def HOk (H : Hp) (h : Heap) : Prop := ∀ a o, H a = some o → ObjOk P w H h a o
end
section
variable {P : Program} {w : World} {H H' : Hp} {h h' : Heap} {a : Addr} {o : HO}
theorem ObjOk.lt (x : ObjOk P w H h a o) : a < h.objs.size := by
  cases o with
  | lst xs => obtain ⟨_, _, _, _, e⟩ := x; exact Heap.lt_size e
  | tup xs => obtain ⟨_, _, _, p⟩ := x; exact p.lt
  | dK kvs => obtain ⟨_, _, _, _, o, _, _, e, _⟩ := x; exact Heap.lt_size e
  | dT kvs => obtain ⟨_, _, _, _, o, _, _, e, _⟩ := x; exact Heap.lt_size e
  | set S n => obtain ⟨o, _, _, _, e, _⟩ := x; exact Heap.lt_size e
  | ins C dx fs => obtain ⟨_, _, _, e, _⟩ := x; exact Heap.lt_size e
  | own y => obtain ⟨_, e⟩ := x; exact Heap.lt_size e
  | xd fs => obtain ⟨_, ⟨_, _, _, e, _⟩, _⟩ := x; exact Heap.lt_size e
  | rng lo hi => obtain ⟨_, _, _, e⟩ := x; exact Heap.lt_size e
  | frz ob u => obtain ⟨e, _⟩ := x; exact Heap.lt_size e
  | tbl ps => exact Heap.lt_size (show h.get? a = some _ from x)
  | met f y => exact Heap.lt_size (show h.get? a = some _ from x)
  | ext φ => obtain ⟨_, ⟨_, e⟩, _⟩ := x; exact Heap.lt_size e
theorem Paired.mapP {α β : Type} {F G : α → β → Prop} : ∀ {l₁ : List α} {l₂ : List β}, Paired F l₁ l₂ → (∀ a b, F a b → G a b) → Paired G l₁ l₂
  | _, _, .nil, _ => .nil
  | _, _, .cons r t, f => .cons (f _ _ r) (Paired.mapP t f)
theorem ObjOk.stay (x : ObjOk P w H h a o) (k : ∀ b u, (b = a ∨ H b = some (.own a)) → h.get? b = some u → h'.get? b = some u)
    (ho : ∀ b, H b = some (.own a) → H' b = some (.own a)) (ht : ∀ b xs, H b = some (.tup xs) → H' b = some (.tup xs)) : ObjOk P w H' h' a o := by
  induction o with
  | lst xs => obtain ⟨z, its, n, r, e⟩ := x; exact ⟨z, its, n, r, k _ _ (.inl rfl) e⟩
  | tup xs => obtain ⟨z, its, r, ob, e, c⟩ := x; exact ⟨z, its, r, ob, k _ _ (.inl rfl) e, c⟩
  | dK kvs => obtain ⟨z, y, vs, r, ob, es, ep, e, c⟩ := x; exact ⟨z, y, vs, r, ob, es, ep, k _ _ (.inl rfl) e, c⟩
  | dT kvs =>
    obtain ⟨z, y, xs, r, ob, es, ep, e, c⟩ := x
    exact ⟨z, y, xs, Paired.mapP r fun p q z => ⟨z.1, ht _ _ z.2.1, z.2.2⟩, ob, es, ep, k _ _ (.inl rfl) e, c⟩
  | set S n => obtain ⟨ob, es, ep, t, e, c⟩ := x; exact ⟨ob, es, ep, t, k _ _ (.inl rfl) e, c⟩
  | ins C dx fs =>
    obtain ⟨d, z, ne, e, mA, ⟨od, es, ep, e2, c⟩, r⟩ := x
    exact ⟨ho _ d, z, ne, k _ _ (.inl rfl) e, mA, ⟨od, es, ep, k _ _ (.inr d) e2, c⟩, r⟩
  | own y => obtain ⟨ob, e⟩ := x; exact ⟨ob, k _ _ (.inl rfl) e⟩
  | xd fs => obtain ⟨mA, ⟨od, es, ep, e, c⟩, r⟩ := x; exact ⟨mA, ⟨od, es, ep, k _ _ (.inl rfl) e, c⟩, r⟩
  | rng lo hi => obtain ⟨t, u, v, e⟩ := x; exact ⟨t, u, v, k _ _ (.inl rfl) e⟩
  | frz ob u ih => obtain ⟨e, q⟩ := x; exact ⟨k _ _ (.inl rfl) e, ih q⟩
  | tbl ps =>
    have e : h.get? a = some { cls := .none, data := .fields ps } := x
    show h'.get? a = some { cls := .none, data := .fields ps }
    exact k a _ (.inl rfl) e
  | met f y =>
    have e : h.get? a = some (PySem.W.methodObj (.ref f) (.ref y)) := x
    show h'.get? a = some (PySem.W.methodObj (.ref f) (.ref y))
    exact k a _ (.inl rfl) e
  | ext φ => obtain ⟨p, ⟨o, e⟩, st⟩ := x; exact ⟨st _ _ p fun o q => k _ _ (.inl rfl) q, ⟨o, k _ _ (.inl rfl) e⟩, st⟩
theorem HOk.lt (x : HOk P w H h) (e : H a = some o) : a < h.objs.size := (x a o e).lt
theorem HOk.fresh (x : HOk P w H h) (e : h.objs.size ≤ a) : H a = none := by
  cases q : H a with
  | none => rfl
  | some u => exact absurd (Nat.lt_of_lt_of_le (x.lt q) e) (Nat.lt_irrefl _)
theorem HOk.kept (x : HOk P w H h) (k : ∀ b u, h.get? b = some u → h'.get? b = some u) : HOk P w H h' := fun a o e =>
  (x a o e).stay (fun b u _ q => k b u q) (fun _ q => q) fun _ _ q => q
theorem HOk.laid (x : HOk P w H h) (k : ∀ b u, h.get? b = some u → h'.get? b = some u) (hp : h.objs.size ≤ a) (new : ObjOk P w (upd H a o) h' a o) : HOk P w (upd H a o) h' := fun b u e => by
  have hn := x.fresh hp
  by_cases hb : b = a
  · subst hb; rw [upd_same] at e; cases e; exact new
  · rw [upd_ne hb] at e
    exact (x b u e).stay (fun c v _ q => k c v q) (fun c q => by rw [upd_ne (ne_of_none q hn)]; exact q) fun c xs q => by rw [upd_ne (ne_of_none q hn)]; exact q
end
def Rd (H : Hp) (a : Addr) (u : HO) : Prop := H a = some u ∨ ∃ o, H a = some (.frz o u)
theorem Rd.of {H : Hp} {a : Addr} {u : HO} (h : H a = some u) : Rd H a u := .inl h
theorem Rd.ok {P : Program} {w : World} {H : Hp} {h : Heap} {a : Addr} {u : HO} (r : Rd H a u) (x : HOk P w H h) : ObjOk P w H h a u := by
  rcases r with r | ⟨o, r⟩
  · exact x a u r
  · obtain ⟨_, q⟩ := x a _ r
    exact q
def Mut : Option HO → Prop
  | some (.lst _) => True
  | some (.dK _) => True
  | some (.dT _) => True
  | some (.set _ _) => True
  | some (.ins _ _ _) => True
  | some (.ext _) => True
  | _ => False
section
variable {P : Program} {w : World} {H : Hp} {h h' : Heap} {x e : Addr} {o' : HO}
theorem HOk.write (ok : HOk P w H h) (mu : Mut (H x)) (he : e = x ∨ H e = some (.own x)) (k : ∀ b u, b ≠ e → h.get? b = some u → h'.get? b = some u) (heo : ∃ u, h'.get? e = some u)
    (new : ObjOk P w (upd H x o') h' x o') : HOk P w (upd H x o') h' := fun b u q => by
  have nown : ∀ c y, H c = some (.own y) → c ≠ x := fun c y r z => by subst z; rw [r] at mu; exact mu
  have ntup : ∀ c xs, H c = some (.tup xs) → c ≠ x := fun c xs r z => by subst z; rw [r] at mu; exact mu
  by_cases hb : b = x
  · subst hb; rw [upd_same] at q; cases q; exact new
  · rw [upd_ne hb] at q
    by_cases hbe : b = e
    · have q' : H b = some (.own x) := by
        rcases he with z | z
        · exact absurd (hbe.trans z) hb
        · rw [hbe]; exact z
      rw [q] at q'; cases q'
      obtain ⟨v, hv⟩ := heo
      exact ⟨v, by rw [hbe]; exact hv⟩
    · refine (ok b u q).stay (fun c v hc r => k c v ?_ r) (fun c r => by rw [upd_ne (nown c b r)]; exact r) fun c xs r => by rw [upd_ne (ntup c xs r)]; exact r
      rcases hc with rfl | hc
      · exact hbe
      · rintro rfl
        rcases he with z | z
        · exact nown c b hc z
        · rw [hc] at z; cases z; exact hb rfl
end
structure Un (fs ex : List Addr) (H H' : Hp) (h h' : Heap) : Prop where
  keep : ∀ b o, h.get? b = some o → H b = none → b ∉ fs → b ∉ ex → h'.get? b = some o
  slot : ∀ b o, h.get? b = some o → H b = none → b ∈ fs → b ∉ ex → ∃ sl, h'.get? b = some { o with slots := sl }
  free : ∀ b o, h.get? b = some o → H b = none → b ∉ ex → H' b = none
  there : ∀ b o, h.get? b = some o → b ∉ ex → ∃ o', h'.get? b = some o'
  tups : ∀ b xs, H b = some (.tup xs) → H' b = some (.tup xs)
  frzs : ∀ b o u, H b = some (.frz o u) → H' b = some (.frz o u)
  tbls : ∀ b ps, H b = some (.tbl ps) → ∃ more, H' b = some (.tbl (ps ++ more))
section
variable {fs fs' ex ex' : List Addr} {H H1 H2 : Hp} {h h1 h2 h' : Heap} {a x e : Addr} {o : HO}
theorem Un.any (u : Un fs ex H H1 h h1) {b : Addr} {ob : Obj} (q : h.get? b = some ob) (n : H b = none) (hx : b ∉ ex) : ∃ sl, h1.get? b = some { ob with slots := sl } := by
  by_cases hb : b ∈ fs
  · exact u.slot b ob q n hb hx
  · exact ⟨ob.slots, u.keep b ob q n hb hx⟩
theorem Un.trans (a : Un fs ex H H1 h h1) (b : Un fs ex H1 H2 h1 h2) : Un fs ex H H2 h h2 where
  keep := fun c ob q n hc hx => b.keep c ob (a.keep c ob q n hc hx) (a.free c ob q n hx) hc hx
  slot := fun c ob q n hc hx => by
    obtain ⟨sl, e1⟩ := a.slot c ob q n hc hx
    obtain ⟨sl', e2⟩ := b.slot c _ e1 (a.free c ob q n hx) hc hx
    exact ⟨sl', e2⟩
  free := fun c ob q n hx => by
    obtain ⟨o', e1⟩ := a.there c ob q hx
    exact b.free c o' e1 (a.free c ob q n hx) hx
  there := fun c ob q hx => by
    obtain ⟨o', e1⟩ := a.there c ob q hx
    exact b.there c o' e1 hx
  tups := fun c xs q => b.tups c xs (a.tups c xs q)
  frzs := fun c ob xs q => b.frzs c ob xs (a.frzs c ob xs q)
  tbls := fun c ps q => by
    obtain ⟨m1, e1⟩ := a.tbls c ps q
    obtain ⟨m2, e2⟩ := b.tbls c _ e1
    exact ⟨m1 ++ m2, by rw [e2, Array.append_assoc]⟩
theorem Un.kept (k : ∀ b u, h.get? b = some u → h'.get? b = some u) : Un fs ex H H h h' :=
  ⟨fun b ob q _ _ _ => k b ob q, fun b ob q _ _ _ => ⟨ob.slots, k b ob q⟩, fun _ _ _ n _ => n, fun b ob q _ => ⟨ob, k b ob q⟩, fun _ _ q => q, fun _ _ _ q => q, fun _ ps q => ⟨#[], by rw [q]; simp⟩⟩
theorem Un.refl : Un fs ex H H h h := Un.kept fun _ _ q => q
theorem Un.laid (k : ∀ b u, h.get? b = some u → h'.get? b = some u) (hp : h.objs.size ≤ a) (hn : H a = none) : Un fs ex H (upd H a o) h h' where
  keep := fun b u q _ _ _ => k b u q
  slot := fun b u q _ _ _ => ⟨u.slots, k b u q⟩
  free := fun b u q n _ => by rw [upd_ne (Nat.ne_of_lt (Nat.lt_of_lt_of_le (Heap.lt_size q) hp))]; exact n
  there := fun b u q _ => ⟨u, k b u q⟩
  tups := fun b xs q => by rw [upd_ne (ne_of_none q hn)]; exact q
  frzs := fun b u xs q => by rw [upd_ne (ne_of_none q hn)]; exact q
  tbls := fun b ps q => ⟨#[], by rw [upd_ne (ne_of_none q hn), q]; simp⟩
theorem Un.write (mu : Mut (H x)) (he : e = x ∨ H e = some (.own x)) (k : ∀ b u, b ≠ e → h.get? b = some u → h'.get? b = some u) (heo : ∃ u, h'.get? e = some u) : Un fs ex H (upd H x o) h h' := by
  have hx : ∀ b, H b = none → b ≠ x := fun b n z => by subst z; rw [n] at mu; exact mu
  have hb : ∀ b, H b = none → b ≠ e := fun b n z => by
    subst z
    rcases he with r | r
    · exact hx b n r
    · rw [n] at r; cases r
  have hm : ∀ b u, H b = some u → ¬ Mut (some u) → b ≠ x := fun b u q nm z => by subst z; rw [q] at mu; exact nm mu
  refine ⟨fun b u q n _ _ => k b u (hb b n) q, fun b u q n _ _ => ⟨u.slots, k b u (hb b n) q⟩, fun b u q n _ => by rw [upd_ne (hx b n)]; exact n, fun b u q _ => ?_,
    fun b xs q => by rw [upd_ne (hm b _ q fun z => z)]; exact q, fun b u xs q => by rw [upd_ne (hm b _ q fun z => z)]; exact q, fun b ps q => ⟨#[], by rw [upd_ne (hm b _ q fun z => z), q]; simp⟩⟩
  by_cases hbe : b = e
  · subst hbe; exact heo
  · exact ⟨u, k b u hbe q⟩
theorem Un.mono (u : Un fs ex H H1 h h1) (hs : ∀ b ∈ fs, b ∈ fs') (hx : ∀ b ∈ ex, b ∈ ex') : Un fs' ex' H H1 h h1 :=
  ⟨fun b ob q n hb he => u.keep b ob q n (fun z => hb (hs b z)) fun z => he (hx b z), fun _ _ q n _ he => u.any q n fun z => he (hx _ z), fun b ob q n he => u.free b ob q n fun z => he (hx b z), fun b ob q he => u.there b ob q fun z => he (hx b z), u.tups, u.frzs, u.tbls⟩
end
def trk (h : Heap) (H : Hp) : List Addr := (List.range h.objs.size).filter fun a => (H a).isSome
def hidT (h : Heap) (H : Hp) : Heap := PySem.W.hideAll h (trk h H)
theorem hidT_size (h : Heap) (H : Hp) : (hidT h H).objs.size = h.objs.size := PySem.W.hideAll_size _ _
theorem hidT_get {h : Heap} {H : Hp} {b : Addr} {o : Obj} (e : h.get? b = some o) (n : H b = none) : (hidT h H).get? b = some o :=
  PySem.W.hideAll_get _ e fun hm => by
    have q : (H b).isSome = true := (List.mem_filter.mp hm).2
    rw [n] at q; simp at q
theorem of_hidT {h : Heap} {H : Hp} {b : Addr} {o : Obj} (e : (hidT h H).get? b = some o) : h.get? b = some o ∧ H b = none := by
  have e' : h.get? b = some o := PySem.W.of_hideAll (trk h H) e
  refine ⟨e', ?_⟩
  cases q : H b with
  | none => rfl
  | some x =>
    have hm : b ∈ trk h H := List.mem_filter.mpr ⟨List.mem_range.mpr (Heap.lt_size e'), by simp [q]⟩
    have z : (hidT h H).get? b = none := PySem.W.hideAll_none (trk h H) hm
    rw [z] at e; cases e
def allNews (g h : Heap) (L : Addr) : List (Addr × Obj) := (List.range h.objs.size).filterMap fun a => if a = L ∨ (g.get? a).isSome = true then none else (h.get? a).map fun o => (a, o)
def rest (g h : Heap) (L d : Addr) : List (Addr × Obj) := (allNews g h L).filter fun p => decide (p.1 ≠ d)
end L2
namespace L2
open PySem PySem.Spec PyProof.Rows
structure Mod (K : PySem.W.Frag) (mg : Str → Option Value) (base : Heap) : Prop where
  kin : K.In base
  glob : base.Ns mainGlobals mg
  blt : ∃ mb, base.Ns builtinsNs mb ∧ ∀ x : Str, x ≠ "__name__" → mb x = bootBuiltins x
  nolimit : base.NoLimit
structure Cx where
  prog : Program
  w : World
  K : PySem.W.Frag
  mg : Str → Option Value
  base : Heap
  A : Around
  N : List Str
  s₀ : Shared
  H₀ : Hp
  env : Env
  outer : List Env
  stack : List Env
  ex : List Addr
  fn : Str → Bool
  calm : Bool
  pn : List (Addr × Obj)
  xe : Value → Shared → Prop
def frs (l : List Env) : List Addr := l.filterMap (·.frame)
abbrev Cx.fs (X : Cx) : List Addr := frs X.outer
def Vis (sc : Scope) (x : Str) : Prop := sc.names.lookup x = some .local ∨ sc.names.lookup x = some .cell ∨ sc.names.lookup x = some .free
def Loc (sc : Scope) (x : Str) : Prop := sc.names.lookup x = some .local ∨ sc.names.lookup x = some .cell
def Look (env : Env) (h : Heap) (m : Str → Option Value) (x : Str) (u : Value) : Prop :=
  (env.kindOf x = some .local ∧ m x = some u) ∨ ((env.kindOf x = some .cell ∨ env.kindOf x = some .free) ∧ ∃ c, env.cells.lookup x = some c ∧ h.IsCell c (some u))
structure Cx.Ok (X : Cx) : Prop where
  mod : Mod X.K X.mg X.base
  kind : X.env.scope.kind = .function
  glob : X.env.globals = mainGlobals
  blt : X.env.builtins = builtinsNs
  above : X.s₀.heap.objs.size ≤ X.env.locals
  inj : ∀ x y c, X.env.cells.lookup x = some c → X.env.cells.lookup y = some c → x = y
  has : ∀ x, (X.env.kindOf x = some .cell ∨ X.env.kindOf x = some .free) → ∃ c, X.env.cells.lookup x = some c
  cab : ∀ x c, X.fn x = true → X.env.cells.lookup x = some c → X.s₀.heap.objs.size ≤ c
  hd : X.calm = true → X.A.handled = none
  frames : X.A.frames = some X.stack
  stk : X.stack = X.outer ∨ (X.stack = X.env :: X.outer ∧ X.env.frame = some X.env.locals)
  exf : ∀ b ∈ X.ex, b ≠ X.env.locals ∧ ∀ x c, X.env.cells.lookup x = some c → c ≠ b
  bs : ∀ b o, X.base.get? b = some o → X.s₀.heap.get? b = some o ∧ X.H₀ b = none
  bsz : X.base.objs.size ≤ X.s₀.heap.objs.size
  noex : ∀ b o, X.base.get? b = some o → b ∉ X.ex
  exfs : ∀ b ∈ X.ex, b ∉ X.fs
  funs : X.s₀.heap.FunFrames X.base X.outer
  frf : ∀ b ∈ X.fs, X.H₀ b = none
structure Inv (X : Cx) (pins : List (Addr × Obj)) (σ : List (Option V)) (H : Hp) (s : Shared) : Prop where
  ok : X.Ok
  os : s.os = X.s₀.os
  bare : AllBare s.gens
  base : Un X.fs X.ex X.H₀ H X.s₀.heap s.heap
  loc : ∃ m, s.heap.Ns X.env.locals m ∧ ∀ (i : Nat) (x : Str) (v : V), X.N[i]? = some x → σ[i]? = some (some v) → Vis X.env.scope x → ∃ u, RelV v u ∧ Look X.env s.heap m x u
  cell : ∀ x c, X.env.cells.lookup x = some c → ∃ v, s.heap.IsCell c v
  free : H X.env.locals = none
  freeC : ∀ x c, X.env.cells.lookup x = some c → H c = none
  pin : ∀ p ∈ X.pn ++ pins, s.heap.get? p.1 = some p.2 ∧ H p.1 = none ∧ p.1 ≠ X.env.locals ∧ p.1 ∉ X.fs ∧ ∀ v, p.2.data ≠ .cell v
  hok : HOk X.prog X.w H s.heap
  len : σ.length = X.N.length
section
variable {X : Cx} {pins : List (Addr × Obj)} {σ : List (Option V)} {H H' : Hp} {s : Shared} {h' : Heap}
theorem Cx.Ok.nofr (ok : X.Ok) {b : Addr} {o : Obj} (e : X.base.get? b = some o) : b ∉ X.fs := fun hb => by
  have := (ok.funs.mem hb).1
  rw [e] at this; cases this
theorem Inv.bs (I : Inv X pins σ H s) : ∀ b o, X.base.get? b = some o → s.heap.get? b = some o ∧ H b = none := fun b o e =>
  ⟨I.base.keep b o (I.ok.bs b o e).1 (I.ok.bs b o e).2 (I.ok.nofr e) (I.ok.noex b o e), I.base.free b o (I.ok.bs b o e).1 (I.ok.bs b o e).2 (I.ok.noex b o e)⟩
theorem Inv.bk (I : Inv X pins σ H s) : ∀ b o, X.base.get? b = some o → s.heap.get? b = some o := fun b o e => (I.bs b o e).1
theorem Inv.mod (I : Inv X pins σ H s) : Mod X.K X.mg X.base := I.ok.mod
theorem Inv.kIn (I : Inv X pins σ H s) : X.K.In s.heap := I.ok.mod.kin.keeps I.bk
theorem Inv.nolimit (I : Inv X pins σ H s) : s.heap.NoLimit := I.ok.mod.nolimit.keeps I.bk
theorem Inv.lt (I : Inv X pins σ H s) : X.env.locals < s.heap.objs.size := let ⟨_, hn, _⟩ := I.loc; hn.lt
theorem Inv.sz (I : Inv X pins σ H s) : X.s₀.heap.objs.size ≤ s.heap.objs.size := Nat.le_trans I.ok.above (Nat.le_of_lt I.lt)
theorem Inv.nofs (I : Inv X pins σ H s) {a : Addr} (h : s.heap.objs.size ≤ a) : a ∉ X.fs := fun hb => by
  obtain ⟨_, o, ho, _⟩ := I.ok.funs.mem hb
  exact absurd (Nat.lt_of_lt_of_le (Heap.lt_size ho) (Nat.le_trans I.sz h)) (Nat.lt_irrefl _)
theorem Inv.cne (I : Inv X pins σ H s) : ∀ x c, X.env.cells.lookup x = some c → c ≠ X.env.locals := fun x c e z => by
  obtain ⟨v, o, ho, hd⟩ := I.cell x c e
  obtain ⟨m, ⟨o', es, ep, ho', hd', _⟩, _⟩ := I.loc
  rw [z, ho'] at ho; cases ho; rw [hd'] at hd; cases hd
theorem Inv.funs (I : Inv X pins σ H s) : s.heap.FunFrames X.base X.outer := by
  have all : ∀ (l : List Env), (∀ b ∈ frs l, b ∈ X.fs) → X.s₀.heap.FunFrames X.base l → s.heap.FunFrames X.base l := by
    intro l
    induction l with
    | nil => intro _ _; trivial
    | cons env r ih =>
      intro hs hl
      obtain ⟨hk, ⟨L, o, hf, hn, ho, hd⟩, hr⟩ := hl
      have hL : L ∈ X.fs := hs L (by unfold frs; rw [List.filterMap_cons, hf]; exact List.mem_cons_self)
      obtain ⟨sl, e⟩ := I.base.slot L o ho (I.ok.frf L hL) hL fun z => I.ok.exfs L z hL
      exact ⟨hk, ⟨L, _, hf, hn, e, hd⟩, ih (fun b hb => hs b (by unfold frs; rw [List.filterMap_cons, hf]; exact List.mem_cons_of_mem _ hb)) hr⟩
  exact all X.outer (fun _ hb => hb) I.ok.funs
theorem Inv.stack (I : Inv X pins σ H s) : s.heap.FunFrames X.base X.stack := by
  rcases I.ok.stk with e | ⟨e, hf⟩
  · rw [e]; exact I.funs
  · rw [e]
    obtain ⟨m, hn, _⟩ := I.loc
    refine .cons (by rw [I.ok.kind]; decide) hf hn ?_ I.funs
    exact Heap.get?_none_of_le (Nat.le_trans I.ok.bsz I.ok.above)
theorem Inv.stkSub (I : Inv X pins σ H s) : ∀ b ∈ frs X.stack, b ∈ X.env.locals :: X.fs := fun b hb => by
  rcases I.ok.stk with e | ⟨e, hf⟩
  · rw [e] at hb; exact List.mem_cons_of_mem _ hb
  · rw [e] at hb
    unfold frs at hb
    rw [List.filterMap_cons, hf] at hb
    exact hb
theorem Inv.stkFree (I : Inv X pins σ H s) : ∀ b ∈ frs X.stack, H b = none := fun b hb => by
  rcases List.mem_cons.mp (I.stkSub b hb) with e | hb
  · rw [e]; exact I.free
  · obtain ⟨_, o, ho, _⟩ := I.ok.funs.mem hb
    exact I.base.free b o ho (I.ok.frf b hb) fun z => I.ok.exfs b z hb
theorem Inv.step {g' : Array GenState} {t' : Nat} {d' : Drawn} {ch : List Addr} (I : Inv X pins σ H s)
    (hch : ∀ b ∈ ch, (b ∈ X.ex ∨ X.s₀.heap.objs.size ≤ b) ∧ b ≠ X.env.locals ∧ (∀ x c, X.env.cells.lookup x = some c → c ≠ b) ∧ ∀ p ∈ X.pn ++ pins, p.1 ≠ b)
    (keep : ∀ b o, b ≠ X.env.locals → b ∉ X.fs → b ∉ ch → s.heap.get? b = some o → H b = none → h'.get? b = some o)
    (slot : ∀ b o, b ≠ X.env.locals → b ∈ X.fs → b ∉ ch → s.heap.get? b = some o → H b = none → ∃ sl, h'.get? b = some { o with slots := sl }) (free : ∀ b o, b ∉ ch → s.heap.get? b = some o → H b = none → H' b = none)
    (there : ∀ b o, b ∉ ch → s.heap.get? b = some o → ∃ o', h'.get? b = some o')
    (tups : ∀ b xs, H b = some (.tup xs) → H' b = some (.tup xs)) (frzs : ∀ b o u, H b = some (.frz o u) → H' b = some (.frz o u)) (tbls : ∀ b ps, H b = some (.tbl ps) → ∃ more, H' b = some (.tbl (ps ++ more)))
    (ns : ∀ m, s.heap.Ns X.env.locals m → h'.Ns X.env.locals m) (hok : HOk X.prog X.w H' h') (hg : AllBare g') :
    Inv X pins σ H' { s with heap := h', gens := g', drawn := d', toks := t' } := by
  have neL : ∀ b o, X.s₀.heap.get? b = some o → b ≠ X.env.locals := fun b o e => Nat.ne_of_lt (Nat.lt_of_lt_of_le (Heap.lt_size e) I.ok.above)
  have neC : ∀ b o, X.s₀.heap.get? b = some o → b ∉ X.ex → b ∉ ch := fun b o e hx hb => by
    rcases (hch b hb).1 with z | z
    · exact hx z
    · exact absurd (Nat.lt_of_lt_of_le (Heap.lt_size e) z) (Nat.lt_irrefl _)
  have cellK : ∀ x c, X.env.cells.lookup x = some c → ∀ v, s.heap.IsCell c v → h'.IsCell c v := fun x c e v ⟨o, ho, hd⟩ => by
    have nch : c ∉ ch := fun z => (hch c z).2.2.1 x c e rfl
    by_cases hc : c ∈ X.fs
    · obtain ⟨sl, q⟩ := slot c o (I.cne x c e) hc nch ho (I.freeC x c e)
      exact ⟨_, q, hd⟩
    · exact ⟨o, keep c o (I.cne x c e) hc nch ho (I.freeC x c e), hd⟩
  refine ⟨I.ok, I.os, hg, ⟨fun b o e n hb hx => ?_, fun b o e n hb hx => ?_, fun b o e n hx => ?_, fun b o e hx => ?_, fun b xs e => tups b xs (I.base.tups b xs e), fun b o xs e => frzs b o xs (I.base.frzs b o xs e), fun b ps e => ?_⟩, ?_, fun x c e => ?_, ?_, fun x c e => ?_, fun p hp => ?_, hok, I.len⟩
  · exact keep b o (neL b o e) hb (neC b o e hx) (I.base.keep b o e n hb hx) (I.base.free b o e n hx)
  · obtain ⟨sl, e1⟩ := I.base.slot b o e n hb hx
    obtain ⟨sl', e2⟩ := slot b _ (neL b o e) hb (neC b o e hx) e1 (I.base.free b o e n hx)
    exact ⟨sl', e2⟩
  · obtain ⟨o', e1⟩ := I.base.there b o e hx
    exact free b o' (neC b o e hx) e1 (I.base.free b o e n hx)
  · obtain ⟨o', e1⟩ := I.base.there b o e hx
    exact there b o' (neC b o e hx) e1
  · obtain ⟨m1, e1⟩ := I.base.tbls b ps e
    obtain ⟨m2, e2⟩ := tbls b _ e1
    exact ⟨m1 ++ m2, by rw [e2, Array.append_assoc]⟩
  · obtain ⟨m, hn, hl⟩ := I.loc
    refine ⟨m, ns m hn, fun i x v e1 e2 e3 => ?_⟩
    obtain ⟨u, r, l⟩ := hl i x v e1 e2 e3
    refine ⟨u, r, ?_⟩
    rcases l with l | ⟨k, c, e, z⟩
    · exact .inl l
    · exact .inr ⟨k, c, e, cellK x c e _ z⟩
  · obtain ⟨v, z⟩ := I.cell x c e
    exact ⟨v, cellK x c e v z⟩
  · obtain ⟨m, ⟨o, _, _, ho, _⟩, _⟩ := I.loc
    exact free _ o (fun z => (hch _ z).2.1 rfl) ho I.free
  · obtain ⟨v, o, ho, hd⟩ := I.cell x c e
    exact free c o (fun z => (hch c z).2.2.1 x c e rfl) ho (I.freeC x c e)
  · obtain ⟨e, n, ne, nf, d⟩ := I.pin p hp
    have nch : p.1 ∉ ch := fun z => (hch p.1 z).2.2.2 p hp rfl
    exact ⟨keep p.1 p.2 ne nf nch e n, free p.1 p.2 nch e n, ne, nf, d⟩
theorem Inv.un {t' : Nat} (I : Inv X pins σ H s) (u : Un X.fs [] H H' s.heap h') (hok : HOk X.prog X.w H' h') : Inv X pins σ H' { s with heap := h', toks := t' } := by
  obtain ⟨m, ⟨o, es, ep, ho, r⟩, _⟩ := id I.loc
  obtain ⟨sl, hL⟩ := u.any ho I.free (by simp)
  exact I.step (g' := s.gens) (d' := s.drawn) (ch := []) (fun _ z => nomatch z) (fun b o _ hb _ e n => u.keep b o e n hb (by simp)) (fun b o _ hb _ e n => u.slot b o e n hb (by simp)) (fun b o _ e n => u.free b o e n (by simp)) (fun b o _ e => u.there b o e (by simp)) u.tups u.frzs u.tbls (fun m' hm => by
    obtain ⟨o', es', ep', ho', r'⟩ := hm
    rw [ho] at ho'; cases ho'
    exact ⟨_, es', ep', hL, r'⟩) hok I.bare
theorem Inv.call {g' : Array GenState} {t' : Nat} {d' : Drawn} {ch : List Addr} (I : Inv X pins σ H s) (u : Un (frs X.stack) ch H H' s.heap h') (hok : HOk X.prog X.w H' h') (hg : AllBare g')
    (hch : ∀ b ∈ ch, (b ∈ X.ex ∨ X.s₀.heap.objs.size ≤ b) ∧ b ≠ X.env.locals ∧ (∀ x c, X.env.cells.lookup x = some c → c ≠ b) ∧ ∀ p ∈ X.pn ++ pins, p.1 ≠ b) :
    Inv X pins σ H' { s with heap := h', gens := g', drawn := d', toks := t' } := by
  obtain ⟨m, ⟨o, es, ep, ho, r⟩, _⟩ := id I.loc
  obtain ⟨sl, hL⟩ := u.any ho I.free fun z => (hch _ z).2.1 rfl
  exact I.step (ch := ch) hch (fun b o hL hb hc e n => u.keep b o e n (fun z => (List.mem_cons.mp (I.stkSub b z)).elim hL hb) hc) (fun b o _ _ hc e n => u.any e n hc) (fun b o hc e n => u.free b o e n hc) (fun b o hc e => u.there b o e hc) u.tups u.frzs u.tbls (fun m' hm => by
    obtain ⟨o', es', ep', ho', r'⟩ := hm
    rw [ho] at ho'; cases ho'
    exact ⟨_, es', ep', hL, r'⟩) hok hg
theorem Inv.turned {t' : Nat} {it : Addr} (I : Inv X pins σ H s) (k : ∀ b o, b ≠ it → s.heap.get? b = some o → h'.get? b = some o) (hn : H it = none) (hL : it ≠ X.env.locals)
    (h1 : it ∈ X.ex ∨ X.s₀.heap.objs.size ≤ it) (h2 : ∀ x c, X.env.cells.lookup x = some c → c ≠ it) (h3 : ∀ p ∈ X.pn ++ pins, p.1 ≠ it) : Inv X pins σ H { s with heap := h', toks := t' } := by
  have nit : ∀ b u, H b = some u → b ≠ it := fun b u e z => by rw [z, hn] at e; cases e
  refine I.step (g' := s.gens) (d' := s.drawn) (ch := [it]) (fun b hb => ?_) (fun b o _ _ hc e _ => k b o (fun z => hc (by simp [z])) e) (fun b o _ _ hc e _ => ⟨o.slots, k b o (fun z => hc (by simp [z])) e⟩) (fun _ _ _ _ n => n)
    (fun b o hc e => ⟨o, k b o (fun z => hc (by simp [z])) e⟩) (fun _ _ e => e) (fun _ _ _ e => e) (fun b ps e => ⟨#[], by rw [e]; simp⟩) (fun m hm => ?_) (fun b u e => ?_) I.bare
  · have e : b = it := by simpa using hb
    subst e
    exact ⟨h1, hL, h2, h3⟩
  · obtain ⟨o, es, ep, ho, r⟩ := hm
    exact ⟨o, es, ep, k _ o (Ne.symm hL) ho, r⟩
  · refine (I.hok b u e).stay (fun c v hc q => k c v ?_ q) (fun _ q => q) fun _ _ q => q
    rcases hc with z | z
    · rw [z]; exact nit b u e
    · exact nit c _ z
theorem Inv.tok (I : Inv X pins σ H s) (t : Nat) : Inv X pins σ H { s with toks := t } := I.un (h' := s.heap) (t' := t) Un.refl I.hok
theorem Inv.kept {t' : Nat} (I : Inv X pins σ H s) (k : ∀ b u, s.heap.get? b = some u → h'.get? b = some u) : Inv X pins σ H { s with heap := h', toks := t' } := I.un (Un.kept k) (I.hok.kept k)
theorem Inv.laid {a : Addr} {o : HO} {t' : Nat} (I : Inv X pins σ H s) (k : ∀ b u, s.heap.get? b = some u → h'.get? b = some u) (hp : s.heap.objs.size ≤ a) (new : ObjOk X.prog X.w (upd H a o) h' a o) :
    Inv X pins σ (upd H a o) { s with heap := h', toks := t' } := I.un (Un.laid k hp (I.hok.fresh hp)) (I.hok.laid k hp new)
theorem Inv.write {x e : Addr} {o : HO} {t' : Nat} (I : Inv X pins σ H s) (mu : Mut (H x)) (he : e = x ∨ H e = some (.own x)) (k : ∀ b u, b ≠ e → s.heap.get? b = some u → h'.get? b = some u) (heo : ∃ u, h'.get? e = some u)
    (new : ObjOk X.prog X.w (upd H x o) h' x o) : Inv X pins σ (upd H x o) { s with heap := h', toks := t' } := I.un (Un.write mu he k heo) (I.hok.write mu he k heo new)
theorem Inv.pins_of {pins' : List (Addr × Obj)} (I : Inv X pins σ H s) (h : ∀ p ∈ pins', s.heap.get? p.1 = some p.2 ∧ H p.1 = none ∧ p.1 ≠ X.env.locals ∧ p.1 ∉ X.fs ∧ ∀ v, p.2.data ≠ .cell v) : Inv X pins' σ H s :=
  ⟨I.ok, I.os, I.bare, I.base, I.loc, I.cell, I.free, I.freeC, fun p hp => (List.mem_append.mp hp).elim (fun z => I.pin p (List.mem_append_left _ z)) (h p), I.hok, I.len⟩
theorem nodup_ix {N : List Str} (hN : N.Nodup) {i j : Nat} {x : Str} (a : N[i]? = some x) (b : N[j]? = some x) : i = j := by
  obtain ⟨h1, e1⟩ := List.getElem?_eq_some_iff.mp a
  obtain ⟨h2, e2⟩ := List.getElem?_eq_some_iff.mp b
  exact (List.getElem_inj hN).mp (e1.trans e2.symm)
theorem store_ok2 {M : Model} {A : Around} {E : Value → Shared → Prop} {i : Nat} {x : Str} {v : V} {u : Value} {Q : Unit → Shared → Prop} (I : Inv X pins σ H s) (hN : X.N.Nodup) (hi : X.N[i]? = some x) (hx : Loc X.env.scope x) (r : RelV v u)
    (h : ∀ s', Inv X pins (σ.set i (some v)) H s' → (∃ a, Heap.SameBut a s.heap s'.heap ∧ (a = X.env.locals ∨ X.env.cells.lookup x = some a)) → Q () s') (hf : X.fn x = true ∨ X.env.scope.names.lookup x = some .local := by first | exact .inl rfl | exact .inr rfl | assumption) : wpAny M A (storeName X.env x u) Q E s := by
  obtain ⟨m, hn, hl⟩ := id I.loc
  have hcls : (X.env.scope.kind == .class || (X.env.scope.kind == .module && X.env.locals != X.env.globals)) = false := by rw [I.ok.kind]; rfl
  have hiσ : i < σ.length := by rw [I.len]; exact (List.getElem?_eq_some_iff.mp hi).1
  have cne := I.cne
  have tracked : ∀ {a : Addr} {h' : Heap}, (∃ o, s.heap.get? a = some o ∧ H a = none) → Heap.SameBut a s.heap h' → HOk X.prog X.w H h' := fun {a h'} ha hs b ob e => by
    obtain ⟨_, _, hfree⟩ := ha
    refine (I.hok b ob e).stay (fun c w' hc q => (hs.2 c ?_).trans q) (fun _ q => q) fun _ _ q => q
    rintro rfl
    rcases hc with rfl | hc
    · rw [hfree] at e; cases e
    · rw [hfree] at hc; cases hc
  rcases hx with hk | hk
  · refine wpAny_storeName_local hk hn (fun h' hn' hs => ?_) hcls
    obtain ⟨oL, _, _, hoL, _⟩ := id hn
    refine h _ ⟨I.ok, I.os, I.bare, ⟨fun b o e n hb hx => ?_, fun b o e n hb hx => ?_, I.base.free, fun b o e hx => ?_, I.base.tups, I.base.frzs, I.base.tbls⟩, ⟨_, hn', fun j y v' e1 e2 e3 => ?_⟩, fun y c e => ?_, I.free, I.freeC, fun p hp => ?_, tracked ⟨oL, hoL, I.free⟩ hs, by simpa using I.len⟩ ⟨_, hs, .inl rfl⟩
    · exact (hs.2 b (Nat.ne_of_lt (Nat.lt_of_lt_of_le (Heap.lt_size e) I.ok.above))).trans (I.base.keep b o e n hb hx)
    · obtain ⟨sl, e1⟩ := I.base.slot b o e n hb hx
      exact ⟨sl, (hs.2 b (Nat.ne_of_lt (Nat.lt_of_lt_of_le (Heap.lt_size e) I.ok.above))).trans e1⟩
    · obtain ⟨o', e1⟩ := I.base.there b o e hx
      exact ⟨o', (hs.2 b (Nat.ne_of_lt (Nat.lt_of_lt_of_le (Heap.lt_size e) I.ok.above))).trans e1⟩
    · by_cases hj : j = i
      · subst hj
        rw [hi] at e1; cases e1
        rw [List.getElem?_set_self hiσ] at e2
        cases e2
        exact ⟨u, r, .inl ⟨hk, by simp⟩⟩
      · rw [List.getElem?_set_ne (Ne.symm hj)] at e2
        obtain ⟨u', r', q⟩ := hl j y v' e1 e2 e3
        refine ⟨u', r', ?_⟩
        rcases q with ⟨k, e⟩ | ⟨k, c, e, z⟩
        · refine .inl ⟨k, ?_⟩
          have : y ≠ x := fun e => hj (nodup_ix hN e1 (e ▸ hi))
          simp [this, e]
        · exact .inr ⟨k, c, e, z.sameBut hs (cne y c e)⟩
    · obtain ⟨w', z⟩ := I.cell y c e
      exact ⟨w', z.sameBut hs (cne y c e)⟩
    · obtain ⟨e, n, ne, nf, d⟩ := I.pin p hp
      exact ⟨(hs.2 p.1 ne).trans e, n, ne, nf, d⟩
  · have hfn : X.fn x = true := by
      rcases hf with z | z
      · exact z
      · rw [z] at hk; cases hk
    obtain ⟨c, hc⟩ := I.ok.has x (.inl hk)
    obtain ⟨w', z⟩ := I.cell x c hc
    refine wpAny_storeName_cell I.ok.kind hk hc z (fun h' hc' hs => ?_)
    obtain ⟨oc, hoc, hocd⟩ := id z
    refine h { s with heap := h' } ⟨I.ok, I.os, I.bare, ⟨fun b o e n hb hx => ?_, fun b o e n hb hx => ?_, I.base.free, fun b o e hx => ?_, I.base.tups, I.base.frzs, I.base.tbls⟩, ⟨m, hn.sameBut hs (Ne.symm (cne x c hc)), fun j y v' e1 e2 e3 => ?_⟩, fun y c' e => ?_, I.free, I.freeC, fun p hp => ?_, tracked ⟨oc, hoc, I.freeC x c hc⟩ hs, by simpa using I.len⟩ ⟨c, hs, .inr hc⟩
    · exact (hs.2 b (Nat.ne_of_lt (Nat.lt_of_lt_of_le (Heap.lt_size e) (I.ok.cab x c hfn hc)))).trans (I.base.keep b o e n hb hx)
    · obtain ⟨sl, e1⟩ := I.base.slot b o e n hb hx
      exact ⟨sl, (hs.2 b (Nat.ne_of_lt (Nat.lt_of_lt_of_le (Heap.lt_size e) (I.ok.cab x c hfn hc)))).trans e1⟩
    · obtain ⟨o', e1⟩ := I.base.there b o e hx
      exact ⟨o', (hs.2 b (Nat.ne_of_lt (Nat.lt_of_lt_of_le (Heap.lt_size e) (I.ok.cab x c hfn hc)))).trans e1⟩
    · by_cases hj : j = i
      · subst hj
        rw [hi] at e1; cases e1
        rw [List.getElem?_set_self hiσ] at e2
        cases e2
        exact ⟨u, r, .inr ⟨.inl hk, c, hc, hc'⟩⟩
      · rw [List.getElem?_set_ne (Ne.symm hj)] at e2
        obtain ⟨u', r', q⟩ := hl j y v' e1 e2 e3
        refine ⟨u', r', ?_⟩
        rcases q with q | ⟨k, c', e, z'⟩
        · exact .inl q
        · refine .inr ⟨k, c', e, z'.sameBut hs ?_⟩
          rintro rfl
          exact hj (nodup_ix hN e1 (I.ok.inj _ _ _ e hc ▸ hi))
    · by_cases hcc : c' = c
      · subst hcc; exact ⟨_, hc'⟩
      · obtain ⟨w2, z2⟩ := I.cell y c' e
        exact ⟨w2, z2.sameBut hs hcc⟩
    · obtain ⟨e, n, ne, nf, d⟩ := I.pin p hp
      refine ⟨(hs.2 p.1 ?_).trans e, n, ne, nf, d⟩
      intro q
      rw [q, hoc] at e
      have q' : oc = p.2 := Option.some.inj e
      exact d w' (by rw [← q']; exact hocd)
theorem store_ok {M : Model} {A : Around} {E : Value → Shared → Prop} {i : Nat} {x : Str} {v : V} {u : Value} {Q : Unit → Shared → Prop} (I : Inv X pins σ H s) (hN : X.N.Nodup) (hi : X.N[i]? = some x) (hx : Loc X.env.scope x) (r : RelV v u)
    (h : ∀ s', Inv X pins (σ.set i (some v)) H s' → Q () s') (hf : X.fn x = true ∨ X.env.scope.names.lookup x = some .local := by first | exact .inl rfl | exact .inr rfl | assumption) : wpAny M A (storeName X.env x u) Q E s :=
  store_ok2 I hN hi hx r (fun s' I' _ => h s' I') hf
end
abbrev XK := Value → Option Addr → Hp → Prop
abbrev St := List (Option V)
abbrev VK := V → Hp → Prop
abbrev TE := St → Hp → VK → Prop
abbrev TT := St → Hp → (Bool → Hp → Prop) → Prop
abbrev TA := St → Hp → (List V → Hp → Prop) → Prop
structure Ends where
  nx : St → Hp → Prop
  rt : VK
  bk : St → Hp → Prop := fun _ _ => False
  ct : St → Hp → Prop := fun _ _ => False
abbrev TS := Ends → St → Hp → Prop
def EP (X : Cx) (pins : List (Addr × Obj)) (σ : St) (Q : VK) (u : Value) (s' : Shared) : Prop := ∃ v H', Inv X pins σ H' s' ∧ RelV v u ∧ Q v H'
def TP (X : Cx) (pins : List (Addr × Obj)) (σ : St) (Q : Bool → Hp → Prop) (b : Bool) (s' : Shared) : Prop := ∃ H', Inv X pins σ H' s' ∧ Q b H'
def AP (X : Cx) (pins : List (Addr × Obj)) (σ : St) (Q : List V → Hp → Prop) (us : List Value) (s' : Shared) : Prop := ∃ vs H', Inv X pins σ H' s' ∧ Vals vs us ∧ Q vs H'
def SP (X : Cx) (pins : List (Addr × Obj)) (D : Ends) (f : Flow) (s' : Shared) : Prop :=
  match f with
  | .next => ∃ σ' H', Inv X pins σ' H' s' ∧ D.nx σ' H'
  | .brk => ∃ σ' H', Inv X pins σ' H' s' ∧ D.bk σ' H'
  | .cont => ∃ σ' H', Inv X pins σ' H' s' ∧ D.ct σ' H'
  | .ret u => ∃ v σ' H', Inv X pins σ' H' s' ∧ RelV v u ∧ D.rt v H'
def PE (X : Cx) (e : Expr) (t : TE) : Prop :=
  ∀ (pins : List (Addr × Obj)) (s : Shared) (σ : St) (H : Hp) (Q : VK), Inv X pins σ H s → t σ H Q → wpAny (model X.prog X.w) X.A (eval e X.env) (EP X pins σ Q) X.xe s
def PT (X : Cx) (e : Expr) (t : TT) : Prop :=
  ∀ (pins : List (Addr × Obj)) (s : Shared) (σ : St) (H : Hp) (Q : Bool → Hp → Prop), Inv X pins σ H s → t σ H Q → wpAny (model X.prog X.w) X.A (isTrue e X.env (eval e X.env)) (TP X pins σ Q) X.xe s
def PW (X : Cx) (e : Expr) (t : TT) : Prop :=
  ∀ (whole : Sem Value) (pins : List (Addr × Obj)) (s : Shared) (σ : St) (H : Hp) (Q : Bool → Hp → Prop), Inv X pins σ H s → t σ H Q → wpAny (model X.prog X.w) X.A (isTrue e X.env whole) (TP X pins σ Q) X.xe s
theorem PW.pt {X : Cx} {e : Expr} {t : TT} (h : PW X e t) : PT X e t := h _
def PA (X : Cx) (es : List Expr) (t : TA) : Prop :=
  ∀ (pos : Pos) (pins : List (Addr × Obj)) (s : Shared) (σ : St) (H : Hp) (Q : List V → Hp → Prop), Inv X pins σ H s → t σ H Q → wpAny (model X.prog X.w) X.A (spliced (backTo pos (starEach es X.env))) (AP X pins σ Q) X.xe s
def PS (X : Cx) (st : Stmt) (t : TS) : Prop :=
  ∀ (pins : List (Addr × Obj)) (s : Shared) (σ : St) (H : Hp) (D : Ends), Inv X pins σ H s → t D σ H → wpAny (model X.prog X.w) X.A (exec st X.env) (SP X pins D) X.xe s
def PSs (X : Cx) (st : List Stmt) (t : TS) : Prop :=
  ∀ (pins : List (Addr × Obj)) (s : Shared) (σ : St) (H : Hp) (D : Ends), Inv X pins σ H s → t D σ H → wpAny (model X.prog X.w) X.A (execs st X.env) (SP X pins D) X.xe s
theorem thn {α : Type} {t : Sem α} {Q Q' : α → Shared → Prop} {M : Model} {A : Around} {E : Value → Shared → Prop} {s : Shared} (h : wpAny M A t Q E s) (hQ : ∀ a s, Q a s → Q' a s) : wpAny M A t Q' E s := wpAny_mono h hQ fun _ _ x => x
end L2
namespace L2
open PySem PySem.Spec PyProof.Rows
section
variable {X : Cx}
def tVar (i : Nat) : TE := fun σ H Q => ∃ v, σ[i]? = some (some v) ∧ Q v H
def tC (v : V) : TE := fun _ H Q => Q v H
theorem pe_var {i : Nat} {x : Str} {pos : Pos} (hN : X.N[i]? = some x) (hv : Vis X.env.scope x) (hd : (x == ("__debug__" : Str)) = false := by decide) (hcd : (x == ("__classdict__" : Str)) = false := by decide) : PE X (.Name x pos) (tVar i) := by
  intro pins s σ H Q I h
  obtain ⟨v, e, h⟩ := h
  obtain ⟨m, hn, hl⟩ := I.loc
  obtain ⟨u, r, l⟩ := hl i x v hN e hv
  have fin : EP X pins σ Q u s := ⟨v, H, I, r, h⟩
  rcases l with ⟨hk, hm⟩ | ⟨hk, c, hc, hcell⟩
  · exact wpAny_Name (wpAny_loadName_local I.ok.kind hk hn hm fin) hd
  · rcases hk with hk | hk
    · exact wpAny_Name (wpAny_loadName_cell I.ok.kind hk hc hcell fin) hd
    · exact wpAny_Name (wpAny_loadName_free I.ok.kind hk hc hcell fin hcd) hd
theorem pe_int {i j pos} : PE X (.Constant (.int i) j pos) (tC (.int i)) := fun _ _ _ H _ I h => wpAny_Constant_int ⟨.int i, H, I.tok _, ⟨_, rfl⟩, h⟩
theorem pe_bl {b j pos} : PE X (.Constant (.bool b) j pos) (tC (.bl b)) := fun _ _ _ H _ I h => Constant_bool ⟨.bl b, H, I, rfl, h⟩
def Gl (X : Cx) (x : Str) : Prop := X.env.kindOf x = some .globalImplicit
theorem ld_glob {E : Value → Shared → Prop} {pins : List (Addr × Obj)} {s : Shared} {σ : St} {H : Hp} {x : Str} {u : Value} {pos : Pos} {Q : Value → Shared → Prop} (I : Inv X pins σ H s) (hg : Gl X x) (hm : X.mg x = some u) (h : Q u s)
    (hd : (x == ("__debug__" : Str)) = false := by decide) : wpAny (model X.prog X.w) X.A (eval (.Name x pos) X.env) Q E s :=
  Calls.Name_function_global I.ok.kind hg (Calls.loadGlobal_global (by rw [I.ok.glob]; exact I.mod.glob.keeps I.bk) hm h) hd
theorem ld_blt {E : Value → Shared → Prop} {pins : List (Addr × Obj)} {s : Shared} {σ : St} {H : Hp} {x : Str} {u : Value} {pos : Pos} {Q : Value → Shared → Prop} (I : Inv X pins σ H s) (hg : Gl X x) (hm : X.mg x = none) (hv : bootBuiltins x = some u) (h : Q u s)
    (hn : x ≠ "__name__" := by decide) (hd : (x == ("__debug__" : Str)) = false := by decide) : wpAny (model X.prog X.w) X.A (eval (.Name x pos) X.env) Q E s := by
  obtain ⟨mb, h1, h2⟩ := I.mod.blt
  exact Calls.Name_function_global I.ok.kind hg (Calls.loadGlobal_builtin (by rw [I.ok.glob]; exact I.mod.glob.keeps I.bk) hm (by rw [I.ok.blt]; exact h1.keeps I.bk) ((h2 x hn).trans hv) h) hd
theorem pe_bltn {x : Str} {v : V} {u : Value} {pos : Pos} (hg : Gl X x) (hm : X.mg x = none) (hv : bootBuiltins x = some u) (r : RelV v u) (hn : x ≠ "__name__" := by decide) (hd : (x == ("__debug__" : Str)) = false := by decide) : PE X (.Name x pos) (tC v) :=
  fun _ _ _ H _ I h => ld_blt I hg hm hv ⟨v, H, I, r, h⟩ hn hd
variable {a b : Expr} {ta tb : TE} {pos : Pos}
def tB (t : TE) : TT := fun σ H Q => t σ H fun x H1 => ∃ c, x = .bl c ∧ Q c H1
theorem pt_val {e : Expr} {t : TE} (h : PE X e t) (he : ∀ whole, isTrue e X.env whole = (do let v ← whole; standAt e.pos; holding [v] (truthy v)) := by intro _; rfl) : PT X e (tB t) := by
  intro pins s σ H Q I hw
  refine isTrue_plain (thn (h pins s σ H _ I hw) fun v s1 ⟨x, H1, I1, r1, q1⟩ => ?_) (he _)
  obtain ⟨d, rfl, q⟩ := q1
  cases r1
  exact wpAny_truthy_bool ⟨H1, I1, q⟩
variable {tA tB' : TT} {rest : List Expr}
def tOr (t u : TT) : TT := fun σ H Q => t σ H fun c H1 => if c = true then Q true H1 else u σ H1 Q
def tNot (t : TT) : TT := fun σ H Q => t σ H fun c H1 => Q (!c) H1
theorem pw_or1 (ha : PT X a tA) : PW X (.BoolOp .Or [a] pos) tA := by
  intro wh pins s σ H Q I h
  refine isTrue_or (thn (ha pins s σ H Q I h) fun c s1 e => ?_)
  cases c with
  | false => exact isTrue_or_nil e
  | true => exact e
theorem pw_or (ha : PT X a tA) (hb : PW X (.BoolOp .Or (b :: rest) pos) tB') : PW X (.BoolOp .Or (a :: b :: rest) pos) (tOr tA tB') := by
  intro wh pins s σ H Q I h
  refine isTrue_or (thn (ha pins s σ H _ I h) fun c s1 ⟨H1, I1, q1⟩ => ?_)
  cases c with
  | true => exact ⟨H1, I1, q1⟩
  | false => exact hb wh pins s1 σ H1 Q I1 q1
theorem pt_not (ha : PT X a tA) : PT X (.UnaryOp .Not a pos) (tNot tA) := by
  intro pins s σ H Q I h
  exact isTrue_not (ha pins s σ H (fun c H1 => Q (!c) H1) I h)
def tAndV (ta tb : TE) : TE := fun σ H Q => ta σ H fun x H1 => ∃ c, x = .bl c ∧ if c = true then tb σ H1 Q else Q (.bl false) H1
def tNotV (ta : TE) : TE := fun σ H Q => ta σ H fun x H1 => ∃ c, x = .bl c ∧ Q (.bl (!c)) H1
theorem pe_one {op} {t : TE} (h : PE X a t) : PE X (.BoolOp op [a] pos) t := fun pins s σ H Q I hw => BoolOp_one (h pins s σ H Q I hw)
theorem pe_and (ha : PE X a ta) (hb : PE X (.BoolOp .And (b :: rest) pos) tb) : PE X (.BoolOp .And (a :: b :: rest) pos) (tAndV ta tb) := by
  intro pins s σ H Q I h
  refine BoolOp_and (thn (ha pins s σ H _ I h) fun v s1 ⟨x, H1, I1, r1, q1⟩ => ?_)
  obtain ⟨c, rfl, q1⟩ := q1
  cases r1
  refine wpAny_truthy_bool ?_
  cases c with
  | true => exact hb pins s1 σ H1 Q I1 q1
  | false => exact ⟨.bl false, H1, I1, rfl, q1⟩
theorem pe_not (ha : PE X a ta) : PE X (.UnaryOp .Not a pos) (tNotV ta) := by
  intro pins s σ H Q I h
  refine UnaryOp_ (thn (ha pins s σ H _ I h) fun v s1 ⟨x, H1, I1, r1, q1⟩ => ?_)
  obtain ⟨c, rfl, q1⟩ := q1
  cases r1
  exact not_of (wpAny_truthy_bool ⟨.bl (!c), H1, I1, rfl, q1⟩)
end
end L2
namespace L2
open PySem PySem.Spec PyProof.Rows
def SqL (K : PySem.W.Frag) (H : Hp) (a : Addr) (xs : List V) : Prop :=
  Rd H a (.lst xs) ∨
    ∃ (o : Obj) (its : Array Value) (n : Nat), K.lookup a = some o ∧ o.cls = .type "list" ∧ o.dict = none ∧ o.data = .seq its n ∧ its.size ≤ sizeLine ∧ Vals xs its.toList
def SqT (K : PySem.W.Frag) (H : Hp) (a : Addr) (xs : List V) : Prop :=
  Rd H a (.tup xs) ∨
    ∃ (o : Obj) (its : Array Value) (n : Nat), K.lookup a = some o ∧ o.cls = .type "tuple" ∧ o.data = .seq its n ∧ its.size ≤ sizeLine ∧ Vals xs its.toList
def absV : Value → Option V
  | .none => some .non
  | .bool b => some (.bl b)
  | .int i _ => some (.int i)
  | .str x _ => some (.str x)
  | .bytes b _ => some (.byt b)
  | .float b _ => some (.flt b)
  | .ref a => some (.ref a)
  | .type n => some (.ty n)
  | _ => none
theorem RelV.abs {x : V} {u : Value} (r : RelV x u) : absV u = some x := by
  cases x with
  | non => cases r; rfl
  | bl _ => cases r; rfl
  | int _ => obtain ⟨t, rfl⟩ := r; rfl
  | str _ => obtain ⟨t, rfl⟩ := r; rfl
  | byt _ => obtain ⟨t, rfl⟩ := r; rfl
  | flt _ => obtain ⟨t, rfl⟩ := r; rfl
  | ref _ => cases r; rfl
  | ty _ => cases r; rfl
theorem RelV.inj {x y : V} {u : Value} (r : RelV x u) (q : RelV y u) : x = y := Option.some.inj (r.abs.symm.trans q.abs)
theorem Vals.inj : ∀ {xs ys : List V} {us : List Value}, Vals xs us → Vals ys us → xs = ys
  | _, _, _, .nil, .nil => rfl
  | _, _, _, .cons r t, .cons r' t' => by rw [r.inj r', Vals.inj t t']
section
variable {X : Cx} {pins : List (Addr × Obj)} {σ : St} {H : Hp} {s : Shared} {a : Addr} {xs ys : List V}
theorem SqL.of {K : PySem.W.Frag} (h : H a = some (.lst xs)) : SqL K H a xs := .inl (.inl h)
theorem SqT.of {K : PySem.W.Frag} (h : H a = some (.tup xs)) : SqT K H a xs := .inl (.inl h)
theorem Inv.list (I : Inv X pins σ H s) (h : SqL X.K H a xs) : ∃ its : List Value, Vals xs its ∧ PlainL s.heap a its.toArray ∧ xs.length ≤ sizeLine := by
  rcases h with h | ⟨o, its, n, hk, hc, hd, hs, hz, r⟩
  · obtain ⟨z, its, n, r, e⟩ := h.ok I.hok
    exact ⟨its, r, ⟨_, n, e, rfl, rfl, rfl⟩, z⟩
  · refine ⟨its.toList, r, ⟨o, n, I.kIn a o hk, hc, hd, by simpa using hs⟩, ?_⟩
    have e := r.length
    simp only [Array.length_toList] at e
    omega
theorem Inv.tuple (I : Inv X pins σ H s) (h : SqT X.K H a xs) : ∃ its : List Value, Vals xs its ∧ IsTup s.heap a its.toArray ∧ xs.length ≤ sizeLine := by
  rcases h with h | ⟨o, its, n, hk, hc, hs, hz, r⟩
  · obtain ⟨z, its, r, p⟩ := h.ok I.hok
    exact ⟨its, r, p, z⟩
  · refine ⟨its.toList, r, ⟨o, I.kIn a o hk, hc, n, by simpa using hs⟩, ?_⟩
    have e := r.length
    simp only [Array.length_toList] at e
    omega
end
abbrev Cx.wish (X : Cx) (E : Value → Shared → Prop) : Cx := { X with xe := E }
abbrev Cx.nox (X : Cx) : Cx := X.wish fun _ _ => False
theorem Cx.Ok.wish {X : Cx} (ok : X.Ok) (E : Value → Shared → Prop) : (X.wish E).Ok :=
  ⟨ok.mod, ok.kind, ok.glob, ok.blt, ok.above, ok.inj, ok.has, ok.cab, ok.hd, ok.frames, ok.stk, ok.exf, ok.bs, ok.bsz, ok.noex, ok.exfs, ok.funs, ok.frf⟩
theorem Cx.Ok.unwish {X : Cx} {E : Value → Shared → Prop} (ok : (X.wish E).Ok) : X.Ok :=
  ⟨ok.mod, ok.kind, ok.glob, ok.blt, ok.above, ok.inj, ok.has, ok.cab, ok.hd, ok.frames, ok.stk, ok.exf, ok.bs, ok.bsz, ok.noex, ok.exfs, ok.funs, ok.frf⟩
section
variable {X : Cx} {pins : List (Addr × Obj)} {σ : St} {H : Hp} {s : Shared} {E : Value → Shared → Prop}
theorem Inv.wish (I : Inv X pins σ H s) (E : Value → Shared → Prop) : Inv (X.wish E) pins σ H s := ⟨I.ok.wish E, I.os, I.bare, I.base, I.loc, I.cell, I.free, I.freeC, I.pin, I.hok, I.len⟩
theorem Inv.unwish (I : Inv (X.wish E) pins σ H s) : Inv X pins σ H s := ⟨I.ok.unwish, I.os, I.bare, I.base, I.loc, I.cell, I.free, I.freeC, I.pin, I.hok, I.len⟩
theorem SP.unwish {D : Ends} {f : Flow} {s' : Shared} (h : SP (X.wish E) pins D f s') : SP X pins D f s' := by
  cases f with
  | next => obtain ⟨σ', H', I, q⟩ := h; exact ⟨σ', H', I.unwish, q⟩
  | brk => obtain ⟨σ', H', I, q⟩ := h; exact ⟨σ', H', I.unwish, q⟩
  | cont => obtain ⟨σ', H', I, q⟩ := h; exact ⟨σ', H', I.unwish, q⟩
  | ret u => obtain ⟨v, σ', H', I, r, q⟩ := h; exact ⟨v, σ', H', I.unwish, r, q⟩
theorem PE.nox {e : Expr} {t : TE} (h : PE X.nox e t) : PE X e t := fun pins s σ H Q I hw =>
  wpAny_mono (h pins s σ H Q (I.wish _) hw) (fun _ _ ⟨v, H', I', r, q⟩ => ⟨v, H', I'.unwish, r, q⟩) fun _ _ z => False.elim z
theorem PT.nox {e : Expr} {t : TT} (h : PT X.nox e t) : PT X e t := fun pins s σ H Q I hw =>
  wpAny_mono (h pins s σ H Q (I.wish _) hw) (fun _ _ ⟨H', I', q⟩ => ⟨H', I'.unwish, q⟩) fun _ _ z => False.elim z
theorem PSs.nox {st : List Stmt} {t : TS} (h : PSs X.nox st t) : PSs X st t := fun pins s σ H D I hw =>
  wpAny_mono (h pins s σ H D (I.wish _) hw) (fun _ _ q => q.unwish) fun _ _ z => False.elim z
end
section
variable {X : Cx} {st : Stmt} {rest : List Stmt} {t u : TS} {e : Expr} {te : TE} {pos : Pos}
def tNext : TS := fun D σ H => D.nx σ H
def tSeq (t u : TS) : TS := fun D σ H => t { D with nx := u D } σ H
theorem pss_nil : PSs X [] tNext := fun _ _ σ H _ I h => wpAny_execs_nil ⟨σ, H, I, h⟩
theorem pss_cons (h1 : PS X st t) (h2 : PSs X rest u) : PSs X (st :: rest) (tSeq t u) := by
  intro pins s σ H D I h
  refine wpAny_execs_cons (thn (h1 pins s σ H { D with nx := u D } I h) fun f s1 q => ?_)
  cases f with
  | next =>
    obtain ⟨σ', H', I', q⟩ := q
    exact h2 pins s1 σ' H' D I' q
  | ret v => exact q
  | brk => exact q
  | cont => exact q
theorem pss_one (h1 : PS X st t) : PSs X [st] t := by
  intro pins s σ H D I h
  refine wpAny_execs_cons (thn (h1 pins s σ H D I h) fun f s1 q => ?_)
  cases f with
  | next => exact wpAny_execs_nil q
  | ret v => exact q
  | brk => exact q
  | cont => exact q
theorem Inv.quiet {pins : List (Addr × Obj)} {σ : St} {H : Hp} {s : Shared} (I : Inv X pins σ H s) : interactive X.env = false := by simp [interactive, I.ok.kind]
def tDrop (te : TE) : TS := fun D σ H => te σ H fun _ H1 => D.nx σ H1
theorem ps_expr (he : PE X e te) (hs : swapsWith e none pos.line X.env = pure false := by rfl) : PS X (.Expr e pos) (tDrop te) := by
  intro pins s σ H D I h
  exact wpAny_Expr_any (thn (he pins s σ H _ I h) fun v s1 ⟨x, H1, I1, r1, q1⟩ => ⟨σ, H1, I1, q1⟩) I.quiet hs
def tRet (te : TE) : TS := fun D σ H => te σ H D.rt
theorem ps_ret (he : PE X e te) : PS X (.Return (some e) pos) (tRet te) := by
  intro pins s σ H D I h
  exact wpAny_Return_some (thn (he pins s σ H _ I h) fun v s1 ⟨x, H1, I1, r1, q1⟩ => ⟨x, σ, H1, I1, r1, q1⟩)
def tIfS (c : TT) (t u : TS) : TS := fun D σ H => c σ H fun b H1 => if b = true then t D σ H1 else u D σ H1
theorem ps_if {c : Expr} {a b : List Stmt} {tc : TT} (hc : PT X c tc) (ha : PSs X a t) (hb : PSs X b u) : PS X (.If c a b pos) (tIfS tc t u) := by
  intro pins s σ H D I h
  refine wpAny_If (thn (hc pins s σ H _ I h) fun d s1 ⟨H1, I1, q1⟩ => ?_)
  cases d with
  | true => exact ha pins s1 σ H1 D I1 q1
  | false => exact hb pins s1 σ H1 D I1 q1
end
abbrev TG := V → St → Hp → (St → Hp → Prop) → Prop
abbrev TGs := List V → St → Hp → (St → Hp → Prop) → Prop
def PG (X : Cx) (target : Expr) (t : TG) : Prop :=
  ∀ (pins : List (Addr × Obj)) (s : Shared) (σ : St) (H : Hp) (v : V) (u : Value) (Q : St → Hp → Prop), Inv X pins σ H s → RelV v u → t v σ H Q →
    wpAny (model X.prog X.w) X.A (assign target X.env u) (fun _ s' => ∃ σ' H', Inv X pins σ' H' s' ∧ Q σ' H') X.xe s
def PGs (X : Cx) (ts : List Expr) (t : TGs) : Prop :=
  ∀ (pins : List (Addr × Obj)) (s : Shared) (σ : St) (H : Hp) (vs : List V) (us : List Value) (Q : St → Hp → Prop), Inv X pins σ H s → Vals vs us → t vs σ H Q →
    wpAny (model X.prog X.w) X.A (assignInOrder ((assignEach ts X.env).map (·.2)) us) (fun _ s' => ∃ σ' H', Inv X pins σ' H' s' ∧ Q σ' H') X.xe s
section
variable {X : Cx} {pos : Pos}
def gName (i : Nat) : TG := fun v σ H Q => Q (σ.set i (some v)) H
theorem pg_name {i : Nat} {x : Str} (hN : X.N.Nodup) (hi : X.N[i]? = some x) (hx : Loc X.env.scope x) (hf : X.fn x = true ∨ X.env.scope.names.lookup x = some .local := by first | exact .inl rfl | exact .inr rfl | assumption) : PG X (.Name x pos) (gName i) := by
  intro pins s σ H v u Q I r h
  exact wpAny_assign_Name (store_ok I hN hi hx r (fun s' I' => ⟨_, H, I', h⟩) hf)
def tAsg (te : TE) (g : TG) : TS := fun D σ H => te σ H fun x H1 => g x σ H1 D.nx
theorem ps_set {i : Nat} {x : Str} {e : Expr} {te : TE} {pos' : Pos} (hN : X.N.Nodup) (hi : X.N[i]? = some x) (hx : Loc X.env.scope x) (he : PE X e te) (hs : swapsWith e (some (.Name x pos')) pos.line X.env = pure false := by rfl) (hf : X.fn x = true ∨ X.env.scope.names.lookup x = some .local := by first | exact .inl rfl | exact .inr rfl | assumption) :
    PS X (.Assign [.Name x pos'] e pos) (tAsg te (gName i)) := by
  intro pins s σ H D I h
  refine wpAny_Assign_Name (thn (he pins s σ H _ I h) fun v s1 ⟨y, H1, I1, r1, q1⟩ => ?_) hs
  exact store_ok I1 hN hi hx r1 (fun s2 I2 => ⟨_, H1, I2, q1⟩) hf
end
section
variable {X : Cx} {pos : Pos}
end
structure It where
  go : Nat → Hp → Prop
  yld : Nat → Hp → V → Hp → Prop
  stop : Nat → Hp → Prop
def FpOk (X : Cx) (pins : List (Addr × Obj)) (H : Hp) (b : Addr) : Prop :=
  H b = none ∧ b ≠ X.env.locals ∧ b ∉ X.fs ∧ (b ∈ X.ex ∨ X.s₀.heap.objs.size ≤ b) ∧ (∀ x c, X.env.cells.lookup x = some c → c ≠ b) ∧ ∀ p ∈ X.pn ++ pins, p.1 ≠ b
theorem Inv.fpOk {X : Cx} {pins : List (Addr × Obj)} {σ : St} {H H' : Hp} {s : Shared} {b : Addr} (I : Inv X pins σ H s) (hb : s.heap.objs.size ≤ b) (hn : H' b = none) : FpOk X pins H' b := by
  refine ⟨hn, Nat.ne_of_gt (Nat.lt_of_lt_of_le I.lt hb), I.nofs hb, .inr (Nat.le_trans I.sz hb), fun x c e z => ?_, fun p hp z => ?_⟩
  · obtain ⟨v, q⟩ := I.cell x c e
    exact absurd (Nat.lt_of_lt_of_le q.lt (by rw [z]; exact hb)) (Nat.lt_irrefl _)
  · exact absurd (Nat.lt_of_lt_of_le (Heap.lt_size (I.pin p hp).1) (by rw [z]; exact hb)) (Nat.lt_irrefl _)
structure Turn (P : Program) (w : World) (K : PySem.W.Frag) (tg : Expr) (J : It) (fp : List Addr) (it : Addr) (tn : Nat → Heap → Prop) : Prop where
  mem : it ∈ fp
  obj : ∀ i h, tn i h → ∀ b ∈ fp, ∃ o, h.get? b = some o ∧ ∀ v, o.data ≠ .cell v
  keep : ∀ i h h', tn i h → (∀ b ∈ fp, ∀ o, h.get? b = some o → h'.get? b = some o) → tn i h'
  item : ∀ (X : Cx), X.prog = P → X.w = w → X.K = K → X.calm = true → ∀ (i : Nat) (pins : List (Addr × Obj)) (s : Shared) (σ : St) (H : Hp) (E : Value → Shared → Prop), Inv X pins σ H s → (∀ b ∈ fp, FpOk X pins H b) → tn i s.heap → J.go i H →
    wpAny (model P w) X.A (pyNext (.ref it)) (fun r s1 => ∃ u, r = some u ∧
      wpAny (model P w) X.A (letOwnedTupleGo tg (.ref it) u) (fun _ s2 => ∃ x H', Inv X pins σ H' s2 ∧ RelV x u ∧ J.yld i H x H' ∧ tn (i + 1) s2.heap ∧ ∀ b ∈ fp, H' b = none) E s1) E s
  done : ∀ (X : Cx), X.prog = P → X.w = w → X.K = K → X.calm = true → ∀ (i : Nat) (pins : List (Addr × Obj)) (s : Shared) (σ : St) (H : Hp) (E : Value → Shared → Prop), Inv X pins σ H s → (∀ b ∈ fp, FpOk X pins H b) → tn i s.heap → J.stop i H →
    wpAny (model P w) X.A (pyNext (.ref it)) (fun r s1 => r = none ∧ Inv X pins σ H s1) E s
  self : ∀ (A : Around) (i : Nat) (s : Shared) (Q : Value → Shared → Prop) (E : Value → Shared → Prop), tn i s.heap → Q (.ref it) s → wpAny (model P w) A (pyIter (.ref it)) Q E s
abbrev TI := St → Hp → (It → Hp → Prop) → Prop
def PIE (X : Cx) (pins : List (Addr × Obj)) (σ : St) (tg : Expr) (R : It → Hp → Prop) (itv : Value) (s2 : Shared) : Prop :=
  ∃ (it : Addr) (fp : List Addr) (tn : Nat → Heap → Prop) (J : It) (H' : Hp), itv = .ref it ∧ Inv X pins σ H' s2 ∧ Turn X.prog X.w X.K tg J fp it tn ∧ tn 0 s2.heap ∧ (∀ b ∈ fp, FpOk X pins H' b) ∧ R J H'
def PI (X : Cx) (tg iter : Expr) (wi : TI) : Prop :=
  ∀ (pins : List (Addr × Obj)) (s : Shared) (σ : St) (H : Hp) (R : It → Hp → Prop), Inv X pins σ H s → wi σ H R →
    wpAny (model X.prog X.w) X.A (eval iter X.env) (fun v s1 => wpAny (model X.prog X.w) X.A (pyIter v) (PIE X pins σ tg R) X.xe s1) X.xe s
theorem go_of {M : Model} {A : Around} {E : Value → Shared → Prop} {s : Shared} {tg : Expr} {it : Addr} {u : Value} {o : Obj} {n : String} {vs : Array Value} {Q : Unit → Shared → Prop} (ho : s.heap.get? it = some o) (hc : o.cls = .type n) (hd : o.data = .fields vs)
    (hn : ["enumerate", "zip", "dict_itemiterator", "dict_reverseitemiterator", "odict_iterator", "itertools.zip_longest", "itertools.pairwise"].contains n = false) (hQ : Q () s) : wpAny M A (letOwnedTupleGo tg (.ref it) u) Q E s := by
  unfold letOwnedTupleGo
  cases tg <;> first
    | exact wpAny_pure hQ
    | (cases u <;> first
        | exact wpAny_pure hQ
        | (refine wpAny_bind (wpAny_load ho ?_)
           rw [hc, hd]
           show wpAny M A (if (["enumerate", "zip", "dict_itemiterator", "dict_reverseitemiterator", "odict_iterator", "itertools.zip_longest", "itertools.pairwise"].contains n && vs[0]? == some (rawInt _)) = true then _ else _) Q E s
           rw [if_neg (by intro h; rw [hn, Bool.false_and] at h; cases h)]
           exact wpAny_pure hQ))
def Itr (lo : Int) (n : Nat) : It := ⟨fun i _ => i < n, fun i H x H' => H' = H ∧ x = .int (lo + i), fun i _ => n ≤ i⟩
theorem turn_range {P : Program} {w : World} {K : PySem.W.Frag} {tg : Expr} (it : Addr) (lo : Int) (n : Nat) : Turn P w K tg (Itr lo n) [it] it (fun i h => IsRangeIter h it (lo + (i : Nat) * 1) ((n : Int) - (i : Nat)) 1) where
  mem := by simp
  obj := fun i h st b hb => by
    have e : b = it := by simpa using hb
    subst e
    exact ⟨_, st, fun v z => by
      have z' : Data.fields _ = Data.cell v := z
      cases z'⟩
  keep := fun i h h' st k => k it (by simp) _ st
  item := by
    intro X hP hw hK hc i pins s σ H E I hf st hg
    subst hP hw hK
    obtain ⟨f0, f1, f2, f3, f4, f5⟩ := hf it (by simp)
    have W := Walks.range (prog := X.prog) (w := X.w) (I.ok.hd hc) it lo 1 n
    refine W.item i s _ _ hg st fun v h' tk hv st' kk => ?_
    obtain ⟨t, rfl⟩ := hv
    have I1 : Inv X pins σ H { s with heap := h', toks := tk } := I.turned (fun b o hb e => kk b o (by simpa using hb) e) f0 f1 f3 f4 f5
    refine ⟨_, rfl, go_of (s := { s with heap := h', toks := tk }) (n := "range_iterator") st' rfl rfl (by decide) ⟨.int (lo + i), H, I1, ⟨t, ?_⟩, ⟨rfl, rfl⟩, st', fun b hb => (hf b hb).1⟩⟩
    rw [Int.mul_one]
  done := by
    intro X hP hw hK hc i pins s σ H E I hf st hg
    subst hP hw hK
    obtain ⟨f0, f1, f2, f3, f4, f5⟩ := hf it (by simp)
    exact wpAny_pyNext_range_end (I.ok.hd hc) st (by have : n ≤ i := hg; omega) fun h' eb => ⟨rfl, I.turned (t' := s.toks) (fun b o hb e => eb b o hb e) f0 f1 f3 f4 f5⟩
  self := fun _ _ _ _ _ st h => wpAny_pyIter_rangeiter st h
end L2
namespace L2
open PySem PySem.Spec PyProof.Rows
section
variable {X : Cx} {tg : Expr}
theorem range_it {pins : List (Addr × Obj)} {σ : St} {H : Hp} {s : Shared} {R : It → Hp → Prop} {E : Value → Shared → Prop} {lo hi : Int} {t u v : Tok} {tk : Nat} (I : Inv X pins σ H s) (h1 : -(2 ^ 62) ≤ lo) (h2 : lo < 2 ^ 62) (h3 : -(2 ^ 62) ≤ hi) (h4 : hi < 2 ^ 62)
    (q : R (Itr lo (hi - lo).toNat) H) : wpAny (model X.prog X.w) X.A (pyIter (.ref s.heap.objs.size)) (PIE X pins σ tg R) E { s with heap := s.heap.push { cls := .type "range", data := .fields #[.int lo t, .int hi u, .int 1 v] }, toks := tk } := by
  refine wpAny_pyIter_range (IsRange.new ..) (small_one h1 h2 h3 h4) ?_
  have I1 : Inv X pins σ H { s with heap := s.heap.push { cls := .type "range", data := .fields #[.int lo t, .int hi u, .int 1 v] }, toks := tk } := I.kept fun b o e => Heap.get?_push_of_some _ e
  refine ⟨(s.heap.push { cls := .type "range", data := .fields #[.int lo t, .int hi u, .int 1 v] }).objs.size, [(s.heap.push { cls := .type "range", data := .fields #[.int lo t, .int hi u, .int 1 v] }).objs.size], _, _, H, rfl,
    I1.kept (t' := tk) fun b o e => Heap.get?_push_of_some _ e, turn_range _ lo (hi - lo).toNat, ?_, fun b hb => ?_, q⟩
  · have e1 : lo + ((0 : Nat) : Int) * 1 = lo := by simp
    have e2 : (((hi - lo).toNat : Nat) : Int) - ((0 : Nat) : Int) = Builtin.Range.rangeSize lo hi 1 := by rw [rangeSize_one]; split <;> omega
    show IsRangeIter _ _ (lo + ((0 : Nat) : Int) * 1) ((((hi - lo).toNat : Nat) : Int) - ((0 : Nat) : Int)) 1
    rw [e1, e2]
    exact Heap.get?_push_size _ rfl
  · have e : b = (s.heap.push { cls := .type "range", data := .fields #[.int lo t, .int hi u, .int 1 v] }).objs.size := by simpa using hb
    subst e
    exact I1.fpOk (Nat.le_refl _) (I1.hok.fresh (Nat.le_refl _))
def iRng1 (ta : TA) : TI := fun σ H R => ta σ H fun vs H1 => ∃ j : Int, vs = [.int j] ∧ -(2 ^ 62) ≤ j ∧ j < 2 ^ 62 ∧ R (Itr 0 j.toNat) H1
theorem pi_range1 {a : Expr} {ta : TA} {p pos : Pos} (hg : Gl X "range") (hm : X.mg "range" = none) (ha : PA X [a] ta) (hs : starEach [a] X.env = [(false, eval a X.env)] := by rfl) : PI X tg (.Call (.Name "range" p) [a] [] pos) (iRng1 ta) := by
  intro pins s σ H R I h
  refine Call_ (ld_blt I hg hm boot_range (PyProof.Rows.callWith_type1 (thn (ha pos pins s σ H _ I h) fun us s1 ⟨vs, H1, I1, r1, q1⟩ => ?_) hs rfl))
  obtain ⟨j, e, q1, q2, q⟩ := q1
  subst e
  cases r1 with
  | cons r rr =>
    cases rr
    obtain ⟨t, rfl⟩ := r
    exact call_range_1 (range_it I1 (by omega) (by omega) q1 q2 (by simpa using q))
def tFor (wi : TI) (g : TG) (tb : TS) : TS := fun D σ H => wi σ H fun J H1 => ∃ W : Nat → Nat → St → Hp → Prop, (∃ m, W 0 m σ H1) ∧ ∀ i m σ H, W i m σ H →
  (J.stop i H ∧ D.nx σ H) ∨ (J.go i H ∧ ∃ N : St → Hp → Prop, (∀ σ' H', N σ' H' → ∃ m', m' < m ∧ W (i + 1) m' σ' H') ∧ ∀ x H', J.yld i H x H' → g x σ H' fun σ2 H2 => tb { D with nx := N, ct := N, bk := D.nx } σ2 H2)
def pinsAt (fp : List Addr) (h : Heap) : List (Addr × Obj) := fp.filterMap fun b => (h.get? b).map fun o => (b, o)
theorem mem_pinsAt {fp : List Addr} {h : Heap} {b : Addr} {o : Obj} (hb : b ∈ fp) (e : h.get? b = some o) : (b, o) ∈ pinsAt fp h := List.mem_filterMap.mpr ⟨b, hb, by rw [e]; rfl⟩
theorem of_pinsAt {fp : List Addr} {h : Heap} {p : Addr × Obj} (hp : p ∈ pinsAt fp h) : p.1 ∈ fp ∧ h.get? p.1 = some p.2 := by
  obtain ⟨b, hb, e⟩ := List.mem_filterMap.mp hp
  cases q : h.get? b with
  | none => rw [q] at e; cases e
  | some o =>
    rw [q] at e
    have e' : (b, o) = p := Option.some.inj e
    subst e'
    exact ⟨hb, q⟩
theorem Inv.pinned {pins : List (Addr × Obj)} {σ : St} {H : Hp} {s : Shared} {fp : List Addr} (I : Inv X pins σ H s) (hf : ∀ b ∈ fp, FpOk X pins H b) (ho : ∀ b ∈ fp, ∃ o, s.heap.get? b = some o ∧ ∀ v, o.data ≠ .cell v) : Inv X (pins ++ pinsAt fp s.heap) σ H s :=
  I.pins_of fun p hp => (List.mem_append.mp hp).elim (fun z => I.pin p (List.mem_append_right _ z)) fun z => by
    obtain ⟨hb, e⟩ := of_pinsAt z
    obtain ⟨f0, f1, f2, _⟩ := hf p.1 hb
    obtain ⟨o, e', d⟩ := ho p.1 hb
    rw [e] at e'; cases e'
    exact ⟨e, f0, f1, f2, d⟩
theorem Inv.unpinned {pins pl : List (Addr × Obj)} {σ : St} {H : Hp} {s : Shared} (I : Inv X (pins ++ pl) σ H s) : Inv X pins σ H s := I.pins_of fun p hp => I.pin p (List.mem_append_right _ (List.mem_append_left _ hp))
theorem ps_for {iter : Expr} {body : List Stmt} {wi : TI} {g : TG} {tb : TS} {pos : Pos} (hp : PassesOwn (model X.prog X.w) X.A X.env X.xe) (hc : X.calm = true) (hi : PI X tg iter wi) (hg : PG X tg g) (hb : PSs X body tb)
    (hs : ∀ x, foldedSetIterable iter X.env x = pure x := by intro _; rfl) : PS X (.For tg iter body [] pos) (tFor wi g tb) := by
  intro pins s σ H D I h
  refine wpAny_For (thn (hi pins s σ H _ I h) fun v s1 h1 => thn h1 fun itv s2 h2 => ?_) hs
  obtain ⟨it, fp, tn, J, H2, e, I2, T, st2, f2, W, ⟨m0, w0⟩, turn⟩ := h2
  subst e
  have stat : ∀ {H' : Hp}, (∀ b ∈ fp, H' b = none) → ∀ b ∈ fp, FpOk X pins H' b := fun hn b hb => ⟨hn b hb, (f2 b hb).2⟩
  refine codeAny_forLoop_any (fun n s' => ∃ i σ' H', Inv X pins σ' H' s' ∧ tn i s'.heap ∧ (∀ b ∈ fp, H' b = none) ∧ W i n σ' H') ?_ m0 ⟨0, σ, H2, I2, st2, fun b hb => (f2 b hb).1, w0⟩
  rintro n s3 ⟨i, σ3, H3, I3, st3, fr3, w3⟩
  rcases turn i n σ3 H3 w3 with ⟨stop, qn⟩ | ⟨go, N, hN, step⟩
  · refine wpAny_passesOwn hp (thn (T.done X rfl rfl rfl hc i pins s3 σ3 H3 X.xe I3 (stat fr3) st3 stop) fun r s4 ⟨hr, I4⟩ => ?_)
    subst hr
    exact wpAny_execs_nil ⟨σ3, H3, I4, qn⟩
  · refine wpAny_passesOwn hp (thn (T.item X rfl rfl rfl hc i pins s3 σ3 H3 X.xe I3 (stat fr3) st3 go) fun r s4 ⟨u, hr, h4⟩ => ?_)
    subst hr
    refine wpAny_passesOwn hp (thn h4 fun _ s5 ⟨x, H5, I5, r5, y5, st5, fr5⟩ => ?_)
    have I5' := I5.pinned (stat fr5) (T.obj _ _ st5)
    refine wpAny_passesOwn hp (thn (hg _ s5 σ3 H5 x u _ I5' r5 (step x H5 y5)) fun _ s6 ⟨σ6, H6, I6, q6⟩ => ?_)
    refine wpAny_passesOwn hp (thn (hb _ s6 σ6 H6 _ I6 q6) fun f s7 q7 => ?_)
    have again : ∀ {σ7 : St} {H7 : Hp}, Inv X (pins ++ pinsAt fp s5.heap) σ7 H7 s7 → N σ7 H7 → ∃ m, m < n ∧ ∃ i σ' H', Inv X pins σ' H' s7 ∧ tn i s7.heap ∧ (∀ b ∈ fp, H' b = none) ∧ W i m σ' H' := fun {σ7 H7} I7 n7 => by
      obtain ⟨m', hm, w7⟩ := hN σ7 H7 n7
      refine ⟨m', hm, i + 1, σ7, H7, I7.unpinned, T.keep _ _ _ st5 fun b hb o e => (I7.pin (b, o) (List.mem_append_right _ (List.mem_append_right _ (mem_pinsAt hb e)))).1, fun b hb => ?_, w7⟩
      obtain ⟨o, e, d⟩ := T.obj _ _ st5 b hb
      exact (I7.pin (b, o) (List.mem_append_right _ (List.mem_append_right _ (mem_pinsAt hb e)))).2.1
    cases f with
    | next => obtain ⟨σ7, H7, I7, n7⟩ := q7; exact again I7 n7
    | cont => obtain ⟨σ7, H7, I7, n7⟩ := q7; exact again I7 n7
    | brk => obtain ⟨σ7, H7, I7, q7⟩ := q7; exact ⟨σ7, H7, I7.unpinned, q7⟩
    | ret v => obtain ⟨x7, σ7, H7, I7, r7, q7⟩ := q7; exact ⟨x7, σ7, H7, I7.unpinned, r7, q7⟩
end
end L2
namespace L2
open PySem PySem.Spec PyProof.Rows
abbrev R2 := V → V → Hp → VK → Prop
def OpR (X : Cx) (f : Value → Value → Sem Value) (r : R2) : Prop :=
  ∀ (pins : List (Addr × Obj)) (s : Shared) (σ : St) (H : Hp) (x y : V) (v u : Value) (Q : VK), Inv X pins σ H s → RelV x v → RelV y u → r x y H Q →
    wpAny (model X.prog X.w) X.A (f v u) (EP X pins σ Q) X.xe s
def UnR (X : Cx) (f : Value → Sem Value) (r : V → Hp → VK → Prop) : Prop :=
  ∀ (pins : List (Addr × Obj)) (s : Shared) (σ : St) (H : Hp) (x : V) (v : Value) (Q : VK), Inv X pins σ H s → RelV x v → r x H Q →
    wpAny (model X.prog X.w) X.A (f v) (EP X pins σ Q) X.xe s
def CallR (X : Cx) (f : Value) (r : List V → Hp → VK → Prop) : Prop :=
  ∀ (pins : List (Addr × Obj)) (s : Shared) (σ : St) (H : Hp) (xs : List V) (us : List Value) (Q : VK), Inv X pins σ H s → Vals xs us → r xs H Q →
    wpAny (model X.prog X.w) X.A (call f us) (EP X pins σ Q) X.xe s
def tOp (r : R2) (ta tb : TE) : TE := fun σ H Q => ta σ H fun x H1 => tb σ H1 fun y H2 => r x y H2 Q
def tUn (r : V → Hp → VK → Prop) (ta : TE) : TE := fun σ H Q => ta σ H fun x H1 => r x H1 Q
def rI (C : Int → Int → Prop) (g : Int → Int → V) : R2 := fun x y H Q => ∃ i j, x = .int i ∧ y = .int j ∧ C i j ∧ Q (g i j) H
def rI0 (g : Int → Int → V) : R2 := fun x y H Q => ∃ i j, x = .int i ∧ y = .int j ∧ Q (g i j) H
def rU (g : Int → V) : V → Hp → VK → Prop := fun x H Q => ∃ i, x = .int i ∧ Q (g i) H
section
variable {X : Cx} {a b c : Expr} {ta tb tc : TE} {pos : Pos}
theorem binT (ha : PE X a ta) (hb : PE X b tb) {pins : List (Addr × Obj)} {s : Shared} {σ : St} {H : Hp} {R : V → V → Hp → Prop} (I : Inv X pins σ H s)
    (h : ta σ H fun x H1 => tb σ H1 fun y H2 => R x y H2) {Q : Value → Shared → Prop} {f : Value → Value → Sem Value}
    (hf : ∀ v u s2 x y H2, Inv X pins σ H2 s2 → RelV x v → RelV y u → R x y H2 → wpAny (model X.prog X.w) X.A (f v u) Q X.xe s2) :
    wpAny (model X.prog X.w) X.A (eval a X.env) (fun v s₁ => wpAny (model X.prog X.w) X.A (eval b X.env) (fun u s₂ => wpAny (model X.prog X.w) X.A (f v u) Q X.xe s₂) X.xe s₁) X.xe s := by
  refine thn (ha pins s σ H _ I h) fun v s1 ⟨x, H1, I1, r1, q1⟩ => ?_
  refine thn (hb pins s1 σ H1 _ I1 q1) fun u s2 ⟨y, H2, I2, r2, q2⟩ => ?_
  exact hf v u s2 x y H2 I2 r1 r2 q2
theorem pe_op {op : Operator} {r : R2} (ho : OpR X (binaryOp op) r) (ha : PE X a ta) (hb : PE X b tb) : PE X (.BinOp a op b pos) (tOp r ta tb) := by
  intro pins s σ H Q I h
  exact wpAny_BinOp (binT ha hb I h fun v u s2 x y H2 I2 rx ry q => ho pins s2 σ H2 x y v u Q I2 rx ry q)
theorem pe_un {op : UnaryOp} {r : V → Hp → VK → Prop} (ho : UnR X (unaryOp op) r) (ha : PE X a ta) : PE X (.UnaryOp op a pos) (tUn r ta) := by
  intro pins s σ H Q I h
  exact UnaryOp_ (thn (ha pins s σ H _ I h) fun v s1 ⟨x, H1, I1, r1, q1⟩ => ho pins s1 σ H1 x v Q I1 r1 q1)
theorem opI {f : Value → Value → Sem Value} {C : Int → Int → Prop} {g : Int → Int → Int}
    (rule : ∀ (i j : Int) (t u : Tok) (s : Shared) (Q : Value → Shared → Prop) (E : Value → Shared → Prop), C i j → Q (.int (g i j) s.toks) { s with toks := s.toks + 1 } → wpAny (model X.prog X.w) X.A (f (.int i t) (.int j u)) Q E s) :
    OpR X f (rI C fun i j => .int (g i j)) := by
  intro pins s σ H x y v u Q I rx ry h
  obtain ⟨i, j, rfl, rfl, hc, q⟩ := h
  obtain ⟨t, rfl⟩ := rx
  obtain ⟨t', rfl⟩ := ry
  exact rule i j t t' s _ _ hc ⟨.int (g i j), H, I.tok _, ⟨_, rfl⟩, q⟩
theorem opI0 {f : Value → Value → Sem Value} {g : Int → Int → Int}
    (rule : ∀ (i j : Int) (t u : Tok) (s : Shared) (Q : Value → Shared → Prop) (E : Value → Shared → Prop), Q (.int (g i j) s.toks) { s with toks := s.toks + 1 } → wpAny (model X.prog X.w) X.A (f (.int i t) (.int j u)) Q E s) :
    OpR X f (rI0 fun i j => .int (g i j)) := by
  intro pins s σ H x y v u Q I rx ry h
  obtain ⟨i, j, rfl, rfl, q⟩ := h
  obtain ⟨t, rfl⟩ := rx
  obtain ⟨t', rfl⟩ := ry
  exact rule i j t t' s _ _ ⟨.int (g i j), H, I.tok _, ⟨_, rfl⟩, q⟩
theorem opB0 {f : Value → Value → Sem Value} {g : Int → Int → Bool}
    (rule : ∀ (i j : Int) (t u : Tok) (s : Shared) (Q : Value → Shared → Prop) (E : Value → Shared → Prop), Q (.bool (g i j)) s → wpAny (model X.prog X.w) X.A (f (.int i t) (.int j u)) Q E s) :
    OpR X f (rI0 fun i j => .bl (g i j)) := by
  intro pins s σ H x y v u Q I rx ry h
  obtain ⟨i, j, rfl, rfl, q⟩ := h
  obtain ⟨t, rfl⟩ := rx
  obtain ⟨t', rfl⟩ := ry
  exact rule i j t t' s _ _ ⟨.bl (g i j), H, I, rfl, q⟩
def CDiv (i j : Int) : Prop := 0 < j ∧ j < 1073741824
def CMul (i j : Int) : Prop := (-(2 ^ 64) < i ∧ i < 2 ^ 64) ∨ (-(2 ^ 64) < j ∧ j < 2 ^ 64)
theorem CMul.ok {i j : Int} (h : CMul i j) : IntMulOk i j := by
  rcases h with ⟨h1, h2⟩ | ⟨h1, h2⟩
  · exact .of_left (intBits_le_64 h1 h2)
  · exact .of_right (intBits_le_64 h1 h2)
theorem op_add : OpR X (binaryOp .Add) (rI0 fun i j => .int (i + j)) := opI0 fun _ _ _ _ _ _ _ q => add_int q
theorem op_sub : OpR X (binaryOp .Sub) (rI0 fun i j => .int (i - j)) := opI0 fun _ _ _ _ _ _ _ q => sub_int q
theorem op_mul : OpR X (binaryOp .Mult) (rI CMul fun i j => .int (i * j)) := opI fun _ _ _ _ _ _ _ hc q => mul_int q hc.ok
theorem op_fdiv : OpR X (binaryOp .FloorDiv) (rI CDiv fun i j => .int (i / j)) := opI fun i j _ _ _ _ _ hc q => by
  have h1 : (0 : Int) < j := hc.1
  have h2 : j < 1073741824 := hc.2
  exact floordiv_int (by omega) (by rw [Int.fdiv_eq_ediv_of_nonneg i (by omega)]; exact q) (.inl (PyProof.noPylong_small (by omega)))
theorem op_mod : OpR X (binaryOp .Mod) (rI (fun _ j => 0 < j) fun i j => .int (i % j)) := opI fun i j _ _ _ _ _ hc q => by
  have h1 : (0 : Int) < j := hc
  exact mod_int' (by omega) (by rw [Int.fmod_eq_emod_of_nonneg i (by omega)]; exact q)
theorem unI {f : Value → Sem Value} {g : Int → Int}
    (rule : ∀ (i : Int) (t : Tok) (s : Shared) (Q : Value → Shared → Prop) (E : Value → Shared → Prop), Q (.int (g i) s.toks) { s with toks := s.toks + 1 } → wpAny (model X.prog X.w) X.A (f (.int i t)) Q E s) :
    UnR X f (rU fun i => .int (g i)) := by
  intro pins s σ H x v Q I rx h
  obtain ⟨i, rfl, q⟩ := h
  obtain ⟨t, rfl⟩ := rx
  exact rule i t s _ _ ⟨.int (g i), H, I.tok _, ⟨_, rfl⟩, q⟩
theorem un_neg : UnR X (unaryOp .USub) (rU fun i => .int (-i)) := unI fun _ _ _ _ _ q => neg_int q
end
def scal : V → V → Bool
  | .non, .non => true | .non, .int _ => true | .int _, .non => true | .non, .bl _ => true | .bl _, .non => true | .non, .str _ => true | .str _, .non => true
  | .int _, .int _ => true | .bl _, .bl _ => true | .str _, .str _ => true | .byt _, .byt _ => true
  | .int _, .str _ => true | .str _, .int _ => true | .bl _, .str _ => true | .str _, .bl _ => true
  | _, _ => false
def rEq : R2 := fun x y H Q => scal x y = true ∧ Q (.bl (decide (x = y))) H
theorem dec_int {i j : Int} : decide (V.int i = V.int j) = (i == j) := by
  rw [Bool.eq_iff_iff]
  simp
theorem dec_bl {i j : Bool} : decide (V.bl i = V.bl j) = (i == j) := by
  rw [Bool.eq_iff_iff]
  simp
theorem dec_str {i j : Str} : decide (V.str i = V.str j) = (i == j) := by
  rw [Bool.eq_iff_iff]
  simp
theorem dec_byt {i j : Array UInt8} : decide (V.byt i = V.byt j) = (i.toList == j.toList) := by
  rw [Bool.eq_iff_iff]
  cases i
  cases j
  simp
section
variable {X : Cx} {a b c : Expr} {ta tb tc : TE} {pos : Pos}
theorem fin_bl {pins : List (Addr × Obj)} {σ : St} {H : Hp} {s : Shared} {Q : VK} {k k' : Bool} (I : Inv X pins σ H s) (q : Q (.bl k) H) (e : k = k') : EP X pins σ Q (.bool k') s := by
  subst e
  exact ⟨.bl k, H, I, rfl, q⟩
theorem op_eq : OpR X (compareOp .Eq) rEq := by
  intro pins s σ H x y v u Q I rx ry h
  obtain ⟨hs, q⟩ := h
  cases x with
  | non =>
    cases rx
    cases y with
    | non => cases ry; exact PySem.EqNone.eq_none_none (fin_bl I q (by simp))
    | bl j => cases ry; exact PySem.EqNone.eq_none_bool (fin_bl I q (by simp))
    | int j => obtain ⟨t', rfl⟩ := ry; exact PySem.EqNone.eq_none_int (fin_bl I q (by simp))
    | str j => obtain ⟨t', rfl⟩ := ry; exact PySem.EqNone.eq_none_str (fin_bl I q (by simp))
    | _ => exact absurd (show false = true from hs) Bool.false_ne_true
  | bl i =>
    cases rx
    cases y with
    | non => cases ry; exact PySem.EqNone.eq_bool_none (fin_bl I q (by simp))
    | bl j => cases ry; exact eq_bool (fin_bl I q dec_bl)
    | str j => obtain ⟨t', rfl⟩ := ry; exact PySem.EqMixed.eq_bool_str (fin_bl I q (by simp))
    | _ => exact absurd (show false = true from hs) Bool.false_ne_true
  | int i =>
    obtain ⟨t, rfl⟩ := rx
    cases y with
    | non => cases ry; exact PySem.EqNone.eq_int_none (fin_bl I q (by simp))
    | int j => obtain ⟨t', rfl⟩ := ry; exact eq_int (fin_bl I q dec_int)
    | str j => obtain ⟨t', rfl⟩ := ry; exact PySem.EqMixed.eq_int_str (fin_bl I q (by simp))
    | _ => exact absurd (show false = true from hs) Bool.false_ne_true
  | str i =>
    obtain ⟨t, rfl⟩ := rx
    cases y with
    | non => cases ry; exact PySem.EqNone.eq_str_none (fin_bl I q (by simp))
    | bl j => cases ry; exact PySem.EqMixed.eq_str_bool (fin_bl I q (by simp))
    | int j => obtain ⟨t', rfl⟩ := ry; exact PySem.EqMixed.eq_str_int (fin_bl I q (by simp))
    | str j => obtain ⟨t', rfl⟩ := ry; exact eq_str (fin_bl I q dec_str)
    | _ => exact absurd (show false = true from hs) Bool.false_ne_true
  | byt i =>
    obtain ⟨t, rfl⟩ := rx
    cases y with
    | byt j => obtain ⟨t', rfl⟩ := ry; exact PySem.W.eq_bytes (fin_bl I q dec_byt)
    | _ => exact absurd (show false = true from hs) Bool.false_ne_true
  | _ => cases y <;> exact absurd (show false = true from hs) Bool.false_ne_true
theorem op_lt : OpR X (compareOp .Lt) (rI0 fun i j => .bl (decide (i < j))) := opB0 fun _ _ _ _ _ _ _ q => lt_int q
theorem op_gt : OpR X (compareOp .Gt) (rI0 fun i j => .bl (decide (j < i))) := opB0 fun _ _ _ _ _ _ _ q => gt_int q
theorem OpR.or {f : Value → Value → Sem Value} {r r' : R2} (h : OpR X f r) (h' : OpR X f r') : OpR X f (fun x y H Q => r x y H Q ∨ r' x y H Q) := by
  intro pins s σ H x y v u Q I rx ry q
  rcases q with q | q
  · exact h pins s σ H x y v u Q I rx ry q
  · exact h' pins s σ H x y v u Q I rx ry q
theorem nomark (b : Expr) {op : CmpOp} (h : op ≠ .In := by decide) (h2 : op ≠ .NotIn := by decide) : behindInMarks op b = false := by
  have e1 : (op == CmpOp.In) = false := by cases op <;> first | rfl | exact absurd rfl h
  have e2 : (op == CmpOp.NotIn) = false := by cases op <;> first | rfl | exact absurd rfl h2
  cases b <;> simp [behindInMarks, e1, e2]
theorem pe_cmpR {op : CmpOp} {r : R2} (ho : OpR X (compareOp op) r) (ha : PE X a ta) (hb : PE X b tb) (hm : behindInMarks op b = false) : PE X (.Compare a [op] [b] pos) (tOp r ta tb) := by
  intro pins s σ H Q I h
  exact wpAny_Compare1 (binT ha hb I h fun v u s2 x y H2 I2 rx ry q => ho pins s2 σ H2 x y v u Q I2 rx ry q) hm
def tTest (t : TE) : TT := fun σ H Q => t σ H fun x H' => ∃ k, x = .bl k ∧ Q k H'
theorem pt_cmpR {op : CmpOp} {r : R2} (ho : OpR X (compareOp op) r) (ha : PE X a ta) (hb : PE X b tb) (hm : behindInMarks op b = false) : PT X (.Compare a [op] [b] pos) (tTest (tOp r ta tb)) := by
  intro pins s σ H Q I h
  refine wpAny_isTrue_Compare1 (thn (ha pins s σ H _ I h) fun v s1 ⟨x, H1, I1, r1, q1⟩ => thn (hb pins s1 σ H1 _ I1 q1) fun u s2 ⟨y, H2, I2, r2, q2⟩ =>
    thn (ho pins s2 σ H2 x y v u _ I2 r1 r2 q2) fun c s3 ⟨z, H3, I3, r3, k, e, q3⟩ => ?_) hm
  subst e
  cases r3
  exact wpAny_truthy_bool ⟨H3, I3, q3⟩
theorem line63 : (sizeLine : Nat) < 2 ^ 63 := by rw [sizeLine_eq]; decide
theorem vals1 {x : V} {us : List Value} (r : Vals [x] us) : ∃ u, us = [u] ∧ RelV x u := by
  cases r with
  | cons r1 r2 => cases r2; exact ⟨_, rfl, r1⟩
theorem vals2 {x y : V} {us : List Value} (r : Vals [x, y] us) : ∃ u w', us = [u, w'] ∧ RelV x u ∧ RelV y w' := by
  cases r with
  | cons r1 r2 =>
    cases r2 with
    | cons r3 r4 => cases r4; exact ⟨_, _, rfl, r1, r3⟩
theorem call_max2 (hc : X.calm = true) : CallR X (.builtin "max") (fun xs H Q => ∃ i j, xs = [.int i, .int j] ∧ Q (.int (if j > i then j else i)) H) := by
  intro pins s σ H xs us Q I r h
  obtain ⟨i, j, rfl, q⟩ := h
  obtain ⟨u, w', rfl, ⟨t, rfl⟩, ⟨t', rfl⟩⟩ := vals2 r
  refine max_two_ints (I.ok.hd hc) fun h' tk k => ⟨_, H, I.kept k, ?_, q⟩
  by_cases hj : j > i
  · rw [if_pos hj, if_pos hj]; exact ⟨_, rfl⟩
  · rw [if_neg hj, if_neg hj]; exact ⟨_, rfl⟩
theorem call_int1 : CallR X (.type "int") (fun xs H Q => (∃ i, xs = [.int i] ∧ Q (.int i) H) ∨ ∃ k, xs = [.bl k] ∧ Q (.int (if k then 1 else 0)) H) := by
  intro pins s σ H xs us Q I r h
  rcases h with ⟨i, rfl, q⟩ | ⟨k, rfl, q⟩
  · obtain ⟨u, rfl, t, rfl⟩ := vals1 r
    exact call_int_int ⟨.int i, H, I, ⟨_, rfl⟩, q⟩
  · obtain ⟨u, rfl, r1⟩ := vals1 r
    cases r1
    exact call_int_bool ⟨.int (if k then 1 else 0), H, I.tok _, ⟨_, rfl⟩, q⟩
end
end L2
namespace L2
open PySem PySem.Spec PyProof.Rows
structure ObjM (h : Heap) (x dx C : Addr) (mA : Str → Option Value) : Prop where
  obj : h.get? x = some (PySem.W.instObj C dx)
  ns : h.Ns1 dx mA
  ne : dx ≠ x
theorem lookIn_ns {h : Heap} {dx : Addr} {mA : Str → Option Value} (n : h.Ns1 dx mA) : ∃ od, h.get? dx = some od ∧ ∀ name, PySem.W.lookIn name od = some (mA name) := by
  obtain ⟨o, es, ep, ho, hd, hk, _, hm⟩ := n
  refine ⟨o, ho, fun name => ?_⟩
  have e := hm name
  unfold nsFind findBy at e
  rw [← Array.find?_toList] at e
  unfold PySem.W.lookIn
  rw [hd]
  dsimp only
  split
  · rename_i y q
    rw [q] at e
    exact congrArg some e
  · rename_i q
    rw [q] at e
    have a : es.toList.any (·.refKey) = false := by
      rw [List.any_eq_false]
      intro y hy
      obtain ⟨z, t, hkey⟩ := hk y (Array.mem_toList_iff.mp hy)
      simp [DictEntry.refKey, hkey]
    have a' : ¬ es.toList.any (·.refKey) = true := by rw [a]; exact Bool.false_ne_true
    rw [if_neg a']
    exact congrArg some e
theorem ObjM.look {h : Heap} {x dx C : Addr} {mA : Str → Option Value} (I : ObjM h x dx C mA) : ∃ od, PySem.W.InstAt h x (PySem.W.instObj C dx) C (some od) ∧ ∀ name, PySem.W.lookIn name od = some (mA name) :=
  let ⟨od, ho, hl⟩ := lookIn_ns I.ns
  ⟨od, ⟨I.obj, rfl, rfl, ho⟩, hl⟩
section
variable {prog : Program} {w : World} {A : Around} {E : Value → Shared → Prop} {s : Shared} {K : PySem.W.Frag} {x dx C f : Addr} {mA : Str → Option Value} {name : Str} {v : Value}
end
section
variable {P : Program} {w : World} {H H' : Hp} {h h' : Heap} {a C dx : Addr} {fs fs' : List (Str × V)}
theorem ins_get (hok : HOk P w H h) (e : H a = some (.ins C dx fs)) : ∃ mA, ObjM h a dx C mA ∧ (∀ f, RelO (fs.lookup f) (mA f)) ∧ PySem.Within mA (fs.map (·.1)) ∧ fs.length ≤ 1000 ∧ H dx = some (.own a) := by
  obtain ⟨d, z, ne, ob, mA, n, r, q⟩ := (show ObjOk P w H h a (.ins C dx fs) from hok a _ e)
  exact ⟨mA, ⟨ob, n, ne⟩, r, q, z, d⟩
end
structure Cls (K : PySem.W.Frag) (C : Addr) : Prop where
  pg : PySem.W.plainGet K C Str.empty = true
  hd : PySem.W.hasDictIn K C = true
  po : PySem.W.plainOver K C = true
  sa : PySem.W.findIn K (.ref C) "__setattr__" = some (some (.builtin "object.__setattr__"))
theorem Cls.get {K : PySem.W.Frag} {C : Addr} (c : Cls K C) (f : Str) : PySem.W.plainGet K C f = true := c.pg
structure Con (K : PySem.W.Frag) (C : Addr) (f : Str) (v : V) (u : Value) : Prop where
  at_ : PySem.W.findIn K (.ref C) f = some (some u)
  rel : RelV v u
  get : PySem.W.specialIn K u "__get__" = some none
  cp : PySem.W.copiedNames.contains f = false
structure Meth (K : PySem.W.Frag) (C : Addr) (m : Str) (f : Addr) : Prop where
  at_ : PySem.W.findIn K (.ref C) m = some (some (.ref f))
  fn : PySem.W.isFn K (.ref f) = true
  kp : PySem.W.keepIn K (.ref f) = true
section
variable {X : Cx} {pins : List (Addr × Obj)} {σ : St} {H : Hp} {s : Shared} {a C dx : Addr} {fs : List (Str × V)} {f : Str} {v : V} {A : Around} {E : Value → Shared → Prop}
end
section
variable {X : Cx} {o e value : Expr} {f : Str} {pos pos' tpos : Pos} {ta tv : TE}
end
section
variable {X : Cx} {pins : List (Addr × Obj)} {σ : St} {H : Hp} {s : Shared} {A : Around} {E : Value → Shared → Prop} {Q : Value → Shared → Prop} {c : Value} {b : Bool}
inductive TyOf (K : PySem.W.Frag) (H : Hp) : V → Value → Prop where
  | non : TyOf K H .non (.type "NoneType")
  | bl (x : Bool) : TyOf K H (.bl x) (.type "bool")
  | int (i : Int) : TyOf K H (.int i) (.type "int")
  | str (x : Str) : TyOf K H (.str x) (.type "str")
  | flt (x : UInt64) : TyOf K H (.flt x) (.type "float")
  | lst {a : Addr} {xs : List V} (e : H a = some (.lst xs)) : TyOf K H (.ref a) (.type "list")
  | frz {a : Addr} {o : Obj} {xs : List V} (e : H a = some (.frz o (.lst xs))) : TyOf K H (.ref a) (.type "list")
  | tup {a : Addr} {xs : List V} (e : H a = some (.tup xs)) : TyOf K H (.ref a) (.type "tuple")
  | dK {a : Addr} {kvs : List (Key × V)} (e : H a = some (.dK kvs)) : TyOf K H (.ref a) (.type "dict")
  | dT {a : Addr} {kvs : List (List Key × V)} (e : H a = some (.dT kvs)) : TyOf K H (.ref a) (.type "dict")
  | ins {a C dx : Addr} {fs : List (Str × V)} (e : H a = some (.ins C dx fs)) (cl : Cls K C) (ha : PySem.W.findIn K (.ref C) "__class__" = some (some (.builtin "object.__class__")))
      (hn : PySem.W.specialIn K (.builtin "object.__class__") "__get__" = some (some (.builtin "getset_descriptor.__get__"))) (htk : PySem.W.takesIn K (.builtin "object.__class__") = some true)
      (hm : PySem.W.mroIn K C (.type "object") = some true) : TyOf K H (.ref a) (.ref C)
theorem isinst_ok {x : V} {u t : Value} (I : Inv X pins σ H s) (rx : RelV x u) (ty : TyOf X.K H x t) (e : PySem.W.kitOne X.K t c = some b) (h : ∀ tk, Q (.bool b) { s with toks := tk }) :
    wpAny (model X.prog X.w) A (call (.builtin "isinstance") [u, c]) Q E s := by
  cases ty with
  | non => cases (show u = Value.none from rx); exact PySem.W.kia_one PySem.W.kitx_none I.kIn True.intro e (fun z => nomatch z) h
  | bl y => cases (show u = Value.bool y from rx); exact PySem.W.kia_one PySem.W.kitx_bool I.kIn True.intro e (fun z => nomatch z) h
  | int i => obtain ⟨t, q⟩ := (show ∃ t, u = Value.int i t from rx); cases q; exact PySem.W.kia_one PySem.W.kitx_int I.kIn True.intro e (fun z => nomatch z) h
  | str y => obtain ⟨t, q⟩ := (show ∃ t, u = Value.str y t from rx); cases q; exact PySem.W.kia_one PySem.W.kitx_str I.kIn True.intro e (fun z => nomatch z) h
  | flt y => obtain ⟨t, q⟩ := (show ∃ t, u = Value.float y t from rx); cases q; exact PySem.W.kia_one PySem.W.kitx_float I.kIn True.intro e (fun z => nomatch z) h
  | @lst a xs ea =>
    cases (show u = Value.ref a from rx)
    obtain ⟨_, _, n, _, h1⟩ := (show ObjOk X.prog X.w H s.heap a (.lst xs) from I.hok a _ ea)
    exact PySem.W.kia_one PySem.W.kitx_list I.kIn ⟨_, h1, rfl⟩ e (fun z => nomatch z) h
  | @frz a ob xs ea =>
    cases (show u = Value.ref a from rx)
    obtain ⟨_, _, _, n, _, h1⟩ := (show ObjOk X.prog X.w H s.heap a (.frz ob (.lst xs)) from I.hok a _ ea)
    exact PySem.W.kia_one PySem.W.kitx_list I.kIn ⟨_, h1, rfl⟩ e (fun z => nomatch z) h
  | @tup a xs ea =>
    cases (show u = Value.ref a from rx)
    obtain ⟨_, _, _, p⟩ := (show ObjOk X.prog X.w H s.heap a (.tup xs) from I.hok a _ ea)
    obtain ⟨o, h1, h2, _⟩ := p
    exact PySem.W.kia_one PySem.W.kitx_tuple I.kIn ⟨o, h1, h2⟩ e (fun z => nomatch z) h
  | @dK a kvs ea =>
    cases (show u = Value.ref a from rx)
    obtain ⟨_, _, vs, _, p⟩ := (show ObjOk X.prog X.w H s.heap a (.dK kvs) from I.hok a _ ea)
    obtain ⟨o, es, ep, h1, h2, _⟩ := p
    exact PySem.W.kia_one PySem.W.kitx_dict I.kIn ⟨o, h1, h2.1⟩ e (fun z => nomatch z) h
  | @dT a kvs ea =>
    cases (show u = Value.ref a from rx)
    obtain ⟨_, _, xs, _, o, es, ep, h1, h2, _⟩ := (show ObjOk X.prog X.w H s.heap a (.dT kvs) from I.hok a _ ea)
    exact PySem.W.kia_one PySem.W.kitx_dict I.kIn ⟨o, h1, h2.1⟩ e (fun z => nomatch z) h
  | @ins a C dx fs ea cl ha hn htk hm =>
    cases (show u = Value.ref a from rx)
    obtain ⟨mA, O, _⟩ := ins_get I.hok ea
    obtain ⟨od, J, _⟩ := O.look
    exact PySem.W.kia_one (PySem.W.kitx_own (cl.get _) cl.hd ha hn htk hm) I.kIn J e (fun z => nomatch z) h
end
end L2
namespace L2
open PySem PySem.Spec PyProof.Rows
structure Room (k : Nat) (A : Around) : Prop where
  hd : A.handled = none
  dp : A.depth + 3 * k + 5 < recursionLimit
  un : A.units + 16 * k + 200 < cLine
theorem Room.mono {j k : Nat} {A : Around} (r : Room k A) (h : j ≤ k) : Room j A := ⟨r.hd, by have := r.dp; omega, by have := r.un; omega⟩
theorem Room.deeper {k : Nat} {A : Around} (r : Room (k + 1) A) (env : Env) : Room k (A.deeper env) :=
  ⟨r.hd, by have := r.dp; show A.depth + 1 + 3 * k + 5 < _; omega, by have := r.un; show A.units + 3 + 16 * k + 200 < _; omega⟩
theorem Room.depth {k : Nat} {A : Around} (r : Room k A) : A.depth < recursionLimit := by have := r.dp; omega
theorem Room.units {k : Nat} {A : Around} (r : Room k A) : A.units + 64 < cLine := by have := r.un; omega
def tNil : TA := fun _ H Q => Q [] H
def tCons (ta : TE) (tr : TA) : TA := fun σ H Q => ta σ H fun x H1 => tr σ H1 fun xs H2 => Q (x :: xs) H2
section
variable {X : Cx} {e : Expr} {es : List Expr} {te : TE} {t : TA} {pos : Pos}
theorem pa_nil : PA X [] tNil := fun _ _ _ _ H Q I h => Calls.spliced_nil ⟨[], H, I, .nil, h⟩
theorem pa_cons (ha : PE X e te) (hr : PA X es t) (hs : starEach (e :: es) X.env = (false, eval e X.env) :: starEach es X.env := by rfl) : PA X (e :: es) (tCons te t) := by
  intro pos pins s σ H Q I h
  rw [hs]
  show wpAny _ _ (spliced ((false, eval e X.env) :: backTo pos (starEach es X.env))) _ _ s
  refine Calls.spliced_cons (thn (ha pins s σ H _ I h) fun u s1 ⟨x, H1, I1, r1, q1⟩ => ?_)
  exact thn (hr pos pins s1 σ H1 _ I1 q1) fun us s2 ⟨xs, H2, I2, r2, q2⟩ => ⟨x :: xs, H2, I2, .cons r1 r2, q2⟩
def tTup (t : TA) : TE := fun σ H Q => t σ H fun xs H1 => xs.length ≤ sizeLine ∧ ∀ p, H1 p = none → Q (.ref p) (upd H1 p (.tup xs))
def tLst (t : TA) : TE := fun σ H Q => t σ H fun xs H1 => xs.length ≤ sizeLine ∧ ∀ p, H1 p = none → Q (.ref p) (upd H1 p (.lst xs))
theorem pe_tup {x1} (h : PA X es t) : PE X (.Tuple es x1 pos) (tTup t) := by
  intro pins s σ H Q I hq
  refine wpAny_Tuple_spliced (thn (h pos pins s σ H _ I hq) fun us s1 ⟨xs, H1, I1, r, z, q⟩ => ⟨by rw [← r.length]; exact z, ?_⟩)
  have hf : H1 s1.heap.objs.size = none := I1.hok.fresh (Nat.le_refl _)
  refine ⟨.ref s1.heap.objs.size, upd H1 s1.heap.objs.size (.tup xs), I1.laid (t' := s1.toks) (fun b u e => Heap.get?_push_of_some _ e) (Nat.le_refl _) ?_, rfl, q _ hf⟩
  exact ⟨z, us, r, ⟨_, Heap.get?_push_size _ rfl, rfl, _, rfl⟩⟩
theorem pe_lst (h : PA X es t) : PE X (.List es pos) (tLst t) := by
  intro pins s σ H Q I hq
  refine wpAny_List_spliced (thn (h pos pins s σ H _ I hq) fun us s1 ⟨xs, H1, I1, r, z, q⟩ => ⟨by rw [← r.length]; exact z, ?_⟩)
  have hf : H1 s1.heap.objs.size = none := I1.hok.fresh (Nat.le_refl _)
  refine ⟨.ref s1.heap.objs.size, upd H1 s1.heap.objs.size (.lst xs), I1.laid (t' := s1.toks) (fun b u e => Heap.get?_push_of_some _ e) (Nat.le_refl _) ?_, rfl, q _ hf⟩
  exact ⟨z, us, 0, r, Heap.get?_push_size _ rfl⟩
end
abbrev Sp := List V → Hp → VK → XK → Prop
abbrev CXT := List Env → Hp → Shared → XK → Value → Shared → Prop
structure Env0 (P : Program) (w : World) (K : PySem.W.Frag) (mg : Str → Option Value) (base : Heap) (A : Around) (outer : List Env) (s : Shared) (H : Hp) : Prop where
  frames : A.frames = some outer
  mod : Mod K mg base
  bs : ∀ b o, base.get? b = some o → s.heap.get? b = some o ∧ H b = none
  bsz : base.objs.size ≤ s.heap.objs.size
  funs : s.heap.FunFrames base outer
  frf : ∀ b ∈ frs outer, H b = none
  hok : HOk P w H s.heap
  bare : AllBare s.gens
def CE (outer : List Env) (P : Program) (w : World) (H : Hp) (s : Shared) (Q : VK) (u : Value) (s' : Shared) : Prop :=
  ∃ v H', s'.os = s.os ∧ AllBare s'.gens ∧ Un (frs outer) [] H H' s.heap s'.heap ∧ HOk P w H' s'.heap ∧ RelV v u ∧ Q v H'
def CR (CX : CXT) (outer : List Env) (P : Program) (w : World) (H : Hp) (s : Shared) (Q : VK) (E : XK) (r : Result) (s' : Shared) : Prop :=
  match r with
  | .ok (.ret u) => CE outer P w H s Q u s'
  | .ok _ => False
  | .error e => CX outer H s E e s'
structure FnOk (P : Program) (w : World) (K : PySem.W.Frag) (mg : Str → Option Value) (base : Heap) (CX : CXT) (k : Nat) (f : Addr) (fd : FuncData) (ps : List Str) (sp : Sp) : Prop where
  len : ∀ vs H Q E, sp vs H Q E → vs.length = ps.length
  run : ∀ (A : Around) (outer : List Env) (s : Shared) (H : Hp) (args : Args) (us : List Value) (vs : List V) (Q : VK) (E : XK), Room k A → Env0 P w K mg base A outer s H → BindsTo s fd args (ps.zip us) → Vals vs us → sp vs H Q E →
    codeAny (model P w) A (.call (.ref f) args) (CR CX outer P w H s Q E) s
theorem FnOk.mono {P : Program} {w : World} {K : PySem.W.Frag} {mg : Str → Option Value} {base : Heap} {CX : CXT} {j k : Nat} {f : Addr} {fd : FuncData} {ps : List Str} {sp : Sp} (F : FnOk P w K mg base CX j f fd ps sp) (h : j ≤ k) :
    FnOk P w K mg base CX k f fd ps sp := ⟨F.len, fun A outer s H args us vs Q E hr => F.run A outer s H args us vs Q E (hr.mono h)⟩
theorem FnOk.imp {P : Program} {w : World} {K : PySem.W.Frag} {mg : Str → Option Value} {base : Heap} {CX : CXT} {k : Nat} {f : Addr} {fd : FuncData} {ps : List Str} {sp sp' : Sp} (F : FnOk P w K mg base CX k f fd ps sp)
    (h : ∀ vs H Q E, sp' vs H Q E → sp vs H Q E) : FnOk P w K mg base CX k f fd ps sp' :=
  ⟨fun vs H Q E q => F.len vs H Q E (h _ _ _ _ q), fun A outer s H args us vs Q E hr he hb hv hs => F.run A outer s H args us vs Q E hr he hb hv (h _ _ _ _ hs)⟩
section
variable {X : Cx} {pins : List (Addr × Obj)} {σ : St} {H : Hp} {s s' : Shared}
theorem Inv.env0 (I : Inv X pins σ H s) : Env0 X.prog X.w X.K X.mg X.base X.A X.stack s H :=
  ⟨I.ok.frames, I.ok.mod, I.bs, Nat.le_trans I.ok.bsz I.sz, I.stack, I.stkFree, I.hok, I.bare⟩
theorem Inv.after {Q : VK} {u : Value} (I : Inv X pins σ H s) (h : CE X.stack X.prog X.w H s Q u s') : EP X pins σ Q u s' := by
  obtain ⟨v, H', os, bare, un, hok, r, q⟩ := h
  obtain ⟨hh, g, d, t, os'⟩ := s'
  obtain rfl : os' = s.os := os
  exact ⟨v, H', I.call (h' := hh) (g' := g) (d' := d) (t' := t) (ch := []) un hok bare (fun b z => absurd z (by simp)), r, q⟩
end
def tCall (sp : Sp) (dvs : List V) (E : XK) (t : TA) : TE := fun σ H Q => t σ H fun vs H1 => sp (vs ++ dvs) H1 Q E
def Binds (K : PySem.W.Frag) (fd : FuncData) (ps : List Str) (ds : List Value) : Prop :=
  ∀ (s : Shared) (us : List Value), K.In s.heap → (us ++ ds).length = ps.length → BindsTo s fd ⟨us, []⟩ (ps.zip (us ++ ds))
theorem Binds.all {K : PySem.W.Frag} {fd : FuncData} {ps : List Str} (h : ∀ us : List Value, us.length = ps.length → bindArgs fd ⟨us, []⟩ = pure (ps.zip us)) : Binds K fd ps [] := fun s us _ hl => by
  rw [List.append_nil] at hl ⊢
  exact .of_eq (h us hl)
def Passes (CX : CXT) (X : Cx) (E : XK) : Prop := ∀ (pins : List (Addr × Obj)) (σ : St) (H : Hp) (s : Shared) (e : Value) (s' : Shared), Inv X pins σ H s → CX X.stack H s E e s' → X.xe e s'
section
variable {X : Cx} {CX : CXT} {k : Nat} {f C : Addr} {fd : FuncData} {ps : List Str} {sp : Sp} {dvs : List V} {ds : List Value} {E : XK} {x m : Str} {p pos apos : Pos} {e o : Expr} {es : List Expr} {ta : TE} {t : TA}
theorem run_fn {pins : List (Addr × Obj)} {σ : St} {H : Hp} {s : Shared} {Q : VK} {us : List Value} {vs : List V} (F : FnOk X.prog X.w X.K X.mg X.base CX k f fd ps sp) (hr : Room k X.A) (hb : Binds X.K fd ps ds) (hd : Vals dvs ds) (hx : Passes CX X E)
    (I : Inv X pins σ H s) (r : Vals vs us) (h : sp (vs ++ dvs) H Q E) : wpAny (model X.prog X.w) X.A (call (.ref f) us) (EP X pins σ Q) X.xe s := by
  have r2 : Vals (vs ++ dvs) (us ++ ds) := r.append hd
  have hl : (us ++ ds).length = ps.length := by rw [← r2.length]; exact F.len _ _ _ _ h
  refine wpAny_call (codeAny_mono (F.run X.A X.stack s H ⟨us, []⟩ (us ++ ds) (vs ++ dvs) Q E hr I.env0 (hb s us I.kIn hl) r2 h) fun r s' hq => ?_)
  cases r with
  | error e => exact hx pins σ H s e s' I hq
  | ok fl =>
    cases fl with
    | ret u => exact I.after hq
    | next => exact False.elim hq
    | brk => exact False.elim hq
    | cont => exact False.elim hq
theorem pe_call (F : FnOk X.prog X.w X.K X.mg X.base CX k f fd ps sp) (hr : Room k X.A) (hg : Gl X x) (hm : X.mg x = some (.ref f)) (hk : PySem.W.keepIn X.K (.ref f) = true) (hb : Binds X.K fd ps ds) (hd : Vals dvs ds) (hx : Passes CX X E)
    (ha : PA X (e :: es) t) (hdb : (x == ("__debug__" : Str)) = false := by decide) (he : starEach (e :: es) X.env = (false, eval e X.env) :: starEach es X.env := by rfl) (hpl : (backTo pos (starEach es X.env)).any (·.1) = false := by rfl) :
    PE X (.Call (.Name x p) (e :: es) [] pos) (tCall sp dvs E t) := by
  intro pins s σ H Q I h
  refine wpAny_Call_Name_kw (ld_glob I hg hm ?_ hdb)
  refine PySem.W.callWith_K (h₀ := X.base) I.ok.mod.kin hk (thn (ha pos pins s σ H _ I h) fun us s1 ⟨vs, H1, I1, r, q⟩ => ⟨I1.kIn, ?_⟩) he hpl
  exact run_fn F hr hb hd hx I1 r q
structure Mk (K : PySem.W.Frag) (C f : Addr) : Prop where
  makes : PySem.W.makesIn K C = true
  init : PySem.W.findIn K (.ref C) "__init__" = some (some (.ref f))
  fn : PySem.W.isFn K (.ref f) = true
  kp : PySem.W.keepIn K (.ref C) = true
end
section
variable {X : Cx} {CX : CXT} {k : Nat} {f C : Addr} {fd : FuncData} {ps ks : List Str} {sp : Sp} {E : XK} {x m : Str} {p pos apos kpos : Pos} {e o : Expr} {es : List Expr} {kws : List Keyword} {te ta : TE} {t tk : TA} {nm : Option Str}
structure KBinds (K : PySem.W.Frag) (fd : FuncData) (ps ks : List Str) (g : List Value → List Value → List Value) (gV : List V → List V → List V) : Prop where
  to : ∀ (s : Shared) (us ws : List Value), K.In s.heap → (g us ws).length = ps.length → BindsTo s fd ⟨us, ks.zip ws⟩ (ps.zip (g us ws))
  rel : ∀ {vs : List V} {us : List Value} {zs : List V} {ws : List Value}, Vals vs us → Vals zs ws → Vals (gV vs zs) (g us ws)
variable {g : List Value → List Value → List Value} {gV : List V → List V → List V}
end
structure FnScope (N P : List Str) (sc : Scope) : Prop where
  kind : sc.kind = .function
  co : sc.isCoroutine = false
  gen : sc.isGenerator = false
  nd : N.Nodup
  pre : N.take P.length = P
  par : ∀ x ∈ P, sc.names.lookup x = some .local ∨ sc.names.lookup x = some .cell
  nofree : ∀ y ∈ sc.names, y.2 ≠ .free
theorem bindL_out {kindOf : Str → Option NameKind} {x : Str} : ∀ {binds : List (Str × Value)} {m : Str → Option Value}, (∀ v, (x, v) ∉ binds) → bindL kindOf binds m x = m x
  | [], _, _ => rfl
  | (n, v) :: r, m, h => by
    unfold bindL
    rw [bindL_out fun w hw => h w (List.mem_cons_of_mem _ hw)]
    split
    · have : x ≠ n := by rintro rfl; exact h v List.mem_cons_self
      simp [this]
    · rfl
theorem bindC_out {kindOf : Str → Option NameKind} {x : Str} : ∀ {binds : List (Str × Value)} {m : Str → Option Value}, (∀ v, (x, v) ∉ binds) → bindC kindOf binds m x = m x
  | [], _, _ => rfl
  | (n, v) :: r, m, h => by
    unfold bindC
    rw [bindC_out fun w hw => h w (List.mem_cons_of_mem _ hw)]
    split
    · rfl
    · have : x ≠ n := by rintro rfl; exact h v List.mem_cons_self
      simp [this]
theorem bindL_get {kindOf : Str → Option NameKind} {x : Str} {v : Value} : ∀ {P : List Str} {vs : List Value} {i : Nat} {m : Str → Option Value}, P.Nodup → P[i]? = some x → vs[i]? = some v → kindOf x = some .local →
    bindL kindOf (P.zip vs) m x = some v
  | [], _, _, _, _, h, _, _ => by simp at h
  | _ :: _, [], _, _, _, _, h, _ => by simp at h
  | p :: P, w :: vs, 0, m, nd, h1, h2, hk => by
    simp at h1 h2; subst h1; subst h2
    show bindL kindOf ((p, w) :: P.zip vs) m p = _
    unfold bindL
    rw [bindL_out fun v hv => (List.nodup_cons.mp nd).1 (List.of_mem_zip hv).1, if_pos hk]
    simp
  | p :: P, w :: vs, i + 1, m, nd, h1, h2, hk => by
    show bindL kindOf ((p, w) :: P.zip vs) m x = _
    unfold bindL
    exact bindL_get (i := i) (List.nodup_cons.mp nd).2 (by simpa using h1) (by simpa using h2) hk
theorem bindC_get {kindOf : Str → Option NameKind} {x : Str} {v : Value} : ∀ {P : List Str} {vs : List Value} {i : Nat} {m : Str → Option Value}, P.Nodup → P[i]? = some x → vs[i]? = some v → kindOf x ≠ some .local →
    bindC kindOf (P.zip vs) m x = some v
  | [], _, _, _, _, h, _, _ => by simp at h
  | _ :: _, [], _, _, _, _, h, _ => by simp at h
  | p :: P, w :: vs, 0, m, nd, h1, h2, hk => by
    simp at h1 h2; subst h1; subst h2
    show bindC kindOf ((p, w) :: P.zip vs) m p = _
    unfold bindC
    rw [bindC_out fun v hv => (List.nodup_cons.mp nd).1 (List.of_mem_zip hv).1, if_neg hk]
    simp
  | p :: P, w :: vs, i + 1, m, nd, h1, h2, hk => by
    show bindC kindOf ((p, w) :: P.zip vs) m x = _
    unfold bindC
    exact bindC_get (i := i) (List.nodup_cons.mp nd).2 (by simpa using h1) (by simpa using h2) hk
def start (N : List Str) (vs : List V) : St := vs.map some ++ List.replicate (N.length - vs.length) none
def cxOf (CX : CXT) (P : Program) (w : World) (K : PySem.W.Frag) (mg : Str → Option Value) (base : Heap) (N : List Str) (qual : Str) (scope : Scope) (f : Addr) (cd : Value) (A : Around) (outer : List Env) (s : Shared) (H : Hp) (E : XK) : Cx where
  prog := P
  w := w
  K := K
  mg := mg
  base := base
  A := A.deeper (envOfC qual scope s.heap.objs.size f cd)
  N := N
  s₀ := s
  H₀ := H
  env := envOfC qual scope s.heap.objs.size f cd
  outer := outer
  stack := envOfC qual scope s.heap.objs.size f cd :: outer
  ex := []
  calm := true
  fn := fun _ => true
  pn := []
  xe := fun e s' => wpAny (model P w) (A.deeper (envOfC qual scope s.heap.objs.size f cd)) (leaving (envOfC qual scope s.heap.objs.size f cd) e) (fun _ s'' => CX outer H s E e s'') (fun e' s'' => CX outer H s E e' s'') s'
theorem cell_has {sc : Scope} {n : Nat} {x : Str} (h : sc.names.lookup x = some .cell) : ∃ c, (cellsFrom n sc.names []).lookup x = some c := by
  have q := PySem.W.cellsFrom_some sc.names n [] (.inl h)
  exact Option.isSome_iff_exists.mp q
theorem inv_start {CX : CXT} {P : Program} {w : World} {K : PySem.W.Frag} {mg : Str → Option Value} {base : Heap} {N ps : List Str} {qual : Str} {scope : Scope} {f : Addr} {cd : Value} {A : Around} {outer : List Env} {s s1 : Shared} {H : Hp} {E : XK} {us : List Value} {vs : List V}
    (S : FnScope N ps scope) (hd : A.handled = none) (e0 : Env0 P w K mg base A outer s H) (hl : vs.length = ps.length) (r : Vals vs us)
    (x : InCallC s s.heap.objs.size (bindL (envOfC qual scope s.heap.objs.size f cd).kindOf (ps.zip us) fun _ => none) (cellsFrom (s.heap.objs.size + 1) scope.names []) (bindC (envOfC qual scope s.heap.objs.size f cd).kindOf (ps.zip us) fun _ => none) s1) :
    Inv (cxOf CX P w K mg base N qual scope f cd A outer s H E) [] (start N vs) H s1 := by
  have hpl : ps.length ≤ N.length := by have := congrArg List.length S.pre; rw [List.length_take] at this; omega
  obtain ⟨h1, tk, rfl, hk⟩ := x.done
  have noA : ∀ b : Addr, b ∉ (cxOf CX P w K mg base N qual scope f cd A outer s H E).ex := fun b z => absurd (show b ∈ ([] : List Addr) from z) (by simp)
  refine ⟨⟨e0.mod, S.kind, rfl, rfl, Nat.le_refl _, fun y z c h1 h2 => ?_, fun y hy => ?_, fun y c _ h => ?_, fun _ => hd, Around.frames_deeper e0.frames, .inr ⟨rfl, rfl⟩, fun b z => absurd z (noA b), e0.bs, e0.bsz, fun b _ _ => noA b, fun b z => absurd z (noA b), e0.funs, e0.frf⟩,
    rfl, e0.bare, Un.kept hk, ⟨_, x.toInCall.ns, fun i y v h1 h2 h3 => ?_⟩, fun y c h => ⟨_, x.cell y c h⟩, e0.hok.fresh (Nat.le_refl _), fun y c h => ?_, fun p hp => absurd (show p ∈ ([] : List (Addr × Obj)) from hp) (by simp), e0.hok.kept hk, ?_⟩
  · exact name_of_addr x.apart (PySem.mem_of_lookup h1) (PySem.mem_of_lookup h2)
  · have hy : scope.names.lookup y = some .cell ∨ scope.names.lookup y = some .free := hy
    rcases hy with hy | hy
    · exact cell_has hy
    · exact absurd rfl (S.nofree _ (PySem.mem_of_lookup hy))
  · exact Nat.le_of_lt (x.above y c (PySem.mem_of_lookup h))
  · have hi : i < vs.length := by
      unfold start at h2
      by_cases hi : i < vs.length
      · exact hi
      · rw [List.getElem?_append_right (by simpa using hi)] at h2
        rw [List.getElem?_replicate] at h2
        split at h2 <;> cases h2
    have ha : vs[i]? = some v := by
      unfold start at h2
      rw [List.getElem?_append_left (by simpa using hi), List.getElem?_map] at h2
      cases e : vs[i]? with
      | none => rw [e] at h2; cases h2
      | some a => rw [e] at h2; cases h2; rfl
    obtain ⟨u, hu, rv⟩ := r.get ha
    have hp : ps[i]? = some y := by
      rw [← S.pre, List.getElem?_take_of_lt (by omega)]; exact h1
    have ndP : ps.Nodup := by rw [← S.pre]; exact S.nd.sublist (List.take_sublist _ _)
    refine ⟨u, rv, ?_⟩
    rcases S.par y (List.mem_of_getElem? hp) with k | k
    · exact .inl ⟨k, bindL_get ndP hp hu k⟩
    · obtain ⟨c, e⟩ := cell_has (n := s.heap.objs.size + 1) k
      refine .inr ⟨.inl k, c, e, ?_⟩
      have q := x.cell y c e
      rw [bindC_get ndP hp hu (by show scope.names.lookup y ≠ _; rw [k]; decide)] at q
      exact q
  · exact e0.hok.fresh (Nat.le_of_lt (x.above y c (PySem.mem_of_lookup h)))
  · unfold start
    show _ = N.length
    rw [List.length_append, List.length_map, List.length_replicate]
    omega
theorem fn_of {CX : CXT} {P : Program} {w : World} {K : PySem.W.Frag} {mg : Str → Option Value} {base : Heap} {k : Nat} {f : Addr} {name qual : Str} {params : Arguments} {body : List Stmt} {scope : Scope} {dV kV doc pm cdv ct oc : Value} {an od : Option Addr}
    {osl : Array (Option Value)} {N ps : List Str} {sp : Sp} (lk : K.lookup f = some ⟨oc, od, .func (PySem.W.fnOf name qual params body scope dV kV doc pm an cdv ct), osl⟩) (hcd : PySem.W.codeIn K cdv qual = true) (S : FnScope N ps scope)
    (len : ∀ vs H Q E, sp vs H Q E → vs.length = ps.length)
    (hbody : ∀ (A : Around) (outer : List Env) (s : Shared) (H : Hp) (vs : List V) (Q : VK) (E : XK), Room k (A.deeper (envOfC qual scope s.heap.objs.size f cdv)) → sp vs H Q E →
      ∃ t, PSs (cxOf CX P w K mg base N qual scope f cdv A outer s H E) body t ∧ t { nx := fun _ H' => Q .non H', rt := Q } (start N vs) H) :
    FnOk P w K mg base CX (k + 1) f (PySem.W.fnOf name qual params body scope dV kV doc pm an cdv ct) ps sp := by
  refine ⟨len, fun A outer s H args us vs Q E hr e0 hb r hsp => ?_⟩
  have hl := len _ _ _ _ hsp
  have KX : K.In s.heap := e0.mod.kin.keeps fun b o e => (e0.bs b o e).1
  have lim : s.heap.NoLimit := e0.mod.nolimit.keeps fun b o e => (e0.bs b o e).1
  have hkind : ∀ y ∈ ps.zip us, scope.names.lookup y.1 = some .local ∨ (scope.names.lookup y.1 = some .cell ∧ ((cellsFrom (s.heap.objs.size + 1) scope.names []).lookup y.1).isSome = true) := fun ⟨n, v⟩ hy => by
    rcases S.par n (List.of_mem_zip hy).1 with q | q
    · exact .inl q
    · exact .inr ⟨q, PySem.W.cellsFrom_some _ _ _ (.inl q)⟩
  refine codeAny_call_function hr.depth (KX _ _ lk) rfl S.co S.gen rfl (PySem.W.codeRec_of KX hcd) (hb _ _ _ _ ?_)
  refine wpAny_newFunctionEnv_cells S.kind hkind fun env he s1 x => ?_
  subst he
  refine ⟨lim.keeps x.toInCall.keep, codeAny_func ?_⟩
  obtain ⟨t, ht, hq⟩ := hbody A outer s H vs Q E (hr.deeper _) hsp
  have I : Inv (cxOf CX P w K mg base N qual scope f cdv A outer s H E) [] (start N vs) H s1 := inv_start S hr.hd e0 hl r x
  refine wpAny_mono (ht [] s1 (start N vs) H _ I hq) (fun fl s' hs => ?_) fun e s' hs => hs
  have fin : ∀ {σ' : St} {H' : Hp} {v : V} {u : Value}, Inv (cxOf CX P w K mg base N qual scope f cdv A outer s H E) [] σ' H' s' → RelV v u → Q v H' → CE outer P w H s Q u s' :=
    fun {σ' H' v u} J rv q => ⟨v, H', J.os, J.bare, J.base, J.hok, rv, q⟩
  cases fl with
  | ret u =>
    obtain ⟨v, σ', H', J, rv, q⟩ := hs
    exact fin J rv q
  | next =>
    obtain ⟨σ', H', J, q⟩ := hs
    exact fin (v := V.non) (u := Value.none) J rfl q
  | brk =>
    obtain ⟨_, _, _, q⟩ := hs
    exact False.elim q
  | cont =>
    obtain ⟨_, _, _, q⟩ := hs
    exact False.elim q
end L2
namespace L2
open PySem PySem.Spec PyProof.Rows
section
variable {X : Cx} {x : Str} {p pos : Pos} {e : Expr} {es : List Expr} {t : TA} {id T : String} {r : List V → Hp → VK → Prop}
def tCB (r : List V → Hp → VK → Prop) (t : TA) : TE := fun σ H Q => t σ H fun vs H1 => r vs H1 Q
theorem pe_callB (hc : CallR X (.builtin id) r) (hg : Gl X x) (hm : X.mg x = none) (hv : bootBuiltins x = some (.builtin id)) (ha : PA X (e :: es) t) (hn : x ≠ "__name__" := by decide) (hdb : (x == ("__debug__" : Str)) = false := by decide)
    (he : starEach (e :: es) X.env = (false, eval e X.env) :: starEach es X.env := by rfl) (hpl : (backTo pos (starEach es X.env)).any (·.1) = false := by rfl) : PE X (.Call (.Name x p) (e :: es) [] pos) (tCB r t) := by
  intro pins s σ H Q I h
  refine wpAny_Call_Name_kw (ld_blt I hg hm hv ?_ hn hdb)
  exact PyProof.Rows.callWith_builtin1 (thn (ha pos pins s σ H _ I h) fun us s1 ⟨vs, H1, I1, r1, q1⟩ => hc pins s1 σ H1 vs us Q I1 r1 q1) he hpl
theorem pe_callTy (hc : CallR X (.type T) r) (hg : Gl X x) (hm : X.mg x = none) (hv : bootBuiltins x = some (.type T)) (ha : PA X (e :: es) t) (hn : x ≠ "__name__" := by decide) (hdb : (x == ("__debug__" : Str)) = false := by decide)
    (he : starEach (e :: es) X.env = (false, eval e X.env) :: starEach es X.env := by rfl) (hpl : (backTo pos (starEach es X.env)).any (·.1) = false := by rfl) : PE X (.Call (.Name x p) (e :: es) [] pos) (tCB r t) := by
  intro pins s σ H Q I h
  refine wpAny_Call_Name_kw (ld_blt I hg hm hv ?_ hn hdb)
  exact PyProof.Rows.callWith_type1 (thn (ha pos pins s σ H _ I h) fun us s1 ⟨vs, H1, I1, r1, q1⟩ => hc pins s1 σ H1 vs us Q I1 r1 q1) he hpl
end
end L2
namespace HT
open PySem PyProof.Rows
section
open PySem.SeqAt
open PySem.AutoSeq1 (wpAny_loadPart')
open PySem.MeetsSeq PySem.MeetsSeq2 PySem.MeetsSeq3
end
section
variable {prog : Program} {w : World} {A : Around} {E : Value → Shared → Prop} {s : Shared}
def sIx (n d : Nat) : Option Int → Nat
  | none => d
  | some v => if v < 0 then (v + (n : Int)).toNat else min v.toNat n
end
end HT
namespace L2
open PySem PySem.Spec PyProof.Rows
abbrev TO := St → Hp → (Option Int → Hp → Prop) → Prop
def PO (X : Cx) (e : Option Expr) (t : TO) : Prop :=
  ∀ (pins : List (Addr × Obj)) (s : Shared) (σ : St) (H : Hp) (Q : Option Int → Hp → Prop), Inv X pins σ H s → t σ H Q →
    wpAny (model X.prog X.w) X.A (evalPart e X.env) (fun u s' => ∃ o H', Inv X pins σ H' s' ∧ IsPart u o ∧ Q o H') X.xe s
section
variable {X : Cx} {e : Expr} {te : TE} {lo hi : Option Expr} {tl th : TO} {pos p2 : Pos}
def SlR (X : Cx) (r : V → Option Int → Option Int → Hp → VK → Prop) : Prop :=
  ∀ (pins : List (Addr × Obj)) (s : Shared) (σ : St) (H : Hp) (x : V) (v vl vu : Value) (lo hi : Option Int) (sl : Addr) (Q : VK), Inv X pins σ H s → RelV x v → s.heap.IsSliceOf sl vl vu .none → IsPart vl lo → IsPart vu hi → r x lo hi H Q →
    ∃ T id, typeLookup (.type T) "__getitem__" = pure (some (.builtin id)) ∧ s.TypeIs v T ∧ wpAny (model X.prog X.w) X.A (getItem v (.ref sl)) (EP X pins σ Q) X.xe s
theorem SlR.or {r r' : V → Option Int → Option Int → Hp → VK → Prop} (h : SlR X r) (h' : SlR X r') : SlR X (fun x lo hi H Q => r x lo hi H Q ∨ r' x lo hi H Q) := by
  intro pins s σ H x v vl vu lo hi sl Q I rx hs pl pu q
  rcases q with q | q
  · exact h pins s σ H x v vl vu lo hi sl Q I rx hs pl pu q
  · exact h' pins s σ H x v vl vu lo hi sl Q I rx hs pl pu q
end
end L2
namespace L2
open PySem PySem.Spec PyProof.Rows
def ixN (n : Nat) (i : Int) : Option Nat := if 0 ≤ i then (if i < n then some i.toNat else none) else if -(n : Int) ≤ i then some (i + n).toNat else none
def atI {α : Type} (xs : List α) (i : Int) : Option α := (ixN xs.length i).bind fun j => xs[j]?
theorem ixN_seq {n : Nat} {i : Int} {j : Nat} (h : ixN n i = some j) : seqIndex? i n = some j ∧ j < n ∧ -(n : Int) ≤ i ∧ i < n := by
  unfold ixN at h
  by_cases h0 : 0 ≤ i
  · rw [if_pos h0] at h
    by_cases h1 : i < n
    · rw [if_pos h1] at h
      have e : i.toNat = j := Option.some.inj h
      exact ⟨by rw [seqIndex_of h0 h1, e], by omega, by omega, h1⟩
    · rw [if_neg h1] at h; cases h
  · rw [if_neg h0] at h
    by_cases h1 : -(n : Int) ≤ i
    · rw [if_pos h1] at h
      have e : (i + n).toNat = j := Option.some.inj h
      exact ⟨by rw [seqIndex_neg (by omega) h1, e], by omega, h1, by omega⟩
    · rw [if_neg h1] at h; cases h
theorem atI_get {α : Type} {xs : List α} {i : Int} {v : α} (h : atI xs i = some v) : ∃ j, seqIndex? i xs.length = some j ∧ xs[j]? = some v ∧ j < xs.length ∧ -(xs.length : Int) ≤ i ∧ i < xs.length := by
  unfold atI at h
  cases e : ixN xs.length i with
  | none => rw [e] at h; cases h
  | some j =>
    rw [e] at h
    obtain ⟨h1, h2, h3, h4⟩ := ixN_seq e
    exact ⟨j, h1, h, h2, h3, h4⟩
def PlainIx (b : Expr) : Prop := ∀ o i, subscripted b false o i = operate [o, i] (getItem o i)
def IxR (X : Cx) (r : R2) : Prop :=
  ∀ (value slice : Expr) (pins : List (Addr × Obj)) (s : Shared) (σ : St) (H : Hp) (x y : V) (v u : Value) (Q : VK), Inv X pins σ H s → RelV x v → RelV y u → r x y H Q →
    subscripted slice false v u = operate [v, u] (getItem v u) → wpAny (model X.prog X.w) X.A (subscriptTail value slice v u) (EP X pins σ Q) X.xe s
def MtR (X : Cx) (id : String) (r : V → List V → Hp → VK → Prop) : Prop :=
  ∀ (pins : List (Addr × Obj)) (s : Shared) (σ : St) (H : Hp) (x : V) (xs : List V) (v : Value) (us : List Value) (Q : VK), Inv X pins σ H s → RelV x v → Vals xs us → r x xs H Q →
    wpAny (model X.prog X.w) X.A (call (.builtin id) (v :: us)) (EP X pins σ Q) X.xe s
section
variable {X : Cx} {a b : Expr} {ta tb : TE} {pos : Pos}
theorem IxR.or {r r' : R2} (h : IxR X r) (h' : IxR X r') : IxR X (fun x y H Q => r x y H Q ∨ r' x y H Q) := by
  intro value slice pins s σ H x y v u Q I rx ry q hs
  rcases q with q | q
  · exact h value slice pins s σ H x y v u Q I rx ry q hs
  · exact h' value slice pins s σ H x y v u Q I rx ry q hs
theorem MtR.or {id : String} {r r' : V → List V → Hp → VK → Prop} (h : MtR X id r) (h' : MtR X id r') : MtR X id (fun x xs H Q => r x xs H Q ∨ r' x xs H Q) := by
  intro pins s σ H x xs v us Q I rx rs q
  rcases q with q | q
  · exact h pins s σ H x xs v us Q I rx rs q
  · exact h' pins s σ H x xs v us Q I rx rs q
theorem pe_ix {r : R2} (hr : IxR X r) (ha : PE X a ta) (hb : PE X b tb) (hs : PlainIx b) : PE X (.Subscript a b pos) (tOp r ta tb) := by
  intro pins s σ H Q I h
  exact Subscript_ (binT ha hb I h fun v u s2 x y H2 I2 rx ry q => hr a b pins s2 σ H2 x y v u Q I2 rx ry q (hs _ _))
def rIxL (K : PySem.W.Frag) : R2 := fun x y H Q => ∃ p xs i v, x = .ref p ∧ y = .int i ∧ SqL K H p xs ∧ atI xs i = some v ∧ Q v H
def rIxT (K : PySem.W.Frag) : R2 := fun x y H Q => ∃ p xs i v, x = .ref p ∧ y = .int i ∧ SqT K H p xs ∧ atI xs i = some v ∧ Q v H
def rIxS : R2 := fun x y H Q => ∃ z i c, x = .str z ∧ y = .int i ∧ z.length ≤ sizeLine ∧ atI z.cps.toList i = some c ∧ Q (.str ⟨#[c]⟩) H
theorem ix_list : IxR X (rIxL X.K) := by
  intro value slice pins s σ H x y v u Q I rx ry h hs
  obtain ⟨p, xs, i, z, rfl, rfl, hq, he, q⟩ := h
  cases rx
  obtain ⟨t, rfl⟩ := ry
  obtain ⟨its, r, pl, hz⟩ := I.list hq
  obtain ⟨j, h1, h2, h3, h4, h5⟩ := atI_get he
  obtain ⟨w, ew, rw'⟩ := r.get h2
  have hl := r.length
  have hn := line63
  have fin : EP X pins σ Q w s := ⟨z, H, I, rw', q⟩
  by_cases h0 : 0 ≤ i
  · have hj : i.toNat = j := by
      rw [seqIndex_of h0 h5] at h1
      exact Option.some.inj h1
    exact item_listR pl.isList h0 (by omega) (by rw [hj]; simpa using ew) fin hs
  · have hj : (i + (its.toArray.size : Int)).toNat = j := by
      rw [seqIndex_neg (by omega) h4] at h1
      rw [List.size_toArray, ← hl]
      exact Option.some.inj h1
    exact subscriptTail_builtinR (x := w) pl.isList.typeIs slot_list_getitem.lookup
      (wpAny_getItem_list_neg (Q := fun r s' => r = w ∧ EP X pins σ Q r s') pl.isList (by omega) (by rw [List.size_toArray] <;> omega) (by omega) (by rw [hj]; simpa using ew) ⟨rfl, fin⟩) hs
theorem ix_tup : IxR X (rIxT X.K) := by
  intro value slice pins s σ H x y v u Q I rx ry h hs
  obtain ⟨p, xs, i, z, rfl, rfl, hq, he, q⟩ := h
  cases rx
  obtain ⟨t, rfl⟩ := ry
  obtain ⟨its, r, pl, hz⟩ := I.tuple hq
  obtain ⟨j, h1, h2, h3, h4, h5⟩ := atI_get he
  obtain ⟨w, ew, rw'⟩ := r.get h2
  have hl := r.length
  have hn := line63
  have fin : EP X pins σ Q w s := ⟨z, H, I, rw', q⟩
  exact subscriptTail_builtinR (x := w) pl.typeIs slot_tuple_getitem.lookup
    (getItem_tuple (j := j) (Q := fun r s' => r = w ∧ EP X pins σ Q r s') pl (by omega) (by omega) (by rw [List.size_toArray, ← hl]; exact h1) (by simpa using ew) ⟨rfl, fin⟩) hs
theorem ix_str : IxR X rIxS := by
  intro value slice pins s σ H x y v u Q I rx ry h hs
  obtain ⟨z, i, c, rfl, rfl, hz, he, q⟩ := h
  obtain ⟨t, rfl⟩ := rx
  obtain ⟨t', rfl⟩ := ry
  obtain ⟨j, h1, h2, h3, h4, h5⟩ := atI_get he
  have hl : z.cps.toList.length = z.length := by simp [Str.length]
  rw [hl] at h1 h4 h5
  have hn := line63
  exact tail_any (typeIs_str s z t) slot_str_getitem.lookup (getItem_str (c := c) (by
    have e1 : decide (i < -(2 ^ 63 : Int)) = false := decide_eq_false (by omega)
    have e2 : decide (i ≥ 2 ^ 63) = false := decide_eq_false (by omega)
    rw [e1, e2, Bool.or_false]) (by rw [h1]; simpa using h2) ⟨.str ⟨#[c]⟩, H, I.tok _, ⟨_, rfl⟩, q⟩) hs
def rIx (K : PySem.W.Frag) : R2 := fun x y H Q => rIxL K x y H Q ∨ rIxT K x y H Q ∨ rIxS x y H Q
theorem ix_seq : IxR X (rIx X.K) := ix_list.or (ix_tup.or ix_str)
theorem Inv.lst {pins : List (Addr × Obj)} {σ : St} {H : Hp} {s : Shared} {p : Addr} {xs : List V} (I : Inv X pins σ H s) (h : H p = some (.lst xs)) :
    ∃ (its : List Value) (n : Nat), Vals xs its ∧ s.heap.get? p = some { cls := .type "list", data := .seq its.toArray n } ∧ xs.length ≤ sizeLine := by
  obtain ⟨z, its, n, r, e⟩ := I.hok p _ h
  exact ⟨its, n, r, e, z⟩
theorem call_len_seq : CallR X (.builtin "len") (fun xs H Q => ∃ p ys, xs = [.ref p] ∧ (SqL X.K H p ys ∨ SqT X.K H p ys) ∧ Q (.int ys.length) H) := by
  intro pins s σ H xs us Q I r h
  obtain ⟨p, ys, rfl, hq, q⟩ := h
  obtain ⟨u, rfl, rx⟩ := vals1 r
  cases rx
  have hn := line63
  rcases hq with hq | hq
  · obtain ⟨its, r', pl, hz⟩ := I.list hq
    have hlen := r'.length
    exact Calls.call_len_list pl.isList (by simp only [List.size_toArray] <;> omega) ⟨.int ys.length, H, I.tok _, ⟨s.toks + 1, by rw [List.size_toArray, hlen]⟩, q⟩
  · obtain ⟨its, r', pl, hz⟩ := I.tuple hq
    have hlen := r'.length
    exact len_tuple pl (by simp only [List.size_toArray] <;> omega) ⟨.int ys.length, H, I.tok _, ⟨s.toks + 1, by rw [List.size_toArray, hlen]⟩, q⟩
theorem CallR.or {f : Value} {r r' : List V → Hp → VK → Prop} (h : CallR X f r) (h' : CallR X f r') : CallR X f (fun xs H Q => r xs H Q ∨ r' xs H Q) := by
  intro pins s σ H xs us Q I rs q
  rcases q with q | q
  · exact h pins s σ H xs us Q I rs q
  · exact h' pins s σ H xs us Q I rs q
def tyV (K : PySem.W.Frag) (T : String) (x : V) (H : Hp) : Prop := match x with
  | .str _ => T = "str"
  | .int _ => T = "int"
  | .ref p => (T = "list" ∧ ∃ xs, SqL K H p xs) ∨ (T = "tuple" ∧ ∃ o, K.lookup p = some o ∧ o.cls = .type "tuple" ∧ o.dict = none) ∨
      (T = "dict" ∧ ((∃ kvs, H p = some (.dK kvs)) ∨ ∃ kvs, H p = some (.dT kvs))) ∨ (T = "set" ∧ ∃ S n, H p = some (.set S n))
  | _ => False
theorem tyV_is {pins : List (Addr × Obj)} {σ : St} {H : Hp} {s : Shared} {T : String} {x : V} {v : Value} (I : Inv X pins σ H s) (r : RelV x v) (ty : tyV X.K T x H) :
    s.TypeIs v T ∧ ∀ a, v = .ref a → ∃ ob, s.heap.get? a = some ob ∧ ob.dict = none := by
  cases x with
  | str z =>
    obtain ⟨t, rfl⟩ := r
    cases (show T = "str" from ty)
    exact ⟨typeIs_str s z t, fun _ e => nomatch e⟩
  | int i =>
    obtain ⟨t, rfl⟩ := r
    cases (show T = "int" from ty)
    exact ⟨typeIs_int s i t, fun _ e => nomatch e⟩
  | ref p =>
    cases r
    rcases ty with ⟨rfl, xs, hq⟩ | ⟨rfl, o, hk, hc, hd⟩ | ⟨rfl, hk⟩ | ⟨rfl, S, n, hk⟩
    · obtain ⟨its, _, pl, _⟩ := I.list hq
      refine ⟨pl.isList.typeIs, fun a e => ?_⟩
      cases e
      obtain ⟨o, n, e, c, hd, _⟩ := pl
      exact ⟨o, e, hd⟩
    · refine ⟨⟨o, I.kIn p o hk, hc⟩, fun a e => ?_⟩
      cases e
      exact ⟨o, I.kIn _ o hk, hd⟩
    · have z : ∃ o, s.heap.get? p = some o ∧ o.ExactDict := by
        rcases hk with ⟨kvs, hk⟩ | ⟨kvs, hk⟩
        · obtain ⟨_, _, _, _, o, _, _, e, ex, _⟩ := I.hok p _ hk
          exact ⟨o, e, ex⟩
        · obtain ⟨_, _, _, _, o, _, _, e, ex, _⟩ := I.hok p _ hk
          exact ⟨o, e, ex⟩
      obtain ⟨o, e, ex⟩ := z
      refine ⟨⟨o, e, ex.1⟩, fun a e2 => ?_⟩
      cases e2
      exact ⟨o, e, ex.2.1⟩
    · obtain ⟨o, _, _, _, e, ex, _⟩ := I.hok p _ hk
      refine ⟨⟨o, e, ex.1⟩, fun a e2 => ?_⟩
      cases e2
      exact ⟨o, e, ex.2.1⟩
  | _ => exact False.elim ty
def tBM (K : PySem.W.Frag) (T : String) (r : V → List V → Hp → VK → Prop) (to : TE) (t : TA) : TE := fun σ H Q => to σ H fun x H1 => tyV K T x H1 ∧ t σ H1 fun xs H2 => r x xs H2 Q
variable {o e : Expr} {es : List Expr} {to : TE} {t : TA} {name : Str} {apos cpos : Pos} {T id : String} {r : V → List V → Hp → VK → Prop}
theorem pe_bm (pa : PlainAttrs T) (slot : Slot T name id) (hty : typeOf (.builtin id) = pure (.type "method_descriptor")) (hm : MtR X id r) (ho : PE X o to) (ha : PA X (e :: es) t)
    (hbase : attributeBase o name X.env (eval o X.env) = eval o X.env := by rfl)
    (hfew : ((backTo cpos (starEach (e :: es) X.env)).all (fun x => !x.1) && (backToKw cpos (keywordEach [] X.env)).all (fun x => x.1.isSome)
      && decide ((e :: es).length + ([] : List Keyword).length + (if ([] : List Keyword).isEmpty then 0 else 1) < 30)) = true := by rfl)
    (hline : (apos.endLine == cpos.line) = true := by rfl) (hs : starEach (e :: es) X.env = (false, eval e X.env) :: starEach es X.env := by rfl) (hplain : (backTo cpos (starEach es X.env)).any (·.1) = false := by rfl) :
    PE X (.Call (.Attribute o name apos) (e :: es) [] cpos) (tBM X.K T r to t) := by
  intro pins s σ H Q I h
  refine wpAny_Call_method_late hbase hfew hline rfl (thn (ho pins s σ H _ I h) fun v s1 ⟨x, H1, I1, r1, ty, q1⟩ => ?_)
  obtain ⟨h1, h2⟩ := tyV_is I1 r1 ty
  refine ⟨T, id, pa, slot, hty, h1, h2, ?_⟩
  have hA := ha cpos pins s1 σ H1 _ I1 q1
  rw [hs] at hA ⊢
  refine Calls.callWith_builtin (by show (false || (backTo cpos (starEach es X.env)).any (·.1)) = false; rw [hplain] <;> rfl) (Calls.evalArgs_plain ?_)
  exact thn hA fun us s2 ⟨vs, H2, I2, r2, q2⟩ => hm pins s2 σ H2 x vs v us Q I2 r1 r2 q2
end
end L2
namespace L2
open PySem PySem.Spec PyProof.Rows
def MtM (X : Cx) (id : String) (r : V → List V → Hp → VK → Prop) : Prop :=
  ∀ (pins : List (Addr × Obj)) (s : Shared) (σ : St) (H : Hp) (x : V) (xs : List V) (v : Value) (us : List Value) (Q : VK), Inv X pins σ H s → RelV x v → Vals xs us → r x xs H Q →
    wpAny (model X.prog X.w) X.A (call (.builtin id) (v :: us)) (EP X pins σ Q) X.xe s
theorem Vals.one : ∀ {x : V} {us : List Value}, Vals [x] us → ∃ u, us = [u] ∧ RelV x u
  | _, _, .cons r .nil => ⟨_, rfl, r⟩
theorem Vals.dropLast {xs : List V} {us : List Value} (h : Vals xs us) : Vals xs.dropLast us.dropLast := by
  induction h with
  | nil => exact .nil
  | cons r t ih =>
    cases t with
    | nil => exact .nil
    | cons q t' => exact .cons r ih
theorem Vals.eraseIdx : ∀ {xs : List V} {us : List Value} (i : Nat), Vals xs us → Vals (xs.eraseIdx i) (us.eraseIdx i)
  | _, _, _, .nil => .nil
  | _, _, 0, .cons _ t => t
  | _, _, i + 1, .cons r t => .cons r (Vals.eraseIdx i t)
theorem Vals.rep {xs : List V} {us : List Value} (h : Vals xs us) : ∀ k : Nat, Vals (List.replicate k xs).flatten (List.replicate k us).flatten
  | 0 => .nil
  | k + 1 => by
    rw [List.replicate_succ, List.replicate_succ, List.flatten_cons, List.flatten_cons]
    exact Vals.append h (Vals.rep h k)
section
variable {X : Cx} {pins : List (Addr × Obj)} {σ : St} {H : Hp} {s : Shared} {l b : Addr} {xs ys zs : List V}
theorem Inv.lset {its its' : List Value} {n : Nat} {f : Array Value → Array Value} {t' : Nat} (I : Inv X pins σ H s) (hH : H l = some (.lst xs))
    (e : s.heap.get? l = some { cls := .type "list", data := .seq its.toArray n }) (hf : f its.toArray = its'.toArray) (hv : Vals ys its') (hz : ys.length ≤ sizeLine) :
    Inv X pins σ (upd H l (.lst ys)) { s with heap := s.heap.update l (Obj.mapSeq f), toks := t' } := by
  have q := PySem.IsL.update e f
  rw [hf] at q
  refine I.write (x := l) (e := l) (by rw [hH]; exact trivial) (.inl rfl) (fun b' u hb hu => (Heap.get?_update_other s.heap (Obj.mapSeq f) (Ne.symm hb)).trans hu) ⟨_, q⟩ ?_
  exact ⟨hz, its', _, hv, q⟩
theorem Inv.fresh (I : Inv X pins σ H s) : H s.heap.objs.size = none := I.hok.fresh (Nat.le_refl _)
theorem Inv.lstM (I : Inv X pins σ H s) (hH : H l = some (.lst xs)) : xs.length ≤ sizeLine ∧ ∃ (its : List Value) (n : Nat), Vals xs its ∧ xs.length = its.length ∧ s.heap.get? l = some { cls := .type "list", data := .seq its.toArray n } := by
  obtain ⟨z, its, n, r, e⟩ := I.hok l _ hH
  exact ⟨z, its, n, r, r.length, e⟩
end
section
variable {X : Cx}
def rAppend : V → List V → Hp → VK → Prop := fun x vs H Q => ∃ l xs y, x = .ref l ∧ vs = [y] ∧ H l = some (.lst xs) ∧ xs.length < sizeLine ∧ Q .non (upd H l (.lst (xs ++ [y])))
theorem mt_append : MtM X "list.append" rAppend := by
  intro pins s σ H x vs v us Q I rx rv h
  obtain ⟨l, xs, y, rfl, rfl, hH, hz, q⟩ := h
  cases rx
  obtain ⟨u, rfl, ru⟩ := rv.one
  obtain ⟨z, its, n, r, hl, e⟩ := I.lstM hH
  refine call_meets F.slot_list_append ⟨_, e, rfl⟩ F.entry_list_append (F.args_list_append_2 _ _) (PySem.list_append l its.toArray n u (by rw [List.size_toArray]; omega)) ⟨e, ?_⟩
  refine ⟨.non, _, I.lset (its' := its ++ [u]) hH e (by simp) (r.append (.cons ru .nil)) ?_, rfl, q⟩
  rw [List.length_append, List.length_singleton]
  omega
end
section
variable {prog : Program} {w : World} {A : Around} {E : Value → Shared → Prop} {s : Shared}
end
section
variable {X : Cx}
end
end L2
namespace Att
open PySem PySem.W PySem.Calls PyProof.Rows
theorem ints_of_wellAll {P : Params} {h : Heap} : ∀ (ns : List Int) (vs : List Value), WellAll P h vs (ns.map WData.int) → IntsAre vs ns := by
  intro ns
  induction ns with
  | nil =>
    intro vs w
    rw [List.map_nil] at w
    cases w
    exact .nil
  | cons n ns ih =>
    intro vs w
    rw [List.map_cons] at w
    cases w with
    | cons a b =>
      cases a
      exact .cons _ _ (ih _ b)
theorem script_of {l : OpenLaw} {n : Nat} (hn : l.most = some n) {P : Params} {h : Heap} {args : List WData} {vals : List Value}
    (hpre : l.row.toRowW.claim.pre args = true) (hwl : WellAll P h vals args) :
    ∃ a vs ns, vals = [Value.ref a] ∧ args = [WData.list (ns.map WData.int)] ∧ h.get? a = some { cls := .type "list", data := .seq vs.toArray } ∧ IntsAre vs ns ∧ ns.length ≤ n := by
  have hsh : WShape.hasAll [] args [.list .int] = true := (pre_splitW hpre).1
  have hc : l.pre.holds [] { args := args } = true := (pre_splitW hpre).2
  obtain ⟨d, r, rfl, h1, h2⟩ := hasAllW_cons hsh
  obtain rfl := hasAllW_nil h2
  obtain ⟨xs, rfl, h3⟩ := hasW_list h1
  obtain ⟨ns, rfl⟩ := items_int h3
  have hlen : ns.length ≤ n := by
    unfold OpenLaw.pre at hc
    have h4 : (WTm.not (.lt (.lit (.int (n : Int))) (.len (.arg 0)))).holds [] { args := [.list (ns.map .int)] } = true := by
      have h4 := (holds_andW hc).1
      rw [hn] at h4
      exact h4
    have h5 := condW_of h4 (w_not (w_lt w_lit (w_len_list (w_arg rfl))))
    rw [List.length_map] at h5
    refine Nat.le_of_not_lt fun q => ?_
    have q' : (n : Int) < ((ns.length : Nat) : Int) := by omega
    first
      | (rw [decide_eq_true q'] at h5; exact absurd h5 (by decide))
      | (simp at h5; omega)
  cases hwl with
  | cons w1 w2 =>
    cases w2
    cases w1 with
    | list ho hall => exact ⟨_, _, ns, rfl, rfl, ho, ints_of_wellAll ns _ hall, hlen⟩
theorem post_true (l : OpenLaw) (args : List WData) : l.row.toRowW.claim.post args (.bool true) args = true :=
  postW_of (r := l.row.toRowW) (X := (true == true))
    (show WShape.has [] (.bool true) .bool = true by first | rfl | decide | simp [WShape.has, WShape.arms, WShape.armsAll])
    (show (WTm.eq .res (.lit (.bool true))).value [] { args := args, res := some (.bool true), after := args } = some (.bool (true == true)) from w_eq_bool (w_res rfl) w_lit) rfl
theorem attach_call {l : OpenLaw} {n : Nat} {q : Program} {loose : List Str} {XP : (Str → Option Value) → Heap → Prop} {YP : World → Heap → Prop} {d : DefRec}
    (hn : l.most = some n) (hdf : d.params.defaults = [])
    (call : ∀ (w : World) (s₀ s₁ : Shared) (mg mb : Str → Option Value) (fa : Addr) (o : Obj) (pm cd doc : Value) (a : Addr) (vs : List Value) (ns : List Int),
      Ground q loose [] XP w s₀ mg mb s₁.heap → YP w s₁.heap →
      s₁.heap.get? fa = some o → o.data = .func (docDef d.name d.params d.body d.scope pm cd doc) → s₁.heap.CodeRec cd d.name → mg d.name = some (.ref fa) →
      s₁.heap.get? a = some { cls := .type "list", data := .seq vs.toArray } → IntsAre vs ns → ns.length ≤ n → s₁.gens = #[] →
      codeAny (model l.prog w) callerA (.call (.ref fa) ⟨[.ref a], []⟩) (fun r s' => r = .ok (.ret (.bool true)) ∧ OldK s₁.heap s'.heap ∧ s'.os = s₁.os ∧ AllBare s'.gens) s₁) :
    WalkO q loose XP YP l.row.toRowW d [] (fun f vs => PySem.call f vs) := by
  intro w s₀ s₁ mg mb G Y fa o pm cd doc dV kV ho hd hcd hD hmg hg args vals as hpre hlay hrd hwl hlo
  obtain rfl : dV = .none := Dflts.none hD hdf
  obtain rfl : kV = .none := Dflts.noKw hD
  obtain ⟨a, vs, ns, rfl, rfl, hobj, hints, hlen⟩ := script_of hn hpre hwl
  refine enter_call (codeAny_mono (call w s₀ s₁ mg mb fa o pm cd doc a vs ns G Y ho (fd_plain hd) hcd hmg hobj hints hlen hg) fun r s' hq => ?_)
  obtain ⟨rfl, h2, h3, h4⟩ := hq
  exact ⟨.inl ⟨.bool true, .bool true, [], rfl, fun _ => rfl, .bool true, post_true l _, fun _ => ⟨List.Pairwise.nil, fun _ hm => (nomatch hm)⟩⟩, h2, h3, h4⟩
section
variable {prog : Program} {w : World} {A : Around} {E : Value → Shared → Prop} {s : Shared} {K : Frag}
end
end Att
namespace L2
open PySem PySem.Spec PyProof.Rows
theorem vals_ints : ∀ {vs : List Value} {ns : List Int}, IntsAre vs ns → Vals (ns.map V.int) vs
  | _, _, .nil => .nil
  | _, _, .cons n t h => .cons ⟨t, rfl⟩ (vals_ints h)
def Only (H : Hp) : Prop := ∀ b, H b = none ∨ ∃ o xs, H b = some (.frz o (.lst xs))
theorem law_call {P : Program} {w : World} {K : PySem.W.Frag} {mg mb : Str → Option Value} {CX : CXT} {k : Nat} {fa a : Addr} {fd : FuncData} {x : Str} {sp : Sp} {s₁ : Shared} {vs : List Value} {ns : List Int}
    (KX : K.In s₁.heap) (hns : s₁.heap.Ns mainGlobals mg) (hb : s₁.heap.Ns builtinsNs mb) (hbb : ∀ x : Str, x ≠ "__name__" → mb x = bootBuiltins x) (hlim : s₁.heap.NoLimit) (hg : s₁.gens = #[])
    (ha : s₁.heap.get? a = some { cls := .type "list", data := .seq vs.toArray }) (hi : IntsAre vs ns) (hl : ns.length ≤ sizeLine) (hr : Room k callerA)
    (F : ∀ base : Heap, K.In base → base.Ns mainGlobals mg → FnOk P w K mg base CX k fa fd [x] sp) (hbind : ∀ (s : Shared) (u : Value), BindsTo s fd ⟨[u], []⟩ [(x, u)])
    (hsp : ∀ H : Hp, Only H → SqL K H a (ns.map V.int) → sp [.ref a] H (fun v _ => v = .bl true) fun _ _ _ => False)
    (hCX : ∀ H e s', CX [] H s₁ (fun _ _ _ => False) e s' → False) :
    codeAny (model P w) callerA (.call (.ref fa) ⟨[.ref a], []⟩) (fun r s' => r = .ok (.ret (.bool true)) ∧ OldK s₁.heap s'.heap ∧ s'.os = s₁.os ∧ AllBare s'.gens) s₁ := by
  have rv := vals_ints hi
  have lenV := hi.length
  have core : ∀ H : Hp, Only H → SqL K H a (ns.map V.int) → HOk P w H s₁.heap → (∀ b, H b ≠ none → b = a) → (H a ≠ none → K.lookup a = none) →
      codeAny (model P w) callerA (.call (.ref fa) ⟨[.ref a], []⟩) (fun r s' => r = .ok (.ret (.bool true)) ∧ OldK s₁.heap s'.heap ∧ s'.os = s₁.os ∧ AllBare s'.gens) s₁ := by
    intro H hO hS hok hA hK
    have base_of : ∀ {b : Addr} {o : Obj}, s₁.heap.get? b = some o → H b = none → (hidT s₁.heap H).get? b = some o := fun e n => hidT_get e n
    have noA : ∀ {b : Addr} {o : Obj} {es : Array DictEntry} {ep : Nat}, s₁.heap.get? b = some o → o.data = .dict es ep → H b = none := fun {b o es ep} e d => by
      cases q : H b with
      | none => rfl
      | some u =>
        have e' : b = a := hA b (by rw [q]; simp)
        subst e'
        rw [ha] at e; cases e
        have d' : Data.seq vs.toArray _ = Data.dict es ep := d
        cases d'
    have nsK : ∀ {b : Addr} {m : Str → Option Value}, s₁.heap.Ns b m → (hidT s₁.heap H).Ns b m := fun {b m} ⟨o, es, ep, e, d, r⟩ => ⟨o, es, ep, base_of e (noA e d), d, r⟩
    have hKb : K.In (hidT s₁.heap H) := fun b o e => base_of (KX b o e) (by
      cases q : H b with
      | none => rfl
      | some u =>
        have e' : b = a := hA b (by rw [q]; simp)
        subst e'
        rw [hK (by rw [q]; simp)] at e; cases e)
    have hM : Mod K mg (hidT s₁.heap H) := ⟨hKb, nsK hns, ⟨mb, nsK hb, hbb⟩, let ⟨mc, h1, h2⟩ := hlim; ⟨mc, nsK h1, h2⟩⟩
    have e0 : Env0 P w K mg (hidT s₁.heap H) callerA [] s₁ H := ⟨rfl, hM, fun b o e => of_hidT e, Nat.le_of_eq (hidT_size _ _), trivial, fun b hb => absurd (show b ∈ ([] : List Addr) from hb) (by simp), hok, .of_eq hg⟩
    refine codeAny_mono ((F _ hKb (nsK hns)).run callerA [] s₁ H ⟨[.ref a], []⟩ [.ref a] [.ref a] _ _ hr e0 (hbind s₁ (.ref a)) (.cons rfl .nil) (hsp H hO hS)) fun r s' h => ?_
    cases r with
    | error e => exact (hCX H e s' h).elim
    | ok fl =>
      cases fl with
      | next => exact False.elim h
      | brk => exact False.elim h
      | cont => exact False.elim h
      | ret u =>
        obtain ⟨v, H', os, bare, un, hok', r', q⟩ := h
        have q' : v = .bl true := q
        subst q'
        obtain rfl : u = Value.bool true := r'
        refine ⟨rfl, OldK.of_keep fun b o e => ?_, os, bare⟩
        cases q : H b with
        | none => exact un.keep b o e q (by intro z; exact absurd (show b ∈ ([] : List Addr) from z) (by simp)) (by simp)
        | some u =>
          rcases hO b with z | ⟨ob, xs, z⟩
          · rw [q] at z; cases z
          · have z2 := un.frzs b ob _ z
            obtain ⟨e1, _⟩ := hok b _ z
            obtain ⟨e2, _⟩ := hok' b _ z2
            rw [e] at e1; cases e1
            exact e2
  cases hk : K.lookup a with
  | some o =>
    have e := KX a o hk
    rw [ha] at e
    cases e
    refine core (fun _ => none) (fun _ => .inl rfl) (.inr ⟨_, vs.toArray, _, hk, rfl, rfl, rfl, by rw [List.size_toArray, lenV]; exact hl, by simpa using rv⟩) (fun b u z => by have z' : (none : Option HO) = some u := z; cases z') (fun b z => absurd rfl z) fun z => absurd rfl z
  | none =>
    refine core (fun b => if b = a then some (.frz { cls := .type "list", data := .seq vs.toArray } (.lst (ns.map V.int))) else none) (fun b => ?_) (.inl (.inr ⟨{ cls := .type "list", data := .seq vs.toArray }, if_pos rfl⟩)) (fun b u z => ?_) (fun b z => ?_) fun _ => hk
    · by_cases hb : b = a
      · exact .inr ⟨_, _, if_pos hb⟩
      · exact .inl (if_neg hb)
    · by_cases hb : b = a
      · have z' := (if_pos hb).symm.trans z
        cases z'
        subst hb
        exact ⟨ha, by rw [List.length_map]; exact hl, vs, _, rv, ha⟩
      · have z' := (if_neg hb).symm.trans z
        cases z'
    · by_cases hb : b = a
      · exact hb
      · exact absurd (if_neg hb) z
end L2
namespace L2
open PySem PySem.Spec PyProof.Rows
theorem walk_of {l : PySem.W.OpenLaw} {n k : Nat} {q : Program} {loose : List Str} {XP : (Str → Option Value) → Heap → Prop} {YP : World → Heap → Prop} {d : DefRec} {K : Params → PySem.W.Frag} {CX : World → CXT} {sp : World → Sp} {x : Str}
    (hn : l.most = some n) (hn2 : n ≤ sizeLine) (hdf : d.params.defaults = []) (hr : Room k callerA)
    (hY : ∀ (w : World) (h : Heap), YP w h → (K w.params).In h)
    (F : ∀ (w : World) (mg : Str → Option Value) (fa : Addr) (h : Heap), (K w.params).In h → h.Ns mainGlobals mg → mg d.name = some (.ref fa) →
      ∃ fd : FuncData, (∀ (s : Shared) (u : Value), BindsTo s fd ⟨[u], []⟩ [(x, u)]) ∧
        ∀ base : Heap, (K w.params).In base → base.Ns mainGlobals mg → FnOk l.prog w (K w.params) mg base (CX w) k fa fd [x] (sp w))
    (hsp : ∀ (w : World) (H : Hp) (a : Addr) (ns : List Int), ns.length ≤ n → Only H → SqL (K w.params) H a (ns.map V.int) → sp w [.ref a] H (fun v _ => v = .bl true) fun _ _ _ => False)
    (hCX : ∀ (w : World) (H : Hp) (s : Shared) (e : Value) (s' : Shared), CX w [] H s (fun _ _ _ => False) e s' → False) :
    PySem.W.WalkO q loose XP YP l.row.toRowW d [] (fun f vs => PySem.call f vs) := by
  refine Att.attach_call hn hdf fun w s₀ s₁ mg mb fa o pm cd doc a vs ns G Y ho hd hcd hmg hobj hints hlen hg => ?_
  have KX := hY w _ Y
  obtain ⟨fd, hb, hF⟩ := F w mg fa _ KX G.T.g hmg
  exact law_call KX G.T.g G.T.b G.T.builtins G.T.nolimit hg hobj hints (Nat.le_trans hlen hn2) hr hF hb (fun H hO hS => hsp w H a ns hlen hO hS) fun H e s' => hCX w H s₁ e s'
end L2
namespace L2
open PySem PySem.Spec PyProof.Rows
def defArgs (s : Stmt) : Arguments := match s with
  | .FunctionDef _ a _ _ _ _ _ _ _ _ => a
  | _ => { posonlyargs := [], args := [], vararg := none, kwonlyargs := [], kw_defaults := [], kwarg := none, defaults := [] }
def defBody (s : Stmt) : List Stmt := match s with
  | .FunctionDef _ _ b _ _ _ _ _ _ _ => b
  | _ => []
def defScope (s : Stmt) : Scope := match s with
  | .FunctionDef _ _ _ _ _ _ sc _ _ _ => sc
  | _ => { kind := .function, names := [], isGenerator := false, isCoroutine := false }
abbrev CX0 : CXT := fun _ _ _ _ _ _ => False
abbrev E0 : XK := fun _ _ _ => False
theorem pass0 {X : Cx} : Passes CX0 X E0 := fun _ _ _ _ _ _ _ h => h.elim
structure Fun (K : PySem.W.Frag) (x qual : Str) (st : Stmt) (f : Addr) (fd : FuncData) : Prop where
  ex : ∃ (oc : Value) (od : Option Addr) (kV doc pm : Value) (an : Option Addr) (cdv ct : Value) (osl : Array (Option Value)),
    fd = PySem.W.fnOf x qual (defArgs st) (defBody st) (defScope st) .none kV doc pm an cdv ct ∧ K.lookup f = some ⟨oc, od, .func fd, osl⟩ ∧ PySem.W.codeIn K cdv qual = true
  kp : PySem.W.keepIn K (.ref f) = true
section
variable {P : Program} {w : World} {K : PySem.W.Frag} {mg : Str → Option Value} {base : Heap}
theorem Fun.ok {x qual : Str} {st : Stmt} {f : Addr} {fd : FuncData} {N ps : List Str} {k : Nat} {sp : Sp} (F : Fun K x qual st f fd) (S : FnScope N ps (defScope st)) (len : ∀ vs H Q E, sp vs H Q E → vs.length = ps.length)
    (hbody : ∀ (cdv : Value) (A : Around) (outer : List Env) (s : Shared) (H : Hp) (vs : List V) (Q : VK) (E : XK), Room k (A.deeper (envOfC qual (defScope st) s.heap.objs.size f cdv)) → sp vs H Q E →
      ∃ t, PSs (cxOf CX0 P w K mg base N qual (defScope st) f cdv A outer s H E).nox (defBody st) t ∧ t { nx := fun _ H' => Q .non H', rt := Q } (start N vs) H) : FnOk P w K mg base CX0 (k + 1) f fd ps sp := by
  obtain ⟨oc, od, kV, doc, pm, an, cdv, ct, osl, rfl, lk, hcd⟩ := F.ex
  refine fn_of lk hcd S len fun A outer s H vs Q E hr hsp => ?_
  obtain ⟨t, h, q⟩ := hbody cdv A outer s H vs Q E hr hsp
  exact ⟨t, h.nox, q⟩
theorem Fun.binds {x qual : Str} {st : Stmt} {f : Addr} {fd : FuncData} {ps : List Str} (F : Fun K x qual st f fd)
    (h : ∀ (kV doc pm : Value) (an : Option Addr) (cdv ct : Value) (us : List Value), us.length = ps.length → bindArgs (PySem.W.fnOf x qual (defArgs st) (defBody st) (defScope st) .none kV doc pm an cdv ct) ⟨us, []⟩ = pure (ps.zip us)) : Binds K fd ps [] := by
  obtain ⟨oc, od, kV, doc, pm, an, cdv, ct, osl, rfl, lk, hcd⟩ := F.ex
  exact .all (h kV doc pm an cdv ct)
theorem fun_mk {x qual : Str} {st : Stmt} {f : Addr} {oc : Value} {od an : Option Addr} {osl : Array (Option Value)} {kV doc pm cdv ct : Value} (l : K.lookup f = some ⟨oc, od, .func (PySem.W.fnOf x qual (defArgs st) (defBody st) (defScope st) .none kV doc pm an cdv ct), osl⟩)
    (c : PySem.W.codeIn K cdv qual = true) (k : PySem.W.keepIn K (.ref f) = true) : Fun K x qual st f (PySem.W.fnOf x qual (defArgs st) (defBody st) (defScope st) .none kV doc pm an cdv ct) := ⟨⟨oc, od, kV, doc, pm, an, cdv, ct, osl, rfl, l, c⟩, k⟩
end
section
variable {X : Cx}
end
def Same (H H' : Hp) : Prop := ∀ b o, H b = some o → H' b = some o
theorem Same.refl (H : Hp) : Same H H := fun _ _ h => h
theorem Same.trans {H H1 H2 : Hp} (a : Same H H1) (b : Same H1 H2) : Same H H2 := fun c o h => b c o (a c o h)
theorem Same.free {H H' : Hp} (e : Same H H') {l : Addr} (h : H' l = Option.none) : H l = Option.none := by
  cases q : H l with
  | none => rfl
  | some o =>
    rw [e l o q] at h
    cases h
theorem Same.seq {K : PySem.W.Frag} {H H' : Hp} {a : Addr} {xs : List V} (e : Same H H') (h : SqL K H a xs) : SqL K H' a xs := by
  rcases h with (h | ⟨o, h⟩) | h
  · exact .inl (.inl (e _ _ h))
  · exact .inl (.inr ⟨o, e _ _ h⟩)
  · exact .inr h
end L2
set_option Elab.async false
set_option linter.all false
set_option maxRecDepth 100000
set_option maxHeartbeats 4000000
namespace L2
open PySem PySem.Spec PyProof.Rows
section
variable {X : Cx} {x : Str} {px pos : Pos} {iter elt : Expr} {ifs : List Expr} {sc : Scope} {wi : TI} {tt : TT} {te : TE} {ix : List Nat} {N' : List Str}
end
end L2
set_option Elab.async false
set_option linter.all false
set_option maxRecDepth 100000
set_option maxHeartbeats 4000000
namespace L2
open PySem PySem.Spec PyProof.Rows
section
variable {X : Cx} {x : Str} {px pos : Pos} {iter elt : Expr} {ifs : List Expr} {sc : Scope} {wi : TI} {tt : TT} {te : TE} {ix : List Nat} {N' : List Str}
theorem Heap.SameBut.rf {a : Addr} {h : Heap} (e : ∃ o, h.get? a = some o) : Heap.SameBut a h h := by
  first | exact ⟨rfl, fun _ _ => rfl⟩ | exact ⟨e, fun _ _ => rfl⟩
structure CompOk (X : Cx) (x : Str) (N' : List Str) (ix : List Nat) (sc : Scope) : Prop where
  nm : N' = ix.map fun i => X.N.getD i ("" : Str)
  nd : (x :: N').Nodup
  kind : sc.kind = .function
  hx : sc.names.lookup x = some .local
  cell : ∀ y ∈ sc.names, y.2 ≠ .cell
  names : ∀ y ∈ sc.names, y.2 = .local → sc.names.lookup y.1 = some .local
  free : ∀ y ∈ sc.names, y.2 = .free → X.env.kindOf y.1 = some .cell ∨ X.env.kindOf y.1 = some .free
  fv : ∀ y ∈ N', sc.names.lookup y = some .free
end
end L2
set_option Elab.async false
set_option linter.all false
set_option maxRecDepth 100000
set_option maxHeartbeats 4000000
namespace L2
open PySem PySem.Spec PyProof.Rows
inductive D where
  | non | bl (b : Bool) | int (i : Int) | str (s : Str) | tup (ds : List D) | lst (ds : List D)
def KL (K : PySem.W.Frag) (a : Addr) (xs : List V) : Prop :=
  ∃ (o : Obj) (its : Array Value) (n : Nat), K.lookup a = some o ∧ o.cls = .type "list" ∧ o.dict = none ∧ o.data = .seq its n ∧ its.size ≤ sizeLine ∧ Vals xs its.toList
mutual
inductive Rep (K : PySem.W.Frag) (H : Hp) (O : Addr → Prop) : D → V → Prop
  | non : Rep K H O .non .non
  | bl (b : Bool) : Rep K H O (.bl b) (.bl b)
  | int (i : Int) : Rep K H O (.int i) (.int i)
  | str (s : Str) : Rep K H O (.str s) (.str s)
  | tup {a : Addr} {vs : List V} {ds : List D} : H a = some (.tup vs) → Reps K H O ds vs → Rep K H O (.tup ds) (.ref a)
  | lst {a : Addr} {vs : List V} {ds : List D} : O a → Rd H a (.lst vs) → Reps K H O ds vs → Rep K H O (.lst ds) (.ref a)
  | klst {a : Addr} {vs : List V} {ds : List D} : KL K a vs → Reps K H O ds vs → Rep K H O (.lst ds) (.ref a)
inductive Reps (K : PySem.W.Frag) (H : Hp) (O : Addr → Prop) : List D → List V → Prop
  | nil : Reps K H O [] []
  | cons {d : D} {v : V} {ds : List D} {vs : List V} : Rep K H O d v → Reps K H O ds vs → Reps K H O (d :: ds) (v :: vs)
end
section
variable {K : PySem.W.Frag} {H H' : Hp} {O O' : Addr → Prop}
mutual
theorem Rep.mono (ht : ∀ a vs, H a = some (.tup vs) → H' a = some (.tup vs)) (hl : ∀ a vs, O a → Rd H a (.lst vs) → O' a ∧ Rd H' a (.lst vs)) : ∀ {d : D} {v : V}, Rep K H O d v → Rep K H' O' d v
  | _, _, .non => .non
  | _, _, .bl b => .bl b
  | _, _, .int i => .int i
  | _, _, .str s => .str s
  | _, _, .tup h r => .tup (ht _ _ h) (Reps.mono ht hl r)
  | _, _, .lst o h r => .lst (hl _ _ o h).1 (hl _ _ o h).2 (Reps.mono ht hl r)
  | _, _, .klst h r => .klst h (Reps.mono ht hl r)
theorem Reps.mono (ht : ∀ a vs, H a = some (.tup vs) → H' a = some (.tup vs)) (hl : ∀ a vs, O a → Rd H a (.lst vs) → O' a ∧ Rd H' a (.lst vs)) : ∀ {ds : List D} {vs : List V}, Reps K H O ds vs → Reps K H' O' ds vs
  | _, _, .nil => .nil
  | _, _, .cons r t => .cons (Rep.mono ht hl r) (Reps.mono ht hl t)
end
theorem Reps.length : ∀ {ds : List D} {vs : List V}, Reps K H O ds vs → ds.length = vs.length
  | _, _, .nil => rfl
  | _, _, .cons _ t => by rw [List.length_cons, List.length_cons, Reps.length t]
theorem Reps.get : ∀ {ds : List D} {vs : List V} {i : Nat} {d : D}, Reps K H O ds vs → ds[i]? = some d → ∃ v, vs[i]? = some v ∧ Rep K H O d v
  | _, _, _, _, .nil, e => by simp at e
  | _, _, 0, _, .cons r _, e => by simp at e; subst e; exact ⟨_, rfl, r⟩
  | _, _, i + 1, d, .cons _ t, e => by
    obtain ⟨u, h1, h2⟩ := Reps.get (i := i) (d := d) t (by simpa using e)
    exact ⟨u, by simpa using h1, h2⟩
theorem Reps.append : ∀ {ds es : List D} {vs ws : List V}, Reps K H O ds vs → Reps K H O es ws → Reps K H O (ds ++ es) (vs ++ ws)
  | _, _, _, _, .nil, s => s
  | _, _, _, _, .cons r t, s => .cons r (Reps.append t s)
theorem Reps.take : ∀ {ds : List D} {vs : List V} (n : Nat), Reps K H O ds vs → Reps K H O (ds.take n) (vs.take n)
  | _, _, 0, _ => .nil
  | _, _, _ + 1, .nil => .nil
  | _, _, n + 1, .cons r t => .cons r (Reps.take n t)
theorem Reps.drop : ∀ {ds : List D} {vs : List V} (n : Nat), Reps K H O ds vs → Reps K H O (ds.drop n) (vs.drop n)
  | _, _, 0, r => r
  | _, _, _ + 1, .nil => .nil
  | _, _, n + 1, .cons _ t => Reps.drop n t
theorem Reps.set {d : D} {v : V} (r : Rep K H O d v) : ∀ {ds : List D} {vs : List V} (i : Nat), Reps K H O ds vs → Reps K H O (ds.set i d) (vs.set i v)
  | _, _, _, .nil => .nil
  | _, _, 0, .cons _ t => .cons r t
  | _, _, i + 1, .cons q t => .cons q (Reps.set r i t)
theorem Reps.eraseIdx : ∀ {ds : List D} {vs : List V} (i : Nat), Reps K H O ds vs → Reps K H O (ds.eraseIdx i) (vs.eraseIdx i)
  | _, _, _, .nil => .nil
  | _, _, 0, .cons _ t => t
  | _, _, i + 1, .cons q t => .cons q (Reps.eraseIdx i t)
theorem Reps.dropLast : ∀ {ds : List D} {vs : List V}, Reps K H O ds vs → Reps K H O ds.dropLast vs.dropLast
  | _, _, .nil => .nil
  | _, _, .cons _ .nil => .nil
  | _, _, .cons r (.cons q t) => .cons r (Reps.dropLast (.cons q t))
theorem Rep.int_ {i : Int} {v : V} (h : Rep K H O (.int i) v) : v = .int i := by cases h; rfl
theorem Rep.bl_ {i : Bool} {v : V} (h : Rep K H O (.bl i) v) : v = .bl i := by cases h; rfl
theorem Rep.tup_ {ds : List D} {v : V} (h : Rep K H O (.tup ds) v) : ∃ a vs, v = .ref a ∧ H a = some (.tup vs) ∧ Reps K H O ds vs := by cases h with | tup a b => exact ⟨_, _, rfl, a, b⟩
def LsOk (K : PySem.W.Frag) (H : Hp) (O : Addr → Prop) (a : Addr) (vs : List V) : Prop := (O a ∧ Rd H a (.lst vs)) ∨ KL K a vs
theorem LsOk.sq {a : Addr} {vs : List V} (h : LsOk K H O a vs) : SqL K H a vs := h.elim (fun z => .inl z.2) .inr
theorem Rep.lst_ {ds : List D} {v : V} (h : Rep K H O (.lst ds) v) : ∃ a vs, v = .ref a ∧ LsOk K H O a vs ∧ Reps K H O ds vs := by
  cases h with
  | lst o a b => exact ⟨_, _, rfl, .inl ⟨o, a⟩, b⟩
  | klst a b => exact ⟨_, _, rfl, .inr a, b⟩
end
inductive Sl where
  | sh (d : D) | ow (ds : List D) | o2 (dss : List (List D))
abbrev DE0 := List (Option Sl)
def Ow (G W : Addr → Prop) : Addr → Prop := fun a => G a ∧ ¬ W a
def Inn (K : PySem.W.Frag) (G W : Addr → Prop) (H : Hp) (dss : List (List D)) (ls : List Addr) : Prop :=
  ls.length = dss.length ∧ ∀ (j : Nat) (ds : List D) (a : Addr), dss[j]? = some ds → ls[j]? = some a → W a ∧ ∃ vs, H a = some (.lst vs) ∧ Reps K H (Ow G W) ds vs
def SlOk (K : PySem.W.Frag) (G W : Addr → Prop) (H : Hp) : Sl → V → Prop
  | .sh d, v => Rep K H (Ow G W) d v
  | .ow ds, v => ∃ l vs, v = .ref l ∧ W l ∧ H l = some (.lst vs) ∧ Reps K H (Ow G W) ds vs
  | .o2 dss, v => ∃ (l : Addr) (ls : List Addr), v = .ref l ∧ W l ∧ H l = some (.lst (ls.map V.ref)) ∧ (l :: ls).Nodup ∧ Inn K G W H dss ls
def Owns (H : Hp) : Sl → V → Addr → Prop
  | .sh _, _, _ => False
  | .ow _, v, a => v = .ref a
  | .o2 _, v, a => v = .ref a ∨ ∃ (l : Addr) (ls : List Addr), v = .ref l ∧ H l = some (.lst (ls.map V.ref)) ∧ a ∈ ls
structure Ok (K : PySem.W.Frag) (G : Addr → Prop) (H0 : Hp) (W : Addr → Prop) (env : DE0) (σ : St) (H : Hp) : Prop where
  stay : Same H0 H
  good : ∀ a, H0 a = none → G a
  wl : ∀ l, W l → H0 l = none ∧ ∃ vs, H l = some (.lst vs)
  slot : ∀ (i : Nat) (s : Sl), env[i]? = some (some s) → ∃ v, σ[i]? = some (some v) ∧ SlOk K G W H s v
  uniq : ∀ (i j : Nat) (s s' : Sl) (v v' : V) (a : Addr), env[i]? = some (some s) → env[j]? = some (some s') → σ[i]? = some (some v) → σ[j]? = some (some v') → Owns H s v a → Owns H s' v' a → i = j
  len : env.length = σ.length
theorem refs_inj {ls ls' : List Addr} (h : ls.map V.ref = ls'.map V.ref) : ls = ls' := by
  induction ls generalizing ls' with
  | nil => cases ls' with | nil => rfl | cons b r => cases h
  | cons a t ih => cases ls' with | nil => cases h | cons b r => simp only [List.map_cons, List.cons.injEq, V.ref.injEq] at h; rw [h.1, ih h.2]
theorem SlOk.owns {K : PySem.W.Frag} {G W : Addr → Prop} {H : Hp} {s : Sl} {v : V} {a : Addr} (h : SlOk K G W H s v) (o : Owns H s v a) : W a := by
  cases s with
  | sh d => exact o.elim
  | ow ds => obtain ⟨l, vs, e, hW, _⟩ := h; rw [show v = .ref a from o] at e; cases e; exact hW
  | o2 dss =>
    obtain ⟨l, ls, e, hW, hl, nd, hi⟩ := h
    rcases o with o | ⟨l', ls', e', hl', ha⟩
    · rw [o] at e; cases e; exact hW
    · rw [e] at e'; cases e'
      rw [hl] at hl'
      have := refs_inj (by simpa using hl')
      subst this
      obtain ⟨j, hj, e2⟩ := List.getElem_of_mem ha
      have hj' : j < dss.length := by rw [← hi.1]; exact hj
      exact (hi.2 j dss[j] a (by simp [hj']) (by simp [hj, e2])).1
theorem SlOk.back {K : PySem.W.Frag} {G W : Addr → Prop} {H H' : Hp} {s : Sl} {v : V} {a : Addr} (h : SlOk K G W H s v) (k : ∀ l, v = .ref l → W l → ∀ vs, H l = some (.lst vs) → H' l = some (.lst vs)) (o : Owns H' s v a) : Owns H s v a := by
  cases s with
  | sh d => exact o.elim
  | ow ds => exact o
  | o2 dss =>
    obtain ⟨l, ls, e, hW, hl, nd, hi⟩ := h
    rcases o with o | ⟨l', ls', e', hl', ha⟩
    · exact .inl o
    · rw [e] at e'; cases e'
      rw [k l e hW _ hl] at hl'
      have := refs_inj (by simpa using hl')
      subst this
      exact .inr ⟨l, ls, e, hl, ha⟩
structure Step (W : Addr → Prop) (H : Hp) (W' : Addr → Prop) (H' : Hp) : Prop where
  keep : ∀ b o, H b = some o → ¬ W b → H' b = some o
  ws : ∀ l, W' l → W l ∨ H l = none
theorem Step.refl {W : Addr → Prop} {H : Hp} : Step W H W H := ⟨fun _ _ e _ => e, fun _ h => .inl h⟩
theorem Step.trans {W W1 W2 : Addr → Prop} {H H1 H2 : Hp} (a : Step W H W1 H1) (b : Step W1 H1 W2 H2) : Step W H W2 H2 where
  keep := fun c o e n => b.keep c o (a.keep c o e n) fun z => (a.ws c z).elim n fun q => by rw [q] at e; cases e
  ws := fun l h => by
    rcases b.ws l h with z | z
    · exact a.ws l z
    · by_cases n : W l
      · exact .inl n
      · cases e : H l with
        | none => exact .inr rfl
        | some o => rw [a.keep l o e n] at z; cases z
theorem Step.same {W : Addr → Prop} {H H' : Hp} (h : Same H H') : Step W H W H' := ⟨fun b o e _ => h b o e, fun _ h => .inl h⟩
section
variable {K : PySem.W.Frag} {G W W' : Addr → Prop} {H0 H H' : Hp} {env : DE0} {σ : St}
theorem Ok.wkeep (ok : Ok K G H0 W env σ H) (st : Step W H W' H') : ∀ b o, H b = some o → (∀ xs, o ≠ .lst xs) → H' b = some o := fun b o e n =>
  st.keep b o e fun z => by obtain ⟨_, vs, q⟩ := ok.wl b z; rw [e] at q; cases q; exact n vs rfl
theorem Rd.keep {a : Addr} {u : HO} (h : Rd H a u) (k : ∀ o, H a = some o → H' a = some o) : Rd H' a u := by
  rcases h with h | ⟨o, h⟩
  · exact .inl (k _ h)
  · exact .inr ⟨o, k _ h⟩
theorem Ok.tstep (ok : Ok K G H0 W env σ H) (st : Step W H W' H') : ∀ a vs, H a = some (.tup vs) → H' a = some (.tup vs) := fun _ _ h => ok.wkeep st _ _ h fun _ z => by cases z
theorem Ok.lstep (ok : Ok K G H0 W env σ H) (st : Step W H W' H') : ∀ a vs, Ow G W a → Rd H a (.lst vs) → Ow G W' a ∧ Rd H' a (.lst vs) := fun a vs o h => by
  refine ⟨⟨o.1, fun z => ?_⟩, h.keep fun u e => st.keep a u e o.2⟩
  rcases st.ws a z with q | q
  · exact o.2 q
  · rcases h with h | ⟨_, h⟩ <;> rw [q] at h <;> cases h
theorem Ok.rep (ok : Ok K G H0 W env σ H) (st : Step W H W' H') {d : D} {v : V} (r : Rep K H (Ow G W) d v) : Rep K H' (Ow G W') d v := r.mono (ok.tstep st) (ok.lstep st)
theorem Ok.reps (ok : Ok K G H0 W env σ H) (st : Step W H W' H') {d : List D} {v : List V} (r : Reps K H (Ow G W) d v) : Reps K H' (Ow G W') d v := r.mono (ok.tstep st) (ok.lstep st)
theorem Inn.step {dss : List (List D)} {ls : List Addr} (h : Inn K G W H dss ls) (k : ∀ a vs, W a → a ∈ ls → H a = some (.lst vs) → H' a = some (.lst vs)) (w : ∀ a, W a → a ∈ ls → W' a) (r : ∀ ds vs, Reps K H (Ow G W) ds vs → Reps K H' (Ow G W') ds vs) : Inn K G W' H' dss ls :=
  ⟨h.1, fun j ds a e1 e2 => by
    obtain ⟨hW, vs, ha, rp⟩ := h.2 j ds a e1 e2
    exact ⟨w a hW (List.mem_of_getElem? e2), vs, k a vs hW (List.mem_of_getElem? e2) ha, r ds vs rp⟩⟩
theorem Ok.slstep (ok : Ok K G H0 W env σ H) (st : Step W H W' H') {s : Sl} {v : V} (h : SlOk K G W H s v) (k : ∀ a vs, Owns H s v a → H a = some (.lst vs) → W' a ∧ H' a = some (.lst vs)) : SlOk K G W' H' s v := by
  cases s with
  | sh d => exact ok.rep st h
  | ow ds =>
    obtain ⟨l, vs, e, hW, hl, r⟩ := h
    obtain ⟨h1, h2⟩ := k l vs e hl
    exact ⟨l, vs, e, h1, h2, ok.reps st r⟩
  | o2 dss =>
    obtain ⟨l, ls, e, hW, hl, nd, hi⟩ := h
    obtain ⟨h1, h2⟩ := k l _ (.inl e) hl
    have ik : ∀ a vs, a ∈ ls → H a = some (.lst vs) → W' a ∧ H' a = some (.lst vs) := fun a vs ha e2 => k a vs (.inr ⟨l, ls, e, hl, ha⟩) e2
    refine ⟨l, ls, e, h1, h2, nd, hi.1, fun j ds a e1 e2 => ?_⟩
    obtain ⟨_, vs, ha, rp⟩ := hi.2 j ds a e1 e2
    obtain ⟨k1, k2⟩ := ik a vs (List.mem_of_getElem? e2) ha
    exact ⟨k1, vs, k2, ok.reps st rp⟩
theorem Ok.same (ok : Ok K G H0 W env σ H) (s : Same H H') : Ok K G H0 W env σ H' := by
  have st : Step W H W H' := Step.same s
  have bk : ∀ {i : Nat} {sl : Sl} {v : V} {a : Addr}, env[i]? = some (some sl) → σ[i]? = some (some v) → Owns H' sl v a → Owns H sl v a := fun {i sl v a} e e1 o => by
    obtain ⟨v', e2, h⟩ := ok.slot i sl e
    rw [e1] at e2; cases e2
    exact h.back (fun l _ _ vs q => s l _ q) o
  refine ⟨ok.stay.trans s, ok.good, fun l h => ?_, fun i sl e => ?_, fun i j s1 s2 v1 v2 a e1 e2 e3 e4 o1 o2 => ok.uniq i j s1 s2 v1 v2 a e1 e2 e3 e4 (bk e1 e3 o1) (bk e2 e4 o2), ok.len⟩
  · obtain ⟨a, vs, b⟩ := ok.wl l h
    exact ⟨a, vs, s _ _ b⟩
  · obtain ⟨v, e1, h⟩ := ok.slot i sl e
    exact ⟨v, e1, ok.slstep st h fun a vs o e2 => ⟨h.owns o, s _ _ e2⟩⟩
theorem same_upd {a : Addr} {o : HO} (h : H a = none) : Same H (upd H a o) := fun b u e => by rw [upd_ne (ne_of_none e h)]; exact e
def addW (W : Addr → Prop) (l : Addr) : Addr → Prop := fun a => W a ∨ a = l
theorem Ok.fresh (ok : Ok K G H0 W env σ H) {l : Addr} {vs : List V} {ds : List D} (s : Same H H') (hl : H l = none) (hl' : H' l = some (.lst vs)) (r : Reps K H' (fun a => (Ow G W a ∨ H a = none) ∧ a ≠ l) ds vs) :
    ¬ W l ∧ H0 l = none ∧ Ok K G H0 (addW W l) env σ H' ∧ Reps K H' (Ow G (addW W l)) ds vs ∧ Step W H (addW W l) H' := by
  have n0 : H0 l = none := ok.stay.free hl
  have nW : ¬ W l := fun z => by obtain ⟨_, vs, q⟩ := ok.wl l z; rw [hl] at q; cases q
  have st : Step W H (addW W l) H' := ⟨fun b o e _ => s b o e, fun a z => z.elim .inl fun q => .inr (by rw [q]; exact hl)⟩
  have wH : ∀ a, W a → H a ≠ none := fun a z q => by obtain ⟨_, vs, e⟩ := ok.wl a z; rw [q] at e; cases e
  have ok' := ok.same s
  refine ⟨nW, n0, ⟨ok.stay.trans s, ok.good, fun a z => ?_, fun i sl e => ?_, ok'.uniq, ok.len⟩, r.mono (fun _ _ h => h) fun a us o h => ⟨⟨?_, ?_⟩, h⟩, st⟩
  · rcases z with z | rfl
    · obtain ⟨q, us, b⟩ := ok.wl a z
      exact ⟨q, us, s _ _ b⟩
    · exact ⟨n0, vs, hl'⟩
  · obtain ⟨v, e1, h⟩ := ok.slot i sl e
    exact ⟨v, e1, ok.slstep st h fun a vs o e2 => ⟨.inl (h.owns o), s _ _ e2⟩⟩
  · rcases o.1 with q | q
    · exact q.1
    · exact ok.good a (ok.stay.free q)
  · rintro (z | z)
    · rcases o.1 with q | q
      · exact q.2 z
      · exact wH a z q
    · exact o.2 z
theorem Ok.noOwn (ok : Ok K G H0 W env σ H) {l : Addr} (nW : ¬ W l) : ∀ (j : Nat) (s : Sl) (v : V), env[j]? = some (some s) → σ[j]? = some (some v) → ¬ Owns H s v l := fun j s v e e1 o => by
  obtain ⟨v', e2, h⟩ := ok.slot j s e
  rw [e1] at e2; cases e2
  exact nW (h.owns o)
theorem getset {α : Type} {xs : List α} {i j : Nat} {x y : α} (h : (xs.set i x)[j]? = some y) : (i = j ∧ y = x ∧ i < xs.length) ∨ (i ≠ j ∧ xs[j]? = some y) := by
  by_cases hj : i = j
  · subst hj
    by_cases hi : i < xs.length
    · rw [List.getElem?_set_self hi] at h; cases h; exact .inl ⟨rfl, rfl, hi⟩
    · rw [List.getElem?_eq_none (by rw [List.length_set]; omega)] at h; cases h
  · rw [List.getElem?_set_ne hj] at h; exact .inr ⟨hj, h⟩
theorem Ok.put (ok : Ok K G H0 W env σ H) {i : Nat} {s : Sl} {v : V} (h : SlOk K G W H s v) (no : ∀ (j : Nat) (s' : Sl) (v' : V) (a : Addr), env[j]? = some (some s') → σ[j]? = some (some v') → Owns H s v a → ¬ Owns H s' v' a) :
    Ok K G H0 W (env.set i (some s)) (σ.set i (some v)) H := by
  refine ⟨ok.stay, ok.good, ok.wl, fun j sl e => ?_, fun j k s1 s2 v1 v2 a e1 e2 e3 e4 o1 o2 => ?_, by rw [List.length_set, List.length_set, ok.len]⟩
  · rcases getset e with ⟨rfl, q, hi⟩ | ⟨hj, q⟩
    · cases q
      exact ⟨v, List.getElem?_set_self (by rw [← ok.len]; exact hi), h⟩
    · obtain ⟨u, e1, r⟩ := ok.slot j sl q
      exact ⟨u, by rw [List.getElem?_set_ne hj]; exact e1, r⟩
  · rcases getset e1 with ⟨a1, b1, c1⟩ | ⟨a1, b1⟩ <;> rcases getset e2 with ⟨a2, b2, c2⟩ | ⟨a2, b2⟩
    · rw [← a1, ← a2]
    · subst a1
      cases b1
      rw [List.getElem?_set_self (by rw [← ok.len]; exact c1)] at e3; cases e3
      rw [List.getElem?_set_ne a2] at e4
      exact absurd o2 (no k s2 v2 a b2 e4 o1)
    · subst a2
      cases b2
      rw [List.getElem?_set_self (by rw [← ok.len]; exact c2)] at e4; cases e4
      rw [List.getElem?_set_ne a1] at e3
      exact absurd o1 (no j s1 v1 a b1 e3 o2)
    · rw [List.getElem?_set_ne a1] at e3
      rw [List.getElem?_set_ne a2] at e4
      exact ok.uniq j k s1 s2 v1 v2 a b1 b2 e3 e4 o1 o2
theorem Ok.set (ok : Ok K G H0 W env σ H) {i : Nat} {d : D} {v : V} (r : Rep K H (Ow G W) d v) : Ok K G H0 W (env.set i (some (.sh d))) (σ.set i (some v)) H :=
  ok.put (s := .sh d) r fun _ _ _ _ _ _ o => o.elim
theorem Ok.setO (ok : Ok K G H0 W env σ H) {i : Nat} {ds : List D} {l : Addr} {vs : List V} (hW : W l) (hl : H l = some (.lst vs)) (r : Reps K H (Ow G W) ds vs) (no : ∀ (j : Nat) (s : Sl) (v : V), env[j]? = some (some s) → σ[j]? = some (some v) → ¬ Owns H s v l) :
    Ok K G H0 W (env.set i (some (.ow ds))) (σ.set i (some (.ref l))) H :=
  ok.put (s := .ow ds) ⟨l, vs, rfl, hW, hl, r⟩ fun j s' v' a e e1 o => by
    have : l = a := by have o : V.ref l = V.ref a := o; simpa using o
    subst this
    exact no j s' v' e e1
theorem Ok.let (ok : Ok K G H0 W env σ H) {i : Nat} {s : Sl} {v : V} {d : D} (e : env[i]? = some (some s)) (e1 : σ[i]? = some (some v)) (W' : Addr → Prop) (hW : ∀ a, W' a ↔ W a ∧ ¬ Owns H s v a) (r : Rep K H (Ow G W') d v) :
    Step W H W' H ∧ Ok K G H0 W' (env.set i (some (.sh d))) σ H := by
  have st : Step W H W' H := ⟨fun b o q _ => q, fun a z => .inl ((hW a).mp z).1⟩
  have hi : i < env.length := (List.getElem?_eq_some_iff.mp e).1
  refine ⟨st, ⟨ok.stay, ok.good, fun a z => ok.wl a ((hW a).mp z).1, fun j sl q => ?_, fun j k s1 s2 v1 v2 a q1 q2 q3 q4 o1 o2 => ?_, by rw [List.length_set, ok.len]⟩⟩
  · rcases getset q with ⟨rfl, q', _⟩ | ⟨hj, q'⟩
    · cases q'
      exact ⟨v, e1, r⟩
    · obtain ⟨u, e2, h⟩ := ok.slot j sl q'
      exact ⟨u, e2, ok.slstep st h fun a vs o q2 => ⟨(hW a).mpr ⟨h.owns o, fun z => hj (ok.uniq i j s sl v u a e q' e1 e2 z o)⟩, q2⟩⟩
  · rcases getset q1 with ⟨_, b1, _⟩ | ⟨a1, b1⟩
    · cases b1; exact o1.elim
    · rcases getset q2 with ⟨_, b2, _⟩ | ⟨a2, b2⟩
      · cases b2; exact o2.elim
      · exact ok.uniq j k s1 s2 v1 v2 a b1 b2 q3 q4 o1 o2
theorem Ok.share (ok : Ok K G H0 W env σ H) {i : Nat} {ds : List D} (e : env[i]? = some (some (.ow ds))) :
    ∃ W' v, σ[i]? = some (some v) ∧ Step W H W' H ∧ Ok K G H0 W' (env.set i (some (.sh (.lst ds)))) σ H ∧ Rep K H (Ow G W') (.lst ds) v := by
  obtain ⟨v, e1, l, vs, rfl, hW, hl, r⟩ := ok.slot i _ e
  have rp : Rep K H (Ow G fun a => W a ∧ ¬ Owns H (.ow ds) (.ref l) a) (.lst ds) (.ref l) :=
    .lst ⟨ok.good l (ok.wl l hW).1, fun z => z.2 rfl⟩ (.inl hl) (r.mono (fun _ _ h => h) fun a us o h => ⟨⟨o.1, fun z => o.2 z.1⟩, h⟩)
  obtain ⟨st, ok'⟩ := ok.let e e1 _ (fun a => Iff.rfl) rp
  exact ⟨_, .ref l, e1, st, ok', rp⟩
theorem inn_reps : ∀ {dss : List (List D)} {ls : List Addr}, Inn K G W H dss ls → (∀ a, a ∈ ls → W a → G a ∧ ¬ W' a) → (∀ ds vs, Reps K H (Ow G W) ds vs → Reps K H (Ow G W') ds vs) → Reps K H (Ow G W') (dss.map D.lst) (ls.map V.ref)
  | [], [], _, _, _ => .nil
  | [], _ :: _, h, _, _ => by have := h.1; cases this
  | _ :: _, [], h, _, _ => by have := h.1; cases this
  | ds :: dss, a :: ls, h, g, r => by
    obtain ⟨hW, vs, ha, rp⟩ := h.2 0 ds a rfl rfl
    refine .cons (.lst (g a List.mem_cons_self hW) (.inl ha) (r _ _ rp)) (inn_reps (dss := dss) (ls := ls) ⟨Nat.succ.inj h.1, fun j ds' a' e1 e2 => h.2 (j + 1) ds' a' (by simpa using e1) (by simpa using e2)⟩ (fun a' ha' => g a' (List.mem_cons_of_mem _ ha')) r)
theorem Ok.share2 (ok : Ok K G H0 W env σ H) {i : Nat} {dss : List (List D)} (e : env[i]? = some (some (.o2 dss))) :
    ∃ W' v, σ[i]? = some (some v) ∧ Step W H W' H ∧ Ok K G H0 W' (env.set i (some (.sh (.lst (dss.map D.lst))))) σ H ∧ Rep K H (Ow G W') (.lst (dss.map D.lst)) v := by
  obtain ⟨v, e1, l, ls, rfl, hW, hl, nd, hi⟩ := ok.slot i _ e
  have rp : Rep K H (Ow G fun a => W a ∧ ¬ Owns H (.o2 dss) (.ref l) a) (.lst (dss.map D.lst)) (.ref l) :=
    .lst ⟨ok.good l (ok.wl l hW).1, fun z => z.2 (.inl rfl)⟩ (.inl hl) (inn_reps hi (fun a ha wa => ⟨ok.good a (ok.wl a wa).1, fun z => z.2 (.inr ⟨l, ls, rfl, hl, ha⟩)⟩) fun ds vs r => r.mono (fun _ _ h => h) fun a us o h => ⟨⟨o.1, fun z => o.2 z.1⟩, h⟩)
  obtain ⟨st, ok'⟩ := ok.let e e1 _ (fun a => Iff.rfl) rp
  exact ⟨_, .ref l, e1, st, ok', rp⟩
theorem Ok.chg (ok : Ok K G H0 W env σ H) {i : Nat} {s s' : Sl} {v : V} {a : Addr} {vs' : List V} (e : env[i]? = some (some s)) (e1 : σ[i]? = some (some v)) (ho : Owns H s v a) (hs : SlOk K G W (upd H a (.lst vs')) s' v)
    (hb : ∀ b, Owns (upd H a (.lst vs')) s' v b → Owns H s v b) : Ok K G H0 W (env.set i (some s')) σ (upd H a (.lst vs')) ∧ Step W H W (upd H a (.lst vs')) := by
  have hWa : W a := by obtain ⟨v', e2, h⟩ := ok.slot i s e; rw [e1] at e2; cases e2; exact h.owns ho
  have st : Step W H W (upd H a (.lst vs')) := ⟨fun b o q n => by rw [upd_ne (fun z : b = a => n (by rw [z]; exact hWa))]; exact q, fun b z => .inl z⟩
  have ne : ∀ {j : Nat} {sl : Sl} {u : V} {b : Addr}, i ≠ j → env[j]? = some (some sl) → σ[j]? = some (some u) → Owns H sl u b → b ≠ a := fun {j sl u b} hj q q1 o z => by
    subst z
    exact hj (ok.uniq i j s sl v u b e q e1 q1 ho o)
  have own_top : ∀ {sl : Sl} {u : V} {l : Addr}, SlOk K G W H sl u → (∀ d, sl ≠ .sh d) → u = .ref l → Owns H sl u l := fun {sl u l} h nd q => by
    cases sl with
    | sh d => exact absurd rfl (nd d)
    | ow ds => exact q
    | o2 dss => exact .inl q
  have bk : ∀ {j : Nat} {sl : Sl} {u : V} {b : Addr}, i ≠ j → env[j]? = some (some sl) → σ[j]? = some (some u) → Owns (upd H a (.lst vs')) sl u b → Owns H sl u b := fun {j sl u b} hj q q1 o => by
    obtain ⟨u', q2, h⟩ := ok.slot j sl q
    rw [q1] at q2; cases q2
    cases sl with
    | sh d => exact o.elim
    | ow ds => exact o
    | o2 dss => exact h.back (fun l q3 _ vs q4 => by rw [upd_ne (ne hj q q1 (own_top h (fun d z => by cases z) q3))]; exact q4) o
  refine ⟨⟨fun b o q => ?_, ok.good, fun b z => ?_, fun j sl q => ?_, fun j k s1 s2 v1 v2 b q1 q2 q3 q4 o1 o2 => ?_, by rw [List.length_set, ok.len]⟩, st⟩
  · rw [upd_ne (fun z => by rw [z, (ok.wl a hWa).1] at q; cases q)]; exact ok.stay b o q
  · obtain ⟨q, us, hb⟩ := ok.wl b z
    by_cases h : b = a
    · exact ⟨q, vs', by rw [h, upd_same]⟩
    · exact ⟨q, us, by rw [upd_ne h]; exact hb⟩
  · rcases getset q with ⟨rfl, q', _⟩ | ⟨hj, q'⟩
    · cases q'
      exact ⟨v, e1, hs⟩
    · obtain ⟨u, e2, h⟩ := ok.slot j sl q'
      exact ⟨u, e2, ok.slstep st h fun b vs o q2 => ⟨h.owns o, by rw [upd_ne (ne hj q' e2 o)]; exact q2⟩⟩
  · have back : ∀ {m : Nat} {sl : Sl} {u : V}, (env.set i (some s'))[m]? = some (some sl) → σ[m]? = some (some u) → Owns (upd H a (.lst vs')) sl u b → ∃ sl', env[m]? = some (some sl') ∧ Owns H sl' u b := fun {m sl u} q q1 o => by
      rcases getset q with ⟨rfl, q', _⟩ | ⟨hj, q'⟩
      · cases q'
        rw [e1] at q1; cases q1
        exact ⟨s, e, hb b o⟩
      · exact ⟨sl, q', bk hj q' q1 o⟩
    obtain ⟨t1, b1, c1⟩ := back q1 q3 o1
    obtain ⟨t2, b2, c2⟩ := back q2 q4 o2
    exact ok.uniq j k t1 t2 v1 v2 b b1 b2 q3 q4 c1 c2
theorem Ok.turn (ok : Ok K G H0 W env σ H) {i : Nat} {ds ds' : List D} {l : Addr} {vs' : List V} (e : env[i]? = some (some (.ow ds))) (e1 : σ[i]? = some (some (.ref l))) (r : Reps K H (Ow G W) ds' vs') :
    Ok K G H0 W (env.set i (some (.ow ds'))) σ (upd H l (.lst vs')) ∧ Step W H W (upd H l (.lst vs')) := by
  obtain ⟨v, e1', l', vs, rfl, hW, hl, _⟩ := ok.slot i _ e
  rw [e1] at e1'; cases e1'
  have st : Step W H W (upd H l (.lst vs')) := ⟨fun b o q n => by rw [upd_ne (fun z : b = l => n (by rw [z]; exact hW))]; exact q, fun b z => .inl z⟩
  exact ok.chg e e1 (show Owns H (.ow ds) (.ref l) l from rfl) ⟨l, vs', rfl, hW, upd_same, ok.reps st r⟩ fun b o => o
end
end L2
set_option Elab.async false
set_option linter.all false
set_option maxRecDepth 100000
set_option maxHeartbeats 4000000
noncomputable section
namespace L2
open PySem PySem.Spec PyProof.Rows
abbrev FE := DE0 → Option (D × DE0)
abbrev FT := DE0 → Option (Bool × DE0)
abbrev FA := DE0 → Option (List D × DE0)
def tD (K : PySem.W.Frag) (G : Addr → Prop) (H0 : Hp) (f : FE) : TE := fun σ H Q => ∃ W env d env', Ok K G H0 W env σ H ∧ f env = some (d, env') ∧
  ∀ W' v H', Step W H W' H' → Ok K G H0 W' env' σ H' → Rep K H' (Ow G W') d v → Q v H'
def tDT (K : PySem.W.Frag) (G : Addr → Prop) (H0 : Hp) (f : FT) : TT := fun σ H Q => ∃ W env b env', Ok K G H0 W env σ H ∧ f env = some (b, env') ∧
  ∀ W' H', Step W H W' H' → Ok K G H0 W' env' σ H' → Q b H'
def tDA (K : PySem.W.Frag) (G : Addr → Prop) (H0 : Hp) (f : FA) : TA := fun σ H Q => ∃ W env ds env', Ok K G H0 W env σ H ∧ f env = some (ds, env') ∧
  ∀ W' vs H', Step W H W' H' → Ok K G H0 W' env' σ H' → Reps K H' (Ow G W') ds vs → Q vs H'
def tDF (K : PySem.W.Frag) (G : Addr → Prop) (H0 : Hp) (f : FA) : TE := fun σ H Q => ∃ W env ds env', Ok K G H0 W env σ H ∧ f env = some (ds, env') ∧
  ∀ W' l vs H', Step W H (addW W' l) H' → Ok K G H0 W' env' σ H' → Ok K G H0 (addW W' l) env' σ H' → ¬ W' l → H' l = some (.lst vs) → Reps K H' (Ow G (addW W' l)) ds vs → Q (.ref l) H'
def DEx (X : Cx) (G : Addr → Prop) (H0 : Hp) (e : Expr) (f : FE) : Prop := PE X e (tD X.K G H0 f)
def DTx (X : Cx) (G : Addr → Prop) (H0 : Hp) (e : Expr) (f : FT) : Prop := PT X e (tDT X.K G H0 f)
def DAx (X : Cx) (G : Addr → Prop) (H0 : Hp) (es : List Expr) (f : FA) : Prop := PA X es (tDA X.K G H0 f)
def DFx (X : Cx) (G : Addr → Prop) (H0 : Hp) (e : Expr) (f : FA) : Prop := PE X e (tDF X.K G H0 f)
theorem PE.imp {X : Cx} {e : Expr} {t t' : TE} (h : PE X e t) (i : ∀ σ H Q, t' σ H Q → t σ H Q) : PE X e t' := fun pins s σ H Q I q => h pins s σ H Q I (i σ H Q q)
theorem PT.imp {X : Cx} {e : Expr} {t t' : TT} (h : PT X e t) (i : ∀ σ H Q, t' σ H Q → t σ H Q) : PT X e t' := fun pins s σ H Q I q => h pins s σ H Q I (i σ H Q q)
theorem PA.imp {X : Cx} {e : List Expr} {t t' : TA} (h : PA X e t) (i : ∀ σ H Q, t' σ H Q → t σ H Q) : PA X e t' := fun pos pins s σ H Q I q => h pos pins s σ H Q I (i σ H Q q)
@[simp] def fVar (i : Nat) : FE := fun e => match e[i]? with
  | some (some (.sh d)) => some (d, e)
  | some (some (.ow ds)) => some (.lst ds, e.set i (some (.sh (.lst ds))))
  | some (some (.o2 dss)) => some (.lst (dss.map D.lst), e.set i (some (.sh (.lst (dss.map D.lst)))))
  | _ => none
@[simp] def fC (d : D) : FE := fun e => some (d, e)
@[simp] def fBin (op : D → D → Option D) (f g : FE) : FE := fun e => (f e).bind fun r => (g r.2).bind fun q => (op r.1 q.1).map fun d => (d, q.2)
@[simp] def fUn (op : D → Option D) (f : FE) : FE := fun e => (f e).bind fun r => (op r.1).map fun d => (d, r.2)
@[simp] def fAnd (f g : FT) : FT := fun e => (f e).bind fun r => if r.1 = true then g r.2 else some (false, r.2)
@[simp] def fOr (f g : FT) : FT := fun e => (f e).bind fun r => if r.1 = true then some (true, r.2) else g r.2
@[simp] def fNot (f : FT) : FT := fun e => (f e).map fun r => (!r.1, r.2)
@[simp] def fTst (f : FE) : FT := fun e => (f e).bind fun r => match r.1 with | .bl b => some (b, r.2) | _ => none
@[simp] def fAndV (f g : FE) : FE := fun e => (f e).bind fun r => match r.1 with | .bl true => g r.2 | .bl false => some (.bl false, r.2) | _ => none
@[simp] def fOrV (f g : FE) : FE := fun e => (f e).bind fun r => match r.1 with | .bl true => some (.bl true, r.2) | .bl false => g r.2 | _ => none
@[simp] def fNotV (f : FE) : FE := fun e => (f e).bind fun r => match r.1 with | .bl b => some (.bl (!b), r.2) | _ => none
@[simp] def fIf (c : FT) (f g : FE) : FE := fun e => (c e).bind fun r => if r.1 = true then f r.2 else g r.2
@[simp] def fNil : FA := fun e => some ([], e)
@[simp] def fCons (f : FE) (g : FA) : FA := fun e => (f e).bind fun r => (g r.2).bind fun q => some (r.1 :: q.1, q.2)
@[simp] def fTup (g : FA) : FE := fun e => (g e).bind fun r => if r.1.length ≤ 64 then some (.tup r.1, r.2) else none
@[simp] def fDisp (g : FA) : FA := fun e => (g e).bind fun r => if r.1.length ≤ 64 then some (r.1, r.2) else none
@[simp] def fLst (g : FA) : FE := fun e => (g e).map fun r => (.lst r.1, r.2)
@[simp] def dAddI : D → D → Option D | .int i, .int j => some (.int (i + j)) | _, _ => none
@[simp] def dSub : D → D → Option D | .int i, .int j => some (.int (i - j)) | _, _ => none
def Small (i : Int) : Prop := -(2 ^ 64) < i ∧ i < 2 ^ 64
noncomputable instance (i : Int) : Decidable (Small i) := Classical.propDecidable _
def Few (n : Nat) : Prop := n ≤ 2 ^ 20
noncomputable instance (n : Nat) : Decidable (Few n) := Classical.propDecidable _
def Bnd (lo hi i : Int) : Prop := lo ≤ i ∧ i < hi
noncomputable instance (lo hi i : Int) : Decidable (Bnd lo hi i) := Classical.propDecidable _
def dMul : D → D → Option D | .int i, .int j => if Small i ∨ Small j then some (.int (i * j)) else none | _, _ => none
def dMod : D → D → Option D | .int i, .int j => if 0 < j then some (.int (i % j)) else none | _, _ => none
def dDiv : D → D → Option D | .int i, .int j => if Bnd 1 1073741824 j then some (.int (i / j)) else none | _, _ => none
@[simp] def dNeg : D → Option D | .int i => some (.int (-i)) | _ => none
@[simp] def dLt : D → D → Option D | .int i, .int j => some (.bl (decide (i < j))) | _, _ => none
@[simp] def dLe : D → D → Option D | .int i, .int j => some (.bl (decide (i ≤ j))) | _, _ => none
@[simp] def dGt : D → D → Option D | .int i, .int j => some (.bl (decide (j < i))) | _, _ => none
@[simp] def dGe : D → D → Option D | .int i, .int j => some (.bl (decide (j ≤ i))) | _, _ => none
@[simp] def dEq : D → D → Option D
  | .int i, .int j => some (.bl (decide (i = j))) | .str i, .str j => some (.bl (decide (i = j))) | .bl i, .bl j => some (.bl (decide (i = j))) | _, _ => none
@[simp] def dNe : D → D → Option D
  | .int i, .int j => some (.bl (!decide (i = j))) | .str i, .str j => some (.bl (!decide (i = j))) | .bl i, .bl j => some (.bl (!decide (i = j))) | _, _ => none
@[simp] def dIx : D → D → Option D | .tup ds, .int i => atI ds i | .lst ds, .int i => atI ds i | _, _ => none
section
variable {X : Cx} {G : Addr → Prop} {H0 : Hp} {a b c e : Expr} {f g : FE} {pos : Pos}
def OpD (X : Cx) (G : Addr → Prop) (H0 : Hp) (r : R2) (op : D → D → Option D) : Prop :=
  ∀ W env σ H x y d1 d2 d (Q : VK), Ok X.K G H0 W env σ H → Rep X.K H (Ow G W) d1 x → Rep X.K H (Ow G W) d2 y → op d1 d2 = some d →
    (∀ v H', Step W H W H' → Ok X.K G H0 W env σ H' → Rep X.K H' (Ow G W) d v → Q v H') → r x y H Q
theorem tOp_D {r : R2} {op : D → D → Option D} (ho : OpD X G H0 r op) : ∀ σ H Q, tD X.K G H0 (fBin op f g) σ H Q → tOp r (tD X.K G H0 f) (tD X.K G H0 g) σ H Q := by
  rintro σ H Q ⟨W, env, d, env', ok, e, k⟩
  cases e1 : f env with
  | none => simp [fBin, e1] at e
  | some r1 =>
    cases e2 : g r1.2 with
    | none => simp [fBin, e1, e2] at e
    | some r2 =>
      have e : (op r1.1 r2.1).map (fun d => (d, r2.2)) = some (d, env') := by simpa [fBin, e1, e2] using e
      cases e3 : op r1.1 r2.1 with
      | none => rw [e3] at e; cases e
      | some d' =>
        rw [e3] at e
        have e4 : (d', r2.2) = (d, env') := Option.some.inj e
        cases e4
        refine ⟨W, env, r1.1, r1.2, ok, e1, fun W1 v1 H1 s1 ok1 p1 => ⟨W1, r1.2, r2.1, r2.2, ok1, e2, fun W2 v2 H2 s2 ok2 p2 => ?_⟩⟩
        exact ho W2 _ σ H2 v1 v2 _ _ _ Q ok2 (ok1.rep s2 p1) p2 e3 fun v H3 s3 ok3 p3 => k W2 v H3 ((s1.trans s2).trans s3) ok3 p3
theorem de_bin {op : Operator} {r : R2} {p : D → D → Option D} (ho : OpR X (binaryOp op) r) (hd : OpD X G H0 r p) (ha : DEx X G H0 a f) (hb : DEx X G H0 b g) : DEx X G H0 (.BinOp a op b pos) (fBin p f g) :=
  (pe_op ho ha hb).imp (tOp_D hd)
theorem de_cmp {op : CmpOp} {r : R2} {p : D → D → Option D} (ho : OpR X (compareOp op) r) (hd : OpD X G H0 r p) (ha : DEx X G H0 a f) (hb : DEx X G H0 b g) (hm : behindInMarks op b = false) : DEx X G H0 (.Compare a [op] [b] pos) (fBin p f g) :=
  (pe_cmpR ho ha hb hm).imp (tOp_D hd)
theorem tst_D {t : TE} {f : FE} (h : ∀ σ H Q, tD X.K G H0 f σ H Q → t σ H Q) : ∀ σ H Q, tDT X.K G H0 (fTst f) σ H Q → tTest t σ H Q := by
  rintro σ H Q ⟨W, env, b, env', ok, e, k⟩
  refine h σ H _ ?_
  cases e1 : f env with
  | none => simp [fTst, e1] at e
  | some r1 =>
    obtain ⟨d, env1⟩ := r1
    cases d with
    | bl b' =>
      have e : some (b', env1) = some (b, env') := by simpa [fTst, e1] using e
      cases e
      exact ⟨W, env, _, _, ok, e1, fun W1 v1 H1 s1 ok1 p1 => ⟨_, p1.bl_, k W1 H1 s1 ok1⟩⟩
    | _ => simp [fTst, e1] at e
theorem dt_cmp {op : CmpOp} {r : R2} {p : D → D → Option D} (ho : OpR X (compareOp op) r) (hd : OpD X G H0 r p) (ha : DEx X G H0 a f) (hb : DEx X G H0 b g) (hm : behindInMarks op b = false) : DTx X G H0 (.Compare a [op] [b] pos) (fTst (fBin p f g)) :=
  (pt_cmpR ho ha hb hm).imp (tst_D (tOp_D hd))
theorem od_I {C : Int → Int → Prop} {g : Int → Int → Int} {op : D → D → Option D} (h : ∀ d1 d2 d, op d1 d2 = some d → ∃ i j, d1 = .int i ∧ d2 = .int j ∧ C i j ∧ d = .int (g i j)) : OpD X G H0 (rI C fun i j => .int (g i j)) op := by
  intro W env σ H x y d1 d2 d Q ok p1 p2 e k
  obtain ⟨i, j, rfl, rfl, hc, rfl⟩ := h _ _ _ e
  exact ⟨i, j, p1.int_, p2.int_, hc, k _ H Step.refl ok (.int _)⟩
theorem od_I0 {g : Int → Int → Int} {op : D → D → Option D} (h : ∀ d1 d2 d, op d1 d2 = some d → ∃ i j, d1 = .int i ∧ d2 = .int j ∧ d = .int (g i j)) : OpD X G H0 (rI0 fun i j => .int (g i j)) op := by
  intro W env σ H x y d1 d2 d Q ok p1 p2 e k
  obtain ⟨i, j, rfl, rfl, rfl⟩ := h _ _ _ e
  exact ⟨i, j, p1.int_, p2.int_, k _ H Step.refl ok (.int _)⟩
theorem od_B0 {g : Int → Int → Bool} {op : D → D → Option D} (h : ∀ d1 d2 d, op d1 d2 = some d → ∃ i j, d1 = .int i ∧ d2 = .int j ∧ d = .bl (g i j)) : OpD X G H0 (rI0 fun i j => .bl (g i j)) op := by
  intro W env σ H x y d1 d2 d Q ok p1 p2 e k
  obtain ⟨i, j, rfl, rfl, rfl⟩ := h _ _ _ e
  exact ⟨i, j, p1.int_, p2.int_, k _ H Step.refl ok (.bl _)⟩
theorem od_add : OpD X G H0 (rI0 fun i j => .int (i + j)) dAddI := od_I0 fun d1 d2 d e => by
  cases d1 <;> cases d2 <;> first | (cases e; done) | exact ⟨_, _, rfl, rfl, (Option.some.inj e).symm⟩
theorem od_sub : OpD X G H0 (rI0 fun i j => .int (i - j)) dSub := od_I0 fun d1 d2 d e => by
  cases d1 <;> cases d2 <;> first | (cases e; done) | exact ⟨_, _, rfl, rfl, (Option.some.inj e).symm⟩
theorem od_mul : OpD X G H0 (rI CMul fun i j => .int (i * j)) dMul := od_I fun d1 d2 d e => by
  cases d1 <;> cases d2 <;> first
    | (cases e; done)
    | (rename_i i j
       by_cases h : Small i ∨ Small j
       · simp only [dMul, if_pos h] at e; exact ⟨_, _, rfl, rfl, h, (Option.some.inj e).symm⟩
       · simp only [dMul, if_neg h] at e; cases e)
theorem od_mod : OpD X G H0 (rI (fun _ j => 0 < j) fun i j => .int (i % j)) dMod := od_I fun d1 d2 d e => by
  cases d1 <;> cases d2 <;> first
    | (cases e; done)
    | (rename_i i j
       by_cases h : 0 < j
       · simp only [dMod, if_pos h] at e; exact ⟨_, _, rfl, rfl, h, (Option.some.inj e).symm⟩
       · simp only [dMod, if_neg h] at e; cases e)
theorem od_div : OpD X G H0 (rI CDiv fun i j => .int (i / j)) dDiv := od_I fun d1 d2 d e => by
  cases d1 <;> cases d2 <;> first
    | (cases e; done)
    | (rename_i i j
       by_cases h : Bnd 1 1073741824 j
       · simp only [dDiv, if_pos h] at e; exact ⟨_, _, rfl, rfl, ⟨by have := h.1; omega, h.2⟩, (Option.some.inj e).symm⟩
       · simp only [dDiv, if_neg h] at e; cases e)
theorem od_lt : OpD X G H0 (rI0 fun i j => .bl (decide (i < j))) dLt := od_B0 fun d1 d2 d e => by
  cases d1 <;> cases d2 <;> first | (cases e; done) | exact ⟨_, _, rfl, rfl, (Option.some.inj e).symm⟩
theorem od_gt : OpD X G H0 (rI0 fun i j => .bl (decide (j < i))) dGt := od_B0 fun d1 d2 d e => by
  cases d1 <;> cases d2 <;> first | (cases e; done) | exact ⟨_, _, rfl, rfl, (Option.some.inj e).symm⟩
theorem dv_int (i j : Int) : decide (V.int i = V.int j) = decide (i = j) := by simp
theorem dv_str (i j : Str) : decide (V.str i = V.str j) = decide (i = j) := by simp
theorem dv_bl (i j : Bool) : decide (V.bl i = V.bl j) = decide (i = j) := by simp
theorem od_eq : OpD X G H0 rEq dEq := by
  intro W env σ H x y d1 d2 d Q ok p1 p2 e k
  cases d1 <;> cases d2 <;> first
    | (cases e; done)
    | (cases e; cases p1; cases p2
       refine ⟨rfl, ?_⟩
       first
         | (rw [dv_int]; exact k _ H Step.refl ok (.bl _))
         | (rw [dv_str]; exact k _ H Step.refl ok (.bl _))
         | (rw [dv_bl]; exact k _ H Step.refl ok (.bl _)))
theorem atI_rep {K : PySem.W.Frag} {H : Hp} {O : Addr → Prop} {ds : List D} {vs : List V} {i : Int} {d : D} (r : Reps K H O ds vs) (h : atI ds i = some d) : ∃ v, atI vs i = some v ∧ Rep K H O d v := by
  unfold atI at h ⊢
  rw [← r.length]
  cases q : ixN ds.length i with
  | none => rw [q] at h; cases h
  | some j => rw [q] at h; exact r.get h
theorem de_add (ha : DEx X G H0 a f) (hb : DEx X G H0 b g) : DEx X G H0 (.BinOp a .Add b pos) (fBin dAddI f g) := de_bin op_add od_add ha hb
theorem de_sub (ha : DEx X G H0 a f) (hb : DEx X G H0 b g) : DEx X G H0 (.BinOp a .Sub b pos) (fBin dSub f g) := de_bin op_sub od_sub ha hb
theorem de_mul (ha : DEx X G H0 a f) (hb : DEx X G H0 b g) : DEx X G H0 (.BinOp a .Mult b pos) (fBin dMul f g) := de_bin op_mul od_mul ha hb
theorem de_mod (ha : DEx X G H0 a f) (hb : DEx X G H0 b g) : DEx X G H0 (.BinOp a .Mod b pos) (fBin dMod f g) := de_bin op_mod od_mod ha hb
theorem de_div (ha : DEx X G H0 a f) (hb : DEx X G H0 b g) : DEx X G H0 (.BinOp a .FloorDiv b pos) (fBin dDiv f g) := de_bin op_fdiv od_div ha hb
theorem de_lt (ha : DEx X G H0 a f) (hb : DEx X G H0 b g) : DEx X G H0 (.Compare a [.Lt] [b] pos) (fBin dLt f g) := de_cmp op_lt od_lt ha hb (nomark _)
theorem de_gt (ha : DEx X G H0 a f) (hb : DEx X G H0 b g) : DEx X G H0 (.Compare a [.Gt] [b] pos) (fBin dGt f g) := de_cmp op_gt od_gt ha hb (nomark _)
theorem de_eq (ha : DEx X G H0 a f) (hb : DEx X G H0 b g) : DEx X G H0 (.Compare a [.Eq] [b] pos) (fBin dEq f g) := de_cmp op_eq od_eq ha hb (nomark _)
theorem dt_lt (ha : DEx X G H0 a f) (hb : DEx X G H0 b g) : DTx X G H0 (.Compare a [.Lt] [b] pos) (fTst (fBin dLt f g)) := dt_cmp op_lt od_lt ha hb (nomark _)
theorem dt_gt (ha : DEx X G H0 a f) (hb : DEx X G H0 b g) : DTx X G H0 (.Compare a [.Gt] [b] pos) (fTst (fBin dGt f g)) := dt_cmp op_gt od_gt ha hb (nomark _)
theorem dt_eq (ha : DEx X G H0 a f) (hb : DEx X G H0 b g) : DTx X G H0 (.Compare a [.Eq] [b] pos) (fTst (fBin dEq f g)) := dt_cmp op_eq od_eq ha hb (nomark _)
theorem de_var (i : Nat) {x : Str} (hN : X.N[i]? = some x := by rfl) (hv : Vis X.env.scope x := by first | exact Or.inl rfl | exact Or.inr (Or.inl rfl) | exact Or.inr (Or.inr rfl)) (hd : (x == ("__debug__" : Str)) = false := by decide)
    (hcd : (x == ("__classdict__" : Str)) = false := by decide) : DEx X G H0 (.Name x pos) (fVar i) := (pe_var hN hv hd hcd).imp fun σ H Q ⟨W, env, d, env', ok, e, k⟩ => by
  unfold fVar at e
  cases q : env[i]? with
  | none => rw [q] at e; cases e
  | some o =>
    cases o with
    | none => rw [q] at e; cases e
    | some sl =>
      cases sl with
      | sh d' =>
        rw [q] at e; cases e
        obtain ⟨v, e1, r⟩ := ok.slot i _ q
        exact ⟨v, e1, k W v H Step.refl ok r⟩
      | ow ds =>
        rw [q] at e; cases e
        obtain ⟨W', v, e1, st, ok', r⟩ := ok.share q
        exact ⟨v, e1, k W' v H st ok' r⟩
      | o2 dss =>
        rw [q] at e; cases e
        obtain ⟨W', v, e1, st, ok', r⟩ := ok.share2 q
        exact ⟨v, e1, k W' v H st ok' r⟩
theorem de_c {d : D} {v : V} (h : PE X e (tC v)) (r : ∀ H O, Rep X.K H O d v) : DEx X G H0 e (fC d) := h.imp fun σ H Q ⟨W, env, d', env', ok, q, k⟩ => by
  cases q
  exact k W v H Step.refl ok (r _ _)
theorem de_int {i : Int} {j : Nat} : DEx X G H0 (.Constant (.int i) j pos) (fC (.int i)) := de_c pe_int fun _ _ => .int _
theorem de_bl {i : Bool} {j : Nat} : DEx X G H0 (.Constant (.bool i) j pos) (fC (.bl i)) := de_c pe_bl fun _ _ => .bl _
theorem de_neg (ha : DEx X G H0 a f) : DEx X G H0 (.UnaryOp .USub a pos) (fUn dNeg f) := (pe_un un_neg ha).imp fun σ H Q ⟨W, env, d', env', ok, q, k⟩ => by
  cases e1 : f env with
  | none => simp [fUn, e1] at q
  | some r =>
    obtain ⟨d, env1⟩ := r
    cases d with
    | int i =>
      have q : some (D.int (-i), env1) = some (d', env') := by simpa [fUn, e1, dNeg] using q
      cases q
      exact ⟨W, env, _, _, ok, e1, fun W1 v1 H1 s1 ok1 p1 => ⟨i, p1.int_, k W1 _ H1 s1 ok1 (.int _)⟩⟩
    | _ => simp [fUn, e1, dNeg] at q
end
end L2
end
set_option Elab.async false
set_option linter.all false
set_option maxRecDepth 100000
set_option maxHeartbeats 4000000
noncomputable section
namespace L2
open PySem PySem.Spec PyProof.Rows
section
variable {X : Cx} {G : Addr → Prop} {H0 : Hp} {a b c e : Expr} {es rest : List Expr} {f g : FE} {F : FA} {p q : FT} {pos : Pos}
def DWx (X : Cx) (G : Addr → Prop) (H0 : Hp) (e : Expr) (f : FT) : Prop := PW X e (tDT X.K G H0 f)
theorem PW.imp {X : Cx} {e : Expr} {t t' : TT} (h : PW X e t) (i : ∀ σ H Q, t' σ H Q → t σ H Q) : PW X e t' := fun w pins s σ H Q I q => h w pins s σ H Q I (i σ H Q q)
theorem dt_w (h : DWx X G H0 e p) : DTx X G H0 e p := PW.pt h
theorem dw_or1 (h : DTx X G H0 a p) : DWx X G H0 (.BoolOp .Or [a] pos) p := pw_or1 h
theorem dw_or (h : DTx X G H0 a p) (h2 : DWx X G H0 (.BoolOp .Or (b :: rest) pos) q) : DWx X G H0 (.BoolOp .Or (a :: b :: rest) pos) (fOr p q) := (pw_or h h2).imp fun σ H Q ⟨W, env, d, env', ok, e, k⟩ => by
  cases e1 : p env with
  | none => simp [fOr, e1] at e
  | some r =>
    obtain ⟨t, env1⟩ := r
    refine ⟨W, env, t, env1, ok, e1, fun W1 H1 s1 ok1 => ?_⟩
    cases t with
    | false =>
      rw [if_neg Bool.false_ne_true]
      exact ⟨W1, env1, d, env', ok1, by simpa [fOr, e1] using e, fun W2 H2 s2 ok2 => k W2 H2 (s1.trans s2) ok2⟩
    | true =>
      rw [if_pos rfl]
      have e : some (true, env1) = some (d, env') := by simpa [fOr, e1] using e
      cases e
      exact k W1 H1 s1 ok1
theorem dt_not (h : DTx X G H0 a p) : DTx X G H0 (.UnaryOp .Not a pos) (fNot p) := (pt_not h).imp fun σ H Q ⟨W, env, d, env', ok, e, k⟩ => by
  cases e1 : p env with
  | none => simp [fNot, e1] at e
  | some r =>
    have e : some (!r.1, r.2) = some (d, env') := by simpa [fNot, e1] using e
    cases e
    exact ⟨W, env, _, _, ok, e1, fun W1 H1 s1 ok1 => k W1 H1 s1 ok1⟩
theorem dt_val (h : DEx X G H0 a f) (he : ∀ whole, isTrue a X.env whole = (do let v ← whole; standAt a.pos; holding [v] (truthy v)) := by intro _; rfl) : DTx X G H0 a (fTst f) := (pt_val h he).imp (tst_D fun _ _ _ z => z)
theorem de_one {op : BoolOp} (h : DEx X G H0 a f) : DEx X G H0 (.BoolOp op [a] pos) f := pe_one h
theorem de_and (h : DEx X G H0 a f) (h2 : DEx X G H0 (.BoolOp .And (b :: rest) pos) g) : DEx X G H0 (.BoolOp .And (a :: b :: rest) pos) (fAndV f g) := (pe_and h h2).imp fun σ H Q ⟨W, env, d, env', ok, e, k⟩ => by
  cases e1 : f env with
  | none => simp [fAndV, e1] at e
  | some r =>
    obtain ⟨t, env1⟩ := r
    refine ⟨W, env, t, env1, ok, e1, fun W1 v1 H1 s1 ok1 p1 => ?_⟩
    cases t with
    | bl t =>
      refine ⟨t, p1.bl_, ?_⟩
      cases t with
      | true =>
        rw [if_pos rfl]
        exact ⟨W1, env1, d, env', ok1, by simpa [fAndV, e1] using e, fun W2 v2 H2 s2 ok2 p2 => k W2 v2 H2 (s1.trans s2) ok2 p2⟩
      | false =>
        rw [if_neg Bool.false_ne_true]
        have e : some (D.bl false, env1) = some (d, env') := by simpa [fAndV, e1] using e
        cases e
        exact k W1 _ H1 s1 ok1 (.bl _)
    | _ => simp [fAndV, e1] at e
theorem de_not (h : DEx X G H0 a f) : DEx X G H0 (.UnaryOp .Not a pos) (fNotV f) := (pe_not h).imp fun σ H Q ⟨W, env, d, env', ok, e, k⟩ => by
  cases e1 : f env with
  | none => simp [fNotV, e1] at e
  | some r =>
    obtain ⟨t, env1⟩ := r
    refine ⟨W, env, t, env1, ok, e1, fun W1 v1 H1 s1 ok1 p1 => ?_⟩
    cases t with
    | bl t =>
      have e : some (D.bl (!t), env1) = some (d, env') := by simpa [fNotV, e1] using e
      cases e
      exact ⟨t, p1.bl_, k W1 _ H1 s1 ok1 (.bl _)⟩
    | _ => simp [fNotV, e1] at e
theorem da_nil : DAx X G H0 [] fNil := pa_nil.imp fun σ H Q ⟨W, env, ds, env', ok, e, k⟩ => by
  cases e
  exact k W [] H Step.refl ok .nil
theorem da_cons (ha : DEx X G H0 e f) (hr : DAx X G H0 es F) (hs : starEach (e :: es) X.env = (false, eval e X.env) :: starEach es X.env := by rfl) : DAx X G H0 (e :: es) (fCons f F) := (pa_cons ha hr hs).imp fun σ H Q ⟨W, env, ds, env', ok, q, k⟩ => by
  cases e1 : f env with
  | none => simp [fCons, e1] at q
  | some r =>
    obtain ⟨d, env1⟩ := r
    cases e2 : F env1 with
    | none => simp [fCons, e1, e2] at q
    | some r2 =>
      have q : some (d :: r2.1, r2.2) = some (ds, env') := by simpa [fCons, e1, e2] using q
      cases q
      exact ⟨W, env, d, env1, ok, e1, fun W1 v1 H1 s1 ok1 p1 => ⟨W1, env1, _, _, ok1, e2, fun W2 vs H2 s2 ok2 p2 => k W2 _ H2 (s1.trans s2) ok2 (.cons (ok1.rep s2 p1) p2)⟩⟩
theorem le64 {n : Nat} (h : n ≤ 64) : n ≤ sizeLine := Nat.le_trans h (by rw [sizeLine_eq]; decide)
theorem de_tup {k1} (h : DAx X G H0 es F) : DEx X G H0 (.Tuple es k1 pos) (fTup F) := (pe_tup h).imp fun σ H Q ⟨W, env, d, env', ok, q, k⟩ => by
  cases e1 : F env with
  | none => simp [fTup, e1] at q
  | some r =>
    obtain ⟨ds, env1⟩ := r
    by_cases hl : ds.length ≤ 64
    · have q : some (D.tup ds, env1) = some (d, env') := by simpa [fTup, e1, hl] using q
      cases q
      refine ⟨W, env, ds, _, ok, e1, fun W1 vs H1 s1 ok1 p1 => ⟨by rw [← p1.length]; exact le64 hl, fun l hn => ?_⟩⟩
      have sm : Same H1 (upd H1 l (.tup vs)) := same_upd hn
      have st : Step W1 H1 W1 (upd H1 l (.tup vs)) := Step.same sm
      exact k W1 _ _ (s1.trans st) (ok1.same sm) (.tup upd_same (ok1.reps st p1))
    · simp [fTup, e1, hl] at q
theorem laid_D {W : Addr → Prop} {env : DE0} {σ : St} {H : Hp} {l : Addr} {vs : List V} {ds : List D} (ok : Ok X.K G H0 W env σ H) (r : Reps X.K H (Ow G W) ds vs) (hn : H l = none) :
    Step W H (addW W l) (upd H l (.lst vs)) ∧ Ok X.K G H0 W env σ (upd H l (.lst vs)) ∧ Ok X.K G H0 (addW W l) env σ (upd H l (.lst vs)) ∧ ¬ W l ∧ upd H l (.lst vs) l = some (.lst vs) ∧ Reps X.K (upd H l (.lst vs)) (Ow G (addW W l)) ds vs := by
  have sm : Same H (upd H l (.lst vs)) := same_upd hn
  obtain ⟨h1, h2, h3, h4, h5⟩ := ok.fresh (l := l) (vs := vs) (ds := ds) sm hn upd_same ((r.mono (O' := fun a => (Ow G W a ∨ H a = none) ∧ a ≠ l) (fun _ _ h => sm _ _ h) fun a us o h => ⟨⟨.inl o, fun z => by
    subst z
    have h2 : Rd H a (.lst us) := h
    rcases h2 with h2 | ⟨_, h2⟩ <;> rw [hn] at h2 <;> cases h2⟩, h.keep fun o e => sm _ o e⟩))
  exact ⟨h5, ok.same sm, h3, h1, upd_same, h4⟩
theorem df_lst (h : DAx X G H0 es F) : DFx X G H0 (.List es pos) (fDisp F) := (pe_lst h).imp fun σ H Q ⟨W, env, d, env', ok, q, k⟩ => by
  cases e1 : F env with
  | none => simp [fDisp, e1] at q
  | some r =>
    obtain ⟨ds, env1⟩ := r
    by_cases hl : ds.length ≤ 64
    · have q : some (ds, env1) = some (d, env') := by simpa [fDisp, e1, hl] using q
      cases q
      refine ⟨W, env, _, _, ok, e1, fun W1 vs H1 s1 ok1 p1 => ⟨by rw [← p1.length]; exact le64 hl, fun l hn => ?_⟩⟩
      obtain ⟨h1, h2, h3, h4, h5, h6⟩ := laid_D ok1 p1 hn
      exact k W1 l vs _ (s1.trans h1) h2 h3 h4 h5 h6
    · simp [fDisp, e1, hl] at q
def dSp (K : PySem.W.Frag) (m : List D → Option D) : Sp := fun vs H Q _ => ∃ O ds d, Reps K H O ds vs ∧ m ds = some d ∧ ∀ v H', Same H H' → Rep K H' (fun a => O a ∨ H a = none) d v → Q v H'
@[simp] def fCall (m : List D → Option D) (F : FA) : FE := fun e => (F e).bind fun r => (m r.1).map fun d => (d, r.2)
@[simp] def fCallF (m : List D → Option (List D)) (F : FA) : FA := fun e => (F e).bind fun r => (m r.1).map fun d => (d, r.2)
theorem call_D {m : List D → Option D} {E : XK} : ∀ σ H Q, tD X.K G H0 (fCall m F) σ H Q → tCall (dSp X.K m) [] E (tDA X.K G H0 F) σ H Q := fun σ H Q ⟨W, env, d, env', ok, q, k⟩ => by
  cases e1 : F env with
  | none => simp [fCall, e1] at q
  | some r =>
    obtain ⟨ds, env1⟩ := r
    cases e2 : m ds with
    | none => simp [fCall, e1, e2] at q
    | some d' =>
      have q : some (d', env1) = some (d, env') := by simpa [fCall, e1, e2] using q
      cases q
      refine ⟨W, env, ds, _, ok, e1, fun W1 vs H1 s1 ok1 p1 => ?_⟩
      show dSp X.K m (vs ++ []) H1 Q E
      rw [List.append_nil]
      refine ⟨Ow G W1, ds, _, p1, e2, fun v H2 sm r2 => ?_⟩
      refine k W1 v H2 (s1.trans (Step.same sm)) (ok1.same sm) (r2.mono (fun _ _ h => h) fun a us o h => ⟨?_, h⟩)
      rcases o with o | o
      · exact o
      · exact ⟨ok1.good a (ok1.stay.free o), fun z => by obtain ⟨_, us, q⟩ := ok1.wl a z; rw [o] at q; cases q⟩
variable {CX : CXT} {k : Nat} {fa : Addr} {fd : FuncData} {ps : List Str} {m : List D → Option D} {mF : List D → Option (List D)} {x : Str} {p' : Pos} {E : XK}
theorem de_call (Fn : FnOk X.prog X.w X.K X.mg X.base CX k fa fd ps (dSp X.K m)) (hr : Room k X.A) (hg : Gl X x) (hm : X.mg x = some (.ref fa)) (hk : PySem.W.keepIn X.K (.ref fa) = true) (hb : Binds X.K fd ps []) (hx : Passes CX X E) (ha : DAx X G H0 (e :: es) F)
    (hdb : (x == ("__debug__" : Str)) = false := by decide) (he : starEach (e :: es) X.env = (false, eval e X.env) :: starEach es X.env := by rfl) (hpl : (backTo pos (starEach es X.env)).any (·.1) = false := by rfl) :
    DEx X G H0 (.Call (.Name x p') (e :: es) [] pos) (fCall m F) := (pe_call Fn hr hg hm hk hb .nil hx ha hdb he hpl).imp call_D
end
end L2
end
set_option Elab.async false
set_option linter.all false
set_option maxRecDepth 100000
set_option maxHeartbeats 4000000
noncomputable section
namespace L2
open PySem PySem.Spec PyProof.Rows
section
variable {X : Cx} {G : Addr → Prop} {H0 : Hp} {a b c e : Expr} {es rest : List Expr} {f g : FE} {F : FA} {p q : FT} {pos p' : Pos} {x : Str}
def CallD (X : Cx) (G : Addr → Prop) (H0 : Hp) (r : List V → Hp → VK → Prop) (op : List D → Option D) : Prop :=
  ∀ W env σ H vs ds d (Q : VK), Ok X.K G H0 W env σ H → Reps X.K H (Ow G W) ds vs → op ds = some d →
    (∀ v H', Step W H W H' → Ok X.K G H0 W env σ H' → Rep X.K H' (Ow G W) d v → Q v H') → r vs H Q
theorem tCB_D {r : List V → Hp → VK → Prop} {op : List D → Option D} (hd : CallD X G H0 r op) : ∀ σ H Q, tD X.K G H0 (fCall op F) σ H Q → tCB r (tDA X.K G H0 F) σ H Q := fun σ H Q ⟨W, env, d, env', ok, q, k⟩ => by
  cases e1 : F env with
  | none => simp [fCall, e1] at q
  | some z =>
    obtain ⟨ds, env1⟩ := z
    cases e2 : op ds with
    | none => simp [fCall, e1, e2] at q
    | some d' =>
      have q : some (d', env1) = some (d, env') := by simpa [fCall, e1, e2] using q
      cases q
      exact ⟨W, env, ds, _, ok, e1, fun W1 vs H1 s1 ok1 p1 => hd W1 _ σ H1 vs ds _ Q ok1 p1 e2 fun v H2 s2 ok2 p2 => k W1 v H2 (s1.trans s2) ok2 p2⟩
variable {id T : String} {r : List V → Hp → VK → Prop} {op : List D → Option D} {opF : List D → Option (List D)}
theorem de_callB (hc : CallR X (.builtin id) r) (hd : CallD X G H0 r op) (hg : Gl X x) (hm : X.mg x = none) (hv : bootBuiltins x = some (.builtin id)) (ha : DAx X G H0 (e :: es) F) (hn : x ≠ "__name__" := by decide) (hdb : (x == ("__debug__" : Str)) = false := by decide)
    (he : starEach (e :: es) X.env = (false, eval e X.env) :: starEach es X.env := by rfl) (hpl : (backTo pos (starEach es X.env)).any (·.1) = false := by rfl) : DEx X G H0 (.Call (.Name x p') (e :: es) [] pos) (fCall op F) := (pe_callB hc hg hm hv ha hn hdb he hpl).imp (tCB_D hd)
theorem de_callT (hc : CallR X (.type T) r) (hd : CallD X G H0 r op) (hg : Gl X x) (hm : X.mg x = none) (hv : bootBuiltins x = some (.type T)) (ha : DAx X G H0 (e :: es) F) (hn : x ≠ "__name__" := by decide) (hdb : (x == ("__debug__" : Str)) = false := by decide)
    (he : starEach (e :: es) X.env = (false, eval e X.env) :: starEach es X.env := by rfl) (hpl : (backTo pos (starEach es X.env)).any (·.1) = false := by rfl) : DEx X G H0 (.Call (.Name x p') (e :: es) [] pos) (fCall op F) := (pe_callTy hc hg hm hv ha hn hdb he hpl).imp (tCB_D hd)
theorem reps1 {K : PySem.W.Frag} {H : Hp} {O : Addr → Prop} {d : D} {vs : List V} (h : Reps K H O [d] vs) : ∃ v, vs = [v] ∧ Rep K H O d v := by
  cases h with | cons r t => cases t; exact ⟨_, rfl, r⟩
theorem reps2 {K : PySem.W.Frag} {H : Hp} {O : Addr → Prop} {d d' : D} {vs : List V} (h : Reps K H O [d, d'] vs) : ∃ v v', vs = [v, v'] ∧ Rep K H O d v ∧ Rep K H O d' v' := by
  cases h with | cons r t => cases t with | cons r' t => cases t; exact ⟨_, _, rfl, r, r'⟩
@[simp] def bLen : List D → Option D | [.tup ds] => some (.int ds.length) | [.lst ds] => some (.int ds.length) | _ => none
@[simp] def bInt : List D → Option D | [.int i] => some (.int i) | [.bl k] => some (.int (if k then 1 else 0)) | _ => none
theorem cd_int : CallD X G H0 (fun xs H Q => (∃ i, xs = [.int i] ∧ Q (.int i) H) ∨ ∃ k, xs = [.bl k] ∧ Q (.int (if k then 1 else 0)) H) bInt := by
  intro W env σ H vs ds d Q ok r e k
  unfold bInt at e
  split at e
  · cases e
    obtain ⟨v, rfl, r1⟩ := reps1 r; have r := r1
    exact .inl ⟨_, by rw [r.int_], k _ H Step.refl ok (.int _)⟩
  · cases e
    obtain ⟨v, rfl, r1⟩ := reps1 r; have r := r1
    exact .inr ⟨_, by rw [r.bl_], k _ H Step.refl ok (.int _)⟩
  · cases e
theorem boot_int' : bootBuiltins "int" = some (.type "int") := by decide +kernel
theorem de_intc (hg : Gl X "int") (hm : X.mg "int" = none) (ha : DAx X G H0 [e] F) (he : starEach [e] X.env = (false, eval e X.env) :: starEach [] X.env := by rfl) : DEx X G H0 (.Call (.Name "int" p') [e] [] pos) (fCall bInt F) :=
  de_callT call_int1 cd_int hg hm boot_int' ha (by decide) (by decide) he rfl
@[simp] def bMax : List D → Option D | [.int i, .int j] => some (.int (if j > i then j else i)) | _ => none
@[simp] def bMin : List D → Option D | [.int i, .int j] => some (.int (if j < i then j else i)) | _ => none
theorem cd_max : CallD X G H0 (fun xs H Q => ∃ i j, xs = [.int i, .int j] ∧ Q (.int (if j > i then j else i)) H) bMax := by
  intro W env σ H vs ds d Q ok r e k
  unfold bMax at e
  split at e
  · cases e
    obtain ⟨v, v', rfl, r1, r'⟩ := reps2 r; have r := r1
    exact ⟨_, _, by rw [r.int_, r'.int_], k _ H Step.refl ok (.int _)⟩
  · cases e
theorem de_max (hc : X.calm = true) (hg : Gl X "max") (hm : X.mg "max" = none) (ha : DAx X G H0 [a, b] F) (he : starEach [a, b] X.env = (false, eval a X.env) :: starEach [b] X.env := by rfl) (hpl : (backTo pos (starEach [b] X.env)).any (·.1) = false := by rfl) : DEx X G H0 (.Call (.Name "max" p') [a, b] [] pos) (fCall bMax F) :=
  de_callB (call_max2 hc) cd_max hg hm boot_max ha (by decide) (by decide) he hpl
@[simp] def bList : List D → Option (List D) | [.lst ds] => some ds | [.tup ds] => some ds | _ => none
end
end L2
end
set_option Elab.async false
set_option linter.all false
set_option maxRecDepth 100000
set_option maxHeartbeats 4000000
noncomputable section
namespace L2
open PySem PySem.Spec PyProof.Rows
section
variable {X : Cx} {G : Addr → Prop} {H0 : Hp} {a b c e : Expr} {es rest : List Expr} {f g : FE} {F : FA} {p q : FT} {pos p' p1 pos1 : Pos} {x : Str}
theorem Vals.of : ∀ {xs : List V} {us : List Value}, xs.length = us.length → (∀ (j : Nat) (x : V) (u : Value), xs[j]? = some x → us[j]? = some u → RelV x u) → Vals xs us
  | [], [], _, _ => .nil
  | [], _ :: _, h, _ => by cases h
  | _ :: _, [], h, _ => by cases h
  | x :: xs, u :: us, h, r => .cons (r 0 x u rfl rfl) (Vals.of (Nat.succ.inj h) fun j y w e1 e2 => r (j + 1) y w (by simpa using e1) (by simpa using e2))
theorem reps_of_ints {K : PySem.W.Frag} {H : Hp} {O : Addr → Prop} : ∀ (ns : List Int), Reps K H O (ns.map D.int) (ns.map V.int)
  | [] => .nil
  | n :: r => .cons (.int n) (reps_of_ints r)
abbrev FO := DE0 → Option (Option Int × DE0)
def tDO (K : PySem.W.Frag) (G : Addr → Prop) (H0 : Hp) (f : FO) : TO := fun σ H Q => ∃ W env o env', Ok K G H0 W env σ H ∧ f env = some (o, env') ∧ ∀ W' H', Step W H W' H' → Ok K G H0 W' env' σ H' → Q o H'
def DOx (X : Cx) (G : Addr → Prop) (H0 : Hp) (e : Option Expr) (f : FO) : Prop := PO X e (tDO X.K G H0 f)
theorem PO.imp {X : Cx} {e : Option Expr} {t t' : TO} (h : PO X e t) (i : ∀ σ H Q, t' σ H Q → t σ H Q) : PO X e t' := fun pins s σ H Q I q => h pins s σ H Q I (i σ H Q q)
@[simp] def fO0 : FO := fun e => some (none, e)
@[simp] def fO1 (f : FE) : FO := fun e => (f e).bind fun r => match r.1 with | .int i => some (some i, r.2) | _ => none
def cutD (xs : List D) (lo hi : Option Int) : List D := (xs.drop (HT.sIx xs.length 0 lo)).take (HT.sIx xs.length xs.length hi - HT.sIx xs.length 0 lo)
@[simp] def fSl (f : FE) (l h : FO) : FA := fun e => (f e).bind fun r => (l r.2).bind fun r1 => (h r1.2).bind fun r2 => match r.1 with | .lst ds => some (cutD ds r1.1 r2.1, r2.2) | _ => none
@[simp] def fCat (f g : FE) : FA := fun e => (f e).bind fun r => (g r.2).bind fun q => match r.1, q.1 with | .lst ds, .lst es => if Few (ds.length + es.length) then some (ds ++ es, q.2) else none | _, _ => none
@[simp] def fLenV (i : Nat) : FE := fun e => match e[i]? with
  | some (some (.ow ds)) => some (.int ds.length, e)
  | some (some (.sh (.lst ds))) => some (.int ds.length, e)
  | some (some (.sh (.tup ds))) => some (.int ds.length, e)
  | _ => none
theorem de_lenV (i : Nat) (hg : Gl X "len") (hm : X.mg "len" = none) (hN : X.N[i]? = some x := by rfl) (hv : Vis X.env.scope x := by first | exact Or.inl rfl | exact Or.inr (Or.inl rfl) | exact Or.inr (Or.inr rfl)) (hd : (x == ("__debug__" : Str)) = false := by decide)
    (hcd : (x == ("__classdict__" : Str)) = false := by decide) (he : starEach [.Name x p1] X.env = (false, eval (.Name x p1) X.env) :: starEach [] X.env := by rfl) : DEx X G H0 (.Call (.Name "len" p') [.Name x p1] [] pos) (fLenV i) :=
  (pe_callB call_len_seq hg hm PySem.boot_len (pa_cons (pe_var hN hv hd hcd) pa_nil he) (by decide) (by decide) he rfl).imp fun σ H Q ⟨W, env, d, env', ok, q, k⟩ => by
    unfold fLenV at q
    split at q
    · rename_i ds hq
      cases q
      obtain ⟨v, e1, l, vs, rfl, hW, hl, r⟩ := ok.slot i _ hq
      exact ⟨_, e1, l, vs, rfl, .inl (.inl (.inl hl)), by rw [← r.length]; exact k W _ H Step.refl ok (.int _)⟩
    · rename_i ds hq
      cases q
      obtain ⟨v, e1, r⟩ := ok.slot i _ hq
      obtain ⟨l, us, rfl, h, r⟩ := Rep.lst_ r
      exact ⟨_, e1, l, us, rfl, .inl h.sq, by rw [← r.length]; exact k W _ H Step.refl ok (.int _)⟩
    · rename_i ds hq
      cases q
      obtain ⟨v, e1, r⟩ := ok.slot i _ hq
      obtain ⟨l, us, rfl, h, r⟩ := Rep.tup_ r
      exact ⟨_, e1, l, us, rfl, .inr (SqT.of h), by rw [← r.length]; exact k W _ H Step.refl ok (.int _)⟩
    · cases q
@[simp] def ixSl : D → Option (Option Sl) → Option D
  | .int k, some (some (.ow ds)) => atI ds k
  | .int k, some (some (.sh (.lst ds))) => atI ds k
  | .int k, some (some (.sh (.tup ds))) => atI ds k
  | _, _ => none
@[simp] def fIxV (i : Nat) (g : FE) : FE := fun e => match e[i]? with
  | some (some _) => (g e).bind fun r => (ixSl r.1 r.2[i]?).map fun d => (d, r.2)
  | _ => none
theorem de_ixV (i : Nat) (hb : DEx X G H0 b g) (hs : PlainIx b := by intro _ _; rfl) (hN : X.N[i]? = some x := by rfl) (hv : Vis X.env.scope x := by first | exact Or.inl rfl | exact Or.inr (Or.inl rfl) | exact Or.inr (Or.inr rfl)) (hd : (x == ("__debug__" : Str)) = false := by decide)
    (hcd : (x == ("__classdict__" : Str)) = false := by decide) : DEx X G H0 (.Subscript (.Name x p1) b pos) (fIxV i g) :=
  (pe_ix ix_seq (pe_var hN hv hd hcd) hb hs).imp fun σ H Q ⟨W, env, d, env', ok, q, k⟩ => by
    unfold fIxV at q
    split at q
    case h_2 => cases q
    rename_i s0 hs0
    obtain ⟨v, hv, _⟩ := ok.slot i _ hs0
    cases e1 : g env with
    | none => rw [e1] at q; cases q
    | some r =>
      obtain ⟨dk, env1⟩ := r
      rw [e1, Option.bind_some] at q
      cases e3 : ixSl dk env1[i]? with
      | none => rw [e3] at q; cases q
      | some d' =>
        rw [e3] at q; cases q
        refine ⟨v, hv, W, env, dk, _, ok, e1, fun W1 v1 H1 s1 ok1 p1 => ?_⟩
        unfold ixSl at e3
        split at e3
        · rename_i kk ds hq
          obtain ⟨v', e2, l, vs, rfl, hW, hl, r⟩ := ok1.slot i _ hq
          rw [hv] at e2; cases e2
          obtain ⟨u, e4, r4⟩ := atI_rep r e3
          exact .inl ⟨l, vs, kk, u, rfl, p1.int_, .inl (.inl hl), e4, k W1 _ H1 s1 ok1 r4⟩
        · rename_i kk ds hq
          obtain ⟨v', e2, r⟩ := ok1.slot i _ hq
          rw [hv] at e2; cases e2
          obtain ⟨l, us, rfl, h, r⟩ := Rep.lst_ r
          obtain ⟨u, e4, r4⟩ := atI_rep r e3
          exact .inl ⟨l, us, kk, u, rfl, p1.int_, h.sq, e4, k W1 _ H1 s1 ok1 r4⟩
        · rename_i kk ds hq
          obtain ⟨v', e2, r⟩ := ok1.slot i _ hq
          rw [hv] at e2; cases e2
          obtain ⟨l, us, rfl, h, r⟩ := Rep.tup_ r
          obtain ⟨u, e4, r4⟩ := atI_rep r e3
          exact .inr (.inl ⟨l, us, kk, u, rfl, p1.int_, SqT.of h, e4, k W1 _ H1 s1 ok1 r4⟩)
        · cases e3
end
end L2
end
set_option Elab.async false
set_option linter.all false
set_option maxRecDepth 100000
set_option maxHeartbeats 4000000
noncomputable section
namespace L2
open PySem PySem.Spec PyProof.Rows
section
variable {X : Cx} {G : Addr → Prop} {H0 : Hp} {a b c e : Expr} {es rest : List Expr} {f g : FE} {F : FA} {p q : FT} {pos p' p1 pos1 : Pos} {x : Str}
@[simp] def tyD : D → String | .non => "NoneType" | .bl _ => "bool" | .int _ => "int" | .str _ => "str" | .tup _ => "tuple" | .lst _ => "list"
@[simp] def isiT (t T : String) : Bool := t == T || (t == "bool" && T == "int")
def isKind (T : String) : Bool := T == "int" || T == "bool" || T == "str" || T == "tuple" || T == "list"
theorem kit_kind (K : PySem.W.Frag) (d : D) (T : String) (h : isKind T = true) : PySem.W.kitOne K (.type (tyD d)) (.type T) = some (isiT (tyD d) T) := by
  simp only [isKind, Bool.or_eq_true, beq_iff_eq] at h
  rcases h with (((rfl | rfl) | rfl) | rfl) | rfl <;> cases d <;> rfl
theorem call_isi : CallR X (.builtin "isinstance") (fun xs H Q => ∃ x T t b, xs = [x, .ty T] ∧ (TyOf X.K H x t ∨ (t = .type "list" ∧ ∃ a us, x = .ref a ∧ SqL X.K H a us)) ∧ PySem.W.kitOne X.K t (.type T) = some b ∧ Q (.bl b) H) := by
  intro pins s σ H xs us Q I r h
  obtain ⟨x, T, t, b, rfl, ty, e, q⟩ := h
  obtain ⟨u, u', rfl, rx, rt⟩ := vals2 r
  cases (show u' = Value.type T from rt)
  rcases ty with ty | ⟨rfl, a, ws, rfl, hq⟩
  · exact isinst_ok I rx ty e fun tk => ⟨.bl b, H, I.tok tk, rfl, q⟩
  · cases (show u = Value.ref a from rx)
    obtain ⟨its, _, ⟨o, n, h1, h2, _⟩, _⟩ := I.list hq
    exact PySem.W.kia_one PySem.W.kitx_list I.kIn ⟨o, h1, h2⟩ e (fun z => nomatch z) fun tk => ⟨.bl b, H, I.tok tk, rfl, q⟩
theorem tyOf_D {K : PySem.W.Frag} {H : Hp} {O : Addr → Prop} {d : D} {v : V} (r : Rep K H O d v) : TyOf K H v (.type (tyD d)) ∨ (Value.type (tyD d) = .type "list" ∧ ∃ a us, v = .ref a ∧ SqL K H a us) := by
  cases r with
  | non => exact .inl .non
  | bl b => exact .inl (.bl b)
  | int i => exact .inl (.int i)
  | str s => exact .inl (.str s)
  | tup h _ => exact .inl (.tup h)
  | lst o h _ => exact .inr ⟨rfl, _, _, rfl, .inl h⟩
  | klst h _ => exact .inr ⟨rfl, _, _, rfl, .inr h⟩
theorem boot_isi : bootBuiltins "isinstance" = some (.builtin "isinstance") := by decide +kernel
@[simp] def fIsi (T : String) (f : FE) : FE := fun e => (f e).map fun r => (.bl (isiT (tyD r.1) T), r.2)
theorem de_isi {T : String} (hg : Gl X "isinstance") (hm : X.mg "isinstance" = none) (hgT : Gl X x) (hmT : X.mg x = none) (hbT : bootBuiltins x = some (.type T)) (hT : isKind T = true) (ha : DEx X G H0 a f)
    (hdx : (x == ("__debug__" : Str)) = false := by decide) (hnx : x ≠ "__name__" := by decide)
    (he : starEach [a, .Name x p1] X.env = (false, eval a X.env) :: starEach [.Name x p1] X.env := by rfl) (he2 : starEach [.Name x p1] X.env = (false, eval (.Name x p1) X.env) :: starEach [] X.env := by rfl) (hpl : (backTo pos (starEach [.Name x p1] X.env)).any (·.1) = false := by rfl) :
    DEx X G H0 (.Call (.Name "isinstance" p') [a, .Name x p1] [] pos) (fIsi T f) :=
  (pe_callB call_isi hg hm boot_isi (pa_cons ha (pa_cons (pe_bltn (v := .ty T) hgT hmT hbT rfl hnx hdx) pa_nil he2) he) (by decide) (by decide) he hpl).imp fun σ H Q ⟨W, env, d, env', ok, q, k⟩ => by
    cases e1 : f env with
    | none => simp [fIsi, e1] at q
    | some r =>
      have q : some (D.bl (isiT (tyD r.1) T), r.2) = some (d, env') := by simpa [fIsi, e1] using q
      cases q
      exact ⟨W, env, _, _, ok, e1, fun W1 v1 H1 s1 ok1 p1 => ⟨v1, T, _, _, rfl, tyOf_D p1, kit_kind X.K _ T hT, k W1 _ H1 s1 ok1 (.bl _)⟩⟩
abbrev FI := DE0 → Option (List D × DE0)
structure Walk (K : PySem.W.Frag) (G : Addr → Prop) (J : It) (W : Addr → Prop) (H : Hp) (ds : List D) : Prop where
  go : ∀ W' H' (i : Nat) d, Step W H W' H' → ds[i]? = some d → J.go i H' ∧ ∀ x H'', J.yld i H' x H'' → H'' = H' ∧ Rep K H' (Ow G W') d x
  stop : ∀ W' H', Step W H W' H' → J.stop ds.length H'
def tDI (K : PySem.W.Frag) (G : Addr → Prop) (H0 : Hp) (f : FI) : TI := fun σ H R => ∃ W env ds env', Ok K G H0 W env σ H ∧ f env = some (ds, env') ∧
  ∀ W' J H', Step W H W' H' → Ok K G H0 W' env' σ H' → Walk K G J W' H' ds → R J H'
def DIx (X : Cx) (G : Addr → Prop) (H0 : Hp) (tg : Expr) (e : Expr) (f : FI) : Prop := PI X tg e (tDI X.K G H0 f)
theorem PI.imp {X : Cx} {tg e : Expr} {t t' : TI} (h : PI X tg e t) (i : ∀ σ H Q, t' σ H Q → t σ H Q) : PI X tg e t' := fun pins s σ H Q I q => h pins s σ H Q I (i σ H Q q)
theorem walk_rng {W : Addr → Prop} {H : Hp} {lo : Int} {n : Nat} : Walk X.K G (Itr lo n) W H ((List.range n).map fun (k : Nat) => D.int (lo + (k : Int))) where
  go := fun W' H' i d st e => by
    rw [List.getElem?_map] at e
    have hi : i < n := by
      have := (List.getElem?_eq_some_iff.mp (show ((List.range n).map fun (k : Nat) => D.int (lo + (k : Int)))[i]? = some d by rw [List.getElem?_map]; exact e)).1
      simpa using this
    rw [List.getElem?_range hi] at e
    cases e
    exact ⟨hi, fun x H'' ⟨e2, y⟩ => ⟨e2, by rw [y]; exact .int _⟩⟩
  stop := fun W' H' st => by rw [List.length_map, List.length_range]; exact Nat.le_refl _
@[simp] def fiS (f : FE) : FI := fun e => (f e).bind fun r => match r.1 with | .lst ds => some (ds, r.2) | .tup ds => some (ds, r.2) | _ => none
theorem PI.or {tg : Expr} {t t' : TI} (h : PI X tg e t) (h' : PI X tg e t') : PI X tg e (fun σ H R => t σ H R ∨ t' σ H R) := fun pins s σ H R I q => q.elim (h pins s σ H R I) (h' pins s σ H R I)
def rngD (lo : Int) (n : Nat) : List D := (List.range n).map fun (k : Nat) => D.int (lo + (k : Int))
def iR1 (ds : List D) : Option (List D) := match ds with | [.int j] => if Bnd (-(2 ^ 62)) (2 ^ 62) j then some (rngD 0 j.toNat) else none | _ => none
theorem di_range1 {tg : Expr} (hg : Gl X "range") (hm : X.mg "range" = none) (ha : DAx X G H0 [a] F) (hs : starEach [a] X.env = [(false, eval a X.env)] := by rfl) : DIx X G H0 tg (.Call (.Name "range" p') [a] [] pos) (fCallF iR1 F) :=
  (pi_range1 hg hm ha hs).imp fun σ H R ⟨W, env, ds, env', ok, q, k⟩ => by
    cases e1 : F env with
    | none => simp [fCallF, e1] at q
    | some z =>
      obtain ⟨as, env1⟩ := z
      cases e2 : iR1 as with
      | none => simp [fCallF, e1, e2] at q
      | some d' =>
        have q : some (d', env1) = some (ds, env') := by simpa [fCallF, e1, e2] using q
        cases q
        refine ⟨W, env, as, _, ok, e1, fun W1 vs H1 s1 ok1 p1 => ?_⟩
        unfold iR1 at e2
        split at e2
        · rename_i j
          split at e2
          · rename_i hj
            cases e2
            obtain ⟨v, rfl, r1⟩ := reps1 p1
            cases r1
            exact ⟨j, rfl, hj.1, hj.2, k W1 _ H1 s1 ok1 walk_rng⟩
          · cases e2
        · cases e2
def capt : Option Sl → Option Sl | some (.sh d) => some (.sh d) | _ => none
@[simp] def fYes : FT := fun e => some (true, e)
def NoW : Addr → Prop := fun _ => False
end
end L2
end
set_option Elab.async false
set_option linter.all false
set_option maxRecDepth 100000
set_option maxHeartbeats 4000000
noncomputable section
namespace L2
open PySem PySem.Spec PyProof.Rows
inductive Fl where
  | nx | bk | ct | rt (d : D) | rf (ds : List D) | r2 (dss : List (List D))
abbrev FS := DE0 → Option (Fl × DE0)
structure N2 (K : PySem.W.Frag) (G : Addr → Prop) (H0 H : Hp) (l : Addr) (ls : List Addr) (dss : List (List D)) : Prop where
  nd : (l :: ls).Nodup
  new : ∀ a ∈ l :: ls, H0 a = none
  top : H l = some (.lst (ls.map V.ref))
  len : ls.length = dss.length
  inn : ∀ (j : Nat) (ds : List D) (a : Addr), dss[j]? = some ds → ls[j]? = some a → ∃ vs, H a = some (.lst vs) ∧ Reps K H (fun b => G b ∧ b ∉ l :: ls) ds vs
def EndOk (K : PySem.W.Frag) (G : Addr → Prop) (H0 : Hp) (W : Addr → Prop) (H : Hp) (Dn : Ends) (env' : DE0) : Fl → Prop
  | .nx => ∀ W' σ' H', Step W H W' H' → Ok K G H0 W' env' σ' H' → Dn.nx σ' H'
  | .bk => ∀ W' σ' H', Step W H W' H' → Ok K G H0 W' env' σ' H' → Dn.bk σ' H'
  | .ct => ∀ W' σ' H', Step W H W' H' → Ok K G H0 W' env' σ' H' → Dn.ct σ' H'
  | .rt d => ∀ v H', Same H0 H' → Rep K H' G d v → Dn.rt v H'
  | .rf ds => ∀ l vs H', Same H0 H' → H0 l = none → H' l = some (.lst vs) → Reps K H' (fun a => G a ∧ a ≠ l) ds vs → Dn.rt (.ref l) H'
  | .r2 dss => ∀ l ls H', Same H0 H' → N2 K G H0 H' l ls dss → Dn.rt (.ref l) H'
def tDS (K : PySem.W.Frag) (G : Addr → Prop) (H0 : Hp) (g : FS) : TS := fun Dn σ H => ∃ W env fl env', Ok K G H0 W env σ H ∧ g env = some (fl, env') ∧ EndOk K G H0 W H Dn env' fl
def DSx (X : Cx) (G : Addr → Prop) (H0 : Hp) (s : Stmt) (g : FS) : Prop := PS X s (tDS X.K G H0 g)
def DBx (X : Cx) (G : Addr → Prop) (H0 : Hp) (s : List Stmt) (g : FS) : Prop := PSs X s (tDS X.K G H0 g)
theorem PS.imp {X : Cx} {e : Stmt} {t t' : TS} (h : PS X e t) (i : ∀ D σ H, t' D σ H → t D σ H) : PS X e t' := fun pins s σ H D I q => h pins s σ H D I (i D σ H q)
theorem PSs.imp {X : Cx} {e : List Stmt} {t t' : TS} (h : PSs X e t) (i : ∀ D σ H, t' D σ H → t D σ H) : PSs X e t' := fun pins s σ H D I q => h pins s σ H D I (i D σ H q)
section
variable {K : PySem.W.Frag} {G W W1 W' : Addr → Prop} {H0 H H1 H' : Hp} {Dn Dn' : Ends} {env env' : DE0} {σ : St} {fl : Fl}
theorem EndOk.step (st : Step W H W1 H1) (h : EndOk K G H0 W H Dn env' fl) : EndOk K G H0 W1 H1 Dn env' fl := by
  cases fl with
  | nx => exact fun W' σ' H' s o => h W' σ' H' (st.trans s) o
  | bk => exact fun W' σ' H' s o => h W' σ' H' (st.trans s) o
  | ct => exact fun W' σ' H' s o => h W' σ' H' (st.trans s) o
  | rt d => exact h
  | rf ds => exact h
  | r2 dss => exact h
theorem EndOk.other (h : EndOk K G H0 W H Dn env' fl) (hn : fl ≠ .nx) (hc : fl ≠ .ct) (hb : fl ≠ .bk) (e : Dn'.rt = Dn.rt) : EndOk K G H0 W H Dn' env' fl := by
  cases fl with
  | nx => exact absurd rfl hn
  | bk => exact absurd rfl hb
  | ct => exact absurd rfl hc
  | rt d => intro v H' s r; rw [e]; exact h v H' s r
  | rf ds => intro v vs H' s n l r; rw [e]; exact h v vs H' s n l r
  | r2 dss => intro v ls H' s n; rw [e]; exact h v ls H' s n
end
@[simp] def sNil : FS := fun e => some (.nx, e)
@[simp] def sSeq (g h : FS) : FS := fun e => (g e).bind fun r => match r.1 with | .nx => h r.2 | _ => some r
@[simp] def sSet (i : Nat) (f : FE) : FS := fun e => (f e).map fun r => (.nx, r.2.set i (some (.sh r.1)))
@[simp] def sOwn (i : Nat) (f : FA) : FS := fun e => (f e).map fun r => (.nx, r.2.set i (some (.ow r.1)))
@[simp] def sRet (f : FE) : FS := fun e => (f e).map fun r => (.rt r.1, r.2)
@[simp] def sRetF (f : FA) : FS := fun e => (f e).map fun r => (.rf r.1, r.2)
@[simp] def sRetN : FS := fun e => some (.rt .non, e)
@[simp] def sIf (c : FT) (g h : FS) : FS := fun e => (c e).bind fun r => if r.1 = true then g r.2 else h r.2
@[simp] def sDrop (f : FE) : FS := fun e => (f e).map fun r => (.nx, r.2)
@[simp] def sNever : FS := fun _ => none
def forL (i : Nat) (g : FS) : List D → DE0 → Option (Fl × DE0)
  | [], e => some (.nx, e)
  | d :: r, e => (g (e.set i (some (.sh d)))).bind fun q => match q.1 with | .nx => forL i g r q.2 | .ct => forL i g r q.2 | .bk => some (.nx, q.2) | .rt d => some (.rt d, q.2) | .rf ds => some (.rf ds, q.2) | .r2 ds => some (.r2 ds, q.2)
@[simp] def sFor (i : Nat) (fi : FI) (g : FS) : FS := fun e => (fi e).bind fun r => forL i g r.1 r.2
section
variable {X : Cx} {G : Addr → Prop} {H0 : Hp} {a b c e : Expr} {es rest : List Expr} {f g : FE} {F : FA} {p q : FT} {s : Stmt} {ss : List Stmt} {u v : FS} {pos p' p1 pos1 : Pos} {x : Str} {i : Nat}
theorem db_nil : DBx X G H0 [] sNil := pss_nil.imp fun Dn σ H ⟨W, env, fl, env', ok, q, k⟩ => by
  cases q
  exact k W σ H Step.refl ok
theorem db_cons (h1 : DSx X G H0 s u) (h2 : DBx X G H0 ss v) : DBx X G H0 (s :: ss) (sSeq u v) := (pss_cons h1 h2).imp fun Dn σ H ⟨W, env, fl, env', ok, q, k⟩ => by
  cases e1 : u env with
  | none => simp [sSeq, e1] at q
  | some r =>
    obtain ⟨fl1, env1⟩ := r
    refine ⟨W, env, fl1, env1, ok, e1, ?_⟩
    cases fl1 with
    | nx =>
      have q : v env1 = some (fl, env') := by simpa [sSeq, e1] using q
      exact fun W1 σ1 H1 s1 ok1 => ⟨W1, env1, fl, env', ok1, q, k.step s1⟩
    | bk => have q : some (Fl.bk, env1) = some (fl, env') := by simpa [sSeq, e1] using q
            cases q; exact k
    | ct => have q : some (Fl.ct, env1) = some (fl, env') := by simpa [sSeq, e1] using q
            cases q; exact k
    | rt d => have q : some (Fl.rt d, env1) = some (fl, env') := by simpa [sSeq, e1] using q
              cases q; exact k
    | rf d => have q : some (Fl.rf d, env1) = some (fl, env') := by simpa [sSeq, e1] using q
              cases q; exact k
    | r2 d => have q : some (Fl.r2 d, env1) = some (fl, env') := by simpa [sSeq, e1] using q
              cases q; exact k
theorem db_one (h : DSx X G H0 s u) : DBx X G H0 [s] u := pss_one h
theorem ds_set (hN : X.N.Nodup) (hi : X.N[i]? = some x := by rfl) (he : DEx X G H0 e f) (ps : PS X (.Assign [.Name x p'] e pos) (tAsg (tD X.K G H0 f) (gName i))) : DSx X G H0 (.Assign [.Name x p'] e pos) (sSet i f) := ps.imp fun Dn σ H ⟨W, env, fl, env', ok, q, k⟩ => by
  cases e1 : f env with
  | none => simp [sSet, e1] at q
  | some r =>
    have q : some (Fl.nx, r.2.set i (some (Sl.sh r.1))) = some (fl, env') := by simpa [sSet, e1] using q
    cases q
    exact ⟨W, env, _, _, ok, e1, fun W1 v1 H1 s1 ok1 p1 => k W1 _ H1 s1 (ok1.set p1)⟩
theorem ds_own (ps : PS X (.Assign [.Name x p'] e pos) (tAsg (tDF X.K G H0 F) (gName i))) : DSx X G H0 (.Assign [.Name x p'] e pos) (sOwn i F) := ps.imp fun Dn σ H ⟨W, env, fl, env', ok, q, k⟩ => by
  cases e1 : F env with
  | none => simp [sOwn, e1] at q
  | some r =>
    have q : some (Fl.nx, r.2.set i (some (Sl.ow r.1))) = some (fl, env') := by simpa [sOwn, e1] using q
    cases q
    exact ⟨W, env, _, _, ok, e1, fun W1 l vs H1 s1 ok1 ok2 nW hl rp => k (addW W1 l) _ H1 s1 (ok2.setO (.inr rfl) hl rp (ok1.noOwn nW))⟩
theorem ds_ret (he : DEx X G H0 e f) : DSx X G H0 (.Return (some e) pos) (sRet f) := (ps_ret he).imp fun Dn σ H ⟨W, env, fl, env', ok, q, k⟩ => by
  cases e1 : f env with
  | none => simp [sRet, e1] at q
  | some r =>
    have q : some (Fl.rt r.1, r.2) = some (fl, env') := by simpa [sRet, e1] using q
    cases q
    exact ⟨W, env, _, _, ok, e1, fun W1 v1 H1 s1 ok1 p1 => k v1 H1 ok1.stay (p1.mono (fun _ _ h => h) fun a us o h => ⟨o.1, h⟩)⟩
@[simp] def sRetO (i : Nat) : FS := fun e => match e[i]? with | some (some (.ow ds)) => some (.rf ds, e) | _ => none
theorem ds_if {aa bb : List Stmt} (hc : DTx X G H0 c p) (ha : DBx X G H0 aa u) (hb : DBx X G H0 bb v) : DSx X G H0 (.If c aa bb pos) (sIf p u v) := (ps_if hc ha hb).imp fun Dn σ H ⟨W, env, fl, env', ok, q, k⟩ => by
  cases e1 : p env with
  | none => simp [sIf, e1] at q
  | some r =>
    obtain ⟨t, env1⟩ := r
    refine ⟨W, env, t, env1, ok, e1, fun W1 H1 s1 ok1 => ?_⟩
    cases t with
    | true => rw [if_pos rfl]; exact ⟨W1, env1, fl, env', ok1, by simpa [sIf, e1] using q, k.step s1⟩
    | false => rw [if_neg Bool.false_ne_true]; exact ⟨W1, env1, fl, env', ok1, by simpa [sIf, e1] using q, k.step s1⟩
@[simp] def sBrk : FS := fun e => some (.bk, e)
@[simp] def sCnt : FS := fun e => some (.ct, e)
theorem ds_expr (he : DEx X G H0 e f) (hs : swapsWith e none pos.line X.env = pure false := by rfl) : DSx X G H0 (.Expr e pos) (sDrop f) := (ps_expr he hs).imp fun Dn σ H ⟨W, env, fl, env', ok, q, k⟩ => by
  cases e1 : f env with
  | none => simp [sDrop, e1] at q
  | some r =>
    have q : some (Fl.nx, r.2) = some (fl, env') := by simpa [sDrop, e1] using q
    cases q
    exact ⟨W, env, _, _, ok, e1, fun W1 v1 H1 s1 ok1 p1 => k W1 σ H1 s1 ok1⟩
theorem ds_for {tg : Str} {px : Pos} {body : List Stmt} {fi : FI} (hp : PassesOwn (model X.prog X.w) X.A X.env X.xe) (hc : X.calm = true) (hi : DIx X G H0 (.Name tg px) a fi) (hg : PG X (.Name tg px) (gName i)) (hb : DBx X G H0 body u)
    (hs : ∀ x, foldedSetIterable a X.env x = pure x := by intro _; rfl) : DSx X G H0 (.For (.Name tg px) a body [] pos) (sFor i fi u) := (ps_for hp hc hi hg hb hs).imp fun Dn σ H ⟨W, env, fl, env', ok, q, k⟩ => by
  cases e1 : fi env with
  | none => simp [sFor, e1] at q
  | some z =>
    obtain ⟨ds, env1⟩ := z
    have q : forL i u ds env1 = some (fl, env') := by simpa [sFor, e1] using q
    refine ⟨W, env, ds, env1, ok, e1, fun W1 J H1 s1 ok1 wk => ?_⟩
    refine ⟨fun n m σ' H' => ∃ W' env2, m = ds.length - n ∧ n ≤ ds.length ∧ Step W1 H1 W' H' ∧ Ok X.K G H0 W' env2 σ' H' ∧ forL i u (ds.drop n) env2 = some (fl, env'), ⟨ds.length, W1, env1, rfl, Nat.zero_le _, Step.refl, ok1, q⟩, ?_⟩
    rintro n m σ' H' ⟨W', env2, rfl, hn, st, ok', ef⟩
    by_cases hlt : n < ds.length
    · have eq : ds.drop n = ds[n] :: ds.drop (n + 1) := List.drop_eq_getElem_cons hlt
      rw [eq] at ef
      obtain ⟨hg, hy⟩ := wk.go W' H' n ds[n] st (by simp [hlt])
      unfold forL at ef
      cases e3 : u (env2.set i (some (.sh ds[n]))) with
      | none => rw [e3] at ef; cases ef
      | some r =>
        obtain ⟨fl3, env3⟩ := r
        rw [e3, Option.bind_some] at ef
        refine .inr ⟨hg, fun σ2 H2 => ∃ W2 env4, Step W1 H1 W2 H2 ∧ Ok X.K G H0 W2 env4 σ2 H2 ∧ forL i u (ds.drop (n + 1)) env4 = some (fl, env'), fun σ2 H2 ⟨W2, env4, s2, ok2, e4⟩ => ⟨ds.length - (n + 1), by omega, W2, env4, rfl, hlt, s2, ok2, e4⟩, fun x H'' y => ?_⟩
        obtain ⟨rfl, rx⟩ := hy x H'' y
        refine ⟨W', _, fl3, env3, ok'.set rx, e3, ?_⟩
        cases fl3 with
        | nx => exact fun W2 σ2 H2 s2 ok2 => ⟨W2, env3, st.trans s2, ok2, ef⟩
        | ct => exact fun W2 σ2 H2 s2 ok2 => ⟨W2, env3, st.trans s2, ok2, ef⟩
        | bk =>
          cases ef
          exact fun W2 σ2 H2 s2 ok2 => k W2 σ2 H2 ((s1.trans st).trans s2) ok2
        | rt d => cases ef; exact k
        | rf d => cases ef; exact k
        | r2 d => cases ef; exact k
    · have e : n = ds.length := by omega
      subst e
      rw [List.drop_length] at ef
      cases ef
      exact .inl ⟨wk.stop W' H' st, k W' σ' H' (s1.trans st) ok'⟩
end
end L2
end
set_option Elab.async false
set_option linter.all false
set_option maxRecDepth 100000
set_option maxHeartbeats 4000000
noncomputable section
namespace L2
open PySem PySem.Spec PyProof.Rows
section
variable {X : Cx} {G : Addr → Prop} {H0 : Hp} {a b c e : Expr} {f g : FE} {F : FA} {pos p' p1 pos1 : Pos} {x : Str} {i : Nat}
theorem lt20 {n : Nat} (h : n < 2 ^ 20) : n < sizeLine := Nat.lt_of_lt_of_le h (by rw [sizeLine_eq]; decide)
@[simp] def appSl (d : D) (e : DE0) (i : Nat) : Option (D × DE0) := match e[i]? with
  | some (some (.ow ds)) => if Few (ds.length + 1) then some (.non, e.set i (some (.ow (ds ++ [d])))) else none
  | _ => none
@[simp] def fAppend (i : Nat) (f : FE) : FE := fun e => match e[i]? with
  | some (some (.ow _)) => (f e).bind fun r => appSl r.1 r.2 i
  | _ => none
theorem de_append (i : Nat) (ha : DEx X G H0 a f) (hN : X.N[i]? = some x := by rfl) (hv : Vis X.env.scope x := by first | exact Or.inl rfl | exact Or.inr (Or.inl rfl) | exact Or.inr (Or.inr rfl)) (hd : (x == ("__debug__" : Str)) = false := by decide)
    (hcd : (x == ("__classdict__" : Str)) = false := by decide) (hbase : attributeBase (.Name x p') "append" X.env (eval (.Name x p') X.env) = eval (.Name x p') X.env := by rfl)
    (hfew : ((backTo pos (starEach [a] X.env)).all (fun x => !x.1) && (backToKw pos (keywordEach [] X.env)).all (fun x => x.1.isSome)
      && decide ([a].length + ([] : List Keyword).length + (if ([] : List Keyword).isEmpty then 0 else 1) < 30)) = true := by rfl)
    (hline : (p1.endLine == pos.line) = true := by rfl) (hs : starEach [a] X.env = (false, eval a X.env) :: starEach [] X.env := by rfl) :
    DEx X G H0 (.Call (.Attribute (.Name x p') "append" p1) [a] [] pos) (fAppend i f) := (pe_bm PySem.F.plainAttrs_list PySem.F.slot_list_append PySem.F.type_list_append mt_append (pe_var hN hv hd hcd) (pa_cons ha pa_nil hs) hbase hfew hline hs rfl).imp fun σ H Q ⟨W, env, d, env', ok, q, k⟩ => by
  unfold fAppend at q
  split at q
  case h_2 => cases q
  rename_i ds0 hq0
  obtain ⟨v, hv, l, vs0, rfl, hW0, hl0, _⟩ := ok.slot i _ hq0
  cases e1 : f env with
  | none => rw [e1] at q; cases q
  | some r =>
    obtain ⟨da, env1⟩ := r
    rw [e1, Option.bind_some] at q
    unfold appSl at q
    dsimp only at q
    split at q
    case h_2 => cases q
    rename_i ds hq
    split at q
    case isFalse => cases q
    rename_i hlen
    cases q
    refine ⟨_, hv, .inl ⟨rfl, _, .inl (.inl hl0)⟩, W, env, da, env1, ok, e1, fun W1 v1 H1 s1 ok1 r1 => ?_⟩
    obtain ⟨v', e2, l', vs, e3, hW, hl, r⟩ := ok1.slot i _ hq
    rw [hv] at e2; cases e2; cases e3
    obtain ⟨t1, t2⟩ := ok1.turn hq hv (r.append (.cons r1 .nil))
    exact ⟨l, vs, v1, rfl, rfl, hl, by rw [← r.length]; exact lt20 (Nat.lt_of_succ_le hlen), k W1 _ _ (s1.trans t2) t1 .non⟩
@[simp] def fPop (i : Nat) : FE := fun e => match e[i]? with
  | some (some (.ow ds)) => (ds[ds.length - 1]?).map fun d => (d, e.set i (some (.ow ds.dropLast)))
  | _ => none
@[simp] def setSl (d k : D) (e : DE0) (i : Nat) : Option (Fl × DE0) := match k, e[i]? with
  | .int k, some (some (.ow ds)) => (ixN ds.length k).map fun j => (.nx, e.set i (some (.ow (ds.set j d))))
  | _, _ => none
@[simp] def sSetIt (i : Nat) (fk fv : FE) : FS := fun e => (fv e).bind fun r => match r.2[i]? with
  | some (some (.ow _)) => (fk r.2).bind fun q => setSl r.1 q.1 q.2 i
  | _ => none
end
def dStart (n : Nat) (ds : List D) : DE0 := ds.map (fun d => some (Sl.sh d)) ++ List.replicate (n - ds.length) none
def runD (n ar : Nat) (g : FS) : List D → Option D := fun ds => if ds.length = ar then (match g (dStart n ds) with | some (.rt d, _) => some d | some (.nx, _) => some .non | _ => none) else none
section
variable {P : Program} {w : World} {K : PySem.W.Frag} {mg : Str → Option Value} {base : Heap}
theorem start_slot : ∀ {n : Nat} {ds : List D} {i : Nat} {s : Sl}, (dStart n ds)[i]? = some (some s) → ∃ d, ds[i]? = some d ∧ s = .sh d := fun {n ds i s} h => by
  unfold dStart at h
  by_cases hi : i < ds.length
  · rw [List.getElem?_append_left (by simpa using hi), List.getElem?_map] at h
    cases e : ds[i]? with
    | none => rw [e] at h; cases h
    | some d => rw [e] at h; cases h; exact ⟨d, rfl, rfl⟩
  · rw [List.getElem?_append_right (by simpa using hi), List.getElem?_replicate] at h
    split at h <;> cases h
theorem start_ok {H : Hp} {O : Addr → Prop} {ds : List D} {vs : List V} {N : List Str} (r : Reps K H O ds vs) : Ok K (fun a => O a ∨ H a = none) H NoW (dStart N.length ds) (start N vs) H := by
  refine ⟨Same.refl _, fun a z => .inr z, fun l z => z.elim, fun i s e => ?_, fun i j s1 s2 v1 v2 a e1 _ _ _ o _ => ?_, ?_⟩
  · obtain ⟨d, e1, rfl⟩ := start_slot e
    obtain ⟨v, e2, r1⟩ := r.get e1
    refine ⟨v, ?_, r1.mono (fun _ _ h => h) fun a us o h => ⟨⟨.inl o, fun z => z⟩, h⟩⟩
    unfold start
    rw [List.getElem?_append_left (by simpa using (List.getElem?_eq_some_iff.mp e2).1), List.getElem?_map, e2]
    rfl
  · obtain ⟨d, _, z⟩ := start_slot e1
    subst z
    exact o.elim
  · unfold dStart start
    rw [List.length_append, List.length_append, List.length_map, List.length_map, List.length_replicate, List.length_replicate, r.length]
theorem fn_D {x qual : Str} {st : Stmt} {f : Addr} {fd : FuncData} {N ps : List Str} {k : Nat} {g : FS} {n ar : Nat} (F : Fun K x qual st f fd) (S : FnScope N ps (defScope st)) (hn : n = N.length) (ha : ar = ps.length)
    (hbody : ∀ (cdv : Value) (A : Around) (outer : List Env) (s : Shared) (H : Hp) (E : XK) (G : Addr → Prop) (H0 : Hp), Room k (A.deeper (envOfC qual (defScope st) s.heap.objs.size f cdv)) →
      DBx (cxOf CX0 P w K mg base N qual (defScope st) f cdv A outer s H E).nox G H0 (defBody st) g) : FnOk P w K mg base CX0 (k + 1) f fd ps (dSp K (runD n ar g)) := by
  subst hn ha
  refine F.ok S (fun vs H Q E h => ?_) (fun cdv A outer s H vs Q E hr h => ?_)
  · obtain ⟨O, ds, d, r, e, _⟩ := h
    rw [← r.length]
    unfold runD at e
    split at e
    · assumption
    · cases e
  · obtain ⟨O, ds, d, r, e, k⟩ := h
    refine ⟨_, hbody cdv A outer s H E (fun a => O a ∨ H a = none) H hr, ?_⟩
    unfold runD at e
    split at e
    case isFalse => cases e
    split at e
    · rename_i d' env' hg
      cases e
      exact ⟨NoW, _, _, env', start_ok r, hg, fun v H' sm rp => k v H' sm rp⟩
    · rename_i env' hg
      cases e
      exact ⟨NoW, _, _, env', start_ok r, hg, fun W' σ' H' st ok' => k .non H' ok'.stay .non⟩
    · cases e
def spTrue (K : PySem.W.Frag) : Sp := fun vs H Q _ => ∃ (a : Addr) (ns : List Int), vs = [.ref a] ∧ SqL K H a (ns.map V.int) ∧ ns.length ≤ 63 ∧ ∀ H', Q (.bl true) H'
theorem law_D {k : Nat} {f : Addr} {fd : FuncData} {ps : List Str} {m : List D → Option D} (F : FnOk P w K mg base CX0 k f fd ps (dSp K m)) (h : ∀ ns : List Int, ns.length ≤ 63 → m [.lst (ns.map D.int)] = some (.bl true)) :
    FnOk P w K mg base CX0 k f fd ps (spTrue K) := F.imp fun vs H Q E ⟨a, ns, e, hr, hl, q⟩ => by
  subst e
  exact ⟨fun _ => True, [.lst (ns.map D.int)], .bl true, .cons (hr.elim (fun z => .lst trivial z (reps_of_ints ns)) fun z => .klst z (reps_of_ints ns)) .nil, h ns hl, fun v H' _ r => by rw [r.bl_]; exact q H'⟩
end
end L2
end
set_option Elab.async false
set_option linter.all false
set_option maxRecDepth 100000
set_option maxHeartbeats 4000000
noncomputable section
namespace L2
open PySem PySem.Spec PyProof.Rows
section
variable {X : Cx} {G : Addr → Prop} {H0 : Hp} {a b c e : Expr} {f g : FE} {F : FA} {pos p' p1 pos1 : Pos} {x : Str} {i : Nat}
theorem ds_setE (hN : X.N.Nodup) (hi : X.N[i]? = some x) (hx : Loc X.env.scope x) (he : DEx X G H0 e f) (hs : swapsWith e (some (.Name x p')) pos.line X.env = pure false := by rfl)
    (hf : X.fn x = true ∨ X.env.scope.names.lookup x = some .local := by first | exact .inl rfl | exact .inr rfl | assumption) : DSx X G H0 (.Assign [.Name x p'] e pos) (sSet i f) := ds_set hN hi he (ps_set hN hi hx he hs hf)
end
end L2
end
set_option Elab.async false
set_option linter.all false
set_option maxRecDepth 100000
set_option maxHeartbeats 4000000
noncomputable section
namespace L2
open PySem PySem.Spec PyProof.Rows
section
variable {X : Cx} {G : Addr → Prop} {H0 : Hp} {a b c e : Expr} {f g : FE} {F : FA} {pos p' p1 p2 pos1 : Pos} {x : Str} {i : Nat}
abbrev FA2 := DE0 → Option (List (List D) × DE0)
def tDF2 (K : PySem.W.Frag) (G : Addr → Prop) (H0 : Hp) (f : FA2) : TE := fun σ H Q => ∃ W env dss env', Ok K G H0 W env σ H ∧ f env = some (dss, env') ∧
  ∀ W' l H', Step W H W' H' → Ok K G H0 W' env' σ H' → SlOk K G W' H' (.o2 dss) (.ref l) →
    (∀ (j : Nat) (s : Sl) (v : V) (a : Addr), env'[j]? = some (some s) → σ[j]? = some (some v) → Owns H' (.o2 dss) (.ref l) a → ¬ Owns H' s v a) → Q (.ref l) H'
def DF2x (X : Cx) (G : Addr → Prop) (H0 : Hp) (e : Expr) (f : FA2) : Prop := PE X e (tDF2 X.K G H0 f)
@[simp] def sOwn2 (i : Nat) (f : FA2) : FS := fun e => (f e).map fun r => (.nx, r.2.set i (some (.o2 r.1)))
end
end L2
end
set_option Elab.async false
set_option linter.all false
set_option maxRecDepth 100000
set_option maxHeartbeats 4000000
noncomputable section
namespace L2
open PySem PySem.Spec PyProof.Rows
section
variable {X : Cx} {G : Addr → Prop} {H0 : Hp} {a b c e : Expr} {f g : FE} {F : FA} {pos p' p1 p2 pos1 : Pos} {x : Str} {i : Nat}
@[simp] def app2 (k d : D) (e : DE0) (i : Nat) : Option (D × DE0) := match k, e[i]? with
  | .int k, some (some (.o2 dss)) => (ixN dss.length k).bind fun j => (dss[j]?).bind fun ds => if Few (ds.length + 1) then some (.non, e.set i (some (.o2 (dss.set j (ds ++ [d]))))) else none
  | _, _ => none
@[simp] def fAppend2 (i : Nat) (g f : FE) : FE := fun e => match e[i]? with
  | some (some (.o2 _)) => (g e).bind fun r => (f (r.2.map capt)).bind fun q => app2 r.1 q.1 r.2 i
  | _ => none
@[simp] def pop2 (k m : D) (e : DE0) (i : Nat) : Option (D × DE0) := match k, m, e[i]? with
  | .int k, .int m, some (some (.o2 dss)) => (ixN dss.length k).bind fun j => (dss[j]?).bind fun ds => if Few ds.length then (ixN ds.length m).bind fun n => (ds[n]?).map fun d => (d, e.set i (some (.o2 (dss.set j (ds.eraseIdx n))))) else none
  | _, _, _ => none
@[simp] def fPopAt2 (i : Nat) (g f : FE) : FE := fun e => match e[i]? with
  | some (some (.o2 _)) => (g e).bind fun r => (f (r.2.map capt)).bind fun q => pop2 r.1 q.1 r.2 i
  | _ => none
end
end L2
end
set_option Elab.async false
set_option linter.all false
set_option maxRecDepth 100000
set_option maxHeartbeats 4000000
noncomputable section
namespace L2
open PySem PySem.Spec PyProof.Rows
section
variable {X : Cx} {x y : Str} {N' : List Str} {ix : List Nat} {sc : Scope} {cl : List (Str × Addr)} {C : Addr} {s : Shared} {H : Hp} {fp : List Addr}
def AllK (X : Cx) : List Str → Prop
  | [] => True
  | u :: r => (X.env.kindOf u = some .cell ∨ X.env.kindOf u = some .free) ∧ AllK X r
theorem AllK.mem : ∀ {l : List Str}, AllK X l → ∀ u ∈ l, X.env.kindOf u = some .cell ∨ X.env.kindOf u = some .free
  | [], _, _, h => nomatch h
  | _ :: _, h, u, hu => by
    rcases List.mem_cons.mp hu with rfl | hu
    · exact h.1
    · exact AllK.mem h.2 u hu
end
theorem nn_int : ("int" : Str) ≠ "__name__" := by decide +kernel
theorem nn_bool : ("bool" : Str) ≠ "__name__" := by decide +kernel
theorem nd_int : (("int" : Str) == ("__debug__" : Str)) = false := by decide +kernel
theorem nd_bool : (("bool" : Str) == ("__debug__" : Str)) = false := by decide +kernel
theorem bt_int : bootBuiltins "int" = some (.type "int") := by decide +kernel
theorem bt_bool : bootBuiltins "bool" = some (.type "bool") := by decide +kernel
theorem ik_int : isKind "int" = true := by decide +kernel
theorem ik_bool : isKind "bool" = true := by decide +kernel
end L2
end
set_option Elab.async false
set_option linter.all false
set_option maxRecDepth 100000
set_option maxHeartbeats 4000000
noncomputable section
namespace L2
open PySem PySem.Spec PyProof.Rows
section
variable {X : Cx} {G : Addr → Prop} {H0 : Hp} {a b c e : Expr} {f g : FE} {F : FA} {pos p' p1 pos1 : Pos} {x : Str} {i : Nat}
theorem Vals.ins {xs : List V} {its : List Value} {y : V} {u : Value} (r : Vals xs its) (ru : Vals [y] [u]) (k : Nat) : Vals (xs.take k ++ y :: xs.drop k) (its.take k ++ u :: its.drop k) := by
  have := (r.take k).append (ru.append (r.drop k))
  simpa using this
end
end L2
end
set_option Elab.async false
set_option linter.all false
set_option maxRecDepth 100000
set_option maxHeartbeats 4000000
noncomputable section
namespace L2
open PySem PySem.Spec PyProof.Rows
def setAll : List Nat → List D → DE0 → DE0
  | i :: ix, d :: ds, e => setAll ix ds (e.set i (some (.sh d)))
  | _, _, e => e
def unp (ix : List Nat) (d : D) (e : DE0) : Option DE0 := match d with
  | .tup ds => if ds.length = ix.length then some (setAll ix ds e) else none
  | _ => none
def forU (ix : List Nat) (g : FS) : List D → DE0 → Option (Fl × DE0)
  | [], e => some (.nx, e)
  | d :: r, e => (unp ix d e).bind fun e1 => (g e1).bind fun q => match q.1 with | .nx => forU ix g r q.2 | .ct => forU ix g r q.2 | .bk => some (.nx, q.2) | .rt d => some (.rt d, q.2) | .rf ds => some (.rf ds, q.2) | .r2 ds => some (.r2 ds, q.2)
@[simp] def sForU (ix : List Nat) (fi : FI) (g : FS) : FS := fun e => (fi e).bind fun r => forU ix g r.1 r.2
section
variable {X : Cx} {G : Addr → Prop} {H0 : Hp} {a b c e : Expr} {f g : FE} {F : FA} {u : FS} {pos p' p1 pos1 : Pos} {x : Str} {i : Nat} {ix : List Nat} {es : List Expr}
end
end L2
end
set_option Elab.async false
set_option linter.all false
set_option maxRecDepth 100000
set_option maxHeartbeats 4000000
noncomputable section
namespace L2
open PySem PySem.Spec PyProof.Rows
section
variable {X : Cx} {G : Addr → Prop} {H0 : Hp} {a b c e : Expr} {f g : FE} {F : FA} {u : FS} {pos p' p1 pos1 : Pos} {x : Str} {i : Nat}
theorem Reps.rep {K : PySem.W.Frag} {H : Hp} {O : Addr → Prop} {ds : List D} {vs : List V} (r : Reps K H O ds vs) : ∀ k : Nat, Reps K H O (List.replicate k ds).flatten (List.replicate k vs).flatten
  | 0 => .nil
  | k + 1 => by
    rw [List.replicate_succ, List.flatten_cons, List.replicate_succ, List.flatten_cons]
    exact r.append (Reps.rep r k)
end
end L2
end
set_option Elab.async false
set_option linter.all false
set_option maxRecDepth 100000
set_option maxHeartbeats 4000000
noncomputable section
namespace L2
open PySem PySem.Spec PyProof.Rows
section
variable {X : Cx} {G : Addr → Prop} {H0 : Hp} {a b c e : Expr} {es : List Expr} {f g : FE} {F : FA} {f2 : FA2} {u : FS} {pos p' p1 pos1 : Pos} {x : Str} {i : Nat}
variable {CX : CXT} {k : Nat} {fa : Addr} {fd : FuncData} {ps : List Str} {mF2 : List D → Option (List (List D))} {E : XK}
end
section
variable {P : Program} {w : World} {K : PySem.W.Frag} {mg : Str → Option Value} {base : Heap}
end
end L2
end
set_option Elab.async false
set_option linter.all false
set_option maxRecDepth 100000
set_option maxHeartbeats 4000000
noncomputable section
namespace L2
open PySem PySem.Spec PyProof.Rows
structure JE (X : Cx) (G : Addr → Prop) (H0 : Hp) (e : Expr) (f : FE) : Prop where
  out : DEx X G H0 e f
structure JT (X : Cx) (G : Addr → Prop) (H0 : Hp) (e : Expr) (f : FT) : Prop where
  out : DTx X G H0 e f
structure JA (X : Cx) (G : Addr → Prop) (H0 : Hp) (e : List Expr) (f : FA) : Prop where
  out : DAx X G H0 e f
structure JF (X : Cx) (G : Addr → Prop) (H0 : Hp) (e : Expr) (f : FA) : Prop where
  out : DFx X G H0 e f
structure JW (X : Cx) (G : Addr → Prop) (H0 : Hp) (e : Expr) (f : FT) : Prop where
  out : DWx X G H0 e f
structure JO (X : Cx) (G : Addr → Prop) (H0 : Hp) (e : Option Expr) (f : FO) : Prop where
  out : DOx X G H0 e f
structure JS (X : Cx) (G : Addr → Prop) (H0 : Hp) (e : Stmt) (f : FS) : Prop where
  out : DSx X G H0 e f
structure JB (X : Cx) (G : Addr → Prop) (H0 : Hp) (e : List Stmt) (f : FS) : Prop where
  out : DBx X G H0 e f
structure JF2 (X : Cx) (G : Addr → Prop) (H0 : Hp) (e : Expr) (f : FA2) : Prop where
  out : DF2x X G H0 e f
structure JI (X : Cx) (G : Addr → Prop) (H0 : Hp) (tg e : Expr) (f : FI) : Prop where
  out : DIx X G H0 tg e f
structure JP (X : Cx) (s : Stmt) (t : TS) : Prop where
  out : PS X s t
structure JG (X : Cx) (e : Expr) (t : TG) : Prop where
  out : PG X e t
section
variable {X : Cx} {G : Addr → Prop} {H0 : Hp} {a b c e : Expr} {es rest : List Expr} {f g : FE} {F : FA} {f2 : FA2} {mF2 : List D → Option (List (List D))} {p q : FT} {s : Stmt} {ss : List Stmt} {u v : FS} {pos p' p1 p2 pos1 : Pos} {x : Str} {i : Nat} {CX : CXT} {k : Nat} {fa : Addr} {fd : FuncData} {ps : List Str} {m : List D → Option D} {mF : List D → Option (List D)} {E : XK}
theorem jde_var (i : Nat) {x : Str} (hN : X.N[i]? = some x := by rfl) (hv : Vis X.env.scope x := by first | exact Or.inl rfl | exact Or.inr (Or.inl rfl) | exact Or.inr (Or.inr rfl)) (hd : (x == ("__debug__" : Str)) = false := by decide) (hcd : (x == ("__classdict__" : Str)) = false := by decide) : JE X G H0 (.Name x pos) (fVar i) := ⟨de_var (i := i) (hN := hN) (hv := hv) (hd := hd) (hcd := hcd)⟩
theorem jde_int {i : Int} {j : Nat} : JE X G H0 (.Constant (.int i) j pos) (fC (.int i)) := ⟨de_int ⟩
theorem jde_bl {i : Bool} {j : Nat} : JE X G H0 (.Constant (.bool i) j pos) (fC (.bl i)) := ⟨de_bl ⟩
theorem jde_add (ha : JE X G H0 a f) (hb : JE X G H0 b g) : JE X G H0 (.BinOp a .Add b pos) (fBin dAddI f g) := ⟨de_add (ha := ha.out) (hb := hb.out)⟩
theorem jde_sub (ha : JE X G H0 a f) (hb : JE X G H0 b g) : JE X G H0 (.BinOp a .Sub b pos) (fBin dSub f g) := ⟨de_sub (ha := ha.out) (hb := hb.out)⟩
theorem jde_mul (ha : JE X G H0 a f) (hb : JE X G H0 b g) : JE X G H0 (.BinOp a .Mult b pos) (fBin dMul f g) := ⟨de_mul (ha := ha.out) (hb := hb.out)⟩
theorem jde_mod (ha : JE X G H0 a f) (hb : JE X G H0 b g) : JE X G H0 (.BinOp a .Mod b pos) (fBin dMod f g) := ⟨de_mod (ha := ha.out) (hb := hb.out)⟩
theorem jde_div (ha : JE X G H0 a f) (hb : JE X G H0 b g) : JE X G H0 (.BinOp a .FloorDiv b pos) (fBin dDiv f g) := ⟨de_div (ha := ha.out) (hb := hb.out)⟩
theorem jde_lt (ha : JE X G H0 a f) (hb : JE X G H0 b g) : JE X G H0 (.Compare a [.Lt] [b] pos) (fBin dLt f g) := ⟨de_lt (ha := ha.out) (hb := hb.out)⟩
theorem jde_gt (ha : JE X G H0 a f) (hb : JE X G H0 b g) : JE X G H0 (.Compare a [.Gt] [b] pos) (fBin dGt f g) := ⟨de_gt (ha := ha.out) (hb := hb.out)⟩
theorem jde_eq (ha : JE X G H0 a f) (hb : JE X G H0 b g) : JE X G H0 (.Compare a [.Eq] [b] pos) (fBin dEq f g) := ⟨de_eq (ha := ha.out) (hb := hb.out)⟩
theorem jdt_lt (ha : JE X G H0 a f) (hb : JE X G H0 b g) : JT X G H0 (.Compare a [.Lt] [b] pos) (fTst (fBin dLt f g)) := ⟨dt_lt (ha := ha.out) (hb := hb.out)⟩
theorem jdt_gt (ha : JE X G H0 a f) (hb : JE X G H0 b g) : JT X G H0 (.Compare a [.Gt] [b] pos) (fTst (fBin dGt f g)) := ⟨dt_gt (ha := ha.out) (hb := hb.out)⟩
theorem jdt_eq (ha : JE X G H0 a f) (hb : JE X G H0 b g) : JT X G H0 (.Compare a [.Eq] [b] pos) (fTst (fBin dEq f g)) := ⟨dt_eq (ha := ha.out) (hb := hb.out)⟩
theorem jde_neg (ha : JE X G H0 a f) : JE X G H0 (.UnaryOp .USub a pos) (fUn dNeg f) := ⟨de_neg (ha := ha.out)⟩
theorem jdt_w (h : JW X G H0 e p) : JT X G H0 e p := ⟨dt_w (h := h.out)⟩
theorem jdw_or1 (h : JT X G H0 a p) : JW X G H0 (.BoolOp .Or [a] pos) p := ⟨dw_or1 (h := h.out)⟩
theorem jdw_or (h : JT X G H0 a p) (h2 : JW X G H0 (.BoolOp .Or (b :: rest) pos) q) : JW X G H0 (.BoolOp .Or (a :: b :: rest) pos) (fOr p q) := ⟨dw_or (h := h.out) (h2 := h2.out)⟩
theorem jdt_not (h : JT X G H0 a p) : JT X G H0 (.UnaryOp .Not a pos) (fNot p) := ⟨dt_not (h := h.out)⟩
theorem jdt_val (h : JE X G H0 a f) (he : ∀ whole, isTrue a X.env whole = (do let v ← whole; standAt a.pos; holding [v] (truthy v)) := by intro _; rfl) : JT X G H0 a (fTst f) := ⟨dt_val (h := h.out) (he := he)⟩
theorem jde_one {op : BoolOp} (h : JE X G H0 a f) : JE X G H0 (.BoolOp op [a] pos) f := ⟨de_one (h := h.out)⟩
theorem jde_and (h : JE X G H0 a f) (h2 : JE X G H0 (.BoolOp .And (b :: rest) pos) g) : JE X G H0 (.BoolOp .And (a :: b :: rest) pos) (fAndV f g) := ⟨de_and (h := h.out) (h2 := h2.out)⟩
theorem jde_not (h : JE X G H0 a f) : JE X G H0 (.UnaryOp .Not a pos) (fNotV f) := ⟨de_not (h := h.out)⟩
theorem jda_nil  : JA X G H0 [] fNil := ⟨da_nil ⟩
theorem jda_cons (ha : JE X G H0 e f) (hr : JA X G H0 es F) (hs : starEach (e :: es) X.env = (false, eval e X.env) :: starEach es X.env := by rfl) : JA X G H0 (e :: es) (fCons f F) := ⟨da_cons (ha := ha.out) (hr := hr.out) (hs := hs)⟩
theorem jde_tup {k1} (h : JA X G H0 es F) : JE X G H0 (.Tuple es k1 pos) (fTup F) := ⟨de_tup (h := h.out)⟩
theorem jdf_lst (h : JA X G H0 es F) : JF X G H0 (.List es pos) (fDisp F) := ⟨df_lst (h := h.out)⟩
theorem jde_call (Fn : FnOk X.prog X.w X.K X.mg X.base CX k fa fd ps (dSp X.K m)) (hr : Room k X.A) (hg : Gl X x) (hm : X.mg x = some (.ref fa)) (hk : PySem.W.keepIn X.K (.ref fa) = true) (hb : Binds X.K fd ps []) (hx : Passes CX X E) (ha : JA X G H0 (e :: es) F) (hdb : (x == ("__debug__" : Str)) = false := by decide) (he : starEach (e :: es) X.env = (false, eval e X.env) :: starEach es X.env := by rfl) (hpl : (backTo pos (starEach es X.env)).any (·.1) = false := by rfl) : JE X G H0 (.Call (.Name x p') (e :: es) [] pos) (fCall m F) := ⟨de_call (Fn := Fn) (hr := hr) (hg := hg) (hm := hm) (hk := hk) (hb := hb) (hx := hx) (ha := ha.out) (hdb := hdb) (he := he) (hpl := hpl)⟩
theorem jde_intc (hg : Gl X "int") (hm : X.mg "int" = none) (ha : JA X G H0 [e] F) (he : starEach [e] X.env = (false, eval e X.env) :: starEach [] X.env := by rfl) : JE X G H0 (.Call (.Name "int" p') [e] [] pos) (fCall bInt F) := ⟨de_intc (hg := hg) (hm := hm) (ha := ha.out) (he := he)⟩
theorem jde_max (hc : X.calm = true) (hg : Gl X "max") (hm : X.mg "max" = none) (ha : JA X G H0 [a, b] F) (he : starEach [a, b] X.env = (false, eval a X.env) :: starEach [b] X.env := by rfl) (hpl : (backTo pos (starEach [b] X.env)).any (·.1) = false := by rfl) : JE X G H0 (.Call (.Name "max" p') [a, b] [] pos) (fCall bMax F) := ⟨de_max (hc := hc) (hg := hg) (hm := hm) (ha := ha.out) (he := he) (hpl := hpl)⟩
theorem jde_lenV (i : Nat) (hg : Gl X "len") (hm : X.mg "len" = none) (hN : X.N[i]? = some x := by rfl) (hv : Vis X.env.scope x := by first | exact Or.inl rfl | exact Or.inr (Or.inl rfl) | exact Or.inr (Or.inr rfl)) (hd : (x == ("__debug__" : Str)) = false := by decide) (hcd : (x == ("__classdict__" : Str)) = false := by decide) (he : starEach [.Name x p1] X.env = (false, eval (.Name x p1) X.env) :: starEach [] X.env := by rfl) : JE X G H0 (.Call (.Name "len" p') [.Name x p1] [] pos) (fLenV i) := ⟨de_lenV (i := i) (hg := hg) (hm := hm) (hN := hN) (hv := hv) (hd := hd) (hcd := hcd) (he := he)⟩
theorem jde_ixV (i : Nat) (hb : JE X G H0 b g) (hs : PlainIx b := by intro _ _; rfl) (hN : X.N[i]? = some x := by rfl) (hv : Vis X.env.scope x := by first | exact Or.inl rfl | exact Or.inr (Or.inl rfl) | exact Or.inr (Or.inr rfl)) (hd : (x == ("__debug__" : Str)) = false := by decide) (hcd : (x == ("__classdict__" : Str)) = false := by decide) : JE X G H0 (.Subscript (.Name x p1) b pos) (fIxV i g) := ⟨de_ixV (i := i) (hb := hb.out) (hs := hs) (hN := hN) (hv := hv) (hd := hd) (hcd := hcd)⟩
theorem jde_isi {T : String} (hg : Gl X "isinstance") (hm : X.mg "isinstance" = none) (hgT : Gl X x) (hmT : X.mg x = none) (hbT : bootBuiltins x = some (.type T)) (hT : isKind T = true) (ha : JE X G H0 a f) (hdx : (x == ("__debug__" : Str)) = false := by decide) (hnx : x ≠ "__name__" := by decide) (he : starEach [a, .Name x p1] X.env = (false, eval a X.env) :: starEach [.Name x p1] X.env := by rfl) (he2 : starEach [.Name x p1] X.env = (false, eval (.Name x p1) X.env) :: starEach [] X.env := by rfl) (hpl : (backTo pos (starEach [.Name x p1] X.env)).any (·.1) = false := by rfl) : JE X G H0 (.Call (.Name "isinstance" p') [a, .Name x p1] [] pos) (fIsi T f) := ⟨de_isi (hg := hg) (hm := hm) (hgT := hgT) (hmT := hmT) (hbT := hbT) (hT := hT) (ha := ha.out) (hdx := hdx) (hnx := hnx) (he := he) (he2 := he2) (hpl := hpl)⟩
theorem jdi_range1 {tg : Expr} (hg : Gl X "range") (hm : X.mg "range" = none) (ha : JA X G H0 [a] F) (hs : starEach [a] X.env = [(false, eval a X.env)] := by rfl) : JI X G H0 tg (.Call (.Name "range" p') [a] [] pos) (fCallF iR1 F) := ⟨di_range1 (hg := hg) (hm := hm) (ha := ha.out) (hs := hs)⟩
theorem jdb_nil  : JB X G H0 [] sNil := ⟨db_nil ⟩
theorem jdb_cons (h1 : JS X G H0 s u) (h2 : JB X G H0 ss v) : JB X G H0 (s :: ss) (sSeq u v) := ⟨db_cons (h1 := h1.out) (h2 := h2.out)⟩
theorem jdb_one (h : JS X G H0 s u) : JB X G H0 [s] u := ⟨db_one (h := h.out)⟩
theorem jds_own (ps : JP X (.Assign [.Name x p'] e pos) (tAsg (tDF X.K G H0 F) (gName i))) : JS X G H0 (.Assign [.Name x p'] e pos) (sOwn i F) := ⟨ds_own (ps := ps.out)⟩
theorem jds_setE (hN : X.N.Nodup) (hi : X.N[i]? = some x) (hx : Loc X.env.scope x) (he : JE X G H0 e f) (hs : swapsWith e (some (.Name x p')) pos.line X.env = pure false := by rfl) (hf : X.fn x = true ∨ X.env.scope.names.lookup x = some .local := by first | exact .inl rfl | exact .inr rfl | assumption) : JS X G H0 (.Assign [.Name x p'] e pos) (sSet i f) := ⟨ds_setE (hN := hN) (hi := hi) (hx := hx) (he := he.out) (hs := hs) (hf := hf)⟩
theorem jds_ret (he : JE X G H0 e f) : JS X G H0 (.Return (some e) pos) (sRet f) := ⟨ds_ret (he := he.out)⟩
theorem jds_if {aa bb : List Stmt} (hc : JT X G H0 c p) (ha : JB X G H0 aa u) (hb : JB X G H0 bb v) : JS X G H0 (.If c aa bb pos) (sIf p u v) := ⟨ds_if (hc := hc.out) (ha := ha.out) (hb := hb.out)⟩
theorem jds_expr (he : JE X G H0 e f) (hs : swapsWith e none pos.line X.env = pure false := by rfl) : JS X G H0 (.Expr e pos) (sDrop f) := ⟨ds_expr (he := he.out) (hs := hs)⟩
theorem jds_for {tg : Str} {px : Pos} {body : List Stmt} {fi : FI} (hp : PassesOwn (model X.prog X.w) X.A X.env X.xe) (hc : X.calm = true) (hi : JI X G H0 (.Name tg px) a fi) (hg : JG X (.Name tg px) (gName i)) (hb : JB X G H0 body u) (hs : ∀ x, foldedSetIterable a X.env x = pure x := by intro _; rfl) : JS X G H0 (.For (.Name tg px) a body [] pos) (sFor i fi u) := ⟨ds_for (hp := hp) (hc := hc) (hi := hi.out) (hg := hg.out) (hb := hb.out) (hs := hs)⟩
theorem jde_append (i : Nat) (ha : JE X G H0 a f) (hN : X.N[i]? = some x := by rfl) (hv : Vis X.env.scope x := by first | exact Or.inl rfl | exact Or.inr (Or.inl rfl) | exact Or.inr (Or.inr rfl)) (hd : (x == ("__debug__" : Str)) = false := by decide) (hcd : (x == ("__classdict__" : Str)) = false := by decide) (hbase : attributeBase (.Name x p') "append" X.env (eval (.Name x p') X.env) = eval (.Name x p') X.env := by rfl) (hfew : ((backTo pos (starEach [a] X.env)).all (fun x => !x.1) && (backToKw pos (keywordEach [] X.env)).all (fun x => x.1.isSome)
      && decide ([a].length + ([] : List Keyword).length + (if ([] : List Keyword).isEmpty then 0 else 1) < 30)) = true := by rfl) (hline : (p1.endLine == pos.line) = true := by rfl) (hs : starEach [a] X.env = (false, eval a X.env) :: starEach [] X.env := by rfl) : JE X G H0 (.Call (.Attribute (.Name x p') "append" p1) [a] [] pos) (fAppend i f) := ⟨de_append (i := i) (ha := ha.out) (hN := hN) (hv := hv) (hd := hd) (hcd := hcd) (hbase := hbase) (hfew := hfew) (hline := hline) (hs := hs)⟩
theorem jps_set {y : Str} (hN : X.N.Nodup) (hi : X.N[i]? = some y) (hx : Loc X.env.scope y) (he : JF X G H0 e F) (hs : swapsWith e (some (.Name y p')) pos.line X.env = pure false := by rfl) (hf : X.fn y = true ∨ X.env.scope.names.lookup y = some .local := by first | exact .inl rfl | exact .inr rfl | assumption) :
    JP X (.Assign [.Name y p'] e pos) (tAsg (tDF X.K G H0 F) (gName i)) := ⟨ps_set hN hi hx he.out hs hf⟩
structure JN (X : Cx) (es : List Expr) (t : TGs) : Prop where
  out : PGs X es t
theorem jpg_name {y : Str} (hN : X.N.Nodup) (hi : X.N[i]? = some y) (hx : Loc X.env.scope y) (hf : X.fn y = true ∨ X.env.scope.names.lookup y = some .local := by first | exact .inl rfl | exact .inr rfl | assumption) : JG X (.Name y pos) (gName i) := ⟨pg_name hN hi hx hf⟩
end
section
variable {P : Program} {w : World} {K : PySem.W.Frag} {mg : Str → Option Value} {base : Heap}
theorem jfn_D {x qual : Str} {st : Stmt} {f : Addr} {fd : FuncData} {N ps : List Str} {k : Nat} {g : FS} {n ar : Nat} (F : Fun K x qual st f fd) (S : FnScope N ps (defScope st)) (hn : n = N.length) (ha : ar = ps.length)
    (hbody : ∀ (cdv : Value) (A : Around) (outer : List Env) (s : Shared) (H : Hp) (E : XK) (G : Addr → Prop) (H0 : Hp), Room k (A.deeper (envOfC qual (defScope st) s.heap.objs.size f cdv)) →
      JB (cxOf CX0 P w K mg base N qual (defScope st) f cdv A outer s H E).nox G H0 (defBody st) g) : FnOk P w K mg base CX0 (k + 1) f fd ps (dSp K (runD n ar g)) :=
  fn_D F S hn ha fun cdv A outer s H E G H0 hr => (hbody cdv A outer s H E G H0 hr).out
end
end L2
end
set_option Elab.async false
set_option linter.all false
set_option maxRecDepth 100000
set_option maxHeartbeats 4000000
namespace L2
open PySem
theorem forL_inv {i : Nat} {g : FS} (P : Nat → DE0 → Prop) : ∀ (ds : List D) (e : DE0) (n : Nat), P n e → (∀ (k : Nat) (d : D) (e : DE0), ds[k]? = some d → P (n + k) e → ∃ e', g (e.set i (some (.sh d))) = some (.nx, e') ∧ P (n + k + 1) e') →
    ∃ e', forL i g ds e = some (.nx, e') ∧ P (n + ds.length) e'
  | [], e, n, h, _ => ⟨e, rfl, h⟩
  | d :: r, e, n, h, hs => by
    obtain ⟨e1, h1, p1⟩ := hs 0 d e rfl h
    obtain ⟨e2, h2, p2⟩ := forL_inv P r e1 (n + 1) p1 fun k d' e' hk hp => by
      have := hs (k + 1) d' e' (by simpa using hk) (by rw [← Nat.add_assoc, Nat.add_right_comm]; exact hp)
      rw [show n + (k + 1) + 1 = n + 1 + k + 1 by omega] at this
      exact this
    refine ⟨e2, ?_, by rw [List.length_cons, show n + (r.length + 1) = n + 1 + r.length by omega]; exact p2⟩
    simp only [forL, h1, Option.bind_some, h2]
theorem forL_inv0 {i : Nat} {g : FS} (P : Nat → DE0 → Prop) (ds : List D) (e : DE0) (h : P 0 e) (hs : ∀ (k : Nat) (d : D) (e : DE0), ds[k]? = some d → P k e → ∃ e', g (e.set i (some (.sh d))) = some (.nx, e') ∧ P (k + 1) e') :
    ∃ e', forL i g ds e = some (.nx, e') ∧ P ds.length e' := by
  obtain ⟨e', h1, h2⟩ := forL_inv P ds e 0 h fun k d e hk hp => by
    obtain ⟨e', q1, q2⟩ := hs k d e hk (by simpa using hp)
    exact ⟨e', q1, by simpa using q2⟩
  exact ⟨e', h1, by simpa using h2⟩
theorem rngD_get {lo : Int} {n k : Nat} {d : D} (h : (rngD lo n)[k]? = some d) : d = .int (lo + k) ∧ k < n := by
  unfold rngD at h
  rw [List.getElem?_map] at h
  by_cases hk : k < n
  · rw [List.getElem?_range hk] at h
    exact ⟨(Option.some.inj h).symm, hk⟩
  · rw [List.getElem?_eq_none (by simpa using hk)] at h; cases h
theorem rngD_length {lo : Int} {n : Nat} : (rngD lo n).length = n := by simp [rngD]
theorem small_of {i : Int} (h : -1000000000000 < i ∧ i < 1000000000000) : Small i := ⟨by omega, by omega⟩
theorem atI_ok {α : Type} {xs : List α} {i : Int} (h0 : 0 ≤ i) (h1 : i < xs.length) : ∃ x, atI xs i = some x ∧ xs[i.toNat]? = some x := by
  have hl : i.toNat < xs.length := by omega
  exact ⟨xs[i.toNat], by unfold atI ixN; rw [if_pos h0, if_pos h1]; simp [hl], by simp [hl]⟩
theorem sSeq_assoc (a b c : FS) : sSeq (sSeq a b) c = sSeq a (sSeq b c) := by
  funext e
  simp only [sSeq]
  cases a e with
  | none => rfl
  | some r => obtain ⟨fl, e1⟩ := r; cases fl <;> rfl
theorem nil_sSeq (c : FS) : sSeq sNil c = c := by
  funext e
  rfl
theorem runD_rt {n ar : Nat} {g : FS} {ds : List D} {d : D} {e' : DE0} (h : ds.length = ar) (hg : g (dStart n ds) = some (.rt d, e')) : runD n ar g ds = some d := by
  unfold runD
  rw [if_pos h, hg]
theorem few {n : Nat} (h : n ≤ 1000000) : Few n := Nat.le_trans h (by decide)
theorem iR1_ok (n : Nat) (hn : n ≤ 1000000) : iR1 [.int n] = some (rngD 0 n) := by
  unfold iR1
  dsimp only
  rw [if_pos (show Bnd _ _ _ from ⟨by omega, by omega⟩), Int.toNat_natCast]
end L2
namespace L2
open PySem
end L2
namespace L2
open PySem
end L2
set_option linter.all false
set_option maxRecDepth 100000
noncomputable section
namespace LB
open PySem L2
def s_share_gap : FS := sRet (fBin dSub (fBin dMul (fIxV 0 (fC (.int 1))) (fIxV 1 (fC (.int 0)))) (fBin dMul (fIxV 1 (fC (.int 1))) (fIxV 0 (fC (.int 0)))))
def m_share_gap : List D → Option D := runD 2 2 s_share_gap
def s_share_sign : FS := sSeq (sSet 2 (fCall m_share_gap (fCons (fVar 0) (fCons (fVar 1) (fNil))))) (sSeq (sIf (fTst (fBin dGt (fVar 2) (fC (.int 0)))) (sRet (fC (.int 1))) (sNil)) (sSeq (sIf (fTst (fBin dLt (fVar 2) (fC (.int 0)))) (sRet (fUn dNeg (fC (.int 1)))) (sNil)) (sRet (fC (.int 0)))))
def m_share_sign : List D → Option D := runD 3 2 s_share_sign
def s__law_whole : FS := sRet (fAndV (fIsi "int" (fVar 0)) (fNotV (fIsi "bool" (fVar 0))))
def m__law_whole : List D → Option D := runD 1 1 s__law_whole
def s__law_at : FS := sSeq (sIf (fTst (fBin dLt (fVar 1) (fLenV 0))) (sRet (fIxV 0 (fVar 1))) (sNil)) (sRet (fC (.int 0)))
def m__law_at : List D → Option D := runD 2 2 s__law_at
def b__law_draws_0 : FS := sSeq (sSet 5 (fCall m__law_at (fCons (fVar 0) (fCons (fVar 4) (fNil))))) (sSeq (sIf (fTst (fBin dEq (fBin dMod (fLenV 0) (fC (.int 2))) (fC (.int 1)))) (sSeq (sSet 3 (fBin dMod (fBin dAddI (fBin dAddI (fBin dAddI (fBin dMul (fVar 3) (fC (.int 48271))) (fVar 5)) (fVar 4)) (fC (.int 1))) (fC (.int 2147483647)))) (sSet 5 (fBin dMod (fBin dMul (fBin dAddI (fVar 3) (fVar 4)) (fC (.int 69621))) (fC (.int 2147483647))))) (sNil)) (sDrop (fAppend 2 (fVar 5))))
def s__law_draws : FS := sSeq (sOwn 2 (fDisp (fNil))) (sSeq (sSet 3 (fC (.int 7))) (sSeq (sFor 4 (fCallF iR1 (fCons (fVar 1) (fNil))) (b__law_draws_0)) (sRet (fVar 2))))
def m__law_draws : List D → Option D := runD 6 2 s__law_draws
end LB
end
set_option Elab.async false
set_option linter.all false
set_option maxRecDepth 100000
set_option maxHeartbeats 4000000
namespace LB
open PySem L2
theorem at_ok (ns : List Int) (k : Nat) : ∃ c, m__law_at [.lst (ns.map D.int), .int k] = some (.int c) := by
  by_cases h : (k : Int) < ns.length
  · obtain ⟨x, h1, h2⟩ := atI_ok (xs := ns.map D.int) (i := (k : Int)) (by omega) (by simpa using h)
    rw [List.getElem?_map] at h2
    cases q : ns[(k : Int).toNat]? with
    | none => rw [q] at h2; cases h2
    | some c =>
      rw [q] at h2; cases h2
      refine ⟨c, ?_⟩
      simp [m__law_at, runD, s__law_at, dStart, h, h1]
  · refine ⟨0, ?_⟩
    simp [m__law_at, runD, s__law_at, dStart, h]
theorem draws_ok (ns : List Int) (n : Nat) (hn : n ≤ 1000) : ∃ cs : List Int, cs.length = n ∧ m__law_draws [.lst (ns.map D.int), .int n] = some (.lst (cs.map D.int)) := by
  have loop := forL_inv0 (i := 4) (g := b__law_draws_0)
    (fun k e => ∃ (cs : List Int) (st : Int) (v4 v5 : Option Sl), cs.length = k ∧ e = [some (.sh (.lst (ns.map D.int))), some (.sh (.int n)), some (.ow (cs.map D.int)), some (.sh (.int st)), v4, v5])
    (rngD 0 n) [some (.sh (.lst (ns.map D.int))), some (.sh (.int n)), some (.ow []), some (.sh (.int 7)), none, none] ⟨[], 7, none, none, rfl, rfl⟩ ?_
  · obtain ⟨e', h1, cs, st, v4, v5, hl, rfl⟩ := loop
    refine ⟨cs, by rw [hl, rngD_length], ?_⟩
    have hb := iR1_ok n (by omega)
    simp [m__law_draws, runD, s__law_draws, dStart, hb, h1]
  · rintro k d e hd ⟨cs, st, v4, v5, hl, rfl⟩
    obtain ⟨rfl, hk⟩ := rngD_get hd
    obtain ⟨c, hc⟩ := at_ok ns k
    have hcl : Few (cs.length + 1) := few (by omega)
    by_cases hp : (ns.length : Int) % 2 = 1
    · refine ⟨_, ?_, cs ++ [((st * 48271 + c + k + 1) % 2147483647 + k) * 69621 % 2147483647], (st * 48271 + c + k + 1) % 2147483647, some (.sh (.int (0 + k))), some (.sh (.int (((st * 48271 + c + k + 1) % 2147483647 + k) * 69621 % 2147483647))), by simp [hl], rfl⟩
      have s1 : Small 48271 := small_of (by decide)
      have s2 : Small 69621 := small_of (by decide)
      simp [b__law_draws_0, hc, hp, dMod, dMul, s1, s2, hcl]
    · refine ⟨_, ?_, cs ++ [c], st, some (.sh (.int (0 + k))), some (.sh (.int c)), by simp [hl], rfl⟩
      simp [b__law_draws_0, hc, hp, dMod, hcl]
theorem gap_ok (a b c d : Int) (hb : Small b) (hd : Small d) :
    m_share_gap [.tup [.int a, .int b], .tup [.int c, .int d]] = some (.int (b * c - d * a)) := by
  simp [m_share_gap, runD, s_share_gap, dStart, dMul, hb, hd, atI, ixN]
theorem share_ok (a b c d : Int) (hb : Small b) (hd : Small d) :
    m_share_sign [.tup [.int a, .int b], .tup [.int c, .int d]] = some (.int (if d * a < b * c then 1 else if b * c < d * a then -1 else 0)) := by
  have hg := gap_ok a b c d hb hd
  by_cases h1 : d * a < b * c
  · have h3 : 0 < b * c - d * a := by omega
    simp [m_share_sign, runD, s_share_sign, dStart, hg, h1, h3]
  · have h3 : ¬ 0 < b * c - d * a := by omega
    by_cases h2 : b * c < d * a
    · have h4 : b * c - d * a < 0 := by omega
      simp [m_share_sign, runD, s_share_sign, dStart, hg, h1, h2, h3, h4]
    · have h4 : ¬ b * c - d * a < 0 := by omega
      simp [m_share_sign, runD, s_share_sign, dStart, hg, h1, h2, h3, h4]
theorem whole_ok (i : Int) : m__law_whole [.int i] = some (.bl true) := by
  simp [m__law_whole, runD, s__law_whole, dStart]
end LB
set_option linter.all false
set_option maxRecDepth 100000
noncomputable section
namespace S_rotstacks_k01_shares
open PySem L2 LB
def s_law : FS := sSeq (sSet 1 (fCall m__law_draws (fCons (fVar 0) (fCons (fC (.int 6)) (fNil))))) (sSeq (sSet 2 (fTup (fCons (fBin dAddI (fC (.int 1)) (fBin dMod (fIxV 1 (fC (.int 0))) (fC (.int 840)))) (fCons (fBin dMod (fIxV 1 (fC (.int 1))) (fC (.int 1401))) (fNil))))) (sSeq (sSet 3 (fTup (fCons (fBin dAddI (fC (.int 1)) (fBin dMod (fIxV 1 (fC (.int 2))) (fC (.int 840)))) (fCons (fBin dMod (fIxV 1 (fC (.int 3))) (fC (.int 1401))) (fNil))))) (sSeq (sIf (fTst (fBin dEq (fBin dMod (fIxV 1 (fC (.int 4))) (fC (.int 3))) (fC (.int 1)))) (sSeq (sSet 4 (fBin dAddI (fC (.int 1)) (fBin dMod (fIxV 1 (fC (.int 0))) (fC (.int 28))))) (sSeq (sSet 5 (fBin dMod (fIxV 1 (fC (.int 1))) (fC (.int 47)))) (sSeq (sSet 6 (fBin dAddI (fC (.int 1)) (fBin dMod (fIxV 1 (fC (.int 2))) (fC (.int 30))))) (sSeq (sSet 7 (fBin dAddI (fC (.int 1)) (fBin dMod (fIxV 1 (fC (.int 3))) (fC (.int 30))))) (sSeq (sSet 2 (fTup (fCons (fBin dMul (fVar 4) (fVar 6)) (fCons (fCall bMax (fCons (fC (.int 0)) (fCons (fBin dAddI (fBin dSub (fBin dMul (fVar 5) (fVar 6)) (fC (.int 1))) (fBin dMod (fBin dDiv (fIxV 1 (fC (.int 4))) (fC (.int 3))) (fC (.int 3)))) (fNil)))) (fNil))))) (sSet 3 (fTup (fCons (fBin dMul (fVar 4) (fVar 7)) (fCons (fBin dMul (fVar 5) (fVar 7)) (fNil)))))))))) (sNil)) (sSeq (sIf (fTst (fBin dEq (fBin dMod (fIxV 1 (fC (.int 4))) (fC (.int 3))) (fC (.int 2)))) (sSeq (sSet 6 (fBin dAddI (fC (.int 1)) (fBin dMod (fIxV 1 (fC (.int 0))) (fC (.int 840))))) (sSeq (sSet 5 (fBin dMod (fIxV 1 (fC (.int 1))) (fBin dAddI (fBin dDiv (fC (.int 1399)) (fVar 6)) (fC (.int 1))))) (sSeq (sSet 2 (fTup (fCons (fVar 6) (fCons (fCall bMax (fCons (fC (.int 0)) (fCons (fBin dAddI (fBin dSub (fBin dMul (fVar 5) (fVar 6)) (fC (.int 1))) (fBin dMod (fBin dDiv (fIxV 1 (fC (.int 4))) (fC (.int 3))) (fC (.int 3)))) (fNil)))) (fNil))))) (sSet 3 (fTup (fCons (fC (.int 1)) (fCons (fVar 5) (fNil)))))))) (sNil)) (sSeq (sSet 8 (fBin dMul (fIxV 2 (fC (.int 1))) (fIxV 3 (fC (.int 0))))) (sSeq (sSet 9 (fBin dMul (fIxV 3 (fC (.int 1))) (fIxV 2 (fC (.int 0))))) (sSeq (sSet 10 (fBin dSub (fCall bInt (fCons (fBin dGt (fVar 8) (fVar 9)) (fNil))) (fCall bInt (fCons (fBin dLt (fVar 8) (fVar 9)) (fNil))))) (sSeq (sSet 11 (fCall m_share_sign (fCons (fVar 2) (fCons (fVar 3) (fNil))))) (sSeq (sSet 12 (fCall m_share_sign (fCons (fVar 3) (fCons (fVar 2) (fNil))))) (sSeq (sIf (fOr (fNot (fTst (fCall m__law_whole (fCons (fVar 11) (fNil))))) (fNot (fTst (fCall m__law_whole (fCons (fVar 12) (fNil)))))) (sRet (fC (.bl false))) (sNil)) (sRet (fAndV (fBin dEq (fVar 11) (fVar 10)) (fBin dEq (fVar 12) (fBin dSub (fC (.int 0)) (fVar 10)))))))))))))))
def m_law : List D → Option D := runD 13 1 s_law
end S_rotstacks_k01_shares
end
set_option Elab.async false
set_option linter.all false
set_option maxRecDepth 100000
set_option maxHeartbeats 4000000
namespace S_rotstacks_k01_shares
open PySem L2 LB PyProof.Rows
def top (i : Nat) : Stmt := PySem.Challenge.pw_rotstacks_k01_shares.main.body.getD i (.Pass ⟨0, 0, 0, 0⟩)
theorem nd_x_law_again : (("_law_again" : Str) == ("__debug__" : Str)) = false := by decide +kernel
theorem nc_x_law_again : (("_law_again" : Str) == ("__classdict__" : Str)) = false := by decide +kernel
theorem nd_x_law_at : (("_law_at" : Str) == ("__debug__" : Str)) = false := by decide +kernel
theorem nd_x_law_back : (("_law_back" : Str) == ("__debug__" : Str)) = false := by decide +kernel
theorem nc_x_law_back : (("_law_back" : Str) == ("__classdict__" : Str)) = false := by decide +kernel
theorem nd_x_law_cell : (("_law_cell" : Str) == ("__debug__" : Str)) = false := by decide +kernel
theorem nc_x_law_cell : (("_law_cell" : Str) == ("__classdict__" : Str)) = false := by decide +kernel
theorem nd_x_law_draws : (("_law_draws" : Str) == ("__debug__" : Str)) = false := by decide +kernel
theorem nd_x_law_draws_here : (("_law_draws_here" : Str) == ("__debug__" : Str)) = false := by decide +kernel
theorem nc_x_law_draws_here : (("_law_draws_here" : Str) == ("__classdict__" : Str)) = false := by decide +kernel
theorem nd_x_law_due : (("_law_due" : Str) == ("__debug__" : Str)) = false := by decide +kernel
theorem nc_x_law_due : (("_law_due" : Str) == ("__classdict__" : Str)) = false := by decide +kernel
theorem nd_x_law_found : (("_law_found" : Str) == ("__debug__" : Str)) = false := by decide +kernel
theorem nc_x_law_found : (("_law_found" : Str) == ("__classdict__" : Str)) = false := by decide +kernel
theorem nd_x_law_hours : (("_law_hours" : Str) == ("__debug__" : Str)) = false := by decide +kernel
theorem nc_x_law_hours : (("_law_hours" : Str) == ("__classdict__" : Str)) = false := by decide +kernel
theorem nd_x_law_k : (("_law_k" : Str) == ("__debug__" : Str)) = false := by decide +kernel
theorem nc_x_law_k : (("_law_k" : Str) == ("__classdict__" : Str)) = false := by decide +kernel
theorem nd_x_law_left : (("_law_left" : Str) == ("__debug__" : Str)) = false := by decide +kernel
theorem nc_x_law_left : (("_law_left" : Str) == ("__classdict__" : Str)) = false := by decide +kernel
theorem nd_x_law_loss : (("_law_loss" : Str) == ("__debug__" : Str)) = false := by decide +kernel
theorem nc_x_law_loss : (("_law_loss" : Str) == ("__classdict__" : Str)) = false := by decide +kernel
theorem nd_x_law_made : (("_law_made" : Str) == ("__debug__" : Str)) = false := by decide +kernel
theorem nc_x_law_made : (("_law_made" : Str) == ("__classdict__" : Str)) = false := by decide +kernel
theorem nd_x_law_many : (("_law_many" : Str) == ("__debug__" : Str)) = false := by decide +kernel
theorem nc_x_law_many : (("_law_many" : Str) == ("__classdict__" : Str)) = false := by decide +kernel
theorem nd_x_law_one : (("_law_one" : Str) == ("__debug__" : Str)) = false := by decide +kernel
theorem nc_x_law_one : (("_law_one" : Str) == ("__classdict__" : Str)) = false := by decide +kernel
theorem nd_x_law_other : (("_law_other" : Str) == ("__debug__" : Str)) = false := by decide +kernel
theorem nc_x_law_other : (("_law_other" : Str) == ("__classdict__" : Str)) = false := by decide +kernel
theorem nd_x_law_right : (("_law_right" : Str) == ("__debug__" : Str)) = false := by decide +kernel
theorem nc_x_law_right : (("_law_right" : Str) == ("__classdict__" : Str)) = false := by decide +kernel
theorem nd_x_law_script : (("_law_script" : Str) == ("__debug__" : Str)) = false := by decide +kernel
theorem nc_x_law_script : (("_law_script" : Str) == ("__classdict__" : Str)) = false := by decide +kernel
theorem nd_x_law_state : (("_law_state" : Str) == ("__debug__" : Str)) = false := by decide +kernel
theorem nc_x_law_state : (("_law_state" : Str) == ("__classdict__" : Str)) = false := by decide +kernel
theorem nd_x_law_times : (("_law_times" : Str) == ("__debug__" : Str)) = false := by decide +kernel
theorem nc_x_law_times : (("_law_times" : Str) == ("__classdict__" : Str)) = false := by decide +kernel
theorem nd_x_law_whole : (("_law_whole" : Str) == ("__debug__" : Str)) = false := by decide +kernel
theorem nd_xgap : (("gap" : Str) == ("__debug__" : Str)) = false := by decide +kernel
theorem nc_xgap : (("gap" : Str) == ("__classdict__" : Str)) = false := by decide +kernel
theorem nd_xone : (("one" : Str) == ("__debug__" : Str)) = false := by decide +kernel
theorem nc_xone : (("one" : Str) == ("__classdict__" : Str)) = false := by decide +kernel
theorem nd_xother : (("other" : Str) == ("__debug__" : Str)) = false := by decide +kernel
theorem nc_xother : (("other" : Str) == ("__classdict__" : Str)) = false := by decide +kernel
theorem nd_xshare_gap : (("share_gap" : Str) == ("__debug__" : Str)) = false := by decide +kernel
theorem nd_xshare_sign : (("share_sign" : Str) == ("__debug__" : Str)) = false := by decide +kernel
abbrev t_share_gap : Stmt := top 1
abbrev t_share_sign : Stmt := top 2
abbrev t__law_whole : Stmt := top 4
abbrev t__law_at : Stmt := top 5
abbrev t__law_draws : Stmt := top 6
abbrev t_law : Stmt := top 7
local macro_rules | `(tactic| walk_at "cf") => `(tactic| first | exact Or.inl rfl | exact Or.inr rfl)
structure Txt (K : PySem.W.Frag) (mg : Str → Option Value) (f_share_gap : Addr) (d_share_gap : FuncData) (f_share_sign : Addr) (d_share_sign : FuncData) (f__law_whole : Addr) (d__law_whole : FuncData) (f__law_at : Addr) (d__law_at : FuncData) (f__law_draws : Addr) (d__law_draws : FuncData) (f_law : Addr) (d_law : FuncData) : Prop where
  F_share_gap : Fun K "share_gap" "share_gap" t_share_gap f_share_gap d_share_gap
  m_share_gap : mg "share_gap" = some (.ref f_share_gap)
  k_share_gap : PySem.W.keepIn K (.ref f_share_gap) = true
  n_share_gap : Binds K d_share_gap ["one", "other"] []
  F_share_sign : Fun K "share_sign" "share_sign" t_share_sign f_share_sign d_share_sign
  m_share_sign : mg "share_sign" = some (.ref f_share_sign)
  k_share_sign : PySem.W.keepIn K (.ref f_share_sign) = true
  n_share_sign : Binds K d_share_sign ["one", "other"] []
  F__law_whole : Fun K "_law_whole" "_law_whole" t__law_whole f__law_whole d__law_whole
  m__law_whole : mg "_law_whole" = some (.ref f__law_whole)
  k__law_whole : PySem.W.keepIn K (.ref f__law_whole) = true
  n__law_whole : Binds K d__law_whole ["_law_found"] []
  F__law_at : Fun K "_law_at" "_law_at" t__law_at f__law_at d__law_at
  m__law_at : mg "_law_at" = some (.ref f__law_at)
  k__law_at : PySem.W.keepIn K (.ref f__law_at) = true
  n__law_at : Binds K d__law_at ["_law_script", "_law_k"] []
  F__law_draws : Fun K "_law_draws" "_law_draws" t__law_draws f__law_draws d__law_draws
  m__law_draws : mg "_law_draws" = some (.ref f__law_draws)
  k__law_draws : PySem.W.keepIn K (.ref f__law_draws) = true
  n__law_draws : Binds K d__law_draws ["_law_script", "_law_many"] []
  F_law : Fun K "law" "law" t_law f_law d_law
  m_law : mg "law" = some (.ref f_law)
  k_law : PySem.W.keepIn K (.ref f_law) = true
  n_law : Binds K d_law ["_law_script"] []
  b_bool : mg "bool" = none
  b_int : mg "int" = none
  b_isinstance : mg "isinstance" = none
  b_len : mg "len" = none
  b_max : mg "max" = none
  b_range : mg "range" = none
section
variable {P : Program} {w : World} {K : PySem.W.Frag} {mg : Str → Option Value} {base : Heap}
theorem sc1 : FnScope ["one", "other"] ["one", "other"] (defScope t_share_gap) := ⟨rfl, rfl, rfl, by decide +kernel, rfl, by decide +kernel, by decide +kernel⟩
theorem v1_0 : Vis (defScope t_share_gap) "one" := Or.inl (by decide +kernel)
theorem v1_1 : Vis (defScope t_share_gap) "other" := Or.inl (by decide +kernel)
theorem ok_share_gap {f_share_gap : Addr} {d_share_gap : FuncData} (F_share_gap : Fun K "share_gap" "share_gap" t_share_gap f_share_gap d_share_gap) : FnOk P w K mg base CX0 1 f_share_gap d_share_gap ["one", "other"] (dSp K m_share_gap) :=
  jfn_D (g := s_share_gap) (n := 2) (ar := 2) F_share_gap sc1 rfl rfl fun cdv A outer s H E G H0 hr => by
    exact jdb_one (jds_ret (jde_sub (jde_mul (jde_ixV 0 (jde_int) (by intro _ _; rfl) (by rfl) v1_0 nd_xone nc_xone) (jde_ixV 1 (jde_int) (by intro _ _; rfl) (by rfl) v1_1 nd_xother nc_xother)) (jde_mul (jde_ixV 1 (jde_int) (by intro _ _; rfl) (by rfl) v1_1 nd_xother nc_xother) (jde_ixV 0 (jde_int) (by intro _ _; rfl) (by rfl) v1_0 nd_xone nc_xone))))
theorem sc2 : FnScope ["one", "other", "gap"] ["one", "other"] (defScope t_share_sign) := ⟨rfl, rfl, rfl, by decide +kernel, rfl, by decide +kernel, by decide +kernel⟩
theorem v2_0 : Vis (defScope t_share_sign) "one" := Or.inl (by decide +kernel)
theorem v2_1 : Vis (defScope t_share_sign) "other" := Or.inl (by decide +kernel)
theorem l2_2 : Loc (defScope t_share_sign) "gap" := Or.inl (by decide +kernel)
theorem v2_2 : Vis (defScope t_share_sign) "gap" := Or.inl (by decide +kernel)
theorem g2_xshare_gap : (defScope t_share_sign).names.lookup ("share_gap" : Str) = some .globalImplicit := by decide +kernel
theorem ok_share_sign {f_share_sign : Addr} {d_share_sign : FuncData} (F_share_sign : Fun K "share_sign" "share_sign" t_share_sign f_share_sign d_share_sign) {f_share_gap : Addr} {d_share_gap : FuncData} (mg_share_gap : mg "share_gap" = some (.ref f_share_gap)) (kp_share_gap : PySem.W.keepIn K (.ref f_share_gap) = true) (bd_share_gap : Binds K d_share_gap ["one", "other"] []) (Gshare_gap : FnOk P w K mg base CX0 1 f_share_gap d_share_gap ["one", "other"] (dSp K m_share_gap)) : FnOk P w K mg base CX0 2 f_share_sign d_share_sign ["one", "other"] (dSp K m_share_sign) :=
  jfn_D (g := s_share_sign) (n := 3) (ar := 2) F_share_sign sc2 rfl rfl fun cdv A outer s H E G H0 hr => by
    refine jdb_cons (jds_setE (i := 2) sc2.nd (by rfl) l2_2 (jde_call Gshare_gap (hr.mono (by decide)) g2_xshare_gap mg_share_gap kp_share_gap bd_share_gap pass0 (jda_cons (jde_var 0 (by rfl) v2_0 nd_xone nc_xone) (jda_cons (jde_var 1 (by rfl) v2_1 nd_xother nc_xother) (jda_nil))) nd_xshare_gap)) ?_
    refine jdb_cons (jds_if (jdt_gt (jde_var 2 (by rfl) v2_2 nd_xgap nc_xgap) (jde_int)) ?_ ?_) ?_
    · exact jdb_one (jds_ret (jde_int))
    · exact jdb_nil
    refine jdb_cons (jds_if (jdt_lt (jde_var 2 (by rfl) v2_2 nd_xgap nc_xgap) (jde_int)) ?_ ?_) ?_
    · exact jdb_one (jds_ret (jde_neg (jde_int)))
    · exact jdb_nil
    exact jdb_one (jds_ret (jde_int))
theorem sc4 : FnScope ["_law_found"] ["_law_found"] (defScope t__law_whole) := ⟨rfl, rfl, rfl, by decide +kernel, rfl, by decide +kernel, by decide +kernel⟩
theorem v4_0 : Vis (defScope t__law_whole) "_law_found" := Or.inl (by decide +kernel)
theorem g4_xbool : (defScope t__law_whole).names.lookup ("bool" : Str) = some .globalImplicit := by decide +kernel
theorem g4_xint : (defScope t__law_whole).names.lookup ("int" : Str) = some .globalImplicit := by decide +kernel
theorem g4_xisinstance : (defScope t__law_whole).names.lookup ("isinstance" : Str) = some .globalImplicit := by decide +kernel
theorem ok__law_whole {f__law_whole : Addr} {d__law_whole : FuncData} (F__law_whole : Fun K "_law_whole" "_law_whole" t__law_whole f__law_whole d__law_whole) (bn_bool : mg "bool" = none) (bn_int : mg "int" = none) (bn_isinstance : mg "isinstance" = none) : FnOk P w K mg base CX0 1 f__law_whole d__law_whole ["_law_found"] (dSp K m__law_whole) :=
  jfn_D (g := s__law_whole) (n := 1) (ar := 1) F__law_whole sc4 rfl rfl fun cdv A outer s H E G H0 hr => by
    exact jdb_one (jds_ret (jde_and (jde_isi (T := "int") g4_xisinstance bn_isinstance g4_xint bn_int bt_int ik_int (jde_var 0 (by rfl) v4_0 nd_x_law_found nc_x_law_found) nd_int nn_int) (jde_one (jde_not (jde_isi (T := "bool") g4_xisinstance bn_isinstance g4_xbool bn_bool bt_bool ik_bool (jde_var 0 (by rfl) v4_0 nd_x_law_found nc_x_law_found) nd_bool nn_bool)))))
theorem sc5 : FnScope ["_law_script", "_law_k"] ["_law_script", "_law_k"] (defScope t__law_at) := ⟨rfl, rfl, rfl, by decide +kernel, rfl, by decide +kernel, by decide +kernel⟩
theorem v5_0 : Vis (defScope t__law_at) "_law_script" := Or.inl (by decide +kernel)
theorem v5_1 : Vis (defScope t__law_at) "_law_k" := Or.inl (by decide +kernel)
theorem g5_xlen : (defScope t__law_at).names.lookup ("len" : Str) = some .globalImplicit := by decide +kernel
theorem ok__law_at {f__law_at : Addr} {d__law_at : FuncData} (F__law_at : Fun K "_law_at" "_law_at" t__law_at f__law_at d__law_at) (bn_len : mg "len" = none) : FnOk P w K mg base CX0 1 f__law_at d__law_at ["_law_script", "_law_k"] (dSp K m__law_at) :=
  jfn_D (g := s__law_at) (n := 2) (ar := 2) F__law_at sc5 rfl rfl fun cdv A outer s H E G H0 hr => by
    refine jdb_cons (jds_if (jdt_lt (jde_var 1 (by rfl) v5_1 nd_x_law_k nc_x_law_k) (jde_lenV 0 g5_xlen bn_len (by rfl) v5_0 nd_x_law_script nc_x_law_script)) ?_ ?_) ?_
    · exact jdb_one (jds_ret (jde_ixV 0 (jde_var 1 (by rfl) v5_1 nd_x_law_k nc_x_law_k) (by intro _ _; rfl) (by rfl) v5_0 nd_x_law_script nc_x_law_script))
    · exact jdb_nil
    exact jdb_one (jds_ret (jde_int))
theorem sc6 : FnScope ["_law_script", "_law_many", "_law_made", "_law_state", "_law_k", "_law_cell"] ["_law_script", "_law_many"] (defScope t__law_draws) := ⟨rfl, rfl, rfl, by decide +kernel, rfl, by decide +kernel, by decide +kernel⟩
theorem v6_0 : Vis (defScope t__law_draws) "_law_script" := Or.inl (by decide +kernel)
theorem v6_1 : Vis (defScope t__law_draws) "_law_many" := Or.inl (by decide +kernel)
theorem l6_2 : Loc (defScope t__law_draws) "_law_made" := Or.inl (by decide +kernel)
theorem v6_2 : Vis (defScope t__law_draws) "_law_made" := Or.inl (by decide +kernel)
theorem l6_3 : Loc (defScope t__law_draws) "_law_state" := Or.inl (by decide +kernel)
theorem v6_3 : Vis (defScope t__law_draws) "_law_state" := Or.inl (by decide +kernel)
theorem l6_4 : Loc (defScope t__law_draws) "_law_k" := Or.inl (by decide +kernel)
theorem v6_4 : Vis (defScope t__law_draws) "_law_k" := Or.inl (by decide +kernel)
theorem l6_5 : Loc (defScope t__law_draws) "_law_cell" := Or.inl (by decide +kernel)
theorem v6_5 : Vis (defScope t__law_draws) "_law_cell" := Or.inl (by decide +kernel)
theorem g6_x_law_at : (defScope t__law_draws).names.lookup ("_law_at" : Str) = some .globalImplicit := by decide +kernel
theorem g6_xlen : (defScope t__law_draws).names.lookup ("len" : Str) = some .globalImplicit := by decide +kernel
theorem g6_xrange : (defScope t__law_draws).names.lookup ("range" : Str) = some .globalImplicit := by decide +kernel
theorem ok__law_draws {f__law_draws : Addr} {d__law_draws : FuncData} (F__law_draws : Fun K "_law_draws" "_law_draws" t__law_draws f__law_draws d__law_draws) {f__law_at : Addr} {d__law_at : FuncData} (mg__law_at : mg "_law_at" = some (.ref f__law_at)) (kp__law_at : PySem.W.keepIn K (.ref f__law_at) = true) (bd__law_at : Binds K d__law_at ["_law_script", "_law_k"] []) (bn_len : mg "len" = none) (bn_range : mg "range" = none) (G_law_at : FnOk P w K mg base CX0 1 f__law_at d__law_at ["_law_script", "_law_k"] (dSp K m__law_at)) : FnOk P w K mg base CX0 2 f__law_draws d__law_draws ["_law_script", "_law_many"] (dSp K m__law_draws) :=
  jfn_D (g := s__law_draws) (n := 6) (ar := 2) F__law_draws sc6 rfl rfl fun cdv A outer s H E G H0 hr => by
    refine jdb_cons (jds_own (i := 2) (jps_set sc6.nd (by rfl) l6_2 (jdf_lst (jda_nil)))) ?_
    refine jdb_cons (jds_setE (i := 3) sc6.nd (by rfl) l6_3 (jde_int)) ?_
    refine jdb_cons (jds_for PassesOwn.never (by rfl) (jdi_range1 g6_xrange bn_range (jda_cons (jde_var 1 (by rfl) v6_1 nd_x_law_many nc_x_law_many) (jda_nil))) (jpg_name (i := 4) sc6.nd (by rfl) l6_4) ?_) ?_
    · refine jdb_cons (jds_setE (i := 5) sc6.nd (by rfl) l6_5 (jde_call G_law_at (hr.mono (by decide)) g6_x_law_at mg__law_at kp__law_at bd__law_at pass0 (jda_cons (jde_var 0 (by rfl) v6_0 nd_x_law_script nc_x_law_script) (jda_cons (jde_var 4 (by rfl) v6_4 nd_x_law_k nc_x_law_k) (jda_nil))) nd_x_law_at)) ?_
      refine jdb_cons (jds_if (jdt_eq (jde_mod (jde_lenV 0 g6_xlen bn_len (by rfl) v6_0 nd_x_law_script nc_x_law_script) (jde_int)) (jde_int)) ?_ ?_) ?_
      · refine jdb_cons (jds_setE (i := 3) sc6.nd (by rfl) l6_3 (jde_mod (jde_add (jde_add (jde_add (jde_mul (jde_var 3 (by rfl) v6_3 nd_x_law_state nc_x_law_state) (jde_int)) (jde_var 5 (by rfl) v6_5 nd_x_law_cell nc_x_law_cell)) (jde_var 4 (by rfl) v6_4 nd_x_law_k nc_x_law_k)) (jde_int)) (jde_int))) ?_
        exact jdb_one (jds_setE (i := 5) sc6.nd (by rfl) l6_5 (jde_mod (jde_mul (jde_add (jde_var 3 (by rfl) v6_3 nd_x_law_state nc_x_law_state) (jde_var 4 (by rfl) v6_4 nd_x_law_k nc_x_law_k)) (jde_int)) (jde_int)))
      · exact jdb_nil
      exact jdb_one (jds_expr (jde_append 2 (jde_var 5 (by rfl) v6_5 nd_x_law_cell nc_x_law_cell) (by rfl) v6_2 nd_x_law_made nc_x_law_made))
    exact jdb_one (jds_ret (jde_var 2 (by rfl) v6_2 nd_x_law_made nc_x_law_made))
theorem sc7 : FnScope ["_law_script", "_law_draws_here", "_law_one", "_law_other", "_law_hours", "_law_loss", "_law_times", "_law_again", "_law_left", "_law_right", "_law_due", "_law_found", "_law_back"] ["_law_script"] (defScope t_law) := ⟨rfl, rfl, rfl, by decide +kernel, rfl, by decide +kernel, by decide +kernel⟩
theorem v7_0 : Vis (defScope t_law) "_law_script" := Or.inl (by decide +kernel)
theorem l7_1 : Loc (defScope t_law) "_law_draws_here" := Or.inl (by decide +kernel)
theorem v7_1 : Vis (defScope t_law) "_law_draws_here" := Or.inl (by decide +kernel)
theorem l7_2 : Loc (defScope t_law) "_law_one" := Or.inl (by decide +kernel)
theorem v7_2 : Vis (defScope t_law) "_law_one" := Or.inl (by decide +kernel)
theorem l7_3 : Loc (defScope t_law) "_law_other" := Or.inl (by decide +kernel)
theorem v7_3 : Vis (defScope t_law) "_law_other" := Or.inl (by decide +kernel)
theorem l7_4 : Loc (defScope t_law) "_law_hours" := Or.inl (by decide +kernel)
theorem v7_4 : Vis (defScope t_law) "_law_hours" := Or.inl (by decide +kernel)
theorem l7_5 : Loc (defScope t_law) "_law_loss" := Or.inl (by decide +kernel)
theorem v7_5 : Vis (defScope t_law) "_law_loss" := Or.inl (by decide +kernel)
theorem l7_6 : Loc (defScope t_law) "_law_times" := Or.inl (by decide +kernel)
theorem v7_6 : Vis (defScope t_law) "_law_times" := Or.inl (by decide +kernel)
theorem l7_7 : Loc (defScope t_law) "_law_again" := Or.inl (by decide +kernel)
theorem v7_7 : Vis (defScope t_law) "_law_again" := Or.inl (by decide +kernel)
theorem l7_8 : Loc (defScope t_law) "_law_left" := Or.inl (by decide +kernel)
theorem v7_8 : Vis (defScope t_law) "_law_left" := Or.inl (by decide +kernel)
theorem l7_9 : Loc (defScope t_law) "_law_right" := Or.inl (by decide +kernel)
theorem v7_9 : Vis (defScope t_law) "_law_right" := Or.inl (by decide +kernel)
theorem l7_10 : Loc (defScope t_law) "_law_due" := Or.inl (by decide +kernel)
theorem v7_10 : Vis (defScope t_law) "_law_due" := Or.inl (by decide +kernel)
theorem l7_11 : Loc (defScope t_law) "_law_found" := Or.inl (by decide +kernel)
theorem v7_11 : Vis (defScope t_law) "_law_found" := Or.inl (by decide +kernel)
theorem l7_12 : Loc (defScope t_law) "_law_back" := Or.inl (by decide +kernel)
theorem v7_12 : Vis (defScope t_law) "_law_back" := Or.inl (by decide +kernel)
theorem g7_x_law_draws : (defScope t_law).names.lookup ("_law_draws" : Str) = some .globalImplicit := by decide +kernel
theorem g7_x_law_whole : (defScope t_law).names.lookup ("_law_whole" : Str) = some .globalImplicit := by decide +kernel
theorem g7_xint : (defScope t_law).names.lookup ("int" : Str) = some .globalImplicit := by decide +kernel
theorem g7_xmax : (defScope t_law).names.lookup ("max" : Str) = some .globalImplicit := by decide +kernel
theorem g7_xshare_sign : (defScope t_law).names.lookup ("share_sign" : Str) = some .globalImplicit := by decide +kernel
theorem ok_law {f_law : Addr} {d_law : FuncData} (F_law : Fun K "law" "law" t_law f_law d_law) {f__law_draws : Addr} {d__law_draws : FuncData} (mg__law_draws : mg "_law_draws" = some (.ref f__law_draws)) (kp__law_draws : PySem.W.keepIn K (.ref f__law_draws) = true) (bd__law_draws : Binds K d__law_draws ["_law_script", "_law_many"] []) {f__law_whole : Addr} {d__law_whole : FuncData} (mg__law_whole : mg "_law_whole" = some (.ref f__law_whole)) (kp__law_whole : PySem.W.keepIn K (.ref f__law_whole) = true) (bd__law_whole : Binds K d__law_whole ["_law_found"] []) {f_share_sign : Addr} {d_share_sign : FuncData} (mg_share_sign : mg "share_sign" = some (.ref f_share_sign)) (kp_share_sign : PySem.W.keepIn K (.ref f_share_sign) = true) (bd_share_sign : Binds K d_share_sign ["one", "other"] []) (bn_int : mg "int" = none) (bn_max : mg "max" = none) (G_law_draws : FnOk P w K mg base CX0 2 f__law_draws d__law_draws ["_law_script", "_law_many"] (dSp K m__law_draws)) (G_law_whole : FnOk P w K mg base CX0 1 f__law_whole d__law_whole ["_law_found"] (dSp K m__law_whole)) (Gshare_sign : FnOk P w K mg base CX0 2 f_share_sign d_share_sign ["one", "other"] (dSp K m_share_sign)) : FnOk P w K mg base CX0 3 f_law d_law ["_law_script"] (dSp K m_law) :=
  jfn_D (g := s_law) (n := 13) (ar := 1) F_law sc7 rfl rfl fun cdv A outer s H E G H0 hr => by
    refine jdb_cons (jds_setE (i := 1) sc7.nd (by rfl) l7_1 (jde_call G_law_draws (hr.mono (by decide)) g7_x_law_draws mg__law_draws kp__law_draws bd__law_draws pass0 (jda_cons (jde_var 0 (by rfl) v7_0 nd_x_law_script nc_x_law_script) (jda_cons (jde_int) (jda_nil))) nd_x_law_draws)) ?_
    refine jdb_cons (jds_setE (i := 2) sc7.nd (by rfl) l7_2 (jde_tup (jda_cons (jde_add (jde_int) (jde_mod (jde_ixV 1 (jde_int) (by intro _ _; rfl) (by rfl) v7_1 nd_x_law_draws_here nc_x_law_draws_here) (jde_int))) (jda_cons (jde_mod (jde_ixV 1 (jde_int) (by intro _ _; rfl) (by rfl) v7_1 nd_x_law_draws_here nc_x_law_draws_here) (jde_int)) (jda_nil))))) ?_
    refine jdb_cons (jds_setE (i := 3) sc7.nd (by rfl) l7_3 (jde_tup (jda_cons (jde_add (jde_int) (jde_mod (jde_ixV 1 (jde_int) (by intro _ _; rfl) (by rfl) v7_1 nd_x_law_draws_here nc_x_law_draws_here) (jde_int))) (jda_cons (jde_mod (jde_ixV 1 (jde_int) (by intro _ _; rfl) (by rfl) v7_1 nd_x_law_draws_here nc_x_law_draws_here) (jde_int)) (jda_nil))))) ?_
    refine jdb_cons (jds_if (jdt_eq (jde_mod (jde_ixV 1 (jde_int) (by intro _ _; rfl) (by rfl) v7_1 nd_x_law_draws_here nc_x_law_draws_here) (jde_int)) (jde_int)) ?_ ?_) ?_
    · refine jdb_cons (jds_setE (i := 4) sc7.nd (by rfl) l7_4 (jde_add (jde_int) (jde_mod (jde_ixV 1 (jde_int) (by intro _ _; rfl) (by rfl) v7_1 nd_x_law_draws_here nc_x_law_draws_here) (jde_int)))) ?_
      refine jdb_cons (jds_setE (i := 5) sc7.nd (by rfl) l7_5 (jde_mod (jde_ixV 1 (jde_int) (by intro _ _; rfl) (by rfl) v7_1 nd_x_law_draws_here nc_x_law_draws_here) (jde_int))) ?_
      refine jdb_cons (jds_setE (i := 6) sc7.nd (by rfl) l7_6 (jde_add (jde_int) (jde_mod (jde_ixV 1 (jde_int) (by intro _ _; rfl) (by rfl) v7_1 nd_x_law_draws_here nc_x_law_draws_here) (jde_int)))) ?_
      refine jdb_cons (jds_setE (i := 7) sc7.nd (by rfl) l7_7 (jde_add (jde_int) (jde_mod (jde_ixV 1 (jde_int) (by intro _ _; rfl) (by rfl) v7_1 nd_x_law_draws_here nc_x_law_draws_here) (jde_int)))) ?_
      refine jdb_cons (jds_setE (i := 2) sc7.nd (by rfl) l7_2 (jde_tup (jda_cons (jde_mul (jde_var 4 (by rfl) v7_4 nd_x_law_hours nc_x_law_hours) (jde_var 6 (by rfl) v7_6 nd_x_law_times nc_x_law_times)) (jda_cons (jde_max (by rfl) g7_xmax bn_max (jda_cons (jde_int) (jda_cons (jde_add (jde_sub (jde_mul (jde_var 5 (by rfl) v7_5 nd_x_law_loss nc_x_law_loss) (jde_var 6 (by rfl) v7_6 nd_x_law_times nc_x_law_times)) (jde_int)) (jde_mod (jde_div (jde_ixV 1 (jde_int) (by intro _ _; rfl) (by rfl) v7_1 nd_x_law_draws_here nc_x_law_draws_here) (jde_int)) (jde_int))) (jda_nil)))) (jda_nil))))) ?_
      exact jdb_one (jds_setE (i := 3) sc7.nd (by rfl) l7_3 (jde_tup (jda_cons (jde_mul (jde_var 4 (by rfl) v7_4 nd_x_law_hours nc_x_law_hours) (jde_var 7 (by rfl) v7_7 nd_x_law_again nc_x_law_again)) (jda_cons (jde_mul (jde_var 5 (by rfl) v7_5 nd_x_law_loss nc_x_law_loss) (jde_var 7 (by rfl) v7_7 nd_x_law_again nc_x_law_again)) (jda_nil)))))
    · exact jdb_nil
    refine jdb_cons (jds_if (jdt_eq (jde_mod (jde_ixV 1 (jde_int) (by intro _ _; rfl) (by rfl) v7_1 nd_x_law_draws_here nc_x_law_draws_here) (jde_int)) (jde_int)) ?_ ?_) ?_
    · refine jdb_cons (jds_setE (i := 6) sc7.nd (by rfl) l7_6 (jde_add (jde_int) (jde_mod (jde_ixV 1 (jde_int) (by intro _ _; rfl) (by rfl) v7_1 nd_x_law_draws_here nc_x_law_draws_here) (jde_int)))) ?_
      refine jdb_cons (jds_setE (i := 5) sc7.nd (by rfl) l7_5 (jde_mod (jde_ixV 1 (jde_int) (by intro _ _; rfl) (by rfl) v7_1 nd_x_law_draws_here nc_x_law_draws_here) (jde_add (jde_div (jde_int) (jde_var 6 (by rfl) v7_6 nd_x_law_times nc_x_law_times)) (jde_int)))) ?_
      refine jdb_cons (jds_setE (i := 2) sc7.nd (by rfl) l7_2 (jde_tup (jda_cons (jde_var 6 (by rfl) v7_6 nd_x_law_times nc_x_law_times) (jda_cons (jde_max (by rfl) g7_xmax bn_max (jda_cons (jde_int) (jda_cons (jde_add (jde_sub (jde_mul (jde_var 5 (by rfl) v7_5 nd_x_law_loss nc_x_law_loss) (jde_var 6 (by rfl) v7_6 nd_x_law_times nc_x_law_times)) (jde_int)) (jde_mod (jde_div (jde_ixV 1 (jde_int) (by intro _ _; rfl) (by rfl) v7_1 nd_x_law_draws_here nc_x_law_draws_here) (jde_int)) (jde_int))) (jda_nil)))) (jda_nil))))) ?_
      exact jdb_one (jds_setE (i := 3) sc7.nd (by rfl) l7_3 (jde_tup (jda_cons (jde_int) (jda_cons (jde_var 5 (by rfl) v7_5 nd_x_law_loss nc_x_law_loss) (jda_nil)))))
    · exact jdb_nil
    refine jdb_cons (jds_setE (i := 8) sc7.nd (by rfl) l7_8 (jde_mul (jde_ixV 2 (jde_int) (by intro _ _; rfl) (by rfl) v7_2 nd_x_law_one nc_x_law_one) (jde_ixV 3 (jde_int) (by intro _ _; rfl) (by rfl) v7_3 nd_x_law_other nc_x_law_other))) ?_
    refine jdb_cons (jds_setE (i := 9) sc7.nd (by rfl) l7_9 (jde_mul (jde_ixV 3 (jde_int) (by intro _ _; rfl) (by rfl) v7_3 nd_x_law_other nc_x_law_other) (jde_ixV 2 (jde_int) (by intro _ _; rfl) (by rfl) v7_2 nd_x_law_one nc_x_law_one))) ?_
    refine jdb_cons (jds_setE (i := 10) sc7.nd (by rfl) l7_10 (jde_sub (jde_intc g7_xint bn_int (jda_cons (jde_gt (jde_var 8 (by rfl) v7_8 nd_x_law_left nc_x_law_left) (jde_var 9 (by rfl) v7_9 nd_x_law_right nc_x_law_right)) (jda_nil))) (jde_intc g7_xint bn_int (jda_cons (jde_lt (jde_var 8 (by rfl) v7_8 nd_x_law_left nc_x_law_left) (jde_var 9 (by rfl) v7_9 nd_x_law_right nc_x_law_right)) (jda_nil))))) ?_
    refine jdb_cons (jds_setE (i := 11) sc7.nd (by rfl) l7_11 (jde_call Gshare_sign (hr.mono (by decide)) g7_xshare_sign mg_share_sign kp_share_sign bd_share_sign pass0 (jda_cons (jde_var 2 (by rfl) v7_2 nd_x_law_one nc_x_law_one) (jda_cons (jde_var 3 (by rfl) v7_3 nd_x_law_other nc_x_law_other) (jda_nil))) nd_xshare_sign)) ?_
    refine jdb_cons (jds_setE (i := 12) sc7.nd (by rfl) l7_12 (jde_call Gshare_sign (hr.mono (by decide)) g7_xshare_sign mg_share_sign kp_share_sign bd_share_sign pass0 (jda_cons (jde_var 3 (by rfl) v7_3 nd_x_law_other nc_x_law_other) (jda_cons (jde_var 2 (by rfl) v7_2 nd_x_law_one nc_x_law_one) (jda_nil))) nd_xshare_sign)) ?_
    refine jdb_cons (jds_if (jdt_w (jdw_or (jdt_not (jdt_val (jde_call G_law_whole (hr.mono (by decide)) g7_x_law_whole mg__law_whole kp__law_whole bd__law_whole pass0 (jda_cons (jde_var 11 (by rfl) v7_11 nd_x_law_found nc_x_law_found) (jda_nil)) nd_x_law_whole))) (jdw_or1 (jdt_not (jdt_val (jde_call G_law_whole (hr.mono (by decide)) g7_x_law_whole mg__law_whole kp__law_whole bd__law_whole pass0 (jda_cons (jde_var 12 (by rfl) v7_12 nd_x_law_back nc_x_law_back) (jda_nil)) nd_x_law_whole)))))) ?_ ?_) ?_
    · exact jdb_one (jds_ret (jde_bl))
    · exact jdb_nil
    exact jdb_one (jds_ret (jde_and (jde_eq (jde_var 11 (by rfl) v7_11 nd_x_law_found nc_x_law_found) (jde_var 10 (by rfl) v7_10 nd_x_law_due nc_x_law_due)) (jde_one (jde_eq (jde_var 12 (by rfl) v7_12 nd_x_law_back nc_x_law_back) (jde_sub (jde_int) (jde_var 10 (by rfl) v7_10 nd_x_law_due nc_x_law_due))))))
theorem ok_all {f_share_gap : Addr} {d_share_gap : FuncData} {f_share_sign : Addr} {d_share_sign : FuncData} {f__law_whole : Addr} {d__law_whole : FuncData} {f__law_at : Addr} {d__law_at : FuncData} {f__law_draws : Addr} {d__law_draws : FuncData} {f_law : Addr} {d_law : FuncData} (T : Txt K mg f_share_gap d_share_gap f_share_sign d_share_sign f__law_whole d__law_whole f__law_at d__law_at f__law_draws d__law_draws f_law d_law) : FnOk P w K mg base CX0 3 f_law d_law ["_law_script"] (dSp K m_law) := by
  have Gshare_gap : FnOk P w K mg base CX0 1 f_share_gap d_share_gap ["one", "other"] (dSp K m_share_gap) := ok_share_gap T.F_share_gap
  have Gshare_sign : FnOk P w K mg base CX0 2 f_share_sign d_share_sign ["one", "other"] (dSp K m_share_sign) := ok_share_sign T.F_share_sign T.m_share_gap T.k_share_gap T.n_share_gap  Gshare_gap
  have G_law_whole : FnOk P w K mg base CX0 1 f__law_whole d__law_whole ["_law_found"] (dSp K m__law_whole) := ok__law_whole T.F__law_whole  T.b_bool T.b_int T.b_isinstance
  have G_law_at : FnOk P w K mg base CX0 1 f__law_at d__law_at ["_law_script", "_law_k"] (dSp K m__law_at) := ok__law_at T.F__law_at  T.b_len
  have G_law_draws : FnOk P w K mg base CX0 2 f__law_draws d__law_draws ["_law_script", "_law_many"] (dSp K m__law_draws) := ok__law_draws T.F__law_draws T.m__law_at T.k__law_at T.n__law_at T.b_len T.b_range G_law_at
  have Glaw : FnOk P w K mg base CX0 3 f_law d_law ["_law_script"] (dSp K m_law) := ok_law T.F_law T.m__law_draws T.k__law_draws T.n__law_draws T.m__law_whole T.k__law_whole T.n__law_whole T.m_share_sign T.k_share_sign T.n_share_sign T.b_int T.b_max G_law_draws G_law_whole Gshare_sign
  exact Glaw
end
theorem all_mk {l : PySem.W.OpenLaw} {w : World} {K : PySem.W.Frag} {h : Heap} {mg : Str → Option Value} {fa : Addr} (X : K.In h) (G : h.Ns mainGlobals mg) (hfa : mg "law" = some (.ref fa))
    {f_share_gap : Addr} {oc_share_gap kV_share_gap dc_share_gap pm_share_gap cd_share_gap ct_share_gap : Value} {od_share_gap an_share_gap : Option Addr} {sl_share_gap : Array (Option Value)}
    {f_share_sign : Addr} {oc_share_sign kV_share_sign dc_share_sign pm_share_sign cd_share_sign ct_share_sign : Value} {od_share_sign an_share_sign : Option Addr} {sl_share_sign : Array (Option Value)}
    {f__law_whole : Addr} {oc__law_whole kV__law_whole dc__law_whole pm__law_whole cd__law_whole ct__law_whole : Value} {od__law_whole an__law_whole : Option Addr} {sl__law_whole : Array (Option Value)}
    {f__law_at : Addr} {oc__law_at kV__law_at dc__law_at pm__law_at cd__law_at ct__law_at : Value} {od__law_at an__law_at : Option Addr} {sl__law_at : Array (Option Value)}
    {f__law_draws : Addr} {oc__law_draws kV__law_draws dc__law_draws pm__law_draws cd__law_draws ct__law_draws : Value} {od__law_draws an__law_draws : Option Addr} {sl__law_draws : Array (Option Value)}
    {f_law : Addr} {oc_law kV_law dc_law pm_law cd_law ct_law : Value} {od_law an_law : Option Addr} {sl_law : Array (Option Value)}
    (a_share_gap : PySem.W.nsIn K mainGlobals "share_gap" = some (some (.ref f_share_gap)))
    (l_share_gap : K.lookup f_share_gap = some ⟨oc_share_gap, od_share_gap, .func (PySem.W.fnOf "share_gap" "share_gap" (defArgs t_share_gap) (defBody t_share_gap) (defScope t_share_gap) .none kV_share_gap dc_share_gap pm_share_gap an_share_gap cd_share_gap ct_share_gap), sl_share_gap⟩)
    (c_share_gap : PySem.W.codeIn K cd_share_gap "share_gap" = true)
    (k_share_gap : PySem.W.keepIn K (.ref f_share_gap) = true)
    (a_share_sign : PySem.W.nsIn K mainGlobals "share_sign" = some (some (.ref f_share_sign)))
    (l_share_sign : K.lookup f_share_sign = some ⟨oc_share_sign, od_share_sign, .func (PySem.W.fnOf "share_sign" "share_sign" (defArgs t_share_sign) (defBody t_share_sign) (defScope t_share_sign) .none kV_share_sign dc_share_sign pm_share_sign an_share_sign cd_share_sign ct_share_sign), sl_share_sign⟩)
    (c_share_sign : PySem.W.codeIn K cd_share_sign "share_sign" = true)
    (k_share_sign : PySem.W.keepIn K (.ref f_share_sign) = true)
    (a__law_whole : PySem.W.nsIn K mainGlobals "_law_whole" = some (some (.ref f__law_whole)))
    (l__law_whole : K.lookup f__law_whole = some ⟨oc__law_whole, od__law_whole, .func (PySem.W.fnOf "_law_whole" "_law_whole" (defArgs t__law_whole) (defBody t__law_whole) (defScope t__law_whole) .none kV__law_whole dc__law_whole pm__law_whole an__law_whole cd__law_whole ct__law_whole), sl__law_whole⟩)
    (c__law_whole : PySem.W.codeIn K cd__law_whole "_law_whole" = true)
    (k__law_whole : PySem.W.keepIn K (.ref f__law_whole) = true)
    (a__law_at : PySem.W.nsIn K mainGlobals "_law_at" = some (some (.ref f__law_at)))
    (l__law_at : K.lookup f__law_at = some ⟨oc__law_at, od__law_at, .func (PySem.W.fnOf "_law_at" "_law_at" (defArgs t__law_at) (defBody t__law_at) (defScope t__law_at) .none kV__law_at dc__law_at pm__law_at an__law_at cd__law_at ct__law_at), sl__law_at⟩)
    (c__law_at : PySem.W.codeIn K cd__law_at "_law_at" = true)
    (k__law_at : PySem.W.keepIn K (.ref f__law_at) = true)
    (a__law_draws : PySem.W.nsIn K mainGlobals "_law_draws" = some (some (.ref f__law_draws)))
    (l__law_draws : K.lookup f__law_draws = some ⟨oc__law_draws, od__law_draws, .func (PySem.W.fnOf "_law_draws" "_law_draws" (defArgs t__law_draws) (defBody t__law_draws) (defScope t__law_draws) .none kV__law_draws dc__law_draws pm__law_draws an__law_draws cd__law_draws ct__law_draws), sl__law_draws⟩)
    (c__law_draws : PySem.W.codeIn K cd__law_draws "_law_draws" = true)
    (k__law_draws : PySem.W.keepIn K (.ref f__law_draws) = true)
    (a_law : PySem.W.nsIn K mainGlobals "law" = some (some (.ref f_law)))
    (l_law : K.lookup f_law = some ⟨oc_law, od_law, .func (PySem.W.fnOf "law" "law" (defArgs t_law) (defBody t_law) (defScope t_law) .none kV_law dc_law pm_law an_law cd_law ct_law), sl_law⟩)
    (c_law : PySem.W.codeIn K cd_law "law" = true)
    (k_law : PySem.W.keepIn K (.ref f_law) = true)
    (z_bool : PySem.W.nsIn K mainGlobals "bool" = some none)
    (z_int : PySem.W.nsIn K mainGlobals "int" = some none)
    (z_isinstance : PySem.W.nsIn K mainGlobals "isinstance" = some none)
    (z_len : PySem.W.nsIn K mainGlobals "len" = some none)
    (z_max : PySem.W.nsIn K mainGlobals "max" = some none)
    (z_range : PySem.W.nsIn K mainGlobals "range" = some none)
    (good : ∀ ns : List Int, ns.length ≤ 63 → m_law [.lst (ns.map D.int)] = some (.bl true)) :
    ∃ fd : FuncData, (∀ (s : Shared) (v : Value), BindsTo s fd ⟨[v], []⟩ [("_law_script", v)]) ∧ ∀ base : Heap, K.In base → base.Ns mainGlobals mg → FnOk l.prog w K mg base CX0 3 fa fd ["_law_script"] (spTrue K) := by
  have e := hfa.symm.trans (PySem.W.mg_of X G a_law)
  cases e
  have F_share_gap := fun_mk (st := t_share_gap) l_share_gap c_share_gap k_share_gap
  have n_share_gap := F_share_gap.binds (ps := ["one", "other"]) fun _ _ _ _ _ _ us hl => match us, hl with | [_, _], _ => rfl
  have F_share_sign := fun_mk (st := t_share_sign) l_share_sign c_share_sign k_share_sign
  have n_share_sign := F_share_sign.binds (ps := ["one", "other"]) fun _ _ _ _ _ _ us hl => match us, hl with | [_, _], _ => rfl
  have F__law_whole := fun_mk (st := t__law_whole) l__law_whole c__law_whole k__law_whole
  have n__law_whole := F__law_whole.binds (ps := ["_law_found"]) fun _ _ _ _ _ _ us hl => match us, hl with | [_], _ => rfl
  have F__law_at := fun_mk (st := t__law_at) l__law_at c__law_at k__law_at
  have n__law_at := F__law_at.binds (ps := ["_law_script", "_law_k"]) fun _ _ _ _ _ _ us hl => match us, hl with | [_, _], _ => rfl
  have F__law_draws := fun_mk (st := t__law_draws) l__law_draws c__law_draws k__law_draws
  have n__law_draws := F__law_draws.binds (ps := ["_law_script", "_law_many"]) fun _ _ _ _ _ _ us hl => match us, hl with | [_, _], _ => rfl
  have F_law := fun_mk (st := t_law) l_law c_law k_law
  have n_law := F_law.binds (ps := ["_law_script"]) fun _ _ _ _ _ _ us hl => match us, hl with | [_], _ => rfl
  have T : Txt K mg _ _ _ _ _ _ _ _ _ _ _ _ := ⟨F_share_gap, PySem.W.mg_of X G a_share_gap, k_share_gap, n_share_gap, F_share_sign, PySem.W.mg_of X G a_share_sign, k_share_sign, n_share_sign, F__law_whole, PySem.W.mg_of X G a__law_whole, k__law_whole, n__law_whole, F__law_at, PySem.W.mg_of X G a__law_at, k__law_at, n__law_at, F__law_draws, PySem.W.mg_of X G a__law_draws, k__law_draws, n__law_draws, F_law, PySem.W.mg_of X G a_law, k_law, n_law, PySem.W.mg_none_of X G z_bool, PySem.W.mg_none_of X G z_int, PySem.W.mg_none_of X G z_isinstance, PySem.W.mg_none_of X G z_len, PySem.W.mg_none_of X G z_max, PySem.W.mg_none_of X G z_range⟩
  exact ⟨_, fun s v => .of_eq rfl, fun base _ _ => law_D (ok_all T) good⟩
theorem walk {l : PySem.W.OpenLaw} {q : Program} {loose : List Str} {XP : (Str → Option Value) → Heap → Prop} {YP : World → Heap → Prop} {d : DefRec} {K : Params → PySem.W.Frag} (hn : l.most = some 63) (hdf : d.params.defaults = [])
    (hY : ∀ (w : World) (h : Heap), YP w h → (K w.params).In h)
    (F : ∀ (w : World) (mg : Str → Option Value) (fa : Addr) (h : Heap), (K w.params).In h → h.Ns mainGlobals mg → mg d.name = some (.ref fa) →
      ∃ fd : FuncData, (∀ (s : Shared) (u : Value), BindsTo s fd ⟨[u], []⟩ [("_law_script", u)]) ∧ ∀ base : Heap, (K w.params).In base → base.Ns mainGlobals mg → FnOk l.prog w (K w.params) mg base CX0 3 fa fd ["_law_script"] (spTrue (K w.params))) :
    PySem.W.WalkO q loose XP YP l.row.toRowW d [] (fun f vs => PySem.call f vs) :=
  L2.walk_of (n := 63) (k := 3) (x := "_law_script") (CX := fun _ => CX0) (sp := fun w => spTrue (K w.params)) hn (by decide) hdf ⟨rfl, by decide, by decide⟩ hY F (fun _ _ a ns hl _ hS => ⟨a, ns, rfl, hS, hl, fun _ => rfl⟩) fun _ _ _ _ _ z => z
end S_rotstacks_k01_shares
set_option Elab.async false
set_option linter.all false
set_option maxRecDepth 100000
set_option maxHeartbeats 4000000
namespace S_rotstacks_k01_shares
open PySem L2 LB
noncomputable def tail : FS := sSeq (sSet 8 (fBin dMul (fIxV 2 (fC (.int 1))) (fIxV 3 (fC (.int 0))))) (sSeq (sSet 9 (fBin dMul (fIxV 3 (fC (.int 1))) (fIxV 2 (fC (.int 0))))) (sSeq (sSet 10 (fBin dSub (fCall bInt (fCons (fBin dGt (fVar 8) (fVar 9)) (fNil))) (fCall bInt (fCons (fBin dLt (fVar 8) (fVar 9)) (fNil))))) (sSeq (sSet 11 (fCall m_share_sign (fCons (fVar 2) (fCons (fVar 3) (fNil))))) (sSeq (sSet 12 (fCall m_share_sign (fCons (fVar 3) (fCons (fVar 2) (fNil))))) (sSeq (sIf (fOr (fNot (fTst (fCall m__law_whole (fCons (fVar 11) (fNil))))) (fNot (fTst (fCall m__law_whole (fCons (fVar 12) (fNil)))))) (sRet (fC (.bl false))) (sNil)) (sRet (fAndV (fBin dEq (fVar 11) (fVar 10)) (fBin dEq (fVar 12) (fBin dSub (fC (.int 0)) (fVar 10))))))))))
theorem tail_ok (a b c d : Int) (v0 v1 v4 v5 v6 v7 : Option Sl) (hb : Small b) (hd : Small d) :
    ∃ e', tail [v0, v1, some (.sh (.tup [.int a, .int b])), some (.sh (.tup [.int c, .int d])), v4, v5, v6, v7, none, none, none, none, none] = some (.rt (.bl true), e') := by
  have s1 := share_ok a b c d hb hd
  have s2 := share_ok c d a b hd hb
  by_cases h1 : d * a < b * c
  · have h2 : ¬ b * c < d * a := by omega
    simp [tail, dMul, hb, hd, h1, h2, s1, s2, whole_ok, atI, ixN]
  · by_cases h2 : b * c < d * a
    · simp [tail, dMul, hb, hd, h1, h2, s1, s2, whole_ok, atI, ixN]
    · simp [tail, dMul, hb, hd, h1, h2, s1, s2, whole_ok, atI, ixN]
noncomputable def pre : FS := sSeq (sSet 1 (fCall m__law_draws (fCons (fVar 0) (fCons (fC (.int 6)) (fNil))))) (sSeq (sSet 2 (fTup (fCons (fBin dAddI (fC (.int 1)) (fBin dMod (fIxV 1 (fC (.int 0))) (fC (.int 840)))) (fCons (fBin dMod (fIxV 1 (fC (.int 1))) (fC (.int 1401))) (fNil))))) (sSeq (sSet 3 (fTup (fCons (fBin dAddI (fC (.int 1)) (fBin dMod (fIxV 1 (fC (.int 2))) (fC (.int 840)))) (fCons (fBin dMod (fIxV 1 (fC (.int 3))) (fC (.int 1401))) (fNil))))) (sSeq (sIf (fTst (fBin dEq (fBin dMod (fIxV 1 (fC (.int 4))) (fC (.int 3))) (fC (.int 1)))) (sSeq (sSet 4 (fBin dAddI (fC (.int 1)) (fBin dMod (fIxV 1 (fC (.int 0))) (fC (.int 28))))) (sSeq (sSet 5 (fBin dMod (fIxV 1 (fC (.int 1))) (fC (.int 47)))) (sSeq (sSet 6 (fBin dAddI (fC (.int 1)) (fBin dMod (fIxV 1 (fC (.int 2))) (fC (.int 30))))) (sSeq (sSet 7 (fBin dAddI (fC (.int 1)) (fBin dMod (fIxV 1 (fC (.int 3))) (fC (.int 30))))) (sSeq (sSet 2 (fTup (fCons (fBin dMul (fVar 4) (fVar 6)) (fCons (fCall bMax (fCons (fC (.int 0)) (fCons (fBin dAddI (fBin dSub (fBin dMul (fVar 5) (fVar 6)) (fC (.int 1))) (fBin dMod (fBin dDiv (fIxV 1 (fC (.int 4))) (fC (.int 3))) (fC (.int 3)))) (fNil)))) (fNil))))) (sSet 3 (fTup (fCons (fBin dMul (fVar 4) (fVar 7)) (fCons (fBin dMul (fVar 5) (fVar 7)) (fNil)))))))))) (sNil)) (sSeq (sIf (fTst (fBin dEq (fBin dMod (fIxV 1 (fC (.int 4))) (fC (.int 3))) (fC (.int 2)))) (sSeq (sSet 6 (fBin dAddI (fC (.int 1)) (fBin dMod (fIxV 1 (fC (.int 0))) (fC (.int 840))))) (sSeq (sSet 5 (fBin dMod (fIxV 1 (fC (.int 1))) (fBin dAddI (fBin dDiv (fC (.int 1399)) (fVar 6)) (fC (.int 1))))) (sSeq (sSet 2 (fTup (fCons (fVar 6) (fCons (fCall bMax (fCons (fC (.int 0)) (fCons (fBin dAddI (fBin dSub (fBin dMul (fVar 5) (fVar 6)) (fC (.int 1))) (fBin dMod (fBin dDiv (fIxV 1 (fC (.int 4))) (fC (.int 3))) (fC (.int 3)))) (fNil)))) (fNil))))) (sSet 3 (fTup (fCons (fC (.int 1)) (fCons (fVar 5) (fNil)))))))) (sNil)) (sNil)))))
theorem law_split : s_law = sSeq pre tail := by
  unfold pre
  simp only [sSeq_assoc, nil_sSeq]
  rfl
theorem mul_small {x y : Int} (hx : 0 ≤ x ∧ x ≤ 2000) (hy : 0 ≤ y ∧ y ≤ 2000) : 0 ≤ x * y ∧ x * y ≤ 4000000 := by
  refine ⟨Int.mul_nonneg hx.1 hy.1, ?_⟩
  have := Int.mul_le_mul hx.2 hy.2 hy.1 (by omega : (0 : Int) ≤ 2000)
  omega
theorem pre_ok (S : D) (c0 c1 c2 c3 c4 c5 : Int) (hd : m__law_draws [S, .int 6] = some (.lst [.int c0, .int c1, .int c2, .int c3, .int c4, .int c5])) :
    ∃ a b c d v4 v5 v6 v7, Small b ∧ Small d ∧ pre [some (.sh S), none, none, none, none, none, none, none, none, none, none, none, none] =
      some (.nx, [some (.sh S), some (.sh (.lst [.int c0, .int c1, .int c2, .int c3, .int c4, .int c5])), some (.sh (.tup [.int a, .int b])), some (.sh (.tup [.int c, .int d])), v4, v5, v6, v7, none, none, none, none, none]) := by
  by_cases h1 : c4 % 3 = 1
  · have q1 : Small (1 + c0 % 28) := small_of (by omega)
    have q2 : Small (c1 % 47) := small_of (by omega)
    have m1 := mul_small (x := c1 % 47) (y := 1 + c2 % 30) (by omega) (by omega)
    have m2 := mul_small (x := c1 % 47) (y := 1 + c3 % 30) (by omega) (by omega)
    refine ⟨(1 + c0 % 28) * (1 + c2 % 30), if c1 % 47 * (1 + c2 % 30) - 1 + c4 / 3 % 3 > 0 then c1 % 47 * (1 + c2 % 30) - 1 + c4 / 3 % 3 else 0, (1 + c0 % 28) * (1 + c3 % 30), c1 % 47 * (1 + c3 % 30),
      some (.sh (.int (1 + c0 % 28))), some (.sh (.int (c1 % 47))), some (.sh (.int (1 + c2 % 30))), some (.sh (.int (1 + c3 % 30))), small_of (by split <;> omega), small_of (by omega), ?_⟩
    have b3 : Bnd 1 1073741824 3 := ⟨by decide, by decide⟩
    simp [pre, hd, h1, dMod, dDiv, dMul, atI, ixN, q1, q2, b3]
  · by_cases h2 : c4 % 3 = 2
    · have p0 : 0 < 1 + c0 % 840 := by omega
      have p1 : Bnd 1 1073741824 (1 + c0 % 840) := ⟨by omega, by omega⟩
      have p2 : 0 ≤ 1399 / (1 + c0 % 840) := Int.ediv_nonneg (by decide) (by omega)
      have p2' : 1399 / (1 + c0 % 840) ≤ 1399 := Int.ediv_le_self _ (by decide)
      have p3 : 0 < 1399 / (1 + c0 % 840) + 1 := by omega
      have p4 : 0 ≤ c1 % (1399 / (1 + c0 % 840) + 1) := Int.emod_nonneg _ (by omega)
      have p5 : c1 % (1399 / (1 + c0 % 840) + 1) < 1399 / (1 + c0 % 840) + 1 := Int.emod_lt_of_pos _ p3
      have q2 : Small (c1 % (1399 / (1 + c0 % 840) + 1)) := small_of (by omega)
      have m1 := mul_small (x := c1 % (1399 / (1 + c0 % 840) + 1)) (y := 1 + c0 % 840) (by omega) (by omega)
      refine ⟨1 + c0 % 840, if c1 % (1399 / (1 + c0 % 840) + 1) * (1 + c0 % 840) - 1 + c4 / 3 % 3 > 0 then c1 % (1399 / (1 + c0 % 840) + 1) * (1 + c0 % 840) - 1 + c4 / 3 % 3 else 0, 1, c1 % (1399 / (1 + c0 % 840) + 1),
        none, some (.sh (.int (c1 % (1399 / (1 + c0 % 840) + 1)))), some (.sh (.int (1 + c0 % 840))), none, small_of (by split <;> omega), small_of (by omega), ?_⟩
      have b3 : Bnd 1 1073741824 3 := ⟨by decide, by decide⟩
      simp [pre, hd, h1, h2, dMod, dDiv, dMul, atI, ixN, p0, p1, p3, q2, b3]
    · refine ⟨1 + c0 % 840, c1 % 1401, 1 + c2 % 840, c3 % 1401, none, none, none, none, small_of (by omega), small_of (by omega), ?_⟩
      simp [pre, hd, h1, h2, dMod, atI, ixN]
theorem good (ns : List Int) (hn : ns.length ≤ 63) : m_law [.lst (ns.map D.int)] = some (.bl true) := by
  obtain ⟨cs, hl, hd⟩ := draws_ok ns 6 (by omega)
  match cs, hl with
  | [c0, c1, c2, c3, c4, c5], _ =>
    obtain ⟨a, b, c, d, v4, v5, v6, v7, hb, hd', hp⟩ := pre_ok (.lst (ns.map D.int)) c0 c1 c2 c3 c4 c5 hd
    obtain ⟨e', he⟩ := tail_ok a b c d (some (.sh (.lst (ns.map D.int)))) (some (.sh (.lst [.int c0, .int c1, .int c2, .int c3, .int c4, .int c5]))) v4 v5 v6 v7 hb hd'
    refine runD_rt (e' := e') rfl ?_
    rw [law_split]
    have hs : dStart 13 [D.lst (ns.map D.int)] = [some (.sh (.lst (ns.map D.int))), none, none, none, none, none, none, none, none, none, none, none, none] := rfl
    rw [hs]
    simp only [sSeq, hp, Option.bind_some, he]
end S_rotstacks_k01_shares
open PySem PySem.W PyProof.Rows
set_option maxRecDepth 100000 in
set_option maxHeartbeats 0 in
theorem PySem.Challenge.cw_rotstacks_k01_shares_holds : PySem.Challenge.rw_rotstacks_k01_shares.Holds := by
  w_on; o_law; k_head; (case hw => w_witness2)
  k_fill
  refine S_rotstacks_k01_shares.walk (l := PySem.Challenge.rw_rotstacks_k01_shares) rfl rfl (fun w h Y => PySem.W.kIn_of Y) ?F
  case F =>
    intro w mg fa h KX G hmg
    refine' S_rotstacks_k01_shares.all_mk KX G hmg ?a_share_gap ?l_share_gap ?c_share_gap ?k_share_gap ?a_share_sign ?l_share_sign ?c_share_sign ?k_share_sign ?a__law_whole ?l__law_whole ?c__law_whole ?k__law_whole ?a__law_at ?l__law_at ?c__law_at ?k__law_at ?a__law_draws ?l__law_draws ?c__law_draws ?k__law_draws ?a_law ?l_law ?c_law ?k_law ?z_bool ?z_int ?z_isinstance ?z_len ?z_max ?z_range S_rotstacks_k01_shares.good
    (case a_share_gap => k_is)
    (case l_share_gap => k_is)
    (case c_share_gap => k_is)
    (case k_share_gap => k_is)
    (case a_share_sign => k_is)
    (case l_share_sign => k_is)
    (case c_share_sign => k_is)
    (case k_share_sign => k_is)
    (case a__law_whole => k_is)
    (case l__law_whole => k_is)
    (case c__law_whole => k_is)
    (case k__law_whole => k_is)
    (case a__law_at => k_is)
    (case l__law_at => k_is)
    (case c__law_at => k_is)
    (case k__law_at => k_is)
    (case a__law_draws => k_is)
    (case l__law_draws => k_is)
    (case c__law_draws => k_is)
    (case k__law_draws => k_is)
    (case a_law => k_is)
    (case l_law => k_is)
    (case c_law => k_is)
    (case k_law => k_is)
    (case z_bool => k_is)
    (case z_int => k_is)
    (case z_isinstance => k_is)
    (case z_len => k_is)
    (case z_max => k_is)
    (case z_range => k_is)
