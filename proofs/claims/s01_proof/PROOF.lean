import PyProof.Rows.All
import Wide.All
import OpenK.AllK
import Wide.FinOn
import PyProof.EqAt
import PyProof.EqKinds
import PyProof.TupleCall
import KE.BitLaws
import KE.KMinKey
import Open.SpecLaws
import KE.OsHead
import KE.OsGo
import PySem.Challenge.RW_wardrobes_s01_answers
set_option Elab.async false
set_option linter.all false
section
set_option maxRecDepth 100000
namespace L2
open PySem PySem.Spec PyProof.Rows
abbrev Key := Sum Int Str
def keyIs : Key → Value → Bool
  | .inl k, v => Value.isInt k v
  | .inr x, v => Value.isStrOf x v
def keyH (w : World) : Key → Int
  | .inl k => hashInt k
  | .inr x => hashStr w x
theorem keyIs_shape : ∀ {k : Key} {v : Value}, keyIs k v = true → (∃ i t, k = Sum.inl i ∧ v = Value.int i t) ∨ (∃ x t, k = Sum.inr x ∧ v = Value.str x t)
  | .inl i, v, h => by
    obtain ⟨t, e⟩ := Value.isInt_shape (k := i) (v := v) h
    exact .inl ⟨i, t, rfl, e⟩
  | .inr x, v, h => by
    obtain ⟨t, e⟩ := Value.isStrOf_shape (x := x) (v := v) h
    exact .inr ⟨x, t, rfl, e⟩
theorem key_ll (a b : Int) : decide ((Sum.inl a : Key) = Sum.inl b) = (a == b) := by
  by_cases e : a = b
  · subst e; simp
  · have h : ¬ (Sum.inl a : Key) = Sum.inl b := fun q => e (Sum.inl.inj q)
    rw [decide_eq_false h]
    exact (beq_eq_false_iff_ne.mpr e).symm
theorem key_rr (a b : Str) : decide ((Sum.inr a : Key) = Sum.inr b) = decide (a = b) := by
  by_cases e : a = b
  · subst e; simp
  · have h : ¬ (Sum.inr a : Key) = Sum.inr b := fun q => e (Sum.inr.inj q)
    rw [decide_eq_false h, decide_eq_false e]
theorem key_lr (a : Int) (b : Str) : decide ((Sum.inl a : Key) = Sum.inr b) = false := decide_eq_false (fun q => nomatch q)
theorem key_rl (a : Str) (b : Int) : decide ((Sum.inr a : Key) = Sum.inl b) = false := decide_eq_false (fun q => nomatch q)
def mixKind (prog : Program) (w : World) : PySem.KeyKind prog w Key where
  is := keyIs
  hash := keyH w
  inj := fun v a b ha hb => by
    rcases keyIs_shape ha with ⟨i, t, rfl, rfl⟩ | ⟨x, t, rfl, rfl⟩
    · rcases keyIs_shape hb with ⟨j, u, rfl, e⟩ | ⟨y, u, rfl, e⟩
      · injection e with e1 _; rw [e1]
      · exact nomatch e
    · rcases keyIs_shape hb with ⟨j, u, rfl, e⟩ | ⟨y, u, rfl, e⟩
      · exact nomatch e
      · injection e with e1 _; rw [e1]
  byValue := fun k v h => by
    rcases keyIs_shape h with ⟨i, t, rfl, rfl⟩ | ⟨x, t, rfl, rfl⟩ <;> rfl
  pyHash := fun hv h => by
    rcases keyIs_shape hv with ⟨i, t, rfl, rfl⟩ | ⟨x, t, rfl, rfl⟩
    · exact wpAny_pyHash_int h
    · exact wpAny_pyHash_str h
  eqBool := fun hu hv h => by
    rcases keyIs_shape hu with ⟨i, t, rfl, rfl⟩ | ⟨x, t, rfl, rfl⟩
    · rcases keyIs_shape hv with ⟨j, u, rfl, rfl⟩ | ⟨y, u, rfl, rfl⟩
      · rw [key_ll] at h; exact wpAny_eqBool_int h
      · rw [key_lr] at h; exact SeqAt.EqAt.int_str i t y u _ _ _ _ h
    · rcases keyIs_shape hv with ⟨j, u, rfl, rfl⟩ | ⟨y, u, rfl, rfl⟩
      · rw [key_rl] at h; exact SeqAt.EqAt.str_int x t j u _ _ _ _ h
      · rw [key_rr] at h; exact wpAny_eqBool_str h
  «strs» := fun k x t v h => by
    rcases keyIs_shape h with ⟨i, u, rfl, e⟩ | ⟨y, u, rfl, e⟩
    · exact nomatch e
    · injection e with e1 _
      subst e1
      cases v <;> rfl
end L2
namespace L2
open PySem PySem.Spec PyProof.Rows
inductive V where
  | non | bl (b : Bool) | int (i : Int) | str (x : Str) | byt (b : Array UInt8) | flt (b : UInt64) | ref (a : Addr) | ty (n : String)
  deriving DecidableEq
def RelV : V → Value → Prop
  | .non, u => u = Value.none
  | .bl b, u => u = Value.bool b
  | .int i, u => ∃ t, u = Value.int i t
  | .str x, u => ∃ t, u = Value.str x t
  | .byt b, u => ∃ t, u = Value.bytes b t
  | .flt b, u => ∃ t, u = Value.float b t
  | .ref a, u => u = Value.ref a
  | .ty n, u => u = Value.type n
abbrev Vals : List V → List Value → Prop := Paired RelV
theorem Vals.length {xs : List V} {us : List Value} (r : Vals xs us) : xs.length = us.length := Paired.length r
theorem Vals.get : ∀ {xs : List V} {us : List Value} {i : Nat} {x : V}, Vals xs us → xs[i]? = some x → ∃ u, us[i]? = some u ∧ RelV x u
  | _, _, _, _, .nil, e => by simp at e
  | _, _, 0, _, .cons r _, e => by simp at e; subst e; exact ⟨_, rfl, r⟩
  | _, _, i + 1, x, .cons _ t, e => by
    obtain ⟨u, h1, h2⟩ := Vals.get (i := i) (x := x) t (by simpa using e)
    exact ⟨u, by simpa using h1, h2⟩
theorem Vals.append : ∀ {xs ys : List V} {us ws : List Value}, Vals xs us → Vals ys ws → Vals (xs ++ ys) (us ++ ws)
  | _, _, _, _, .nil, s => s
  | _, _, _, _, .cons r t, s => .cons r (Vals.append t s)
theorem Vals.take : ∀ {xs : List V} {us : List Value} (n : Nat), Vals xs us → Vals (xs.take n) (us.take n)
  | _, _, 0, _ => .nil
  | _, _, _ + 1, .nil => .nil
  | _, _, n + 1, .cons r t => .cons r (Vals.take n t)
theorem Vals.drop : ∀ {xs : List V} {us : List Value} (n : Nat), Vals xs us → Vals (xs.drop n) (us.drop n)
  | _, _, 0, r => r
  | _, _, _ + 1, .nil => .nil
  | _, _, n + 1, .cons _ t => Vals.drop n t
def RelO : Option V → Option Value → Prop
  | some v, some u => RelV v u
  | none, none => True
  | _, _ => False
def KV {κ : Type} : List (κ × V) → List (κ × Value) → Prop := Paired fun (p : κ × V) (q : κ × Value) => p.1 = q.1 ∧ RelV p.2 q.2
def kV : Key → V
  | .inl i => .int i
  | .inr x => .str x
inductive HO where
  | lst (xs : List V)
  | tup (xs : List V)
  | dK (kvs : List (Key × V)) | dT (kvs : List (List Key × V))
  | set (S : Int → Bool) (n : Nat)
  | ins (C dx : Addr) (fs : List (Str × V))
  | own (x : Addr)
  | xd (fs : List (Str × V))
  | met (f x : Addr)
  | rng (lo hi : Int)
  | frz (o : Obj) (u : HO)
  | tbl (ps : Array Value)
  | ext (φ : Heap → Prop)
abbrev Hp := Addr → Option HO
def upd (H : Hp) (a : Addr) (o : HO) : Hp := fun b => if b = a then some o else H b
theorem upd_same {H : Hp} {a : Addr} {o : HO} : upd H a o a = some o := by unfold upd; rw [if_pos rfl]
theorem upd_ne {H : Hp} {a b : Addr} {o : HO} (h : b ≠ a) : upd H a o b = H b := by unfold upd; rw [if_neg h]
theorem ne_of {H : Hp} {a b : Addr} {o u : HO} (h : H a = some o) (h' : H b = some u) (d : o ≠ u) : a ≠ b := by
  intro e; subst e; rw [h] at h'; exact d (Option.some.inj h')
theorem ne_of_none {H : Hp} {a b : Addr} {o : HO} (h : H a = some o) (h' : H b = none) : a ≠ b := by
  intro e; subst e; rw [h] at h'; cases h'
section
variable (P : Program) (w : World)
def ObjOk (H : Hp) (h : Heap) (a : Addr) : HO → Prop
  | .lst xs => xs.length ≤ sizeLine ∧ ∃ (its : List Value) (n : Nat), Vals xs its ∧ h.get? a = some { cls := .type "list", data := .seq its.toArray n }
  | .tup xs => xs.length ≤ sizeLine ∧ ∃ its : List Value, Vals xs its ∧ IsTup h a its.toArray
  | .dK kvs => kvs.length ≤ sizeLine ∧ (a == sysModules) = false ∧ ∃ vs, KV kvs vs ∧ h.DictOf (mixKind P w) a vs
  | .dT kvs => kvs.length ≤ sizeLine ∧ (a == sysModules) = false ∧ ∃ xs : List (List Key × Addr × Value),
      Paired (fun (p : List Key × V) (q : List Key × Addr × Value) => p.1 = q.1 ∧ H q.2.1 = some (.tup (p.1.map kV)) ∧ RelV p.2 q.2.2) kvs xs ∧
      ∃ o es ep, h.get? a = some o ∧ o.ExactDict ∧ o.data = .dict es ep ∧ es.toList = xs.map (entryOfKey (tupleKind (mixKind P w))) ∧ (xs.map (·.1)).Nodup
  | .set S n => h.SetOf (intKind P w) a S n
  | .ins C dx fs => H dx = some (.own a) ∧ fs.length ≤ 1000 ∧ dx ≠ a ∧ h.get? a = some (PySem.W.instObj C dx) ∧
      ∃ mA, h.Ns1 dx mA ∧ (∀ f, RelO (fs.lookup f) (mA f)) ∧ PySem.Within mA (fs.map (·.1))
  | .own _ => ∃ o, h.get? a = some o
  | .xd fs => ∃ mA, h.Ns1 a mA ∧ ∀ f, RelO (fs.lookup f) (mA f)
  | .rng lo hi => ∃ t u v, h.get? a = some { cls := .type "range", data := .fields #[.int lo t, .int hi u, .int 1 v] }
  | .frz o u => h.get? a = some o ∧ ObjOk H h a u
  | .tbl ps => h.get? a = some { cls := .none, data := .fields ps }
  | .met f x => h.get? a = some (PySem.W.methodObj (.ref f) (.ref x))
  | .ext φ => φ h ∧ (∃ o, h.get? a = some o) ∧ ∀ h1 h2 : Heap, φ h1 → (∀ o, h1.get? a = some o → h2.get? a = some o) → φ h2
def HOk (H : Hp) (h : Heap) : Prop := ∀ a o, H a = some o → ObjOk P w H h a o
end
section
variable {P : Program} {w : World} {H H' : Hp} {h h' : Heap} {a : Addr} {o : HO}
theorem ObjOk.lt (x : ObjOk P w H h a o) : a < h.objs.size := by
  cases o with
  | lst xs => obtain ⟨_, _, _, _, e⟩ := x; exact Heap.lt_size e
  | tup xs => obtain ⟨_, _, _, p⟩ := x; exact p.lt
  | dK kvs => obtain ⟨_, _, _, _, o, _, _, e, _⟩ := x; exact Heap.lt_size e
  | dT kvs => obtain ⟨_, _, _, _, o, _, _, e, _⟩ := x; exact Heap.lt_size e
  | set S n => obtain ⟨o, _, _, _, e, _⟩ := x; exact Heap.lt_size e
  | ins C dx fs => obtain ⟨_, _, _, e, _⟩ := x; exact Heap.lt_size e
  | own y => obtain ⟨_, e⟩ := x; exact Heap.lt_size e
  | xd fs => obtain ⟨_, ⟨_, _, _, e, _⟩, _⟩ := x; exact Heap.lt_size e
  | rng lo hi => obtain ⟨_, _, _, e⟩ := x; exact Heap.lt_size e
  | frz ob u => obtain ⟨e, _⟩ := x; exact Heap.lt_size e
  | tbl ps => exact Heap.lt_size (show h.get? a = some _ from x)
  | met f y => exact Heap.lt_size (show h.get? a = some _ from x)
  | ext φ => obtain ⟨_, ⟨_, e⟩, _⟩ := x; exact Heap.lt_size e
theorem Paired.mapP {α β : Type} {F G : α → β → Prop} : ∀ {l₁ : List α} {l₂ : List β}, Paired F l₁ l₂ → (∀ a b, F a b → G a b) → Paired G l₁ l₂
  | _, _, .nil, _ => .nil
  | _, _, .cons r t, f => .cons (f _ _ r) (Paired.mapP t f)
theorem ObjOk.stay (x : ObjOk P w H h a o) (k : ∀ b u, (b = a ∨ H b = some (.own a)) → h.get? b = some u → h'.get? b = some u)
    (ho : ∀ b, H b = some (.own a) → H' b = some (.own a)) (ht : ∀ b xs, H b = some (.tup xs) → H' b = some (.tup xs)) : ObjOk P w H' h' a o := by
  induction o with
  | lst xs => obtain ⟨z, its, n, r, e⟩ := x; exact ⟨z, its, n, r, k _ _ (.inl rfl) e⟩
  | tup xs => obtain ⟨z, its, r, ob, e, c⟩ := x; exact ⟨z, its, r, ob, k _ _ (.inl rfl) e, c⟩
  | dK kvs => obtain ⟨z, y, vs, r, ob, es, ep, e, c⟩ := x; exact ⟨z, y, vs, r, ob, es, ep, k _ _ (.inl rfl) e, c⟩
  | dT kvs =>
    obtain ⟨z, y, xs, r, ob, es, ep, e, c⟩ := x
    exact ⟨z, y, xs, Paired.mapP r fun p q z => ⟨z.1, ht _ _ z.2.1, z.2.2⟩, ob, es, ep, k _ _ (.inl rfl) e, c⟩
  | set S n => obtain ⟨ob, es, ep, t, e, c⟩ := x; exact ⟨ob, es, ep, t, k _ _ (.inl rfl) e, c⟩
  | ins C dx fs =>
    obtain ⟨d, z, ne, e, mA, ⟨od, es, ep, e2, c⟩, r⟩ := x
    exact ⟨ho _ d, z, ne, k _ _ (.inl rfl) e, mA, ⟨od, es, ep, k _ _ (.inr d) e2, c⟩, r⟩
  | own y => obtain ⟨ob, e⟩ := x; exact ⟨ob, k _ _ (.inl rfl) e⟩
  | xd fs => obtain ⟨mA, ⟨od, es, ep, e, c⟩, r⟩ := x; exact ⟨mA, ⟨od, es, ep, k _ _ (.inl rfl) e, c⟩, r⟩
  | rng lo hi => obtain ⟨t, u, v, e⟩ := x; exact ⟨t, u, v, k _ _ (.inl rfl) e⟩
  | frz ob u ih => obtain ⟨e, q⟩ := x; exact ⟨k _ _ (.inl rfl) e, ih q⟩
  | tbl ps =>
    have e : h.get? a = some { cls := .none, data := .fields ps } := x
    show h'.get? a = some { cls := .none, data := .fields ps }
    exact k a _ (.inl rfl) e
  | met f y =>
    have e : h.get? a = some (PySem.W.methodObj (.ref f) (.ref y)) := x
    show h'.get? a = some (PySem.W.methodObj (.ref f) (.ref y))
    exact k a _ (.inl rfl) e
  | ext φ => obtain ⟨p, ⟨o, e⟩, st⟩ := x; exact ⟨st _ _ p fun o q => k _ _ (.inl rfl) q, ⟨o, k _ _ (.inl rfl) e⟩, st⟩
theorem HOk.lt (x : HOk P w H h) (e : H a = some o) : a < h.objs.size := (x a o e).lt
theorem HOk.fresh (x : HOk P w H h) (e : h.objs.size ≤ a) : H a = none := by
  cases q : H a with
  | none => rfl
  | some u => exact absurd (Nat.lt_of_lt_of_le (x.lt q) e) (Nat.lt_irrefl _)
theorem HOk.kept (x : HOk P w H h) (k : ∀ b u, h.get? b = some u → h'.get? b = some u) : HOk P w H h' := fun a o e =>
  (x a o e).stay (fun b u _ q => k b u q) (fun _ q => q) fun _ _ q => q
theorem HOk.laid (x : HOk P w H h) (k : ∀ b u, h.get? b = some u → h'.get? b = some u) (hp : h.objs.size ≤ a) (new : ObjOk P w (upd H a o) h' a o) : HOk P w (upd H a o) h' := fun b u e => by
  have hn := x.fresh hp
  by_cases hb : b = a
  · subst hb; rw [upd_same] at e; cases e; exact new
  · rw [upd_ne hb] at e
    exact (x b u e).stay (fun c v _ q => k c v q) (fun c q => by rw [upd_ne (ne_of_none q hn)]; exact q) fun c xs q => by rw [upd_ne (ne_of_none q hn)]; exact q
end
def Rd (H : Hp) (a : Addr) (u : HO) : Prop := H a = some u ∨ ∃ o, H a = some (.frz o u)
theorem Rd.ok {P : Program} {w : World} {H : Hp} {h : Heap} {a : Addr} {u : HO} (r : Rd H a u) (x : HOk P w H h) : ObjOk P w H h a u := by
  rcases r with r | ⟨o, r⟩
  · exact x a u r
  · obtain ⟨_, q⟩ := x a _ r
    exact q
def Mut : Option HO → Prop
  | some (.lst _) => True
  | some (.dK _) => True
  | some (.dT _) => True
  | some (.set _ _) => True
  | some (.ins _ _ _) => True
  | some (.ext _) => True
  | _ => False
section
variable {P : Program} {w : World} {H : Hp} {h h' : Heap} {x e : Addr} {o' : HO}
theorem HOk.write (ok : HOk P w H h) (mu : Mut (H x)) (he : e = x ∨ H e = some (.own x)) (k : ∀ b u, b ≠ e → h.get? b = some u → h'.get? b = some u) (heo : ∃ u, h'.get? e = some u)
    (new : ObjOk P w (upd H x o') h' x o') : HOk P w (upd H x o') h' := fun b u q => by
  have nown : ∀ c y, H c = some (.own y) → c ≠ x := fun c y r z => by subst z; rw [r] at mu; exact mu
  have ntup : ∀ c xs, H c = some (.tup xs) → c ≠ x := fun c xs r z => by subst z; rw [r] at mu; exact mu
  by_cases hb : b = x
  · subst hb; rw [upd_same] at q; cases q; exact new
  · rw [upd_ne hb] at q
    by_cases hbe : b = e
    · have q' : H b = some (.own x) := by
        rcases he with z | z
        · exact absurd (hbe.trans z) hb
        · rw [hbe]; exact z
      rw [q] at q'; cases q'
      obtain ⟨v, hv⟩ := heo
      exact ⟨v, by rw [hbe]; exact hv⟩
    · refine (ok b u q).stay (fun c v hc r => k c v ?_ r) (fun c r => by rw [upd_ne (nown c b r)]; exact r) fun c xs r => by rw [upd_ne (ntup c xs r)]; exact r
      rcases hc with rfl | hc
      · exact hbe
      · rintro rfl
        rcases he with z | z
        · exact nown c b hc z
        · rw [hc] at z; cases z; exact hb rfl
end
structure Un (fs ex : List Addr) (H H' : Hp) (h h' : Heap) : Prop where
  keep : ∀ b o, h.get? b = some o → H b = none → b ∉ fs → b ∉ ex → h'.get? b = some o
  slot : ∀ b o, h.get? b = some o → H b = none → b ∈ fs → b ∉ ex → ∃ sl, h'.get? b = some { o with slots := sl }
  free : ∀ b o, h.get? b = some o → H b = none → b ∉ ex → H' b = none
  there : ∀ b o, h.get? b = some o → b ∉ ex → ∃ o', h'.get? b = some o'
  tups : ∀ b xs, H b = some (.tup xs) → H' b = some (.tup xs)
  frzs : ∀ b o u, H b = some (.frz o u) → H' b = some (.frz o u)
  tbls : ∀ b ps, H b = some (.tbl ps) → ∃ more, H' b = some (.tbl (ps ++ more))
section
variable {fs fs' ex ex' : List Addr} {H H1 H2 : Hp} {h h1 h2 h' : Heap} {a x e : Addr} {o : HO}
theorem Un.any (u : Un fs ex H H1 h h1) {b : Addr} {ob : Obj} (q : h.get? b = some ob) (n : H b = none) (hx : b ∉ ex) : ∃ sl, h1.get? b = some { ob with slots := sl } := by
  by_cases hb : b ∈ fs
  · exact u.slot b ob q n hb hx
  · exact ⟨ob.slots, u.keep b ob q n hb hx⟩
theorem Un.kept (k : ∀ b u, h.get? b = some u → h'.get? b = some u) : Un fs ex H H h h' :=
  ⟨fun b ob q _ _ _ => k b ob q, fun b ob q _ _ _ => ⟨ob.slots, k b ob q⟩, fun _ _ _ n _ => n, fun b ob q _ => ⟨ob, k b ob q⟩, fun _ _ q => q, fun _ _ _ q => q, fun _ ps q => ⟨#[], by rw [q]; simp⟩⟩
theorem Un.refl : Un fs ex H H h h := Un.kept fun _ _ q => q
theorem Un.laid (k : ∀ b u, h.get? b = some u → h'.get? b = some u) (hp : h.objs.size ≤ a) (hn : H a = none) : Un fs ex H (upd H a o) h h' where
  keep := fun b u q _ _ _ => k b u q
  slot := fun b u q _ _ _ => ⟨u.slots, k b u q⟩
  free := fun b u q n _ => by rw [upd_ne (Nat.ne_of_lt (Nat.lt_of_lt_of_le (Heap.lt_size q) hp))]; exact n
  there := fun b u q _ => ⟨u, k b u q⟩
  tups := fun b xs q => by rw [upd_ne (ne_of_none q hn)]; exact q
  frzs := fun b u xs q => by rw [upd_ne (ne_of_none q hn)]; exact q
  tbls := fun b ps q => ⟨#[], by rw [upd_ne (ne_of_none q hn), q]; simp⟩
theorem Un.write (mu : Mut (H x)) (he : e = x ∨ H e = some (.own x)) (k : ∀ b u, b ≠ e → h.get? b = some u → h'.get? b = some u) (heo : ∃ u, h'.get? e = some u) : Un fs ex H (upd H x o) h h' := by
  have hx : ∀ b, H b = none → b ≠ x := fun b n z => by subst z; rw [n] at mu; exact mu
  have hb : ∀ b, H b = none → b ≠ e := fun b n z => by
    subst z
    rcases he with r | r
    · exact hx b n r
    · rw [n] at r; cases r
  have hm : ∀ b u, H b = some u → ¬ Mut (some u) → b ≠ x := fun b u q nm z => by subst z; rw [q] at mu; exact nm mu
  refine ⟨fun b u q n _ _ => k b u (hb b n) q, fun b u q n _ _ => ⟨u.slots, k b u (hb b n) q⟩, fun b u q n _ => by rw [upd_ne (hx b n)]; exact n, fun b u q _ => ?_,
    fun b xs q => by rw [upd_ne (hm b _ q fun z => z)]; exact q, fun b u xs q => by rw [upd_ne (hm b _ q fun z => z)]; exact q, fun b ps q => ⟨#[], by rw [upd_ne (hm b _ q fun z => z), q]; simp⟩⟩
  by_cases hbe : b = e
  · subst hbe; exact heo
  · exact ⟨u, k b u hbe q⟩
end
def trk (h : Heap) (H : Hp) : List Addr := (List.range h.objs.size).filter fun a => (H a).isSome
def hidT (h : Heap) (H : Hp) : Heap := PySem.W.hideAll h (trk h H)
theorem hidT_size (h : Heap) (H : Hp) : (hidT h H).objs.size = h.objs.size := PySem.W.hideAll_size _ _
theorem hidT_get {h : Heap} {H : Hp} {b : Addr} {o : Obj} (e : h.get? b = some o) (n : H b = none) : (hidT h H).get? b = some o :=
  PySem.W.hideAll_get _ e fun hm => by
    have q : (H b).isSome = true := (List.mem_filter.mp hm).2
    rw [n] at q; simp at q
theorem of_hidT {h : Heap} {H : Hp} {b : Addr} {o : Obj} (e : (hidT h H).get? b = some o) : h.get? b = some o ∧ H b = none := by
  have e' : h.get? b = some o := PySem.W.of_hideAll (trk h H) e
  refine ⟨e', ?_⟩
  cases q : H b with
  | none => rfl
  | some x =>
    have hm : b ∈ trk h H := List.mem_filter.mpr ⟨List.mem_range.mpr (Heap.lt_size e'), by simp [q]⟩
    have z : (hidT h H).get? b = none := PySem.W.hideAll_none (trk h H) hm
    rw [z] at e; cases e
end L2
namespace L2
open PySem PySem.Spec PyProof.Rows
structure Mod (K : PySem.W.Frag) (mg : Str → Option Value) (base : Heap) : Prop where
  kin : K.In base
  glob : base.Ns mainGlobals mg
  blt : ∃ mb, base.Ns builtinsNs mb ∧ ∀ x : Str, x ≠ "__name__" → mb x = bootBuiltins x
  nolimit : base.NoLimit
structure Cx where
  prog : Program
  w : World
  K : PySem.W.Frag
  mg : Str → Option Value
  base : Heap
  A : Around
  N : List Str
  s_0 : Shared
  H_0 : Hp
  env : Env
  outer : List Env
  stack : List Env
  ex : List Addr
  fn : Str → Bool
  calm : Bool
  pn : List (Addr × Obj)
  xe : Value → Shared → Prop
def frs (l : List Env) : List Addr := l.filterMap (·.frame)
abbrev Cx.fs (X : Cx) : List Addr := frs X.outer
def Vis (sc : Scope) (x : Str) : Prop := sc.names.lookup x = some .local ∨ sc.names.lookup x = some .cell ∨ sc.names.lookup x = some .free
def Loc (sc : Scope) (x : Str) : Prop := sc.names.lookup x = some .local ∨ sc.names.lookup x = some .cell
def Look (env : Env) (h : Heap) (m : Str → Option Value) (x : Str) (u : Value) : Prop :=
  (env.kindOf x = some .local ∧ m x = some u) ∨ ((env.kindOf x = some .cell ∨ env.kindOf x = some .free) ∧ ∃ c, env.cells.lookup x = some c ∧ h.IsCell c (some u))
structure Cx.Ok (X : Cx) : Prop where
  mod : Mod X.K X.mg X.base
  kind : X.env.scope.kind = .function
  glob : X.env.globals = mainGlobals
  blt : X.env.builtins = builtinsNs
  above : X.s_0.heap.objs.size ≤ X.env.locals
  inj : ∀ x y c, X.env.cells.lookup x = some c → X.env.cells.lookup y = some c → x = y
  has : ∀ x, (X.env.kindOf x = some .cell ∨ X.env.kindOf x = some .free) → ∃ c, X.env.cells.lookup x = some c
  cab : ∀ x c, X.fn x = true → X.env.cells.lookup x = some c → X.s_0.heap.objs.size ≤ c
  hd : X.calm = true → X.A.handled = none
  frames : X.A.frames = some X.stack
  stk : X.stack = X.outer ∨ (X.stack = X.env :: X.outer ∧ X.env.frame = some X.env.locals)
  exf : ∀ b ∈ X.ex, b ≠ X.env.locals ∧ ∀ x c, X.env.cells.lookup x = some c → c ≠ b
  bs : ∀ b o, X.base.get? b = some o → X.s_0.heap.get? b = some o ∧ X.H_0 b = none
  bsz : X.base.objs.size ≤ X.s_0.heap.objs.size
  noex : ∀ b o, X.base.get? b = some o → b ∉ X.ex
  exfs : ∀ b ∈ X.ex, b ∉ X.fs
  funs : X.s_0.heap.FunFrames X.base X.outer
  frf : ∀ b ∈ X.fs, X.H_0 b = none
structure Inv (X : Cx) (pins : List (Addr × Obj)) (σ : List (Option V)) (H : Hp) (s : Shared) : Prop where
  ok : X.Ok
  os : s.os = X.s_0.os
  bare : AllBare s.gens
  base : Un X.fs X.ex X.H_0 H X.s_0.heap s.heap
  loc : ∃ m, s.heap.Ns X.env.locals m ∧ ∀ (i : Nat) (x : Str) (v : V), X.N[i]? = some x → σ[i]? = some (some v) → Vis X.env.scope x → ∃ u, RelV v u ∧ Look X.env s.heap m x u
  cell : ∀ x c, X.env.cells.lookup x = some c → ∃ v, s.heap.IsCell c v
  free : H X.env.locals = none
  freeC : ∀ x c, X.env.cells.lookup x = some c → H c = none
  pin : ∀ p ∈ X.pn ++ pins, s.heap.get? p.1 = some p.2 ∧ H p.1 = none ∧ p.1 ≠ X.env.locals ∧ p.1 ∉ X.fs ∧ ∀ v, p.2.data ≠ .cell v
  hok : HOk X.prog X.w H s.heap
  len : σ.length = X.N.length
section
variable {X : Cx} {pins : List (Addr × Obj)} {σ : List (Option V)} {H H' : Hp} {s : Shared} {h' : Heap}
theorem Cx.Ok.nofr (ok : X.Ok) {b : Addr} {o : Obj} (e : X.base.get? b = some o) : b ∉ X.fs := fun hb => by
  have := (ok.funs.mem hb).1
  rw [e] at this; cases this
theorem Inv.bs (I : Inv X pins σ H s) : ∀ b o, X.base.get? b = some o → s.heap.get? b = some o ∧ H b = none := fun b o e =>
  ⟨I.base.keep b o (I.ok.bs b o e).1 (I.ok.bs b o e).2 (I.ok.nofr e) (I.ok.noex b o e), I.base.free b o (I.ok.bs b o e).1 (I.ok.bs b o e).2 (I.ok.noex b o e)⟩
theorem Inv.bk (I : Inv X pins σ H s) : ∀ b o, X.base.get? b = some o → s.heap.get? b = some o := fun b o e => (I.bs b o e).1
theorem Inv.mod (I : Inv X pins σ H s) : Mod X.K X.mg X.base := I.ok.mod
theorem Inv.kIn (I : Inv X pins σ H s) : X.K.In s.heap := I.ok.mod.kin.keeps I.bk
theorem Inv.fr (I : Inv X pins σ H s) : ∃ m, Fr X.base X.env.locals s.heap m :=
  let ⟨m, hn, _⟩ := I.loc
  ⟨m, hn, I.bk, Nat.le_trans I.ok.bsz I.ok.above⟩
theorem Inv.lt (I : Inv X pins σ H s) : X.env.locals < s.heap.objs.size := let ⟨_, hn, _⟩ := I.loc; hn.lt
theorem Inv.sz (I : Inv X pins σ H s) : X.s_0.heap.objs.size ≤ s.heap.objs.size := Nat.le_trans I.ok.above (Nat.le_of_lt I.lt)
theorem Inv.nofs (I : Inv X pins σ H s) {a : Addr} (h : s.heap.objs.size ≤ a) : a ∉ X.fs := fun hb => by
  obtain ⟨_, o, ho, _⟩ := I.ok.funs.mem hb
  exact absurd (Nat.lt_of_lt_of_le (Heap.lt_size ho) (Nat.le_trans I.sz h)) (Nat.lt_irrefl _)
theorem Inv.cne (I : Inv X pins σ H s) : ∀ x c, X.env.cells.lookup x = some c → c ≠ X.env.locals := fun x c e z => by
  obtain ⟨v, o, ho, hd⟩ := I.cell x c e
  obtain ⟨m, ⟨o', es, ep, ho', hd', _⟩, _⟩ := I.loc
  rw [z, ho'] at ho; cases ho; rw [hd'] at hd; cases hd
theorem Inv.funs (I : Inv X pins σ H s) : s.heap.FunFrames X.base X.outer := by
  have all : ∀ (l : List Env), (∀ b ∈ frs l, b ∈ X.fs) → X.s_0.heap.FunFrames X.base l → s.heap.FunFrames X.base l := by
    intro l
    induction l with
    | nil => intro _ _; trivial
    | cons env r ih =>
      intro hs hl
      obtain ⟨hk, ⟨L, o, hf, hn, ho, hd⟩, hr⟩ := hl
      have hL : L ∈ X.fs := hs L (by unfold frs; rw [List.filterMap_cons, hf]; exact List.mem_cons_self)
      obtain ⟨sl, e⟩ := I.base.slot L o ho (I.ok.frf L hL) hL fun z => I.ok.exfs L z hL
      exact ⟨hk, ⟨L, _, hf, hn, e, hd⟩, ih (fun b hb => hs b (by unfold frs; rw [List.filterMap_cons, hf]; exact List.mem_cons_of_mem _ hb)) hr⟩
  exact all X.outer (fun _ hb => hb) I.ok.funs
theorem Inv.stack (I : Inv X pins σ H s) : s.heap.FunFrames X.base X.stack := by
  rcases I.ok.stk with e | ⟨e, hf⟩
  · rw [e]; exact I.funs
  · rw [e]
    obtain ⟨m, hn, _⟩ := I.loc
    refine .cons (by rw [I.ok.kind]; decide) hf hn ?_ I.funs
    exact Heap.get?_none_of_le (Nat.le_trans I.ok.bsz I.ok.above)
theorem Inv.stkSub (I : Inv X pins σ H s) : ∀ b ∈ frs X.stack, b ∈ X.env.locals :: X.fs := fun b hb => by
  rcases I.ok.stk with e | ⟨e, hf⟩
  · rw [e] at hb; exact List.mem_cons_of_mem _ hb
  · rw [e] at hb
    unfold frs at hb
    rw [List.filterMap_cons, hf] at hb
    exact hb
theorem Inv.stkFree (I : Inv X pins σ H s) : ∀ b ∈ frs X.stack, H b = none := fun b hb => by
  rcases List.mem_cons.mp (I.stkSub b hb) with e | hb
  · rw [e]; exact I.free
  · obtain ⟨_, o, ho, _⟩ := I.ok.funs.mem hb
    exact I.base.free b o ho (I.ok.frf b hb) fun z => I.ok.exfs b z hb
theorem Inv.step {g' : Array GenState} {t' : Nat} {d' : Drawn} {ch : List Addr} (I : Inv X pins σ H s)
    (hch : ∀ b ∈ ch, (b ∈ X.ex ∨ X.s_0.heap.objs.size ≤ b) ∧ b ≠ X.env.locals ∧ (∀ x c, X.env.cells.lookup x = some c → c ≠ b) ∧ ∀ p ∈ X.pn ++ pins, p.1 ≠ b)
    (keep : ∀ b o, b ≠ X.env.locals → b ∉ X.fs → b ∉ ch → s.heap.get? b = some o → H b = none → h'.get? b = some o)
    (slot : ∀ b o, b ≠ X.env.locals → b ∈ X.fs → b ∉ ch → s.heap.get? b = some o → H b = none → ∃ sl, h'.get? b = some { o with slots := sl }) (free : ∀ b o, b ∉ ch → s.heap.get? b = some o → H b = none → H' b = none)
    (there : ∀ b o, b ∉ ch → s.heap.get? b = some o → ∃ o', h'.get? b = some o')
    (tups : ∀ b xs, H b = some (.tup xs) → H' b = some (.tup xs)) (frzs : ∀ b o u, H b = some (.frz o u) → H' b = some (.frz o u)) (tbls : ∀ b ps, H b = some (.tbl ps) → ∃ more, H' b = some (.tbl (ps ++ more)))
    (ns : ∀ m, s.heap.Ns X.env.locals m → h'.Ns X.env.locals m) (hok : HOk X.prog X.w H' h') (hg : AllBare g') :
    Inv X pins σ H' { s with heap := h', gens := g', drawn := d', toks := t' } := by
  have neL : ∀ b o, X.s_0.heap.get? b = some o → b ≠ X.env.locals := fun b o e => Nat.ne_of_lt (Nat.lt_of_lt_of_le (Heap.lt_size e) I.ok.above)
  have neC : ∀ b o, X.s_0.heap.get? b = some o → b ∉ X.ex → b ∉ ch := fun b o e hx hb => by
    rcases (hch b hb).1 with z | z
    · exact hx z
    · exact absurd (Nat.lt_of_lt_of_le (Heap.lt_size e) z) (Nat.lt_irrefl _)
  have cellK : ∀ x c, X.env.cells.lookup x = some c → ∀ v, s.heap.IsCell c v → h'.IsCell c v := fun x c e v ⟨o, ho, hd⟩ => by
    have nch : c ∉ ch := fun z => (hch c z).2.2.1 x c e rfl
    by_cases hc : c ∈ X.fs
    · obtain ⟨sl, q⟩ := slot c o (I.cne x c e) hc nch ho (I.freeC x c e)
      exact ⟨_, q, hd⟩
    · exact ⟨o, keep c o (I.cne x c e) hc nch ho (I.freeC x c e), hd⟩
  refine ⟨I.ok, I.os, hg, ⟨fun b o e n hb hx => ?_, fun b o e n hb hx => ?_, fun b o e n hx => ?_, fun b o e hx => ?_, fun b xs e => tups b xs (I.base.tups b xs e), fun b o xs e => frzs b o xs (I.base.frzs b o xs e), fun b ps e => ?_⟩, ?_, fun x c e => ?_, ?_, fun x c e => ?_, fun p hp => ?_, hok, I.len⟩
  · exact keep b o (neL b o e) hb (neC b o e hx) (I.base.keep b o e n hb hx) (I.base.free b o e n hx)
  · obtain ⟨sl, e1⟩ := I.base.slot b o e n hb hx
    obtain ⟨sl', e2⟩ := slot b _ (neL b o e) hb (neC b o e hx) e1 (I.base.free b o e n hx)
    exact ⟨sl', e2⟩
  · obtain ⟨o', e1⟩ := I.base.there b o e hx
    exact free b o' (neC b o e hx) e1 (I.base.free b o e n hx)
  · obtain ⟨o', e1⟩ := I.base.there b o e hx
    exact there b o' (neC b o e hx) e1
  · obtain ⟨m1, e1⟩ := I.base.tbls b ps e
    obtain ⟨m2, e2⟩ := tbls b _ e1
    exact ⟨m1 ++ m2, by rw [e2, Array.append_assoc]⟩
  · obtain ⟨m, hn, hl⟩ := I.loc
    refine ⟨m, ns m hn, fun i x v e1 e2 e3 => ?_⟩
    obtain ⟨u, r, l⟩ := hl i x v e1 e2 e3
    refine ⟨u, r, ?_⟩
    rcases l with l | ⟨k, c, e, z⟩
    · exact .inl l
    · exact .inr ⟨k, c, e, cellK x c e _ z⟩
  · obtain ⟨v, z⟩ := I.cell x c e
    exact ⟨v, cellK x c e v z⟩
  · obtain ⟨m, ⟨o, _, _, ho, _⟩, _⟩ := I.loc
    exact free _ o (fun z => (hch _ z).2.1 rfl) ho I.free
  · obtain ⟨v, o, ho, hd⟩ := I.cell x c e
    exact free c o (fun z => (hch c z).2.2.1 x c e rfl) ho (I.freeC x c e)
  · obtain ⟨e, n, ne, nf, d⟩ := I.pin p hp
    have nch : p.1 ∉ ch := fun z => (hch p.1 z).2.2.2 p hp rfl
    exact ⟨keep p.1 p.2 ne nf nch e n, free p.1 p.2 nch e n, ne, nf, d⟩
theorem Inv.un {t' : Nat} (I : Inv X pins σ H s) (u : Un X.fs [] H H' s.heap h') (hok : HOk X.prog X.w H' h') : Inv X pins σ H' { s with heap := h', toks := t' } := by
  obtain ⟨m, ⟨o, es, ep, ho, r⟩, _⟩ := id I.loc
  obtain ⟨sl, hL⟩ := u.any ho I.free (by simp)
  exact I.step (g' := s.gens) (d' := s.drawn) (ch := []) (fun _ z => nomatch z) (fun b o _ hb _ e n => u.keep b o e n hb (by simp)) (fun b o _ hb _ e n => u.slot b o e n hb (by simp)) (fun b o _ e n => u.free b o e n (by simp)) (fun b o _ e => u.there b o e (by simp)) u.tups u.frzs u.tbls (fun m' hm => by
    obtain ⟨o', es', ep', ho', r'⟩ := hm
    rw [ho] at ho'; cases ho'
    exact ⟨_, es', ep', hL, r'⟩) hok I.bare
theorem Inv.call {g' : Array GenState} {t' : Nat} {d' : Drawn} {ch : List Addr} (I : Inv X pins σ H s) (u : Un (frs X.stack) ch H H' s.heap h') (hok : HOk X.prog X.w H' h') (hg : AllBare g')
    (hch : ∀ b ∈ ch, (b ∈ X.ex ∨ X.s_0.heap.objs.size ≤ b) ∧ b ≠ X.env.locals ∧ (∀ x c, X.env.cells.lookup x = some c → c ≠ b) ∧ ∀ p ∈ X.pn ++ pins, p.1 ≠ b) :
    Inv X pins σ H' { s with heap := h', gens := g', drawn := d', toks := t' } := by
  obtain ⟨m, ⟨o, es, ep, ho, r⟩, _⟩ := id I.loc
  obtain ⟨sl, hL⟩ := u.any ho I.free fun z => (hch _ z).2.1 rfl
  exact I.step (ch := ch) hch (fun b o hL hb hc e n => u.keep b o e n (fun z => (List.mem_cons.mp (I.stkSub b z)).elim hL hb) hc) (fun b o _ _ hc e n => u.any e n hc) (fun b o hc e n => u.free b o e n hc) (fun b o hc e => u.there b o e hc) u.tups u.frzs u.tbls (fun m' hm => by
    obtain ⟨o', es', ep', ho', r'⟩ := hm
    rw [ho] at ho'; cases ho'
    exact ⟨_, es', ep', hL, r'⟩) hok hg
theorem Inv.turned {t' : Nat} {it : Addr} (I : Inv X pins σ H s) (k : ∀ b o, b ≠ it → s.heap.get? b = some o → h'.get? b = some o) (hn : H it = none) (hL : it ≠ X.env.locals)
    (h1 : it ∈ X.ex ∨ X.s_0.heap.objs.size ≤ it) (h2 : ∀ x c, X.env.cells.lookup x = some c → c ≠ it) (h3 : ∀ p ∈ X.pn ++ pins, p.1 ≠ it) : Inv X pins σ H { s with heap := h', toks := t' } := by
  have nit : ∀ b u, H b = some u → b ≠ it := fun b u e z => by rw [z, hn] at e; cases e
  refine I.step (g' := s.gens) (d' := s.drawn) (ch := [it]) (fun b hb => ?_) (fun b o _ _ hc e _ => k b o (fun z => hc (by simp [z])) e) (fun b o _ _ hc e _ => ⟨o.slots, k b o (fun z => hc (by simp [z])) e⟩) (fun _ _ _ _ n => n)
    (fun b o hc e => ⟨o, k b o (fun z => hc (by simp [z])) e⟩) (fun _ _ e => e) (fun _ _ _ e => e) (fun b ps e => ⟨#[], by rw [e]; simp⟩) (fun m hm => ?_) (fun b u e => ?_) I.bare
  · have e : b = it := by simpa using hb
    subst e
    exact ⟨h1, hL, h2, h3⟩
  · obtain ⟨o, es, ep, ho, r⟩ := hm
    exact ⟨o, es, ep, k _ o (Ne.symm hL) ho, r⟩
  · refine (I.hok b u e).stay (fun c v hc q => k c v ?_ q) (fun _ q => q) fun _ _ q => q
    rcases hc with z | z
    · rw [z]; exact nit b u e
    · exact nit c _ z
theorem Inv.tok (I : Inv X pins σ H s) (t : Nat) : Inv X pins σ H { s with toks := t } := I.un (h' := s.heap) (t' := t) Un.refl I.hok
theorem Inv.kept {t' : Nat} (I : Inv X pins σ H s) (k : ∀ b u, s.heap.get? b = some u → h'.get? b = some u) : Inv X pins σ H { s with heap := h', toks := t' } := I.un (Un.kept k) (I.hok.kept k)
theorem Inv.laid {a : Addr} {o : HO} {t' : Nat} (I : Inv X pins σ H s) (k : ∀ b u, s.heap.get? b = some u → h'.get? b = some u) (hp : s.heap.objs.size ≤ a) (new : ObjOk X.prog X.w (upd H a o) h' a o) :
    Inv X pins σ (upd H a o) { s with heap := h', toks := t' } := I.un (Un.laid k hp (I.hok.fresh hp)) (I.hok.laid k hp new)
theorem Inv.write {x e : Addr} {o : HO} {t' : Nat} (I : Inv X pins σ H s) (mu : Mut (H x)) (he : e = x ∨ H e = some (.own x)) (k : ∀ b u, b ≠ e → s.heap.get? b = some u → h'.get? b = some u) (heo : ∃ u, h'.get? e = some u)
    (new : ObjOk X.prog X.w (upd H x o) h' x o) : Inv X pins σ (upd H x o) { s with heap := h', toks := t' } := I.un (Un.write mu he k heo) (I.hok.write mu he k heo new)
theorem Inv.weak {σ' : List (Option V)} (I : Inv X pins σ H s) (hl : σ'.length = σ.length) (w : ∀ (i : Nat) v, σ'[i]? = some (some v) → σ[i]? = some (some v)) : Inv X pins σ' H s :=
  ⟨I.ok, I.os, I.bare, I.base, let ⟨m, hn, hl'⟩ := I.loc; ⟨m, hn, fun i x v e1 e2 e3 => hl' i x v e1 (w i v e2) e3⟩, I.cell, I.free, I.freeC, I.pin, I.hok, hl.trans I.len⟩
theorem Inv.pins_of {pins' : List (Addr × Obj)} (I : Inv X pins σ H s) (h : ∀ p ∈ pins', s.heap.get? p.1 = some p.2 ∧ H p.1 = none ∧ p.1 ≠ X.env.locals ∧ p.1 ∉ X.fs ∧ ∀ v, p.2.data ≠ .cell v) : Inv X pins' σ H s :=
  ⟨I.ok, I.os, I.bare, I.base, I.loc, I.cell, I.free, I.freeC, fun p hp => (List.mem_append.mp hp).elim (fun z => I.pin p (List.mem_append_left _ z)) (h p), I.hok, I.len⟩
theorem nodup_ix {N : List Str} (hN : N.Nodup) {i j : Nat} {x : Str} (a : N[i]? = some x) (b : N[j]? = some x) : i = j := by
  obtain ⟨h1, e1⟩ := List.getElem?_eq_some_iff.mp a
  obtain ⟨h2, e2⟩ := List.getElem?_eq_some_iff.mp b
  exact (List.getElem_inj hN).mp (e1.trans e2.symm)
theorem store_ok2 {M : Model} {A : Around} {E : Value → Shared → Prop} {i : Nat} {x : Str} {v : V} {u : Value} {Q : Unit → Shared → Prop} (I : Inv X pins σ H s) (hN : X.N.Nodup) (hi : X.N[i]? = some x) (hx : Loc X.env.scope x) (r : RelV v u)
    (h : ∀ s', Inv X pins (σ.set i (some v)) H s' → (∃ a, Heap.SameBut a s.heap s'.heap ∧ (a = X.env.locals ∨ X.env.cells.lookup x = some a)) → Q () s') (hf : X.fn x = true ∨ X.env.scope.names.lookup x = some .local := by first | exact .inl rfl | exact .inr rfl | assumption) : wpAny M A (storeName X.env x u) Q E s := by
  obtain ⟨m, hn, hl⟩ := id I.loc
  have hcls : (X.env.scope.kind == .class || (X.env.scope.kind == .module && X.env.locals != X.env.globals)) = false := by rw [I.ok.kind]; rfl
  have hiσ : i < σ.length := by rw [I.len]; exact (List.getElem?_eq_some_iff.mp hi).1
  have cne := I.cne
  have tracked : ∀ {a : Addr} {h' : Heap}, (∃ o, s.heap.get? a = some o ∧ H a = none) → Heap.SameBut a s.heap h' → HOk X.prog X.w H h' := fun {a h'} ha hs b ob e => by
    obtain ⟨_, _, hfree⟩ := ha
    refine (I.hok b ob e).stay (fun c w' hc q => (hs.2 c ?_).trans q) (fun _ q => q) fun _ _ q => q
    rintro rfl
    rcases hc with rfl | hc
    · rw [hfree] at e; cases e
    · rw [hfree] at hc; cases hc
  rcases hx with hk | hk
  · refine wpAny_storeName_local hk hn (fun h' hn' hs => ?_) hcls
    obtain ⟨oL, _, _, hoL, _⟩ := id hn
    refine h _ ⟨I.ok, I.os, I.bare, ⟨fun b o e n hb hx => ?_, fun b o e n hb hx => ?_, I.base.free, fun b o e hx => ?_, I.base.tups, I.base.frzs, I.base.tbls⟩, ⟨_, hn', fun j y v' e1 e2 e3 => ?_⟩, fun y c e => ?_, I.free, I.freeC, fun p hp => ?_, tracked ⟨oL, hoL, I.free⟩ hs, by simpa using I.len⟩ ⟨_, hs, .inl rfl⟩
    · exact (hs.2 b (Nat.ne_of_lt (Nat.lt_of_lt_of_le (Heap.lt_size e) I.ok.above))).trans (I.base.keep b o e n hb hx)
    · obtain ⟨sl, e1⟩ := I.base.slot b o e n hb hx
      exact ⟨sl, (hs.2 b (Nat.ne_of_lt (Nat.lt_of_lt_of_le (Heap.lt_size e) I.ok.above))).trans e1⟩
    · obtain ⟨o', e1⟩ := I.base.there b o e hx
      exact ⟨o', (hs.2 b (Nat.ne_of_lt (Nat.lt_of_lt_of_le (Heap.lt_size e) I.ok.above))).trans e1⟩
    · by_cases hj : j = i
      · subst hj
        rw [hi] at e1; cases e1
        rw [List.getElem?_set_self hiσ] at e2
        cases e2
        exact ⟨u, r, .inl ⟨hk, by simp⟩⟩
      · rw [List.getElem?_set_ne (Ne.symm hj)] at e2
        obtain ⟨u', r', q⟩ := hl j y v' e1 e2 e3
        refine ⟨u', r', ?_⟩
        rcases q with ⟨k, e⟩ | ⟨k, c, e, z⟩
        · refine .inl ⟨k, ?_⟩
          have : y ≠ x := fun e => hj (nodup_ix hN e1 (e ▸ hi))
          simp [this, e]
        · exact .inr ⟨k, c, e, z.sameBut hs (cne y c e)⟩
    · obtain ⟨w', z⟩ := I.cell y c e
      exact ⟨w', z.sameBut hs (cne y c e)⟩
    · obtain ⟨e, n, ne, nf, d⟩ := I.pin p hp
      exact ⟨(hs.2 p.1 ne).trans e, n, ne, nf, d⟩
  · have hfn : X.fn x = true := by
      rcases hf with z | z
      · exact z
      · rw [z] at hk; cases hk
    obtain ⟨c, hc⟩ := I.ok.has x (.inl hk)
    obtain ⟨w', z⟩ := I.cell x c hc
    refine wpAny_storeName_cell I.ok.kind hk hc z (fun h' hc' hs => ?_)
    obtain ⟨oc, hoc, hocd⟩ := id z
    refine h { s with heap := h' } ⟨I.ok, I.os, I.bare, ⟨fun b o e n hb hx => ?_, fun b o e n hb hx => ?_, I.base.free, fun b o e hx => ?_, I.base.tups, I.base.frzs, I.base.tbls⟩, ⟨m, hn.sameBut hs (Ne.symm (cne x c hc)), fun j y v' e1 e2 e3 => ?_⟩, fun y c' e => ?_, I.free, I.freeC, fun p hp => ?_, tracked ⟨oc, hoc, I.freeC x c hc⟩ hs, by simpa using I.len⟩ ⟨c, hs, .inr hc⟩
    · exact (hs.2 b (Nat.ne_of_lt (Nat.lt_of_lt_of_le (Heap.lt_size e) (I.ok.cab x c hfn hc)))).trans (I.base.keep b o e n hb hx)
    · obtain ⟨sl, e1⟩ := I.base.slot b o e n hb hx
      exact ⟨sl, (hs.2 b (Nat.ne_of_lt (Nat.lt_of_lt_of_le (Heap.lt_size e) (I.ok.cab x c hfn hc)))).trans e1⟩
    · obtain ⟨o', e1⟩ := I.base.there b o e hx
      exact ⟨o', (hs.2 b (Nat.ne_of_lt (Nat.lt_of_lt_of_le (Heap.lt_size e) (I.ok.cab x c hfn hc)))).trans e1⟩
    · by_cases hj : j = i
      · subst hj
        rw [hi] at e1; cases e1
        rw [List.getElem?_set_self hiσ] at e2
        cases e2
        exact ⟨u, r, .inr ⟨.inl hk, c, hc, hc'⟩⟩
      · rw [List.getElem?_set_ne (Ne.symm hj)] at e2
        obtain ⟨u', r', q⟩ := hl j y v' e1 e2 e3
        refine ⟨u', r', ?_⟩
        rcases q with q | ⟨k, c', e, z'⟩
        · exact .inl q
        · refine .inr ⟨k, c', e, z'.sameBut hs ?_⟩
          rintro rfl
          exact hj (nodup_ix hN e1 (I.ok.inj _ _ _ e hc ▸ hi))
    · by_cases hcc : c' = c
      · subst hcc; exact ⟨_, hc'⟩
      · obtain ⟨w2, z2⟩ := I.cell y c' e
        exact ⟨w2, z2.sameBut hs hcc⟩
    · obtain ⟨e, n, ne, nf, d⟩ := I.pin p hp
      refine ⟨(hs.2 p.1 ?_).trans e, n, ne, nf, d⟩
      intro q
      rw [q, hoc] at e
      have q' : oc = p.2 := Option.some.inj e
      exact d w' (by rw [← q']; exact hocd)
theorem store_ok {M : Model} {A : Around} {E : Value → Shared → Prop} {i : Nat} {x : Str} {v : V} {u : Value} {Q : Unit → Shared → Prop} (I : Inv X pins σ H s) (hN : X.N.Nodup) (hi : X.N[i]? = some x) (hx : Loc X.env.scope x) (r : RelV v u)
    (h : ∀ s', Inv X pins (σ.set i (some v)) H s' → Q () s') (hf : X.fn x = true ∨ X.env.scope.names.lookup x = some .local := by first | exact .inl rfl | exact .inr rfl | assumption) : wpAny M A (storeName X.env x u) Q E s :=
  store_ok2 I hN hi hx r (fun s' I' _ => h s' I') hf
theorem Inv.call' {s' : Shared} {ch : List Addr} (I : Inv X pins σ H s) (ho : s'.os = s.os) (u : Un (frs X.stack) ch H H' s.heap s'.heap) (hok : HOk X.prog X.w H' s'.heap) (hg : AllBare s'.gens)
    (hch : ∀ b ∈ ch, (b ∈ X.ex ∨ X.s_0.heap.objs.size ≤ b) ∧ b ≠ X.env.locals ∧ (∀ x c, X.env.cells.lookup x = some c → c ≠ b) ∧ ∀ p ∈ X.pn ++ pins, p.1 ≠ b) : Inv X pins σ H' s' := by
  obtain ⟨h', g', d', t', o'⟩ := s'
  have e : o' = s.os := ho
  subst e
  exact I.call (g' := g') (t' := t') (d' := d') u hok hg hch
end
abbrev XK := Value → Option Addr → Hp → Prop
abbrev St := List (Option V)
abbrev VK := V → Hp → Prop
abbrev TE := St → Hp → VK → Prop
abbrev TT := St → Hp → (Bool → Hp → Prop) → Prop
abbrev TA := St → Hp → (List V → Hp → Prop) → Prop
structure Ends where
  nx : St → Hp → Prop
  rt : VK
  bk : St → Hp → Prop := fun _ _ => False
  ct : St → Hp → Prop := fun _ _ => False
abbrev TS := Ends → St → Hp → Prop
def EP (X : Cx) (pins : List (Addr × Obj)) (σ : St) (Q : VK) (u : Value) (s' : Shared) : Prop := ∃ v H', Inv X pins σ H' s' ∧ RelV v u ∧ Q v H'
def TP (X : Cx) (pins : List (Addr × Obj)) (σ : St) (Q : Bool → Hp → Prop) (b : Bool) (s' : Shared) : Prop := ∃ H', Inv X pins σ H' s' ∧ Q b H'
def AP (X : Cx) (pins : List (Addr × Obj)) (σ : St) (Q : List V → Hp → Prop) (us : List Value) (s' : Shared) : Prop := ∃ vs H', Inv X pins σ H' s' ∧ Vals vs us ∧ Q vs H'
def SP (X : Cx) (pins : List (Addr × Obj)) (D : Ends) (f : Flow) (s' : Shared) : Prop :=
  match f with
  | .next => ∃ σ' H', Inv X pins σ' H' s' ∧ D.nx σ' H'
  | .brk => ∃ σ' H', Inv X pins σ' H' s' ∧ D.bk σ' H'
  | .cont => ∃ σ' H', Inv X pins σ' H' s' ∧ D.ct σ' H'
  | .ret u => ∃ v σ' H', Inv X pins σ' H' s' ∧ RelV v u ∧ D.rt v H'
def PE (X : Cx) (e : Expr) (t : TE) : Prop :=
  ∀ (pins : List (Addr × Obj)) (s : Shared) (σ : St) (H : Hp) (Q : VK), Inv X pins σ H s → t σ H Q → wpAny (model X.prog X.w) X.A (eval e X.env) (EP X pins σ Q) X.xe s
def PT (X : Cx) (e : Expr) (t : TT) : Prop :=
  ∀ (pins : List (Addr × Obj)) (s : Shared) (σ : St) (H : Hp) (Q : Bool → Hp → Prop), Inv X pins σ H s → t σ H Q → wpAny (model X.prog X.w) X.A (isTrue e X.env (eval e X.env)) (TP X pins σ Q) X.xe s
def PW (X : Cx) (e : Expr) (t : TT) : Prop :=
  ∀ (whole : Sem Value) (pins : List (Addr × Obj)) (s : Shared) (σ : St) (H : Hp) (Q : Bool → Hp → Prop), Inv X pins σ H s → t σ H Q → wpAny (model X.prog X.w) X.A (isTrue e X.env whole) (TP X pins σ Q) X.xe s
theorem PW.pt {X : Cx} {e : Expr} {t : TT} (h : PW X e t) : PT X e t := h _
def PA (X : Cx) (es : List Expr) (t : TA) : Prop :=
  ∀ (pos : Pos) (pins : List (Addr × Obj)) (s : Shared) (σ : St) (H : Hp) (Q : List V → Hp → Prop), Inv X pins σ H s → t σ H Q → wpAny (model X.prog X.w) X.A (spliced (backTo pos (starEach es X.env))) (AP X pins σ Q) X.xe s
def PS (X : Cx) (st : Stmt) (t : TS) : Prop :=
  ∀ (pins : List (Addr × Obj)) (s : Shared) (σ : St) (H : Hp) (D : Ends), Inv X pins σ H s → t D σ H → wpAny (model X.prog X.w) X.A (exec st X.env) (SP X pins D) X.xe s
def PSs (X : Cx) (st : List Stmt) (t : TS) : Prop :=
  ∀ (pins : List (Addr × Obj)) (s : Shared) (σ : St) (H : Hp) (D : Ends), Inv X pins σ H s → t D σ H → wpAny (model X.prog X.w) X.A (execs st X.env) (SP X pins D) X.xe s
theorem thn {α : Type} {t : Sem α} {Q Q' : α → Shared → Prop} {M : Model} {A : Around} {E : Value → Shared → Prop} {s : Shared} (h : wpAny M A t Q E s) (hQ : ∀ a s, Q a s → Q' a s) : wpAny M A t Q' E s := wpAny_mono h hQ fun _ _ x => x
end L2
namespace L2
open PySem PySem.Spec PyProof.Rows
section
variable {X : Cx}
theorem bin {a b : Expr} {ta tb : TE} (ha : PE X a ta) (hb : PE X b tb) {pins : List (Addr × Obj)} {s : Shared} {σ : St} {H : Hp} {R : V → V → Hp → Prop} (I : Inv X pins σ H s) (h : ta σ H fun x H1 => tb σ H1 fun y H2 => R x y H2)
    {α : Type} {Q : α → Shared → Prop} {f : Value → Value → Sem α}
    (hf : ∀ v u s2 x y H2, Inv X pins σ H2 s2 → RelV x v → RelV y u → R x y H2 → wpAny (model X.prog X.w) X.A (f v u) Q X.xe s2) :
    wpAny (model X.prog X.w) X.A (eval a X.env) (fun v s₁ => wpAny (model X.prog X.w) X.A (eval b X.env) (fun u s₂ => wpAny (model X.prog X.w) X.A (f v u) Q X.xe s₂) X.xe s₁) X.xe s := by
  refine thn (ha pins s σ H _ I h) fun v s1 ⟨x, H1, I1, r1, q1⟩ => ?_
  refine thn (hb pins s1 σ H1 _ I1 q1) fun u s2 ⟨y, H2, I2, r2, q2⟩ => ?_
  exact hf v u s2 x y H2 I2 r1 r2 q2
def tVar (i : Nat) : TE := fun σ H Q => ∃ v, σ[i]? = some (some v) ∧ Q v H
def tC (v : V) : TE := fun _ H Q => Q v H
theorem pe_var {i : Nat} {x : Str} {pos : Pos} (hN : X.N[i]? = some x) (hv : Vis X.env.scope x) (hd : (x == ("__debug__" : Str)) = false := by decide) (hcd : (x == ("__classdict__" : Str)) = false := by decide) : PE X (.Name x pos) (tVar i) := by
  intro pins s σ H Q I h
  obtain ⟨v, e, h⟩ := h
  obtain ⟨m, hn, hl⟩ := I.loc
  obtain ⟨u, r, l⟩ := hl i x v hN e hv
  have fin : EP X pins σ Q u s := ⟨v, H, I, r, h⟩
  rcases l with ⟨hk, hm⟩ | ⟨hk, c, hc, hcell⟩
  · exact wpAny_Name (wpAny_loadName_local I.ok.kind hk hn hm fin) hd
  · rcases hk with hk | hk
    · exact wpAny_Name (wpAny_loadName_cell I.ok.kind hk hc hcell fin) hd
    · exact wpAny_Name (wpAny_loadName_free I.ok.kind hk hc hcell fin hcd) hd
theorem pe_int {i j pos} : PE X (.Constant (.int i) j pos) (tC (.int i)) := fun _ _ _ H _ I h => wpAny_Constant_int ⟨.int i, H, I.tok _, ⟨_, rfl⟩, h⟩
theorem pe_non {j pos} : PE X (.Constant .none j pos) (tC .non) := fun _ _ _ H _ I h => Constant_none ⟨.non, H, I, rfl, h⟩
def Gl (X : Cx) (x : Str) : Prop := X.env.kindOf x = some .globalImplicit
theorem ld_glob {E : Value → Shared → Prop} {pins : List (Addr × Obj)} {s : Shared} {σ : St} {H : Hp} {x : Str} {u : Value} {pos : Pos} {Q : Value → Shared → Prop} (I : Inv X pins σ H s) (hg : Gl X x) (hm : X.mg x = some u) (h : Q u s)
    (hd : (x == ("__debug__" : Str)) = false := by decide) : wpAny (model X.prog X.w) X.A (eval (.Name x pos) X.env) Q E s :=
  Calls.Name_function_global I.ok.kind hg (Calls.loadGlobal_global (by rw [I.ok.glob]; exact I.mod.glob.keeps I.bk) hm h) hd
theorem ld_blt {E : Value → Shared → Prop} {pins : List (Addr × Obj)} {s : Shared} {σ : St} {H : Hp} {x : Str} {u : Value} {pos : Pos} {Q : Value → Shared → Prop} (I : Inv X pins σ H s) (hg : Gl X x) (hm : X.mg x = none) (hv : bootBuiltins x = some u) (h : Q u s)
    (hn : x ≠ "__name__" := by decide) (hd : (x == ("__debug__" : Str)) = false := by decide) : wpAny (model X.prog X.w) X.A (eval (.Name x pos) X.env) Q E s := by
  obtain ⟨mb, h1, h2⟩ := I.mod.blt
  exact Calls.Name_function_global I.ok.kind hg (Calls.loadGlobal_builtin (by rw [I.ok.glob]; exact I.mod.glob.keeps I.bk) hm (by rw [I.ok.blt]; exact h1.keeps I.bk) ((h2 x hn).trans hv) h) hd
theorem pe_glob {x : Str} {v : V} {u : Value} {pos : Pos} (hg : Gl X x) (hm : X.mg x = some u) (r : RelV v u) (hd : (x == ("__debug__" : Str)) = false := by decide) : PE X (.Name x pos) (tC v) :=
  fun _ _ _ H _ I h => ld_glob I hg hm ⟨v, H, I, r, h⟩ hd
variable {a b : Expr} {ta tb : TE} {pos : Pos}
def PC (X : Cx) (op : CmpOp) (a b : Expr) (t : TE) : Prop :=
  ∀ (pins : List (Addr × Obj)) (s : Shared) (σ : St) (H : Hp) (Q : VK), Inv X pins σ H s → t σ H Q →
    wpAny (model X.prog X.w) X.A (eval a X.env) (fun v s₁ => wpAny (model X.prog X.w) X.A (eval b X.env) (fun u s₂ => wpAny (model X.prog X.w) X.A (compareOp op v u) (EP X pins σ Q) X.xe s₂) X.xe s₁) X.xe s
theorem nobehind (b : Expr) {op : CmpOp} (h : op ≠ .In) (h2 : op ≠ .NotIn) : behindInMarks op b = false := by
  have e1 : (op == CmpOp.In) = false := by cases op <;> first | rfl | exact absurd rfl h
  have e2 : (op == CmpOp.NotIn) = false := by cases op <;> first | rfl | exact absurd rfl h2
  cases b <;> simp [behindInMarks, e1, e2]
def tNotN (ta : TE) : TE := fun σ H Q => ta σ H fun x H1 => Q (.bl (!decide (x = .non))) H1
theorem RelV.none_iff {x : V} {v : Value} (r : RelV x v) : (v == Value.none) = decide (x = .non) := by
  cases x with
  | non => cases r; rfl
  | bl _ => cases r; rfl
  | int _ => obtain ⟨t, rfl⟩ := r; rfl
  | str _ => obtain ⟨t, rfl⟩ := r; rfl
  | byt _ => obtain ⟨t, rfl⟩ := r; rfl
  | flt _ => obtain ⟨t, rfl⟩ := r; rfl
  | ref _ => cases r; rfl
  | ty _ => cases r; rfl
theorem pc_notN {j pos'} (ha : PE X a ta) : PC X .IsNot a (.Constant .none j pos') (tNotN ta) := by
  intro pins s σ H Q I h
  refine thn (ha pins s σ H _ I h) fun v s1 ⟨x, H1, I1, r1, q1⟩ => ?_
  exact Constant_none (isnot_none_gen ⟨.bl _, H1, I1, by rw [r1.none_iff]; rfl, q1⟩)
def tB (t : TE) : TT := fun σ H Q => t σ H fun x H1 => ∃ c, x = .bl c ∧ Q c H1
theorem pt_cmp {op : CmpOp} {t : TE} (h : PC X op a b t) (h1 : behindInMarks op b = false := by first | exact nobehind _ (by decide) (by decide) | rfl) : PT X (.Compare a [op] [b] pos) (tB t) := by
  intro pins s σ H Q I hw
  refine wpAny_isTrue_Compare1 (thn (h pins s σ H _ I hw) fun v s1 h1 => thn h1 fun u s2 h2 => thn h2 fun c s3 ⟨x, H1, I1, r1, q1⟩ => ?_) h1
  obtain ⟨d, rfl, q⟩ := q1
  cases r1
  exact wpAny_truthy_bool ⟨H1, I1, q⟩
theorem pt_val {e : Expr} {t : TE} (h : PE X e t) (he : ∀ whole, isTrue e X.env whole = (do let v ← whole; standAt e.pos; holding [v] (truthy v)) := by intro _; rfl) : PT X e (tB t) := by
  intro pins s σ H Q I hw
  refine isTrue_plain (thn (h pins s σ H _ I hw) fun v s1 ⟨x, H1, I1, r1, q1⟩ => ?_) (he _)
  obtain ⟨d, rfl, q⟩ := q1
  cases r1
  exact wpAny_truthy_bool ⟨H1, I1, q⟩
variable {tA tB' : TT} {rest : List Expr}
def tAnd (t u : TT) : TT := fun σ H Q => t σ H fun c H1 => if c = true then u σ H1 Q else Q false H1
def tOr (t u : TT) : TT := fun σ H Q => t σ H fun c H1 => if c = true then Q true H1 else u σ H1 Q
def tNot (t : TT) : TT := fun σ H Q => t σ H fun c H1 => Q (!c) H1
theorem pw_and1 (ha : PT X a tA) : PW X (.BoolOp .And [a] pos) tA := by
  intro wh pins s σ H Q I h
  refine isTrue_and (thn (ha pins s σ H Q I h) fun c s1 e => ?_)
  cases c with
  | true => exact isTrue_and_nil e
  | false => exact e
theorem pw_or1 (ha : PT X a tA) : PW X (.BoolOp .Or [a] pos) tA := by
  intro wh pins s σ H Q I h
  refine isTrue_or (thn (ha pins s σ H Q I h) fun c s1 e => ?_)
  cases c with
  | false => exact isTrue_or_nil e
  | true => exact e
theorem pw_and (ha : PT X a tA) (hb : PW X (.BoolOp .And (b :: rest) pos) tB') : PW X (.BoolOp .And (a :: b :: rest) pos) (tAnd tA tB') := by
  intro wh pins s σ H Q I h
  refine isTrue_and (thn (ha pins s σ H _ I h) fun c s1 ⟨H1, I1, q1⟩ => ?_)
  cases c with
  | true => exact hb wh pins s1 σ H1 Q I1 q1
  | false => exact ⟨H1, I1, q1⟩
theorem pw_or (ha : PT X a tA) (hb : PW X (.BoolOp .Or (b :: rest) pos) tB') : PW X (.BoolOp .Or (a :: b :: rest) pos) (tOr tA tB') := by
  intro wh pins s σ H Q I h
  refine isTrue_or (thn (ha pins s σ H _ I h) fun c s1 ⟨H1, I1, q1⟩ => ?_)
  cases c with
  | true => exact ⟨H1, I1, q1⟩
  | false => exact hb wh pins s1 σ H1 Q I1 q1
theorem pt_not (ha : PT X a tA) : PT X (.UnaryOp .Not a pos) (tNot tA) := by
  intro pins s σ H Q I h
  exact isTrue_not (ha pins s σ H (fun c H1 => Q (!c) H1) I h)
def tAndV (ta tb : TE) : TE := fun σ H Q => ta σ H fun x H1 => ∃ c, x = .bl c ∧ if c = true then tb σ H1 Q else Q (.bl false) H1
theorem pe_one {op} {t : TE} (h : PE X a t) : PE X (.BoolOp op [a] pos) t := fun pins s σ H Q I hw => BoolOp_one (h pins s σ H Q I hw)
theorem pe_and (ha : PE X a ta) (hb : PE X (.BoolOp .And (b :: rest) pos) tb) : PE X (.BoolOp .And (a :: b :: rest) pos) (tAndV ta tb) := by
  intro pins s σ H Q I h
  refine BoolOp_and (thn (ha pins s σ H _ I h) fun v s1 ⟨x, H1, I1, r1, q1⟩ => ?_)
  obtain ⟨c, rfl, q1⟩ := q1
  cases r1
  refine wpAny_truthy_bool ?_
  cases c with
  | true => exact hb pins s1 σ H1 Q I1 q1
  | false => exact ⟨.bl false, H1, I1, rfl, q1⟩
end
end L2
namespace L2
open PySem PySem.Spec PyProof.Rows
def SqL (K : PySem.W.Frag) (H : Hp) (a : Addr) (xs : List V) : Prop :=
  Rd H a (.lst xs) ∨
    ∃ (o : Obj) (its : Array Value) (n : Nat), K.lookup a = some o ∧ o.cls = .type "list" ∧ o.dict = none ∧ o.data = .seq its n ∧ its.size ≤ sizeLine ∧ Vals xs its.toList
def SqT (K : PySem.W.Frag) (H : Hp) (a : Addr) (xs : List V) : Prop :=
  Rd H a (.tup xs) ∨
    ∃ (o : Obj) (its : Array Value) (n : Nat), K.lookup a = some o ∧ o.cls = .type "tuple" ∧ o.data = .seq its n ∧ its.size ≤ sizeLine ∧ Vals xs its.toList
def absV : Value → Option V
  | .none => some .non
  | .bool b => some (.bl b)
  | .int i _ => some (.int i)
  | .str x _ => some (.str x)
  | .bytes b _ => some (.byt b)
  | .float b _ => some (.flt b)
  | .ref a => some (.ref a)
  | .type n => some (.ty n)
  | _ => none
theorem RelV.abs {x : V} {u : Value} (r : RelV x u) : absV u = some x := by
  cases x with
  | non => cases r; rfl
  | bl _ => cases r; rfl
  | int _ => obtain ⟨t, rfl⟩ := r; rfl
  | str _ => obtain ⟨t, rfl⟩ := r; rfl
  | byt _ => obtain ⟨t, rfl⟩ := r; rfl
  | flt _ => obtain ⟨t, rfl⟩ := r; rfl
  | ref _ => cases r; rfl
  | ty _ => cases r; rfl
theorem RelV.inj {x y : V} {u : Value} (r : RelV x u) (q : RelV y u) : x = y := Option.some.inj (r.abs.symm.trans q.abs)
theorem Vals.inj : ∀ {xs ys : List V} {us : List Value}, Vals xs us → Vals ys us → xs = ys
  | _, _, _, .nil, .nil => rfl
  | _, _, _, .cons r t, .cons r' t' => by rw [r.inj r', Vals.inj t t']
section
variable {X : Cx} {pins : List (Addr × Obj)} {σ : St} {H : Hp} {s : Shared} {a : Addr} {xs ys : List V}
theorem SqL.of {K : PySem.W.Frag} (h : H a = some (.lst xs)) : SqL K H a xs := .inl (.inl h)
theorem SqT.of {K : PySem.W.Frag} (h : H a = some (.tup xs)) : SqT K H a xs := .inl (.inl h)
theorem Inv.list (I : Inv X pins σ H s) (h : SqL X.K H a xs) : ∃ its : List Value, Vals xs its ∧ PlainL s.heap a its.toArray ∧ xs.length ≤ sizeLine := by
  rcases h with h | ⟨o, its, n, hk, hc, hd, hs, hz, r⟩
  · obtain ⟨z, its, n, r, e⟩ := h.ok I.hok
    exact ⟨its, r, ⟨_, n, e, rfl, rfl, rfl⟩, z⟩
  · refine ⟨its.toList, r, ⟨o, n, I.kIn a o hk, hc, hd, by simpa using hs⟩, ?_⟩
    have e := r.length
    simp only [Array.length_toList] at e
    omega
theorem Inv.tuple (I : Inv X pins σ H s) (h : SqT X.K H a xs) : ∃ its : List Value, Vals xs its ∧ IsTup s.heap a its.toArray ∧ xs.length ≤ sizeLine := by
  rcases h with h | ⟨o, its, n, hk, hc, hs, hz, r⟩
  · obtain ⟨z, its, r, p⟩ := h.ok I.hok
    exact ⟨its, r, p, z⟩
  · refine ⟨its.toList, r, ⟨o, I.kIn a o hk, hc, n, by simpa using hs⟩, ?_⟩
    have e := r.length
    simp only [Array.length_toList] at e
    omega
theorem Inv.list_inj (I : Inv X pins σ H s) (h : SqL X.K H a xs) (h' : SqL X.K H a ys) : xs = ys := by
  obtain ⟨its, r, ⟨o, n, e, _, _, d⟩, _⟩ := I.list h
  obtain ⟨its', r', ⟨o', n', e', _, _, d'⟩, _⟩ := I.list h'
  rw [e] at e'; cases e'
  rw [d] at d'
  injection d' with d1 _
  have : its = its' := by simpa using congrArg Array.toList d1
  subst this
  exact r.inj r'
end
abbrev Cx.wish (X : Cx) (E : Value → Shared → Prop) : Cx := { X with xe := E }
abbrev Cx.nox (X : Cx) : Cx := X.wish fun _ _ => False
theorem Cx.Ok.wish {X : Cx} (ok : X.Ok) (E : Value → Shared → Prop) : (X.wish E).Ok :=
  ⟨ok.mod, ok.kind, ok.glob, ok.blt, ok.above, ok.inj, ok.has, ok.cab, ok.hd, ok.frames, ok.stk, ok.exf, ok.bs, ok.bsz, ok.noex, ok.exfs, ok.funs, ok.frf⟩
theorem Cx.Ok.unwish {X : Cx} {E : Value → Shared → Prop} (ok : (X.wish E).Ok) : X.Ok :=
  ⟨ok.mod, ok.kind, ok.glob, ok.blt, ok.above, ok.inj, ok.has, ok.cab, ok.hd, ok.frames, ok.stk, ok.exf, ok.bs, ok.bsz, ok.noex, ok.exfs, ok.funs, ok.frf⟩
section
variable {X : Cx} {pins : List (Addr × Obj)} {σ : St} {H : Hp} {s : Shared} {E : Value → Shared → Prop}
theorem Inv.wish (I : Inv X pins σ H s) (E : Value → Shared → Prop) : Inv (X.wish E) pins σ H s := ⟨I.ok.wish E, I.os, I.bare, I.base, I.loc, I.cell, I.free, I.freeC, I.pin, I.hok, I.len⟩
theorem Inv.unwish (I : Inv (X.wish E) pins σ H s) : Inv X pins σ H s := ⟨I.ok.unwish, I.os, I.bare, I.base, I.loc, I.cell, I.free, I.freeC, I.pin, I.hok, I.len⟩
theorem SP.unwish {D : Ends} {f : Flow} {s' : Shared} (h : SP (X.wish E) pins D f s') : SP X pins D f s' := by
  cases f with
  | next => obtain ⟨σ', H', I, q⟩ := h; exact ⟨σ', H', I.unwish, q⟩
  | brk => obtain ⟨σ', H', I, q⟩ := h; exact ⟨σ', H', I.unwish, q⟩
  | cont => obtain ⟨σ', H', I, q⟩ := h; exact ⟨σ', H', I.unwish, q⟩
  | ret u => obtain ⟨v, σ', H', I, r, q⟩ := h; exact ⟨v, σ', H', I.unwish, r, q⟩
theorem PSs.nox {st : List Stmt} {t : TS} (h : PSs X.nox st t) : PSs X st t := fun pins s σ H D I hw =>
  wpAny_mono (h pins s σ H D (I.wish _) hw) (fun _ _ q => q.unwish) fun _ _ z => False.elim z
end
section
variable {X : Cx} {st : Stmt} {rest : List Stmt} {t u : TS} {e : Expr} {te : TE} {pos : Pos}
def tNext : TS := fun D σ H => D.nx σ H
def tSeq (t u : TS) : TS := fun D σ H => t { D with nx := u D } σ H
theorem pss_nil : PSs X [] tNext := fun _ _ σ H _ I h => wpAny_execs_nil ⟨σ, H, I, h⟩
theorem pss_cons (h1 : PS X st t) (h2 : PSs X rest u) : PSs X (st :: rest) (tSeq t u) := by
  intro pins s σ H D I h
  refine wpAny_execs_cons (thn (h1 pins s σ H { D with nx := u D } I h) fun f s1 q => ?_)
  cases f with
  | next =>
    obtain ⟨σ', H', I', q⟩ := q
    exact h2 pins s1 σ' H' D I' q
  | ret v => exact q
  | brk => exact q
  | cont => exact q
theorem pss_one (h1 : PS X st t) : PSs X [st] t := by
  intro pins s σ H D I h
  refine wpAny_execs_cons (thn (h1 pins s σ H D I h) fun f s1 q => ?_)
  cases f with
  | next => exact wpAny_execs_nil q
  | ret v => exact q
  | brk => exact q
  | cont => exact q
theorem Inv.quiet {pins : List (Addr × Obj)} {σ : St} {H : Hp} {s : Shared} (I : Inv X pins σ H s) : interactive X.env = false := by simp [interactive, I.ok.kind]
def tDrop (te : TE) : TS := fun D σ H => te σ H fun _ H1 => D.nx σ H1
theorem ps_expr (he : PE X e te) (hs : swapsWith e none pos.line X.env = pure false := by rfl) : PS X (.Expr e pos) (tDrop te) := by
  intro pins s σ H D I h
  exact wpAny_Expr_any (thn (he pins s σ H _ I h) fun v s1 ⟨x, H1, I1, r1, q1⟩ => ⟨σ, H1, I1, q1⟩) I.quiet hs
def tRet (te : TE) : TS := fun D σ H => te σ H D.rt
theorem ps_ret (he : PE X e te) : PS X (.Return (some e) pos) (tRet te) := by
  intro pins s σ H D I h
  exact wpAny_Return_some (thn (he pins s σ H _ I h) fun v s1 ⟨x, H1, I1, r1, q1⟩ => ⟨x, σ, H1, I1, r1, q1⟩)
def tIfS (c : TT) (t u : TS) : TS := fun D σ H => c σ H fun b H1 => if b = true then t D σ H1 else u D σ H1
theorem ps_if {c : Expr} {a b : List Stmt} {tc : TT} (hc : PT X c tc) (ha : PSs X a t) (hb : PSs X b u) : PS X (.If c a b pos) (tIfS tc t u) := by
  intro pins s σ H D I h
  refine wpAny_If (thn (hc pins s σ H _ I h) fun d s1 ⟨H1, I1, q1⟩ => ?_)
  cases d with
  | true => exact ha pins s1 σ H1 D I1 q1
  | false => exact hb pins s1 σ H1 D I1 q1
end
abbrev TG := V → St → Hp → (St → Hp → Prop) → Prop
abbrev TGs := List V → St → Hp → (St → Hp → Prop) → Prop
def PG (X : Cx) (target : Expr) (t : TG) : Prop :=
  ∀ (pins : List (Addr × Obj)) (s : Shared) (σ : St) (H : Hp) (v : V) (u : Value) (Q : St → Hp → Prop), Inv X pins σ H s → RelV v u → t v σ H Q →
    wpAny (model X.prog X.w) X.A (assign target X.env u) (fun _ s' => ∃ σ' H', Inv X pins σ' H' s' ∧ Q σ' H') X.xe s
def PGs (X : Cx) (ts : List Expr) (t : TGs) : Prop :=
  ∀ (pins : List (Addr × Obj)) (s : Shared) (σ : St) (H : Hp) (vs : List V) (us : List Value) (Q : St → Hp → Prop), Inv X pins σ H s → Vals vs us → t vs σ H Q →
    wpAny (model X.prog X.w) X.A (assignInOrder ((assignEach ts X.env).map (·.2)) us) (fun _ s' => ∃ σ' H', Inv X pins σ' H' s' ∧ Q σ' H') X.xe s
abbrev TIp := V → V → Hp → VK → Prop
def PIp (X : Cx) (op : Operator) (t : TIp) : Prop :=
  ∀ (pins : List (Addr × Obj)) (s : Shared) (σ : St) (H : Hp) (x y : V) (v u : Value) (Q : VK), Inv X pins σ H s → RelV x v → RelV y u → t x y H Q →
    wpAny (model X.prog X.w) X.A (inplaceOp op v u) (EP X pins σ Q) X.xe s
section
variable {X : Cx} {pos : Pos}
def gName (i : Nat) : TG := fun v σ H Q => Q (σ.set i (some v)) H
theorem pg_name {i : Nat} {x : Str} (hN : X.N.Nodup) (hi : X.N[i]? = some x) (hx : Loc X.env.scope x) (hf : X.fn x = true ∨ X.env.scope.names.lookup x = some .local := by first | exact .inl rfl | exact .inr rfl | assumption) : PG X (.Name x pos) (gName i) := by
  intro pins s σ H v u Q I r h
  exact wpAny_assign_Name (store_ok I hN hi hx r (fun s' I' => ⟨_, H, I', h⟩) hf)
def gNil : TGs := fun vs σ H Q => vs = [] ∧ Q σ H
def gCons (t : TG) (u : TGs) : TGs := fun vs σ H Q => ∃ v r, vs = v :: r ∧ t v σ H fun σ' H' => u r σ' H' Q
theorem pgs_nil : PGs X [] gNil := by
  intro pins s σ H vs us Q I r h
  obtain ⟨e, h⟩ := h
  subst e
  cases r
  exact assignInOrder_nil ⟨σ, H, I, h⟩
theorem pgs_cons {e : Expr} {es : List Expr} {t : TG} {u : TGs} (h1 : PG X e t) (h2 : PGs X es u)
    (hs : (assignEach (e :: es) X.env).map (·.2) = assign e X.env :: (assignEach es X.env).map (·.2) := by rfl) : PGs X (e :: es) (gCons t u) := by
  intro pins s σ H vs us Q I r h
  obtain ⟨v, vr, e1, h⟩ := h
  subst e1
  cases r with
  | cons r rr =>
    rw [hs]
    refine assignInOrder_cons (thn (h1 pins s σ H _ _ _ I r h) fun _ s1 ⟨σ1, H1, I1, q1⟩ => ?_)
    exact h2 pins s1 σ1 H1 _ _ Q I1 rr q1
def gTup (K : PySem.W.Frag) (n : Nat) (t : TGs) : TG := fun v σ H Q => ∃ a xs, v = .ref a ∧ SqT K H a xs ∧ xs.length = n ∧ t xs σ H Q
theorem pg_tup {es : List Expr} {k : Nat} {t : TGs} {n : Nat} (hc : X.calm = true) (h : PGs X es t)
    (hn : (assignEach es X.env).length = n := by rfl) (hst : (assignEach es X.env).findIdx? (·.1) = none := by rfl) : PG X (.Tuple es k pos) (gTup X.K n t) := by
  intro pins s σ H v u Q I r hw
  obtain ⟨a, xs, e1, hq, hl, hw⟩ := hw
  subst e1
  cases r
  obtain ⟨its, rv, ht, hz⟩ := I.tuple hq
  refine assign_Tuple_tuple (I.ok.hd hc) ht (by simp [hn, ← hl, rv.length]) hst fun h' hx => ?_
  have I1 : Inv X pins σ H { s with heap := h' } := I.kept (t' := s.toks) fun b o e => hx b o (Nat.ne_of_lt (Heap.lt_size e)) e
  exact h pins _ σ H xs _ Q I1 (by simpa using rv) hw
def tAsg (te : TE) (g : TG) : TS := fun D σ H => te σ H fun x H1 => g x σ H1 D.nx
theorem ps_set {i : Nat} {x : Str} {e : Expr} {te : TE} {pos' : Pos} (hN : X.N.Nodup) (hi : X.N[i]? = some x) (hx : Loc X.env.scope x) (he : PE X e te) (hs : swapsWith e (some (.Name x pos')) pos.line X.env = pure false := by rfl) (hf : X.fn x = true ∨ X.env.scope.names.lookup x = some .local := by first | exact .inl rfl | exact .inr rfl | assumption) :
    PS X (.Assign [.Name x pos'] e pos) (tAsg te (gName i)) := by
  intro pins s σ H D I h
  refine wpAny_Assign_Name (thn (he pins s σ H _ I h) fun v s1 ⟨y, H1, I1, r1, q1⟩ => ?_) hs
  exact store_ok I1 hN hi hx r1 (fun s2 I2 => ⟨_, H1, I2, q1⟩) hf
def tAug (i : Nat) (te : TE) (ti : TIp) : TS := fun D σ H => ∃ x, σ[i]? = some (some x) ∧ te σ H fun y H1 => ti x y H1 fun z H2 => D.nx (σ.set i (some z)) H2
theorem ps_aug {i : Nat} {x : Str} {e : Expr} {te : TE} {op : Operator} {ti : TIp} {pos' : Pos} (hN : X.N.Nodup) (hi : X.N[i]? = some x) (hx : Loc X.env.scope x) (he : PE X e te) (ho : PIp X op ti) (hf : X.fn x = true ∨ X.env.scope.names.lookup x = some .local := by first | exact .inl rfl | exact .inr rfl | assumption) :
    PS X (.AugAssign (.Name x pos') op e pos) (tAug i te ti) := by
  intro pins s σ H D I h
  obtain ⟨v, e1, h⟩ := h
  obtain ⟨m, hn, hl⟩ := I.loc
  have vis : Vis X.env.scope x := by rcases hx with k | k; exact .inl k; exact .inr (.inl k)
  obtain ⟨u, r, l⟩ := hl i x v hi e1 vis
  refine wpAny_AugAssign_Name ?_
  have go : wpAny (model X.prog X.w) X.A (eval e X.env) (fun w s₂ => wpAny (model X.prog X.w) X.A (inplaceOp op u w) (fun r s₃ => wpAny (model X.prog X.w) X.A (storeName X.env x r) (fun _ => SP X pins D .next) X.xe s₃) X.xe s₂) X.xe s := by
    refine thn (he pins s σ H _ I h) fun w s1 ⟨y, H1, I1, r1, q1⟩ => ?_
    refine thn (ho pins s1 σ H1 v y u w _ I1 r r1 q1) fun z s2 ⟨zv, H2, I2, r2, q2⟩ => ?_
    exact store_ok I2 hN hi hx r2 (fun s3 I3 => ⟨_, H2, I3, q2⟩) hf
  rcases l with ⟨hk, hm⟩ | ⟨hk, c, hc, hcell⟩
  · exact wpAny_loadName_local I.ok.kind hk hn hm go
  · rcases hk with hk | hk
    · exact wpAny_loadName_cell I.ok.kind hk hc hcell go
    · rcases hx with k | k
      · have : X.env.scope.names.lookup x = some .free := hk
        rw [k] at this; cases this
      · have : X.env.scope.names.lookup x = some .free := hk
        rw [k] at this; cases this
def ipI (f : Int → Int → Int) : TIp := fun x y H Q => ∃ i j, x = .int i ∧ y = .int j ∧ Q (.int (f i j)) H
theorem ip_add : PIp X .Add (ipI fun i j => i + j) := by
  intro pins s σ H x y v u Q I r1 r2 h
  obtain ⟨i, j, e1, e2, q⟩ := h
  subst e1; subst e2
  obtain ⟨t, rfl⟩ := r1
  obtain ⟨t', rfl⟩ := r2
  exact iadd_int ⟨.int _, H, I.tok _, ⟨_, rfl⟩, q⟩
end
section
variable {X : Cx} {pos : Pos}
def tWhile (c : TT) (tb : TS) : TS := fun D σ H => ∃ W : Nat → St → Hp → Prop, (∃ m, W m σ H) ∧ ∀ m σ H, W m σ H →
  c σ H fun b H1 => if b = true then ∃ N : St → Hp → Prop, (∀ σ' H', N σ' H' → ∃ m', m' < m ∧ W m' σ' H') ∧ tb { D with nx := N, ct := N, bk := D.nx } σ H1 else D.nx σ H1
theorem ps_while {c : Expr} {body : List Stmt} {tc : TT} {tb : TS} (hp : PassesOwn (model X.prog X.w) X.A X.env X.xe) (hc : PT X c tc) (hb : PSs X body tb) : PS X (.While c body [] pos) (tWhile tc tb) := by
  intro pins s σ H D I h
  obtain ⟨W, ⟨m0, w0⟩, turn⟩ := h
  refine wpAny_While (codeAny_whileLoop (fun n s' => ∃ σ' H', Inv X pins σ' H' s' ∧ W n σ' H') ?_ m0 ⟨σ, H, I, w0⟩)
  rintro n s1 ⟨σ1, H1, I1, w1⟩
  refine wpAny_passesOwn hp (thn (hc pins s1 σ1 H1 _ I1 (turn n σ1 H1 w1)) fun b s2 ⟨H2, I2, q2⟩ => ?_)
  cases b with
  | true =>
    obtain ⟨N, hN, q2⟩ := q2
    rw [if_pos rfl]
    refine wpAny_passesOwn hp (thn (hb pins s2 σ1 H2 _ I2 q2) fun f s3 q3 => ?_)
    cases f with
    | next =>
      obtain ⟨σ3, H3, I3, n3⟩ := q3
      obtain ⟨m', hm, w3⟩ := hN σ3 H3 n3
      exact ⟨m', hm, σ3, H3, I3, w3⟩
    | cont =>
      obtain ⟨σ3, H3, I3, n3⟩ := q3
      obtain ⟨m', hm, w3⟩ := hN σ3 H3 n3
      exact ⟨m', hm, σ3, H3, I3, w3⟩
    | brk => exact q3
    | ret v => exact q3
  | false =>
    rw [if_neg Bool.false_ne_true]
    exact wpAny_execs_nil ⟨σ1, H2, I2, q2⟩
end
structure It where
  go : Nat → Hp → Prop
  yld : Nat → Hp → V → Hp → Prop
  stop : Nat → Hp → Prop
def FpOk (X : Cx) (pins : List (Addr × Obj)) (H : Hp) (b : Addr) : Prop :=
  H b = none ∧ b ≠ X.env.locals ∧ b ∉ X.fs ∧ (b ∈ X.ex ∨ X.s_0.heap.objs.size ≤ b) ∧ (∀ x c, X.env.cells.lookup x = some c → c ≠ b) ∧ ∀ p ∈ X.pn ++ pins, p.1 ≠ b
theorem Inv.fpOk {X : Cx} {pins : List (Addr × Obj)} {σ : St} {H H' : Hp} {s : Shared} {b : Addr} (I : Inv X pins σ H s) (hb : s.heap.objs.size ≤ b) (hn : H' b = none) : FpOk X pins H' b := by
  refine ⟨hn, Nat.ne_of_gt (Nat.lt_of_lt_of_le I.lt hb), I.nofs hb, .inr (Nat.le_trans I.sz hb), fun x c e z => ?_, fun p hp z => ?_⟩
  · obtain ⟨v, q⟩ := I.cell x c e
    exact absurd (Nat.lt_of_lt_of_le q.lt (by rw [z]; exact hb)) (Nat.lt_irrefl _)
  · exact absurd (Nat.lt_of_lt_of_le (Heap.lt_size (I.pin p hp).1) (by rw [z]; exact hb)) (Nat.lt_irrefl _)
structure Turn (P : Program) (w : World) (K : PySem.W.Frag) (tg : Expr) (J : It) (fp : List Addr) (it : Addr) (tn : Nat → Heap → Prop) : Prop where
  mem : it ∈ fp
  obj : ∀ i h, tn i h → ∀ b ∈ fp, ∃ o, h.get? b = some o ∧ ∀ v, o.data ≠ .cell v
  keep : ∀ i h h', tn i h → (∀ b ∈ fp, ∀ o, h.get? b = some o → h'.get? b = some o) → tn i h'
  item : ∀ (X : Cx), X.prog = P → X.w = w → X.K = K → X.calm = true → ∀ (i : Nat) (pins : List (Addr × Obj)) (s : Shared) (σ : St) (H : Hp) (E : Value → Shared → Prop), Inv X pins σ H s → (∀ b ∈ fp, FpOk X pins H b) → tn i s.heap → J.go i H →
    wpAny (model P w) X.A (pyNext (.ref it)) (fun r s1 => ∃ u, r = some u ∧
      wpAny (model P w) X.A (letOwnedTupleGo tg (.ref it) u) (fun _ s2 => ∃ x H', Inv X pins σ H' s2 ∧ RelV x u ∧ J.yld i H x H' ∧ tn (i + 1) s2.heap ∧ ∀ b ∈ fp, H' b = none) E s1) E s
  done : ∀ (X : Cx), X.prog = P → X.w = w → X.K = K → X.calm = true → ∀ (i : Nat) (pins : List (Addr × Obj)) (s : Shared) (σ : St) (H : Hp) (E : Value → Shared → Prop), Inv X pins σ H s → (∀ b ∈ fp, FpOk X pins H b) → tn i s.heap → J.stop i H →
    wpAny (model P w) X.A (pyNext (.ref it)) (fun r s1 => r = none ∧ Inv X pins σ H s1) E s
  self : ∀ (A : Around) (i : Nat) (s : Shared) (Q : Value → Shared → Prop) (E : Value → Shared → Prop), tn i s.heap → Q (.ref it) s → wpAny (model P w) A (pyIter (.ref it)) Q E s
abbrev TI := St → Hp → (It → Hp → Prop) → Prop
def PIE (X : Cx) (pins : List (Addr × Obj)) (σ : St) (tg : Expr) (R : It → Hp → Prop) (itv : Value) (s2 : Shared) : Prop :=
  ∃ (it : Addr) (fp : List Addr) (tn : Nat → Heap → Prop) (J : It) (H' : Hp), itv = .ref it ∧ Inv X pins σ H' s2 ∧ Turn X.prog X.w X.K tg J fp it tn ∧ tn 0 s2.heap ∧ (∀ b ∈ fp, FpOk X pins H' b) ∧ R J H'
def PI (X : Cx) (tg iter : Expr) (wi : TI) : Prop :=
  ∀ (pins : List (Addr × Obj)) (s : Shared) (σ : St) (H : Hp) (R : It → Hp → Prop), Inv X pins σ H s → wi σ H R →
    wpAny (model X.prog X.w) X.A (eval iter X.env) (fun v s1 => wpAny (model X.prog X.w) X.A (pyIter v) (PIE X pins σ tg R) X.xe s1) X.xe s
theorem go_of {M : Model} {A : Around} {E : Value → Shared → Prop} {s : Shared} {tg : Expr} {it : Addr} {u : Value} {o : Obj} {n : String} {vs : Array Value} {Q : Unit → Shared → Prop} (ho : s.heap.get? it = some o) (hc : o.cls = .type n) (hd : o.data = .fields vs)
    (hn : ["enumerate", "zip", "dict_itemiterator", "dict_reverseitemiterator", "odict_iterator", "itertools.zip_longest", "itertools.pairwise"].contains n = false) (hQ : Q () s) : wpAny M A (letOwnedTupleGo tg (.ref it) u) Q E s := by
  unfold letOwnedTupleGo
  cases tg <;> first
    | exact wpAny_pure hQ
    | (cases u <;> first
        | exact wpAny_pure hQ
        | (refine wpAny_bind (wpAny_load ho ?_)
           rw [hc, hd]
           show wpAny M A (if (["enumerate", "zip", "dict_itemiterator", "dict_reverseitemiterator", "odict_iterator", "itertools.zip_longest", "itertools.pairwise"].contains n && vs[0]? == some (rawInt _)) = true then _ else _) Q E s
           rw [if_neg (by intro h; rw [hn, Bool.false_and] at h; cases h)]
           exact wpAny_pure hQ))
def Itl (K : PySem.W.Frag) (a : Addr) : It :=
  ⟨fun i H => ∃ xs x, SqL K H a xs ∧ xs[i]? = some x, fun i H x H' => H' = H ∧ ∀ xs, SqL K H a xs → xs[i]? = some x, fun i H => ∃ xs, SqL K H a xs ∧ xs.length ≤ i⟩
def Itr (lo : Int) (n : Nat) : It := ⟨fun i _ => i < n, fun i H x H' => H' = H ∧ x = .int (lo + i), fun i _ => n ≤ i⟩
theorem turn_list {P : Program} {w : World} {K : PySem.W.Frag} {tg : Expr} (a it : Addr) : Turn P w K tg (Itl K a) [it] it (fun i h => h.IsListIter it a i) where
  mem := by simp
  obj := fun i h st b hb => by
    have e : b = it := by simpa using hb
    subst e
    obtain ⟨o, e, c, d⟩ := st
    exact ⟨o, e, fun v z => by rw [d] at z; cases z⟩
  keep := fun i h h' st k => st.at fun o e => k it (by simp) o e
  item := by
    intro X hP hw hK hc i pins s σ H E I hf st hg
    subst hP hw hK
    obtain ⟨xs, x, hq, hx⟩ := hg
    obtain ⟨its, rv, p, hz⟩ := I.list hq
    obtain ⟨u, hu, ru⟩ := rv.get hx
    obtain ⟨f0, f1, f2, f3, f4, f5⟩ := hf it (by simp)
    refine wpAny_pyNext_list_item st p.isList (x := u) (by simpa using hu) fun h' st' sb => ?_
    have I1 : Inv X pins σ H { s with heap := h' } := I.turned (t' := s.toks) (fun b o hb e => (sb.2 b hb).trans e) f0 f1 f3 f4 f5
    obtain ⟨o, e, c, d⟩ := id st'
    exact ⟨u, rfl, go_of (s := { s with heap := h' }) e c d (by decide) ⟨x, H, I1, ru, ⟨rfl, fun ys hy => by rw [I.list_inj hy hq]; exact hx⟩, st', fun b hb => (hf b hb).1⟩⟩
  done := by
    intro X hP hw hK hc i pins s σ H E I hf st hg
    subst hP hw hK
    obtain ⟨xs, hq, hx⟩ := hg
    obtain ⟨its, rv, p, hz⟩ := I.list hq
    obtain ⟨f0, f1, f2, f3, f4, f5⟩ := hf it (by simp)
    have hl := rv.length
    exact wpAny_pyNext_list_end (I.ok.hd hc) st p.isList (by simp; omega) fun h' eb => ⟨rfl, I.turned (t' := s.toks) (fun b o hb e => eb b o hb e) f0 f1 f3 f4 f5⟩
  self := fun _ _ _ _ _ st h => wpAny_pyIter_listiter st h
theorem turn_range {P : Program} {w : World} {K : PySem.W.Frag} {tg : Expr} (it : Addr) (lo : Int) (n : Nat) : Turn P w K tg (Itr lo n) [it] it (fun i h => IsRangeIter h it (lo + (i : Nat) * 1) ((n : Int) - (i : Nat)) 1) where
  mem := by simp
  obj := fun i h st b hb => by
    have e : b = it := by simpa using hb
    subst e
    exact ⟨_, st, fun v z => by
      have z' : Data.fields _ = Data.cell v := z
      cases z'⟩
  keep := fun i h h' st k => k it (by simp) _ st
  item := by
    intro X hP hw hK hc i pins s σ H E I hf st hg
    subst hP hw hK
    obtain ⟨f0, f1, f2, f3, f4, f5⟩ := hf it (by simp)
    have W := Walks.range (prog := X.prog) (w := X.w) (I.ok.hd hc) it lo 1 n
    refine W.item i s _ _ hg st fun v h' tk hv st' kk => ?_
    obtain ⟨t, rfl⟩ := hv
    have I1 : Inv X pins σ H { s with heap := h', toks := tk } := I.turned (fun b o hb e => kk b o (by simpa using hb) e) f0 f1 f3 f4 f5
    refine ⟨_, rfl, go_of (s := { s with heap := h', toks := tk }) (n := "range_iterator") st' rfl rfl (by decide) ⟨.int (lo + i), H, I1, ⟨t, ?_⟩, ⟨rfl, rfl⟩, st', fun b hb => (hf b hb).1⟩⟩
    rw [Int.mul_one]
  done := by
    intro X hP hw hK hc i pins s σ H E I hf st hg
    subst hP hw hK
    obtain ⟨f0, f1, f2, f3, f4, f5⟩ := hf it (by simp)
    exact wpAny_pyNext_range_end (I.ok.hd hc) st (by have : n ≤ i := hg; omega) fun h' eb => ⟨rfl, I.turned (t' := s.toks) (fun b o hb e => eb b o hb e) f0 f1 f3 f4 f5⟩
  self := fun _ _ _ _ _ st h => wpAny_pyIter_rangeiter st h
end L2
namespace L2
open PySem PySem.Spec PyProof.Rows
section
variable {X : Cx} {tg : Expr}
def iList (K : PySem.W.Frag) (tl : TE) : TI := fun σ H R => tl σ H fun x H1 => ∃ a, x = .ref a ∧ (∃ xs, SqL K H1 a xs) ∧ R (Itl K a) H1
theorem pi_list {l : Expr} {tl : TE} (hl : PE X l tl) : PI X tg l (iList X.K tl) := by
  intro pins s σ H R I h
  refine thn (hl pins s σ H _ I h) fun v s1 ⟨x, H1, I1, r1, q1⟩ => ?_
  obtain ⟨a, e, ⟨xs, hq⟩, q⟩ := q1
  subst e
  cases r1
  obtain ⟨its, rv, p, hz⟩ := I1.list hq
  refine wpAny_pyIter_list p.isList ?_
  refine ⟨s1.heap.objs.size, [s1.heap.objs.size], _, _, H1, rfl, I1.kept (t' := s1.toks) fun b o e => Heap.get?_push_of_some _ e, turn_list a _, ⟨_, Heap.get?_push_size _ rfl, rfl, rfl⟩, fun b hb => ?_, q⟩
  have e : b = s1.heap.objs.size := by simpa using hb
  subst e
  exact I1.fpOk (Nat.le_refl _) (I1.hok.fresh (Nat.le_refl _))
theorem range_it {pins : List (Addr × Obj)} {σ : St} {H : Hp} {s : Shared} {R : It → Hp → Prop} {E : Value → Shared → Prop} {lo hi : Int} {t u v : Tok} {tk : Nat} (I : Inv X pins σ H s) (h1 : -(2 ^ 62) ≤ lo) (h2 : lo < 2 ^ 62) (h3 : -(2 ^ 62) ≤ hi) (h4 : hi < 2 ^ 62)
    (q : R (Itr lo (hi - lo).toNat) H) : wpAny (model X.prog X.w) X.A (pyIter (.ref s.heap.objs.size)) (PIE X pins σ tg R) E { s with heap := s.heap.push { cls := .type "range", data := .fields #[.int lo t, .int hi u, .int 1 v] }, toks := tk } := by
  refine wpAny_pyIter_range (IsRange.new ..) (small_one h1 h2 h3 h4) ?_
  have I1 : Inv X pins σ H { s with heap := s.heap.push { cls := .type "range", data := .fields #[.int lo t, .int hi u, .int 1 v] }, toks := tk } := I.kept fun b o e => Heap.get?_push_of_some _ e
  refine ⟨(s.heap.push { cls := .type "range", data := .fields #[.int lo t, .int hi u, .int 1 v] }).objs.size, [(s.heap.push { cls := .type "range", data := .fields #[.int lo t, .int hi u, .int 1 v] }).objs.size], _, _, H, rfl,
    I1.kept (t' := tk) fun b o e => Heap.get?_push_of_some _ e, turn_range _ lo (hi - lo).toNat, ?_, fun b hb => ?_, q⟩
  · have e1 : lo + ((0 : Nat) : Int) * 1 = lo := by simp
    have e2 : (((hi - lo).toNat : Nat) : Int) - ((0 : Nat) : Int) = Builtin.Range.rangeSize lo hi 1 := by rw [rangeSize_one]; split <;> omega
    show IsRangeIter _ _ (lo + ((0 : Nat) : Int) * 1) ((((hi - lo).toNat : Nat) : Int) - ((0 : Nat) : Int)) 1
    rw [e1, e2]
    exact Heap.get?_push_size _ rfl
  · have e : b = (s.heap.push { cls := .type "range", data := .fields #[.int lo t, .int hi u, .int 1 v] }).objs.size := by simpa using hb
    subst e
    exact I1.fpOk (Nat.le_refl _) (I1.hok.fresh (Nat.le_refl _))
def iRng1 (ta : TA) : TI := fun σ H R => ta σ H fun vs H1 => ∃ j : Int, vs = [.int j] ∧ -(2 ^ 62) ≤ j ∧ j < 2 ^ 62 ∧ R (Itr 0 j.toNat) H1
def iRng2 (ta : TA) : TI := fun σ H R => ta σ H fun vs H1 => ∃ i j : Int, vs = [.int i, .int j] ∧ (-(2 ^ 62) ≤ i ∧ i < 2 ^ 62 ∧ -(2 ^ 62) ≤ j ∧ j < 2 ^ 62) ∧ R (Itr i (j - i).toNat) H1
theorem pi_range1 {a : Expr} {ta : TA} {p pos : Pos} (hg : Gl X "range") (hm : X.mg "range" = none) (ha : PA X [a] ta) (hs : starEach [a] X.env = [(false, eval a X.env)] := by rfl) : PI X tg (.Call (.Name "range" p) [a] [] pos) (iRng1 ta) := by
  intro pins s σ H R I h
  refine Call_ (ld_blt I hg hm boot_range (PyProof.Rows.callWith_type1 (thn (ha pos pins s σ H _ I h) fun us s1 ⟨vs, H1, I1, r1, q1⟩ => ?_) hs rfl))
  obtain ⟨j, e, q1, q2, q⟩ := q1
  subst e
  cases r1 with
  | cons r rr =>
    cases rr
    obtain ⟨t, rfl⟩ := r
    exact call_range_1 (range_it I1 (by omega) (by omega) q1 q2 (by simpa using q))
theorem pi_range2 {a b : Expr} {ta : TA} {p pos : Pos} (hg : Gl X "range") (hm : X.mg "range" = none) (ha : PA X [a, b] ta) (hs : starEach [a, b] X.env = [(false, eval a X.env), (false, eval b X.env)] := by rfl) (hs2 : starEach [b] X.env = [(false, eval b X.env)] := by rfl) :
    PI X tg (.Call (.Name "range" p) [a, b] [] pos) (iRng2 ta) := by
  intro pins s σ H R I h
  refine Call_ (ld_blt I hg hm boot_range (PyProof.Rows.callWith_type1 (thn (ha pos pins s σ H _ I h) fun us s1 ⟨vs, H1, I1, r1, q1⟩ => ?_) (by rw [hs, hs2]) (by rw [hs2]; rfl)))
  obtain ⟨i, j, e, ⟨q1, q2, q3, q4⟩, q⟩ := q1
  subst e
  cases r1 with
  | cons r rr =>
    cases rr with
    | cons r' rr =>
      cases rr
      obtain ⟨t, rfl⟩ := r
      obtain ⟨t', rfl⟩ := r'
      exact call_range_2 (range_it I1 q1 q2 q3 q4 q)
def tFor (wi : TI) (g : TG) (tb : TS) : TS := fun D σ H => wi σ H fun J H1 => ∃ W : Nat → Nat → St → Hp → Prop, (∃ m, W 0 m σ H1) ∧ ∀ i m σ H, W i m σ H →
  (J.stop i H ∧ D.nx σ H) ∨ (J.go i H ∧ ∃ N : St → Hp → Prop, (∀ σ' H', N σ' H' → ∃ m', m' < m ∧ W (i + 1) m' σ' H') ∧ ∀ x H', J.yld i H x H' → g x σ H' fun σ2 H2 => tb { D with nx := N, ct := N, bk := D.nx } σ2 H2)
def pinsAt (fp : List Addr) (h : Heap) : List (Addr × Obj) := fp.filterMap fun b => (h.get? b).map fun o => (b, o)
theorem mem_pinsAt {fp : List Addr} {h : Heap} {b : Addr} {o : Obj} (hb : b ∈ fp) (e : h.get? b = some o) : (b, o) ∈ pinsAt fp h := List.mem_filterMap.mpr ⟨b, hb, by rw [e]; rfl⟩
theorem of_pinsAt {fp : List Addr} {h : Heap} {p : Addr × Obj} (hp : p ∈ pinsAt fp h) : p.1 ∈ fp ∧ h.get? p.1 = some p.2 := by
  obtain ⟨b, hb, e⟩ := List.mem_filterMap.mp hp
  cases q : h.get? b with
  | none => rw [q] at e; cases e
  | some o =>
    rw [q] at e
    have e' : (b, o) = p := Option.some.inj e
    subst e'
    exact ⟨hb, q⟩
theorem Inv.pinned {pins : List (Addr × Obj)} {σ : St} {H : Hp} {s : Shared} {fp : List Addr} (I : Inv X pins σ H s) (hf : ∀ b ∈ fp, FpOk X pins H b) (ho : ∀ b ∈ fp, ∃ o, s.heap.get? b = some o ∧ ∀ v, o.data ≠ .cell v) : Inv X (pins ++ pinsAt fp s.heap) σ H s :=
  I.pins_of fun p hp => (List.mem_append.mp hp).elim (fun z => I.pin p (List.mem_append_right _ z)) fun z => by
    obtain ⟨hb, e⟩ := of_pinsAt z
    obtain ⟨f0, f1, f2, _⟩ := hf p.1 hb
    obtain ⟨o, e', d⟩ := ho p.1 hb
    rw [e] at e'; cases e'
    exact ⟨e, f0, f1, f2, d⟩
theorem Inv.unpinned {pins pl : List (Addr × Obj)} {σ : St} {H : Hp} {s : Shared} (I : Inv X (pins ++ pl) σ H s) : Inv X pins σ H s := I.pins_of fun p hp => I.pin p (List.mem_append_right _ (List.mem_append_left _ hp))
theorem ps_for {iter : Expr} {body : List Stmt} {wi : TI} {g : TG} {tb : TS} {pos : Pos} (hp : PassesOwn (model X.prog X.w) X.A X.env X.xe) (hc : X.calm = true) (hi : PI X tg iter wi) (hg : PG X tg g) (hb : PSs X body tb)
    (hs : ∀ x, foldedSetIterable iter X.env x = pure x := by intro _; rfl) : PS X (.For tg iter body [] pos) (tFor wi g tb) := by
  intro pins s σ H D I h
  refine wpAny_For (thn (hi pins s σ H _ I h) fun v s1 h1 => thn h1 fun itv s2 h2 => ?_) hs
  obtain ⟨it, fp, tn, J, H2, e, I2, T, st2, f2, W, ⟨m0, w0⟩, turn⟩ := h2
  subst e
  -- what stays true of the iterator's objects through the loop
  have stat : ∀ {H' : Hp}, (∀ b ∈ fp, H' b = none) → ∀ b ∈ fp, FpOk X pins H' b := fun hn b hb => ⟨hn b hb, (f2 b hb).2⟩
  refine codeAny_forLoop_any (fun n s' => ∃ i σ' H', Inv X pins σ' H' s' ∧ tn i s'.heap ∧ (∀ b ∈ fp, H' b = none) ∧ W i n σ' H') ?_ m0 ⟨0, σ, H2, I2, st2, fun b hb => (f2 b hb).1, w0⟩
  rintro n s3 ⟨i, σ3, H3, I3, st3, fr3, w3⟩
  rcases turn i n σ3 H3 w3 with ⟨stop, qn⟩ | ⟨go, N, hN, step⟩
  · refine wpAny_passesOwn hp (thn (T.done X rfl rfl rfl hc i pins s3 σ3 H3 X.xe I3 (stat fr3) st3 stop) fun r s4 ⟨hr, I4⟩ => ?_)
    subst hr
    exact wpAny_execs_nil ⟨σ3, H3, I4, qn⟩
  · refine wpAny_passesOwn hp (thn (T.item X rfl rfl rfl hc i pins s3 σ3 H3 X.xe I3 (stat fr3) st3 go) fun r s4 ⟨u, hr, h4⟩ => ?_)
    subst hr
    refine wpAny_passesOwn hp (thn h4 fun _ s5 ⟨x, H5, I5, r5, y5, st5, fr5⟩ => ?_)
    have I5' := I5.pinned (stat fr5) (T.obj _ _ st5)
    refine wpAny_passesOwn hp (thn (hg _ s5 σ3 H5 x u _ I5' r5 (step x H5 y5)) fun _ s6 ⟨σ6, H6, I6, q6⟩ => ?_)
    refine wpAny_passesOwn hp (thn (hb _ s6 σ6 H6 _ I6 q6) fun f s7 q7 => ?_)
    have again : ∀ {σ7 : St} {H7 : Hp}, Inv X (pins ++ pinsAt fp s5.heap) σ7 H7 s7 → N σ7 H7 → ∃ m, m < n ∧ ∃ i σ' H', Inv X pins σ' H' s7 ∧ tn i s7.heap ∧ (∀ b ∈ fp, H' b = none) ∧ W i m σ' H' := fun {σ7 H7} I7 n7 => by
      obtain ⟨m', hm, w7⟩ := hN σ7 H7 n7
      refine ⟨m', hm, i + 1, σ7, H7, I7.unpinned, T.keep _ _ _ st5 fun b hb o e => (I7.pin (b, o) (List.mem_append_right _ (List.mem_append_right _ (mem_pinsAt hb e)))).1, fun b hb => ?_, w7⟩
      obtain ⟨o, e, d⟩ := T.obj _ _ st5 b hb
      exact (I7.pin (b, o) (List.mem_append_right _ (List.mem_append_right _ (mem_pinsAt hb e)))).2.1
    cases f with
    | next => obtain ⟨σ7, H7, I7, n7⟩ := q7; exact again I7 n7
    | cont => obtain ⟨σ7, H7, I7, n7⟩ := q7; exact again I7 n7
    | brk => obtain ⟨σ7, H7, I7, q7⟩ := q7; exact ⟨σ7, H7, I7.unpinned, q7⟩
    | ret v => obtain ⟨x7, σ7, H7, I7, r7, q7⟩ := q7; exact ⟨x7, σ7, H7, I7.unpinned, r7, q7⟩
end
theorem for_list {K : PySem.W.Frag} {a : Addr} {xs : List V} {g : TG} {tb : TS} {D : Ends} {σ : St} {H : Hp} (Pv : Nat → St → Hp → Prop) (h0 : Pv 0 σ H) (hl : ∀ i σ H, i ≤ xs.length → Pv i σ H → SqL K H a xs)
    (hs : ∀ i x σ H, xs[i]? = some x → Pv i σ H → g x σ H fun σ2 H2 => tb { D with nx := Pv (i + 1), ct := Pv (i + 1), bk := D.nx } σ2 H2) (hd : ∀ σ H, Pv xs.length σ H → D.nx σ H) :
    ∃ W : Nat → Nat → St → Hp → Prop, (∃ m, W 0 m σ H) ∧ ∀ i m σ H, W i m σ H →
      ((Itl K a).stop i H ∧ D.nx σ H) ∨ ((Itl K a).go i H ∧ ∃ N : St → Hp → Prop, (∀ σ' H', N σ' H' → ∃ m', m' < m ∧ W (i + 1) m' σ' H') ∧ ∀ x H', (Itl K a).yld i H x H' → g x σ H' fun σ2 H2 => tb { D with nx := N, ct := N, bk := D.nx } σ2 H2) := by
  refine ⟨fun i m σ H => m = xs.length - i ∧ i ≤ xs.length ∧ Pv i σ H, ⟨xs.length, by simp, Nat.zero_le _, h0⟩, ?_⟩
  rintro i m σ H ⟨rfl, hi, p⟩
  have q := hl i σ H hi p
  by_cases hlt : i < xs.length
  · refine .inr ⟨⟨xs, xs[i], q, by simp [hlt]⟩, Pv (i + 1), fun σ' H' p' => ⟨xs.length - (i + 1), by omega, rfl, hlt, p'⟩, fun x H' y => ?_⟩
    obtain ⟨e, y⟩ := y
    subst e
    exact hs i x σ _ (y xs q) p
  · have e : i = xs.length := by omega
    subst e
    exact .inl ⟨⟨xs, q, Nat.le_refl _⟩, hd σ H p⟩
theorem for_range {lo : Int} {n : Nat} {g : TG} {tb : TS} {D : Ends} {σ : St} {H : Hp} (Pv : Nat → St → Hp → Prop) (h0 : Pv 0 σ H)
    (hs : ∀ i σ H, i < n → Pv i σ H → g (.int (lo + i)) σ H fun σ2 H2 => tb { D with nx := Pv (i + 1), ct := Pv (i + 1), bk := D.nx } σ2 H2) (hd : ∀ σ H, Pv n σ H → D.nx σ H) :
    ∃ W : Nat → Nat → St → Hp → Prop, (∃ m, W 0 m σ H) ∧ ∀ i m σ H, W i m σ H →
      ((Itr lo n).stop i H ∧ D.nx σ H) ∨ ((Itr lo n).go i H ∧ ∃ N : St → Hp → Prop, (∀ σ' H', N σ' H' → ∃ m', m' < m ∧ W (i + 1) m' σ' H') ∧ ∀ x H', (Itr lo n).yld i H x H' → g x σ H' fun σ2 H2 => tb { D with nx := N, ct := N, bk := D.nx } σ2 H2) := by
  refine ⟨fun i m σ H => m = n - i ∧ i ≤ n ∧ Pv i σ H, ⟨n, by simp, Nat.zero_le _, h0⟩, ?_⟩
  rintro i m σ H ⟨rfl, hi, p⟩
  by_cases hlt : i < n
  · refine .inr ⟨hlt, Pv (i + 1), fun σ' H' p' => ⟨n - (i + 1), by omega, rfl, hlt, p'⟩, fun x H' y => ?_⟩
    obtain ⟨e, y⟩ := y
    subst e y
    exact hs i σ _ hlt p
  · have e : i = n := by omega
    subst e
    exact .inl ⟨Nat.le_refl _, hd σ H p⟩
end L2
namespace L2
open PySem PySem.Spec PyProof.Rows
abbrev R2 := V → V → Hp → VK → Prop
def OpR (X : Cx) (f : Value → Value → Sem Value) (r : R2) : Prop :=
  ∀ (pins : List (Addr × Obj)) (s : Shared) (σ : St) (H : Hp) (x y : V) (v u : Value) (Q : VK), Inv X pins σ H s → RelV x v → RelV y u → r x y H Q →
    wpAny (model X.prog X.w) X.A (f v u) (EP X pins σ Q) X.xe s
def UnR (X : Cx) (f : Value → Sem Value) (r : V → Hp → VK → Prop) : Prop :=
  ∀ (pins : List (Addr × Obj)) (s : Shared) (σ : St) (H : Hp) (x : V) (v : Value) (Q : VK), Inv X pins σ H s → RelV x v → r x H Q →
    wpAny (model X.prog X.w) X.A (f v) (EP X pins σ Q) X.xe s
def CallR (X : Cx) (f : Value) (r : List V → Hp → VK → Prop) : Prop :=
  ∀ (pins : List (Addr × Obj)) (s : Shared) (σ : St) (H : Hp) (xs : List V) (us : List Value) (Q : VK), Inv X pins σ H s → Vals xs us → r xs H Q →
    wpAny (model X.prog X.w) X.A (call f us) (EP X pins σ Q) X.xe s
def tOp (r : R2) (ta tb : TE) : TE := fun σ H Q => ta σ H fun x H1 => tb σ H1 fun y H2 => r x y H2 Q
def tUn (r : V → Hp → VK → Prop) (ta : TE) : TE := fun σ H Q => ta σ H fun x H1 => r x H1 Q
def rI0 (g : Int → Int → V) : R2 := fun x y H Q => ∃ i j, x = .int i ∧ y = .int j ∧ Q (g i j) H
def rU (g : Int → V) : V → Hp → VK → Prop := fun x H Q => ∃ i, x = .int i ∧ Q (g i) H
section
variable {X : Cx} {a b c : Expr} {ta tb tc : TE} {pos : Pos}
theorem binT (ha : PE X a ta) (hb : PE X b tb) {pins : List (Addr × Obj)} {s : Shared} {σ : St} {H : Hp} {R : V → V → Hp → Prop} (I : Inv X pins σ H s)
    (h : ta σ H fun x H1 => tb σ H1 fun y H2 => R x y H2) {Q : Value → Shared → Prop} {f : Value → Value → Sem Value}
    (hf : ∀ v u s2 x y H2, Inv X pins σ H2 s2 → RelV x v → RelV y u → R x y H2 → wpAny (model X.prog X.w) X.A (f v u) Q X.xe s2) :
    wpAny (model X.prog X.w) X.A (eval a X.env) (fun v s₁ => wpAny (model X.prog X.w) X.A (eval b X.env) (fun u s₂ => wpAny (model X.prog X.w) X.A (f v u) Q X.xe s₂) X.xe s₁) X.xe s := by
  refine thn (ha pins s σ H _ I h) fun v s1 ⟨x, H1, I1, r1, q1⟩ => ?_
  refine thn (hb pins s1 σ H1 _ I1 q1) fun u s2 ⟨y, H2, I2, r2, q2⟩ => ?_
  exact hf v u s2 x y H2 I2 r1 r2 q2
theorem pe_op {op : Operator} {r : R2} (ho : OpR X (binaryOp op) r) (ha : PE X a ta) (hb : PE X b tb) : PE X (.BinOp a op b pos) (tOp r ta tb) := by
  intro pins s σ H Q I h
  exact wpAny_BinOp (binT ha hb I h fun v u s2 x y H2 I2 rx ry q => ho pins s2 σ H2 x y v u Q I2 rx ry q)
theorem pe_un {op : UnaryOp} {r : V → Hp → VK → Prop} (ho : UnR X (unaryOp op) r) (ha : PE X a ta) : PE X (.UnaryOp op a pos) (tUn r ta) := by
  intro pins s σ H Q I h
  exact UnaryOp_ (thn (ha pins s σ H _ I h) fun v s1 ⟨x, H1, I1, r1, q1⟩ => ho pins s1 σ H1 x v Q I1 r1 q1)
theorem opI0 {f : Value → Value → Sem Value} {g : Int → Int → Int}
    (rule : ∀ (i j : Int) (t u : Tok) (s : Shared) (Q : Value → Shared → Prop) (E : Value → Shared → Prop), Q (.int (g i j) s.toks) { s with toks := s.toks + 1 } → wpAny (model X.prog X.w) X.A (f (.int i t) (.int j u)) Q E s) :
    OpR X f (rI0 fun i j => .int (g i j)) := by
  intro pins s σ H x y v u Q I rx ry h
  obtain ⟨i, j, rfl, rfl, q⟩ := h
  obtain ⟨t, rfl⟩ := rx
  obtain ⟨t', rfl⟩ := ry
  exact rule i j t t' s _ _ ⟨.int (g i j), H, I.tok _, ⟨_, rfl⟩, q⟩
theorem opB0 {f : Value → Value → Sem Value} {g : Int → Int → Bool}
    (rule : ∀ (i j : Int) (t u : Tok) (s : Shared) (Q : Value → Shared → Prop) (E : Value → Shared → Prop), Q (.bool (g i j)) s → wpAny (model X.prog X.w) X.A (f (.int i t) (.int j u)) Q E s) :
    OpR X f (rI0 fun i j => .bl (g i j)) := by
  intro pins s σ H x y v u Q I rx ry h
  obtain ⟨i, j, rfl, rfl, q⟩ := h
  obtain ⟨t, rfl⟩ := rx
  obtain ⟨t', rfl⟩ := ry
  exact rule i j t t' s _ _ ⟨.bl (g i j), H, I, rfl, q⟩
theorem op_add : OpR X (binaryOp .Add) (rI0 fun i j => .int (i + j)) := opI0 fun _ _ _ _ _ _ _ q => add_int q
theorem op_sub : OpR X (binaryOp .Sub) (rI0 fun i j => .int (i - j)) := opI0 fun _ _ _ _ _ _ _ q => sub_int q
theorem unI {f : Value → Sem Value} {g : Int → Int}
    (rule : ∀ (i : Int) (t : Tok) (s : Shared) (Q : Value → Shared → Prop) (E : Value → Shared → Prop), Q (.int (g i) s.toks) { s with toks := s.toks + 1 } → wpAny (model X.prog X.w) X.A (f (.int i t)) Q E s) :
    UnR X f (rU fun i => .int (g i)) := by
  intro pins s σ H x v Q I rx h
  obtain ⟨i, rfl, q⟩ := h
  obtain ⟨t, rfl⟩ := rx
  exact rule i t s _ _ ⟨.int (g i), H, I.tok _, ⟨_, rfl⟩, q⟩
theorem un_neg : UnR X (unaryOp .USub) (rU fun i => .int (-i)) := unI fun _ _ _ _ _ q => neg_int q
end
def scal : V → V → Bool
  | .non, .non => true | .non, .int _ => true | .int _, .non => true | .non, .bl _ => true | .bl _, .non => true | .non, .str _ => true | .str _, .non => true
  | .int _, .int _ => true | .bl _, .bl _ => true | .str _, .str _ => true | .byt _, .byt _ => true
  | .int _, .str _ => true | .str _, .int _ => true | .bl _, .str _ => true | .str _, .bl _ => true
  | _, _ => false
def rEq : R2 := fun x y H Q => scal x y = true ∧ Q (.bl (decide (x = y))) H
def rNe : R2 := fun x y H Q => scal x y = true ∧ Q (.bl (!decide (x = y))) H
theorem dec_int {i j : Int} : decide (V.int i = V.int j) = (i == j) := by
  rw [Bool.eq_iff_iff]
  simp
theorem dec_bl {i j : Bool} : decide (V.bl i = V.bl j) = (i == j) := by
  rw [Bool.eq_iff_iff]
  simp
theorem dec_str {i j : Str} : decide (V.str i = V.str j) = (i == j) := by
  rw [Bool.eq_iff_iff]
  simp
theorem dec_byt {i j : Array UInt8} : decide (V.byt i = V.byt j) = (i.toList == j.toList) := by
  rw [Bool.eq_iff_iff]
  cases i
  cases j
  simp
section
variable {X : Cx} {a b c : Expr} {ta tb tc : TE} {pos : Pos}
theorem fin_bl {pins : List (Addr × Obj)} {σ : St} {H : Hp} {s : Shared} {Q : VK} {k k' : Bool} (I : Inv X pins σ H s) (q : Q (.bl k) H) (e : k = k') : EP X pins σ Q (.bool k') s := by
  subst e
  exact ⟨.bl k, H, I, rfl, q⟩
theorem op_eq : OpR X (compareOp .Eq) rEq := by
  intro pins s σ H x y v u Q I rx ry h
  obtain ⟨hs, q⟩ := h
  cases x with
  | non =>
    cases rx
    cases y with
    | non => cases ry; exact PySem.EqNone.eq_none_none (fin_bl I q (by simp))
    | bl j => cases ry; exact PySem.EqNone.eq_none_bool (fin_bl I q (by simp))
    | int j => obtain ⟨t', rfl⟩ := ry; exact PySem.EqNone.eq_none_int (fin_bl I q (by simp))
    | str j => obtain ⟨t', rfl⟩ := ry; exact PySem.EqNone.eq_none_str (fin_bl I q (by simp))
    | _ => exact absurd (show false = true from hs) Bool.false_ne_true
  | bl i =>
    cases rx
    cases y with
    | non => cases ry; exact PySem.EqNone.eq_bool_none (fin_bl I q (by simp))
    | bl j => cases ry; exact eq_bool (fin_bl I q dec_bl)
    | str j => obtain ⟨t', rfl⟩ := ry; exact PySem.EqMixed.eq_bool_str (fin_bl I q (by simp))
    | _ => exact absurd (show false = true from hs) Bool.false_ne_true
  | int i =>
    obtain ⟨t, rfl⟩ := rx
    cases y with
    | non => cases ry; exact PySem.EqNone.eq_int_none (fin_bl I q (by simp))
    | int j => obtain ⟨t', rfl⟩ := ry; exact eq_int (fin_bl I q dec_int)
    | str j => obtain ⟨t', rfl⟩ := ry; exact PySem.EqMixed.eq_int_str (fin_bl I q (by simp))
    | _ => exact absurd (show false = true from hs) Bool.false_ne_true
  | str i =>
    obtain ⟨t, rfl⟩ := rx
    cases y with
    | non => cases ry; exact PySem.EqNone.eq_str_none (fin_bl I q (by simp))
    | bl j => cases ry; exact PySem.EqMixed.eq_str_bool (fin_bl I q (by simp))
    | int j => obtain ⟨t', rfl⟩ := ry; exact PySem.EqMixed.eq_str_int (fin_bl I q (by simp))
    | str j => obtain ⟨t', rfl⟩ := ry; exact eq_str (fin_bl I q dec_str)
    | _ => exact absurd (show false = true from hs) Bool.false_ne_true
  | byt i =>
    obtain ⟨t, rfl⟩ := rx
    cases y with
    | byt j => obtain ⟨t', rfl⟩ := ry; exact PySem.W.eq_bytes (fin_bl I q dec_byt)
    | _ => exact absurd (show false = true from hs) Bool.false_ne_true
  | _ => cases y <;> exact absurd (show false = true from hs) Bool.false_ne_true
theorem op_ne : OpR X (compareOp .NotEq) rNe := by
  intro pins s σ H x y v u Q I rx ry h
  obtain ⟨hs, q⟩ := h
  cases x with
  | non =>
    cases rx
    cases y with
    | non => cases ry; exact PySem.EqNone.ne_none_none (fin_bl I q (by simp))
    | bl j => cases ry; exact PySem.EqNone.ne_none_bool (fin_bl I q (by simp))
    | int j => obtain ⟨t', rfl⟩ := ry; exact PySem.EqNone.ne_none_int (fin_bl I q (by simp))
    | str j => obtain ⟨t', rfl⟩ := ry; exact PySem.EqNone.ne_none_str (fin_bl I q (by simp))
    | _ => exact absurd (show false = true from hs) Bool.false_ne_true
  | bl i =>
    cases rx
    cases y with
    | non => cases ry; exact PySem.EqNone.ne_bool_none (fin_bl I q (by simp))
    | bl j => cases ry; exact ne_bool (fin_bl I q (congrArg not dec_bl))
    | str j => obtain ⟨t', rfl⟩ := ry; exact PySem.EqMixed.ne_bool_str (fin_bl I q (by simp))
    | _ => exact absurd (show false = true from hs) Bool.false_ne_true
  | int i =>
    obtain ⟨t, rfl⟩ := rx
    cases y with
    | non => cases ry; exact PySem.EqNone.ne_int_none (fin_bl I q (by simp))
    | int j => obtain ⟨t', rfl⟩ := ry; exact ne_int (fin_bl I q (congrArg not dec_int))
    | str j => obtain ⟨t', rfl⟩ := ry; exact PySem.EqMixed.ne_int_str (fin_bl I q (by simp))
    | _ => exact absurd (show false = true from hs) Bool.false_ne_true
  | str i =>
    obtain ⟨t, rfl⟩ := rx
    cases y with
    | non => cases ry; exact PySem.EqNone.ne_str_none (fin_bl I q (by simp))
    | bl j => cases ry; exact PySem.EqMixed.ne_str_bool (fin_bl I q (by simp))
    | int j => obtain ⟨t', rfl⟩ := ry; exact PySem.EqMixed.ne_str_int (fin_bl I q (by simp))
    | str j => obtain ⟨t', rfl⟩ := ry; exact ne_str (fin_bl I q (congrArg not dec_str))
    | _ => exact absurd (show false = true from hs) Bool.false_ne_true
  | byt i =>
    obtain ⟨t, rfl⟩ := rx
    cases y with
    | byt j => obtain ⟨t', rfl⟩ := ry; exact PySem.W.ne_bytes (fin_bl I q (congrArg not dec_byt))
    | _ => exact absurd (show false = true from hs) Bool.false_ne_true
  | _ => cases y <;> exact absurd (show false = true from hs) Bool.false_ne_true
theorem op_lt : OpR X (compareOp .Lt) (rI0 fun i j => .bl (decide (i < j))) := opB0 fun _ _ _ _ _ _ _ q => lt_int q
theorem op_le : OpR X (compareOp .LtE) (rI0 fun i j => .bl (decide (i ≤ j))) := opB0 fun _ _ _ _ _ _ _ q => le_int q
theorem op_gt : OpR X (compareOp .Gt) (rI0 fun i j => .bl (decide (j < i))) := opB0 fun _ _ _ _ _ _ _ q => gt_int q
theorem nomark (b : Expr) {op : CmpOp} (h : op ≠ .In := by decide) (h2 : op ≠ .NotIn := by decide) : behindInMarks op b = false := by
  have e1 : (op == CmpOp.In) = false := by cases op <;> first | rfl | exact absurd rfl h
  have e2 : (op == CmpOp.NotIn) = false := by cases op <;> first | rfl | exact absurd rfl h2
  cases b <;> simp [behindInMarks, e1, e2]
theorem pe_cmpR {op : CmpOp} {r : R2} (ho : OpR X (compareOp op) r) (ha : PE X a ta) (hb : PE X b tb) (hm : behindInMarks op b = false) : PE X (.Compare a [op] [b] pos) (tOp r ta tb) := by
  intro pins s σ H Q I h
  exact wpAny_Compare1 (binT ha hb I h fun v u s2 x y H2 I2 rx ry q => ho pins s2 σ H2 x y v u Q I2 rx ry q) hm
def tTest (t : TE) : TT := fun σ H Q => t σ H fun x H' => ∃ k, x = .bl k ∧ Q k H'
theorem pt_cmpR {op : CmpOp} {r : R2} (ho : OpR X (compareOp op) r) (ha : PE X a ta) (hb : PE X b tb) (hm : behindInMarks op b = false) : PT X (.Compare a [op] [b] pos) (tTest (tOp r ta tb)) := by
  intro pins s σ H Q I h
  refine wpAny_isTrue_Compare1 (thn (ha pins s σ H _ I h) fun v s1 ⟨x, H1, I1, r1, q1⟩ => thn (hb pins s1 σ H1 _ I1 q1) fun u s2 ⟨y, H2, I2, r2, q2⟩ =>
    thn (ho pins s2 σ H2 x y v u _ I2 r1 r2 q2) fun c s3 ⟨z, H3, I3, r3, k, e, q3⟩ => ?_) hm
  subst e
  cases r3
  exact wpAny_truthy_bool ⟨H3, I3, q3⟩
theorem line63 : (sizeLine : Nat) < 2 ^ 63 := by rw [sizeLine_eq]; decide
theorem vals1 {x : V} {us : List Value} (r : Vals [x] us) : ∃ u, us = [u] ∧ RelV x u := by
  cases r with
  | cons r1 r2 => cases r2; exact ⟨_, rfl, r1⟩
theorem call_abs : CallR X (.builtin "abs") (fun xs H Q => ∃ i, xs = [.int i] ∧ Q (.int (if i < 0 then -i else i)) H) := by
  intro pins s σ H xs us Q I r h
  obtain ⟨i, rfl, q⟩ := h
  obtain ⟨u, rfl, t, rfl⟩ := vals1 r
  exact call_abs_int fun u tk => ⟨.int (if i < 0 then -i else i), H, I.tok _, ⟨_, rfl⟩, q⟩
end
end L2
namespace L2
open PySem PySem.Spec PyProof.Rows
structure ObjM (h : Heap) (x dx C : Addr) (mA : Str → Option Value) : Prop where
  obj : h.get? x = some (PySem.W.instObj C dx)
  ns : h.Ns1 dx mA
  ne : dx ≠ x
theorem lookIn_ns {h : Heap} {dx : Addr} {mA : Str → Option Value} (n : h.Ns1 dx mA) : ∃ od, h.get? dx = some od ∧ ∀ name, PySem.W.lookIn name od = some (mA name) := by
  obtain ⟨o, es, ep, ho, hd, hk, _, hm⟩ := n
  refine ⟨o, ho, fun name => ?_⟩
  have e := hm name
  unfold nsFind findBy at e
  rw [← Array.find?_toList] at e
  unfold PySem.W.lookIn
  rw [hd]
  dsimp only
  split
  · rename_i y q
    rw [q] at e
    exact congrArg some e
  · rename_i q
    rw [q] at e
    have a : es.toList.any (·.refKey) = false := by
      rw [List.any_eq_false]
      intro y hy
      obtain ⟨z, t, hkey⟩ := hk y (Array.mem_toList_iff.mp hy)
      simp [DictEntry.refKey, hkey]
    have a' : ¬ es.toList.any (·.refKey) = true := by rw [a]; exact Bool.false_ne_true
    rw [if_neg a']
    exact congrArg some e
theorem ObjM.look {h : Heap} {x dx C : Addr} {mA : Str → Option Value} (I : ObjM h x dx C mA) : ∃ od, PySem.W.InstAt h x (PySem.W.instObj C dx) C (some od) ∧ ∀ name, PySem.W.lookIn name od = some (mA name) :=
  let ⟨od, ho, hl⟩ := lookIn_ns I.ns
  ⟨od, ⟨I.obj, rfl, rfl, ho⟩, hl⟩
section
variable {prog : Program} {w : World} {A : Around} {E : Value → Shared → Prop} {s : Shared} {K : PySem.W.Frag} {x dx C f : Addr} {mA : Str → Option Value} {name : Str} {v : Value}
theorem get_map {expr : Bool} {Q : Value → Shared → Prop} (X : K.In s.heap) (I : ObjM s.heap x dx C mA) (hg : PySem.W.plainGet K C name = true) (hh : PySem.W.hasDictIn K C = true)
    (ha : PySem.W.findIn K (.ref C) name = some none) (hv : mA name = some v) (hv' : PySem.W.handedIn v = true) (h : Q v { s with toks := s.toks + 1 }) :
    wpAny (model prog w) A (getAttr (.ref x) name expr) Q E s := by
  obtain ⟨od, J, hl⟩ := I.look
  exact PySem.W.get_value X J (PySem.W.plainGet_of hg).1 (PySem.W.findObj_own hh ha rfl (by rw [hl, hv])) hv' h
theorem get_meth {pl : Sem Bool} {Q : Value × List Value → Shared → Prop} (X : K.In s.heap) (I : ObjM s.heap x dx C mA) (hg : PySem.W.plainGet K C name = true)
    (hf : PySem.W.findIn K (.ref C) name = some (some (.ref f))) (ht : PySem.W.isFn K (.ref f) = true) (hv : mA name = none) (h : Q (.ref f, [.ref x]) s) :
    wpAny (model prog w) A (getMethod (.ref x) name pl) Q E s := by
  obtain ⟨od, J, hl⟩ := I.look
  exact PySem.W.method_fn X J (PySem.W.plainGet_of hg).1 (PySem.W.plainGet_of hg).2 hf (beq_iff_eq.mp ht) (by show (PySem.W.lookIn name od).map (·.isSome) = some false; rw [hl, hv]; rfl) h
theorem set_map {ns : List Str} {Q : Unit → Shared → Prop} (X : K.In s.heap) (I : ObjM s.heap x dx C mA)
    (hs : PySem.W.findIn K (.ref C) "__setattr__" = some (some (.builtin "object.__setattr__"))) (hp : PySem.W.plainOver K C = true) (ht : PySem.W.takerIn K C name = some none) (hh : PySem.W.hasDictIn K C = true)
    (hw : PySem.Within mA ns) (hsz : ns.length ≤ sizeLine)
    (h : ∀ h', ObjM h' x dx C (fun y => if y = name then some v else mA y) → Heap.SameBut dx s.heap h' → Q () { s with heap := h', toks := s.toks + 2 }) :
    wpAny (model prog w) A (setAttr (.ref x) name v) Q E s := by
  obtain ⟨od, J, hl⟩ := I.look
  refine PySem.W.set_plain X J hs (PySem.W.osa_open (s := { s with toks := s.toks + 1 }) (r := none) X J hp ht fun b => ?_)
  obtain ⟨cd, hc, hd'⟩ := PySem.W.any_some hh
  have hx : s.heap.get? x = some ⟨.ref C, some dx, .plain, #[]⟩ := I.obj
  refine wpAny_bind (wpAny_pure (wpAny_bind (wpAny_bind (wpAny_loadPart hx (wpAny_bind (PySem.W.Looks.here (s := { s with toks := s.toks + 1 }) (PySem.W.looks_clsIn X hc) ?_))))))
  rw [hd']
  refine wpAny_pure (a := some dx) (wpAny_bind (wpAny_pure (wpAny_bind ?_)))
  refine wpAny_nsSet1 (s := { s with toks := s.toks + 1 }) I.ns fun h' hn2 hs2 => ?_
  obtain ⟨oD, esD, epD, hoD, hdD, hcD⟩ := hn2.count (PySem.Within.cons name v hw)
  refine wpAny_bind (wpAny_lookBehind hoD (by rw [hdD]; exact pastItsLine_dict (Nat.le_trans hcD (by rw [List.length_cons]; omega))) ?_)
  exact wpAny_pure (h _ ⟨(hs2.2 _ (Ne.symm I.ne)).trans I.obj, hn2, I.ne⟩ hs2)
theorem make_map {R : Result → Shared → Prop} {vs : List Value} {kw : List (Str × Value)} (X : K.In s.heap) (hm : PySem.W.makesIn K C = true)
    (hi : PySem.W.findIn K (.ref C) "__init__" = some (some (.ref f))) (hf : PySem.W.typeIn K (.ref f) = some (.type "function"))
    (h : codeAny (model prog w) (A.under (.builtin "type.__call__" ⟨.ref C :: vs, kw⟩)) (.call (.ref f) ⟨.ref (s.heap.objs.size + 1) :: vs, kw⟩) (PySem.W.InitBack (s.heap.objs.size + 1) R)
      { s with heap := (s.heap.push PySem.W.emptyDict).push (PySem.W.instObj C s.heap.objs.size) }) :
    codeAny (model prog w) A (.call (.ref C) ⟨vs, kw⟩) R s := by
  obtain ⟨hh, g, d, t, os⟩ := s
  exact PySem.W.make_core (PySem.W.makes_of X hm) (PySem.W.looks_findIn X hi) (fun self => PySem.W.bind_fn X self hf) (.inl rfl) h
end
def putF (f : Str) (v : V) : List (Str × V) → List (Str × V)
  | [] => [(f, v)]
  | (g, x) :: r => if g = f then (g, v) :: r else (g, x) :: putF f v r
theorem lookup_putF (f g : Str) (v : V) : ∀ fs : List (Str × V), (putF f v fs).lookup g = if g = f then some v else fs.lookup g
  | [] => by
    show List.lookup g [(f, v)] = _
    by_cases h : g = f
    · have hb : (g == f) = true := beq_iff_eq.mpr h
      simp only [List.lookup, hb, if_pos h]
    · have hb : (g == f) = false := beq_eq_false_iff_ne.mpr h
      simp only [List.lookup, hb, if_neg h]
  | (k, x) :: r => by
    have ih := lookup_putF f g v r
    rw [show putF f v ((k, x) :: r) = (if k = f then (k, v) :: r else (k, x) :: putF f v r) from rfl]
    by_cases hk : k = f
    · rw [if_pos hk]
      by_cases h : g = k
      · have hb : (g == k) = true := beq_iff_eq.mpr h
        simp only [List.lookup, hb, if_pos (h.trans hk)]
      · have hb : (g == k) = false := beq_eq_false_iff_ne.mpr h
        simp only [List.lookup, hb, if_neg (fun e : g = f => h (e.trans hk.symm))]
    · rw [if_neg hk]
      by_cases h : g = k
      · have hb : (g == k) = true := beq_iff_eq.mpr h
        simp only [List.lookup, hb, if_neg (fun e : g = f => hk (h.symm.trans e))]
      · have hb : (g == k) = false := beq_eq_false_iff_ne.mpr h
        simp only [List.lookup, hb]
        exact ih
theorem keys_putF (f : Str) (v : V) : ∀ fs : List (Str × V), f ∈ (putF f v fs).map (·.1) ∧ ∀ g, g ∈ fs.map (·.1) → g ∈ (putF f v fs).map (·.1)
  | [] => ⟨by simp [putF], fun g h => by simp at h⟩
  | (k, x) :: r => by
    obtain ⟨i1, i2⟩ := keys_putF f v r
    rw [show putF f v ((k, x) :: r) = (if k = f then (k, v) :: r else (k, x) :: putF f v r) from rfl]
    by_cases hk : k = f
    · rw [if_pos hk]
      subst hk
      exact ⟨by simp, fun g h => by simpa using h⟩
    · rw [if_neg hk]
      refine ⟨?_, fun g h => ?_⟩
      · rw [List.map_cons]
        exact List.mem_cons_of_mem _ i1
      · rw [List.map_cons] at h ⊢
        rcases List.mem_cons.mp h with e | e
        · exact List.mem_cons.mpr (.inl e)
        · exact List.mem_cons_of_mem _ (i2 g e)
theorem length_putF (f : Str) (v : V) : ∀ fs : List (Str × V), (putF f v fs).length ≤ fs.length + 1
  | [] => by simp [putF]
  | (k, x) :: r => by
    have ih := length_putF f v r
    rw [show putF f v ((k, x) :: r) = (if k = f then (k, v) :: r else (k, x) :: putF f v r) from rfl]
    by_cases hk : k = f
    · rw [if_pos hk, List.length_cons, List.length_cons]; omega
    · rw [if_neg hk, List.length_cons, List.length_cons]; omega
theorem RelO.some_of {v : V} {o : Option Value} (r : RelO (some v) o) : ∃ u, o = some u ∧ RelV v u := by
  cases o with
  | none => exact (show False from r).elim
  | some u => exact ⟨u, rfl, r⟩
theorem RelO.none_of {o : Option Value} (r : RelO none o) : o = none := by
  cases o with
  | none => rfl
  | some u => exact (show False from r).elim
theorem handed_of {v : V} {u : Value} (r : RelV v u) : PySem.W.handedIn u = true := by
  cases v with
  | non => cases (show u = Value.none from r); rfl
  | bl b => cases (show u = Value.bool b from r); rfl
  | int i => obtain ⟨t, e⟩ := (show ∃ t, u = Value.int i t from r); cases e; rfl
  | str x => obtain ⟨t, e⟩ := (show ∃ t, u = Value.str x t from r); cases e; rfl
  | byt b => obtain ⟨t, e⟩ := (show ∃ t, u = Value.bytes b t from r); cases e; rfl
  | flt b => obtain ⟨t, e⟩ := (show ∃ t, u = Value.float b t from r); cases e; rfl
  | ref a => cases (show u = Value.ref a from r); rfl
  | ty n => cases (show u = Value.type n from r); rfl
section
variable {P : Program} {w : World} {H H' : Hp} {h h' : Heap} {a C dx : Addr} {fs fs' : List (Str × V)}
theorem ins_get (hok : HOk P w H h) (e : H a = some (.ins C dx fs)) : ∃ mA, ObjM h a dx C mA ∧ (∀ f, RelO (fs.lookup f) (mA f)) ∧ PySem.Within mA (fs.map (·.1)) ∧ fs.length ≤ 1000 ∧ H dx = some (.own a) := by
  obtain ⟨d, z, ne, ob, mA, n, r, q⟩ := (show ObjOk P w H h a (.ins C dx fs) from hok a _ e)
  exact ⟨mA, ⟨ob, n, ne⟩, r, q, z, d⟩
end
structure Cls (K : PySem.W.Frag) (C : Addr) : Prop where
  pg : PySem.W.plainGet K C Str.empty = true
  hd : PySem.W.hasDictIn K C = true
  po : PySem.W.plainOver K C = true
  sa : PySem.W.findIn K (.ref C) "__setattr__" = some (some (.builtin "object.__setattr__"))
theorem Cls.get {K : PySem.W.Frag} {C : Addr} (c : Cls K C) (f : Str) : PySem.W.plainGet K C f = true := c.pg
def NoAttr (K : PySem.W.Frag) (C : Addr) (f : Str) : Prop := PySem.W.findIn K (.ref C) f = some none
theorem NoAttr.taker {K : PySem.W.Frag} {C : Addr} {f : Str} (n : NoAttr K C f) : PySem.W.takerIn K C f = some none := by
  unfold PySem.W.takerIn
  rw [show PySem.W.findIn K (.ref C) f = some none from n]
  rfl
structure Meth (K : PySem.W.Frag) (C : Addr) (m : Str) (f : Addr) : Prop where
  at_ : PySem.W.findIn K (.ref C) m = some (some (.ref f))
  fn : PySem.W.isFn K (.ref f) = true
  kp : PySem.W.keepIn K (.ref f) = true
section
variable {X : Cx} {pins : List (Addr × Obj)} {σ : St} {H : Hp} {s : Shared} {a C dx : Addr} {fs : List (Str × V)} {f : Str} {v : V} {A : Around} {E : Value → Shared → Prop}
theorem getattr_ok {b : Bool} {Q : Value → Shared → Prop} (I : Inv X pins σ H s) (e : H a = some (.ins C dx fs)) (c : Cls X.K C) (n : NoAttr X.K C f) (l : fs.lookup f = some v)
    (h : ∀ u s', Inv X pins σ H s' → RelV v u → Q u s') : wpAny (model X.prog X.w) A (getAttr (.ref a) f b) Q E s := by
  obtain ⟨mA, O, r, _, _, _⟩ := ins_get I.hok e
  obtain ⟨u, hu, ru⟩ := RelO.some_of (v := v) (o := mA f) (by rw [← l]; exact r f)
  exact get_map I.kIn O (c.get f) c.hd n hu (handed_of ru) (h u _ (I.tok _) ru)
theorem getmeth_ok {m : Str} {g : Addr} {pl : Sem Bool} {Q : Value × List Value → Shared → Prop} (I : Inv X pins σ H s) (e : H a = some (.ins C dx fs)) (c : Cls X.K C) (k : Meth X.K C m g) (l : fs.lookup m = none)
    (h : Q (.ref g, [.ref a]) s) : wpAny (model X.prog X.w) A (getMethod (.ref a) m pl) Q E s := by
  obtain ⟨mA, O, r, _, _, _⟩ := ins_get I.hok e
  have hn : mA m = none := RelO.none_of (by rw [← l]; exact r m)
  exact get_meth I.kIn O (c.get m) k.at_ k.fn hn h
theorem setattr_ok {y : V} {u : Value} {Q : Unit → Shared → Prop} (I : Inv X pins σ H s) (e : H a = some (.ins C dx fs)) (c : Cls X.K C) (n : NoAttr X.K C f) (hl : fs.length < 1000) (ry : RelV y u)
    (h : ∀ s', Inv X pins σ (upd H a (.ins C dx (putF f y fs))) s' → Q () s') : wpAny (model X.prog X.w) A (setAttr (.ref a) f u) Q E s := by
  obtain ⟨mA, O, r, wi, _, ho⟩ := ins_get I.hok e
  have hz : (fs.map (·.1)).length ≤ sizeLine := by rw [List.length_map, sizeLine_eq]; omega
  refine set_map I.kIn O c.sa c.po n.taker c.hd wi hz fun h' O' sb => h _ ?_
  have hd : ∃ o, h'.get? dx = some o := let ⟨o, _, _, e', _⟩ := O'.ns; ⟨o, e'⟩
  refine I.write (x := a) (e := dx) (by rw [e]; exact True.intro) (.inr ho) (fun b q hb z => (sb.2 b hb).trans z) hd ?_
  refine ⟨by rw [upd_ne O.ne]; exact ho, ?_, O.ne, O'.obj, _, O'.ns, fun g => ?_, fun g hg => ?_⟩
  · have := length_putF f y fs; omega
  · show RelO ((putF f y fs).lookup g) (if g = f then some u else mA g)
    rw [lookup_putF]
    by_cases q : g = f
    · rw [if_pos q, if_pos q]; exact ry
    · rw [if_neg q, if_neg q]; exact r g
  · by_cases q : g = f
    · rw [q]; exact (keys_putF f y fs).1
    · refine (keys_putF f y fs).2 g (wi g fun z => hg ?_)
      show (if g = f then some u else mA g) = none
      rw [if_neg q]; exact z
theorem Inv.made (I : Inv X pins σ H s) : Inv X pins σ (upd (upd H s.heap.objs.size (.own (s.heap.objs.size + 1))) (s.heap.objs.size + 1) (.ins C s.heap.objs.size []))
    { s with heap := (s.heap.push PySem.W.emptyDict).push (PySem.W.instObj C s.heap.objs.size) } := by
  have e1 : (s.heap.push PySem.W.emptyDict).get? s.heap.objs.size = some PySem.W.emptyDict := Heap.get?_push_size s.heap rfl
  have e2 : ((s.heap.push PySem.W.emptyDict).push (PySem.W.instObj C s.heap.objs.size)).get? (s.heap.objs.size + 1) = some (PySem.W.instObj C s.heap.objs.size) := by
    have := Heap.get?_push_size (s.heap.push PySem.W.emptyDict) (o := PySem.W.instObj C s.heap.objs.size) rfl
    rwa [Heap.size_push] at this
  have e3 : (s.heap.push PySem.W.emptyDict).Ns s.heap.objs.size (fun _ => none) := ⟨PySem.W.emptyDict, #[], _, e1, rfl, (fun e he => absurd he (by simp)), fun _ => rfl⟩
  have I1 := I.laid (a := s.heap.objs.size) (o := .own (s.heap.objs.size + 1)) (h' := s.heap.push PySem.W.emptyDict) (t' := s.toks) (fun b u q => Heap.get?_push_of_some _ q) (Nat.le_refl _) ⟨_, e1⟩
  refine I1.laid (a := s.heap.objs.size + 1) (o := .ins C s.heap.objs.size []) (t' := s.toks) (fun b u q => Heap.get?_push_of_some _ q) (Nat.le_of_eq (Heap.size_push _ _)) ?_
  have ne : s.heap.objs.size ≠ s.heap.objs.size + 1 := Nat.ne_of_lt (Nat.lt_succ_self _)
  refine ⟨by rw [upd_ne ne, upd_same], Nat.zero_le _, ne, e2, fun _ => none, (Heap.Ns1.of_empty e3).at fun o q => Heap.get?_push_of_some _ q, fun _ => True.intro, fun y hy => absurd rfl hy⟩
theorem attr_of {prog : Program} {w : World} {env : Env} {e : Expr} {f : Str} {pos : Pos} {s : Shared} {Q : Value → Shared → Prop} (hb : attributeBase e f env (eval e env) = eval e env)
    (h : wpAny (model prog w) A (eval e env) (fun o s₁ => wpAny (model prog w) A (getAttr o f true) Q E s₁) E s) : wpAny (model prog w) A (eval (.Attribute e f pos) env) Q E s :=
  Attribute_any_ h (by rw [arm_eval_Attribute, hb])
end
def tFld (K : PySem.W.Frag) (ta : TE) (f : Str) : TE := fun σ H Q => ta σ H fun x H1 => ∃ a C dx fs v, x = .ref a ∧ H1 a = some (.ins C dx fs) ∧ Cls K C ∧ NoAttr K C f ∧ fs.lookup f = some v ∧ Q v H1
def sFld (K : PySem.W.Frag) (ta tv : TE) (f : Str) : TS := fun D σ H => tv σ H fun y H1 => ta σ H1 fun x H2 => ∃ a C dx fs, x = .ref a ∧ H2 a = some (.ins C dx fs) ∧ Cls K C ∧ NoAttr K C f ∧ fs.length < 1000 ∧
  D.nx σ (upd H2 a (.ins C dx (putF f y fs)))
section
variable {X : Cx} {o e value : Expr} {f : Str} {pos pos' tpos : Pos} {ta tv : TE}
theorem pe_fld (he : PE X e ta) (hb : attributeBase e f X.env (eval e X.env) = eval e X.env) : PE X (.Attribute e f pos) (tFld X.K ta f) := by
  intro pins s σ H Q I h
  refine attr_of hb (thn (he pins s σ H _ I h) fun u s1 ⟨x, H1, I1, rx, a, C, dx, fs, v, ex, ea, c, n, l, q⟩ => ?_)
  subst ex
  obtain rfl : u = Value.ref a := rx
  exact getattr_ok I1 ea c n l fun u' s2 I2 ru => ⟨v, H1, I2, ru, q⟩
theorem ps_fld (ha : PE X o ta) (hv : PE X value tv) (hs : swapsWith value (some (.Attribute o f pos')) pos.line X.env = pure false) : PS X (.Assign [.Attribute o f pos'] value pos) (sFld X.K ta tv f) := by
  intro pins s σ H D I h
  refine plainObj_wpAny_Assign_Attribute (thn (hv pins s σ H _ I h) fun u s1 ⟨y, H1, I1, ry, q⟩ => thn (ha pins s1 σ H1 _ I1 q) fun ov s2 ⟨x, H2, I2, rx, a, C, dx, fs, ex, ea, c, n, l, q2⟩ => ?_) hs
  subst ex
  obtain rfl : ov = Value.ref a := rx
  exact setattr_ok I2 ea c n l ry fun s3 I3 => ⟨σ, _, I3, q2⟩
theorem methcall_of {pl : Sem Bool} {m : Str} {apos : Pos} {args : List Expr} {pins : List (Addr × Obj)} {s : Shared} {σ : St} {H : Hp} {Q : Value → Shared → Prop} {te : TE} (he : PE X e te) (I : Inv X pins σ H s)
    (h : te σ H fun x H1 => ∃ a C dx fs g, x = .ref a ∧ H1 a = some (.ins C dx fs) ∧ Cls X.K C ∧ Meth X.K C m g ∧ fs.lookup m = none ∧
      ∀ s1, Inv X pins σ H1 s1 → wpAny (model X.prog X.w) X.A (callWith pos (.ref g) [.ref a] (backTo pos (starEach args X.env)) (backToKw pos (keywordEach [] X.env))) Q X.xe s1)
    (ht : eval (.Call (.Attribute e m apos) args [] pos) X.env = (do
      let ov ← eval e X.env
      standAt apos.atName
      let (f, first) ← holding [ov] (getMethod ov m pl)
      callWith pos f first (backTo pos (starEach args X.env)) (backToKw pos (keywordEach [] X.env)))) :
    wpAny (model X.prog X.w) X.A (eval (.Call (.Attribute e m apos) args [] pos) X.env) Q X.xe s := by
  refine PySem.W.methodCall_KW (pl := pl) (thn (he pins s σ H _ I h) fun u s1 ⟨x, H1, I1, rx, a, C, dx, fs, g, ex, ea, c, k, l, q⟩ => ?_) ht
  subst ex
  obtain rfl : u = Value.ref a := rx
  exact getmeth_ok I1 ea c k l (q s1 I1)
end
section
variable {X : Cx} {pins : List (Addr × Obj)} {σ : St} {H : Hp} {s : Shared} {A : Around} {E : Value → Shared → Prop} {Q : Value → Shared → Prop} {c : Value} {b : Bool}
end
end L2
namespace L2
open PySem PySem.Spec PyProof.Rows
structure Room (k : Nat) (A : Around) : Prop where
  hd : A.handled = none
  dp : A.depth + 3 * k + 5 < recursionLimit
  un : A.units + 16 * k + 200 < cLine
theorem Room.mono {j k : Nat} {A : Around} (r : Room k A) (h : j ≤ k) : Room j A := ⟨r.hd, by have := r.dp; omega, by have := r.un; omega⟩
theorem Room.deeper {k : Nat} {A : Around} (r : Room (k + 1) A) (env : Env) : Room k (A.deeper env) :=
  ⟨r.hd, by have := r.dp; show A.depth + 1 + 3 * k + 5 < _; omega, by have := r.un; show A.units + 3 + 16 * k + 200 < _; omega⟩
theorem make_depth {A : Around} {C : Addr} {us : List Value} {kw : List (Str × Value)} : (A.under (.builtin "type.__call__" ⟨.ref C :: us, kw⟩)).depth = A.depth + 1 := by
  first | rfl | simp [Around.under, Code.weight, Code.isCreation, Code.isGuard, Code.isCaller, Code.frames, Code.isFrame, guardIds]
theorem make_units {A : Around} {C : Addr} {us : List Value} {kw : List (Str × Value)} : (A.under (.builtin "type.__call__" ⟨.ref C :: us, kw⟩)).units = A.units + 1 := by
  first | rfl | simp [Around.under, Code.cUnits, Code.frames, Code.isFrame]
theorem Room.make {k : Nat} {A : Around} (r : Room (k + 1) A) (C : Addr) (us : List Value) (kw : List (Str × Value)) : Room k (A.under (.builtin "type.__call__" ⟨.ref C :: us, kw⟩)) :=
  ⟨r.hd, by have := r.dp; rw [make_depth]; omega, by have := r.un; rw [make_units]; omega⟩
theorem Room.depth {k : Nat} {A : Around} (r : Room k A) : A.depth < recursionLimit := by have := r.dp; omega
def tNil : TA := fun _ H Q => Q [] H
def tCons (ta : TE) (tr : TA) : TA := fun σ H Q => ta σ H fun x H1 => tr σ H1 fun xs H2 => Q (x :: xs) H2
section
variable {X : Cx} {e : Expr} {es : List Expr} {te : TE} {t : TA} {pos : Pos}
theorem pa_nil : PA X [] tNil := fun _ _ _ _ H Q I h => Calls.spliced_nil ⟨[], H, I, .nil, h⟩
theorem pa_cons (ha : PE X e te) (hr : PA X es t) (hs : starEach (e :: es) X.env = (false, eval e X.env) :: starEach es X.env := by rfl) : PA X (e :: es) (tCons te t) := by
  intro pos pins s σ H Q I h
  rw [hs]
  show wpAny _ _ (spliced ((false, eval e X.env) :: backTo pos (starEach es X.env))) _ _ s
  refine Calls.spliced_cons (thn (ha pins s σ H _ I h) fun u s1 ⟨x, H1, I1, r1, q1⟩ => ?_)
  exact thn (hr pos pins s1 σ H1 _ I1 q1) fun us s2 ⟨xs, H2, I2, r2, q2⟩ => ⟨x :: xs, H2, I2, .cons r1 r2, q2⟩
def tLst (t : TA) : TE := fun σ H Q => t σ H fun xs H1 => xs.length ≤ sizeLine ∧ ∀ p, H1 p = none → Q (.ref p) (upd H1 p (.lst xs))
theorem pe_lst (h : PA X es t) : PE X (.List es pos) (tLst t) := by
  intro pins s σ H Q I hq
  refine wpAny_List_spliced (thn (h pos pins s σ H _ I hq) fun us s1 ⟨xs, H1, I1, r, z, q⟩ => ⟨by rw [← r.length]; exact z, ?_⟩)
  have hf : H1 s1.heap.objs.size = none := I1.hok.fresh (Nat.le_refl _)
  refine ⟨.ref s1.heap.objs.size, upd H1 s1.heap.objs.size (.lst xs), I1.laid (t' := s1.toks) (fun b u e => Heap.get?_push_of_some _ e) (Nat.le_refl _) ?_, rfl, q _ hf⟩
  exact ⟨z, us, 0, r, Heap.get?_push_size _ rfl⟩
end
abbrev Sp := List V → Hp → VK → XK → Prop
abbrev CXT := List Env → Hp → Shared → XK → Value → Shared → Prop
structure Env0 (P : Program) (w : World) (K : PySem.W.Frag) (mg : Str → Option Value) (base : Heap) (A : Around) (outer : List Env) (s : Shared) (H : Hp) : Prop where
  frames : A.frames = some outer
  mod : Mod K mg base
  bs : ∀ b o, base.get? b = some o → s.heap.get? b = some o ∧ H b = none
  bsz : base.objs.size ≤ s.heap.objs.size
  funs : s.heap.FunFrames base outer
  frf : ∀ b ∈ frs outer, H b = none
  hok : HOk P w H s.heap
  bare : AllBare s.gens
def CE (outer : List Env) (P : Program) (w : World) (H : Hp) (s : Shared) (Q : VK) (u : Value) (s' : Shared) : Prop :=
  ∃ v H', s'.os = s.os ∧ AllBare s'.gens ∧ Un (frs outer) [] H H' s.heap s'.heap ∧ HOk P w H' s'.heap ∧ RelV v u ∧ Q v H'
def CR (CX : CXT) (outer : List Env) (P : Program) (w : World) (H : Hp) (s : Shared) (Q : VK) (E : XK) (r : Result) (s' : Shared) : Prop :=
  match r with
  | .ok (.ret u) => CE outer P w H s Q u s'
  | .ok _ => False
  | .error e => CX outer H s E e s'
structure FnOk (P : Program) (w : World) (K : PySem.W.Frag) (mg : Str → Option Value) (base : Heap) (CX : CXT) (k : Nat) (f : Addr) (fd : FuncData) (ps : List Str) (sp : Sp) : Prop where
  len : ∀ vs H Q E, sp vs H Q E → vs.length = ps.length
  run : ∀ (A : Around) (outer : List Env) (s : Shared) (H : Hp) (args : Args) (us : List Value) (vs : List V) (Q : VK) (E : XK), Room k A → Env0 P w K mg base A outer s H → BindsTo s fd args (ps.zip us) → Vals vs us → sp vs H Q E →
    codeAny (model P w) A (.call (.ref f) args) (CR CX outer P w H s Q E) s
theorem Env0.make {P : Program} {w : World} {K : PySem.W.Frag} {mg : Str → Option Value} {base : Heap} {A : Around} {outer : List Env} {s : Shared} {H : Hp} (e : Env0 P w K mg base A outer s H) (C : Addr) (us : List Value) (kw : List (Str × Value)) :
    Env0 P w K mg base (A.under (.builtin "type.__call__" ⟨.ref C :: us, kw⟩)) outer s H := ⟨by first | exact e.frames | (simpa [Around.under, Code.envs, Code.isFrame, pushEnvs] using e.frames), e.mod, e.bs, e.bsz, e.funs, e.frf, e.hok, e.bare⟩
section
variable {X : Cx} {pins : List (Addr × Obj)} {σ : St} {H : Hp} {s s' : Shared}
theorem Inv.env0 (I : Inv X pins σ H s) : Env0 X.prog X.w X.K X.mg X.base X.A X.stack s H :=
  ⟨I.ok.frames, I.ok.mod, I.bs, Nat.le_trans I.ok.bsz I.sz, I.stack, I.stkFree, I.hok, I.bare⟩
theorem Inv.after {Q : VK} {u : Value} (I : Inv X pins σ H s) (h : CE X.stack X.prog X.w H s Q u s') : EP X pins σ Q u s' := by
  obtain ⟨v, H', os, bare, un, hok, r, q⟩ := h
  obtain ⟨hh, g, d, t, os'⟩ := s'
  obtain rfl : os' = s.os := os
  exact ⟨v, H', I.call (h' := hh) (g' := g) (d' := d) (t' := t) (ch := []) un hok bare (fun b z => absurd z (by simp)), r, q⟩
end
def tCall (sp : Sp) (dvs : List V) (E : XK) (t : TA) : TE := fun σ H Q => t σ H fun vs H1 => sp (vs ++ dvs) H1 Q E
def tMeth (C : Addr) (m : Str) (sp : Sp) (dvs : List V) (E : XK) (ta : TE) (t : TA) : TE := fun σ H Q => ta σ H fun x H1 => ∃ a dx fs, x = .ref a ∧ H1 a = some (.ins C dx fs) ∧ fs.lookup m = none ∧
  t σ H1 fun vs H2 => sp (x :: (vs ++ dvs)) H2 Q E
def tMake (C : Addr) (sp : Sp) (dvs : List V) (E : XK) (t : TA) : TE := fun σ H Q => t σ H fun vs H1 => ∀ x dx, H1 x = none → H1 dx = none → dx ≠ x →
  sp (.ref x :: (vs ++ dvs)) (upd (upd H1 dx (.own x)) x (.ins C dx [])) (fun v H2 => v = .non ∧ Q (.ref x) H2) E
def Binds (K : PySem.W.Frag) (fd : FuncData) (ps : List Str) (ds : List Value) : Prop :=
  ∀ (s : Shared) (us : List Value), K.In s.heap → (us ++ ds).length = ps.length → BindsTo s fd ⟨us, []⟩ (ps.zip (us ++ ds))
theorem Binds.all {K : PySem.W.Frag} {fd : FuncData} {ps : List Str} (h : ∀ us : List Value, us.length = ps.length → bindArgs fd ⟨us, []⟩ = pure (ps.zip us)) : Binds K fd ps [] := fun s us _ hl => by
  rw [List.append_nil] at hl ⊢
  exact .of_eq (h us hl)
def Passes (CX : CXT) (X : Cx) (E : XK) : Prop := ∀ (pins : List (Addr × Obj)) (σ : St) (H : Hp) (s : Shared) (e : Value) (s' : Shared), Inv X pins σ H s → CX X.stack H s E e s' → X.xe e s'
section
variable {X : Cx} {CX : CXT} {k : Nat} {f C : Addr} {fd : FuncData} {ps : List Str} {sp : Sp} {dvs : List V} {ds : List Value} {E : XK} {x m : Str} {p pos apos : Pos} {e o : Expr} {es : List Expr} {ta : TE} {t : TA}
theorem run_fn {pins : List (Addr × Obj)} {σ : St} {H : Hp} {s : Shared} {Q : VK} {us : List Value} {vs : List V} (F : FnOk X.prog X.w X.K X.mg X.base CX k f fd ps sp) (hr : Room k X.A) (hb : Binds X.K fd ps ds) (hd : Vals dvs ds) (hx : Passes CX X E)
    (I : Inv X pins σ H s) (r : Vals vs us) (h : sp (vs ++ dvs) H Q E) : wpAny (model X.prog X.w) X.A (call (.ref f) us) (EP X pins σ Q) X.xe s := by
  have r2 : Vals (vs ++ dvs) (us ++ ds) := r.append hd
  have hl : (us ++ ds).length = ps.length := by rw [← r2.length]; exact F.len _ _ _ _ h
  refine wpAny_call (codeAny_mono (F.run X.A X.stack s H ⟨us, []⟩ (us ++ ds) (vs ++ dvs) Q E hr I.env0 (hb s us I.kIn hl) r2 h) fun r s' hq => ?_)
  cases r with
  | error e => exact hx pins σ H s e s' I hq
  | ok fl =>
    cases fl with
    | ret u => exact I.after hq
    | next => exact False.elim hq
    | brk => exact False.elim hq
    | cont => exact False.elim hq
theorem pe_call (F : FnOk X.prog X.w X.K X.mg X.base CX k f fd ps sp) (hr : Room k X.A) (hg : Gl X x) (hm : X.mg x = some (.ref f)) (hk : PySem.W.keepIn X.K (.ref f) = true) (hb : Binds X.K fd ps ds) (hd : Vals dvs ds) (hx : Passes CX X E)
    (ha : PA X (e :: es) t) (hdb : (x == ("__debug__" : Str)) = false := by decide) (he : starEach (e :: es) X.env = (false, eval e X.env) :: starEach es X.env := by rfl) (hpl : (backTo pos (starEach es X.env)).any (·.1) = false := by rfl) :
    PE X (.Call (.Name x p) (e :: es) [] pos) (tCall sp dvs E t) := by
  intro pins s σ H Q I h
  refine wpAny_Call_Name_kw (ld_glob I hg hm ?_ hdb)
  refine PySem.W.callWith_K (h₀ := X.base) I.ok.mod.kin hk (thn (ha pos pins s σ H _ I h) fun us s1 ⟨vs, H1, I1, r, q⟩ => ⟨I1.kIn, ?_⟩) he hpl
  exact run_fn F hr hb hd hx I1 r q
theorem pe_meth {pl : Sem Bool} (he : PE X o ta) (c : Cls X.K C) (hm : Meth X.K C m f) (F : FnOk X.prog X.w X.K X.mg X.base CX k f fd ps sp) (hr : Room k X.A) (hb : Binds X.K fd ps ds) (hd : Vals dvs ds) (hx : Passes CX X E) (ha : PA X (e :: es) t)
    (hst : starEach (e :: es) X.env = (false, eval e X.env) :: starEach es X.env := by rfl) (hpl : (backTo pos (starEach es X.env)).any (·.1) = false := by rfl)
    (ht : eval (.Call (.Attribute o m apos) (e :: es) [] pos) X.env = (do
      let ov ← eval o X.env
      standAt apos.atName
      let (f, first) ← holding [ov] (getMethod ov m pl)
      callWith pos f first (backTo pos (starEach (e :: es) X.env)) (backToKw pos (keywordEach [] X.env))) := by rfl) :
    PE X (.Call (.Attribute o m apos) (e :: es) [] pos) (tMeth C m sp dvs E ta t) := by
  intro pins s σ H Q I h
  refine PySem.W.methodCall_KW (pl := pl) (thn (he pins s σ H _ I h) fun u s1 ⟨x, H1, I1, rx, a, dx, fs, ex, ea, l, q⟩ => ?_) ht
  subst ex
  obtain rfl : u = Value.ref a := rx
  refine getmeth_ok I1 ea c hm l ?_
  refine PySem.W.callWith_K (first := [.ref a]) (h₀ := X.base) I.ok.mod.kin hm.kp (thn (ha pos pins s1 σ H1 _ I1 q) fun us s2 ⟨vs, H2, I2, r, q2⟩ => ⟨I2.kIn, ?_⟩) hst hpl
  exact run_fn (us := .ref a :: us) (vs := .ref a :: vs) F hr hb hd hx I2 (.cons rfl r) q2
theorem pe_meth0 {pl : Sem Bool} (he : PE X o ta) (c : Cls X.K C) (hm : Meth X.K C m f) (F : FnOk X.prog X.w X.K X.mg X.base CX k f fd ps sp) (hr : Room k X.A) (hb : Binds X.K fd ps ds) (hd : Vals dvs ds) (hx : Passes CX X E)
    (ht : eval (.Call (.Attribute o m apos) [] [] pos) X.env = (do
      let ov ← eval o X.env
      standAt apos.atName
      let (f, first) ← holding [ov] (getMethod ov m pl)
      callWith pos f first (backTo pos (starEach [] X.env)) (backToKw pos (keywordEach [] X.env))) := by rfl) :
    PE X (.Call (.Attribute o m apos) [] [] pos) (tMeth C m sp dvs E ta tNil) := by
  intro pins s σ H Q I h
  refine PySem.W.methodCall_KW (pl := pl) (thn (he pins s σ H _ I h) fun u s1 ⟨x, H1, I1, rx, a, dx, fs, ex, ea, l, q⟩ => ?_) ht
  subst ex
  obtain rfl : u = Value.ref a := rx
  refine getmeth_ok I1 ea c hm l ?_
  exact PySem.W.callWith_K0 (first := [.ref a]) I1.kIn hm.kp (run_fn (us := [.ref a]) (vs := [.ref a]) F hr hb hd hx I1 (.cons rfl .nil) q)
structure Mk (K : PySem.W.Frag) (C f : Addr) : Prop where
  makes : PySem.W.makesIn K C = true
  init : PySem.W.findIn K (.ref C) "__init__" = some (some (.ref f))
  fn : PySem.W.isFn K (.ref f) = true
  kp : PySem.W.keepIn K (.ref C) = true
theorem run_make {pins : List (Addr × Obj)} {σ : St} {H : Hp} {s : Shared} {Q : VK} {us : List Value} {vs : List V} (M : Mk X.K C f) (F : FnOk X.prog X.w X.K X.mg X.base CX k f fd ps sp) (hr : Room (k + 1) X.A) (hb : Binds X.K fd ps ds) (hd : Vals dvs ds)
    (hx : Passes CX X E) (I : Inv X pins σ H s) (r : Vals vs us)
    (h : ∀ x dx, H x = none → H dx = none → dx ≠ x → sp (.ref x :: (vs ++ dvs)) (upd (upd H dx (.own x)) x (.ins C dx [])) (fun v H2 => v = .non ∧ Q (.ref x) H2) E) :
    wpAny (model X.prog X.w) X.A (call (.ref C) us) (EP X pins σ Q) X.xe s := by
  have hq := h (s.heap.objs.size + 1) s.heap.objs.size (I.hok.fresh (Nat.le_succ _)) (I.hok.fresh (Nat.le_refl _)) (Nat.ne_of_lt (Nat.lt_succ_self _))
  have I2 := Inv.made (C := C) I
  have r2 : Vals (V.ref (s.heap.objs.size + 1) :: (vs ++ dvs)) (Value.ref (s.heap.objs.size + 1) :: (us ++ ds)) := .cons rfl (r.append hd)
  have hl : (Value.ref (s.heap.objs.size + 1) :: us ++ ds).length = ps.length := by
    have e := r2.length
    rw [F.len _ _ _ _ hq] at e
    exact e.symm
  refine wpAny_call (make_map (f := f) I.kIn M.makes M.init (beq_iff_eq.mp M.fn) (codeAny_mono (F.run _ X.stack _ _ ⟨Value.ref (s.heap.objs.size + 1) :: us, []⟩ (Value.ref (s.heap.objs.size + 1) :: (us ++ ds)) _ _ E (hr.make C us [])
    (I2.env0.make C us []) (hb _ (Value.ref (s.heap.objs.size + 1) :: us) I2.kIn hl) r2 hq) fun r s' hq' => ?_))
  cases r with
  | error e => exact hx pins σ _ _ e s' I2 hq'
  | ok fl =>
    cases fl with
    | ret u =>
      obtain ⟨v, H', I3, rv, ev, q3⟩ := I2.after hq'
      subst ev
      exact ⟨rv, ⟨V.ref (s.heap.objs.size + 1), H', I3, rfl, q3⟩⟩
    | next => exact False.elim hq'
    | brk => exact False.elim hq'
    | cont => exact False.elim hq'
theorem pe_make (M : Mk X.K C f) (F : FnOk X.prog X.w X.K X.mg X.base CX k f fd ps sp) (hr : Room (k + 1) X.A) (hg : Gl X x) (hm : X.mg x = some (.ref C)) (hb : Binds X.K fd ps ds) (hd : Vals dvs ds) (hx : Passes CX X E)
    (ha : PA X (e :: es) t) (hdb : (x == ("__debug__" : Str)) = false := by decide) (he : starEach (e :: es) X.env = (false, eval e X.env) :: starEach es X.env := by rfl) (hpl : (backTo pos (starEach es X.env)).any (·.1) = false := by rfl) :
    PE X (.Call (.Name x p) (e :: es) [] pos) (tMake C sp dvs E t) := by
  intro pins s σ H Q I h
  refine wpAny_Call_Name_kw (ld_glob I hg hm ?_ hdb)
  refine PySem.W.callWith_K (h₀ := X.base) I.ok.mod.kin M.kp (thn (ha pos pins s σ H _ I h) fun us s1 ⟨vs, H1, I1, r, q⟩ => ⟨I1.kIn, ?_⟩) he hpl
  exact run_make M F hr hb hd hx I1 r q
theorem pe_make0 (M : Mk X.K C f) (F : FnOk X.prog X.w X.K X.mg X.base CX k f fd ps sp) (hr : Room (k + 1) X.A) (hg : Gl X x) (hm : X.mg x = some (.ref C)) (hb : Binds X.K fd ps ds) (hd : Vals dvs ds) (hx : Passes CX X E)
    (hdb : (x == ("__debug__" : Str)) = false := by decide) : PE X (.Call (.Name x p) [] [] pos) (tMake C sp dvs E tNil) := by
  intro pins s σ H Q I h
  refine wpAny_Call_Name_kw (ld_glob I hg hm ?_ hdb)
  exact PySem.W.callWith_K0 I.kIn M.kp (run_make (us := []) M F hr hb hd hx I .nil h)
end
def PK (X : Cx) (kws : List Keyword) (t : TA) : Prop :=
  ∀ (pos : Pos) (pins : List (Addr × Obj)) (s : Shared) (σ : St) (H : Hp) (Q : List V → Hp → Prop), Inv X pins σ H s → t σ H Q → wpAny (model X.prog X.w) X.A (evalAll ((backToKw pos (keywordEach kws X.env)).map (·.2))) (AP X pins σ Q) X.xe s
section
variable {X : Cx} {CX : CXT} {k : Nat} {f C : Addr} {fd : FuncData} {ps ks : List Str} {sp : Sp} {E : XK} {x m : Str} {p pos apos kpos : Pos} {e o : Expr} {es : List Expr} {kws : List Keyword} {te ta : TE} {t tk : TA} {nm : Option Str}
theorem pk_nil : PK X [] tNil := fun _ _ _ _ H Q I h => wpAny_evalAll_nil ⟨[], H, I, .nil, h⟩
theorem pk_cons (ha : PE X e te) (hr : PK X kws t) : PK X (⟨nm, e, kpos⟩ :: kws) (tCons te t) := by
  intro pos pins s σ H Q I h
  show wpAny _ _ (evalAll ((do let v ← eval e X.env; standAt pos; pure v) :: (backToKw pos (keywordEach kws X.env)).map (·.2))) _ _ s
  refine wpAny_evalAll_cons (wpAny_bind (thn (ha pins s σ H _ I h) fun u s1 ⟨x, H1, I1, r1, q1⟩ => wpAny_bind (wpAny_standAt (wpAny_pure ?_))))
  exact thn (hr pos pins s1 σ H1 _ I1 q1) fun us s2 ⟨xs, H2, I2, r2, q2⟩ => ⟨x :: xs, H2, I2, .cons r1 r2, q2⟩
variable {g : List Value → List Value → List Value} {gV : List V → List V → List V}
end
structure FnScope (N P : List Str) (sc : Scope) : Prop where
  kind : sc.kind = .function
  co : sc.isCoroutine = false
  gen : sc.isGenerator = false
  nd : N.Nodup
  pre : N.take P.length = P
  par : ∀ x ∈ P, sc.names.lookup x = some .local ∨ sc.names.lookup x = some .cell
  nofree : ∀ y ∈ sc.names, y.2 ≠ .free
theorem bindL_out {kindOf : Str → Option NameKind} {x : Str} : ∀ {binds : List (Str × Value)} {m : Str → Option Value}, (∀ v, (x, v) ∉ binds) → bindL kindOf binds m x = m x
  | [], _, _ => rfl
  | (n, v) :: r, m, h => by
    unfold bindL
    rw [bindL_out fun w hw => h w (List.mem_cons_of_mem _ hw)]
    split
    · have : x ≠ n := by rintro rfl; exact h v List.mem_cons_self
      simp [this]
    · rfl
theorem bindC_out {kindOf : Str → Option NameKind} {x : Str} : ∀ {binds : List (Str × Value)} {m : Str → Option Value}, (∀ v, (x, v) ∉ binds) → bindC kindOf binds m x = m x
  | [], _, _ => rfl
  | (n, v) :: r, m, h => by
    unfold bindC
    rw [bindC_out fun w hw => h w (List.mem_cons_of_mem _ hw)]
    split
    · rfl
    · have : x ≠ n := by rintro rfl; exact h v List.mem_cons_self
      simp [this]
theorem bindL_get {kindOf : Str → Option NameKind} {x : Str} {v : Value} : ∀ {P : List Str} {vs : List Value} {i : Nat} {m : Str → Option Value}, P.Nodup → P[i]? = some x → vs[i]? = some v → kindOf x = some .local →
    bindL kindOf (P.zip vs) m x = some v
  | [], _, _, _, _, h, _, _ => by simp at h
  | _ :: _, [], _, _, _, _, h, _ => by simp at h
  | p :: P, w :: vs, 0, m, nd, h1, h2, hk => by
    simp at h1 h2; subst h1; subst h2
    show bindL kindOf ((p, w) :: P.zip vs) m p = _
    unfold bindL
    rw [bindL_out fun v hv => (List.nodup_cons.mp nd).1 (List.of_mem_zip hv).1, if_pos hk]
    simp
  | p :: P, w :: vs, i + 1, m, nd, h1, h2, hk => by
    show bindL kindOf ((p, w) :: P.zip vs) m x = _
    unfold bindL
    exact bindL_get (i := i) (List.nodup_cons.mp nd).2 (by simpa using h1) (by simpa using h2) hk
theorem bindC_get {kindOf : Str → Option NameKind} {x : Str} {v : Value} : ∀ {P : List Str} {vs : List Value} {i : Nat} {m : Str → Option Value}, P.Nodup → P[i]? = some x → vs[i]? = some v → kindOf x ≠ some .local →
    bindC kindOf (P.zip vs) m x = some v
  | [], _, _, _, _, h, _, _ => by simp at h
  | _ :: _, [], _, _, _, _, h, _ => by simp at h
  | p :: P, w :: vs, 0, m, nd, h1, h2, hk => by
    simp at h1 h2; subst h1; subst h2
    show bindC kindOf ((p, w) :: P.zip vs) m p = _
    unfold bindC
    rw [bindC_out fun v hv => (List.nodup_cons.mp nd).1 (List.of_mem_zip hv).1, if_neg hk]
    simp
  | p :: P, w :: vs, i + 1, m, nd, h1, h2, hk => by
    show bindC kindOf ((p, w) :: P.zip vs) m x = _
    unfold bindC
    exact bindC_get (i := i) (List.nodup_cons.mp nd).2 (by simpa using h1) (by simpa using h2) hk
def start (N : List Str) (vs : List V) : St := vs.map some ++ List.replicate (N.length - vs.length) none
def cxOf (CX : CXT) (P : Program) (w : World) (K : PySem.W.Frag) (mg : Str → Option Value) (base : Heap) (N : List Str) (qual : Str) (scope : Scope) (f : Addr) (cd : Value) (A : Around) (outer : List Env) (s : Shared) (H : Hp) (E : XK) : Cx where
  prog := P
  w := w
  K := K
  mg := mg
  base := base
  A := A.deeper (envOfC qual scope s.heap.objs.size f cd)
  N := N
  s_0 := s
  H_0 := H
  env := envOfC qual scope s.heap.objs.size f cd
  outer := outer
  stack := envOfC qual scope s.heap.objs.size f cd :: outer
  ex := []
  calm := true
  fn := fun _ => true
  pn := []
  xe := fun e s' => wpAny (model P w) (A.deeper (envOfC qual scope s.heap.objs.size f cd)) (leaving (envOfC qual scope s.heap.objs.size f cd) e) (fun _ s'' => CX outer H s E e s'') (fun e' s'' => CX outer H s E e' s'') s'
theorem cell_has {sc : Scope} {n : Nat} {x : Str} (h : sc.names.lookup x = some .cell) : ∃ c, (cellsFrom n sc.names []).lookup x = some c := by
  have q := PySem.W.cellsFrom_some sc.names n [] (.inl h)
  exact Option.isSome_iff_exists.mp q
theorem inv_start {CX : CXT} {P : Program} {w : World} {K : PySem.W.Frag} {mg : Str → Option Value} {base : Heap} {N ps : List Str} {qual : Str} {scope : Scope} {f : Addr} {cd : Value} {A : Around} {outer : List Env} {s s1 : Shared} {H : Hp} {E : XK} {us : List Value} {vs : List V}
    (S : FnScope N ps scope) (hd : A.handled = none) (e0 : Env0 P w K mg base A outer s H) (hl : vs.length = ps.length) (r : Vals vs us)
    (x : InCallC s s.heap.objs.size (bindL (envOfC qual scope s.heap.objs.size f cd).kindOf (ps.zip us) fun _ => none) (cellsFrom (s.heap.objs.size + 1) scope.names []) (bindC (envOfC qual scope s.heap.objs.size f cd).kindOf (ps.zip us) fun _ => none) s1) :
    Inv (cxOf CX P w K mg base N qual scope f cd A outer s H E) [] (start N vs) H s1 := by
  have hpl : ps.length ≤ N.length := by have := congrArg List.length S.pre; rw [List.length_take] at this; omega
  obtain ⟨h1, tk, rfl, hk⟩ := x.done
  have noA : ∀ b : Addr, b ∉ (cxOf CX P w K mg base N qual scope f cd A outer s H E).ex := fun b z => absurd (show b ∈ ([] : List Addr) from z) (by simp)
  refine ⟨⟨e0.mod, S.kind, rfl, rfl, Nat.le_refl _, fun y z c h1 h2 => ?_, fun y hy => ?_, fun y c _ h => ?_, fun _ => hd, Around.frames_deeper e0.frames, .inr ⟨rfl, rfl⟩, fun b z => absurd z (noA b), e0.bs, e0.bsz, fun b _ _ => noA b, fun b z => absurd z (noA b), e0.funs, e0.frf⟩,
    rfl, e0.bare, Un.kept hk, ⟨_, x.toInCall.ns, fun i y v h1 h2 h3 => ?_⟩, fun y c h => ⟨_, x.cell y c h⟩, e0.hok.fresh (Nat.le_refl _), fun y c h => ?_, fun p hp => absurd (show p ∈ ([] : List (Addr × Obj)) from hp) (by simp), e0.hok.kept hk, ?_⟩
  · exact name_of_addr x.apart (PySem.mem_of_lookup h1) (PySem.mem_of_lookup h2)
  · have hy : scope.names.lookup y = some .cell ∨ scope.names.lookup y = some .free := hy
    rcases hy with hy | hy
    · exact cell_has hy
    · exact absurd rfl (S.nofree _ (PySem.mem_of_lookup hy))
  · exact Nat.le_of_lt (x.above y c (PySem.mem_of_lookup h))
  · have hi : i < vs.length := by
      unfold start at h2
      by_cases hi : i < vs.length
      · exact hi
      · rw [List.getElem?_append_right (by simpa using hi)] at h2
        rw [List.getElem?_replicate] at h2
        split at h2 <;> cases h2
    have ha : vs[i]? = some v := by
      unfold start at h2
      rw [List.getElem?_append_left (by simpa using hi), List.getElem?_map] at h2
      cases e : vs[i]? with
      | none => rw [e] at h2; cases h2
      | some a => rw [e] at h2; cases h2; rfl
    obtain ⟨u, hu, rv⟩ := r.get ha
    have hp : ps[i]? = some y := by
      rw [← S.pre, List.getElem?_take_of_lt (by omega)]; exact h1
    have ndP : ps.Nodup := by rw [← S.pre]; exact S.nd.sublist (List.take_sublist _ _)
    refine ⟨u, rv, ?_⟩
    rcases S.par y (List.mem_of_getElem? hp) with k | k
    · exact .inl ⟨k, bindL_get ndP hp hu k⟩
    · obtain ⟨c, e⟩ := cell_has (n := s.heap.objs.size + 1) k
      refine .inr ⟨.inl k, c, e, ?_⟩
      have q := x.cell y c e
      rw [bindC_get ndP hp hu (by show scope.names.lookup y ≠ _; rw [k]; decide)] at q
      exact q
  · exact e0.hok.fresh (Nat.le_of_lt (x.above y c (PySem.mem_of_lookup h)))
  · unfold start
    show _ = N.length
    rw [List.length_append, List.length_map, List.length_replicate]
    omega
theorem fn_of {CX : CXT} {P : Program} {w : World} {K : PySem.W.Frag} {mg : Str → Option Value} {base : Heap} {k : Nat} {f : Addr} {name qual : Str} {params : Arguments} {body : List Stmt} {scope : Scope} {dV kV doc pm cdv ct oc : Value} {an od : Option Addr}
    {osl : Array (Option Value)} {N ps : List Str} {sp : Sp} (lk : K.lookup f = some ⟨oc, od, .func (PySem.W.fnOf name qual params body scope dV kV doc pm an cdv ct), osl⟩) (hcd : PySem.W.codeIn K cdv qual = true) (S : FnScope N ps scope)
    (len : ∀ vs H Q E, sp vs H Q E → vs.length = ps.length)
    (hbody : ∀ (A : Around) (outer : List Env) (s : Shared) (H : Hp) (vs : List V) (Q : VK) (E : XK), Room k (A.deeper (envOfC qual scope s.heap.objs.size f cdv)) → sp vs H Q E →
      ∃ t, PSs (cxOf CX P w K mg base N qual scope f cdv A outer s H E) body t ∧ t { nx := fun _ H' => Q .non H', rt := Q } (start N vs) H) :
    FnOk P w K mg base CX (k + 1) f (PySem.W.fnOf name qual params body scope dV kV doc pm an cdv ct) ps sp := by
  refine ⟨len, fun A outer s H args us vs Q E hr e0 hb r hsp => ?_⟩
  have hl := len _ _ _ _ hsp
  have KX : K.In s.heap := e0.mod.kin.keeps fun b o e => (e0.bs b o e).1
  have lim : s.heap.NoLimit := e0.mod.nolimit.keeps fun b o e => (e0.bs b o e).1
  have hkind : ∀ y ∈ ps.zip us, scope.names.lookup y.1 = some .local ∨ (scope.names.lookup y.1 = some .cell ∧ ((cellsFrom (s.heap.objs.size + 1) scope.names []).lookup y.1).isSome = true) := fun ⟨n, v⟩ hy => by
    rcases S.par n (List.of_mem_zip hy).1 with q | q
    · exact .inl q
    · exact .inr ⟨q, PySem.W.cellsFrom_some _ _ _ (.inl q)⟩
  refine codeAny_call_function hr.depth (KX _ _ lk) rfl S.co S.gen rfl (PySem.W.codeRec_of KX hcd) (hb _ _ _ _ ?_)
  refine wpAny_newFunctionEnv_cells S.kind hkind fun env he s1 x => ?_
  subst he
  refine ⟨lim.keeps x.toInCall.keep, codeAny_func ?_⟩
  obtain ⟨t, ht, hq⟩ := hbody A outer s H vs Q E (hr.deeper _) hsp
  have I : Inv (cxOf CX P w K mg base N qual scope f cdv A outer s H E) [] (start N vs) H s1 := inv_start S hr.hd e0 hl r x
  refine wpAny_mono (ht [] s1 (start N vs) H _ I hq) (fun fl s' hs => ?_) fun e s' hs => hs
  have fin : ∀ {σ' : St} {H' : Hp} {v : V} {u : Value}, Inv (cxOf CX P w K mg base N qual scope f cdv A outer s H E) [] σ' H' s' → RelV v u → Q v H' → CE outer P w H s Q u s' :=
    fun {σ' H' v u} J rv q => ⟨v, H', J.os, J.bare, J.base, J.hok, rv, q⟩
  cases fl with
  | ret u =>
    obtain ⟨v, σ', H', J, rv, q⟩ := hs
    exact fin J rv q
  | next =>
    obtain ⟨σ', H', J, q⟩ := hs
    exact fin (v := V.non) (u := Value.none) J rfl q
  | brk =>
    obtain ⟨_, _, _, q⟩ := hs
    exact False.elim q
  | cont =>
    obtain ⟨_, _, _, q⟩ := hs
    exact False.elim q
end L2
namespace L2
open PySem PySem.Spec PyProof.Rows
section
variable {X : Cx} {x : Str} {p pos : Pos} {e : Expr} {es : List Expr} {t : TA} {id T : String} {r : List V → Hp → VK → Prop}
def tCB (r : List V → Hp → VK → Prop) (t : TA) : TE := fun σ H Q => t σ H fun vs H1 => r vs H1 Q
theorem pe_callB (hc : CallR X (.builtin id) r) (hg : Gl X x) (hm : X.mg x = none) (hv : bootBuiltins x = some (.builtin id)) (ha : PA X (e :: es) t) (hn : x ≠ "__name__" := by decide) (hdb : (x == ("__debug__" : Str)) = false := by decide)
    (he : starEach (e :: es) X.env = (false, eval e X.env) :: starEach es X.env := by rfl) (hpl : (backTo pos (starEach es X.env)).any (·.1) = false := by rfl) : PE X (.Call (.Name x p) (e :: es) [] pos) (tCB r t) := by
  intro pins s σ H Q I h
  refine wpAny_Call_Name_kw (ld_blt I hg hm hv ?_ hn hdb)
  exact PyProof.Rows.callWith_builtin1 (thn (ha pos pins s σ H _ I h) fun us s1 ⟨vs, H1, I1, r1, q1⟩ => hc pins s1 σ H1 vs us Q I1 r1 q1) he hpl
theorem pe_callTy (hc : CallR X (.type T) r) (hg : Gl X x) (hm : X.mg x = none) (hv : bootBuiltins x = some (.type T)) (ha : PA X (e :: es) t) (hn : x ≠ "__name__" := by decide) (hdb : (x == ("__debug__" : Str)) = false := by decide)
    (he : starEach (e :: es) X.env = (false, eval e X.env) :: starEach es X.env := by rfl) (hpl : (backTo pos (starEach es X.env)).any (·.1) = false := by rfl) : PE X (.Call (.Name x p) (e :: es) [] pos) (tCB r t) := by
  intro pins s σ H Q I h
  refine wpAny_Call_Name_kw (ld_blt I hg hm hv ?_ hn hdb)
  exact PyProof.Rows.callWith_type1 (thn (ha pos pins s σ H _ I h) fun us s1 ⟨vs, H1, I1, r1, q1⟩ => hc pins s1 σ H1 vs us Q I1 r1 q1) he hpl
end
end L2
namespace HT
open PySem PyProof.Rows
section
open PySem.SeqAt
open PySem.AutoSeq1 (wpAny_loadPart')
open PySem.MeetsSeq PySem.MeetsSeq2 PySem.MeetsSeq3
end
section
variable {prog : Program} {w : World} {A : Around} {E : Value → Shared → Prop} {s : Shared}
def sIx (n d : Nat) : Option Int → Nat
  | none => d
  | some v => if v < 0 then (v + (n : Int)).toNat else min v.toNat n
theorem sIx_nat (n d k : Nat) : sIx n d (some (k : Int)) = min k n := by
  show (if (k : Int) < 0 then ((k : Int) + (n : Int)).toNat else min (k : Int).toNat n) = min k n
  rw [if_neg (by omega), Int.toNat_natCast]
end
end HT
namespace L2
open PySem PySem.Spec PyProof.Rows
abbrev TO := St → Hp → (Option Int → Hp → Prop) → Prop
def PO (X : Cx) (e : Option Expr) (t : TO) : Prop :=
  ∀ (pins : List (Addr × Obj)) (s : Shared) (σ : St) (H : Hp) (Q : Option Int → Hp → Prop), Inv X pins σ H s → t σ H Q →
    wpAny (model X.prog X.w) X.A (evalPart e X.env) (fun u s' => ∃ o H', Inv X pins σ H' s' ∧ IsPart u o ∧ Q o H') X.xe s
def tNoPart : TO := fun _ H Q => Q none H
def tPart (t : TE) : TO := fun σ H Q => t σ H fun x H1 => ∃ i, x = .int i ∧ Q (some i) H1
section
variable {X : Cx} {e : Expr} {te : TE} {lo hi : Option Expr} {tl th : TO} {pos p2 : Pos}
theorem po_none : PO X none tNoPart := by
  intro pins s σ H Q I h
  rw [evalPart_none]
  exact wpAny_pure ⟨none, H, I, .none, h⟩
theorem po_some (h : PE X e te) : PO X (some e) (tPart te) := by
  intro pins s σ H Q I hw
  rw [evalPart_some]
  refine thn (h pins s σ H _ I hw) fun u s1 ⟨x, H1, I1, r1, q1⟩ => ?_
  obtain ⟨i, rfl, q⟩ := q1
  obtain ⟨t, rfl⟩ := r1
  exact ⟨some i, H1, I1, .int i t, q⟩
def SlR (X : Cx) (r : V → Option Int → Option Int → Hp → VK → Prop) : Prop :=
  ∀ (pins : List (Addr × Obj)) (s : Shared) (σ : St) (H : Hp) (x : V) (v vl vu : Value) (lo hi : Option Int) (sl : Addr) (Q : VK), Inv X pins σ H s → RelV x v → s.heap.IsSliceOf sl vl vu .none → IsPart vl lo → IsPart vu hi → r x lo hi H Q →
    ∃ T id, typeLookup (.type T) "__getitem__" = pure (some (.builtin id)) ∧ s.TypeIs v T ∧ wpAny (model X.prog X.w) X.A (getItem v (.ref sl)) (EP X pins σ Q) X.xe s
def tSl (r : V → Option Int → Option Int → Hp → VK → Prop) (te : TE) (tl th : TO) : TE := fun σ H Q => te σ H fun x H1 => tl σ H1 fun l H2 => th σ H2 fun u H3 => r x l u H3 Q
theorem pe_slice {r : V → Option Int → Option Int → Hp → VK → Prop} (hr : SlR X r) (he : PE X e te) (hl : PO X lo tl) (hu : PO X hi th) : PE X (.Subscript e (.Slice lo hi none p2) pos) (tSl r te tl th) := by
  intro pins s σ H Q I h
  refine Subscript_ (thn (he pins s σ H _ I h) fun v s1 ⟨x, H1, I1, r1, q1⟩ => ?_)
  refine wpAny_Slice (thn (hl pins s1 σ H1 _ I1 q1) fun vl s2 ⟨l, H2, I2, pl, q2⟩ => thn (hu pins s2 σ H2 _ I2 q2) fun vu s3 ⟨u, H3, I3, pu, q3⟩ => ?_)
  rw [evalPart_none]
  refine wpAny_pure ?_
  have I4 : Inv X pins σ H3 { s3 with heap := s3.heap.push { cls := .type "slice", data := .fields #[vl, vu, .none] } } := I3.kept (t' := s3.toks) fun b ob q => Heap.get?_push_of_some _ q
  obtain ⟨T, id, hT, ht, hg⟩ := hr pins { s3 with heap := s3.heap.push { cls := .type "slice", data := .fields #[vl, vu, .none] } } σ H3 x v vl vu l u s3.heap.objs.size Q I4 r1 (Heap.IsSliceOf.new ..) pl pu q3
  show wpAny (model X.prog X.w) X.A (subscriptTail e (.Slice lo hi none p2) v (.ref s3.heap.objs.size)) (EP X pins σ Q) X.xe { s3 with heap := s3.heap.push { cls := .type "slice", data := .fields #[vl, vu, .none] } }
  exact tail_any (ops := [.ref s3.heap.objs.size, v]) ht hT hg (by with_unfolding_all rfl)
def cutV (xs : List V) (lo hi : Option Int) : List V := (xs.drop (HT.sIx xs.length 0 lo)).take (HT.sIx xs.length xs.length hi - HT.sIx xs.length 0 lo)
theorem cutV_length (xs : List V) (lo hi : Option Int) : (cutV xs lo hi).length ≤ xs.length := by
  unfold cutV
  rw [List.length_take, List.length_drop]
  omega
end
end L2
namespace L2
open PySem PySem.Spec PyProof.Rows
def ixN (n : Nat) (i : Int) : Option Nat := if 0 ≤ i then (if i < n then some i.toNat else none) else if -(n : Int) ≤ i then some (i + n).toNat else none
def atI {α : Type} (xs : List α) (i : Int) : Option α := (ixN xs.length i).bind fun j => xs[j]?
theorem ixN_seq {n : Nat} {i : Int} {j : Nat} (h : ixN n i = some j) : seqIndex? i n = some j ∧ j < n ∧ -(n : Int) ≤ i ∧ i < n := by
  unfold ixN at h
  by_cases h0 : 0 ≤ i
  · rw [if_pos h0] at h
    by_cases h1 : i < n
    · rw [if_pos h1] at h
      have e : i.toNat = j := Option.some.inj h
      exact ⟨by rw [seqIndex_of h0 h1, e], by omega, by omega, h1⟩
    · rw [if_neg h1] at h; cases h
  · rw [if_neg h0] at h
    by_cases h1 : -(n : Int) ≤ i
    · rw [if_pos h1] at h
      have e : (i + n).toNat = j := Option.some.inj h
      exact ⟨by rw [seqIndex_neg (by omega) h1, e], by omega, h1, by omega⟩
    · rw [if_neg h1] at h; cases h
theorem atI_get {α : Type} {xs : List α} {i : Int} {v : α} (h : atI xs i = some v) : ∃ j, seqIndex? i xs.length = some j ∧ xs[j]? = some v ∧ j < xs.length ∧ -(xs.length : Int) ≤ i ∧ i < xs.length := by
  unfold atI at h
  cases e : ixN xs.length i with
  | none => rw [e] at h; cases h
  | some j =>
    rw [e] at h
    obtain ⟨h1, h2, h3, h4⟩ := ixN_seq e
    exact ⟨j, h1, h, h2, h3, h4⟩
theorem atI_nat {α : Type} {xs : List α} {j : Nat} {v : α} (h : xs[j]? = some v) : atI xs (j : Int) = some v := by
  have hj : j < xs.length := (List.getElem?_eq_some_iff.mp h).1
  have e : ixN xs.length (j : Int) = some j := by
    unfold ixN
    rw [if_pos (by omega), if_pos (by omega)]; simp
  unfold atI; rw [e]; exact h
def PlainIx (b : Expr) : Prop := ∀ o i, subscripted b false o i = operate [o, i] (getItem o i)
def IxR (X : Cx) (r : R2) : Prop :=
  ∀ (value slice : Expr) (pins : List (Addr × Obj)) (s : Shared) (σ : St) (H : Hp) (x y : V) (v u : Value) (Q : VK), Inv X pins σ H s → RelV x v → RelV y u → r x y H Q →
    subscripted slice false v u = operate [v, u] (getItem v u) → wpAny (model X.prog X.w) X.A (subscriptTail value slice v u) (EP X pins σ Q) X.xe s
def MtR (X : Cx) (id : String) (r : V → List V → Hp → VK → Prop) : Prop :=
  ∀ (pins : List (Addr × Obj)) (s : Shared) (σ : St) (H : Hp) (x : V) (xs : List V) (v : Value) (us : List Value) (Q : VK), Inv X pins σ H s → RelV x v → Vals xs us → r x xs H Q →
    wpAny (model X.prog X.w) X.A (call (.builtin id) (v :: us)) (EP X pins σ Q) X.xe s
section
variable {X : Cx} {a b : Expr} {ta tb : TE} {pos : Pos}
theorem pe_ix {r : R2} (hr : IxR X r) (ha : PE X a ta) (hb : PE X b tb) (hs : PlainIx b) : PE X (.Subscript a b pos) (tOp r ta tb) := by
  intro pins s σ H Q I h
  exact Subscript_ (binT ha hb I h fun v u s2 x y H2 I2 rx ry q => hr a b pins s2 σ H2 x y v u Q I2 rx ry q (hs _ _))
def rIxL (K : PySem.W.Frag) : R2 := fun x y H Q => ∃ p xs i v, x = .ref p ∧ y = .int i ∧ SqL K H p xs ∧ atI xs i = some v ∧ Q v H
def rIxT (K : PySem.W.Frag) : R2 := fun x y H Q => ∃ p xs i v, x = .ref p ∧ y = .int i ∧ SqT K H p xs ∧ atI xs i = some v ∧ Q v H
theorem ix_list : IxR X (rIxL X.K) := by
  intro value slice pins s σ H x y v u Q I rx ry h hs
  obtain ⟨p, xs, i, z, rfl, rfl, hq, he, q⟩ := h
  cases rx
  obtain ⟨t, rfl⟩ := ry
  obtain ⟨its, r, pl, hz⟩ := I.list hq
  obtain ⟨j, h1, h2, h3, h4, h5⟩ := atI_get he
  obtain ⟨w, ew, rw'⟩ := r.get h2
  have hl := r.length
  have hn := line63
  have fin : EP X pins σ Q w s := ⟨z, H, I, rw', q⟩
  by_cases h0 : 0 ≤ i
  · have hj : i.toNat = j := by
      rw [seqIndex_of h0 h5] at h1
      exact Option.some.inj h1
    exact item_listR pl.isList h0 (by omega) (by rw [hj]; simpa using ew) fin hs
  · have hj : (i + (its.toArray.size : Int)).toNat = j := by
      rw [seqIndex_neg (by omega) h4] at h1
      rw [List.size_toArray, ← hl]
      exact Option.some.inj h1
    exact subscriptTail_builtinR (x := w) pl.isList.typeIs slot_list_getitem.lookup
      (wpAny_getItem_list_neg (Q := fun r s' => r = w ∧ EP X pins σ Q r s') pl.isList (by omega) (by rw [List.size_toArray] <;> omega) (by omega) (by rw [hj]; simpa using ew) ⟨rfl, fin⟩) hs
theorem ix_tup : IxR X (rIxT X.K) := by
  intro value slice pins s σ H x y v u Q I rx ry h hs
  obtain ⟨p, xs, i, z, rfl, rfl, hq, he, q⟩ := h
  cases rx
  obtain ⟨t, rfl⟩ := ry
  obtain ⟨its, r, pl, hz⟩ := I.tuple hq
  obtain ⟨j, h1, h2, h3, h4, h5⟩ := atI_get he
  obtain ⟨w, ew, rw'⟩ := r.get h2
  have hl := r.length
  have hn := line63
  have fin : EP X pins σ Q w s := ⟨z, H, I, rw', q⟩
  exact subscriptTail_builtinR (x := w) pl.typeIs slot_tuple_getitem.lookup
    (getItem_tuple (j := j) (Q := fun r s' => r = w ∧ EP X pins σ Q r s') pl (by omega) (by omega) (by rw [List.size_toArray, ← hl]; exact h1) (by simpa using ew) ⟨rfl, fin⟩) hs
theorem slice_bounds (lo hi : Option Int) (n : Nat) : (sliceBounds lo hi none n).1 = ((HT.sIx n 0 lo : Nat) : Int) ∧ (sliceBounds lo hi none n).2.1 = ((HT.sIx n n hi : Nat) : Int) ∧ (sliceBounds lo hi none n).2.2 = 1 := by
  refine ⟨?_, ?_, rfl⟩
  · cases lo with
    | none => simp [sliceBounds, HT.sIx]
    | some i =>
      simp only [sliceBounds, HT.sIx, Option.getD_none, show (1 : Int) > 0 by decide, if_true]
      by_cases h : i < 0
      · simp only [h, if_true] <;> omega
      · simp only [h, if_false] <;> omega
  · cases hi with
    | none => simp [sliceBounds, HT.sIx]
    | some i =>
      simp only [sliceBounds, HT.sIx, Option.getD_none, show (1 : Int) > 0 by decide, if_true]
      by_cases h : i < 0
      · simp only [h, if_true] <;> omega
      · simp only [h, if_false] <;> omega
theorem slicePick_cut (its : List Value) (lo hi : Option Int) : slicePick its.toArray lo hi none = ((its.drop (HT.sIx its.length 0 lo)).take (HT.sIx its.length its.length hi - HT.sIx its.length 0 lo)).toArray := by
  obtain ⟨h1, h2, h3⟩ := slice_bounds lo hi its.toArray.size
  unfold slicePick
  rw [h1, h2, h3]
  simp only [sliceRange_one, pick_run, List.size_toArray] <;> rfl
def rSlL (K : PySem.W.Frag) : V → Option Int → Option Int → Hp → VK → Prop := fun x lo hi H Q => ∃ a xs, x = .ref a ∧ SqL K H a xs ∧ ∀ p, H p = none → Q (.ref p) (upd H p (.lst (cutV xs lo hi)))
theorem sl_list : SlR X (rSlL X.K) := by
  intro pins s σ H x v vl vu lo hi sl Q I rx hs pl pu h
  obtain ⟨a, xs, rfl, hx, q⟩ := h
  cases rx
  obtain ⟨its, r, ht, hz⟩ := I.list hx
  have hlen := r.length
  refine ⟨"list", _, slot_list_getitem.lookup, ht.isList.typeIs, ?_⟩
  refine wpAny_getItem_list_slice ht.isList hs pl pu .none (by simp) ?_ (by rw [List.size_toArray] <;> omega)
  rw [slicePick_cut, ← hlen]
  refine ⟨.ref s.heap.objs.size, _, I.laid (t' := s.toks) (o := .lst (cutV xs lo hi)) (fun b ob q => Heap.get?_push_of_some _ q) (Nat.le_refl _) ?_, rfl, q _ (I.hok.fresh (Nat.le_refl _))⟩
  exact ⟨Nat.le_trans (cutV_length xs lo hi) hz, _, 0, (r.drop (HT.sIx xs.length 0 lo)).take (HT.sIx xs.length xs.length hi - HT.sIx xs.length 0 lo), Heap.get?_push_size _ rfl⟩
def flatV : V → Bool
  | .non => true
  | .bl _ => true
  | .int _ => true
  | .str _ => true
  | _ => false
def eqV : V → V → Bool
  | .non, .non => true
  | .bl a, .bl b => a == b
  | .bl a, .int b => (if a then 1 else 0) == b
  | .int a, .bl b => a == (if b then 1 else 0)
  | .int a, .int b => a == b
  | .str a, .str b => a == b
  | _, _ => false
theorem eqAt_V {A : Around} {s : Shared} {y x : V} {u v : Value} (ry : RelV y u) (rx : RelV x v) (fy : flatV y = true) (fx : flatV x = true) : SeqAt.EqAt A s u v (eqV y x) := by
  cases y with
  | non =>
    cases ry
    cases x with
    | non => cases rx; exact SeqAt.EqAt.same _
    | bl b => cases rx; exact SeqAt.EqAt.none_bool b
    | int b => obtain ⟨t, rfl⟩ := rx; exact SeqAt.EqAt.none_int b t
    | str b => obtain ⟨t, rfl⟩ := rx; exact SeqAt.EqAt.none_str b t
    | _ => exact absurd (show false = true from fx) Bool.false_ne_true
  | bl a =>
    cases ry
    cases x with
    | non => cases rx; exact SeqAt.EqAt.bool_none a
    | bl b => cases rx; exact SeqAt.EqAt.bool_bool a b
    | int b => obtain ⟨t, rfl⟩ := rx; exact SeqAt.EqAt.bool_int a b t
    | str b => obtain ⟨t, rfl⟩ := rx; exact SeqAt.EqAt.bool_str a b t
    | _ => exact absurd (show false = true from fx) Bool.false_ne_true
  | int a =>
    obtain ⟨t', rfl⟩ := ry
    cases x with
    | non => cases rx; exact SeqAt.EqAt.int_none a t'
    | bl b => cases rx; exact SeqAt.EqAt.int_bool a t' b
    | int b => obtain ⟨t, rfl⟩ := rx; exact SeqAt.EqAt.int_int a t' b t
    | str b => obtain ⟨t, rfl⟩ := rx; exact SeqAt.EqAt.int_str a t' b t
    | _ => exact absurd (show false = true from fx) Bool.false_ne_true
  | str a =>
    obtain ⟨t', rfl⟩ := ry
    cases x with
    | non => cases rx; exact SeqAt.EqAt.str_none a t'
    | bl b => cases rx; exact SeqAt.EqAt.str_bool a t' b
    | int b => obtain ⟨t, rfl⟩ := rx; exact SeqAt.EqAt.str_int a t' b t
    | str b => obtain ⟨t, rfl⟩ := rx; exact SeqAt.EqAt.str_str a t' b t
    | _ => exact absurd (show false = true from fx) Bool.false_ne_true
  | _ => exact absurd (show false = true from fy) Bool.false_ne_true
def eqU (x : V) (u : Value) : Bool := match u with
  | .none => eqV .non x
  | .bool b => eqV (.bl b) x
  | .int i _ => eqV (.int i) x
  | .str z _ => eqV (.str z) x
  | _ => false
theorem eqU_of {x y : V} {u : Value} (r : RelV y u) (f : flatV y = true) : eqU x u = eqV y x := by
  cases y with
  | non => cases r; rfl
  | bl b => cases r; rfl
  | int i => obtain ⟨t, rfl⟩ := r; rfl
  | str z => obtain ⟨t, rfl⟩ := r; rfl
  | _ => exact absurd (show false = true from f) Bool.false_ne_true
theorem any_eqU {x : V} : ∀ {xs : List V} {us : List Value}, Vals xs us → xs.all flatV = true → us.any (eqU x) = xs.any fun y => eqV y x
  | _, _, .nil, _ => rfl
  | y :: xs, u :: us, .cons r t, f => by
    rw [List.all_cons, Bool.and_eq_true] at f
    rw [List.any_cons, List.any_cons, eqU_of r f.1, any_eqU t f.2]
theorem mem_eqAt {A : Around} {s : Shared} {x : V} {v : Value} (rx : RelV x v) (fx : flatV x = true) : ∀ {xs : List V} {us : List Value}, Vals xs us → xs.all flatV = true → ∀ u ∈ us, SeqAt.EqAt A s u v (eqU x u)
  | _, _, .nil, _ => fun u hu => by cases hu
  | y :: xs, u :: us, .cons r t, f => fun u' hu => by
    rw [List.all_cons, Bool.and_eq_true] at f
    rcases List.mem_cons.mp hu with rfl | hu
    · rw [eqU_of r f.1]; exact eqAt_V r rx f.1 fx
    · exact mem_eqAt rx fx t f.2 u' hu
def inV (x : V) (xs : List V) : Bool := xs.any fun y => eqV y x
def rIn (K : PySem.W.Frag) (neg : Bool) : R2 := fun x y H Q => ∃ p xs, y = .ref p ∧ (SqL K H p xs ∨ SqT K H p xs) ∧ flatV x = true ∧ xs.all flatV = true ∧ Q (.bl (if neg then !inV x xs else inV x xs)) H
theorem op_notIn_seq : OpR X (compareOp .NotIn) (rIn X.K true) := by
  intro pins s σ H x y v u Q I rx ry h
  obtain ⟨p, xs, rfl, hq, fx, fs, q⟩ := h
  cases ry
  rcases hq with hq | hq
  · obtain ⟨its, r, pl, hz⟩ := I.list hq
    refine SeqAt.notIn_listAt (eqU x) pl.isList (fun w hw => mem_eqAt rx fx r fs w (by simpa using hw)) ⟨.bl _, H, I, rfl, ?_⟩
    rw [show its.toArray.any (eqU x) = its.any (eqU x) by simp, any_eqU r fs]
    exact q
  · obtain ⟨its, r, pl, hz⟩ := I.tuple hq
    refine SeqAt.notIn_tupleAt (eqU x) pl (fun w hw => mem_eqAt rx fx r fs w (by simpa using hw)) ⟨.bl _, H, I, rfl, ?_⟩
    rw [show its.toArray.any (eqU x) = its.any (eqU x) by simp, any_eqU r fs]
    exact q
theorem call_len_seq : CallR X (.builtin "len") (fun xs H Q => ∃ p ys, xs = [.ref p] ∧ (SqL X.K H p ys ∨ SqT X.K H p ys) ∧ Q (.int ys.length) H) := by
  intro pins s σ H xs us Q I r h
  obtain ⟨p, ys, rfl, hq, q⟩ := h
  obtain ⟨u, rfl, rx⟩ := vals1 r
  cases rx
  have hn := line63
  rcases hq with hq | hq
  · obtain ⟨its, r', pl, hz⟩ := I.list hq
    have hlen := r'.length
    exact Calls.call_len_list pl.isList (by simp only [List.size_toArray] <;> omega) ⟨.int ys.length, H, I.tok _, ⟨s.toks + 1, by rw [List.size_toArray, hlen]⟩, q⟩
  · obtain ⟨its, r', pl, hz⟩ := I.tuple hq
    have hlen := r'.length
    exact len_tuple pl (by simp only [List.size_toArray] <;> omega) ⟨.int ys.length, H, I.tok _, ⟨s.toks + 1, by rw [List.size_toArray, hlen]⟩, q⟩
theorem call_list_of : CallR X (.type "list") (fun xs H Q => ∃ p ys, xs = [.ref p] ∧ (SqL X.K H p ys ∨ SqT X.K H p ys) ∧ ∀ l, H l = none → Q (.ref l) (upd H l (.lst ys))) := by
  intro pins s σ H xs us Q I r h
  obtain ⟨p, ys, rfl, hq, q⟩ := h
  obtain ⟨u, rfl, rx⟩ := vals1 r
  cases rx
  have fin : ∀ (its : List Value), Vals ys its → ys.length ≤ sizeLine → ∀ (h' : Heap) (c' : Nat), (∀ b o', s.heap.get? b = some o' → h'.get? b = some o') →
      h'.get? s.heap.objs.size = some { cls := .type "list", dict := none, data := .seq its.toArray c', slots := #[] } → EP X pins σ Q (.ref s.heap.objs.size) { s with heap := h' } := fun its r' hz h' c' kp e =>
    ⟨.ref s.heap.objs.size, _, I.laid (t' := s.toks) kp (Nat.le_refl _) (show ObjOk X.prog X.w _ h' _ (.lst ys) from ⟨hz, its, c', r', e⟩), rfl, q _ (I.hok.fresh (Nat.le_refl _))⟩
  rcases hq with hq | hq
  · obtain ⟨its, r', pl, hz⟩ := I.list hq
    have hlen := r'.length
    obtain ⟨o, ho, hc, n, hd⟩ := pl.isList
    exact call_list_seq p (.inl rfl) ho hc hd (fun h' c' kp e => fin its r' hz h' c' kp e) (by simp only [List.size_toArray] <;> omega)
  · obtain ⟨its, r', pl, hz⟩ := I.tuple hq
    have hlen := r'.length
    obtain ⟨o, ho, hc, n, hd⟩ := pl
    exact call_list_seq p (.inr rfl) ho hc hd (fun h' c' kp e => fin its r' hz h' c' kp e) (by simp only [List.size_toArray] <;> omega)
def tyV (K : PySem.W.Frag) (T : String) (x : V) (H : Hp) : Prop := match x with
  | .str _ => T = "str"
  | .int _ => T = "int"
  | .ref p => (T = "list" ∧ ∃ xs, SqL K H p xs) ∨ (T = "tuple" ∧ ∃ o, K.lookup p = some o ∧ o.cls = .type "tuple" ∧ o.dict = none) ∨
      (T = "dict" ∧ ((∃ kvs, H p = some (.dK kvs)) ∨ ∃ kvs, H p = some (.dT kvs))) ∨ (T = "set" ∧ ∃ S n, H p = some (.set S n))
  | _ => False
theorem tyV_is {pins : List (Addr × Obj)} {σ : St} {H : Hp} {s : Shared} {T : String} {x : V} {v : Value} (I : Inv X pins σ H s) (r : RelV x v) (ty : tyV X.K T x H) :
    s.TypeIs v T ∧ ∀ a, v = .ref a → ∃ ob, s.heap.get? a = some ob ∧ ob.dict = none := by
  cases x with
  | str z =>
    obtain ⟨t, rfl⟩ := r
    cases (show T = "str" from ty)
    exact ⟨typeIs_str s z t, fun _ e => nomatch e⟩
  | int i =>
    obtain ⟨t, rfl⟩ := r
    cases (show T = "int" from ty)
    exact ⟨typeIs_int s i t, fun _ e => nomatch e⟩
  | ref p =>
    cases r
    rcases ty with ⟨rfl, xs, hq⟩ | ⟨rfl, o, hk, hc, hd⟩ | ⟨rfl, hk⟩ | ⟨rfl, S, n, hk⟩
    · obtain ⟨its, _, pl, _⟩ := I.list hq
      refine ⟨pl.isList.typeIs, fun a e => ?_⟩
      cases e
      obtain ⟨o, n, e, c, hd, _⟩ := pl
      exact ⟨o, e, hd⟩
    · refine ⟨⟨o, I.kIn p o hk, hc⟩, fun a e => ?_⟩
      cases e
      exact ⟨o, I.kIn _ o hk, hd⟩
    · have z : ∃ o, s.heap.get? p = some o ∧ o.ExactDict := by
        rcases hk with ⟨kvs, hk⟩ | ⟨kvs, hk⟩
        · obtain ⟨_, _, _, _, o, _, _, e, ex, _⟩ := I.hok p _ hk
          exact ⟨o, e, ex⟩
        · obtain ⟨_, _, _, _, o, _, _, e, ex, _⟩ := I.hok p _ hk
          exact ⟨o, e, ex⟩
      obtain ⟨o, e, ex⟩ := z
      refine ⟨⟨o, e, ex.1⟩, fun a e2 => ?_⟩
      cases e2
      exact ⟨o, e, ex.2.1⟩
    · obtain ⟨o, _, _, _, e, ex, _⟩ := I.hok p _ hk
      refine ⟨⟨o, e, ex.1⟩, fun a e2 => ?_⟩
      cases e2
      exact ⟨o, e, ex.2.1⟩
  | _ => exact False.elim ty
def tBM (K : PySem.W.Frag) (T : String) (r : V → List V → Hp → VK → Prop) (to : TE) (t : TA) : TE := fun σ H Q => to σ H fun x H1 => tyV K T x H1 ∧ t σ H1 fun xs H2 => r x xs H2 Q
variable {o e : Expr} {es : List Expr} {to : TE} {t : TA} {name : Str} {apos cpos : Pos} {T id : String} {r : V → List V → Hp → VK → Prop}
theorem pe_bm (pa : PlainAttrs T) (slot : Slot T name id) (hty : typeOf (.builtin id) = pure (.type "method_descriptor")) (hm : MtR X id r) (ho : PE X o to) (ha : PA X (e :: es) t)
    (hbase : attributeBase o name X.env (eval o X.env) = eval o X.env := by rfl)
    (hfew : ((backTo cpos (starEach (e :: es) X.env)).all (fun x => !x.1) && (backToKw cpos (keywordEach [] X.env)).all (fun x => x.1.isSome)
      && decide ((e :: es).length + ([] : List Keyword).length + (if ([] : List Keyword).isEmpty then 0 else 1) < 30)) = true := by rfl)
    (hline : (apos.endLine == cpos.line) = true := by rfl) (hs : starEach (e :: es) X.env = (false, eval e X.env) :: starEach es X.env := by rfl) (hplain : (backTo cpos (starEach es X.env)).any (·.1) = false := by rfl) :
    PE X (.Call (.Attribute o name apos) (e :: es) [] cpos) (tBM X.K T r to t) := by
  intro pins s σ H Q I h
  refine wpAny_Call_method_late hbase hfew hline rfl (thn (ho pins s σ H _ I h) fun v s1 ⟨x, H1, I1, r1, ty, q1⟩ => ?_)
  obtain ⟨h1, h2⟩ := tyV_is I1 r1 ty
  refine ⟨T, id, pa, slot, hty, h1, h2, ?_⟩
  have hA := ha cpos pins s1 σ H1 _ I1 q1
  rw [hs] at hA ⊢
  refine Calls.callWith_builtin (by show (false || (backTo cpos (starEach es X.env)).any (·.1)) = false; rw [hplain] <;> rfl) (Calls.evalArgs_plain ?_)
  exact thn hA fun us s2 ⟨vs, H2, I2, r2, q2⟩ => hm pins s2 σ H2 x vs v us Q I2 r1 r2 q2
end
end L2
namespace L2
open PySem PySem.Spec PyProof.Rows
def MtM (X : Cx) (id : String) (r : V → List V → Hp → VK → Prop) : Prop :=
  ∀ (pins : List (Addr × Obj)) (s : Shared) (σ : St) (H : Hp) (x : V) (xs : List V) (v : Value) (us : List Value) (Q : VK), Inv X pins σ H s → RelV x v → Vals xs us → r x xs H Q →
    wpAny (model X.prog X.w) X.A (call (.builtin id) (v :: us)) (EP X pins σ Q) X.xe s
theorem Vals.one : ∀ {x : V} {us : List Value}, Vals [x] us → ∃ u, us = [u] ∧ RelV x u
  | _, _, .cons r .nil => ⟨_, rfl, r⟩
section
variable {X : Cx} {pins : List (Addr × Obj)} {σ : St} {H : Hp} {s : Shared} {l b : Addr} {xs ys zs : List V}
theorem Inv.lset {its its' : List Value} {n : Nat} {f : Array Value → Array Value} {t' : Nat} (I : Inv X pins σ H s) (hH : H l = some (.lst xs))
    (e : s.heap.get? l = some { cls := .type "list", data := .seq its.toArray n }) (hf : f its.toArray = its'.toArray) (hv : Vals ys its') (hz : ys.length ≤ sizeLine) :
    Inv X pins σ (upd H l (.lst ys)) { s with heap := s.heap.update l (Obj.mapSeq f), toks := t' } := by
  have q := PySem.IsL.update e f
  rw [hf] at q
  refine I.write (x := l) (e := l) (by rw [hH]; exact trivial) (.inl rfl) (fun b' u hb hu => (Heap.get?_update_other s.heap (Obj.mapSeq f) (Ne.symm hb)).trans hu) ⟨_, q⟩ ?_
  exact ⟨hz, its', _, hv, q⟩
theorem Inv.lnew {its : List Value} {t' : Nat} (I : Inv X pins σ H s) (hv : Vals ys its) (hz : ys.length ≤ sizeLine) :
    Inv X pins σ (upd H s.heap.objs.size (.lst ys)) { s with heap := s.heap.push { cls := .type "list", data := .seq its.toArray }, toks := t' } :=
  I.laid (fun _ _ q => Heap.get?_push_of_some _ q) (Nat.le_refl _) ⟨hz, its, 0, hv, Heap.get?_push_size _ rfl⟩
theorem Inv.fresh (I : Inv X pins σ H s) : H s.heap.objs.size = none := I.hok.fresh (Nat.le_refl _)
theorem Inv.lstM (I : Inv X pins σ H s) (hH : H l = some (.lst xs)) : xs.length ≤ sizeLine ∧ ∃ (its : List Value) (n : Nat), Vals xs its ∧ xs.length = its.length ∧ s.heap.get? l = some { cls := .type "list", data := .seq its.toArray n } := by
  obtain ⟨z, its, n, r, e⟩ := I.hok l _ hH
  exact ⟨z, its, n, r, r.length, e⟩
theorem notLongL {n : Nat} (h : n ≤ sizeLine) : Builtin.List.listTooLong n = false := by
  unfold Builtin.List.listTooLong
  exact decide_eq_false (by omega)
end
section
variable {X : Cx}
def rAppend : V → List V → Hp → VK → Prop := fun x vs H Q => ∃ l xs y, x = .ref l ∧ vs = [y] ∧ H l = some (.lst xs) ∧ xs.length < sizeLine ∧ Q .non (upd H l (.lst (xs ++ [y])))
theorem mt_append : MtM X "list.append" rAppend := by
  intro pins s σ H x vs v us Q I rx rv h
  obtain ⟨l, xs, y, rfl, rfl, hH, hz, q⟩ := h
  cases rx
  obtain ⟨u, rfl, ru⟩ := rv.one
  obtain ⟨z, its, n, r, hl, e⟩ := I.lstM hH
  refine call_meets F.slot_list_append ⟨_, e, rfl⟩ F.entry_list_append (F.args_list_append_2 _ _) (PySem.list_append l its.toArray n u (by rw [List.size_toArray]; omega)) ⟨e, ?_⟩
  refine ⟨.non, _, I.lset (its' := its ++ [u]) hH e (by simp) (r.append (.cons ru .nil)) ?_, rfl, q⟩
  rw [List.length_append, List.length_singleton]
  omega
def rExtend : V → List V → Hp → VK → Prop := fun x vs H Q => ∃ l b xs zs, x = .ref l ∧ vs = [.ref b] ∧ H l = some (.lst xs) ∧ H b = some (.lst zs) ∧ xs.length + zs.length ≤ sizeLine ∧ Q .non (upd H l (.lst (xs ++ zs)))
theorem mt_extend : MtM X "list.extend" rExtend := by
  intro pins s σ H x vs v us Q I rx rv h
  obtain ⟨l, b, xs, zs, rfl, rfl, hH, hB, hz, q⟩ := h
  cases rx
  obtain ⟨u, rfl, ru⟩ := rv.one
  cases ru
  obtain ⟨z, its, n, r, hl, e⟩ := I.lstM hH
  obtain ⟨z2, its2, n2, r2, hl2, e2⟩ := I.lstM hB
  have hsz : its.toArray.size + its2.toArray.size ≤ sizeLine := by rw [List.size_toArray, List.size_toArray]; omega
  have hlong : ¬ (!its.toArray.isEmpty && Builtin.List.listTooLong (its.toArray.size + its2.toArray.size)) = true := by
    rw [notLongL hsz, Bool.and_false]
    exact Bool.false_ne_true
  refine call_meets F.slot_list_extend ⟨_, e, rfl⟩ F.entry_list_extend (F.args_list_extend_2 _ _)
    (AutoSeq1.list_extend_list_list_0 l its.toArray n b its2.toArray n2 hlong (by rw [List.size_toArray]; omega) (by omega)) ⟨e, e2, ?_⟩
  refine ⟨.non, _, I.lset (its' := its ++ its2) hH e (by simp) (r.append r2) ?_, rfl, q⟩
  rw [List.length_append]
  omega
def rCat : R2 := fun x y H Q => ∃ l b xs zs, x = .ref l ∧ y = .ref b ∧ H l = some (.lst xs) ∧ H b = some (.lst zs) ∧ xs.length + zs.length ≤ sizeLine ∧ ∀ p, H p = none → Q (.ref p) (upd H p (.lst (xs ++ zs)))
theorem op_cat : OpR X (binaryOp .Add) rCat := by
  intro pins s σ H x y v u Q I rx ry h
  obtain ⟨l, b, xs, zs, rfl, rfl, hH, hB, hz, q⟩ := h
  cases rx
  cases ry
  obtain ⟨z, its, n, r, hl, e⟩ := I.lstM hH
  obtain ⟨z2, its2, n2, r2, hl2, e2⟩ := I.lstM hB
  refine PySem.P.add_list e e2 ?_ (by rw [List.size_toArray, List.size_toArray]; omega)
  have ea : its.toArray ++ its2.toArray = (its ++ its2).toArray := by simp
  rw [ea]
  exact ⟨.ref _, _, I.lnew (t' := s.toks) (r.append r2) (by rw [List.length_append]; omega), rfl, q _ I.fresh⟩
end
section
variable {prog : Program} {w : World} {A : Around} {E : Value → Shared → Prop} {s : Shared}
end
section
variable {X : Cx}
end
end L2
namespace L2
open PySem PySem.Spec PyProof.Rows
theorem Vals.ints : ∀ {ns : List Int} {us : List Value}, Vals (ns.map V.int) us → IntsAre us ns
  | [], us, h => by
    rw [List.map_nil] at h
    cases h
    exact IntsAre.nil
  | n :: ns, us, h => by
    rw [List.map_cons] at h
    cases h with
    | cons r t =>
      obtain ⟨k, rfl⟩ := r
      exact IntsAre.cons n k (Vals.ints t)
theorem Vals.ref1 {a : Addr} {us : List Value} (r : Vals [V.ref a] us) : us = [Value.ref a] := by
  cases r with
  | cons r t =>
    cases t
    cases r
    rfl
section
variable {prog : Program} {w : World} {A : Around} {E : Value → Shared → Prop} {s : Shared} {l : Addr} {its : List Value} {ns : List Int} {Q : Value → Shared → Prop}
theorem sum_raw (hh : A.handled = none) (hl : s.heap.IsList l its.toArray) (hi : IntsAre its ns)
    (h : ∀ h' tk t', (∀ b o, s.heap.get? b = some o → h'.get? b = some o) → Q (.int ns.sum t') { s with heap := h', toks := tk }) : wpAny (model prog w) A (call (.builtin "sum") [.ref l]) Q E s := by
  obtain ⟨xs, e⟩ := hi.allInts.items
  have hn : numsOf (intItems xs).toList = ns := by rw [← e]; exact hi.numsOf
  rw [nums_intItems] at hn
  rw [e] at hl
  refine PySem.sum_intListG hh hl fun h' tk t' hk => ?_
  have := h h' tk t' hk
  rw [preSum_eq, List.take_of_length_le (by simp), hn]; exact this
theorem max_raw (hh : A.handled = none) (hl : s.heap.IsList l its.toArray) (hi : IntsAre its ns) (hne : 0 < ns.length)
    (h : ∀ h' tk M t', (∀ b o, s.heap.get? b = some o → h'.get? b = some o) → M ∈ ns → (∀ a, a ∈ ns → a ≤ M) → Q (.int M t') { s with heap := h', toks := tk }) : wpAny (model prog w) A (call (.builtin "max") [.ref l]) Q E s := by
  obtain ⟨xs, e⟩ := hi.allInts.items
  have hn : numsOf (intItems xs).toList = ns := by rw [← e]; exact hi.numsOf
  rw [nums_intItems] at hn
  subst hn
  rw [e] at hl
  have hsz : 0 < xs.size := by simpa using hne
  refine PySem.max_intList hh hl hsz fun v h' tk hv hk => ?_
  obtain ⟨t, rfl⟩ := intItems_at hv
  obtain ⟨h1, h2⟩ := argBest_gt (numAt xs) (xs.size - 1)
  refine h h' tk _ t hk ?_ fun a ha => ?_
  · rw [numAt_eq]; exact PySem.getD_mem (by rw [List.length_map, Array.length_toList]; omega)
  · obtain ⟨j, hj, rfl⟩ := mem_getD ha
    rw [List.length_map, Array.length_toList] at hj
    rw [← numAt_eq]; exact h2 j (by omega)
theorem min_raw (hh : A.handled = none) (hl : s.heap.IsList l its.toArray) (hi : IntsAre its ns) (hne : 0 < ns.length)
    (h : ∀ h' tk M t', (∀ b o, s.heap.get? b = some o → h'.get? b = some o) → M ∈ ns → (∀ a, a ∈ ns → M ≤ a) → Q (.int M t') { s with heap := h', toks := tk }) : wpAny (model prog w) A (call (.builtin "min") [.ref l]) Q E s := by
  obtain ⟨xs, e⟩ := hi.allInts.items
  have hn : numsOf (intItems xs).toList = ns := by rw [← e]; exact hi.numsOf
  rw [nums_intItems] at hn
  subst hn
  rw [e] at hl
  have hsz : 0 < xs.size := by simpa using hne
  refine PySem.min_intList hh hl hsz fun v h' tk hv hk => ?_
  obtain ⟨t, rfl⟩ := intItems_at hv
  obtain ⟨h1, h2⟩ := argBest_lt (numAt xs) (xs.size - 1)
  refine h h' tk _ t hk ?_ fun a ha => ?_
  · rw [numAt_eq]; exact PySem.getD_mem (by rw [List.length_map, Array.length_toList]; omega)
  · obtain ⟨j, hj, rfl⟩ := mem_getD ha
    rw [List.length_map, Array.length_toList] at hj
    rw [← numAt_eq]; exact h2 j (by omega)
end
section
variable {X : Cx}
def rSum (K : PySem.W.Frag) : List V → Hp → VK → Prop := fun vs H Q => ∃ (a : Addr) (ns : List Int), vs = [V.ref a] ∧ SqL K H a (ns.map V.int) ∧ Q (.int ns.sum) H
def rMin (K : PySem.W.Frag) : List V → Hp → VK → Prop := fun vs H Q => ∃ (a : Addr) (ns : List Int), vs = [V.ref a] ∧ SqL K H a (ns.map V.int) ∧ 0 < ns.length ∧ ∀ m, m ∈ ns → (∀ y, y ∈ ns → m ≤ y) → Q (.int m) H
theorem cr_sum (hc : X.calm = true) : CallR X (.builtin "sum") (rSum X.K) := by
  intro pins s σ H vs us Q I r h
  obtain ⟨a, ns, rfl, hs, q⟩ := h
  obtain ⟨its, rv, hl, _⟩ := I.list hs
  rw [Vals.ref1 r]
  exact sum_raw (I.ok.hd hc) hl.isList rv.ints fun h' tk t' hk => ⟨.int _, H, I.kept hk, ⟨_, rfl⟩, q⟩
theorem cr_min (hc : X.calm = true) : CallR X (.builtin "min") (rMin X.K) := by
  intro pins s σ H vs us Q I r h
  obtain ⟨a, ns, rfl, hs, hne, q⟩ := h
  obtain ⟨its, rv, hl, _⟩ := I.list hs
  rw [Vals.ref1 r]
  exact min_raw (I.ok.hd hc) hl.isList rv.ints hne fun h' tk m t' hk h1 h2 => ⟨.int _, H, I.kept hk, ⟨_, rfl⟩, q m h1 h2⟩
end
section
variable {X : Cx}
def rIndex (K : PySem.W.Frag) : V → List V → Hp → VK → Prop := fun x xs H Q => ∃ (a : Addr) (ys : List V) (y : V) (j : Nat) (z : V), x = V.ref a ∧ xs = [y] ∧ SqL K H a ys ∧ flatV y = true ∧ ys.all flatV = true ∧ ys[j]? = some z ∧ eqV z y = true ∧
  (∀ (m : Nat) (z' : V), m < j → ys[m]? = some z' → eqV z' y = false) ∧ Q (.int (j : Nat)) H
theorem flat_at {ys : List V} (f : ys.all flatV = true) {j : Nat} {z : V} (h : ys[j]? = some z) : flatV z = true := List.all_eq_true.mp f z (List.mem_of_getElem? h)
theorem mt_index : MtR X "list.index" (rIndex X.K) := by
  intro pins s σ H x xs v us Q I rx rxs h
  obtain ⟨a, ys, y, j, z, rfl, rfl, hs, fy, fys, hz, hzj, hno, q⟩ := h
  cases rx
  cases rxs with
  | cons ry rt =>
    rename_i uy ut
    cases rt
    obtain ⟨its, rv, ⟨⟨cls, dd, data, sl⟩, n, ho, hc, hdn, hd⟩, hlen⟩ := I.list hs
    simp only at hc hd
    subst hc hd
    obtain ⟨u, hu, ru⟩ := rv.get hz
    obtain ⟨hjl, hje⟩ := List.getElem?_eq_some_iff.mp hu
    have hvl := rv.length
    have hj : j < its.toArray.size := by simpa using hjl
    have hsl := sizeLine_eq
    refine call_meets PySem.F.slot_list_index ⟨_, ho, rfl⟩ PySem.F.entry_list_index (PySem.F.args_list_index_2 _ _)
      (SeqAt.list_indexAt a its.toArray n dd sl uy (eqU y) j hj (by omega) ?_ ?_) ⟨ho, fun u' hu' => mem_eqAt ry fy rv fys u' (by simpa using hu'), ?_⟩
    · have e1 : its.toArray[j] = u := by simpa using hje
      rw [e1, eqU_of ru (flat_at fys hz)]
      exact hzj
    · intro m hm hmj
      have hml : m < its.length := by simpa using hm
      have hmy : m < ys.length := by omega
      have hy' : ys[m]? = some ys[m] := List.getElem?_eq_getElem hmy
      obtain ⟨u2, hu2, ru2⟩ := rv.get hy'
      obtain ⟨_, hme⟩ := List.getElem?_eq_some_iff.mp hu2
      have e1 : its.toArray[m] = u2 := by simpa using hme
      rw [e1, eqU_of ru2 (flat_at fys hy')]
      exact hno m _ hmj hy'
    · exact ⟨.int (j : Nat), H, I.tok _, ⟨_, rfl⟩, q⟩
end
section
variable {X : Cx}
end
section
variable {X : Cx}
end
section
variable {X : Cx} {pins : List (Addr × Obj)} {σ : St} {H : Hp} {s : Shared}
end
section
variable {X : Cx}
end
end L2
namespace L2
open PySem PySem.Spec PyProof.Rows
abbrev CellAt (h : Heap) (c : Addr) (v : Option Value) : Prop := h.IsCell c v
def relS (scope sc : Scope) : Scope :=
  { scope with names := scope.names.map fun (n, k) => if (k == .free && sc.kind == .function && sc.names.lookup n == some .cell) then (n, .cell) else (n, k) }
def cloFrom (cells : List (Str × Addr)) : List (Str × NameKind) → List (Str × Addr) → List (Str × Addr)
  | [], acc => acc
  | (n, k) :: r, acc => if k == .free then cloFrom cells r ((n, (cells.lookup n).getD 0) :: acc) else cloFrom cells r acc
theorem closure_loop (env : Env) (f : Str × NameKind → List (Str × Addr) → Sem (ForInStep (List (Str × Addr))))
    (hf : ∀ n k c, f (n, k) c = if k == .free then (do let a ← cellOf env n; pure (.yield ((n, a) :: c))) else pure (.yield c)) :
    ∀ (names : List (Str × NameKind)) (acc : List (Str × Addr)), (∀ y ∈ names, y.2 = .free → ∃ c, env.cells.lookup y.1 = some c) → forIn names acc f = pure (cloFrom env.cells names acc)
  | [], acc, _ => by rw [List.forIn_nil]; rfl
  | (n, k) :: r, acc, h => by
    rw [List.forIn_cons, hf]
    have ih := fun acc => closure_loop env f hf r acc fun y hy => h y (List.mem_cons_of_mem _ hy)
    unfold cloFrom
    by_cases hk : (k == NameKind.free) = true
    · rw [if_pos hk, if_pos hk]
      obtain ⟨c, hc⟩ := h (n, k) List.mem_cons_self (by simpa using hk)
      have e : cellOf env n = pure c := by unfold cellOf; rw [hc]
      rw [e]
      have e2 : (env.cells.lookup n).getD 0 = c := by rw [hc]; rfl
      rw [e2]
      exact ih _
    · rw [if_neg hk, if_neg hk]
      exact ih _
theorem closure_ok {scope : Scope} {env : Env} (h : ∀ y ∈ scope.names, y.2 = .free → ∃ c, env.cells.lookup y.1 = some c) : closureFor scope env = pure (cloFrom env.cells scope.names []) := by
  simp only [closureFor]
  rw [closure_loop env _ (fun n k c => rfl) scope.names [] h]
  rfl
theorem mem_lookup {α : Type} : ∀ {l : List (Str × α)} {n : Str} {c : α}, (n, c) ∈ l → ∃ c', l.lookup n = some c'
  | (k, v) :: r, n, c, h => by
    rw [List.lookup_cons]
    cases hb : n == k with
    | true => exact ⟨_, rfl⟩
    | false =>
      rcases List.mem_cons.mp h with e | h
      · cases e; simp at hb
      · exact mem_lookup h
theorem cloFrom_mem {cells : List (Str × Addr)} : ∀ {names : List (Str × NameKind)} {acc : List (Str × Addr)} {n : Str} {c : Addr}, (n, c) ∈ cloFrom cells names acc → (n, c) ∈ acc ∨ ((n, .free) ∈ names ∧ c = (cells.lookup n).getD 0)
  | [], _, _, _, h => .inl h
  | (m, k) :: r, acc, n, c, h => by
    unfold cloFrom at h
    split at h
    · rename_i hk
      have hk : k = .free := by simpa using hk
      rcases cloFrom_mem h with h | ⟨h1, h2⟩
      · rcases List.mem_cons.mp h with e | h
        · cases e; exact .inr ⟨hk ▸ List.mem_cons_self, rfl⟩
        · exact .inl h
      · exact .inr ⟨List.mem_cons_of_mem _ h1, h2⟩
    · rcases cloFrom_mem h with h | ⟨h1, h2⟩
      · exact .inl h
      · exact .inr ⟨List.mem_cons_of_mem _ h1, h2⟩
theorem cloFrom_acc {cells : List (Str × Addr)} : ∀ {names : List (Str × NameKind)} {acc : List (Str × Addr)} {p : Str × Addr}, p ∈ acc → p ∈ cloFrom cells names acc
  | [], _, _, h => h
  | (m, k) :: r, acc, p, h => by
    unfold cloFrom
    split
    · exact cloFrom_acc (List.mem_cons_of_mem _ h)
    · exact cloFrom_acc h
theorem cloFrom_has {cells : List (Str × Addr)} : ∀ {names : List (Str × NameKind)} {acc : List (Str × Addr)} {n : Str}, (n, .free) ∈ names → (n, (cells.lookup n).getD 0) ∈ cloFrom cells names acc
  | (m, k) :: r, acc, n, h => by
    unfold cloFrom
    rcases List.mem_cons.mp h with e | h
    · cases e
      exact cloFrom_acc List.mem_cons_self
    · split
      · exact cloFrom_has h
      · exact cloFrom_has h
theorem cells_mem : ∀ {names : List (Str × NameKind)} {h : Heap} {acc : List (Str × Addr)} {x : Str} {c : Addr}, (x, c) ∈ cellsFrom h.objs.size names acc →
    (x, c) ∈ acc ∨ ((x, .cell) ∈ names ∧ h.objs.size ≤ c ∧ CellAt (pushCells h names) c none)
  | [], _, _, _, _, h => .inl h
  | (n, k) :: r, h, acc, x, c, hm => by
    unfold cellsFrom at hm
    unfold pushCells
    split at hm
    · rename_i hk
      rw [if_pos hk]
      have hk : k = .cell := by simpa using hk
      rw [← Heap.size_push h { cls := .type "cell", data := .cell none }] at hm
      rcases cells_mem hm with hm | ⟨h1, h2, h3⟩
      · rcases List.mem_cons.mp hm with e | hm
        · cases e
          exact .inr ⟨hk ▸ List.mem_cons_self, Nat.le_refl _, _, pushCells_keeps r _ _ _ (Heap.get?_push_size _ rfl), rfl⟩
        · exact .inl hm
      · rw [Heap.size_push] at h2
        exact .inr ⟨List.mem_cons_of_mem _ h1, Nat.le_of_succ_le h2, h3⟩
    · rename_i hk
      rw [if_neg hk]
      rcases cells_mem hm with hm | ⟨h1, h2, h3⟩
      · exact .inl hm
      · exact .inr ⟨List.mem_cons_of_mem _ h1, h2, h3⟩
theorem cells_acc : ∀ {names : List (Str × NameKind)} {n : Nat} {acc : List (Str × Addr)} {p : Str × Addr}, p ∈ acc → p ∈ cellsFrom n names acc
  | [], _, _, _, h => h
  | (m, k) :: r, n, acc, p, h => by
    unfold cellsFrom
    split
    · exact cells_acc (List.mem_cons_of_mem _ h)
    · exact cells_acc h
theorem cells_has : ∀ {names : List (Str × NameKind)} {n : Nat} {acc : List (Str × Addr)} {x : Str}, (x, .cell) ∈ names → ∃ c, (x, c) ∈ cellsFrom n names acc
  | (m, k) :: r, n, acc, x, h => by
    unfold cellsFrom
    rcases List.mem_cons.mp h with e | h
    · cases e
      exact ⟨n, cells_acc List.mem_cons_self⟩
    · split
      · exact cells_has h
      · exact cells_has h
theorem cells_inj : ∀ {names : List (Str × NameKind)} {h : Heap} {acc : List (Str × Addr)} {x y : Str} {c : Addr}, (∀ p ∈ acc, p.2 < h.objs.size) → (∀ x y c, (x, c) ∈ acc → (y, c) ∈ acc → x = y) →
    (x, c) ∈ cellsFrom h.objs.size names acc → (y, c) ∈ cellsFrom h.objs.size names acc → x = y
  | [], _, _, _, _, _, _, hi, h1, h2 => hi _ _ _ h1 h2
  | (n, k) :: r, h, acc, x, y, c, hl, hi, h1, h2 => by
    unfold cellsFrom at h1 h2
    split at h1
    · rename_i hk
      rw [if_pos hk] at h2
      rw [← Heap.size_push h { cls := .type "cell", data := .cell none }] at h1 h2
      refine cells_inj (h := h.push _) (fun p hp => ?_) (fun x y c a b => ?_) h1 h2
      · rw [Heap.size_push]
        rcases List.mem_cons.mp hp with rfl | hp
        · exact Nat.lt_succ_self _
        · exact Nat.lt_succ_of_lt (hl p hp)
      · rcases List.mem_cons.mp a with e | a <;> rcases List.mem_cons.mp b with e' | b
        · cases e; cases e'; rfl
        · cases e; exact absurd (hl _ b) (Nat.lt_irrefl _)
        · cases e'; exact absurd (hl _ a) (Nat.lt_irrefl _)
        · exact hi _ _ _ a b
    · rename_i hk
      rw [if_neg hk] at h2
      exact cells_inj hl hi h1 h2
theorem newEnv_comp {M : Model} {A : Around} {E : Value → Shared → Prop} {s : Shared} {scope : Scope} {globals : Addr} {closure : List (Str × Addr)} {qual : Str} {func : Option Addr} {code : Value} {around : Env} {builtins : Addr} {Q : Env → Shared → Prop}
    (h : Q (newEnv scope s.heap.objs.size globals (cellsFrom (s.heap.objs.size + 1) scope.names closure) qual func code (some around) builtins)
      { s with heap := pushCells (s.heap.push { cls := .type "dict", data := .dict #[] }) scope.names }) :
    wpAny M A (newFunctionEnv scope globals closure [] qual func code (some around) builtins) Q E s := by
  simp only [newFunctionEnv, Option.isSome_some, if_true]
  refine wpAny_bind (wpAny_alloc ?_)
  refine wpAny_bind (wpAny_layCells _ (fun n k c => rfl) scope.names closure _ _ ?_)
  rw [show ({ s with heap := s.heap.push { cls := .type "dict", data := .dict #[] } } : Shared).heap.objs.size = s.heap.objs.size + 1 from Heap.size_push ..]
  rw [List.forIn_nil]
  exact wpAny_bind (wpAny_pure (wpAny_pure h))
theorem lookup_relS {sc : Scope} : ∀ {names : List (Str × NameKind)} {x : Str} {k : NameKind},
    (names.map fun (n, k) => if (k == NameKind.free && sc.kind == .function && sc.names.lookup n == some .cell) then (n, NameKind.cell) else (n, k)).lookup x = some k →
    ∃ k', names.lookup x = some k' ∧ (k = k' ∨ (k' = .free ∧ k = .cell))
  | [], _, _, h => by simp at h
  | (n, k₀) :: r, x, k, h => by
    have ih := @lookup_relS sc r x k
    have h' : List.lookup x ((if (k₀ == NameKind.free && sc.kind == .function && sc.names.lookup n == some .cell) = true then (n, NameKind.cell) else (n, k₀)) :: (r.map _)) = some k := h
    cases hx : x == n with
    | true =>
      simp only [List.lookup_cons, hx]
      by_cases hc : (k₀ == NameKind.free && sc.kind == .function && sc.names.lookup n == some .cell) = true
      · rw [if_pos hc] at h'
        simp only [List.lookup_cons, hx] at h'
        cases h'
        simp only [Bool.and_eq_true, beq_iff_eq] at hc
        exact ⟨k₀, rfl, .inr ⟨hc.1.1, rfl⟩⟩
      · rw [if_neg hc] at h'
        simp only [List.lookup_cons, hx] at h'
        cases h'
        exact ⟨_, rfl, .inl rfl⟩
    | false =>
      simp only [List.lookup_cons, hx]
      by_cases hc : (k₀ == NameKind.free && sc.kind == .function && sc.names.lookup n == some .cell) = true
      · rw [if_pos hc] at h'
        simp only [List.lookup_cons, hx] at h'
        exact ih h'
      · rw [if_neg hc] at h'
        simp only [List.lookup_cons, hx] at h'
        exact ih h'
structure BlkOk (N : List Str) (sc scope : Scope) (own : List (Str × Nat)) : Prop where
  kind : scope.kind = .function
  uniq : ∀ y ∈ scope.names, scope.names.lookup y.1 = some y.2
  ix : ∀ p ∈ own, N[p.2]? = some p.1
  free : ∀ y ∈ scope.names, y.2 = .free → sc.names.lookup y.1 = some .cell ∨ sc.names.lookup y.1 = some .free
  own : ∀ y ∈ scope.names, y.2 = .local ∨ y.2 = .cell → y.1 ∈ own.map (·.1) ∨ y.1 ∉ N
def wipe (σ : St) : List Nat → St
  | [] => σ
  | v :: vs => (wipe σ vs).set v none
theorem wipe_length (σ : St) : ∀ vs : List Nat, (wipe σ vs).length = σ.length
  | [] => rfl
  | v :: vs => by unfold wipe; rw [List.length_set, wipe_length σ vs]
theorem wipe_some {σ : St} {i : Nat} {x : V} : ∀ {vs : List Nat}, (wipe σ vs)[i]? = some (some x) → σ[i]? = some (some x) ∧ i ∉ vs
  | [], h => ⟨h, by simp⟩
  | v :: vs, h => by
    unfold wipe at h
    by_cases hi : v = i
    · subst hi
      by_cases hv : v < (wipe σ vs).length
      · rw [List.getElem?_set_self hv] at h; cases h
      · rw [List.getElem?_eq_none (by simpa using hv)] at h; cases h
    · rw [List.getElem?_set_ne hi] at h
      obtain ⟨h1, h2⟩ := wipe_some h
      exact ⟨h1, by simp only [List.mem_cons, not_or]; exact ⟨fun e => hi e.symm, h2⟩⟩
abbrev Cx.blk (X : Cx) (s : Shared) (H : Hp) (scope : Scope) (cenv : Env) (fp : List Addr) : Cx := { X with s_0 := s, H_0 := H, env := cenv, outer := X.stack, ex := fp, fn := fun x => scope.names.lookup x == some .cell, pn := [], xe := fun _ _ => False }
section
variable {X : Cx} {pins : List (Addr × Obj)} {σ : St} {H : Hp} {s : Shared}
theorem block_start {scope : Scope} {own : List (Str × Nat)} {fp : List Addr} (I : Inv X pins σ H s) (ok : BlkOk X.N X.env.scope scope own) (hN : X.N.Nodup) (hfp : ∀ b ∈ fp, FpOk X pins H b ∧ b < s.heap.objs.size) :
    Inv (X.blk s H scope (compEnvC scope (cellsFrom (s.heap.objs.size + 1) scope.names (cloFrom X.env.cells scope.names [])) s.heap.objs.size X.env) fp) [] (wipe σ (own.map (·.2))) H { s with heap := pushCells (s.heap.push { cls := .type "dict", data := .dict #[] }) scope.names } := by
  have hfree : ∀ y ∈ scope.names, y.2 = .free → ∃ c, X.env.cells.lookup y.1 = some c := fun y hy e => by
    rcases ok.free y hy e with k | k
    · exact I.ok.has _ (.inl k)
    · exact I.ok.has _ (.inr k)
  generalize hcenv : compEnvC scope (cellsFrom (s.heap.objs.size + 1) scope.names (cloFrom X.env.cells scope.names [])) s.heap.objs.size X.env = cenv
  have kp : ∀ b o, s.heap.get? b = some o → (pushCells (s.heap.push { cls := .type "dict", data := .dict #[] }) scope.names).get? b = some o := fun b o e => pushCells_keeps _ _ _ _ (Heap.get?_push_of_some _ e)
  have hL : cenv.locals = s.heap.objs.size := by rw [← hcenv]; rfl
  have hcl : cenv.cells = cellsFrom (s.heap.objs.size + 1) scope.names (cloFrom X.env.cells scope.names []) := by rw [← hcenv]; rfl
  have hsc : cenv.scope = relS scope X.env.scope := by rw [← hcenv]; rfl
  rw [← Heap.size_push s.heap { cls := .type "dict", data := .dict #[] }] at hcl
  have cm : ∀ {y c}, (y, c) ∈ cloFrom X.env.cells scope.names [] → X.env.cells.lookup y = some c ∧ c < s.heap.objs.size := fun {y c} hm => by
    rcases cloFrom_mem hm with hm | ⟨h1, rfl⟩
    · cases hm
    · obtain ⟨c, hc⟩ := hfree _ h1 rfl
      rw [hc]
      obtain ⟨w, z⟩ := I.cell _ _ hc
      exact ⟨rfl, z.lt⟩
  have mem : ∀ {y c}, cenv.cells.lookup y = some c → (X.env.cells.lookup y = some c ∧ c < s.heap.objs.size) ∨ (s.heap.objs.size + 1 ≤ c ∧ CellAt (pushCells (s.heap.push { cls := .type "dict", data := .dict #[] }) scope.names) c none) := fun {y c} e => by
    rw [hcl] at e
    rcases cells_mem (PySem.mem_of_lookup e) with hm | ⟨_, h2, h3⟩
    · exact .inl (cm hm)
    · rw [Heap.size_push] at h2; exact .inr ⟨h2, h3⟩
  have look : ∀ {y}, scope.names.lookup y = some .free → ∃ c, cenv.cells.lookup y = some c ∧ X.env.cells.lookup y = some c := fun {y} hl => by
    have hy : (y, NameKind.free) ∈ scope.names := PySem.mem_of_lookup hl
    obtain ⟨c', e'⟩ := mem_lookup (cells_acc (names := scope.names) (n := (s.heap.push { cls := .type "dict", data := .dict #[] }).objs.size) (cloFrom_has (cells := X.env.cells) (acc := []) hy))
    rw [← hcl] at e'
    refine ⟨c', e', ?_⟩
    rw [hcl] at e'
    rcases cells_mem (PySem.mem_of_lookup e') with hm | ⟨h1, _, _⟩
    · exact (cm hm).1
    · have := ok.uniq _ h1
      rw [hl] at this; cases this
  have okB : (X.blk s H scope cenv fp).Ok := by
    refine ⟨I.ok.mod, by show cenv.scope.kind = _; rw [hsc]; exact ok.kind, by show cenv.globals = _; rw [← hcenv]; exact I.ok.glob, by show cenv.builtins = _; rw [← hcenv]; exact I.ok.blt, by show s.heap.objs.size ≤ cenv.locals; rw [hL]; exact Nat.le_refl _,
      fun y z c e1 e2 => ?_, fun y hy => ?_, fun y c z e => ?_, I.ok.hd, I.ok.frames, .inl rfl, fun b hb => ⟨?_, fun y c e z => ?_⟩, I.bs, Nat.le_trans I.ok.bsz I.sz, fun b o e hb => ?_, fun b hb z => ?_, I.stack, I.stkFree⟩
    · have e1 : cenv.cells.lookup y = some c := e1
      have e2 : cenv.cells.lookup z = some c := e2
      rw [hcl] at e1 e2
      refine cells_inj (fun p hp => ?_) (fun y z c a b => I.ok.inj y z c (cm a).1 (cm b).1) (PySem.mem_of_lookup e1) (PySem.mem_of_lookup e2)
      rw [Heap.size_push]
      exact Nat.lt_succ_of_lt (cm (y := p.1) (c := p.2) hp).2
    · show ∃ c, cenv.cells.lookup y = some c
      have key : ∀ k, cenv.kindOf y = some k → (k = .cell ∨ k = .free) → ∃ c, cenv.cells.lookup y = some c := fun k hk hk' => by
        unfold Env.kindOf at hk
        rw [hsc] at hk
        obtain ⟨k', e, r⟩ := lookup_relS hk
        have : k' = .cell ∨ k' = .free := by
          rcases r with rfl | ⟨rfl, _⟩
          · exact hk'
          · exact .inr rfl
        rcases this with rfl | rfl
        · obtain ⟨c, hm⟩ := cells_has (n := (s.heap.push { cls := .type "dict", data := .dict #[] }).objs.size) (acc := cloFrom X.env.cells scope.names []) (PySem.mem_of_lookup e)
          obtain ⟨c', e'⟩ := mem_lookup hm
          exact ⟨c', by rw [hcl]; exact e'⟩
        · obtain ⟨c, h1, _⟩ := look e
          exact ⟨c, h1⟩
      rcases hy with hy | hy
      · exact key _ hy (.inl rfl)
      · exact key _ hy (.inr rfl)
    · have z : (scope.names.lookup y == some NameKind.cell) = true := z
      have z : scope.names.lookup y = some .cell := by simpa using z
      have e : cenv.cells.lookup y = some c := e
      rw [hcl] at e
      rcases cells_mem (PySem.mem_of_lookup e) with hm | ⟨_, h2, _⟩
      · rcases cloFrom_mem hm with hm | ⟨h1, _⟩
        · cases hm
        · have q := ok.uniq _ h1
          rw [z] at q; cases q
      · rw [Heap.size_push] at h2
        exact Nat.le_of_succ_le h2
    · show b ≠ cenv.locals
      rw [hL]; exact Nat.ne_of_lt (hfp b hb).2
    · have e : cenv.cells.lookup y = some c := e
      rcases mem e with ⟨h1, _⟩ | ⟨h1, _⟩
      · exact (hfp b hb).1.2.2.2.2.1 y c h1 z
      · have h2 : s.heap.objs.size + 1 ≤ b := by rw [← z]; exact h1
        exact absurd (Nat.lt_of_lt_of_le (hfp b hb).2 (Nat.le_of_succ_le h2)) (Nat.lt_irrefl _)
    · rcases (hfp b hb).1.2.2.2.1 with z | z
      · exact I.ok.noex b o e z
      · exact absurd (Nat.lt_of_lt_of_le (Heap.lt_size e) (Nat.le_trans I.ok.bsz z)) (Nat.lt_irrefl _)
    · rcases List.mem_cons.mp (I.stkSub b z) with z | z
      · exact (hfp b hb).1.2.1 z
      · exact (hfp b hb).1.2.2.1 z
  refine ⟨okB, rfl, I.bare, Un.kept kp, ⟨fun _ => none, ?_, fun i y av e1 e2 e3 => ?_⟩, fun y c e => ?_, ?_, fun y c e => ?_, fun p hp => ?_, I.hok.kept kp, by rw [wipe_length]; exact I.len⟩
  · show Heap.Ns _ cenv.locals _
    rw [hL]
    exact Heap.Ns.keeps (Heap.Ns.new ..) fun b o e => pushCells_keeps _ _ _ _ e
  · obtain ⟨e2, hne⟩ := wipe_some e2
    have hfr : scope.names.lookup y = some .free ∧ (cenv.kindOf y = some .cell ∨ cenv.kindOf y = some .free) := by
      have key : ∀ k, cenv.scope.names.lookup y = some k → k = .local ∨ k = .cell ∨ k = .free → scope.names.lookup y = some .free ∧ (cenv.kindOf y = some .cell ∨ cenv.kindOf y = some .free) := fun k hk hk' => by
        have hk0 := hk
        rw [hsc] at hk
        obtain ⟨k', e, r⟩ := lookup_relS hk
        have no : ¬ (k' = .local ∨ k' = .cell) := fun hh => by
          rcases ok.own _ (PySem.mem_of_lookup e) hh with e' | e'
          · obtain ⟨p, hp, hpy⟩ := List.mem_map.mp e'
            have e3 := ok.ix p hp
            have : p.1 = y := hpy
            rw [this] at e3
            exact hne (List.mem_map.mpr ⟨p, hp, nodup_ix hN e3 e1⟩)
          · exact e' (List.mem_of_getElem? e1)
        rcases r with rfl | ⟨rfl, rfl⟩
        · rcases hk' with rfl | rfl | rfl
          · exact absurd (.inl rfl) no
          · exact absurd (.inr rfl) no
          · exact ⟨e, .inr hk0⟩
        · exact ⟨e, .inl hk0⟩
      have e3 : Vis cenv.scope y := e3
      rcases e3 with e3 | e3 | e3
      · exact key _ e3 (.inl rfl)
      · exact key _ e3 (.inr (.inl rfl))
      · exact key _ e3 (.inr (.inr rfl))
    obtain ⟨m, hn, hl⟩ := I.loc
    have hvis : Vis X.env.scope y := (ok.free _ (PySem.mem_of_lookup hfr.1) rfl).elim (fun k => .inr (.inl k)) (fun k => .inr (.inr k))
    obtain ⟨w, r, q⟩ := hl i y av e1 e2 hvis
    refine ⟨w, r, .inr ⟨hfr.2, ?_⟩⟩
    obtain ⟨c, h1, h2⟩ := look hfr.1
    rcases q with ⟨k, _⟩ | ⟨_, c', e', z⟩
    · have k : X.env.scope.names.lookup y = some .local := k
      rcases ok.free _ (PySem.mem_of_lookup hfr.1) rfl with k' | k' <;> rw [show X.env.scope.names.lookup y = _ from k'] at k <;> cases k
    · rw [h2] at e'; cases e'
      exact ⟨c, h1, z.keeps kp⟩
  · have e : cenv.cells.lookup y = some c := e
    rcases mem e with ⟨h1, _⟩ | ⟨_, z⟩
    · obtain ⟨w, z⟩ := I.cell y c h1
      exact ⟨w, z.keeps kp⟩
    · exact ⟨_, z⟩
  · show H cenv.locals = none
    rw [hL]; exact I.hok.fresh (Nat.le_refl _)
  · have e : cenv.cells.lookup y = some c := e
    rcases mem e with ⟨h1, _⟩ | ⟨h1, _⟩
    · exact I.freeC y c h1
    · exact I.hok.fresh (Nat.le_of_succ_le h1)
  · exact absurd (show p ∈ ([] : List (Addr × Obj)) ++ [] from hp) (by simp)
theorem app_ok {E : Value → Shared → Prop} {D : Addr} {xs : List V} {y : V} {v : Value} {Q : Value → Shared → Prop} (I : Inv X pins σ H s) (hD : H D = some (.lst xs)) (hz : xs.length < sizeLine) (r : RelV y v)
    (h : ∀ s', Inv X pins σ (upd H D (.lst (xs ++ [y]))) s' → Q .none s') : wpAny (model X.prog X.w) X.A (call (.builtin "list.append") [.ref D, v]) Q E s := by
  obtain ⟨hz', its, n, ri, e⟩ := I.hok D _ hD
  have hl := ri.length
  refine append_at (hsz := by rw [List.size_toArray]; omega) e fun h' sb ho' => ?_
  refine h { s with heap := h' } (I.write (t' := s.toks) (by rw [hD]; trivial) (.inl rfl) (fun b u hb q => (sb.2 b hb).trans q) ⟨_, ho'⟩ ⟨by rw [List.length_append]; exact hz, its ++ [v], n + 1, ri.append (.cons r .nil), ?_⟩)
  rw [ho']
  simp
def PTs (X : Cx) (ifs : List Expr) (t : TT) : Prop :=
  ∀ (pins : List (Addr × Obj)) (s : Shared) (σ : St) (H : Hp) (Q : Bool → Hp → Prop), Inv X pins σ H s → t σ H Q →
    wpAny (model X.prog X.w) X.A (forIn ifs true fun c r => if r = true then do let ok ← isTrue c X.env (eval c X.env); pure (ForInStep.yield ok) else pure (ForInStep.yield r)) (TP X pins σ Q) X.xe s
def tYes : TT := fun _ H Q => Q true H
theorem pts_nil : PTs X [] tYes := fun _ _ _ H _ I h => wpAny_tests_nil ⟨H, I, h⟩
theorem pts_one {c : Expr} {t : TT} (h : PT X c t) : PTs X [c] t := fun pins s σ H Q I hw => wpAny_tests_one (h pins s σ H Q I hw)
end
theorem thnF {α : Type} {t : Sem α} {Q Q' : α → Shared → Prop} {M : Model} {A : Around} {E : Value → Shared → Prop} {s : Shared} (h : wpAny M A t Q (fun _ _ => False) s) (hQ : ∀ a s, Q a s → Q' a s) : wpAny M A t Q' E s := wpAny_mono h hQ fun _ _ z => False.elim z
theorem compLoop_any {prog : Program} {w : World} {A : Around} {R : Result → Shared → Prop} {s : Shared} {elt target iter : Expr} {ifs : List Expr} {scope : Scope} {pos : Pos} {it acc : Value} {env : Env} (I : Nat → Shared → Prop)
    (turn : ∀ n s, I n s → wpAny (model prog w) A (pyNext it) (fun r s₁ => match r with
      | none => R (.ok .next) s₁
      | some v => wpAny (model prog w) A (letOwnedTupleGo target it v) (fun _ s₁' => wpAny (model prog w) A (assign target env v) (fun _ s₂ =>
          wpAny (model prog w) A (forIn ifs true fun c r => if r = true then do let ok ← isTrue c env (eval c env); pure (ForInStep.yield ok) else pure (ForInStep.yield r)) (fun ok s₃ =>
            if ok = true then wpAny (model prog w) A (eval elt env) (fun x s₄ =>
              wpAny (model prog w) A (call (.builtin "list.append") [acc, x]) (fun _ s₅ => ∃ m, m < n ∧ I m s₅) (notedBy (model prog w) A env fun e s' => R (.error e) s') s₄) (notedBy (model prog w) A env fun e s' => R (.error e) s') s₃
            else ∃ m, m < n ∧ I m s₃) (notedBy (model prog w) A env fun e s' => R (.error e) s') s₂) (notedBy (model prog w) A env fun e s' => R (.error e) s') s₁') (notedBy (model prog w) A env fun e s' => R (.error e) s') s₁) (notedBy (model prog w) A env fun e s' => R (.error e) s') s)
    (n : Nat) (h : I n s) :
    codeAny (model prog w) A (.compLoop (.ListComp elt [⟨target, iter, ifs, 0⟩] scope pos) 0 it acc env) R s := by
  refine codeAny_loop rfl I (fun n s hI => ?_) n h
  show wpAny _ A ((compTurn (.ListComp elt [⟨target, iter, ifs, 0⟩] scope pos) 0 it acc env).onRaise (fun x => do noteFrame x env; theTreesLotGoes x)) _ _ s
  refine wpAny_noted ?_
  rw [compTurn_list]
  refine wpAny_bind (wpAny_standAt (wpAny_bind (wpAny_mono (turn n s hI) (fun r s₁ h₁ => ?_) fun _ _ h' => h')))
  cases r with
  | none => exact wpAny_pure h₁
  | some v =>
    refine wpAny_bind (wpAny_mono h₁ (fun _ s₁' h₁' => ?_) fun _ _ h' => h')
    refine wpAny_bind (wpAny_mono h₁' (fun _ s₂ h₂ => wpAny_bind (wpAny_mono h₂ (fun ok s₃ h₃ => ?_) fun _ _ h' => h')) fun _ _ h' => h')
    cases ok with
    | false => exact wpAny_pure ⟨rfl, h₃⟩
    | true =>
      exact wpAny_bind (wpAny_bind (wpAny_mono h₃ (fun x s₄ h₄ => wpAny_bind (wpAny_mono h₄ (fun _ s₅ h₅ => wpAny_pure (wpAny_pure ⟨rfl, h₅⟩)) fun _ _ h' => h')) fun _ _ h' => h'))
section
variable {X : Cx}
def tLc (wi : TI) (g : TG) (tt : TT) (te : TE) (vs : List Nat) : TE := fun σ H Q => wi σ H fun J H1 => ∀ D, H1 D = none → ∃ W : Nat → Nat → Hp → Prop, (∃ m, W 0 m (upd H1 D (.lst []))) ∧ ∀ i m H, W i m H →
  (J.stop i H ∧ Q (.ref D) H) ∨ (J.go i H ∧ ∃ Nx : Hp → Prop, (∀ H', Nx H' → ∃ m', m' < m ∧ W (i + 1) m' H') ∧ ∀ x H', J.yld i H x H' → g x (wipe σ vs) H' fun σ2 H2 => wipe σ2 vs = wipe σ vs ∧ tt σ2 H2 fun b H3 =>
    if b = true then te σ2 H3 fun y H4 => ∃ acc, H4 D = some (.lst acc) ∧ acc.length < sizeLine ∧ Nx (upd H4 D (.lst (acc ++ [y]))) else Nx H3)
theorem lc_core {pins : List (Addr × Obj)} {s : Shared} {σ : St} {H : Hp} {Q : VK} {elt tg iter : Expr} {ifs : List Expr} {scope : Scope} {own : List (Str × Nat)} {pos pos' : Pos} {wi : TI} {g : TG} {tt : TT} {te : TE} {use : Option (Value → Sem Unit)} {Qf : Value → Shared → Prop}
    (hc : X.calm = true) (hN : X.N.Nodup) (I : Inv X pins σ H s) (hi : PI X tg iter wi) (ok : BlkOk X.N X.env.scope scope own)
    (hg : ∀ (s : Shared) (H : Hp) (C : Addr) (cl : List (Str × Addr)) (fp : List Addr), PG (X.blk s H scope (compEnvC scope cl C X.env) fp) tg g) (ht : ∀ (s : Shared) (H : Hp) (C : Addr) (cl : List (Str × Addr)) (fp : List Addr), PTs (X.blk s H scope (compEnvC scope cl C X.env) fp) ifs tt)
    (he : ∀ (s : Shared) (H : Hp) (C : Addr) (cl : List (Str × Addr)) (fp : List Addr), PE (X.blk s H scope (compEnvC scope cl C X.env) fp) elt te) (hs : ∀ x, foldedSetIterable iter X.env x = pure x)
    (h : tLc wi g tt te (own.map (·.2)) σ H Q)
    (hRR : ∀ D C s' m H', Inv X pins σ H' s' → Q (.ref D) H' → s'.heap.Ns C m → FpOk X pins H' C → compPost (model X.prog X.w) X.A X.xe use Qf (.ref D) C (.ok .next) s') :
    wpAny (model X.prog X.w) X.A (comprehension (.ListComp elt [⟨tg, iter, ifs, 0⟩] scope pos) scope X.env pos' (newList []) false (eval iter X.env) use) Qf X.xe s := by
  have hfree : ∀ y ∈ scope.names, y.2 = .free → ∃ c, X.env.cells.lookup y.1 = some c := fun y hy e => by
    rcases ok.free y hy e with k | k
    · exact I.ok.has _ (.inl k)
    · exact I.ok.has _ (.inr k)
  refine wpAny_comprehension_free (use := use) rfl hs (closure_ok hfree) ok.kind (fun y hy e => by rw [ok.uniq y hy, e])
    (thn (hi pins s σ H _ I h) fun xv s1 hx => thn hx fun itv s2 h2 => ?_)
  obtain ⟨it, fp, tn, J, H2, e, I2, T, st2, f2, q⟩ := h2
  subst e
  refine wpAny_newObj_type (newEnv_comp ?_) (by show 0 ≤ sizeLine; decide)
  generalize hD : s2.heap.objs.size = D
  have hDn : H2 D = none := I2.hok.fresh (Nat.le_of_eq hD)
  obtain ⟨W, ⟨m0, w0⟩, turn⟩ := q D hDn
  -- the new list
  generalize hs3 : ({ s2 with heap := s2.heap.push { cls := .type "list", data := .seq ([] : List Value).toArray } } : Shared) = s3
  have I3 : Inv X pins σ (upd H2 D (.lst [])) s3 := by
    rw [← hs3]
    refine I2.laid (t' := s2.toks) (fun b o e => Heap.get?_push_of_some _ e) (Nat.le_of_eq hD) ⟨Nat.zero_le _, [], 0, .nil, ?_⟩
    rw [← hD]
    exact Heap.get?_push_size _ rfl
  have h3 : s3.heap = s2.heap.push { cls := .type "list", data := .seq ([] : List Value).toArray } := by rw [← hs3]
  have sz : ∀ b ∈ fp, b < s2.heap.objs.size := fun b hb => by
    obtain ⟨o, e, _⟩ := T.obj _ _ st2 b hb
    exact Heap.lt_size e
  have f3 : ∀ b ∈ fp, FpOk X pins (upd H2 D (.lst [])) b ∧ b < s3.heap.objs.size := fun b hb => by
    have hlt := sz b hb
    refine ⟨⟨?_, (f2 b hb).2⟩, by rw [h3, Heap.size_push]; exact Nat.lt_succ_of_lt hlt⟩
    rw [upd_ne (by rw [← hD]; exact Nat.ne_of_lt hlt)]
    exact (f2 b hb).1
  have st3 : tn 0 s3.heap := T.keep _ _ _ st2 fun b _ o e => by rw [h3]; exact Heap.get?_push_of_some _ e
  have I4 := block_start I3 ok hN f3
  have pg := hg s3 (upd H2 D (.lst [])) s3.heap.objs.size (cellsFrom (s3.heap.objs.size + 1) scope.names (cloFrom X.env.cells scope.names [])) fp
  have pt := ht s3 (upd H2 D (.lst [])) s3.heap.objs.size (cellsFrom (s3.heap.objs.size + 1) scope.names (cloFrom X.env.cells scope.names [])) fp
  have pe := he s3 (upd H2 D (.lst [])) s3.heap.objs.size (cellsFrom (s3.heap.objs.size + 1) scope.names (cloFrom X.env.cells scope.names [])) fp
  show codeAny _ _ (.compStart (.ListComp elt [⟨tg, iter, ifs, 0⟩] scope pos) 0 (.ref it) (.ref D) (compEnvC scope (cellsFrom (s3.heap.objs.size + 1) scope.names (cloFrom X.env.cells scope.names [])) s3.heap.objs.size X.env)) (compPost (model X.prog X.w) X.A X.xe use Qf (.ref D) s3.heap.objs.size) { s3 with heap := pushCells (s3.heap.push { cls := .type "dict", data := .dict #[] }) scope.names }
  have nfp : ∀ b ∈ fp, (upd H2 D (.lst [])) b = none := fun b hb => (f3 b hb).1.1
  generalize hce : compEnvC scope (cellsFrom (s3.heap.objs.size + 1) scope.names (cloFrom X.env.cells scope.names [])) s3.heap.objs.size X.env = ce at I4 pg pt pe ⊢
  have cL : ce.locals = s3.heap.objs.size := by subst hce; rfl
  generalize hH3 : upd H2 D (.lst []) = H3 at I3 I4 pg pt pe w0 nfp f3
  generalize hs4 : ({ s3 with heap := pushCells (s3.heap.push { cls := .type "dict", data := .dict #[] }) scope.names } : Shared) = s4 at I4 ⊢
  have st4 : tn 0 s4.heap := T.keep _ _ _ st3 fun b _ o e => by rw [← hs4]; exact pushCells_keeps _ _ _ _ (Heap.get?_push_of_some _ e)
  have stat : ∀ {σ' : St} {H' : Hp} {s' : Shared}, Inv (X.blk s3 H3 scope ce fp) [] σ' H' s' → (∀ b ∈ fp, H' b = none) → ∀ b ∈ fp, FpOk (X.blk s3 H3 scope ce fp) [] H' b := fun {σ' H' s'} I' hn b hb =>
    ⟨hn b hb, (I'.ok.exf b hb).1, I'.ok.exfs b hb, .inl hb, fun x c e => (I'.ok.exf b hb).2 x c e, fun p hp => absurd (show p ∈ ([] : List (Addr × Obj)) ++ [] from hp) (by simp)⟩
  have loop : codeAny (model X.prog X.w) X.A (.compLoop (.ListComp elt [⟨tg, iter, ifs, 0⟩] scope pos) 0 (.ref it) (.ref D) ce) (compPost (model X.prog X.w) X.A X.xe use Qf (.ref D) s3.heap.objs.size) s4 := by
    refine compLoop_any (fun n s' => ∃ i H', Inv (X.blk s3 H3 scope ce fp) [] (wipe σ (own.map (·.2))) H' s' ∧ tn i s'.heap ∧ (∀ b ∈ fp, H' b = none) ∧ W i n H') ?_ m0 ⟨0, H3, I4, st4, nfp, w0⟩
    rintro n s5 ⟨i, H5, I5, st5, n5, w5⟩
    rcases turn i n H5 w5 with ⟨stop, qq⟩ | ⟨go, Nx, hNx, step⟩
    · have td := T.done (X.blk s3 H3 scope ce fp) rfl rfl rfl hc i [] s5 _ H5 (fun _ _ => False) I5 (stat I5 n5) st5 stop
      refine thnF td fun r s6 ⟨hr, I6⟩ => ?_
      subst hr
      -- back in the def's context
      have I7 : Inv X pins σ H5 s6 := I3.call' (ch := fp) I6.os I6.base I6.hok I6.bare fun b hb => ⟨(f3 b hb).1.2.2.2.1, (f3 b hb).1.2.1, (f3 b hb).1.2.2.2.2.1, (f3 b hb).1.2.2.2.2.2⟩
      have nC : H5 s3.heap.objs.size = none := by
        have z : H5 ce.locals = none := I6.free
        rw [cL] at z
        exact z
      obtain ⟨m, hn, _⟩ := I6.loc
      have hn : s6.heap.Ns ce.locals m := hn
      rw [cL] at hn
      exact hRR D s3.heap.objs.size s6 m H5 I7 qq hn (I3.fpOk (Nat.le_refl _) nC)
    · have ti := T.item (X.blk s3 H3 scope ce fp) rfl rfl rfl hc i [] s5 _ H5 (fun _ _ => False) I5 (stat I5 n5) st5 go
      refine thnF ti fun r s6 ⟨u, hr, h6⟩ => ?_
      subst hr
      refine thnF h6 fun _ s7 ⟨x, H7, I7, r7, y7, st7, n7⟩ => ?_
      have I7' := I7.pinned (stat I7 n7) (T.obj _ _ st7)
      refine thnF (pg _ s7 _ H7 x u _ I7' r7 (step x H7 y7)) fun _ s8 ⟨σ8, H8, I8, hw8, q8⟩ => ?_
      refine thnF (pt _ s8 σ8 H8 _ I8 q8) fun b s9 ⟨H9, I9, q9⟩ => ?_
      -- the turn's end
      have fin : ∀ {s' : Shared} {H' : Hp}, Inv (X.blk s3 H3 scope ce fp) ([] ++ pinsAt fp s7.heap) σ8 H' s' → Nx H' → ∃ m, m < n ∧ ∃ i H', Inv (X.blk s3 H3 scope ce fp) [] (wipe σ (own.map (·.2))) H' s' ∧ tn i s'.heap ∧ (∀ b ∈ fp, H' b = none) ∧ W i m H' := fun {s' H'} I' nx => by
        obtain ⟨m', hm, w'⟩ := hNx H' nx
        have pin' : ∀ b ∈ fp, ∀ o, s7.heap.get? b = some o → s'.heap.get? b = some o ∧ H' b = none := fun b hb o e =>
          let z := I'.pin (b, o) (List.mem_append_right _ (List.mem_append_right _ (mem_pinsAt hb e)))
          ⟨z.1, z.2.1⟩
        have hl : (wipe σ (own.map (·.2))).length = σ8.length := by rw [← hw8, wipe_length]
        refine ⟨m', hm, i + 1, H', (I'.unpinned (pins := [])).weak hl (fun j v e => ?_), T.keep _ _ _ st7 fun b hb o e => (pin' b hb o e).1, fun b hb => ?_, w'⟩
        · rw [← hw8] at e
          exact (wipe_some e).1
        · obtain ⟨o, e, _⟩ := T.obj _ _ st7 b hb
          exact (pin' b hb o e).2
      cases b with
      | false =>
        simp only [Bool.false_eq_true, if_false] at q9 ⊢
        exact fin I9 q9
      | true =>
        simp only [if_true] at q9 ⊢
        refine thnF (pe _ s9 σ8 H9 _ I9 q9) fun z s10 ⟨yv, H10, I10, r10, acc, hD10, hz10, nx⟩ => ?_
        exact app_ok (X := X.blk s3 H3 scope ce fp) I10 hD10 hz10 r10 fun s11 I11 => fin I11 nx
  exact codeAny_compStart_list loop (T.self X.A 0 _ _ _ st4 loop)
theorem pe_lc {elt tg iter : Expr} {ifs : List Expr} {scope : Scope} {own : List (Str × Nat)} {pos : Pos} {wi : TI} {g : TG} {tt : TT} {te : TE} (hc : X.calm = true) (hN : X.N.Nodup) (hi : PI X tg iter wi) (ok : BlkOk X.N X.env.scope scope own)
    (hg : ∀ (s : Shared) (H : Hp) (C : Addr) (cl : List (Str × Addr)) (fp : List Addr), PG (X.blk s H scope (compEnvC scope cl C X.env) fp) tg g) (ht : ∀ (s : Shared) (H : Hp) (C : Addr) (cl : List (Str × Addr)) (fp : List Addr), PTs (X.blk s H scope (compEnvC scope cl C X.env) fp) ifs tt)
    (he : ∀ (s : Shared) (H : Hp) (C : Addr) (cl : List (Str × Addr)) (fp : List Addr), PE (X.blk s H scope (compEnvC scope cl C X.env) fp) elt te) (hs : ∀ x, foldedSetIterable iter X.env x = pure x := by intro _; rfl) :
    PE X (.ListComp elt [⟨tg, iter, ifs, 0⟩] scope pos) (tLc wi g tt te (own.map (·.2))) := by
  intro pins s σ H Q I h
  rw [eval_ListComp]
  refine lc_core hc hN I hi ok hg ht he hs h fun D C s' m H' I' q hn f => ⟨m, hn, fun h'' sb => ?_⟩
  obtain ⟨f0, f1, f2, f3, f4, f5⟩ := f
  exact ⟨.ref D, H', I'.turned (t' := s'.toks) (fun b o hb e => (sb.2 b hb).trans e) f0 f1 f3 f4 f5, rfl, q⟩
theorem ps_setLc {i : Nat} {y : Str} {py : Pos} {elt tg iter : Expr} {ifs : List Expr} {scope : Scope} {own : List (Str × Nat)} {pos spos : Pos} {wi : TI} {g : TG} {tt : TT} {te : TE} (hc : X.calm = true) (hN : X.N.Nodup) (hy : X.N[i]? = some y) (hyl : X.env.scope.names.lookup y = some .local)
    (hsw : swapsWith (.ListComp elt [⟨tg, iter, ifs, 0⟩] scope pos) (some (.Name y py)) spos.line X.env = pure true) (hi : PI X tg iter wi) (ok : BlkOk X.N X.env.scope scope own)
    (hg : ∀ (s : Shared) (H : Hp) (C : Addr) (cl : List (Str × Addr)) (fp : List Addr), PG (X.blk s H scope (compEnvC scope cl C X.env) fp) tg g) (ht : ∀ (s : Shared) (H : Hp) (C : Addr) (cl : List (Str × Addr)) (fp : List Addr), PTs (X.blk s H scope (compEnvC scope cl C X.env) fp) ifs tt)
    (he : ∀ (s : Shared) (H : Hp) (C : Addr) (cl : List (Str × Addr)) (fp : List Addr), PE (X.blk s H scope (compEnvC scope cl C X.env) fp) elt te) (hs : ∀ x, foldedSetIterable iter X.env x = pure x := by intro _; rfl) :
    PS X (.Assign [.Name y py] (.ListComp elt [⟨tg, iter, ifs, 0⟩] scope pos) spos) (tAsg (tLc wi g tt te (own.map (·.2))) (gName i)) := by
  intro pins s σ H D I h
  rw [exec_Assign_Name_used _ _ _ _ hsw]
  refine wpAny_bind (wpAny_standAt (wpAny_bind ?_))
  show wpAny _ X.A (do let _ ← comprehension (.ListComp elt [⟨tg, iter, ifs, 0⟩] scope pos) scope X.env (firstIterPos [⟨tg, iter, ifs, 0⟩] pos) (newList []) false (eval iter X.env) (some (assign (.Name y py) X.env))) _ _ s
  have h : tLc wi g tt te (own.map (·.2)) σ H (fun x H1 => gName i x σ H1 D.nx) := h
  refine wpAny_bind (thn (lc_core (Qf := fun _ s' => SP X pins D .next s') hc hN I hi ok hg ht he hs h fun L C s' m H' I' q hn f => ?_) fun _ s' hq => wpAny_pure (wpAny_pure hq))
  show wpAny _ _ (assign (.Name y py) X.env (.ref L)) _ _ _
  refine wpAny_assign_Name (store_ok2 (v := V.ref L) I' hN hy (.inl hyl) rfl (fun s2 I2 ⟨a, sb, ha⟩ => ?_) (.inr hyl))
  obtain ⟨f0, f1, f2, f3, f4, f5⟩ := f
  have haC : C ≠ a := by
    rcases ha with z | z
    · rw [z]; exact f1
    · exact fun e => f4 y a z e.symm
  refine ⟨m, hn.sameBut sb haC, fun h3 sb3 => ?_⟩
  exact ⟨_, H', I2.turned (t' := s2.toks) (fun b o hb e => (sb3.2 b hb).trans e) f0 f1 f3 f4 f5, q⟩
theorem sw_true {elt : Expr} {gs : List Comprehension} {scope : Scope} {pos py : Pos} {y : Str} {l : Nat} {env : Env} (hk : env.scope.kind = .function) (hy : env.scope.names.lookup y = some .local) (hl : (py.line == pos.line) = true)
    (ha : (scope.names.any fun (n, k) => n == y && (k == .local || k == .cell)) = false) : swapsWith (.ListComp elt gs scope pos) (some (.Name y py)) l env = pure true := by
  have ky : env.kindOf y = some .local := hy
  have hb : env.blockKind = .function := by unfold Env.blockKind; rw [hk]; rfl
  unfold swapsWith
  simp only [hb, ky, ha, Expr.pos, hl]
  rfl
end
theorem lc_list {K : PySem.W.Frag} {a : Addr} {xs : List V} {g : TG} {tt : TT} {te : TE} {vs : List Nat} {σ : St} {H1 : Hp} {D : Addr} {Qd : Hp → Prop} (Pv : Nat → Hp → Prop) (h0 : Pv 0 (upd H1 D (.lst []))) (hl : ∀ i H, i ≤ xs.length → Pv i H → SqL K H a xs)
    (hs : ∀ i x H, xs[i]? = some x → Pv i H → g x (wipe σ vs) H fun σ2 H2 => wipe σ2 vs = wipe σ vs ∧ tt σ2 H2 fun b H3 =>
      if b = true then te σ2 H3 fun y H4 => ∃ acc, H4 D = some (.lst acc) ∧ acc.length < sizeLine ∧ Pv (i + 1) (upd H4 D (.lst (acc ++ [y]))) else Pv (i + 1) H3) (hd : ∀ H, Pv xs.length H → Qd H) :
    ∃ W : Nat → Nat → Hp → Prop, (∃ m, W 0 m (upd H1 D (.lst []))) ∧ ∀ i m H, W i m H →
      ((Itl K a).stop i H ∧ Qd H) ∨ ((Itl K a).go i H ∧ ∃ Nx : Hp → Prop, (∀ H', Nx H' → ∃ m', m' < m ∧ W (i + 1) m' H') ∧ ∀ x H', (Itl K a).yld i H x H' → g x (wipe σ vs) H' fun σ2 H2 => wipe σ2 vs = wipe σ vs ∧ tt σ2 H2 fun b H3 =>
        if b = true then te σ2 H3 fun y H4 => ∃ acc, H4 D = some (.lst acc) ∧ acc.length < sizeLine ∧ Nx (upd H4 D (.lst (acc ++ [y]))) else Nx H3) := by
  refine ⟨fun i m H => m = xs.length - i ∧ i ≤ xs.length ∧ Pv i H, ⟨xs.length, by simp, Nat.zero_le _, h0⟩, ?_⟩
  rintro i m H ⟨rfl, hi, p⟩
  have q := hl i H hi p
  by_cases hlt : i < xs.length
  · refine .inr ⟨⟨xs, xs[i], q, by simp [hlt]⟩, Pv (i + 1), fun H' p' => ⟨xs.length - (i + 1), by omega, rfl, hlt, p'⟩, fun x H' y => ?_⟩
    obtain ⟨e, y⟩ := y
    subst e
    exact hs i x _ (y xs q) p
  · have e : i = xs.length := by omega
    subst e
    exact .inl ⟨⟨xs, q, Nat.le_refl _⟩, hd H p⟩
def blkC (N : List Str) (sc scope : Scope) (own : List (Str × Nat)) : Bool :=
  (match scope.kind with | .function => true | _ => false) && (scope.names.all fun y => decide (scope.names.lookup y.1 = some y.2)) && (own.all fun p => decide (N[p.2]? = some p.1)) &&
    (scope.names.all fun y => match y.2 with
      | .free => (match sc.names.lookup y.1 with | some .cell => true | some .free => true | _ => false)
      | .local => decide (y.1 ∈ own.map (·.1)) || decide (y.1 ∉ N)
      | .cell => decide (y.1 ∈ own.map (·.1)) || decide (y.1 ∉ N)
      | _ => true)
theorem blkOk_by {N : List Str} {sc scope : Scope} {own : List (Str × Nat)} (h : blkC N sc scope own = true) : BlkOk N sc scope own := by
  unfold blkC at h
  simp only [Bool.and_eq_true, List.all_eq_true, decide_eq_true_eq] at h
  obtain ⟨⟨⟨h1, h2⟩, h3⟩, h4⟩ := h
  refine ⟨?_, h2, h3, fun y hy e => ?_, fun y hy e => ?_⟩
  · split at h1
    · assumption
    · cases h1
  · have q := h4 y hy
    simp only [e] at q
    split at q <;> first | exact .inl (by assumption) | exact .inr (by assumption) | cases q
  · have q := h4 y hy
    rcases e with e | e <;> (simp only [e, Bool.or_eq_true, decide_eq_true_eq] at q; exact q)
end L2
namespace L2
open PySem PySem.Spec PyProof.Rows
section
variable {prog : Program} {w : World} {A : Around} {R : Result → Shared → Prop} {s : Shared} {elt t0 i0 t1 i1 : Expr} {ifs0 ifs1 : List Expr} {scope : Scope} {pos : Pos} {it acc : Value} {env : Env}
end
section
variable {X : Cx}
end
end L2
namespace L2
open PySem PySem.Spec PyProof.Rows
section
variable {κ : Type} [DecidableEq κ]
end
section
variable {P : Program} {w : World} {H : Hp} {h : Heap} {a : Addr}
end
section
variable {X : Cx} {pins : List (Addr × Obj)} {σ : St} {H : Hp} {s : Shared} {a : Addr} {y v : V} {u r : Value} {o : Option V} {A : Around} {E : Value → Shared → Prop}
end
section
variable {X : Cx} {pins : List (Addr × Obj)} {σ : St} {H : Hp} {s : Shared} {a : Addr} {kvs : List (Key × V)} {k : Key} {u : Value} {A : Around} {E : Value → Shared → Prop}
end
section
variable {X : Cx} {o i e value : Expr} {pos pos' tpos : Pos} {td ty tv : TE}
end
section
variable {X : Cx} {pos : Pos}
end
section
variable {X : Cx} {pins : List (Addr × Obj)} {σ : St} {H : Hp} {s : Shared} {a : Addr} {y d : V} {u r : Value} {o : Option V} {A : Around} {E : Value → Shared → Prop}
end
section
variable {X : Cx} {o e f : Expr} {apos cpos : Pos} {td ty tx : TE}
end
section
variable {X : Cx} {pins : List (Addr × Obj)} {σ : St} {H : Hp} {s : Shared} {a : Addr} {kvs : List (Key × V)} {A : Around} {E : Value → Shared → Prop}
end
section
variable {X : Cx} {pins : List (Addr × Obj)} {σ : St} {H : Hp} {s : Shared} {a : Addr} {y : V} {u : Value} {A : Around} {E : Value → Shared → Prop}
end
end L2
namespace L2
open PySem PySem.Spec PyProof.Rows
section
variable {prog : Program} {w : World} {A : Around} {E : Value → Shared → Prop}
end
section
variable {X : Cx}
end
end L2
namespace L2
open PySem PySem.Spec PyProof.Rows
section
variable {X : Cx} {pins : List (Addr × Obj)} {σ : St} {H : Hp} {s : Shared} {h' : Heap}
theorem Inv.turnedL {t' : Nat} {ch : List Addr} (I : Inv X pins σ H s) (k : ∀ b o, b ∉ ch → s.heap.get? b = some o → h'.get? b = some o) (hf : ∀ b ∈ ch, FpOk X pins H b) : Inv X pins σ H { s with heap := h', toks := t' } := by
  have nit : ∀ b u, H b = some u → b ∉ ch := fun b u e z => by
    have q := (hf b z).1
    rw [q] at e; cases e
  refine I.step (g' := s.gens) (d' := s.drawn) (ch := ch) (fun b hb => ⟨(hf b hb).2.2.2.1, (hf b hb).2.1, (hf b hb).2.2.2.2.1, (hf b hb).2.2.2.2.2⟩) (fun b o _ _ hc e _ => k b o hc e) (fun b o _ _ hc e _ => ⟨o.slots, k b o hc e⟩)
    (fun _ _ _ _ n => n) (fun b o hc e => ⟨o, k b o hc e⟩) (fun _ _ e => e) (fun _ _ _ e => e) (fun b ps e => ⟨#[], by rw [e]; simp⟩) (fun m hm => ?_) (fun b u e => ?_) I.bare
  · obtain ⟨o, es, ep, ho, r⟩ := hm
    exact ⟨o, es, ep, k _ o (fun z => (hf _ z).2.1 rfl) ho, r⟩
  · refine (I.hok b u e).stay (fun c v hc q => k c v ?_ q) (fun _ q => q) fun _ _ q => q
    rcases hc with z | z
    · rw [z]; exact nit b u e
    · exact nit c _ z
theorem Inv.turnedNew {t' : Nat} {ch : List Addr} {T : Addr} {ob : HO} (I : Inv X pins σ H s) (k : ∀ b o, b ∉ ch → s.heap.get? b = some o → h'.get? b = some o) (hf : ∀ b ∈ ch, FpOk X pins H b) (hT : s.heap.objs.size ≤ T)
    (new : ObjOk X.prog X.w (upd H T ob) h' T ob) : Inv X pins σ (upd H T ob) { s with heap := h', toks := t' } := by
  have hn : H T = none := I.hok.fresh hT
  have nit : ∀ b u, H b = some u → b ∉ ch := fun b u e z => by
    have q := (hf b z).1
    rw [q] at e; cases e
  refine I.step (g' := s.gens) (d' := s.drawn) (ch := ch) (fun b hb => ⟨(hf b hb).2.2.2.1, (hf b hb).2.1, (hf b hb).2.2.2.2.1, (hf b hb).2.2.2.2.2⟩) (fun b o _ _ hc e _ => k b o hc e) (fun b o _ _ hc e _ => ⟨o.slots, k b o hc e⟩)
    (fun b o _ e n => ?_) (fun b o hc e => ⟨o, k b o hc e⟩) (fun b xs e => ?_) (fun b o u e => ?_) (fun b ps e => ⟨#[], ?_⟩) (fun m hm => ?_) (fun b u e => ?_) I.bare
  · rw [upd_ne (Nat.ne_of_lt (Nat.lt_of_lt_of_le (Heap.lt_size e) hT))]; exact n
  · rw [upd_ne (ne_of_none e hn)]; exact e
  · rw [upd_ne (ne_of_none e hn)]; exact e
  · rw [upd_ne (ne_of_none e hn), e]; simp
  · obtain ⟨o, es, ep, ho, r⟩ := hm
    exact ⟨o, es, ep, k _ o (fun z => (hf _ z).2.1 rfl) ho, r⟩
  · by_cases hb : b = T
    · subst hb
      rw [upd_same] at e
      cases e
      exact new
    · rw [upd_ne hb] at e
      refine (I.hok b u e).stay (fun c v hc q => k c v ?_ q) (fun c q => by rw [upd_ne (ne_of_none q hn)]; exact q) fun c xs q => by rw [upd_ne (ne_of_none q hn)]; exact q
      rcases hc with z | z
      · rw [z]; exact nit b u e
      · exact nit c _ z
end
section
variable {X : Cx}
end
section
variable {X : Cx} {tg : Expr}
end
section
variable {X : Cx} {tg : Expr}
end
section
variable {prog : Program} {w : World} {A : Around} {E : Value → Shared → Prop} {s : Shared}
end
section
variable {X : Cx} {pins : List (Addr × Obj)} {σ : St} {H : Hp} {s : Shared} {d : Addr} {o : Obj}
end
section
variable {P : Program} {w : World} {K : PySem.W.Frag} {tg : Expr} {d : Addr} {o : Obj} {es : Array DictEntry} {ep : Nat}
end
section
variable {X : Cx} {tg e : Expr} {td : TE} {apos cpos : Pos}
end
def Ite (K : PySem.W.Frag) (a : Addr) : It :=
  ⟨fun i H => ∃ (xs : List V) (x : V), SqL K H a xs ∧ xs[i]? = some x, fun i H v H' => ∃ T x, v = .ref T ∧ H T = none ∧ H' = upd H T (.tup [.int (i : Nat), x]) ∧ ∀ xs, SqL K H a xs → xs[i]? = some x, fun i H => ∃ xs : List V, SqL K H a xs ∧ xs.length ≤ i⟩
theorem turn_enum {P : Program} {w : World} {K : PySem.W.Frag} {elts : List Expr} {kk : Nat} {tpos : Pos} (a e it : Addr) :
    Turn P w K (.Tuple elts kk tpos) (Ite K a) [e, it] e (fun i h => (∃ old, IsEnum h e it ((i : Nat) : Int) old) ∧ h.IsListIter it a i ∧ e ≠ it) where
  mem := by simp
  obj := fun i h st b hb => by
    obtain ⟨⟨old, he⟩, ⟨o, ho, hc, hd⟩, _⟩ := st
    have e' : b = e ∨ b = it := by simpa using hb
    rcases e' with z | z
    · rw [z]; exact ⟨_, he, fun v q => nomatch q⟩
    · rw [z]; exact ⟨o, ho, fun v q => by rw [hd] at q; cases q⟩
  keep := fun i h h' st k => let ⟨⟨old, he⟩, hi, hne⟩ := st; ⟨⟨old, k e (by simp) _ he⟩, hi.at fun o q => k it (by simp) o q, hne⟩
  item := by
    intro X hP hw hK hc i pins s σ H E I hf st hg
    subst hP hw hK
    obtain ⟨⟨old, he⟩, hit, hne⟩ := st
    obtain ⟨xs, x, hq, hx⟩ := hg
    obtain ⟨its, rv, p, hz⟩ := I.list hq
    obtain ⟨u, hu, ru⟩ := rv.get hx
    have hel : e < s.heap.objs.size := Heap.lt_size he
    have hil : it < s.heap.objs.size := by obtain ⟨_, q, _⟩ := hit; exact Heap.lt_size q
    refine wpAny_pyNext_enum_item he hit p.isList (x := u) (by simpa using hu) hne fun h' ho hit' hT hsz hk => ?_
    refine ⟨_, rfl, wpAny_letOwnedTupleGo_enum (s := { s with heap := h', toks := s.toks + 1 }) ho fun h'' he' sb => ?_⟩
    have hT2 : h''.get? s.heap.objs.size = some { cls := .type "tuple", data := .seq #[.int i s.toks, u] } := (sb.2 _ (Nat.ne_of_gt hel)).trans hT
    have new : ObjOk X.prog X.w (upd H s.heap.objs.size (.tup [.int (i : Nat), x])) h'' s.heap.objs.size (.tup [.int (i : Nat), x]) :=
      ⟨by show 2 ≤ sizeLine; decide, [.int i s.toks, u], .cons ⟨_, rfl⟩ (.cons ru .nil), ⟨_, hT2, rfl, _, rfl⟩⟩
    have I1 : Inv X pins σ (upd H s.heap.objs.size (.tup [.int (i : Nat), x])) { s with heap := h'', toks := s.toks + 1 } :=
      I.turnedNew (ch := [e, it]) (fun b ob hb q => (sb.2 b (fun z => hb (by simp [z]))).trans (hk b ob (fun z => hb (by simp [z])) (fun z => hb (by simp [z])) q)) hf (Nat.le_refl _) new
    refine ⟨.ref s.heap.objs.size, _, I1, rfl, ⟨_, x, rfl, I.hok.fresh (Nat.le_refl _), rfl, fun ys hy => by rw [I.list_inj hy hq]; exact hx⟩, ⟨⟨u, ?_⟩, hit'.at fun o q => (sb.2 it (Ne.symm hne)).trans q, hne⟩, fun b hb => ?_⟩
    · have e1 : ((i + 1 : Nat) : Int) = (i : Int) + 1 := by omega
      rw [e1]; exact he'
    · have hb' : b < s.heap.objs.size := by
        have e' : b = e ∨ b = it := by simpa using hb
        rcases e' with z | z
        · rw [z]; exact hel
        · rw [z]; exact hil
      rw [upd_ne (Nat.ne_of_lt hb')]
      exact (hf b hb).1
  done := by
    intro X hP hw hK hc i pins s σ H E I hf st hg
    subst hP hw hK
    obtain ⟨⟨old, he⟩, hit, hne⟩ := st
    obtain ⟨xs, hq, hx⟩ := hg
    obtain ⟨its, rv, p, hz⟩ := I.list hq
    obtain ⟨f0, f1, f2, f3, f4, f5⟩ := hf it (by simp)
    have hl := rv.length
    exact wpAny_pyNext_enum_end (I.ok.hd hc) he hit p.isList (by simp; omega) fun h' eb => ⟨rfl, I.turned (t' := s.toks) (fun b o hb q => eb b o hb q) f0 f1 f3 f4 f5⟩
  self := fun A i s Q E st h => let ⟨⟨_, he⟩, _⟩ := st; wpAny_pyIter_enum he h
def iEnum (K : PySem.W.Frag) (ta : TA) : TI := fun σ H R => ta σ H fun vs H1 => ∃ a xs, vs = [.ref a] ∧ SqL K H1 a xs ∧ R (Ite K a) H1
theorem pi_enum {X : Cx} {e : Expr} {ta : TA} {p pos tpos : Pos} {elts : List Expr} {kk : Nat} (hg : Gl X "enumerate") (hm : X.mg "enumerate" = none) (ha : PA X [e] ta) (hs : starEach [e] X.env = [(false, eval e X.env)] := by rfl) :
    PI X (.Tuple elts kk tpos) (.Call (.Name "enumerate" p) [e] [] pos) (iEnum X.K ta) := by
  intro pins s σ H R I h
  refine Call_ (ld_blt I hg hm boot_enumerate (PyProof.Rows.callWith_type1 (thn (ha pos pins s σ H _ I h) fun us s1 ⟨vs, H1, I1, r1, q1⟩ => ?_) hs rfl))
  obtain ⟨a, xs, ex, hq, q⟩ := q1
  subst ex
  cases r1 with
  | cons r rr =>
    cases rr
    cases r
    obtain ⟨its, rv, p', hz⟩ := I1.list hq
    refine call_enumerate_list p'.isList fun h' he hit hsz hk => wpAny_pyIter_enum he ?_
    have I2 : Inv X pins σ H1 { s1 with heap := h' } := I1.kept (t' := s1.toks) hk
    refine ⟨s1.heap.objs.size + 1, [s1.heap.objs.size + 1, s1.heap.objs.size], _, _, H1, rfl, I2, turn_enum a (s1.heap.objs.size + 1) s1.heap.objs.size, ⟨⟨.none, he⟩, hit, Nat.succ_ne_self _⟩, fun b hb => ?_, q⟩
    have e' : b = s1.heap.objs.size + 1 ∨ b = s1.heap.objs.size := by simpa using hb
    have hle : s1.heap.objs.size ≤ b := by
      rcases e' with z | z
      · rw [z]; exact Nat.le_add_right _ _
      · rw [z]; exact Nat.le_refl _
    exact I1.fpOk hle (I1.hok.fresh hle)
theorem boot_zip5 : bootBuiltins "zip" = some (.type "zip") := by decide +kernel
def Itz (K : PySem.W.Frag) (a b : Addr) : It :=
  ⟨fun i H => ∃ (xs ys : List V) (x y : V), SqL K H a xs ∧ SqL K H b ys ∧ xs[i]? = some x ∧ ys[i]? = some y,
    fun i H v H' => ∃ T x y, v = .ref T ∧ H T = none ∧ H' = upd H T (.tup [x, y]) ∧ (∀ xs, SqL K H a xs → xs[i]? = some x) ∧ ∀ ys, SqL K H b ys → ys[i]? = some y,
    fun i H => ∃ xs ys : List V, SqL K H a xs ∧ SqL K H b ys ∧ (xs.length ≤ i ∨ ys.length ≤ i)⟩
theorem turn_zip {P : Program} {w : World} {K : PySem.W.Frag} {elts : List Expr} {kk : Nat} {tpos : Pos} {a b z TI TO i1 i2 : Addr} (D : ZipApart z TI TO i1 i2 a b) :
    Turn P w K (.Tuple elts kk tpos) (Itz K a b) [z, TI, TO, i1, i2] z (fun i h => IsZip h z TI TO .none ∧ IsPair h TI (.ref i1) (.ref i2) ∧ (∃ x y, IsPair h TO x y) ∧ h.IsListIter i1 a i ∧ h.IsListIter i2 b i) where
  mem := by simp
  obj := fun i h st c hc => by
    obtain ⟨hz, hTI, ⟨x, y, hTO⟩, ⟨o1, e1, _, d1⟩, ⟨o2, e2, _, d2⟩⟩ := st
    have e' : c = z ∨ c = TI ∨ c = TO ∨ c = i1 ∨ c = i2 := by simpa using hc
    rcases e' with q | q | q | q | q
    · rw [q]; exact ⟨_, hz, fun v q => nomatch q⟩
    · rw [q]; exact ⟨_, hTI, fun v q => nomatch q⟩
    · rw [q]; exact ⟨_, hTO, fun v q => nomatch q⟩
    · rw [q]; exact ⟨o1, e1, fun v q => by rw [d1] at q; cases q⟩
    · rw [q]; exact ⟨o2, e2, fun v q => by rw [d2] at q; cases q⟩
  keep := fun i h h' st k => by
    obtain ⟨hz, hTI, ⟨x, y, hTO⟩, h1, h2⟩ := st
    exact ⟨k z (by simp) _ hz, k TI (by simp) _ hTI, ⟨x, y, k TO (by simp) _ hTO⟩, h1.at fun o q => k i1 (by simp) o q, h2.at fun o q => k i2 (by simp) o q⟩
  item := by
    intro X hP hw hK hc i pins s σ H E I hf st hg
    subst hP hw hK
    obtain ⟨hz, hTI, ⟨x0, y0, hTO⟩, h1, h2⟩ := st
    obtain ⟨xs, ys, x, y, hqx, hqy, hx, hy⟩ := hg
    obtain ⟨its, rv, p, _⟩ := I.list hqx
    obtain ⟨its2, rv2, p2, _⟩ := I.list hqy
    obtain ⟨u, hu, ru⟩ := rv.get hx
    obtain ⟨u2, hu2, ru2⟩ := rv2.get hy
    have hzl : z < s.heap.objs.size := Heap.lt_size hz
    refine wpAny_pyNext_zip_item D hz hTI hTO h1 h2 p.isList p2.isList (x := u) (y := u2) (by simpa using hu) (by simpa using hu2) fun h' z' TO' h1' h2' hT hsz hk => ?_
    refine ⟨_, rfl, wpAny_letOwnedTupleGo_zip (s := { s with heap := h' }) z' fun h'' z'' sb => ?_⟩
    have hT2 : h''.get? s.heap.objs.size = some { cls := .type "tuple", data := .seq #[u, u2] } := (sb.2 _ (Nat.ne_of_gt hzl)).trans hT
    have new : ObjOk X.prog X.w (upd H s.heap.objs.size (.tup [x, y])) h'' s.heap.objs.size (.tup [x, y]) :=
      ⟨by show 2 ≤ sizeLine; decide, [u, u2], .cons ru (.cons ru2 .nil), ⟨_, hT2, rfl, _, rfl⟩⟩
    have I1 : Inv X pins σ (upd H s.heap.objs.size (.tup [x, y])) { s with heap := h'' } :=
      I.turnedNew (t' := s.toks) (ch := [z, TI, TO, i1, i2]) (fun c o hb q => (sb.2 c (fun q' => hb (by simp [q']))).trans (hk c o (fun q' => hb (by simp [q'])) (fun q' => hb (by simp [q'])) (fun q' => hb (by simp [q'])) (fun q' => hb (by simp [q'])) q)) hf (Nat.le_refl _) new
    refine ⟨.ref s.heap.objs.size, _, I1, rfl, ⟨_, x, y, rfl, I.hok.fresh (Nat.le_refl _), rfl, fun l hl => by rw [I.list_inj hl hqx]; exact hx, fun l hl => by rw [I.list_inj hl hqy]; exact hy⟩, ⟨z'', ?_, ⟨u, u2, ?_⟩, ?_, ?_⟩, fun c hcm => ?_⟩
    · exact (sb.2 _ D.TIz).trans (hk _ _ D.TIz D.TITO D.TIi1 D.TIi2 hTI)
    · exact (sb.2 _ D.TOz).trans TO'
    · exact h1'.at fun o q => (sb.2 _ D.i1z).trans q
    · exact h2'.at fun o q => (sb.2 _ D.i2z).trans q
    · have hlt : c < s.heap.objs.size := by
        have e' : c = z ∨ c = TI ∨ c = TO ∨ c = i1 ∨ c = i2 := by simpa using hcm
        rcases e' with q | q | q | q | q
        · rw [q]; exact hzl
        · rw [q]; exact Heap.lt_size hTI
        · rw [q]; exact Heap.lt_size hTO
        · rw [q]; obtain ⟨_, e1, _⟩ := h1; exact Heap.lt_size e1
        · rw [q]; obtain ⟨_, e2, _⟩ := h2; exact Heap.lt_size e2
      rw [upd_ne (Nat.ne_of_lt hlt)]
      exact (hf c hcm).1
  done := by
    intro X hP hw hK hc i pins s σ H E I hf st hg
    subst hP hw hK
    obtain ⟨hz, hTI, ⟨x0, y0, hTO⟩, h1, h2⟩ := st
    obtain ⟨xs, ys, hqx, hqy, hend⟩ := hg
    obtain ⟨its, rv, p, _⟩ := I.list hqx
    obtain ⟨its2, rv2, p2, _⟩ := I.list hqy
    have l1 := rv.length
    have l2 := rv2.length
    have he : its.toArray[i]? = none ∨ its2.toArray[i]? = none := by
      rcases hend with q | q
      · exact .inl (by simp; omega)
      · exact .inr (by simp; omega)
    exact wpAny_pyNext_zip_end (I.ok.hd hc) D hz hTI hTO h1 h2 p.isList p2.isList he fun h' hk => ⟨rfl, I.turnedL (t' := s.toks) (ch := [z, TI, TO, i1, i2]) (fun c o hb q =>
      hk c o (fun q' => hb (by simp [q'])) (fun q' => hb (by simp [q'])) (fun q' => hb (by simp [q'])) (fun q' => hb (by simp [q'])) q) hf⟩
  self := fun A i s Q E st h => wpAny_pyIter_zip st.1 h
def iZip (K : PySem.W.Frag) (ta : TA) : TI := fun σ H R => ta σ H fun vs H1 => ∃ a b xs ys, vs = [.ref a, .ref b] ∧ SqL K H1 a xs ∧ SqL K H1 b ys ∧ R (Itz K a b) H1
theorem pi_zip {X : Cx} {e e2 : Expr} {ta : TA} {p pos tpos : Pos} {elts : List Expr} {kk : Nat} (hg : Gl X "zip") (hm : X.mg "zip" = none) (ha : PA X [e, e2] ta)
    (hs : starEach [e, e2] X.env = (false, eval e X.env) :: starEach [e2] X.env := by rfl) (hpl : (backTo pos (starEach [e2] X.env)).any (·.1) = false := by rfl) :
    PI X (.Tuple elts kk tpos) (.Call (.Name "zip" p) [e, e2] [] pos) (iZip X.K ta) := by
  intro pins s σ H R I h
  refine Call_ (ld_blt I hg hm boot_zip5 (PyProof.Rows.callWith_type1 (thn (ha pos pins s σ H _ I h) fun us s1 ⟨vs, H1, I1, r1, q1⟩ => ?_) hs hpl))
  obtain ⟨a, b, xs, ys, ex, hqx, hqy, q⟩ := q1
  subst ex
  cases r1 with
  | cons r rr =>
    cases rr with
    | cons r' rr =>
      cases rr
      cases r
      cases r'
      obtain ⟨its, rv, p1, _⟩ := I1.list hqx
      obtain ⟨its2, rv2, p2, _⟩ := I1.list hqy
      have la : a < s1.heap.objs.size := p1.lt
      have lb : b < s1.heap.objs.size := p2.lt
      refine call_zip_2 p1.isList p2.isList fun h' hz hTI hTO h1 h2 hsz hk => wpAny_pyIter_zip hz ?_
      have I2 : Inv X pins σ H1 { s1 with heap := h' } := I1.kept (t' := s1.toks) hk
      refine ⟨s1.heap.objs.size + 4, [s1.heap.objs.size + 4, s1.heap.objs.size + 2, s1.heap.objs.size + 3, s1.heap.objs.size, s1.heap.objs.size + 1], _, _, H1, rfl, I2, turn_zip (PySem.W.ktu_apart s1.heap.objs.size a b la lb), ⟨hz, hTI, ⟨_, _, hTO⟩, h1, h2⟩, fun c hcm => ?_, q⟩
      have e' : c = s1.heap.objs.size + 4 ∨ c = s1.heap.objs.size + 2 ∨ c = s1.heap.objs.size + 3 ∨ c = s1.heap.objs.size ∨ c = s1.heap.objs.size + 1 := by simpa using hcm
      have hle : s1.heap.objs.size ≤ c := by
        rcases e' with z | z | z | z | z
        · rw [z]; exact Nat.le_add_right _ _
        · rw [z]; exact Nat.le_add_right _ _
        · rw [z]; exact Nat.le_add_right _ _
        · rw [z]; exact Nat.le_refl _
        · rw [z]; exact Nat.le_add_right _ _
      exact I1.fpOk hle (I1.hok.fresh hle)
end L2
section 
namespace Bits
open PySem PyProof.Rows
end Bits
end 
section 
namespace TL
open PySem PySem.Builtin PySem.Builtin.Str PySem.StrLaws
end TL
end 
namespace L2
open PySem PySem.Spec PyProof.Rows
section
variable {X : Cx} {pins : List (Addr × Obj)} {σ : St} {H : Hp} {s : Shared} {Q : VK}
end
section
variable {X : Cx}
end
section
variable {X : Cx} {o e : Expr} {to te : TE}
end
end L2
namespace L2
open PySem PySem.Spec PyProof.Rows
section
variable {X : Cx}
end
end L2
namespace Att
open PySem PySem.W PySem.Calls PyProof.Rows
section
variable {prog : Program} {w : World} {A : Around} {E : Value → Shared → Prop} {s : Shared} {K : Frag}
end
end Att
namespace L2
open PySem PySem.Spec PyProof.Rows
end L2
namespace L2
open PySem PySem.Spec PyProof.Rows
end L2
namespace L2
open PySem PySem.Spec PyProof.Rows
def inClass (s : Stmt) (j : Nat) : Stmt := match s with
  | .ClassDef _ _ _ body _ _ _ _ _ _ _ => body.getD j (.Pass ⟨0, 0, 0, 0⟩)
  | _ => .Pass ⟨0, 0, 0, 0⟩
def defArgs (s : Stmt) : Arguments := match s with
  | .FunctionDef _ a _ _ _ _ _ _ _ _ => a
  | _ => { posonlyargs := [], args := [], vararg := none, kwonlyargs := [], kw_defaults := [], kwarg := none, defaults := [] }
def defBody (s : Stmt) : List Stmt := match s with
  | .FunctionDef _ _ b _ _ _ _ _ _ _ => b
  | _ => []
def defScope (s : Stmt) : Scope := match s with
  | .FunctionDef _ _ _ _ _ _ sc _ _ _ => sc
  | _ => { kind := .function, names := [], isGenerator := false, isCoroutine := false }
abbrev CX0 : CXT := fun _ _ _ _ _ _ => False
abbrev E0 : XK := fun _ _ _ => False
theorem pass0 {X : Cx} : Passes CX0 X E0 := fun _ _ _ _ _ _ _ h => h.elim
structure Fun (K : PySem.W.Frag) (x qual : Str) (st : Stmt) (f : Addr) (fd : FuncData) : Prop where
  ex : ∃ (oc : Value) (od : Option Addr) (kV doc pm : Value) (an : Option Addr) (cdv ct : Value) (osl : Array (Option Value)),
    fd = PySem.W.fnOf x qual (defArgs st) (defBody st) (defScope st) .none kV doc pm an cdv ct ∧ K.lookup f = some ⟨oc, od, .func fd, osl⟩ ∧ PySem.W.codeIn K cdv qual = true
  kp : PySem.W.keepIn K (.ref f) = true
section
variable {P : Program} {w : World} {K : PySem.W.Frag} {mg : Str → Option Value} {base : Heap}
theorem Fun.ok {x qual : Str} {st : Stmt} {f : Addr} {fd : FuncData} {N ps : List Str} {k : Nat} {sp : Sp} (F : Fun K x qual st f fd) (S : FnScope N ps (defScope st)) (len : ∀ vs H Q E, sp vs H Q E → vs.length = ps.length)
    (hbody : ∀ (cdv : Value) (A : Around) (outer : List Env) (s : Shared) (H : Hp) (vs : List V) (Q : VK) (E : XK), Room k (A.deeper (envOfC qual (defScope st) s.heap.objs.size f cdv)) → sp vs H Q E →
      ∃ t, PSs (cxOf CX0 P w K mg base N qual (defScope st) f cdv A outer s H E).nox (defBody st) t ∧ t { nx := fun _ H' => Q .non H', rt := Q } (start N vs) H) : FnOk P w K mg base CX0 (k + 1) f fd ps sp := by
  obtain ⟨oc, od, kV, doc, pm, an, cdv, ct, osl, rfl, lk, hcd⟩ := F.ex
  refine fn_of lk hcd S len fun A outer s H vs Q E hr hsp => ?_
  obtain ⟨t, h, q⟩ := hbody cdv A outer s H vs Q E hr hsp
  exact ⟨t, h.nox, q⟩
theorem Fun.binds {x qual : Str} {st : Stmt} {f : Addr} {fd : FuncData} {ps : List Str} (F : Fun K x qual st f fd)
    (h : ∀ (kV doc pm : Value) (an : Option Addr) (cdv ct : Value) (us : List Value), us.length = ps.length → bindArgs (PySem.W.fnOf x qual (defArgs st) (defBody st) (defScope st) .none kV doc pm an cdv ct) ⟨us, []⟩ = pure (ps.zip us)) : Binds K fd ps [] := by
  obtain ⟨oc, od, kV, doc, pm, an, cdv, ct, osl, rfl, lk, hcd⟩ := F.ex
  exact .all (h kV doc pm an cdv ct)
theorem fun_mk {x qual : Str} {st : Stmt} {f : Addr} {oc : Value} {od an : Option Addr} {osl : Array (Option Value)} {kV doc pm cdv ct : Value} (l : K.lookup f = some ⟨oc, od, .func (PySem.W.fnOf x qual (defArgs st) (defBody st) (defScope st) .none kV doc pm an cdv ct), osl⟩)
    (c : PySem.W.codeIn K cdv qual = true) (k : PySem.W.keepIn K (.ref f) = true) : Fun K x qual st f (PySem.W.fnOf x qual (defArgs st) (defBody st) (defScope st) .none kV doc pm an cdv ct) := ⟨⟨oc, od, kV, doc, pm, an, cdv, ct, osl, rfl, l, c⟩, k⟩
end
theorem small1000 {n : Nat} (h : n ≤ 1000) : n < sizeLine := Nat.lt_of_le_of_lt h (by decide)
section
variable {X : Cx}
theorem pv (i : Nat) {x : Str} {pos : Pos} (hN : X.N[i]? = some x := by rfl) (hv : Vis X.env.scope x := by first | exact Or.inl rfl | exact Or.inr (Or.inl rfl) | exact Or.inr (Or.inr rfl)) (hd : (x == ("__debug__" : Str)) = false := by decide)
    (hcd : (x == ("__classdict__" : Str)) = false := by decide) : PE X (.Name x pos) (tVar i) := pe_var hN hv hd hcd
end
theorem iteF {A B : Prop} (h : B) : if false = true then A else B := by
  rw [if_neg Bool.false_ne_true]
  exact h
theorem iteT {A B : Prop} (h : A) : if true = true then A else B := by
  rw [if_pos rfl]
  exact h
theorem ite2 {c A B : Prop} [Decidable c] (h1 : c → A) (h2 : ¬ c → B) : if c then A else B := by
  by_cases h : c
  · rw [if_pos h]
    exact h1 h
  · rw [if_neg h]
    exact h2 h
def Same (H H' : Hp) : Prop := ∀ b o, H b = some o → H' b = some o
theorem Same.refl (H : Hp) : Same H H := fun _ _ h => h
theorem Same.trans {H H1 H2 : Hp} (a : Same H H1) (b : Same H1 H2) : Same H H2 := fun c o h => b c o (a c o h)
theorem Same.free {H H' : Hp} (e : Same H H') {l : Addr} (h : H' l = Option.none) : H l = Option.none := by
  cases q : H l with
  | none => rfl
  | some o =>
    rw [e l o q] at h
    cases h
theorem Same.seq {K : PySem.W.Frag} {H H' : Hp} {a : Addr} {xs : List V} (e : Same H H') (h : SqL K H a xs) : SqL K H' a xs := by
  rcases h with (h | ⟨o, h⟩) | h
  · exact .inl (.inl (e _ _ h))
  · exact .inl (.inr ⟨o, e _ _ h⟩)
  · exact .inr h
section
variable {κ : Type} [DecidableEq κ]
end
theorem Same.made {H H1 : Hp} {x dx C : Addr} (nx : H x = Option.none) (nd : H dx = Option.none) (k : ∀ b o, (upd (upd H dx (.own x)) x (.ins C dx [])) b = some o → b ≠ x → H1 b = some o) : Same H H1 := fun b o e =>
  k b o (by rw [upd_ne (ne_of_none e nx), upd_ne (ne_of_none e nd)]; exact e) (ne_of_none e nx)
end L2
section
namespace L2
open PySem PySem.Spec PyProof.Rows
open PySem.W (WData Codec OpenSpec Well WellAll ReadsW ReadsAllW)
mutual
inductive Dw (K : PySem.W.Frag) (H : Hp) : V → WData → Prop
  | non : Dw K H .non .none
  | bl (b : Bool) : Dw K H (.bl b) (.bool b)
  | int (i : Int) : Dw K H (.int i) (.int i)
  | str (x : Str) : Dw K H (.str x) (.str x)
  | byt (b : Array UInt8) : Dw K H (.byt b) (.bytes b.toList)
  | lst {a : Addr} {xs : List V} {ds : List WData} : SqL K H a xs → DwAll K H xs ds → Dw K H (.ref a) (.list ds)
  | tup {a : Addr} {xs : List V} {ds : List WData} : SqT K H a xs → DwAll K H xs ds → Dw K H (.ref a) (.tuple ds)
inductive DwAll (K : PySem.W.Frag) (H : Hp) : List V → List WData → Prop
  | nil : DwAll K H [] []
  | cons {v : V} {vs : List V} {d : WData} {ds : List WData} : Dw K H v d → DwAll K H vs ds → DwAll K H (v :: vs) (d :: ds)
end
theorem dw_ints {K : PySem.W.Frag} {H : Hp} : ∀ ns : List Int, DwAll K H (ns.map V.int) (ns.map WData.int)
  | [] => .nil
  | n :: r => .cons (.int n) (dw_ints r)
theorem ints_dw {K : PySem.W.Frag} {H : Hp} : ∀ (ns : List Int) (xs : List V), DwAll K H xs (ns.map WData.int) → xs = ns.map V.int
  | [], xs, h => by
    cases h
    rfl
  | n :: r, xs, h => by
    cases h with
    | cons h1 h2 =>
      cases h1
      rw [ints_dw r _ h2] <;> rfl
section
variable {P : Program} {w : World} {K : PySem.W.Frag} {H : Hp} {h : Heap} {R : PySem.W.WRecords} {cl : Str → Option Addr}
theorem sqL_at {a : Addr} {xs : List V} (hok : HOk P w H h) (KX : K.In h) (q : SqL K H a xs) : ∃ (its : List Value) (o : Obj) (n : Nat), Vals xs its ∧ h.get? a = some o ∧ o.cls = .type "list" ∧ o.data = .seq its.toArray n := by
  rcases q with q | ⟨o, its, n, e, hc, _, hd, _, hv⟩
  · obtain ⟨_, its, n, hv, e⟩ := (show ObjOk P w H h a (.lst xs) from q.ok hok)
    exact ⟨its, _, n, hv, e, rfl, rfl⟩
  · exact ⟨its.toList, o, n, hv, KX _ _ e, hc, by simp [hd]⟩
theorem sqT_at {a : Addr} {xs : List V} (hok : HOk P w H h) (KX : K.In h) (q : SqT K H a xs) : ∃ (its : List Value) (o : Obj) (n : Nat), Vals xs its ∧ h.get? a = some o ∧ o.cls = .type "tuple" ∧ o.data = .seq its.toArray n := by
  rcases q with q | ⟨o, its, n, e, hc, hd, _, hv⟩
  · obtain ⟨_, its, hv, o, e, hc, n, hd⟩ := (show ObjOk P w H h a (.tup xs) from q.ok hok)
    exact ⟨its, o, n, hv, e, hc, hd⟩
  · exact ⟨its.toList, o, n, hv, KX _ _ e, hc, by simp [hd]⟩
mutual
theorem Dw.reads (hok : HOk P w H h) (KX : K.In h) : ∀ (d : WData) (v : V) (u : Value), Dw K H v d → RelV v u → ∃ as, ReadsW R cl h u d as
  | .none, _, _, x, r => by
    cases x
    cases r
    exact ⟨_, ReadsW.none⟩
  | .bool b, _, _, x, r => by
    cases x
    cases r
    exact ⟨_, ReadsW.bool b⟩
  | .int i, _, _, x, r => by
    cases x
    obtain ⟨t, rfl⟩ := r
    exact ⟨_, ReadsW.int i t⟩
  | .str s, _, _, x, r => by
    cases x
    obtain ⟨t, rfl⟩ := r
    exact ⟨_, ReadsW.str s t⟩
  | .bytes b, _, _, x, r => by
    cases x
    obtain ⟨t, rfl⟩ := r
    exact ⟨_, ReadsW.bytes _ t⟩
  | .list ds, _, _, x, r => by
    cases x with
    | lst hs ha =>
      cases r
      obtain ⟨its, o, n, rv, ho, hc, hd⟩ := sqL_at hok KX hs
      obtain ⟨as, hr⟩ := Dw.readsAll hok KX ds _ its ha rv
      exact ⟨_, ReadsW.list ho hc hd hr⟩
  | .tuple ds, _, _, x, r => by
    cases x with
    | tup hs ha =>
      cases r
      obtain ⟨its, o, n, rv, ho, hc, hd⟩ := sqT_at hok KX hs
      obtain ⟨as, hr⟩ := Dw.readsAll hok KX ds _ its ha rv
      exact ⟨_, ReadsW.tuple ho hc hd hr⟩
  | .float _, _, _, x, _ => by cases x
  | .dict _, _, _, x, _ => by cases x
  | .bytearray _, _, _, x, _ => by cases x
  | .set _, _, _, x, _ => by cases x
  | .frozenset _, _, _, x, _ => by cases x
  | .obj _ _, _, _, x, _ => by cases x
theorem Dw.readsAll (hok : HOk P w H h) (KX : K.In h) : ∀ (ds : List WData) (vs : List V) (us : List Value), DwAll K H vs ds → Vals vs us → ∃ as, ReadsAllW R cl h us ds as
  | [], _, _, x, r => by
    cases x
    cases r
    exact ⟨_, ReadsAllW.nil⟩
  | d :: ds, _, _, x, r => by
    cases x with
    | cons h1 h2 =>
      cases r with
      | cons r1 r2 =>
        obtain ⟨as, q1⟩ := Dw.reads hok KX d _ _ h1 r1
        obtain ⟨bs, q2⟩ := Dw.readsAll hok KX ds _ _ h2 r2
        exact ⟨_, ReadsAllW.cons q1 q2⟩
end
end
mutual
def plW : WData → Bool
  | .none => true
  | .bool _ => true
  | .int _ => true
  | .str _ => true
  | .bytes _ => true
  | .list xs => plWs xs
  | .tuple xs => plWs xs
  | _ => false
def plWs : List WData → Bool
  | [] => true
  | x :: r => plW x && plWs r
end
theorem plWs_map {α : Type} {f : α → WData} (h : ∀ a, plW (f a) = true) : ∀ l : List α, plWs (l.map f) = true
  | [] => rfl
  | x :: r => by
    show (plW (f x) && plWs (r.map f)) = true
    rw [h x, plWs_map h r] <;> rfl
theorem pl_enc : ∀ (c : Codec) (a : c.denote), plW (c.enc a) = true
  | .unit, _ => rfl
  | .bool, _ => rfl
  | .int _ _, _ => rfl
  | .nat _ _, _ => rfl
  | .u8, _ => rfl
  | .bytes _ _, _ => rfl
  | .text _ _ _ _, _ => rfl
  | .list _ _ c, a => plWs_map (fun x => pl_enc c x) a
  | .pair c d, a => by
    show (plW (c.enc a.1) && (plW (d.enc a.2) && true)) = true
    rw [pl_enc c a.1, pl_enc d a.2] <;> rfl
  | .triple c d e, a => by
    show (plW (c.enc a.1) && (plW (d.enc a.2.1) && (plW (e.enc a.2.2) && true))) = true
    rw [pl_enc c a.1, pl_enc d a.2.1, pl_enc e a.2.2] <;> rfl
  | .option c, none => rfl
  | .option c, some x => pl_enc c x
theorem pl_encAll : ∀ (cs : List Codec) (a : Codec.denoteAll cs), plWs (Codec.encAll cs a) = true
  | [], _ => rfl
  | c :: cs, a => by
    show (plW (c.enc a.1) && plWs (Codec.encAll cs a.2)) = true
    rw [pl_enc c a.1, pl_encAll cs a.2] <;> rfl
theorem weight_mem : ∀ {xs : List WData} {d : WData}, d ∈ xs → d.weight ≤ WData.weightAll xs
  | [], d, h => absurd h (by simp)
  | x :: r, d, h => by
    show d.weight ≤ x.weight + 1 + WData.weightAll r
    rcases List.mem_cons.mp h with e | m
    · rw [e]
      omega
    · have z := weight_mem m
      omega
def toV : Value → V
  | .none => .non
  | .bool b => .bl b
  | .int i _ => .int i
  | .str x _ => .str x
  | .bytes b _ => .byt b
  | .ref a => .ref a
  | _ => .non
def OkU (A : List Addr) : Value → Prop
  | .none => True
  | .bool _ => True
  | .int _ _ => True
  | .str _ _ => True
  | .bytes _ _ => True
  | .ref a => a ∈ A
  | _ => False
theorem OkU.mono {A B : List Addr} (h : ∀ a ∈ A, a ∈ B) : ∀ {u : Value}, OkU A u → OkU B u := fun {u} x => by
  cases u with
  | ref a => exact h a x
  | none => trivial
  | bool b => trivial
  | int i t => trivial
  | str s t => trivial
  | bytes b t => trivial
  | _ => exact False.elim x
theorem relV_toV {A : List Addr} {u : Value} (x : OkU A u) : RelV (toV u) u := by
  cases u with
  | ref a => rfl
  | none => rfl
  | bool b => rfl
  | int i t => exact ⟨t, rfl⟩
  | str s t => exact ⟨t, rfl⟩
  | bytes b t => exact ⟨t, rfl⟩
  | _ => exact False.elim x
theorem vals_toV {A : List Addr} : ∀ {vs : List Value}, (∀ u ∈ vs, OkU A u) → Vals (vs.map toV) vs
  | [], _ => .nil
  | u :: r, h => .cons (relV_toV (h u (List.mem_cons_self ..))) (vals_toV fun x hx => h x (List.mem_cons_of_mem _ hx))
def ArgOb (h : Heap) (A : List Addr) (a : Addr) : Prop := ∃ vs : List Value, vs.length ≤ sizeLine ∧ (∀ u ∈ vs, OkU A u) ∧
  (h.get? a = some { cls := .type "list", data := .seq vs.toArray } ∨ h.get? a = some { cls := .type "tuple", data := .seq vs.toArray })
theorem ArgOb.mono {h : Heap} {A B : List Addr} {a : Addr} (k : ∀ a ∈ A, a ∈ B) (x : ArgOb h A a) : ArgOb h B a := by
  obtain ⟨vs, h1, h2, h3⟩ := x
  exact ⟨vs, h1, fun u hu => (h2 u hu).mono k, h3⟩
theorem wellAll_len {P : Params} {h : Heap} : ∀ {vs : List Value} {ds : List WData}, WellAll P h vs ds → vs.length = ds.length
  | _, _, .nil => rfl
  | _, _, .cons _ b => by
    show _ + 1 = _ + 1
    rw [wellAll_len b]
theorem well_list {P : Params} {h : Heap} {v : Value} {ds : List WData} (x : Well P h v (.list ds)) : ∃ (a : Addr) (vs : List Value), v = .ref a ∧ h.get? a = some { cls := .type "list", data := .seq vs.toArray } ∧ WellAll P h vs ds := by
  cases x with
  | list ho hall => exact ⟨_, _, rfl, ho, hall⟩
theorem well_tuple {P : Params} {h : Heap} {v : Value} {ds : List WData} (x : Well P h v (.tuple ds)) : ∃ (a : Addr) (vs : List Value), v = .ref a ∧ h.get? a = some { cls := .type "tuple", data := .seq vs.toArray } ∧ WellAll P h vs ds := by
  cases x with
  | tuple ho hall => exact ⟨_, _, rfl, ho, hall⟩
theorem well_cons {P : Params} {h : Heap} {us : List Value} {d : WData} {ds : List WData} (x : WellAll P h us (d :: ds)) : ∃ (v : Value) (vs : List Value), us = v :: vs ∧ Well P h v d ∧ WellAll P h vs ds := by
  cases x with
  | cons a b => exact ⟨_, _, rfl, a, b⟩
theorem line_of {n : Nat} (h : n ≤ 1048576) : n ≤ sizeLine := Nat.le_trans h (by decide)
section
variable {P : Params} {h : Heap}
mutual
theorem area_one : ∀ (d : WData) (v : Value), Well P h v d → plW d = true → d.weight ≤ 1048576 → ∃ A : List Addr, OkU A v ∧ ∀ a ∈ A, ArgOb h A a
  | .none, _, x, _, _ => by
    cases x
    exact ⟨[], trivial, fun a m => absurd m (by simp)⟩
  | .bool b, _, x, _, _ => by
    cases x
    exact ⟨[], trivial, fun a m => absurd m (by simp)⟩
  | .int i, _, x, _, _ => by
    cases x
    exact ⟨[], trivial, fun a m => absurd m (by simp)⟩
  | .str s, _, x, _, _ => by
    cases x
    exact ⟨[], trivial, fun a m => absurd m (by simp)⟩
  | .bytes b, _, x, _, _ => by
    cases x
    exact ⟨[], trivial, fun a m => absurd m (by simp)⟩
  | .list ds, _, x, p, z => by
    obtain ⟨a, vs, rfl, ho, hall⟩ := well_list x
    have z2 : WData.weightAll ds ≤ 1048576 := z
    obtain ⟨A, h1, h2⟩ := area_all ds _ hall p fun d hd => Nat.le_trans (weight_mem hd) z2
    have k : ∀ b ∈ A, b ∈ a :: A := fun b hb => List.mem_cons_of_mem _ hb
    refine ⟨a :: A, List.mem_cons_self .., fun b hb => ?_⟩
    rcases List.mem_cons.mp hb with e | m
    · rw [e]
      exact ⟨vs, line_of (by rw [wellAll_len hall]; exact Nat.le_trans (PySem.W.length_le_weightAllW ds) z2), fun u hu => (h1 u hu).mono k, .inl ho⟩
    · exact (h2 b m).mono k
  | .tuple ds, _, x, p, z => by
    obtain ⟨a, vs, rfl, ho, hall⟩ := well_tuple x
    have z2 : WData.weightAll ds ≤ 1048576 := z
    obtain ⟨A, h1, h2⟩ := area_all ds _ hall p fun d hd => Nat.le_trans (weight_mem hd) z2
    have k : ∀ b ∈ A, b ∈ a :: A := fun b hb => List.mem_cons_of_mem _ hb
    refine ⟨a :: A, List.mem_cons_self .., fun b hb => ?_⟩
    rcases List.mem_cons.mp hb with e | m
    · rw [e]
      exact ⟨vs, line_of (by rw [wellAll_len hall]; exact Nat.le_trans (PySem.W.length_le_weightAllW ds) z2), fun u hu => (h1 u hu).mono k, .inr ho⟩
    · exact (h2 b m).mono k
  | .float _, _, _, p, _ => Bool.noConfusion (show false = true from p)
  | .dict _, _, _, p, _ => Bool.noConfusion (show false = true from p)
  | .bytearray _, _, _, p, _ => Bool.noConfusion (show false = true from p)
  | .set _, _, _, p, _ => Bool.noConfusion (show false = true from p)
  | .frozenset _, _, _, p, _ => Bool.noConfusion (show false = true from p)
  | .obj _ _, _, _, p, _ => Bool.noConfusion (show false = true from p)
theorem area_all : ∀ (ds : List WData) (vs : List Value), WellAll P h vs ds → plWs ds = true → (∀ d ∈ ds, d.weight ≤ 1048576) → ∃ A : List Addr, (∀ u ∈ vs, OkU A u) ∧ ∀ a ∈ A, ArgOb h A a
  | [], _, x, _, _ => by
    cases x
    exact ⟨[], fun u m => absurd m (by simp), fun a m => absurd m (by simp)⟩
  | d :: ds, _, x, p, z => by
    obtain ⟨v, vs, rfl, x1, x2⟩ := well_cons x
    have q : plW d = true ∧ plWs ds = true := Bool.and_eq_true_iff.mp p
    obtain ⟨A, a1, a2⟩ := area_one d v x1 q.1 (z d (List.mem_cons_self ..))
    obtain ⟨B, b1, b2⟩ := area_all ds vs x2 q.2 fun e he => z e (List.mem_cons_of_mem _ he)
    have kA : ∀ b ∈ A, b ∈ A ++ B := fun b hb => List.mem_append.mpr (.inl hb)
    have kB : ∀ b ∈ B, b ∈ A ++ B := fun b hb => List.mem_append.mpr (.inr hb)
    refine ⟨A ++ B, fun u hu => ?_, fun b hb => ?_⟩
    · rcases List.mem_cons.mp hu with e | m
      · rw [e]
        exact a1.mono kA
      · exact (b1 u m).mono kB
    · rcases List.mem_append.mp hb with m | m
      · exact (a2 b m).mono kA
      · exact (b2 b m).mono kB
end
end
def hoOf (o : Obj) : Option HO := match o.data with
  | .seq vs _ => if (o.cls == Value.type "list") = true then some (.frz o (.lst (vs.toList.map toV))) else some (.frz o (.tup (vs.toList.map toV)))
  | _ => none
def argH (K : PySem.W.Frag) (h : Heap) (A : List Addr) : Hp := fun b => if b ∈ A then (if (K.lookup b).isNone = true then (h.get? b).bind hoOf else none) else none
def OnlyF (H : Hp) : Prop := ∀ b, H b = none ∨ ∃ o u, H b = some (.frz o u)
theorem hoOf_lst (vs : List Value) : hoOf { cls := .type "list", data := .seq vs.toArray } = some (.frz { cls := .type "list", data := .seq vs.toArray } (.lst (vs.map toV))) := by
  show (if (Value.type "list" == Value.type "list") = true then some (HO.frz { cls := .type "list", data := .seq vs.toArray } (.lst (vs.toArray.toList.map toV))) else some (HO.frz { cls := .type "list", data := .seq vs.toArray } (.tup (vs.toArray.toList.map toV)))) = _
  rw [if_pos (beq_self_eq_true _)]
theorem hoOf_tup (vs : List Value) : hoOf { cls := .type "tuple", data := .seq vs.toArray } = some (.frz { cls := .type "tuple", data := .seq vs.toArray } (.tup (vs.map toV))) := by
  show (if (Value.type "tuple" == Value.type "list") = true then some (HO.frz { cls := .type "tuple", data := .seq vs.toArray } (.lst (vs.toArray.toList.map toV))) else some (HO.frz { cls := .type "tuple", data := .seq vs.toArray } (.tup (vs.toArray.toList.map toV)))) = _
  rw [if_neg (by decide)]
section
variable {P : Program} {w : World} {K : PySem.W.Frag} {h : Heap} {A : List Addr}
theorem argH_at {b : Addr} {o : Obj} (hb : b ∈ A) (hk : K.lookup b = none) (e : h.get? b = some o) : argH K h A b = hoOf o := by
  unfold argH
  rw [if_pos hb, hk, if_pos (show (none : Option Obj).isNone = true from rfl), e] <;> rfl
theorem of_argH {b : Addr} {u : HO} (q : argH K h A b = some u) : b ∈ A ∧ K.lookup b = none := by
  unfold argH at q
  by_cases hb : b ∈ A
  · rw [if_pos hb] at q
    cases hk : K.lookup b with
    | none => exact ⟨hb, rfl⟩
    | some o =>
      rw [hk, if_neg (by simp)] at q
      cases q
  · rw [if_neg hb] at q
    cases q
theorem argH_is (ar : ∀ a ∈ A, ArgOb h A a) {b : Addr} {u : HO} (q : argH K h A b = some u) : K.lookup b = none ∧ ∃ vs : List Value, vs.length ≤ sizeLine ∧ (∀ u ∈ vs, OkU A u) ∧
    ((h.get? b = some { cls := .type "list", data := .seq vs.toArray } ∧ u = .frz { cls := .type "list", data := .seq vs.toArray } (.lst (vs.map toV))) ∨
     (h.get? b = some { cls := .type "tuple", data := .seq vs.toArray } ∧ u = .frz { cls := .type "tuple", data := .seq vs.toArray } (.tup (vs.map toV)))) := by
  obtain ⟨hb, hk⟩ := of_argH q
  obtain ⟨vs, h1, h2, h3⟩ := ar b hb
  refine ⟨hk, vs, h1, h2, ?_⟩
  rcases h3 with e | e
  · rw [argH_at hb hk e, hoOf_lst] at q
    exact .inl ⟨e, (Option.some.inj q).symm⟩
  · rw [argH_at hb hk e, hoOf_tup] at q
    exact .inr ⟨e, (Option.some.inj q).symm⟩
theorem argH_only (ar : ∀ a ∈ A, ArgOb h A a) : OnlyF (argH K h A) := fun b => by
  cases q : argH K h A b with
  | none => exact .inl rfl
  | some u =>
    obtain ⟨_, vs, _, _, ⟨_, e⟩ | ⟨_, e⟩⟩ := argH_is ar q
    · exact .inr ⟨_, _, by rw [e]⟩
    · exact .inr ⟨_, _, by rw [e]⟩
theorem argH_ok (ar : ∀ a ∈ A, ArgOb h A a) : HOk P w (argH K h A) h := fun b u q => by
  obtain ⟨_, vs, h1, h2, ⟨e, rfl⟩ | ⟨e, rfl⟩⟩ := argH_is ar q
  · exact ⟨e, by rw [List.length_map]; exact h1, vs, _, vals_toV h2, e⟩
  · exact ⟨e, by rw [List.length_map]; exact h1, vs, vals_toV h2, _, e, rfl, _, rfl⟩
theorem seq_inj {c c' : Value} {vs us : List Value} (e : (some { cls := c, data := .seq vs.toArray } : Option Obj) = some { cls := c', data := .seq us.toArray }) : c = c' ∧ vs = us := by
  have e1 := Option.some.inj e
  have e2 : c = c' := congrArg Obj.cls e1
  have e3 : Data.seq vs.toArray = Data.seq us.toArray := congrArg Obj.data e1
  injection e3 with e4
  refine ⟨e2, ?_⟩
  have e5 := congrArg Array.toList e4
  simpa using e5
theorem argL (KX : K.In h) (ar : ∀ a ∈ A, ArgOb h A a) {a : Addr} {vs : List Value} (ha : a ∈ A) (e : h.get? a = some { cls := .type "list", data := .seq vs.toArray }) : (∀ u ∈ vs, OkU A u) ∧ SqL K (argH K h A) a (vs.map toV) := by
  obtain ⟨us, h1, h2, h3⟩ := ar a ha
  have hu : us = vs := by
    rcases h3 with q | q
    · rw [e] at q
      exact (seq_inj q).2.symm
    · rw [e] at q
      exact absurd (Value.type.inj (seq_inj q).1) (by decide)
  subst hu
  refine ⟨h2, ?_⟩
  cases hk : K.lookup a with
  | none => exact .inl (.inr ⟨_, by rw [argH_at ha hk e, hoOf_lst]⟩)
  | some o =>
    have e2 := KX a o hk
    rw [e] at e2
    obtain rfl := Option.some.inj e2
    exact .inr ⟨_, us.toArray, _, hk, rfl, rfl, rfl, by rw [List.size_toArray]; exact h1, by simpa using vals_toV h2⟩
theorem argT (KX : K.In h) (ar : ∀ a ∈ A, ArgOb h A a) {a : Addr} {vs : List Value} (ha : a ∈ A) (e : h.get? a = some { cls := .type "tuple", data := .seq vs.toArray }) : (∀ u ∈ vs, OkU A u) ∧ SqT K (argH K h A) a (vs.map toV) := by
  obtain ⟨us, h1, h2, h3⟩ := ar a ha
  have hu : us = vs := by
    rcases h3 with q | q
    · rw [e] at q
      exact absurd (Value.type.inj (seq_inj q).1) (by decide)
    · rw [e] at q
      exact (seq_inj q).2.symm
  subst hu
  refine ⟨h2, ?_⟩
  cases hk : K.lookup a with
  | none => exact .inl (.inr ⟨_, by rw [argH_at ha hk e, hoOf_tup]⟩)
  | some o =>
    have e2 := KX a o hk
    rw [e] at e2
    obtain rfl := Option.some.inj e2
    exact .inr ⟨_, us.toArray, _, hk, rfl, rfl, by rw [List.size_toArray]; exact h1, by simpa using vals_toV h2⟩
mutual
theorem dw_one {Pm : Params} (KX : K.In h) (ar : ∀ a ∈ A, ArgOb h A a) : ∀ (d : WData) (v : Value), Well Pm h v d → plW d = true → OkU A v → Dw K (argH K h A) (toV v) d
  | .none, _, x, _, _ => by
    cases x
    exact .non
  | .bool b, _, x, _, _ => by
    cases x
    exact .bl b
  | .int i, _, x, _, _ => by
    cases x
    exact .int i
  | .str s, _, x, _, _ => by
    cases x
    exact .str s
  | .bytes b, _, x, _, _ => by
    cases x
    have z := Dw.byt (K := K) (H := argH K h A) b.toArray
    exact z
  | .list ds, _, x, p, hu => by
    obtain ⟨a, vs, rfl, ho, hall⟩ := well_list x
    obtain ⟨h2, hs⟩ := argL KX ar hu ho
    exact .lst hs (dw_all KX ar ds _ hall p h2)
  | .tuple ds, _, x, p, hu => by
    obtain ⟨a, vs, rfl, ho, hall⟩ := well_tuple x
    obtain ⟨h2, hs⟩ := argT KX ar hu ho
    exact .tup hs (dw_all KX ar ds _ hall p h2)
  | .float _, _, _, p, _ => Bool.noConfusion (show false = true from p)
  | .dict _, _, _, p, _ => Bool.noConfusion (show false = true from p)
  | .bytearray _, _, _, p, _ => Bool.noConfusion (show false = true from p)
  | .set _, _, _, p, _ => Bool.noConfusion (show false = true from p)
  | .frozenset _, _, _, p, _ => Bool.noConfusion (show false = true from p)
  | .obj _ _, _, _, p, _ => Bool.noConfusion (show false = true from p)
theorem dw_all {Pm : Params} (KX : K.In h) (ar : ∀ a ∈ A, ArgOb h A a) : ∀ (ds : List WData) (vs : List Value), WellAll Pm h vs ds → plWs ds = true → (∀ u ∈ vs, OkU A u) → DwAll K (argH K h A) (vs.map toV) ds
  | [], _, x, _, _ => by
    cases x
    exact .nil
  | d :: ds, _, x, p, hu => by
    obtain ⟨v, vs, rfl, x1, x2⟩ := well_cons x
    have q : plW d = true ∧ plWs ds = true := Bool.and_eq_true_iff.mp p
    exact .cons (dw_one KX ar d v x1 q.1 (hu _ (List.mem_cons_self ..))) (dw_all KX ar ds vs x2 q.2 fun u m => hu u (List.mem_cons_of_mem _ m))
end
end
theorem spec_call {P : Program} {w : World} {K : PySem.W.Frag} {mg mb : Str → Option Value} {CX : CXT} {k : Nat} {fa : Addr} {fd : FuncData} {ps : List Str} {sp : Sp} {s₁ : Shared} {vals : List Value} {ds : List WData} {R : PySem.W.WRecords} {cl : Str → Option Addr} {d0 : WData}
    (KX : K.In s₁.heap) (hns : s₁.heap.Ns mainGlobals mg) (hb : s₁.heap.Ns builtinsNs mb) (hbb : ∀ x : Str, x ≠ "__name__" → mb x = bootBuiltins x) (hlim : s₁.heap.NoLimit) (hg : s₁.gens = #[])
    (hwl : WellAll w.params s₁.heap vals ds) (hpl : plWs ds = true) (hwt : ∀ d ∈ ds, d.weight ≤ 1048576) (hr : Room k callerA)
    (F : ∀ base : Heap, K.In base → base.Ns mainGlobals mg → FnOk P w K mg base CX k fa fd ps sp) (hbind : ∀ (s : Shared) (us : List Value), us.length = ps.length → BindsTo s fd ⟨us, []⟩ (ps.zip us)) (hlen : ds.length = ps.length)
    (hsp : ∀ (H : Hp) (xs : List V), OnlyF H → DwAll K H xs ds → sp xs H (fun v H' => Dw K H' v d0) fun _ _ _ => False)
    (hCX : ∀ H e s', CX [] H s₁ (fun _ _ _ => False) e s' → False) :
    codeAny (model P w) callerA (.call (.ref fa) ⟨vals, []⟩) (fun r s' => ∃ u as, r = .ok (.ret u) ∧ ReadsW R cl s'.heap u d0 as ∧ OldK s₁.heap s'.heap ∧ s'.os = s₁.os ∧ AllBare s'.gens) s₁ := by
  obtain ⟨A, ho, ar⟩ := area_all ds vals hwl hpl hwt
  have hO : OnlyF (argH K s₁.heap A) := argH_only ar
  have hok : HOk P w (argH K s₁.heap A) s₁.heap := argH_ok ar
  have hS := dw_all KX ar ds vals hwl hpl ho
  have hV := vals_toV ho
  have hK : ∀ b u, argH K s₁.heap A b = some u → K.lookup b = none := fun b u q => (argH_is ar q).1
  have noA : ∀ {b : Addr} {o : Obj} {es : Array DictEntry} {ep : Nat}, s₁.heap.get? b = some o → o.data = .dict es ep → argH K s₁.heap A b = none := fun {b o es ep} e d => by
    cases q : argH K s₁.heap A b with
    | none => rfl
    | some u =>
      obtain ⟨_, vs, _, _, ⟨e2, _⟩ | ⟨e2, _⟩⟩ := argH_is ar q
      · rw [e2] at e
        cases e
        have d' : Data.seq vs.toArray _ = Data.dict es ep := d
        cases d'
      · rw [e2] at e
        cases e
        have d' : Data.seq vs.toArray _ = Data.dict es ep := d
        cases d'
  generalize argH K s₁.heap A = H at hO hok hS hK noA
  have base_of : ∀ {b : Addr} {o : Obj}, s₁.heap.get? b = some o → H b = none → (hidT s₁.heap H).get? b = some o := fun e n => hidT_get e n
  have nsK : ∀ {b : Addr} {m : Str → Option Value}, s₁.heap.Ns b m → (hidT s₁.heap H).Ns b m := fun {b m} ⟨o, es, ep, e, d, r⟩ => ⟨o, es, ep, base_of e (noA e d), d, r⟩
  have nK : ∀ b o, K.lookup b = some o → H b = none := fun b o e => by
    cases q : H b with
    | none => rfl
    | some u =>
      rw [hK b u q] at e
      cases e
  have hKb : K.In (hidT s₁.heap H) := fun b o e => base_of (KX b o e) (nK b o e)
  have hM : Mod K mg (hidT s₁.heap H) := ⟨hKb, nsK hns, ⟨mb, nsK hb, hbb⟩, let ⟨mc, h1, h2⟩ := hlim; ⟨mc, nsK h1, h2⟩⟩
  have e0 : Env0 P w K mg (hidT s₁.heap H) callerA [] s₁ H := ⟨rfl, hM, fun b o e => of_hidT e, Nat.le_of_eq (hidT_size _ _), trivial, fun b hb => absurd (show b ∈ ([] : List Addr) from hb) (by simp), hok, .of_eq hg⟩
  have hl : vals.length = ps.length := by rw [wellAll_len hwl]; exact hlen
  refine codeAny_mono ((F _ hKb (nsK hns)).run callerA [] s₁ H ⟨vals, []⟩ vals (vals.map toV) _ _ hr e0 (hbind s₁ vals hl) hV (hsp H _ hO hS)) fun r s' x => ?_
  cases r with
  | error e => exact (hCX H e s' x).elim
  | ok fl =>
    cases fl with
    | next => exact False.elim x
    | brk => exact False.elim x
    | cont => exact False.elim x
    | ret u =>
      obtain ⟨v, H', os, bare, un, hok', r', q⟩ := x
      have kept : ∀ b o, s₁.heap.get? b = some o → s'.heap.get? b = some o := fun b o e => by
        cases q2 : H b with
        | none => exact un.keep b o e q2 (by intro z; exact absurd (show b ∈ ([] : List Addr) from z) (by simp)) (by simp)
        | some u2 =>
          rcases hO b with z | ⟨ob, u3, z⟩
          · rw [q2] at z
            cases z
          · have z2 := un.frzs b ob _ z
            obtain ⟨e1, _⟩ := hok b _ z
            obtain ⟨e2, _⟩ := hok' b _ z2
            rw [e] at e1
            cases e1
            exact e2
      have KX' : K.In s'.heap := fun b o e => kept b o (KX b o e)
      obtain ⟨as, hrd⟩ := Dw.reads (R := R) (cl := cl) hok' KX' d0 v u q r'
      exact ⟨u, as, rfl, hrd, OldK.of_keep kept, os, bare⟩
theorem layable_weight {ds : List WData} (h : WData.layableAll ds = true) : ∀ d ∈ ds, d.weight ≤ 1048576 := fun d hd =>
  (PySem.W.layableW_iff.mp (List.all_eq_true.mp h d hd)).2.2
theorem encAll_len : ∀ (cs : List Codec) (a : Codec.denoteAll cs), (Codec.encAll cs a).length = cs.length
  | [], _ => rfl
  | c :: cs, a => by
    show (Codec.encAll cs a.2).length + 1 = cs.length + 1
    rw [encAll_len cs a.2]
theorem walk_spec {r : OpenSpec} {k : Nat} {q : Program} {loose : List Str} {XP : (Str → Option Value) → Heap → Prop} {YP : World → Heap → Prop} {d : DefRec} {K : Params → PySem.W.Frag} {CX : World → CXT} {ps : List Str} {sp : World → Sp}
    (hwell : r.wellSaid = true) (hdf : d.params.defaults = []) (hlen : r.args.length = ps.length) (hr : Room k callerA)
    (hY : ∀ (w : World) (h : Heap), YP w h → (K w.params).In h)
    (F : ∀ (w : World) (mg : Str → Option Value) (fa : Addr) (h : Heap), YP w h → (K w.params).In h → h.Ns mainGlobals mg → mg d.name = some (.ref fa) →
      ∃ fd : FuncData, (∀ (s : Shared) (us : List Value), us.length = ps.length → BindsTo s fd ⟨us, []⟩ (ps.zip us)) ∧
        ∀ base : Heap, (K w.params).In base → base.Ns mainGlobals mg → FnOk r.prog w (K w.params) mg base (CX w) k fa fd ps (sp w))
    (hsp : ∀ (w : World) (H : Hp) (xs : List V) (a : Codec.denoteAll r.args), OnlyF H → Codec.withinAll r.args a = true → Codec.app r.args r.asked a = true → DwAll (K w.params) H xs (Codec.encAll r.args a) →
      sp w xs H (fun v H' => Dw (K w.params) H' v (r.ret.enc (Codec.app r.args r.f a))) fun _ _ _ => False)
    (hCX : ∀ (w : World) (H : Hp) (s : Shared) (e : Value) (s' : Shared), CX w [] H s (fun _ _ _ => False) e s' → False) :
    PySem.W.WalkOS q loose XP YP r d [] (fun f vs => PySem.call f vs) := by
  intro w s_0 s₁ mg mb G Y fa o pm cd doc dV kV ho hd hcd hD hmg hg args vals as hpre hlay hrd hwl hlo
  obtain ⟨a, e1, e2⟩ := PySem.W.os_pre_some hpre
  obtain ⟨e3, hwi⟩ := Codec.encAll_of_decAll r.args args a e1
  subst e3
  have KX := hY w _ Y
  obtain ⟨fd, hb, hF⟩ := F w mg fa _ Y KX G.T.g hmg
  refine PySem.W.enter_call (codeAny_mono (spec_call (R := []) (cl := classAt s_0.heap) (d0 := r.ret.enc (Codec.app r.args r.f a)) KX G.T.g G.T.b G.T.builtins G.T.nolimit hg hwl (pl_encAll _ _) (layable_weight hlay) hr hF hb (by rw [encAll_len]; exact hlen)
    (fun H xs hO hS => hsp w H xs a hO hwi e2 hS) fun H e s' => hCX w H s₁ e s') fun r' s' hq => ?_)
  obtain ⟨u, as', rfl, h1, h2, h3, h4⟩ := hq
  exact ⟨.inl ⟨u, _, as', rfl, fun _ => rfl, h1, (OpenSpec.post_iff hwell hwi _ _).mpr rfl, fun z => Bool.noConfusion (show false = true from z)⟩, h2, h3, h4⟩
theorem walk_specK {r : OpenSpec} {k : Nat} {q : Program} {loose : List Str} {XP : (Str → Option Value) → Heap → Prop} {YP : World → Heap → Prop} {d : DefRec} {K : Params → PySem.W.Frag} {CX : CXT} {ps : List Str} {sp : PySem.W.Frag → Sp}
    (hwell : r.wellSaid = true) (hdf : d.params.defaults = []) (hlen : r.args.length = ps.length) (hr : Room k callerA)
    (hY : ∀ (w : World) (h : Heap), YP w h → (K w.params).In h)
    (F : ∀ (w : World) (mg : Str → Option Value) (fa : Addr) (h : Heap), YP w h → (K w.params).In h → h.Ns mainGlobals mg → mg d.name = some (.ref fa) →
      ∃ fd : FuncData, (∀ (s : Shared) (us : List Value), us.length = ps.length → BindsTo s fd ⟨us, []⟩ (ps.zip us)) ∧
        ∀ base : Heap, (K w.params).In base → base.Ns mainGlobals mg → FnOk r.prog w (K w.params) mg base CX k fa fd ps (sp (K w.params)))
    (hsp : ∀ (K : PySem.W.Frag) (H : Hp) (xs : List V) (a : Codec.denoteAll r.args), OnlyF H → Codec.withinAll r.args a = true → Codec.app r.args r.asked a = true → DwAll K H xs (Codec.encAll r.args a) →
      sp K xs H (fun v H' => Dw K H' v (r.ret.enc (Codec.app r.args r.f a))) fun _ _ _ => False)
    (hCX : ∀ (H : Hp) (s : Shared) (e : Value) (s' : Shared), CX [] H s (fun _ _ _ => False) e s' → False) :
    PySem.W.WalkOS q loose XP YP r d [] (fun f vs => PySem.call f vs) :=
  walk_spec (K := K) (CX := fun _ => CX) (sp := fun w => sp (K w.params)) hwell hdf hlen hr hY F (fun w H xs a h1 h2 h3 h4 => hsp (K w.params) H xs a h1 h2 h3 h4) fun _ H s e s' => hCX H s e s'
end L2
end
end
section
namespace WM
open Si62

/-! ### the wardrobe as the program keeps it -/
structure Good (w : Wardrobe) : Prop where
  k4 : w.kinds.length ≤ 4
  c5 : w.costumes.length ≤ 5
  n6 : w.needs.length ≤ 6
  ck : ∀ c ∈ w.costumes, c.kind < w.kinds.length
  nk : ∀ n ∈ w.needs, n.kind < w.kinds.length
  ord : w.needs.Pairwise fun a b => a.night ≤ b.night

def suitsC (c : Costume) (n : Need) : Bool := c.kind == n.kind && decide (apart c.size n.size ≤ c.give)
def awayOf (w : Wardrobe) (j : Nat) : Nat := (w.kind (w.need j).kind).wash
/-- what first_still_out answers -/
structure IsFso (w : Wardrobe) (j f : Nat) : Prop where
  le : f ≤ j
  lt : ∀ a, a < f → (w.need a).night + awayOf w j < (w.need j).night
  ge : ¬ (w.need f).night + awayOf w j < (w.need j).night

theorem Good.night {w : Wardrobe} (g : Good w) {a b : Nat} (hab : a ≤ b) (hb : b < w.needs.length) : (w.need a).night ≤ (w.need b).night := by
  unfold Wardrobe.need
  rcases Nat.lt_or_eq_of_le hab with h | h
  · have := List.pairwise_iff_getElem.mp g.ord a b (by omega) hb h
    simpa [List.getD_eq_getElem?_getD, List.getElem?_eq_getElem hb, List.getElem?_eq_getElem (show a < w.needs.length by omega)] using this
  · subst h; exact Nat.le_refl _

theorem fso_back {w : Wardrobe} (g : Good w) {i j f a : Nat} (hj : j < w.needs.length) (hf : IsFso w j f) (hs : w.suits i j = true) (ha : a < j) : (!w.back i a j) = decide (f ≤ a) := by
  have hk : (w.costume i).kind = (w.need j).kind := by
    unfold Wardrobe.suits at hs
    simp at hs
    exact hs.1
  unfold Wardrobe.back
  rw [hk]
  have e : (w.kind (w.need j).kind).wash = awayOf w j := rfl
  rw [e]
  by_cases hfa : f ≤ a
  · have h1 := g.night hfa (by omega)
    have h2 := hf.ge
    simp [hfa]
    omega
  · have := hf.lt a (by omega)
    simp [hfa]
    omega

theorem getD_app_lt {l r : List Nat} {a : Nat} (h : a < l.length) : (l ++ r).getD a 0 = l.getD a 0 := by
  simp [List.getD_eq_getElem?_getD, List.getElem?_append_left h]
theorem getD_app_len {l : List Nat} {t : Nat} : (l ++ [t]).getD l.length 0 = t := by
  simp [List.getD_eq_getElem?_getD]

/-- the j-th of a row, when the costumes that are still out are row[f:] -/
theorem bad_some {w : Wardrobe} (g : Good w) {l : List Nat} {j f e : Nat} (hj : j < w.needs.length) (hf : IsFso w j f) (ho : l.getD j 0 < w.costumes.length) (hs : w.suits (l.getD j 0) j = true)
    (h1 : f ≤ e) (h2 : e < j) (h3 : l.getD e 0 = l.getD j 0) (h4 : ∀ a, f ≤ a → a < e → l.getD a 0 ≠ l.getD j 0) : w.bad l j = some e := by
  unfold Wardrobe.bad
  have o : w.own (l.getD j 0) = true := by unfold Wardrobe.own; simpa using ho
  rw [if_neg (by rw [o]; simp), if_neg (by rw [hs]; simp)]
  rw [List.find?_range_eq_some]
  refine ⟨?_, by simpa using h2, ?_⟩
  · rw [fso_back g hj hf hs h2]; simp only [h3, h1]; simp
  · intro a ha
    rw [fso_back g hj hf hs (by omega)]
    by_cases hfa : f ≤ a
    · have := h4 a hfa ha
      rw [beq_false_of_ne this]; rfl
    · simp [hfa]
theorem bad_none {w : Wardrobe} (g : Good w) {l : List Nat} {j f : Nat} (hj : j < w.needs.length) (hf : IsFso w j f) (ho : l.getD j 0 < w.costumes.length) (hs : w.suits (l.getD j 0) j = true) :
    w.bad l j = none ↔ ∀ a, f ≤ a → a < j → l.getD a 0 ≠ l.getD j 0 := by
  unfold Wardrobe.bad
  have o : w.own (l.getD j 0) = true := by unfold Wardrobe.own; simpa using ho
  rw [if_neg (by rw [o]; simp), if_neg (by rw [hs]; simp)]
  rw [List.find?_range_eq_none]
  constructor
  · intro h a h1 h2 h3
    have := h a h2
    rw [fso_back g hj hf hs h2, h3] at this
    simp [h1] at this
  · intro h a ha
    rw [fso_back g hj hf hs ha]
    by_cases hfa : f ≤ a
    · have := h a hfa ha
      rw [beq_false_of_ne this]; rfl
    · simp [hfa]
theorem bad_unsuit {w : Wardrobe} {l : List Nat} {j : Nat} (ho : l.getD j 0 < w.costumes.length) (hs : w.suits (l.getD j 0) j = false) : w.bad l j = some j := by
  unfold Wardrobe.bad
  have o : w.own (l.getD j 0) = true := by unfold Wardrobe.own; simpa using ho
  rw [if_neg (by rw [o]; simp), if_pos hs]
theorem bad_hired {w : Wardrobe} {l : List Nat} {j : Nat} (ho : w.costumes.length ≤ l.getD j 0) : w.bad l j = none := by
  unfold Wardrobe.bad
  have o : w.own (l.getD j 0) = false := by unfold Wardrobe.own; simpa using ho
  rw [if_pos o]

/-! ### the numbers with which a row can go on -/
def ch (w : Wardrobe) (l : List Nat) : List Nat := (List.range (w.costumes.length + 1)).filter fun i => (w.bad (l ++ [i]) l.length).isNone
theorem mem_drop_iff {l : List Nat} {f i : Nat} : i ∈ l.drop f ↔ ∃ a, f ≤ a ∧ a < l.length ∧ l.getD a 0 = i := by
  rw [List.mem_iff_getElem?]
  constructor
  · rintro ⟨n, h⟩
    rw [List.getElem?_drop] at h
    obtain ⟨h1, h2⟩ := List.getElem?_eq_some_iff.mp h
    exact ⟨f + n, by omega, h1, by simp [List.getD_eq_getElem?_getD, h]⟩
  · rintro ⟨a, h1, h2, h3⟩
    refine ⟨a - f, ?_⟩
    rw [List.getElem?_drop, show f + (a - f) = a by omega]
    rw [List.getD_eq_getElem?_getD, List.getElem?_eq_getElem h2] at h3
    rw [List.getElem?_eq_getElem h2]
    simpa using h3
theorem free_iff {w : Wardrobe} (g : Good w) {l : List Nat} {f i : Nat} (hj : l.length < w.needs.length) (hf : IsFso w l.length f) (hi : i < w.costumes.length) :
    (w.bad (l ++ [i]) l.length).isNone = (w.suits i l.length && !decide (i ∈ l.drop f)) := by
  have e0 := getD_app_len (l := l) (t := i)
  cases hs : w.suits i l.length with
  | false => rw [bad_unsuit (by rw [e0]; exact hi) (by rw [e0]; exact hs)]; rfl
  | true =>
    have key := bad_none g (l := l ++ [i]) hj hf (by rw [e0]; exact hi) (by rw [e0]; exact hs)
    rw [e0] at key
    by_cases hm : i ∈ l.drop f
    · have : ¬ w.bad (l ++ [i]) l.length = none := by
        rw [key]
        intro h
        obtain ⟨a, h1, h2, h3⟩ := mem_drop_iff.mp hm
        exact h a h1 h2 (by rw [getD_app_lt h2]; exact h3)
      cases hb : w.bad (l ++ [i]) l.length with
      | none => exact absurd hb this
      | some x => simp [hm]
    · have : w.bad (l ++ [i]) l.length = none := by
        rw [key]
        intro a h1 h2 h3
        rw [getD_app_lt h2] at h3
        exact hm (mem_drop_iff.mpr ⟨a, h1, h2, h3⟩)
      rw [this]; simp [hm]
theorem ch_eq {w : Wardrobe} (g : Good w) {l : List Nat} {f : Nat} (hj : l.length < w.needs.length) (hf : IsFso w l.length f) :
    ((List.range w.costumes.length).filter fun i => w.suits i l.length && !decide (i ∈ l.drop f)) ++ [w.costumes.length] = ch w l := by
  unfold ch
  rw [List.range_succ, List.filter_append]
  congr 1
  · apply List.filter_congr
    intro i hi
    exact (free_iff g hj hf (by simpa using hi)).symm
  · rw [List.filter_cons, if_pos]
    · rfl
    · rw [bad_hired (by rw [getD_app_len]; exact Nat.le_refl _)]; rfl
theorem ch_ne (w : Wardrobe) (l : List Nat) : w.costumes.length ∈ ch w l := by
  unfold ch
  rw [List.mem_filter]
  refine ⟨by simp, ?_⟩
  rw [bad_hired (by rw [getD_app_len]; exact Nat.le_refl _)]; rfl
theorem ch_le {w : Wardrobe} {l : List Nat} {i : Nat} (h : i ∈ ch w l) : i ≤ w.costumes.length := by
  unfold ch at h
  rw [List.mem_filter] at h
  have := h.1
  simp at this
  omega
theorem ch_len (w : Wardrobe) (l : List Nat) : (ch w l).length ≤ w.costumes.length + 1 := by
  unfold ch
  exact Nat.le_trans (List.length_filter_le _ _) (by simp)
/-- the first of them is what plain takes -/
theorem ch_head (w : Wardrobe) (l : List Nat) : (ch w l)[0]? = some (((List.range w.costumes.length).find? fun i => (w.bad (l ++ [i]) l.length).isNone).getD w.costumes.length) := by
  unfold ch
  rw [List.range_succ, List.filter_append, ← List.head?_eq_getElem?, List.head?_append, List.head?_filter]
  rw [List.filter_cons, if_pos (by rw [bad_hired (by rw [getD_app_len]; exact Nat.le_refl _)]; rfl)]
  cases (List.range w.costumes.length).find? fun i => (w.bad (l ++ [i]) l.length).isNone <;> rfl

/-! ### all rows -/
def rowsM (w : Wardrobe) : Nat → List (List Nat)
  | 0 => [[]]
  | n + 1 => (rowsM w n).flatMap fun l => (ch w l).map fun t => l ++ [t]
theorem mem_rows {k : Nat} : ∀ {n : Nat} {l : List Nat}, l ∈ Si62.rows k n ↔ l.length = n ∧ ∀ x ∈ l, x ≤ k
  | 0, l => by
    unfold Si62.rows
    cases l <;> simp
  | n + 1, l => by
    unfold Si62.rows
    rw [List.mem_flatMap]
    constructor
    · rintro ⟨t, ht, hl⟩
      rw [List.mem_map] at hl
      obtain ⟨r, hr, rfl⟩ := hl
      obtain ⟨h1, h2⟩ := mem_rows.mp hr
      have : t < k + 1 := by simpa using ht
      refine ⟨by simp [h1], fun x hx => ?_⟩
      rcases List.mem_cons.mp hx with e | hx
      · omega
      · exact h2 x hx
    · rintro ⟨h1, h2⟩
      cases l with
      | nil => simp at h1
      | cons t r =>
        refine ⟨t, ?_, ?_⟩
        · have := h2 t (List.mem_cons_self ..)
          simp; omega
        · rw [List.mem_map]
          exact ⟨r, mem_rows.mpr ⟨by simpa using h1, fun x hx => h2 x (List.mem_cons_of_mem _ hx)⟩, rfl⟩
theorem rows_snoc (k : Nat) : ∀ n : Nat, Si62.rows k (n + 1) = (Si62.rows k n).flatMap fun l => (List.range (k + 1)).map fun t => l ++ [t]
  | 0 => by
    show (List.range (k + 1)).flatMap (fun t => [[t]]) = _
    simp [Si62.rows, List.flatMap_singleton', ← List.map_eq_flatMap]
  | n + 1 => by
    show (List.range (k + 1)).flatMap (fun t => (Si62.rows k (n + 1)).map fun l => t :: l) = ((List.range (k + 1)).flatMap fun t => (Si62.rows k n).map fun l => t :: l).flatMap fun l => (List.range (k + 1)).map fun t => l ++ [t]
    rw [List.flatMap_assoc]
    congr 1
    funext t
    rw [rows_snoc k n, List.map_flatMap, List.flatMap_map]
    congr 1
    funext l
    rw [List.map_map]
    rfl
theorem bad_app {w : Wardrobe} {l r : List Nat} {j : Nat} (hj : j < l.length) : w.bad (l ++ r) j = w.bad l j := by
  unfold Wardrobe.bad
  rw [getD_app_lt hj]
  have : (List.range j).find? (fun a => (l ++ r).getD a 0 == l.getD j 0 && !w.back (l.getD j 0) a j) = (List.range j).find? (fun a => l.getD a 0 == l.getD j 0 && !w.back (l.getD j 0) a j) := by
    have h2 : ∀ (xs : List Nat) (p q : Nat → Bool), (∀ x ∈ xs, p x = q x) → xs.find? p = xs.find? q := by
      intro xs p q
      induction xs with
      | nil => intro _; rfl
      | cons x xs ih =>
        intro h
        rw [List.find?_cons, List.find?_cons, h x (List.mem_cons_self ..), ih fun y hy => h y (List.mem_cons_of_mem _ hy)]
    apply h2
    intro a ha
    have : a < j := by simpa using ha
    rw [getD_app_lt (by omega)]
  rw [this]
theorem wrong_none {w : Wardrobe} {l : List Nat} : w.wrong l = none ↔ ∀ j, j < l.length → w.bad l j = none := by
  unfold Wardrobe.wrong
  rw [List.findSome?_eq_none_iff]
  constructor
  · intro h j hj
    have := h j (by simpa using hj)
    simpa using this
  · intro h j hj
    rw [h j (by simpa using hj)]; rfl
theorem wrong_snoc {w : Wardrobe} {l : List Nat} {t : Nat} : (w.wrong (l ++ [t])).isNone = ((w.wrong l).isNone && (w.bad (l ++ [t]) l.length).isNone) := by
  rw [Bool.eq_iff_iff, Bool.and_eq_true, Option.isNone_iff_eq_none, Option.isNone_iff_eq_none, Option.isNone_iff_eq_none, wrong_none, wrong_none]
  constructor
  · intro h
    refine ⟨fun j hj => ?_, h _ (by simp)⟩
    rw [← bad_app (r := [t]) hj]
    exact h j (by simp; omega)
  · rintro ⟨h1, h2⟩ j hj
    rw [List.length_append] at hj
    by_cases e : j < l.length
    · rw [bad_app e]; exact h1 j e
    · have : j = l.length := by simp at hj; omega
      subst this; exact h2
theorem rowsM_eq (w : Wardrobe) : ∀ n : Nat, rowsM w n = (Si62.rows w.costumes.length n).filter fun l => (w.wrong l).isNone
  | 0 => by
    show [[]] = List.filter _ [[]]
    rw [List.filter_cons, if_pos (by rw [wrong_none.mpr (fun j hj => absurd hj (by simp))]; rfl)]
    rfl
  | n + 1 => by
    rw [rows_snoc, List.filter_flatMap]
    show (rowsM w n).flatMap (fun l => (ch w l).map fun t => l ++ [t]) = _
    rw [rowsM_eq w n]
    generalize Si62.rows w.costumes.length n = R
    induction R with
    | nil => rfl
    | cons l R ih =>
      rw [List.flatMap_cons, List.filter_cons, ← ih, List.filter_map]
      have e : ((List.range (w.costumes.length + 1)).filter ((fun l => (w.wrong l).isNone) ∘ fun t => l ++ [t])) = if (w.wrong l).isNone = true then ch w l else [] := by
        by_cases h : (w.wrong l).isNone = true
        · rw [if_pos h]
          unfold ch
          apply List.filter_congr
          intro t _
          show (w.wrong (l ++ [t])).isNone = _
          rw [wrong_snoc, h]; rfl
        · rw [if_neg h, List.filter_eq_nil_iff]
          intro t _ h2
          have h3 : (w.wrong (l ++ [t])).isNone = true := h2
          rw [wrong_snoc, Bool.and_eq_true] at h3
          exact h h3.1
      rw [e]
      by_cases h : (w.wrong l).isNone = true
      · rw [if_pos h, if_pos h, List.flatMap_cons]
      · rw [if_neg h, if_neg h]; rfl
theorem rowsM_rows (w : Wardrobe) : rowsM w w.needs.length = w.rows := by
  rw [rowsM_eq]
  unfold Wardrobe.rows
  apply List.filter_congr
  intro l hl
  obtain ⟨h1, h2⟩ := mem_rows.mp hl
  unfold Wardrobe.right Wardrobe.told
  have : (l.all fun i => decide (i ≤ w.costumes.length)) = true := by
    rw [List.all_eq_true]; intro x hx; simpa using h2 x hx
  rw [h1, this]; simp
theorem rowsM_mem {w : Wardrobe} {n : Nat} {l : List Nat} (h : l ∈ rowsM w n) : l.length = n ∧ ∀ x ∈ l, x ≤ w.costumes.length := by
  rw [rowsM_eq, List.mem_filter] at h
  exact mem_rows.mp h.1
theorem ch_ne_nil (w : Wardrobe) (l : List Nat) : ch w l ≠ [] := fun e => by
  have := ch_ne w l
  rw [e] at this; cases this
theorem rowsM_ne (w : Wardrobe) : ∀ n, rowsM w n ≠ []
  | 0 => by simp [rowsM]
  | n + 1 => by
    have h := rowsM_ne w n
    show (rowsM w n).flatMap _ ≠ []
    cases hr : rowsM w n with
    | nil => exact absurd hr h
    | cons l r =>
      rw [List.flatMap_cons]
      intro e
      have := (List.append_eq_nil_iff.mp e).1
      exact ch_ne_nil w l (List.map_eq_nil_iff.mp this)
theorem rowsM_len (w : Wardrobe) : ∀ n, (rowsM w n).length ≤ (w.costumes.length + 1) ^ n
  | 0 => by simp [rowsM]
  | n + 1 => by
    have ih := rowsM_len w n
    have key : ∀ R : List (List Nat), (R.flatMap fun l => (ch w l).map fun t => l ++ [t]).length ≤ R.length * (w.costumes.length + 1) := by
      intro R
      induction R with
      | nil => simp
      | cons l R ih =>
        rw [List.flatMap_cons, List.length_append, List.length_map, List.length_cons, Nat.add_mul]
        have := ch_len w l
        omega
    have h1 := key (rowsM w n)
    rw [Nat.pow_succ]
    exact Nat.le_trans h1 (Nat.mul_le_mul_right _ ih)
end WM
end
section
namespace WM
open Si62

/-! ### what a row costs -/
def costL (w : Wardrobe) (l : List Nat) : List Nat := ((w.needs.zip l).filter fun p => decide (p.2 = w.costumes.length)).map fun p => (w.kind p.1.kind).hire
theorem cost_gen (k : Nat) (g : Need → Nat) (d : Need) : ∀ (ns : List Need) (l : List Nat), l.length = ns.length → (∀ x ∈ l, x ≤ k) →
    (((ns.zip l).filter fun p => decide (p.2 = k)).map fun p => g p.1).sum = ((List.range l.length).map fun j => if decide (l.getD j 0 < k) = true then 0 else g (ns.getD j d)).sum
  | [], [], _, _ => rfl
  | [], x :: l, h, _ => by simp at h
  | n :: ns, [], h, _ => by simp at h
  | n :: ns, x :: l, h, hx => by
    have ih := cost_gen k g d ns l (by simpa using h) fun y hy => hx y (List.mem_cons_of_mem _ hy)
    rw [List.zip_cons_cons, List.length_cons, List.range_succ_eq_map, List.map_cons, List.sum_cons, List.map_map]
    have e : (List.range l.length).map ((fun j => if decide ((x :: l).getD j 0 < k) = true then 0 else g ((n :: ns).getD j d)) ∘ Nat.succ) = (List.range l.length).map fun j => if decide (l.getD j 0 < k) = true then 0 else g (ns.getD j d) := by
      apply List.map_congr_left
      intro j _
      rfl
    rw [e, ← ih]
    have hk := hx x (List.mem_cons_self ..)
    by_cases he : x = k
    · rw [List.filter_cons, if_pos (by simpa using he), List.map_cons, List.sum_cons]
      show g n + _ = (if decide (x < k) = true then 0 else g n) + _
      rw [if_neg (by simp; omega)]
    · rw [List.filter_cons, if_neg (by simpa using he)]
      show _ = (if decide (x < k) = true then 0 else g n) + _
      rw [if_pos (by simp; omega), Nat.zero_add]
theorem cost_eq {w : Wardrobe} {l : List Nat} (hl : l.length = w.needs.length) (hx : ∀ x ∈ l, x ≤ w.costumes.length) : (costL w l).sum = w.cost l :=
  cost_gen w.costumes.length (fun n => (w.kind n.kind).hire) ⟨0, 0, 0⟩ w.needs l hl hx

/-! ### the best -/
structure IsBest (f : List Nat → Nat) (R : List (List Nat)) (b : Best) : Prop where
  least : ∀ r ∈ R, b.cost ≤ f r
  many : b.many = (R.map f).count b.cost
  first : ∃ j : Nat, R[j]? = some b.row ∧ f b.row = b.cost ∧ ∀ i r, i < j → R[i]? = some r → f r ≠ b.cost
def stp (f : List Nat → Nat) (b : Option Best) (l : List Nat) : Option Best := match b with
  | none => some ⟨f l, 1, l⟩
  | some x => if f l < x.cost then some ⟨f l, 1, l⟩ else if f l = x.cost then some ⟨x.cost, x.many + 1, x.row⟩ else some x
theorem best_fold (f : List Nat → Nat) (R : List (List Nat)) (h : R ≠ []) : ∃ b, R.foldl (stp f) none = some b ∧ IsBest f R b := by
  have key : ∀ n (R : List (List Nat)), R.length = n → R ≠ [] → ∃ b, R.foldl (stp f) none = some b ∧ IsBest f R b := by
    intro n
    induction n with
    | zero =>
      intro R hn h
      exact absurd (List.length_eq_zero_iff.mp hn) h
    | succ n ih =>
      intro R hn h
      obtain ⟨P, l, rfl⟩ : ∃ P l, R = P ++ [l] := ⟨R.dropLast, R.getLast h, (List.dropLast_concat_getLast h).symm⟩
      by_cases hP : P = []
      · subst hP
        refine ⟨⟨f l, 1, l⟩, rfl, ⟨?_, ?_, ⟨0, rfl, rfl, ?_⟩⟩⟩
        · intro r hr; have : r = l := by simpa using hr
          subst this; exact Nat.le_refl _
        · simp
        · intro i r hi; omega
      · obtain ⟨b, hb, hB⟩ := ih P (by simp at hn; omega) hP
        rw [List.foldl_append, hb]
        obtain ⟨j, hj, hc, hlt⟩ := hB.first
        have hjl : j < P.length := (List.getElem?_eq_some_iff.mp hj).1
        have cnt : ∀ c, ((P ++ [l]).map f).count c = (P.map f).count c + if f l = c then 1 else 0 := by
          intro c
          rw [List.map_append, List.count_append]
          congr 1
          show ([f l] : List Nat).count c = _
          rw [List.count_cons]
          simp
        show ∃ b_1, stp f (some b) l = some b_1 ∧ _
        unfold stp
        by_cases h1 : f l < b.cost
        · refine ⟨⟨f l, 1, l⟩, by simp only [h1, if_true], ⟨?_, ?_, ⟨P.length, by simp, rfl, ?_⟩⟩⟩
          · intro r hr
            rcases List.mem_append.mp hr with hr | hr
            · have := hB.least r hr; show f l ≤ f r; omega
            · have : r = l := by simpa using hr
              subst this; exact Nat.le_refl _
          · show 1 = _
            show 1 = ((P ++ [l]).map f).count (f l)
            rw [cnt, if_pos rfl]
            have : (P.map f).count (f l) = 0 := by
              rw [List.count_eq_zero]
              intro hm
              obtain ⟨r, hr, e⟩ := List.mem_map.mp hm
              have := hB.least r hr
              omega
            omega
          · intro i r hi hr
            rw [List.getElem?_append_left hi] at hr
            have := hB.least r (List.mem_of_getElem? hr)
            show f r ≠ f l
            omega
        · by_cases h2 : f l = b.cost
          · refine ⟨⟨b.cost, b.many + 1, b.row⟩, by dsimp only; rw [if_neg h1, if_pos h2], ⟨?_, ?_, ⟨j, by rw [List.getElem?_append_left hjl]; exact hj, hc, ?_⟩⟩⟩
            · intro r hr
              rcases List.mem_append.mp hr with hr | hr
              · exact hB.least r hr
              · have : r = l := by simpa using hr
                subst this; show b.cost ≤ f r; omega
            · show b.many + 1 = _
              rw [cnt, if_pos h2, hB.many]
            · intro i r hi hr
              rw [List.getElem?_append_left (by omega)] at hr
              exact hlt i r hi hr
          · refine ⟨b, by simp only [h1, if_false, h2], ⟨?_, ?_, ⟨j, by rw [List.getElem?_append_left hjl]; exact hj, hc, ?_⟩⟩⟩
            · intro r hr
              rcases List.mem_append.mp hr with hr | hr
              · exact hB.least r hr
              · have : r = l := by simpa using hr
                subst this; omega
            · rw [cnt, if_neg h2, hB.many]; rfl
            · intro i r hi hr
              rw [List.getElem?_append_left (by omega)] at hr
              exact hlt i r hi hr
  exact key _ R rfl h
theorem best_of (w : Wardrobe) : ∃ b, w.best = some b ∧ IsBest w.cost w.rows b := by
  have hne : w.rows ≠ [] := by rw [← rowsM_rows]; exact rowsM_ne w _
  exact best_fold w.cost w.rows hne
/-- what the program reads off the list of costs is the best -/
theorem best_read {w : Wardrobe} {c j : Nat} {r : List Nat} (h1 : c ∈ w.rows.map w.cost) (h2 : ∀ y ∈ w.rows.map w.cost, c ≤ y) (h3 : (w.rows.map w.cost)[j]? = some c) (h4 : ∀ m z, m < j → (w.rows.map w.cost)[m]? = some z → z ≠ c) (h5 : w.rows[j]? = some r) :
    w.best = some ⟨c, (w.rows.map w.cost).count c, r⟩ := by
  obtain ⟨b, hb, hB⟩ := best_of w
  obtain ⟨i, hi, hc, hlt⟩ := hB.first
  have e : b.cost = c := by
    obtain ⟨r', hr', e'⟩ := List.mem_map.mp h1
    have a := hB.least r' hr'
    have b' := h2 (w.cost b.row) (List.mem_map_of_mem (List.mem_of_getElem? hi))
    omega
  have ei : i = j := by
    have hri : (w.rows.map w.cost)[i]? = some c := by rw [List.getElem?_map, hi]; simp [hc, e]
    have hcj : w.cost r = c := by rw [List.getElem?_map, h5] at h3; simpa using h3
    rcases Nat.lt_trichotomy i j with h | h | h
    · exact absurd rfl (h4 i c h hri)
    · exact h
    · exact absurd (by rw [hcj, e]) (hlt j r h h5)
  subst ei
  rw [hi] at h5
  have er : b.row = r := Option.some.inj h5
  rw [hb]
  have em := hB.many
  cases b
  simp only at e er em
  subst e er
  rw [em]

/-! ### one costume more never costs more -/
theorem sum_congr {α : Type} {xs : List α} {f g : α → Nat} (h : ∀ x ∈ xs, f x = g x) : (xs.map f).sum = (xs.map g).sum := by
  rw [List.map_congr_left h]
def lift (k i : Nat) : Nat := if i = k then k + 1 else i
theorem more_row {w : Wardrobe} {c : Costume} {r : List Nat} (h : r ∈ w.rows) : (r.map (lift w.costumes.length)) ∈ (w.with_ c).rows ∧ (w.with_ c).cost (r.map (lift w.costumes.length)) = w.cost r := by
  unfold Wardrobe.rows at h ⊢
  rw [List.mem_filter] at h
  obtain ⟨hm, hr⟩ := h
  obtain ⟨hl, hx⟩ := mem_rows.mp hm
  have k1 : (w.with_ c).costumes.length = w.costumes.length + 1 := by unfold Wardrobe.with_; simp
  have gd : ∀ a, a < r.length → (r.map (lift w.costumes.length)).getD a 0 = lift w.costumes.length (r.getD a 0) := by
    intro a ha
    simp [List.getD_eq_getElem?_getD, List.getElem?_eq_getElem ha]
  have gx : ∀ a, a < r.length → r.getD a 0 ≤ w.costumes.length := by
    intro a ha
    apply hx
    simp [List.getD_eq_getElem?_getD, List.getElem?_eq_getElem ha]
  have own : ∀ i, i ≤ w.costumes.length → (w.with_ c).own (lift w.costumes.length i) = w.own i := by
    intro i hi
    unfold Wardrobe.own lift
    rw [k1]
    by_cases e : i = w.costumes.length
    · rw [if_pos e]; simp; omega
    · rw [if_neg e]; simp; omega
  have cost_ : ∀ i, i < w.costumes.length → (w.with_ c).costume (lift w.costumes.length i) = w.costume i := by
    intro i hi
    unfold lift
    rw [if_neg (by omega)]
    unfold Wardrobe.costume Wardrobe.with_
    simp [List.getD_eq_getElem?_getD, List.getElem?_append_left hi]
  have bad_ : ∀ j, j < r.length → (w.with_ c).bad (r.map (lift w.costumes.length)) j = w.bad r j := by
    intro j hj
    unfold Wardrobe.bad
    rw [gd j hj, own _ (gx j hj)]
    cases ho : w.own (r.getD j 0) with
    | false => rfl
    | true =>
      have hlt : r.getD j 0 < w.costumes.length := by unfold Wardrobe.own at ho; simpa using ho
      have es : (w.with_ c).suits (lift w.costumes.length (r.getD j 0)) j = w.suits (r.getD j 0) j := by
        unfold Wardrobe.suits
        rw [cost_ _ hlt]
        rfl
      rw [es, if_neg (show ¬ true = false by simp), if_neg (show ¬ true = false by simp)]
      congr 1
      have h2 : ∀ (xs : List Nat) (p q : Nat → Bool), (∀ x ∈ xs, p x = q x) → xs.find? p = xs.find? q := by
        intro xs p q
        induction xs with
        | nil => intro _; rfl
        | cons x xs ih =>
          intro h
          rw [List.find?_cons, List.find?_cons, h x (List.mem_cons_self ..), ih fun y hy => h y (List.mem_cons_of_mem _ hy)]
      apply h2
      intro a ha
      have ha' : a < j := by simpa using ha
      have eb : (w.with_ c).back (lift w.costumes.length (r.getD j 0)) a j = w.back (r.getD j 0) a j := by
        unfold Wardrobe.back
        rw [cost_ _ hlt]
        rfl
      rw [eb, gd a (by omega)]
      congr 1
      have hxa := gx a (by omega)
      unfold lift
      rw [Bool.eq_iff_iff, beq_iff_eq, beq_iff_eq]
      split <;> split <;> omega
  have hl' : (r.map (lift w.costumes.length)).length = r.length := by simp
  constructor
  · rw [List.mem_filter, mem_rows, k1]
    have hb : ∀ x ∈ r.map (lift w.costumes.length), x ≤ w.costumes.length + 1 := by
      intro x hx'
      obtain ⟨y, hy, rfl⟩ := List.mem_map.mp hx'
      have := hx y hy
      unfold lift
      split <;> omega
    have hn : (w.with_ c).needs = w.needs := rfl
    refine ⟨⟨by rw [hl', hl, hn], hb⟩, ?_⟩
    unfold Wardrobe.right at hr ⊢
    rw [Bool.and_eq_true] at hr ⊢
    constructor
    · unfold Wardrobe.told
      rw [Bool.and_eq_true, List.all_eq_true]
      refine ⟨by rw [hl', hl, hn]; simp, fun x hx' => ?_⟩
      rw [k1]; simpa using hb x hx'
    · rw [Option.isNone_iff_eq_none, wrong_none]
      have := wrong_none.mp (Option.isNone_iff_eq_none.mp hr.2)
      intro j hj
      rw [hl'] at hj
      rw [bad_ j hj]; exact this j hj
  · unfold Wardrobe.cost
    rw [hl']
    apply sum_congr
    intro j hj
    have hj' : j < r.length := by simpa using hj
    rw [gd j hj', own _ (gx j hj')]
    rfl
theorem more_le {w : Wardrobe} {c : Costume} {a b : Best} (ha : w.best = some a) (hb : (w.with_ c).best = some b) : b.cost ≤ a.cost := by
  obtain ⟨a', ha', hA⟩ := best_of w
  obtain ⟨b', hb', hB⟩ := best_of (w.with_ c)
  rw [ha] at ha'; rw [hb] at hb'
  cases ha'; cases hb'
  obtain ⟨i, hi, hc, _⟩ := hA.first
  obtain ⟨h1, h2⟩ := more_row (c := c) (List.mem_of_getElem? hi)
  have := hB.least _ h1
  omega

/-! ### one by one -/
theorem plain_turn (w : Wardrobe) {n : Nat} {l : List Nat} {t : Nat} (h : (ch w l)[0]? = some t) : w.plainFrom (n + 1) l = w.plainFrom n (l ++ [t]) := by
  rw [ch_head] at h
  have e := Option.some.inj h
  show w.plainFrom n (l ++ [_]) = _
  rw [e]
theorem plainFrom_le (w : Wardrobe) : ∀ (n : Nat) (l : List Nat), (∀ x ∈ l, x ≤ w.costumes.length) → (w.plainFrom n l).length = l.length + n ∧ ∀ x ∈ w.plainFrom n l, x ≤ w.costumes.length
  | 0, l, h => ⟨rfl, h⟩
  | n + 1, l, h => by
    have ht := ch_head w l
    rw [plain_turn w ht]
    have hm := ch_le (List.mem_of_getElem? ht)
    have ih := plainFrom_le w n (l ++ [((List.range w.costumes.length).find? fun i => (w.bad (l ++ [i]) l.length).isNone).getD w.costumes.length]) (by
      intro x hx
      rcases List.mem_append.mp hx with hx | hx
      · exact h x hx
      · rw [List.mem_singleton.mp hx]; exact hm)
    refine ⟨?_, ih.2⟩
    rw [ih.1, List.length_append]
    simp; omega
end WM
end
section
namespace WM
open Si62

/-! ### the calls -/
/-- a call's number and the numbers behind it -/
def numsOf : Si62.Call → Nat × List Nat
  | .begins => (0, [])
  | .kind a h => (1, [a, h])
  | .costume c => (2, [c.kind, c.size, c.give])
  | .need n => (3, [n.night, n.kind, n.size])
  | .best => (4, [])
  | .check l => (5, l.length :: l)
  | .plain => (6, [])
  | .more c => (7, [c.kind, c.size, c.give])
def ansOf (w : Wardrobe) (q : Si62.Call) : List Int := (step w q).2.v :: (step w q).2.l

structure Good4 (w : Wardrobe) : Prop extends Good w where
  c4 : w.costumes.length ≤ 4
theorem good_init : Good4 init := ⟨⟨by decide, by decide, by decide, (fun c h => by cases h), (fun c h => by cases h), List.Pairwise.nil⟩, by decide⟩
theorem Good.with_ {w : Wardrobe} (g : Good4 w) {c : Costume} (h : c.kind < w.kinds.length) : Good (w.with_ c) := by
  refine ⟨g.k4, ?_, g.n6, ?_, g.nk, g.ord⟩
  · have := g.c4
    show (w.costumes ++ [c]).length ≤ 5
    simp; omega
  · intro x hx
    rcases List.mem_append.mp hx with hx | hx
    · exact g.ck x hx
    · rw [List.mem_singleton.mp hx]; exact h
theorem last_night {w : Wardrobe} (g : Good w) {n : Nat} (h : (w.needs.getLast?.map fun x => x.night).getD 0 ≤ n) : ∀ x ∈ w.needs, x.night ≤ n := by
  intro x hx
  obtain ⟨i, hi, e⟩ := List.mem_iff_getElem.mp hx
  have h1 := g.night (a := i) (b := w.needs.length - 1) (by omega) (by omega)
  unfold Wardrobe.need at h1
  rw [List.getD_eq_getElem?_getD, List.getD_eq_getElem?_getD, List.getElem?_eq_getElem hi, List.getElem?_eq_getElem (show w.needs.length - 1 < w.needs.length by omega)] at h1
  rw [List.getLast?_eq_getElem?, List.getElem?_eq_getElem (show w.needs.length - 1 < w.needs.length by omega)] at h
  simp at h h1
  rw [← e]; omega
theorem good_step {w : Wardrobe} (g : Good4 w) (q : Si62.Call) : Good4 (step w q).1 := by
  cases q with
  | begins => exact good_init
  | kind a h =>
    unfold step
    dsimp only
    split
    · exact g
    · split
      · exact g
      · rename_i h1 h2
        unfold KINDS at h2
        refine ⟨⟨?_, g.c5, g.n6, ?_, ?_, g.ord⟩, g.c4⟩
        · show (w.kinds ++ [_]).length ≤ 4
          simp; omega
        · intro c hc; have := g.ck c hc; show _ < (w.kinds ++ [_]).length; simp; omega
        · intro c hc; have := g.nk c hc; show _ < (w.kinds ++ [_]).length; simp; omega
  | costume c =>
    unfold step
    dsimp only
    split
    · exact g
    · split
      · exact g
      · split
        · exact g
        · rename_i h1 h2 h3
          unfold COSTUMES at h3
          refine ⟨Good.with_ g (by omega), ?_⟩
          show (w.costumes ++ [c]).length ≤ 4
          simp; omega
  | need n =>
    unfold step
    dsimp only
    split
    · exact g
    · split
      · exact g
      · split
        · exact g
        · rename_i h1 h2 h3
          unfold NEEDS at h3
          refine ⟨⟨g.k4, g.c5, ?_, g.ck, ?_, ?_⟩, g.c4⟩
          · show (w.needs ++ [n]).length ≤ 6
            simp; omega
          · intro x hx
            rcases List.mem_append.mp hx with hx | hx
            · exact g.nk x hx
            · rw [List.mem_singleton.mp hx]; show n.kind < w.kinds.length; omega
          · show (w.needs ++ [n]).Pairwise _
            rw [List.pairwise_append]
            refine ⟨g.ord, List.pairwise_singleton _ _, fun x hx y hy => ?_⟩
            rw [List.mem_singleton.mp hy]
            exact last_night g.toGood (by omega) x hx
  | best => exact g
  | check l =>
    unfold step
    dsimp only
    split <;> exact g
  | plain => exact g
  | more c =>
    unfold step
    dsimp only
    split
    · exact g
    · split <;> exact g
theorem rows_len {w : Wardrobe} {b : Best} (h : w.best = some b) : b.row.length = w.needs.length := by
  obtain ⟨b', hb, hB⟩ := best_of w
  rw [h] at hb; cases hb
  obtain ⟨j, hj, _⟩ := hB.first
  have := List.mem_of_getElem? hj
  rw [← rowsM_rows] at this
  exact (rowsM_mem this).1
theorem ans_len {w : Wardrobe} (g : Good4 w) (q : Si62.Call) : (ansOf w q).length ≤ 10 := by
  have n6 := g.n6
  unfold ansOf
  cases q with
  | begins => unfold step; simp [ok]
  | kind a h =>
    unfold step
    dsimp only
    split
    · simp [ok]
    · split <;> simp [ok]
  | costume c =>
    unfold step
    dsimp only
    split
    · simp [ok]
    · split
      · simp [ok]
      · split <;> simp [ok]
  | need n =>
    unfold step
    dsimp only
    split
    · simp [ok]
    · split
      · simp [ok]
      · split <;> simp [ok]
  | best =>
    obtain ⟨b, hb, _⟩ := best_of w
    have := rows_len hb
    unfold step
    dsimp only
    rw [hb]
    simp [Si62.ints]; omega
  | check l =>
    unfold step
    dsimp only
    split
    · simp [ok]
    · dsimp only
      split
      · simp [Si62.ints]
      · simp [ok]
  | plain =>
    unfold step
    have := (plainFrom_le w w.needs.length [] (by intro x h; cases h)).1
    unfold Wardrobe.plain
    simp [Si62.ints] at this ⊢; omega
  | more c =>
    unfold step
    dsimp only
    split
    · simp [ok]
    · split
      · simp [ok]
      · obtain ⟨a, ha, _⟩ := best_of w
        obtain ⟨b, hb, _⟩ := best_of (w.with_ c)
        have := rows_len hb
        have e : (w.with_ c).needs = w.needs := rfl
        rw [e] at this
        dsimp only
        rw [ha, hb]
        simp [Si62.ints]; omega

/-! ### a line's calls, one by one -/
/-- the rest of a list of calls, parsed with the fuel f -/
theorem nat32 {z : Int} (h : Si62Neutral.natural z 32 = true) : 0 ≤ z := by
  unfold Si62Neutral.natural at h
  simp at h
  exact h.1
theorem cast_all : ∀ {l : List Int}, (∀ z ∈ l, 0 ≤ z) → (l.map Int.toNat).map (fun n : Nat => (n : Int)) = l
  | [], _ => rfl
  | z :: l, h => by
    rw [List.map_cons, List.map_cons, cast_all fun y hy => h y (List.mem_cons_of_mem _ hy)]
    have := h z (List.mem_cons_self ..)
    rw [show ((z.toNat : Nat) : Int) = z by omega]
def castL (l : List Nat) : List Int := l.map fun n : Nat => (n : Int)
theorem parse {fuel : Nat} {p : Int} {r : List Int} {c : List (List Int)} {cs : List (List (List Int))} (h : PyFlat.calls PySi62.shape (fuel + 1) (p :: r) = some (c :: cs)) (ha : Si62Neutral.asked1 (PySi62.whole c) = true) :
    ∃ (q : Si62.Call) (t : List Int), Si62Neutral.callOf ((PySi62.whole c).headD []) = some q ∧ p = ((numsOf q).1 : Int) ∧ r = castL (numsOf q).2 ++ t ∧ PyFlat.calls PySi62.shape fuel t = some cs ∧ (∀ l, q = .check l → l.length ≤ 8) := by
  unfold PyFlat.calls at h
  unfold Si62Neutral.asked1 at ha
  rw [Bool.and_eq_true, Bool.and_eq_true] at ha
  obtain ⟨ha1, ha2, ha3⟩ := ha
  rw [List.all_eq_true] at ha2
  have nn : ∀ z ∈ (PySi62.whole c).headD [], 0 ≤ z := fun z hz => nat32 (ha2 z hz)
  cases hc : PyFlat.call PySi62.shape (p :: r) with
  | none => rw [hc] at h; cases h
  | some ct =>
    obtain ⟨c', t⟩ := ct
    rw [hc] at h
    simp only at h
    cases hr : PyFlat.calls PySi62.shape fuel t with
    | none => rw [hr] at h; cases h
    | some cs' =>
      rw [hr] at h
      have h := Option.some.inj h
      have e1 : c' = c := (List.cons.inj h).1
      have e2 : cs' = cs := (List.cons.inj h).2
      subst e1 e2
      unfold PyFlat.call at hc
      simp only at hc
      by_cases p0 : p = 0
      · subst p0
        have hs : PySi62.shape 0 = some (0, 0) := by decide
        rw [hs] at hc
        simp [PyFlat.rows] at hc
        obtain ⟨rfl, rfl⟩ := hc
        exact ⟨.begins, r, rfl, rfl, rfl, hr, fun l h => by cases h⟩
      by_cases p1 : p = 1
      · subst p1
        have hs : PySi62.shape 1 = some (2, 0) := by decide
        rw [hs] at hc
        simp only at hc
        match r, hc with
        | [], hc => simp at hc
        | [_], hc => simp at hc
        | x :: y :: r, hc =>
          simp [PyFlat.rows] at hc
          obtain ⟨rfl, rfl⟩ := hc
          have hx := nn x (by show x ∈ [1, x, y]; simp)
          have hy := nn y (by show y ∈ [1, x, y]; simp)
          refine ⟨.kind x.toNat y.toNat, r, rfl, rfl, ?_, hr, fun l h => by cases h⟩
          show x :: y :: r = ((x.toNat : Nat) : Int) :: ((y.toNat : Nat) : Int) :: r
          rw [show ((x.toNat : Nat) : Int) = x by omega, show ((y.toNat : Nat) : Int) = y by omega]
      by_cases p2 : p = 2
      · subst p2
        have hs : PySi62.shape 2 = some (3, 0) := by decide
        rw [hs] at hc
        simp only at hc
        match r, hc with
        | [], hc => simp at hc
        | [_], hc => simp at hc
        | [_, _], hc => simp at hc
        | x :: y :: z :: r, hc =>
          simp [PyFlat.rows] at hc
          obtain ⟨rfl, rfl⟩ := hc
          have hx := nn x (by show x ∈ [2, x, y, z]; simp)
          have hy := nn y (by show y ∈ [2, x, y, z]; simp)
          have hz := nn z (by show z ∈ [2, x, y, z]; simp)
          refine ⟨.costume ⟨x.toNat, y.toNat, z.toNat⟩, r, rfl, rfl, ?_, hr, fun l h => by cases h⟩
          show x :: y :: z :: r = ((x.toNat : Nat) : Int) :: ((y.toNat : Nat) : Int) :: ((z.toNat : Nat) : Int) :: r
          rw [show ((x.toNat : Nat) : Int) = x by omega, show ((y.toNat : Nat) : Int) = y by omega, show ((z.toNat : Nat) : Int) = z by omega]
      by_cases p3 : p = 3
      · subst p3
        have hs : PySi62.shape 3 = some (3, 0) := by decide
        rw [hs] at hc
        simp only at hc
        match r, hc with
        | [], hc => simp at hc
        | [_], hc => simp at hc
        | [_, _], hc => simp at hc
        | x :: y :: z :: r, hc =>
          simp [PyFlat.rows] at hc
          obtain ⟨rfl, rfl⟩ := hc
          have hx := nn x (by show x ∈ [3, x, y, z]; simp)
          have hy := nn y (by show y ∈ [3, x, y, z]; simp)
          have hz := nn z (by show z ∈ [3, x, y, z]; simp)
          refine ⟨.need ⟨x.toNat, y.toNat, z.toNat⟩, r, rfl, rfl, ?_, hr, fun l h => by cases h⟩
          show x :: y :: z :: r = ((x.toNat : Nat) : Int) :: ((y.toNat : Nat) : Int) :: ((z.toNat : Nat) : Int) :: r
          rw [show ((x.toNat : Nat) : Int) = x by omega, show ((y.toNat : Nat) : Int) = y by omega, show ((z.toNat : Nat) : Int) = z by omega]
      by_cases p4 : p = 4
      · subst p4
        have hs : PySi62.shape 4 = some (0, 0) := by decide
        rw [hs] at hc
        simp [PyFlat.rows] at hc
        obtain ⟨rfl, rfl⟩ := hc
        exact ⟨.best, r, rfl, rfl, rfl, hr, fun l h => by cases h⟩
      by_cases p5 : p = 5
      · subst p5
        have hs : PySi62.shape 5 = some (0, 1) := by decide
        rw [hs] at hc
        match r, hc with
        | [], hc => simp [PyFlat.rows, PyFlat.row] at hc
        | m :: r, hc =>
          simp only [PyFlat.rows, PyFlat.row, List.drop_zero, List.take_zero, List.length_cons, Nat.not_lt_zero, if_false] at hc
          by_cases hm : 0 ≤ m ∧ m.toNat ≤ r.length
          · rw [if_pos hm] at hc
            simp at hc
            obtain ⟨rfl, rfl⟩ := hc
            have e : (PySi62.whole [[5], r.take m.toNat]).headD [] = 5 :: r.take m.toNat := rfl
            rw [e] at ha3 nn ⊢
            have hnn : ∀ z ∈ r.take m.toNat, 0 ≤ z := fun z hz => nn z (List.mem_cons_of_mem _ hz)
            have ec : Si62Neutral.callOf (5 :: r.take m.toNat) = if ((r.take m.toNat).map Int.toNat).length ≤ 8 then some (.check ((r.take m.toNat).map Int.toNat)) else none := by
              unfold Si62Neutral.callOf
              rw [List.map_cons]
              generalize (r.take m.toNat).map Int.toNat = l
              rfl
            rw [ec] at ha3 ⊢
            by_cases h8 : ((r.take m.toNat).map Int.toNat).length ≤ 8
            · rw [if_pos h8]
              refine ⟨.check ((r.take m.toNat).map Int.toNat), r.drop m.toNat, rfl, rfl, ?_, hr, fun l h => by cases h; exact h8⟩
              show m :: r = ((((r.take m.toNat).map Int.toNat).length : Nat) : Int) :: castL ((r.take m.toNat).map Int.toNat) ++ r.drop m.toNat
              unfold castL
              rw [cast_all hnn, List.length_map, List.length_take, Nat.min_eq_left hm.2, show ((m.toNat : Nat) : Int) = m by omega, List.cons_append, List.take_append_drop]
            · rw [if_neg h8] at ha3; cases ha3
          · rw [if_neg hm] at hc; simp at hc
      by_cases p6 : p = 6
      · subst p6
        have hs : PySi62.shape 6 = some (0, 0) := by decide
        rw [hs] at hc
        simp [PyFlat.rows] at hc
        obtain ⟨rfl, rfl⟩ := hc
        exact ⟨.plain, r, rfl, rfl, rfl, hr, fun l h => by cases h⟩
      by_cases p7 : p = 7
      · subst p7
        have hs : PySi62.shape 7 = some (3, 0) := by decide
        rw [hs] at hc
        simp only at hc
        match r, hc with
        | [], hc => simp at hc
        | [_], hc => simp at hc
        | [_, _], hc => simp at hc
        | x :: y :: z :: r, hc =>
          simp [PyFlat.rows] at hc
          obtain ⟨rfl, rfl⟩ := hc
          have hx := nn x (by show x ∈ [7, x, y, z]; simp)
          have hy := nn y (by show y ∈ [7, x, y, z]; simp)
          have hz := nn z (by show z ∈ [7, x, y, z]; simp)
          refine ⟨.more ⟨x.toNat, y.toNat, z.toNat⟩, r, rfl, rfl, ?_, hr, fun l h => by cases h⟩
          show x :: y :: z :: r = ((x.toNat : Nat) : Int) :: ((y.toNat : Nat) : Int) :: ((z.toNat : Nat) : Int) :: r
          rw [show ((x.toNat : Nat) : Int) = x by omega, show ((y.toNat : Nat) : Int) = y by omega, show ((z.toNat : Nat) : Int) = z by omega]
      · have hs : PySi62.shape p = none := by unfold PySi62.shape; simp [p0, p1, p2, p3, p4, p5, p6, p7]
        rw [hs] at hc; cases hc

/-- where the loop stands: the list's rest from st, the calls still to come, the state, the answers so far -/
structure At (ns : List Int) (st : Nat) (w : Wardrobe) (out : List Int) (m : Nat) : Prop where
  le : st ≤ ns.length
  good : Good4 w
  rest : ∃ (fuel : Nat) (cs : List (List (List Int))), PyFlat.calls PySi62.shape fuel (ns.drop st) = some cs ∧ (∀ c ∈ cs, Si62Neutral.asked1 (PySi62.whole c) = true) ∧ cs.length = m ∧
    PySi62.answers ns = out ++ PyFlat.told (PyFlat.played Si62Neutral.step w (cs.map PySi62.whole))
  few : out.length + 11 * m ≤ 660
theorem at_start {ns : List Int} (h : PySi62.answers_asked ns = true) : ∃ m, At ns 0 init [] m := by
  unfold PySi62.answers_asked at h
  cases hc : PySi62.calls ns with
  | none => rw [hc] at h; cases h
  | some cs =>
    rw [hc] at h
    simp only at h
    rw [Bool.and_eq_true] at h
    obtain ⟨h1, h2⟩ := h
    have hcs := hc
    unfold PySi62.calls at hc
    cases hp : PyFlat.calls PySi62.shape ns.length ns with
    | none => rw [hp] at hc; cases hc
    | some cs' =>
      rw [hp] at hc
      have e := Option.some.inj hc
      subst e
      unfold PyFlat.atMost at h1
      have hl : cs'.length ≤ 60 := by simpa using h1
      unfold Si62Neutral.asked at h2
      rw [Bool.and_eq_true] at h2
      have h3 := List.all_eq_true.mp h2.1
      refine ⟨cs'.length, ⟨Nat.zero_le _, good_init, ⟨ns.length, cs', hp, fun c hm => h3 _ (List.mem_map_of_mem hm), rfl, ?_⟩, by simp; omega⟩⟩
      unfold PySi62.answers
      rw [hcs]
      rfl
theorem at_end {ns : List Int} {st : Nat} {w : Wardrobe} {out : List Int} {m : Nat} (a : At ns st w out m) (h : ns.length ≤ st) : PySi62.answers ns = out := by
  obtain ⟨fuel, cs, h1, _, _, h4⟩ := a.rest
  rw [List.drop_eq_nil_of_le h] at h1
  have : cs = [] := by
    cases fuel <;> (unfold PyFlat.calls at h1; exact (Option.some.inj h1).symm)
  subst this
  rw [h4]
  show out ++ [] = out
  simp
theorem at_turn {ns : List Int} {st : Nat} {w : Wardrobe} {out : List Int} {m : Nat} (a : At ns st w out m) (h : st < ns.length) :
    ∃ q : Si62.Call, (∀ l, q = .check l → l.length ≤ 8) ∧ ns[st]? = some ((numsOf q).1 : Int) ∧ (∃ t, ns.drop (st + 1) = castL (numsOf q).2 ++ t) ∧ st + 1 + (numsOf q).2.length ≤ ns.length ∧
      ∃ m', m = m' + 1 ∧ At ns (st + 1 + (numsOf q).2.length) (step w q).1 (out ++ (((ansOf w q).length : Int) :: ansOf w q)) m' := by
  obtain ⟨fuel, cs, h1, h2, h3, h4⟩ := a.rest
  have hd : ns.drop st = ns[st] :: ns.drop (st + 1) := List.drop_eq_getElem_cons h
  rw [hd] at h1
  cases fuel with
  | zero => unfold PyFlat.calls at h1; cases h1
  | succ fuel =>
    cases cs with
    | nil =>
      exfalso
      unfold PyFlat.calls at h1
      split at h1
      · cases h1
      · split at h1
        · cases h1
        · cases h1
    | cons c cs =>
      obtain ⟨q, t, e1, e2, e3, e4, e5⟩ := parse h1 (h2 c (List.mem_cons_self ..))
      have len : (ns.drop (st + 1)).length = (numsOf q).2.length + t.length := by rw [e3]; simp [castL]
      rw [List.length_drop] at len
      have hstep : Si62Neutral.step w (PySi62.whole c) = ((step w q).1, ansOf w q) := by
        unfold Si62Neutral.step
        rw [e1]
        rfl
      refine ⟨q, e5, by rw [List.getElem?_eq_getElem h, e2], ⟨t, e3⟩, by omega, cs.length, by rw [← h3]; rfl, ⟨by omega, good_step a.good q, ⟨fuel, cs, ?_, fun c' hc' => h2 c' (List.mem_cons_of_mem _ hc'), rfl, ?_⟩, ?_⟩⟩
      · have : ns.drop (st + 1 + (numsOf q).2.length) = t := by
          rw [← List.drop_drop, e3]
          have : (numsOf q).2.length = (castL (numsOf q).2).length := by simp [castL]
          rw [this, List.drop_left]
        rw [this]; exact e4
      · rw [h4, List.append_assoc]
        congr 1
        show PyFlat.told ((Si62Neutral.step w (PySi62.whole c)).2 :: PyFlat.played Si62Neutral.step (Si62Neutral.step w (PySi62.whole c)).1 (cs.map PySi62.whole)) = _
        rw [hstep]
        rfl
      · have := ans_len a.good q
        have := a.few
        simp at h3
        simp
        omega
end WM
end
section
set_option maxRecDepth 100000
set_option maxHeartbeats 2000000
namespace R1
open PySem PySem.Spec PyProof.Rows L2
open Sem (wp)
/-! ### list.count -/
theorem mt_lcount {X : Cx} : MtR X "list.count" (fun x xs H Q => ∃ (a : Addr) (ns : List Int) (k : Int), x = V.ref a ∧ xs = [V.int k] ∧ SqL X.K H a (ns.map V.int) ∧ Q (.int (ns.count k : Nat)) H) := by
  intro pins s σ H x xs v us Q I rx rxs h
  obtain ⟨a, ns, k, rfl, rfl, hs, q⟩ := h
  cases rx
  obtain ⟨u, rfl, ⟨t, rfl⟩⟩ := rxs.one
  obtain ⟨its, rv, hl, _⟩ := I.list hs
  exact count_list_ints hl.isList rv.ints ⟨.int (ns.count k : Nat), H, I.tok _, ⟨_, rfl⟩, q⟩
/-! ### max(xs, default=d) -/
theorem argsMaxD (a v : Value) : argsOk "max" ⟨[a], [(Str.ofString "default", v)]⟩ := by unfold argsOk; kernel_rfl
section
variable {prog : Program} {w : World} {A : Around} {R : Result → Shared → Prop} {I : Addr} {fp wr : List Addr} {n : Nat} {P : Nat → Value → Prop} {St : Nat → Heap → Prop}
theorem nmL : (toString "max" ++ toString ".loop" : String) = "max.loop" := by decide
theorem loopD (d : Value) (W : Walks prog w A.in1 I fp wr n P St) (bt : Nat → Nat → Bool) (cmp : CmpOf prog w A.in1 .Gt P bt) (S : Addr) (nS : S ∉ fp) :
    ∀ (k j : Nat) (s : Shared) (vb : Value) (c : Nat), n - (j + 1) = k → j + 1 ≤ n → St (j + 1) s.heap → P (argBest bt j) vb →
    s.heap.get? S = some { cls := .type "list", dict := none, data := .seq #[vb, vb] c, slots := #[] } →
    (∀ v h' tk, P (argBest bt (n - 1)) v → (∀ b o, b ∉ wr → b ≠ S → s.heap.get? b = some o → h'.get? b = some o) → R (.ok (.ret v)) { s with heap := h', toks := tk }) →
    codeAny (model prog w) A (.builtin "max.loop" ⟨[.ref I, .none, .ref S], [(Str.ofString "default", d)]⟩) R s := by
  have nW : S ∉ wr := fun z => nS (W.sub _ z)
  intro k
  induction k with
  | zero =>
    intro j s vb c ek ej st pb gS fin
    have en : j + 1 = n := by omega
    refine codeAny_builtin F.entry_max_loop (?_)
    rw [Around.under_plainId (F.plain_max_loop) _]
    show wpAny _ A.in1 ((seqItems? (.ref S)) >>= _) _ _ s
    refine wpAny_bind (wpAny_seqItems gS (rfl) (?_))
    show wpAny _ A.in1 ((tryCatch (pyNext (.ref I)) _) >>= _) _ _ s
    refine wpAny_bind (wpAny_tryCatch (W.done s _ _ (en ▸ st) fun h2 tk kp => ?_))
    have gS2 := kp S _ nW gS
    show wpAny _ A.in1 ((updateSeq S (fun _ => #[])) >>= _) _ _ _
    refine wpAny_bind (wpAny_updateSeq gS2 rfl (wpAny_bind (wpAny_letGo (wpAny_pure ?_))))
    exact fin vb _ tk (by rw [← en]; exact pb) fun b o nb ns e => (Heap.get?_update_other _ _ (Ne.symm ns)).trans (kp b o nb e)
  | succ k ih =>
    intro j s vb c ek ej st pb gS fin
    have hlt : j + 1 < n := by omega
    refine codeAny_builtin F.entry_max_loop (?_)
    rw [Around.under_plainId (F.plain_max_loop) _]
    show wpAny _ A.in1 ((seqItems? (.ref S)) >>= _) _ _ s
    refine wpAny_bind (wpAny_seqItems gS (rfl) (?_))
    show wpAny _ A.in1 ((tryCatch (pyNext (.ref I)) _) >>= _) _ _ s
    refine wpAny_bind (wpAny_tryCatch (W.item (j + 1) s _ _ hlt st fun v h2 tk pv st2 kp => ?_))
    have gS2 := kp S _ nW gS
    show wpAny _ A.in1 ((tryCatch (holding [v, v] (richCompare .Gt v vb >>= _)) _) >>= _) _ _ _
    refine wpAny_bind (wpAny_tryCatch (wpAny_holding (wpAny_bind (cmp (j + 1) (argBest bt j) v vb _ _ _ pv pb ?_))))
    refine wpAny_bind (wpAny_holding (wpAny_truthy_bool (?_)))
    refine wpAny_bind (wpAny_letGo (wpAny_pure (?_)))
    cases hb : bt (j + 1) (argBest bt j) with
    | true =>
      simp only [if_true]
      refine wpAny_bind (wpAny_updateSeq gS2 rfl (wpAny_bind (wpAny_letGo ?_)))
      rw [nmL]
      refine wpAny_pure ⟨plainId_quiet (F.plain_max_loop) _, ih (j + 1) _ v _ (by omega) hlt (W.frame _ _ _ st2 fun b bf o e => ?_) (by simp only [argBest, hb, if_true]; exact pv) (Heap.get?_update_self _ gS2 rfl) fun v3 h3 tk3 p3 k3 => ?_⟩
      · exact (Heap.get?_update_other _ _ (fun z : S = b => nS (by rw [z]; exact bf))).trans e
      · exact fin v3 h3 tk3 p3 fun b o nb ns e => k3 b o nb ns ((Heap.get?_update_other _ _ (Ne.symm ns)).trans (kp b o nb e))
    | false =>
      simp only [Bool.false_eq_true, if_false]
      refine wpAny_bind (wpAny_letGo (?_))
      rw [nmL]
      refine wpAny_pure ⟨plainId_quiet (F.plain_max_loop) _, ih (j + 1) _ vb c (by omega) hlt st2 (by simp only [argBest, hb, Bool.false_eq_true, if_false]; exact pb) gS2 fun v3 h3 tk3 p3 k3 => ?_⟩
      exact fin v3 h3 tk3 p3 fun b o nb ns e => k3 b o nb ns (kp b o nb e)
theorem loopD0 {d : Value} (W : Walks prog w A.in1 I fp wr n P St) (bt : Nat → Nat → Bool) (cmp : CmpOf prog w A.in1 .Gt P bt) (S : Addr) (nS : S ∉ fp) {s : Shared} {c : Nat} (st : St 0 s.heap)
    (gS : s.heap.get? S = some { cls := .type "list", dict := none, data := .seq #[] c, slots := #[] })
    (none_ : n = 0 → ∀ h' tk, (∀ b o, b ∉ wr → b ≠ S → s.heap.get? b = some o → h'.get? b = some o) → R (.ok (.ret d)) { s with heap := h', toks := tk })
    (fin : 0 < n → ∀ v h' tk, P (argBest bt (n - 1)) v → (∀ b o, b ∉ wr → b ≠ S → s.heap.get? b = some o → h'.get? b = some o) → R (.ok (.ret v)) { s with heap := h', toks := tk }) :
    codeAny (model prog w) A (.builtin "max.loop" ⟨[.ref I, .none, .ref S], [(Str.ofString "default", d)]⟩) R s := by
  have nW : S ∉ wr := fun z => nS (W.sub _ z)
  refine codeAny_builtin F.entry_max_loop (?_)
  rw [Around.under_plainId (F.plain_max_loop) _]
  show wpAny _ A.in1 ((seqItems? (.ref S)) >>= _) _ _ s
  refine wpAny_bind (wpAny_seqItems gS (rfl) (?_))
  show wpAny _ A.in1 ((tryCatch (pyNext (.ref I)) _) >>= _) _ _ s
  by_cases hn : 0 < n
  · refine wpAny_bind (wpAny_tryCatch (W.item 0 s _ _ hn st fun v h2 tk pv st2 kp => ?_))
    have gS2 := kp S _ nW gS
    show wpAny _ A.in1 ((updateSeq S (fun _ => #[v, v])) >>= _) _ _ _
    refine wpAny_bind (wpAny_updateSeq gS2 rfl ?_)
    rw [nmL]
    refine wpAny_pure ⟨plainId_quiet (F.plain_max_loop) _, loopD d W bt cmp S nS _ 0 _ v _ rfl hn (W.frame _ _ _ st2 fun b bf o e => ?_) pv (Heap.get?_update_self _ gS2 rfl) fun v3 h3 tk3 p3 k3 => ?_⟩
    · exact (Heap.get?_update_other _ _ (fun z : S = b => nS (by rw [z]; exact bf))).trans e
    · exact fin hn v3 h3 tk3 p3 fun b o nb ns e => k3 b o nb ns ((Heap.get?_update_other _ _ (Ne.symm ns)).trans (kp b o nb e))
  · have e0 : n = 0 := by omega
    subst e0
    refine wpAny_bind (wpAny_tryCatch (W.done s _ _ st fun h2 tk kp => ?_))
    refine wpAny_bind (wpAny_rule ?_)
    exact wpAny_pure (none_ rfl h2 tk fun b o nb _ e => kp b o nb e)

variable {E : Value → Shared → Prop} {s : Shared} {l : Addr} {its : List Value} {ns : List Int} {Q : Value → Shared → Prop}
theorem maxD_raw {d : Value} (hh : A.handled = none) (hl : s.heap.IsList l its.toArray) (hi : IntsAre its ns)
    (h0 : ns = [] → ∀ h' tk, (∀ b o, s.heap.get? b = some o → h'.get? b = some o) → Q d { s with heap := h', toks := tk })
    (h : ∀ h' tk M t', (∀ b o, s.heap.get? b = some o → h'.get? b = some o) → M ∈ ns → (∀ a, a ∈ ns → a ≤ M) → Q (.int M t') { s with heap := h', toks := tk }) :
    wpAny (model prog w) A (call (.builtin "max") [.ref l] [(Str.ofString "default", d)]) Q E s := by
  obtain ⟨xs, e⟩ := hi.allInts.items
  have hn : PySem.numsOf (intItems xs).toList = ns := by rw [← e]; exact hi.numsOf
  rw [nums_intItems] at hn
  subst hn
  rw [e] at hl
  refine PyProof.Rows.kmk_tree F.kind_max F.plain_max F.entry_max (argsMaxD _ _) ?_
  show wpAny _ A.in1 ((Builtin.Builtins.bindParams "max" ["key", "default"] 0 ⟨[], [(Str.ofString "default", d)]⟩) >>= _) _ _ s
  refine wpAny_bind (wpAny_of_eq (show Builtin.Builtins.bindParams "max" ["key", "default"] 0 ⟨[], [(Str.ofString "default", d)]⟩ = pure [none, some d] from rfl) ?_)
  refine wpAny_bind (wpAny_pure (?_))
  refine wpAny_bind (iter_intList hl fun s2 e2 st hfp hlI => ?_)
  refine wpAny_bind (wpAny_newObj_type (?_))
  have nS : s2.heap.objs.size ∉ [s.heap.objs.size, l] := fun hm => Nat.lt_irrefl _ (hfp _ hm)
  rw [nmL]
  have W := Walks.list (prog := prog) (w := w) (A := A.in1) hh s.heap.objs.size l hlI (intItems xs)
  have old : ∀ h' : Heap, (∀ b o, b ∉ [s.heap.objs.size] → b ≠ s2.heap.objs.size → (s2.heap.push { cls := .type "list", data := .seq #[] }).get? b = some o → h'.get? b = some o) → ∀ b o, s.heap.get? b = some o → h'.get? b = some o := by
    intro h' k b o eb
    have lt := Heap.lt_size eb
    have lt2 : s2.heap.objs.size = s.heap.objs.size + 1 := by rw [e2]; exact size_push' ..
    refine k b o (fun z => Nat.ne_of_lt lt (List.mem_singleton.mp z)) (by rw [lt2]; exact Nat.ne_of_lt (Nat.lt_succ_of_lt lt)) ?_
    rw [e2]
    exact Heap.get?_push_of_some _ (Heap.get?_push_of_some _ eb)
  refine wpAny_pure ⟨plainId_quiet (F.plain_max_loop) _, loopD0 W (fun i j => decide (numAt xs i > numAt xs j)) (CmpOf.ints_gt (numAt xs) (fun _ _ => intItems_at)) s2.heap.objs.size nS (W.frame _ _ _ st fun b _ o eb => Heap.get?_push_of_some _ eb) (Heap.get?_push_size _ rfl) ?_ ?_⟩
  · intro en h' tk k
    rw [e2]
    refine h0 ?_ h' tk (old h' k)
    have : xs.size = 0 := by simpa [intItems] using en
    rw [Array.size_eq_zero_iff.mp this]; rfl
  · intro pn v h' tk pv k
    rw [e2]
    have hsz : 0 < xs.size := by simpa [intItems] using pn
    have pv2 : (intItems xs)[argBest (fun i j => decide (numAt xs i > numAt xs j)) ((intItems xs).size - 1)]? = some v := pv
    rw [show (intItems xs).size = xs.size by simp [intItems]] at pv2
    obtain ⟨t, rfl⟩ := intItems_at pv2
    obtain ⟨h1, h2⟩ := argBest_gt (numAt xs) (xs.size - 1)
    refine h h' tk _ t (old h' k) ?_ fun a ha => ?_
    · rw [numAt_eq]; exact PySem.getD_mem (by rw [List.length_map, Array.length_toList]; omega)
    · obtain ⟨j, hj, rfl⟩ := mem_getD ha
      rw [List.length_map, Array.length_toList] at hj
      rw [← numAt_eq]; exact h2 j (by omega)
end
/-- max(e, default=d) of a list of ints -/
def rMaxD (K : PySem.W.Frag) (vs ws : List V) (H : Hp) (Q : VK) : Prop := ∃ (a : Addr) (ns : List Int) (y : V), vs = [V.ref a] ∧ ws = [y] ∧ SqL K H a (ns.map V.int) ∧ (ns = [] → Q y H) ∧ (∀ m, m ∈ ns → (∀ z, z ∈ ns → z ≤ m) → Q (.int m) H)
def tMaxD (K : PySem.W.Frag) (te td : TE) : TE := fun σ H Q => (tCons te tNil) σ H fun vs H1 => (tCons td tNil) σ H1 fun ws H2 => rMaxD K vs ws H2 Q
theorem pe_maxD {X : Cx} {e d : Expr} {te td : TE} {p pos kpos : Pos} (hc : X.calm = true) (hg : Gl X "max") (hm : X.mg "max" = none) (he : PE X e te) (hd : PE X d td)
    (hs : starEach [e] X.env = (false, eval e X.env) :: starEach [] X.env := by rfl) :
    PE X (.Call (.Name "max" p) [e] [⟨some "default", d, kpos⟩] pos) (tMaxD X.K te td) := by
  intro pins s σ H Q I h
  refine wpAny_Call_Name_kw (ld_blt I hg hm (by decide +kernel : bootBuiltins "max" = some (.builtin "max")) ?_ (by decide) (by decide))
  have pa : PA X [e] (tCons te tNil) := pa_cons he pa_nil hs
  have pk : PK X [⟨some "default", d, kpos⟩] (tCons td tNil) := pk_cons hd pk_nil
  refine PyProof.Rows.callWith_kw (thn (pa pos pins s σ H _ I h) fun us s1 ⟨vs, H1, I1, r1, q1⟩ => thn (pk pos pins s1 σ H1 _ I1 q1) fun ws s2 ⟨zs, H2, I2, r2, q2⟩ => ?_) (by rw [hs]; rfl) (by rw [hs]; rfl)
  obtain ⟨a, ns, y, rfl, rfl, hl, q0, q⟩ := q2
  rw [Vals.ref1 r1]
  obtain ⟨u, rfl, ru⟩ := r2.one
  obtain ⟨its, rv, hl2, _⟩ := I2.list hl
  exact maxD_raw (I2.ok.hd hc) hl2.isList rv.ints (fun e0 h' tk hk => ⟨y, H2, I2.kept hk, ru, q0 e0⟩) fun h' tk m t' hk h1 h2 => ⟨.int m, H2, I2.kept hk, ⟨_, rfl⟩, q m h1 h2⟩
/-! ### for over enumerate(list), a comprehension over zip(list, list) -/
theorem for_enum {K : PySem.W.Frag} {a : Addr} {xs : List V} {g : TG} {tb : TS} {D : Ends} {σ : L2.St} {H : Hp} (Pv : Nat → L2.St → Hp → Prop) (h0 : Pv 0 σ H) (hl : ∀ i σ H, i ≤ xs.length → Pv i σ H → SqL K H a xs)
    (hs : ∀ i x σ H T, xs[i]? = some x → Pv i σ H → H T = none → g (.ref T) σ (upd H T (.tup [.int (i : Nat), x])) fun σ2 H2 => tb { D with nx := Pv (i + 1), ct := Pv (i + 1), bk := D.nx } σ2 H2) (hd : ∀ σ H, Pv xs.length σ H → D.nx σ H) :
    ∃ W : Nat → Nat → L2.St → Hp → Prop, (∃ m, W 0 m σ H) ∧ ∀ i m σ H, W i m σ H →
      ((Ite K a).stop i H ∧ D.nx σ H) ∨ ((Ite K a).go i H ∧ ∃ N : L2.St → Hp → Prop, (∀ σ' H', N σ' H' → ∃ m', m' < m ∧ W (i + 1) m' σ' H') ∧ ∀ x H', (Ite K a).yld i H x H' → g x σ H' fun σ2 H2 => tb { D with nx := N, ct := N, bk := D.nx } σ2 H2) := by
  refine ⟨fun i m σ H => m = xs.length - i ∧ i ≤ xs.length ∧ Pv i σ H, ⟨xs.length, (by simp), Nat.zero_le _, h0⟩, ?_⟩
  rintro i m σ H ⟨rfl, le, pz⟩
  have q := hl i σ H le pz
  by_cases lt : i < xs.length
  · refine .inr ⟨⟨xs, xs[i], q, (by simp [lt])⟩, Pv (i + 1), fun σ' H' pz' => ⟨xs.length - (i + 1), (by omega), rfl, lt, pz'⟩, fun x H' y => ?_⟩
    obtain ⟨T, x', rfl, hT, rfl, y⟩ := y
    exact hs i x' σ _ T (y xs q) pz hT
  · have ez : i = xs.length := by omega
    subst ez
    exact .inl ⟨⟨xs, q, Nat.le_refl _⟩, hd σ H pz⟩
theorem lc_zip {K : PySem.W.Frag} {a b : Addr} {xs ys : List V} (hxy : xs.length = ys.length) {g : TG} {tt : TT} {te : TE} {vs : List Nat} {σ : L2.St} {H1 : Hp} {D : Addr} {Qd : Hp → Prop} (Pv : Nat → Hp → Prop) (h0 : Pv 0 (upd H1 D (.lst [])))
    (hl : ∀ i H, i ≤ xs.length → Pv i H → SqL K H a xs ∧ SqL K H b ys)
    (hs : ∀ i x y H T, xs[i]? = some x → ys[i]? = some y → Pv i H → H T = none → g (.ref T) (wipe σ vs) (upd H T (.tup [x, y])) fun σ2 H2 => wipe σ2 vs = wipe σ vs ∧ tt σ2 H2 fun c H3 =>
      if c = true then te σ2 H3 fun y H4 => ∃ acc, H4 D = some (.lst acc) ∧ acc.length < sizeLine ∧ Pv (i + 1) (upd H4 D (.lst (acc ++ [y]))) else Pv (i + 1) H3) (hd : ∀ H, Pv xs.length H → Qd H) :
    ∃ W : Nat → Nat → Hp → Prop, (∃ m, W 0 m (upd H1 D (.lst []))) ∧ ∀ i m H, W i m H →
      ((Itz K a b).stop i H ∧ Qd H) ∨ ((Itz K a b).go i H ∧ ∃ Nx : Hp → Prop, (∀ H', Nx H' → ∃ m', m' < m ∧ W (i + 1) m' H') ∧ ∀ x H', (Itz K a b).yld i H x H' → g x (wipe σ vs) H' fun σ2 H2 => wipe σ2 vs = wipe σ vs ∧ tt σ2 H2 fun b H3 =>
        if b = true then te σ2 H3 fun y H4 => ∃ acc, H4 D = some (.lst acc) ∧ acc.length < sizeLine ∧ Nx (upd H4 D (.lst (acc ++ [y]))) else Nx H3) := by
  refine ⟨fun i m H => m = xs.length - i ∧ i ≤ xs.length ∧ Pv i H, ⟨xs.length, (by simp), Nat.zero_le _, h0⟩, ?_⟩
  rintro i m H ⟨rfl, le, pz⟩
  obtain ⟨q, q2⟩ := hl i H le pz
  by_cases lt : i < xs.length
  · refine .inr ⟨⟨xs, ys, xs[i], ys[i]'(by omega), q, q2, (by simp [lt]), (by simp)⟩, Pv (i + 1), fun H' pz' => ⟨xs.length - (i + 1), (by omega), rfl, lt, pz'⟩, fun x H' y => ?_⟩
    obtain ⟨T, x', y', rfl, hT, rfl, e1, e2⟩ := y
    exact hs i x' y' _ T (e1 xs q) (e2 ys q2) pz hT
  · have ez : i = xs.length := by omega
    subst ez
    exact .inl ⟨⟨xs, ys, q, q2, .inl (Nat.le_refl _)⟩, hd H pz⟩
/-- a module's constant -/
def Cst (mg : Str → Option Value) (x : Str) (v : V) : Prop := ∃ u, mg x = some u ∧ RelV v u
theorem pe_cst {X : Cx} {x : Str} {v : V} {pos : Pos} (c : Cst X.mg x v) (hg : Gl X x) (hd : (x == ("__debug__" : Str)) = false := by decide) : PE X (.Name x pos) (tC v) := by
  obtain ⟨u, h1, h2⟩ := c
  exact pe_glob hg h1 h2 hd
end R1
end
section
set_option maxRecDepth 100000
set_option maxHeartbeats 2000000
namespace WP
open PySem PySem.Spec PyProof.Rows L2 R1
open Si62 (Wardrobe)
/-! ### the text by places -/
def top (i : Nat) : Stmt := PySem.Challenge.pw_wardrobes_s01_answers.main.body.getD i (.Pass ⟨0, 0, 0, 0⟩)
abbrev sKI : Stmt := inClass (top 21) 0
abbrev sCI : Stmt := inClass (top 22) 0
abbrev sNI : Stmt := inClass (top 23) 0
abbrev sWI : Stmt := inClass (top 24) 0
abbrev sBeg : Stmt := inClass (top 24) 1
abbrev sWom : Stmt := inClass (top 24) 2
abbrev sHir : Stmt := inClass (top 24) 3
abbrev sHas : Stmt := inClass (top 24) 4
abbrev sLas : Stmt := inClass (top 24) 5
abbrev sAdK : Stmt := inClass (top 24) 6
abbrev sRef : Stmt := inClass (top 24) 7
abbrev sAdC : Stmt := inClass (top 24) 8
abbrev sAdN : Stmt := inClass (top 24) 9
abbrev sSui : Stmt := top 25
abbrev sFso : Stmt := top 26
abbrev sCho : Stmt := top 27
abbrev sRow : Stmt := top 28
abbrev sOne : Stmt := top 29
abbrev sCos : Stmt := top 30
abbrev sHin : Stmt := top 31
abbrev sBes : Stmt := top 32
abbrev sChk : Stmt := top 33
abbrev sPla : Stmt := top 34
abbrev sMor : Stmt := top 35
abbrev sAns : Stmt := top 36
abbrev sEnd : Stmt := top 37
abbrev sAll : Stmt := top 38
/-- the addresses of what the top has made -/
structure Ad where
  CK : Addr
  CC : Addr
  CN : Addr
  CW : Addr
  nb : Addr
  fKI : Addr
  dKI : FuncData
  fCI : Addr
  dCI : FuncData
  fNI : Addr
  dNI : FuncData
  fWI : Addr
  dWI : FuncData
  fBeg : Addr
  dBeg : FuncData
  fWom : Addr
  dWom : FuncData
  fHir : Addr
  dHir : FuncData
  fHas : Addr
  dHas : FuncData
  fLas : Addr
  dLas : FuncData
  fAdK : Addr
  dAdK : FuncData
  fRef : Addr
  dRef : FuncData
  fAdC : Addr
  dAdC : FuncData
  fAdN : Addr
  dAdN : FuncData
  fSui : Addr
  dSui : FuncData
  fFso : Addr
  dFso : FuncData
  fCho : Addr
  dCho : FuncData
  fRow : Addr
  dRow : FuncData
  fOne : Addr
  dOne : FuncData
  fCos : Addr
  dCos : FuncData
  fHin : Addr
  dHin : FuncData
  fBes : Addr
  dBes : FuncData
  fChk : Addr
  dChk : FuncData
  fPla : Addr
  dPla : FuncData
  fMor : Addr
  dMor : FuncData
  fAns : Addr
  dAns : FuncData
  fEnd : Addr
  dEnd : FuncData
  fAll : Addr
  dAll : FuncData
/-- what the walk asks of the top's objects -/
structure Txt (K : PySem.W.Frag) (mg : Str → Option Value) (t : Ad) : Prop where
  clK : Cls K t.CK
  nK_away : NoAttr K t.CK "away"
  nK_hire : NoAttr K t.CK "hire"
  mgK : mg "Kind" = some (.ref t.CK)
  mkK : Mk K t.CK t.fKI
  clC : Cls K t.CC
  nC_kind : NoAttr K t.CC "kind"
  nC_size : NoAttr K t.CC "size"
  nC_give : NoAttr K t.CC "give"
  mgC : mg "Costume" = some (.ref t.CC)
  mkC : Mk K t.CC t.fCI
  clN : Cls K t.CN
  nN_night : NoAttr K t.CN "night"
  nN_kind : NoAttr K t.CN "kind"
  nN_size : NoAttr K t.CN "size"
  mgN : mg "Need" = some (.ref t.CN)
  mkN : Mk K t.CN t.fNI
  clW : Cls K t.CW
  nW_kinds : NoAttr K t.CW "kinds"
  nW_costumes : NoAttr K t.CW "costumes"
  nW_needs : NoAttr K t.CW "needs"
  mgW : mg "Wardrobe" = some (.ref t.CW)
  mkW : Mk K t.CW t.fWI
  FKI : Fun K "__init__" "Kind.__init__" sKI t.fKI t.dKI
  bKI : Binds K t.dKI ["self", "away", "hire"] []
  FCI : Fun K "__init__" "Costume.__init__" sCI t.fCI t.dCI
  bCI : Binds K t.dCI ["self", "kind", "size", "give"] []
  FNI : Fun K "__init__" "Need.__init__" sNI t.fNI t.dNI
  bNI : Binds K t.dNI ["self", "night", "kind", "size"] []
  FWI : Fun K "__init__" "Wardrobe.__init__" sWI t.fWI t.dWI
  bWI : Binds K t.dWI ["self"] []
  FBeg : Fun K "begin" "Wardrobe.begin" sBeg t.fBeg t.dBeg
  bBeg : Binds K t.dBeg ["self"] []
  mBeg : Meth K t.CW "begin" t.fBeg
  FWom : Fun K "with_one_more" "Wardrobe.with_one_more" sWom t.fWom t.dWom
  bWom : Binds K t.dWom ["self", "costume"] []
  mWom : Meth K t.CW "with_one_more" t.fWom
  FHir : Fun K "hired" "Wardrobe.hired" sHir t.fHir t.dHir
  bHir : Binds K t.dHir ["self"] []
  mHir : Meth K t.CW "hired" t.fHir
  FHas : Fun K "has_kind" "Wardrobe.has_kind" sHas t.fHas t.dHas
  bHas : Binds K t.dHas ["self", "kind"] []
  mHas : Meth K t.CW "has_kind" t.fHas
  FLas : Fun K "last_night" "Wardrobe.last_night" sLas t.fLas t.dLas
  bLas : Binds K t.dLas ["self"] []
  mLas : Meth K t.CW "last_night" t.fLas
  FAdK : Fun K "add_kind" "Wardrobe.add_kind" sAdK t.fAdK t.dAdK
  bAdK : Binds K t.dAdK ["self", "away", "hire"] []
  mAdK : Meth K t.CW "add_kind" t.fAdK
  FRef : Fun K "costume_refusal" "Wardrobe.costume_refusal" sRef t.fRef t.dRef
  bRef : Binds K t.dRef ["self", "kind", "size", "give"] []
  mRef : Meth K t.CW "costume_refusal" t.fRef
  FAdC : Fun K "add_costume" "Wardrobe.add_costume" sAdC t.fAdC t.dAdC
  bAdC : Binds K t.dAdC ["self", "kind", "size", "give"] []
  mAdC : Meth K t.CW "add_costume" t.fAdC
  FAdN : Fun K "add_need" "Wardrobe.add_need" sAdN t.fAdN t.dAdN
  bAdN : Binds K t.dAdN ["self", "night", "kind", "size"] []
  mAdN : Meth K t.CW "add_need" t.fAdN
  FSui : Fun K "suits" "suits" sSui t.fSui t.dSui
  bSui : Binds K t.dSui ["costume", "need"] []
  gSui : mg "suits" = some (.ref t.fSui)
  FFso : Fun K "first_still_out" "first_still_out" sFso t.fFso t.dFso
  bFso : Binds K t.dFso ["wardrobe", "later"] []
  gFso : mg "first_still_out" = some (.ref t.fFso)
  FCho : Fun K "choices" "choices" sCho t.fCho t.dCho
  bCho : Binds K t.dCho ["wardrobe", "row"] []
  gCho : mg "choices" = some (.ref t.fCho)
  FRow : Fun K "rows_that_can_be" "rows_that_can_be" sRow t.fRow t.dRow
  bRow : Binds K t.dRow ["wardrobe"] []
  gRow : mg "rows_that_can_be" = some (.ref t.fRow)
  FOne : Fun K "row_one_by_one" "row_one_by_one" sOne t.fOne t.dOne
  bOne : Binds K t.dOne ["wardrobe"] []
  gOne : mg "row_one_by_one" = some (.ref t.fOne)
  FCos : Fun K "cost" "cost" sCos t.fCos t.dCos
  bCos : Binds K t.dCos ["wardrobe", "row"] []
  gCos : mg "cost" = some (.ref t.fCos)
  FHin : Fun K "hindrance" "hindrance" sHin t.fHin t.dHin
  bHin : Binds K t.dHin ["wardrobe", "row", "later"] []
  gHin : mg "hindrance" = some (.ref t.fHin)
  FBes : Fun K "best" "best" sBes t.fBes t.dBes
  bBes : Binds K t.dBes ["wardrobe"] []
  gBes : mg "best" = some (.ref t.fBes)
  FChk : Fun K "check" "check" sChk t.fChk t.dChk
  bChk : Binds K t.dChk ["wardrobe", "row"] []
  gChk : mg "check" = some (.ref t.fChk)
  FPla : Fun K "plain" "plain" sPla t.fPla t.dPla
  bPla : Binds K t.dPla ["wardrobe"] []
  gPla : mg "plain" = some (.ref t.fPla)
  FMor : Fun K "more" "more" sMor t.fMor t.dMor
  bMor : Binds K t.dMor ["wardrobe", "kind", "size", "give"] []
  gMor : mg "more" = some (.ref t.fMor)
  FAns : Fun K "answer" "answer" sAns t.fAns t.dAns
  bAns : Binds K t.dAns ["wardrobe", "call", "numbers"] []
  gAns : mg "answer" = some (.ref t.fAns)
  FEnd : Fun K "end_of_call" "end_of_call" sEnd t.fEnd t.dEnd
  bEnd : Binds K t.dEnd ["calls", "start"] []
  gEnd : mg "end_of_call" = some (.ref t.fEnd)
  FAll : Fun K "answers" "answers" sAll t.fAll t.dAll
  bAll : Binds K t.dAll ["calls"] []
  gAll : mg "answers" = some (.ref t.fAll)
  c_NOT_AS_TOLD : Cst mg "NOT_AS_TOLD" (.int (-1))
  c_NO_SUCH_KIND : Cst mg "NO_SUCH_KIND" (.int (-2))
  c_NO_ROOM : Cst mg "NO_ROOM" (.int (-5))
  c_CANNOT_BE : Cst mg "CANNOT_BE" (.int (-6))
  c_KINDS_AT_MOST : Cst mg "KINDS_AT_MOST" (.int (4))
  c_COSTUMES_AT_MOST : Cst mg "COSTUMES_AT_MOST" (.int (4))
  c_NEEDS_AT_MOST : Cst mg "NEEDS_AT_MOST" (.int (6))
  c_AWAY_AT_MOST : Cst mg "AWAY_AT_MOST" (.int (10))
  c_HIRE_AT_MOST : Cst mg "HIRE_AT_MOST" (.int (100000))
  c_SIZE_AT_MOST : Cst mg "SIZE_AT_MOST" (.int (1000))
  c_GIVE_AT_MOST : Cst mg "GIVE_AT_MOST" (.int (1000))
  c_NIGHT_AT_MOST : Cst mg "NIGHT_AT_MOST" (.int (1000))
  c_BEGINS : Cst mg "BEGINS" (.int (0))
  c_KIND : Cst mg "KIND" (.int (1))
  c_COSTUME : Cst mg "COSTUME" (.int (2))
  c_NEED : Cst mg "NEED" (.int (3))
  c_BEST : Cst mg "BEST" (.int (4))
  c_CHECK : Cst mg "CHECK" (.int (5))
  c_PLAIN : Cst mg "PLAIN" (.int (6))
  bl_len : mg "len" = none
  bl_abs : mg "abs" = none
  bl_sum : mg "sum" = none
  bl_min : mg "min" = none
  bl_max : mg "max" = none
  bl_zip : mg "zip" = none
  bl_enumerate : mg "enumerate" = none
  bl_range : mg "range" = none
  bl_list : mg "list" = none
  nbm : mg "NUMBERS_BEHIND" = some (.ref t.nb)
  nbt : ∀ H : Hp, SqT K H t.nb ([0, 2, 3, 3, 0, 1, 0, 3].map V.int)
/-! ### the data -/
def kF (k : Si62.Kind) : List (Str × V) := putF "hire" (.int k.hire) (putF "away" (.int k.wash) [])
def cF (c : Si62.Costume) : List (Str × V) := putF "give" (.int c.give) (putF "size" (.int c.size) (putF "kind" (.int c.kind) []))
def nF (n : Si62.Need) : List (Str × V) := putF "size" (.int n.size) (putF "kind" (.int n.kind) (putF "night" (.int n.night) []))
def wF (lk lc ln : Addr) : List (Str × V) := putF "needs" (.ref ln) (putF "costumes" (.ref lc) (putF "kinds" (.ref lk) []))
theorem kF_away (k : Si62.Kind) : (kF k).lookup ("away" : Str) = some (.int k.wash) := by
  unfold kF; rw [lookup_putF, if_neg (by decide +kernel), lookup_putF, if_pos rfl]
theorem kF_hire (k : Si62.Kind) : (kF k).lookup ("hire" : Str) = some (.int k.hire) := by
  unfold kF; rw [lookup_putF, if_pos rfl]
theorem cF_kind (c : Si62.Costume) : (cF c).lookup ("kind" : Str) = some (.int c.kind) := by
  unfold cF; rw [lookup_putF, if_neg (by decide +kernel), lookup_putF, if_neg (by decide +kernel), lookup_putF, if_pos rfl]
theorem cF_size (c : Si62.Costume) : (cF c).lookup ("size" : Str) = some (.int c.size) := by
  unfold cF; rw [lookup_putF, if_neg (by decide +kernel), lookup_putF, if_pos rfl]
theorem cF_give (c : Si62.Costume) : (cF c).lookup ("give" : Str) = some (.int c.give) := by
  unfold cF; rw [lookup_putF, if_pos rfl]
theorem nF_night (n : Si62.Need) : (nF n).lookup ("night" : Str) = some (.int n.night) := by
  unfold nF; rw [lookup_putF, if_neg (by decide +kernel), lookup_putF, if_neg (by decide +kernel), lookup_putF, if_pos rfl]
theorem nF_kind (n : Si62.Need) : (nF n).lookup ("kind" : Str) = some (.int n.kind) := by
  unfold nF; rw [lookup_putF, if_neg (by decide +kernel), lookup_putF, if_pos rfl]
theorem nF_size (n : Si62.Need) : (nF n).lookup ("size" : Str) = some (.int n.size) := by
  unfold nF; rw [lookup_putF, if_pos rfl]
theorem wF_kinds (a b c : Addr) : (wF a b c).lookup ("kinds" : Str) = some (.ref a) := by
  unfold wF; rw [lookup_putF, if_neg (by decide +kernel), lookup_putF, if_neg (by decide +kernel), lookup_putF, if_pos rfl]
theorem wF_costumes (a b c : Addr) : (wF a b c).lookup ("costumes" : Str) = some (.ref b) := by
  unfold wF; rw [lookup_putF, if_neg (by decide +kernel), lookup_putF, if_pos rfl]
theorem wF_needs (a b c : Addr) : (wF a b c).lookup ("needs" : Str) = some (.ref c) := by
  unfold wF; rw [lookup_putF, if_pos rfl]
theorem wF_no (a b c : Addr) {m : Str} (h1 : ¬ m = "needs") (h2 : ¬ m = "costumes") (h3 : ¬ m = "kinds") : (wF a b c).lookup m = none := by
  unfold wF; rw [lookup_putF, if_neg h1, lookup_putF, if_neg h2, lookup_putF, if_neg h3]; rfl
theorem ne_kc : ¬ (("kinds" : Str) = "costumes") := by decide +kernel
theorem ne_kn : ¬ (("kinds" : Str) = "needs") := by decide +kernel
theorem ne_cn : ¬ (("costumes" : Str) = "needs") := by decide +kernel
theorem ne_ck : ¬ (("costumes" : Str) = "kinds") := by decide +kernel
theorem wF_eq (a b c : Addr) : wF a b c = ([("kinds", V.ref a), ("costumes", V.ref b), ("needs", V.ref c)] : List (Str × V)) := by
  unfold wF
  have e1 : putF "costumes" (V.ref b) (putF "kinds" (V.ref a) []) = ([("kinds", V.ref a), ("costumes", V.ref b)] : List (Str × V)) := by
    show (if ("kinds" : Str) = "costumes" then _ else (("kinds" : Str), V.ref a) :: putF "costumes" (V.ref b) []) = _
    rw [if_neg ne_kc]; rfl
  rw [e1]
  show (if ("kinds" : Str) = "needs" then _ else (("kinds" : Str), V.ref a) :: (if ("costumes" : Str) = "needs" then _ else (("costumes" : Str), V.ref b) :: putF "needs" (V.ref c) [])) = _
  rw [if_neg ne_kn, if_neg ne_cn]; rfl
theorem wF_putK (a b c x : Addr) : putF "kinds" (.ref x) (wF a b c) = wF x b c := by
  rw [wF_eq, wF_eq]
  show (if ("kinds" : Str) = "kinds" then _ else _) = _
  rw [if_pos rfl]
theorem wF_putC (a b c x : Addr) : putF "costumes" (.ref x) (wF a b c) = wF a x c := by
  rw [wF_eq, wF_eq]
  show (if ("kinds" : Str) = "costumes" then _ else (("kinds" : Str), V.ref a) :: (if ("costumes" : Str) = "costumes" then _ else _)) = _
  rw [if_neg ne_kc, if_pos rfl]
theorem wF_putN (a b c x : Addr) : putF "needs" (.ref x) (wF a b c) = wF a b x := by
  rw [wF_eq, wF_eq]
  show (if ("kinds" : Str) = "needs" then _ else (("kinds" : Str), V.ref a) :: (if ("costumes" : Str) = "needs" then _ else (("costumes" : Str), V.ref b) :: (if ("needs" : Str) = "needs" then _ else _))) = _
  rw [if_neg ne_kn, if_neg ne_cn, if_pos rfl]
theorem wF_len (a b c : Addr) : (wF a b c).length < 1000 := by rw [wF_eq]; show 3 < 1000; decide

/-- an instance of C with x's attributes stands at a -/
def InsAt {α : Type} (C : Addr) (f : α → List (Str × V)) (H : Hp) (a : Addr) (x : α) : Prop := ∃ dx, H a = some (.ins C dx (f x))
/-- the list at l holds instances of C, which bear xs -/
def ObjsAt {α : Type} (C : Addr) (f : α → List (Str × V)) (H : Hp) (l : Addr) (xs : List α) : Prop :=
  ∃ as : List Addr, H l = some (.lst (as.map V.ref)) ∧ as.length = xs.length ∧ ∀ (i : Nat) (a : Addr) (x : α), as[i]? = some a → xs[i]? = some x → InsAt C f H a x
/-- a wardrobe -/
structure WAt (t : Ad) (H : Hp) (p lk lc ln : Addr) (w : Wardrobe) : Prop where
  ob : ∃ dx, H p = some (.ins t.CW dx (wF lk lc ln))
  ks : ObjsAt t.CK kF H lk w.kinds
  cs : ObjsAt t.CC cF H lc w.costumes
  ns : ObjsAt t.CN nF H ln w.needs
  kc : lk ≠ lc
  kn : lk ≠ ln
  cn : lc ≠ ln
section
variable {α : Type} {C : Addr} {f : α → List (Str × V)} {H H' : Hp} {l : Addr} {xs : List α}
theorem InsAt.same {a : Addr} {x : α} (h : InsAt C f H a x) (s : Same H H') : InsAt C f H' a x := let ⟨d, e⟩ := h; ⟨d, s _ _ e⟩
theorem ObjsAt.same (h : ObjsAt C f H l xs) (s : Same H H') : ObjsAt C f H' l xs := let ⟨as, h1, h2, h3⟩ := h; ⟨as, s _ _ h1, h2, fun i a x e1 e2 => (h3 i a x e1 e2).same s⟩
/-- .. where something else than instances may have changed -/
theorem ObjsAt.keep (h : ObjsAt C f H l xs) {B : Addr → Prop} (k : ∀ b o, H b = some o → ¬ B b → H' b = some o) (hl : ¬ B l) (hb : ∀ b dx fs, H b = some (.ins C dx fs) → ¬ B b) : ObjsAt C f H' l xs :=
  let ⟨as, h1, h2, h3⟩ := h
  ⟨as, k _ _ h1 hl, h2, fun i a x e1 e2 => let ⟨d, e⟩ := h3 i a x e1 e2; ⟨d, k _ _ e (hb _ _ _ e)⟩⟩
theorem ObjsAt.get (h : ObjsAt C f H l xs) {i : Nat} {x : α} (e : xs[i]? = some x) : ∃ (vs : List V) (a dx : Addr), H l = some (.lst vs) ∧ vs[i]? = some (V.ref a) ∧ H a = some (.ins C dx (f x)) ∧ vs.length = xs.length := by
  obtain ⟨as, h1, h2, h3⟩ := h
  have hi : i < as.length := by rw [h2]; exact (List.getElem?_eq_some_iff.mp e).1
  obtain ⟨d, hd⟩ := h3 i _ x (List.getElem?_eq_getElem hi) e
  exact ⟨_, as[i], d, h1, by rw [List.getElem?_map, List.getElem?_eq_getElem hi]; rfl, hd, by rw [List.length_map, h2]⟩
theorem ObjsAt.lst (h : ObjsAt C f H l xs) : ∃ vs : List V, H l = some (.lst vs) ∧ vs.length = xs.length := let ⟨as, h1, h2, _⟩ := h; ⟨_, h1, by rw [List.length_map, h2]⟩
/-- one more -/
theorem ObjsAt.snoc {vs : List V} {a : Addr} {x : α} (h : ObjsAt C f H l xs) (hv : H l = some (.lst vs)) (k : ∀ b o, H b = some o → b ≠ l → H' b = some o) (hl : H' l = some (.lst (vs ++ [V.ref a]))) (ha : InsAt C f H' a x) : ObjsAt C f H' l (xs ++ [x]) := by
  obtain ⟨as, h1, h2, h3⟩ := h
  rw [h1] at hv
  have e0 : as.map V.ref = vs := by injection hv with e; injection e
  subst e0
  refine ⟨as ++ [a], by rw [hl, List.map_append]; rfl, by rw [List.length_append, List.length_append, h2]; rfl, fun i b y e1 e2 => ?_⟩
  by_cases hi : i < as.length
  · rw [List.getElem?_append_left hi] at e1
    rw [List.getElem?_append_left (by rw [← h2]; exact hi)] at e2
    obtain ⟨d, hd⟩ := h3 i b y e1 e2
    exact ⟨d, k _ _ hd (ne_of hd h1 (by intro q; cases q))⟩
  · rw [List.getElem?_append_right (by omega)] at e1
    rw [List.getElem?_append_right (by omega), ← h2] at e2
    have hz : i - as.length = 0 := by
      have := (List.getElem?_eq_some_iff.mp e1).1
      simpa using this
    rw [hz] at e1 e2
    have ea : a = b := by simpa using e1
    have ex : x = y := by simpa using e2
    subst ea ex
    exact ha
end
theorem WAt.same {t : Ad} {H H' : Hp} {p lk lc ln : Addr} {w : Wardrobe} (h : WAt t H p lk lc ln w) (s : Same H H') : WAt t H' p lk lc ln w :=
  ⟨let ⟨d, e⟩ := h.ob; ⟨d, s _ _ e⟩, h.ks.same s, h.cs.same s, h.ns.same s, h.kc, h.kn, h.cn⟩
theorem Same.upd {H : Hp} {l : Addr} {o : HO} (h : H l = Option.none) : Same H (upd H l o) := fun b u e => by rw [upd_ne (ne_of_none e h)]; exact e
theorem Same.put {H H' : Hp} {l : Addr} {o : HO} (s : Same H H') (h : H l = Option.none) : Same H (L2.upd H' l o) := fun b u e => by rw [upd_ne (ne_of_none e h)]; exact s b u e
def ii (l : List Nat) : List V := l.map fun n : Nat => V.int n
theorem ii_map (l : List Nat) : ii l = (WM.castL l).map V.int := by unfold ii WM.castL; rw [List.map_map]; rfl
theorem ii_get {l : List Nat} {i x : Nat} (h : l[i]? = some x) : (ii l)[i]? = some (V.int x) := by unfold ii; rw [List.getElem?_map, h]; rfl
theorem ii_len (l : List Nat) : (ii l).length = l.length := by unfold ii; simp
theorem kind_get {w : Wardrobe} {k : Nat} (h : k < w.kinds.length) : w.kinds[k]? = some (w.kind k) := by
  unfold Wardrobe.kind; rw [List.getD_eq_getElem?_getD, List.getElem?_eq_getElem h]; rfl
theorem costume_get {w : Wardrobe} {k : Nat} (h : k < w.costumes.length) : w.costumes[k]? = some (w.costume k) := by
  unfold Wardrobe.costume; rw [List.getD_eq_getElem?_getD, List.getElem?_eq_getElem h]; rfl
theorem need_get {w : Wardrobe} {k : Nat} (h : k < w.needs.length) : w.needs[k]? = some (w.need k) := by
  unfold Wardrobe.need; rw [List.getD_eq_getElem?_getD, List.getElem?_eq_getElem h]; rfl
end WP
end
section
set_option maxRecDepth 100000
set_option maxHeartbeats 2000000
namespace WP
open PySem PySem.Spec PyProof.Rows L2 R1
open Si62 (Wardrobe)
section
variable {P : Program} {w : World} {K : PySem.W.Frag} {mg : Str → Option Value} {base : Heap} {t : Ad}
/-! ### the small classes -/
def spKI (t : Ad) : Sp := fun vs H Q _ => ∃ (p dx : Addr) (k : Si62.Kind), vs = [.ref p, .int k.wash, .int k.hire] ∧ H p = some (.ins t.CK dx []) ∧ ∀ H' : Hp, InsAt t.CK kF H' p k → (∀ b o, H b = some o → b ≠ p → H' b = some o) → Q .non H'
def spCI (t : Ad) : Sp := fun vs H Q _ => ∃ (p dx : Addr) (c : Si62.Costume), vs = [.ref p, .int c.kind, .int c.size, .int c.give] ∧ H p = some (.ins t.CC dx []) ∧ ∀ H' : Hp, InsAt t.CC cF H' p c → (∀ b o, H b = some o → b ≠ p → H' b = some o) → Q .non H'
def spNI (t : Ad) : Sp := fun vs H Q _ => ∃ (p dx : Addr) (n : Si62.Need), vs = [.ref p, .int n.night, .int n.kind, .int n.size] ∧ H p = some (.ins t.CN dx []) ∧ ∀ H' : Hp, InsAt t.CN nF H' p n → (∀ b o, H b = some o → b ≠ p → H' b = some o) → Q .non H'
theorem scKI : FnScope ["self", "away", "hire"] ["self", "away", "hire"] (defScope sKI) := ⟨rfl, rfl, rfl, by decide +kernel, rfl, by decide +kernel, by decide +kernel⟩
theorem ok_KI (T : Txt K mg t) : FnOk P w K mg base CX0 1 t.fKI t.dKI ["self", "away", "hire"] (spKI t) := by
  refine T.FKI.ok scKI (fun vs H Q E h => ?_) (fun cdv A outer s H vs Q E hr h => ?_)
  · obtain ⟨p, dx, k, rfl, _⟩ := h
    rfl
  · obtain ⟨p, dx, k, rfl, hp, kk⟩ := h
    refine ⟨_, pss_cons (ps_fld (pv 0) (pv 1) rfl) (pss_one (ps_fld (pv 0) (pv 2) rfl)), ?_⟩
    refine ⟨_, rfl, _, rfl, p, t.CK, dx, [], rfl, hp, T.clK, T.nK_away, (by show 0 < 1000; decide), ?_⟩
    refine ⟨_, rfl, _, rfl, p, t.CK, dx, _, rfl, upd_same, T.clK, T.nK_hire, (by show 1 < 1000; decide), ?_⟩
    exact kk _ ⟨dx, upd_same⟩ fun b o e hb => by rw [upd_ne hb, upd_ne hb]; exact e
theorem scCI : FnScope ["self", "kind", "size", "give"] ["self", "kind", "size", "give"] (defScope sCI) := ⟨rfl, rfl, rfl, by decide +kernel, rfl, by decide +kernel, by decide +kernel⟩
theorem len2 (a b : Str) (x y : V) : (putF a x (putF b y [])).length < 1000 := by
  have h := length_putF a x (putF b y [])
  have h2 := length_putF b y []
  simp at h2
  omega
theorem ok_CI (T : Txt K mg t) : FnOk P w K mg base CX0 1 t.fCI t.dCI ["self", "kind", "size", "give"] (spCI t) := by
  refine T.FCI.ok scCI (fun vs H Q E h => ?_) (fun cdv A outer s H vs Q E hr h => ?_)
  · obtain ⟨p, dx, k, rfl, _⟩ := h
    rfl
  · obtain ⟨p, dx, k, rfl, hp, kk⟩ := h
    refine ⟨_, pss_cons (ps_fld (pv 0) (pv 1) rfl) (pss_cons (ps_fld (pv 0) (pv 2) rfl) (pss_one (ps_fld (pv 0) (pv 3) rfl))), ?_⟩
    refine ⟨_, rfl, _, rfl, p, t.CC, dx, [], rfl, hp, T.clC, T.nC_kind, (by show 0 < 1000; decide), ?_⟩
    refine ⟨_, rfl, _, rfl, p, t.CC, dx, _, rfl, upd_same, T.clC, T.nC_size, (by show 1 < 1000; decide), ?_⟩
    refine ⟨_, rfl, _, rfl, p, t.CC, dx, _, rfl, upd_same, T.clC, T.nC_give, len2 _ _ _ _, ?_⟩
    exact kk _ ⟨dx, upd_same⟩ fun b o e hb => by rw [upd_ne hb, upd_ne hb, upd_ne hb]; exact e
theorem scNI : FnScope ["self", "night", "kind", "size"] ["self", "night", "kind", "size"] (defScope sNI) := ⟨rfl, rfl, rfl, by decide +kernel, rfl, by decide +kernel, by decide +kernel⟩
theorem ok_NI (T : Txt K mg t) : FnOk P w K mg base CX0 1 t.fNI t.dNI ["self", "night", "kind", "size"] (spNI t) := by
  refine T.FNI.ok scNI (fun vs H Q E h => ?_) (fun cdv A outer s H vs Q E hr h => ?_)
  · obtain ⟨p, dx, k, rfl, _⟩ := h
    rfl
  · obtain ⟨p, dx, k, rfl, hp, kk⟩ := h
    refine ⟨_, pss_cons (ps_fld (pv 0) (pv 1) rfl) (pss_cons (ps_fld (pv 0) (pv 2) rfl) (pss_one (ps_fld (pv 0) (pv 3) rfl))), ?_⟩
    refine ⟨_, rfl, _, rfl, p, t.CN, dx, [], rfl, hp, T.clN, T.nN_night, (by show 0 < 1000; decide), ?_⟩
    refine ⟨_, rfl, _, rfl, p, t.CN, dx, _, rfl, upd_same, T.clN, T.nN_kind, (by show 1 < 1000; decide), ?_⟩
    refine ⟨_, rfl, _, rfl, p, t.CN, dx, _, rfl, upd_same, T.clN, T.nN_size, len2 _ _ _ _, ?_⟩
    exact kk _ ⟨dx, upd_same⟩ fun b o e hb => by rw [upd_ne hb, upd_ne hb, upd_ne hb]; exact e
/-! ### the wardrobe begins -/
def Fresh3 (H : Hp) (lk lc ln : Addr) : Prop := H lk = none ∧ H lc = none ∧ H ln = none
def spBeg (t : Ad) : Sp := fun vs H Q _ => ∃ (p dx : Addr) (fs : List (Str × V)), vs = [.ref p] ∧ H p = some (.ins t.CW dx fs) ∧ (fs = [] ∨ ∃ a b c, fs = wF a b c) ∧
  ∀ (H' : Hp) (lk lc ln : Addr), WAt t H' p lk lc ln Si62.init → Fresh3 H lk lc ln → (∀ b o, H b = some o → b ≠ p → H' b = some o) → Q (.int 0) H'
theorem scBeg : FnScope ["self"] ["self"] (defScope sBeg) := ⟨rfl, rfl, rfl, by decide +kernel, rfl, by decide +kernel, by decide +kernel⟩
theorem wF_put3 {fs : List (Str × V)} (h : fs = [] ∨ ∃ a b c, fs = wF a b c) (x y z : Addr) : putF "needs" (.ref z) (putF "costumes" (.ref y) (putF "kinds" (.ref x) fs)) = wF x y z := by
  rcases h with rfl | ⟨a, b, c, rfl⟩
  · rfl
  · rw [wF_putK, wF_putC, wF_putN]
theorem nil_objs {α : Type} {C : Addr} {f : α → List (Str × V)} {H : Hp} {l : Addr} (h : H l = some (.lst [])) : ObjsAt C f H l [] := ⟨[], h, rfl, fun i a x e => by simp at e⟩
theorem ok_Beg (T : Txt K mg t) : FnOk P w K mg base CX0 1 t.fBeg t.dBeg ["self"] (spBeg t) := by
  refine T.FBeg.ok scBeg (fun vs H Q E h => ?_) (fun cdv A outer s H vs Q E hr h => ?_)
  · obtain ⟨p, dx, k, rfl, _⟩ := h
    rfl
  · obtain ⟨p, dx, fs, rfl, hp, hf, kk⟩ := h
    have hl0 : fs.length ≤ 3 := by
      rcases hf with rfl | ⟨a, b, c, rfl⟩
      · exact Nat.zero_le _
      · rw [wF_eq]; exact Nat.le_refl _
    refine ⟨_, pss_cons (ps_fld (pv 0) (pe_lst pa_nil) rfl) (pss_cons (ps_fld (pv 0) (pe_lst pa_nil) rfl) (pss_cons (ps_fld (pv 0) (pe_lst pa_nil) rfl) (pss_one (ps_ret pe_int)))), ?_⟩
    refine ⟨Nat.zero_le _, fun lk hk => ?_⟩
    have pk : p ≠ lk := ne_of_none hp hk
    refine ⟨_, rfl, p, t.CW, dx, fs, rfl, (by rw [upd_ne pk]; exact hp), T.clW, T.nW_kinds, (by omega), ?_⟩
    refine ⟨Nat.zero_le _, fun lc hc => ?_⟩
    have pc : p ≠ lc := ne_of_none upd_same hc
    have kc : lk ≠ lc := fun e => by rw [← e, upd_ne pk.symm, upd_same] at hc; cases hc
    refine ⟨_, rfl, p, t.CW, dx, _, rfl, (by rw [upd_ne pc]; exact upd_same), T.clW, T.nW_costumes, (by have := length_putF "kinds" (V.ref lk) fs; omega), ?_⟩
    refine ⟨Nat.zero_le _, fun ln hn => ?_⟩
    have pn : p ≠ ln := ne_of_none upd_same hn
    have kn : lk ≠ ln := fun e => by rw [← e, upd_ne pk.symm, upd_ne kc, upd_ne pk.symm, upd_same] at hn; cases hn
    have cn : lc ≠ ln := fun e => by rw [← e, upd_ne pc.symm, upd_same] at hn; cases hn
    refine ⟨_, rfl, p, t.CW, dx, _, rfl, (by rw [upd_ne pn]; exact upd_same), T.clW, T.nW_needs, (by have := length_putF "kinds" (V.ref lk) fs; have := length_putF "costumes" (V.ref lc) (putF "kinds" (V.ref lk) fs); omega), ?_⟩
    refine kk _ lk lc ln ⟨⟨dx, by rw [upd_same, wF_put3 hf]⟩, nil_objs ?_, nil_objs ?_, nil_objs ?_, kc, kn, cn⟩ ⟨hk, ?_, ?_⟩ ?_
    · rw [upd_ne pk.symm, upd_ne kn, upd_ne pk.symm, upd_ne kc, upd_ne pk.symm, upd_same]
    · rw [upd_ne pc.symm, upd_ne cn, upd_ne pc.symm, upd_same]
    · rw [upd_ne pn.symm, upd_same]
    · rw [upd_ne pc.symm, upd_ne kc.symm] at hc; exact hc
    · rw [upd_ne pn.symm, upd_ne cn.symm, upd_ne pn.symm, upd_ne kn.symm] at hn; exact hn
    · intro b o e hb
      have b1 : b ≠ lk := ne_of_none e hk
      have b2 : b ≠ lc := by
        rw [upd_ne pc.symm, upd_ne kc.symm] at hc; exact ne_of_none e hc
      have b3 : b ≠ ln := by
        rw [upd_ne pn.symm, upd_ne cn.symm, upd_ne pn.symm, upd_ne kn.symm] at hn; exact ne_of_none e hn
      rw [upd_ne hb, upd_ne b3, upd_ne hb, upd_ne b2, upd_ne hb, upd_ne b1]; exact e
def spWI (t : Ad) : Sp := fun vs H Q _ => ∃ (p dx : Addr), vs = [.ref p] ∧ H p = some (.ins t.CW dx []) ∧
  ∀ (H' : Hp) (lk lc ln : Addr), WAt t H' p lk lc ln Si62.init → Fresh3 H lk lc ln → (∀ b o, H b = some o → b ≠ p → H' b = some o) → Q .non H'
theorem scWI : FnScope ["self"] ["self"] (defScope sWI) := ⟨rfl, rfl, rfl, by decide +kernel, rfl, by decide +kernel, by decide +kernel⟩
theorem ok_WI (T : Txt K mg t) : FnOk P w K mg base CX0 2 t.fWI t.dWI ["self"] (spWI t) := by
  refine T.FWI.ok scWI (fun vs H Q E h => ?_) (fun cdv A outer s H vs Q E hr h => ?_)
  · obtain ⟨p, dx, rfl, _⟩ := h
    rfl
  · obtain ⟨p, dx, rfl, hp, kk⟩ := h
    refine ⟨_, pss_one (ps_expr (pe_meth0 (pv 0) T.clW T.mBeg (ok_Beg T) hr T.bBeg .nil pass0)), ?_⟩
    refine ⟨_, rfl, p, dx, [], rfl, hp, rfl, p, dx, [], rfl, hp, .inl rfl, fun H' lk lc ln h1 h2 h3 => ?_⟩
    exact kk H' lk lc ln h1 h2 h3
end
end WP
end
section
set_option maxRecDepth 100000
set_option maxHeartbeats 2000000
namespace WP
open PySem PySem.Spec PyProof.Rows L2 R1
open Si62 (Wardrobe)
section
variable {P : Program} {w : World} {K : PySem.W.Frag} {mg : Str → Option Value} {base : Heap} {t : Ad}
/-! ### what is only read -/
def spHir (t : Ad) : Sp := fun vs H Q _ => ∃ (p lk lc ln : Addr) (W : Wardrobe), vs = [.ref p] ∧ WAt t H p lk lc ln W ∧ Q (.int W.costumes.length) H
theorem scHir : FnScope ["self"] ["self"] (defScope sHir) := ⟨rfl, rfl, rfl, by decide +kernel, rfl, by decide +kernel, by decide +kernel⟩
theorem ok_Hir (T : Txt K mg t) : FnOk P w K mg base CX0 1 t.fHir t.dHir ["self"] (spHir t) := by
  refine T.FHir.ok scHir (fun vs H Q E h => ?_) (fun cdv A outer s H vs Q E hr h => ?_)
  · obtain ⟨p, lk, lc, ln, W, rfl, _⟩ := h
    rfl
  · obtain ⟨p, lk, lc, ln, W, rfl, hW, q⟩ := h
    obtain ⟨dx, hp⟩ := hW.ob
    obtain ⟨vs, hv, el⟩ := hW.cs.lst
    refine ⟨_, pss_one (ps_ret (pe_callB call_len_seq (by rfl) T.bl_len PySem.boot_len (pa_cons (pe_fld (pv 0) rfl) pa_nil))), ?_⟩
    refine ⟨_, rfl, p, t.CW, dx, _, _, rfl, hp, T.clW, T.nW_costumes, wF_costumes _ _ _, lc, vs, rfl, .inl (SqL.of hv), ?_⟩
    rw [el]; exact q
def spHas (t : Ad) : Sp := fun vs H Q _ => ∃ (p lk lc ln : Addr) (W : Wardrobe) (k : Nat), vs = [.ref p, .int k] ∧ WAt t H p lk lc ln W ∧ Q (.bl (decide (k < W.kinds.length))) H
theorem scHas : FnScope ["self", "kind"] ["self", "kind"] (defScope sHas) := ⟨rfl, rfl, rfl, by decide +kernel, rfl, by decide +kernel, by decide +kernel⟩
theorem dlt (a b : Nat) : decide ((a : Int) < (b : Int)) = decide (a < b) := by
  by_cases h : a < b
  · rw [decide_eq_true h, decide_eq_true (by omega)]
  · rw [decide_eq_false h, decide_eq_false (by omega)]
theorem ok_Has (T : Txt K mg t) : FnOk P w K mg base CX0 1 t.fHas t.dHas ["self", "kind"] (spHas t) := by
  refine T.FHas.ok scHas (fun vs H Q E h => ?_) (fun cdv A outer s H vs Q E hr h => ?_)
  · obtain ⟨p, lk, lc, ln, W, k, rfl, _⟩ := h
    rfl
  · obtain ⟨p, lk, lc, ln, W, k, rfl, hW, q⟩ := h
    obtain ⟨dx, hp⟩ := hW.ob
    obtain ⟨vs, hv, el⟩ := hW.ks.lst
    refine ⟨_, pss_one (ps_ret (pe_cmpR op_lt (pv 1) (pe_callB call_len_seq (by rfl) T.bl_len PySem.boot_len (pa_cons (pe_fld (pv 0) rfl) pa_nil)) (nomark _))), ?_⟩
    refine ⟨_, rfl, _, rfl, p, t.CW, dx, _, _, rfl, hp, T.clW, T.nW_kinds, wF_kinds _ _ _, lk, vs, rfl, .inl (SqL.of hv), _, _, rfl, rfl, ?_⟩
    dsimp only
    rw [el, dlt]; exact q
def lastN (W : Wardrobe) : Nat := (W.needs.getLast?.map fun x => x.night).getD 0
def spLas (t : Ad) : Sp := fun vs H Q _ => ∃ (p lk lc ln : Addr) (W : Wardrobe), vs = [.ref p] ∧ WAt t H p lk lc ln W ∧ Q (.int (lastN W)) H
theorem scLas : FnScope ["self"] ["self"] (defScope sLas) := ⟨rfl, rfl, rfl, by decide +kernel, rfl, by decide +kernel, by decide +kernel⟩
theorem ok_Las (T : Txt K mg t) : FnOk P w K mg base CX0 1 t.fLas t.dLas ["self"] (spLas t) := by
  refine T.FLas.ok scLas (fun vs H Q E h => ?_) (fun cdv A outer s H vs Q E hr h => ?_)
  · obtain ⟨p, lk, lc, ln, W, rfl, _⟩ := h
    rfl
  · obtain ⟨p, lk, lc, ln, W, rfl, hW, q⟩ := h
    obtain ⟨dx, hp⟩ := hW.ob
    obtain ⟨vs, hv, el⟩ := hW.ns.lst
    refine ⟨_, pss_cons (ps_if (pt_cmpR op_eq (pe_callB call_len_seq (by rfl) T.bl_len PySem.boot_len (pa_cons (pe_fld (pv 0) rfl) pa_nil)) pe_int (nomark _)) (pss_one (ps_ret pe_int)) pss_nil)
      (pss_one (ps_ret (pe_fld (pe_ix ix_list (pe_fld (pv 0) rfl) (pe_un un_neg pe_int) (fun _ _ => rfl)) rfl))), ?_⟩
    refine ⟨_, rfl, p, t.CW, dx, _, _, rfl, hp, T.clW, T.nW_needs, wF_needs _ _ _, ln, vs, rfl, .inl (SqL.of hv), rfl, _, rfl, ite2 (fun e => ?_) (fun e => ?_)⟩
    · have e0 : V.int (vs.length : Int) = V.int 0 := of_decide_eq_true e
      have e1 : vs.length = 0 := by injection e0 with e0; omega
      have e2 : W.needs = [] := List.length_eq_zero_iff.mp (by omega)
      have : lastN W = 0 := by unfold lastN; rw [e2]; rfl
      rw [this] at q
      exact q
    · have ne : W.needs.length ≠ 0 := fun z => e (decide_eq_true (by rw [el, z]; rfl))
      have hlt : W.needs.length - 1 < W.needs.length := by omega
      obtain ⟨vs', a, da, h1, h2, h3, h4⟩ := hW.ns.get (need_get hlt)
      rw [hv] at h1
      cases h1
      refine ⟨_, rfl, p, t.CW, dx, _, _, rfl, hp, T.clW, T.nW_needs, wF_needs _ _ _, _, rfl, ln, vs, _, V.ref a, rfl, rfl, SqL.of hv, ?_, a, t.CN, da, _, _, rfl, h3, T.clN, T.nN_night, nF_night _, ?_⟩
      · show atI vs (-1) = some (V.ref a)
        unfold atI ixN
        rw [if_neg (by decide), if_pos (by omega)]
        show vs[((-1 : Int) + (vs.length : Int)).toNat]? = _
        rw [show ((-1 : Int) + (vs.length : Int)).toNat = W.needs.length - 1 by omega]
        exact h2
      · have : lastN W = (W.need (W.needs.length - 1)).night := by
          unfold lastN
          rw [List.getLast?_eq_getElem?, need_get hlt]
          rfl
        rw [this] at q
        exact q
/-! ### suits -/
def spSui (t : Ad) : Sp := fun vs H Q _ => ∃ (a b : Addr) (c : Si62.Costume) (n : Si62.Need), vs = [.ref a, .ref b] ∧ InsAt t.CC cF H a c ∧ InsAt t.CN nF H b n ∧ Q (.bl (WM.suitsC c n)) H
theorem scSui : FnScope ["costume", "need"] ["costume", "need"] (defScope sSui) := ⟨rfl, rfl, rfl, by decide +kernel, rfl, by decide +kernel, by decide +kernel⟩
theorem abs_apart (a b g : Nat) : decide ((if (a : Int) - (b : Int) < 0 then -((a : Int) - (b : Int)) else (a : Int) - (b : Int)) ≤ (g : Int)) = decide (Si62.apart a b ≤ g) := by
  unfold Si62.apart
  by_cases h : (a - b) + (b - a) ≤ g
  · rw [decide_eq_true h]
    apply decide_eq_true
    split <;> omega
  · rw [decide_eq_false h]
    apply decide_eq_false
    split <;> omega
theorem boot_abs' : bootBuiltins "abs" = some (.builtin "abs") := by decide +kernel
theorem ok_Sui (T : Txt K mg t) : FnOk P w K mg base CX0 1 t.fSui t.dSui ["costume", "need"] (spSui t) := by
  refine T.FSui.ok scSui (fun vs H Q E h => ?_) (fun cdv A outer s H vs Q E hr h => ?_)
  · obtain ⟨a, b, c, n, rfl, _⟩ := h
    rfl
  · obtain ⟨a, b, c, n, rfl, ⟨da, ha⟩, ⟨db, hb⟩, q⟩ := h
    refine ⟨_, pss_one (ps_ret (pe_and (pe_cmpR op_eq (pe_fld (pv 0) rfl) (pe_fld (pv 1) rfl) (nomark _))
      (pe_one (pe_cmpR op_le (pe_callB call_abs (by rfl) T.bl_abs boot_abs' (pa_cons (pe_op op_sub (pe_fld (pv 0) rfl) (pe_fld (pv 1) rfl)) pa_nil)) (pe_fld (pv 0) rfl) (nomark _))))), ?_⟩
    refine ⟨_, rfl, a, t.CC, da, _, _, rfl, ha, T.clC, T.nC_kind, cF_kind _, _, rfl, b, t.CN, db, _, _, rfl, hb, T.clN, T.nN_kind, nF_kind _, rfl, _, rfl, ite2 (fun e => ?_) (fun e => ?_)⟩
    · have e0 : V.int (c.kind : Int) = V.int (n.kind : Int) := of_decide_eq_true e
      have e1 : c.kind = n.kind := by injection e0 with e0; omega
      refine ⟨_, rfl, a, t.CC, da, _, _, rfl, ha, T.clC, T.nC_size, cF_size _, _, rfl, b, t.CN, db, _, _, rfl, hb, T.clN, T.nN_size, nF_size _, _, _, rfl, rfl, _, rfl,
        _, rfl, a, t.CC, da, _, _, rfl, ha, T.clC, T.nC_give, cF_give _, _, _, rfl, rfl, ?_⟩
      dsimp only
      rw [abs_apart]
      have : WM.suitsC c n = decide (Si62.apart c.size n.size ≤ c.give) := by unfold WM.suitsC; rw [e1]; simp
      rw [this] at q; exact q
    · have e1 : ¬ c.kind = n.kind := fun z => e (decide_eq_true (by rw [z]))
      have : WM.suitsC c n = false := by unfold WM.suitsC; rw [beq_false_of_ne e1]; rfl
      rw [this] at q; exact q
/-! ### first_still_out -/
def spFso (t : Ad) : Sp := fun vs H Q _ => ∃ (p lk lc ln : Addr) (W : Wardrobe) (j : Nat), vs = [.ref p, .int j] ∧ WAt t H p lk lc ln W ∧ WM.Good W ∧ j < W.needs.length ∧ ∀ f : Nat, WM.IsFso W j f → Q (.int f) H
theorem scFso : FnScope ["wardrobe", "later", "need", "away", "first"] ["wardrobe", "later"] (defScope sFso) := ⟨rfl, rfl, rfl, by decide +kernel, rfl, by decide +kernel, by decide +kernel⟩
theorem ok_Fso (T : Txt K mg t) : FnOk P w K mg base CX0 1 t.fFso t.dFso ["wardrobe", "later"] (spFso t) := by
  refine T.FFso.ok scFso (fun vs H Q E h => ?_) (fun cdv A outer s H vs Q E hr h => ?_)
  · obtain ⟨p, lk, lc, ln, W, j, rfl, _⟩ := h
    rfl
  · obtain ⟨p, lk, lc, ln, W, j, rfl, hW, g, hj, q⟩ := h
    obtain ⟨dx, hp⟩ := hW.ob
    obtain ⟨vs, a, da, h1, h2, h3, el⟩ := hW.ns.get (need_get hj)
    have hk : (W.need j).kind < W.kinds.length := g.nk _ (List.mem_of_getElem? (need_get hj))
    obtain ⟨ks, b, db, k1, k2, k3, kl⟩ := hW.ks.get (kind_get hk)
    refine ⟨_, pss_cons (ps_set (i := 2) scFso.nd rfl (Or.inl rfl) (pe_ix ix_list (pe_fld (pv 0) rfl) (pv 1) (fun _ _ => rfl)))
      (pss_cons (ps_set (i := 3) scFso.nd rfl (Or.inl rfl) (pe_fld (pe_ix ix_list (pe_fld (pv 0) rfl) (pe_fld (pv 2) rfl) (fun _ _ => rfl)) rfl))
      (pss_cons (ps_set (i := 4) scFso.nd rfl (Or.inl rfl) pe_int)
      (pss_cons (ps_while PassesOwn.never (pt_cmpR op_gt (pe_op op_sub (pe_fld (pv 2) rfl) (pe_fld (pe_ix ix_list (pe_fld (pv 0) rfl) (pv 4) (fun _ _ => rfl)) rfl)) (pv 3) (nomark _))
        (pss_one (ps_aug (i := 4) scFso.nd rfl (Or.inl rfl) pe_int ip_add)))
      (pss_one (ps_ret (pv 4)))))), ?_⟩
    refine ⟨_, rfl, p, t.CW, dx, _, _, rfl, hp, T.clW, T.nW_needs, wF_needs _ _ _, _, rfl, ln, vs, _, V.ref a, rfl, rfl, SqL.of h1, atI_nat h2, ?_⟩
    refine ⟨_, rfl, p, t.CW, dx, _, _, rfl, hp, T.clW, T.nW_kinds, wF_kinds _ _ _, _, rfl, a, t.CN, da, _, _, rfl, h3, T.clN, T.nN_kind, nF_kind _, lk, ks, _, V.ref b, rfl, rfl, SqL.of k1, atI_nat k2, b, t.CK, db, _, _, rfl, k3, T.clK, T.nK_away, kF_away _, ?_⟩
    refine ⟨fun m σ H' => ∃ f : Nat, f ≤ j ∧ (∀ c, c < f → (W.need c).night + WM.awayOf W j < (W.need j).night) ∧ σ = [some (.ref p), some (.int j), some (.ref a), some (.int (WM.awayOf W j : Nat)), some (.int (f : Nat))] ∧ H' = H ∧ m = j - f,
      ⟨j, 0, Nat.zero_le _, fun c hc => absurd hc (Nat.not_lt_zero _), rfl, rfl, rfl⟩, ?_⟩
    rintro m σ H' ⟨f, hf, hlt, rfl, rfl, rfl⟩
    have hfl : f < W.needs.length := by omega
    obtain ⟨vs', c, dc, c1, c2, c3, cl⟩ := hW.ns.get (need_get hfl)
    rw [h1] at c1
    cases c1
    refine ⟨_, rfl, a, t.CN, da, _, _, rfl, h3, T.clN, T.nN_night, nF_night _, _, rfl, p, t.CW, dx, _, _, rfl, hp, T.clW, T.nW_needs, wF_needs _ _ _, _, rfl, ln, vs, _, V.ref c, rfl, rfl, SqL.of h1, atI_nat c2, c, t.CN, dc, _, _, rfl, c3, T.clN, T.nN_night, nF_night _, _, _, rfl, rfl, _, rfl, _, _, rfl, rfl, _, rfl, ite2 (fun e => ?_) (fun e => ?_)⟩
    · have e0 := of_decide_eq_true e
      have e1 : (W.need f).night + WM.awayOf W j < (W.need j).night := by omega
      have hfj : f ≠ j := fun z => by subst z; omega
      refine ⟨fun σ' H'' => σ' = [some (.ref p), some (.int j), some (.ref a), some (.int (WM.awayOf W j : Nat)), some (.int ((f + 1 : Nat) : Int))] ∧ H'' = H', fun σ' H'' ⟨z1, z2⟩ => ⟨j - (f + 1), by omega, f + 1, by omega, fun c hc => ?_, z1, z2, rfl⟩, ?_⟩
      · rcases Nat.lt_or_eq_of_le (Nat.le_of_lt_succ hc) with z | z
        · exact hlt c z
        · rw [z]; exact e1
      · exact ⟨_, rfl, _, _, rfl, rfl, rfl, rfl⟩
    · have e0 : ¬ ((WM.awayOf W j : Nat) : Int) < ((W.need j).night : Int) - ((W.need f).night : Int) := fun z => e (decide_eq_true z)
      exact ⟨_, rfl, q f ⟨hf, hlt, by omega⟩⟩
end
end WP
end
section
set_option maxRecDepth 100000
set_option maxHeartbeats 2000000
namespace WP
open PySem PySem.Spec PyProof.Rows L2 R1
open Si62 (Wardrobe)
section
variable {P : Program} {w : World} {K : PySem.W.Frag} {mg : Str → Option Value} {base : Heap} {t : Ad}
/-! ### one more in a list of the wardrobe -/
theorem ins_ne {H : Hp} {l : Addr} {vs : List V} (h : H l = some (.lst vs)) {C : Addr} : ∀ b dx fs, H b = some (.ins C dx fs) → ¬ b = l := fun b dx fs e => ne_of e h (by intro q; cases q)
theorem keep_upd {H : Hp} {l : Addr} {o : HO} : ∀ b u, H b = some u → b ≠ l → upd H l o b = some u := fun b u e nb => by rw [upd_ne nb]; exact e
theorem WAt.putK {H : Hp} {p lk lc ln x : Addr} {W : Wardrobe} {k : Si62.Kind} {vs : List V} (h : WAt t H p lk lc ln W) (hv : H lk = some (.lst vs)) (hx : InsAt t.CK kF H x k) : WAt t (upd H lk (.lst (vs ++ [.ref x]))) p lk lc ln { W with kinds := W.kinds ++ [k] } := by
  obtain ⟨dx, e⟩ := h.ob
  obtain ⟨dy, e2⟩ := hx
  exact ⟨⟨dx, keep_upd _ _ e (ins_ne hv _ _ _ e)⟩, h.ks.snoc hv keep_upd upd_same ⟨dy, keep_upd _ _ e2 (ins_ne hv _ _ _ e2)⟩, h.cs.keep (B := fun b => b = lk) keep_upd h.kc.symm (ins_ne hv), h.ns.keep (B := fun b => b = lk) keep_upd h.kn.symm (ins_ne hv), h.kc, h.kn, h.cn⟩
theorem WAt.putC {H : Hp} {p lk lc ln x : Addr} {W : Wardrobe} {k : Si62.Costume} {vs : List V} (h : WAt t H p lk lc ln W) (hv : H lc = some (.lst vs)) (hx : InsAt t.CC cF H x k) : WAt t (upd H lc (.lst (vs ++ [.ref x]))) p lk lc ln { W with costumes := W.costumes ++ [k] } := by
  obtain ⟨dx, e⟩ := h.ob
  obtain ⟨dy, e2⟩ := hx
  exact ⟨⟨dx, keep_upd _ _ e (ins_ne hv _ _ _ e)⟩, h.ks.keep (B := fun b => b = lc) keep_upd h.kc (ins_ne hv), h.cs.snoc hv keep_upd upd_same ⟨dy, keep_upd _ _ e2 (ins_ne hv _ _ _ e2)⟩, h.ns.keep (B := fun b => b = lc) keep_upd h.cn.symm (ins_ne hv), h.kc, h.kn, h.cn⟩
theorem WAt.putN {H : Hp} {p lk lc ln x : Addr} {W : Wardrobe} {k : Si62.Need} {vs : List V} (h : WAt t H p lk lc ln W) (hv : H ln = some (.lst vs)) (hx : InsAt t.CN nF H x k) : WAt t (upd H ln (.lst (vs ++ [.ref x]))) p lk lc ln { W with needs := W.needs ++ [k] } := by
  obtain ⟨dx, e⟩ := h.ob
  obtain ⟨dy, e2⟩ := hx
  exact ⟨⟨dx, keep_upd _ _ e (ins_ne hv _ _ _ e)⟩, h.ks.keep (B := fun b => b = ln) keep_upd h.kn (ins_ne hv), h.cs.keep (B := fun b => b = ln) keep_upd h.cn (ins_ne hv), h.ns.snoc hv keep_upd upd_same ⟨dy, keep_upd _ _ e2 (ins_ne hv _ _ _ e2)⟩, h.kc, h.kn, h.cn⟩
/-- what stays when a call changes the wardrobe at p, with its lists -/
def Kp (H H' : Hp) (p lk lc ln : Addr) : Prop := ∀ b o, H b = some o → b ≠ p → b ≠ lk → b ≠ lc → b ≠ ln → H' b = some o
theorem Kp.of_same {H H' : Hp} {p lk lc ln : Addr} (s : Same H H') : Kp H H' p lk lc ln := fun b o e _ _ _ _ => s b o e
theorem gt_of {a b : Nat} (h : decide ((b : Int) < (a : Int)) = true) : b < a := by have := of_decide_eq_true h; omega
theorem le_of {a b : Nat} (h : ¬ decide ((b : Int) < (a : Int)) = true) : ¬ b < a := fun z => h (decide_eq_true (by omega))
/-! ### add_kind -/
def spAdK (t : Ad) : Sp := fun vs H Q _ => ∃ (p lk lc ln : Addr) (W : Wardrobe) (a h : Nat), vs = [.ref p, .int a, .int h] ∧ WAt t H p lk lc ln W ∧ WM.Good4 W ∧
  ∀ H' : Hp, WAt t H' p lk lc ln (Si62.step W (.kind a h)).1 → Kp H H' p lk lc ln → Q (.int (Si62.step W (.kind a h)).2.v) H'
theorem scAdK : FnScope ["self", "away", "hire"] ["self", "away", "hire"] (defScope sAdK) := ⟨rfl, rfl, rfl, by decide +kernel, rfl, by decide +kernel, by decide +kernel⟩
theorem ok_AdK (T : Txt K mg t) : FnOk P w K mg base CX0 3 t.fAdK t.dAdK ["self", "away", "hire"] (spAdK t) := by
  refine T.FAdK.ok scAdK (fun vs H Q E h => ?_) (fun cdv A outer s H vs Q E hr h => ?_)
  · obtain ⟨p, lk, lc, ln, W, a, h, rfl, _⟩ := h
    rfl
  · obtain ⟨p, lk, lc, ln, W, a, h, rfl, hW, g, q⟩ := h
    obtain ⟨dx, hp⟩ := hW.ob
    obtain ⟨ks, hks, eks⟩ := hW.ks.lst
    have hk4 := g.k4
    refine ⟨_, pss_cons (ps_if (PW.pt (pw_or (pt_cmpR op_gt (pv 1) (pe_cst T.c_AWAY_AT_MOST (by rfl)) (nomark _)) (pw_or1 (pt_cmpR op_gt (pv 2) (pe_cst T.c_HIRE_AT_MOST (by rfl)) (nomark _))))) (pss_one (ps_ret (pe_cst T.c_NOT_AS_TOLD (by rfl)))) pss_nil)
      (pss_cons (ps_if (pt_cmpR op_eq (pe_callB call_len_seq (by rfl) T.bl_len PySem.boot_len (pa_cons (pe_fld (pv 0) rfl) pa_nil)) (pe_cst T.c_KINDS_AT_MOST (by rfl)) (nomark _)) (pss_one (ps_ret (pe_cst T.c_NO_ROOM (by rfl)))) pss_nil)
      (pss_cons (ps_expr (pe_bm PySem.F.plainAttrs_list PySem.F.slot_list_append PySem.F.type_list_append mt_append (pe_fld (pv 0) rfl) (pa_cons (pe_make T.mkK (ok_KI T) hr rfl T.mgK T.bKI .nil pass0 (pa_cons (pv 1) (pa_cons (pv 2) pa_nil))) pa_nil)))
      (pss_one (ps_ret (pe_op op_sub (pe_callB call_len_seq (by rfl) T.bl_len PySem.boot_len (pa_cons (pe_fld (pv 0) rfl) pa_nil)) pe_int))))), ?_⟩
    have bad : (10 < a ∨ 100000 < h) → Q (.int (-1)) H := fun z => by
      have e : Si62.step W (.kind a h) = (W, Si62.ok (-1)) := by
        unfold Si62.step; dsimp only; rw [if_pos (show Si62.WASH < a ∨ Si62.HIRE < h from z)]
      rw [e] at q
      exact q H hW (Kp.of_same (Same.refl H))
    refine ⟨_, rfl, _, _, rfl, rfl, _, rfl, ite2 (fun e => iteT (bad (.inl (gt_of (b := 10) e)))) (fun e => ?_)⟩
    have e1 := le_of (b := 10) e
    refine ⟨_, rfl, _, _, rfl, rfl, _, rfl, ite2 (fun e => bad (.inr (gt_of (b := 100000) e))) (fun e' => ?_)⟩
    have e2 := le_of (b := 100000) e'
    have n1 : ¬ (Si62.WASH < a ∨ Si62.HIRE < h) := by
      show ¬ (10 < a ∨ 100000 < h); omega
    refine ⟨_, rfl, p, t.CW, dx, _, _, rfl, hp, T.clW, T.nW_kinds, wF_kinds _ _ _, lk, ks, rfl, .inl (SqL.of hks), rfl, _, rfl, ite2 (fun e => ?_) (fun e => ?_)⟩
    · have e0 : V.int (ks.length : Int) = V.int 4 := of_decide_eq_true e
      have e3 : W.kinds.length = 4 := by injection e0 with e0; omega
      have es : Si62.step W (.kind a h) = (W, Si62.ok (-5)) := by
        unfold Si62.step; dsimp only; rw [if_neg n1, if_pos (show Si62.KINDS ≤ W.kinds.length by show 4 ≤ _; omega)]
      rw [es] at q
      exact q H hW (Kp.of_same (Same.refl H))
    · have e3 : ¬ W.kinds.length = 4 := fun z => e (decide_eq_true (by rw [eks, z]; rfl))
      have es : Si62.step W (.kind a h) = ({ W with kinds := W.kinds ++ [⟨a, h⟩] }, Si62.ok W.kinds.length) := by
        unfold Si62.step; dsimp only; rw [if_neg n1, if_neg (show ¬ Si62.KINDS ≤ W.kinds.length by show ¬ 4 ≤ _; omega)]
      rw [es] at q
      refine ⟨_, rfl, p, t.CW, dx, _, _, rfl, hp, T.clW, T.nW_kinds, wF_kinds _ _ _, .inl ⟨rfl, _, SqL.of hks⟩, _, rfl, _, rfl, fun x dx' nx ndx nex => ?_⟩
      refine ⟨x, dx', ⟨a, h⟩, rfl, upd_same, fun H2 hI hk => ⟨rfl, ?_⟩⟩
      have s1 : Same H H2 := Same.made nx ndx hk
      have hks2 := s1 _ _ hks
      have hW2 := (hW.same s1).putK hks2 hI
      obtain ⟨dx3, hp3⟩ := hW2.ob
      refine ⟨lk, _, _, rfl, rfl, hks2, small1000 (by omega), ?_⟩
      refine ⟨_, rfl, p, t.CW, dx3, _, _, rfl, hp3, T.clW, T.nW_kinds, wF_kinds _ _ _, lk, _, rfl, .inl (SqL.of upd_same), _, _, rfl, rfl, ?_⟩
      have el : (((ks ++ [V.ref x]).length : Nat) : Int) - 1 = (W.kinds.length : Int) := by rw [List.length_append]; simp; omega
      dsimp only
      rw [el]
      exact q _ hW2 fun b o eb _ nb _ _ => by rw [upd_ne nb]; exact s1 b o eb
/-! ### costume_refusal -/
def refC (W : Wardrobe) (c : Si62.Costume) : Int := if W.kinds.length ≤ c.kind then -2 else if 1000 < c.size ∨ 1000 < c.give then -1 else 0
def spRef (t : Ad) : Sp := fun vs H Q _ => ∃ (p lk lc ln : Addr) (W : Wardrobe) (c : Si62.Costume), vs = [.ref p, .int c.kind, .int c.size, .int c.give] ∧ WAt t H p lk lc ln W ∧ Q (.int (refC W c)) H
theorem scRef : FnScope ["self", "kind", "size", "give"] ["self", "kind", "size", "give"] (defScope sRef) := ⟨rfl, rfl, rfl, by decide +kernel, rfl, by decide +kernel, by decide +kernel⟩
theorem not_bl {b : Bool} (h : (!b) = true) : b = false := by cases b <;> simp_all
theorem ok_Ref (T : Txt K mg t) : FnOk P w K mg base CX0 2 t.fRef t.dRef ["self", "kind", "size", "give"] (spRef t) := by
  refine T.FRef.ok scRef (fun vs H Q E h => ?_) (fun cdv A outer s H vs Q E hr h => ?_)
  · obtain ⟨p, lk, lc, ln, W, c, rfl, _⟩ := h
    rfl
  · obtain ⟨p, lk, lc, ln, W, c, rfl, hW, q⟩ := h
    obtain ⟨dx, hp⟩ := hW.ob
    refine ⟨_, pss_cons (ps_if (pt_not (pt_val (pe_meth (pv 0) T.clW T.mHas (ok_Has T) hr T.bHas .nil pass0 (pa_cons (pv 1) pa_nil)))) (pss_one (ps_ret (pe_cst T.c_NO_SUCH_KIND (by rfl)))) pss_nil)
      (pss_cons (ps_if (PW.pt (pw_or (pt_cmpR op_gt (pv 2) (pe_cst T.c_SIZE_AT_MOST (by rfl)) (nomark _)) (pw_or1 (pt_cmpR op_gt (pv 3) (pe_cst T.c_GIVE_AT_MOST (by rfl)) (nomark _))))) (pss_one (ps_ret (pe_cst T.c_NOT_AS_TOLD (by rfl)))) pss_nil)
      (pss_one (ps_ret pe_int))), ?_⟩
    refine ⟨_, rfl, p, dx, _, rfl, hp, wF_no _ _ _ (by decide +kernel) (by decide +kernel) (by decide +kernel), _, rfl, p, lk, lc, ln, W, c.kind, rfl, hW, _, rfl, ite2 (fun e => ?_) (fun e => ?_)⟩
    · have e0 := of_decide_eq_false (not_bl e)
      have : refC W c = -2 := by unfold refC; rw [if_pos (by omega)]
      rw [this] at q; exact q
    · have e0 : c.kind < W.kinds.length := by
        by_cases z : c.kind < W.kinds.length
        · exact z
        · exact absurd (by rw [decide_eq_false z]; rfl) e
      have bad : (1000 < c.size ∨ 1000 < c.give) → Q (.int (-1)) H := fun z => by
        have : refC W c = -1 := by unfold refC; rw [if_neg (by omega), if_pos z]
        rw [this] at q; exact q
      refine ⟨_, rfl, _, _, rfl, rfl, _, rfl, ite2 (fun e => iteT (bad (.inl (gt_of (b := 1000) e)))) (fun e => ?_)⟩
      have e1 := le_of (b := 1000) e
      refine ⟨_, rfl, _, _, rfl, rfl, _, rfl, ite2 (fun e => bad (.inr (gt_of (b := 1000) e))) (fun e' => ?_)⟩
      have e2 := le_of (b := 1000) e'
      have : refC W c = 0 := by unfold refC; rw [if_neg (by omega), if_neg (by omega)]
      rw [this] at q; exact q
/-! ### add_costume -/
def spAdC (t : Ad) : Sp := fun vs H Q _ => ∃ (p lk lc ln : Addr) (W : Wardrobe) (c : Si62.Costume), vs = [.ref p, .int c.kind, .int c.size, .int c.give] ∧ WAt t H p lk lc ln W ∧ WM.Good4 W ∧
  ∀ H' : Hp, WAt t H' p lk lc ln (Si62.step W (.costume c)).1 → Kp H H' p lk lc ln → Q (.int (Si62.step W (.costume c)).2.v) H'
theorem scAdC : FnScope ["self", "kind", "size", "give", "refusal"] ["self", "kind", "size", "give"] (defScope sAdC) := ⟨rfl, rfl, rfl, by decide +kernel, rfl, by decide +kernel, by decide +kernel⟩
theorem ok_AdC (T : Txt K mg t) : FnOk P w K mg base CX0 3 t.fAdC t.dAdC ["self", "kind", "size", "give"] (spAdC t) := by
  refine T.FAdC.ok scAdC (fun vs H Q E h => ?_) (fun cdv A outer s H vs Q E hr h => ?_)
  · obtain ⟨p, lk, lc, ln, W, c, rfl, _⟩ := h
    rfl
  · obtain ⟨p, lk, lc, ln, W, c, rfl, hW, g, q⟩ := h
    obtain ⟨dx, hp⟩ := hW.ob
    obtain ⟨cs, hcs, ecs⟩ := hW.cs.lst
    have hc4 := g.c4
    refine ⟨_, pss_cons (ps_set (i := 4) scAdC.nd rfl (Or.inl rfl) (pe_meth (pv 0) T.clW T.mRef (ok_Ref T) hr T.bRef .nil pass0 (pa_cons (pv 1) (pa_cons (pv 2) (pa_cons (pv 3) pa_nil)))))
      (pss_cons (ps_if (pt_cmpR op_lt (pv 4) pe_int (nomark _)) (pss_one (ps_ret (pv 4))) pss_nil)
      (pss_cons (ps_if (pt_cmpR op_eq (pe_callB call_len_seq (by rfl) T.bl_len PySem.boot_len (pa_cons (pe_fld (pv 0) rfl) pa_nil)) (pe_cst T.c_COSTUMES_AT_MOST (by rfl)) (nomark _)) (pss_one (ps_ret (pe_cst T.c_NO_ROOM (by rfl)))) pss_nil)
      (pss_cons (ps_expr (pe_bm PySem.F.plainAttrs_list PySem.F.slot_list_append PySem.F.type_list_append mt_append (pe_fld (pv 0) rfl) (pa_cons (pe_make T.mkC (ok_CI T) hr rfl T.mgC T.bCI .nil pass0 (pa_cons (pv 1) (pa_cons (pv 2) (pa_cons (pv 3) pa_nil)))) pa_nil)))
      (pss_one (ps_ret (pe_op op_sub (pe_callB call_len_seq (by rfl) T.bl_len PySem.boot_len (pa_cons (pe_fld (pv 0) rfl) pa_nil)) pe_int)))))), ?_⟩
    refine ⟨_, rfl, p, dx, _, rfl, hp, wF_no _ _ _ (by decide +kernel) (by decide +kernel) (by decide +kernel), _, rfl, _, rfl, _, rfl, p, lk, lc, ln, W, c, rfl, hW, ?_⟩
    refine ⟨_, rfl, _, _, rfl, rfl, _, rfl, ite2 (fun e => ?_) (fun e => ?_)⟩
    · have e0 : refC W c < 0 := of_decide_eq_true e
      refine ⟨_, rfl, ?_⟩
      have es : Si62.step W (.costume c) = (W, Si62.ok (refC W c)) := by
        unfold Si62.step; dsimp only
        unfold refC at e0 ⊢
        by_cases h1 : W.kinds.length ≤ c.kind
        · rw [if_pos h1, if_pos h1]
        · rw [if_neg h1, if_neg h1]
          rw [if_neg h1] at e0
          by_cases h2 : 1000 < c.size ∨ 1000 < c.give
          · rw [if_pos (show Si62.SIZE < c.size ∨ Si62.SIZE < c.give from h2), if_pos h2]
          · rw [if_neg h2] at e0
            exact absurd e0 (by decide)
      rw [es] at q
      exact q H hW (Kp.of_same (Same.refl H))
    · have e0 : ¬ refC W c < 0 := fun z => e (decide_eq_true z)
      have n1 : ¬ W.kinds.length ≤ c.kind := fun z => e0 (by unfold refC; rw [if_pos z]; decide)
      have n2 : ¬ (Si62.SIZE < c.size ∨ Si62.SIZE < c.give) := fun z => e0 (by unfold refC; rw [if_neg n1, if_pos (show 1000 < c.size ∨ 1000 < c.give from z)]; decide)
      refine ⟨_, rfl, p, t.CW, dx, _, _, rfl, hp, T.clW, T.nW_costumes, wF_costumes _ _ _, lc, cs, rfl, .inl (SqL.of hcs), rfl, _, rfl, ite2 (fun e => ?_) (fun e => ?_)⟩
      · have e0 : V.int (cs.length : Int) = V.int 4 := of_decide_eq_true e
        have e3 : W.costumes.length = 4 := by injection e0 with e0; omega
        have es : Si62.step W (.costume c) = (W, Si62.ok (-5)) := by
          unfold Si62.step; dsimp only; rw [if_neg n1, if_neg n2, if_pos (show Si62.COSTUMES ≤ W.costumes.length by show 4 ≤ _; omega)]
        rw [es] at q
        exact q H hW (Kp.of_same (Same.refl H))
      · have e3 : ¬ W.costumes.length = 4 := fun z => e (decide_eq_true (by rw [ecs, z]; rfl))
        have es : Si62.step W (.costume c) = ({ W with costumes := W.costumes ++ [c] }, Si62.ok W.costumes.length) := by
          unfold Si62.step; dsimp only; rw [if_neg n1, if_neg n2, if_neg (show ¬ Si62.COSTUMES ≤ W.costumes.length by show ¬ 4 ≤ _; omega)]; rfl
        rw [es] at q
        refine ⟨_, rfl, p, t.CW, dx, _, _, rfl, hp, T.clW, T.nW_costumes, wF_costumes _ _ _, .inl ⟨rfl, _, SqL.of hcs⟩, _, rfl, _, rfl, _, rfl, fun x dx' nx ndx nex => ?_⟩
        refine ⟨x, dx', c, rfl, upd_same, fun H2 hI hk => ⟨rfl, ?_⟩⟩
        have s1 : Same H H2 := Same.made nx ndx hk
        have hcs2 := s1 _ _ hcs
        have hW2 := (hW.same s1).putC hcs2 hI
        obtain ⟨dx3, hp3⟩ := hW2.ob
        refine ⟨lc, _, _, rfl, rfl, hcs2, small1000 (by omega), ?_⟩
        refine ⟨_, rfl, p, t.CW, dx3, _, _, rfl, hp3, T.clW, T.nW_costumes, wF_costumes _ _ _, lc, _, rfl, .inl (SqL.of upd_same), _, _, rfl, rfl, ?_⟩
        have el : (((cs ++ [V.ref x]).length : Nat) : Int) - 1 = (W.costumes.length : Int) := by rw [List.length_append]; simp; omega
        dsimp only
        rw [el]
        exact q _ hW2 fun b o eb _ _ nb _ => by rw [upd_ne nb]; exact s1 b o eb
/-! ### add_need -/
def spAdN (t : Ad) : Sp := fun vs H Q _ => ∃ (p lk lc ln : Addr) (W : Wardrobe) (n : Si62.Need), vs = [.ref p, .int n.night, .int n.kind, .int n.size] ∧ WAt t H p lk lc ln W ∧ WM.Good4 W ∧
  ∀ H' : Hp, WAt t H' p lk lc ln (Si62.step W (.need n)).1 → Kp H H' p lk lc ln → Q (.int (Si62.step W (.need n)).2.v) H'
theorem scAdN : FnScope ["self", "night", "kind", "size"] ["self", "night", "kind", "size"] (defScope sAdN) := ⟨rfl, rfl, rfl, by decide +kernel, rfl, by decide +kernel, by decide +kernel⟩
theorem ok_AdN (T : Txt K mg t) : FnOk P w K mg base CX0 3 t.fAdN t.dAdN ["self", "night", "kind", "size"] (spAdN t) := by
  refine T.FAdN.ok scAdN (fun vs H Q E h => ?_) (fun cdv A outer s H vs Q E hr h => ?_)
  · obtain ⟨p, lk, lc, ln, W, n, rfl, _⟩ := h
    rfl
  · obtain ⟨p, lk, lc, ln, W, n, rfl, hW, g, q⟩ := h
    obtain ⟨dx, hp⟩ := hW.ob
    obtain ⟨ns, hns, ens⟩ := hW.ns.lst
    have hn6 := g.n6
    have hr1 : Room 1 _ := hr.mono (by decide)
    refine ⟨_, pss_cons (ps_if (pt_not (pt_val (pe_meth (pv 0) T.clW T.mHas (ok_Has T) hr1 T.bHas .nil pass0 (pa_cons (pv 2) pa_nil)))) (pss_one (ps_ret (pe_cst T.c_NO_SUCH_KIND (by rfl)))) pss_nil)
      (pss_cons (ps_if (PW.pt (pw_or (pt_cmpR op_gt (pv 1) (pe_cst T.c_NIGHT_AT_MOST (by rfl)) (nomark _)) (pw_or (pt_cmpR op_gt (pv 3) (pe_cst T.c_SIZE_AT_MOST (by rfl)) (nomark _)) (pw_or1 (pt_cmpR op_lt (pv 1) (pe_meth0 (pv 0) T.clW T.mLas (ok_Las T) hr1 T.bLas .nil pass0) (nomark _)))))) (pss_one (ps_ret (pe_cst T.c_NOT_AS_TOLD (by rfl)))) pss_nil)
      (pss_cons (ps_if (pt_cmpR op_eq (pe_callB call_len_seq (by rfl) T.bl_len PySem.boot_len (pa_cons (pe_fld (pv 0) rfl) pa_nil)) (pe_cst T.c_NEEDS_AT_MOST (by rfl)) (nomark _)) (pss_one (ps_ret (pe_cst T.c_NO_ROOM (by rfl)))) pss_nil)
      (pss_cons (ps_expr (pe_bm PySem.F.plainAttrs_list PySem.F.slot_list_append PySem.F.type_list_append mt_append (pe_fld (pv 0) rfl) (pa_cons (pe_make T.mkN (ok_NI T) hr rfl T.mgN T.bNI .nil pass0 (pa_cons (pv 1) (pa_cons (pv 2) (pa_cons (pv 3) pa_nil)))) pa_nil)))
      (pss_one (ps_ret (pe_op op_sub (pe_callB call_len_seq (by rfl) T.bl_len PySem.boot_len (pa_cons (pe_fld (pv 0) rfl) pa_nil)) pe_int)))))), ?_⟩
    refine ⟨_, rfl, p, dx, _, rfl, hp, wF_no _ _ _ (by decide +kernel) (by decide +kernel) (by decide +kernel), _, rfl, p, lk, lc, ln, W, n.kind, rfl, hW, _, rfl, ite2 (fun e => ?_) (fun e => ?_)⟩
    · have e0 := of_decide_eq_false (not_bl e)
      have es : Si62.step W (.need n) = (W, Si62.ok (-2)) := by
        unfold Si62.step; dsimp only; rw [if_pos (by omega)]
      rw [es] at q
      exact q H hW (Kp.of_same (Same.refl H))
    · have e0 : n.kind < W.kinds.length := by
        by_cases z : n.kind < W.kinds.length
        · exact z
        · exact absurd (by rw [decide_eq_false z]; rfl) e
      have n1 : ¬ W.kinds.length ≤ n.kind := by omega
      have bad : (1000 < n.night ∨ 1000 < n.size ∨ n.night < lastN W) → Q (.int (-1)) H := fun z => by
        have es : Si62.step W (.need n) = (W, Si62.ok (-1)) := by
          unfold Si62.step; dsimp only; rw [if_neg n1, if_pos (show Si62.SIZE < n.night ∨ Si62.SIZE < n.size ∨ n.night < ((W.needs.getLast?.map fun x => x.night).getD 0) from z)]
        rw [es] at q
        exact q H hW (Kp.of_same (Same.refl H))
      refine ⟨_, rfl, _, _, rfl, rfl, _, rfl, ite2 (fun e => iteT (bad (.inl (gt_of (b := 1000) e)))) (fun e => ?_)⟩
      have e1 := le_of (b := 1000) e
      refine ⟨_, rfl, _, _, rfl, rfl, _, rfl, ite2 (fun e => iteT (bad (.inr (.inl (gt_of (b := 1000) e))))) (fun e => ?_)⟩
      have e2 := le_of (b := 1000) e
      refine ⟨_, rfl, _, rfl, p, dx, _, rfl, hp, wF_no _ _ _ (by decide +kernel) (by decide +kernel) (by decide +kernel), p, lk, lc, ln, W, rfl, hW, _, _, rfl, rfl, _, rfl, ite2 (fun e => bad (.inr (.inr (gt_of e)))) (fun e => ?_)⟩
      have e3 := le_of e
      have n2 : ¬ (Si62.SIZE < n.night ∨ Si62.SIZE < n.size ∨ n.night < ((W.needs.getLast?.map fun x => x.night).getD 0)) := by
        show ¬ (1000 < n.night ∨ 1000 < n.size ∨ n.night < lastN W); omega
      refine ⟨_, rfl, p, t.CW, dx, _, _, rfl, hp, T.clW, T.nW_needs, wF_needs _ _ _, ln, ns, rfl, .inl (SqL.of hns), rfl, _, rfl, ite2 (fun e => ?_) (fun e => ?_)⟩
      · have e0 : V.int (ns.length : Int) = V.int 6 := of_decide_eq_true e
        have e3 : W.needs.length = 6 := by injection e0 with e0; omega
        have es : Si62.step W (.need n) = (W, Si62.ok (-5)) := by
          unfold Si62.step; dsimp only; rw [if_neg n1, if_neg n2, if_pos (show Si62.NEEDS ≤ W.needs.length by show 6 ≤ _; omega)]
        rw [es] at q
        exact q H hW (Kp.of_same (Same.refl H))
      · have e3 : ¬ W.needs.length = 6 := fun z => e (decide_eq_true (by rw [ens, z]; rfl))
        have es : Si62.step W (.need n) = ({ W with needs := W.needs ++ [n] }, Si62.ok W.needs.length) := by
          unfold Si62.step; dsimp only; rw [if_neg n1, if_neg n2, if_neg (show ¬ Si62.NEEDS ≤ W.needs.length by show ¬ 6 ≤ _; omega)]
        rw [es] at q
        refine ⟨_, rfl, p, t.CW, dx, _, _, rfl, hp, T.clW, T.nW_needs, wF_needs _ _ _, .inl ⟨rfl, _, SqL.of hns⟩, _, rfl, _, rfl, _, rfl, fun x dx' nx ndx nex => ?_⟩
        refine ⟨x, dx', n, rfl, upd_same, fun H2 hI hk => ⟨rfl, ?_⟩⟩
        have s1 : Same H H2 := Same.made nx ndx hk
        have hns2 := s1 _ _ hns
        have hW2 := (hW.same s1).putN hns2 hI
        obtain ⟨dx3, hp3⟩ := hW2.ob
        refine ⟨ln, _, _, rfl, rfl, hns2, small1000 (by omega), ?_⟩
        refine ⟨_, rfl, p, t.CW, dx3, _, _, rfl, hp3, T.clW, T.nW_needs, wF_needs _ _ _, ln, _, rfl, .inl (SqL.of upd_same), _, _, rfl, rfl, ?_⟩
        have el : (((ns ++ [V.ref x]).length : Nat) : Int) - 1 = (W.needs.length : Int) := by rw [List.length_append]; simp; omega
        dsimp only
        rw [el]
        exact q _ hW2 fun b o eb _ _ _ nb => by rw [upd_ne nb]; exact s1 b o eb
end
end WP
end
section
set_option maxRecDepth 100000
set_option maxHeartbeats 2000000
namespace WP
open PySem PySem.Spec PyProof.Rows L2 R1
open Si62 (Wardrobe)
section
variable {P : Program} {w : World} {K : PySem.W.Frag} {mg : Str → Option Value} {base : Heap} {t : Ad}
/-! ### choices -/
theorem cut_from {l : List Nat} {f : Nat} (h : f ≤ l.length) : cutV (ii l) (some (f : Int)) none = ii (l.drop f) := by
  have e1 : HT.sIx (ii l).length 0 (some (f : Int)) = f := by
    unfold HT.sIx
    rw [ii_len]
    have : ¬ (f : Int) < 0 := by omega
    simp only [this, if_false]
    omega
  have e2 : HT.sIx (ii l).length (ii l).length none = l.length := by
    unfold HT.sIx
    rw [ii_len]
  unfold cutV
  rw [e1, e2]
  unfold ii
  rw [← List.map_drop, List.take_of_length_le (by simp)]
theorem ii_flat (l : List Nat) : (ii l).all flatV = true := by
  unfold ii
  rw [List.all_map, List.all_eq_true]
  intro x _; rfl
theorem inV_ii (i : Nat) : ∀ l : List Nat, inV (V.int i) (ii l) = decide (i ∈ l)
  | [] => rfl
  | x :: l => by
    have ih := inV_ii i l
    unfold inV ii at ih ⊢
    rw [List.map_cons, List.any_cons, ih]
    have e : eqV (V.int (x : Int)) (V.int (i : Int)) = decide (x = i) := by
      unfold eqV
      by_cases h : x = i
      · subst h; simp
      · simp [h]; omega
    rw [e]
    by_cases h : x = i
    · subst h; simp
    · have : (i ∈ x :: l) ↔ i ∈ l := by
        constructor
        · intro hm
          rcases List.mem_cons.mp hm with h1 | h1
          · exact absurd h1.symm h
          · exact h1
        · exact List.mem_cons_of_mem _
      rw [decide_eq_false h, Bool.false_or]
      simp only [this]
def spCho (t : Ad) : Sp := fun vs H Q _ => ∃ (p lk lc ln r : Addr) (W : Wardrobe) (l : List Nat), vs = [.ref p, .ref r] ∧ WAt t H p lk lc ln W ∧ WM.Good W ∧ H r = some (.lst (ii l)) ∧ l.length < W.needs.length ∧
  ∀ (H' : Hp) (c : Addr), Same H H' → H c = none → H' c = some (.lst (ii (WM.ch W l))) → Q (.ref c) H'
theorem scCho : FnScope ["wardrobe", "row", "need", "still_out", "found", "number", "costume"] ["wardrobe", "row"] (defScope sCho) := ⟨rfl, rfl, rfl, by decide +kernel, rfl, by decide +kernel, by decide +kernel⟩
theorem range_filter_snoc (n : Nat) (q : Nat → Bool) : (List.range (n + 1)).filter q = (List.range n).filter q ++ (if q n = true then [n] else []) := by
  rw [List.range_succ, List.filter_append]
  congr 1
  by_cases h : q n = true
  · rw [List.filter_cons, if_pos h, if_pos h]; rfl
  · rw [List.filter_cons, if_neg h, if_neg h]; rfl
theorem ok_Cho (T : Txt K mg t) : FnOk P w K mg base CX0 2 t.fCho t.dCho ["wardrobe", "row"] (spCho t) := by
  refine T.FCho.ok scCho (fun vs H Q E h => ?_) (fun cdv A outer s H vs Q E hr h => ?_)
  · obtain ⟨p, lk, lc, ln, r, W, l, rfl, _⟩ := h
    rfl
  · obtain ⟨p, lk, lc, ln, r, W, l, rfl, hW, g, hl, hlt, q⟩ := h
    obtain ⟨dx, hp⟩ := hW.ob
    obtain ⟨vs, a, da, h1, h2, h3, el⟩ := hW.ns.get (need_get hlt)
    refine ⟨_, pss_cons (ps_set (i := 2) scCho.nd rfl (Or.inl rfl) (pe_ix ix_list (pe_fld (pv 0) rfl) (pe_callB call_len_seq (by rfl) T.bl_len PySem.boot_len (pa_cons (pv 1) pa_nil)) (fun _ _ => rfl)))
      (pss_cons (ps_set (i := 3) scCho.nd rfl (Or.inl rfl) (pe_slice sl_list (pv 1) (po_some (pe_call (ok_Fso T) hr rfl T.gFso T.FFso.kp T.bFso .nil pass0 (pa_cons (pv 0) (pa_cons (pe_callB call_len_seq (by rfl) T.bl_len PySem.boot_len (pa_cons (pv 1) pa_nil)) pa_nil)))) po_none))
      (pss_cons (ps_set (i := 4) scCho.nd rfl (Or.inl rfl) (pe_lst pa_nil))
      (pss_cons (ps_for PassesOwn.never rfl (pi_enum rfl T.bl_enumerate (pa_cons (pe_fld (pv 0) rfl) pa_nil)) (pg_tup rfl (pgs_cons (pg_name (i := 5) scCho.nd rfl (Or.inl rfl)) (pgs_cons (pg_name (i := 6) scCho.nd rfl (Or.inl rfl)) pgs_nil)))
        (pss_one (ps_if (PW.pt (pw_and (pt_val (pe_call (ok_Sui T) hr rfl T.gSui T.FSui.kp T.bSui .nil pass0 (pa_cons (pv 6) (pa_cons (pv 2) pa_nil)))) (pw_and1 (pt_cmpR op_notIn_seq (pv 5) (pv 3) rfl))))
          (pss_one (ps_expr (pe_bm PySem.F.plainAttrs_list PySem.F.slot_list_append PySem.F.type_list_append mt_append (pv 4) (pa_cons (pv 5) pa_nil)))) pss_nil)))
      (pss_cons (ps_expr (pe_bm PySem.F.plainAttrs_list PySem.F.slot_list_append PySem.F.type_list_append mt_append (pv 4) (pa_cons (pe_meth0 (pv 0) T.clW T.mHir (ok_Hir T) hr T.bHir .nil pass0) pa_nil)))
      (pss_one (ps_ret (pv 4))))))), ?_⟩
    have cl : ((ii l).length : Int) = (l.length : Int) := by rw [ii_len]
    refine ⟨_, rfl, p, t.CW, dx, _, _, rfl, hp, T.clW, T.nW_needs, wF_needs _ _ _, _, rfl, r, _, rfl, .inl (SqL.of hl), ln, vs, _, V.ref a, rfl, rfl, SqL.of h1, (by rw [cl]; exact atI_nat h2), ?_⟩
    refine ⟨_, rfl, _, rfl, _, rfl, r, _, rfl, .inl (SqL.of hl), p, lk, lc, ln, W, l.length, (by rw [cl]; rfl), hW, g, hlt, fun f hf => ⟨_, rfl, r, _, rfl, SqL.of hl, fun so hso => ?_⟩⟩
    rw [cut_from hf.le]
    refine ⟨Nat.zero_le _, fun fl hfl => ?_⟩
    have s1 : Same H (upd H so (.lst (ii (l.drop f)))) := Same.upd hso
    have nfl : H fl = none := s1.free hfl
    have s2 : Same H (upd (upd H so (.lst (ii (l.drop f)))) fl (.lst [])) := s1.trans (Same.upd hfl)
    obtain ⟨cs, hcs, ecs⟩ := hW.cs.lst
    have nsf : so ≠ fl := ne_of_none upd_same hfl
    refine ⟨_, rfl, p, t.CW, dx, _, _, rfl, s2 _ _ hp, T.clW, T.nW_costumes, wF_costumes _ _ _, lc, cs, rfl, SqL.of (s2 _ _ hcs), for_enum (xs := cs)
      (fun i σ H' => ∃ v5 v6 : Option V, σ = [some (.ref p), some (.ref r), some (.ref a), some (.ref so), some (.ref fl), v5, v6] ∧ Same H H' ∧ H' so = some (.lst (ii (l.drop f))) ∧ H' fl = some (.lst (ii ((List.range i).filter fun j => W.suits j l.length && !decide (j ∈ l.drop f)))))
      ⟨none, none, rfl, s2, by rw [upd_ne nsf]; exact upd_same, upd_same⟩ (fun i σ H' _ ⟨_, _, _, s3, _⟩ => SqL.of (s3 _ _ hcs)) ?_ ?_⟩
    · rintro i x σ H' Tt hi ⟨v5, v6, rfl, s3, e1, e2⟩ hT
      have hil : i < W.costumes.length := by rw [← ecs]; exact (List.getElem?_eq_some_iff.mp hi).1
      obtain ⟨cs', c, dc, c1, c2, c3, cl'⟩ := hW.cs.get (costume_get hil)
      rw [hcs] at c1
      cases c1
      rw [hi] at c2
      cases c2
      have s4 : Same H' (upd H' Tt (.tup [.int (i : Nat), V.ref c])) := Same.upd hT
      have s5 := s3.trans s4
      have e3 := s4 _ _ e1
      have e4 := s4 _ _ e2
      have hfin : ∀ m, (List.range i).filter (fun j => W.suits j l.length && !decide (j ∈ l.drop f)) = m → m.length ≤ 5 := by
        rintro m rfl
        have := g.c5
        have h := List.length_filter_le (fun j => W.suits j l.length && !decide (j ∈ l.drop f)) (List.range i)
        simp at h ⊢
        omega
      refine ⟨Tt, _, rfl, SqT.of upd_same, rfl, _, _, rfl, _, _, rfl, rfl, ?_⟩
      refine ⟨_, rfl, _, rfl, c, a, W.costume i, W.need l.length, rfl, ⟨dc, s5 _ _ c3⟩, ⟨da, s5 _ _ h3⟩, _, rfl, ite2 (fun e => ?_) (fun e => ?_)⟩
      · refine ⟨_, rfl, _, rfl, so, _, rfl, .inl (SqL.of e3), rfl, ii_flat _, _, rfl, ite2 (fun e' => ?_) (fun e' => ?_)⟩
        · have em : (!decide (i ∈ l.drop f)) = true := by rw [← inV_ii]; exact e'
          have eq : (W.suits i l.length && !decide (i ∈ l.drop f)) = true := by
            rw [em, Bool.and_true]; exact e
          refine ⟨_, rfl, .inl ⟨rfl, _, SqL.of e4⟩, _, rfl, fl, _, _, rfl, rfl, e4, (by rw [ii_len]; exact small1000 (Nat.le_trans (hfin _ rfl) (by decide))), ?_⟩
          refine ⟨_, _, rfl, fun b o eb => by rw [upd_ne (ne_of_none eb nfl)]; exact s5 b o eb, by rw [upd_ne nsf]; exact e3, ?_⟩
          rw [upd_same, range_filter_snoc, if_pos eq]
          unfold ii
          rw [List.map_append]
          rfl
        · have em : ¬ (!decide (i ∈ l.drop f)) = true := fun z => e' (by show (!inV _ _) = true; rw [inV_ii]; exact z)
          refine ⟨_, _, rfl, s5, e3, ?_⟩
          rw [e4, range_filter_snoc, if_neg (fun z => em (Bool.and_eq_true_iff.mp z).2), List.append_nil]
      · have es : ¬ W.suits i l.length = true := e
        refine ⟨_, _, rfl, s5, e3, ?_⟩
        rw [e4, range_filter_snoc, if_neg (fun z => es (Bool.and_eq_true_iff.mp z).1), List.append_nil]
    · rintro σ H' ⟨v5, v6, rfl, s3, e1, e2⟩
      rw [ecs] at e2
      have s6 : ∀ o, Same H (upd H' fl o) := fun o b u eb => by rw [upd_ne (ne_of_none eb nfl)]; exact s3 b u eb
      refine ⟨_, rfl, .inl ⟨rfl, _, SqL.of e2⟩, _, rfl, p, dx, _, rfl, s3 _ _ hp, wF_no _ _ _ (by decide +kernel) (by decide +kernel) (by decide +kernel), p, lk, lc, ln, W, rfl, hW.same s3, fl, _, _, rfl, rfl, e2, ?_, _, rfl, ?_⟩
      · rw [ii_len]
        refine small1000 ?_
        have := g.c5
        have h := List.length_filter_le (fun j => W.suits j l.length && !decide (j ∈ l.drop f)) (List.range W.costumes.length)
        simp at h ⊢
        omega
      · refine q _ fl (s6 _) nfl ?_
        rw [upd_same, ← WM.ch_eq g hlt hf]
        unfold ii
        rw [List.map_append]
        rfl
end
end WP
end
section
set_option maxRecDepth 100000
set_option maxHeartbeats 2000000
namespace WP
open PySem PySem.Spec PyProof.Rows L2 R1
open Si62 (Wardrobe)
/-! ### rows as a list of lists -/
structure RowsL (H : Hp) (a : Addr) (as : List Addr) (R : List (List Nat)) : Prop where
  lst : H a = some (.lst (as.map V.ref))
  len : as.length = R.length
  ne : ∀ b ∈ as, b ≠ a
  at_ : ∀ (i : Nat) (b : Addr) (l : List Nat), as[i]? = some b → R[i]? = some l → H b = some (.lst (ii l))
theorem RowsL.same {H H' : Hp} {a : Addr} {as : List Addr} {R : List (List Nat)} (h : RowsL H a as R) (s : Same H H') : RowsL H' a as R :=
  ⟨s _ _ h.lst, h.len, h.ne, fun i b l e1 e2 => s _ _ (h.at_ i b l e1 e2)⟩
theorem RowsL.nil {H : Hp} {a : Addr} (h : H a = some (.lst [])) : RowsL H a [] [] := ⟨h, rfl, (fun b hb => nomatch hb), (fun i b l e => by rw [List.getElem?_nil] at e; cases e)⟩
theorem RowsL.app {H H' : Hp} {a : Addr} {as bs : List Addr} {A B : List (List Nat)} (h : RowsL H a as A) (hl : bs.length = B.length) (hat : ∀ (i : Nat) (b : Addr) (l : List Nat), bs[i]? = some b → B[i]? = some l → H' b = some (.lst (ii l))) (hn : ∀ b ∈ bs, b ≠ a)
    (k : ∀ b o, H b = some o → b ≠ a → H' b = some o) (ha : H' a = some (.lst (as.map V.ref ++ bs.map V.ref))) : RowsL H' a (as ++ bs) (A ++ B) := by
  refine ⟨by rw [ha, List.map_append], by rw [List.length_append, List.length_append, h.len, hl], fun b hb => ?_, fun i b l e1 e2 => ?_⟩
  · rcases List.mem_append.mp hb with hb | hb
    · exact h.ne b hb
    · exact hn b hb
  · by_cases hi : i < as.length
    · rw [List.getElem?_append_left hi] at e1
      rw [List.getElem?_append_left (by rw [← h.len]; exact hi)] at e2
      exact k _ _ (h.at_ i b l e1 e2) (h.ne b (List.mem_of_getElem? e1))
    · rw [List.getElem?_append_right (by omega)] at e1
      rw [List.getElem?_append_right (by rw [← h.len]; omega), ← h.len] at e2
      exact hat _ b l e1 e2
theorem RowsL.get {H : Hp} {a : Addr} {as : List Addr} {R : List (List Nat)} (h : RowsL H a as R) {i : Nat} {l : List Nat} (e : R[i]? = some l) : ∃ b, as[i]? = some b ∧ (as.map V.ref)[i]? = some (V.ref b) ∧ H b = some (.lst (ii l)) := by
  have hi : i < as.length := by rw [h.len]; exact (List.getElem?_eq_some_iff.mp e).1
  exact ⟨as[i], List.getElem?_eq_getElem hi, by rw [List.getElem?_map, List.getElem?_eq_getElem hi]; rfl, h.at_ i _ l (List.getElem?_eq_getElem hi) e⟩
theorem tYes_of {σ : L2.St} {H : Hp} {A B : Hp → Prop} (h : A H) : tYes σ H (fun b H3 => if b = true then A H3 else B H3) := by
  unfold tYes
  exact iteT h
def longer (W : Wardrobe) (l : List Nat) : List (List Nat) := (WM.ch W l).map fun t => l ++ [t]
theorem take_flat {R : List (List Nat)} {f : List Nat → List (List Nat)} {i : Nat} {l : List Nat} (h : R[i]? = some l) : (R.take (i + 1)).flatMap f = (R.take i).flatMap f ++ f l := by
  rw [List.take_succ, h, List.flatMap_append]
  simp
theorem take_flat_len (R : List (List Nat)) (f : List Nat → List (List Nat)) (i : Nat) : ((R.take i).flatMap f).length ≤ (R.flatMap f).length := by
  have e : R.flatMap f = (R.take i).flatMap f ++ (R.drop i).flatMap f := by rw [← List.flatMap_append, List.take_append_drop]
  rw [e, List.length_append]; omega
theorem rows_small {W : Wardrobe} (g : WM.Good W) {n : Nat} (hn : n ≤ 6) : (WM.rowsM W n).length ≤ 46656 := by
  have h1 := WM.rowsM_len W n
  have h2 : (W.costumes.length + 1) ^ n ≤ 6 ^ n := Nat.pow_le_pow_left (by have := g.c5; omega) n
  have h3 : 6 ^ n ≤ 6 ^ 6 := Nat.pow_le_pow_right (by decide) hn
  have : 6 ^ 6 = 46656 := by decide
  omega
section
variable {P : Program} {w : World} {K : PySem.W.Frag} {mg : Str → Option Value} {base : Heap} {t : Ad}
def spRow (t : Ad) : Sp := fun vs H Q _ => ∃ (p lk lc ln : Addr) (W : Wardrobe), vs = [.ref p] ∧ WAt t H p lk lc ln W ∧ WM.Good W ∧
  ∀ (H' : Hp) (a : Addr) (as : List Addr), Same H H' → RowsL H' a as W.rows → Q (.ref a) H'
theorem scRow : FnScope ["wardrobe", "rows", "longer", "row", "number"] ["wardrobe"] (defScope sRow) := ⟨rfl, rfl, rfl, by decide +kernel, rfl, by decide +kernel, by decide +kernel⟩
theorem ok_Row (T : Txt K mg t) : FnOk P w K mg base CX0 3 t.fRow t.dRow ["wardrobe"] (spRow t) := by
  refine T.FRow.ok scRow (fun vs H Q E h => ?_) (fun cdv A outer s H vs Q E hr h => ?_)
  · obtain ⟨p, lk, lc, ln, W, rfl, _⟩ := h
    rfl
  · obtain ⟨p, lk, lc, ln, W, rfl, hW, g, q⟩ := h
    obtain ⟨dx, hp⟩ := hW.ob
    obtain ⟨ns, hns, ens⟩ := hW.ns.lst
    refine ⟨_, pss_cons (ps_set (i := 1) scRow.nd rfl (Or.inl rfl) (pe_lst (pa_cons (pe_lst pa_nil) pa_nil)))
      (pss_cons (ps_while PassesOwn.never (pt_cmpR op_lt (pe_callB call_len_seq (by rfl) T.bl_len PySem.boot_len (pa_cons (pe_ix ix_list (pv 1) pe_int (fun _ _ => rfl)) pa_nil)) (pe_callB call_len_seq (by rfl) T.bl_len PySem.boot_len (pa_cons (pe_fld (pv 0) rfl) pa_nil)) (nomark _))
        (pss_cons (ps_set (i := 2) scRow.nd rfl (Or.inl rfl) (pe_lst pa_nil))
        (pss_cons (ps_for PassesOwn.never rfl (pi_list (pv 1)) (pg_name (i := 3) scRow.nd rfl (Or.inr rfl))
          (pss_one (ps_expr (pe_bm PySem.F.plainAttrs_list PySem.F.slot_list_extend PySem.F.type_list_extend mt_extend (pv 2)
            (pa_cons (pe_lc rfl scRow.nd (pi_list (pe_call (ok_Cho T) hr rfl T.gCho T.FCho.kp T.bCho .nil pass0 (pa_cons (pv 0) (pa_cons (pv 3) pa_nil)))) (blkOk_by (own := [("number", 4)]) (by show blkC ["wardrobe", "rows", "longer", "row", "number"] (defScope sRow) _ [("number", 4)] = true; decide +kernel))
              (fun _ _ _ _ _ => pg_name (i := 4) scRow.nd rfl (Or.inl rfl)) (fun _ _ _ _ _ => pts_nil) (fun _ _ _ _ _ => pe_op op_cat (pv 3) (pe_lst (pa_cons (pv 4) pa_nil)))) pa_nil)))))
        (pss_one (ps_set (i := 1) scRow.nd rfl (Or.inl rfl) (pv 2))))))
      (pss_one (ps_ret (pv 1)))), ?_⟩
    refine ⟨Nat.zero_le _, fun a0 ha0 => ⟨(by show 1 ≤ sizeLine; decide), fun a ha => ?_⟩⟩
    have s1 : Same H (upd H a0 (.lst [])) := Same.upd ha0
    have s2 : Same H (upd (upd H a0 (.lst [])) a (.lst [.ref a0])) := s1.trans (Same.upd ha)
    have na : a0 ≠ a := ne_of_none upd_same ha
    refine ⟨fun m σ H' => ∃ (n : Nat) (b : Addr) (bs : List Addr) (v2 v3 v4 : Option V), σ = [some (.ref p), some (.ref b), v2, v3, v4] ∧ n ≤ W.needs.length ∧ Same H H' ∧ RowsL H' b bs (WM.rowsM W n) ∧ m = W.needs.length - n,
      ⟨_, 0, a, [a0], none, none, none, rfl, Nat.zero_le _, s2, ⟨upd_same, rfl, ?_, ?_⟩, rfl⟩, ?_⟩
    · intro b hb
      rw [List.mem_singleton.mp hb]; exact na
    · intro i b l e1 e2
      have hi : i = 0 := by
        have := (List.getElem?_eq_some_iff.mp e1).1
        simpa using this
      subst hi
      have eb : a0 = b := Option.some.inj e1
      have el : ([] : List Nat) = l := Option.some.inj e2
      subst eb el
      rw [upd_ne na]; exact upd_same
    rintro m σ H1 ⟨n, b, bs, v2, v3, v4, rfl, hn, s3, hR, rfl⟩
    have hne := WM.rowsM_ne W n
    obtain ⟨l0, hl0⟩ : ∃ l0, (WM.rowsM W n)[0]? = some l0 := by
      cases e : WM.rowsM W n with
      | nil => exact absurd e hne
      | cons x xs => exact ⟨x, rfl⟩
    have hl0n : l0.length = n := (WM.rowsM_mem (List.mem_of_getElem? hl0)).1
    obtain ⟨b0, hb0, hb0', hbl⟩ := hR.get hl0
    refine ⟨_, rfl, b, _, _, V.ref b0, rfl, rfl, SqL.of hR.lst, atI_nat (j := 0) hb0', b0, _, rfl, .inl (SqL.of hbl), _, rfl, p, t.CW, dx, _, _, rfl, s3 _ _ hp, T.clW, T.nW_needs, wF_needs _ _ _, ln, ns, rfl, .inl (SqL.of (s3 _ _ hns)), _, _, rfl, rfl, _, rfl, ite2 (fun e => ?_) (fun e => ?_)⟩
    · have e0 := of_decide_eq_true e
      have hlt : n < W.needs.length := by
        rw [ii_len, hl0n, ens] at e0; omega
      refine ⟨fun σ' H' => ∃ (c : Addr) (cs : List Addr) (v2 v3 v4 : Option V), σ' = [some (.ref p), some (.ref c), v2, v3, v4] ∧ Same H H' ∧ RowsL H' c cs (WM.rowsM W (n + 1)), fun σ' H' ⟨c, cs, u2, u3, u4, z1, z2, z3⟩ => ⟨W.needs.length - (n + 1), by omega, n + 1, c, cs, u2, u3, u4, z1, hlt, z2, z3, rfl⟩, ?_⟩
      refine ⟨Nat.zero_le _, fun lg hlg => ?_⟩
      have s4 : Same H1 (upd H1 lg (.lst [])) := Same.upd hlg
      have big : ∀ i, (((WM.rowsM W n).take i).flatMap (longer W)).length ≤ 46656 := fun i => Nat.le_trans (take_flat_len _ _ _) (rows_small g (n := n + 1) (by have := g.n6; omega))
      refine ⟨_, rfl, b, rfl, ⟨_, SqL.of (s4 _ _ hR.lst)⟩, for_list (xs := bs.map V.ref)
        (fun i σ H2 => ∃ (gs : List Addr) (v3 v4 : Option V), σ = [some (.ref p), some (.ref b), some (.ref lg), v3, v4] ∧ Same H1 H2 ∧ RowsL H2 lg gs (((WM.rowsM W n).take i).flatMap (longer W)))
        ⟨[], v3, v4, rfl, s4, RowsL.nil upd_same⟩ (fun i σ H2 _ ⟨_, _, _, _, s5, _⟩ => SqL.of (s5 _ _ hR.lst)) ?_ ?_⟩
      · rintro i x σ H2 hi ⟨gs, u3, u4, rfl, s5, hG⟩
        have hil : i < (WM.rowsM W n).length := by
          have := (List.getElem?_eq_some_iff.mp hi).1
          rw [List.length_map, hR.len] at this; exact this
        have hli : (WM.rowsM W n)[i]? = some (WM.rowsM W n)[i] := List.getElem?_eq_getElem hil
        generalize (WM.rowsM W n)[i] = l at hli
        have hll : l.length = n := (WM.rowsM_mem (List.mem_of_getElem? hli)).1
        obtain ⟨c, hc, hc', hcl⟩ := hR.get hli
        rw [hi] at hc'
        cases hc'
        have hcl2 := s5 _ _ hcl
        have hbig := big (i + 1)
        rw [take_flat hli, List.length_append] at hbig
        refine ⟨_, rfl, .inl ⟨rfl, _, SqL.of hG.lst⟩, _, rfl, _, rfl, p, lk, lc, ln, c, W, l, rfl, hW.same (s3.trans s5), g, hcl2, (by rw [hll]; exact hlt), fun H3 d s6 nd hd => ⟨d, rfl, ⟨_, SqL.of hd⟩, fun D hD => ?_⟩⟩
        refine lc_list (xs := ii (WM.ch W l)) (fun j H4 => ∃ ds : List Addr, Same H3 H4 ∧ RowsL H4 D ds ((longer W l).take j) ∧ ∀ b ∈ ds, H3 b = none)
          ⟨[], Same.upd hD, RowsL.nil upd_same, (fun b hb => nomatch hb)⟩ (fun j H4 _ ⟨_, s7, _⟩ => SqL.of (s7 _ _ hd)) ?_ ?_
        · rintro j y H4 hj ⟨ds, s7, hD4, hf⟩
          obtain ⟨tt, htt, rfl⟩ : ∃ tt, (WM.ch W l)[j]? = some tt ∧ y = V.int (tt : Nat) := by
            unfold ii at hj
            rw [List.getElem?_map] at hj
            cases e : (WM.ch W l)[j]? with
            | none => rw [e] at hj; cases hj
            | some z => rw [e] at hj; exact ⟨z, rfl, (Option.some.inj hj).symm⟩
          have hlj : (longer W l)[j]? = some (l ++ [tt]) := by unfold longer; rw [List.getElem?_map, htt]; rfl
          have hchl : (longer W l).length ≤ 6 := by
            unfold longer; rw [List.length_map]; have := WM.ch_len W l; have := g.c5; omega
          refine ⟨rfl, ?_⟩
          refine tYes_of ?_
          refine ⟨_, rfl, _, rfl, (by show 1 ≤ sizeLine; decide), fun e1 he1 => ?_⟩
          have s8 : Same H4 (upd H4 e1 (.lst [V.int (tt : Nat)])) := Same.upd he1
          have hcl4 := s8 _ _ (s7 _ _ (s6 _ _ hcl2))
          have small : (ii l).length + 1 ≤ sizeLine := by rw [ii_len, hll]; have := g.n6; exact line_of (by omega)
          refine ⟨c, e1, ii l, [V.int (tt : Nat)], rfl, rfl, hcl4, upd_same, small, fun e2 he2 => ?_⟩
          have s9 := s8.trans (Same.upd he2 (o := .lst (ii l ++ [V.int (tt : Nat)])))
          have nD : e2 ≠ D := (ne_of_none (s8 _ _ hD4.lst) he2).symm
          refine ⟨ds.map V.ref, s9 _ _ hD4.lst, ?_, ds ++ [e2], ?_, ?_, ?_⟩
          · rw [List.length_map, hD4.len, List.length_take]
            exact small1000 (by omega)
          · intro b' o' e'
            have : b' ≠ D := ne_of_none e' hD
            rw [upd_ne this]
            exact s9 _ _ (s7 _ _ e')
          · have := List.take_succ (l := longer W l) (i := j)
            rw [this, hlj]
            refine RowsL.app hD4 rfl ?_ ?_ (fun b' o' e' nb => by rw [upd_ne nb]; exact s9 _ _ e') (by rw [upd_same]; rfl)
            · intro k b' l' z1 z2
              have hk : k = 0 := by
                have := (List.getElem?_eq_some_iff.mp z1).1
                simpa using this
              subst hk
              have eb : e2 = b' := Option.some.inj z1
              have el : l ++ [tt] = l' := Option.some.inj z2
              subst eb el
              rw [upd_ne nD, upd_same]
              unfold ii
              rw [List.map_append]
              rfl
            · intro b' hb'
              rw [List.mem_singleton.mp hb']; exact nD
          · intro b' hb'
            rcases List.mem_append.mp hb' with hb' | hb'
            · exact hf b' hb'
            · rw [List.mem_singleton.mp hb']
              exact (s7.trans s8).free he2
        · rintro H4 ⟨ds, s7, hD4, hf⟩
          have elen : (ii (WM.ch W l)).length = (longer W l).length := by rw [ii_len]; unfold longer; rw [List.length_map]
          rw [elen, List.take_length] at hD4
          have hG4 := hG.same (s6.trans s7)
          have nlg : ∀ b ∈ ds, b ≠ lg := fun b' hb' z => by
            have := hf b' hb'
            rw [z, s6 _ _ hG.lst] at this
            cases this
          refine ⟨lg, D, _, _, rfl, rfl, hG4.lst, hD4.lst, ?_, ?_⟩
          · rw [List.length_map, List.length_map, hG.len, hD4.len]
            exact line_of (by omega)
          · refine ⟨gs ++ ds, _, _, rfl, ?_, ?_⟩
            · intro b' o' e'
              rw [upd_ne (ne_of_none e' hlg)]
              exact s7 _ _ (s6 _ _ (s5 _ _ e'))
            · rw [take_flat hli]
              exact RowsL.app hG4 hD4.len (fun k b' l' z1 z2 => by rw [upd_ne (nlg b' (List.mem_of_getElem? z1))]; exact hD4.at_ k b' l' z1 z2) nlg (fun b' o' e' nb => by rw [upd_ne nb]; exact e') upd_same
      · rintro σ H2 ⟨gs, u3, u4, rfl, s5, hG⟩
        rw [List.length_map, hR.len, List.take_length] at hG
        refine ⟨_, rfl, lg, gs, _, _, _, rfl, s3.trans s5, hG⟩
    · have e0 : ¬ (((ii l0).length : Int) < (ns.length : Int)) := fun z => e (decide_eq_true z)
      rw [ii_len, hl0n, ens] at e0
      have en : n = W.needs.length := by omega
      subst en
      rw [WM.rowsM_rows] at hR
      exact ⟨_, rfl, q H1 b bs s3 hR⟩
end
end WP
end
section
set_option maxRecDepth 100000
set_option maxHeartbeats 2000000
namespace WP
open PySem PySem.Spec PyProof.Rows L2 R1
open Si62 (Wardrobe)
section
variable {P : Program} {w : World} {K : PySem.W.Frag} {mg : Str → Option Value} {base : Heap} {t : Ad}
/-! ### one by one -/
def spOne (t : Ad) : Sp := fun vs H Q _ => ∃ (p lk lc ln : Addr) (W : Wardrobe), vs = [.ref p] ∧ WAt t H p lk lc ln W ∧ WM.Good W ∧
  ∀ (H' : Hp) (r : Addr), Same H H' → H r = none → H' r = some (.lst (ii W.plain)) → Q (.ref r) H'
theorem scOne : FnScope ["wardrobe", "row"] ["wardrobe"] (defScope sOne) := ⟨rfl, rfl, rfl, by decide +kernel, rfl, by decide +kernel, by decide +kernel⟩
theorem ok_One (T : Txt K mg t) : FnOk P w K mg base CX0 3 t.fOne t.dOne ["wardrobe"] (spOne t) := by
  refine T.FOne.ok scOne (fun vs H Q E h => ?_) (fun cdv A outer s H vs Q E hr h => ?_)
  · obtain ⟨p, lk, lc, ln, W, rfl, _⟩ := h
    rfl
  · obtain ⟨p, lk, lc, ln, W, rfl, hW, g, q⟩ := h
    obtain ⟨dx, hp⟩ := hW.ob
    obtain ⟨ns, hns, ens⟩ := hW.ns.lst
    refine ⟨_, pss_cons (ps_set (i := 1) scOne.nd rfl (Or.inl rfl) (pe_lst pa_nil))
      (pss_cons (ps_while PassesOwn.never (pt_cmpR op_lt (pe_callB call_len_seq (by rfl) T.bl_len PySem.boot_len (pa_cons (pv 1) pa_nil)) (pe_callB call_len_seq (by rfl) T.bl_len PySem.boot_len (pa_cons (pe_fld (pv 0) rfl) pa_nil)) (nomark _))
        (pss_one (ps_expr (pe_bm PySem.F.plainAttrs_list PySem.F.slot_list_append PySem.F.type_list_append mt_append (pv 1)
          (pa_cons (pe_ix ix_list (pe_call (ok_Cho T) hr rfl T.gCho T.FCho.kp T.bCho .nil pass0 (pa_cons (pv 0) (pa_cons (pv 1) pa_nil))) pe_int (fun _ _ => rfl)) pa_nil)))))
      (pss_one (ps_ret (pv 1)))), ?_⟩
    refine ⟨Nat.zero_le _, fun r nr => ?_⟩
    refine ⟨fun m σ H' => ∃ (l : List Nat), σ = [some (.ref p), some (.ref r)] ∧ l.length + m = W.needs.length ∧ W.plainFrom m l = W.plain ∧ Same H H' ∧ H' r = some (.lst (ii l)),
      ⟨W.needs.length, [], rfl, by simp, rfl, Same.upd nr, upd_same⟩, ?_⟩
    rintro m σ H1 ⟨l, rfl, hm, hpl, s1, hl⟩
    refine ⟨_, rfl, r, _, rfl, .inl (SqL.of hl), _, rfl, p, t.CW, dx, _, _, rfl, s1 _ _ hp, T.clW, T.nW_needs, wF_needs _ _ _, ln, ns, rfl, .inl (SqL.of (s1 _ _ hns)), _, _, rfl, rfl, _, rfl, ite2 (fun e => ?_) (fun e => ?_)⟩
    · have e0 := of_decide_eq_true e
      have hlt : l.length < W.needs.length := by rw [ii_len, ens] at e0; omega
      obtain ⟨n, rfl⟩ : ∃ n, m = n + 1 := ⟨m - 1, by omega⟩
      have hch := WM.ch_head W l
      generalize (((List.range W.costumes.length).find? fun i => (W.bad (l ++ [i]) l.length).isNone).getD W.costumes.length) = tt at hch
      refine ⟨fun σ' H' => σ' = [some (.ref p), some (.ref r)] ∧ Same H H' ∧ H' r = some (.lst (ii (l ++ [tt]))), fun σ' H' ⟨z1, z2, z3⟩ => ⟨n, by omega, l ++ [tt], z1, by rw [List.length_append]; simp; omega, by rw [← hpl, WM.plain_turn W hch], z2, z3⟩, ?_⟩
      refine ⟨_, rfl, .inl ⟨rfl, _, SqL.of hl⟩, _, rfl, _, rfl, p, lk, lc, ln, r, W, l, rfl, hW.same s1, g, hl, hlt, fun H2 c s2 nc hc => ⟨c, _, _, V.int (tt : Nat), rfl, rfl, SqL.of hc, atI_nat (j := 0) (ii_get hch), r, _, _, rfl, rfl, s2 _ _ hl, ?_, rfl, ?_, ?_⟩⟩
      · rw [ii_len]; have := g.n6; exact small1000 (by omega)
      · intro b o eb
        rw [upd_ne (ne_of_none eb nr)]; exact s2 _ _ (s1 _ _ eb)
      · rw [upd_same]
        unfold ii
        rw [List.map_append]
        rfl
    · have e0 : ¬ (((ii l).length : Int) < (ns.length : Int)) := fun z => e (decide_eq_true z)
      rw [ii_len, ens] at e0
      have em : m = 0 := by omega
      subst em
      have ep : l = W.plain := hpl
      subst ep
      exact ⟨_, rfl, q H1 r s1 nr hl⟩
/-! ### what a row costs -/
theorem cast_sum : ∀ l : List Nat, (WM.castL l).sum = ((l.sum : Nat) : Int)
  | [] => rfl
  | x :: l => by
    have ih := cast_sum l
    unfold WM.castL at ih ⊢
    rw [List.map_cons, List.sum_cons, ih, List.sum_cons]
    omega
theorem boot_sum' : bootBuiltins "sum" = some (.builtin "sum") := by decide +kernel
def costT (W : Wardrobe) (l : List Nat) (i : Nat) : List Nat := (((W.needs.zip l).take i).filter fun p => decide (p.2 = W.costumes.length)).map fun p => (W.kind p.1.kind).hire
theorem costT_len (W : Wardrobe) (l : List Nat) (i : Nat) : (costT W l i).length ≤ W.needs.length := by
  unfold costT
  rw [List.length_map]
  refine Nat.le_trans (List.length_filter_le _ _) ?_
  rw [List.length_take, List.length_zip]
  omega
theorem zip_get {W : Wardrobe} {l : List Nat} {i x : Nat} (h1 : i < W.needs.length) (h2 : l[i]? = some x) : (W.needs.zip l)[i]? = some (W.need i, x) := by
  rw [List.getElem?_zip_eq_some]
  exact ⟨need_get h1, h2⟩
theorem costT_succ {W : Wardrobe} {l : List Nat} {i x : Nat} (h1 : i < W.needs.length) (h2 : l[i]? = some x) : costT W l (i + 1) = costT W l i ++ (if x = W.costumes.length then [(W.kind (W.need i).kind).hire] else []) := by
  unfold costT
  rw [List.take_succ, zip_get h1 h2, List.filter_append, List.map_append]
  congr 1
  by_cases h : x = W.costumes.length
  · rw [if_pos h]
    simp [h]
  · rw [if_neg h]
    simp [h]
def spCos (t : Ad) : Sp := fun vs H Q _ => ∃ (p lk lc ln r : Addr) (W : Wardrobe) (l : List Nat), vs = [.ref p, .ref r] ∧ WAt t H p lk lc ln W ∧ WM.Good W ∧ H r = some (.lst (ii l)) ∧ l.length = W.needs.length ∧ (∀ x ∈ l, x ≤ W.costumes.length) ∧
  ∀ (H' : Hp), Same H H' → Q (.int (W.cost l : Nat)) H'
theorem scCos : FnScope ["wardrobe", "row", "hired", "need", "number"] ["wardrobe", "row"] (defScope sCos) := ⟨rfl, rfl, rfl, by decide +kernel, rfl, by decide +kernel, by decide +kernel⟩
theorem ok_Cos (T : Txt K mg t) : FnOk P w K mg base CX0 2 t.fCos t.dCos ["wardrobe", "row"] (spCos t) := by
  refine T.FCos.ok scCos (fun vs H Q E h => ?_) (fun cdv A outer s H vs Q E hr h => ?_)
  · obtain ⟨p, lk, lc, ln, r, W, l, rfl, _⟩ := h
    rfl
  · obtain ⟨p, lk, lc, ln, r, W, l, rfl, hW, g, hl, hlen, hx, q⟩ := h
    obtain ⟨dx, hp⟩ := hW.ob
    obtain ⟨ns, hns, ens⟩ := hW.ns.lst
    refine ⟨_, pss_cons (ps_set (i := 2) scCos.nd rfl (Or.inr rfl) (pe_meth0 (pv 0) T.clW T.mHir (ok_Hir T) hr T.bHir .nil pass0))
      (pss_one (ps_ret (pe_callB (cr_sum rfl) (by rfl) T.bl_sum boot_sum' (pa_cons (pe_lc (g := gTup K 2 (gCons (gName 3) (gCons (gName 4) gNil))) (te := tFld K (tOp (rIxL K) (tFld K (tVar 0) "kinds") (tFld K (tVar 3) "kind")) "hire") rfl scCos.nd (pi_zip rfl T.bl_zip (pa_cons (pe_fld (pv 0) rfl) (pa_cons (pv 1) pa_nil)))
        (blkOk_by (own := [("need", 3), ("number", 4)]) (by show blkC ["wardrobe", "row", "hired", "need", "number"] (defScope sCos) _ [("need", 3), ("number", 4)] = true; decide +kernel))
        (fun _ _ _ _ _ => pg_tup rfl (pgs_cons (pg_name (i := 3) scCos.nd rfl (Or.inl rfl) (Or.inr rfl)) (pgs_cons (pg_name (i := 4) scCos.nd rfl (Or.inl rfl) (Or.inr rfl)) pgs_nil)))
        (fun _ _ _ _ _ => pts_one (pt_cmpR op_eq (pv 4) (pv 2) (nomark _)))
        (fun _ _ _ _ _ => pe_fld (pe_ix ix_list (pe_fld (pv 0) rfl) (pe_fld (pv 3) rfl) (fun _ _ => rfl)) rfl)) pa_nil)))), ?_⟩
    refine ⟨_, rfl, p, dx, _, rfl, hp, wF_no _ _ _ (by decide +kernel) (by decide +kernel) (by decide +kernel), p, lk, lc, ln, W, rfl, hW, ?_⟩
    refine ⟨_, rfl, p, t.CW, dx, _, _, rfl, hp, T.clW, T.nW_needs, wF_needs _ _ _, _, rfl, ln, r, ns, ii l, rfl, SqL.of hns, SqL.of hl, fun D hD => ?_⟩
    refine lc_zip (by rw [ens, ii_len, hlen]) (fun i H' => Same H H' ∧ H' D = some (.lst (ii (costT W l i)))) ⟨Same.upd hD, upd_same⟩ (fun i H' _ ⟨s1, _⟩ => ⟨SqL.of (s1 _ _ hns), SqL.of (s1 _ _ hl)⟩) ?_ ?_
    · rintro i x y H' Tt hi hj ⟨s1, e1⟩ hT
      have hil : i < W.needs.length := by rw [← ens]; exact (List.getElem?_eq_some_iff.mp hi).1
      obtain ⟨ns', a, da, n1, n2, n3, n4⟩ := hW.ns.get (need_get hil)
      rw [hns] at n1
      cases n1
      rw [hi] at n2
      cases n2
      have hli : l[i]? = some l[i] := List.getElem?_eq_getElem (by omega)
      generalize l[i] = z at hli
      rw [ii_get hli] at hj
      cases hj
      have s2 : Same H' (upd H' Tt (.tup [V.ref a, V.int (z : Nat)])) := Same.upd hT
      have s3 := s1.trans s2
      refine ⟨Tt, _, rfl, SqT.of upd_same, rfl, _, _, rfl, _, _, rfl, rfl, rfl, ?_⟩
      refine ⟨_, rfl, _, rfl, rfl, _, rfl, ite2 (fun e => ?_) (fun e => ?_)⟩
      · have e0 : V.int (z : Int) = V.int (W.costumes.length : Int) := of_decide_eq_true e
        have ez : z = W.costumes.length := by injection e0 with e0; omega
        have hk : (W.need i).kind < W.kinds.length := g.nk _ (List.mem_of_getElem? (need_get hil))
        obtain ⟨ks, b, db, k1, k2, k3, kl⟩ := hW.ks.get (kind_get hk)
        refine ⟨_, rfl, p, t.CW, dx, _, _, rfl, s3 _ _ hp, T.clW, T.nW_kinds, wF_kinds _ _ _, _, rfl, a, t.CN, da, _, _, rfl, s3 _ _ n3, T.clN, T.nN_kind, nF_kind _, lk, ks, _, V.ref b, rfl, rfl, SqL.of (s3 _ _ k1), atI_nat k2, b, t.CK, db, _, _, rfl, s3 _ _ k3, T.clK, T.nK_hire, kF_hire _,
          _, s2 _ _ e1, ?_, fun b' o eb => by rw [upd_ne (ne_of_none eb hD)]; exact s3 b' o eb, ?_⟩
        · rw [ii_len]; have := costT_len W l i; have := g.n6; exact small1000 (by omega)
        · rw [upd_same, costT_succ hil hli, if_pos ez]
          unfold ii
          rw [List.map_append]
          rfl
      · have ez : ¬ z = W.costumes.length := fun q' => e (decide_eq_true (by rw [q']))
        refine ⟨s3, ?_⟩
        rw [s2 _ _ e1, costT_succ hil hli, if_neg ez, List.append_nil]
    · rintro H' ⟨s1, e1⟩
      refine ⟨D, WM.castL (costT W l ns.length), rfl, SqL.of (by rw [e1, ii_map]), ?_⟩
      rw [cast_sum]
      have ec : (costT W l ns.length).sum = W.cost l := by
        rw [← WM.cost_eq hlen hx]
        unfold costT WM.costL
        rw [List.take_of_length_le]
        rw [List.length_zip]; omega
      rw [ec]
      exact q H' s1
end
end WP
end
section
set_option maxRecDepth 100000
set_option maxHeartbeats 2000000
namespace WP
open PySem PySem.Spec PyProof.Rows L2 R1
open Si62 (Wardrobe)
section
variable {P : Program} {w : World} {K : PySem.W.Frag} {mg : Str → Option Value} {base : Heap} {t : Ad}
/-! ### what hinders -/
def optV : Option Nat → V
  | none => .non
  | some e => .int (e : Nat)
theorem getD_of {l : List Nat} {i x : Nat} (h : l[i]? = some x) : l.getD i 0 = x := by rw [List.getD_eq_getElem?_getD, h]; rfl
def spHin (t : Ad) : Sp := fun vs H Q _ => ∃ (p lk lc ln r : Addr) (W : Wardrobe) (l : List Nat) (j : Nat), vs = [.ref p, .ref r, .int j] ∧ WAt t H p lk lc ln W ∧ WM.Good W ∧ H r = some (.lst (ii l)) ∧ l.length = W.needs.length ∧ (∀ x ∈ l, x ≤ W.costumes.length) ∧ j < l.length ∧
  Q (optV (W.bad l j)) H
theorem scHin : FnScope ["wardrobe", "row", "later", "number", "earlier"] ["wardrobe", "row", "later"] (defScope sHin) := ⟨rfl, rfl, rfl, by decide +kernel, rfl, by decide +kernel, by decide +kernel⟩
theorem ok_Hin (T : Txt K mg t) : FnOk P w K mg base CX0 2 t.fHin t.dHin ["wardrobe", "row", "later"] (spHin t) := by
  refine T.FHin.ok scHin (fun vs H Q E h => ?_) (fun cdv A outer s H vs Q E hr h => ?_)
  · obtain ⟨p, lk, lc, ln, r, W, l, j, rfl, _⟩ := h
    rfl
  · obtain ⟨p, lk, lc, ln, r, W, l, j, rfl, hW, g, hl, hlen, hx, hj, q⟩ := h
    obtain ⟨dx, hp⟩ := hW.ob
    refine ⟨_, pss_cons (ps_set (i := 3) scHin.nd rfl (Or.inl rfl) (pe_ix ix_list (pv 1) (pv 2) (fun _ _ => rfl)))
      (pss_cons (ps_if (pt_cmpR op_eq (pv 3) (pe_meth0 (pv 0) T.clW T.mHir (ok_Hir T) hr T.bHir .nil pass0) (nomark _)) (pss_one (ps_ret pe_non)) pss_nil)
      (pss_cons (ps_if (pt_not (pt_val (pe_call (ok_Sui T) hr rfl T.gSui T.FSui.kp T.bSui .nil pass0 (pa_cons (pe_ix ix_list (pe_fld (pv 0) rfl) (pv 3) (fun _ _ => rfl)) (pa_cons (pe_ix ix_list (pe_fld (pv 0) rfl) (pv 2) (fun _ _ => rfl)) pa_nil))))) (pss_one (ps_ret (pv 2))) pss_nil)
      (pss_cons (ps_for PassesOwn.never rfl (pi_range2 rfl T.bl_range (pa_cons (pe_call (ok_Fso T) hr rfl T.gFso T.FFso.kp T.bFso .nil pass0 (pa_cons (pv 0) (pa_cons (pv 2) pa_nil))) (pa_cons (pv 2) pa_nil))) (pg_name (i := 4) scHin.nd rfl (Or.inl rfl))
        (pss_one (ps_if (pt_cmpR op_eq (pe_ix ix_list (pv 1) (pv 4) (fun _ _ => rfl)) (pv 3) (nomark _)) (pss_one (ps_ret (pv 4))) pss_nil)))
      (pss_one (ps_ret pe_non))))), ?_⟩
    have hz : l[j]? = some l[j] := List.getElem?_eq_getElem hj
    have hzm : l[j] ≤ W.costumes.length := hx _ (List.getElem_mem _)
    generalize l[j] = z at hz hzm
    have hzd := getD_of hz
    have hjn : j < W.needs.length := by omega
    refine ⟨_, rfl, _, rfl, r, _, _, V.int (z : Nat), rfl, rfl, SqL.of hl, atI_nat (ii_get hz), ?_⟩
    refine ⟨_, rfl, _, rfl, p, dx, _, rfl, hp, wF_no _ _ _ (by decide +kernel) (by decide +kernel) (by decide +kernel), p, lk, lc, ln, W, rfl, hW, rfl, _, rfl, ite2 (fun e => ?_) (fun e => ?_)⟩
    · have e0 : V.int (z : Int) = V.int (W.costumes.length : Int) := of_decide_eq_true e
      have ez : z = W.costumes.length := by injection e0 with e0; omega
      rw [WM.bad_hired (by rw [hzd]; omega)] at q
      exact q
    · have ez : ¬ z = W.costumes.length := fun q' => e (decide_eq_true (by rw [q']))
      have hzc : z < W.costumes.length := by omega
      obtain ⟨cs, c, dc, c1, c2, c3, c4⟩ := hW.cs.get (costume_get hzc)
      obtain ⟨ns, a, da, n1, n2, n3, n4⟩ := hW.ns.get (need_get hjn)
      refine ⟨_, rfl, p, t.CW, dx, _, _, rfl, hp, T.clW, T.nW_costumes, wF_costumes _ _ _, _, rfl, lc, cs, _, V.ref c, rfl, rfl, SqL.of c1, atI_nat c2,
        _, rfl, p, t.CW, dx, _, _, rfl, hp, T.clW, T.nW_needs, wF_needs _ _ _, _, rfl, ln, ns, _, V.ref a, rfl, rfl, SqL.of n1, atI_nat n2,
        c, a, W.costume z, W.need j, rfl, ⟨dc, c3⟩, ⟨da, n3⟩, _, rfl, ite2 (fun e2 => ?_) (fun e2 => ?_)⟩
      · have es : W.suits z j = false := by
          have : (!W.suits z j) = true := e2
          cases hs : W.suits z j with
          | false => rfl
          | true => rw [hs] at this; cases this
        rw [WM.bad_unsuit (by rw [hzd]; exact hzc) (by rw [hzd]; exact es)] at q
        exact ⟨_, rfl, q⟩
      · have es : W.suits z j = true := by
          cases hs : W.suits z j with
          | true => rfl
          | false => exact absurd (show (!W.suits z j) = true by rw [hs]; rfl) e2
        refine ⟨_, rfl, _, rfl, p, lk, lc, ln, W, j, rfl, hW, g, hjn, fun f hf => ⟨_, rfl, (f : Int), (j : Int), rfl, ⟨by omega, by have := hf.le; have := g.n6; omega, by omega, by have := g.n6; omega⟩, ?_⟩⟩
        have hfj := hf.le
        refine for_range (lo := (f : Int)) (n := ((j : Int) - (f : Int)).toNat) (fun i σ H' => ∃ v4 : Option V, σ = [some (.ref p), some (.ref r), some (.int j), some (.int (z : Nat)), v4] ∧ H' = H ∧ ∀ b, f ≤ b → b < f + i → l.getD b 0 ≠ z)
          ⟨none, rfl, rfl, fun b h1 h2 => by omega⟩ ?_ ?_
        · rintro i σ H' hi ⟨v4, rfl, rfl, hb⟩
          have hfi : f + i < j := by omega
          have hy : l[f + i]? = some l[f + i] := List.getElem?_eq_getElem (by omega)
          generalize l[f + i] = y at hy
          have cc : (f : Int) + (i : Int) = ((f + i : Nat) : Int) := by omega
          rw [cc]
          refine ⟨_, rfl, _, rfl, r, _, _, V.int (y : Nat), rfl, rfl, SqL.of hl, atI_nat (ii_get hy), _, rfl, rfl, _, rfl, ite2 (fun e3 => ?_) (fun e3 => ?_)⟩
          · have e0 : V.int (y : Int) = V.int (z : Int) := of_decide_eq_true e3
            have ey : y = z := by injection e0 with e0; omega
            subst ey
            rw [WM.bad_some g hjn hf (by rw [hzd]; exact hzc) (by rw [hzd]; exact es) (Nat.le_add_right f i) hfi (by rw [hzd, getD_of hy]) (fun b h1 h2 => by rw [hzd]; exact hb b h1 h2)] at q
            exact ⟨_, rfl, q⟩
          · have ey : ¬ y = z := fun q' => e3 (decide_eq_true (by rw [q']))
            refine ⟨_, rfl, rfl, fun b h1 h2 => ?_⟩
            by_cases hbi : b < f + i
            · exact hb b h1 hbi
            · have : b = f + i := by omega
              rw [this, getD_of hy]; exact ey
        · rintro σ H' ⟨v4, rfl, rfl, hb⟩
          have := (WM.bad_none g (l := l) hjn hf (by rw [hzd]; exact hzc) (by rw [hzd]; exact es)).mpr (fun b h1 h2 => by rw [hzd]; exact hb b h1 (by omega))
          rw [this] at q
          exact q
/-! ### check -/
theorem wrong_some {W : Wardrobe} {l : List Nat} {i e : Nat} (hi : i < l.length) (h1 : ∀ a, a < i → W.bad l a = none) (h2 : W.bad l i = some e) : W.wrong l = some (i, e) := by
  unfold Wardrobe.wrong
  rw [List.findSome?_eq_some_iff]
  refine ⟨List.range i, i, (List.range' (i + 1) (l.length - (i + 1))), ?_, by rw [h2]; rfl, ?_⟩
  · rw [List.range_eq_range', List.range_eq_range']
    have e1 : l.length = i + (1 + (l.length - (i + 1))) := by omega
    rw [e1, ← List.range'_append_1, ← List.range'_append_1]
    simp [List.range'_one]
    omega
  · intro a ha
    rw [h1 a (by simpa using ha)]; rfl
theorem maxD_one {K : PySem.W.Frag} {H : Hp} {a : Addr} {l : List Nat} {Q : VK} (h : H a = some (.lst (ii l))) (q : ∀ m : Nat, (∀ k, k < m → ∃ x ∈ l, k < x) → (∀ x ∈ l, x ≤ m) → Q (.int (m : Nat)) H) : rMaxD K [V.ref a] [.int 0] H Q := by
  refine ⟨a, WM.castL l, .int 0, rfl, rfl, SqL.of (by rw [← ii_map]; exact h), fun e0 => ?_, fun m h1 h2 => ?_⟩
  · have : l = [] := by unfold WM.castL at e0; exact List.map_eq_nil_iff.mp e0
    subst this
    exact q 0 (fun k hk => absurd hk (Nat.not_lt_zero _)) (fun x hx => nomatch hx)
  · unfold WM.castL at h1 h2
    obtain ⟨x, hx, rfl⟩ := List.mem_map.mp h1
    refine q x (fun k hk => ⟨x, hx, hk⟩) (fun y hy => ?_)
    have := h2 (y : Int) (List.mem_map_of_mem hy)
    omega
def spChk (t : Ad) : Sp := fun vs H Q _ => ∃ (p lk lc ln r : Addr) (W : Wardrobe) (l : List Nat), vs = [.ref p, .ref r] ∧ WAt t H p lk lc ln W ∧ WM.Good W ∧ H r = some (.lst (ii l)) ∧ l.length ≤ 8 ∧
  ∀ (H' : Hp) (c : Addr), Same H H' → H c = none → H' c = some (.lst ((WM.ansOf W (.check l)).map V.int)) → Q (.ref c) H'
theorem scChk : FnScope ["wardrobe", "row", "need", "hindered_by"] ["wardrobe", "row"] (defScope sChk) := ⟨rfl, rfl, rfl, by decide +kernel, rfl, by decide +kernel, by decide +kernel⟩
theorem chk_no {W : Wardrobe} {l : List Nat} (h : W.told l = false) : WM.ansOf W (.check l) = [-1] := by
  unfold WM.ansOf Si62.step
  simp only [h, if_true]
  rfl
theorem chk_wrong {W : Wardrobe} {l : List Nat} {i e : Nat} (h : W.told l = true) (h2 : W.wrong l = some (i, e)) : WM.ansOf W (.check l) = [-6, (i : Int), (e : Int)] := by
  unfold WM.ansOf Si62.step
  simp only [h, h2]
  rfl
theorem chk_ok {W : Wardrobe} {l : List Nat} (h : W.told l = true) (h2 : W.wrong l = none) : WM.ansOf W (.check l) = [(W.cost l : Int)] := by
  unfold WM.ansOf Si62.step
  simp only [h, h2]
  rfl
theorem ok_Chk (T : Txt K mg t) : FnOk P w K mg base CX0 3 t.fChk t.dChk ["wardrobe", "row"] (spChk t) := by
  refine T.FChk.ok scChk (fun vs H Q E h => ?_) (fun cdv A outer s H vs Q E hr h => ?_)
  · obtain ⟨p, lk, lc, ln, r, W, l, rfl, _⟩ := h
    rfl
  · obtain ⟨p, lk, lc, ln, r, W, l, rfl, hW, g, hl, h8, q⟩ := h
    obtain ⟨dx, hp⟩ := hW.ob
    obtain ⟨ns, hns, ens⟩ := hW.ns.lst
    have hr1 : Room 1 _ := hr.mono (by decide)
    refine ⟨_, pss_cons (ps_if (PW.pt (pw_or (pt_cmpR op_ne (pe_callB call_len_seq (by rfl) T.bl_len PySem.boot_len (pa_cons (pv 1) pa_nil)) (pe_callB call_len_seq (by rfl) T.bl_len PySem.boot_len (pa_cons (pe_fld (pv 0) rfl) pa_nil)) (nomark _))
        (pw_or1 (pt_cmpR op_gt (pe_maxD rfl (by rfl) T.bl_max (pv 1) pe_int) (pe_meth0 (pv 0) T.clW T.mHir (ok_Hir T) hr1 T.bHir .nil pass0) (nomark _)))))
        (pss_one (ps_ret (pe_lst (pa_cons (pe_cst T.c_NOT_AS_TOLD (by rfl)) pa_nil)))) pss_nil)
      (pss_cons (ps_for PassesOwn.never rfl (pi_range1 rfl T.bl_range (pa_cons (pe_callB call_len_seq (by rfl) T.bl_len PySem.boot_len (pa_cons (pv 1) pa_nil)) pa_nil)) (pg_name (i := 2) scChk.nd rfl (Or.inl rfl))
        (pss_cons (ps_set (i := 3) scChk.nd rfl (Or.inl rfl) (pe_call (ok_Hin T) hr rfl T.gHin T.FHin.kp T.bHin .nil pass0 (pa_cons (pv 0) (pa_cons (pv 1) (pa_cons (pv 2) pa_nil)))))
        (pss_one (ps_if (pt_cmp (pc_notN (pv 3))) (pss_one (ps_ret (pe_lst (pa_cons (pe_cst T.c_CANNOT_BE (by rfl)) (pa_cons (pv 2) (pa_cons (pv 3) pa_nil)))))) pss_nil))))
      (pss_one (ps_ret (pe_lst (pa_cons (pe_call (ok_Cos T) hr rfl T.gCos T.FCos.kp T.bCos .nil pass0 (pa_cons (pv 0) (pa_cons (pv 1) pa_nil))) pa_nil))))), ?_⟩
    have no : W.told l = false → 1 ≤ sizeLine ∧ ∀ c, H c = none → Q (.ref c) (upd H c (.lst [.int (-1)])) := fun ht => ⟨by decide, fun c hc => q _ c (Same.upd hc) hc (by rw [upd_same, chk_no ht]; rfl)⟩
    have yes : l.length = W.needs.length → (∀ x ∈ l, x ≤ W.costumes.length) → W.told l = true := fun a b => by
      unfold Wardrobe.told
      rw [Bool.and_eq_true, List.all_eq_true]
      exact ⟨by rw [a]; exact beq_self_eq_true _, fun x hx => decide_eq_true (b x hx)⟩
    refine ⟨_, rfl, r, _, rfl, .inl (SqL.of hl), _, rfl, p, t.CW, dx, _, _, rfl, hp, T.clW, T.nW_needs, wF_needs _ _ _, ln, ns, rfl, .inl (SqL.of hns), rfl, _, rfl, ite2 (fun e => ?_) (fun e => ?_)⟩
    · have el : ¬ l.length = W.needs.length := fun z => by
        rw [ii_len, ens, z] at e
        simp at e
      refine iteT ?_
      refine no ?_
      unfold Wardrobe.told
      rw [beq_false_of_ne el]; rfl
    · have el : l.length = W.needs.length := by
        by_cases z : l.length = W.needs.length
        · exact z
        · exfalso
          apply e
          rw [ii_len, ens]
          rw [decide_eq_false (by intro z'; injection z' with z'; omega)]
          rfl
      refine ⟨_, rfl, ?_⟩
      dsimp only [tCons, tNil, tC]
      refine maxD_one hl fun m h1 h2 => ?_
      refine ⟨_, rfl, p, dx, _, rfl, hp, wF_no _ _ _ (by decide +kernel) (by decide +kernel) (by decide +kernel), p, lk, lc, ln, W, rfl, hW, _, _, rfl, rfl, _, rfl, ite2 (fun e2 => ?_) (fun e2 => ?_)⟩
      · have e0 : (W.costumes.length : Int) < (m : Int) := of_decide_eq_true e2
        refine no ?_
        obtain ⟨x, hx, hkx⟩ := h1 W.costumes.length (by omega)
        unfold Wardrobe.told
        rw [Bool.and_eq_false_iff]
        right
        rw [List.all_eq_false]
        exact ⟨x, hx, by simp; omega⟩
      · have e0 : ¬ (W.costumes.length : Int) < (m : Int) := fun z => e2 (decide_eq_true z)
        have hx : ∀ x ∈ l, x ≤ W.costumes.length := fun x hx => by have := h2 x hx; omega
        have ht := yes el hx
        refine ⟨_, rfl, r, _, rfl, .inl (SqL.of hl), ((ii l).length : Int), rfl, by omega, by rw [ii_len]; omega, ?_⟩
        have en : ((ii l).length : Int).toNat = l.length := by rw [ii_len]; omega
        rw [en]
        refine for_range (lo := 0) (n := l.length) (fun i σ H' => ∃ v2 v3 : Option V, σ = [some (.ref p), some (.ref r), v2, v3] ∧ H' = H ∧ ∀ a, a < i → W.bad l a = none)
          ⟨none, none, rfl, rfl, fun a ha => by omega⟩ ?_ ?_
        · rintro i σ H' hi ⟨v2, v3, rfl, rfl, hb⟩
          rw [Int.zero_add]
          refine ⟨_, rfl, _, rfl, _, rfl, p, lk, lc, ln, r, W, l, i, rfl, hW, g, hl, el, hx, hi, ?_⟩
          refine ⟨_, rfl, _, rfl, ite2 (fun e3 => ?_) (fun e3 => ?_)⟩
          · cases hbi : W.bad l i with
            | none =>
              rw [hbi] at e3
              exact absurd e3 (by decide)
            | some f =>
              refine ⟨_, rfl, _, rfl, (by show 3 ≤ sizeLine; decide), fun c hc => q _ c (Same.upd hc) hc ?_⟩
              rw [upd_same, chk_wrong ht (wrong_some hi hb hbi)]
              rfl
          · refine ⟨_, _, rfl, rfl, fun a ha => ?_⟩
            by_cases hai : a < i
            · exact hb a hai
            · have : a = i := by omega
              subst this
              cases hbi : W.bad l a with
              | none => rfl
              | some f =>
                rw [hbi] at e3
                exact absurd (by show (!decide (V.int (f : Nat) = V.non)) = true; rw [decide_eq_false (by intro z; cases z)]; rfl) e3
        · rintro σ H' ⟨v2, v3, rfl, rfl, hb⟩
          have hw : W.wrong l = none := WM.wrong_none.mpr hb
          refine ⟨_, rfl, _, rfl, p, lk, lc, ln, r, W, l, rfl, hW, g, hl, el, hx, fun H2 s2 => ⟨(by show 1 ≤ sizeLine; decide), fun c hc => q _ c (s2.trans (Same.upd hc)) (s2.free hc) ?_⟩⟩
          rw [upd_same, chk_ok ht hw]
          rfl
end
end WP
end
section
set_option maxRecDepth 100000
set_option maxHeartbeats 2000000
namespace WP
open PySem PySem.Spec PyProof.Rows L2 R1
open Si62 (Wardrobe)
section
variable {P : Program} {w : World} {K : PySem.W.Frag} {mg : Str → Option Value} {base : Heap} {t : Ad}
/-! ### best -/
theorem boot_min' : bootBuiltins "min" = some (.builtin "min") := by decide +kernel
theorem first_ix : ∀ (cs : List Nat) (c : Nat), c ∈ cs → ∃ j : Nat, cs[j]? = some c ∧ ∀ m z, m < j → cs[m]? = some z → z ≠ c
  | [], c, h => nomatch h
  | x :: cs, c, h => by
    by_cases e : x = c
    · exact ⟨0, by rw [e]; rfl, fun m z hm => absurd hm (Nat.not_lt_zero _)⟩
    · have h' : c ∈ cs := by
        rcases List.mem_cons.mp h with h | h
        · exact absurd h.symm e
        · exact h
      obtain ⟨j, h1, h2⟩ := first_ix cs c h'
      refine ⟨j + 1, h1, fun m z hm hz => ?_⟩
      match m, hm, hz with
      | 0, _, hz => exact fun q => e (by rw [← q]; exact Option.some.inj hz)
      | m + 1, hm, hz => exact h2 m z (by omega) hz
theorem cast_count (c : Nat) : ∀ l : List Nat, (WM.castL l).count (c : Int) = l.count c
  | [] => rfl
  | x :: l => by
    have ih := cast_count c l
    unfold WM.castL at ih ⊢
    rw [List.map_cons, List.count_cons, List.count_cons, ih]
    congr 1
    by_cases h : x = c
    · subst h; simp
    · have : ¬ (x : Int) = (c : Int) := by omega
      simp [h, this]
theorem rows_mem {W : Wardrobe} {l : List Nat} (h : l ∈ W.rows) : l.length = W.needs.length ∧ ∀ x ∈ l, x ≤ W.costumes.length := by
  rw [← WM.rowsM_rows] at h
  exact WM.rowsM_mem h
theorem rows_len46 {W : Wardrobe} (g : WM.Good W) : W.rows.length ≤ 46656 := by
  rw [← WM.rowsM_rows]; exact rows_small g g.n6
def bestV (b : Si62.Best) : List V := V.int (b.cost : Nat) :: V.int (b.many : Nat) :: ii b.row
def spBes (t : Ad) : Sp := fun vs H Q _ => ∃ (p lk lc ln : Addr) (W : Wardrobe), vs = [.ref p] ∧ WAt t H p lk lc ln W ∧ WM.Good W ∧
  ∀ (H' : Hp) (c : Addr) (b : Si62.Best), W.best = some b → Same H H' → H c = none → H' c = some (.lst (bestV b)) → Q (.ref c) H'
theorem scBes : FnScope ["wardrobe", "rows", "costs", "least", "row"] ["wardrobe"] (defScope sBes) := ⟨rfl, rfl, rfl, by decide +kernel, rfl, by decide +kernel, by decide +kernel⟩
theorem ok_Bes (T : Txt K mg t) : FnOk P w K mg base CX0 4 t.fBes t.dBes ["wardrobe"] (spBes t) := by
  refine T.FBes.ok scBes (fun vs H Q E h => ?_) (fun cdv A outer s H vs Q E hr h => ?_)
  · obtain ⟨p, lk, lc, ln, W, rfl, _⟩ := h
    rfl
  · obtain ⟨p, lk, lc, ln, W, rfl, hW, g, q⟩ := h
    obtain ⟨dx, hp⟩ := hW.ob
    have hr2 : Room 2 _ := hr.mono (by decide)
    refine ⟨_, pss_cons (ps_set (i := 1) scBes.nd rfl (Or.inl rfl) (pe_call (ok_Row T) hr rfl T.gRow T.FRow.kp T.bRow .nil pass0 (pa_cons (pv 0) pa_nil)))
      (pss_cons (ps_setLc (i := 2) (te := tCall (spCos t) [] E0 (tCons (tVar 0) (tCons (tVar 4) tNil))) rfl scBes.nd rfl rfl (sw_true rfl rfl rfl rfl) (pi_list (pv 1))
        (blkOk_by (own := [("row", 4)]) (by show blkC ["wardrobe", "rows", "costs", "least", "row"] (defScope sBes) _ [("row", 4)] = true; decide +kernel))
        (fun _ _ _ _ _ => pg_name (i := 4) scBes.nd rfl (Or.inl rfl)) (fun _ _ _ _ _ => pts_nil)
        (fun _ _ _ _ _ => pe_call (ok_Cos T) hr2 rfl T.gCos T.FCos.kp T.bCos .nil pass0 (pa_cons (pv 0) (pa_cons (pv 4) pa_nil))))
      (pss_cons (ps_set (i := 3) scBes.nd rfl (Or.inl rfl) (pe_callB (cr_min rfl) (by rfl) T.bl_min boot_min' (pa_cons (pv 2) pa_nil)))
      (pss_one (ps_ret (pe_op op_cat (pe_lst (pa_cons (pv 3) (pa_cons (pe_bm PySem.F.plainAttrs_list PySem.F.slot_list_count PySem.F.type_list_count mt_lcount (pv 2) (pa_cons (pv 3) pa_nil)) pa_nil)))
        (pe_ix ix_list (pv 1) (pe_bm PySem.F.plainAttrs_list PySem.F.slot_list_index PySem.F.type_list_index mt_index (pv 2) (pa_cons (pv 3) pa_nil)) (fun _ _ => rfl))))))), ?_⟩
    refine ⟨_, rfl, p, lk, lc, ln, W, rfl, hW, g, fun H1 a as s1 hR => ?_⟩
    have big := rows_len46 g
    have hcl : ∀ i, ((W.rows.map W.cost).take i).length ≤ 46656 := fun i => by rw [List.length_take, List.length_map]; omega
    refine ⟨_, rfl, a, rfl, ⟨_, SqL.of hR.lst⟩, fun D hD => ?_⟩
    refine lc_list (xs := as.map V.ref) (fun i H2 => Same H1 H2 ∧ H2 D = some (.lst (ii ((W.rows.map W.cost).take i)))) ⟨Same.upd hD, upd_same⟩ (fun i H2 _ ⟨s2, _⟩ => SqL.of (s2 _ _ hR.lst)) ?_ ?_
    · rintro i x H2 hi ⟨s2, e2⟩
      have hil : i < W.rows.length := by
        have := (List.getElem?_eq_some_iff.mp hi).1
        rw [List.length_map, hR.len] at this; exact this
      have hli : W.rows[i]? = some W.rows[i] := List.getElem?_eq_getElem hil
      generalize W.rows[i] = l at hli
      obtain ⟨c, hc, hc', hcl'⟩ := hR.get hli
      rw [hi] at hc'
      cases hc'
      obtain ⟨m1, m2⟩ := rows_mem (List.mem_of_getElem? hli)
      refine ⟨rfl, tYes_of ⟨_, rfl, _, rfl, p, lk, lc, ln, c, W, l, rfl, hW.same (s1.trans s2), g, s2 _ _ hcl', m1, m2, fun H3 s3 => ⟨_, s3 _ _ e2, ?_, fun b o eb => ?_, ?_⟩⟩⟩
      · rw [ii_len]; have := hcl i; exact Nat.lt_of_le_of_lt this (by decide)
      · rw [upd_ne (ne_of_none eb hD)]; exact s3 _ _ (s2 _ _ eb)
      · rw [upd_same, List.take_succ, List.getElem?_map, hli]
        unfold ii
        rw [List.map_append]
        rfl
    · rintro H2 ⟨s2, e2⟩
      have ea : (as.map V.ref).length = (W.rows.map W.cost).length := by rw [List.length_map, List.length_map, hR.len]
      rw [ea, List.take_length] at e2
      have hne : W.rows ≠ [] := by rw [← WM.rowsM_rows]; exact WM.rowsM_ne W _
      have hpos : 0 < W.rows.length := List.length_pos_iff.mpr hne
      refine ⟨_, rfl, D, WM.castL (W.rows.map W.cost), rfl, SqL.of (by rw [e2, ii_map]), (by unfold WM.castL; rw [List.length_map, List.length_map]; exact hpos), fun m h1 h2 => ?_⟩
      obtain ⟨c, hc, rfl⟩ : ∃ c ∈ W.rows.map W.cost, (c : Int) = m := List.mem_map.mp h1
      have hmin : ∀ y ∈ W.rows.map W.cost, c ≤ y := fun y hy => by
        have := h2 (y : Int) (List.mem_map_of_mem hy)
        omega
      obtain ⟨j, hj, hfirst⟩ := first_ix _ c hc
      have hjl : j < W.rows.length := by
        have := (List.getElem?_eq_some_iff.mp hj).1
        rw [List.length_map] at this; exact this
      have hlj : W.rows[j]? = some W.rows[j] := List.getElem?_eq_getElem hjl
      generalize W.rows[j] = l at hlj
      have hbest := WM.best_read hc hmin hj hfirst hlj
      have hR2 := hR.same s2
      refine ⟨_, rfl, _, rfl, .inl ⟨rfl, _, SqL.of e2⟩, _, rfl, D, WM.castL (W.rows.map W.cost), _, rfl, rfl, SqL.of (by rw [e2, ii_map]), (by show 2 ≤ sizeLine; decide), fun L hL => ?_⟩
      have s3 : ∀ o, Same H2 (upd H2 L o) := fun o => Same.upd hL
      obtain ⟨b, hb, hb', hbl⟩ := hR2.get hlj
      refine ⟨_, rfl, _, rfl, .inl ⟨rfl, _, SqL.of (s3 _ _ _ e2)⟩, _, rfl, D, _, _, j, V.int (c : Nat), rfl, rfl, SqL.of (s3 _ _ _ e2), rfl, ii_flat _, ii_get hj, ?_, ?_, a, _, _, V.ref b, rfl, rfl, SqL.of (s3 _ _ _ hR2.lst), atI_nat hb', L, b, _, _, rfl, rfl, upd_same, s3 _ _ _ hbl, ?_, fun C hC => ?_⟩
      · show eqV (V.int (c : Int)) (V.int (c : Int)) = true
        unfold eqV; simp
      · intro m z' hm hz
        unfold ii at hz
        rw [List.getElem?_map] at hz
        cases e : (W.rows.map W.cost)[m]? with
        | none => rw [e] at hz; cases hz
        | some z =>
          rw [e] at hz
          cases hz
          have := hfirst m z hm e
          show eqV (V.int (z : Int)) (V.int (c : Int)) = false
          unfold eqV
          simp
          omega
      · rw [ii_len]
        have := (rows_mem (List.mem_of_getElem? hlj)).1
        have := g.n6
        show 2 + l.length ≤ sizeLine
        exact line_of (by omega)
      · refine q _ C _ hbest ((s1.trans s2).trans ((s3 _).trans (Same.upd hC))) (((s1.trans s2).trans (s3 _)).free hC) ?_
        rw [upd_same, cast_count]
        rfl
/-! ### plain -/
def spPla (t : Ad) : Sp := fun vs H Q _ => ∃ (p lk lc ln : Addr) (W : Wardrobe), vs = [.ref p] ∧ WAt t H p lk lc ln W ∧ WM.Good W ∧
  ∀ (H' : Hp) (c : Addr), Same H H' → H c = none → H' c = some (.lst ((WM.ansOf W .plain).map V.int)) → Q (.ref c) H'
theorem scPla : FnScope ["wardrobe", "row"] ["wardrobe"] (defScope sPla) := ⟨rfl, rfl, rfl, by decide +kernel, rfl, by decide +kernel, by decide +kernel⟩
theorem ints_ii (l : List Nat) : (Si62.ints l).map V.int = ii l := by unfold Si62.ints ii; rw [List.map_map]; rfl
theorem ok_Pla (T : Txt K mg t) : FnOk P w K mg base CX0 4 t.fPla t.dPla ["wardrobe"] (spPla t) := by
  refine T.FPla.ok scPla (fun vs H Q E h => ?_) (fun cdv A outer s H vs Q E hr h => ?_)
  · obtain ⟨p, lk, lc, ln, W, rfl, _⟩ := h
    rfl
  · obtain ⟨p, lk, lc, ln, W, rfl, hW, g, q⟩ := h
    have hr2 : Room 2 _ := hr.mono (by decide)
    refine ⟨_, pss_cons (ps_set (i := 1) scPla.nd rfl (Or.inl rfl) (pe_call (ok_One T) hr rfl T.gOne T.FOne.kp T.bOne .nil pass0 (pa_cons (pv 0) pa_nil)))
      (pss_one (ps_ret (pe_op op_cat (pe_lst (pa_cons (pe_call (ok_Cos T) hr2 rfl T.gCos T.FCos.kp T.bCos .nil pass0 (pa_cons (pv 0) (pa_cons (pv 1) pa_nil))) pa_nil)) (pv 1)))), ?_⟩
    obtain ⟨h1, h2⟩ := WM.plainFrom_le W W.needs.length [] (fun x h => nomatch h)
    have h1' : W.plain.length = W.needs.length := by
      unfold Wardrobe.plain; rw [h1]; simp
    refine ⟨_, rfl, p, lk, lc, ln, W, rfl, hW, g, fun H1 r s1 nr hl => ?_⟩
    refine ⟨_, rfl, _, rfl, p, lk, lc, ln, r, W, W.plain, rfl, hW.same s1, g, hl, h1', h2, fun H2 s2 => ⟨(by show 1 ≤ sizeLine; decide), fun L hL => ?_⟩⟩
    have s3 : ∀ o, Same H2 (upd H2 L o) := fun o => Same.upd hL
    refine ⟨_, rfl, L, r, _, _, rfl, rfl, upd_same, s3 _ _ _ (s2 _ _ hl), ?_, fun C hC => ?_⟩
    · rw [ii_len, h1']
      have := g.n6
      show 1 + W.needs.length ≤ sizeLine
      exact line_of (by omega)
    · refine q _ C ((s1.trans s2).trans ((s3 _).trans (Same.upd hC))) (((s1.trans s2).trans (s3 _)).free hC) ?_
      rw [upd_same]
      have e : WM.ansOf W .plain = ((W.cost W.plain : Nat) : Int) :: Si62.ints W.plain := rfl
      rw [e, List.map_cons, ints_ii]
      rfl
end
end WP
end
section
set_option maxRecDepth 100000
set_option maxHeartbeats 2000000
namespace WP
open PySem PySem.Spec PyProof.Rows L2 R1
open Si62 (Wardrobe)
section
variable {α : Type} {C : Addr} {f : α → List (Str × V)} {H H' : Hp} {l l' : Addr} {xs : List α}
theorem ObjsAt.copy {vs : List V} (h : ObjsAt C f H l xs) (hv : H l = some (.lst vs)) (s : Same H H') (hl : H' l' = some (.lst vs)) : ObjsAt C f H' l' xs := by
  obtain ⟨as, h1, h2, h3⟩ := h
  rw [h1] at hv
  cases hv
  exact ⟨as, hl, h2, fun i a x e1 e2 => (h3 i a x e1 e2).same s⟩
theorem ObjsAt.copySnoc {vs : List V} {a : Addr} {x : α} (h : ObjsAt C f H l xs) (hv : H l = some (.lst vs)) (s : Same H H') (hl : H' l' = some (.lst (vs ++ [V.ref a]))) (ha : InsAt C f H' a x) : ObjsAt C f H' l' (xs ++ [x]) := by
  obtain ⟨as, h1, h2, h3⟩ := h
  rw [h1] at hv
  cases hv
  refine ⟨as ++ [a], by rw [hl, List.map_append]; rfl, by rw [List.length_append, List.length_append, h2]; rfl, fun i b y e1 e2 => ?_⟩
  by_cases hi : i < as.length
  · rw [List.getElem?_append_left hi] at e1
    rw [List.getElem?_append_left (by rw [← h2]; exact hi)] at e2
    exact (h3 i b y e1 e2).same s
  · rw [List.getElem?_append_right (by omega)] at e1
    rw [List.getElem?_append_right (by omega), ← h2] at e2
    have hz : i - as.length = 0 := by
      have := (List.getElem?_eq_some_iff.mp e1).1
      simpa using this
    rw [hz] at e1 e2
    have ea : a = b := by simpa using e1
    have ex : x = y := by simpa using e2
    subst ea ex
    exact ha
end
/-- a new list, then an attribute of the instance at y -/
theorem setL {H G : Hp} {y l C dy : Addr} {fs fs' : List (Str × V)} {o : HO} (s : Same H G) (hy : H y = none) (hG : G y = some (.ins C dy fs)) (nl : G l = none) :
    Same H (upd (upd G l o) y (.ins C dy fs')) ∧ upd (upd G l o) y (.ins C dy fs') l = some o ∧ (∀ b u, G b = some u → b ≠ y → upd (upd G l o) y (.ins C dy fs') b = some u) ∧ l ≠ y ∧ H l = none := by
  have ly : l ≠ y := (ne_of_none hG nl).symm
  refine ⟨fun b u e => ?_, by rw [upd_ne ly]; exact upd_same, fun b u e nb => by rw [upd_ne nb, upd_ne (ne_of_none e nl)]; exact e, ly, s.free nl⟩
  rw [upd_ne (ne_of_none e hy), upd_ne (ne_of_none (s _ _ e) nl)]
  exact s _ _ e
section
variable {P : Program} {w : World} {K : PySem.W.Frag} {mg : Str → Option Value} {base : Heap} {t : Ad}
theorem boot_list' : bootBuiltins "list" = some (.type "list") := by decide +kernel
/-! ### with_one_more -/
def spWom (t : Ad) : Sp := fun vs H Q _ => ∃ (p lk lc ln x : Addr) (W : Wardrobe) (c : Si62.Costume), vs = [.ref p, .ref x] ∧ WAt t H p lk lc ln W ∧ W.costumes.length ≤ 4 ∧ InsAt t.CC cF H x c ∧
  ∀ (H' : Hp) (p' lk' lc' ln' : Addr), Same H H' → WAt t H' p' lk' lc' ln' (W.with_ c) → Q (.ref p') H'
theorem scWom : FnScope ["self", "costume", "larger"] ["self", "costume"] (defScope sWom) := ⟨rfl, rfl, rfl, by decide +kernel, rfl, by decide +kernel, by decide +kernel⟩
theorem ok_Wom (T : Txt K mg t) : FnOk P w K mg base CX0 4 t.fWom t.dWom ["self", "costume"] (spWom t) := by
  refine T.FWom.ok scWom (fun vs H Q E h => ?_) (fun cdv A outer s H vs Q E hr h => ?_)
  · obtain ⟨p, lk, lc, ln, x, W, c, rfl, _⟩ := h
    rfl
  · obtain ⟨p, lk, lc, ln, x, W, c, rfl, hW, h4, hx, q⟩ := h
    obtain ⟨dx, hp⟩ := hW.ob
    obtain ⟨ks, hks, eks⟩ := hW.ks.lst
    obtain ⟨cs, hcs, ecs⟩ := hW.cs.lst
    obtain ⟨ns, hns, ens⟩ := hW.ns.lst
    refine ⟨_, pss_cons (ps_set (i := 2) scWom.nd rfl (Or.inl rfl) (pe_make0 T.mkW (ok_WI T) hr rfl T.mgW T.bWI .nil pass0))
      (pss_cons (ps_fld (pv 2) (pe_callTy call_list_of (by rfl) T.bl_list boot_list' (pa_cons (pe_fld (pv 0) rfl) pa_nil)) rfl)
      (pss_cons (ps_fld (pv 2) (pe_op op_cat (pe_fld (pv 0) rfl) (pe_lst (pa_cons (pv 1) pa_nil))) rfl)
      (pss_cons (ps_fld (pv 2) (pe_callTy call_list_of (by rfl) T.bl_list boot_list' (pa_cons (pe_fld (pv 0) rfl) pa_nil)) rfl)
      (pss_one (ps_ret (pv 2)))))), ?_⟩
    intro y dy ny ndy ney
    refine ⟨y, dy, rfl, upd_same, fun H1 ak ac an hY hF hk => ⟨rfl, ?_⟩⟩
    have s1 : Same H H1 := Same.made ny ndy hk
    obtain ⟨dy1, hy1⟩ := hY.ob
    refine ⟨_, rfl, p, t.CW, dx, _, _, rfl, s1 _ _ hp, T.clW, T.nW_kinds, wF_kinds _ _ _, lk, ks, rfl, .inl (SqL.of (s1 _ _ hks)), fun l1 n1 => ?_⟩
    refine ⟨_, rfl, y, t.CW, dy1, _, rfl, (by rw [upd_ne (ne_of_none hy1 n1)]; exact hy1), T.clW, T.nW_kinds, wF_len _ _ _, ?_⟩
    rw [wF_putK]
    obtain ⟨s2, a1, k1, ly1, f1⟩ := setL (fs' := wF l1 ac an) (o := .lst ks) s1 ny hy1 n1
    have hy2 : upd (upd H1 l1 (.lst ks)) y (.ins t.CW dy1 (wF l1 ac an)) y = some (.ins t.CW dy1 (wF l1 ac an)) := upd_same
    generalize upd (upd H1 l1 (.lst ks)) y (.ins t.CW dy1 (wF l1 ac an)) = H2 at s2 a1 k1 hy2 ⊢
    refine ⟨_, rfl, p, t.CW, dx, _, _, rfl, s2 _ _ hp, T.clW, T.nW_costumes, wF_costumes _ _ _, _, rfl, (by show 1 ≤ sizeLine; decide), fun L nL => ?_⟩
    have s3 : Same H2 (upd H2 L (.lst [V.ref x])) := Same.upd nL
    have aL : upd H2 L (.lst [V.ref x]) L = some (.lst [V.ref x]) := upd_same
    generalize upd H2 L (.lst [V.ref x]) = H3 at s3 aL ⊢
    have sH3 := s2.trans s3
    refine ⟨lc, L, cs, [V.ref x], rfl, rfl, sH3 _ _ hcs, aL, (by rw [ecs]; show W.costumes.length + 1 ≤ sizeLine; exact line_of (by omega)), fun l2 n2 => ?_⟩
    have hy3 := s3 _ _ hy2
    refine ⟨_, rfl, y, t.CW, dy1, _, rfl, (by rw [upd_ne (ne_of_none hy3 n2)]; exact hy3), T.clW, T.nW_costumes, wF_len _ _ _, ?_⟩
    rw [wF_putC]
    obtain ⟨s4, a2, k2, ly2, f2⟩ := setL (fs' := wF l1 l2 an) (o := .lst (cs ++ [V.ref x])) sH3 ny hy3 n2
    have l12 : l1 ≠ l2 := ne_of_none (s3 _ _ a1) n2
    have a1' := k2 _ _ (s3 _ _ a1) ly1
    have hy4 : upd (upd H3 l2 (.lst (cs ++ [V.ref x]))) y (.ins t.CW dy1 (wF l1 l2 an)) y = some (.ins t.CW dy1 (wF l1 l2 an)) := upd_same
    generalize upd (upd H3 l2 (.lst (cs ++ [V.ref x]))) y (.ins t.CW dy1 (wF l1 l2 an)) = H4 at s4 a2 k2 a1' hy4 ⊢
    refine ⟨_, rfl, p, t.CW, dx, _, _, rfl, s4 _ _ hp, T.clW, T.nW_needs, wF_needs _ _ _, ln, ns, rfl, .inl (SqL.of (s4 _ _ hns)), fun l3 n3 => ?_⟩
    refine ⟨_, rfl, y, t.CW, dy1, _, rfl, (by rw [upd_ne (ne_of_none hy4 n3)]; exact hy4), T.clW, T.nW_needs, wF_len _ _ _, ?_⟩
    rw [wF_putN]
    obtain ⟨s5, a3, k3, ly3, f3⟩ := setL (fs' := wF l1 l2 l3) (o := .lst ns) s4 ny hy4 n3
    have l13 : l1 ≠ l3 := ne_of_none a1' n3
    have l23 : l2 ≠ l3 := ne_of_none a2 n3
    have a1'' := k3 _ _ a1' ly1
    have a2' := k3 _ _ a2 ly2
    have hy5 : upd (upd H4 l3 (.lst ns)) y (.ins t.CW dy1 (wF l1 l2 l3)) y = some (.ins t.CW dy1 (wF l1 l2 l3)) := upd_same
    refine ⟨_, rfl, ?_⟩
    exact q _ y l1 l2 l3 s5 ⟨⟨dy1, hy5⟩, hW.ks.copy hks s5 a1'', hW.cs.copySnoc hcs s5 a2' (hx.same s5), hW.ns.copy hns s5 a3, l12, l13, l23⟩
/-! ### more -/
def spMor (t : Ad) : Sp := fun vs H Q _ => ∃ (p lk lc ln : Addr) (W : Wardrobe) (c : Si62.Costume), vs = [.ref p, .int c.kind, .int c.size, .int c.give] ∧ WAt t H p lk lc ln W ∧ WM.Good4 W ∧
  ∀ (H' : Hp) (r : Addr), Same H H' → H r = none → H' r = some (.lst ((WM.ansOf W (.more c)).map V.int)) → Q (.ref r) H'
theorem scMor : FnScope ["wardrobe", "kind", "size", "give", "refusal", "told"] ["wardrobe", "kind", "size", "give"] (defScope sMor) := ⟨rfl, rfl, rfl, by decide +kernel, rfl, by decide +kernel, by decide +kernel⟩
theorem more_no {W : Wardrobe} {c : Si62.Costume} (h : refC W c < 0) : WM.ansOf W (.more c) = [refC W c] := by
  unfold WM.ansOf Si62.step
  dsimp only
  unfold refC at h ⊢
  by_cases h1 : W.kinds.length ≤ c.kind
  · rw [if_pos h1, if_pos h1]; rfl
  · rw [if_neg h1, if_neg h1]
    rw [if_neg h1] at h
    by_cases h2 : 1000 < c.size ∨ 1000 < c.give
    · rw [if_pos (show Si62.SIZE < c.size ∨ Si62.SIZE < c.give from h2), if_pos h2]; rfl
    · rw [if_neg h2] at h
      exact absurd h (by decide)
theorem refC_ok {W : Wardrobe} {c : Si62.Costume} (h : ¬ refC W c < 0) : c.kind < W.kinds.length ∧ ¬ (Si62.SIZE < c.size ∨ Si62.SIZE < c.give) := by
  unfold refC at h
  by_cases h1 : W.kinds.length ≤ c.kind
  · rw [if_pos h1] at h
    exact absurd (by decide) h
  · rw [if_neg h1] at h
    by_cases h2 : 1000 < c.size ∨ 1000 < c.give
    · rw [if_pos h2] at h
      exact absurd (by decide) h
    · exact ⟨by omega, h2⟩
theorem more_yes {W : Wardrobe} {c : Si62.Costume} {a b : Si62.Best} (h : ¬ refC W c < 0) (ha : W.best = some a) (hb : (W.with_ c).best = some b) : WM.ansOf W (.more c) = ((a.cost : Int) - (b.cost : Int)) :: (b.many : Int) :: Si62.ints b.row := by
  obtain ⟨h1, h2⟩ := refC_ok h
  have hle := WM.more_le ha hb
  unfold WM.ansOf Si62.step
  dsimp only
  rw [if_neg (by omega), if_neg h2, ha, hb]
  show ((a.cost - b.cost : Nat) : Int) :: _ = _
  rw [show ((a.cost - b.cost : Nat) : Int) = (a.cost : Int) - (b.cost : Int) by omega]
theorem cut_best (b : Si62.Best) : cutV (bestV b) (some (1 : Int)) none = V.int (b.many : Nat) :: ii b.row := by
  have hn : (bestV b).length = b.row.length + 2 := by unfold bestV; simp [ii_len]
  have e1 : HT.sIx (bestV b).length 0 (some (1 : Int)) = 1 := by
    unfold HT.sIx
    rw [hn]
    have : ¬ (1 : Int) < 0 := by omega
    simp only [this, if_false]
    omega
  have e2 : HT.sIx (bestV b).length (bestV b).length none = (bestV b).length := by
    unfold HT.sIx; rfl
  unfold cutV
  rw [e1, e2, List.take_of_length_le (by rw [List.length_drop]; exact Nat.le_refl _)]
  rfl
theorem ok_Mor (T : Txt K mg t) : FnOk P w K mg base CX0 5 t.fMor t.dMor ["wardrobe", "kind", "size", "give"] (spMor t) := by
  refine T.FMor.ok scMor (fun vs H Q E h => ?_) (fun cdv A outer s H vs Q E hr h => ?_)
  · obtain ⟨p, lk, lc, ln, W, c, rfl, _⟩ := h
    rfl
  · obtain ⟨p, lk, lc, ln, W, c, rfl, hW, g, q⟩ := h
    obtain ⟨dx, hp⟩ := hW.ob
    have hr2 : Room 2 _ := hr.mono (by decide)
    refine ⟨_, pss_cons (ps_set (i := 4) scMor.nd rfl (Or.inl rfl) (pe_meth (pv 0) T.clW T.mRef (ok_Ref T) hr2 T.bRef .nil pass0 (pa_cons (pv 1) (pa_cons (pv 2) (pa_cons (pv 3) pa_nil)))))
      (pss_cons (ps_if (pt_cmpR op_lt (pv 4) pe_int (nomark _)) (pss_one (ps_ret (pe_lst (pa_cons (pv 4) pa_nil)))) pss_nil)
      (pss_cons (ps_set (i := 5) scMor.nd rfl (Or.inl rfl) (pe_call (ok_Bes T) hr rfl T.gBes T.FBes.kp T.bBes .nil pass0 (pa_cons (pe_meth (pv 0) T.clW T.mWom (ok_Wom T) hr T.bWom .nil pass0 (pa_cons (pe_make T.mkC (ok_CI T) hr2 rfl T.mgC T.bCI .nil pass0 (pa_cons (pv 1) (pa_cons (pv 2) (pa_cons (pv 3) pa_nil)))) pa_nil)) pa_nil)))
      (pss_one (ps_ret (pe_op op_cat (pe_lst (pa_cons (pe_op op_sub (pe_ix ix_list (pe_call (ok_Bes T) hr rfl T.gBes T.FBes.kp T.bBes .nil pass0 (pa_cons (pv 0) pa_nil)) pe_int (fun _ _ => rfl)) (pe_ix ix_list (pv 5) pe_int (fun _ _ => rfl))) pa_nil))
        (pe_slice sl_list (pv 5) (po_some pe_int) po_none)))))), ?_⟩
    refine ⟨_, rfl, p, dx, _, rfl, hp, wF_no _ _ _ (by decide +kernel) (by decide +kernel) (by decide +kernel), _, rfl, _, rfl, _, rfl, p, lk, lc, ln, W, c, rfl, hW, ?_⟩
    refine ⟨_, rfl, _, _, rfl, rfl, _, rfl, ite2 (fun e => ?_) (fun e => ?_)⟩
    · have e0 : refC W c < 0 := of_decide_eq_true e
      refine ⟨_, rfl, (by show 1 ≤ sizeLine; decide), fun r nr => q _ r (Same.upd nr) nr ?_⟩
      rw [upd_same, more_no e0]
      rfl
    · have e0 : ¬ refC W c < 0 := fun z => e (decide_eq_true z)
      obtain ⟨h1, h2⟩ := refC_ok e0
      refine ⟨_, rfl, p, dx, _, rfl, hp, wF_no _ _ _ (by decide +kernel) (by decide +kernel) (by decide +kernel), _, rfl, _, rfl, _, rfl, fun x dx' nx ndx nex => ?_⟩
      refine ⟨x, dx', c, rfl, upd_same, fun H2 hI hk => ⟨rfl, ?_⟩⟩
      have s1 : Same H H2 := Same.made nx ndx hk
      refine ⟨p, lk, lc, ln, x, W, c, rfl, hW.same s1, g.c4, hI, fun H3 p' lk' lc' ln' s2 hW' => ?_⟩
      refine ⟨p', lk', lc', ln', W.with_ c, rfl, hW', WM.Good.with_ g h1, fun H4 C b hb s3 nC hC => ?_⟩
      have s4 := (s1.trans s2).trans s3
      refine ⟨_, rfl, p, lk, lc, ln, W, rfl, hW.same s4, g.toGood, fun H5 D a ha s5 nD hD => ?_⟩
      have hC5 := s5 _ _ hC
      refine ⟨D, _, _, V.int (a.cost : Nat), rfl, rfl, SqL.of hD, atI_nat (j := 0) rfl, _, rfl, C, _, _, V.int (b.cost : Nat), rfl, rfl, SqL.of hC5, atI_nat (j := 0) rfl, _, _, rfl, rfl, (by show 1 ≤ sizeLine; decide), fun L nL => ?_⟩
      have s6 : ∀ o, Same H5 (upd H5 L o) := fun o => Same.upd nL
      refine ⟨_, rfl, _, rfl, C, _, rfl, SqL.of (s6 _ _ _ hC5), fun M nM => ?_⟩
      rw [cut_best]
      have s7 : ∀ o, Same H5 (upd (upd H5 L (.lst [V.int ((a.cost : Int) - (b.cost : Int))])) M o) := fun o => (s6 _).trans (Same.upd nM)
      have nLM : L ≠ M := ne_of_none upd_same nM
      refine ⟨L, M, _, _, rfl, rfl, (by rw [upd_ne nLM]; exact upd_same), upd_same, ?_, fun R nR => ?_⟩
      · have := WM.rows_len hb
        have hn : (W.with_ c).needs = W.needs := rfl
        rw [hn] at this
        have := g.n6
        show 1 + (ii b.row).length.succ ≤ sizeLine
        rw [ii_len]
        exact line_of (by omega)
      · refine q _ R ((s4.trans s5).trans ((s7 _).trans (Same.upd nR))) (((s4.trans s5).trans (s7 _)).free nR) ?_
        rw [upd_same, more_yes e0 ha hb, List.map_cons, List.map_cons, ints_ii]
        rfl
end
end WP
end
section
set_option maxRecDepth 100000
set_option maxHeartbeats 2000000
namespace WP
open PySem PySem.Spec PyProof.Rows L2 R1
open Si62 (Wardrobe)
theorem skipI {a b : Int} {A B : Prop} (h : a ≠ b) (hB : B) : if decide (V.int a = V.int b) = true then A else B := by
  rw [decide_eq_false (by intro z; injection z with z; exact h z)]
  exact iteF hB
theorem hitI {a b : Int} {A B : Prop} (h : a = b) (hA : A) : if decide (V.int a = V.int b) = true then A else B := by
  rw [decide_eq_true (by rw [h])]
  exact iteT hA
/-- the list is the old one, or new -/
def Nw (H : Hp) (a b : Addr) : Prop := b = a ∨ H b = none
section
variable {P : Program} {w : World} {K : PySem.W.Frag} {mg : Str → Option Value} {base : Heap} {t : Ad}
theorem Kp.free {H H' : Hp} {p lk lc ln r : Addr} {W : Wardrobe} (k : Kp H H' p lk lc ln) (hW : WAt t H' p lk lc ln W) (h : H' r = none) : H r = none := by
  obtain ⟨dx, hp⟩ := hW.ob
  obtain ⟨ks, hks, _⟩ := hW.ks.lst
  obtain ⟨cs, hcs, _⟩ := hW.cs.lst
  obtain ⟨ns, hns, _⟩ := hW.ns.lst
  cases e : H r with
  | none => rfl
  | some o =>
    have := k r o e (ne_of_none hp h).symm (ne_of_none hks h).symm (ne_of_none hcs h).symm (ne_of_none hns h).symm
    rw [h] at this
    cases this
/-! ### answer -/
def spAns (t : Ad) : Sp := fun vs H Q _ => ∃ (p lk lc ln nl : Addr) (W : Wardrobe) (q : Si62.Call), vs = [.ref p, .int (WM.numsOf q).1, .ref nl] ∧ WAt t H p lk lc ln W ∧ WM.Good4 W ∧ H nl = some (.lst (ii (WM.numsOf q).2)) ∧ (∀ l, q = .check l → l.length ≤ 8) ∧
  ∀ (H' : Hp) (r lk' lc' ln' : Addr), WAt t H' p lk' lc' ln' (Si62.step W q).1 → H r = none → H' r = some (.lst ((WM.ansOf W q).map V.int)) → Kp H H' p lk lc ln → Nw H lk lk' → Nw H lc lc' → Nw H ln ln' → Q (.ref r) H'
theorem scAns : FnScope ["wardrobe", "call", "numbers"] ["wardrobe", "call", "numbers"] (defScope sAns) := ⟨rfl, rfl, rfl, by decide +kernel, rfl, by decide +kernel, by decide +kernel⟩
theorem ans_kind (W : Wardrobe) (a h : Nat) : WM.ansOf W (.kind a h) = [(Si62.step W (.kind a h)).2.v] := by
  unfold WM.ansOf Si62.step
  dsimp only
  split
  · rfl
  · split <;> rfl
theorem ans_costume (W : Wardrobe) (c : Si62.Costume) : WM.ansOf W (.costume c) = [(Si62.step W (.costume c)).2.v] := by
  unfold WM.ansOf Si62.step
  dsimp only
  split
  · rfl
  · split
    · rfl
    · split <;> rfl
theorem ans_need (W : Wardrobe) (n : Si62.Need) : WM.ansOf W (.need n) = [(Si62.step W (.need n)).2.v] := by
  unfold WM.ansOf Si62.step
  dsimp only
  split
  · rfl
  · split
    · rfl
    · split <;> rfl
theorem st_check (W : Wardrobe) (l : List Nat) : (Si62.step W (.check l)).1 = W := by
  unfold Si62.step
  dsimp only
  split <;> rfl
theorem st_more (W : Wardrobe) (c : Si62.Costume) : (Si62.step W (.more c)).1 = W := by
  unfold Si62.step
  dsimp only
  split
  · rfl
  · split <;> rfl
theorem ans_best {W : Wardrobe} {b : Si62.Best} (h : W.best = some b) : (WM.ansOf W .best).map V.int = bestV b := by
  have e : WM.ansOf W .best = ((b.cost : Nat) : Int) :: (b.many : Int) :: Si62.ints b.row := by
    unfold WM.ansOf Si62.step
    dsimp only
    rw [h]
  rw [e, List.map_cons, List.map_cons, ints_ii]
  rfl
theorem cut_tail (x : Nat) (l : List Nat) : cutV (ii (x :: l)) (some (1 : Int)) none = ii l := cut_from (l := x :: l) (f := 1) (by simp)
theorem ok_Ans (T : Txt K mg t) : FnOk P w K mg base CX0 6 t.fAns t.dAns ["wardrobe", "call", "numbers"] (spAns t) := by
  refine T.FAns.ok scAns (fun vs H Q E h => ?_) (fun cdv A outer s H vs Q E hr h => ?_)
  · obtain ⟨p, lk, lc, ln, nl, W, q, rfl, _⟩ := h
    rfl
  · obtain ⟨p, lk, lc, ln, nl, W, c, rfl, hW, g, hn, h8, q⟩ := h
    obtain ⟨dx, hp⟩ := hW.ob
    have hr1 : Room 1 _ := hr.mono (by decide)
    have hr3 : Room 3 _ := hr.mono (by decide)
    have hr4 : Room 4 _ := hr.mono (by decide)
    have bg : ∀ m : Str, (¬ m = "needs" ∧ ¬ m = "costumes" ∧ ¬ m = "kinds") → (wF lk lc ln).lookup m = none := fun m z => wF_no _ _ _ z.1 z.2.1 z.2.2
    refine ⟨_, pss_cons (ps_if (pt_cmpR op_eq (pv 1) (pe_cst T.c_BEGINS (by rfl)) (nomark _)) (pss_one (ps_ret (pe_lst (pa_cons (pe_meth0 (pv 0) T.clW T.mBeg (ok_Beg T) hr1 T.bBeg .nil pass0) pa_nil)))) pss_nil)
      (pss_cons (ps_if (pt_cmpR op_eq (pv 1) (pe_cst T.c_KIND (by rfl)) (nomark _)) (pss_one (ps_ret (pe_lst (pa_cons (pe_meth (pv 0) T.clW T.mAdK (ok_AdK T) hr3 T.bAdK .nil pass0 (pa_cons (pe_ix ix_list (pv 2) pe_int (fun _ _ => rfl)) (pa_cons (pe_ix ix_list (pv 2) pe_int (fun _ _ => rfl)) pa_nil))) pa_nil)))) pss_nil)
      (pss_cons (ps_if (pt_cmpR op_eq (pv 1) (pe_cst T.c_COSTUME (by rfl)) (nomark _)) (pss_one (ps_ret (pe_lst (pa_cons (pe_meth (pv 0) T.clW T.mAdC (ok_AdC T) hr3 T.bAdC .nil pass0 (pa_cons (pe_ix ix_list (pv 2) pe_int (fun _ _ => rfl)) (pa_cons (pe_ix ix_list (pv 2) pe_int (fun _ _ => rfl)) (pa_cons (pe_ix ix_list (pv 2) pe_int (fun _ _ => rfl)) pa_nil)))) pa_nil)))) pss_nil)
      (pss_cons (ps_if (pt_cmpR op_eq (pv 1) (pe_cst T.c_NEED (by rfl)) (nomark _)) (pss_one (ps_ret (pe_lst (pa_cons (pe_meth (pv 0) T.clW T.mAdN (ok_AdN T) hr3 T.bAdN .nil pass0 (pa_cons (pe_ix ix_list (pv 2) pe_int (fun _ _ => rfl)) (pa_cons (pe_ix ix_list (pv 2) pe_int (fun _ _ => rfl)) (pa_cons (pe_ix ix_list (pv 2) pe_int (fun _ _ => rfl)) pa_nil)))) pa_nil)))) pss_nil)
      (pss_cons (ps_if (pt_cmpR op_eq (pv 1) (pe_cst T.c_BEST (by rfl)) (nomark _)) (pss_one (ps_ret (pe_call (ok_Bes T) hr4 rfl T.gBes T.FBes.kp T.bBes .nil pass0 (pa_cons (pv 0) pa_nil)))) pss_nil)
      (pss_cons (ps_if (pt_cmpR op_eq (pv 1) (pe_cst T.c_CHECK (by rfl)) (nomark _)) (pss_one (ps_ret (pe_call (ok_Chk T) hr3 rfl T.gChk T.FChk.kp T.bChk .nil pass0 (pa_cons (pv 0) (pa_cons (pe_slice sl_list (pv 2) (po_some pe_int) po_none) pa_nil))))) pss_nil)
      (pss_cons (ps_if (pt_cmpR op_eq (pv 1) (pe_cst T.c_PLAIN (by rfl)) (nomark _)) (pss_one (ps_ret (pe_call (ok_Pla T) hr4 rfl T.gPla T.FPla.kp T.bPla .nil pass0 (pa_cons (pv 0) pa_nil)))) pss_nil)
      (pss_one (ps_ret (pe_call (ok_Mor T) hr rfl T.gMor T.FMor.kp T.bMor .nil pass0 (pa_cons (pv 0) (pa_cons (pe_ix ix_list (pv 2) pe_int (fun _ _ => rfl)) (pa_cons (pe_ix ix_list (pv 2) pe_int (fun _ _ => rfl)) (pa_cons (pe_ix ix_list (pv 2) pe_int (fun _ _ => rfl)) pa_nil))))))))))))), ?_⟩
    cases c with
    | begins =>
      refine ⟨_, rfl, rfl, _, rfl, hitI rfl ?_⟩
      refine ⟨_, rfl, p, dx, _, rfl, hp, bg _ (by decide +kernel), p, dx, _, rfl, hp, .inr ⟨_, _, _, rfl⟩, fun H2 lk' lc' ln' hW2 hf k => ⟨(by show 1 ≤ sizeLine; decide), fun r nr => ?_⟩⟩
      have s2 : Same H2 (upd H2 r (.lst [V.int 0])) := Same.upd nr
      have fr : H r = none := by
        cases e : H r with
        | none => rfl
        | some o =>
          obtain ⟨d2, hp2⟩ := hW2.ob
          have := k r o e (ne_of_none hp2 nr).symm
          rw [nr] at this
          cases this
      exact q _ r lk' lc' ln' (hW2.same s2) fr upd_same (fun b o e nb _ _ _ => s2 _ _ (k b o e nb)) (.inr hf.1) (.inr hf.2.1) (.inr hf.2.2)
    | kind a h =>
      refine ⟨_, rfl, rfl, _, rfl, skipI (by show ((1 : Nat) : Int) ≠ 0; decide) ?_⟩
      refine ⟨_, rfl, rfl, _, rfl, hitI rfl ?_⟩
      refine ⟨_, rfl, p, dx, _, rfl, hp, bg _ (by decide +kernel), _, rfl, nl, _, _, V.int (a : Nat), rfl, rfl, SqL.of hn, atI_nat (j := 0) rfl, _, rfl, nl, _, _, V.int (h : Nat), rfl, rfl, SqL.of hn, atI_nat (j := 1) rfl,
        p, lk, lc, ln, W, a, h, rfl, hW, g, fun H2 hW2 k => ⟨(by show 1 ≤ sizeLine; decide), fun r nr => ?_⟩⟩
      have s2 : ∀ o, Same H2 (upd H2 r o) := fun o => Same.upd nr
      exact q _ r lk lc ln (hW2.same (s2 _)) (k.free hW2 nr) (by rw [upd_same, ans_kind]; rfl) (fun b o e n1 n2 n3 n4 => s2 _ _ _ (k b o e n1 n2 n3 n4)) (.inl rfl) (.inl rfl) (.inl rfl)
    | costume c =>
      refine ⟨_, rfl, rfl, _, rfl, skipI (by show ((2 : Nat) : Int) ≠ 0; decide) ?_⟩
      refine ⟨_, rfl, rfl, _, rfl, skipI (by show ((2 : Nat) : Int) ≠ 1; decide) ?_⟩
      refine ⟨_, rfl, rfl, _, rfl, hitI rfl ?_⟩
      refine ⟨_, rfl, p, dx, _, rfl, hp, bg _ (by decide +kernel), _, rfl, nl, _, _, V.int (c.kind : Nat), rfl, rfl, SqL.of hn, atI_nat (j := 0) rfl, _, rfl, nl, _, _, V.int (c.size : Nat), rfl, rfl, SqL.of hn, atI_nat (j := 1) rfl, _, rfl, nl, _, _, V.int (c.give : Nat), rfl, rfl, SqL.of hn, atI_nat (j := 2) rfl,
        p, lk, lc, ln, W, c, rfl, hW, g, fun H2 hW2 k => ⟨(by show 1 ≤ sizeLine; decide), fun r nr => ?_⟩⟩
      have s2 : ∀ o, Same H2 (upd H2 r o) := fun o => Same.upd nr
      exact q _ r lk lc ln (hW2.same (s2 _)) (k.free hW2 nr) (by rw [upd_same, ans_costume]; rfl) (fun b o e n1 n2 n3 n4 => s2 _ _ _ (k b o e n1 n2 n3 n4)) (.inl rfl) (.inl rfl) (.inl rfl)
    | need n =>
      refine ⟨_, rfl, rfl, _, rfl, skipI (by show ((3 : Nat) : Int) ≠ 0; decide) ?_⟩
      refine ⟨_, rfl, rfl, _, rfl, skipI (by show ((3 : Nat) : Int) ≠ 1; decide) ?_⟩
      refine ⟨_, rfl, rfl, _, rfl, skipI (by show ((3 : Nat) : Int) ≠ 2; decide) ?_⟩
      refine ⟨_, rfl, rfl, _, rfl, hitI rfl ?_⟩
      refine ⟨_, rfl, p, dx, _, rfl, hp, bg _ (by decide +kernel), _, rfl, nl, _, _, V.int (n.night : Nat), rfl, rfl, SqL.of hn, atI_nat (j := 0) rfl, _, rfl, nl, _, _, V.int (n.kind : Nat), rfl, rfl, SqL.of hn, atI_nat (j := 1) rfl, _, rfl, nl, _, _, V.int (n.size : Nat), rfl, rfl, SqL.of hn, atI_nat (j := 2) rfl,
        p, lk, lc, ln, W, n, rfl, hW, g, fun H2 hW2 k => ⟨(by show 1 ≤ sizeLine; decide), fun r nr => ?_⟩⟩
      have s2 : ∀ o, Same H2 (upd H2 r o) := fun o => Same.upd nr
      exact q _ r lk lc ln (hW2.same (s2 _)) (k.free hW2 nr) (by rw [upd_same, ans_need]; rfl) (fun b o e n1 n2 n3 n4 => s2 _ _ _ (k b o e n1 n2 n3 n4)) (.inl rfl) (.inl rfl) (.inl rfl)
    | best =>
      refine ⟨_, rfl, rfl, _, rfl, skipI (by show ((4 : Nat) : Int) ≠ 0; decide) ?_⟩
      refine ⟨_, rfl, rfl, _, rfl, skipI (by show ((4 : Nat) : Int) ≠ 1; decide) ?_⟩
      refine ⟨_, rfl, rfl, _, rfl, skipI (by show ((4 : Nat) : Int) ≠ 2; decide) ?_⟩
      refine ⟨_, rfl, rfl, _, rfl, skipI (by show ((4 : Nat) : Int) ≠ 3; decide) ?_⟩
      refine ⟨_, rfl, rfl, _, rfl, hitI rfl ?_⟩
      refine ⟨_, rfl, p, lk, lc, ln, W, rfl, hW, g.toGood, fun H2 r b hb s2 nr hr' => ?_⟩
      exact q _ r lk lc ln (hW.same s2) nr (by rw [hr', ans_best hb]) (Kp.of_same s2) (.inl rfl) (.inl rfl) (.inl rfl)
    | check l =>
      refine ⟨_, rfl, rfl, _, rfl, skipI (by show ((5 : Nat) : Int) ≠ 0; decide) ?_⟩
      refine ⟨_, rfl, rfl, _, rfl, skipI (by show ((5 : Nat) : Int) ≠ 1; decide) ?_⟩
      refine ⟨_, rfl, rfl, _, rfl, skipI (by show ((5 : Nat) : Int) ≠ 2; decide) ?_⟩
      refine ⟨_, rfl, rfl, _, rfl, skipI (by show ((5 : Nat) : Int) ≠ 3; decide) ?_⟩
      refine ⟨_, rfl, rfl, _, rfl, skipI (by show ((5 : Nat) : Int) ≠ 4; decide) ?_⟩
      refine ⟨_, rfl, rfl, _, rfl, hitI rfl ?_⟩
      refine ⟨_, rfl, _, rfl, _, rfl, nl, _, rfl, SqL.of hn, fun L nL => ?_⟩
      rw [show cutV (ii (WM.numsOf (.check l)).2) (some (1 : Int)) none = ii l from cut_tail l.length l]
      have s1 : Same H (upd H L (.lst (ii l))) := Same.upd nL
      refine ⟨p, lk, lc, ln, L, W, l, rfl, hW.same s1, g.toGood, upd_same, h8 l rfl, fun H2 r s2 nr hr' => ?_⟩
      have s3 := s1.trans s2
      exact q _ r lk lc ln (by rw [st_check]; exact hW.same s3) (s1.free nr) hr' (Kp.of_same s3) (.inl rfl) (.inl rfl) (.inl rfl)
    | plain =>
      refine ⟨_, rfl, rfl, _, rfl, skipI (by show ((6 : Nat) : Int) ≠ 0; decide) ?_⟩
      refine ⟨_, rfl, rfl, _, rfl, skipI (by show ((6 : Nat) : Int) ≠ 1; decide) ?_⟩
      refine ⟨_, rfl, rfl, _, rfl, skipI (by show ((6 : Nat) : Int) ≠ 2; decide) ?_⟩
      refine ⟨_, rfl, rfl, _, rfl, skipI (by show ((6 : Nat) : Int) ≠ 3; decide) ?_⟩
      refine ⟨_, rfl, rfl, _, rfl, skipI (by show ((6 : Nat) : Int) ≠ 4; decide) ?_⟩
      refine ⟨_, rfl, rfl, _, rfl, skipI (by show ((6 : Nat) : Int) ≠ 5; decide) ?_⟩
      refine ⟨_, rfl, rfl, _, rfl, hitI rfl ?_⟩
      refine ⟨_, rfl, p, lk, lc, ln, W, rfl, hW, g.toGood, fun H2 r s2 nr hr' => ?_⟩
      exact q _ r lk lc ln (hW.same s2) nr hr' (Kp.of_same s2) (.inl rfl) (.inl rfl) (.inl rfl)
    | more c =>
      refine ⟨_, rfl, rfl, _, rfl, skipI (by show ((7 : Nat) : Int) ≠ 0; decide) ?_⟩
      refine ⟨_, rfl, rfl, _, rfl, skipI (by show ((7 : Nat) : Int) ≠ 1; decide) ?_⟩
      refine ⟨_, rfl, rfl, _, rfl, skipI (by show ((7 : Nat) : Int) ≠ 2; decide) ?_⟩
      refine ⟨_, rfl, rfl, _, rfl, skipI (by show ((7 : Nat) : Int) ≠ 3; decide) ?_⟩
      refine ⟨_, rfl, rfl, _, rfl, skipI (by show ((7 : Nat) : Int) ≠ 4; decide) ?_⟩
      refine ⟨_, rfl, rfl, _, rfl, skipI (by show ((7 : Nat) : Int) ≠ 5; decide) ?_⟩
      refine ⟨_, rfl, rfl, _, rfl, skipI (by show ((7 : Nat) : Int) ≠ 6; decide) ?_⟩
      refine ⟨_, rfl, _, rfl, nl, _, _, V.int (c.kind : Nat), rfl, rfl, SqL.of hn, atI_nat (j := 0) rfl, _, rfl, nl, _, _, V.int (c.size : Nat), rfl, rfl, SqL.of hn, atI_nat (j := 1) rfl, _, rfl, nl, _, _, V.int (c.give : Nat), rfl, rfl, SqL.of hn, atI_nat (j := 2) rfl,
        p, lk, lc, ln, W, c, rfl, hW, g, fun H2 r s2 nr hr' => ?_⟩
      exact q _ r lk lc ln (by rw [st_more]; exact hW.same s2) nr hr' (Kp.of_same s2) (.inl rfl) (.inl rfl) (.inl rfl)
end
end WP
end
section
set_option maxRecDepth 100000
set_option maxHeartbeats 2000000
namespace WP
open PySem PySem.Spec PyProof.Rows L2 R1
open Si62 (Wardrobe)
section
variable {P : Program} {w : World} {K : PySem.W.Frag} {mg : Str → Option Value} {base : Heap} {t : Ad}
/-! ### end_of_call -/
def spEnd (K : PySem.W.Frag) : Sp := fun vs H Q _ => ∃ (a : Addr) (ns : List Int) (st : Nat) (c : Si62.Call) (r : List Int), vs = [.ref a, .int st] ∧ SqL K H a (ns.map V.int) ∧ ns[st]? = some ((WM.numsOf c).1 : Int) ∧ ns.drop (st + 1) = WM.castL (WM.numsOf c).2 ++ r ∧
  Q (.int ((st + 1 + (WM.numsOf c).2.length : Nat) : Int)) H
theorem scEnd : FnScope ["calls", "start", "call", "end"] ["calls", "start"] (defScope sEnd) := ⟨rfl, rfl, rfl, by decide +kernel, rfl, by decide +kernel, by decide +kernel⟩
/-- how many numbers are behind a call in any case -/
def behind (c : Si62.Call) : Nat := match c with
  | .begins => 0
  | .kind _ _ => 2
  | .costume _ => 3
  | .need _ => 3
  | .best => 0
  | .check _ => 1
  | .plain => 0
  | .more _ => 3
theorem nb_at (c : Si62.Call) : atI ([0, 2, 3, 3, 0, 1, 0, 3].map V.int) ((WM.numsOf c).1 : Int) = some (V.int (behind c : Nat)) := by
  cases c <;> rfl
theorem map_get {ns : List Int} {i : Nat} {z : Int} (h : ns[i]? = some z) : (ns.map V.int)[i]? = some (V.int z) := by rw [List.getElem?_map, h]; rfl
theorem drop_head {ns : List Int} {i : Nat} {z : Int} {r : List Int} (h : ns.drop i = z :: r) : ns[i]? = some z := by
  have : (ns.drop i)[0]? = some z := by rw [h]; rfl
  rw [List.getElem?_drop] at this
  simpa using this
theorem ok_End (T : Txt K mg t) : FnOk P w K mg base CX0 1 t.fEnd t.dEnd ["calls", "start"] (spEnd K) := by
  refine T.FEnd.ok scEnd (fun vs H Q E h => ?_) (fun cdv A outer s H vs Q E hr h => ?_)
  · obtain ⟨a, ns, st, c, r, rfl, _⟩ := h
    rfl
  · obtain ⟨a, ns, st, c, r, rfl, hS, h1, h2, q⟩ := h
    refine ⟨_, pss_cons (ps_set (i := 2) scEnd.nd rfl (Or.inl rfl) (pe_ix ix_list (pv 0) (pv 1) (fun _ _ => rfl)))
      (pss_cons (ps_set (i := 3) scEnd.nd rfl (Or.inl rfl) (pe_op op_add (pe_op op_add (pv 1) pe_int) (pe_ix ix_tup (pe_glob (by rfl) T.nbm (v := .ref t.nb) rfl) (pv 2) (fun _ _ => rfl))))
      (pss_cons (ps_if (pt_cmpR op_eq (pv 2) (pe_cst T.c_CHECK (by rfl)) (nomark _)) (pss_one (ps_aug (i := 3) scEnd.nd rfl (Or.inl rfl) (pe_ix ix_list (pv 0) (pe_op op_add (pv 1) pe_int) (fun _ _ => rfl)) ip_add)) pss_nil)
      (pss_one (ps_ret (pv 3))))), ?_⟩
    refine ⟨_, rfl, _, rfl, a, _, _, V.int ((WM.numsOf c).1 : Nat), rfl, rfl, hS, atI_nat (map_get h1), ?_⟩
    refine ⟨_, rfl, _, _, rfl, rfl, _, rfl, t.nb, _, _, V.int (behind c : Nat), rfl, rfl, T.nbt H, nb_at c, _, _, rfl, rfl, ?_⟩
    refine ⟨_, rfl, rfl, _, rfl, ite2 (fun e => ?_) (fun e => ?_)⟩
    · have e0 : V.int ((WM.numsOf c).1 : Int) = V.int 5 := of_decide_eq_true e
      have e1 : ((WM.numsOf c).1 : Int) = 5 := by injection e0
      cases c with
      | check l =>
        have h3 : ns[st + 1]? = some (l.length : Int) := drop_head (r := WM.castL l ++ r) h2
        have cc : (st : Int) + 1 = ((st + 1 : Nat) : Int) := by omega
        refine ⟨_, rfl, _, rfl, _, rfl, _, _, rfl, rfl, a, _, _, V.int (l.length : Int), rfl, rfl, hS, (by rw [cc]; exact atI_nat (map_get h3)), _, _, rfl, rfl, ?_⟩
        refine ⟨_, rfl, ?_⟩
        have e : (st : Int) + 1 + ((1 : Nat) : Int) + (l.length : Int) = ((st + 1 + (l.length + 1) : Nat) : Int) := by omega
        rw [show (WM.numsOf (.check l)).2.length = l.length + 1 from rfl] at q
        show Q (.int ((st : Int) + 1 + ((1 : Nat) : Int) + (l.length : Int))) H
        rw [e]; exact q
      | begins => exact absurd e1 (by decide)
      | kind a b => exact absurd e1 (by show ¬ ((1 : Nat) : Int) = 5; decide)
      | costume a => exact absurd e1 (by show ¬ ((2 : Nat) : Int) = 5; decide)
      | need a => exact absurd e1 (by show ¬ ((3 : Nat) : Int) = 5; decide)
      | best => exact absurd e1 (by decide)
      | plain => exact absurd e1 (by decide)
      | more a => exact absurd e1 (by show ¬ ((7 : Nat) : Int) = 5; decide)
    · have z1 : behind c = (WM.numsOf c).2.length := by
        cases c with
        | check l => exact absurd (show decide (V.int ((WM.numsOf (.check l)).1 : Int) = V.int 5) = true from decide_eq_true rfl) e
        | _ => rfl
      refine ⟨_, rfl, ?_⟩
      have e : (st : Int) + 1 + (behind c : Int) = ((st + 1 + (WM.numsOf c).2.length : Nat) : Int) := by rw [z1]; omega
      show Q (.int ((st : Int) + 1 + (behind c : Int))) H
      rw [e]; exact q
/-! ### answers -/
def spAll (K : PySem.W.Frag) : Sp := fun vs H Q _ => ∃ (a : Addr) (ns : List Int), vs = [.ref a] ∧ SqL K H a (ns.map V.int) ∧ ns.length ≤ 30000 ∧ PySi62.answers_asked ns = true ∧ ∀ (H' : Hp) (p : Addr), H' p = some (.lst ((PySi62.answers ns).map V.int)) → Q (.ref p) H'
theorem scAll : FnScope ["calls", "wardrobe", "answered", "start", "end", "told"] ["calls"] (defScope sAll) := ⟨rfl, rfl, rfl, by decide +kernel, rfl, by decide +kernel, by decide +kernel⟩
theorem cut_nums {ns : List Int} {st : Nat} {l : List Nat} {r : List Int} (h : ns.drop (st + 1) = WM.castL l ++ r) (hle : st + 1 + l.length ≤ ns.length) : cutV (ns.map V.int) (some ((st + 1 : Nat) : Int)) (some ((st + 1 + l.length : Nat) : Int)) = ii l := by
  unfold cutV
  rw [HT.sIx_nat, HT.sIx_nat, List.length_map, Nat.min_eq_left (show st + 1 ≤ ns.length by omega), Nat.min_eq_left hle, ← List.map_drop, h, ← List.map_take]
  rw [show st + 1 + l.length - (st + 1) = (WM.castL l).length by unfold WM.castL; rw [List.length_map]; omega, List.take_left, ii_map]
theorem ok_All (T : Txt K mg t) : FnOk P w K mg base CX0 7 t.fAll t.dAll ["calls"] (spAll K) := by
  refine T.FAll.ok scAll (fun vs H Q E h => ?_) (fun cdv A outer s H vs Q E hr h => ?_)
  · obtain ⟨a, ns, rfl, _⟩ := h
    rfl
  · obtain ⟨a, ns, rfl, hS, h30, hask, q⟩ := h
    have hr1 : Room 1 _ := hr.mono (by decide)
    have hr3 : Room 3 _ := hr.mono (by decide)
    refine ⟨_, pss_cons (ps_set (i := 1) scAll.nd rfl (Or.inl rfl) (pe_make0 T.mkW (ok_WI T) hr3 rfl T.mgW T.bWI .nil pass0))
      (pss_cons (ps_set (i := 2) scAll.nd rfl (Or.inl rfl) (pe_lst pa_nil))
      (pss_cons (ps_set (i := 3) scAll.nd rfl (Or.inl rfl) pe_int)
      (pss_cons (ps_while PassesOwn.never (pt_cmpR op_lt (pv 3) (pe_callB call_len_seq (by rfl) T.bl_len PySem.boot_len (pa_cons (pv 0) pa_nil)) (nomark _))
        (pss_cons (ps_set (i := 4) scAll.nd rfl (Or.inl rfl) (pe_call (ok_End T) hr1 rfl T.gEnd T.FEnd.kp T.bEnd .nil pass0 (pa_cons (pv 0) (pa_cons (pv 3) pa_nil))))
        (pss_cons (ps_set (i := 5) scAll.nd rfl (Or.inl rfl) (pe_call (ok_Ans T) hr rfl T.gAns T.FAns.kp T.bAns .nil pass0 (pa_cons (pv 1) (pa_cons (pe_ix ix_list (pv 0) (pv 3) (fun _ _ => rfl)) (pa_cons (pe_slice sl_list (pv 0) (po_some (pe_op op_add (pv 3) pe_int)) (po_some (pv 4))) pa_nil)))))
        (pss_cons (ps_expr (pe_bm PySem.F.plainAttrs_list PySem.F.slot_list_append PySem.F.type_list_append mt_append (pv 2) (pa_cons (pe_callB call_len_seq (by rfl) T.bl_len PySem.boot_len (pa_cons (pv 5) pa_nil)) pa_nil)))
        (pss_cons (ps_expr (pe_bm PySem.F.plainAttrs_list PySem.F.slot_list_extend PySem.F.type_list_extend mt_extend (pv 2) (pa_cons (pv 5) pa_nil)))
        (pss_one (ps_set (i := 3) scAll.nd rfl (Or.inl rfl) (pv 4))))))))
      (pss_one (ps_ret (pv 2)))))), ?_⟩
    intro p dy np ndy ney
    refine ⟨p, dy, rfl, upd_same, fun H1 ak ac an hY hF hk => ⟨rfl, ?_⟩⟩
    have s1 : Same H H1 := Same.made np ndy hk
    have fr : ∀ b, (upd (upd H dy (.own p)) p (.ins t.CW dy [])) b = none → H b = none := fun b e => by
      cases e' : H b with
      | none => rfl
      | some o =>
        rw [upd_ne (ne_of_none e' np), upd_ne (ne_of_none e' ndy), e'] at e
        cases e
    refine ⟨Nat.zero_le _, fun an' nan => ?_⟩
    obtain ⟨m0, at0⟩ := WM.at_start hask
    have s2 : Same H1 (upd H1 an' (.lst [])) := Same.upd nan
    refine ⟨fun m σ H' => ∃ (st : Nat) (W : Wardrobe) (out : List Int) (lk lc ln : Addr) (v4 v5 : Option V), σ = [some (.ref a), some (.ref p), some (.ref an'), some (.int (st : Nat)), v4, v5] ∧ Same H H' ∧ WAt t H' p lk lc ln W ∧ H' an' = some (.lst (out.map V.int)) ∧ H lk = none ∧ H lc = none ∧ H ln = none ∧ an' ≠ lk ∧ an' ≠ lc ∧ an' ≠ ln ∧ WM.At ns st W out m,
      ⟨m0, 0, Si62.init, [], ak, ac, an, none, none, rfl, s1.trans s2, hY.same s2, upd_same, fr _ hF.1, fr _ hF.2.1, fr _ hF.2.2, ?_, ?_, ?_, at0⟩, ?_⟩
    · obtain ⟨vs, h1, _⟩ := hY.ks.lst
      exact (ne_of_none h1 nan).symm
    · obtain ⟨vs, h1, _⟩ := hY.cs.lst
      exact (ne_of_none h1 nan).symm
    · obtain ⟨vs, h1, _⟩ := hY.ns.lst
      exact (ne_of_none h1 nan).symm
    have fan : H an' = none := s1.free nan
    rintro m σ H2 ⟨st, W, out, lk, lc, ln, v4, v5, rfl, s3, hW, ho, f1, f2, f3, d1, d2, d3, hat⟩
    have hS2 := s3.seq hS
    refine ⟨_, rfl, _, rfl, a, _, rfl, .inl hS2, _, _, rfl, rfl, _, rfl, ite2 (fun e => ?_) (fun e => ?_)⟩
    · have e0 : (st : Int) < ((ns.map V.int).length : Int) := of_decide_eq_true e
      have hlt : st < ns.length := by rw [List.length_map] at e0; omega
      obtain ⟨c, h8, hc1, ⟨tl, hc2⟩, hle, m', rfl, hat'⟩ := WM.at_turn hat hlt
      have hlen := WM.ans_len hat.good c
      have hfew := hat.few
      refine ⟨fun σ' H' => ∃ (lk' lc' ln' : Addr) (v4 v5 : Option V), σ' = [some (.ref a), some (.ref p), some (.ref an'), some (.int ((st + 1 + (WM.numsOf c).2.length : Nat) : Int)), v4, v5] ∧ Same H H' ∧ WAt t H' p lk' lc' ln' (Si62.step W c).1 ∧ H' an' = some (.lst ((out ++ (((WM.ansOf W c).length : Int) :: WM.ansOf W c)).map V.int)) ∧ H lk' = none ∧ H lc' = none ∧ H ln' = none ∧ an' ≠ lk' ∧ an' ≠ lc' ∧ an' ≠ ln',
        fun σ' H' ⟨lk', lc', ln', u4, u5, z1, z2, z3, z4, z5, z6, z7, z8, z9, z10⟩ => ⟨m', by omega, _, _, _, lk', lc', ln', u4, u5, z1, z2, z3, z4, z5, z6, z7, z8, z9, z10, hat'⟩, ?_⟩
      refine ⟨_, rfl, _, rfl, a, ns, st, c, tl, rfl, hS2, hc1, hc2, ?_⟩
      refine ⟨_, rfl, _, rfl, _, rfl, a, _, _, V.int ((WM.numsOf c).1 : Nat), rfl, rfl, hS2, atI_nat (map_get hc1), _, rfl, _, rfl, _, _, rfl, rfl, _, rfl, _, rfl, _, rfl, a, _, rfl, hS2, fun nl nnl => ?_⟩
      have cc : (st : Int) + 1 = ((st + 1 : Nat) : Int) := by omega
      rw [cc, cut_nums hc2 hle]
      have s4 : Same H2 (upd H2 nl (.lst (ii (WM.numsOf c).2))) := Same.upd nnl
      have a4 : upd H2 nl (.lst (ii (WM.numsOf c).2)) nl = some (.lst (ii (WM.numsOf c).2)) := upd_same
      generalize upd H2 nl (.lst (ii (WM.numsOf c).2)) = H3 at s4 a4 ⊢
      refine ⟨p, lk, lc, ln, nl, W, c, rfl, hW.same s4, hat.good, a4, h8, fun H4 r lk' lc' ln' hW4 nr hr4 k w1 w2 w3 => ?_⟩
      have s5 : Same H H4 := fun b o e => k b o (s4 _ _ (s3 _ _ e)) (ne_of_none e np) (ne_of_none e f1) (ne_of_none e f2) (ne_of_none e f3)
      have ho3 := s4 _ _ ho
      obtain ⟨dp, hp⟩ := hW.ob
      have dp' : an' ≠ p := (ne_of hp ho (by intro z; cases z)).symm
      have ho4 := k _ _ ho3 dp' d1 d2 d3
      have nwf : ∀ x y, Nw H3 x y → H x = none → H y = none := fun x y z e => by
        rcases z with z | z
        · rw [z]; exact e
        · exact (s3.trans s4).free z
      have nwd : ∀ x y, Nw H3 x y → an' ≠ x → an' ≠ y := fun x y z e => by
        rcases z with z | z
        · rw [z]; exact e
        · exact ne_of_none ho3 z
      have rd : r ≠ an' := (ne_of_none ho3 nr).symm
      obtain ⟨ks, hks, _⟩ := hW4.ks.lst
      obtain ⟨cs, hcs, _⟩ := hW4.cs.lst
      obtain ⟨nds, hnds, _⟩ := hW4.ns.lst
      have x1 := nwd _ _ w1 d1
      have x2 := nwd _ _ w2 d2
      have x3 := nwd _ _ w3 d3
      refine ⟨_, rfl, .inl ⟨rfl, _, SqL.of ho4⟩, _, rfl, r, _, rfl, .inl (SqL.of hr4), an', _, _, rfl, rfl, ho4, (by rw [List.length_map]; exact small1000 (by omega)), ?_⟩
      refine ⟨_, rfl, .inl ⟨rfl, _, SqL.of upd_same⟩, _, rfl, an', r, _, _, rfl, rfl, upd_same, (by rw [upd_ne rd]; exact hr4), (by rw [List.length_append, List.length_map, List.length_map]; show out.length + 1 + _ ≤ _; exact line_of (by omega)), ?_⟩
      have kf : ∀ o1 o2 b u, H4 b = some u → b ≠ an' → upd (upd H4 an' o1) an' o2 b = some u := fun o1 o2 b u e nb => by rw [upd_ne nb, upd_ne nb]; exact e
      refine ⟨_, rfl, lk', lc', ln', _, _, rfl, fun b o e => kf _ _ b o (s5 b o e) (ne_of_none e fan), ?_, ?_, nwf _ _ w1 f1, nwf _ _ w2 f2, nwf _ _ w3 f3, x1, x2, x3⟩
      · obtain ⟨d5, hp5⟩ := hW4.ob
        exact ⟨⟨d5, kf _ _ _ _ hp5 dp'.symm⟩, hW4.ks.keep (B := fun b => b = an') (kf _ _) x1.symm (ins_ne ho4), hW4.cs.keep (B := fun b => b = an') (kf _ _) x2.symm (ins_ne ho4), hW4.ns.keep (B := fun b => b = an') (kf _ _) x3.symm (ins_ne ho4), hW4.kc, hW4.kn, hW4.cn⟩
      · rw [upd_same, List.map_append, List.map_cons, List.length_map, List.append_assoc]
        rfl
    · have e0 : ¬ (st : Int) < ((ns.map V.int).length : Int) := fun z => e (decide_eq_true z)
      have hge : ns.length ≤ st := by rw [List.length_map] at e0; omega
      have := WM.at_end hat hge
      refine ⟨_, rfl, q H2 an' ?_⟩
      rw [this]; exact ho
end
end WP
end
section
set_option maxRecDepth 100000
set_option maxHeartbeats 8000000
namespace WP
open PySem PySem.Spec PyProof.Rows L2 R1
open PySem.W (Codec)
/-! ### what the top has written -/
theorem txt_mk {K : PySem.W.Frag} {h : Heap} {mg : Str → Option Value} {CK CC CN CW nb : Addr}
    {fKI fCI fNI fWI fBeg fWom fHir fHas fLas fAdK fRef fAdC fAdN fSui fFso fCho fRow fOne fCos fHin fBes fChk fPla fMor fAns fEnd fAll : Addr}
    {odKI odCI odNI odWI odBeg odWom odHir odHas odLas odAdK odRef odAdC odAdN odSui odFso odCho odRow odOne odCos odHin odBes odChk odPla odMor odAns odEnd odAll : Option Addr}
    {anKI anCI anNI anWI anBeg anWom anHir anHas anLas anAdK anRef anAdC anAdN anSui anFso anCho anRow anOne anCos anHin anBes anChk anPla anMor anAns anEnd anAll : Option Addr}
    {slKI slCI slNI slWI slBeg slWom slHir slHas slLas slAdK slRef slAdC slAdN slSui slFso slCho slRow slOne slCos slHin slBes slChk slPla slMor slAns slEnd slAll : Array (Option Value)}
    {ocKI kVKI dcKI pmKI cdKI ctKI ocCI kVCI dcCI pmCI cdCI ctCI ocNI kVNI dcNI pmNI cdNI ctNI ocWI kVWI dcWI pmWI cdWI ctWI ocBeg kVBeg dcBeg pmBeg cdBeg ctBeg ocWom kVWom dcWom pmWom cdWom ctWom ocHir kVHir dcHir pmHir cdHir ctHir ocHas kVHas dcHas pmHas cdHas ctHas ocLas kVLas dcLas pmLas cdLas ctLas ocAdK kVAdK dcAdK pmAdK cdAdK ctAdK ocRef kVRef dcRef pmRef cdRef ctRef ocAdC kVAdC dcAdC pmAdC cdAdC ctAdC ocAdN kVAdN dcAdN pmAdN cdAdN ctAdN ocSui kVSui dcSui pmSui cdSui ctSui ocFso kVFso dcFso pmFso cdFso ctFso ocCho kVCho dcCho pmCho cdCho ctCho ocRow kVRow dcRow pmRow cdRow ctRow ocOne kVOne dcOne pmOne cdOne ctOne ocCos kVCos dcCos pmCos cdCos ctCos ocHin kVHin dcHin pmHin cdHin ctHin ocBes kVBes dcBes pmBes cdBes ctBes ocChk kVChk dcChk pmChk cdChk ctChk ocPla kVPla dcPla pmPla cdPla ctPla ocMor kVMor dcMor pmMor cdMor ctMor ocAns kVAns dcAns pmAns cdAns ctAns ocEnd kVEnd dcEnd pmEnd cdEnd ctEnd ocAll kVAll dcAll pmAll cdAll ctAll : Value}
    {tk_NOT_AS_TOLD tk_NO_SUCH_KIND tk_NO_ROOM tk_CANNOT_BE tk_KINDS_AT_MOST tk_COSTUMES_AT_MOST tk_NEEDS_AT_MOST tk_AWAY_AT_MOST tk_HIRE_AT_MOST tk_SIZE_AT_MOST tk_GIVE_AT_MOST tk_NIGHT_AT_MOST tk_BEGINS tk_KIND tk_COSTUME tk_NEED tk_BEST tk_CHECK tk_PLAIN : Tok}
    {odnb : Option Addr} {slnb : Array (Option Value)} {its : Array Value} {nnb : Nat} (X : K.In h) (G : h.Ns mainGlobals mg)
    (aCK : PySem.W.nsIn K mainGlobals "Kind" = some (some (.ref CK)))
    (pgCK : PySem.W.plainGet K CK Str.empty = true)
    (hdCK : PySem.W.hasDictIn K CK = true)
    (poCK : PySem.W.plainOver K CK = true)
    (saCK : PySem.W.findIn K (.ref CK) "__setattr__" = some (some (.builtin "object.__setattr__")))
    (mkCK : PySem.W.makesIn K CK = true)
    (kcCK : PySem.W.keepIn K (.ref CK) = true)
    (nK_away : PySem.W.findIn K (.ref CK) "away" = some none)
    (nK_hire : PySem.W.findIn K (.ref CK) "hire" = some none)
    (aCC : PySem.W.nsIn K mainGlobals "Costume" = some (some (.ref CC)))
    (pgCC : PySem.W.plainGet K CC Str.empty = true)
    (hdCC : PySem.W.hasDictIn K CC = true)
    (poCC : PySem.W.plainOver K CC = true)
    (saCC : PySem.W.findIn K (.ref CC) "__setattr__" = some (some (.builtin "object.__setattr__")))
    (mkCC : PySem.W.makesIn K CC = true)
    (kcCC : PySem.W.keepIn K (.ref CC) = true)
    (nC_kind : PySem.W.findIn K (.ref CC) "kind" = some none)
    (nC_size : PySem.W.findIn K (.ref CC) "size" = some none)
    (nC_give : PySem.W.findIn K (.ref CC) "give" = some none)
    (aCN : PySem.W.nsIn K mainGlobals "Need" = some (some (.ref CN)))
    (pgCN : PySem.W.plainGet K CN Str.empty = true)
    (hdCN : PySem.W.hasDictIn K CN = true)
    (poCN : PySem.W.plainOver K CN = true)
    (saCN : PySem.W.findIn K (.ref CN) "__setattr__" = some (some (.builtin "object.__setattr__")))
    (mkCN : PySem.W.makesIn K CN = true)
    (kcCN : PySem.W.keepIn K (.ref CN) = true)
    (nN_night : PySem.W.findIn K (.ref CN) "night" = some none)
    (nN_kind : PySem.W.findIn K (.ref CN) "kind" = some none)
    (nN_size : PySem.W.findIn K (.ref CN) "size" = some none)
    (aCW : PySem.W.nsIn K mainGlobals "Wardrobe" = some (some (.ref CW)))
    (pgCW : PySem.W.plainGet K CW Str.empty = true)
    (hdCW : PySem.W.hasDictIn K CW = true)
    (poCW : PySem.W.plainOver K CW = true)
    (saCW : PySem.W.findIn K (.ref CW) "__setattr__" = some (some (.builtin "object.__setattr__")))
    (mkCW : PySem.W.makesIn K CW = true)
    (kcCW : PySem.W.keepIn K (.ref CW) = true)
    (nW_kinds : PySem.W.findIn K (.ref CW) "kinds" = some none)
    (nW_costumes : PySem.W.findIn K (.ref CW) "costumes" = some none)
    (nW_needs : PySem.W.findIn K (.ref CW) "needs" = some none)
    (aKI : PySem.W.findIn K (.ref CK) "__init__" = some (some (.ref fKI)))
    (iKI : PySem.W.isFn K (.ref fKI) = true)
    (lKI : K.lookup fKI = some ⟨ocKI, odKI, .func (PySem.W.fnOf "__init__" "Kind.__init__" (defArgs sKI) (defBody sKI) (defScope sKI) .none kVKI dcKI pmKI anKI cdKI ctKI), slKI⟩)
    (cKI : PySem.W.codeIn K cdKI "Kind.__init__" = true)
    (kKI : PySem.W.keepIn K (.ref fKI) = true)
    (aCI : PySem.W.findIn K (.ref CC) "__init__" = some (some (.ref fCI)))
    (iCI : PySem.W.isFn K (.ref fCI) = true)
    (lCI : K.lookup fCI = some ⟨ocCI, odCI, .func (PySem.W.fnOf "__init__" "Costume.__init__" (defArgs sCI) (defBody sCI) (defScope sCI) .none kVCI dcCI pmCI anCI cdCI ctCI), slCI⟩)
    (cCI : PySem.W.codeIn K cdCI "Costume.__init__" = true)
    (kCI : PySem.W.keepIn K (.ref fCI) = true)
    (aNI : PySem.W.findIn K (.ref CN) "__init__" = some (some (.ref fNI)))
    (iNI : PySem.W.isFn K (.ref fNI) = true)
    (lNI : K.lookup fNI = some ⟨ocNI, odNI, .func (PySem.W.fnOf "__init__" "Need.__init__" (defArgs sNI) (defBody sNI) (defScope sNI) .none kVNI dcNI pmNI anNI cdNI ctNI), slNI⟩)
    (cNI : PySem.W.codeIn K cdNI "Need.__init__" = true)
    (kNI : PySem.W.keepIn K (.ref fNI) = true)
    (aWI : PySem.W.findIn K (.ref CW) "__init__" = some (some (.ref fWI)))
    (iWI : PySem.W.isFn K (.ref fWI) = true)
    (lWI : K.lookup fWI = some ⟨ocWI, odWI, .func (PySem.W.fnOf "__init__" "Wardrobe.__init__" (defArgs sWI) (defBody sWI) (defScope sWI) .none kVWI dcWI pmWI anWI cdWI ctWI), slWI⟩)
    (cWI : PySem.W.codeIn K cdWI "Wardrobe.__init__" = true)
    (kWI : PySem.W.keepIn K (.ref fWI) = true)
    (aBeg : PySem.W.findIn K (.ref CW) "begin" = some (some (.ref fBeg)))
    (iBeg : PySem.W.isFn K (.ref fBeg) = true)
    (lBeg : K.lookup fBeg = some ⟨ocBeg, odBeg, .func (PySem.W.fnOf "begin" "Wardrobe.begin" (defArgs sBeg) (defBody sBeg) (defScope sBeg) .none kVBeg dcBeg pmBeg anBeg cdBeg ctBeg), slBeg⟩)
    (cBeg : PySem.W.codeIn K cdBeg "Wardrobe.begin" = true)
    (kBeg : PySem.W.keepIn K (.ref fBeg) = true)
    (aWom : PySem.W.findIn K (.ref CW) "with_one_more" = some (some (.ref fWom)))
    (iWom : PySem.W.isFn K (.ref fWom) = true)
    (lWom : K.lookup fWom = some ⟨ocWom, odWom, .func (PySem.W.fnOf "with_one_more" "Wardrobe.with_one_more" (defArgs sWom) (defBody sWom) (defScope sWom) .none kVWom dcWom pmWom anWom cdWom ctWom), slWom⟩)
    (cWom : PySem.W.codeIn K cdWom "Wardrobe.with_one_more" = true)
    (kWom : PySem.W.keepIn K (.ref fWom) = true)
    (aHir : PySem.W.findIn K (.ref CW) "hired" = some (some (.ref fHir)))
    (iHir : PySem.W.isFn K (.ref fHir) = true)
    (lHir : K.lookup fHir = some ⟨ocHir, odHir, .func (PySem.W.fnOf "hired" "Wardrobe.hired" (defArgs sHir) (defBody sHir) (defScope sHir) .none kVHir dcHir pmHir anHir cdHir ctHir), slHir⟩)
    (cHir : PySem.W.codeIn K cdHir "Wardrobe.hired" = true)
    (kHir : PySem.W.keepIn K (.ref fHir) = true)
    (aHas : PySem.W.findIn K (.ref CW) "has_kind" = some (some (.ref fHas)))
    (iHas : PySem.W.isFn K (.ref fHas) = true)
    (lHas : K.lookup fHas = some ⟨ocHas, odHas, .func (PySem.W.fnOf "has_kind" "Wardrobe.has_kind" (defArgs sHas) (defBody sHas) (defScope sHas) .none kVHas dcHas pmHas anHas cdHas ctHas), slHas⟩)
    (cHas : PySem.W.codeIn K cdHas "Wardrobe.has_kind" = true)
    (kHas : PySem.W.keepIn K (.ref fHas) = true)
    (aLas : PySem.W.findIn K (.ref CW) "last_night" = some (some (.ref fLas)))
    (iLas : PySem.W.isFn K (.ref fLas) = true)
    (lLas : K.lookup fLas = some ⟨ocLas, odLas, .func (PySem.W.fnOf "last_night" "Wardrobe.last_night" (defArgs sLas) (defBody sLas) (defScope sLas) .none kVLas dcLas pmLas anLas cdLas ctLas), slLas⟩)
    (cLas : PySem.W.codeIn K cdLas "Wardrobe.last_night" = true)
    (kLas : PySem.W.keepIn K (.ref fLas) = true)
    (aAdK : PySem.W.findIn K (.ref CW) "add_kind" = some (some (.ref fAdK)))
    (iAdK : PySem.W.isFn K (.ref fAdK) = true)
    (lAdK : K.lookup fAdK = some ⟨ocAdK, odAdK, .func (PySem.W.fnOf "add_kind" "Wardrobe.add_kind" (defArgs sAdK) (defBody sAdK) (defScope sAdK) .none kVAdK dcAdK pmAdK anAdK cdAdK ctAdK), slAdK⟩)
    (cAdK : PySem.W.codeIn K cdAdK "Wardrobe.add_kind" = true)
    (kAdK : PySem.W.keepIn K (.ref fAdK) = true)
    (aRef : PySem.W.findIn K (.ref CW) "costume_refusal" = some (some (.ref fRef)))
    (iRef : PySem.W.isFn K (.ref fRef) = true)
    (lRef : K.lookup fRef = some ⟨ocRef, odRef, .func (PySem.W.fnOf "costume_refusal" "Wardrobe.costume_refusal" (defArgs sRef) (defBody sRef) (defScope sRef) .none kVRef dcRef pmRef anRef cdRef ctRef), slRef⟩)
    (cRef : PySem.W.codeIn K cdRef "Wardrobe.costume_refusal" = true)
    (kRef : PySem.W.keepIn K (.ref fRef) = true)
    (aAdC : PySem.W.findIn K (.ref CW) "add_costume" = some (some (.ref fAdC)))
    (iAdC : PySem.W.isFn K (.ref fAdC) = true)
    (lAdC : K.lookup fAdC = some ⟨ocAdC, odAdC, .func (PySem.W.fnOf "add_costume" "Wardrobe.add_costume" (defArgs sAdC) (defBody sAdC) (defScope sAdC) .none kVAdC dcAdC pmAdC anAdC cdAdC ctAdC), slAdC⟩)
    (cAdC : PySem.W.codeIn K cdAdC "Wardrobe.add_costume" = true)
    (kAdC : PySem.W.keepIn K (.ref fAdC) = true)
    (aAdN : PySem.W.findIn K (.ref CW) "add_need" = some (some (.ref fAdN)))
    (iAdN : PySem.W.isFn K (.ref fAdN) = true)
    (lAdN : K.lookup fAdN = some ⟨ocAdN, odAdN, .func (PySem.W.fnOf "add_need" "Wardrobe.add_need" (defArgs sAdN) (defBody sAdN) (defScope sAdN) .none kVAdN dcAdN pmAdN anAdN cdAdN ctAdN), slAdN⟩)
    (cAdN : PySem.W.codeIn K cdAdN "Wardrobe.add_need" = true)
    (kAdN : PySem.W.keepIn K (.ref fAdN) = true)
    (aSui : PySem.W.nsIn K mainGlobals "suits" = some (some (.ref fSui)))
    (lSui : K.lookup fSui = some ⟨ocSui, odSui, .func (PySem.W.fnOf "suits" "suits" (defArgs sSui) (defBody sSui) (defScope sSui) .none kVSui dcSui pmSui anSui cdSui ctSui), slSui⟩)
    (cSui : PySem.W.codeIn K cdSui "suits" = true)
    (kSui : PySem.W.keepIn K (.ref fSui) = true)
    (aFso : PySem.W.nsIn K mainGlobals "first_still_out" = some (some (.ref fFso)))
    (lFso : K.lookup fFso = some ⟨ocFso, odFso, .func (PySem.W.fnOf "first_still_out" "first_still_out" (defArgs sFso) (defBody sFso) (defScope sFso) .none kVFso dcFso pmFso anFso cdFso ctFso), slFso⟩)
    (cFso : PySem.W.codeIn K cdFso "first_still_out" = true)
    (kFso : PySem.W.keepIn K (.ref fFso) = true)
    (aCho : PySem.W.nsIn K mainGlobals "choices" = some (some (.ref fCho)))
    (lCho : K.lookup fCho = some ⟨ocCho, odCho, .func (PySem.W.fnOf "choices" "choices" (defArgs sCho) (defBody sCho) (defScope sCho) .none kVCho dcCho pmCho anCho cdCho ctCho), slCho⟩)
    (cCho : PySem.W.codeIn K cdCho "choices" = true)
    (kCho : PySem.W.keepIn K (.ref fCho) = true)
    (aRow : PySem.W.nsIn K mainGlobals "rows_that_can_be" = some (some (.ref fRow)))
    (lRow : K.lookup fRow = some ⟨ocRow, odRow, .func (PySem.W.fnOf "rows_that_can_be" "rows_that_can_be" (defArgs sRow) (defBody sRow) (defScope sRow) .none kVRow dcRow pmRow anRow cdRow ctRow), slRow⟩)
    (cRow : PySem.W.codeIn K cdRow "rows_that_can_be" = true)
    (kRow : PySem.W.keepIn K (.ref fRow) = true)
    (aOne : PySem.W.nsIn K mainGlobals "row_one_by_one" = some (some (.ref fOne)))
    (lOne : K.lookup fOne = some ⟨ocOne, odOne, .func (PySem.W.fnOf "row_one_by_one" "row_one_by_one" (defArgs sOne) (defBody sOne) (defScope sOne) .none kVOne dcOne pmOne anOne cdOne ctOne), slOne⟩)
    (cOne : PySem.W.codeIn K cdOne "row_one_by_one" = true)
    (kOne : PySem.W.keepIn K (.ref fOne) = true)
    (aCos : PySem.W.nsIn K mainGlobals "cost" = some (some (.ref fCos)))
    (lCos : K.lookup fCos = some ⟨ocCos, odCos, .func (PySem.W.fnOf "cost" "cost" (defArgs sCos) (defBody sCos) (defScope sCos) .none kVCos dcCos pmCos anCos cdCos ctCos), slCos⟩)
    (cCos : PySem.W.codeIn K cdCos "cost" = true)
    (kCos : PySem.W.keepIn K (.ref fCos) = true)
    (aHin : PySem.W.nsIn K mainGlobals "hindrance" = some (some (.ref fHin)))
    (lHin : K.lookup fHin = some ⟨ocHin, odHin, .func (PySem.W.fnOf "hindrance" "hindrance" (defArgs sHin) (defBody sHin) (defScope sHin) .none kVHin dcHin pmHin anHin cdHin ctHin), slHin⟩)
    (cHin : PySem.W.codeIn K cdHin "hindrance" = true)
    (kHin : PySem.W.keepIn K (.ref fHin) = true)
    (aBes : PySem.W.nsIn K mainGlobals "best" = some (some (.ref fBes)))
    (lBes : K.lookup fBes = some ⟨ocBes, odBes, .func (PySem.W.fnOf "best" "best" (defArgs sBes) (defBody sBes) (defScope sBes) .none kVBes dcBes pmBes anBes cdBes ctBes), slBes⟩)
    (cBes : PySem.W.codeIn K cdBes "best" = true)
    (kBes : PySem.W.keepIn K (.ref fBes) = true)
    (aChk : PySem.W.nsIn K mainGlobals "check" = some (some (.ref fChk)))
    (lChk : K.lookup fChk = some ⟨ocChk, odChk, .func (PySem.W.fnOf "check" "check" (defArgs sChk) (defBody sChk) (defScope sChk) .none kVChk dcChk pmChk anChk cdChk ctChk), slChk⟩)
    (cChk : PySem.W.codeIn K cdChk "check" = true)
    (kChk : PySem.W.keepIn K (.ref fChk) = true)
    (aPla : PySem.W.nsIn K mainGlobals "plain" = some (some (.ref fPla)))
    (lPla : K.lookup fPla = some ⟨ocPla, odPla, .func (PySem.W.fnOf "plain" "plain" (defArgs sPla) (defBody sPla) (defScope sPla) .none kVPla dcPla pmPla anPla cdPla ctPla), slPla⟩)
    (cPla : PySem.W.codeIn K cdPla "plain" = true)
    (kPla : PySem.W.keepIn K (.ref fPla) = true)
    (aMor : PySem.W.nsIn K mainGlobals "more" = some (some (.ref fMor)))
    (lMor : K.lookup fMor = some ⟨ocMor, odMor, .func (PySem.W.fnOf "more" "more" (defArgs sMor) (defBody sMor) (defScope sMor) .none kVMor dcMor pmMor anMor cdMor ctMor), slMor⟩)
    (cMor : PySem.W.codeIn K cdMor "more" = true)
    (kMor : PySem.W.keepIn K (.ref fMor) = true)
    (aAns : PySem.W.nsIn K mainGlobals "answer" = some (some (.ref fAns)))
    (lAns : K.lookup fAns = some ⟨ocAns, odAns, .func (PySem.W.fnOf "answer" "answer" (defArgs sAns) (defBody sAns) (defScope sAns) .none kVAns dcAns pmAns anAns cdAns ctAns), slAns⟩)
    (cAns : PySem.W.codeIn K cdAns "answer" = true)
    (kAns : PySem.W.keepIn K (.ref fAns) = true)
    (aEnd : PySem.W.nsIn K mainGlobals "end_of_call" = some (some (.ref fEnd)))
    (lEnd : K.lookup fEnd = some ⟨ocEnd, odEnd, .func (PySem.W.fnOf "end_of_call" "end_of_call" (defArgs sEnd) (defBody sEnd) (defScope sEnd) .none kVEnd dcEnd pmEnd anEnd cdEnd ctEnd), slEnd⟩)
    (cEnd : PySem.W.codeIn K cdEnd "end_of_call" = true)
    (kEnd : PySem.W.keepIn K (.ref fEnd) = true)
    (aAll : PySem.W.nsIn K mainGlobals "answers" = some (some (.ref fAll)))
    (lAll : K.lookup fAll = some ⟨ocAll, odAll, .func (PySem.W.fnOf "answers" "answers" (defArgs sAll) (defBody sAll) (defScope sAll) .none kVAll dcAll pmAll anAll cdAll ctAll), slAll⟩)
    (cAll : PySem.W.codeIn K cdAll "answers" = true)
    (kAll : PySem.W.keepIn K (.ref fAll) = true)
    (v_NOT_AS_TOLD : PySem.W.nsIn K mainGlobals "NOT_AS_TOLD" = some (some (.int (-1) tk_NOT_AS_TOLD)))
    (v_NO_SUCH_KIND : PySem.W.nsIn K mainGlobals "NO_SUCH_KIND" = some (some (.int (-2) tk_NO_SUCH_KIND)))
    (v_NO_ROOM : PySem.W.nsIn K mainGlobals "NO_ROOM" = some (some (.int (-5) tk_NO_ROOM)))
    (v_CANNOT_BE : PySem.W.nsIn K mainGlobals "CANNOT_BE" = some (some (.int (-6) tk_CANNOT_BE)))
    (v_KINDS_AT_MOST : PySem.W.nsIn K mainGlobals "KINDS_AT_MOST" = some (some (.int (4) tk_KINDS_AT_MOST)))
    (v_COSTUMES_AT_MOST : PySem.W.nsIn K mainGlobals "COSTUMES_AT_MOST" = some (some (.int (4) tk_COSTUMES_AT_MOST)))
    (v_NEEDS_AT_MOST : PySem.W.nsIn K mainGlobals "NEEDS_AT_MOST" = some (some (.int (6) tk_NEEDS_AT_MOST)))
    (v_AWAY_AT_MOST : PySem.W.nsIn K mainGlobals "AWAY_AT_MOST" = some (some (.int (10) tk_AWAY_AT_MOST)))
    (v_HIRE_AT_MOST : PySem.W.nsIn K mainGlobals "HIRE_AT_MOST" = some (some (.int (100000) tk_HIRE_AT_MOST)))
    (v_SIZE_AT_MOST : PySem.W.nsIn K mainGlobals "SIZE_AT_MOST" = some (some (.int (1000) tk_SIZE_AT_MOST)))
    (v_GIVE_AT_MOST : PySem.W.nsIn K mainGlobals "GIVE_AT_MOST" = some (some (.int (1000) tk_GIVE_AT_MOST)))
    (v_NIGHT_AT_MOST : PySem.W.nsIn K mainGlobals "NIGHT_AT_MOST" = some (some (.int (1000) tk_NIGHT_AT_MOST)))
    (v_BEGINS : PySem.W.nsIn K mainGlobals "BEGINS" = some (some (.int (0) tk_BEGINS)))
    (v_KIND : PySem.W.nsIn K mainGlobals "KIND" = some (some (.int (1) tk_KIND)))
    (v_COSTUME : PySem.W.nsIn K mainGlobals "COSTUME" = some (some (.int (2) tk_COSTUME)))
    (v_NEED : PySem.W.nsIn K mainGlobals "NEED" = some (some (.int (3) tk_NEED)))
    (v_BEST : PySem.W.nsIn K mainGlobals "BEST" = some (some (.int (4) tk_BEST)))
    (v_CHECK : PySem.W.nsIn K mainGlobals "CHECK" = some (some (.int (5) tk_CHECK)))
    (v_PLAIN : PySem.W.nsIn K mainGlobals "PLAIN" = some (some (.int (6) tk_PLAIN)))
    (z_len : PySem.W.nsIn K mainGlobals "len" = some none)
    (z_abs : PySem.W.nsIn K mainGlobals "abs" = some none)
    (z_sum : PySem.W.nsIn K mainGlobals "sum" = some none)
    (z_min : PySem.W.nsIn K mainGlobals "min" = some none)
    (z_max : PySem.W.nsIn K mainGlobals "max" = some none)
    (z_zip : PySem.W.nsIn K mainGlobals "zip" = some none)
    (z_enumerate : PySem.W.nsIn K mainGlobals "enumerate" = some none)
    (z_range : PySem.W.nsIn K mainGlobals "range" = some none)
    (z_list : PySem.W.nsIn K mainGlobals "list" = some none)
    (anb : PySem.W.nsIn K mainGlobals "NUMBERS_BEHIND" = some (some (.ref nb)))
    (lnb : K.lookup nb = some ⟨.type "tuple", odnb, .seq its nnb, slnb⟩)
    (snb : its.size ≤ sizeLine)
    (vnb : Vals ([0, 2, 3, 3, 0, 1, 0, 3].map V.int) its.toList) :
    Txt K mg ⟨CK, CC, CN, CW, nb, fKI, PySem.W.fnOf "__init__" "Kind.__init__" (defArgs sKI) (defBody sKI) (defScope sKI) .none kVKI dcKI pmKI anKI cdKI ctKI, fCI, PySem.W.fnOf "__init__" "Costume.__init__" (defArgs sCI) (defBody sCI) (defScope sCI) .none kVCI dcCI pmCI anCI cdCI ctCI, fNI, PySem.W.fnOf "__init__" "Need.__init__" (defArgs sNI) (defBody sNI) (defScope sNI) .none kVNI dcNI pmNI anNI cdNI ctNI, fWI, PySem.W.fnOf "__init__" "Wardrobe.__init__" (defArgs sWI) (defBody sWI) (defScope sWI) .none kVWI dcWI pmWI anWI cdWI ctWI, fBeg, PySem.W.fnOf "begin" "Wardrobe.begin" (defArgs sBeg) (defBody sBeg) (defScope sBeg) .none kVBeg dcBeg pmBeg anBeg cdBeg ctBeg, fWom, PySem.W.fnOf "with_one_more" "Wardrobe.with_one_more" (defArgs sWom) (defBody sWom) (defScope sWom) .none kVWom dcWom pmWom anWom cdWom ctWom, fHir, PySem.W.fnOf "hired" "Wardrobe.hired" (defArgs sHir) (defBody sHir) (defScope sHir) .none kVHir dcHir pmHir anHir cdHir ctHir, fHas, PySem.W.fnOf "has_kind" "Wardrobe.has_kind" (defArgs sHas) (defBody sHas) (defScope sHas) .none kVHas dcHas pmHas anHas cdHas ctHas, fLas, PySem.W.fnOf "last_night" "Wardrobe.last_night" (defArgs sLas) (defBody sLas) (defScope sLas) .none kVLas dcLas pmLas anLas cdLas ctLas, fAdK, PySem.W.fnOf "add_kind" "Wardrobe.add_kind" (defArgs sAdK) (defBody sAdK) (defScope sAdK) .none kVAdK dcAdK pmAdK anAdK cdAdK ctAdK, fRef, PySem.W.fnOf "costume_refusal" "Wardrobe.costume_refusal" (defArgs sRef) (defBody sRef) (defScope sRef) .none kVRef dcRef pmRef anRef cdRef ctRef, fAdC, PySem.W.fnOf "add_costume" "Wardrobe.add_costume" (defArgs sAdC) (defBody sAdC) (defScope sAdC) .none kVAdC dcAdC pmAdC anAdC cdAdC ctAdC, fAdN, PySem.W.fnOf "add_need" "Wardrobe.add_need" (defArgs sAdN) (defBody sAdN) (defScope sAdN) .none kVAdN dcAdN pmAdN anAdN cdAdN ctAdN, fSui, PySem.W.fnOf "suits" "suits" (defArgs sSui) (defBody sSui) (defScope sSui) .none kVSui dcSui pmSui anSui cdSui ctSui, fFso, PySem.W.fnOf "first_still_out" "first_still_out" (defArgs sFso) (defBody sFso) (defScope sFso) .none kVFso dcFso pmFso anFso cdFso ctFso, fCho, PySem.W.fnOf "choices" "choices" (defArgs sCho) (defBody sCho) (defScope sCho) .none kVCho dcCho pmCho anCho cdCho ctCho, fRow, PySem.W.fnOf "rows_that_can_be" "rows_that_can_be" (defArgs sRow) (defBody sRow) (defScope sRow) .none kVRow dcRow pmRow anRow cdRow ctRow, fOne, PySem.W.fnOf "row_one_by_one" "row_one_by_one" (defArgs sOne) (defBody sOne) (defScope sOne) .none kVOne dcOne pmOne anOne cdOne ctOne, fCos, PySem.W.fnOf "cost" "cost" (defArgs sCos) (defBody sCos) (defScope sCos) .none kVCos dcCos pmCos anCos cdCos ctCos, fHin, PySem.W.fnOf "hindrance" "hindrance" (defArgs sHin) (defBody sHin) (defScope sHin) .none kVHin dcHin pmHin anHin cdHin ctHin, fBes, PySem.W.fnOf "best" "best" (defArgs sBes) (defBody sBes) (defScope sBes) .none kVBes dcBes pmBes anBes cdBes ctBes, fChk, PySem.W.fnOf "check" "check" (defArgs sChk) (defBody sChk) (defScope sChk) .none kVChk dcChk pmChk anChk cdChk ctChk, fPla, PySem.W.fnOf "plain" "plain" (defArgs sPla) (defBody sPla) (defScope sPla) .none kVPla dcPla pmPla anPla cdPla ctPla, fMor, PySem.W.fnOf "more" "more" (defArgs sMor) (defBody sMor) (defScope sMor) .none kVMor dcMor pmMor anMor cdMor ctMor, fAns, PySem.W.fnOf "answer" "answer" (defArgs sAns) (defBody sAns) (defScope sAns) .none kVAns dcAns pmAns anAns cdAns ctAns, fEnd, PySem.W.fnOf "end_of_call" "end_of_call" (defArgs sEnd) (defBody sEnd) (defScope sEnd) .none kVEnd dcEnd pmEnd anEnd cdEnd ctEnd, fAll, PySem.W.fnOf "answers" "answers" (defArgs sAll) (defBody sAll) (defScope sAll) .none kVAll dcAll pmAll anAll cdAll ctAll⟩ := by
  have FKI := fun_mk (st := sKI) lKI cKI kKI
  have FCI := fun_mk (st := sCI) lCI cCI kCI
  have FNI := fun_mk (st := sNI) lNI cNI kNI
  have FWI := fun_mk (st := sWI) lWI cWI kWI
  have FBeg := fun_mk (st := sBeg) lBeg cBeg kBeg
  have FWom := fun_mk (st := sWom) lWom cWom kWom
  have FHir := fun_mk (st := sHir) lHir cHir kHir
  have FHas := fun_mk (st := sHas) lHas cHas kHas
  have FLas := fun_mk (st := sLas) lLas cLas kLas
  have FAdK := fun_mk (st := sAdK) lAdK cAdK kAdK
  have FRef := fun_mk (st := sRef) lRef cRef kRef
  have FAdC := fun_mk (st := sAdC) lAdC cAdC kAdC
  have FAdN := fun_mk (st := sAdN) lAdN cAdN kAdN
  have FSui := fun_mk (st := sSui) lSui cSui kSui
  have FFso := fun_mk (st := sFso) lFso cFso kFso
  have FCho := fun_mk (st := sCho) lCho cCho kCho
  have FRow := fun_mk (st := sRow) lRow cRow kRow
  have FOne := fun_mk (st := sOne) lOne cOne kOne
  have FCos := fun_mk (st := sCos) lCos cCos kCos
  have FHin := fun_mk (st := sHin) lHin cHin kHin
  have FBes := fun_mk (st := sBes) lBes cBes kBes
  have FChk := fun_mk (st := sChk) lChk cChk kChk
  have FPla := fun_mk (st := sPla) lPla cPla kPla
  have FMor := fun_mk (st := sMor) lMor cMor kMor
  have FAns := fun_mk (st := sAns) lAns cAns kAns
  have FEnd := fun_mk (st := sEnd) lEnd cEnd kEnd
  have FAll := fun_mk (st := sAll) lAll cAll kAll
  have clK : Cls K CK := ⟨pgCK, hdCK, poCK, saCK⟩
  have clC : Cls K CC := ⟨pgCC, hdCC, poCC, saCC⟩
  have clN : Cls K CN := ⟨pgCN, hdCN, poCN, saCN⟩
  have clW : Cls K CW := ⟨pgCW, hdCW, poCW, saCW⟩
  exact { clK := clK
          nK_away := nK_away
          nK_hire := nK_hire
          mgK := PySem.W.mg_of X G aCK
          mkK := ⟨mkCK, aKI, iKI, kcCK⟩
          clC := clC
          nC_kind := nC_kind
          nC_size := nC_size
          nC_give := nC_give
          mgC := PySem.W.mg_of X G aCC
          mkC := ⟨mkCC, aCI, iCI, kcCC⟩
          clN := clN
          nN_night := nN_night
          nN_kind := nN_kind
          nN_size := nN_size
          mgN := PySem.W.mg_of X G aCN
          mkN := ⟨mkCN, aNI, iNI, kcCN⟩
          clW := clW
          nW_kinds := nW_kinds
          nW_costumes := nW_costumes
          nW_needs := nW_needs
          mgW := PySem.W.mg_of X G aCW
          mkW := ⟨mkCW, aWI, iWI, kcCW⟩
          FKI := FKI
          bKI := FKI.binds fun _ _ _ _ _ _ us hl => match us, hl with | [_, _, _], _ => rfl
          FCI := FCI
          bCI := FCI.binds fun _ _ _ _ _ _ us hl => match us, hl with | [_, _, _, _], _ => rfl
          FNI := FNI
          bNI := FNI.binds fun _ _ _ _ _ _ us hl => match us, hl with | [_, _, _, _], _ => rfl
          FWI := FWI
          bWI := FWI.binds fun _ _ _ _ _ _ us hl => match us, hl with | [_], _ => rfl
          FBeg := FBeg
          bBeg := FBeg.binds fun _ _ _ _ _ _ us hl => match us, hl with | [_], _ => rfl
          mBeg := ⟨aBeg, iBeg, kBeg⟩
          FWom := FWom
          bWom := FWom.binds fun _ _ _ _ _ _ us hl => match us, hl with | [_, _], _ => rfl
          mWom := ⟨aWom, iWom, kWom⟩
          FHir := FHir
          bHir := FHir.binds fun _ _ _ _ _ _ us hl => match us, hl with | [_], _ => rfl
          mHir := ⟨aHir, iHir, kHir⟩
          FHas := FHas
          bHas := FHas.binds fun _ _ _ _ _ _ us hl => match us, hl with | [_, _], _ => rfl
          mHas := ⟨aHas, iHas, kHas⟩
          FLas := FLas
          bLas := FLas.binds fun _ _ _ _ _ _ us hl => match us, hl with | [_], _ => rfl
          mLas := ⟨aLas, iLas, kLas⟩
          FAdK := FAdK
          bAdK := FAdK.binds fun _ _ _ _ _ _ us hl => match us, hl with | [_, _, _], _ => rfl
          mAdK := ⟨aAdK, iAdK, kAdK⟩
          FRef := FRef
          bRef := FRef.binds fun _ _ _ _ _ _ us hl => match us, hl with | [_, _, _, _], _ => rfl
          mRef := ⟨aRef, iRef, kRef⟩
          FAdC := FAdC
          bAdC := FAdC.binds fun _ _ _ _ _ _ us hl => match us, hl with | [_, _, _, _], _ => rfl
          mAdC := ⟨aAdC, iAdC, kAdC⟩
          FAdN := FAdN
          bAdN := FAdN.binds fun _ _ _ _ _ _ us hl => match us, hl with | [_, _, _, _], _ => rfl
          mAdN := ⟨aAdN, iAdN, kAdN⟩
          FSui := FSui
          bSui := FSui.binds fun _ _ _ _ _ _ us hl => match us, hl with | [_, _], _ => rfl
          gSui := PySem.W.mg_of X G aSui
          FFso := FFso
          bFso := FFso.binds fun _ _ _ _ _ _ us hl => match us, hl with | [_, _], _ => rfl
          gFso := PySem.W.mg_of X G aFso
          FCho := FCho
          bCho := FCho.binds fun _ _ _ _ _ _ us hl => match us, hl with | [_, _], _ => rfl
          gCho := PySem.W.mg_of X G aCho
          FRow := FRow
          bRow := FRow.binds fun _ _ _ _ _ _ us hl => match us, hl with | [_], _ => rfl
          gRow := PySem.W.mg_of X G aRow
          FOne := FOne
          bOne := FOne.binds fun _ _ _ _ _ _ us hl => match us, hl with | [_], _ => rfl
          gOne := PySem.W.mg_of X G aOne
          FCos := FCos
          bCos := FCos.binds fun _ _ _ _ _ _ us hl => match us, hl with | [_, _], _ => rfl
          gCos := PySem.W.mg_of X G aCos
          FHin := FHin
          bHin := FHin.binds fun _ _ _ _ _ _ us hl => match us, hl with | [_, _, _], _ => rfl
          gHin := PySem.W.mg_of X G aHin
          FBes := FBes
          bBes := FBes.binds fun _ _ _ _ _ _ us hl => match us, hl with | [_], _ => rfl
          gBes := PySem.W.mg_of X G aBes
          FChk := FChk
          bChk := FChk.binds fun _ _ _ _ _ _ us hl => match us, hl with | [_, _], _ => rfl
          gChk := PySem.W.mg_of X G aChk
          FPla := FPla
          bPla := FPla.binds fun _ _ _ _ _ _ us hl => match us, hl with | [_], _ => rfl
          gPla := PySem.W.mg_of X G aPla
          FMor := FMor
          bMor := FMor.binds fun _ _ _ _ _ _ us hl => match us, hl with | [_, _, _, _], _ => rfl
          gMor := PySem.W.mg_of X G aMor
          FAns := FAns
          bAns := FAns.binds fun _ _ _ _ _ _ us hl => match us, hl with | [_, _, _], _ => rfl
          gAns := PySem.W.mg_of X G aAns
          FEnd := FEnd
          bEnd := FEnd.binds fun _ _ _ _ _ _ us hl => match us, hl with | [_, _], _ => rfl
          gEnd := PySem.W.mg_of X G aEnd
          FAll := FAll
          bAll := FAll.binds fun _ _ _ _ _ _ us hl => match us, hl with | [_], _ => rfl
          gAll := PySem.W.mg_of X G aAll
          c_NOT_AS_TOLD := ⟨_, PySem.W.mg_of X G v_NOT_AS_TOLD, ⟨_, rfl⟩⟩
          c_NO_SUCH_KIND := ⟨_, PySem.W.mg_of X G v_NO_SUCH_KIND, ⟨_, rfl⟩⟩
          c_NO_ROOM := ⟨_, PySem.W.mg_of X G v_NO_ROOM, ⟨_, rfl⟩⟩
          c_CANNOT_BE := ⟨_, PySem.W.mg_of X G v_CANNOT_BE, ⟨_, rfl⟩⟩
          c_KINDS_AT_MOST := ⟨_, PySem.W.mg_of X G v_KINDS_AT_MOST, ⟨_, rfl⟩⟩
          c_COSTUMES_AT_MOST := ⟨_, PySem.W.mg_of X G v_COSTUMES_AT_MOST, ⟨_, rfl⟩⟩
          c_NEEDS_AT_MOST := ⟨_, PySem.W.mg_of X G v_NEEDS_AT_MOST, ⟨_, rfl⟩⟩
          c_AWAY_AT_MOST := ⟨_, PySem.W.mg_of X G v_AWAY_AT_MOST, ⟨_, rfl⟩⟩
          c_HIRE_AT_MOST := ⟨_, PySem.W.mg_of X G v_HIRE_AT_MOST, ⟨_, rfl⟩⟩
          c_SIZE_AT_MOST := ⟨_, PySem.W.mg_of X G v_SIZE_AT_MOST, ⟨_, rfl⟩⟩
          c_GIVE_AT_MOST := ⟨_, PySem.W.mg_of X G v_GIVE_AT_MOST, ⟨_, rfl⟩⟩
          c_NIGHT_AT_MOST := ⟨_, PySem.W.mg_of X G v_NIGHT_AT_MOST, ⟨_, rfl⟩⟩
          c_BEGINS := ⟨_, PySem.W.mg_of X G v_BEGINS, ⟨_, rfl⟩⟩
          c_KIND := ⟨_, PySem.W.mg_of X G v_KIND, ⟨_, rfl⟩⟩
          c_COSTUME := ⟨_, PySem.W.mg_of X G v_COSTUME, ⟨_, rfl⟩⟩
          c_NEED := ⟨_, PySem.W.mg_of X G v_NEED, ⟨_, rfl⟩⟩
          c_BEST := ⟨_, PySem.W.mg_of X G v_BEST, ⟨_, rfl⟩⟩
          c_CHECK := ⟨_, PySem.W.mg_of X G v_CHECK, ⟨_, rfl⟩⟩
          c_PLAIN := ⟨_, PySem.W.mg_of X G v_PLAIN, ⟨_, rfl⟩⟩
          bl_len := PySem.W.mg_none_of X G z_len
          bl_abs := PySem.W.mg_none_of X G z_abs
          bl_sum := PySem.W.mg_none_of X G z_sum
          bl_min := PySem.W.mg_none_of X G z_min
          bl_max := PySem.W.mg_none_of X G z_max
          bl_zip := PySem.W.mg_none_of X G z_zip
          bl_enumerate := PySem.W.mg_none_of X G z_enumerate
          bl_range := PySem.W.mg_none_of X G z_range
          bl_list := PySem.W.mg_none_of X G z_list
          nbm := PySem.W.mg_of X G anb
          nbt := fun H => .inr ⟨_, its, nnb, lnb, rfl, rfl, snb, vnb⟩ }
theorem all_mk {P : Program} {w : World} {K : PySem.W.Frag} {h : Heap} {mg : Str → Option Value} {fa : Addr} {CK CC CN CW nb : Addr}
    {fKI fCI fNI fWI fBeg fWom fHir fHas fLas fAdK fRef fAdC fAdN fSui fFso fCho fRow fOne fCos fHin fBes fChk fPla fMor fAns fEnd fAll : Addr}
    {odKI odCI odNI odWI odBeg odWom odHir odHas odLas odAdK odRef odAdC odAdN odSui odFso odCho odRow odOne odCos odHin odBes odChk odPla odMor odAns odEnd odAll : Option Addr}
    {anKI anCI anNI anWI anBeg anWom anHir anHas anLas anAdK anRef anAdC anAdN anSui anFso anCho anRow anOne anCos anHin anBes anChk anPla anMor anAns anEnd anAll : Option Addr}
    {slKI slCI slNI slWI slBeg slWom slHir slHas slLas slAdK slRef slAdC slAdN slSui slFso slCho slRow slOne slCos slHin slBes slChk slPla slMor slAns slEnd slAll : Array (Option Value)}
    {ocKI kVKI dcKI pmKI cdKI ctKI ocCI kVCI dcCI pmCI cdCI ctCI ocNI kVNI dcNI pmNI cdNI ctNI ocWI kVWI dcWI pmWI cdWI ctWI ocBeg kVBeg dcBeg pmBeg cdBeg ctBeg ocWom kVWom dcWom pmWom cdWom ctWom ocHir kVHir dcHir pmHir cdHir ctHir ocHas kVHas dcHas pmHas cdHas ctHas ocLas kVLas dcLas pmLas cdLas ctLas ocAdK kVAdK dcAdK pmAdK cdAdK ctAdK ocRef kVRef dcRef pmRef cdRef ctRef ocAdC kVAdC dcAdC pmAdC cdAdC ctAdC ocAdN kVAdN dcAdN pmAdN cdAdN ctAdN ocSui kVSui dcSui pmSui cdSui ctSui ocFso kVFso dcFso pmFso cdFso ctFso ocCho kVCho dcCho pmCho cdCho ctCho ocRow kVRow dcRow pmRow cdRow ctRow ocOne kVOne dcOne pmOne cdOne ctOne ocCos kVCos dcCos pmCos cdCos ctCos ocHin kVHin dcHin pmHin cdHin ctHin ocBes kVBes dcBes pmBes cdBes ctBes ocChk kVChk dcChk pmChk cdChk ctChk ocPla kVPla dcPla pmPla cdPla ctPla ocMor kVMor dcMor pmMor cdMor ctMor ocAns kVAns dcAns pmAns cdAns ctAns ocEnd kVEnd dcEnd pmEnd cdEnd ctEnd ocAll kVAll dcAll pmAll cdAll ctAll : Value}
    {tk_NOT_AS_TOLD tk_NO_SUCH_KIND tk_NO_ROOM tk_CANNOT_BE tk_KINDS_AT_MOST tk_COSTUMES_AT_MOST tk_NEEDS_AT_MOST tk_AWAY_AT_MOST tk_HIRE_AT_MOST tk_SIZE_AT_MOST tk_GIVE_AT_MOST tk_NIGHT_AT_MOST tk_BEGINS tk_KIND tk_COSTUME tk_NEED tk_BEST tk_CHECK tk_PLAIN : Tok}
    {odnb : Option Addr} {slnb : Array (Option Value)} {its : Array Value} {nnb : Nat} (X : K.In h) (G : h.Ns mainGlobals mg) (hfa : mg "answers" = some (.ref fa))
    (aCK : PySem.W.nsIn K mainGlobals "Kind" = some (some (.ref CK)))
    (pgCK : PySem.W.plainGet K CK Str.empty = true)
    (hdCK : PySem.W.hasDictIn K CK = true)
    (poCK : PySem.W.plainOver K CK = true)
    (saCK : PySem.W.findIn K (.ref CK) "__setattr__" = some (some (.builtin "object.__setattr__")))
    (mkCK : PySem.W.makesIn K CK = true)
    (kcCK : PySem.W.keepIn K (.ref CK) = true)
    (nK_away : PySem.W.findIn K (.ref CK) "away" = some none)
    (nK_hire : PySem.W.findIn K (.ref CK) "hire" = some none)
    (aCC : PySem.W.nsIn K mainGlobals "Costume" = some (some (.ref CC)))
    (pgCC : PySem.W.plainGet K CC Str.empty = true)
    (hdCC : PySem.W.hasDictIn K CC = true)
    (poCC : PySem.W.plainOver K CC = true)
    (saCC : PySem.W.findIn K (.ref CC) "__setattr__" = some (some (.builtin "object.__setattr__")))
    (mkCC : PySem.W.makesIn K CC = true)
    (kcCC : PySem.W.keepIn K (.ref CC) = true)
    (nC_kind : PySem.W.findIn K (.ref CC) "kind" = some none)
    (nC_size : PySem.W.findIn K (.ref CC) "size" = some none)
    (nC_give : PySem.W.findIn K (.ref CC) "give" = some none)
    (aCN : PySem.W.nsIn K mainGlobals "Need" = some (some (.ref CN)))
    (pgCN : PySem.W.plainGet K CN Str.empty = true)
    (hdCN : PySem.W.hasDictIn K CN = true)
    (poCN : PySem.W.plainOver K CN = true)
    (saCN : PySem.W.findIn K (.ref CN) "__setattr__" = some (some (.builtin "object.__setattr__")))
    (mkCN : PySem.W.makesIn K CN = true)
    (kcCN : PySem.W.keepIn K (.ref CN) = true)
    (nN_night : PySem.W.findIn K (.ref CN) "night" = some none)
    (nN_kind : PySem.W.findIn K (.ref CN) "kind" = some none)
    (nN_size : PySem.W.findIn K (.ref CN) "size" = some none)
    (aCW : PySem.W.nsIn K mainGlobals "Wardrobe" = some (some (.ref CW)))
    (pgCW : PySem.W.plainGet K CW Str.empty = true)
    (hdCW : PySem.W.hasDictIn K CW = true)
    (poCW : PySem.W.plainOver K CW = true)
    (saCW : PySem.W.findIn K (.ref CW) "__setattr__" = some (some (.builtin "object.__setattr__")))
    (mkCW : PySem.W.makesIn K CW = true)
    (kcCW : PySem.W.keepIn K (.ref CW) = true)
    (nW_kinds : PySem.W.findIn K (.ref CW) "kinds" = some none)
    (nW_costumes : PySem.W.findIn K (.ref CW) "costumes" = some none)
    (nW_needs : PySem.W.findIn K (.ref CW) "needs" = some none)
    (aKI : PySem.W.findIn K (.ref CK) "__init__" = some (some (.ref fKI)))
    (iKI : PySem.W.isFn K (.ref fKI) = true)
    (lKI : K.lookup fKI = some ⟨ocKI, odKI, .func (PySem.W.fnOf "__init__" "Kind.__init__" (defArgs sKI) (defBody sKI) (defScope sKI) .none kVKI dcKI pmKI anKI cdKI ctKI), slKI⟩)
    (cKI : PySem.W.codeIn K cdKI "Kind.__init__" = true)
    (kKI : PySem.W.keepIn K (.ref fKI) = true)
    (aCI : PySem.W.findIn K (.ref CC) "__init__" = some (some (.ref fCI)))
    (iCI : PySem.W.isFn K (.ref fCI) = true)
    (lCI : K.lookup fCI = some ⟨ocCI, odCI, .func (PySem.W.fnOf "__init__" "Costume.__init__" (defArgs sCI) (defBody sCI) (defScope sCI) .none kVCI dcCI pmCI anCI cdCI ctCI), slCI⟩)
    (cCI : PySem.W.codeIn K cdCI "Costume.__init__" = true)
    (kCI : PySem.W.keepIn K (.ref fCI) = true)
    (aNI : PySem.W.findIn K (.ref CN) "__init__" = some (some (.ref fNI)))
    (iNI : PySem.W.isFn K (.ref fNI) = true)
    (lNI : K.lookup fNI = some ⟨ocNI, odNI, .func (PySem.W.fnOf "__init__" "Need.__init__" (defArgs sNI) (defBody sNI) (defScope sNI) .none kVNI dcNI pmNI anNI cdNI ctNI), slNI⟩)
    (cNI : PySem.W.codeIn K cdNI "Need.__init__" = true)
    (kNI : PySem.W.keepIn K (.ref fNI) = true)
    (aWI : PySem.W.findIn K (.ref CW) "__init__" = some (some (.ref fWI)))
    (iWI : PySem.W.isFn K (.ref fWI) = true)
    (lWI : K.lookup fWI = some ⟨ocWI, odWI, .func (PySem.W.fnOf "__init__" "Wardrobe.__init__" (defArgs sWI) (defBody sWI) (defScope sWI) .none kVWI dcWI pmWI anWI cdWI ctWI), slWI⟩)
    (cWI : PySem.W.codeIn K cdWI "Wardrobe.__init__" = true)
    (kWI : PySem.W.keepIn K (.ref fWI) = true)
    (aBeg : PySem.W.findIn K (.ref CW) "begin" = some (some (.ref fBeg)))
    (iBeg : PySem.W.isFn K (.ref fBeg) = true)
    (lBeg : K.lookup fBeg = some ⟨ocBeg, odBeg, .func (PySem.W.fnOf "begin" "Wardrobe.begin" (defArgs sBeg) (defBody sBeg) (defScope sBeg) .none kVBeg dcBeg pmBeg anBeg cdBeg ctBeg), slBeg⟩)
    (cBeg : PySem.W.codeIn K cdBeg "Wardrobe.begin" = true)
    (kBeg : PySem.W.keepIn K (.ref fBeg) = true)
    (aWom : PySem.W.findIn K (.ref CW) "with_one_more" = some (some (.ref fWom)))
    (iWom : PySem.W.isFn K (.ref fWom) = true)
    (lWom : K.lookup fWom = some ⟨ocWom, odWom, .func (PySem.W.fnOf "with_one_more" "Wardrobe.with_one_more" (defArgs sWom) (defBody sWom) (defScope sWom) .none kVWom dcWom pmWom anWom cdWom ctWom), slWom⟩)
    (cWom : PySem.W.codeIn K cdWom "Wardrobe.with_one_more" = true)
    (kWom : PySem.W.keepIn K (.ref fWom) = true)
    (aHir : PySem.W.findIn K (.ref CW) "hired" = some (some (.ref fHir)))
    (iHir : PySem.W.isFn K (.ref fHir) = true)
    (lHir : K.lookup fHir = some ⟨ocHir, odHir, .func (PySem.W.fnOf "hired" "Wardrobe.hired" (defArgs sHir) (defBody sHir) (defScope sHir) .none kVHir dcHir pmHir anHir cdHir ctHir), slHir⟩)
    (cHir : PySem.W.codeIn K cdHir "Wardrobe.hired" = true)
    (kHir : PySem.W.keepIn K (.ref fHir) = true)
    (aHas : PySem.W.findIn K (.ref CW) "has_kind" = some (some (.ref fHas)))
    (iHas : PySem.W.isFn K (.ref fHas) = true)
    (lHas : K.lookup fHas = some ⟨ocHas, odHas, .func (PySem.W.fnOf "has_kind" "Wardrobe.has_kind" (defArgs sHas) (defBody sHas) (defScope sHas) .none kVHas dcHas pmHas anHas cdHas ctHas), slHas⟩)
    (cHas : PySem.W.codeIn K cdHas "Wardrobe.has_kind" = true)
    (kHas : PySem.W.keepIn K (.ref fHas) = true)
    (aLas : PySem.W.findIn K (.ref CW) "last_night" = some (some (.ref fLas)))
    (iLas : PySem.W.isFn K (.ref fLas) = true)
    (lLas : K.lookup fLas = some ⟨ocLas, odLas, .func (PySem.W.fnOf "last_night" "Wardrobe.last_night" (defArgs sLas) (defBody sLas) (defScope sLas) .none kVLas dcLas pmLas anLas cdLas ctLas), slLas⟩)
    (cLas : PySem.W.codeIn K cdLas "Wardrobe.last_night" = true)
    (kLas : PySem.W.keepIn K (.ref fLas) = true)
    (aAdK : PySem.W.findIn K (.ref CW) "add_kind" = some (some (.ref fAdK)))
    (iAdK : PySem.W.isFn K (.ref fAdK) = true)
    (lAdK : K.lookup fAdK = some ⟨ocAdK, odAdK, .func (PySem.W.fnOf "add_kind" "Wardrobe.add_kind" (defArgs sAdK) (defBody sAdK) (defScope sAdK) .none kVAdK dcAdK pmAdK anAdK cdAdK ctAdK), slAdK⟩)
    (cAdK : PySem.W.codeIn K cdAdK "Wardrobe.add_kind" = true)
    (kAdK : PySem.W.keepIn K (.ref fAdK) = true)
    (aRef : PySem.W.findIn K (.ref CW) "costume_refusal" = some (some (.ref fRef)))
    (iRef : PySem.W.isFn K (.ref fRef) = true)
    (lRef : K.lookup fRef = some ⟨ocRef, odRef, .func (PySem.W.fnOf "costume_refusal" "Wardrobe.costume_refusal" (defArgs sRef) (defBody sRef) (defScope sRef) .none kVRef dcRef pmRef anRef cdRef ctRef), slRef⟩)
    (cRef : PySem.W.codeIn K cdRef "Wardrobe.costume_refusal" = true)
    (kRef : PySem.W.keepIn K (.ref fRef) = true)
    (aAdC : PySem.W.findIn K (.ref CW) "add_costume" = some (some (.ref fAdC)))
    (iAdC : PySem.W.isFn K (.ref fAdC) = true)
    (lAdC : K.lookup fAdC = some ⟨ocAdC, odAdC, .func (PySem.W.fnOf "add_costume" "Wardrobe.add_costume" (defArgs sAdC) (defBody sAdC) (defScope sAdC) .none kVAdC dcAdC pmAdC anAdC cdAdC ctAdC), slAdC⟩)
    (cAdC : PySem.W.codeIn K cdAdC "Wardrobe.add_costume" = true)
    (kAdC : PySem.W.keepIn K (.ref fAdC) = true)
    (aAdN : PySem.W.findIn K (.ref CW) "add_need" = some (some (.ref fAdN)))
    (iAdN : PySem.W.isFn K (.ref fAdN) = true)
    (lAdN : K.lookup fAdN = some ⟨ocAdN, odAdN, .func (PySem.W.fnOf "add_need" "Wardrobe.add_need" (defArgs sAdN) (defBody sAdN) (defScope sAdN) .none kVAdN dcAdN pmAdN anAdN cdAdN ctAdN), slAdN⟩)
    (cAdN : PySem.W.codeIn K cdAdN "Wardrobe.add_need" = true)
    (kAdN : PySem.W.keepIn K (.ref fAdN) = true)
    (aSui : PySem.W.nsIn K mainGlobals "suits" = some (some (.ref fSui)))
    (lSui : K.lookup fSui = some ⟨ocSui, odSui, .func (PySem.W.fnOf "suits" "suits" (defArgs sSui) (defBody sSui) (defScope sSui) .none kVSui dcSui pmSui anSui cdSui ctSui), slSui⟩)
    (cSui : PySem.W.codeIn K cdSui "suits" = true)
    (kSui : PySem.W.keepIn K (.ref fSui) = true)
    (aFso : PySem.W.nsIn K mainGlobals "first_still_out" = some (some (.ref fFso)))
    (lFso : K.lookup fFso = some ⟨ocFso, odFso, .func (PySem.W.fnOf "first_still_out" "first_still_out" (defArgs sFso) (defBody sFso) (defScope sFso) .none kVFso dcFso pmFso anFso cdFso ctFso), slFso⟩)
    (cFso : PySem.W.codeIn K cdFso "first_still_out" = true)
    (kFso : PySem.W.keepIn K (.ref fFso) = true)
    (aCho : PySem.W.nsIn K mainGlobals "choices" = some (some (.ref fCho)))
    (lCho : K.lookup fCho = some ⟨ocCho, odCho, .func (PySem.W.fnOf "choices" "choices" (defArgs sCho) (defBody sCho) (defScope sCho) .none kVCho dcCho pmCho anCho cdCho ctCho), slCho⟩)
    (cCho : PySem.W.codeIn K cdCho "choices" = true)
    (kCho : PySem.W.keepIn K (.ref fCho) = true)
    (aRow : PySem.W.nsIn K mainGlobals "rows_that_can_be" = some (some (.ref fRow)))
    (lRow : K.lookup fRow = some ⟨ocRow, odRow, .func (PySem.W.fnOf "rows_that_can_be" "rows_that_can_be" (defArgs sRow) (defBody sRow) (defScope sRow) .none kVRow dcRow pmRow anRow cdRow ctRow), slRow⟩)
    (cRow : PySem.W.codeIn K cdRow "rows_that_can_be" = true)
    (kRow : PySem.W.keepIn K (.ref fRow) = true)
    (aOne : PySem.W.nsIn K mainGlobals "row_one_by_one" = some (some (.ref fOne)))
    (lOne : K.lookup fOne = some ⟨ocOne, odOne, .func (PySem.W.fnOf "row_one_by_one" "row_one_by_one" (defArgs sOne) (defBody sOne) (defScope sOne) .none kVOne dcOne pmOne anOne cdOne ctOne), slOne⟩)
    (cOne : PySem.W.codeIn K cdOne "row_one_by_one" = true)
    (kOne : PySem.W.keepIn K (.ref fOne) = true)
    (aCos : PySem.W.nsIn K mainGlobals "cost" = some (some (.ref fCos)))
    (lCos : K.lookup fCos = some ⟨ocCos, odCos, .func (PySem.W.fnOf "cost" "cost" (defArgs sCos) (defBody sCos) (defScope sCos) .none kVCos dcCos pmCos anCos cdCos ctCos), slCos⟩)
    (cCos : PySem.W.codeIn K cdCos "cost" = true)
    (kCos : PySem.W.keepIn K (.ref fCos) = true)
    (aHin : PySem.W.nsIn K mainGlobals "hindrance" = some (some (.ref fHin)))
    (lHin : K.lookup fHin = some ⟨ocHin, odHin, .func (PySem.W.fnOf "hindrance" "hindrance" (defArgs sHin) (defBody sHin) (defScope sHin) .none kVHin dcHin pmHin anHin cdHin ctHin), slHin⟩)
    (cHin : PySem.W.codeIn K cdHin "hindrance" = true)
    (kHin : PySem.W.keepIn K (.ref fHin) = true)
    (aBes : PySem.W.nsIn K mainGlobals "best" = some (some (.ref fBes)))
    (lBes : K.lookup fBes = some ⟨ocBes, odBes, .func (PySem.W.fnOf "best" "best" (defArgs sBes) (defBody sBes) (defScope sBes) .none kVBes dcBes pmBes anBes cdBes ctBes), slBes⟩)
    (cBes : PySem.W.codeIn K cdBes "best" = true)
    (kBes : PySem.W.keepIn K (.ref fBes) = true)
    (aChk : PySem.W.nsIn K mainGlobals "check" = some (some (.ref fChk)))
    (lChk : K.lookup fChk = some ⟨ocChk, odChk, .func (PySem.W.fnOf "check" "check" (defArgs sChk) (defBody sChk) (defScope sChk) .none kVChk dcChk pmChk anChk cdChk ctChk), slChk⟩)
    (cChk : PySem.W.codeIn K cdChk "check" = true)
    (kChk : PySem.W.keepIn K (.ref fChk) = true)
    (aPla : PySem.W.nsIn K mainGlobals "plain" = some (some (.ref fPla)))
    (lPla : K.lookup fPla = some ⟨ocPla, odPla, .func (PySem.W.fnOf "plain" "plain" (defArgs sPla) (defBody sPla) (defScope sPla) .none kVPla dcPla pmPla anPla cdPla ctPla), slPla⟩)
    (cPla : PySem.W.codeIn K cdPla "plain" = true)
    (kPla : PySem.W.keepIn K (.ref fPla) = true)
    (aMor : PySem.W.nsIn K mainGlobals "more" = some (some (.ref fMor)))
    (lMor : K.lookup fMor = some ⟨ocMor, odMor, .func (PySem.W.fnOf "more" "more" (defArgs sMor) (defBody sMor) (defScope sMor) .none kVMor dcMor pmMor anMor cdMor ctMor), slMor⟩)
    (cMor : PySem.W.codeIn K cdMor "more" = true)
    (kMor : PySem.W.keepIn K (.ref fMor) = true)
    (aAns : PySem.W.nsIn K mainGlobals "answer" = some (some (.ref fAns)))
    (lAns : K.lookup fAns = some ⟨ocAns, odAns, .func (PySem.W.fnOf "answer" "answer" (defArgs sAns) (defBody sAns) (defScope sAns) .none kVAns dcAns pmAns anAns cdAns ctAns), slAns⟩)
    (cAns : PySem.W.codeIn K cdAns "answer" = true)
    (kAns : PySem.W.keepIn K (.ref fAns) = true)
    (aEnd : PySem.W.nsIn K mainGlobals "end_of_call" = some (some (.ref fEnd)))
    (lEnd : K.lookup fEnd = some ⟨ocEnd, odEnd, .func (PySem.W.fnOf "end_of_call" "end_of_call" (defArgs sEnd) (defBody sEnd) (defScope sEnd) .none kVEnd dcEnd pmEnd anEnd cdEnd ctEnd), slEnd⟩)
    (cEnd : PySem.W.codeIn K cdEnd "end_of_call" = true)
    (kEnd : PySem.W.keepIn K (.ref fEnd) = true)
    (aAll : PySem.W.nsIn K mainGlobals "answers" = some (some (.ref fAll)))
    (lAll : K.lookup fAll = some ⟨ocAll, odAll, .func (PySem.W.fnOf "answers" "answers" (defArgs sAll) (defBody sAll) (defScope sAll) .none kVAll dcAll pmAll anAll cdAll ctAll), slAll⟩)
    (cAll : PySem.W.codeIn K cdAll "answers" = true)
    (kAll : PySem.W.keepIn K (.ref fAll) = true)
    (v_NOT_AS_TOLD : PySem.W.nsIn K mainGlobals "NOT_AS_TOLD" = some (some (.int (-1) tk_NOT_AS_TOLD)))
    (v_NO_SUCH_KIND : PySem.W.nsIn K mainGlobals "NO_SUCH_KIND" = some (some (.int (-2) tk_NO_SUCH_KIND)))
    (v_NO_ROOM : PySem.W.nsIn K mainGlobals "NO_ROOM" = some (some (.int (-5) tk_NO_ROOM)))
    (v_CANNOT_BE : PySem.W.nsIn K mainGlobals "CANNOT_BE" = some (some (.int (-6) tk_CANNOT_BE)))
    (v_KINDS_AT_MOST : PySem.W.nsIn K mainGlobals "KINDS_AT_MOST" = some (some (.int (4) tk_KINDS_AT_MOST)))
    (v_COSTUMES_AT_MOST : PySem.W.nsIn K mainGlobals "COSTUMES_AT_MOST" = some (some (.int (4) tk_COSTUMES_AT_MOST)))
    (v_NEEDS_AT_MOST : PySem.W.nsIn K mainGlobals "NEEDS_AT_MOST" = some (some (.int (6) tk_NEEDS_AT_MOST)))
    (v_AWAY_AT_MOST : PySem.W.nsIn K mainGlobals "AWAY_AT_MOST" = some (some (.int (10) tk_AWAY_AT_MOST)))
    (v_HIRE_AT_MOST : PySem.W.nsIn K mainGlobals "HIRE_AT_MOST" = some (some (.int (100000) tk_HIRE_AT_MOST)))
    (v_SIZE_AT_MOST : PySem.W.nsIn K mainGlobals "SIZE_AT_MOST" = some (some (.int (1000) tk_SIZE_AT_MOST)))
    (v_GIVE_AT_MOST : PySem.W.nsIn K mainGlobals "GIVE_AT_MOST" = some (some (.int (1000) tk_GIVE_AT_MOST)))
    (v_NIGHT_AT_MOST : PySem.W.nsIn K mainGlobals "NIGHT_AT_MOST" = some (some (.int (1000) tk_NIGHT_AT_MOST)))
    (v_BEGINS : PySem.W.nsIn K mainGlobals "BEGINS" = some (some (.int (0) tk_BEGINS)))
    (v_KIND : PySem.W.nsIn K mainGlobals "KIND" = some (some (.int (1) tk_KIND)))
    (v_COSTUME : PySem.W.nsIn K mainGlobals "COSTUME" = some (some (.int (2) tk_COSTUME)))
    (v_NEED : PySem.W.nsIn K mainGlobals "NEED" = some (some (.int (3) tk_NEED)))
    (v_BEST : PySem.W.nsIn K mainGlobals "BEST" = some (some (.int (4) tk_BEST)))
    (v_CHECK : PySem.W.nsIn K mainGlobals "CHECK" = some (some (.int (5) tk_CHECK)))
    (v_PLAIN : PySem.W.nsIn K mainGlobals "PLAIN" = some (some (.int (6) tk_PLAIN)))
    (z_len : PySem.W.nsIn K mainGlobals "len" = some none)
    (z_abs : PySem.W.nsIn K mainGlobals "abs" = some none)
    (z_sum : PySem.W.nsIn K mainGlobals "sum" = some none)
    (z_min : PySem.W.nsIn K mainGlobals "min" = some none)
    (z_max : PySem.W.nsIn K mainGlobals "max" = some none)
    (z_zip : PySem.W.nsIn K mainGlobals "zip" = some none)
    (z_enumerate : PySem.W.nsIn K mainGlobals "enumerate" = some none)
    (z_range : PySem.W.nsIn K mainGlobals "range" = some none)
    (z_list : PySem.W.nsIn K mainGlobals "list" = some none)
    (anb : PySem.W.nsIn K mainGlobals "NUMBERS_BEHIND" = some (some (.ref nb)))
    (lnb : K.lookup nb = some ⟨.type "tuple", odnb, .seq its nnb, slnb⟩)
    (snb : its.size ≤ sizeLine)
    (vnb : Vals ([0, 2, 3, 3, 0, 1, 0, 3].map V.int) its.toList) :
    ∃ fd : FuncData, (∀ (s : Shared) (us : List Value), us.length = (["calls"] : List Str).length → BindsTo s fd ⟨us, []⟩ ((["calls"] : List Str).zip us)) ∧ ∀ base : Heap, K.In base → base.Ns mainGlobals mg → FnOk P w K mg base CX0 7 fa fd ["calls"] (spAll K) := by
  have e := hfa.symm.trans (PySem.W.mg_of X G aAll)
  cases e
  have T := txt_mk X G aCK pgCK hdCK poCK saCK mkCK kcCK nK_away nK_hire aCC pgCC hdCC poCC saCC mkCC kcCC nC_kind nC_size nC_give aCN pgCN hdCN poCN saCN mkCN kcCN nN_night nN_kind nN_size aCW pgCW hdCW poCW saCW mkCW kcCW nW_kinds nW_costumes nW_needs aKI iKI lKI cKI kKI aCI iCI lCI cCI kCI aNI iNI lNI cNI kNI aWI iWI lWI cWI kWI aBeg iBeg lBeg cBeg kBeg aWom iWom lWom cWom kWom aHir iHir lHir cHir kHir aHas iHas lHas cHas kHas aLas iLas lLas cLas kLas aAdK iAdK lAdK cAdK kAdK aRef iRef lRef cRef kRef aAdC iAdC lAdC cAdC kAdC aAdN iAdN lAdN cAdN kAdN aSui lSui cSui kSui aFso lFso cFso kFso aCho lCho cCho kCho aRow lRow cRow kRow aOne lOne cOne kOne aCos lCos cCos kCos aHin lHin cHin kHin aBes lBes cBes kBes aChk lChk cChk kChk aPla lPla cPla kPla aMor lMor cMor kMor aAns lAns cAns kAns aEnd lEnd cEnd kEnd aAll lAll cAll kAll v_NOT_AS_TOLD v_NO_SUCH_KIND v_NO_ROOM v_CANNOT_BE v_KINDS_AT_MOST v_COSTUMES_AT_MOST v_NEEDS_AT_MOST v_AWAY_AT_MOST v_HIRE_AT_MOST v_SIZE_AT_MOST v_GIVE_AT_MOST v_NIGHT_AT_MOST v_BEGINS v_KIND v_COSTUME v_NEED v_BEST v_CHECK v_PLAIN z_len z_abs z_sum z_min z_max z_zip z_enumerate z_range z_list anb lnb snb vnb
  exact ⟨PySem.W.fnOf "answers" "answers" (defArgs sAll) (defBody sAll) (defScope sAll) .none kVAll dcAll pmAll anAll cdAll ctAll, fun s us hu => match us, hu with | [_], _ => .of_eq rfl, fun base _ _ => ok_All T⟩
end WP
end
open PySem PySem.W PyProof.Rows
set_option maxRecDepth 100000 in
set_option maxHeartbeats 0 in
theorem PySem.Challenge.cw_wardrobes_s01_answers_holds : PySem.Challenge.rw_wardrobes_s01_answers.Holds := by
  w_on; k_headS; (case hw => exact ⟨[.list [.int 0]], by decide +kernel, by decide +kernel⟩)
  k_fillS
  refine L2.walk_specK (r := PySem.Challenge.rw_wardrobes_s01_answers) (k := 7) (CX := L2.CX0) (ps := ["calls"]) (sp := WP.spAll) (by decide +kernel) rfl rfl ⟨rfl, by decide, by decide⟩ (fun w h Y => PySem.W.kIn_of Y) ?F ?S (fun _ _ _ _ z => z)
  case F =>
    intro w mg fa h Y KX G hmg
    refine' WP.all_mk KX G hmg ?aCK ?pgCK ?hdCK ?poCK ?saCK ?mkCK ?kcCK ?nK_away ?nK_hire ?aCC ?pgCC ?hdCC ?poCC ?saCC ?mkCC ?kcCC ?nC_kind ?nC_size ?nC_give ?aCN ?pgCN ?hdCN ?poCN ?saCN ?mkCN ?kcCN ?nN_night ?nN_kind ?nN_size ?aCW ?pgCW ?hdCW ?poCW ?saCW ?mkCW ?kcCW ?nW_kinds ?nW_costumes ?nW_needs ?aKI ?iKI ?lKI ?cKI ?kKI ?aCI ?iCI ?lCI ?cCI ?kCI ?aNI ?iNI ?lNI ?cNI ?kNI ?aWI ?iWI ?lWI ?cWI ?kWI ?aBeg ?iBeg ?lBeg ?cBeg ?kBeg ?aWom ?iWom ?lWom ?cWom ?kWom ?aHir ?iHir ?lHir ?cHir ?kHir ?aHas ?iHas ?lHas ?cHas ?kHas ?aLas ?iLas ?lLas ?cLas ?kLas ?aAdK ?iAdK ?lAdK ?cAdK ?kAdK ?aRef ?iRef ?lRef ?cRef ?kRef ?aAdC ?iAdC ?lAdC ?cAdC ?kAdC ?aAdN ?iAdN ?lAdN ?cAdN ?kAdN ?aSui ?lSui ?cSui ?kSui ?aFso ?lFso ?cFso ?kFso ?aCho ?lCho ?cCho ?kCho ?aRow ?lRow ?cRow ?kRow ?aOne ?lOne ?cOne ?kOne ?aCos ?lCos ?cCos ?kCos ?aHin ?lHin ?cHin ?kHin ?aBes ?lBes ?cBes ?kBes ?aChk ?lChk ?cChk ?kChk ?aPla ?lPla ?cPla ?kPla ?aMor ?lMor ?cMor ?kMor ?aAns ?lAns ?cAns ?kAns ?aEnd ?lEnd ?cEnd ?kEnd ?aAll ?lAll ?cAll ?kAll ?v_NOT_AS_TOLD ?v_NO_SUCH_KIND ?v_NO_ROOM ?v_CANNOT_BE ?v_KINDS_AT_MOST ?v_COSTUMES_AT_MOST ?v_NEEDS_AT_MOST ?v_AWAY_AT_MOST ?v_HIRE_AT_MOST ?v_SIZE_AT_MOST ?v_GIVE_AT_MOST ?v_NIGHT_AT_MOST ?v_BEGINS ?v_KIND ?v_COSTUME ?v_NEED ?v_BEST ?v_CHECK ?v_PLAIN ?z_len ?z_abs ?z_sum ?z_min ?z_max ?z_zip ?z_enumerate ?z_range ?z_list ?anb ?lnb ?snb ?vnb
    (case aCK => k_is); (case pgCK => k_is); (case hdCK => k_is); (case poCK => k_is); (case saCK => k_is); (case mkCK => k_is)
    (case kcCK => k_is); (case nK_away => k_is); (case nK_hire => k_is); (case aCC => k_is); (case pgCC => k_is); (case hdCC => k_is)
    (case poCC => k_is); (case saCC => k_is); (case mkCC => k_is); (case kcCC => k_is); (case nC_kind => k_is); (case nC_size => k_is)
    (case nC_give => k_is); (case aCN => k_is); (case pgCN => k_is); (case hdCN => k_is); (case poCN => k_is); (case saCN => k_is)
    (case mkCN => k_is); (case kcCN => k_is); (case nN_night => k_is); (case nN_kind => k_is); (case nN_size => k_is); (case aCW => k_is)
    (case pgCW => k_is); (case hdCW => k_is); (case poCW => k_is); (case saCW => k_is); (case mkCW => k_is); (case kcCW => k_is)
    (case nW_kinds => k_is); (case nW_costumes => k_is); (case nW_needs => k_is); (case aKI => k_is); (case iKI => k_is); (case lKI => k_is)
    (case cKI => k_is); (case kKI => k_is); (case aCI => k_is); (case iCI => k_is); (case lCI => k_is); (case cCI => k_is)
    (case kCI => k_is); (case aNI => k_is); (case iNI => k_is); (case lNI => k_is); (case cNI => k_is); (case kNI => k_is)
    (case aWI => k_is); (case iWI => k_is); (case lWI => k_is); (case cWI => k_is); (case kWI => k_is); (case aBeg => k_is)
    (case iBeg => k_is); (case lBeg => k_is); (case cBeg => k_is); (case kBeg => k_is); (case aWom => k_is); (case iWom => k_is)
    (case lWom => k_is); (case cWom => k_is); (case kWom => k_is); (case aHir => k_is); (case iHir => k_is); (case lHir => k_is)
    (case cHir => k_is); (case kHir => k_is); (case aHas => k_is); (case iHas => k_is); (case lHas => k_is); (case cHas => k_is)
    (case kHas => k_is); (case aLas => k_is); (case iLas => k_is); (case lLas => k_is); (case cLas => k_is); (case kLas => k_is)
    (case aAdK => k_is); (case iAdK => k_is); (case lAdK => k_is); (case cAdK => k_is); (case kAdK => k_is); (case aRef => k_is)
    (case iRef => k_is); (case lRef => k_is); (case cRef => k_is); (case kRef => k_is); (case aAdC => k_is); (case iAdC => k_is)
    (case lAdC => k_is); (case cAdC => k_is); (case kAdC => k_is); (case aAdN => k_is); (case iAdN => k_is); (case lAdN => k_is)
    (case cAdN => k_is); (case kAdN => k_is); (case aSui => k_is); (case lSui => k_is); (case cSui => k_is); (case kSui => k_is)
    (case aFso => k_is); (case lFso => k_is); (case cFso => k_is); (case kFso => k_is); (case aCho => k_is); (case lCho => k_is)
    (case cCho => k_is); (case kCho => k_is); (case aRow => k_is); (case lRow => k_is); (case cRow => k_is); (case kRow => k_is)
    (case aOne => k_is); (case lOne => k_is); (case cOne => k_is); (case kOne => k_is); (case aCos => k_is); (case lCos => k_is)
    (case cCos => k_is); (case kCos => k_is); (case aHin => k_is); (case lHin => k_is); (case cHin => k_is); (case kHin => k_is)
    (case aBes => k_is); (case lBes => k_is); (case cBes => k_is); (case kBes => k_is); (case aChk => k_is); (case lChk => k_is)
    (case cChk => k_is); (case kChk => k_is); (case aPla => k_is); (case lPla => k_is); (case cPla => k_is); (case kPla => k_is)
    (case aMor => k_is); (case lMor => k_is); (case cMor => k_is); (case kMor => k_is); (case aAns => k_is); (case lAns => k_is)
    (case cAns => k_is); (case kAns => k_is); (case aEnd => k_is); (case lEnd => k_is); (case cEnd => k_is); (case kEnd => k_is)
    (case aAll => k_is); (case lAll => k_is); (case cAll => k_is); (case kAll => k_is); (case v_NOT_AS_TOLD => k_is); (case v_NO_SUCH_KIND => k_is)
    (case v_NO_ROOM => k_is); (case v_CANNOT_BE => k_is); (case v_KINDS_AT_MOST => k_is); (case v_COSTUMES_AT_MOST => k_is); (case v_NEEDS_AT_MOST => k_is); (case v_AWAY_AT_MOST => k_is)
    (case v_HIRE_AT_MOST => k_is); (case v_SIZE_AT_MOST => k_is); (case v_GIVE_AT_MOST => k_is); (case v_NIGHT_AT_MOST => k_is); (case v_BEGINS => k_is); (case v_KIND => k_is)
    (case v_COSTUME => k_is); (case v_NEED => k_is); (case v_BEST => k_is); (case v_CHECK => k_is); (case v_PLAIN => k_is); (case z_len => k_is)
    (case z_abs => k_is); (case z_sum => k_is); (case z_min => k_is); (case z_max => k_is); (case z_zip => k_is); (case z_enumerate => k_is)
    (case z_range => k_is); (case z_list => k_is); (case anb => k_is); (case lnb => k_is)
    (case snb => exact Nat.le_trans (show 8 ≤ 1048576 by decide) (by decide))
    (case vnb => exact .cons ⟨_, rfl⟩ (.cons ⟨_, rfl⟩ (.cons ⟨_, rfl⟩ (.cons ⟨_, rfl⟩ (.cons ⟨_, rfl⟩ (.cons ⟨_, rfl⟩ (.cons ⟨_, rfl⟩ (.cons ⟨_, rfl⟩ (.nil)))))))))
  case S =>
    intro K H xs a hO hwi hask hx
    cases hx with
    | cons h1 h2 =>
      cases h2
      cases h1 with
      | lst hs ha =>
        have e := L2.ints_dw a.1 _ ha
        subst e
        have q : ((Codec.inLen 0 30000 a.1 && a.1.all (Codec.inInt 0 4294967295)) && true) = true := hwi
        rw [Bool.and_eq_true, Bool.and_eq_true] at q
        exact ⟨_, a.1, rfl, hs, (Codec.inNat_iff.mp q.1.1).2, hask, fun H' p hp => .lst (L2.SqL.of hp) (L2.dw_ints _)⟩
#print axioms PySem.Challenge.cw_wardrobes_s01_answers_holds
